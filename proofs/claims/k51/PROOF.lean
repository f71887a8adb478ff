import PyProof.Rows.All
import Wide.All
import OpenK.AllK
import Wide.FinOn
import HandS.ForMost
import HandS.ForExc
import PyProof.ReprRoads
import PyProof.ReprLen
import HandS.Dict
import HandS.ExcInit
import PyProof.StrBlock2
import HandS.IsInst
import HandS.Codes
import HandS.StrMore
import HandS.TupMul
import HandS.Style
import HandS.TupAny
import HandS.Zip
import KE.GoesEnum
import KE.KExcSuper
import KE.KExcMake
import HandS.ExcValue
import HandS.ExcIs
import KE.KExcIs
import HandS.ExcField
import HandS.TryMany
import HandS.TryOnly
import HandS.Base
import HandS.More
import HandS.CallLocal
import PyProof.DictStraight
import HandS.Walk
import KE.KIntText
import HandS.StrSplit
import HandS.ReplaceList
import HandS.Steps
import HandS.RaiseMore
import HandS.Text
import KE.KDictOf
import PyProof.StrLoop
import PyProof.StrWalks
import HandS.Deep
import PyProof.Rows.StrRev
import HandS.OwnEq
import HandS.Call
import HandS.List
import HandS.Comp
import HandS.Set
import HandS.SetKeys
import HandS.SetBool
import HandS.SortOrd
import HandS.SortInts
import PyProof.Rows.SortStr
import HandS.DictTup
import HandS.NoneIn
import PySem.Challenge.RW_everypiece_k51_whole_edits_as_texts
set_option Elab.async false
set_option linter.all false
set_option maxRecDepth 100000
set_option maxHeartbeats 4000000
/-! repr of nested data that the law has made. -/
namespace Ev
open PySem PySem.Spec PyProof.Rows L2

/-- a display of a list; its place is not the table of modules -/
def tLstN (t : TA) : TE := fun σ H Q => t σ H fun xs H1 => xs.length ≤ sizeLine ∧ ∀ p, H1 p = none → p ≠ sysModules → Q (.ref p) (upd H1 p (.lst xs))
theorem pe_lstN {X : Cx} {es : List Expr} {pos : Pos} {t : TA} (h : PA X es t) : PE X (.List es pos) (tLstN t) := by
  refine ⟨fun pins s σ H Q I hq => ?_⟩
  refine wpAny_List_spliced (thn (h.run pos pins s σ H _ I hq) fun us s1 hh => ?_)
  obtain ⟨xs, H1, I1, r, z, q⟩ := hh
  have hf : H1 s1.heap.objs.size = none := I1.hok.fresh (Nat.le_refl _)
  refine ⟨by rw [← r.length]; exact z, .ref s1.heap.objs.size, upd H1 s1.heap.objs.size (.lst xs), I1.laid (t' := s1.toks) (o := .lst xs) (fun b u e => Heap.get?_push_of_some _ e) (Nat.le_refl _) ⟨z, us, 0, r, Heap.get?_push_size _ rfl⟩, rfl, q _ hf (Ne.symm (Nat.ne_of_lt I1.big))⟩

/-- the datum d is told by v -/
inductive Dt (H : Hp) : V → PyData → Prop
  | non : Dt H .non .none
  | bl (b : Bool) : Dt H (.bl b) (.bool b)
  | int (i : Int) : Dt H (.int i) (.int i)
  | str (x : Str) : Dt H (.str x) (.str x)
  | dic {a : Addr} : H a = some (.dK []) → Dt H (.ref a) (.dict [])
  | l0 {a : Addr} : H a = some (.lst []) → a ≠ sysModules → Dt H (.ref a) (.list [])
  | l1 {a : Addr} {x : V} {d : PyData} : H a = some (.lst [x]) → a ≠ sysModules → Dt H x d → Dt H (.ref a) (.list [d])
  | l2 {a : Addr} {x y : V} {d e : PyData} : H a = some (.lst [x, y]) → a ≠ sysModules → Dt H x d → Dt H y e → Dt H (.ref a) (.list [d, e])
  | t0 {a : Addr} : H a = some (.tup []) → Dt H (.ref a) (.tuple [])
  | t1 {a : Addr} {x : V} {d : PyData} : H a = some (.tup [x]) → Dt H x d → Dt H (.ref a) (.tuple [d])
  | t2 {a : Addr} {x y : V} {d e : PyData} : H a = some (.tup [x, y]) → Dt H x d → Dt H y e → Dt H (.ref a) (.tuple [d, e])
theorem Dt.keep {H H' : Hp} {v : V} {d : PyData} (h : Dt H v d) (k : ∀ b o, H b = some o → H' b = some o) : Dt H' v d := by
  induction h with
  | non => exact .non
  | bl b => exact .bl b
  | int i => exact .int i
  | str x => exact .str x
  | dic e => exact .dic (k _ _ e)
  | l0 e n => exact .l0 (k _ _ e) n
  | l1 e n _ ih => exact .l1 (k _ _ e) n ih
  | l2 e n _ _ i1 i2 => exact .l2 (k _ _ e) n i1 i2
  | t0 e => exact .t0 (k _ _ e)
  | t1 e _ ih => exact .t1 (k _ _ e) ih
  | t2 e _ _ i1 i2 => exact .t2 (k _ _ e) i1 i2
section
variable {X : Cx} {pins : List (Addr × Obj)} {σ : L2.St} {H : Hp} {s : Shared}
theorem lst_at (I : L2.Inv X pins σ H s) {a : Addr} {xs : List V} (h : H a = some (.lst xs)) : ∃ (its : List Value) (n : Nat), Vals xs its ∧ s.heap.get? a = some { cls := .type "list", data := .seq its.toArray n } := by
  obtain ⟨_, its, n, r, e⟩ := (show ObjOk X.prog X.w H s.heap a (.lst xs) from I.hok a _ h)
  exact ⟨its, n, r, e⟩
theorem tup_at (I : L2.Inv X pins σ H s) {a : Addr} {xs : List V} (h : H a = some (.tup xs)) : ∃ (its : List Value) (o : Obj) (n : Nat), Vals xs its ∧ s.heap.get? a = some o ∧ o.cls = .type "tuple" ∧ o.data = .seq its.toArray n := by
  obtain ⟨_, its, r, o, e, c, n, d⟩ := (show ObjOk X.prog X.w H s.heap a (.tup xs) from I.hok a _ h)
  exact ⟨its, o, n, r, e, c, d⟩
theorem Dt.reads (I : L2.Inv X pins σ H s) {v : V} {d : PyData} (h : Dt H v d) : ∀ {u : Value}, RelV v u → ∃ as, Reads s.heap u d as ∧ sysModules ∉ as := by
  induction h with
  | non => intro u r; cases r; exact ⟨_, .none, by simp⟩
  | bl b => intro u r; cases r; exact ⟨_, .bool b, by simp⟩
  | int i => intro u r; obtain ⟨t, rfl⟩ := r; exact ⟨_, .int i t, by simp⟩
  | str x => intro u r; obtain ⟨t, rfl⟩ := r; exact ⟨_, .str x t, by simp⟩
  | @dic a e =>
    intro u r
    cases r
    obtain ⟨_, hs, vs, kv, o, es, ep, ho, hx, hd, hk, hp, _⟩ := (show ObjOk X.prog X.w H s.heap a (.dK []) from I.hok a _ e)
    cases kv
    have he : es.toList = [] := by
      generalize es.toList = l at hp
      cases hp
      rfl
    refine ⟨a :: [] ++ [], .dict (as := []) (bs := []) ho hx.1 hd ?_ ?_, ?_⟩
    · rw [he]; exact .nil
    · rw [he]; exact .nil
    · have : a ≠ sysModules := by simpa using hs
      simp [Ne.symm this]
  | @l0 a e n =>
    intro u r
    cases r
    obtain ⟨its, m, rv, ho⟩ := lst_at I e
    cases rv
    exact ⟨_, .list ho rfl rfl .nil, by simp [Ne.symm n]⟩
  | @l1 a x d e n hx ih =>
    intro u r
    cases r
    obtain ⟨its, m, rv, ho⟩ := lst_at I e
    cases rv with
    | cons r1 rr =>
      cases rr
      obtain ⟨as, q, nq⟩ := ih r1
      exact ⟨_, .list ho rfl rfl (.cons q .nil), by simp [Ne.symm n, nq]⟩
  | @l2 a x y d e2 e n hx hy ih1 ih2 =>
    intro u r
    cases r
    obtain ⟨its, m, rv, ho⟩ := lst_at I e
    cases rv with
    | cons r1 rr =>
      cases rr with
      | cons r2 rr =>
        cases rr
        obtain ⟨as, q, nq⟩ := ih1 r1
        obtain ⟨bs, q2, nq2⟩ := ih2 r2
        exact ⟨_, .list ho rfl rfl (.cons q (.cons q2 .nil)), by simp [Ne.symm n, nq, nq2]⟩
  | @t0 a e =>
    intro u r
    cases r
    obtain ⟨its, o, m, rv, ho, hc, hd⟩ := tup_at I e
    cases rv
    exact ⟨_, .tuple ho hc hd .nil, by simp⟩
  | @t1 a x d e hx ih =>
    intro u r
    cases r
    obtain ⟨its, o, m, rv, ho, hc, hd⟩ := tup_at I e
    cases rv with
    | cons r1 rr =>
      cases rr
      obtain ⟨as, q, nq⟩ := ih r1
      exact ⟨_, .tuple ho hc hd (.cons q .nil), by simp [nq]⟩
  | @t2 a x y d e2 e hx hy ih1 ih2 =>
    intro u r
    cases r
    obtain ⟨its, o, m, rv, ho, hc, hd⟩ := tup_at I e
    cases rv with
    | cons r1 rr =>
      cases rr with
      | cons r2 rr =>
        cases rr
        obtain ⟨as, q, nq⟩ := ih1 r1
        obtain ⟨bs, q2, nq2⟩ := ih2 r2
        exact ⟨_, .tuple ho hc hd (.cons q (.cons q2 .nil)), by simp [nq, nq2]⟩
end
/-- repr(x), x a datum of small depth and size -/
def rRepr : List V → Hp → VK → Prop := fun xs H Q => ∃ (x : V) (d : PyData), xs = [x] ∧ Dt H x d ∧ d.showable = true ∧ d.depth ≤ 100 ∧ d.shown.length ≤ 100000 ∧ Q (.str d.shown) H
theorem call_repr {X : Cx} {k : Nat} (hg : X.A.guards = some []) (hr : Room k X.A) : CallR X (.builtin "repr") rRepr := by
  intro pins s σ H xs us Q I r h
  obtain ⟨x, d, rfl, hd, hs, hdp, hz, q⟩ := h
  obtain ⟨u, rfl, ru⟩ := vals1 r
  have hz' : d.shown.length ≤ sizeLine := Nat.le_trans hz (by decide)
  obtain ⟨as, rd, ns⟩ := hd.reads I ru
  have hu : X.A.units + (d.depth + 1) < cLine := by have := hr.un; omega
  have viaRef : ∀ a, u = .ref a → wpAny (model X.prog X.w) X.A (call (.builtin "repr") [u]) (EP X pins σ Q) X.xe s := fun a e => by
    subst e
    exact repr_of_reads' rd hs (fun _ => ns) hg hu (fun _ _ e => e) (fun h' u tk k => ⟨.str d.shown, H, I.kept k, ⟨_, rfl⟩, q⟩) hz'
  cases hd with
  | non => cases ru; exact PySem.P.repr_of_none ⟨.str _, H, I.tok _, ⟨_, rfl⟩, by simpa only [PyData.shown] using q⟩
  | bl b => cases ru; exact PySem.P.repr_of_bool ⟨.str _, H, I.tok _, ⟨_, rfl⟩, by simpa only [PyData.shown] using q⟩
  | int i => obtain ⟨t, rfl⟩ := ru; exact PySem.P.repr_of_int (by simpa [PyData.showable] using hs) ⟨.str _, H, I.tok _, ⟨_, rfl⟩, by simpa only [PyData.shown] using q⟩
  | str x => obtain ⟨t, rfl⟩ := ru; exact PySem.P.repr_of_str ⟨.str _, H, I.tok _, ⟨_, rfl⟩, by simpa only [PyData.shown] using q⟩ (by simpa only [PyData.shown] using hz')
  | dic e => exact viaRef _ ru
  | l0 e n => exact viaRef _ ru
  | l1 e n h1 => exact viaRef _ ru
  | l2 e n h1 h2 => exact viaRef _ ru
  | t0 e => exact viaRef _ ru
  | t1 e h1 => exact viaRef _ ru
  | t2 e h1 h2 => exact viaRef _ ru
/-- what is told of a datum: it may be shown, so deep, so long -/
def Small (d : PyData) (n m : Nat) : Prop := d.showable = true ∧ d.depth ≤ n ∧ d.shown.length ≤ m
theorem int_len {k : Int} (hk : 0 ≤ k ∧ k < 100) : (PyData.shown (.int k)).length ≤ 3 := by
  have e : (toString k).length ≤ 2 + 1 := int_text_length_le10 (by decide) (by omega)
  simp only [PyData.shown]
  rw [PySem.ofString_length]
  exact e
theorem int_show {k : Int} (hk : 0 ≤ k ∧ k < 100) : k.natAbs.log2 < 1920 := by
  have := Nat.log2_le_self k.natAbs
  omega
theorem small_tup {d : PyData} {n m : Nat} {k : Int} (h : Small d n m) (hk : 0 ≤ k ∧ k < 100) : Small (.tuple [d, .int k]) (n + 1) (m + 10) := by
  obtain ⟨h1, h2, h3⟩ := h
  refine ⟨by simp [PyData.showable, PyData.showableAll, h1, int_show hk], by simp only [PyData.depth, PyData.depthAll]; omega, ?_⟩
  have e := tupleText_len_le (PyData.shownAll [d, .int k])
  have e2 := int_len hk
  simp only [PyData.shownAll, List.map_cons, List.map_nil, List.sum_cons, List.sum_nil, List.length_cons, List.length_nil] at e
  show (tupleText (PyData.shownAll [d, .int k])).length ≤ m + 10
  simp only [PyData.shownAll]
  omega
theorem small_lst {d : PyData} {n m : Nat} {k : Int} (h : Small d n m) (hk : 0 ≤ k ∧ k < 100) : Small (.list [.int k, d]) (n + 1) (m + 10) := by
  obtain ⟨h1, h2, h3⟩ := h
  refine ⟨by simp [PyData.showable, PyData.showableAll, h1, int_show hk], by simp only [PyData.depth, PyData.depthAll]; omega, ?_⟩
  have e := listText_len_le (PyData.shownAll [.int k, d])
  have e2 := int_len hk
  simp only [PyData.shownAll, List.map_cons, List.map_nil, List.sum_cons, List.sum_nil, List.length_cons, List.length_nil] at e
  show (listText (PyData.shownAll [.int k, d])).length ≤ m + 10
  simp only [PyData.shownAll]
  omega
theorem Small.mono {d : PyData} {n m n' m' : Nat} (h : Small d n m) (h1 : n ≤ n') (h2 : m ≤ m') : Small d n' m' := ⟨h.1, Nat.le_trans h.2.1 h1, Nat.le_trans h.2.2 h2⟩
end Ev
set_option maxHeartbeats 4000000
namespace LawK
open PySem PySem.Spec PyProof.Rows L2 Ev

def topS (i : Nat) : Stmt := PySem.Challenge.pw_everypiece_k51_whole_edits_as_texts.main.body.getD i (.Pass ⟨0, 0, 0, 0⟩)
abbrev sHand : Stmt := topS 23
theorem scHand : FnScope ["script", "cell"] ["script"] (defScope sHand) := ⟨rfl, rfl, rfl, by decide +kernel, rfl, by decide +kernel, by decide +kernel⟩
abbrev sDraw : Stmt := topS 24
theorem scDraw : FnScope ["hand", "many", "cell", "digit", "number"] ["hand", "many"] (defScope sDraw) := ⟨rfl, rfl, rfl, by decide +kernel, rfl, by decide +kernel, by decide +kernel⟩
/-! ### the hand of a law: what is left of the script, and a seed -/
def HandL (H : Hp) (p l : Addr) : Prop := ∃ (cells : List Int) (i r s n : Int), H p = some (.lst [.ref l, .int i, .int r, .int s, .int n]) ∧ H l = some (.lst (cells.map V.int)) ∧ l ≠ p ∧ 0 ≤ i ∧ 0 ≤ s ∧ s < 2147483647
/-- nothing but the hand at p has changed -/
def But (p : Addr) (H H' : Hp) : Prop := ∀ b o, b ≠ p → H b = some o → H' b = some o
theorem But.refl (p : Addr) (H : Hp) : But p H H := fun _ _ _ h => h
theorem But.trans {p : Addr} {H H1 H2 : Hp} (a : But p H H1) (b : But p H1 H2) : But p H H2 := fun c o n h => b c o n (a c o n h)
theorem But.new {p q : Addr} {H H1 : Hp} {o : HO} (a : But p H H1) (h : H1 q = none) : But p H (upd H1 q o) := fun c u n e => by
  have z := a c u n e
  rw [upd_ne (ne_of_none z h)]
  exact z
theorem But.same {p : Addr} {H H' : Hp} (a : Same H H') : But p H H' := fun c o _ e => a c o e
def spDraw : Sp := fun vs H Q _ => ∃ (p : Addr) (m : Int), vs = [.ref p, .int m] ∧ 0 < m ∧ m < 1000000 ∧ ∃ l, HandL H p l ∧ ∀ v H', 0 ≤ v → v < m → HandL H' p l → But p H H' → Q (.int v) H'
def spHand (K : PySem.W.Frag) : Sp := fun vs H Q _ => ∃ (a : Addr) (ns : List Int), vs = [.ref a] ∧ SqL K H a (ns.map V.int) ∧ ∀ p l H', H p = none → H l = none → HandL H' p l → Same H H' → Q (.ref p) H'
structure Glob (mg : Str → Option Value) : Prop where
  abs : mg "abs" = none
  any : mg "any" = none
  repr : mg "repr" = none
  reversed : mg "reversed" = none
  len : mg "len" = none
  int : mg "int" = none
  list : mg "list" = none
  range : mg "range" = none
  isinstance : mg "isinstance" = none
  bool : mg "bool" = none
  str : mg "str" = none
  tuple : mg "tuple" = none
  sum : mg "sum" = none
  ord : mg "ord" = none
  zip : mg "zip" = none
  max : mg "max" = none
  min : mg "min" = none
  all : mg "all" = none
  enumerate : mg "enumerate" = none
  sorted : mg "sorted" = none

theorem sq_of {K : PySem.W.Frag} {H : Hp} {a : Addr} {xs : List V} (h : H a = some (.lst xs)) : SqL K H a xs := .inl (.inl h)
theorem atI_in {α : Type} {xs : List α} {i : Int} (h0 : 0 ≤ i) (h1 : i < xs.length) : ∃ v, atI xs i = some v ∧ v ∈ xs := by
  obtain ⟨j, rfl⟩ := Int.eq_ofNat_of_zero_le h0
  have hj : j < xs.length := by omega
  exact ⟨xs[j], atI_nat (by rw [List.getElem?_eq_getElem hj]), List.getElem_mem hj⟩
theorem atI_int {xs : List Int} {i : Int} (h0 : 0 ≤ i) (h1 : i < xs.length) : ∃ c : Int, atI (xs.map V.int) i = some (.int c) := by
  obtain ⟨v, e, hm⟩ := atI_in (xs := xs.map V.int) h0 (by rw [List.length_map]; exact h1)
  obtain ⟨c, _, rfl⟩ := List.mem_map.mp hm
  exact ⟨c, e⟩
theorem sqSame {K : PySem.W.Frag} {H H' : Hp} {a : Addr} {xs : List V} (h : SqL K H a xs) (k : Same H H') : SqL K H' a xs := by
  rcases h with (h | ⟨o, h⟩) | h
  · exact .inl (.inl (k _ _ h))
  · exact .inl (.inr ⟨o, k _ _ h⟩)
  · exact .inr h
theorem Same.new {H : Hp} {q : Addr} {o : HO} (h : H q = none) : Same H (upd H q o) := fun b u e => by
  rw [upd_ne (ne_of_none e h)]
  exact e
theorem sameAt {H H' : Hp} {q : Addr} {o : HO} (k : Same H H') (h : H q = none) : Same H (upd H' q o) := fun b u e => by
  rw [upd_ne (ne_of_none e h)]
  exact k b u e
theorem Same.free {H H' : Hp} (k : Same H H') {a : Addr} (h : H' a = none) : H a = none := by
  cases e : H a with
  | none => rfl
  | some o =>
    rw [k _ _ e] at h
    cases h
theorem cells_cut {ns : List Int} {h : Option Int} : ∃ ms : List Int, cutV (ns.map V.int) none h = ms.map V.int ∧ ms.length ≤ ns.length := by
  refine ⟨(ns.drop (HT.sIx (ns.map V.int).length 0 none)).take (HT.sIx (ns.map V.int).length (ns.map V.int).length h - HT.sIx (ns.map V.int).length 0 none), ?_, ?_⟩
  · show ((ns.map V.int).drop _).take _ = _
    rw [← List.map_drop, ← List.map_take]
  · rw [List.length_take, List.length_drop]
    omega
theorem PSs.imp {X : Cx} {st : List Stmt} {t u : TS} (h : PSs X st u) (k : ∀ D σ H, t D σ H → u D σ H) : PSs X st t := ⟨fun pins s σ H D I q => h.run pins s σ H D I (k D σ H q)⟩
theorem PE.imp {X : Cx} {e : Expr} {t u : TE} (h : PE X e u) (k : ∀ σ H Q, t σ H Q → u σ H Q) : PE X e t := ⟨fun pins s σ H Q I q => h.run pins s σ H Q I (k σ H Q q)⟩
theorem PS.imp {X : Cx} {st : Stmt} {t u : TS} (h : PS X st u) (k : ∀ D σ H, t D σ H → u D σ H) : PS X st t := ⟨fun pins s σ H D I q => h.run pins s σ H D I (k D σ H q)⟩
def tTail : TS := fun D σ H => ∃ (p : Addr) (m : Int) (l : Addr) (cells : List Int) (i r s n : Int) (c f x : Option V), σ = [some (.ref p), some (.int m), c, f, x] ∧ 0 < m ∧ m < 1000000 ∧ H p = some (.lst [.ref l, .int i, .int r, .int s, .int n]) ∧ H l = some (.lst (cells.map V.int)) ∧ l ≠ p ∧ 0 ≤ i ∧ 0 ≤ s ∧ s < 2147483647 ∧
  ∀ v H', 0 ≤ v → v < m → HandL H' p l → But p H H' → D.rt (.int v) H'
theorem HandL.mk {H : Hp} {p l : Addr} {cells : List Int} {i r s n : Int} (hp : H p = some (.lst [.ref l, .int i, .int r, .int s, .int n])) (hl : H l = some (.lst (cells.map V.int))) (n0 : l ≠ p) (h1 : 0 ≤ i) (h2 : 0 ≤ s) (h3 : s < 2147483647) : HandL H p l := ⟨cells, i, r, s, n, hp, hl, n0, h1, h2, h3⟩
theorem but_upd {p : Addr} {H : Hp} {o : HO} : But p H (upd H p o) := fun b u n e => by
  rw [upd_ne n]
  exact e
theorem boot_ty_int : bootBuiltins "int" = some (.type "int") := by decide +kernel
section
variable {P : Program} {w : World} {K : PySem.W.Frag} {mg : Str → Option Value} {base : Heap}

theorem ok_Hand {f : Addr} {fd : FuncData} (F : Fun K "_law_hand" "_law_hand" sHand f fd) (T : Glob mg) : FnOk P w K mg base CX0 1 f fd ["script"] (spHand K) := by
  refine F.ok scHand (fun vs H Q E h => ?_) (fun cdv A outer s H vs Q E hr h => ?_)
  · obtain ⟨a, ns, rfl, _⟩ := h
    rfl
  · obtain ⟨a, ns, rfl, hS, q⟩ := h
    refine ⟨_, (pss_one (ps_ret (pe_lst (pa_cons (pe_lc (own := [("cell", 1)]) (g := gName 1) (by rfl) scHand.nd (pi_list (pe_slice sl_list (pv 0) po_none (po_some pe_int))) (blkOk_by (N := ["script", "cell"]) (sc := defScope sHand) (by decide +kernel)) (fun _ _ _ _ _ => pg_name (i := 1) scHand.nd rfl (.inl rfl)) (fun _ _ _ _ _ => pts_nil) (fun _ _ _ _ _ => (pe_callTy call_int1 (by rfl) T.int boot_ty_int (pa_cons (pv 1) pa_nil)))) (pa_cons pe_int (pa_cons pe_int (pa_cons (pe_op op_add pe_int (pe_callB call_len_seq (by rfl) T.len PySem.boot_len (pa_cons (pe_slice sl_list (pv 0) po_none (po_some pe_int)) pa_nil))) (pa_cons pe_int pa_nil)))))))), ?_⟩
    obtain ⟨ms, ec, lm⟩ := cells_cut (ns := ns) (h := some 63)
    have lc : (cutV (ns.map V.int) none (some (63 : Int))).length ≤ 63 := by
      show (((ns.map V.int).drop _).take _).length ≤ 63
      rw [List.length_take]
      have : HT.sIx (ns.map V.int).length (ns.map V.int).length (some (63 : Int)) ≤ 63 := Nat.min_le_left _ _
      omega
    refine ⟨.ref a, rfl, 63, rfl, a, _, rfl, hS, fun c nc => ?_⟩
    rw [ec]
    rw [ec, List.length_map] at lc
    have kc := Same.new (o := .lst (ms.map V.int)) nc
    have hc : upd H c (.lst (ms.map V.int)) c = some (.lst (ms.map V.int)) := upd_same
    revert kc hc
    generalize upd H c (.lst (ms.map V.int)) = H1
    intro kc hc
    refine ⟨c, rfl, ⟨_, sq_of hc⟩, fun l nl => lc_list (xs := ms.map V.int) (fun i H' => Same H1 H' ∧ ∃ zs : List Int, H' l = some (.lst (zs.map V.int)) ∧ zs.length = i) ⟨Same.new nl, [], upd_same, rfl⟩ (fun i H' _ w => sq_of (w.1 _ _ hc)) ?_ ?_⟩
    · rintro i x H2 hx ⟨k2, zs, hl, lz⟩
      rw [List.getElem?_map] at hx
      obtain ⟨y, hy, rfl⟩ := Option.map_eq_some_iff.mp hx
      have li := (List.getElem?_eq_some_iff.mp hy).1
      refine ⟨rfl, .int y, rfl, .inl ⟨y, rfl, _, hl, ?_, sameAt k2 nl, zs ++ [y], ?_, by rw [List.length_append, lz]; rfl⟩⟩
      · rw [List.length_map, lz, sizeLine_eq]
        omega
      · rw [upd_same, List.map_append]
        rfl
    · rintro H2 ⟨k2, zs, hl, lz⟩
      rw [List.length_map] at lz
      refine ⟨.ref a, rfl, 63, rfl, a, _, rfl, sqSame hS (kc.trans k2), fun d nd => ?_⟩
      rw [ec]
      have kd := Same.new (o := .lst (ms.map V.int)) nd
      have hd : upd H2 d (.lst (ms.map V.int)) d = some (.lst (ms.map V.int)) := upd_same
      revert kd hd
      generalize upd H2 d (.lst (ms.map V.int)) = H3
      intro kd hd
      refine ⟨d, _, rfl, .inl (sq_of hd), _, _, rfl, rfl, by show 5 ≤ sizeLine; decide, fun p hp => ?_⟩
      have hl3 := kd _ _ hl
      have nlp : l ≠ p := fun e => by
        rw [e] at hl3
        rw [hl3] at hp
        cases hp
      have kH3 : Same H H3 := (kc.trans k2).trans kd
      have ncl : H l = none := Same.free kc nl
      refine q p l _ (Same.free kH3 hp) ncl ⟨zs, 0, 0, 1 + (((ms.map V.int).length : Nat) : Int), 0, upd_same, by rw [upd_ne nlp]; exact hl3, nlp, by decide, by omega, ?_⟩ (sameAt kH3 (Same.free kH3 hp))
      rw [List.length_map]
      omega
theorem ok_Draw {f : Addr} {fd : FuncData} (F : Fun K "_law_draw" "_law_draw" sDraw f fd) (T : Glob mg) : FnOk P w K mg base CX0 1 f fd ["hand", "many"] spDraw := by
  refine F.ok scDraw (fun vs H Q E h => ?_) (fun cdv A outer s H vs Q E hr h => ?_)
  · obtain ⟨p, m, rfl, _⟩ := h
    rfl
  · obtain ⟨p, m, rfl, m0, m1, l, ⟨cells, i, r, s0, n, hp, hl, npl, hi, hs0, hs1⟩, q⟩ := h
    refine ⟨_, (pss_cons (ps_if (PW.pt (pw_and (pt_cmpR op_eq (pe_ix ix_list (pv 0) pe_int (fun _ _ => rfl)) pe_int (nomark _)) (pw_and1 (pt_cmpR op_lt (pe_ix ix_list (pv 0) pe_int (fun _ _ => rfl)) (pe_callB call_len_seq (by rfl) T.len PySem.boot_len (pa_cons (pe_ix ix_list (pv 0) pe_int (fun _ _ => rfl)) pa_nil)) (nomark _)))))
      (pss_cons (ps_set (i := 2) scDraw.nd rfl (.inl rfl) (pe_ix ix_list (pe_ix ix_list (pv 0) pe_int (fun _ _ => rfl)) (pe_ix ix_list (pv 0) pe_int (fun _ _ => rfl)) (fun _ _ => rfl)))
        (pss_cons (ps_asg (pe_op op_add (pe_ix ix_list (pv 0) pe_int (fun _ _ => rfl)) pe_int) (pg_sub (pv 0) pe_int set_list))
        (pss_cons (ps_asg (pe_op op_mod (pe_callTy call_int1 (by rfl) T.int boot_ty_int (pa_cons (pe_op op_add (pe_op op_add (pe_op op_mul (pe_ix ix_list (pv 0) pe_int (fun _ _ => rfl)) pe_int) (pe_op op_mul (pv 2) pe_int)) pe_int) pa_nil)) pe_int) (pg_sub (pv 0) pe_int set_list))
        (pss_one (ps_if (pt_cmpR op_ge (pv 2) (pe_op op_pow pe_int pe_int) (nomark _))
        (pss_one (ps_asg (pv 2) (pg_sub (pv 0) pe_int set_list)))
        pss_nil)))))
      pss_nil)
      (PSs.imp (t := tTail) (pss_cons (ps_if (pt_cmpR op_gt (pe_ix ix_list (pv 0) pe_int (fun _ _ => rfl)) pe_int (nomark _))
      (pss_cons (ps_set (i := 3) scDraw.nd rfl (.inl rfl) (pe_op op_mod (pe_callTy call_int1 (by rfl) T.int boot_ty_int (pa_cons (pe_ix ix_list (pv 0) pe_int (fun _ _ => rfl)) pa_nil)) (pv 1)))
        (pss_cons (ps_asg (pe_op op_fdiv (pe_ix ix_list (pv 0) pe_int (fun _ _ => rfl)) (pv 1)) (pg_sub (pv 0) pe_int set_list))
        (pss_one (ps_ret (pv 3)))))
      pss_nil)
      (pss_cons (ps_asg (pe_op op_add (pe_ix ix_list (pv 0) pe_int (fun _ _ => rfl)) pe_int) (pg_sub (pv 0) pe_int set_list))
      (pss_cons (ps_set (i := 4) scDraw.nd rfl (.inl rfl) (pe_op op_mod (pe_callTy call_int1 (by rfl) T.int boot_ty_int (pa_cons (pe_op op_mul (pe_callTy call_int1 (by rfl) T.int boot_ty_int (pa_cons (pe_op op_add (pe_ix ix_list (pv 0) pe_int (fun _ _ => rfl)) (pe_op op_mul pe_int (pe_ix ix_list (pv 0) pe_int (fun _ _ => rfl)))) pa_nil)) pe_int) pa_nil)) pe_int))
      (pss_cons (ps_set (i := 4) scDraw.nd rfl (.inl rfl) (pe_op op_mod (pe_callTy call_int1 (by rfl) T.int boot_ty_int (pa_cons (pe_op op_mul (pv 4) (pe_op op_add (pe_op op_fdiv (pv 4) pe_int) pe_int)) pa_nil)) pe_int))
      (pss_cons (ps_set (i := 4) scDraw.nd rfl (.inl rfl) (pe_op op_mod (pe_callTy call_int1 (by rfl) T.int boot_ty_int (pa_cons (pe_op op_mul (pv 4) (pe_op op_add (pe_op op_fdiv (pv 4) pe_int) pe_int)) pa_nil)) pe_int))
      (pss_one (ps_ret (pe_op op_mod (pe_callTy call_int1 (by rfl) T.int boot_ty_int (pa_cons (pe_op op_fdiv (pv 4) pe_int) pa_nil)) (pv 1))))))))) ?tail)), ?_⟩
    case tail =>
      rintro D σ H ⟨p, m, l, cells, i, r, s, n, c, f, x, rfl, m0, m1, hp, hl, npl, hi, hs0, hs1, q⟩
      refine ⟨.ref p, rfl, p, _, 2, _, rfl, rfl, sq_of hp, rfl, _, _, rfl, rfl, _, rfl, ite2 (fun e => ?_) (fun e => ?_)⟩
      · refine ⟨.ref p, rfl, p, _, 2, _, rfl, rfl, sq_of hp, rfl, .inl ⟨r, rfl, .int m, rfl, _, _, rfl, rfl, m0, ?_⟩⟩
        refine ⟨.ref p, rfl, p, _, 2, _, rfl, rfl, sq_of hp, rfl, .int m, rfl, _, _, rfl, rfl, ⟨m0, by omega⟩, ?_⟩
        refine ⟨.ref p, rfl, p, _, 2, 2, rfl, rfl, hp, rfl, ?_⟩
        refine ⟨_, rfl, ?_⟩
        refine q _ _ (Int.emod_nonneg _ (by omega)) (Int.emod_lt_of_pos _ m0) (.mk upd_same (by rw [upd_ne npl]; exact hl) npl hi hs0 hs1) but_upd
      · dsimp only [tNext, tDrop]
        refine ⟨.ref p, rfl, p, _, 4, _, rfl, rfl, sq_of hp, rfl, _, _, rfl, rfl, .ref p, rfl, p, _, 4, 4, rfl, rfl, hp, rfl, ?_⟩
        dsimp only
        have hp2 : upd H p (.lst (List.set [.ref l, .int i, .int r, .int s, .int n] 4 (.int (n + 1)))) p = some (.lst [.ref l, .int i, .int r, .int s, .int (n + 1)]) := upd_same
        have hl2 : upd H p (.lst (List.set [.ref l, .int i, .int r, .int s, .int n] 4 (.int (n + 1)))) l = some (.lst (cells.map V.int)) := by rw [upd_ne npl]; exact hl
        have b2 : But p H (upd H p (.lst (List.set [.ref l, .int i, .int r, .int s, .int n] 4 (.int (n + 1))))) := but_upd
        generalize upd H p (.lst (List.set [.ref l, .int i, .int r, .int s, .int n] 4 (.int (n + 1)))) = H2 at hp2 hl2 b2 ⊢
        refine ⟨.ref p, rfl, p, _, 3, _, rfl, rfl, sq_of hp2, rfl, .ref p, rfl, p, _, 4, _, rfl, rfl, sq_of hp2, rfl, 7919, n + 1, rfl, rfl, .inl ⟨by decide, by decide⟩, _, _, rfl, rfl, .inl ⟨_, rfl, _, _, rfl, rfl, .inr ⟨by decide, by decide⟩, .inl ⟨_, rfl, _, _, rfl, rfl, (by show (0 : Int) < 2147483647; decide), ?_⟩⟩⟩
        dsimp only
        have a2 : 0 ≤ ((s + 7919 * (n + 1)) * 48271) % 2147483647 := Int.emod_nonneg _ (by decide)
        have a3 : ((s + 7919 * (n + 1)) * 48271) % 2147483647 < 2147483647 := Int.emod_lt_of_pos _ (by decide)
        generalize ((s + 7919 * (n + 1)) * 48271) % 2147483647 = y at a2 a3 ⊢
        refine ⟨.int y, rfl, .int y, rfl, _, _, rfl, rfl, ⟨by decide, by decide⟩, _, _, rfl, rfl, _, _, rfl, rfl, .inl ⟨by omega, by omega⟩, .inl ⟨_, rfl, _, _, rfl, rfl, (by show (0 : Int) < 2147483647; decide), ?_⟩⟩
        dsimp only
        have a4 : 0 ≤ (y * (y / 1009 + 69621)) % 2147483647 := Int.emod_nonneg _ (by decide)
        have a5 : (y * (y / 1009 + 69621)) % 2147483647 < 2147483647 := Int.emod_lt_of_pos _ (by decide)
        generalize (y * (y / 1009 + 69621)) % 2147483647 = z at a4 a5 ⊢
        refine ⟨.int z, rfl, .int z, rfl, _, _, rfl, rfl, ⟨by decide, by decide⟩, _, _, rfl, rfl, _, _, rfl, rfl, .inl ⟨by omega, by omega⟩, .inl ⟨_, rfl, _, _, rfl, rfl, (by show (0 : Int) < 2147483399; decide), ?_⟩⟩
        refine ⟨_, rfl, _, _, rfl, rfl, ⟨by decide, by decide⟩, .inl ⟨_, rfl, .int m, rfl, _, _, rfl, rfl, m0, ?_⟩⟩
        exact q _ _ (Int.emod_nonneg _ (by omega)) (Int.emod_lt_of_pos _ m0) (.mk hp2 hl2 npl hi hs0 hs1) b2
    have fin : ∀ {H2 : Hp} {i r s n : Int} {c : Option V}, H2 p = some (.lst [.ref l, .int i, .int r, .int s, .int n]) → H2 l = some (.lst (cells.map V.int)) → 0 ≤ i → 0 ≤ s → s < 2147483647 → But p H H2 →
        tTail { nx := fun _ H' => Q .non H', rt := Q } [some (.ref p), some (.int m), c, none, none] H2 := fun {H2 i r s n c} h1 h2 h3 h4 h5 h6 =>
      ⟨p, m, l, cells, i, r, s, n, c, none, none, rfl, m0, m1, h1, h2, npl, h3, h4, h5, fun v H' g1 g2 g3 g4 => q v H' g1 g2 g3 (h6.trans g4)⟩
    refine ⟨.ref p, rfl, p, _, 2, _, rfl, rfl, sq_of hp, rfl, rfl, _, rfl, ite2 (fun e => ?_) (fun e => ?_)⟩
    · refine ⟨.ref p, rfl, p, _, 1, _, rfl, rfl, sq_of hp, rfl, .ref p, rfl, p, _, 0, _, rfl, rfl, sq_of hp, rfl, l, _, rfl, .inl (sq_of hl), _, _, rfl, rfl, _, rfl, ite2 (fun e2 => ?_) (fun e2 => ?_)⟩
      · have hlt : i < (cells.length : Int) := by
          have z := of_decide_eq_true e2
          rw [List.length_map] at z
          exact z
        obtain ⟨c, hc⟩ := atI_int hi hlt
        refine ⟨.ref p, rfl, p, _, 0, _, rfl, rfl, sq_of hp, rfl, .ref p, rfl, p, _, 1, _, rfl, rfl, sq_of hp, rfl, l, _, i, _, rfl, rfl, sq_of hl, hc, ?_⟩
        refine ⟨.ref p, rfl, p, _, 1, _, rfl, rfl, sq_of hp, rfl, _, _, rfl, rfl, .ref p, rfl, p, _, 1, 1, rfl, rfl, hp, rfl, ?_⟩
        dsimp only
        have hp2 : upd H p (.lst (List.set [.ref l, .int i, .int r, .int s0, .int n] 1 (.int (i + 1)))) p = some (.lst [.ref l, .int (i + 1), .int r, .int s0, .int n]) := upd_same
        have hl2 : upd H p (.lst (List.set [.ref l, .int i, .int r, .int s0, .int n] 1 (.int (i + 1)))) l = some (.lst (cells.map V.int)) := by rw [upd_ne npl]; exact hl
        have b2 : But p H (upd H p (.lst (List.set [.ref l, .int i, .int r, .int s0, .int n] 1 (.int (i + 1))))) := but_upd
        generalize upd H p (.lst (List.set [.ref l, .int i, .int r, .int s0, .int n] 1 (.int (i + 1)))) = H2 at hp2 hl2 b2 ⊢
        refine ⟨.ref p, rfl, p, _, 3, _, rfl, rfl, sq_of hp2, rfl, s0, 69621, rfl, rfl, .inl ⟨by omega, by omega⟩, .int c, rfl, _, _, rfl, rfl, .inr ⟨by decide, by decide⟩, _, _, rfl, rfl, _, _, rfl, rfl, .inl ⟨_, rfl, _, _, rfl, rfl, (by show (0 : Int) < 2147483629; decide), .ref p, rfl, p, _, 3, 3, rfl, rfl, hp2, rfl, ?_⟩⟩
        dsimp only
        have a0 : 0 ≤ (s0 * 69621 + c * 16 + 11) % 2147483629 := Int.emod_nonneg _ (by decide)
        have a1 : (s0 * 69621 + c * 16 + 11) % 2147483629 < 2147483629 := Int.emod_lt_of_pos _ (by decide)
        generalize (s0 * 69621 + c * 16 + 11) % 2147483629 = s2 at a0 a1 ⊢
        have hp3 : upd H2 p (.lst (List.set [.ref l, .int (i + 1), .int r, .int s0, .int n] 3 (.int s2))) p = some (.lst [.ref l, .int (i + 1), .int r, .int s2, .int n]) := upd_same
        have hl3 : upd H2 p (.lst (List.set [.ref l, .int (i + 1), .int r, .int s0, .int n] 3 (.int s2))) l = some (.lst (cells.map V.int)) := by rw [upd_ne npl]; exact hl2
        have b3 : But p H (upd H2 p (.lst (List.set [.ref l, .int (i + 1), .int r, .int s0, .int n] 3 (.int s2)))) := b2.trans but_upd
        generalize upd H2 p (.lst (List.set [.ref l, .int (i + 1), .int r, .int s0, .int n] 3 (.int s2))) = H3 at hp3 hl3 b3 ⊢
        refine ⟨.int c, rfl, _, _, rfl, rfl, ⟨by decide, by decide, by decide⟩, _, _, rfl, rfl, _, rfl, ite2 (fun _ => ?_) (fun _ => ?_)⟩
        · refine ⟨.int c, rfl, .ref p, rfl, p, _, 2, 2, rfl, rfl, hp3, rfl, ?_⟩
          exact fin upd_same (by rw [upd_ne npl]; exact hl3) (by omega) a0 (by omega) (b3.trans but_upd)
        · dsimp only [tNext, tDrop]
          exact fin hp3 hl3 (by omega) a0 (by omega) b3
      · dsimp only [tNext, tDrop]
        exact fin hp hl hi hs0 hs1 (But.refl _ _)
    · dsimp only [tNext, tDrop]
      exact fin hp hl hi hs0 hs1 (But.refl _ _)
end
end LawK
set_option maxHeartbeats 4000000
/-! Texts: how long, so many times, which signs; kinds of values. -/
namespace Ev
open PySem PySem.Spec PyProof.Rows L2
def rLenZ : List V → Hp → VK → Prop := fun xs H Q => ∃ z : Str, xs = [.str z] ∧ z.length ≤ sizeLine ∧ Q (.int z.length) H
theorem call_lenZ {X : Cx} : CallR X (.builtin "len") rLenZ := fun pins s σ H xs us Q I r h =>
  call_len pins s σ H xs us Q I r (let ⟨z, e, hz, q⟩ := h; ⟨.str z, z.length, e, ⟨hz, rfl⟩, q⟩)
def rMulS : R2 := fun x y H Q => ∃ (z : Str) (n : Int), x = .str z ∧ y = .int n ∧ 0 ≤ n ∧ n ≤ 3000 ∧ z.length ≤ 1000 ∧ Q (.str (Txt.mul z n)) H
theorem mul_ok {z : Str} {n : Int} (h0 : 0 ≤ n) (h1 : n ≤ 3000) (h2 : z.length ≤ 1000) : MulOk z n := by
  refine ⟨by simp; omega, fun a _ => ?_, fun _ _ => ?_⟩
  · have e : (1000 : Int) ≤ (2 ^ 63 - 1) / n := by
      refine Int.le_ediv_of_mul_le (by omega) ?_
      have : (2 : Int) ^ 63 - 1 = 9223372036854775807 := by decide
      omega
    omega
  · have e : z.length * n.toNat ≤ 1000 * 3000 := Nat.mul_le_mul h2 (by omega)
    have h3 : sizeLine = 16777216 := sizeLine_eq
    show decide (z.length * n.toNat > sizeLine) = false
    exact decide_eq_false (by omega)
theorem op_mulS {X : Cx} : OpR X (binaryOp .Mult) rMulS := by
  intro pins s σ H x y v u Q I rx ry h
  obtain ⟨z, n, rfl, rfl, h0, h1, h2, q⟩ := h
  obtain ⟨t, rfl⟩ := rx
  obtain ⟨t', rfl⟩ := ry
  exact SB.mul (mul_ok h0 h1 h2) fun t' k => ⟨.str _, H, I.tok _, ⟨_, rfl⟩, q⟩
/-- every sign of the text is one from the blank to the tilde -/
def sgC (c : Nat) : Bool := decide (32 ≤ c) && decide (c ≤ 126)
def sgB (z : Str) : Bool := z.cps.toList.all sgC
theorem prn128 : ∀ c : Fin 128, Unicode.isPrintable c.val = sgC c.val := by decide +kernel
theorem sgC_of (c : Nat) : (decide (c < 128) && Unicode.isPrintable c) = sgC c := by
  by_cases h : c < 128
  · rw [decide_eq_true h, Bool.true_and]
    exact prn128 ⟨c, h⟩
  · rw [decide_eq_false h, Bool.false_and]
    unfold sgC
    rw [decide_eq_false (show ¬ c ≤ 126 by omega), Bool.and_false]
theorem sgB_of (z : Str) : (Txt.isascii z && Txt.isprintable z) = sgB z := by
  unfold Txt.isascii Txt.isprintable sgB
  rw [← Array.all_toList, ← Array.all_toList]
  generalize z.cps.toList = l
  induction l with
  | nil => rfl
  | cons c l ih =>
    rw [List.all_cons, List.all_cons, List.all_cons, ← sgC_of, ← ih]
    cases decide (c < 128) <;> cases Unicode.isPrintable c <;> cases l.all (fun c => decide (c < 128)) <;> rfl
/-! ### kinds -/
inductive Kn | non | bl | int | str | lst | tup | dic
  deriving DecidableEq
def Kn.name : Kn → String
  | .non => "NoneType"
  | .bl => "bool"
  | .int => "int"
  | .str => "str"
  | .lst => "list"
  | .tup => "tuple"
  | .dic => "dict"
def kitB : Kn → Kn → Bool
  | .bl, .int => true
  | a, b => decide (a = b)
inductive Kd (H : Hp) : V → Kn → Prop
  | non : Kd H .non .non
  | bl (b : Bool) : Kd H (.bl b) .bl
  | int (i : Int) : Kd H (.int i) .int
  | str (z : Str) : Kd H (.str z) .str
  | lst {a : Addr} {xs : List V} (e : H a = some (.lst xs)) : Kd H (.ref a) .lst
  | tup {a : Addr} {xs : List V} (e : H a = some (.tup xs)) : Kd H (.ref a) .tup
  | dic {a : Addr} {kvs : List (Key × V)} (e : H a = some (.dK kvs)) : Kd H (.ref a) .dic
theorem Kd.tyx {K : PySem.W.Frag} {H : Hp} {x : V} {k : Kn} (h : Kd H x k) : TyX K H x (.type k.name) := by
  cases h with
  | non => exact .base .non
  | bl b => exact .base (.bl b)
  | int i => exact .base (.int i)
  | str z => exact .base (.str z)
  | lst e => exact .base (.lst e)
  | tup e => exact .base (.tup e)
  | dic e => exact .base (.dK e)
theorem Kd.same {H H' : Hp} (s : ∀ b o, H b = some o → H' b = some o) {x : V} {k : Kn} (h : Kd H x k) : Kd H' x k := by
  cases h with
  | non => exact .non
  | bl b => exact .bl b
  | int i => exact .int i
  | str z => exact .str z
  | lst e => exact .lst (s _ _ e)
  | tup e => exact .tup (s _ _ e)
  | dic e => exact .dic (s _ _ e)
theorem kit_kn {K : PySem.W.Frag} : ∀ a b : Kn, PySem.W.kitOne K (.type a.name) (.type b.name) = some (kitB a b) := by
  intro a b
  cases a <;> cases b <;> exact kit_ty (by decide +kernel)
theorem rd_isi {K : PySem.W.Frag} {H : Hp} {x : V} {k : Kn} {Q : VK} (T : Kn) (h : Kd H x k) (q : Q (.bl (kitB k T)) H) : rIsi K [x, .ty T.name] H Q :=
  ⟨x, .ty T.name, .type k.name, .type T.name, kitB k T, rfl, .ty _, h.tyx, kit_kn k T, q⟩
/-- for c in s -/
theorem for_strZ {z : Str} {g : TG} {tb : TS} {D : Ends} {σ : L2.St} {H : Hp} (Pv : Nat → L2.St → Hp → Prop) (h0 : Pv 0 σ H)
    (hs : ∀ i c σ H, z.cps[i]? = some c → Pv i σ H → g (.str ⟨#[c]⟩) σ H fun σ2 H2 => tb { D with nx := Pv (i + 1), ct := Pv (i + 1), bk := D.nx } σ2 H2) (hd : ∀ σ H, Pv z.cps.size σ H → D.nx σ H) :
    ∃ W : Nat → Nat → L2.St → Hp → Prop, (∃ m, W 0 m σ H) ∧ ∀ i m σ H, W i m σ H →
      ((Its z).stop i H ∧ D.nx σ H) ∨ ((Its z).go i H ∧ ∃ N : L2.St → Hp → Prop, (∀ σ' H', N σ' H' → ∃ m', m' < m ∧ W (i + 1) m' σ' H') ∧ ∀ x H', (Its z).yld i H x H' → g x σ H' fun σ2 H2 => tb { D with nx := N, ct := N, bk := D.nx } σ2 H2) := by
  refine ⟨fun i m σ H => m = z.cps.size - i ∧ i ≤ z.cps.size ∧ Pv i σ H, ⟨z.cps.size, by simp, Nat.zero_le _, h0⟩, ?_⟩
  rintro i m σ H ⟨rfl, hi, p⟩
  by_cases hlt : i < z.cps.size
  · refine .inr ⟨hlt, Pv (i + 1), fun σ' H' p' => ⟨z.cps.size - (i + 1), by omega, rfl, hlt, p'⟩, fun x H' y => ?_⟩
    obtain ⟨e, c, hc, ex⟩ := y
    subst e ex
    exact hs i c σ _ hc p
  · have e : i = z.cps.size := by omega
    subst e
    exact .inl ⟨Nat.le_refl _, hd σ H p⟩
def sgV : V → Bool
  | .str z => sgB z
  | _ => false
def wordV : V → Bool
  | .str z => sgB z && decide ((0 : Int) < (z.length : Int))
  | _ => false
/-- no text is too long -/
def Vs (x : V) : Prop := ∀ z, x = .str z → z.length ≤ 5000
theorem len5 {n : Nat} (h : n ≤ 5000) : n ≤ sizeLine := by
  have h3 : sizeLine = 16777216 := sizeLine_eq
  omega
def spSg : Sp := fun vs H Q _ => ∃ x k, vs = [x] ∧ Kd H x k ∧ Vs x ∧ Q (.bl (sgV x)) H
def spWd : Sp := fun vs H Q _ => ∃ x k, vs = [x] ∧ Kd H x k ∧ Vs x ∧ Q (.bl (wordV x)) H
def spInt : Sp := fun vs H Q _ => ∃ x k, vs = [x] ∧ Kd H x k ∧ Q (.bl (decide (k = .int))) H
def numV : V → Bool
  | .int i => decide (0 ≤ i)
  | _ => false
def spNum : Sp := fun vs H Q _ => ∃ x k, vs = [x] ∧ Kd H x k ∧ Q (.bl (numV x)) H
def inV2 (a b : Int) : V → Bool
  | .int i => decide (a ≤ i) && decide (i ≤ b)
  | _ => false
def spIn : Sp := fun vs H Q _ => ∃ x k a b, vs = [x, .int a, .int b] ∧ Kd H x k ∧ Q (.bl (inV2 a b x)) H
theorem sgB_at {z : Str} {i c : Nat} (h : z.cps[i]? = some c) (n : sgC c = false) : sgB z = false := by
  unfold sgB
  rw [List.all_eq_false]
  refine ⟨c, ?_, by simp [n]⟩
  rw [← Array.getElem?_toList] at h
  exact List.mem_of_getElem? h
theorem sgB_all {z : Str} (h : ∀ i c : Nat, z.cps[i]? = some c → sgC c = true) : sgB z = true := by
  unfold sgB
  rw [List.all_eq_true]
  intro c hc
  obtain ⟨i, hi, e⟩ := List.mem_iff_getElem.mp hc
  refine h i c ?_
  rw [← Array.getElem?_toList, List.getElem?_eq_getElem hi, e]
end Ev
set_option maxHeartbeats 4000000
/-! Things that are judged: what they are, as far as it is asked. -/
namespace Ev
open PySem PySem.Spec PyProof.Rows L2
def dsm0 : PyData → Bool
  | .str z => decide (z.length ≤ 100) && PyData.strOk z
  | _ => true
/-- no text in it is long -/
def dsm : PyData → Bool
  | .list ds => ds.all dsm0
  | .tuple ds => ds.all dsm0
  | d => dsm0 d
theorem Dt.kd {H : Hp} {v : V} {d : PyData} (h : Dt H v d) : ∃ k, Kd H v k := by
  cases h with
  | non => exact ⟨_, .non⟩
  | bl b => exact ⟨_, .bl b⟩
  | int i => exact ⟨_, .int i⟩
  | str x => exact ⟨_, .str x⟩
  | dic e => exact ⟨_, .dic e⟩
  | l0 e n => exact ⟨_, .lst e⟩
  | l1 e n _ => exact ⟨_, .lst e⟩
  | l2 e n _ _ => exact ⟨_, .lst e⟩
  | t0 e => exact ⟨_, .tup e⟩
  | t1 e _ => exact ⟨_, .tup e⟩
  | t2 e _ _ => exact ⟨_, .tup e⟩
theorem Dt.vs {H : Hp} {v : V} {d : PyData} (h : Dt H v d) (s : dsm0 d = true) : Vs v := by
  cases h with
  | str x =>
    intro z e
    cases e
    have q : x.length ≤ 100 := of_decide_eq_true (Bool.and_eq_true_iff.mp s).1
    exact Nat.le_trans q (by decide)
  | non => exact fun z e => by cases e
  | bl b => exact fun z e => by cases e
  | int i => exact fun z e => by cases e
  | dic e => exact fun z e => by cases e
  | l0 e n => exact fun z e => by cases e
  | l1 e n _ => exact fun z e => by cases e
  | l2 e n _ _ => exact fun z e => by cases e
  | t0 e => exact fun z e => by cases e
  | t1 e _ => exact fun z e => by cases e
  | t2 e _ _ => exact fun z e => by cases e
/-- a thing; some xs: a tuple of xs -/
inductive Tg (H : Hp) : V → Option (List V) → Prop
  | no {x : V} {k : Kn} (h : Kd H x k) (n : k ≠ .tup) (s : Vs x) : Tg H x none
  | tup {a : Addr} {xs : List V} (e : H a = some (.tup xs)) (n : xs.length ≤ 30) (h : ∀ y ∈ xs, (∃ k, Kd H y k) ∧ Vs y) : Tg H (.ref a) (some xs)
theorem Tg.kd {H : Hp} {x : V} {o : Option (List V)} (h : Tg H x o) : ∃ k, Kd H x k ∧ (k = .tup ↔ o.isSome = true) := by
  cases h with
  | no h n s => exact ⟨_, h, fun e => absurd e n, fun e => by cases e⟩
  | tup e n h => exact ⟨_, .tup e, fun _ => rfl, fun _ => rfl⟩
theorem Tg.vs {H : Hp} {x : V} {o : Option (List V)} (h : Tg H x o) : Vs x := by
  cases h with
  | no h n s => exact s
  | tup e n h => exact fun z e => by cases e
theorem Tg.same {H H' : Hp} (s : ∀ b o, H b = some o → H' b = some o) {x : V} {o : Option (List V)} (h : Tg H x o) : Tg H' x o := by
  cases h with
  | no h n z => exact .no (h.same s) n z
  | tup e n h => exact .tup (s _ _ e) n fun y hy => ⟨let ⟨k, q⟩ := (h y hy).1; ⟨k, q.same s⟩, (h y hy).2⟩
theorem Dt.tg {H : Hp} {v : V} {d : PyData} (h : Dt H v d) (s : dsm d = true) : ∃ o, Tg H v o := by
  cases h with
  | non => exact ⟨_, .no .non (by decide) fun z e => by cases e⟩
  | bl b => exact ⟨_, .no (.bl b) (by decide) fun z e => by cases e⟩
  | int i => exact ⟨_, .no (.int i) (by decide) fun z e => by cases e⟩
  | str x => exact ⟨_, .no (.str x) (by decide) (Dt.vs (.str (H := H) x) s)⟩
  | dic e => exact ⟨_, .no (.dic e) (by decide) fun z e => by cases e⟩
  | l0 e n => exact ⟨_, .no (.lst e) (by decide) fun z e => by cases e⟩
  | l1 e n _ => exact ⟨_, .no (.lst e) (by decide) fun z e => by cases e⟩
  | l2 e n _ _ => exact ⟨_, .no (.lst e) (by decide) fun z e => by cases e⟩
  | t0 e => exact ⟨_, .tup e (by decide) fun y hy => absurd hy (by simp)⟩
  | @t1 a x d e hx =>
    have s1 : dsm0 d = true := List.all_eq_true.mp s d (by simp)
    exact ⟨_, .tup e (by simp) fun y hy => by
      obtain rfl := List.mem_singleton.mp hy
      exact ⟨hx.kd, hx.vs s1⟩⟩
  | @t2 a x z d1 d2 e hx hz =>
    have s1 : dsm0 d1 = true := List.all_eq_true.mp s d1 (by simp)
    have s2 : dsm0 d2 = true := List.all_eq_true.mp s d2 (by simp)
    refine ⟨_, .tup e (by simp) fun y hy => ?_⟩
    rcases List.mem_cons.mp hy with g | g
    · rw [g]
      exact ⟨hx.kd, hx.vs s1⟩
    · rw [List.mem_singleton.mp g]
      exact ⟨hz.kd, hz.vs s2⟩
def slen : V → Nat
  | .str z => z.length
  | _ => 0
/-- what is wrong with a thing that is to be texts -/
def badOf : Option (List V) → V
  | none => .int (-1)
  | some xs => if xs.length > 8 then .int (-1) else match xs.findIdx? (fun y => !sgV y) with
    | some k => .int (k : Int)
    | none => if (xs.map slen).sum > 2000 then .str (Str.ofString "long") else .non
/-- whether a thing is a place of these texts -/
def placeV (ts : List Str) : Option (List V) → Bool
  | some [x, y] => inV2 0 ((ts.length : Int) - 1) x && (match x with
    | .int i => inV2 0 (((ts.getD i.toNat Str.empty).length : Int) - 1) y
    | _ => false)
  | _ => false
end Ev
set_option maxHeartbeats 4000000
namespace Ev
open PySem PySem.Spec PyProof.Rows L2
theorem bad1 {xs : List V} (h : xs.length > 8) : badOf (some xs) = .int (-1) := if_pos h
theorem bad2 {xs : List V} {i : Nat} {y : V} (h : ¬ xs.length > 8) (hy : xs[i]? = some y) (b : sgV y = false) (g : ∀ (j : Nat) c, j < i → xs[j]? = some c → sgV c = true) : badOf (some xs) = .int (i : Int) := by
  obtain ⟨hi, ey⟩ := List.getElem?_eq_some_iff.mp hy
  have e : xs.findIdx? (fun y => !sgV y) = some i := by
    rw [List.findIdx?_eq_some_iff_getElem]
    refine ⟨hi, by rw [ey, b]; rfl, fun j hj => ?_⟩
    rw [g j xs[j] hj (List.getElem?_eq_getElem (by omega))]
    simp
  show (if xs.length > 8 then V.int (-1) else match xs.findIdx? (fun y => !sgV y) with
    | some k => V.int (k : Int)
    | none => if (xs.map slen).sum > 2000 then V.str (Str.ofString "long") else V.non) = _
  rw [if_neg h, e]
theorem good_none {xs : List V} (g : ∀ c ∈ xs, sgV c = true) : xs.findIdx? (fun y => !sgV y) = none := by
  rw [List.findIdx?_eq_none_iff]
  intro c hc
  rw [g c hc]
  rfl
theorem bad3 {xs : List V} (h : ¬ xs.length > 8) (g : ∀ c ∈ xs, sgV c = true) (s : (xs.map slen).sum > 2000) : badOf (some xs) = .str (Str.ofString "long") := by
  show (if xs.length > 8 then V.int (-1) else match xs.findIdx? (fun y => !sgV y) with
    | some k => V.int (k : Int)
    | none => if (xs.map slen).sum > 2000 then V.str (Str.ofString "long") else V.non) = _
  rw [if_neg h, good_none g]
  exact if_pos s
theorem bad4 {xs : List V} (h : ¬ xs.length > 8) (g : ∀ c ∈ xs, sgV c = true) (s : ¬ (xs.map slen).sum > 2000) : badOf (some xs) = .non := by
  show (if xs.length > 8 then V.int (-1) else match xs.findIdx? (fun y => !sgV y) with
    | some k => V.int (k : Int)
    | none => if (xs.map slen).sum > 2000 then V.str (Str.ofString "long") else V.non) = _
  rw [if_neg h, good_none g]
  exact if_neg s
/-- what is right: at most eight texts of signs -/
theorem bad_non {o : Option (List V)} (h : badOf o = .non) : ∃ xs, o = some xs ∧ xs.length ≤ 8 ∧ (∀ c ∈ xs, sgV c = true) ∧ (xs.map slen).sum ≤ 2000 := by
  cases o with
  | none => cases h
  | some xs =>
    by_cases h1 : xs.length > 8
    · rw [bad1 h1] at h
      cases h
    · cases e : xs.findIdx? (fun y => !sgV y) with
      | some k =>
        have h' : (if xs.length > 8 then V.int (-1) else match xs.findIdx? (fun y => !sgV y) with
          | some k => V.int (k : Int)
          | none => if (xs.map slen).sum > 2000 then V.str (Str.ofString "long") else V.non) = V.non := h
        rw [if_neg h1, e] at h'
        cases h'
      | none =>
        have g : ∀ c ∈ xs, sgV c = true := fun c hc => by
          have := List.findIdx?_eq_none_iff.mp e c hc
          simpa using this
        refine ⟨xs, rfl, by omega, g, ?_⟩
        by_cases s : (xs.map slen).sum > 2000
        · rw [bad3 h1 g s] at h
          cases h
        · omega
theorem sg_str {y : V} (h : sgV y = true) : ∃ z, y = .str z := by
  cases y with
  | str z => exact ⟨z, rfl⟩
  | non => cases h
  | bl b => cases h
  | int i => cases h
  | byt b => cases h
  | flt b => cases h
  | ref a => cases h
  | ty n => cases h
theorem bad_strs {xs : List V} (g : ∀ c ∈ xs, sgV c = true) : ∃ ts : List Str, xs = ts.map V.str ∧ ∀ t ∈ ts, sgB t = true := by
  induction xs with
  | nil => exact ⟨[], rfl, fun t h => absurd h (by simp)⟩
  | cons y xs ih =>
    obtain ⟨z, rfl⟩ := sg_str (g y (by simp))
    obtain ⟨ts, rfl, h⟩ := ih fun c hc => g c (List.mem_cons_of_mem _ hc)
    refine ⟨z :: ts, rfl, fun t ht => ?_⟩
    rcases List.mem_cons.mp ht with e | e
    · rw [e]
      exact g (.str z) (by simp)
    · exact h t e
theorem sum_cast (ns : List Nat) : (ns.map fun n : Nat => (n : Int)).sum = ((ns.sum : Nat) : Int) := by
  induction ns with
  | nil => rfl
  | cons n ns ih =>
    rw [List.map_cons, List.sum_cons, List.sum_cons, ih]
    simp
/-- the lengths of the texts of a tuple -/
theorem lc_lens {K : PySem.W.Frag} {a : Addr} {ts : List Str} {i : Nat} {σ : L2.St} {H1 : Hp} {D : Addr} {Qd : Hp → Prop} (hi : i < σ.length) (ha : H1 a = some (.tup (ts.map V.str))) (nD : H1 D = none) (hlen : ∀ t ∈ ts, t.length ≤ 5000) (hn : ts.length ≤ 1000)
    (hd : ∀ H, H D = some (.lst ((ts.map fun t => (t.length : Int)).map V.int)) → Same H1 H → Qd H) :
    ∃ W : Nat → Nat → Hp → Prop, (∃ m, W 0 m (upd H1 D (.lst []))) ∧ ∀ j m H, W j m H →
      ((Itt K a).stop j H ∧ Qd H) ∨ ((Itt K a).go j H ∧ ∃ Nx : Hp → Prop, (∀ H', Nx H' → ∃ m', m' < m ∧ W (j + 1) m' H') ∧ ∀ x H', (Itt K a).yld j H x H' → gName i x (wipe σ [i]) H' fun σ2 H2 => wipe σ2 [i] = wipe σ [i] ∧ tYes σ2 H2 fun b H3 =>
        if b = true then tCB rLenZ (tCons (tVar i) tNil) σ2 H3 fun y H4 => ∃ acc, H4 D = some (.lst acc) ∧ acc.length < sizeLine ∧ Nx (upd H4 D (.lst (acc ++ [y]))) else Nx H3) := by
  have sAt : ∀ {H' : Hp} {o : HO}, Same H1 H' → Same H1 (upd H' D o) := fun {H' o} k b u e => by
    rw [upd_ne (ne_of_none e nD)]
    exact k b u e
  refine lc_tup (K := K) (xs := ts.map V.str) (fun j H => H D = some (.lst (((ts.take j).map fun t => (t.length : Int)).map V.int)) ∧ Same H1 H) ⟨upd_same, sAt (Same.refl _)⟩ (fun j H _ p => SqT.of (p.2 _ _ ha)) (fun j x H hx p => ?_) (fun H p => ?_)
  · rw [List.getElem?_map] at hx
    cases e : ts[j]? with
    | none => rw [e] at hx; cases hx
    | some t =>
      rw [e] at hx
      obtain rfl : V.str t = x := Option.some.inj hx
      have hm := List.mem_of_getElem? e
      obtain ⟨hD, hs⟩ := p
      have hw : ((wipe σ [i]).set i (some (V.str t)))[i]? = some (some (V.str t)) := by
        rw [List.getElem?_set_self]
        show i < (σ.set i none).length
        rw [List.length_set]
        exact hi
      refine ⟨?_, .str t, hw, t, rfl, len5 (hlen t hm), _, hD, ?_, ?_, sAt hs⟩
      · show ((σ.set i none).set i (some (V.str t))).set i none = σ.set i none
        rw [List.set_set, List.set_set]
      · have h3 : sizeLine = 16777216 := sizeLine_eq
        rw [List.length_map, List.length_map, List.length_take]
        omega
      · rw [upd_same]
        have et : ts.take (j + 1) = ts.take j ++ [t] := by
          rw [List.take_add_one, e]
          rfl
        rw [et, List.map_append, List.map_append]
        rfl
  · obtain ⟨hD, hs⟩ := p
    rw [List.length_map, List.take_length] at hD
    exact hd H hD hs
theorem lens_sum (ts : List Str) : (ts.map fun t => (t.length : Int)).sum = ((((ts.map V.str).map slen).sum : Nat) : Int) := by
  rw [List.map_map, ← sum_cast, List.map_map]
  rfl
end Ev
set_option maxHeartbeats 4000000
namespace Ev
open PySem PySem.Spec PyProof.Rows L2
theorem joinL1 : ∀ cs : List Nat, TL.joinL [] (cs.map fun c => [c]) = cs
  | [] => rfl
  | [c] => rfl
  | c :: d :: r => by
    have e := joinL1 (d :: r)
    show [c] ++ ([] ++ TL.joinL [] ((d :: r).map fun c => [c])) = c :: d :: r
    rw [e]
    rfl
theorem join1 (cs : List Nat) : Txt.join (Str.ofString "") (cs.map fun c => SX.S [c]) = SX.S cs := by
  have e := SX.join_S [] (cs.map fun c => [c])
  rw [List.map_map, joinL1] at e
  exact e
theorem sgB_S (cs : List Nat) : sgB (SX.S cs) = cs.all sgC := rfl
theorem S_eta (z : Str) : SX.S z.cps.toList = z := SX.S_tl z
theorem len_S (z : Str) : z.length = z.cps.toList.length := by simp [Str.length]
theorem sgB_mem {z : Str} (h : sgB z = true) {c : Nat} (hc : c ∈ z.cps.toList) : sgC c = true := List.all_eq_true.mp h c hc
theorem sgB_of_mem {z : Str} (h : ∀ c ∈ z.cps.toList, sgC c = true) : sgB z = true := List.all_eq_true.mpr h
theorem sgB_cut {z : Str} (h : sgB z = true) (lo hi : Option Int) : sgB (cutS z lo hi) = true := by
  refine sgB_of_mem fun c hc => sgB_mem h ?_
  have hc' : c ∈ (z.cps.toList.drop (HT.sIx z.length 0 lo)).take (HT.sIx z.length z.length hi - HT.sIx z.length 0 lo) := by
    simpa [cutS] using hc
  exact List.mem_of_mem_drop (List.mem_of_mem_take hc')
theorem cut_len {z : Str} (lo hi : Option Int) : (cutS z lo hi).length ≤ z.length := by
  rw [len_S, len_S]
  have e : (cutS z lo hi).cps.toList = (z.cps.toList.drop (HT.sIx z.length 0 lo)).take (HT.sIx z.length z.length hi - HT.sIx z.length 0 lo) := by simp [cutS]
  rw [e, List.length_take, List.length_drop]
  omega
theorem cut_len2 {z : Str} (lo hi : Option Int) : (cutS z lo hi).length ≤ HT.sIx z.length z.length hi - HT.sIx z.length 0 lo := by
  rw [len_S]
  have e : (cutS z lo hi).cps.toList = (z.cps.toList.drop (HT.sIx z.length 0 lo)).take (HT.sIx z.length z.length hi - HT.sIx z.length 0 lo) := by simp [cutS]
  rw [e, List.length_take]
  omega
theorem sgB_app {a b : Str} (h1 : sgB a = true) (h2 : sgB b = true) : sgB (a ++ b) = true := by
  refine sgB_of_mem fun c hc => ?_
  have e : (a ++ b).cps.toList = a.cps.toList ++ b.cps.toList := TL.tl_append a b
  rw [e] at hc
  rcases List.mem_append.mp hc with h | h
  · exact sgB_mem h1 h
  · exact sgB_mem h2 h
theorem app_len (a b : Str) : (a ++ b).length = a.length + b.length := by
  have e : (a ++ b).cps.toList = a.cps.toList ++ b.cps.toList := TL.tl_append a b
  rw [len_S, e, List.length_append, ← len_S, ← len_S]
theorem rep_all (x : Array Nat) : ∀ (n : Nat) (acc : Array Nat), ((List.replicate n x).foldl (· ++ ·) acc).size = acc.size + n * x.size ∧ ∀ c ∈ ((List.replicate n x).foldl (· ++ ·) acc).toList, c ∈ acc.toList ∨ c ∈ x.toList
  | 0, acc => ⟨by simp, fun c h => .inl h⟩
  | n + 1, acc => by
    obtain ⟨h1, h2⟩ := rep_all x n (acc ++ x)
    rw [List.replicate_succ, List.foldl_cons]
    refine ⟨by rw [h1, Array.size_append, Nat.succ_mul]; omega, fun c hc => ?_⟩
    rcases h2 c hc with h | h
    · rw [Array.toList_append] at h
      exact List.mem_append.mp h
    · exact .inr h
theorem mul_facts (z : Str) (n : Int) : (Txt.mul z n).length ≤ z.length * n.toNat ∧ (sgB z = true → sgB (Txt.mul z n) = true) := by
  unfold Txt.mul
  by_cases h1 : n < 1
  · rw [if_pos h1]
    exact ⟨Nat.zero_le _, fun _ => rfl⟩
  · rw [if_neg h1]
    by_cases h2 : (n == 1 || z.length == 0) = true
    · rw [if_pos h2]
      exact ⟨Nat.le_mul_of_pos_right _ (by omega), fun h => h⟩
    · rw [if_neg h2]
      obtain ⟨r1, r2⟩ := rep_all z.cps n.toNat #[]
      refine ⟨?_, fun h => sgB_of_mem fun c hc => ?_⟩
      · show Array.size _ ≤ _
        rw [r1, Nat.mul_comm]
        show 0 + _ ≤ _
        rw [Nat.zero_add]
        exact Nat.le_refl _
      · rcases r2 c hc with q | q
        · cases q
        · exact sgB_mem h q
theorem cut_hi {z : Str} {lo : Option Int} {u : Int} (h : 0 ≤ u) : ((cutS z lo (some u)).length : Int) ≤ u := by
  have e := cut_len2 (z := z) lo (some u)
  have e2 : HT.sIx z.length z.length (some u) ≤ u.toNat := by
    show (if u < 0 then (u + (z.length : Int)).toNat else min u.toNat z.length) ≤ u.toNat
    rw [if_neg (by omega)]
    exact Nat.min_le_left _ _
  omega
theorem cut_lohi {z : Str} {b e : Int} (h : 0 ≤ b) (h2 : b ≤ e) : ((cutS z (some b) (some e)).length : Int) ≤ e - b := by
  have q := cut_len2 (z := z) (some b) (some e)
  have e1 : HT.sIx z.length z.length (some e) = min e.toNat z.length := by
    show (if e < 0 then (e + (z.length : Int)).toNat else min e.toNat z.length) = _
    rw [if_neg (by omega)]
  have e2 : HT.sIx z.length 0 (some b) = min b.toNat z.length := by
    show (if b < 0 then (b + (z.length : Int)).toNat else min b.toNat z.length) = _
    rw [if_neg (by omega)]
  rw [e1, e2] at q
  omega
end Ev
set_option maxHeartbeats 4000000
/-! Tuples put together and cut, the heap only growing. -/
namespace Ev
open PySem PySem.Spec PyProof.Rows L2
def rCatM : R2 := fun x y H Q => ∃ a b xs ys, x = .ref a ∧ y = .ref b ∧ H a = some (.tup xs) ∧ H b = some (.tup ys) ∧ xs.length + ys.length ≤ 1000 ∧ ∀ p H', Same H H' → H' p = some (.tup (xs ++ ys)) → Q (.ref p) H'
theorem sameNew {H : Hp} {q : Addr} {o : HO} (h : H q = none) : Same H (upd H q o) := fun b u e => by
  rw [upd_ne (ne_of_none e h)]
  exact e
theorem op_catM {X : Cx} : OpR X (binaryOp .Add) rCatM := fun pins s σ H x y v u Q I rx ry h =>
  op_catA pins s σ H x y v u Q I rx ry (by
    obtain ⟨a, b, xs, ys, ex, ey, ha, hb, hz, q⟩ := h
    refine ⟨a, b, xs, ys, ex, ey, SqT.of ha, SqT.of hb, ?_, fun e => ?_, fun _ e => ?_, fun _ _ p np => ?_⟩
    · have h3 : sizeLine = 16777216 := sizeLine_eq
      omega
    · refine q b H (Same.refl H) ?_
      rw [e, List.nil_append]
      exact hb
    · refine q a H (Same.refl H) ?_
      rw [e, List.append_nil]
      exact ha
    · exact q p _ (sameNew np) upd_same)
def rSlM : V → Option Int → Option Int → Hp → VK → Prop := fun x lo hi H Q => ∃ a xs, x = .ref a ∧ H a = some (.tup xs) ∧ ∀ p H', Same H H' → H' p = some (.tup (cutV xs lo hi)) → Q (.ref p) H'
theorem sl_tupM {X : Cx} : SlR X rSlM := fun pins s σ H x v vl vu lo hi sl Q I rx hs pl pu h =>
  sl_tupA pins s σ H x v vl vu lo hi sl Q I rx hs pl pu (by
    obtain ⟨a, xs, ex, ha, q⟩ := h
    refine ⟨a, xs, ex, SqT.of ha, fun e => ?_, fun _ p np => q p _ (sameNew np) upd_same⟩
    refine q a H (Same.refl H) ?_
    have ec : cutV xs lo hi = xs := by
      unfold cutV
      rw [e.1, e.2, List.drop_zero, Nat.sub_zero, List.take_length]
    rw [ec]
    exact ha)
theorem cutV_mem {xs : List V} {lo hi : Option Int} {y : V} (h : y ∈ cutV xs lo hi) : y ∈ xs := List.mem_of_mem_drop (List.mem_of_mem_take h)
/-- the place that is one -/
theorem place_true {ts : List Str} {o : Option (List V)} (h : placeV ts o = true) : ∃ (i j : Int), o = some [.int i, .int j] ∧ 0 ≤ i ∧ i < ts.length ∧ 0 ≤ j ∧ j < ((ts.getD i.toNat Str.empty).length : Int) := by
  unfold placeV at h
  split at h
  · rename_i x y
    obtain ⟨h1, h2⟩ := Bool.and_eq_true_iff.mp h
    cases x with
    | int i =>
      obtain ⟨a1, a2⟩ := Bool.and_eq_true_iff.mp (show (decide (0 ≤ i) && decide (i ≤ (ts.length : Int) - 1)) = true from h1)
      have a1 := of_decide_eq_true a1
      have a2 := of_decide_eq_true a2
      cases y with
      | int j =>
        obtain ⟨b1, b2⟩ := Bool.and_eq_true_iff.mp (show (decide (0 ≤ j) && decide (j ≤ ((ts.getD i.toNat Str.empty).length : Int) - 1)) = true from h2)
        have b1 := of_decide_eq_true b1
        have b2 := of_decide_eq_true b2
        exact ⟨i, j, rfl, a1, by omega, b1, by omega⟩
      | non => cases h2
      | bl b => cases h2
      | str b => cases h2
      | byt b => cases h2
      | flt b => cases h2
      | ref b => cases h2
      | ty b => cases h2
    | non => cases h1
    | bl b => cases h1
    | str b => cases h1
    | byt b => cases h1
    | flt b => cases h1
    | ref b => cases h1
    | ty b => cases h1
  · cases h
theorem text_at {ts : List Str} {i : Int} (h0 : 0 ≤ i) (h1 : i < ts.length) : atI (ts.map V.str) i = some (.str (ts.getD i.toNat Str.empty)) ∧ ts.getD i.toNat Str.empty ∈ ts := by
  have hi : i.toNat < ts.length := by omega
  constructor
  · have e1 : i = ((i.toNat : Nat) : Int) := by omega
    rw [e1]
    refine atI_nat ?_
    rw [List.getElem?_map, List.getD_eq_getElem?_getD, Int.toNat_natCast, List.getElem?_eq_getElem hi]
    rfl
  · rw [List.getD_eq_getElem?_getD, List.getElem?_eq_getElem hi]
    exact List.getElem_mem hi
end Ev
set_option maxHeartbeats 4000000
namespace Ev
open PySem PySem.Spec PyProof.Rows L2
/-- x is True, x is False, x any value of a kind -/
def rIsT : R2 := fun x y H Q => ∃ (b : Bool) (k : Kn), y = .bl b ∧ Kd H x k ∧ Q (.bl (decide (x = .bl b))) H
theorem op_isT {X : Cx} : OpR X (compareOp .Is) rIsT := by
  intro pins s σ H x y v u Q I rx ry h
  obtain ⟨b, k, rfl, hk, q⟩ := h
  cases (show u = Value.bool b from ry)
  cases hk with
  | bl a =>
    refine op_isBl pins s σ H _ (.bl b) v _ Q I rx rfl ⟨a, b, rfl, rfl, ?_⟩
    have e : decide (V.bl a = V.bl b) = decide (a = b) := by
      by_cases z : a = b
      · subst z
        simp
      · rw [decide_eq_false z, decide_eq_false fun w => z (V.bl.inj w)]
    rw [e] at q
    exact q
  | non =>
    cases rx
    exact wpAny_is_other rfl (fun z => by cases z) ⟨.bl false, H, I, rfl, by simpa using q⟩
  | int i =>
    obtain ⟨t, rfl⟩ := rx
    exact wpAny_is_other rfl (fun z => by cases z) ⟨.bl false, H, I, rfl, by simpa using q⟩
  | str i =>
    obtain ⟨t, rfl⟩ := rx
    exact wpAny_is_other rfl (fun z => by cases z) ⟨.bl false, H, I, rfl, by simpa using q⟩
  | lst e =>
    cases rx
    exact wpAny_is_other rfl (fun z => by cases z) ⟨.bl false, H, I, rfl, by simpa using q⟩
  | tup e =>
    cases rx
    exact wpAny_is_other rfl (fun z => by cases z) ⟨.bl false, H, I, rfl, by simpa using q⟩
  | dic e =>
    cases rx
    exact wpAny_is_other rfl (fun z => by cases z) ⟨.bl false, H, I, rfl, by simpa using q⟩
end Ev
set_option maxHeartbeats 4000000
namespace LawK
open PySem PySem.Spec PyProof.Rows L2 Ev
theorem HandL.same {H H' : Hp} {p l : Addr} (k : Same H H') (h : HandL H p l) : HandL H' p l := by
  obtain ⟨cells, i, r, s, n, h1, h2, h3⟩ := h
  exact ⟨cells, i, r, s, n, k _ _ h1, k _ _ h2, h3⟩
theorem But.and {p : Addr} {H H1 H2 : Hp} (a : But p H H1) (k : Same H1 H2) : But p H H2 := fun b o n e => k b o (a b o n e)
theorem hand_ne {H : Hp} {p l' a : Addr} {o : HO} (h : HandL H p l') (e : H a = some o) (n : ∀ x1 x2 x3 x4 x5, o ≠ .lst [x1, x2, x3, x4, x5]) : a ≠ p := fun z => by
  obtain ⟨cells, i, r, s, m, h1, _⟩ := h
  rw [z, h1] at e
  exact n _ _ _ _ _ (Option.some.inj e).symm
theorem dt_but {H H' : Hp} {p l' : Addr} {v : V} {d : PyData} (h : Dt H v d) (hp : HandL H p l') (k : But p H H') : Dt H' v d := by
  induction h with
  | non => exact .non
  | bl b => exact .bl b
  | int i => exact .int i
  | str x => exact .str x
  | dic e => exact .dic (k _ _ (hand_ne hp e fun _ _ _ _ _ z => by cases z) e)
  | l0 e n => exact .l0 (k _ _ (hand_ne hp e fun _ _ _ _ _ z => by cases z) e) n
  | l1 e n _ ih => exact .l1 (k _ _ (hand_ne hp e fun _ _ _ _ _ z => by cases z) e) n ih
  | l2 e n _ _ i1 i2 => exact .l2 (k _ _ (hand_ne hp e fun _ _ _ _ _ z => by cases z) e) n i1 i2
  | t0 e => exact .t0 (k _ _ (hand_ne hp e fun _ _ _ _ _ z => by cases z) e)
  | t1 e _ ih => exact .t1 (k _ _ (hand_ne hp e fun _ _ _ _ _ z => by cases z) e) ih
  | t2 e _ _ i1 i2 => exact .t2 (k _ _ (hand_ne hp e fun _ _ _ _ _ z => by cases z) e) i1 i2
structure Hn (p l : Addr) (H H' : Hp) : Prop where
  at_ : HandL H' p l
  but : But p H H'
theorem HandL.ne {H : Hp} {p l q : Addr} (h : HandL H p l) (n : H q = none) : q ≠ p ∧ q ≠ l := by
  obtain ⟨cells, i, r, s, m, h1, h2, _⟩ := h
  exact ⟨fun z => (by rw [z, h1] at n; cases n), fun z => (by rw [z, h2] at n; cases n)⟩
theorem Hn.new {p l q : Addr} {H H' : Hp} {o : HO} (h : Hn p l H H') (n : H' q = none) : Hn p l H (upd H' q o) := ⟨h.at_.same (Same.new n), h.but.and (Same.new n)⟩
theorem Hn.trans {p l : Addr} {H H1 H2 : Hp} (a : Hn p l H H1) (b : Hn p l H1 H2) : Hn p l H H2 := ⟨b.at_, a.but.trans b.but⟩
theorem Hn.refl {p l : Addr} {H : Hp} (h : HandL H p l) : Hn p l H H := ⟨h, But.refl p H⟩
theorem Hn.go {p l : Addr} {H H1 H2 : Hp} (a : Hn p l H H1) (h : HandL H2 p l) (b : But p H1 H2) : Hn p l H H2 := ⟨h, a.but.trans b⟩
theorem Hn.same {p l : Addr} {H H1 H2 : Hp} (a : Hn p l H H1) (k : Same H1 H2) : Hn p l H H2 := ⟨a.at_.same k, a.but.and k⟩
/-- an object that is new since H, at q, changes -/
theorem Hn.at {p l q : Addr} {H H' : Hp} {o : HO} (h : Hn p l H H') (h0 : HandL H p l) (n : H q = none) : Hn p l H (upd H' q o) := by
  obtain ⟨n1, n2⟩ := h0.ne n
  refine ⟨?_, fun b u nb e => ?_⟩
  · obtain ⟨cells, i, r, s, m, h1, h2, h3⟩ := h.at_
    exact ⟨cells, i, r, s, m, by rw [upd_ne (Ne.symm n1)]; exact h1, by rw [upd_ne (Ne.symm n2)]; exact h2, h3⟩
  · rw [upd_ne (ne_of_none e n)]
    exact h.but b u nb e
theorem sqBut {K : PySem.W.Frag} {H H' : Hp} {p a : Addr} {xs : List V} (h : SqL K H a xs) (n : a ≠ p) (b : But p H H') : SqL K H' a xs := by
  rcases h with (h | ⟨o, h⟩) | h
  · exact .inl (.inl (b _ _ n h))
  · exact .inl (.inr ⟨o, b _ _ n h⟩)
  · exact .inr h
structure Dk (P : Program) (w : World) (K : PySem.W.Frag) (mg : Str → Option Value) (base : Heap) (x : Str) (st : Stmt) (ps : List Str) (k : Nat) (sp : Sp) (f : Addr) (fd : FuncData) : Prop where
  F : Fun K x x st f fd
  b : Binds K fd ps []
  g : mg x = some (.ref f)
  ok : FnOk P w K mg base CX0 k f fd ps sp
theorem len6 {z : Str} {n : Nat} (h : z.length ≤ n) (hn : n ≤ 5000 := by decide) : z.length ≤ sizeLine := len5 (Nat.le_trans h hn)
theorem sg_at {z : Str} {v : Int} (hz : sgB z = true) (h0 : 0 ≤ v) (h1 : v < (z.length : Int)) : ∃ c, atI z.cps.toList v = some c ∧ sgC c = true := by
  obtain ⟨c, e, hm⟩ := atI_in (xs := z.cps.toList) h0 (by rw [← len_S]; exact h1)
  exact ⟨c, e, sgB_mem hz hm⟩
theorem str_ok {ts : List Str} (hts : ∀ t ∈ ts, t.length ≤ 5000) {H : Hp} {y : V} (h : y ∈ ts.map V.str) : (∃ k, Kd H y k) ∧ Vs y := by
  obtain ⟨z, hz, rfl⟩ := List.mem_map.mp h
  refine ⟨⟨_, .str z⟩, fun w e => ?_⟩
  cases e
  exact hts z hz
theorem lit_ok {z : Str} (h : z.length ≤ 5000) {H : Hp} : (∃ k, Kd H (.str z) k) ∧ Vs (.str z) := ⟨⟨_, .str z⟩, fun w e => by
  cases e
  exact h⟩
theorem int_ok {i : Int} {H : Hp} : (∃ k, Kd H (.int i) k) ∧ Vs (.int i) := ⟨⟨_, .int i⟩, fun w e => by cases e⟩
theorem tup_ne {H : Hp} {p l a : Addr} {xs : List V} (h : HandL H p l) (e : H a = some (.tup xs)) : a ≠ p := hand_ne h e fun _ _ _ _ _ z => by cases z
theorem Kd.but {H H' : Hp} {p l : Addr} {x : V} {k : Kn} (h : Kd H x k) (h0 : HandL H p l) (h1 : HandL H' p l) (b : But p H H') : Kd H' x k := by
  cases h with
  | non => exact .non
  | bl b => exact .bl b
  | int i => exact .int i
  | str z => exact .str z
  | @lst a xs e =>
    by_cases z : a = p
    · obtain ⟨cells, i, r, s, m, h2, _⟩ := h1
      rw [z]
      exact .lst h2
    · exact .lst (b _ _ z e)
  | tup e => exact .tup (b _ _ (tup_ne h0 e) e)
  | dic e => exact .dic (b _ _ (hand_ne h0 e fun _ _ _ _ _ z => by cases z) e)
theorem Tg.but {H H' : Hp} {p l : Addr} {x : V} {o : Option (List V)} (h : Tg H x o) (h0 : HandL H p l) (h1 : HandL H' p l) (b : But p H H') : Tg H' x o := by
  cases h with
  | no h n s => exact .no (Kd.but h h0 h1 b) n s
  | tup e n h => exact .tup (b _ _ (tup_ne h0 e) e) n fun y hy => ⟨let ⟨k, q⟩ := (h y hy).1; ⟨k, Kd.but q h0 h1 b⟩, (h y hy).2⟩
/-- what a thing's texts may be -/
inductive All2 {α β : Type} (R : α → β → Prop) : List α → List β → Prop
  | nil : All2 R [] []
  | cons {x : α} {y : β} {xs : List α} {ys : List β} (h : R x y) (t : All2 R xs ys) : All2 R (x :: xs) (y :: ys)
theorem All2.imp {α β : Type} {R S : α → β → Prop} {xs : List α} {ys : List β} (f : ∀ x y, R x y → S x y) (h : All2 R xs ys) : All2 S xs ys := by
  induction h with
  | nil => exact .nil
  | cons h _ ih => exact .cons (f _ _ h) ih
theorem All2.len {α β : Type} {R : α → β → Prop} {xs : List α} {ys : List β} (h : All2 R xs ys) : xs.length = ys.length := by
  induction h with
  | nil => rfl
  | cons _ _ ih => exact congrArg (· + 1) ih
theorem All2.at {α β : Type} {R : α → β → Prop} {xs : List α} {ys : List β} (h : All2 R xs ys) : ∀ {i : Nat} {x : α}, xs[i]? = some x → ∃ y, ys[i]? = some y ∧ R x y := by
  induction h with
  | nil => intro i x e; simp at e
  | cons r _ ih =>
    intro i x e
    cases i with
    | zero => cases e; exact ⟨_, rfl, r⟩
    | succ i => exact ih e
theorem All2.snoc {α β : Type} {R : α → β → Prop} {xs : List α} {ys : List β} {x : α} {y : β} (h : All2 R xs ys) (r : R x y) : All2 R (xs ++ [x]) (ys ++ [y]) := by
  induction h with
  | nil => exact .cons r .nil
  | cons r1 _ ih => exact .cons r1 ih
theorem sne {a b : Str} (h : a ≠ b) {A B : Prop} (k : B) : if decide (V.str a = V.str b) = true then A else B := by
  rw [decide_eq_false (fun z => h (V.str.inj z))]
  exact iteF k
theorem seq {a : Str} {A B : Prop} (k : A) : if decide (V.str a = V.str a) = true then A else B := by
  rw [decide_eq_true rfl]
  exact iteT k
end LawK
set_option maxHeartbeats 8000000
/-! enumerate over a tuple, as a walk. -/
namespace Ev
open PySem PySem.Spec PyProof.Rows L2
abbrev enObj (it : Addr) : Obj := { cls := .type "enumerate", data := .fields #[.none, .bool false, .ref it, rawInt 0, .none, .none] }
theorem enum_new1 {v : Value} {o : Obj} {Hh : Heap → Prop} (B : Begins v o Hh) :
    Meets (Builtin.«enumerate.__new__» ⟨[.type "enumerate", v], []⟩)
      (fun _ R s => Hh s.heap ∧ R (.ok (.ret (.ref (s.heap.push o).objs.size))) { s with heap := (s.heap.push o).push (enObj s.heap.objs.size) }) := by
  refine .of_wp fun prog w A R s hh => ?_
  obtain ⟨hp, g, d, tk, os⟩ := s
  obtain ⟨hv, hR⟩ := hh
  have hs := sub_enumerate
  have qi : ∀ {B' : Around} {E : Value → Shared → Prop} {Q : Value → Shared → Prop}, Q (.ref hp.objs.size) ⟨hp.push o, g, d, tk, os⟩ →
      wpAny (model prog w) B' (pyIter v) Q E ⟨hp, g, d, tk, os⟩ := fun q => B.iter prog w _ _ ⟨hp, g, d, tk, os⟩ _ hv q
  wp_walk using qi
  apply wpAny_stack_any
  intro st
  apply wpAny_pure
  split
  · rename_i c _ _ _ _ _
    cases (c == Value.type "enumerate") <;> (wp_walk using qi; exact ⟨_, rfl, hR⟩)
  · wp_walk using qi
    exact ⟨_, rfl, hR⟩
theorem enum_call {prog : Program} {w : World} {A : Around} {E : Value → Shared → Prop} {s : Shared} {v : Value} {o : Obj} {Hh : Heap → Prop} {Q : Value → Shared → Prop} (B : Begins v o Hh) (hv : Hh s.heap)
    (h : ∀ h', IsEnum h' (s.heap.objs.size + 1) s.heap.objs.size 0 .none → h'.get? s.heap.objs.size = some o → (∀ b u, s.heap.get? b = some u → h'.get? b = some u) →
      Q (.ref (s.heap.objs.size + 1)) { s with heap := h' }) : wpAny (model prog w) A (call (.type "enumerate") [v]) Q E s := by
  have m := enum_new1 B
  refine callType_new F.called_enumerate (by decide) (F.typeCall_enumerate_1 _) (F.newCall_enumerate_1 _) (fun obj => F.args_object_init_2 obj _) F.entry_enumerate_new m ⟨hv, ?_⟩
  have hsz : (s.heap.push o).objs.size = s.heap.objs.size + 1 := Heap.size_push ..
  show _ ∧ _
  rw [hsz]
  have hat : ((s.heap.push o).push (enObj s.heap.objs.size)).get? (s.heap.objs.size + 1) = some (enObj s.heap.objs.size) := by
    have z := Heap.get?_push_size (s.heap.push o) (o := enObj s.heap.objs.size) rfl
    rw [hsz] at z
    exact z
  exact ⟨⟨_, hat, rfl⟩, h _ hat (Heap.get?_push_of_some _ (Heap.get?_push_size _ B.free)) fun b u x => Heap.get?_push_of_some _ (Heap.get?_push_of_some _ x)⟩
/-- the tuple at a as it stands at each turn, each item in a new pair -/
def Iten (K : PySem.W.Frag) (a : Addr) : It :=
  ⟨fun i H => ∃ (xs : List V) (x : V), SqT K H a xs ∧ xs[i]? = some x,
   fun i H v H' => ∃ T x, v = .ref T ∧ H T = none ∧ H' = upd H T (.tup [.int (i : Nat), x]) ∧ ∀ xs, SqT K H a xs → xs[i]? = some x,
   fun i H => ∃ xs : List V, SqT K H a xs ∧ xs.length ≤ i⟩
theorem turn_en {P : Program} {w : World} {K : PySem.W.Frag} {elts : List Expr} {kk : Nat} {tpos : Pos} (a e it : Addr) :
    Turn P w K (.Tuple elts kk tpos) (Iten K a) [e, it] e (fun i h => (∃ old, IsEnum h e it ((i : Nat) : Int) old) ∧ h.IsTupleIter it a i ∧ e ≠ it ∧ a ≠ it ∧ a ≠ e) where
  mem := List.mem_cons_self
  obj := by
    rintro i h ⟨⟨old, he⟩, ⟨o, ho, hc, hd⟩, _⟩ b hb
    rcases List.mem_cons.mp hb with rfl | hb
    · exact ⟨_, he, fun v q => by cases q⟩
    · obtain rfl := List.mem_singleton.mp hb
      exact ⟨o, ho, fun v q => by rw [hd] at q; cases q⟩
  keep := by
    rintro i h h' ⟨⟨old, he⟩, hi, hn⟩ k
    exact ⟨⟨old, k e (by simp) _ he⟩, hi.at fun o q => k it (by simp) o q, hn⟩
  item := by
    intro X hP hw hK hc i pins s σ H E I hf st hg
    subst hP hw hK
    obtain ⟨⟨old, he⟩, hit, hne, hai, hae⟩ := st
    obtain ⟨xs, x, hq, hx⟩ := hg
    obtain ⟨its, rv, p, hz⟩ := I.tuple hq
    obtain ⟨u, hu, ru⟩ := rv.get hx
    have hel : e < s.heap.objs.size := Heap.lt_size he
    have hil : it < s.heap.objs.size := by
      obtain ⟨_, q, _⟩ := hit
      exact Heap.lt_size q
    have hlt : i < its.toArray.size := by
      rw [List.size_toArray]
      exact (List.getElem?_eq_some_iff.mp hu).1
    have D := Draws.tuple (prog := X.prog) (w := X.w) (A := X.A.in1) (I.ok.hd hc) it a hai its.toArray
    refine wpAny_pyNext_enum_itemD D he ⟨hit, (show s.heap.IsTuple a its.toArray from p)⟩ hlt hne (by simp [hne, Ne.symm hae]) fun y h' tk hy ho hst hT hsz hk => ?_
    have ey : y = u := by
      have z : its.toArray[i]? = some y := hy
      rw [List.getElem?_toArray, hu] at z
      exact (Option.some.inj z).symm
    subst ey
    refine ⟨_, rfl, ?_⟩
    refine wpAny_letOwnedTupleGo_enum (s := ⟨h', s.gens, s.drawn, tk + 1, s.os⟩) ho ?_
    intro h2 he2 sb
    have at2 : h2.get? s.heap.objs.size = some { cls := .type "tuple", data := .seq #[.int i tk, y] } := by
      rw [sb.2 _ (Nat.ne_of_gt hel)]
      exact hT
    have cell : ObjOk X.prog X.w (upd H s.heap.objs.size (.tup [.int (i : Nat), x])) h2 s.heap.objs.size (.tup [.int (i : Nat), x]) := by
      refine ⟨by show 2 ≤ sizeLine; decide, [.int i tk, y], .cons ⟨_, rfl⟩ (.cons ru .nil), ⟨_, at2, rfl, _, rfl⟩⟩
    have far : ∀ b ob, b ∉ [e, it] → s.heap.get? b = some ob → h2.get? b = some ob := fun b ob hb q => by
      have n1 : b ≠ e := fun z => hb (by simp [z])
      have n2 : b ≠ it := fun z => hb (by simp [z])
      rw [sb.2 b n1]
      exact hk b ob n1 n2 q
    have J := I.turnedNew (ch := [e, it]) (t' := tk + 1) far hf (Nat.le_refl _) cell
    refine ⟨.ref s.heap.objs.size, _, J, rfl, ⟨_, x, rfl, I.hok.fresh (Nat.le_refl _), rfl, fun ys hy => by rw [I.tuple_inj hy hq]; exact hx⟩, ⟨⟨y, ?_⟩, ?_, hne, hai, hae⟩, fun b hb => ?_⟩
    · have e1 : ((i + 1 : Nat) : Int) = (i : Int) + 1 := by omega
      rw [e1]
      exact he2
    · exact hst.1.at fun o q => by
        rw [sb.2 it (Ne.symm hne)]
        exact q
    · have lt : b < s.heap.objs.size := by
        rcases List.mem_cons.mp hb with rfl | hb
        · exact hel
        · obtain rfl := List.mem_singleton.mp hb
          exact hil
      rw [upd_ne (Nat.ne_of_lt lt)]
      exact (hf b hb).1
  done := by
    intro X hP hw hK hc i pins s σ H E I hf st hg
    subst hP hw hK
    obtain ⟨⟨old, he⟩, hit, hne, hai, hae⟩ := st
    obtain ⟨xs, hq, hx⟩ := hg
    obtain ⟨its, rv, p, hz⟩ := I.tuple hq
    obtain ⟨f0, f1, f2, f3, f4, f5⟩ := hf it (by simp)
    have hl := rv.length
    have none_i : its.toArray[i]? = none := by
      rw [List.getElem?_toArray, List.getElem?_eq_none_iff]
      omega
    have D : Draws X.prog X.w X.A.in1 it [it, a] i (fun j v => its.toArray[j]? = some v) (fun j h => (h.IsTupleIter it a j ∧ h.IsTuple a its.toArray) ∧ i ≤ j) :=
      { live := fun _ _ st => let ⟨o, ho, _⟩ := st.1.1; ⟨o, ho⟩
        frame := fun _ _ _ st hk => ⟨⟨st.1.1.at fun o e => hk it (by simp) o e, st.1.2.at fun o e => hk a (by simp) o e⟩, st.2⟩
        item := fun j _ _ _ hj st _ => absurd st.2 (by omega)
        done := fun s Q E st hE => wpAny_nextOf_tuple_end (I.ok.hd hc) st.1.1 st.1.2 none_i hE }
    refine wpAny_pyNext_enum_endD D he ⟨⟨hit, (show s.heap.IsTuple a its.toArray from p)⟩, Nat.le_refl _⟩ fun h' eb => ⟨rfl, ?_⟩
    exact I.turned (t' := s.toks) (fun b o hb q => eb b o hb q) f0 f1 f3 f4 f5
  self := fun A i s Q E st h => by
    obtain ⟨⟨_, he⟩, _⟩ := st
    exact wpAny_pyIter_enum he h
def iEnumT (K : PySem.W.Frag) (ta : TA) : TI := fun σ H R => ta σ H fun vs H1 => ∃ a xs, vs = [.ref a] ∧ SqT K H1 a xs ∧ R (Iten K a) H1
theorem pi_enumT {X : Cx} {e : Expr} {ta : TA} {p pos tpos : Pos} {elts : List Expr} {kk : Nat} (hg : Gl X "enumerate") (hm : X.mg "enumerate" = none) (ha : PA X [e] ta) (hs : starEach [e] X.env = [(false, eval e X.env)] := by rfl) :
    PI X (.Tuple elts kk tpos) (.Call (.Name "enumerate" p) [e] [] pos) (iEnumT X.K ta) := by
  constructor
  intro pins s σ H R I h
  refine Call_ (ld_blt I hg hm boot_enumerate (PyProof.Rows.callWith_type1 (thn (ha.run pos pins s σ H _ I h) ?_) hs rfl))
  rintro us s1 ⟨vs, H1, I1, r1, a, xs, rfl, hq, q⟩
  obtain ⟨u, rfl, ru⟩ := vals1 r1
  cases ru
  obtain ⟨its, rv, p', hz⟩ := I1.tuple hq
  have hal : a < s1.heap.objs.size := by
    obtain ⟨o, ho, _⟩ := p'
    exact Heap.lt_size ho
  refine enum_call (begins_tuple a its.toArray) (show s1.heap.IsTuple a its.toArray from p') fun h' he hit hk => wpAny_pyIter_enum he ?_
  have I2 : Inv X pins σ H1 { s1 with heap := h' } := I1.kept (t' := s1.toks) hk
  refine ⟨s1.heap.objs.size + 1, [s1.heap.objs.size + 1, s1.heap.objs.size], _, _, H1, rfl, I2, turn_en a (s1.heap.objs.size + 1) s1.heap.objs.size, ⟨⟨.none, he⟩, ⟨_, hit, rfl, rfl⟩, Nat.succ_ne_self _, Nat.ne_of_lt hal, Nat.ne_of_lt (Nat.lt_succ_of_lt hal)⟩, fun b hb => ?_, q⟩
  have hle : s1.heap.objs.size ≤ b := by
    rcases List.mem_cons.mp hb with rfl | hb
    · exact Nat.le_succ _
    · obtain rfl := List.mem_singleton.mp hb
      exact Nat.le_refl _
  exact I1.fpOk hle (I1.hok.fresh hle)
/-- for i, x in enumerate(t) -/
theorem for_enT {K : PySem.W.Frag} {a : Addr} {xs : List V} {g : TG} {tb : TS} {D : Ends} {σ : L2.St} {H : Hp} (Pv : Nat → L2.St → Hp → Prop) (h0 : Pv 0 σ H) (hl : ∀ i σ H, Pv i σ H → SqT K H a xs)
    (hs : ∀ (i : Nat) x σ H, xs[i]? = some x → Pv i σ H → ∀ T, H T = none → g (.ref T) σ (upd H T (.tup [.int (i : Nat), x])) fun σ2 H2 => tb { D with nx := Pv (i + 1), ct := Pv (i + 1), bk := D.nx } σ2 H2) (hd : ∀ σ H, Pv xs.length σ H → D.nx σ H) :
    ∃ W : Nat → Nat → L2.St → Hp → Prop, (∃ m, W 0 m σ H) ∧ ∀ i m σ H, W i m σ H →
      ((Iten K a).stop i H ∧ D.nx σ H) ∨ ((Iten K a).go i H ∧ ∃ N : L2.St → Hp → Prop, (∀ σ' H', N σ' H' → ∃ m', m' < m ∧ W (i + 1) m' σ' H') ∧ ∀ x H', (Iten K a).yld i H x H' → g x σ H' fun σ2 H2 => tb { D with nx := N, ct := N, bk := D.nx } σ2 H2) := by
  refine ⟨fun i m σ H => m = xs.length - i ∧ i ≤ xs.length ∧ Pv i σ H, ⟨xs.length, by simp, Nat.zero_le _, h0⟩, ?_⟩
  rintro i m σ H ⟨rfl, hi, p⟩
  have q := hl i σ H p
  by_cases hlt : i < xs.length
  · refine .inr ⟨⟨xs, xs[i], q, List.getElem?_eq_getElem hlt⟩, Pv (i + 1), fun σ' H' p' => ⟨xs.length - (i + 1), by omega, rfl, hlt, p'⟩, fun v H' y => ?_⟩
    obtain ⟨T, x, rfl, nT, rfl, hx⟩ := y
    exact hs i x σ H (hx xs q) p T nT
  · have e : i = xs.length := by omega
    subst e
    exact .inl ⟨⟨xs, q, Nat.le_refl _⟩, hd σ H p⟩
end Ev
set_option maxHeartbeats 4000000
/-! Own errors whose __init__ says super().__init__() and nothing else. -/
namespace Ev
open PySem PySem.W PySem.Calls PyProof.Rows L2

abbrev supArgs (p : Pos) : Arguments := { posonlyargs := [], args := [{ arg := "self", annotation := none, pos := p }], vararg := none, kwonlyargs := [], kw_defaults := [], kwarg := none, defaults := [] }
abbrev supBody (p0 p1 p2 p3 p4 : Pos) : List Stmt := [.Expr (.Call (.Attribute (.Call (.Name "super" p0) [] [] p1) "__init__" p2) [] [] p3) p4]

abbrev supScope : Scope := { kind := .function, names := [(PySem.Str.ofString "self", .local), (PySem.Str.ofString "__class__", .free), (PySem.Str.ofString "super", .globalImplicit)], isGenerator := false, isCoroutine := false, more := [] }
theorem sup_l1 : supScope.names.lookup ("self" : Str) = some .local := by decide +kernel
theorem sup_l2 : supScope.names.lookup ("super" : Str) = some .globalImplicit := by decide +kernel
theorem sup_l3 : supScope.names.lookup ("__class__" : Str) = some .free := by decide +kernel
/-- what the written part tells of such a class at C, whose __init__ stands at fI -/
structure SupC (P : Program) (K : Frag) (mg : Str → Option Value) (C fI : Addr) : Prop where
  oex : OexC K C
  ini : findIn K (.ref C) "__init__" = some (some (.ref fI))
  tyI : typeIn K (.ref fI) = some (.type "function")
  fn : ∃ (oc : Value) (od : Option Addr) (qual : Str) (kV doc pm ct : Value) (an : Option Addr) (cda cc : Addr) (osl : Array (Option Value)) (p p0 p1 p2 p3 p4 : Pos) (ccl : Value) (cdd : Option Addr) (vs : Array Value) (ccs : Array (Option Value)) (file : Str) (tf : Tok) (cl : Value) (cld : Option Addr) (csl : Array (Option Value)),
    K.lookup fI = some ⟨oc, od, .func (ksFn "__init__" qual (supArgs p) (supBody p0 p1 p2 p3 p4) supScope .none kV doc pm an (.ref cda) ct cc), osl⟩ ∧ codeIn K (.ref cda) qual = true ∧
    K.lookup cda = some ⟨ccl, cdd, .fields vs, ccs⟩ ∧ vs[2]? = some (.str file tf) ∧ ((P.main.file : Str) == file) = true ∧ K.lookup cc = some ⟨cl, cld, .cell (some (.ref C)), csl⟩ ∧
    (p2.endLine == p3.line) = true
  gs : mg "super" = none
  top : (P.main.scope.names.lookup ("super" : Str)).isSome = false
  third : nsIn K cStatics "thirdparty.any" = some none
  sup : ks_superIn K C C "__init__" = some (some (.builtin "ValueError.__init__"))
  ve : subIn K (.ref C) (.type "ValueError") = some true
  me : mroIn K C (.ref C) = some true

theorem sup_eval {env : Env} {p0 p1 p2 p3 : Pos} (h : (p2.endLine == p3.line) = true) : eval (.Call (.Attribute (.Call (.Name "super" p0) [] [] p1) "__init__" p2) [] [] p3) env = (do
      let ov ← attributeBase (.Call (.Name "super" p0) [] [] p1) "__init__" env (eval (.Call (.Name "super" p0) [] [] p1) env)
      standAt p2.atName
      let (f, first) ← holding [ov] (getMethod ov "__init__" (do return (← importBound (.Call (.Name "super" p0) [] [] p1) env).getD true))
      callWith p3 f first (backTo p3 (starEach [] env)) []) := by
  have e : methodCallPos true (.Call (.Name "super" p0) [] [] p1) env p2 p3 = pure p3 := by
    unfold methodCallPos
    rw [h]
    rfl
  show (do
    let ov ← attributeBase (.Call (.Name "super" p0) [] [] p1) "__init__" env (eval (.Call (.Name "super" p0) [] [] p1) env)
    standAt p2.atName
    let (f, first) ← holding [ov] (getMethod ov "__init__" (do return (← importBound (.Call (.Name "super" p0) [] [] p1) env).getD true))
    let callPos ← methodCallPos true (.Call (.Name "super" p0) [] [] p1) env p2 p3
    callWith callPos f first (backTo p3 (starEach [] env)) []) = _
  rw [e]
  rfl
theorem boot_super : bootBuiltins "super" = some (.type "super") := by first | boot_by_name | rfl | kernel_rfl

section
variable {P : Program} {w : World} {A : Around} {E : Value → Shared → Prop} {K : Frag} {mg mb : Str → Option Value} {C fI x t0 : Addr} {h : Heap} {g : Array GenState} {d : Drawn} {tk : Nat} {os : OsState}

/-- the wrapper that super().__init__ gives, called: the args are laid anew -/
theorem bound_init {u : Addr} {Q : Value → Shared → Prop} (T : OexC K C) (X : K.In h) (hu : h.get? u = some (kxs_mw "ValueError.__init__" x)) (hx : h.get? x = some (PySem.HandSPX.excO C t0))
    (hq : ∀ h' t1, (∀ b o, b ≠ x → h.get? b = some o → h'.get? b = some o) → h'.get? x = some (PySem.HandSPX.excO C t1) → Q .none ⟨h', g, d, tk, os⟩) :
    wpAny (model P w) A (call (.ref u) []) Q E ⟨h, g, d, tk, os⟩ := by
  obtain ⟨nm, q, N, bs, bm, sn, sub, ab, col, dd, k0, k1, k2, k3, k5, hC, hbm⟩ := T.cls
  refine wpAny_call (codeAny_of_tree ?_)
  show wpAny _ A.in1 (callAny (.ref u) ⟨[], []⟩) _ _ _
  simp only [callAny]
  refine wpAny_bind (wpAny_load hu ?_)
  simp only [kxs_mw, show (Value.type "method-wrapper" == Value.type "method" || Value.type "method-wrapper" == Value.type "builtin_function_or_method" || Value.type "method-wrapper" == Value.type "method-wrapper") = true by decide, if_true]
  refine KFB.if_so (by decide) ?_
  refine wpAny_bind (check_bound_init F.excBase_ValueError.toExcCallFacts (X _ _ hC) hx rfl ?_)
  refine wpAny_bind (wpAny_pure (wpAny_pure ?_))
  refine ⟨plainId_quiet F.excBase_ValueError.init.plain _, codeAny_builtin F.excBase_ValueError.initEntry ?_⟩
  exact exc_init_tree (cls := .ref C) (t0 := t0) (dv := none) (c2 := .none) (c3 := .none) (b4 := .bool false) hx (by rw [sizeLine_eq]; exact Nat.zero_le _) fun h' k e _ => hq h' h.objs.size k e

theorem sup_init {R : Result → Shared → Prop} {s : Shared} (T : SupC P K mg C fI) (hroom : A.depth < recursionLimit) (X : K.In s.heap) (hlim : s.heap.NoLimit) (G : s.heap.Ns mainGlobals mg) (B : s.heap.Ns builtinsNs mb)
    (hbb : ∀ y : Str, y ≠ "__name__" → mb y = bootBuiltins y) (hx : s.heap.get? x = some (PySem.HandSPX.excO C t0))
    (hq : ∀ h' t' t1, (∀ b o, b ≠ x → s.heap.get? b = some o → h'.get? b = some o) → h'.get? x = some (PySem.HandSPX.excO C t1) → R (.ok (.ret .none)) { s with heap := h', toks := t' }) :
    codeAny (model P w) A (.call (.ref fI) ⟨[.ref x], []⟩) R s := by
  obtain ⟨oc, od, qual, kV, doc, pm, ct, an, cda, cc, osl, p, p0, p1, p2, p3, p4, ccl, cdd, vs, ccs, file, tf, cl, cld, csl, ho, hcd, hcode, hvs, hfile, hcell, hline⟩ := T.fn
  refine ks_codeAny_call_defAt (fd := ksFn "__init__" qual (supArgs p) (supBody p0 p1 p2 p3 p4) supScope .none kV doc pm an (.ref cda) ct cc) (body := supBody p0 p1 p2 p3 p4) (binds := [("self", .ref x)]) hroom (X _ _ ho) rfl hlim (codeRec_of X hcd) rfl
    (BindsTo.of_eq rfl) (by show ∀ y ∈ supScope.names, y.2 ≠ .cell; decide) (fun y hy => ?_) (fun h₁ hns k₁ => ?_)
  · obtain rfl : y = (("self" : Str), Value.ref x) := List.mem_singleton.mp hy
    exact sup_l1
  obtain ⟨hp, g, d, tk, os⟩ := s
  have X₁ : K.In h₁ := X.keeps k₁
  have hx₁ : h₁.get? x = some (PySem.HandSPX.excO C t0) := k₁ _ _ hx
  have G₁ : h₁.Ns mainGlobals mg := G.keeps k₁
  have B₁ : h₁.Ns builtinsNs mb := B.keeps k₁
  obtain ⟨nm, q, N, bs, bm, sn, sub, ab, col, dd, q0, q1, q2, q3, q5, hC, hbm⟩ := T.oex.cls
  show _root_.PySem.wpAt _ _ _ (execs (supBody p0 p1 p2 p3 p4) (ksEnv qual supScope hp.objs.size fI (.ref cda) cc)) _ _ _
  refine ks_wpAt_execs_cons (ks_wpAt_Expr_any (ks_wpAt_MethodCall ?_ (sup_eval hline)))
  refine ks_wpAt_super_base (env := ksEnv qual supScope hp.objs.size fI (.ref cda) cc) sup_l2 sup_l3 (by decide) rfl (X₁ _ _ ho) rfl rfl rfl (X₁ _ _ hcode) rfl hvs hfile T.top ?_
  refine ks_loadName_global rfl sup_l2 (loadGlobal_builtin (env := ksEnv qual supScope hp.objs.size fI (.ref cda) cc) G₁ T.gs B₁ ((hbb _ (by decide +kernel)).trans boot_super) ⟨rfl, ?_⟩)
  refine wpAny_loadName_free rfl sup_l3 rfl ⟨_, X₁ _ _ hcell, rfl⟩ ?_
  refine wpAny_loadName_local rfl sup_l1 hns (v := .ref x) (by show List.lookup ("self" : Str) [(("self" : Str), Value.ref x)] = some (Value.ref x); simp [List.lookup]) ?_
  refine ks_wpAny_isType_cls (X₁ _ _ hC) rfl ⟨rfl, ?_⟩
  have I : InstAt h₁ x (PySem.HandSPX.excO C t0) C none := ⟨hx₁, rfl, rfl, trivial⟩
  refine ks_wpAny_call_super (X₁ _ _ hC) rfl I.at_ I.cls (fun c e => by cases e) (looks_mroIn X₁ T.me) (fun h' e k => ?_)
  have X₂ : K.In h' := X₁.keeps k
  have hx₂ : h'.get? x = some (PySem.HandSPX.excO C t0) := k _ _ hx₁
  have I₂ : InstAt h' x (PySem.HandSPX.excO C t0) C none := ⟨hx₂, rfl, rfl, trivial⟩
  have hsu := T.sup
  unfold ks_superIn at hsu
  have hcl : clsIn K C = some { name := nm, bases := bs, mro := .ref C :: bm, ns := N, qualname := q, hasDict := true, slotNames := sn, subclasses := sub, abstract := ab, collection := col, hasDel := false } := by unfold clsIn; rw [hC] <;> rfl
  rw [hcl] at hsu
  refine kxs_getMethod kxs_ValueError e (looks_opaque X₂ T.third) (l₀ := .ref C :: bm) ?_ rfl X₂ hsu (I₂.type.andThen (looks_subIn X₂ T.ve)) (ks_ne X₂ I₂ hcl) (by decide) ?_
  · exact fun A Q E s k q => wpAny_bind ((looks_clsIn X₂ hcl) A _ E s k (wpAny_pure q))
  have hne : h'.objs.size ≠ x := Nat.ne_of_gt (Heap.lt_size hx₂)
  have k2 : ∀ b o, h'.get? b = some o → (h'.push (kxs_mw "ValueError.__init__" x)).get? b = some o := fun b o z => Heap.get?_push_of_some _ z
  have hmw : (h'.push (kxs_mw "ValueError.__init__" x)).get? h'.objs.size = some (kxs_mw "ValueError.__init__" x) := Heap.get?_push_at rfl rfl
  refine kxs_callWith (i := "ValueError.__init__") (x := x) rfl (evalArgs_empty ⟨hmw, ?_⟩)
  refine bound_init T.oex (X₂.keeps k2) hmw (k2 _ _ hx₂) fun h3 t1 k3 hx3 => ?_
  exact wpAt_of_wpAny (wpAny_execs_nil (hq h3 _ t1 (fun b o hb z => k3 b o hb (k2 b o (k b o (k₁ b o z)))) hx3))
end
end Ev
set_option maxHeartbeats 4000000
/-! Rules for own errors as values: made, asked by isinstance, their fields read. -/
namespace Ev
open PySem PySem.Spec PyProof.Rows L2

section
variable {X : Cx} {x : Str} {C fI : Addr} {p pos : Pos}
theorem make_room {k : Nat} {A : Around} (hr : Room k A) {us : List Value} : (A.under (.builtin "type.__call__" ⟨.ref C :: us, []⟩)).depth < recursionLimit := by
  rw [make_depth]
  have := hr.dp
  omega
/-- C() of a class whose __init__ is super().__init__(): what stands behind it -/
theorem run_exc0 {pins : List (Addr × Obj)} {s : Shared} {σ : L2.St} {H : Hp} {k : Nat} {Q : Value → Shared → Prop} (T : SupC X.prog X.K X.mg C fI) (hr : Room k X.A) (I : Inv X pins σ H s)
    (h : ∀ h' tk a t1, s.heap.objs.size ≤ a → (∀ b o, s.heap.get? b = some o → h'.get? b = some o) → h'.get? a = some (PySem.HandSPX.excO C t1) → Q (.ref a) { s with heap := h', toks := tk }) :
    wpAny (model X.prog X.w) X.A (call (.ref C) []) Q X.xe s := by
  obtain ⟨nm, q, N, bs, bm, sn, sub, ab, col, dd, k0, k1, k2, k3, k5, hC, hbm⟩ := T.oex.cls
  obtain ⟨mb, hb1, hb2⟩ := I.mod.blt
  have kX := I.kIn
  have lim := I.nolimit
  have g1 := I.mod.glob.keeps I.bk
  have b1 := hb1.keeps I.bk
  obtain ⟨hp, g, dr, tk, os⟩ := s
  have kk : ∀ b o, hp.get? b = some o → ((hp.push (PySem.W.kdv_tup [])).push (PySem.HandSPX.excO C hp.objs.size)).get? b = some o := fun b o e => Heap.get?_push_of_some _ (Heap.get?_push_of_some _ e)
  have hget : ((hp.push (PySem.W.kdv_tup [])).push (PySem.HandSPX.excO C hp.objs.size)).get? (hp.objs.size + 1) = some (PySem.HandSPX.excO C hp.objs.size) := by heap_get
  refine wpAny_call (PySem.HandSPX.call_own F.excBase_ValueError (fun Y => PySem.HandSPX.refsVE_contains Y bm hbm) (kX _ _ hC) (PySem.W.looks_findIn kX T.ini) (fun self => PySem.W.bind_fn kX self T.tyI) (by rw [sizeLine_eq]; exact Nat.zero_le _)
    (sup_init (s := ⟨(hp.push (PySem.W.kdv_tup [])).push (PySem.HandSPX.excO C hp.objs.size), g, dr, tk, os⟩) T (make_room hr) (kX.keeps kk) (lim.keeps kk) (g1.keeps kk) (b1.keeps kk) hb2 hget fun h' t' t1 k' hx => ⟨rfl, ?_⟩))
  exact h h' t' (hp.objs.size + 1) t1 (Nat.le_succ _) (fun b o e => k' b o (Nat.ne_of_lt (Nat.lt_succ_of_lt (Heap.lt_size e))) (kk b o e)) hx
def tExc0 (C : Addr) : TE := fun _ H Q => ∀ a, H a = none → Q (.ref a) (upd H a (exo a C none))
theorem pe_exc0 {k : Nat} (T : SupC X.prog X.K X.mg C fI) (hr : Room k X.A) (hg : Gl X x) (hm : X.mg x = some (.ref C)) (hdb : (x == ("__debug__" : Str)) = false := by decide) : PE X (.Call (.Name x p) [] [] pos) (tExc0 C) := by
  refine ⟨fun pins s σ H Q I h => ?_⟩
  refine wpAny_Call_Name_kw (ld_glob I hg hm ?_ hdb)
  refine PySem.W.callWith_K0 I.kIn T.oex.kC ?_
  show wpAny _ _ (call (.ref C) []) _ _ _
  refine run_exc0 T hr I fun h' tk a t1 ha k e => ?_
  exact ⟨.ref a, upd H a (exo a C none), I.laid k ha (exo_ok e), rfl, h a (I.hok.fresh ha)⟩
/-- raised at once -/
theorem pmk_exc0 {k : Nat} (T : SupC X.prog X.K X.mg C fI) (hr : Room k X.A) (hg : Gl X x) (hm : X.mg x = some (.ref C)) (hdb : (x == ("__debug__" : Str)) = false := by decide) : PMk X (.Call (.Name x p) [] [] pos) (fun _ H Q => Q (.ref C) none H) := by
  intro pins s σ H Q I h
  refine wpAny_Call_Name_kw (ld_glob I hg hm ?_ hdb)
  refine PySem.W.callWith_K0 I.kIn T.oex.kC ?_
  show wpAny _ _ (call (.ref C) []) _ _ _
  refine run_exc0 T hr I fun h' tk a t1 ha k e => ?_
  refine ⟨a, _, _, s, H, .ref C, none, rfl, I, k, ?_, e, ⟨rfl, rfl⟩, rfl, rfl, I.hok.fresh ha, rfl, I.bare, raises_own T.oex.exC T.oex.tyC, h⟩
  exact Heap.get?_none_of_le ha
end

/-! ### __init__(self, f): self.f = f -/
structure Ini1 (st : Stmt) (f : Str) : Prop where
  body : ∃ q1 q2 q3 q4, defBody st = [.Assign [.Attribute (.Name "self" q1) f q2] (.Name f q3) q4]
  sc : FnScope ["self", f] ["self", f] (defScope st)
  l0 : (defScope st).names.lookup ("self" : Str) = some .local
  l1 : (defScope st).names.lookup f = some .local
  d1 : (f == ("__debug__" : Str)) = false
  d2 : (f == ("__classdict__" : Str)) = false
def spIni1 (C : Addr) (f : Str) : Sp := fun vs H Q _ => ∃ (a : Addr) (v : V), vs = [.ref a, v] ∧ H a = some (exo a C none) ∧ ∀ dx, H dx = none → dx ≠ a → Q .non (upd (upd H dx (exd dx [(f, v)])) a (exo a C (some dx)))
section
variable {P : Program} {w : World} {K : PySem.W.Frag} {mg : Str → Option Value} {base : Heap} {C : Addr}
theorem ok_ini1 {qual f : Str} {st : Stmt} {fI : Addr} {fd : FuncData} (F : Fun K "__init__" qual st fI fd) (S : Ini1 st f) (T : OexC K C) (hno : PySem.W.findIn K (.ref C) f = some none) : FnOk P w K mg base CX0 1 fI fd ["self", f] (spIni1 C f) := by
  refine F.ok S.sc (fun vs H Q E h => ?_) (fun cdv A outer s H vs Q E hr h => ?_)
  · obtain ⟨a, v, rfl, _⟩ := h
    rfl
  · obtain ⟨a, v, rfl, ha, q⟩ := h
    obtain ⟨q1, q2, q3, q4, hb⟩ := S.body
    rw [hb]
    refine ⟨_, pss_one (ps_ost (pv 0 rfl (.inl S.l0)) (pv 1 rfl (.inl S.l1) S.d1 S.d2)), ?_⟩
    exact ⟨v, rfl, .ref a, rfl, a, C, rfl, T, hno, .inl ⟨ha, fun dx n ne => q dx n ne⟩⟩
end
theorem upd3 {H : Hp} {a d : Addr} {o1 o2 o3 : HO} (h : d ≠ a) : upd (upd (upd H a o1) d o2) a o3 = upd (upd H d o2) a o3 := by
  funext b
  by_cases e : b = a
  · rw [e, upd_same, upd_same]
  · rw [upd_ne e, upd_ne e]
    by_cases e2 : b = d
    · rw [e2, upd_same, upd_same]
    · rw [upd_ne e2, upd_ne e2, upd_ne e]
def tExc1 (C : Addr) (f : Str) (ta : TA) : TE := fun σ H Q => ta σ H fun vs H1 => ∃ v, vs = [v] ∧ ∀ a d, H1 a = none → H1 d = none → d ≠ a → Q (.ref a) (upd (upd H1 d (exd d [(f, v)])) a (exo a C (some d)))
section
variable {X : Cx} {x f : Str} {C fI : Addr} {p pos : Pos} {e : Expr} {ta : TA} {fd : FuncData}
theorem pe_exc1 {k : Nat} (T : OexC X.K C) (iC : PySem.W.findIn X.K (.ref C) "__init__" = some (some (.ref fI))) (tI : PySem.W.typeIn X.K (.ref fI) = some (.type "function")) (F1 : FnOk X.prog X.w X.K X.mg X.base CX0 1 fI fd ["self", f] (spIni1 C f)) (hr : Room (k + 2) X.A)
    (hb : Binds X.K fd ["self", f] []) (hg : Gl X x) (hm : X.mg x = some (.ref C)) (ha : PA X [e] ta) (hdb : (x == ("__debug__" : Str)) = false := by decide) (he : starEach (e :: []) X.env = (false, eval e X.env) :: starEach [] X.env := by rfl)
    (hpl : (backTo pos (starEach [] X.env)).any (·.1) = false := by rfl) : PE X (.Call (.Name x p) [e] [] pos) (tExc1 C f ta) := by
  refine ⟨fun pins s σ H Q I h => ?_⟩
  obtain ⟨nm, q, N, bs, bm, sn, sub, ab, col, dd, k0, k1, k2, k3, k5, hC, hbm⟩ := T.cls
  refine wpAny_Call_Name_kw (ld_glob I hg hm ?_ hdb)
  refine PySem.W.callWith_K (h₀ := X.base) I.ok.mod.kin T.kC (thn (ha.run pos pins s σ H _ I h) fun us s1 ⟨vs, H1, I1, r1, v, ev, q1⟩ => ⟨I1.kIn, ?_⟩) he hpl
  subst ev
  show wpAny _ _ (call (.ref C) us) _ _ _
  obtain ⟨hp, g, dr, tk, os⟩ := s1
  have hsz : hp.objs.size ≤ hp.objs.size + 1 := Nat.le_succ _
  have hn : H1 (hp.objs.size + 1) = none := I1.hok.fresh hsz
  have kk : ∀ b o, hp.get? b = some o → ((hp.push (PySem.W.kdv_tup us)).push (PySem.HandSPX.excO C hp.objs.size)).get? b = some o := fun b o e => Heap.get?_push_of_some _ (Heap.get?_push_of_some _ e)
  have hget : ((hp.push (PySem.W.kdv_tup us)).push (PySem.HandSPX.excO C hp.objs.size)).get? (hp.objs.size + 1) = some (PySem.HandSPX.excO C hp.objs.size) := by heap_get
  have I2 : Inv X pins σ (upd H1 (hp.objs.size + 1) (exo (hp.objs.size + 1) C none)) ⟨(hp.push (PySem.W.kdv_tup us)).push (PySem.HandSPX.excO C hp.objs.size), g, dr, tk, os⟩ :=
    I1.laid (t' := tk) (a := hp.objs.size + 1) (o := exo (hp.objs.size + 1) C none) (h' := (hp.push (PySem.W.kdv_tup us)).push (PySem.HandSPX.excO C hp.objs.size)) kk hsz (exo_ok hget)
  have r2 : Vals [V.ref (hp.objs.size + 1), v] (Value.ref (hp.objs.size + 1) :: us) := .cons rfl r1
  have hl1 : us.length = 1 := by rw [← Paired.length r1] <;> rfl
  have hl : (Value.ref (hp.objs.size + 1) :: us ++ []).length = (["self", f] : List Str).length := by
    rw [List.append_nil, List.length_cons, hl1] <;> rfl
  have hus : us.length ≤ sizeLine := by
    rw [hl1, sizeLine_eq]
    omega
  have b2 := hb _ (Value.ref (hp.objs.size + 1) :: us) I2.kIn hl
  rw [List.append_nil] at b2
  have hq : spIni1 C f [V.ref (hp.objs.size + 1), v] (upd H1 (hp.objs.size + 1) (exo (hp.objs.size + 1) C none)) (fun z H2 => z = .non ∧ Q (.ref (hp.objs.size + 1)) H2) E0 := by
    refine ⟨_, v, rfl, upd_same, fun dx n ne => ⟨rfl, ?_⟩⟩
    rw [upd_ne ne] at n
    rw [upd3 ne]
    exact q1 _ dx hn n ne
  refine wpAny_call (PySem.HandSPX.call_own F.excBase_ValueError (fun Y => PySem.HandSPX.refsVE_contains Y bm hbm) (I1.kIn _ _ hC) (PySem.W.looks_findIn I1.kIn iC) (fun self => PySem.W.bind_fn I1.kIn self tI) hus
    (codeAny_mono (F1.run _ X.stack _ _ ⟨Value.ref (hp.objs.size + 1) :: us, []⟩ (Value.ref (hp.objs.size + 1) :: us) _ _ E0 ((hr.mono (by omega : 1 + 1 ≤ k + 2)).make C us []) (I2.env0.make C us []) b2 r2 hq) fun r s' hq' => ?_))
  cases r with
  | error er => exact False.elim hq'
  | ok fl =>
    cases fl with
    | ret u =>
      obtain ⟨z, H', I3, rz, ez, q3⟩ := I2.after hq'
      subst ez
      exact ⟨rz, ⟨V.ref (hp.objs.size + 1), H', I3, rfl, q3⟩⟩
    | next => exact False.elim hq'
    | brk => exact False.elim hq'
    | cont => exact False.elim hq'
end

/-! ### isinstance -/
/-- at a stands an own error of the class at C -/
def ErrAt (H : Hp) (a C : Addr) : Prop := H a = some (exo a C none) ∨ ∃ d fs, H a = some (exo a C (some d)) ∧ H d = some (exd d fs)
theorem err_inst {X : Cx} {pins : List (Addr × Obj)} {σ : L2.St} {H : Hp} {s : Shared} {a C : Addr} (I : Inv X pins σ H s) (h : ErrAt H a C) : ∃ ox od, PySem.W.InstAt s.heap a ox C od := by
  rcases h with h | ⟨d, fs, h, hd⟩
  · obtain ⟨t1, e⟩ := exo_at I.hok h
    exact ⟨_, none, e, rfl, rfl, trivial⟩
  · obtain ⟨t1, e⟩ := exo_at I.hok h
    obtain ⟨mA, ⟨o, es, ep, ho, _⟩, _⟩ := exd_at I.hok hd
    exact ⟨_, some o, e, rfl, rfl, ho⟩
/-- isinstance(e, c), e an own error -/
def rIsX (K : PySem.W.Frag) : List V → Hp → VK → Prop := fun xs H Q => ∃ (a C : Addr) (c : V) (cv : Value) (b : Bool), xs = [.ref a, c] ∧ ErrAt H a C ∧ ExcC K C ∧ ClsV c cv ∧ PySem.W.kitOne K (.ref C) cv = some b ∧ Q (.bl b) H
theorem call_isX {X : Cx} : CallR X (.builtin "isinstance") (rIsX X.K) := by
  intro pins s σ H xs us Q I r h
  obtain ⟨a, C, c, cv, b, rfl, ea, T, k, e, q⟩ := h
  obtain ⟨u1, u2, rfl, r1, r2⟩ := vals2 r
  have e2 := k.eq r2
  subst e2
  obtain rfl : u1 = Value.ref a := r1
  obtain ⟨ox, od, J⟩ := err_inst I ea
  have hcl : (PySem.W.clsIn X.K C).isSome = true := by
    obtain ⟨cd, hc, _⟩ := PySem.W.any_some T.hd
    rw [hc]
    rfl
  exact PySem.W.kia_one (PySem.W.kitx_exc hcl T.hg T.hk T.hs T.ha T.hn T.ht T.hm) I.kIn J e (fun z => nomatch z) fun tk => ⟨.bl b, H, I.tok tk, rfl, q⟩
/-- e.n, e an own error -/
def tErrF (K : PySem.W.Frag) (n : Str) (te : TE) : TE := fun σ H Q => te σ H fun x H1 => ∃ (a C d : Addr) (fs : List (Str × V)) (v : V), x = .ref a ∧ H1 a = some (exo a C (some d)) ∧ H1 d = some (exd d fs) ∧ fs.lookup n = some v ∧ XfC K C ∧ PySem.W.findIn K (.ref C) n = some none ∧ Q v H1
theorem pe_errF {X : Cx} {e : Expr} {te : TE} {pos : Pos} {n : Str} (he : PE X e te) (hb : attributeBase e n X.env (eval e X.env) = eval e X.env := by rfl) : PE X (.Attribute e n pos) (tErrF X.K n te) := by
  refine ⟨fun pins s σ H Q I h => ?_⟩
  refine attr_of hb (thn (he.run pins s σ H _ I h) fun u s1 hh => ?_)
  obtain ⟨x, H1, I1, rx, a, C, d, fs, v, ex, ea, ed, l, T, hno, q⟩ := hh
  subst ex
  obtain rfl : u = Value.ref a := rx
  obtain ⟨t1, e1⟩ := exo_at I1.hok ea
  obtain ⟨mA, hns, hr⟩ := exd_at I1.hok ed
  obtain ⟨od, ho, hl⟩ := lookIn_ns hns
  obtain ⟨u, hu, ru⟩ := RelO.some_of (v := v) (o := mA n) (by rw [← l]; exact hr n)
  have J : PySem.W.InstAt s1.heap a _ C (some od) := ⟨e1, rfl, rfl, ho⟩
  exact HandSPX.exc_get I1.kIn J T.ga T.gg T.exC (PySem.W.findObj_own T.hdC hno rfl (by rw [hl, hu])) (handed_of ru) ⟨v, H1, I1.tok _, ru, q⟩
end Ev
set_option maxHeartbeats 4000000
/-! try with several clauses «except X as n», the name the same in all of them. -/
namespace Ev
open PySem PySem.Spec PyProof.Rows L2
/-- behind a suite the name's slot (i) is empty -/
def offS (i : Nat) (D : Ends) : Ends := { nx := fun σ' H' => D.nx (σ'.set i none) H', rt := D.rt, bk := fun σ' H' => D.bk (σ'.set i none) H', ct := fun σ' H' => D.ct (σ'.set i none) H' }
def wManyAs (K : PySem.W.Frag) (i : Nat) (Wout : WX) (D : Ends) : List (Value × (Addr → Value → Option Addr → TS)) → WX
  | [] => Wout
  | (c, ts) :: r => fun cls d σ H => ∃ b, PySem.W.exmOne K cls c = some b ∧ (b = true → ∀ a, H a = none → ts a cls d (offS i D) (σ.set i (some (.ref a))) H) ∧ (b = false → wManyAs K i Wout D r cls d σ H)
inductive HdsAs (X : Cx) (n : Str) : List ExceptHandler → List (Value × (Addr → Value → Option Addr → TS)) → Prop
  | nil : HdsAs X n [] []
  | cons {x : Str} {c : Value} {ts : Addr → Value → Option Addr → TS} {b₀ : Stmt} {suite : List Stmt} {np pos' : Pos} {hds : List ExceptHandler} {l : List (Value × (Addr → Value → Option Addr → TS))} (hc : Names X x c)
      (hsu : ∀ (a : Addr) (oe : Obj) (cls : Value) (d : Option Addr) (pn : List (Addr × Obj)), Zc cls d oe → (∃ vs, oe.data = .fields vs) → PSs (X.suite a ((a, oe) :: pn)) (b₀ :: suite) (ts a cls d)) (r : HdsAs X n hds l) :
      HdsAs X n (.ExceptHandler (some (.Name x np)) (some n) (b₀ :: suite) pos' :: hds) ((c, ts) :: l)
section
variable {X : Cx} {body : List Stmt} {h₀ : ExceptHandler} {hds : List ExceptHandler} {l : List (Value × (Addr → Value → Option Addr → TS))} {pos : Pos} {tb : WX → TS} {Wout : WX} {n : Str} {i : Nat}
theorem ps_try_manyAs (hs : X.stack = X.env :: X.outer) (hf : X.env.frame = some X.env.locals) (hN : X.N.Nodup) (hi : X.N[i]? = some n) (hln : X.env.kindOf n = some .local) (tk : Takes X Wout)
    (hb : ∀ (W : WX) (pn : List (Addr × Obj)) (xe : Value → Shared → Prop), Takes (X.tr pn xe) W → PassesOwn (model X.prog X.w) X.A X.env xe → PSs (X.tr pn xe) body (tb W))
    (hh : HdsAs X n (h₀ :: hds) l) : PS X (.Try body (h₀ :: hds) [] [] pos) (fun D σ H => tb (wManyAs X.K i Wout D l) D σ H) := by
  refine ⟨fun pins s σ H D I h => ?_⟩
  have ok := I.ok
  have hfr : X.A.frames = some (X.env :: X.outer) := by rw [ok.frames, hs]
  have hloc : Loc X.env.scope n := .inl hln
  refine wpAny_Try_except (wpAny_mono ((hb (wManyAs X.K i Wout D l) (X.pn ++ pins) (fun e s₁ => wpAny (model X.prog X.w) X.A (noteFrame e X.env) (fun _ s₂ => wpAny (model X.prog X.w) X.A (setFlight e none) (fun _ s₃ =>
    wpAny (model X.prog X.w) X.A (handleBy e X.env (h₀ :: hds)) (SP X pins D) X.xe s₃) X.xe s₂) X.xe s₁) (fun u s' xx => ?_) PassesOwn.looking).run [] s σ H D (I.toTry _) h) (fun f s1 hsp => ?_) (fun e s1 he => he))
  · obtain ⟨a, B, sI, pins', σ', H', cls, d, rfl, J', nb, up, sky, na, os, ag, w⟩ := xx
    have J : L2.Inv X pins σ' H' sI := J'.ofTry ok
    have sky' : Sky B (X.env :: X.outer) a (Zc cls d) X.env.locals s'.heap := by rw [← hs]; exact sky
    refine Sky.land Zc.steady hfr hf sky' fun h3 fl3 up3 => ?_
    have J3 : L2.Inv X pins σ' H' { s' with heap := h3 } := J.landed nb fl3.1 (up.trans up3) os ag
    obtain ⟨oe3, vs3, he3, hz3, hd3⟩ := fl3.there
    have nfr : a ∉ frs (X.env :: X.outer) := fun hm => by
      obtain ⟨_, o', e', hnf⟩ := fl3.2.2.1.mem hm
      rw [he3] at e'; cases e'
      exact hnf _ hd3
    have nL : a ≠ X.env.locals := fun z => nfr (List.mem_filterMap.mpr ⟨X.env, List.mem_cons_self, by rw [hf, z]⟩)
    have nF : a ∉ X.fs := fun hm => by
      obtain ⟨e, he, q⟩ := List.mem_filterMap.mp hm
      exact nfr (List.mem_filterMap.mpr ⟨e, List.mem_cons_of_mem _ he, q⟩)
    have S3 := J3.suite he3 hd3 na nL nF
    have LT : PySem.W.Looks (model X.prog X.w) h3 (typeOf (.ref a)) cls := fun A Q E s k q => wpAny_typeOf_ref (k _ _ he3) (by rw [hz3.1]; exact q)
    have go : ∀ {hds' : List ExceptHandler} {l' : List (Value × (Addr → Value → Option Addr → TS))}, HdsAs X n hds' l' → wManyAs X.K i Wout D l' cls d σ' H' →
        wpAny (model X.prog X.w) X.A (handleBy (.ref a) X.env hds') (SP X pins D) X.xe { s' with heap := h3 } := by
      intro hds' l' hk
      induction hk with
      | nil =>
        intro w
        refine wpAny_handleBy_nil ?_
        obtain ⟨k1, k2, k3, oe, vs, T, oT, ts', he, hz, hd, h1, hr⟩ := id fl3
        unfold PySem.passOn
        refine wpAny_bind (wpAny_field he hd h1 ?_)
        rw [if_neg (show ¬ ((Value.ref T == Value.none) = true) from by simp)]
        have fin : wpAny (model X.prog X.w) X.A (setFlight (.ref a) X.env.frame) (fun _ s4 => wpAny (model X.prog X.w) X.A (throw (.ref a) : Sem Flow) (SP X pins D) X.xe s4) X.xe { s' with heap := h3 } := by
          rw [hf]
          refine HandSPX.setFlight_upZ fl3 fun h4 hh4 up4 => wpAny_throw (tk _ _ ?_)
          exact ⟨a, B, sI, pins, σ', H', cls, d, rfl, J, nb, (up.trans up3).trans up4, .inr (.inr (by rw [hs]; exact hh4)), na, os, ag, w⟩
        first
          | exact wpAny_bind (wpAny_pure (wpAny_bind fin))
          | exact wpAny_bind fin
      | @cons x c ts b₀ suite np pos' hds2 l2 hc hsu r ih =>
        intro w
        obtain ⟨b, hb1, hyes, hno⟩ := w
        refine wpAny_handleBy_cons (codeAny_handlers_test ?_) (by intro q; cases q)
        have LM := PySem.W.exm_one (M := model X.prog X.w) (J3.kIn) LT hb1
        have test : ∀ {Q : Value → Shared → Prop} {E : Value → Shared → Prop}, Q c { s' with heap := h3 } → wpAny (model X.prog X.w) (X.A.mark (some (.ref a))) (eval (.Name x np) X.env) Q E { s' with heap := h3 } := fun {Q E} q => by
          obtain ⟨hg, hdbg, hm | ⟨hm, hv, hnn⟩⟩ := hc
          · exact ld_glob (X := X.suite a ((a, oe3) :: (X.pn ++ pins))) S3 hg hm q hdbg
          · exact ld_blt (X := X.suite a ((a, oe3) :: (X.pn ++ pins))) S3 hg hm hv q hnn hdbg
        refine test (LM.here ?_)
        cases b with
        | true =>
          refine codeAny_handlers_suite_as (HandSPX.lands_againZ fl3 fun h4 fl4 up4 => ?_)
          have J4 : L2.Inv X pins σ' H' { s' with heap := h4 } := J.landed nb fl4.1 ((up.trans up3).trans up4) os ag
          obtain ⟨oe4, vs4, he4, hz4, hd4⟩ := fl4.there
          refine store_ok (X := X.suite a ((a, oe4) :: (X.pn ++ pins))) (v := .ref a) (J4.suite he4 hd4 na nL nF) hN hi hloc rfl (fun s5 S5 => ?_) (.inr hln)
          refine wpAny_mono ((hsu a oe4 cls d (X.pn ++ pins) hz4 ⟨_, hd4⟩).run [] s5 _ H' _ S5 (hyes rfl a na)) (fun f s6 hsp => ?_) (fun _ _ z => False.elim z)
          cases f with
          | next =>
            obtain ⟨σ6, H6, S6, q6⟩ := hsp
            exact gone_ok (S6.unsuite ok) hN hi hln fun s7 J7 => ⟨_, _, J7, q6⟩
          | brk =>
            obtain ⟨σ6, H6, S6, q6⟩ := hsp
            exact gone_ok (S6.unsuite ok) hN hi hln fun s7 J7 => ⟨_, _, J7, q6⟩
          | cont =>
            obtain ⟨σ6, H6, S6, q6⟩ := hsp
            exact gone_ok (S6.unsuite ok) hN hi hln fun s7 J7 => ⟨_, _, J7, q6⟩
          | ret u =>
            obtain ⟨v6, σ6, H6, S6, r6, q6⟩ := hsp
            exact gone_ok (S6.unsuite ok) hN hi hln fun s7 J7 => ⟨_, _, _, J7, r6, q6⟩
        | false => exact ih (hno rfl)
    exact go hh w
  · cases f with
    | next =>
      obtain ⟨σ', H', J', q⟩ := hsp
      exact wpAny_execs_nil ⟨σ', H', J'.ofTry ok, q⟩
    | brk =>
      obtain ⟨σ', H', J', q⟩ := hsp
      exact ⟨σ', H', J'.ofTry ok, q⟩
    | cont =>
      obtain ⟨σ', H', J', q⟩ := hsp
      exact ⟨σ', H', J'.ofTry ok, q⟩
    | ret u =>
      obtain ⟨v, σ', H', J', r, q⟩ := hsp
      exact ⟨v, σ', H', J'.ofTry ok, r, q⟩
end
end Ev
set_option maxHeartbeats 8000000
namespace LawK
open PySem PySem.Spec PyProof.Rows L2 Ev
abbrev veT : List Value := [.type "ValueError", .type "Exception", .type "BaseException", .type "object"]
/-- an own error class at C, over the one at PE -/
structure ErC (K : PySem.W.Frag) (PE C : Addr) : Prop where
  oex : OexC K C
  isx : ExcC K C
  xf : XfC K C
  mro : ∃ cd, PySem.W.clsIn K C = some cd ∧ cd.mro = .ref C :: .ref PE :: veT
  isT : PySem.W.typeIn K (.ref C) = some (.type "type")
section
variable {K : PySem.W.Frag} {PE C D : Addr}
theorem ErC.sub (T : ErC K PE C) (b : Value) : PySem.W.subIn K (.ref C) b = some ((Value.ref C :: .ref PE :: veT).contains b) := by
  obtain ⟨cd, h1, h2⟩ := T.mro
  show (PySem.W.clsIn K C).bind _ = _
  rw [h1, Option.bind_some, h2]
  rfl
theorem kit_at (TD : ErC K PE D) (T : ErC K PE C) (n : D ≠ PE) : PySem.W.kitOne K (.ref C) (.ref D) = some (decide (C = D)) := by
  unfold PySem.W.kitOne
  by_cases e : C = D
  · subst e
    rw [if_pos (by simp), decide_eq_true rfl]
  · rw [if_neg (by simpa using e), decide_eq_false e]
    obtain ⟨cd, h1, h2⟩ := TD.mro
    show (if ((PySem.W.clsIn K D).isSome && PySem.W.typeIn K (.ref D) == some (.type "type")) = true then PySem.W.subIn K (.ref C) (.ref D) else none) = some false
    rw [if_pos (by rw [h1, TD.isT]; rfl), T.sub]
    have e2 : D ≠ C := fun z => e z.symm
    simp [veT, e2, n]
end
/-- an error class without a field -/
structure Cls0 (P : Program) (K : PySem.W.Frag) (mg : Str → Option Value) (PE : Addr) (x : Str) (C : Addr) : Prop where
  er : ErC K PE C
  ne : C ≠ PE
  sup : ∃ fI, SupC P K mg C fI
  g : mg x = some (.ref C)
/-- an error class with the field f -/
structure Cls1 (K : PySem.W.Frag) (mg : Str → Option Value) (PE : Addr) (x f : Str) (C : Addr) : Prop where
  er : ErC K PE C
  ne : C ≠ PE
  g : mg x = some (.ref C)
  ini : ∃ (fI : Addr) (fd : FuncData) (st : Stmt) (qual : Str), Fun K "__init__" qual st fI fd ∧ Ini1 st f ∧ Binds K fd ["self", f] [] ∧ PySem.W.findIn K (.ref C) "__init__" = some (some (.ref fI)) ∧ PySem.W.typeIn K (.ref fI) = some (.type "function")
  hno : PySem.W.findIn K (.ref C) f = some none
section
variable {X : Cx} {x f : Str} {PE C : Addr} {p pos : Pos} {e : Expr} {ta : TA} {k : Nat}
theorem pe_c0 (T : Cls0 X.prog X.K X.mg PE x C) (hr : Room k X.A) (hg : Gl X x := by rfl) (hdb : (x == ("__debug__" : Str)) = false := by decide) : L2.PE X (.Call (.Name x p) [] [] pos) (tExc0 C) := by
  obtain ⟨fI, S⟩ := T.sup
  exact pe_exc0 S hr hg T.g hdb
theorem pe_c1 (T : Cls1 X.K X.mg PE x f C) (hr : Room (k + 2) X.A) (ha : PA X [e] ta) (hg : Gl X x := by rfl) (hdb : (x == ("__debug__" : Str)) = false := by decide) (he : starEach (e :: []) X.env = (false, eval e X.env) :: starEach [] X.env := by rfl)
    (hpl : (backTo pos (starEach [] X.env)).any (·.1) = false := by rfl) : L2.PE X (.Call (.Name x p) [e] [] pos) (tExc1 C f ta) := by
  obtain ⟨fI, fd, st, qual, F1, S1, b1, iC, tI⟩ := T.ini
  exact pe_exc1 T.er.oex iC tI (ok_ini1 F1 S1 T.er.oex T.hno) hr b1 hg T.g ha hdb he hpl
def tMk1 (C : Addr) (f : Str) (ta : TA) : L2.St → Hp → XK → Prop := fun σ H Q => ta σ H fun vs H1 => ∃ v, vs = [v] ∧ ∀ d, H1 d = none → Q (.ref C) (some d) (upd H1 d (.xd [(f, v)]))
theorem del_upd {H : Hp} {a d : Addr} {o1 o2 o3 u : HO} (ha : H a = none) (hd : d ≠ a) : upd (del (upd (upd (upd H a o1) d o2) a o3) a) d u = upd H d u := by
  funext b
  by_cases e : b = d
  · rw [e, upd_same, upd_same]
  · rw [upd_ne e, upd_ne e]
    by_cases e2 : b = a
    · rw [e2, del_same, ha]
    · rw [del_ne e2, upd_ne e2, upd_ne e, upd_ne e2]
theorem pmk_c1 (T : Cls1 X.K X.mg PE x f C) (hr : Room (k + 2) X.A) (ha : PA X [e] ta) (hg : Gl X x := by rfl) (hdb : (x == ("__debug__" : Str)) = false := by decide) (he : starEach (e :: []) X.env = (false, eval e X.env) :: starEach [] X.env := by rfl)
    (hpl : (backTo pos (starEach [] X.env)).any (·.1) = false := by rfl) (hm : ∀ {σ : L2.St} {H : Hp} {Q1 Q2 : List V → Hp → Prop}, (∀ vs H1, Q1 vs H1 → Q2 vs H1) → ta σ H Q1 → ta σ H Q2) : PMk X (.Call (.Name x p) [e] [] pos) (tMk1 C f ta) := by
  obtain ⟨fI, fd, st, qual, F1, S1, b1, iC, tI⟩ := T.ini
  intro pins s σ H Q I h
  refine pmk_oex (CX := CX0) (k := 1) (sp := spIni1 C f) (ds := []) (dvs := []) T.er.oex iC tI (ok_ini1 F1 S1 T.er.oex T.hno) (hr.mono (by omega)) b1 .nil (fun _ _ _ _ _ _ _ z => z.elim) hg T.g ha hdb he hpl pins s σ H Q I (hm (fun vs H1 q => ?_) h)
  obtain ⟨v, rfl, q⟩ := q
  refine ⟨by show 1 ≤ 1000; decide, fun a na => ⟨a, v, rfl, upd_same, fun dx n ne => ⟨rfl, dx, _, upd_same, by rw [upd_ne ne, upd_same], ?_, ?_⟩⟩⟩
  · rw [upd_ne ne] at n
    exact n
  · rw [del_upd na ne]
    rw [upd_ne ne] at n
    exact q dx n
end
structure BaseX (K : PySem.W.Frag) (PE : Addr) : Prop where
  sub : PySem.W.subIn K (.ref PE) (.type "BaseException") = some true
  hd : PySem.W.hasDictIn K PE = true
  isT : PySem.W.typeIn K (.ref PE) = some (.type "type")
section
variable {K : PySem.W.Frag} {PE : Addr}
theorem exm_at {C D : Addr} (TD : ErC K PE D) (T : ErC K PE C) (n : D ≠ PE) : PySem.W.exmOne K (.ref C) (.ref D) = some (decide (C = D)) := by
  refine PySem.W.exm_ref TD.isx.hs TD.isx.hd TD.isT ?_
  rw [T.sub]
  by_cases e : C = D
  · subst e
    simp
  · have e2 : D ≠ C := fun z => e z.symm
    rw [decide_eq_false e]
    simp [veT, e2, n]
theorem exm_base {C : Addr} (B : BaseX K PE) (T : ErC K PE C) : PySem.W.exmOne K (.ref C) (.ref PE) = some true := by
  refine PySem.W.exm_ref B.sub B.hd B.isT ?_
  rw [T.sub]
  simp [veT]
theorem tCons1 {i j : Nat} {σ : L2.St} {H : Hp} {Q1 Q2 : List V → Hp → Prop} (h : ∀ vs H1, Q1 vs H1 → Q2 vs H1) : tCons (tVar i) tNil σ H Q1 → tCons (tVar i) tNil σ H Q2 := fun ⟨v, e, q⟩ => ⟨v, e, h _ _ q⟩
end
def chkE (K : PySem.W.Frag) (C : Addr) : Bool := xfB K C && (decide (PySem.W.typeIn K (.ref C) = some (.type "type")) && (PySem.W.keepIn K (.ref C) && (decide (PySem.W.findIn K (.ref C) "__class__" = some (some (.builtin "object.__class__"))) && decide (PySem.W.mroIn K C (.type "object") = some true))))
def chkC (K : PySem.W.Frag) (PE C : Addr) : Bool := chkE K C && (decide (PySem.W.findIn K (.ref C) "__setattr__" = some (some (.builtin "object.__setattr__"))) && decide (C ≠ PE))
structure Sh (K : PySem.W.Frag) : Prop where
  hn : PySem.W.specialIn K (.builtin "object.__class__") "__get__" = some (some (.builtin "getset_descriptor.__get__"))
  ht : PySem.W.takesIn K (.builtin "object.__class__") = some true
structure Sh0 (P : Program) (K : PySem.W.Frag) (mg : Str → Option Value) : Prop extends Sh K where
  gs : mg "super" = none
  top : (P.main.scope.names.lookup ("super" : Str)).isSome = false
  third : PySem.W.nsIn K cStatics "thirdparty.any" = some none
structure CkE (K : PySem.W.Frag) (C : Addr) : Prop where
  xf : XfC K C
  isT : PySem.W.typeIn K (.ref C) = some (.type "type")
  kp : PySem.W.keepIn K (.ref C) = true
  ha : PySem.W.findIn K (.ref C) "__class__" = some (some (.builtin "object.__class__"))
  hm : PySem.W.mroIn K C (.type "object") = some true
theorem chkE_ok {K : PySem.W.Frag} {C : Addr} (h : chkE K C = true) : CkE K C := by
  obtain ⟨h1, h⟩ := Bool.and_eq_true_iff.mp h
  obtain ⟨h2, h⟩ := Bool.and_eq_true_iff.mp h
  obtain ⟨h3, h⟩ := Bool.and_eq_true_iff.mp h
  obtain ⟨h4, h5⟩ := Bool.and_eq_true_iff.mp h
  exact ⟨xfB_ok h1, of_decide_eq_true h2, h3, of_decide_eq_true h4, of_decide_eq_true h5⟩
theorem CkE.isx {K : PySem.W.Frag} {C : Addr} (T : CkE K C) (S : Sh K) : ExcC K C := ⟨T.xf.ga, T.xf.gg, T.xf.exC, T.xf.hdC, T.ha, S.hn, S.ht, T.hm⟩
section
variable {P : Program} {w : World} {K : PySem.W.Frag} {mg : Str → Option Value} {h : Heap} {PE C fI : Addr} {x f qual : Str} {nm q : Str} {N : Addr} {bs : List Value} {sn : List Str} {sub : List Value} {ab : Bool} {col : Option Bool} {dd : Option Addr} {k0 k1 k2 k3 k5 : Option Value}
theorem mro_of {bm : List Value} {id : String} (lC : K.lookup C = some (excClassObj nm q C N bs bm true sn sub ab col dd k0 k1 k2 k3 k5 id)) : ∃ cd, PySem.W.clsIn K C = some cd ∧ cd.mro = .ref C :: bm := by
  have e : PySem.W.clsIn K C = some { name := nm, bases := bs, mro := .ref C :: bm, ns := N, qualname := q, hasDict := true, slotNames := sn, subclasses := sub, abstract := ab, collection := col, hasDel := false } := by
    unfold PySem.W.clsIn
    rw [lC]
  exact ⟨_, e, rfl⟩
theorem er_mk (S : Sh K) (lC : K.lookup C = some (excClassObj nm q C N bs (.ref PE :: veT) true sn sub ab col dd k0 k1 k2 k3 k5 "ValueError.__new__")) (ck : chkC K PE C = true) : ErC K PE C ∧ C ≠ PE := by
  obtain ⟨c1, c2⟩ := Bool.and_eq_true_iff.mp ck
  obtain ⟨c2, c3⟩ := Bool.and_eq_true_iff.mp c2
  have T := chkE_ok c1
  exact ⟨⟨⟨⟨nm, q, N, bs, _, sn, sub, ab, col, dd, k0, k1, k2, k3, k5, lC, (show PySem.HandSPX.refsVE veT = true by decide +kernel)⟩, of_decide_eq_true c2, T.xf.exC, T.isT, T.kp⟩, T.isx S, T.xf, mro_of lC, T.isT⟩, of_decide_eq_true c3⟩
theorem say {K : PySem.W.Frag} {h : Heap} (X : K.In h) (T : PySem.W.Frag → Prop) {g : Prop} (a : T K) (k : T K → g) : g := k a
def chk1 (K : PySem.W.Frag) (PE C fI : Addr) (f : Str) (cd : Value) (qual : Str) : Bool := chkC K PE C && (decide (PySem.W.typeIn K (.ref fI) = some (.type "function")) && (PySem.W.codeIn K cd qual && (PySem.W.keepIn K (.ref fI) && decide (PySem.W.findIn K (.ref C) f = some none))))
theorem cls1_mk {st : Stmt} {oc kV dc pm cd ct : Value} {od an : Option Addr} {sl : Array (Option Value)} (X : K.In h) (G : h.Ns mainGlobals mg) (S : Sh K)
    (i1 : Ini1 st f) (hb : ∀ (kV doc pm : Value) (an : Option Addr) (cdv ct : Value) (us : List Value), us.length = 2 → bindArgs (PySem.W.fnOf "__init__" qual (defArgs st) (defBody st) (defScope st) .none kV doc pm an cdv ct) ⟨us, []⟩ = pure ((["self", f] : List Str).zip us))
    (aC : PySem.W.nsIn K mainGlobals x = some (some (.ref C))) (lC : K.lookup C = some (excClassObj nm q C N bs (.ref PE :: veT) true sn sub ab col dd k0 k1 k2 k3 k5 "ValueError.__new__"))
    (iC : PySem.W.findIn K (.ref C) "__init__" = some (some (.ref fI))) (lI : K.lookup fI = some ⟨oc, od, .func (PySem.W.fnOf "__init__" qual (defArgs st) (defBody st) (defScope st) .none kV dc pm an cd ct), sl⟩)
    (ck : chk1 K PE C fI f cd qual = true) : Cls1 K mg PE x f C := by
  obtain ⟨c1, c2⟩ := Bool.and_eq_true_iff.mp ck
  obtain ⟨c2, c3⟩ := Bool.and_eq_true_iff.mp c2
  obtain ⟨c3, c4⟩ := Bool.and_eq_true_iff.mp c3
  obtain ⟨c4, c5⟩ := Bool.and_eq_true_iff.mp c4
  obtain ⟨e, n⟩ := er_mk S lC c1
  have F1 := fun_mk (st := st) lI c3 c4
  exact ⟨e, n, PySem.W.mg_of X G aC, ⟨fI, _, st, qual, F1, i1, F1.binds (ps := ["self", f]) hb, iC, of_decide_eq_true c2⟩, of_decide_eq_true c5⟩
def chk0 (K : PySem.W.Frag) (PE C fI : Addr) (cd : Value) (qual : Str) : Bool := chkC K PE C && (decide (PySem.W.typeIn K (.ref fI) = some (.type "function")) && (PySem.W.codeIn K cd qual && (decide (PySem.W.ks_superIn K C C "__init__" = some (some (.builtin "ValueError.__init__"))) && (decide (PySem.W.subIn K (.ref C) (.type "ValueError") = some true) && decide (PySem.W.mroIn K C (.ref C) = some true)))))
theorem cls0_mk {oc kV dc pm ct : Value} {od an : Option Addr} {cda cc : Addr} {osl : Array (Option Value)} {p p0 p1 p2 p3 p4 : Pos} {ccl : Value} {cdd : Option Addr} {vs : Array Value} {ccs : Array (Option Value)} {file : Str} {tf : Tok} {cl : Value} {cld : Option Addr} {csl : Array (Option Value)}
    (X : K.In h) (G : h.Ns mainGlobals mg) (S : Sh0 P K mg)
    (aC : PySem.W.nsIn K mainGlobals x = some (some (.ref C))) (lC : K.lookup C = some (excClassObj nm q C N bs (.ref PE :: veT) true sn sub ab col dd k0 k1 k2 k3 k5 "ValueError.__new__"))
    (iC : PySem.W.findIn K (.ref C) "__init__" = some (some (.ref fI)))
    (lI : K.lookup fI = some ⟨oc, od, .func (PySem.W.ksFn "__init__" qual (supArgs p) (supBody p0 p1 p2 p3 p4) supScope .none kV dc pm an (.ref cda) ct cc), osl⟩)
    (lD : K.lookup cda = some ⟨ccl, cdd, .fields vs, ccs⟩) (lc : K.lookup cc = some ⟨cl, cld, .cell (some (.ref C)), csl⟩)
    (v2 : vs[2]? = some (.str file tf)) (vf : ((P.main.file : Str) == file) = true) (pl : (p2.endLine == p3.line) = true)
    (ck : chk0 K PE C fI (.ref cda) qual = true) : Cls0 P K mg PE x C := by
  obtain ⟨c1, c2⟩ := Bool.and_eq_true_iff.mp ck
  obtain ⟨c2, c3⟩ := Bool.and_eq_true_iff.mp c2
  obtain ⟨c3, c4⟩ := Bool.and_eq_true_iff.mp c3
  obtain ⟨c4, c5⟩ := Bool.and_eq_true_iff.mp c4
  obtain ⟨c5, c6⟩ := Bool.and_eq_true_iff.mp c5
  obtain ⟨e, n⟩ := er_mk S.toSh lC c1
  exact ⟨e, n, ⟨fI, e.oex, iC, of_decide_eq_true c2, ⟨oc, od, qual, kV, dc, pm, ct, an, cda, cc, osl, p, p0, p1, p2, p3, p4, ccl, cdd, vs, ccs, file, tf, cl, cld, csl, lI, c3, lD, v2, vf, lc, pl⟩, S.gs, S.top, S.third, of_decide_eq_true c4, of_decide_eq_true c5, of_decide_eq_true c6⟩, PySem.W.mg_of X G aC⟩
theorem sh0_mk (X : K.In h) (G : h.Ns mainGlobals mg) (hn : PySem.W.specialIn K (.builtin "object.__class__") "__get__" = some (some (.builtin "getset_descriptor.__get__"))) (ht : PySem.W.takesIn K (.builtin "object.__class__") = some true)
    (gs : PySem.W.nsIn K mainGlobals "super" = some none) (top : (P.main.scope.names.lookup ("super" : Str)).isSome = false) (third : PySem.W.nsIn K cStatics "thirdparty.any" = some none) : Sh0 P K mg := ⟨⟨hn, ht⟩, PySem.W.mg_none_of X G gs, top, third⟩
end
end LawK
set_option maxHeartbeats 4000000
namespace LawK
open PySem PySem.Spec PyProof.Rows L2 Ev

theorem dec_int {a b : Int} : decide (V.int a = V.int b) = decide (a = b) := by
  by_cases h : a = b
  · rw [h, decide_eq_true rfl, decide_eq_true rfl]
  · rw [decide_eq_false h, decide_eq_false (fun e => h (V.int.inj e))]
theorem dec_str {a b : Str} : decide (V.str a = V.str b) = decide (a = b) := by
  by_cases h : a = b
  · rw [h, decide_eq_true rfl, decide_eq_true rfl]
  · rw [decide_eq_false h, decide_eq_false (fun e => h (V.str.inj e))]
/-- what is never reached -/
theorem ps_dead {X : Cx} {st : Stmt} : PS X st (fun _ _ _ => False) := ⟨fun pins s σ H D I q => q.elim⟩
/-- the class of libraries, as it stands at C -/
structure LibC (K : PySem.W.Frag) (mg : Str → Option Value) (C fI : Addr) (fdI : FuncData) : Prop where
  mak : Mk K C fI
  cl : Cls K C
  nt : NoAttr K C "texts"
  FI : Fun K "__init__" "Library.__init__" (inClass (topS 999) 0) fI fdI
  bI : Binds K fdI ["self", "texts"] []
  g : mg "Library" = some (.ref C)
/-- a library of these texts, at s -/
structure LibAt (H : Hp) (C s : Addr) (ts : List Str) : Prop where
  ex : ∃ dx a, H s = some (.ins C dx [("texts", .ref a)]) ∧ H a = some (.tup (ts.map V.str))
  few : ts.length ≤ 8
  sg : ∀ t ∈ ts, sgB t = true
  len : ∀ t ∈ ts, t.length ≤ 200
theorem LibAt.same {H H' : Hp} {C s : Addr} {ts : List Str} (k : Same H H') (h : LibAt H C s ts) : LibAt H' C s ts := by
  obtain ⟨⟨dx, a, h1, h2⟩, h3, h4, h5⟩ := h
  exact ⟨⟨dx, a, k _ _ h1, k _ _ h2⟩, h3, h4, h5⟩
theorem lk1 {a : V} : ([("texts", a)] : List (Str × V)).lookup ("texts" : Str) = some a := by simp [List.lookup]
/-- a text by its number -/
abbrev tx (ts : List Str) (i : Nat) : Str := ts.getD i Str.empty
abbrev Pl := Nat × Nat
structure InT (ts : List Str) (p : Pl) : Prop where
  text : p.1 < ts.length
  at_ : p.2 < (tx ts p.1).length
/-- a pair of numbers -/
def PAt (H : Hp) (v : V) (p : Pl) : Prop := ∃ b, v = .ref b ∧ H b = some (.tup [.int (p.1 : Nat), .int (p.2 : Nat)])
theorem PAt.same {H H' : Hp} {v : V} {p : Pl} (k : Same H H') (h : PAt H v p) : PAt H' v p := let ⟨b, e, q⟩ := h; ⟨b, e, k _ _ q⟩
def spLInit (C : Addr) : Sp := fun vs H Q E => ∃ (s dx a : Addr) (ts : List Str), vs = [.ref s, .ref a] ∧ H s = some (.ins C dx []) ∧ H a = some (.tup (ts.map V.str)) ∧ ts.length ≤ 8 ∧ (∀ t ∈ ts, sgB t = true) ∧ (∀ t ∈ ts, t.length ≤ 200) ∧
  ∀ H', H' s = some (.ins C dx [("texts", .ref a)]) → (∀ b u, b ≠ s → H b = some u → H' b = some u) → Q .non H'
def spPPlace (C : Addr) : Sp := fun vs H Q _ => ∃ (s : Addr) (ts : List Str) (v : V) (p : Pl), vs = [.ref s, v] ∧ LibAt H C s ts ∧ PAt H v p ∧ InT ts p ∧ Q (.bl true) H
theorem sum_le {ts : List Str} (h : ∀ t ∈ ts, t.length ≤ 200) : (ts.map fun t => (t.length : Int)).sum ≤ 200 * (ts.length : Int) := by
  induction ts with
  | nil => exact Int.le_refl _
  | cons t ts ih =>
    have a := ih fun u hu => h u (List.mem_cons_of_mem _ hu)
    have b := h t List.mem_cons_self
    simp only [List.map_cons, List.sum_cons, List.length_cons]
    omega
theorem tx_mem {ts : List Str} {i : Nat} (h : i < ts.length) : tx ts i ∈ ts := by
  unfold tx
  rw [List.getD_eq_getElem?_getD, List.getElem?_eq_getElem h]
  exact List.getElem_mem h
theorem tx_at {ts : List Str} {i : Nat} (h : i < ts.length) : (ts.map V.str)[i]? = some (.str (tx ts i)) := by
  unfold tx
  rw [List.getElem?_map, List.getD_eq_getElem?_getD, List.getElem?_eq_getElem h]
  rfl
section
variable {P : Program} {w : World} {K : PySem.W.Frag} {mg : Str → Option Value} {base : Heap}
variable {C fI : Addr} {fdI : FuncData}
abbrev sPSigns : Stmt := topS 7
theorem scPSigns : FnScope ["thing"] ["thing"] (defScope sPSigns) := ⟨rfl, rfl, rfl, by decide +kernel, rfl, by decide +kernel, by decide +kernel⟩
theorem ok_PSigns {f : Addr} {fd : FuncData} (F : Fun K "is_signs" "is_signs" sPSigns f fd)  (T : Glob mg) : FnOk P w K mg base CX0 1 f fd ["thing"] spSg := by
  refine F.ok scPSigns (fun vs H Q E h => ?_) (fun cdv A outer s H vs Q E hr h => ?_)
  · obtain ⟨x, k, rfl, _⟩ := h
    rfl
  · refine ⟨_, (pss_one (ps_ret (pe_and (pe_callB call_isi (by rfl) T.isinstance PyProof.Rows.boot_isinstance (pa_cons (pv 0) (pa_cons (pe_bltn (v := .ty "str") (by rfl) T.str (by decide +kernel) rfl) pa_nil))) (pe_and (pe_bm0 PySem.F.plainAttrs_str PySem.F.slot_str_isascii PySem.F.type_str_isascii mt_isascii (pv 0)) (pe_one (pe_bm0 PySem.F.plainAttrs_str PySem.F.slot_str_isprintable PySem.F.type_str_isprintable mt_isprintable (pv 0))))))), ?_⟩
    obtain ⟨x, k, rfl, hk, hz, q⟩ := h
    refine ⟨x, rfl, x, .ty "str", .type (Kn.name k), .type "str", kitB k .str, rfl, .ty _, Kd.tyx hk, kit_kn k .str, _, rfl, ?_⟩
    cases hk with
    | str z =>
      refine iteT ⟨.str z, rfl, rfl, z, rfl, rfl, trivial, _, rfl, ite2 (fun e => ⟨.str z, rfl, rfl, z, rfl, rfl, trivial, ?_⟩) (fun e => ?_)⟩
      · have q' : Q (.bl (sgB z)) H := q
        rw [← sgB_of, e, Bool.true_and] at q'
        exact q'
      · have e' : Txt.isascii z = false := by simpa using e
        have q' : Q (.bl (sgB z)) H := q
        rw [← sgB_of, e', Bool.false_and] at q'
        exact q'
    | non => exact iteF q
    | bl b => exact iteF q
    | int i => exact iteF q
    | lst e => exact iteF q
    | tup e => exact iteF q
    | dic e => exact iteF q
abbrev sPNumber : Stmt := topS 6
theorem scPNumber : FnScope ["thing"] ["thing"] (defScope sPNumber) := ⟨rfl, rfl, rfl, by decide +kernel, rfl, by decide +kernel, by decide +kernel⟩
theorem ok_PNumber {f : Addr} {fd : FuncData} (F : Fun K "is_number" "is_number" sPNumber f fd)   (T : Glob mg) : FnOk P w K mg base CX0 1 f fd ["thing"] spNum := by
  refine F.ok scPNumber (fun vs H Q E h => ?_) (fun cdv A outer s H vs Q E hr h => ?_)
  · obtain ⟨x, k, rfl, _⟩ := h
    rfl
  · refine ⟨_, (pss_one (ps_ret (pe_and (pe_callB call_isi (by rfl) T.isinstance PyProof.Rows.boot_isinstance (pa_cons (pv 0) (pa_cons (pe_bltn (v := .ty "int") (by rfl) T.int (by decide +kernel) rfl) pa_nil))) (pe_and (pe_not (pe_callB call_isi (by rfl) T.isinstance PyProof.Rows.boot_isinstance (pa_cons (pv 0) (pa_cons (pe_bltn (v := .ty "bool") (by rfl) T.bool (by decide +kernel) rfl) pa_nil)))) (pe_one (pe_cmpR op_ge (pv 0) pe_int (nomark _))))))), ?_⟩
    obtain ⟨x, k, rfl, hk, q⟩ := h
    refine ⟨x, rfl, x, .ty "int", .type (Kn.name k), .type "int", kitB k .int, rfl, .ty _, Kd.tyx hk, kit_kn k .int, _, rfl, ?_⟩
    cases hk with
    | int i => exact iteT ⟨.int i, rfl, .int i, .ty "bool", .type (Kn.name .int), .type "bool", kitB .int .bl, rfl, .ty _, Kd.tyx (.int i), kit_kn .int .bl, _, rfl, _, rfl, iteT ⟨.int i, rfl, _, _, rfl, rfl, q⟩⟩
    | bl b => exact iteT ⟨.bl b, rfl, .bl b, .ty "bool", .type (Kn.name .bl), .type "bool", kitB .bl .bl, rfl, .ty _, Kd.tyx (.bl b), kit_kn .bl .bl, _, rfl, _, rfl, iteF q⟩
    | str z => exact iteF q
    | non => exact iteF q
    | lst e => exact iteF q
    | tup e => exact iteF q
    | dic e => exact iteF q
abbrev sPWord : Stmt := topS 8
theorem scPWord : FnScope ["thing"] ["thing"] (defScope sPWord) := ⟨rfl, rfl, rfl, by decide +kernel, rfl, by decide +kernel, by decide +kernel⟩
theorem ok_PWord {f : Addr} {fd : FuncData} (F : Fun K "is_word" "is_word" sPWord f fd)  {fPSigns : Addr} {fdPSigns : FuncData} (DPSigns : Dk P w K mg base "is_signs" sPSigns ["thing"] 1 spSg fPSigns fdPSigns) (T : Glob mg) : FnOk P w K mg base CX0 2 f fd ["thing"] spWd := by
  refine F.ok scPWord (fun vs H Q E h => ?_) (fun cdv A outer s H vs Q E hr h => ?_)
  · obtain ⟨x, k, rfl, _⟩ := h
    rfl
  · refine ⟨_, (pss_one (ps_ret (pe_and (pe_call DPSigns.ok (hr.mono (by decide)) (by rfl) DPSigns.g DPSigns.F.kp DPSigns.b .nil pass0 (pa_cons (pv 0) pa_nil)) (pe_one (pe_cmpR op_gt (pe_callB call_lenZ (by rfl) T.len PySem.boot_len (pa_cons (pv 0) pa_nil)) pe_int (nomark _)))))), ?_⟩
    obtain ⟨x, k, rfl, hk, hz, q⟩ := h
    refine ⟨x, rfl, x, k, rfl, hk, hz, _, rfl, ite2 (fun e => ?_) (fun e => ?_)⟩
    · cases hk with
      | str z =>
        refine ⟨.str z, rfl, z, rfl, len5 (hz z rfl), _, _, rfl, rfl, ?_⟩
        have e' : sgB z = true := e
        have q' : Q (.bl (sgB z && decide ((0 : Int) < (z.length : Int)))) H := q
        rw [e', Bool.true_and] at q'
        exact q'
      | non => exact Bool.noConfusion e
      | bl b => exact Bool.noConfusion e
      | int i => exact Bool.noConfusion e
      | lst e2 => exact Bool.noConfusion e
      | tup e2 => exact Bool.noConfusion e
      | dic e2 => exact Bool.noConfusion e
    · have e' : sgV x = false := by simpa using e
      cases hk with
      | str z =>
        have e2 : sgB z = false := e'
        have q' : Q (.bl (sgB z && decide ((0 : Int) < (z.length : Int)))) H := q
        rw [e2, Bool.false_and] at q'
        exact q'
      | non => exact q
      | bl b => exact q
      | int i => exact q
      | lst e2 => exact q
      | tup e2 => exact q
      | dic e2 => exact q
end
end LawK
set_option maxHeartbeats 4000000
namespace LawK
open PySem PySem.Spec PyProof.Rows L2 Ev

def spAnySign : Sp := fun vs H Q _ => ∃ (p : Addr), vs = [.ref p] ∧ ∃ l, HandL H p l ∧ ∀ c H', sgC c = true → HandL H' p l → But p H H' → Q (.str (SX.S [c])) H'
def spSign : Sp := fun vs H Q _ => ∃ (p : Addr) (k : Int), vs = [.ref p, .int k] ∧ 0 ≤ k ∧ k < 5 ∧ ∃ l, HandL H p l ∧ ∀ c H', sgC c = true → HandL H' p l → But p H H' → Q (.str (SX.S [c])) H'
def spLText : Sp := fun vs H Q _ => ∃ (p : Addr) (m : Int), vs = [.ref p, .int m] ∧ 0 ≤ m ∧ m ≤ 200 ∧ ∃ l, HandL H p l ∧ ∀ y H', sgB y = true → (y.length : Int) ≤ m → HandL H' p l → But p H H' → Q (.str y) H'
def spLWord : Sp := fun vs H Q _ => ∃ (p : Addr) (m : Int), vs = [.ref p, .int m] ∧ 1 ≤ m ∧ m ≤ 200 ∧ ∃ l, HandL H p l ∧ ∀ y H', sgB y = true → (y.length : Int) ≤ m → 1 ≤ y.length → HandL H' p l → But p H H' → Q (.str y) H'
def spLTexts : Sp := fun vs H Q _ => ∃ (p : Addr) (m : Int), vs = [.ref p, .int m] ∧ 0 ≤ m ∧ m ≤ 200 ∧ ∃ l, HandL H p l ∧
  ∀ a (ts : List Str) H', H' a = some (.tup (ts.map V.str)) → ts.length ≤ 8 → (∀ t ∈ ts, sgB t = true) → (∀ t ∈ ts, (t.length : Int) ≤ m) → HandL H' p l → But p H H' → Q (.ref a) H'
theorem len_S1 (cs : List Nat) : (SX.S cs).length = cs.length := rfl
theorem sum_one (cs : List Nat) : ((cs.map fun c => SX.S [c]).map (·.length)).sum ≤ cs.length := by
  induction cs with
  | nil => exact Nat.le_refl _
  | cons c cs ih =>
    simp only [List.map_cons, List.sum_cons, List.length_cons]
    have : (SX.S [c]).length = 1 := rfl
    omega
section
variable {P : Program} {w : World} {K : PySem.W.Frag} {mg : Str → Option Value} {base : Heap}
abbrev sAnySign : Stmt := topS 27
theorem scAnySign : FnScope ["hand", "signs"] ["hand"] (defScope sAnySign) := ⟨rfl, rfl, rfl, by decide +kernel, rfl, by decide +kernel, by decide +kernel⟩
theorem ok_AnySign {f : Addr} {fd : FuncData} (F : Fun K "_law_any_sign" "_law_any_sign" sAnySign f fd)  {fDraw : Addr} {fdDraw : FuncData} (DDraw : Dk P w K mg base "_law_draw" sDraw ["hand", "many"] 1 spDraw fDraw fdDraw) (T : Glob mg) : FnOk P w K mg base CX0 2 f fd ["hand"] spAnySign := by
  refine F.ok scAnySign (fun vs H Q E h => ?_) (fun cdv A outer s H vs Q E hr h => ?_)
  · obtain ⟨p, rfl, _⟩ := h
    rfl
  · refine ⟨_, (pss_cons (ps_set (i := 1) scAnySign.nd rfl (.inl rfl) pe_str)
      (pss_cons (ps_set (i := 1) scAnySign.nd rfl (.inl rfl) (pe_op op_add_str (pv 1) pe_str))
      (pss_one (ps_ret (pe_ix ix_str (pv 1) (pe_call DDraw.ok (hr.mono (by decide)) (by rfl) DDraw.g DDraw.F.kp DDraw.b .nil pass0 (pa_cons (pv 0) (pa_cons (pe_callB call_lenZ (by rfl) T.len PySem.boot_len (pa_cons (pv 1) pa_nil)) pa_nil))) (fun _ _ => rfl)))))), ?_⟩
    obtain ⟨p, rfl, lh, hH, q⟩ := h
    refine ⟨_, rfl, _, _, rfl, rfl, by decide +kernel, ?_⟩
    dsimp only
    refine ⟨_, rfl, .ref p, rfl, _, rfl, _, rfl, by decide +kernel, p, _, rfl, by decide +kernel, by decide +kernel, lh, hH, fun v H1 v0 v1 h2 b2 => ?_⟩
    obtain ⟨c, ec, hc⟩ := sg_at (by decide +kernel) v0 v1
    exact ⟨_, v, c, rfl, rfl, by decide +kernel, ec, q c H1 hc h2 b2⟩
abbrev sSign : Stmt := topS 28
theorem scSign : FnScope ["hand", "kind", "some"] ["hand", "kind"] (defScope sSign) := ⟨rfl, rfl, rfl, by decide +kernel, rfl, by decide +kernel, by decide +kernel⟩
theorem ok_Sign {f : Addr} {fd : FuncData} (F : Fun K "_law_sign" "_law_sign" sSign f fd)  {fDraw : Addr} {fdDraw : FuncData} (DDraw : Dk P w K mg base "_law_draw" sDraw ["hand", "many"] 1 spDraw fDraw fdDraw) {fAnySign : Addr} {fdAnySign : FuncData} (DAnySign : Dk P w K mg base "_law_any_sign" sAnySign ["hand"] 2 spAnySign fAnySign fdAnySign) (T : Glob mg) : FnOk P w K mg base CX0 3 f fd ["hand", "kind"] spSign := by
  refine F.ok scSign (fun vs H Q E h => ?_) (fun cdv A outer s H vs Q E hr h => ?_)
  · obtain ⟨p, k, rfl, _⟩ := h
    rfl
  · refine ⟨_, (pss_cons (ps_if (pt_cmpR op_eq (pv 1) pe_int (nomark _))
      (pss_one (ps_ret (pe_call DAnySign.ok (hr.mono (by decide)) (by rfl) DAnySign.g DAnySign.F.kp DAnySign.b .nil pass0 (pa_cons (pv 0) pa_nil))))
      pss_nil)
      (pss_cons (ps_set (i := 2) scSign.nd rfl (.inl rfl) (pe_ix ix_list (pe_lst (pa_cons pe_str (pa_cons pe_str (pa_cons pe_str (pa_cons pe_str pa_nil))))) (pv 1) (fun _ _ => rfl)))
      (pss_one (ps_ret (pe_ix ix_str (pv 2) (pe_call DDraw.ok (hr.mono (by decide)) (by rfl) DDraw.g DDraw.F.kp DDraw.b .nil pass0 (pa_cons (pv 0) (pa_cons (pe_callB call_lenZ (by rfl) T.len PySem.boot_len (pa_cons (pv 2) pa_nil)) pa_nil))) (fun _ _ => rfl)))))), ?_⟩
    obtain ⟨p, k, rfl, k0, k4, lh, hH, q⟩ := h
    refine ⟨.int k, rfl, rfl, _, rfl, ite2 (fun e => ?_) (fun e => ?_)⟩
    · exact ⟨.ref p, rfl, p, rfl, lh, hH, q⟩
    · rw [dec_int] at e
      have k3 : k < 4 := by
        have : ¬ k = 4 := fun z => e (decide_eq_true z)
        omega
      dsimp only [tNext, tDrop]
      refine ⟨by show 4 ≤ sizeLine; decide, fun a na => ?_⟩
      have h1 := hH.same (Same.new (o := .lst [.str "ab", .str "abc", .str "a", .str "ab~ "]) na)
      have b1 := But.same (p := p) (Same.new (H := H) (o := .lst [.str "ab", .str "abc", .str "a", .str "ab~ "]) na)
      have hA : upd H a (.lst [.str "ab", .str "abc", .str "a", .str "ab~ "]) a = some (.lst [.str "ab", .str "abc", .str "a", .str "ab~ "]) := upd_same
      revert h1 b1 hA
      generalize upd H a (.lst [.str "ab", .str "abc", .str "a", .str "ab~ "]) = H1
      intro h1 b1 hA
      have e4 : k = 0 ∨ k = 1 ∨ k = 2 ∨ k = 3 := by omega
      obtain ⟨z, w, e2⟩ : ∃ z : Str, (sgB z = true ∧ 0 < z.length ∧ z.length ≤ 100) ∧ atI [V.str "ab", .str "abc", .str "a", .str "ab~ "] k = some (.str z) := by
        rcases e4 with rfl | rfl | rfl | rfl
        · exact ⟨"ab", ⟨by decide +kernel, by decide +kernel, by decide +kernel⟩, rfl⟩
        · exact ⟨"abc", ⟨by decide +kernel, by decide +kernel, by decide +kernel⟩, rfl⟩
        · exact ⟨"a", ⟨by decide +kernel, by decide +kernel, by decide +kernel⟩, rfl⟩
        · exact ⟨"ab~ ", ⟨by decide +kernel, by decide +kernel, by decide +kernel⟩, rfl⟩
      refine ⟨_, rfl, a, _, k, .str z, rfl, rfl, sq_of hA, e2, .str z, rfl, .ref p, rfl, .str z, rfl, z, rfl, len6 w.2.2, p, (z.length : Int), rfl, by omega, by omega, lh, h1, fun v H2 v0 v1 h2 b2 => ?_⟩
      obtain ⟨c, ec, hc⟩ := sg_at w.1 v0 v1
      exact ⟨z, v, c, rfl, rfl, len6 w.2.2, ec, q c H2 hc h2 (b1.trans b2)⟩
abbrev sText : Stmt := topS 29
theorem scText : FnScope ["hand", "most", "kind", "way", "many", "one", "other", "turn"] ["hand", "most"] (defScope sText) := ⟨rfl, rfl, rfl, by decide +kernel, rfl, by decide +kernel, by decide +kernel⟩
theorem ok_Text {f : Addr} {fd : FuncData} (F : Fun K "_law_text" "_law_text" sText f fd)  {fDraw : Addr} {fdDraw : FuncData} (DDraw : Dk P w K mg base "_law_draw" sDraw ["hand", "many"] 1 spDraw fDraw fdDraw) {fSign : Addr} {fdSign : FuncData} (DSign : Dk P w K mg base "_law_sign" sSign ["hand", "kind"] 3 spSign fSign fdSign) (T : Glob mg) : FnOk P w K mg base CX0 4 f fd ["hand", "most"] spLText := by
  refine F.ok scText (fun vs H Q E h => ?_) (fun cdv A outer s H vs Q E hr h => ?_)
  · obtain ⟨p, m, rfl, _⟩ := h
    rfl
  · refine ⟨_, (pss_cons (ps_set (i := 2) scText.nd rfl (.inr rfl) (pe_call DDraw.ok (hr.mono (by decide)) (by rfl) DDraw.g DDraw.F.kp DDraw.b .nil pass0 (pa_cons (pv 0) (pa_cons pe_int pa_nil))))
      (pss_cons (ps_set (i := 3) scText.nd rfl (.inl rfl) (pe_call DDraw.ok (hr.mono (by decide)) (by rfl) DDraw.g DDraw.F.kp DDraw.b .nil pass0 (pa_cons (pv 0) (pa_cons pe_int pa_nil))))
      (pss_cons (ps_set (i := 4) scText.nd rfl (.inl rfl) (pe_call DDraw.ok (hr.mono (by decide)) (by rfl) DDraw.g DDraw.F.kp DDraw.b .nil pass0 (pa_cons (pv 0) (pa_cons (pe_op op_add (pv 1) pe_int) pa_nil))))
      (pss_cons (ps_if (pt_cmpR op_gt (pv 3) pe_int (nomark _))
      (pss_one (ps_ret (pe_join pe_str (pe_lc (own := [("turn", 7)]) (g := gName 7) (by rfl) scText.nd (pi_range1 (by rfl) T.range (pa_cons (pv 4) pa_nil)) (blkOk_by (N := ["hand", "most", "kind", "way", "many", "one", "other", "turn"]) (sc := defScope sText) (by decide +kernel)) (fun _ _ _ _ _ => pg_name (i := 7) scText.nd rfl (.inl rfl)) (fun _ _ _ _ _ => pts_nil) (fun _ _ _ _ _ => (pe_call DSign.ok (hr.mono (by decide)) (by rfl) DSign.g DSign.F.kp DSign.b .nil pass0 (pa_cons (pv 0) (pa_cons (pv 2) pa_nil))))))))
      pss_nil)
      (pss_cons (ps_set (i := 5) scText.nd rfl (.inl rfl) (pe_join pe_str (pe_lc (own := [("turn", 7)]) (g := gName 7) (by rfl) scText.nd (pi_range1 (by rfl) T.range (pa_cons (pe_op op_add pe_int (pe_call DDraw.ok (hr.mono (by decide)) (by rfl) DDraw.g DDraw.F.kp DDraw.b .nil pass0 (pa_cons (pv 0) (pa_cons pe_int pa_nil)))) pa_nil)) (blkOk_by (N := ["hand", "most", "kind", "way", "many", "one", "other", "turn"]) (sc := defScope sText) (by decide +kernel)) (fun _ _ _ _ _ => pg_name (i := 7) scText.nd rfl (.inl rfl)) (fun _ _ _ _ _ => pts_nil) (fun _ _ _ _ _ => (pe_call DSign.ok (hr.mono (by decide)) (by rfl) DSign.g DSign.F.kp DSign.b .nil pass0 (pa_cons (pv 0) (pa_cons (pv 2) pa_nil)))))))
      (pss_cons (ps_if (pt_cmpR op_eq (pv 3) pe_int (nomark _))
      (pss_one (ps_ret (pe_slice sl_str (pe_op op_mulS (pv 5) (pv 4)) po_none (po_some (pv 4)))))
      pss_nil)
      (pss_cons (ps_set (i := 6) scText.nd rfl (.inl rfl) (pe_call DSign.ok (hr.mono (by decide)) (by rfl) DSign.g DSign.F.kp DSign.b .nil pass0 (pa_cons (pv 0) (pa_cons (pv 2) pa_nil))))
      (pss_cons (ps_for PassesOwn.never rfl (pi_range1 (by rfl) T.range (pa_cons pe_int pa_nil)) (pg_name (i := 7) scText.nd rfl (.inl rfl))
      (pss_cons (ps_if (pt_cmpR op_ge (pe_callB call_lenZ (by rfl) T.len PySem.boot_len (pa_cons (pv 5) pa_nil)) (pv 4) (nomark _))
        (pss_one ps_break)
        pss_nil)
        (pss_one (ps_par (i := 5) (j := 6) (by rfl) scText.nd rfl rfl (by decide) rfl rfl (pa_cons (pe_op op_add_str (pv 5) (pv 6)) (pa_cons (pv 5) pa_nil)) (by rfl)))))
      (pss_one (ps_ret (pe_slice sl_str (pv 5) po_none (po_some (pv 4))))))))))))), ?_⟩
    obtain ⟨p, m, rfl, m0, m1, lh, hH, q⟩ := h
    refine ⟨.ref p, rfl, p, 5, rfl, by decide, by decide, lh, hH, fun kk H1 k0 k4 h1 b1 => ?_⟩
    refine ⟨.ref p, rfl, p, 4, rfl, by decide, by decide, lh, h1, fun wy H2 w0 w4 h2 b2 => ?_⟩
    refine ⟨.ref p, rfl, _, rfl, _, _, rfl, rfl, p, m + 1, rfl, by omega, by omega, lh, h2, fun n H3 n0 n1 h3 b3 => ?_⟩
    have b13 := (b1.trans b2).trans b3
    refine ⟨_, rfl, _, _, rfl, rfl, _, rfl, ite2 (fun e => ?_) (fun e => ?_)⟩
    · refine ⟨⟨_, rfl⟩, _, rfl, n, rfl, by omega, by omega, fun D nD => lc_range (fun i H' => ∃ cs : List Nat, H' D = some (.lst (cs.map fun c => V.str (SX.S [c]))) ∧ cs.length = i ∧ (∀ c ∈ cs, sgC c = true) ∧ Hn p lh H3 H') ⟨[], upd_same, rfl, fun c hc => absurd hc (by simp), (Hn.refl h3).new nD⟩ ?_ ?_⟩
      · rintro i H' hi ⟨cs, hD, hl, hs, hn⟩
        refine ⟨rfl, .ref p, rfl, .int kk, rfl, p, kk, rfl, k0, k4, lh, hn.at_, fun c H2 hc h2 b2 => ?_⟩
        have nDp := (h3.ne nD).1
        refine ⟨_, b2 _ _ nDp hD, ?_, cs ++ [c], ?_, ?_, ?_, (hn.go h2 b2).at h3 nD⟩
        · rw [List.length_map, hl, sizeLine_eq]
          omega
        · rw [upd_same, List.map_append]
          rfl
        · rw [List.length_append, hl]
          rfl
        · intro d hd
          rcases List.mem_append.mp hd with g | g
          · exact hs d g
          · rw [List.mem_singleton.mp g]
            exact hc
      · rintro H' ⟨cs, hD, hl, hs, hn⟩
        have e1 : (cs.map fun c => V.str (SX.S [c])) = (cs.map fun c => SX.S [c]).map V.str := by rw [List.map_map]; rfl
        have hln : (cs.length : Int) ≤ n := by omega
        have hsum := sum_one cs
        have sj : sgB (SX.S cs) = true := by rw [sgB_S]; exact List.all_eq_true.mpr hs
        have lj : (SX.S cs).length = cs.length := rfl
        refine ⟨_, D, cs.map (fun c => SX.S [c]), rfl, rfl, .inl (sq_of (e1 ▸ hD)), ?_, ?_⟩
        · rw [List.length_map]
          have : (Str.ofString "").length = 0 := by decide +kernel
          rw [this]
          omega
        · rw [join1]
          exact q _ H' sj (by omega) hn.at_ (b13.trans hn.but)
    · dsimp only [tNext, tDrop]
      refine ⟨⟨_, rfl⟩, .ref p, rfl, p, 4, rfl, by decide, by decide, lh, h3, fun u H4 u0 u1 h4 b4 => ?_⟩
      have b14 := b13.trans b4
      refine ⟨_, _, rfl, rfl, 1 + u, rfl, by omega, by omega, fun D nD => lc_range (fun i H' => ∃ cs : List Nat, H' D = some (.lst (cs.map fun c => V.str (SX.S [c]))) ∧ cs.length = i ∧ (∀ c ∈ cs, sgC c = true) ∧ Hn p lh H4 H') ⟨[], upd_same, rfl, fun c hc => absurd hc (by simp), (Hn.refl h4).new nD⟩ ?_ ?_⟩
      · rintro i H' hi ⟨cs, hD, hl, hs, hn⟩
        refine ⟨rfl, .ref p, rfl, .int kk, rfl, p, kk, rfl, k0, k4, lh, hn.at_, fun c H2 hc h2 b2 => ?_⟩
        have nDp := (h4.ne nD).1
        refine ⟨_, b2 _ _ nDp hD, ?_, cs ++ [c], ?_, ?_, ?_, (hn.go h2 b2).at h4 nD⟩
        · rw [List.length_map, hl, sizeLine_eq]
          omega
        · rw [upd_same, List.map_append]
          rfl
        · rw [List.length_append, hl]
          rfl
        · intro d hd
          rcases List.mem_append.mp hd with g | g
          · exact hs d g
          · rw [List.mem_singleton.mp g]
            exact hc
      · rintro H' ⟨cs, hD, hl, hs, hn⟩
        have e1 : (cs.map fun c => V.str (SX.S [c])) = (cs.map fun c => SX.S [c]).map V.str := by rw [List.map_map]; rfl
        have hln : (cs.length : Int) ≤ 4 := by omega
        have hsum := sum_one cs
        have sj : sgB (SX.S cs) = true := by rw [sgB_S]; exact List.all_eq_true.mpr hs
        have lj : (SX.S cs).length = cs.length := rfl
        refine ⟨_, D, cs.map (fun c => SX.S [c]), rfl, rfl, .inl (sq_of (e1 ▸ hD)), ?_, ?_⟩
        · rw [List.length_map]
          have : (Str.ofString "").length = 0 := by decide +kernel
          rw [this]
          omega
        · rw [join1]
          have h5 := hn.at_
          have b15 := b14.trans hn.but
          have l4 : (SX.S cs).length ≤ 4 := by omega
          clear hD hl hs hsum e1 hn lj
          revert sj l4 h5 b15
          generalize SX.S cs = one
          clear nD
          intro sj h5 b15 l4
          refine ⟨.int wy, rfl, rfl, _, rfl, ite2 (fun e => ?_) (fun e => ?_)⟩
          · obtain ⟨l2, s2⟩ := mul_facts one n
            have c1 := cut_hi (z := Txt.mul one n) (lo := none) (u := n) (by omega)
            have lm : (Txt.mul one n).length ≤ 5000 := by
              have : one.length * n.toNat ≤ 4 * 201 := Nat.mul_le_mul l4 (by omega)
              omega
            exact ⟨_, rfl, _, rfl, one, n, rfl, rfl, by omega, by omega, by omega, .int n, rfl, n, rfl, _, rfl, len5 lm, q _ _ (sgB_cut (s2 sj) _ _) (by omega) h5 b15⟩
          · dsimp only [tNext, tDrop]
            refine ⟨.ref p, rfl, .int kk, rfl, p, kk, rfl, k0, k4, lh, h5, fun c H6 hc h6 b6 => ?_⟩
            have so : sgB (SX.S [c]) = true := by rw [sgB_S]; exact List.all_eq_true.mpr fun d hd => by rw [List.mem_singleton.mp hd]; exact hc
            have b16 := b15.trans b6
            refine ⟨8, rfl, by decide, by decide, for_range (fun i σ H' => ∃ (x y : Str) (u : Option V), σ = [some (.ref p), some (.int m), some (.int kk), some (.int wy), some (.int n), some (.str x), some (.str y), u] ∧ sgB x = true ∧ sgB y = true ∧ x.length ≤ 4 * 2 ^ i ∧ y.length ≤ 4 * 2 ^ i ∧ H' = H6) ⟨_, _, _, rfl, sj, so, by simpa using l4, by show 1 ≤ 4 * 2 ^ 0; decide, rfl⟩ ?_ ?_⟩
            · rintro i σ H' hi ⟨x, y, u, rfl, sx, sy, lx, ly, rfl⟩
              have hi2 : i < 8 := by omega
              have p2 : 4 * 2 ^ i ≤ 512 := by
                have : 2 ^ i ≤ 2 ^ 7 := Nat.pow_le_pow_right (by decide) (by omega)
                omega
              have c1 := cut_hi (z := x) (lo := none) (u := n) (by omega)
              refine ⟨.str x, rfl, x, rfl, len5 (by omega), .int n, rfl, _, _, rfl, rfl, _, rfl, ite2 (fun e => ?_) (fun e => ?_)⟩
              · exact ⟨_, rfl, .int n, rfl, n, rfl, _, rfl, len5 (by omega), q _ _ (sgB_cut sx _ _) (by omega) h6 b16⟩
              · dsimp only [tNext, tDrop]
                refine ⟨.str x, rfl, .str y, rfl, x, y, rfl, rfl, by rw [sizeLine_eq]; omega, .str x, rfl, _, _, rfl, x ++ y, x, _, rfl, sgB_app sx sy, sx, by rw [app_len, Nat.pow_succ]; omega, by rw [Nat.pow_succ]; omega, rfl⟩
            · rintro σ H' ⟨x, y, u, rfl, sx, sy, lx, ly, rfl⟩
              have lx2 : x.length ≤ 1024 := lx
              have c1 := cut_hi (z := x) (lo := none) (u := n) (by omega)
              exact ⟨_, rfl, .int n, rfl, n, rfl, _, rfl, len5 (by omega), q _ _ (sgB_cut sx _ _) (by omega) h6 b16⟩
abbrev sTexts : Stmt := topS 30
theorem scTexts : FnScope ["hand", "most", "many", "found", "turn"] ["hand", "most"] (defScope sTexts) := ⟨rfl, rfl, rfl, by decide +kernel, rfl, by decide +kernel, by decide +kernel⟩
theorem ok_Texts {f : Addr} {fd : FuncData} (F : Fun K "_law_texts" "_law_texts" sTexts f fd)  {fDraw : Addr} {fdDraw : FuncData} (DDraw : Dk P w K mg base "_law_draw" sDraw ["hand", "many"] 1 spDraw fDraw fdDraw) {fText : Addr} {fdText : FuncData} (DText : Dk P w K mg base "_law_text" sText ["hand", "most"] 4 spLText fText fdText) (T : Glob mg) : FnOk P w K mg base CX0 5 f fd ["hand", "most"] spLTexts := by
  refine F.ok scTexts (fun vs H Q E h => ?_) (fun cdv A outer s H vs Q E hr h => ?_)
  · obtain ⟨p, m, rfl, _⟩ := h
    rfl
  · refine ⟨_, (pss_cons (ps_set (i := 2) scTexts.nd rfl (.inl rfl) (pe_ix ix_list (pe_lst (pa_cons pe_int (pa_cons pe_int (pa_cons pe_int (pa_cons pe_int (pa_cons pe_int (pa_cons pe_int (pa_cons pe_int (pa_cons pe_int pa_nil))))))))) (pe_call DDraw.ok (hr.mono (by decide)) (by rfl) DDraw.g DDraw.F.kp DDraw.b .nil pass0 (pa_cons (pv 0) (pa_cons pe_int pa_nil))) (fun _ _ => rfl)))
      (pss_cons (ps_set (i := 3) scTexts.nd rfl (.inl rfl) (pe_lst pa_nil))
      (pss_cons (ps_for PassesOwn.never rfl (pi_range1 (by rfl) T.range (pa_cons (pv 2) pa_nil)) (pg_name (i := 4) scTexts.nd rfl (.inl rfl))
      (pss_one (ps_if (PW.pt (pw_and (pt_cmpR op_gt (pv 4) pe_int (nomark _)) (pw_and1 (pt_cmpR op_eq (pe_call DDraw.ok (hr.mono (by decide)) (by rfl) DDraw.g DDraw.F.kp DDraw.b .nil pass0 (pa_cons (pv 0) (pa_cons pe_int pa_nil))) pe_int (nomark _)))))
        (pss_one (ps_expr (pe_bm PySem.F.plainAttrs_list PySem.F.slot_list_append PySem.F.type_list_append mt_append (pv 3) (pa_cons (pe_ix ix_list (pv 3) (pe_call DDraw.ok (hr.mono (by decide)) (by rfl) DDraw.g DDraw.F.kp DDraw.b .nil pass0 (pa_cons (pv 0) (pa_cons (pv 4) pa_nil))) (fun _ _ => rfl)) pa_nil))))
        (pss_one (ps_expr (pe_bm PySem.F.plainAttrs_list PySem.F.slot_list_append PySem.F.type_list_append mt_append (pv 3) (pa_cons (pe_call DText.ok (hr.mono (by decide)) (by rfl) DText.g DText.F.kp DText.b .nil pass0 (pa_cons (pv 0) (pa_cons (pv 1) pa_nil))) pa_nil)))))))
      (pss_one (ps_ret (pe_callTy call_tuple_of (by rfl) T.tuple (by decide +kernel) (pa_cons (pv 3) pa_nil))))))), ?_⟩
    obtain ⟨p, m, rfl, m0, m1, lh, hH, q⟩ := h
    refine ⟨by show 8 ≤ sizeLine; decide, fun o no => ?_⟩
    have h1 := hH.same (Same.new (o := .lst [.int 0, .int 1, .int 1, .int 1, .int 2, .int 2, .int 3, .int 8]) no)
    have b1 := But.same (p := p) (Same.new (H := H) (o := .lst [.int 0, .int 1, .int 1, .int 1, .int 2, .int 2, .int 3, .int 8]) no)
    have hO : upd H o (.lst [.int 0, .int 1, .int 1, .int 1, .int 2, .int 2, .int 3, .int 8]) o = some (.lst [.int 0, .int 1, .int 1, .int 1, .int 2, .int 2, .int 3, .int 8]) := upd_same
    have nop := (hH.ne no).1
    revert h1 b1 hO
    generalize upd H o (.lst [.int 0, .int 1, .int 1, .int 1, .int 2, .int 2, .int 3, .int 8]) = H1
    intro h1 b1 hO
    refine ⟨.ref p, rfl, p, 8, rfl, by decide, by decide, lh, h1, fun v H2 v0 v1 h2 b2 => ?_⟩
    obtain ⟨x, ex, hx⟩ := atI_in (xs := [V.int 0, .int 1, .int 1, .int 1, .int 2, .int 2, .int 3, .int 8]) v0 v1
    obtain ⟨n, rfl, hn8⟩ : ∃ n : Nat, x = .int (n : Int) ∧ n ≤ 8 := by
      simp only [List.mem_cons, List.not_mem_nil, or_false] at hx
      rcases hx with e | e | e | e | e | e | e | e
      · exact ⟨0, e, by decide⟩
      · exact ⟨1, e, by decide⟩
      · exact ⟨1, e, by decide⟩
      · exact ⟨1, e, by decide⟩
      · exact ⟨2, e, by decide⟩
      · exact ⟨2, e, by decide⟩
      · exact ⟨3, e, by decide⟩
      · exact ⟨8, e, by decide⟩
    refine ⟨o, _, v, _, rfl, rfl, sq_of (b2 _ _ nop hO), ex, ?_⟩
    refine ⟨by show 0 ≤ sizeLine; decide, fun f nf => ?_⟩
    have nfp := (h2.ne nf).1
    have b12 := b1.trans b2
    refine ⟨.int (n : Int), rfl, _, rfl, by omega, by omega, for_range (fun i σ H' => ∃ (x : Option V) (ts : List Str), σ = [some (.ref p), some (.int m), some (.int (n : Int)), some (.ref f), x] ∧ H' f = some (.lst (ts.map V.str)) ∧ ts.length = i ∧ (∀ t ∈ ts, sgB t = true ∧ (t.length : Int) ≤ m) ∧ Hn p lh H2 H') ⟨none, [], rfl, upd_same, rfl, fun t ht => absurd ht (by simp), (Hn.refl h2).new nf⟩ ?_ ?_⟩
    · rintro i σ H' hi ⟨x, ts, rfl, hf, hl, ht, hn⟩
      have hi2 : i < n := by omega
      have put : ∀ {H4 : Hp} {y : Str}, Hn p lh H2 H4 → H4 f = some (.lst (ts.map V.str)) → sgB y = true → (y.length : Int) ≤ m → Hn p lh H2 (upd H4 f (.lst (ts.map V.str ++ [V.str y]))) ∧ upd H4 f (.lst (ts.map V.str ++ [V.str y])) f = some (.lst ((ts ++ [y]).map V.str)) ∧ (ts ++ [y]).length = i + 1 ∧ ∀ t ∈ ts ++ [y], sgB t = true ∧ (t.length : Int) ≤ m := fun {H4 y} g1 g2 g3 g4 => by
        refine ⟨g1.at h2 nf, by rw [upd_same, List.map_append]; rfl, by rw [List.length_append, hl]; rfl, fun t hm => ?_⟩
        rcases List.mem_append.mp hm with e | e
        · exact ht t e
        · rw [List.mem_singleton.mp e]
          exact ⟨g3, g4⟩
      have lts : (ts.map V.str).length < sizeLine := by
        rw [List.length_map, hl, sizeLine_eq]
        omega
      refine (?_ : ∀ Q : Bool → Hp → Prop, (∀ b H3, Hn p lh H2 H3 → H3 f = some (.lst (ts.map V.str)) → (b = true → 0 < i) → Q b H3) → tAnd _ _ _ H' Q) _ ?_
      · intro Q0 kk
        refine ⟨_, rfl, _, _, rfl, rfl, _, rfl, ite2 (fun e => ?_) (fun e => kk _ _ hn hf (fun w => Bool.noConfusion w))⟩
        have i0 : 0 < (0 + (i : Int)) := of_decide_eq_true e
        exact ⟨.ref p, rfl, p, 5, rfl, by decide, by decide, lh, hn.at_, fun w H3 w0 w1 h3 b3 => ⟨rfl, _, rfl, kk _ _ (hn.go h3 b3) (b3 _ _ nfp hf) (fun _ => by omega)⟩⟩
      · intro b H3 hn3 hf3 hb
        cases b with
        | true =>
          have i0 := hb rfl
          refine iteT ⟨.ref f, rfl, .inl ⟨rfl, _, sq_of hf3⟩, .ref f, rfl, .ref p, rfl, _, rfl, p, (0 + (i : Int)), rfl, by omega, by omega, lh, hn3.at_, fun v H4 v0 v1 h4 b4 => ?_⟩
          have hf4 := b4 _ _ nfp hf3
          obtain ⟨x4, e4, hx4⟩ := atI_in (xs := ts.map V.str) v0 (by rw [List.length_map, hl]; omega)
          obtain ⟨t, htm, rfl⟩ := List.mem_map.mp hx4
          obtain ⟨g1, g2, g3, g4⟩ := put (y := t) (hn3.go h4 b4) hf4 (ht t htm).1 (ht t htm).2
          exact ⟨f, _, v, _, rfl, rfl, sq_of hf4, e4, f, _, _, rfl, rfl, hf4, lts, _, _, rfl, g2, g3, g4, g1⟩
        | false =>
          refine iteF ⟨.ref f, rfl, .inl ⟨rfl, _, sq_of hf3⟩, .ref p, rfl, .int m, rfl, p, m, rfl, m0, m1, lh, hn3.at_, fun u H5 su lu h5 b5 => ?_⟩
          have hf5 := b5 _ _ nfp hf3
          obtain ⟨g1, g2, g3, g4⟩ := put (y := u) (hn3.go h5 b5) hf5 su lu
          exact ⟨f, _, _, rfl, rfl, hf5, lts, _, _, rfl, g2, g3, g4, g1⟩
    · rintro σ H' ⟨x, ts, rfl, hf, hl, ht, hn⟩
      refine ⟨.ref f, rfl, f, _, rfl, .inl ⟨sq_of hf, fun a na => ?_⟩⟩
      exact q a ts _ upd_same (by omega) (fun t hm => (ht t hm).1) (fun t hm => (ht t hm).2) (hn.at_.same (Same.new na)) ((b12.trans hn.but).and (Same.new na))
abbrev sWord : Stmt := topS 31
theorem scWord : FnScope ["hand", "most", "kind", "turn"] ["hand", "most"] (defScope sWord) := ⟨rfl, rfl, rfl, by decide +kernel, rfl, by decide +kernel, by decide +kernel⟩
theorem ok_Word {f : Addr} {fd : FuncData} (F : Fun K "_law_word" "_law_word" sWord f fd)  {fDraw : Addr} {fdDraw : FuncData} (DDraw : Dk P w K mg base "_law_draw" sDraw ["hand", "many"] 1 spDraw fDraw fdDraw) {fSign : Addr} {fdSign : FuncData} (DSign : Dk P w K mg base "_law_sign" sSign ["hand", "kind"] 3 spSign fSign fdSign) (T : Glob mg) : FnOk P w K mg base CX0 4 f fd ["hand", "most"] spLWord := by
  refine F.ok scWord (fun vs H Q E h => ?_) (fun cdv A outer s H vs Q E hr h => ?_)
  · obtain ⟨p, m, rfl, _⟩ := h
    rfl
  · refine ⟨_, (pss_cons (ps_set (i := 2) scWord.nd rfl (.inr rfl) (pe_call DDraw.ok (hr.mono (by decide)) (by rfl) DDraw.g DDraw.F.kp DDraw.b .nil pass0 (pa_cons (pv 0) (pa_cons pe_int pa_nil))))
      (pss_one (ps_ret (pe_join pe_str (pe_lc (own := [("turn", 3)]) (g := gName 3) (by rfl) scWord.nd (pi_range1 (by rfl) T.range (pa_cons (pe_op op_add pe_int (pe_call DDraw.ok (hr.mono (by decide)) (by rfl) DDraw.g DDraw.F.kp DDraw.b .nil pass0 (pa_cons (pv 0) (pa_cons (pv 1) pa_nil)))) pa_nil)) (blkOk_by (N := ["hand", "most", "kind", "turn"]) (sc := defScope sWord) (by decide +kernel)) (fun _ _ _ _ _ => pg_name (i := 3) scWord.nd rfl (.inl rfl)) (fun _ _ _ _ _ => pts_nil) (fun _ _ _ _ _ => (pe_call DSign.ok (hr.mono (by decide)) (by rfl) DSign.g DSign.F.kp DSign.b .nil pass0 (pa_cons (pv 0) (pa_cons (pv 2) pa_nil))))))))), ?_⟩
    obtain ⟨p, m, rfl, m0, m1, lh, hH, q⟩ := h
    refine ⟨.ref p, rfl, p, 5, rfl, by decide, by decide, lh, hH, fun kk H1 k0 k4 h1 b1 => ?_⟩
    refine ⟨⟨_, rfl⟩, .ref p, rfl, .int m, rfl, p, m, rfl, by omega, by omega, lh, h1, fun u H4 u0 u1 h4 b4 => ?_⟩
    refine ⟨_, _, rfl, rfl, 1 + u, rfl, by omega, by omega, fun D nD => lc_range (fun i H' => ∃ cs : List Nat, H' D = some (.lst (cs.map fun c => V.str (SX.S [c]))) ∧ cs.length = i ∧ (∀ c ∈ cs, sgC c = true) ∧ Hn p lh H4 H') ⟨[], upd_same, rfl, fun c hc => absurd hc (by simp), (Hn.refl h4).new nD⟩ ?_ ?_⟩
    · rintro i H' hi ⟨cs, hD, hl, hs, hn⟩
      refine ⟨rfl, .ref p, rfl, .int kk, rfl, p, kk, rfl, k0, k4, lh, hn.at_, fun c H2 hc h2 b2 => ?_⟩
      have nDp := (h4.ne nD).1
      refine ⟨_, b2 _ _ nDp hD, ?_, cs ++ [c], ?_, ?_, ?_, (hn.go h2 b2).at h4 nD⟩
      · rw [List.length_map, hl, sizeLine_eq]
        omega
      · rw [upd_same, List.map_append]
        rfl
      · rw [List.length_append, hl]
        rfl
      · intro d hd
        rcases List.mem_append.mp hd with g | g
        · exact hs d g
        · rw [List.mem_singleton.mp g]
          exact hc
    · rintro H' ⟨cs, hD, hl, hs, hn⟩
      have e1 : (cs.map fun c => V.str (SX.S [c])) = (cs.map fun c => SX.S [c]).map V.str := by rw [List.map_map]; rfl
      have hln : (cs.length : Int) ≤ m := by omega
      have hsum := sum_one cs
      have sj : sgB (SX.S cs) = true := by rw [sgB_S]; exact List.all_eq_true.mpr hs
      have lj : (SX.S cs).length = cs.length := rfl
      refine ⟨_, D, cs.map (fun c => SX.S [c]), rfl, rfl, .inl (sq_of (e1 ▸ hD)), ?_, ?_⟩
      · rw [List.length_map]
        have : (Str.ofString "").length = 0 := by decide +kernel
        rw [this]
        omega
      · rw [join1]
        exact q _ H' sj (by omega) (by omega) hn.at_ ((b1.trans b4).trans hn.but)
end
end LawK
set_option maxHeartbeats 4000000
/-! Slices by natural bounds. -/
namespace Ev
open PySem PySem.Spec PyProof.Rows L2
theorem sIx_int {n d : Nat} {i : Int} (h : 0 ≤ i) : HT.sIx n d (some i) = min i.toNat n := by
  show (if i < 0 then (i + (n : Int)).toNat else min i.toNat n) = _
  rw [if_neg (by omega)]
theorem cutV_to {xs : List V} {i : Int} (h : 0 ≤ i) : cutV xs none (some i) = xs.take i.toNat := by
  unfold cutV
  rw [sIx_int h]
  show (xs.drop 0).take (min i.toNat xs.length - 0) = _
  rw [List.drop_zero, Nat.sub_zero, ← List.take_eq_take_min]
theorem cutV_from {xs : List V} {i : Int} (h : 0 ≤ i) : cutV xs (some i) none = xs.drop i.toNat := by
  unfold cutV
  rw [sIx_int h]
  show (xs.drop (min i.toNat xs.length)).take (xs.length - min i.toNat xs.length) = _
  rw [List.take_of_length_le (by rw [List.length_drop]; exact Nat.le_refl _)]
  by_cases g : i.toNat ≤ xs.length
  · rw [Nat.min_eq_left g]
  · rw [Nat.min_eq_right (by omega), List.drop_length, List.drop_of_length_le (by omega)]
theorem cutV_set {xs : List V} {i : Int} {z : V} (h : 0 ≤ i) (h2 : i < xs.length) : cutV xs none (some i) ++ [z] ++ cutV xs (some (i + 1)) none = xs.set i.toNat z := by
  rw [cutV_to h, cutV_from (by omega)]
  have e : (i + 1).toNat = i.toNat + 1 := by omega
  rw [e, List.set_eq_take_append_cons_drop, if_pos (by omega)]
  simp
theorem cutS_to {z : Str} {i : Int} (h : 0 ≤ i) : (cutS z none (some i)).cps.toList = z.cps.toList.take i.toNat := by
  have e : (cutS z none (some i)).cps.toList = (z.cps.toList.drop 0).take (HT.sIx z.length z.length (some i) - 0) := by simp [cutS, HT.sIx]
  rw [e, sIx_int h, List.drop_zero, Nat.sub_zero, len_S, ← List.take_eq_take_min]
theorem cutS_from {z : Str} {i : Int} (h : 0 ≤ i) : (cutS z (some i) none).cps.toList = z.cps.toList.drop i.toNat := by
  have e : (cutS z (some i) none).cps.toList = (z.cps.toList.drop (HT.sIx z.length 0 (some i))).take (z.length - HT.sIx z.length 0 (some i)) := by simp [cutS, HT.sIx]
  rw [e, sIx_int h, len_S]
  rw [List.take_of_length_le (by rw [List.length_drop]; exact Nat.le_refl _)]
  by_cases g : i.toNat ≤ z.cps.toList.length
  · rw [Nat.min_eq_left g]
  · rw [Nat.min_eq_right (by omega), List.drop_length, List.drop_of_length_le (by omega)]
theorem cutS_of {z : Str} {i j : Int} (h : 0 ≤ i) (h2 : i ≤ j) : (cutS z (some i) (some j)).cps.toList = (z.cps.toList.drop i.toNat).take (j - i).toNat := by
  have e : (cutS z (some i) (some j)).cps.toList = (z.cps.toList.drop (HT.sIx z.length 0 (some i))).take (HT.sIx z.length z.length (some j) - HT.sIx z.length 0 (some i)) := by simp [cutS]
  rw [e, sIx_int h, sIx_int (by omega), len_S]
  apply List.ext_getElem?
  intro k
  rw [List.getElem?_take, List.getElem?_take, List.getElem?_drop, List.getElem?_drop]
  by_cases g : i.toNat ≤ z.cps.toList.length
  · rw [Nat.min_eq_left g]
    by_cases a : k < (j - i).toNat
    · rw [if_pos a]
      by_cases b : k < min j.toNat z.cps.toList.length - i.toNat
      · rw [if_pos b]
      · rw [if_neg b]
        exact (List.getElem?_eq_none (by omega)).symm
    · rw [if_neg a, if_neg (by omega)]
  · rw [List.getElem?_eq_none (show z.cps.toList.length ≤ i.toNat + k by omega), if_neg (by omega)]
    split <;> rfl
end Ev
namespace Ev
open PySem PySem.Spec PyProof PyProof.Rows L2
def tIfT (t u v : TT) : TT := fun σ H Q => t σ H fun c H1 => if c = true then u σ H1 Q else v σ H1 Q
theorem pt_ifT {X : Cx} {c a b : Expr} {tC tA tB : TT} {pos : Pos} (hc : PT X c tC) (ha : PT X a tA) (hb : PT X b tB) : PT X (.IfExp c a b pos) (tIfT tC tA tB) := by
  refine ⟨fun pins s σ H Q I h => ?_⟩
  show wpAny (model X.prog X.w) X.A (do
    if ← PySem.isTrue c X.env (eval c X.env) then PySem.isTrue a X.env (eval a X.env) else PySem.isTrue b X.env (eval b X.env)) _ X.xe s
  refine wpAny_bind (wpAny_mono (hc.run pins s σ H _ I h) (fun d s1 ⟨H1, I1, q1⟩ => ?_) fun _ _ x => x)
  cases d with
  | true => exact ha.run pins s1 σ H1 Q I1 q1
  | false => exact hb.run pins s1 σ H1 Q I1 q1
end Ev
set_option maxHeartbeats 4000000
namespace LawK
open PySem PySem.Spec PyProof.Rows L2 Ev
def mText (ts : List Str) (i : Int) : Str := ts.getD i.toNat Str.empty
def posV : V → Bool
  | .int i => decide (0 < i)
  | _ => false
/-- whether a thing is a part of this kind -/
def partV (kd : Str) (x : V) : Bool := if kd = Str.ofString "number" then numV x else if kd = Str.ofString "many" then numV x && posV x else if kd = Str.ofString "word" then wordV x else sgV x
def spPart : Sp := fun vs H Q _ => ∃ (kd : Str) (x : V) (k : Kn), vs = [.str kd, x] ∧ Kd H x k ∧ Vs x ∧ Q (.bl (partV kd x)) H
def stretchV (ts : List Str) (t a m : V) : Bool := inV2 0 ((ts.length : Int) - 1) t && (match t with
  | .int i => inV2 0 ((mText ts i).length - 1) a && (match a with
    | .int j => inV2 1 ((mText ts i).length - j) m
    | _ => false)
  | _ => false)
def spStretch : Sp := fun vs H Q _ => ∃ (b : Addr) (ts : List Str) (t a m : V) (k1 k2 k3 : Kn), vs = [.ref b, t, a, m] ∧ H b = some (.tup (ts.map V.str)) ∧ ts.length ≤ 100 ∧ (∀ t ∈ ts, t.length ≤ 5000) ∧ Kd H t k1 ∧ Kd H a k2 ∧ Kd H m k3 ∧ Q (.bl (stretchV ts t a m)) H
theorem num_int {x : V} (h : numV x = true) : ∃ i, x = .int i ∧ 0 ≤ i := by
  cases x with
  | int i => exact ⟨i, rfl, of_decide_eq_true h⟩
  | non => cases h
  | bl b => cases h
  | str b => cases h
  | byt b => cases h
  | flt b => cases h
  | ref b => cases h
  | ty b => cases h
theorem in_int {x : V} {a b : Int} (h : inV2 a b x = true) : ∃ i, x = .int i ∧ a ≤ i ∧ i ≤ b := by
  cases x with
  | int i =>
    obtain ⟨h1, h2⟩ := Bool.and_eq_true_iff.mp (show (decide (a ≤ i) && decide (i ≤ b)) = true from h)
    exact ⟨i, rfl, of_decide_eq_true h1, of_decide_eq_true h2⟩
  | non => cases h
  | bl b => cases h
  | str b => cases h
  | byt b => cases h
  | flt b => cases h
  | ref b => cases h
  | ty b => cases h
section
variable {P : Program} {w : World} {K : PySem.W.Frag} {mg : Str → Option Value} {base : Heap}
abbrev sQIsPart : Stmt := topS 15
theorem scQIsPart : FnScope ["kind", "thing"] ["kind", "thing"] (defScope sQIsPart) := ⟨rfl, rfl, rfl, by decide +kernel, rfl, by decide +kernel, by decide +kernel⟩
theorem ok_QIsPart {f : Addr} {fd : FuncData} (F : Fun K "_is_part" "_is_part" sQIsPart f fd) {fPNumber : Addr} {fdPNumber : FuncData} (DPNumber : Dk P w K mg base "is_number" sPNumber ["thing"] 1 spNum fPNumber fdPNumber) {fPSigns : Addr} {fdPSigns : FuncData} (DPSigns : Dk P w K mg base "is_signs" sPSigns ["thing"] 1 spSg fPSigns fdPSigns) {fPWord : Addr} {fdPWord : FuncData} (DPWord : Dk P w K mg base "is_word" sPWord ["thing"] 2 spWd fPWord fdPWord) (T : Glob mg) : FnOk P w K mg base CX0 3 f fd ["kind", "thing"] spPart := by
  refine F.ok scQIsPart (fun vs H Q E h => ?_) (fun cdv A outer s H vs Q E hr h => ?_)
  · obtain ⟨kd, x, k, rfl, _⟩ := h
    rfl
  · refine ⟨_, (pss_cons (ps_if (pt_cmpR op_eq (pv 0) pe_str (nomark _))
      (pss_one (ps_ret (pe_call DPNumber.ok (hr.mono (by decide)) (by rfl) DPNumber.g DPNumber.F.kp DPNumber.b .nil pass0 (pa_cons (pv 1) pa_nil))))
      pss_nil)
      (pss_cons (ps_if (pt_cmpR op_eq (pv 0) pe_str (nomark _))
      (pss_one (ps_ret (pe_and (pe_call DPNumber.ok (hr.mono (by decide)) (by rfl) DPNumber.g DPNumber.F.kp DPNumber.b .nil pass0 (pa_cons (pv 1) pa_nil)) (pe_one (pe_cmpR op_gt (pv 1) pe_int (nomark _))))))
      pss_nil)
      (pss_cons (ps_if (pt_cmpR op_eq (pv 0) pe_str (nomark _))
      (pss_one (ps_ret (pe_call DPWord.ok (hr.mono (by decide)) (by rfl) DPWord.g DPWord.F.kp DPWord.b .nil pass0 (pa_cons (pv 1) pa_nil))))
      pss_nil)
      (pss_one (ps_ret (pe_call DPSigns.ok (hr.mono (by decide)) (by rfl) DPSigns.g DPSigns.F.kp DPSigns.b .nil pass0 (pa_cons (pv 1) pa_nil))))))), ?_⟩
    obtain ⟨kd, x, k, rfl, hk, hv, q⟩ := h
    have sne : ∀ {a b : Str}, ¬ decide (V.str a = V.str b) = true → a ≠ b := fun g z => g (decide_eq_true (congrArg V.str z))
    refine ⟨.str kd, rfl, rfl, _, rfl, ite2 (fun e => ?_) (fun e => ?_)⟩
    · have e' := V.str.inj (of_decide_eq_true e)
      unfold partV at q
      rw [if_pos e'] at q
      exact ⟨x, rfl, x, k, rfl, hk, q⟩
    have n1 := sne e
    refine ⟨.str kd, rfl, rfl, _, rfl, ite2 (fun e => ?_) (fun e => ?_)⟩
    · have e' := V.str.inj (of_decide_eq_true e)
      unfold partV at q
      rw [if_neg n1, if_pos e'] at q
      refine ⟨x, rfl, x, k, rfl, hk, _, rfl, ite2 (fun c => ?_) (fun c => ?_)⟩
      · rw [c, Bool.true_and] at q
        obtain ⟨i, rfl, _⟩ := num_int c
        exact ⟨.int i, rfl, _, _, rfl, rfl, q⟩
      · have c' : numV x = false := by simpa using c
        rw [c', Bool.false_and] at q
        exact q
    have n2 := sne e
    refine ⟨.str kd, rfl, rfl, _, rfl, ite2 (fun e => ?_) (fun e => ?_)⟩
    · have e' := V.str.inj (of_decide_eq_true e)
      unfold partV at q
      rw [if_neg n1, if_neg n2, if_pos e'] at q
      exact ⟨x, rfl, x, k, rfl, hk, hv, q⟩
    have n3 := sne e
    unfold partV at q
    rw [if_neg n1, if_neg n2, if_neg n3] at q
    exact ⟨x, rfl, x, k, rfl, hk, hv, q⟩
end
end LawK
set_option maxHeartbeats 4000000
namespace Ev
open PySem PySem.Spec PyProof.Rows L2
/-- the entries of a written dict with texts as keys -/
inductive Ents (P : Params) : List DictEntry → List (Str × V) → Prop
  | nil : Ents P [] []
  | cons {x : Str} {t : Tok} {u : Value} {v : V} {es : List DictEntry} {kvs : List (Str × V)} (r : RelV v u) (h : Ents P es kvs) : Ents P (⟨PyData.keyHash P x, .str x t, u⟩ :: es) ((x, v) :: kvs)
/-- a dict of the module at a -/
structure KD (K : PySem.W.Frag) (w : World) (a : Addr) (kvs : List (Str × V)) : Prop where
  lk : ∃ (es : List DictEntry) (n : Nat), K.lookup a = some ⟨.type "dict", none, .dict es.toArray n, #[]⟩ ∧ Ents w.params es kvs
  ne : (a == sysModules) = false
theorem Ents.lit {P : Params} {es : List DictEntry} {kvs : List (Str × V)} (h : Ents P es kvs) : PySem.W.KeysLit P es := by
  induction h with
  | nil => trivial
  | cons r h ih => exact ⟨⟨_, _, rfl, rfl⟩, ih⟩
theorem Ents.find {P : Params} {es : List DictEntry} {kvs : List (Str × V)} (h : Ents P es kvs) (z : Str) :
    (kvs.lookup z = none ∧ findBy Value.isStrOf es.toArray z = none) ∨ ∃ v u, kvs.lookup z = some v ∧ findBy Value.isStrOf es.toArray z = some u ∧ RelV v u := by
  induction h with
  | nil => exact .inl ⟨rfl, rfl⟩
  | @cons x t u v es kvs r h ih =>
    unfold findBy at ih ⊢
    rw [List.find?_toArray, List.find?_cons, List.lookup_cons]
    by_cases e : z = x
    · subst e
      have e1 : Value.isStrOf z (.str z t) = true := by simp [Value.isStrOf]
      rw [e1, beq_self_eq_true]
      exact .inr ⟨v, u, rfl, rfl, r⟩
    · have e1 : Value.isStrOf z (.str x t) = false := by
        cases q : Value.isStrOf z (.str x t) with
        | false => rfl
        | true =>
          obtain ⟨t', q⟩ := Value.isStrOf_shape q
          injection q with q1 _
          exact absurd q1.symm e
      rw [e1, beq_false_of_ne e]
      rw [List.find?_toArray] at ih
      exact ih
theorem kd_mk {K : PySem.W.Frag} {w : World} {a : Addr} {es : List DictEntry} {n : Nat} {kvs : List (Str × V)} (l : K.lookup a = some ⟨.type "dict", none, .dict es.toArray n, #[]⟩) (ne : (a == sysModules) = false) (h : Ents w.params es kvs) : KD K w a kvs := ⟨⟨es, n, l, h⟩, ne⟩
def rNotInKD (K : PySem.W.Frag) (w : World) : R2 := fun x y H Q => ∃ a z kvs, x = .str z ∧ y = .ref a ∧ KD K w a kvs ∧ Q (.bl (!(kvs.lookup z).isSome)) H
def rIxKD (K : PySem.W.Frag) (w : World) : R2 := fun x y H Q => ∃ a z kvs v, x = .ref a ∧ y = .str z ∧ KD K w a kvs ∧ kvs.lookup z = some v ∧ Q v H
section
variable {X : Cx}
theorem op_notInKD : OpR X (compareOp .NotIn) (rNotInKD X.K X.w) := by
  intro pins s σ H x y v u Q I rx ry h
  obtain ⟨a, z, kvs, rfl, rfl, ⟨⟨es, n, hl, en⟩, ne⟩, q⟩ := h
  obtain ⟨t, rfl⟩ := (show ∃ t, v = Value.str z t from rx)
  obtain rfl : u = Value.ref a := ry
  have hm := PySem.W.mapOf_K (prog := X.prog) (w := X.w) I.kIn hl en.lit
  refine wpAny_notIn_of (strKind_is X.prog X.w z t) ne hm ⟨.bl (!(findBy Value.isStrOf es.toArray z).isSome), H, I.tok _, rfl, ?_⟩
  rcases en.find z with ⟨e1, e2⟩ | ⟨v0, u0, e1, e2, _⟩
  · rw [e1] at q
    rw [e2]
    exact q
  · rw [e1] at q
    rw [e2]
    exact q
theorem ix_KD : IxR X (rIxKD X.K X.w) := by
  intro value slice pins s σ H x y v u Q I rx ry h hs
  obtain ⟨a, z, kvs, r, rfl, rfl, ⟨⟨es, n, hl, en⟩, ne⟩, e, q⟩ := h
  obtain rfl : v = Value.ref a := rx
  obtain ⟨t, rfl⟩ := ry
  have hm := PySem.W.mapOf_K (prog := X.prog) (w := X.w) I.kIn hl en.lit
  rcases en.find z with ⟨e1, e2⟩ | ⟨v0, u0, e1, e2, ru⟩
  · rw [e1] at e
    cases e
  · rw [e1] at e
    cases e
    exact tail_any hm.typeIs slot_dict_getitem.lookup (wpAny_getItem_of (strKind_is X.prog X.w z t) hm e2 ⟨r, H, I.tok _, ru, q⟩) hs
end
/-- a local name that holds one of several defs -/
def tCallR (i : Nat) (S : Addr → Sp → Prop) (t : TA) : TE := fun σ H Q => ∃ f sp, σ[i]? = some (some (.ref f)) ∧ S f sp ∧ t σ H fun vs H1 => sp vs H1 Q (fun _ _ _ => False)
theorem pe_callR {X : Cx} {k i : Nat} {x : Str} {p pos : Pos} {e : Expr} {es : List Expr} {t : TA} {S : Addr → Sp → Prop} (A : ∀ f sp, S f sp → Held X.prog X.w X.K X.mg X.base k f sp) (hr : Room k X.A) (hN : X.N[i]? = some x) (hv : Vis X.env.scope x) (ha : PA X (e :: es) t)
    (hdb : (x == ("__debug__" : Str)) = false := by decide) (hcd : (x == ("__classdict__" : Str)) = false := by decide)
    (he : starEach (e :: es) X.env = (false, eval e X.env) :: starEach es X.env := by rfl) (hpl : (backTo pos (starEach es X.env)).any (·.1) = false := by rfl) : PE X (.Call (.Name x p) (e :: es) [] pos) (tCallR i S t) := by
  refine ⟨fun pins s σ H Q I h => ?_⟩
  obtain ⟨f, sp, hs, hS, ht⟩ := h
  obtain ⟨fd, ps, F, hk, hb⟩ := (A f sp hS).ex
  refine (pe_callL (i := i) (f := f) (sp := sp) (dvs := []) (E := fun _ _ _ => False) F hr hN hv hk hb .nil (fun _ _ _ _ _ _ _ z => z.elim) ha hdb hcd he hpl).run pins s σ H Q I ⟨hs, ?_⟩
  have e0 : (fun (vs : List V) (H1 : Hp) => sp (vs ++ []) H1 Q (fun _ _ _ => False)) = fun vs H1 => sp vs H1 Q (fun _ _ _ => False) := by
    funext vs H1
    rw [List.append_nil]
  show t σ H (fun vs H1 => sp (vs ++ []) H1 Q (fun _ _ _ => False))
  rw [e0]
  exact ht
end Ev
set_option maxHeartbeats 4000000
namespace LawK
open PySem PySem.Spec PyProof.Rows L2 Ev
/-- the edits of the document -/
inductive Ed
  | put (t a : Int) (z : Str)
  | cut (t a n : Int)
  | change (t a : Int) (z : Str)
  | come (z : Str)
  | go
  | split (t a : Int)
  | join (t u : Int)
  | move (t a n u p : Int)
def Ed.vals : Ed → List V
  | .put t a z => [.str (Str.ofString "put"), .int t, .int a, .str z]
  | .cut t a n => [.str (Str.ofString "cut"), .int t, .int a, .int n]
  | .change t a z => [.str (Str.ofString "change"), .int t, .int a, .str z]
  | .come z => [.str (Str.ofString "come"), .str z]
  | .go => [.str (Str.ofString "go")]
  | .split t a => [.str (Str.ofString "split"), .int t, .int a]
  | .join t u => [.str (Str.ofString "join"), .int t, .int u]
  | .move t a n u p => [.str (Str.ofString "move"), .int t, .int a, .int n, .int u, .int p]
/-- numbers, words and signs in their places -/
def Ed.ok : Ed → Prop
  | .put t a z => 0 ≤ t ∧ 0 ≤ a ∧ wordV (.str z) = true
  | .cut t a n => 0 ≤ t ∧ 0 ≤ a ∧ 0 < n
  | .change t a z => 0 ≤ t ∧ 0 ≤ a ∧ wordV (.str z) = true
  | .come z => sgB z = true
  | .go => True
  | .split t a => 0 ≤ t ∧ 0 ≤ a
  | .join t u => 0 ≤ t ∧ 0 ≤ u
  | .move t a n u p => 0 ≤ t ∧ 0 ≤ a ∧ 0 < n ∧ 0 ≤ u ∧ 0 ≤ p
def HasForm (o : Option (List V)) : Prop := ∃ e : Ed, o = some e.vals ∧ e.ok
def edOf : List V → Option Ed
  | [.str w, .int t, .int a, .str z] => if w = Str.ofString "put" then some (.put t a z) else if w = Str.ofString "change" then some (.change t a z) else none
  | [.str w, .int t, .int a, .int n] => if w = Str.ofString "cut" then some (.cut t a n) else none
  | [.str w, .str z] => if w = Str.ofString "come" then some (.come z) else none
  | [.str w] => if w = Str.ofString "go" then some .go else none
  | [.str w, .int t, .int a] => if w = Str.ofString "split" then some (.split t a) else if w = Str.ofString "join" then some (.join t a) else none
  | [.str w, .int t, .int a, .int n, .int u, .int p] => if w = Str.ofString "move" then some (.move t a n u p) else none
  | _ => none
theorem edOf_vals (e : Ed) : edOf e.vals = some e := by
  cases e with
  | put t a z => simp only [Ed.vals, edOf, if_true]
  | cut t a n => simp only [Ed.vals, edOf, if_true]
  | change t a z =>
    simp only [Ed.vals, edOf, if_true]
    exact if_neg (by decide +kernel)
  | come z => simp only [Ed.vals, edOf, if_true]
  | go => simp only [Ed.vals, edOf, if_true]
  | split t a => simp only [Ed.vals, edOf, if_true]
  | join t u =>
    simp only [Ed.vals, edOf, if_true]
    exact if_neg (by decide +kernel)
  | move t a n u p => simp only [Ed.vals, edOf, if_true]
theorem vals_inj {e e' : Ed} (h : e.vals = e'.vals) : e = e' := by
  have h1 := edOf_vals e
  rw [h, edOf_vals e'] at h1
  exact (Option.some.inj h1).symm
abbrev kNum : Str := Str.ofString "number"
abbrev kMany : Str := Str.ofString "many"
abbrev kWord : Str := Str.ofString "word"
abbrev kSigns : Str := Str.ofString "signs"
def kindsOf (z : Str) : Option (List Str) :=
  if z = Str.ofString "put" then some [kNum, kNum, kWord] else if z = Str.ofString "cut" then some [kNum, kNum, kMany] else if z = Str.ofString "change" then some [kNum, kNum, kWord] else
  if z = Str.ofString "come" then some [kSigns] else if z = Str.ofString "go" then some [] else if z = Str.ofString "split" then some [kNum, kNum] else if z = Str.ofString "join" then some [kNum, kNum] else
  if z = Str.ofString "move" then some [kNum, kNum, kMany, kNum, kNum] else none
theorem part_num (x : V) : partV kNum x = numV x := if_pos rfl
theorem part_many (x : V) : partV kMany x = (numV x && posV x) := (if_neg (by decide +kernel)).trans (if_pos rfl)
theorem part_word (x : V) : partV kWord x = wordV x := (if_neg (by decide +kernel)).trans ((if_neg (by decide +kernel)).trans (if_pos rfl))
theorem part_signs (x : V) : partV kSigns x = sgV x := (if_neg (by decide +kernel)).trans ((if_neg (by decide +kernel)).trans (if_neg (by decide +kernel)))
def allP (ks : List Str) (ps : List V) : Bool := (List.zipWith partV ks ps).all id
theorem word_str {x : V} (h : wordV x = true) : ∃ z, x = .str z := by
  cases x with
  | str z => exact ⟨z, rfl⟩
  | non => cases h
  | bl b => cases h
  | int b => cases h
  | byt b => cases h
  | flt b => cases h
  | ref b => cases h
  | ty b => cases h
theorem num_of {i : Int} : numV (.int i) = true ↔ 0 ≤ i := ⟨fun h => of_decide_eq_true h, fun h => decide_eq_true h⟩
theorem pos_of {i : Int} : posV (.int i) = true ↔ 0 < i := ⟨fun h => of_decide_eq_true h, fun h => decide_eq_true h⟩
theorem len2 {α : Type} {ps : List α} (h : ps.length = 2) : ∃ a b, ps = [a, b] := by
  match ps, h with
  | [a, b], _ => exact ⟨a, b, rfl⟩
theorem len3 {α : Type} {ps : List α} (h : ps.length = 3) : ∃ a b c, ps = [a, b, c] := by
  match ps, h with
  | [a, b, c], _ => exact ⟨a, b, c, rfl⟩
theorem len1 {α : Type} {ps : List α} (h : ps.length = 1) : ∃ a, ps = [a] := by
  match ps, h with
  | [a], _ => exact ⟨a, rfl⟩
theorem len5' {α : Type} {ps : List α} (h : ps.length = 5) : ∃ a b c d e, ps = [a, b, c, d, e] := by
  match ps, h with
  | [a, b, c, d, e], _ => exact ⟨a, b, c, d, e, rfl⟩
theorem form_of {z : Str} {ps : List V} {ks : List Str} (h : kindsOf z = some ks) (hl : ps.length = ks.length) (ha : allP ks ps = true) : HasForm (some (.str z :: ps)) := by
  unfold kindsOf at h
  by_cases c1 : z = Str.ofString "put"
  · rw [if_pos c1] at h
    cases h
    obtain ⟨a, b, c, rfl⟩ := len3 hl
    simp only [allP, List.zipWith_cons_cons, List.zipWith_nil_left, List.all_cons, List.all_nil, id, Bool.and_true, part_num, part_word, part_many, part_signs, Bool.and_eq_true] at ha
    obtain ⟨i, rfl, hi⟩ := num_int ha.1
    obtain ⟨j, rfl, hj⟩ := num_int ha.2.1
    obtain ⟨y, rfl⟩ := word_str ha.2.2
    exact ⟨.put i j y, by rw [c1]; rfl, hi, hj, ha.2.2⟩
  rw [if_neg c1] at h
  by_cases c2 : z = Str.ofString "cut"
  · rw [if_pos c2] at h
    cases h
    obtain ⟨a, b, c, rfl⟩ := len3 hl
    simp only [allP, List.zipWith_cons_cons, List.zipWith_nil_left, List.all_cons, List.all_nil, id, Bool.and_true, part_num, part_word, part_many, part_signs, Bool.and_eq_true] at ha
    obtain ⟨i, rfl, hi⟩ := num_int ha.1
    obtain ⟨j, rfl, hj⟩ := num_int ha.2.1
    obtain ⟨n, rfl, hn⟩ := num_int ha.2.2.1
    exact ⟨.cut i j n, by rw [c2]; rfl, hi, hj, pos_of.mp ha.2.2.2⟩
  rw [if_neg c2] at h
  by_cases c3 : z = Str.ofString "change"
  · rw [if_pos c3] at h
    cases h
    obtain ⟨a, b, c, rfl⟩ := len3 hl
    simp only [allP, List.zipWith_cons_cons, List.zipWith_nil_left, List.all_cons, List.all_nil, id, Bool.and_true, part_num, part_word, part_many, part_signs, Bool.and_eq_true] at ha
    obtain ⟨i, rfl, hi⟩ := num_int ha.1
    obtain ⟨j, rfl, hj⟩ := num_int ha.2.1
    obtain ⟨y, rfl⟩ := word_str ha.2.2
    exact ⟨.change i j y, by rw [c3]; rfl, hi, hj, ha.2.2⟩
  rw [if_neg c3] at h
  by_cases c4 : z = Str.ofString "come"
  · rw [if_pos c4] at h
    cases h
    obtain ⟨a, rfl⟩ := len1 hl
    simp only [allP, List.zipWith_cons_cons, List.zipWith_nil_left, List.all_cons, List.all_nil, id, Bool.and_true, part_num, part_word, part_many, part_signs, Bool.and_eq_true] at ha
    obtain ⟨y, rfl⟩ := sg_str ha
    exact ⟨.come y, by rw [c4]; rfl, ha⟩
  rw [if_neg c4] at h
  by_cases c5 : z = Str.ofString "go"
  · rw [if_pos c5] at h
    cases h
    obtain rfl := List.length_eq_zero_iff.mp hl
    exact ⟨.go, by rw [c5]; rfl, trivial⟩
  rw [if_neg c5] at h
  by_cases c6 : z = Str.ofString "split"
  · rw [if_pos c6] at h
    cases h
    obtain ⟨a, b, rfl⟩ := len2 hl
    simp only [allP, List.zipWith_cons_cons, List.zipWith_nil_left, List.all_cons, List.all_nil, id, Bool.and_true, part_num, part_word, part_many, part_signs, Bool.and_eq_true] at ha
    obtain ⟨i, rfl, hi⟩ := num_int ha.1
    obtain ⟨j, rfl, hj⟩ := num_int ha.2
    exact ⟨.split i j, by rw [c6]; rfl, hi, hj⟩
  rw [if_neg c6] at h
  by_cases c7 : z = Str.ofString "join"
  · rw [if_pos c7] at h
    cases h
    obtain ⟨a, b, rfl⟩ := len2 hl
    simp only [allP, List.zipWith_cons_cons, List.zipWith_nil_left, List.all_cons, List.all_nil, id, Bool.and_true, part_num, part_word, part_many, part_signs, Bool.and_eq_true] at ha
    obtain ⟨i, rfl, hi⟩ := num_int ha.1
    obtain ⟨j, rfl, hj⟩ := num_int ha.2
    exact ⟨.join i j, by rw [c7]; rfl, hi, hj⟩
  rw [if_neg c7] at h
  by_cases c8 : z = Str.ofString "move"
  · rw [if_pos c8] at h
    cases h
    obtain ⟨a, b, c, d, e, rfl⟩ := len5' hl
    simp only [allP, List.zipWith_cons_cons, List.zipWith_nil_left, List.all_cons, List.all_nil, id, Bool.and_true, part_num, part_word, part_many, part_signs, Bool.and_eq_true] at ha
    obtain ⟨i, rfl, hi⟩ := num_int ha.1
    obtain ⟨j, rfl, hj⟩ := num_int ha.2.1
    obtain ⟨n, rfl, hn⟩ := num_int ha.2.2.1.1
    obtain ⟨u, rfl, hu⟩ := num_int ha.2.2.2.1
    obtain ⟨p, rfl, hp⟩ := num_int ha.2.2.2.2
    exact ⟨.move i j n u p, by rw [c8]; rfl, hi, hj, pos_of.mp ha.2.2.1.2, hu, hp⟩
  rw [if_neg c8] at h
  cases h
theorem form_kinds {e : Ed} (h : e.ok) : ∃ z ps ks, e.vals = .str z :: ps ∧ kindsOf z = some ks ∧ ps.length = ks.length ∧ allP ks ps = true := by
  cases e with
  | put t a z => exact ⟨_, _, [kNum, kNum, kWord], rfl, by decide +kernel, rfl, by simp only [allP, List.zipWith_cons_cons, List.zipWith_nil_left, List.all_cons, List.all_nil, id, part_num, part_word, num_of.mpr h.1, num_of.mpr h.2.1, h.2.2]; rfl⟩
  | cut t a n => exact ⟨_, _, [kNum, kNum, kMany], rfl, by decide +kernel, rfl, by simp only [allP, List.zipWith_cons_cons, List.zipWith_nil_left, List.all_cons, List.all_nil, id, part_num, part_many, num_of.mpr h.1, num_of.mpr h.2.1, num_of.mpr (Int.le_of_lt h.2.2), pos_of.mpr h.2.2]; rfl⟩
  | change t a z => exact ⟨_, _, [kNum, kNum, kWord], rfl, by decide +kernel, rfl, by simp only [allP, List.zipWith_cons_cons, List.zipWith_nil_left, List.all_cons, List.all_nil, id, part_num, part_word, num_of.mpr h.1, num_of.mpr h.2.1, h.2.2]; rfl⟩
  | come z =>
    have h' : sgV (.str z) = true := h
    exact ⟨_, _, [kSigns], rfl, by decide +kernel, rfl, by simp only [allP, List.zipWith_cons_cons, List.zipWith_nil_left, List.all_cons, List.all_nil, id, part_signs, h']; rfl⟩
  | go => exact ⟨_, _, [], rfl, by decide +kernel, rfl, rfl⟩
  | split t a => exact ⟨_, _, [kNum, kNum], rfl, by decide +kernel, rfl, by simp only [allP, List.zipWith_cons_cons, List.zipWith_nil_left, List.all_cons, List.all_nil, id, part_num, num_of.mpr h.1, num_of.mpr h.2]; rfl⟩
  | join t u => exact ⟨_, _, [kNum, kNum], rfl, by decide +kernel, rfl, by simp only [allP, List.zipWith_cons_cons, List.zipWith_nil_left, List.all_cons, List.all_nil, id, part_num, num_of.mpr h.1, num_of.mpr h.2]; rfl⟩
  | move t a n u p => exact ⟨_, _, [kNum, kNum, kMany, kNum, kNum], rfl, by decide +kernel, rfl, by simp only [allP, List.zipWith_cons_cons, List.zipWith_nil_left, List.all_cons, List.all_nil, id, part_num, part_many, num_of.mpr h.1, num_of.mpr h.2.1, num_of.mpr (Int.le_of_lt h.2.2.1), pos_of.mpr h.2.2.1, num_of.mpr h.2.2.2.1, num_of.mpr h.2.2.2.2]; rfl⟩
theorem no_form_kinds {z : Str} {ps : List V} (h : kindsOf z = none) : ¬ HasForm (some (.str z :: ps)) := fun ⟨e, he, ho⟩ => by
  obtain ⟨z', ps', ks, e1, e2, _⟩ := form_kinds ho
  rw [e1] at he
  injection he with he
  injection he with h1 h2
  injection h1 with h1
  rw [h1, e2] at h
  cases h
theorem form_iff {z : Str} {ps : List V} {ks : List Str} (h : kindsOf z = some ks) : HasForm (some (.str z :: ps)) ↔ ps.length = ks.length ∧ allP ks ps = true := by
  constructor
  · rintro ⟨e, he, ho⟩
    obtain ⟨z', ps', ks', e1, e2, e3, e4⟩ := form_kinds ho
    rw [e1] at he
    injection he with he
    injection he with h1 h2
    injection h1 with h1
    rw [h1, e2] at h
    cases h
    rw [h2]
    exact ⟨e3, e4⟩
  · exact fun ⟨h1, h2⟩ => form_of h h1 h2
theorem form_str {x : V} {ps : List V} (h : HasForm (some (x :: ps))) : ∃ z, x = .str z := by
  obtain ⟨e, he, ho⟩ := h
  obtain ⟨z', ps', ks', e1, _⟩ := form_kinds ho
  rw [e1] at he
  injection he with he
  injection he with h1 h2
  exact ⟨z', h1⟩
theorem form_nil : ¬ HasForm (some []) := fun ⟨e, he, ho⟩ => by
  obtain ⟨z', ps', ks', e1, _⟩ := form_kinds ho
  rw [e1] at he
  cases he
theorem form_none : ¬ HasForm none := fun ⟨e, he, ho⟩ => by cases he
end LawK
set_option maxHeartbeats 4000000
namespace LawK
open PySem PySem.Spec PyProof.Rows L2 Ev
/-- the parts of each edit, in the dict at a -/
theorem kit_no {K : PySem.W.Frag} {k : Kn} (n : k ≠ .tup) : PySem.W.kitOne K (.type k.name) (.type "tuple") = some false := by
  have e : kitB k .tup = false := by cases k <;> first | rfl | exact absurd rfl n
  have z := kit_kn (K := K) k .tup
  rw [e] at z
  exact z
structure FormsC (K : PySem.W.Frag) (w : World) (mg : Str → Option Value) (a : Addr) (kvs : List (Str × V)) : Prop where
  kd : KD K w a kvs
  no : ∀ z, kindsOf z = none → kvs.lookup z = none
  yes : ∀ z ks, kindsOf z = some ks → ∃ k, kvs.lookup z = some (.ref k) ∧ ∀ H, SqT K H k (ks.map V.str)
  g : mg "FORMS" = some (.ref a)
theorem kinds_few {z : Str} {ks : List Str} (h : kindsOf z = some ks) : ks.length ≤ 5 := by
  unfold kindsOf at h
  repeat' split at h
  all_goals first | (cases h; decide) | cases h
theorem walk_zipT {K : PySem.W.Frag} {a b : Addr} {xs ys : List V} {n : Nat} (hn : n = min xs.length ys.length) : Walk (RZ.ItzT K a b) n (fun H => SqT K H a xs ∧ SqT K H b ys) (YPair (fun i => xs[i]?) (fun i => ys[i]?)) := by
  subst hn
  refine ⟨fun i _ hi q => ?_, fun _ q => ⟨xs, ys, q.1, q.2, by omega⟩, fun i H v H' _ q y => ?_⟩
  · have h1 : i < xs.length := by omega
    have h2 : i < ys.length := by omega
    exact ⟨xs, ys, xs[i], ys[i], q.1, q.2, by simp [h1], by simp [h2]⟩
  · obtain ⟨T, x, z, h1, h2, h3, h4, h5⟩ := y
    exact ⟨T, x, z, h1, h2, h3, h4 xs q.1, h5 ys q.2⟩
theorem zip_take {α β γ : Type} {f : α → β → γ} {xs : List α} {ys : List β} {i : Nat} {x : α} {y : β} (hx : xs[i]? = some x) (hy : ys[i]? = some y) : List.zipWith f (xs.take (i + 1)) (ys.take (i + 1)) = List.zipWith f (xs.take i) (ys.take i) ++ [f x y] := by
  have lx : i < xs.length := (List.getElem?_eq_some_iff.mp hx).1
  have ly : i < ys.length := (List.getElem?_eq_some_iff.mp hy).1
  rw [List.take_succ, List.take_succ, hx, hy, List.zipWith_append (by rw [List.length_take, List.length_take]; omega)]
  rfl
def spForm : Sp := fun vs H Q _ => ∃ (x : V) (o : Option (List V)), vs = [x] ∧ Tg H x o ∧ ∀ b H', (b = true ↔ HasForm o) → Same H H' → Q (.bl b) H'
section
variable {P : Program} {w : World} {K : PySem.W.Frag} {mg : Str → Option Value} {base : Heap}
abbrev sQHasForm : Stmt := topS 16
theorem scQHasForm : FnScope ["thing", "word", "kinds", "kind", "part"] ["thing"] (defScope sQHasForm) := ⟨rfl, rfl, rfl, by decide +kernel, rfl, by decide +kernel, by decide +kernel⟩
theorem ok_QHasForm {f : Addr} {fd : FuncData} (F : Fun K "has_form" "has_form" sQHasForm f fd) {fQIsPart : Addr} {fdQIsPart : FuncData} (DQIsPart : Dk P w K mg base "_is_part" sQIsPart ["kind", "thing"] 3 spPart fQIsPart fdQIsPart) {aF : Addr} {kvF : List (Str × V)} (FC : FormsC K w mg aF kvF) (T : Glob mg) : FnOk P w K mg base CX0 4 f fd ["thing"] spForm := by
  refine F.ok scQHasForm (fun vs H Q E h => ?_) (fun cdv A outer s H vs Q E hr h => ?_)
  · obtain ⟨x, o, rfl, _⟩ := h
    rfl
  · refine ⟨_, (pss_cons (ps_if (PW.pt (pw_or (pt_not (pt_val (pe_callB call_isi (by rfl) T.isinstance PyProof.Rows.boot_isinstance (pa_cons (pv 0) (pa_cons (pe_bltn (v := .ty "tuple") (by rfl) T.tuple (by decide +kernel) rfl) pa_nil))))) (pw_or1 (pt_cmpR op_eq (pe_callB call_len_seq (by rfl) T.len PySem.boot_len (pa_cons (pv 0) pa_nil)) pe_int (nomark _)))))
      (pss_one (ps_ret pe_bl))
      pss_nil)
      (pss_cons (ps_set (i := 1) scQHasForm.nd rfl (.inl rfl) (pe_ix ix_tup (pv 0) pe_int (fun _ _ => rfl)))
      (pss_cons (ps_if (PW.pt (pw_or (pt_not (pt_val (pe_callB call_isi (by rfl) T.isinstance PyProof.Rows.boot_isinstance (pa_cons (pv 1) (pa_cons (pe_bltn (v := .ty "str") (by rfl) T.str (by decide +kernel) rfl) pa_nil))))) (pw_or1 (pt_cmpR op_notInKD (pv 1) (pe_glob (v := .ref aF) (by rfl) FC.g rfl) rfl))))
      (pss_one (ps_ret pe_bl))
      pss_nil)
      (pss_cons (ps_set (i := 2) scQHasForm.nd rfl (.inl rfl) (pe_ix ix_KD (pe_glob (v := .ref aF) (by rfl) FC.g rfl) (pv 1) (fun _ _ => rfl)))
      (pss_cons (ps_if (pt_cmpR op_ne (pe_callB call_len_seq (by rfl) T.len PySem.boot_len (pa_cons (pv 0) pa_nil)) (pe_op op_add (pe_callB call_len_seq (by rfl) T.len PySem.boot_len (pa_cons (pv 2) pa_nil)) pe_int) (nomark _))
      (pss_one (ps_ret pe_bl))
      pss_nil)
      (pss_one (ps_ret (pe_callB (cr_all rfl) (by rfl) T.all (by decide +kernel) (pa_cons (pe_lc (own := [("kind", 3), ("part", 4)]) (g := (gTup K 2 (gCons (gName 3) (gCons (gName 4) gNil)))) (by rfl) scQHasForm.nd (RZ.pi_zipA (by rfl) T.zip (pa_cons (pv 2) (pa_cons (pe_slice sl_tupM (pv 0) (po_some pe_int) po_none) pa_nil))) (blkOk_by (N := ["thing", "word", "kinds", "kind", "part"]) (sc := defScope sQHasForm) (by decide +kernel)) (fun _ _ _ _ _ => pg_tup (by rfl) (pgs_cons (pg_name (i := 3) scQHasForm.nd rfl (.inl rfl)) (pgs_cons (pg_name (i := 4) scQHasForm.nd rfl (.inl rfl)) pgs_nil))) (fun _ _ _ _ _ => pts_nil) (fun _ _ _ _ _ => (pe_call DQIsPart.ok (hr.mono (by decide)) (by rfl) DQIsPart.g DQIsPart.F.kp DQIsPart.b .nil pass0 (pa_cons (pv 3) (pa_cons (pv 4) pa_nil))))) pa_nil))))))))), ?_⟩
    obtain ⟨x, o, rfl, hT, q⟩ := h
    cases hT with
    | @no _ k hk n s =>
      exact ⟨x, rfl, x, .ty "tuple", .type (Kn.name k), .type "tuple", false, rfl, .ty _, Kd.tyx hk, kit_no n, _, rfl, iteT (q false H (iff_of_false (by simp) form_none) (Same.refl H))⟩
    | @tup a xs e n hy =>
      refine ⟨.ref a, rfl, .ref a, .ty "tuple", .type (Kn.name .tup), .type "tuple", kitB .tup .tup, rfl, .ty _, Kd.tyx (.tup e), kit_kn .tup .tup, _, rfl, iteF ?_⟩
      refine ⟨.ref a, rfl, a, xs, rfl, .inr (SqT.of e), rfl, _, rfl, ite2 (fun c => ?_) (fun c => ?_)⟩
      · have c' : (xs.length : Int) = 0 := V.int.inj (of_decide_eq_true c)
        obtain rfl : xs = [] := List.length_eq_zero_iff.mp (by omega)
        exact q false H (iff_of_false (by simp) form_nil) (Same.refl H)
      cases xs with
      | nil => exact absurd rfl c
      | cons y ps =>
        obtain ⟨⟨k, hk⟩, hv⟩ := hy y List.mem_cons_self
        refine ⟨.ref a, rfl, a, _, 0, y, rfl, rfl, SqT.of e, atI_nat (j := 0) rfl, ?_⟩
        refine ⟨y, rfl, y, .ty "str", .type (Kn.name k), .type "str", kitB k .str, rfl, .ty _, Kd.tyx hk, kit_kn k .str, _, rfl, ?_⟩
        refine ite2 (fun d => ?_) (fun d => ?_)
        · refine q false H (iff_of_false (by simp) fun hf => ?_) (Same.refl H)
          obtain ⟨z, rfl⟩ := form_str hf
          cases hk
          exact absurd d (by decide)
        have ey : ∃ z, y = .str z := by
          cases hk with
          | str z => exact ⟨z, rfl⟩
          | non => exact absurd rfl d
          | bl b => exact absurd rfl d
          | int i => exact absurd rfl d
          | lst _ => exact absurd rfl d
          | tup _ => exact absurd rfl d
          | dic _ => exact absurd rfl d
        obtain ⟨z, rfl⟩ := ey
        cases hz : kindsOf z with
        | none =>
          refine ⟨.str z, rfl, aF, z, kvF, rfl, rfl, FC.kd, _, rfl, ?_⟩
          rw [FC.no z hz]
          exact q false H (iff_of_false (by simp) (no_form_kinds hz)) (Same.refl H)
        | some ks =>
          obtain ⟨kt, hkt, hS⟩ := FC.yes z ks hz
          have few := kinds_few hz
          have fi := form_iff (ps := ps) hz
          refine ⟨.str z, rfl, aF, z, kvF, rfl, rfl, FC.kd, _, rfl, ?_⟩
          rw [hkt]
          refine iteF ?_
          refine ⟨.str z, rfl, aF, z, kvF, .ref kt, rfl, rfl, FC.kd, hkt, ?_⟩
          refine ⟨.ref a, rfl, a, _, rfl, .inr (SqT.of e), .ref kt, rfl, kt, _, rfl, .inr (hS H), _, _, rfl, rfl, rfl, _, rfl, ite2 (fun c2 => ?_) (fun c2 => ?_)⟩
          · refine q false H (iff_of_false (by simp) fun hf => ?_) (Same.refl H)
            have hl := (fi.mp hf).1
            refine absurd c2 ?_
            rw [List.length_cons, List.length_map, hl]
            simp
          have hl : ps.length = ks.length := by
            rw [List.length_cons, List.length_map] at c2
            simp at c2
            omega
          refine ⟨.ref kt, rfl, .ref a, rfl, 1, rfl, a, _, rfl, e, fun b H1 k1 hb => ?_⟩
          have eps : cutV (V.str z :: ps) (some 1) none = ps := by
            rw [cutV_from (by decide)]
            rfl
          rw [eps] at hb
          refine ⟨kt, b, _, _, rfl, .inr ⟨hS H1, SqT.of hb, fun D nD => lc_it (walk_zipT (n := ks.length) (by rw [List.length_map]; omega)) (fun i H2 => Same H1 H2 ∧ H2 D = some (.lst ((List.zipWith partV (ks.take i) (ps.take i)).map V.bl))) ⟨Same.new nD, upd_same⟩ (fun i H2 hi g => ⟨hS H2, SqT.of (g.1 _ _ hb)⟩) ?_ ?_⟩⟩
          · rintro i v H2 H3 hi ⟨g1, g2⟩ ⟨t, x1, x2, rfl, nt, rfl, hx1, hx2⟩
            dsimp only at hx1 hx2
            rw [List.getElem?_map] at hx1
            obtain ⟨kd, hkd, rfl⟩ := Option.map_eq_some_iff.mp hx1
            have hm := List.mem_of_getElem? hx2
            obtain ⟨⟨kx, hkx⟩, hvx⟩ := hy x2 (List.mem_cons_of_mem _ hm)
            have g3 : Same H1 (upd H2 t (.tup [.str kd, x2])) := g1.trans (Same.new nt)
            refine ⟨t, _, rfl, SqT.of upd_same, rfl, .str kd, _, rfl, x2, [], rfl, rfl, ?_⟩
            refine ⟨rfl, .str kd, rfl, x2, rfl, kd, x2, kx, rfl, (hkx.same k1).same g3, hvx, _, (upd_ne (ne_of_none g2 nt)).trans g2, ?_, ?_, ?_⟩
            · rw [List.length_map, List.length_zipWith, List.length_take, List.length_take]
              show _ < 16777216
              omega
            · exact sameAt g3 nD
            · rw [upd_same, zip_take hkd hx2, List.map_append]
              rfl
          · rintro H2 ⟨g1, g2⟩
            rw [List.take_of_length_le (Nat.le_refl _), List.take_of_length_le (by omega)] at g2
            refine ⟨D, _, rfl, sq_of g2, ?_⟩
            exact q _ H2 ⟨fun h => fi.mpr ⟨hl, h⟩, fun h => (fi.mp h).2⟩ (k1.trans g1)
end
end LawK
set_option maxHeartbeats 4000000
/-! Where a text stands in another within bounds; a text so many times. -/
namespace Ev
open PySem PySem.Spec PyProof.Rows L2 PySem.Builtin.Str
theorem occ_size {x y : Str} {hi lim : Nat} : ∀ (l : List Nat) (a : Array Nat) (k : Nat), 0 < a.size → 0 < ((forIn (m := Id) l (a, k) (StrLaws.occBody x y hi lim)).run.fst).size := by
  intro l
  induction l with
  | nil => intro a k h; exact h
  | cons i r ih =>
    intro a k h
    simp only [List.forIn_cons, StrLaws.occBody]
    split
    · exact ih _ _ (by rw [Array.size_push]; omega)
    · exact ih _ _ h
theorem occ_some {x y : Str} {lo hi i : Nat} (h0 : lo ≤ i) (h1 : i + y.length ≤ hi) (h2 : subAt x y i = true) : occurrences x y lo hi 1 ≠ [] := by
  rw [StrLaws.occ_eq]
  have hm : i ∈ List.range' lo (hi + 1 - lo) := by
    rw [List.mem_range'_1]
    omega
  have hlo : ∀ j ∈ List.range' lo (hi + 1 - lo), lo ≤ j := fun j hj => (List.mem_range'_1.mp hj).1
  revert hm hlo
  generalize List.range' lo (hi + 1 - lo) = l
  suffices H : ∀ (l : List Nat), i ∈ l → (∀ j ∈ l, lo ≤ j) → 0 < ((forIn (m := Id) l ((#[] : Array Nat), lo) (StrLaws.occBody x y hi 1)).run.fst).size by
    intro hm hlo e
    have := H l hm hlo
    rw [← Array.length_toList, e] at this
    exact absurd this (by simp)
  intro l
  induction l with
  | nil => intro h; cases h
  | cons j r ih =>
    intro hm hlo
    simp only [List.forIn_cons, StrLaws.occBody]
    split
    · exact occ_size r _ _ (by rw [Array.size_push]; omega)
    · rename_i hn
      refine ih ?_ (fun j hj => hlo j (List.mem_cons_of_mem _ hj))
      rcases List.mem_cons.mp hm with e | e
      · subst e
        exact absurd ⟨⟨⟨by decide, hlo i (List.mem_cons_self ..)⟩, h1⟩, h2⟩ hn
      · exact e
theorem subAt_iff {x y : Str} {k : Nat} : subAt x y k = true ↔ (x.cps.toList.drop k).take y.length = y.cps.toList := by
  unfold subAt
  rw [beq_iff_eq, ← Array.toList_inj, Array.toList_extract, List.extract_eq_take_drop]
  have : k + y.length - k = y.length := by omega
  rw [this]
/-- the place of y in x ahead of j, or -1 -/
theorem findIn_of {x y : Str} {j : Int} (h : 0 ≤ j) : (∃ k : Nat, Txt.findIn x y 0 j = (k : Int) ∧ (k : Int) + (y.length : Int) ≤ j ∧ (x.cps.toList.drop k).take y.length = y.cps.toList) ∨
    (Txt.findIn x y 0 j = -1 ∧ ∀ k : Nat, (k : Int) + (y.length : Int) ≤ j → k + y.length ≤ x.length → (x.cps.toList.drop k).take y.length ≠ y.cps.toList) := by
  unfold Txt.findIn
  have e0 : fromIndex x.length 0 = 0 := rfl
  have e1 : toIndexW x.length j = min j.toNat x.length := by
    unfold toIndexW
    rw [if_neg (by omega), Int.max_eq_right h]
  rw [e0, e1]
  cases e : occurrences x y 0 (min j.toNat x.length) 1 with
  | nil =>
    refine .inr ⟨rfl, fun k h1 h2 h3 => ?_⟩
    exact occ_some (Nat.zero_le k) (by omega) (subAt_iff.mpr h3) e
  | cons k r =>
    have := StrLaws.occ_spec x y 0 (min j.toNat x.length) 1 k (by rw [e]; exact List.mem_cons_self ..)
    exact .inl ⟨k, rfl, by omega, subAt_iff.mp this.2⟩
theorem fold_rep (x : Array Nat) : ∀ (n : Nat) (acc : Array Nat), ((List.replicate n x).foldl (· ++ ·) acc).toList = acc.toList ++ (List.replicate n x.toList).flatten
  | 0, acc => by simp
  | n + 1, acc => by
    rw [List.replicate_succ, List.foldl_cons, fold_rep x n, Array.toList_append, List.replicate_succ, List.flatten_cons, List.append_assoc]
theorem mul_list {z : Str} {n : Int} (h : 0 ≤ n) : (Txt.mul z n).cps.toList = (List.replicate n.toNat z.cps.toList).flatten := by
  unfold Txt.mul
  by_cases h1 : n < 1
  · rw [if_pos h1]
    have : n.toNat = 0 := by omega
    rw [this]
    rfl
  · rw [if_neg h1]
    split
    · rename_i hc
      rw [Bool.or_eq_true, beq_iff_eq, beq_iff_eq] at hc
      rcases hc with e | e
      · rw [e]
        show _ = (List.replicate 1 _).flatten
        simp
      · have en : z.cps.toList = [] := List.eq_nil_of_length_eq_zero (by rw [← len_S]; exact e)
        rw [en]
        generalize n.toNat = m
        clear h h1
        induction m with
        | zero => rfl
        | succ m ih => rw [List.replicate_succ, List.flatten_cons, List.nil_append]; exact ih
    · show ((List.replicate n.toNat z.cps).foldl (· ++ ·) #[]).toList = _
      rw [fold_rep]
      rfl
theorem rep_at {l : List Nat} (hl : 0 < l.length) : ∀ (n i : Nat), i < n * l.length → ((List.replicate n l).flatten)[i]? = l[i % l.length]?
  | 0, i, h => by omega
  | n + 1, i, h => by
    rw [List.replicate_succ, List.flatten_cons]
    by_cases c : i < l.length
    · rw [List.getElem?_append_left c, Nat.mod_eq_of_lt c]
    · rw [List.getElem?_append_right (by omega), rep_at hl n (i - l.length) (by rw [Nat.succ_mul] at h; omega)]
      have e : i % l.length = (i - l.length) % l.length := Nat.mod_eq_sub_mod (by omega)
      rw [e]
theorem rep_len {l : List Nat} : ∀ (n : Nat), ((List.replicate n l).flatten).length = n * l.length
  | 0 => by simp
  | n + 1 => by rw [List.replicate_succ, List.flatten_cons, List.length_append, rep_len n, Nat.succ_mul]; omega
/-- a text so many times -/
def rMulL : R2 := fun x y H Q => ∃ (z : Str) (n : Int), x = .str z ∧ y = .int n ∧ 0 ≤ n ∧ n ≤ 3000 ∧ z.length ≤ 5000 ∧ Q (.str (Txt.mul z n)) H
theorem op_mulL {X : Cx} : OpR X (binaryOp .Mult) rMulL := by
  intro pins s σ H x y v u Q I rx ry h
  obtain ⟨z, n, rfl, rfl, h0, h1, h2, q⟩ := h
  obtain ⟨t, rfl⟩ := rx
  obtain ⟨t', rfl⟩ := ry
  exact SB.mul (mulOk_of 5000 3000 h2 h1 (by omega) (by decide) (by decide)) fun t' k => ⟨.str _, H, I.tok _, ⟨_, rfl⟩, q⟩
end Ev
set_option maxHeartbeats 4000000
namespace LawK
open PySem PySem.Spec PyProof.Rows L2 Ev
abbrev cod (z : Str) : List Nat := z.cps.toList
theorem cod_inj {x y : Str} (h : cod x = cod y) : x = y := by
  obtain ⟨a⟩ := x
  obtain ⟨b⟩ := y
  exact congrArg Str.mk (Array.toList_inj.mp h)
theorem cod_app (x y : Str) : cod (x ++ y) = cod x ++ cod y := Array.toList_append
theorem cod_S (l : List Nat) : cod (SX.S l) = l := rfl
theorem S_cod (z : Str) : SX.S (cod z) = z := cod_inj rfl
theorem cod_len (z : Str) : (cod z).length = z.length := Array.length_toList
theorem app_len (x y : Str) : (x ++ y).length = x.length + y.length := by
  have := congrArg List.length (cod_app x y)
  rw [List.length_append, cod_len, cod_len, cod_len] at this
  exact this
/-! the figures of a number -/
def numZ (i : Int) : Str := ((toString i : String) : Str)
theorem num_cod (n : Nat) : cod (numZ (n : Int)) = (Nat.toDigits 10 n).map Char.toNat := PySem.W.KIN.signs_num n
theorem num_dig (n : Nat) : ∀ c ∈ cod (numZ (n : Int)), 48 ≤ c ∧ c ≤ 57 := by
  intro c hc
  rw [num_cod] at hc
  obtain ⟨ch, hch, e⟩ := List.mem_map.mp hc
  have r := PyProof.Rows.digit_range (Nat.isDigit_of_mem_toDigits (by decide) (by decide) hch)
  rw [← e]
  exact r
theorem num_val (n : Nat) : PySem.NumText.digitsVal (cod (numZ (n : Int))) = n := by
  rw [num_cod]
  exact PySem.W.KIN.val_back n
theorem num_ne (n : Nat) : cod (numZ (n : Int)) ≠ [] := by
  rw [num_cod]
  intro e
  have h := toDigits_len_ge 10 n
  rw [List.map_eq_nil_iff.mp e] at h
  exact absurd h (by decide)
theorem num_len {n : Nat} (h : n < 10000) : (numZ (n : Int)).length ≤ 4 := toString_length_le (k := 4) (by omega) (by decide) (by show (n : Int) < 10 ^ 4; omega)
theorem num_sg (n : Nat) : sgB (numZ (n : Int)) = true := List.all_eq_true.mpr fun c hc => by
  have := num_dig n c hc
  unfold sgC
  rw [decide_eq_true (by omega), decide_eq_true (by omega)]
  rfl
theorem num_no (n : Nat) : 32 ∉ cod (numZ (n : Int)) := fun h => by
  have := num_dig n 32 h
  omega
/-- a text of figures -/
def dgB (z : Str) : Bool := decide ((z.length : Int) > 0) && (cod z).all fun c => decide (48 ≤ c) && decide (c ≤ 57)
def figN (z : Str) : Nat := PySem.NumText.digitsVal (cod z)
/-- the number that a text shows -/
def figV (z : Str) : V := if dgB z = true ∧ z.length ≤ 9 ∧ numZ (figN z : Nat) = z then .int (figN z : Nat) else .non
theorem dig128 : ∀ c : Fin 128, Unicode.isDigit c.val = (decide (48 ≤ c.val) && decide (c.val ≤ 57)) := by decide +kernel
theorem isdigit_sg {z : Str} (h : sgB z = true) : Txt.isdigit z = dgB z := by
  unfold Txt.isdigit dgB
  have e : (cod z).all Unicode.isDigit = (cod z).all fun c => decide (48 ≤ c) && decide (c ≤ 57) := by
    have h' : ∀ c ∈ cod z, sgC c = true := List.all_eq_true.mp h
    generalize cod z = l at h'
    induction l with
    | nil => rfl
    | cons c l ih =>
      rw [List.all_cons, List.all_cons, ih fun d hd => h' d (List.mem_cons_of_mem _ hd)]
      have := h' c List.mem_cons_self
      unfold sgC at this
      have lt : c < 128 := by
        have := of_decide_eq_true (Bool.and_eq_true_iff.mp this).2
        omega
      rw [dig128 ⟨c, lt⟩]
  have e2 : z.cps.all Unicode.isDigit = (cod z).all Unicode.isDigit := by rw [Array.all_toList]
  rw [e2, e]
  congr 1
  exact decide_eq_decide.mpr (by omega)
theorem fig_int {z : Str} (h : dgB z = true) (l : z.length ≤ 640) : PySem.intText? z = some ((figN z : Nat) : Int) := by
  obtain ⟨h1, h2⟩ := Bool.and_eq_true_iff.mp h
  have h1 := of_decide_eq_true h1
  refine PySem.intText_digits (fun c hc => ?_) (fun e => ?_) (by omega)
  · obtain ⟨a, b⟩ := Bool.and_eq_true_iff.mp (List.all_eq_true.mp h2 c hc)
    exact ⟨of_decide_eq_true a, of_decide_eq_true b⟩
  · have := cod_len z
    rw [show cod z = [] from e] at this
    have : (0 : Nat) = z.length := this
    omega
theorem fig_num {n : Nat} (h : n < 10000) : figV (numZ (n : Int)) = .int (n : Int) := by
  have l := num_len h
  have e : figN (numZ (n : Int)) = n := num_val n
  have d : dgB (numZ (n : Int)) = true := by
    unfold dgB
    have : 0 < (numZ (n : Int)).length := by
      rw [← cod_len]
      exact List.length_pos_iff.mpr (num_ne n)
    rw [decide_eq_true (by omega), Bool.true_and]
    refine List.all_eq_true.mpr fun c hc => ?_
    have := num_dig n c hc
    rw [decide_eq_true this.1, decide_eq_true this.2]
    rfl
  unfold figV
  rw [e, if_pos ⟨d, by omega, rfl⟩]
theorem fig_some {z : Str} (h : figV z ≠ .non) : ∃ n : Nat, figV z = .int (n : Int) ∧ numZ (n : Int) = z ∧ dgB z = true := by
  unfold figV at h ⊢
  by_cases c : dgB z = true ∧ z.length ≤ 9 ∧ numZ (figN z : Nat) = z
  · rw [if_pos c]
    exact ⟨_, rfl, c.2.2, c.1⟩
  · rw [if_neg c] at h
    exact absurd rfl h
theorem dg_no {z : Str} (h : dgB z = true) : 32 ∉ cod z := fun m => by
  have := List.all_eq_true.mp (Bool.and_eq_true_iff.mp h).2 32 m
  exact absurd this (by decide)
/-! a text up to a space, and what comes behind it -/
def hdW (s : List Nat) : List Nat := s.takeWhile (fun c => decide (c ≠ 32))
def tlW (s : List Nat) : Option (List Nat) := match s.dropWhile (fun c => decide (c ≠ 32)) with
  | [] => none
  | _ :: r => some r
theorem w_nil : hdW [] = [] ∧ tlW [] = none := ⟨rfl, rfl⟩
theorem w_sp (s : List Nat) : hdW (32 :: s) = [] ∧ tlW (32 :: s) = some s := ⟨rfl, rfl⟩
theorem w_cons {c : Nat} (h : c ≠ 32) (s : List Nat) : hdW (c :: s) = c :: hdW s ∧ tlW (c :: s) = tlW s := by
  have hx : decide (c ≠ 32) = true := decide_eq_true h
  unfold hdW tlW
  rw [List.takeWhile_cons, List.dropWhile_cons, if_pos hx, if_pos hx]
  exact ⟨rfl, rfl⟩
/-- a text is its head and what comes behind -/
def spT : Option (List Nat) → List Nat
  | none => []
  | some r => 32 :: r
theorem w_put : ∀ s : List Nat, s = hdW s ++ spT (tlW s) ∧ 32 ∉ hdW s
  | [] => ⟨rfl, by show (32 : Nat) ∉ ([] : List Nat); simp⟩
  | c :: s => by
    obtain ⟨h1, h2⟩ := w_put s
    by_cases h : c = 32
    · subst h
      rw [(w_sp s).1, (w_sp s).2]
      exact ⟨rfl, by simp⟩
    · rw [(w_cons h s).1, (w_cons h s).2]
      refine ⟨?_, fun m => (List.mem_cons.mp m).elim (fun e => h e.symm) h2⟩
      rw [List.cons_append, ← h1]
theorem w_of : ∀ {a : List Nat} (t : Option (List Nat)), 32 ∉ a → hdW (a ++ spT t) = a ∧ tlW (a ++ spT t) = t
  | [], none, _ => w_nil
  | [], some r, _ => w_sp r
  | c :: a, t, h => by
    have hc : c ≠ 32 := fun e => h (by rw [e]; exact List.mem_cons_self)
    obtain ⟨h1, h2⟩ := w_of (a := a) t fun m => h (List.mem_cons_of_mem _ m)
    rw [List.cons_append, (w_cons hc _).1, (w_cons hc _).2, h1, h2]
    exact ⟨rfl, rfl⟩
theorem w_drop (s : List Nat) : s.drop (hdW s).length = spT (tlW s) := by
  have h := (w_put s).1
  have : (hdW s ++ spT (tlW s)).drop (hdW s).length = spT (tlW s) := List.drop_left
  rw [← h] at this
  exact this
theorem w_take (s : List Nat) : s.take (hdW s).length = hdW s := by
  have h := (w_put s).1
  have : (hdW s ++ spT (tlW s)).take (hdW s).length = hdW s := List.take_left
  rw [← h] at this
  exact this
/-- a text cut at its spaces, no more than k times -/
def cutM : Nat → List Nat → List (List Nat)
  | 0, s => [s]
  | k + 1, s => match tlW s with
    | none => [s]
    | some r => hdW s :: cutM k r
/-- where the spaces stand, no more than k -/
def posL : List Nat → Nat → Nat → List Nat
  | [], _, _ => []
  | _ :: _, _, 0 => []
  | c :: s, a, k + 1 => if c = 32 then a :: posL s (a + 1) k else posL s (a + 1) (k + 1)
theorem cut_some {s r : List Nat} (e : tlW s = some r) (k : Nat) : cutM (k + 1) s = hdW s :: cutM k r := by
  rw [cutM, e]
theorem cut_none {s : List Nat} (e : tlW s = none) (k : Nat) : cutM (k + 1) s = [s] := by
  rw [cutM, e]
theorem pos0 (s : List Nat) (a : Nat) : posL s a 0 = [] := by cases s <;> rfl
theorem pos_cut : ∀ (s : List Nat) (a k : Nat), posL s a (k + 1) = match tlW s with
    | none => []
    | some r => (a + (hdW s).length) :: posL r (a + (hdW s).length + 1) k
  | [], a, k => rfl
  | c :: s, a, k => by
    by_cases h : c = 32
    · subst h
      rw [(w_sp s).1, (w_sp s).2]
      rfl
    · rw [(w_cons h s).1, (w_cons h s).2]
      show (if c = 32 then _ else _) = _
      rw [if_neg h, pos_cut s (a + 1) k]
      cases tlW s with
      | none => rfl
      | some r =>
        have e : a + 1 + (hdW s).length = a + (c :: hdW s).length := by rw [List.length_cons]; omega
        dsimp only
        rw [e]
theorem sp_len : (" " : Str).length = 1 := by decide
theorem at32 {x : Str} {i : Nat} : Builtin.Str.subAt x " " i = true ↔ (cod x)[i]? = some 32 := by
  rw [subAt_iff]
  show ((cod x).drop i).take 1 = [32] ↔ _
  constructor
  · intro h
    cases e : (cod x).drop i with
    | nil => rw [e] at h; cases h
    | cons y r =>
      rw [e] at h
      have hy : y = 32 := by injection h
      have := congrArg (fun l => l[0]?) e
      simp only [List.getElem?_drop, Nat.add_zero] at this
      rw [this, hy]
      rfl
  · intro h
    have hl := (List.getElem?_eq_some_iff.mp h).1
    rw [List.drop_eq_getElem_cons hl, (List.getElem?_eq_some_iff.mp h).2]
    rfl
theorem occ_run (x : Str) (limit : Nat) : ∀ (m a : Nat) (st : Array Nat × Nat), a + m = x.length + 1 → st.snd ≤ a →
    (forIn (List.range' a m) st (StrLaws.occBody x " " x.length limit)).run.fst.toList = st.fst.toList ++ posL ((cod x).drop a) a (limit - st.fst.size)
  | 0, a, st, h, _ => by
    rw [List.drop_eq_nil_of_le (by rw [cod_len]; omega)]
    show st.fst.toList = st.fst.toList ++ []
    rw [List.append_nil]
  | m + 1, a, st, h, hf => by
    rw [List.range'_succ, List.forIn_cons]
    unfold StrLaws.occBody
    split
    · rename_i hc
      have hx := at32.mp hc.2
      have hl := (List.getElem?_eq_some_iff.mp hx).1
      refine (occ_run x limit m (a + 1) (st.fst.push a, a + (" " : Str).length) (by omega) (by show a + (" " : Str).length ≤ a + 1; rw [sp_len]; exact Nat.le_refl _)).trans ?_
      show (st.fst.push a).toList ++ posL ((cod x).drop (a + 1)) (a + 1) (limit - (st.fst.push a).size) = _
      obtain ⟨k, hk⟩ : ∃ k, limit - st.fst.size = k + 1 := ⟨limit - st.fst.size - 1, by have := hc.1.1.1; omega⟩
      rw [Array.toList_push, Array.size_push, show limit - (st.fst.size + 1) = k by omega, hk, List.drop_eq_getElem_cons hl, (List.getElem?_eq_some_iff.mp hx).2]
      show (st.fst.toList ++ [a]) ++ _ = st.fst.toList ++ (if (32 : Nat) = 32 then _ else _)
      rw [if_pos rfl, List.append_assoc]
      rfl
    · rename_i hc
      refine (occ_run x limit m (a + 1) (st.fst, st.snd) (by omega) (by show st.snd ≤ a + 1; omega)).trans ?_
      show st.fst.toList ++ posL ((cod x).drop (a + 1)) (a + 1) (limit - st.fst.size) = _
      congr 1
      cases hk : limit - st.fst.size with
      | zero => rw [pos0, pos0]
      | succ k =>
        by_cases hl : a < (cod x).length
        · rw [List.drop_eq_getElem_cons hl]
          show _ = if (cod x)[a] = 32 then _ else _
          rw [if_neg]
          intro e
          refine hc ⟨⟨⟨by omega, hf⟩, by rw [sp_len]; rw [cod_len] at hl; omega⟩, at32.mpr ?_⟩
          rw [List.getElem?_eq_getElem hl, e]
        · rw [List.drop_eq_nil_of_le (by omega), List.drop_eq_nil_of_le (by omega)]
          rfl
theorem occ32 (x : Str) (limit : Nat) : Builtin.Str.occurrences x " " 0 x.length limit = posL (cod x) 0 limit := by
  rw [StrLaws.occ_eq]
  have := occ_run x limit (x.length + 1 - 0) 0 ((#[] : Array Nat), 0) (by omega) (Nat.le_refl _)
  exact this
theorem sub_cod (x : Str) (i j : Nat) : cod (Builtin.Str.strSub x i j) = ((cod x).drop i).take (j - i) := by
  unfold Builtin.Str.strSub
  show (x.cps.extract i j).toList = _
  rw [Array.toList_extract, List.extract_eq_take_drop]
theorem sub_end (x : Str) (i : Nat) : cod (Builtin.Str.strSub x i x.length) = (cod x).drop i := by
  rw [sub_cod]
  exact List.take_of_length_le (by rw [List.length_drop, cod_len]; omega)
theorem parts_cut (x : Str) : ∀ (k a : Nat), (StrLaws.partsFrom x 1 a (posL ((cod x).drop a) a k)).map cod = cutM k ((cod x).drop a)
  | 0, a => by
    rw [pos0]
    show [cod (Builtin.Str.strSub x a x.length)] = [_]
    rw [sub_end]
  | k + 1, a => by
    rw [pos_cut]
    cases e : tlW ((cod x).drop a) with
    | none =>
      show [cod (Builtin.Str.strSub x a x.length)] = _
      rw [sub_end, cut_none e]
    | some r =>
      have d := w_drop ((cod x).drop a)
      have t := w_take ((cod x).drop a)
      rw [e, List.drop_drop] at d
      have dr : (cod x).drop (a + (hdW ((cod x).drop a)).length + 1) = r := by
        rw [← List.drop_drop, d]
        rfl
      show cod (Builtin.Str.strSub x a (a + (hdW ((cod x).drop a)).length)) :: (StrLaws.partsFrom x 1 (a + (hdW ((cod x).drop a)).length + 1) (posL r _ k)).map cod = _
      rw [← dr, parts_cut x k, dr, sub_cod, Nat.add_sub_cancel_left, t, cut_some e]
theorem kind1 (x : Str) : ¬ Builtin.Str.strKind x < Builtin.Str.strKind " " := TL.kind_ok (by decide +kernel)
theorem gen_cut (x : Str) (l : Nat) : (if (decide (x.length < (" " : Str).length) || decide (Builtin.Str.strKind x < Builtin.Str.strKind " ")) = true then [x] else
    if (Builtin.Str.occurrences x " " 0 x.length l).isEmpty = true then [x] else Builtin.Str.partsBetween x (Builtin.Str.occurrences x " " 0 x.length l) (" " : Str).length).map cod = cutM l (cod x) := by
  have key := parts_cut x l 0
  rw [List.drop_zero] at key
  have one : posL (cod x) 0 l = [] → [x].map cod = cutM l (cod x) := fun e => by
    rw [← key, e]
    show [cod x] = [cod (Builtin.Str.strSub x 0 x.length)]
    rw [sub_end]
    rfl
  rw [occ32]
  by_cases h1 : (decide (x.length < (" " : Str).length) || decide (Builtin.Str.strKind x < Builtin.Str.strKind " ")) = true
  · rw [if_pos h1]
    refine one ?_
    have l0 : cod x = [] := by
      rcases Bool.or_eq_true_iff.mp h1 with h | h
      · have := of_decide_eq_true h
        rw [sp_len] at this
        exact List.length_eq_zero_iff.mp (by rw [cod_len]; omega)
      · exact absurd (of_decide_eq_true h) (kind1 x)
    rw [l0]
    rfl
  · rw [if_neg h1]
    by_cases h2 : (posL (cod x) 0 l).isEmpty = true
    · rw [if_pos h2]
      exact one (List.isEmpty_iff.mp h2)
    · rw [if_neg h2, StrLaws.partsBetween_eq, sp_len]
      exact key
theorem split_cutM (x : Str) (k : Nat) : (Txt.splitMax x " " (k : Int)).map cod = cutM k (cod x) := by
  have e : PySem.limitOf x (k : Int) = k := by
    unfold PySem.limitOf
    rw [if_neg (by omega)]
    rfl
  unfold Txt.splitMax
  rw [e]
  exact gen_cut x k
theorem split_cut (x : Str) : (Txt.split x " ").map cod = cutM (x.length + 1) (cod x) := gen_cut x (x.length + 1)
theorem cutM_hd (k : Nat) (s : List Nat) : ∃ r, cutM (k + 1) s = hdW s :: r := by
  cases e : tlW s with
  | none =>
    have h := (w_put s).1
    rw [e] at h
    have h : s = hdW s ++ [] := h
    rw [List.append_nil] at h
    refine ⟨[], ?_⟩
    rw [cut_none e]
    exact congrArg (fun z => [z]) h
  | some r => exact ⟨cutM k r, cut_some e k⟩
theorem split_hd (x : Str) : ∃ r, Txt.split x " " = SX.S (hdW (cod x)) :: r := by
  obtain ⟨r, h⟩ := cutM_hd x.length (cod x)
  rw [← split_cut] at h
  cases e : Txt.split x " " with
  | nil => rw [e] at h; cases h
  | cons a t =>
    rw [e, List.map_cons] at h
    injection h with h _
    exact ⟨t, by rw [← S_cod a, h]⟩
theorem part_hd (x : Str) : (Txt.partition x " ").1 = SX.S (hdW (cod x)) := by
  unfold Txt.partition
  rw [occ32, pos_cut]
  refine cod_inj ?_
  cases e : tlW (cod x) with
  | none =>
    have h := (w_put (cod x)).1
    rw [e] at h
    show cod x = hdW (cod x)
    have h : cod x = hdW (cod x) ++ [] := h
    rw [List.append_nil] at h
    exact h
  | some r =>
    show cod (Builtin.Str.strSub x 0 (0 + (hdW (cod x)).length)) = hdW (cod x)
    rw [sub_cod, List.drop_zero, Nat.zero_add, Nat.sub_zero, w_take]
end LawK
set_option maxHeartbeats 4000000
namespace LawK
open PySem PySem.Spec PyProof.Rows L2 Ev
/-- how a part is shown -/
def shV : V → Str
  | .int i => numZ i
  | .str z => z
  | _ => Str.empty
/-- what stands behind the word -/
def spL : List V → List Nat
  | [] => []
  | v :: vs => 32 :: (cod (shV v) ++ spL vs)
def spO : List V → Option (List Nat)
  | [] => none
  | v :: vs => some (cod (shV v) ++ spL vs)
theorem spO_T (vs : List V) : spT (spO vs) = spL vs := by cases vs <;> rfl
theorem spT_inj {s t : Option (List Nat)} (h : spT s = spT t) : s = t := by
  cases s with
  | none => cases t with
    | none => rfl
    | some b => cases h
  | some a => cases t with
    | none => cases h
    | some b =>
      injection h with _ h
      rw [h]
/-- an edit as one text -/
def shw (xs : List V) : Str := Txt.join " " (xs.map shV)
theorem glue_sp : ∀ (vs : List V) (acc : List Nat), (vs.map shV).foldl (fun acc (p : Str) => acc ++ [32] ++ cod p) acc = acc ++ spL vs
  | [], acc => (List.append_nil acc).symm
  | v :: vs, acc => by
    rw [List.map_cons, List.foldl_cons, glue_sp vs]
    show (acc ++ [32] ++ cod (shV v)) ++ spL vs = acc ++ (32 :: (cod (shV v) ++ spL vs))
    simp only [List.append_assoc, List.singleton_append, List.cons_append, List.nil_append]
theorem fold_arr : ∀ (ps : List Str) (acc : Array Nat), (ps.foldl (fun (acc : Array Nat) (p : Str) => acc ++ (" " : Str).cps ++ p.cps) acc).toList = ps.foldl (fun acc (p : Str) => acc ++ [32] ++ cod p) acc.toList
  | [], acc => rfl
  | p :: ps, acc => by
    rw [List.foldl_cons, List.foldl_cons, fold_arr ps]
    congr 1
    rw [Array.toList_append, Array.toList_append]
    rfl
theorem shw_cod (w : V) (vs : List V) : cod (shw (w :: vs)) = cod (shV w) ++ spL vs := by
  show ((vs.map shV).foldl (fun (acc : Array Nat) (p : Str) => acc ++ (" " : Str).cps ++ p.cps) (shV w).cps).toList = _
  rw [fold_arr, glue_sp]
/-- what can be told as a text -/
def HasTx (xs : List V) : Prop := HasForm (some xs) ∧ (∀ i, V.int i ∈ xs → i < 10000) ∧ ¬ (xs[0]? = some (.str (Str.ofString "join")) ∧ xs[1]? = xs[2]?)
def HasT (o : Option (List V)) : Prop := ∃ xs, o = some xs ∧ HasTx xs
def rdP (kd : Str) (z : Str) : V := if kd = kNum ∨ kd = kMany then figV z else if kd = kWord ∧ z = Str.empty then .non else .str z
/-- the parts by their kinds -/
def rdK : List Str → Option (List Nat) → Option (List V)
  | [], none => some []
  | [], some _ => none
  | _ :: _, none => none
  | k :: ks, some r => if k = kNum ∨ k = kMany then (match figV (SX.S (hdW r)) with
      | .int i => (rdK ks (tlW r)).map (V.int i :: ·)
      | _ => none) else if k = kWord ∧ r = [] then none else some [.str (SX.S r)]
/-- only the last part may be of any signs -/
def prp : List Str → Prop
  | [] => True
  | [_] => True
  | k :: k' :: ks => (k = kNum ∨ k = kMany) ∧ prp (k' :: ks)
theorem prp_kinds {z : Str} {ks : List Str} (h : kindsOf z = some ks) : prp ks := by
  unfold kindsOf at h
  repeat' split at h
  all_goals first | cases h
  all_goals simp [prp]
theorem S_nil : SX.S [] = Str.empty := rfl
theorem S_ne {r : List Nat} (h : r ≠ []) : SX.S r ≠ Str.empty := fun e => h (by
  have := congrArg cod e
  exact this)
theorem nk : ¬ (kWord = kNum ∨ kWord = kMany) := by decide +kernel
theorem sk : ¬ (kSigns = kNum ∨ kSigns = kMany) := by decide +kernel
/-- what is read shows as the text -/
theorem rd_sound : ∀ (ks : List Str) (t : Option (List Nat)) (vs : List V), prp ks → rdK ks t = some vs → spL vs = spT t
  | [], none, vs, _, h => by
    cases h
    rfl
  | [], some _, vs, _, h => by cases h
  | _ :: _, none, vs, _, h => by cases h
  | k :: ks, some r, vs, hp, h => by
    unfold rdK at h
    by_cases c : k = kNum ∨ k = kMany
    · rw [if_pos c] at h
      by_cases g : figV (SX.S (hdW r)) = .non
      · rw [g] at h
        cases h
      · obtain ⟨n, e, en, _⟩ := fig_some g
        rw [e] at h
        obtain ⟨us, hu, rfl⟩ := Option.map_eq_some_iff.mp h
        have hp2 : prp ks := by
          cases ks with
          | nil => trivial
          | cons k' ks => exact hp.2
        have ih := rd_sound ks _ _ hp2 hu
        show 32 :: (cod (numZ (n : Int)) ++ spL us) = 32 :: r
        rw [en, ih]
        exact congrArg _ (w_put r).1.symm
    · rw [if_neg c] at h
      by_cases c2 : k = kWord ∧ r = []
      · rw [if_pos c2] at h
        cases h
      · rw [if_neg c2] at h
        cases h
        show 32 :: (cod (SX.S r) ++ []) = 32 :: r
        rw [List.append_nil]
theorem all_cons {k : Str} {ks : List Str} {v : V} {vs : List V} : allP (k :: ks) (v :: vs) = true ↔ partV k v = true ∧ allP ks vs = true := by
  unfold allP
  rw [List.zipWith_cons_cons, List.all_cons, Bool.and_eq_true_iff]
  exact Iff.rfl
theorem many_num {k : Str} {v : V} (c : k = kNum ∨ k = kMany) (h : partV k v = true) : ∃ n : Nat, v = .int (n : Int) := by
  have : numV v = true := by
    rcases c with rfl | rfl
    · rw [part_num] at h
      exact h
    · rw [part_many] at h
      exact (Bool.and_eq_true_iff.mp h).1
  obtain ⟨i, e, h0⟩ := num_int this
  exact ⟨i.toNat, by rw [e]; congr 1; omega⟩
theorem text_part {k : Str} {v : V} (c : ¬ (k = kNum ∨ k = kMany)) (h : partV k v = true) : ∃ z, v = .str z ∧ sgB z = true ∧ (k = kWord → z ≠ Str.empty) := by
  unfold partV at h
  rw [if_neg fun e => c (.inl e)] at h
  by_cases c2 : k = Str.ofString "many"
  · exact absurd (.inr c2) c
  rw [if_neg c2] at h
  by_cases c3 : k = Str.ofString "word"
  · rw [if_pos c3] at h
    obtain ⟨z, rfl⟩ := word_str h
    obtain ⟨h1, h2⟩ := Bool.and_eq_true_iff.mp h
    have h2 := of_decide_eq_true h2
    refine ⟨z, rfl, h1, fun _ e => ?_⟩
    rw [e] at h2
    exact absurd h2 (by decide)
  · rw [if_neg c3] at h
    obtain ⟨z, rfl⟩ := sg_str h
    exact ⟨z, rfl, h, fun e => absurd e c3⟩
/-- what has the form is read back -/
theorem rd_back : ∀ (ks : List Str) (vs : List V), prp ks → vs.length = ks.length → allP ks vs = true → (∀ i, V.int i ∈ vs → i < 10000) → rdK ks (spO vs) = some vs
  | [], [], _, _, _, _ => rfl
  | [], _ :: _, _, h, _, _ => by cases h
  | _ :: _, [], _, h, _, _ => by cases h
  | k :: ks, v :: vs, hp, hl, ha, hs => by
    obtain ⟨h1, h2⟩ := all_cons.mp ha
    have hl2 : vs.length = ks.length := by simpa using hl
    show rdK (k :: ks) (some (cod (shV v) ++ spL vs)) = _
    unfold rdK
    by_cases c : k = kNum ∨ k = kMany
    · rw [if_pos c]
      obtain ⟨n, rfl⟩ := many_num c h1
      have lt : n < 10000 := by
        have := hs _ List.mem_cons_self
        omega
      have hp2 : prp ks := by
        cases ks with
        | nil => trivial
        | cons k' ks => exact hp.2
      show (match figV (SX.S (hdW (cod (numZ (n : Int)) ++ spL vs))) with
        | .int i => (rdK ks (tlW (cod (numZ (n : Int)) ++ spL vs))).map (V.int i :: ·)
        | _ => none) = _
      obtain ⟨a, b⟩ := w_of (spO vs) (num_no n)
      rw [spO_T] at a b
      rw [a, b, S_cod, fig_num lt, rd_back ks vs hp2 hl2 h2 fun i hi => hs i (List.mem_cons_of_mem _ hi)]
      rfl
    · rw [if_neg c]
      obtain ⟨z, rfl, sz, nz⟩ := text_part c h1
      have kn : ks = [] := by
        cases ks with
        | nil => rfl
        | cons k' ks => exact absurd hp.1 c
      subst kn
      have vn : vs = [] := List.length_eq_zero_iff.mp hl2
      subst vn
      show (if k = kWord ∧ cod z ++ [] = [] then none else some [V.str (SX.S (cod z ++ []))]) = _
      rw [List.append_nil, if_neg fun e => nz e.1 (cod_inj e.2), S_cod]
/-- the parts as the program reads them -/
def lineL (ks : List Str) (ps : List Str) : Option (List V) := if ps.length = ks.length ∧ V.non ∉ List.zipWith rdP ks ps then some (List.zipWith rdP ks ps) else none
theorem cutM_one (s : List Nat) : cutM 0 s = [s] := rfl
theorem fig_sp {r : List Nat} (h : 32 ∈ r) : figV (SX.S r) = .non := by
  by_cases g : figV (SX.S r) = .non
  · exact g
  · obtain ⟨n, _, _, d⟩ := fig_some g
    exact absurd h (dg_no d)
theorem rdP_num {k : Str} (c : k = kNum ∨ k = kMany) (z : Str) : rdP k z = figV z := if_pos c
theorem lineL_cons {k : Str} {ks : List Str} {p : Str} {ps : List Str} : lineL (k :: ks) (p :: ps) = if rdP k p = .non then none else (lineL ks ps).map (rdP k p :: ·) := by
  unfold lineL
  rw [List.zipWith_cons_cons]
  by_cases c : rdP k p = .non
  · rw [if_pos c, if_neg fun h => h.2 (by rw [c]; exact List.mem_cons_self)]
  · rw [if_neg c]
    by_cases d : ps.length = ks.length ∧ V.non ∉ List.zipWith rdP ks ps
    · rw [if_pos d, if_pos ⟨by simp [d.1], fun m => (List.mem_cons.mp m).elim (fun e => c e.symm) d.2⟩]
      rfl
    · rw [if_neg d, if_neg fun h => d ⟨by simpa using h.1, fun m => h.2 (List.mem_cons_of_mem _ m)⟩]
      rfl
theorem line_rd : ∀ (ks : List Str) (k : Str) (r : List Nat), prp (k :: ks) → lineL (k :: ks) ((cutM ks.length r).map SX.S) = rdK (k :: ks) (some r)
  | [], k, r, _ => by
    show lineL [k] [SX.S r] = _
    rw [lineL_cons]
    have e0 : lineL [] [] = some [] := if_pos ⟨rfl, by simp⟩
    rw [e0]
    unfold rdK
    by_cases c : k = kNum ∨ k = kMany
    · rw [if_pos c, rdP_num c]
      have w := w_put r
      cases e : tlW r with
      | none =>
        rw [e] at w
        have w1 : r = hdW r ++ [] := w.1
        rw [List.append_nil] at w1
        rw [← w1]
        by_cases g : figV (SX.S r) = .non
        · rw [if_pos g, g]
        · rw [if_neg g]
          obtain ⟨n, en, _⟩ := fig_some g
          rw [en]
          rfl
      | some q =>
        rw [e] at w
        have m : 32 ∈ r := by
          rw [w.1]
          exact List.mem_append_right _ List.mem_cons_self
        rw [if_pos (fig_sp m)]
        cases figV (SX.S (hdW r)) <;> rfl
    · rw [if_neg c]
      unfold rdP
      rw [if_neg c]
      by_cases d : k = kWord ∧ r = []
      · have d2 : k = kWord ∧ SX.S r = Str.empty := ⟨d.1, by rw [d.2]; rfl⟩
        rw [if_pos d, if_pos d2, if_pos rfl]
      · have d2 : ¬ (k = kWord ∧ SX.S r = Str.empty) := fun h => d ⟨h.1, by have := congrArg cod h.2; exact this⟩
        rw [if_neg d, if_neg d2, if_neg (fun h => by cases h)]
        rfl
  | k' :: ks, k, r, hp => by
    have c := hp.1
    cases e : tlW r with
    | none =>
      have ec : cutM (k' :: ks).length r = [r] := cut_none e ks.length
      rw [ec]
      show lineL (k :: k' :: ks) [SX.S r] = _
      rw [lineL_cons]
      have e0 : lineL (k' :: ks) [] = none := if_neg fun h => by cases h.1
      rw [e0]
      unfold rdK
      rw [if_pos c, e]
      have : rdK (k' :: ks) none = none := rfl
      rw [this]
      split <;> split <;> rfl
    | some q =>
      have ec : cutM (k' :: ks).length r = hdW r :: cutM ks.length q := cut_some e ks.length
      rw [ec, List.map_cons, lineL_cons, line_rd ks k' q hp.2, rdP_num c]
      have en4 : rdK (k :: k' :: ks) (some r) = if k = kNum ∨ k = kMany then (match figV (SX.S (hdW r)) with
        | .int i => (rdK (k' :: ks) (tlW r)).map (V.int i :: ·)
        | _ => none) else if k = kWord ∧ r = [] then none else some [.str (SX.S r)] := by rw [rdK]
      rw [en4, if_pos c, e]
      by_cases g : figV (SX.S (hdW r)) = .non
      · rw [if_pos g, g]
      · rw [if_neg g]
        obtain ⟨n, en, _⟩ := fig_some g
        rw [en]
/-- the parts as the law reads them -/
def lawK : List Str → List Nat → Option (List V × List Nat)
  | [], rest => some ([], rest)
  | _ :: _, [] => none
  | k :: ks, c :: r => if c ≠ 32 then none else if k = kNum ∨ k = kMany then (lawK ks (r.drop (hdW r).length)).map (fun p => (figV (SX.S (hdW r)) :: p.1, p.2)) else (lawK ks []).map (fun p => (V.str (SX.S r) :: p.1, p.2))
theorem law_of : ∀ (ks : List Str) (t : Option (List Nat)) (vs : List V), prp ks → rdK ks t = some vs → lawK ks (spT t) = some (vs, [])
  | [], none, vs, _, h => by
    cases h
    rfl
  | [], some _, vs, _, h => by cases h
  | _ :: _, none, vs, _, h => by cases h
  | k :: ks, some r, vs, hp, h => by
    unfold rdK at h
    show (if (32 : Nat) ≠ 32 then none else _) = _
    rw [if_neg (by decide)]
    by_cases c : k = kNum ∨ k = kMany
    · rw [if_pos c] at h ⊢
      by_cases g : figV (SX.S (hdW r)) = .non
      · rw [g] at h
        cases h
      · obtain ⟨n, e, en, _⟩ := fig_some g
        rw [e] at h ⊢
        obtain ⟨us, hu, rfl⟩ := Option.map_eq_some_iff.mp h
        have hp2 : prp ks := by
          cases ks with
          | nil => trivial
          | cons k' ks => exact hp.2
        rw [w_drop, law_of ks _ _ hp2 hu]
        rfl
    · rw [if_neg c] at h ⊢
      have kn : ks = [] := by
        cases ks with
        | nil => rfl
        | cons k' ks => exact absurd hp.1 c
      subst kn
      by_cases c2 : k = kWord ∧ r = []
      · rw [if_pos c2] at h
        cases h
      · rw [if_neg c2] at h
        cases h
        rfl
theorem of_law : ∀ (ks : List Str) (t : Option (List Nat)) (vs : List V), prp ks → lawK ks (spT t) = some (vs, []) → allP ks vs = true → rdK ks t = some vs
  | [], none, vs, _, h, _ => by
    injection h with h
    injection h with h _
    rw [← h]
    rfl
  | [], some r, vs, _, h, _ => by
    injection h with h
    injection h with _ h
    cases h
  | _ :: _, none, vs, _, h, _ => by cases h
  | k :: ks, some r, vs, hp, h, ha => by
    have h : (if (32 : Nat) ≠ 32 then none else if k = kNum ∨ k = kMany then (lawK ks (r.drop (hdW r).length)).map (fun p => (figV (SX.S (hdW r)) :: p.1, p.2)) else (lawK ks []).map (fun p => (V.str (SX.S r) :: p.1, p.2))) = some (vs, []) := h
    rw [if_neg (by decide)] at h
    unfold rdK
    by_cases c : k = kNum ∨ k = kMany
    · rw [if_pos c] at h ⊢
      rw [w_drop] at h
      obtain ⟨⟨us, rest⟩, hu, e⟩ := Option.map_eq_some_iff.mp h
      injection e with e1 e2
      have e1 : figV (SX.S (hdW r)) :: us = vs := e1
      have e2 : rest = [] := e2
      subst e1 e2
      obtain ⟨a1, a2⟩ := all_cons.mp ha
      obtain ⟨n, en⟩ := many_num c a1
      have hp2 : prp ks := by
        cases ks with
        | nil => trivial
        | cons k' ks => exact hp.2
      rw [of_law ks _ _ hp2 hu a2, en]
      rfl
    · rw [if_neg c] at h ⊢
      have kn : ks = [] := by
        cases ks with
        | nil => rfl
        | cons k' ks => exact absurd hp.1 c
      subst kn
      have h : some ([V.str (SX.S r)], ([] : List Nat)) = some (vs, []) := h
      injection h with h
      injection h with h _
      subst h
      obtain ⟨a1, _⟩ := all_cons.mp ha
      rw [if_neg]
      rintro ⟨rfl, rfl⟩
      obtain ⟨z, e, _, nz⟩ := text_part nk a1
      injection e with e
      exact nz rfl e.symm
end LawK
set_option maxHeartbeats 4000000
namespace LawK
open PySem PySem.Spec PyProof.Rows L2 Ev
theorem lt_one {a b : Nat} : ([a] : List Nat) < [b] ↔ a < b := by
  rw [List.cons_lt_cons_iff]
  exact ⟨fun h => h.elim id fun h => absurd h.2 (List.lt_irrefl []), .inl⟩
theorem le_lo (c : Nat) : (!decide ((Str.mk #[c]).cps.toList < (Str.ofString " ").cps.toList)) = decide (32 ≤ c) := by
  rw [show (Str.ofString " ").cps.toList = [32] by decide +kernel]
  refine Bool.eq_iff_iff.mpr ?_
  rw [Bool.not_eq_true', decide_eq_false_iff_not, decide_eq_true_iff]
  show ¬ ([c] : List Nat) < [32] ↔ _
  rw [lt_one]
  omega
theorem le_hi (c : Nat) : (!decide ((Str.ofString "~").cps.toList < (Str.mk #[c]).cps.toList)) = decide (c ≤ 126) := by
  rw [show (Str.ofString "~").cps.toList = [126] by decide +kernel]
  refine Bool.eq_iff_iff.mpr ?_
  rw [Bool.not_eq_true', decide_eq_false_iff_not, decide_eq_true_iff]
  show ¬ ([126] : List Nat) < [c] ↔ _
  rw [lt_one]
  omega


theorem pe_dead {X : Cx} {e : Expr} : L2.PE X e (fun _ _ _ => False) := ⟨fun pins s σ H Q I q => q.elim⟩
def spRNum : Sp := fun vs H Q _ => ∃ z : Str, vs = [.str z] ∧ sgB z = true ∧ z.length ≤ 16000000 ∧ Q (figV z) H
def spRPart : Sp := fun vs H Q _ => ∃ kd z : Str, vs = [.str kd, .str z] ∧ (kd = kNum ∨ kd = kMany ∨ kd = kWord ∨ kd = kSigns) ∧ sgB z = true ∧ z.length ≤ 16000000 ∧ Q (rdP kd z) H
def spFigs : Sp := fun vs H Q _ => ∃ z : Str, vs = [.str z] ∧ z.length ≤ 16000000 ∧ ∀ H', Same H H' → Q (figV z) H'
def spIsSg : Sp := fun vs H Q _ => ∃ x k, vs = [x] ∧ Kd H x k ∧ Vs x ∧ ∀ H', Same H H' → Q (.bl (sgV x)) H'
theorem fig_log {z : Str} (l : z.length ≤ 9) (d : dgB z = true) : ((figN z : Nat) : Int).natAbs.log2 < 1920 := by
  have h0 : ∀ (l : List Nat) (acc : Nat), (∀ c ∈ l, c ≤ 57) → l.foldl (fun acc c => acc * 10 + (c - 48)) acc + 1 ≤ (acc + 1) * 10 ^ l.length := by
    intro l
    induction l with
    | nil => intro acc _; simp
    | cons c l ih =>
      intro acc h
      rw [List.foldl_cons, List.length_cons, Nat.pow_succ]
      have a := ih (acc * 10 + (c - 48)) fun d hd => h d (List.mem_cons_of_mem _ hd)
      have b := h c List.mem_cons_self
      refine Nat.le_trans a ?_
      rw [Nat.mul_comm (10 ^ l.length) 10, ← Nat.mul_assoc]
      exact Nat.mul_le_mul_right _ (by omega)
  have h : ∀ (l : List Nat), (∀ c ∈ l, c ≤ 57) → PySem.NumText.digitsVal l < 10 ^ l.length := fun l hl => by
    have := h0 l 0 hl
    unfold PySem.NumText.digitsVal
    omega
  have h1 := h (cod z) fun c hc => of_decide_eq_true (Bool.and_eq_true_iff.mp (List.all_eq_true.mp (Bool.and_eq_true_iff.mp d).2 c hc)).2
  have h2 : 10 ^ (cod z).length ≤ 10 ^ 9 := Nat.pow_le_pow_right (by decide) (by rw [cod_len]; exact l)
  have h3 : ((figN z : Nat) : Int).natAbs < 2 ^ 40 := by
    show PySem.NumText.digitsVal (cod z) < _
    omega
  by_cases n0 : ((figN z : Nat) : Int).natAbs = 0
  · rw [n0]
    decide
  · have := (Nat.log2_lt n0).mpr h3
    omega
theorem dig_in (c : Nat) : decide (c ∈ cod (Str.ofString "0123456789")) = (decide (48 ≤ c) && decide (c ≤ 57)) := by
  rw [show cod (Str.ofString "0123456789") = [48, 49, 50, 51, 52, 53, 54, 55, 56, 57] by decide +kernel]
  refine Bool.eq_iff_iff.mpr ?_
  rw [decide_eq_true_iff, Bool.and_eq_true_iff, decide_eq_true_iff, decide_eq_true_iff]
  simp only [List.mem_cons, List.not_mem_nil, or_false]
  omega
section
variable {P : Program} {w : World} {K : PySem.W.Frag} {mg : Str → Option Value} {base : Heap}
abbrev sIsNumber : Stmt := topS 36
theorem scIsNumber : FnScope ["thing", "least", "most"] ["thing", "least", "most"] (defScope sIsNumber) := ⟨rfl, rfl, rfl, by decide +kernel, rfl, by decide +kernel, by decide +kernel⟩
theorem ok_IsNumber {f : Addr} {fd : FuncData} (F : Fun K "_law_is_number" "_law_is_number" sIsNumber f fd)   (T : Glob mg) : FnOk P w K mg base CX0 1 f fd ["thing", "least", "most"] spIn := by
  refine F.ok scIsNumber (fun vs H Q E h => ?_) (fun cdv A outer s H vs Q E hr h => ?_)
  · obtain ⟨x, k, a, b, rfl, _⟩ := h
    rfl
  · refine ⟨_, (pss_one (ps_ret (pe_and (pe_callB call_isi (by rfl) T.isinstance PyProof.Rows.boot_isinstance (pa_cons (pv 0) (pa_cons (pe_bltn (v := .ty "int") (by rfl) T.int (by decide +kernel) rfl) pa_nil))) (pe_and (pe_not (pe_callB call_isi (by rfl) T.isinstance PyProof.Rows.boot_isinstance (pa_cons (pv 0) (pa_cons (pe_bltn (v := .ty "bool") (by rfl) T.bool (by decide +kernel) rfl) pa_nil)))) (pe_one (pe_chain op_le op_le (pv 1) (pv 0) (pv 2))))))), ?_⟩
    obtain ⟨x, k, a, b, rfl, hk, q⟩ := h
    refine ⟨x, rfl, x, .ty "int", .type (Kn.name k), .type "int", kitB k .int, rfl, .ty _, Kd.tyx hk, kit_kn k .int, _, rfl, ?_⟩
    cases hk with
    | int i =>
      refine iteT ⟨.int i, rfl, .int i, .ty "bool", .type (Kn.name .int), .type "bool", kitB .int .bl, rfl, .ty _, Kd.tyx (.int i), kit_kn .int .bl, _, rfl, _, rfl, iteT ?_⟩
      refine ⟨.int a, rfl, .int i, rfl, _, _, rfl, rfl, ?_⟩
      refine ⟨_, rfl, ite2 (fun e => ?_) (fun e => ?_)⟩
      · refine ⟨.int b, rfl, _, _, rfl, rfl, ?_⟩
        have q' : Q (.bl (decide (a ≤ i) && decide (i ≤ b))) H := q
        have e : decide (a ≤ i) = true := e
        rw [e, Bool.true_and] at q'
        exact q'
      · have q' : Q (.bl (decide (a ≤ i) && decide (i ≤ b))) H := q
        have e : decide (a ≤ i) = false := by simpa using e
        rw [e, Bool.false_and] at q'
        have e2 : V.bl (decide (a ≤ i)) = .bl false := by rw [e]
        first
          | exact q'
          | (show Q (V.bl (decide (a ≤ i))) H; rw [e]; exact q')
    | bl c => exact iteT ⟨.bl c, rfl, .bl c, .ty "bool", .type (Kn.name .bl), .type "bool", kitB .bl .bl, rfl, .ty _, Kd.tyx (.bl c), kit_kn .bl .bl, _, rfl, _, rfl, iteF q⟩
    | str z => exact iteF q
    | non => exact iteF q
    | lst e => exact iteF q
    | tup e => exact iteF q
    | dic e => exact iteF q

abbrev sQReadNumber : Stmt := topS 10
theorem scQReadNumber : FnScope ["signs"] ["signs"] (defScope sQReadNumber) := ⟨rfl, rfl, rfl, by decide +kernel, rfl, by decide +kernel, by decide +kernel⟩
theorem ok_QReadNumber {f : Addr} {fd : FuncData} (F : Fun K "_read_number" "_read_number" sQReadNumber f fd) {t9 : Tok} (g9 : mg "MOST_FIGURES" = some (.int 9 t9))  (T : Glob mg) : FnOk P w K mg base CX0 1 f fd ["signs"] spRNum := by
  refine F.ok scQReadNumber (fun vs H Q E h => ?_) (fun cdv A outer s H vs Q E hr h => ?_)
  · obtain ⟨z, rfl, _⟩ := h
    rfl
  · refine ⟨_, (pss_cons (ps_if (PW.pt (pw_or (pt_not (pt_val (pe_bm0 PySem.F.plainAttrs_str PySem.F.slot_str_isdigit PySem.F.type_str_isdigit mt_isdigit (pv 0)))) (pw_or (pt_cmpR op_gt (pe_callB call_lenZ (by rfl) T.len PySem.boot_len (pa_cons (pv 0) pa_nil)) (pe_glob (v := .int 9) (by rfl) g9 ⟨_, rfl⟩) (nomark _)) (pw_or1 (pt_cmpR op_ne (pe_callTy call_str_int (by rfl) T.str (by decide +kernel) (pa_cons (pe_callTy call_int_str (by rfl) T.int (by decide +kernel) (pa_cons (pv 0) pa_nil)) pa_nil)) (pv 0) (nomark _))))))
      (pss_one (ps_ret pe_non))
      pss_nil)
      (pss_one (ps_ret (pe_callTy call_int_str (by rfl) T.int (by decide +kernel) (pa_cons (pv 0) pa_nil))))), ?_⟩
    obtain ⟨z, rfl, hz, lz, q⟩ := h
    have sz : sizeLine = 16777216 := sizeLine_eq
    refine ⟨.str z, rfl, rfl, z, rfl, rfl, trivial, _, rfl, ?_⟩
    rw [isdigit_sg hz]
    cases d : dgB z with
    | false =>
      have e : figV z = .non := if_neg fun h => by rw [d] at h; exact absurd h.1 (by decide)
      rw [e] at q
      exact iteT q
    | true =>
      refine iteF ⟨.str z, rfl, _, rfl, by omega, _, _, rfl, rfl, _, rfl, ite2 (fun c => ?_) (fun c => ?_)⟩
      · have c := of_decide_eq_true c
        have e : figV z = .non := if_neg fun h => by omega
        rw [e] at q
        exact q
      · have l9 : z.length ≤ 9 := by
          have c : ¬ decide ((z.length : Int) > 9) = true := c
          rw [decide_eq_true_iff] at c
          omega
        refine ⟨.str z, rfl, z, _, rfl, fig_int d (by omega), by omega, _, rfl, fig_log l9 d, .str z, rfl, rfl, _, rfl, ite2 (fun c => ?_) (fun c => ?_)⟩
        · have c : ¬ numZ (figN z : Nat) = z := fun h => by
            rw [show V.str ((toString ((figN z : Nat) : Int) : String) : Str) = V.str z from congrArg V.str h, decide_eq_true rfl] at c
            exact absurd c (by decide)
          have e : figV z = .non := if_neg fun h => c h.2.2
          rw [e] at q
          exact q
        · have c : numZ (figN z : Nat) = z := V.str.inj (Decidable.of_not_not fun h => c (by rw [show decide (V.str ((toString ((figN z : Nat) : Int) : String) : Str) = V.str z) = false from decide_eq_false h]; rfl))
          have e : figV z = .int (figN z : Nat) := if_pos ⟨d, l9, c⟩
          rw [e] at q
          exact ⟨.str z, rfl, z, _, rfl, fig_int d (by omega), by omega, q⟩
abbrev sQReadPart : Stmt := topS 11
theorem scQReadPart : FnScope ["kind", "signs"] ["kind", "signs"] (defScope sQReadPart) := ⟨rfl, rfl, rfl, by decide +kernel, rfl, by decide +kernel, by decide +kernel⟩
theorem ok_QReadPart {f : Addr} {fd : FuncData} (F : Fun K "_read_part" "_read_part" sQReadPart f fd)  {fQReadNumber : Addr} {fdQReadNumber : FuncData} (DQReadNumber : Dk P w K mg base "_read_number" sQReadNumber ["signs"] 1 spRNum fQReadNumber fdQReadNumber) (T : Glob mg) : FnOk P w K mg base CX0 2 f fd ["kind", "signs"] spRPart := by
  refine F.ok scQReadPart (fun vs H Q E h => ?_) (fun cdv A outer s H vs Q E hr h => ?_)
  · obtain ⟨kd, z, rfl, _⟩ := h
    rfl
  · refine ⟨_, (pss_cons (ps_if (PW.pt (pw_or (pt_cmpR op_eq (pv 0) pe_str (nomark _)) (pw_or1 (pt_cmpR op_eq (pv 0) pe_str (nomark _)))))
      (pss_one (ps_ret (pe_call DQReadNumber.ok (hr.mono (by decide)) (by rfl) DQReadNumber.g DQReadNumber.F.kp DQReadNumber.b .nil pass0 (pa_cons (pv 1) pa_nil))))
      pss_nil)
      (pss_cons (ps_if (PW.pt (pw_or (PW.pt (pw_and (pt_cmpR op_eq (pv 0) pe_str (nomark _)) (pw_and1 (pt_not (pt_val pe_dead))))) (pw_or1 (PW.pt (pw_and (pt_cmpR op_eq (pv 0) pe_str (nomark _)) (pw_and1 (pt_cmpR op_eq (pv 1) pe_str (nomark _))))))))
      (pss_one (ps_ret pe_non))
      pss_nil)
      (pss_one (ps_ret (pv 1))))), ?_⟩
    obtain ⟨kd, z, rfl, hk, hz, lz, q⟩ := h
    have num : (kd = kNum ∨ kd = kMany) → Q (rdP kd z) H → Q (figV z) H := fun c q => by rw [rdP_num c] at q; exact q
    refine ⟨.str kd, rfl, rfl, _, rfl, ite2 (fun e => ?_) (fun e => ?_)⟩
    · have e := V.str.inj (of_decide_eq_true e)
      exact ⟨.str z, rfl, z, rfl, hz, lz, num (.inl e) q⟩
    refine ⟨.str kd, rfl, rfl, _, rfl, ite2 (fun e2 => ?_) (fun e2 => ?_)⟩
    · have e2 := V.str.inj (of_decide_eq_true e2)
      exact ⟨.str z, rfl, z, rfl, hz, lz, num (.inr e2) q⟩
    have n1 : ¬ (kd = kNum ∨ kd = kMany) := fun h => h.elim (fun h => e (decide_eq_true (congrArg V.str h))) fun h => e2 (decide_eq_true (congrArg V.str h))
    dsimp only [tNext, tDrop]
    have n2 : ¬ V.str kd = V.str (Str.ofString "name") := fun h => by
      have h := V.str.inj h
      rcases hk with rfl | rfl | rfl | rfl
      · exact absurd h (by decide +kernel)
      · exact absurd h (by decide +kernel)
      · exact absurd h (by decide +kernel)
      · exact absurd h (by decide +kernel)
    refine ⟨.str kd, rfl, rfl, _, rfl, ?_⟩
    rw [decide_eq_false n2]
    refine iteF (iteF ⟨.str kd, rfl, rfl, _, rfl, ite2 (fun e3 => ?_) (fun e3 => ?_)⟩)
    · have e3 := V.str.inj (of_decide_eq_true e3)
      refine ⟨.str z, rfl, rfl, _, rfl, ite2 (fun e4 => ?_) (fun e4 => ?_)⟩
      · have e4 := V.str.inj (of_decide_eq_true e4)
        have : rdP kd z = .non := by unfold rdP; rw [if_neg n1, if_pos ⟨e3, e4⟩]
        rw [this] at q
        exact q
      · have : rdP kd z = .str z := by unfold rdP; rw [if_neg n1, if_neg fun h => e4 (decide_eq_true (congrArg V.str h.2))]
        rw [this] at q
        exact ⟨.str z, rfl, q⟩
    · have : rdP kd z = .str z := by unfold rdP; rw [if_neg n1, if_neg fun h => e3 (decide_eq_true (congrArg V.str h.1))]
      rw [this] at q
      exact iteF ⟨.str z, rfl, q⟩
abbrev sFigures : Stmt := topS 39
theorem scFigures : FnScope ["word", "sign"] ["word"] (defScope sFigures) := ⟨rfl, rfl, rfl, by decide +kernel, rfl, by decide +kernel, by decide +kernel⟩
theorem ok_Figures {f : Addr} {fd : FuncData} (F : Fun K "_law_figures" "_law_figures" sFigures f fd)   (T : Glob mg) : FnOk P w K mg base CX0 1 f fd ["word"] spFigs := by
  refine F.ok scFigures (fun vs H Q E h => ?_) (fun cdv A outer s H vs Q E hr h => ?_)
  · obtain ⟨z, rfl, _⟩ := h
    rfl
  · refine ⟨_, (pss_cons (ps_if (PW.pt (pw_or (pt_cmpR op_eq (pe_callB call_lenZ (by rfl) T.len PySem.boot_len (pa_cons (pv 0) pa_nil)) pe_int (nomark _)) (pw_or (pt_cmpR op_gt (pe_callB call_lenZ (by rfl) T.len PySem.boot_len (pa_cons (pv 0) pa_nil)) pe_int (nomark _)) (pw_or1 (pt_not (pt_val (pe_callB (cr_all rfl) (by rfl) T.all (by decide +kernel) (pa_cons (pe_lc (own := [("sign", 1)]) (g := gName 1) (by rfl) scFigures.nd (pi_str (pv 0)) (blkOk_by (N := ["word", "sign"]) (sc := defScope sFigures) (by decide +kernel)) (fun _ _ _ _ _ => pg_name (i := 1) scFigures.nd rfl (.inl rfl)) (fun _ _ _ _ _ => pts_nil) (fun _ _ _ _ _ => (pe_cmpR op_inS (pv 1) pe_str rfl))) pa_nil))))))))
      (pss_one (ps_ret pe_non))
      pss_nil)
      (pss_cons (ps_if (pt_cmpR op_ne (pe_callTy call_str_int (by rfl) T.str (by decide +kernel) (pa_cons (pe_callTy call_int_str (by rfl) T.int (by decide +kernel) (pa_cons (pv 0) pa_nil)) pa_nil)) (pv 0) (nomark _))
      (pss_one (ps_ret pe_non))
      pss_nil)
      (pss_one (ps_ret (pe_callTy call_int_str (by rfl) T.int (by decide +kernel) (pa_cons (pv 0) pa_nil)))))), ?_⟩
    obtain ⟨z, rfl, lz, q⟩ := h
    have sz : sizeLine = 16777216 := sizeLine_eq
    refine ⟨.str z, rfl, _, rfl, by omega, rfl, _, rfl, ite2 (fun e => ?_) (fun e => ?_)⟩
    · have e := V.int.inj (of_decide_eq_true e)
      have : figV z = .non := if_neg fun h => by
        have := of_decide_eq_true (Bool.and_eq_true_iff.mp h.1).1
        omega
      rw [this] at q
      exact q H (Same.refl H)
    have l0 : (z.length : Int) ≠ 0 := fun h => e (decide_eq_true (congrArg V.int h))
    refine ⟨.str z, rfl, _, rfl, by omega, _, _, rfl, rfl, _, rfl, ite2 (fun e => ?_) (fun e => ?_)⟩
    · have e := of_decide_eq_true e
      have : figV z = .non := if_neg fun h => by omega
      rw [this] at q
      exact q H (Same.refl H)
    have l9 : z.length ≤ 9 := by
      have c : ¬ decide ((z.length : Int) > 9) = true := e
      rw [decide_eq_true_iff] at c
      omega
    refine ⟨.str z, rfl, z, rfl, fun D nD => lc_it walk_str (fun j H' => Same H H' ∧ H' D = some (.lst (((z.cps.toList.take j).map fun c => decide (48 ≤ c) && decide (c ≤ 57)).map V.bl))) ⟨Same.new nD, upd_same⟩ (fun _ _ _ _ => trivial) ?_ ?_⟩
    · rintro j v H1 H2 hj ⟨k1, hD⟩ ⟨rfl, c, ec, rfl⟩
      have ec2 : z.cps.toList[j]? = some c := by rw [Array.getElem?_toList]; exact ec
      refine ⟨rfl, .str ⟨#[c]⟩, rfl, c, _, rfl, rfl, ?_⟩
      rw [dig_in]
      refine ⟨_, hD, ?_, sameAt k1 nD, ?_⟩
      · rw [List.length_map, List.length_map, List.length_take]
        have : z.cps.toList.length = z.length := rfl
        omega
      · rw [upd_same, List.take_succ, ec2, Option.toList_some, List.map_append, List.map_append]
        rfl
    · rintro H1 ⟨k1, hD⟩
      have lc : z.cps.toList.length = z.cps.size := rfl
      rw [List.take_of_length_le (Nat.le_of_eq lc)] at hD
      refine ⟨D, _, rfl, sq_of hD, ?_⟩
      have da : dgB z = (((cod z).map fun c => decide (48 ≤ c) && decide (c ≤ 57)).all id) := by
        unfold dgB
        rw [decide_eq_true (by omega), Bool.true_and, List.all_map]
        rfl
      have q := q H1 k1
      rw [← da]
      cases d : dgB z with
      | false =>
        have e : figV z = .non := if_neg fun h => by rw [d] at h; exact absurd h.1 (by decide)
        rw [e] at q
        exact ⟨_, rfl, iteT q⟩
      | true =>
        refine ⟨_, rfl, iteF ?_⟩
        dsimp only [tNext, tDrop]
        refine ⟨.str z, rfl, z, _, rfl, fig_int d (by omega), by omega, _, rfl, fig_log l9 d, .str z, rfl, rfl, _, rfl, ite2 (fun c => ?_) (fun c => ?_)⟩
        · have c : ¬ numZ (figN z : Nat) = z := fun h => by
            rw [show V.str ((toString ((figN z : Nat) : Int) : String) : Str) = V.str z from congrArg V.str h, decide_eq_true rfl] at c
            exact absurd c (by decide)
          have e : figV z = .non := if_neg fun h => c h.2.2
          rw [e] at q
          exact q
        · have c : numZ (figN z : Nat) = z := V.str.inj (Decidable.of_not_not fun h => c (by rw [show decide (V.str ((toString ((figN z : Nat) : Int) : String) : Str) = V.str z) = false from decide_eq_false h]; rfl))
          have e : figV z = .int (figN z : Nat) := if_pos ⟨d, l9, c⟩
          rw [e] at q
          exact ⟨.str z, rfl, z, _, rfl, fig_int d (by omega), by omega, q⟩
abbrev sAreSigns : Stmt := topS 37
theorem scAreSigns : FnScope ["thing", "sign"] ["thing"] (defScope sAreSigns) := ⟨rfl, rfl, rfl, by decide +kernel, rfl, by decide +kernel, by decide +kernel⟩
theorem ok_AreSigns {f : Addr} {fd : FuncData} (F : Fun K "_law_are_signs" "_law_are_signs" sAreSigns f fd)   (T : Glob mg) : FnOk P w K mg base CX0 1 f fd ["thing"] spIsSg := by
  refine F.ok scAreSigns (fun vs H Q E h => ?_) (fun cdv A outer s H vs Q E hr h => ?_)
  · obtain ⟨x, k, rfl, _⟩ := h
    rfl
  · refine ⟨_, (pss_one (ps_ret (pe_and (pe_callB call_isi (by rfl) T.isinstance PyProof.Rows.boot_isinstance (pa_cons (pv 0) (pa_cons (pe_bltn (v := .ty "str") (by rfl) T.str (by decide +kernel) rfl) pa_nil))) (pe_one (pe_callB (cr_all rfl) (by rfl) T.all (by decide +kernel) (pa_cons (pe_lc (own := [("sign", 1)]) (g := gName 1) (by rfl) scAreSigns.nd (pi_str (pv 0)) (blkOk_by (N := ["thing", "sign"]) (sc := defScope sAreSigns) (by decide +kernel)) (fun _ _ _ _ _ => pg_name (i := 1) scAreSigns.nd rfl (.inl rfl)) (fun _ _ _ _ _ => pts_nil) (fun _ _ _ _ _ => (pe_chain op_le_str op_le_str pe_str (pv 1) pe_str))) pa_nil)))))), ?_⟩
    obtain ⟨x, k, rfl, hk, hz, q⟩ := h
    have sz : sizeLine = 16777216 := sizeLine_eq
    refine ⟨x, rfl, x, .ty "str", .type (Kn.name k), .type "str", kitB k .str, rfl, .ty _, Kd.tyx hk, kit_kn k .str, _, rfl, ?_⟩
    cases hk with
    | str z =>
      have lz := hz z rfl
      refine iteT ?_
      refine ⟨.str z, rfl, z, rfl, fun D nD => lc_it walk_str (fun j H' => Same H H' ∧ H' D = some (.lst (((z.cps.toList.take j).map sgC).map V.bl))) ⟨Same.new nD, upd_same⟩ (fun _ _ _ _ => trivial) ?_ ?_⟩
      · rintro j v H1 H2 hj ⟨k1, hD⟩ ⟨rfl, c, ec, rfl⟩
        have ec2 : z.cps.toList[j]? = some c := by rw [Array.getElem?_toList]; exact ec
        have put : upd H2 D (.lst (((z.cps.toList.take j).map sgC).map V.bl ++ [V.bl (sgC c)])) D = some (.lst (((z.cps.toList.take (j + 1)).map sgC).map V.bl)) := by
          rw [upd_same, List.take_succ, ec2, Option.toList_some, List.map_append, List.map_append]
          rfl
        have few : (((z.cps.toList.take j).map sgC).map V.bl).length < sizeLine := by
          rw [List.length_map, List.length_map, List.length_take]
          have : z.cps.toList.length = z.length := rfl
          omega
        refine ⟨rfl, .str ⟨#[c]⟩, rfl, _, _, rfl, rfl, ?_⟩
        rw [le_lo]
        refine ⟨_, rfl, ite2 (fun e => ?_) (fun e => ?_)⟩
        · refine ⟨_, _, rfl, rfl, ?_⟩
          rw [le_hi]
          have es : sgC c = decide (c ≤ 126) := by unfold sgC; rw [e, Bool.true_and]
          rw [← es]
          exact ⟨_, hD, few, sameAt k1 nD, put⟩
        · have es : sgC c = false := by unfold sgC; rw [show decide (32 ≤ c) = false by simpa using e, Bool.false_and]
          rw [es] at put
          exact ⟨_, hD, few, sameAt k1 nD, put⟩
      · rintro H1 ⟨k1, hD⟩
        have hD : H1 D = some (.lst ((z.cps.toList.map sgC).map V.bl)) := by
          rw [hD, List.take_of_length_le (by rw [Array.length_toList]; exact Nat.le_refl _)]
        refine ⟨D, z.cps.toList.map sgC, rfl, sq_of hD, ?_⟩
        have e2 : (z.cps.toList.map sgC).all id = sgB z := by
          rw [List.all_map]
          rfl
        rw [e2]
        exact q H1 k1
    | int i => exact iteF (q H (Same.refl H))
    | bl c => exact iteF (q H (Same.refl H))
    | non => exact iteF (q H (Same.refl H))
    | lst e => exact iteF (q H (Same.refl H))
    | tup e => exact iteF (q H (Same.refl H))
    | dic e => exact iteF (q H (Same.refl H))
end
end LawK
set_option maxHeartbeats 4000000
namespace Ev
open PySem PySem.Spec PyProof.Rows L2
/-- a dict of the module as one with keys -/
abbrev kdK (kvs : List (Str × V)) : List (Key × V) := kvs.map fun kv => (Sum.inr kv.1, kv.2)
theorem Ents.pairs {P : Program} {w : World} {es : List DictEntry} {kvs : List (Str × V)} (h : Ents w.params es kvs) : ∃ vs, Pairs (mixKind P w) es vs ∧ KV (kdK kvs) vs := by
  induction h with
  | nil => exact ⟨[], .nil, .nil⟩
  | @cons x t u v es kvs r h ih =>
    obtain ⟨vs, h1, h2⟩ := ih
    exact ⟨(Sum.inr x, u) :: vs, .cons (mixKind_str P w x t) rfl h1, .cons ⟨rfl, r⟩ h2⟩
theorem kv_keys : ∀ {xs : List (Key × V)} {vs : List (Key × Value)}, KV xs vs → vs.map (·.1) = xs.map (·.1)
  | _, _, .nil => rfl
  | _, _, .cons h t => by
    rw [List.map_cons, List.map_cons, kv_keys t, h.1]
theorem nodup_k {kvs : List (Str × V)} (h : (kvs.map (·.1)).Nodup) : ((kdK kvs).map (·.1)).Nodup := by
  have e : (kdK kvs).map (·.1) = (kvs.map (·.1)).map Sum.inr := by
    rw [List.map_map, List.map_map]
    rfl
  rw [e]
  exact (List.pairwise_map.mpr (h.imp fun n q => n (Sum.inr.inj q)))
theorem KD.dictOf {P : Program} {w : World} {K : PySem.W.Frag} {h : Heap} {a : Addr} {kvs : List (Str × V)} (I : K.In h) (d : KD K w a kvs) (n : (kvs.map (·.1)).Nodup) : ∃ vs, KV (kdK kvs) vs ∧ h.DictOf (mixKind P w) a vs := by
  obtain ⟨⟨es, m, hl, en⟩, _⟩ := d
  obtain ⟨vs, h1, h2⟩ := en.pairs (P := P)
  refine ⟨vs, h2, _, es.toArray, m, I _ _ hl, ⟨rfl, rfl, rfl⟩, rfl, fun e he => ?_, by simpa using h1, by rw [kv_keys h2]; exact nodup_k n⟩
  obtain ⟨x, t, e1, e2⟩ := en.lit.all e (by simpa using he)
  exact ⟨Sum.inr x, by rw [e1]; exact mixKind_str P w x t, e2⟩
theorem call_dictKD {X : Cx} : CallR X (.type "dict") (fun xs H Q => ∃ a kvs, xs = [.ref a] ∧ KD X.K X.w a kvs ∧ (kvs.map (·.1)).Nodup ∧ kvs.length ≤ sizeLine ∧ ∀ p, H p = none → Q (.ref p) (upd H p (.dK (kdK kvs)))) := by
  intro pins s σ H xs us Q I rs h
  obtain ⟨a, kvs, rfl, d, n, z, h⟩ := h
  cases rs with
  | cons r1 rs =>
    cases rs
    cases r1
    obtain ⟨vs, rel, dd⟩ := d.dictOf (P := X.prog) I.kIn n
    have z' : (kdK kvs).length ≤ sizeLine := by rw [List.length_map]; exact z
    refine kt_call_dict d.ne dd (by rw [← rel.length]; exact z') fun h' dd' hs => ?_
    refine ⟨.ref s.heap.objs.size, _, I.laid (a := s.heap.objs.size) (o := .dK (kdK kvs)) (t' := s.toks) (fun b q hq => ?_) (Nat.le_refl _) (dk_new z' (beq_eq_false_iff_ne.mpr (Ne.symm (Nat.ne_of_lt I.big))) rel dd'), rfl, h _ (I.hok.fresh (Nat.le_refl _))⟩
    have below := Heap.lt_size hq
    have same := hs.2 b (Nat.ne_of_lt below)
    exact same.trans (Heap.get?_push_of_some _ hq)
end Ev
set_option maxHeartbeats 4000000
/-! zip of any two things whose iterators can be asked: tuples and texts. -/
namespace Ev
open PySem PySem.Spec PyProof.Rows L2
section
variable {prog : Program} {w : World}
/-- how the iterator at it goes on: n items, the i-th told by G, its state at turn i by S, which hangs on the objects of fp alone -/
structure NextBy (prog : Program) (w : World) (it : Addr) (fp : List Addr) (n : Nat) (G : Nat → Value → Prop) (S : Nat → Heap → Prop) : Prop where
  mem : it ∈ fp
  keep : ∀ i h h', S i h → (∀ b ∈ fp, ∀ o, h.get? b = some o → h'.get? b = some o) → S i h'
  nxt : ∀ (A : Around) i (s : Shared) (Q : Value → Shared → Prop) (E : Value → Shared → Prop), i < n → S i s.heap →
    (∀ v h' tk, G i v → S (i + 1) h' → Heap.SameBut it s.heap h' → Q v { s with heap := h', toks := tk }) → wpAny (model prog w) A (Builtin.SmallTypes.nextOf (.ref it)) Q E s
  fin : ∀ (A : Around) i (s : Shared) (Q : Value → Shared → Prop) (E : Value → Shared → Prop), A.handled = none → n ≤ i → S i s.heap → (∀ h' e, Heap.ExtBut it s.heap h' → (∃ o, h'.get? e = some o ∧ o.cls = .type "StopIteration") → E (.ref e) { s with heap := h' }) → wpAny (model prog w) A (Builtin.SmallTypes.nextOf (.ref it)) Q E s
theorem nb_tup {it l : Addr} (ne : l ≠ it) (xs : Array Value) : NextBy prog w it [it, l] xs.size (fun i v => xs[i]? = some v) (fun i h => h.IsTupleIter it l i ∧ h.IsTuple l xs) where
  mem := List.mem_cons_self
  keep := fun i h h' st k => ⟨st.1.at fun o e => k it (by simp) o e, st.2.at fun o e => k l (by simp) o e⟩
  nxt := fun A i s Q E hi st q => RZ.nextOf_tuple_item st.1 st.2 (x := xs[i]) (by simp [hi]) fun h' a b => q _ h' s.toks (by simp [hi]) ⟨a, st.2.extBut b.extBut ne⟩ b
  fin := fun A i s Q E hh hi st q => RZ.nextOf_tuple_end hh st.1 st.2 (Array.getElem?_eq_none hi) q
theorem nb_list {it l : Addr} (ne : l ≠ it) (xs : Array Value) : NextBy prog w it [it, l] xs.size (fun i v => xs[i]? = some v) (fun i h => h.IsListIter it l i ∧ h.IsList l xs) where
  mem := List.mem_cons_self
  keep := fun i h h' st k => ⟨st.1.at fun o e => k it (by simp) o e, st.2.at fun o e => k l (by simp) o e⟩
  nxt := fun A i s Q E hi st q => wpAny_nextOf_list_item st.1 st.2 (x := xs[i]) (by simp [hi]) fun h' a b => q _ h' s.toks (by simp [hi]) ⟨a, st.2.extBut b.extBut ne⟩ b
  fin := fun A i s Q E hh hi st q => wpAny_nextOf_list_end hh st.1 st.2 (Array.getElem?_eq_none hi) q
theorem next_ascii {A : Around} {E : Value → Shared → Prop} {s : Shared} {it : Addr} {x : Str} {t : Tok} {i c : Nat} {Q : Value → Shared → Prop} (st : s.heap.IsStrIter it "str_ascii_iterator" x t i) (hx : x.cps[i]? = some c)
    (q : ∀ h', h'.IsStrIter it "str_ascii_iterator" x t (i + 1) → Heap.SameBut it s.heap h' → Q (.str ⟨#[c]⟩ s.toks) { s with heap := h', toks := s.toks + 1 }) : wpAny (model prog w) A (Builtin.SmallTypes.nextOf (.ref it)) Q E s := by
  obtain ⟨o, e1, e2, e3⟩ := id st
  unfold Builtin.SmallTypes.nextOf; refine wpAny_bind (wpAny_callSpecial?_slot (name := "__next__") st.typeIs F.slot_str_ascii_iterator_next (wpAny_call_entry F.slot_str_ascii_iterator_next st.typeIs F.entry_str_ascii_iterator_next ?_ (F.args_str_ascii_iterator_next_1 _)))
  show wpAny _ _ (field (.ref it) 0 >>= fun _ => _) _ _ s; apply wpAny_bind; refine wpAny_field e1 e3 (x := .str x t) rfl ?_
  show wpAny _ _ (field (.ref it) 1 >>= fun _ => _) _ _ s; apply wpAny_bind; refine wpAny_field e1 e3 (x := .int i 0) rfl ?_
  simp only [Int.toNat_natCast]; rw [hx]; apply wpAny_bind; refine wpAny_setField e1 e3 (by simp) ?_
  apply wpAny_bind; refine wpAny_mkStr (wpAny_pure ⟨_, rfl, wpAny_pure (q _ ⟨_, Heap.get?_update_self _ e1 (Obj.isFreed_of_fields (Obj.data_mapFields e3 _)), (Obj.cls_mapFields ..).trans e2, ?_⟩ (Heap.SameBut.update ..))⟩) (by show 1 ≤ sizeLine; decide)
  rw [Obj.data_mapFields e3] <;> simp [rawInt]
theorem last_ascii {A : Around} {E : Value → Shared → Prop} {s : Shared} {it : Addr} {x : Str} {t : Tok} {i : Nat} {Q : Value → Shared → Prop} (hh : A.handled = none) (st : s.heap.IsStrIter it "str_ascii_iterator" x t i) (hx : x.cps[i]? = none)
    (q : ∀ h' e, Heap.ExtBut it s.heap h' → (∃ o, h'.get? e = some o ∧ o.cls = .type "StopIteration") → E (.ref e) { s with heap := h' }) : wpAny (model prog w) A (Builtin.SmallTypes.nextOf (.ref it)) Q E s := by
  obtain ⟨o, e1, e2, e3⟩ := id st
  unfold Builtin.SmallTypes.nextOf; refine wpAny_bind (wpAny_callSpecial?_slot (name := "__next__") st.typeIs F.slot_str_ascii_iterator_next (wpAny_call_entry F.slot_str_ascii_iterator_next st.typeIs F.entry_str_ascii_iterator_next ?_ (F.args_str_ascii_iterator_next_1 _)))
  show wpAny _ _ (field (.ref it) 0 >>= fun _ => _) _ _ s; apply wpAny_bind; refine wpAny_field e1 e3 (x := .str x t) rfl ?_
  show wpAny _ _ (field (.ref it) 1 >>= fun _ => _) _ _ s; apply wpAny_bind; refine wpAny_field e1 e3 (x := .int i 0) rfl ?_
  simp only [Int.toNat_natCast]; rw [hx]; apply wpAny_bind; apply wpAny_rule; apply wpAny_bind; refine wpAny_setField e1 e3 (by simp) ?_
  apply wpAny_bind; apply wpAny_letGo; show wpAny _ _ (newExc (.type "StopIteration") [] >>= fun _ => _) _ _ _; apply wpAny_bind; simp only [newExc, newTuple]
  apply wpAny_bind; refine wpAny_newObj_type ?_ (by size_fits); refine wpAny_bind (m := firstArgMember _ _) (wpAny_of_eq (a := .none) (by first | rfl | (simp only [firstArgMember]; rfl)) ?_)
  refine wpAny_newObj_type ?_ (by size_fits); simp only [raiseNew]; apply wpAny_bind; apply wpAny_handled; first | rw [show A.in1.handled = none from hh] | rw [hh]
  refine wpAny_bind (wpAny_pure (wpAny_throw ?_)); exact q _ _ (((Heap.SameBut.update ..).extBut.push _).push _) ⟨_, Heap.get?_push_size _ rfl, rfl⟩
theorem nb_ascii {it : Addr} (x : Str) (t : Tok) : NextBy prog w it [it] x.cps.size (SignAt x) (fun i h => h.IsStrIter it "str_ascii_iterator" x t i) where
  mem := List.mem_cons_self
  keep := fun i h h' st k => let ⟨o, e, r⟩ := st; ⟨o, k it (by simp) o e, r⟩
  nxt := fun A i s Q E hi st q => next_ascii st (c := x.cps[i]) (by simp [hi]) fun h' a b => q _ h' _ ⟨_, _, by simp [hi], rfl⟩ a b
  fin := fun A i s Q E hh hi st q => last_ascii hh st (Array.getElem?_eq_none hi) q
theorem next_wide {A : Around} {E : Value → Shared → Prop} {s : Shared} {it : Addr} {x : Str} {t : Tok} {i c : Nat} {Q : Value → Shared → Prop} (st : s.heap.IsStrIter it "str_iterator" x t i) (hx : x.cps[i]? = some c)
    (q : ∀ h', h'.IsStrIter it "str_iterator" x t (i + 1) → Heap.SameBut it s.heap h' → Q (.str ⟨#[c]⟩ s.toks) { s with heap := h', toks := s.toks + 1 }) : wpAny (model prog w) A (Builtin.SmallTypes.nextOf (.ref it)) Q E s := by
  obtain ⟨o, e1, e2, e3⟩ := id st
  unfold Builtin.SmallTypes.nextOf; refine wpAny_bind (wpAny_callSpecial?_slot (name := "__next__") st.typeIs F.slot_str_iterator_next (wpAny_call_entry F.slot_str_iterator_next st.typeIs F.entry_str_iterator_next ?_ (F.args_str_iterator_next_1 _)))
  show wpAny _ _ (field (.ref it) 0 >>= fun _ => _) _ _ s; apply wpAny_bind; refine wpAny_field e1 e3 (x := .str x t) rfl ?_
  show wpAny _ _ (field (.ref it) 1 >>= fun _ => _) _ _ s; apply wpAny_bind; refine wpAny_field e1 e3 (x := .int i 0) rfl ?_
  simp only [Int.toNat_natCast]; rw [hx]; apply wpAny_bind; refine wpAny_setField e1 e3 (by simp) ?_
  apply wpAny_bind; refine wpAny_mkStr (wpAny_pure ⟨_, rfl, wpAny_pure (q _ ⟨_, Heap.get?_update_self _ e1 (Obj.isFreed_of_fields (Obj.data_mapFields e3 _)), (Obj.cls_mapFields ..).trans e2, ?_⟩ (Heap.SameBut.update ..))⟩) (by show 1 ≤ sizeLine; decide)
  rw [Obj.data_mapFields e3] <;> simp [rawInt]
theorem last_wide {A : Around} {E : Value → Shared → Prop} {s : Shared} {it : Addr} {x : Str} {t : Tok} {i : Nat} {Q : Value → Shared → Prop} (hh : A.handled = none) (st : s.heap.IsStrIter it "str_iterator" x t i) (hx : x.cps[i]? = none)
    (q : ∀ h' e, Heap.ExtBut it s.heap h' → (∃ o, h'.get? e = some o ∧ o.cls = .type "StopIteration") → E (.ref e) { s with heap := h' }) : wpAny (model prog w) A (Builtin.SmallTypes.nextOf (.ref it)) Q E s := by
  obtain ⟨o, e1, e2, e3⟩ := id st
  unfold Builtin.SmallTypes.nextOf; refine wpAny_bind (wpAny_callSpecial?_slot (name := "__next__") st.typeIs F.slot_str_iterator_next (wpAny_call_entry F.slot_str_iterator_next st.typeIs F.entry_str_iterator_next ?_ (F.args_str_iterator_next_1 _)))
  show wpAny _ _ (field (.ref it) 0 >>= fun _ => _) _ _ s; apply wpAny_bind; refine wpAny_field e1 e3 (x := .str x t) rfl ?_
  show wpAny _ _ (field (.ref it) 1 >>= fun _ => _) _ _ s; apply wpAny_bind; refine wpAny_field e1 e3 (x := .int i 0) rfl ?_
  simp only [Int.toNat_natCast]; rw [hx]; apply wpAny_bind; apply wpAny_rule; apply wpAny_bind; refine wpAny_setField e1 e3 (by simp) ?_
  apply wpAny_bind; apply wpAny_letGo; show wpAny _ _ (newExc (.type "StopIteration") [] >>= fun _ => _) _ _ _; apply wpAny_bind; simp only [newExc, newTuple]
  apply wpAny_bind; refine wpAny_newObj_type ?_ (by size_fits); refine wpAny_bind (m := firstArgMember _ _) (wpAny_of_eq (a := .none) (by first | rfl | (simp only [firstArgMember]; rfl)) ?_)
  refine wpAny_newObj_type ?_ (by size_fits); simp only [raiseNew]; apply wpAny_bind; apply wpAny_handled; first | rw [show A.in1.handled = none from hh] | rw [hh]
  refine wpAny_bind (wpAny_pure (wpAny_throw ?_)); exact q _ _ (((Heap.SameBut.update ..).extBut.push _).push _) ⟨_, Heap.get?_push_size _ rfl, rfl⟩
theorem nb_wide {it : Addr} (x : Str) (t : Tok) : NextBy prog w it [it] x.cps.size (SignAt x) (fun i h => h.IsStrIter it "str_iterator" x t i) where
  mem := List.mem_cons_self
  keep := fun i h h' st k => let ⟨o, e, r⟩ := st; ⟨o, k it (by simp) o e, r⟩
  nxt := fun A i s Q E hi st q => next_wide st (c := x.cps[i]) (by simp [hi]) fun h' a b => q _ h' _ ⟨_, _, by simp [hi], rfl⟩ a b
  fin := fun A i s Q E hh hi st q => last_wide hh st (Array.getElem?_eq_none hi) q
structure ZA (z TI TO i1 i2 : Addr) (f1 f2 : List Addr) : Prop where
  a : TI ≠ z
  b : TO ≠ z
  c : TI ≠ TO
  z1 : z ∉ f1
  z2 : z ∉ f2
  t1 : TI ∉ f1
  t2 : TI ∉ f2
  o1 : TO ∉ f1
  o2 : TO ∉ f2
  x1 : i1 ∉ f2
  x2 : i2 ∉ f1
variable {A : Around} {E : Value → Shared → Prop} {s : Shared} {z TI TO i1 i2 : Addr} {f1 f2 : List Addr} {n1 n2 : Nat} {G1 G2 : Nat → Value → Prop} {S1 S2 : Nat → Heap → Prop}
theorem NextBy.off {it : Addr} {fp : List Addr} {n : Nat} {G : Nat → Value → Prop} {S : Nat → Heap → Prop} (N : NextBy prog w it fp n G S) {i : Nat} {h h' : Heap} {q : Addr} (st : S i h) (k : Heap.SameBut q h h') (n : q ∉ fp) : S i h' :=
  N.keep i h h' st fun b hb o e => k.extBut b o (fun z => n (by rw [← z]; exact hb)) e
theorem zs_item (N1 : NextBy prog w i1 f1 n1 G1 S1) (N2 : NextBy prog w i2 f2 n2 G2 S2) (D : ZA z TI TO i1 i2 f1 f2) {a b : Value} {k : Nat} {Q : Value → Shared → Prop}
    (hz : IsZip s.heap z TI TO .none) (hI : IsPair s.heap TI (.ref i1) (.ref i2)) (hO : IsPair s.heap TO a b) (h1 : S1 k s.heap) (h2 : S2 k s.heap) (l1 : k < n1) (l2 : k < n2)
    (q : ∀ h' tk x y, G1 k x → G2 k y → IsZip h' z TI TO (rawInt s.heap.objs.size) → IsPair h' TO x y → S1 (k + 1) h' → S2 (k + 1) h' → IsPair h' s.heap.objs.size x y → h'.objs.size = s.heap.objs.size + 1 → (∀ c o, c ≠ z → c ≠ TO → c ≠ i1 → c ≠ i2 → s.heap.get? c = some o → h'.get? c = some o) → Q (.ref s.heap.objs.size) { s with heap := h', toks := tk }) : wpAny (model prog w) A (Builtin.«zip.__next__» ⟨[.ref z], []⟩) (fun fin s' => ∃ v, fin = .done (.ret v) ∧ Q v s') E s := by
  have i1z : i1 ≠ z := fun e => D.z1 (by rw [← e]; exact N1.mem)
  have i2z : i2 ≠ z := fun e => D.z2 (by rw [← e]; exact N2.mem)
  have Oi1 : TO ≠ i1 := fun e => D.o1 (by rw [e]; exact N1.mem)
  have Oi2 : TO ≠ i2 := fun e => D.o2 (by rw [e]; exact N2.mem)
  have i12 : i1 ≠ i2 := fun e => D.x1 (by rw [e]; exact N2.mem)
  show wpAny _ _ (field (.ref z) 2 >>= fun _ => _) _ _ _; apply wpAny_bind; refine wpAny_field hz rfl (x := .bool false) rfl ?_
  show wpAny _ _ (field (.ref z) 3 >>= fun _ => _) _ _ _; apply wpAny_bind; refine wpAny_field hz rfl (x := .ref TI) rfl ?_
  apply wpAny_bind; refine wpAny_seqItems hI rfl ?_; show wpAny _ _ (Builtin.SmallTypes.ownedTupleIsFree (.ref z) >>= fun _ => _) _ _ _
  apply wpAny_bind; unfold Builtin.SmallTypes.ownedTupleIsFree; apply wpAny_bind; refine wpAny_field hz rfl (x := .none) rfl (wpAny_pure ?_); simp only [if_true]
  apply wpAny_bind; apply wpAny_rule; apply wpAny_bind; refine wpAny_field hz rfl (x := .ref TO) rfl ?_
  apply wpAny_bind; refine wpAny_setField_rec hz (by simp) fun ha za sa => ?_
  have za : IsZip ha z TI TO .ellipsis := za
  apply wpAny_bind; simp only [List.zipIdx_cons, List.zipIdx_nil, List.forIn_cons, List.forIn_nil]
  apply wpAny_bind; apply wpAny_bind; apply wpAny_onRaise; show wpAny _ _ (Builtin.SmallTypes.nextOf (.ref i1) >>= fun _ => _) _ _ _
  apply wpAny_bind; refine N1.nxt _ k _ _ _ l1 (N1.off h1 sa D.z1) fun x hb tb gx st1 sb => wpAny_pure ?_
  have Ob : IsPair hb TO a b := sb.extBut _ _ Oi1 (sa.extBut _ _ D.b hO)
  apply wpAny_bind; refine wpAny_seqItems Ob rfl ?_; apply wpAny_bind; refine wpAny_updateSeq_pair Ob fun hc Oc sc => ?_
  have Oc : IsPair hc TO x b := Oc
  apply wpAny_bind; refine wpAny_letGo (wpAny_pure ?_); apply wpAny_bind; apply wpAny_bind; apply wpAny_onRaise; show wpAny _ _ (Builtin.SmallTypes.nextOf (.ref i2) >>= fun _ => _) _ _ _
  apply wpAny_bind; refine N2.nxt _ k _ _ _ l2 (N2.off (N2.off (N2.off h2 sa D.z2) sb D.x1) sc D.o2) fun y hd td gy st2 sd => wpAny_pure ?_
  have Od : IsPair hd TO x b := sd.extBut _ _ Oi2 Oc
  apply wpAny_bind; refine wpAny_seqItems Od rfl ?_; apply wpAny_bind; refine wpAny_updateSeq_pair Od fun he Oe se => ?_
  have Oe : IsPair he TO x y := Oe
  apply wpAny_bind; refine wpAny_letGo (wpAny_pure (wpAny_pure ?_)); apply wpAny_bind; refine wpAny_seqItems Oe rfl ?_; apply wpAny_bind; refine wpAny_newTuple ?_
  have sz : he.objs.size = s.heap.objs.size := by rw [se.1, sd.1, sc.1, sb.1, sa.1]
  have ze : IsZip he z TI TO .ellipsis := se.extBut _ _ D.b.symm (sd.extBut _ _ i2z.symm (sc.extBut _ _ D.b.symm (sb.extBut _ _ i1z.symm za)))
  have kp : ∀ c o, c ≠ z → c ≠ TO → c ≠ i1 → c ≠ i2 → s.heap.get? c = some o → he.get? c = some o := fun c o c1 c2 c3 c4 e => se.extBut _ _ c2 (sd.extBut _ _ c4 (sc.extBut _ _ c2 (sb.extBut _ _ c3 (sa.extBut _ _ c1 e))))
  have t1 := N1.off (N1.off (N1.off st1 sc D.o1) sd D.x2) se D.o1
  have t2 := N2.off st2 se D.o2
  have zl : z < he.objs.size := Heap.lt_size ze
  show wpAny _ _ (Builtin.SmallTypes.ownedTupleHandOut (.ref z) (.ref he.objs.size) >>= fun _ => _) _ _ _; apply wpAny_bind; unfold Builtin.SmallTypes.ownedTupleHandOut
  have zf : IsZip (he.push { cls := .type "tuple", data := .seq #[x, y] }) z TI TO .ellipsis := Heap.get?_push_of_some _ ze
  apply wpAny_bind; refine wpAny_setField_rec zf (by simp) fun hg zg sg => ?_
  have zg : IsZip hg z TI TO (rawInt he.objs.size) := zg
  refine wpAny_setField_rec zg (by simp) fun hh zh sh => ?_
  have zh : IsZip hh z TI TO (rawInt he.objs.size) := zh
  have up : ∀ c o, c ≠ z → he.get? c = some o → hh.get? c = some o := fun c o c1 e => sh.extBut _ _ c1 (sg.extBut _ _ c1 (Heap.get?_push_of_some _ e))
  have Th : IsPair hh he.objs.size x y := sh.extBut _ _ (Nat.ne_of_gt zl) (sg.extBut _ _ (Nat.ne_of_gt zl) (Heap.get?_push_size _ rfl))
  have zs : hh.objs.size = he.objs.size + 1 := by rw [sh.1, sg.1, Heap.size_push]
  rw [sz] at zh Th zs
  refine wpAny_pure ⟨_, rfl, ?_⟩
  show Q (.ref he.objs.size) _; rw [sz]
  exact q hh td x y gx gy zh (up _ _ D.b Oe) (N1.keep _ _ _ t1 fun c hc o e => up c o (fun w => D.z1 (by rw [← w]; exact hc)) e) (N2.keep _ _ _ t2 fun c hc o e => up c o (fun w => D.z2 (by rw [← w]; exact hc)) e) Th zs fun c o c1 c2 c3 c4 e => up c o c1 (kp c o c1 c2 c3 c4 e)
theorem zs_end (hh : A.handled = none) (N1 : NextBy prog w i1 f1 n1 G1 S1) (N2 : NextBy prog w i2 f2 n2 G2 S2) (D : ZA z TI TO i1 i2 f1 f2) {a b : Value} {k : Nat} {Q : PySem.Fin → Shared → Prop}
    (hz : IsZip s.heap z TI TO .none) (hI : IsPair s.heap TI (.ref i1) (.ref i2)) (hO : IsPair s.heap TO a b) (h1 : S1 k s.heap) (h2 : S2 k s.heap) (l : n1 ≤ k ∨ k < n1 ∧ n2 ≤ k)
    (q : ∀ h' tk e, (∀ c o, c ≠ z → c ≠ TO → c ≠ i1 → c ≠ i2 → s.heap.get? c = some o → h'.get? c = some o) → (∃ o, h'.get? e = some o ∧ o.cls = .type "StopIteration") → E (.ref e) { s with heap := h', toks := tk }) : wpAny (model prog w) A (Builtin.«zip.__next__» ⟨[.ref z], []⟩) Q E s := by
  have i1z : i1 ≠ z := fun e => D.z1 (by rw [← e]; exact N1.mem)
  have i2z : i2 ≠ z := fun e => D.z2 (by rw [← e]; exact N2.mem)
  have Oi1 : TO ≠ i1 := fun e => D.o1 (by rw [e]; exact N1.mem)
  show wpAny _ _ (field (.ref z) 2 >>= fun _ => _) _ _ _; apply wpAny_bind; refine wpAny_field hz rfl (x := .bool false) rfl ?_
  show wpAny _ _ (field (.ref z) 3 >>= fun _ => _) _ _ _; apply wpAny_bind; refine wpAny_field hz rfl (x := .ref TI) rfl ?_
  apply wpAny_bind; refine wpAny_seqItems hI rfl ?_; show wpAny _ _ (Builtin.SmallTypes.ownedTupleIsFree (.ref z) >>= fun _ => _) _ _ _
  apply wpAny_bind; unfold Builtin.SmallTypes.ownedTupleIsFree; apply wpAny_bind; refine wpAny_field hz rfl (x := .none) rfl (wpAny_pure ?_); simp only [if_true]
  apply wpAny_bind; apply wpAny_rule; apply wpAny_bind; refine wpAny_field hz rfl (x := .ref TO) rfl ?_
  apply wpAny_bind; refine wpAny_setField_rec hz (by simp) fun ha za sa => ?_
  have za : IsZip ha z TI TO .ellipsis := za
  apply wpAny_bind; simp only [List.zipIdx_cons, List.zipIdx_nil, List.forIn_cons, List.forIn_nil]
  apply wpAny_bind; apply wpAny_bind; apply wpAny_onRaise; show wpAny _ _ (Builtin.SmallTypes.nextOf (.ref i1) >>= fun _ => _) _ _ _
  have a1 := N1.off h1 sa D.z1
  rcases l with l | ⟨l1, l2⟩
  · apply wpAny_bind; refine N1.fin _ k _ _ _ hh l a1 fun hb e sb ⟨oe, ge, ce⟩ => ?_
    have zb : IsZip hb z TI TO .ellipsis := sb _ _ i1z.symm za
    have ez : e ≠ z := fun x => by subst x; rw [zb] at ge; cases ge; simp at ce
    refine wpAny_setField_rec zb (by simp) fun hc _ sc => q hc _ e (fun c o c1 _ c3 _ x => sc.extBut _ _ c1 (sb _ _ c3 (sa.extBut _ _ c1 x))) ⟨oe, sc.extBut _ _ ez ge, ce⟩
  · apply wpAny_bind; refine N1.nxt _ k _ _ _ l1 a1 fun x hb tb gx st1 sb => wpAny_pure ?_
    have Ob : IsPair hb TO a b := sb.extBut _ _ Oi1 (sa.extBut _ _ D.b hO)
    apply wpAny_bind; refine wpAny_seqItems Ob rfl ?_; apply wpAny_bind; refine wpAny_updateSeq_pair Ob fun hc Oc sc => ?_
    apply wpAny_bind; refine wpAny_letGo (wpAny_pure ?_); apply wpAny_bind; apply wpAny_bind; apply wpAny_onRaise; show wpAny _ _ (Builtin.SmallTypes.nextOf (.ref i2) >>= fun _ => _) _ _ _
    have a2 := N2.off (N2.off (N2.off h2 sa D.z2) sb D.x1) sc D.o2
    apply wpAny_bind; refine N2.fin _ k _ _ _ hh l2 a2 fun hd e sd ⟨oe, ge, ce⟩ => ?_
    have zd : IsZip hd z TI TO .ellipsis := sd _ _ i2z.symm (sc.extBut _ _ D.b.symm (sb.extBut _ _ i1z.symm za))
    have ez : e ≠ z := fun x => by subst x; rw [zd] at ge; cases ge; simp at ce
    refine wpAny_setField_rec zd (by simp) fun hf _ sf => q hf _ e (fun c o c1 c2 c3 c4 x => sf.extBut _ _ c1 (sd _ _ c4 (sc.extBut _ _ c2 (sb.extBut _ _ c3 (sa.extBut _ _ c1 x))))) ⟨oe, sf.extBut _ _ ez ge, ce⟩
theorem zs_next (N1 : NextBy prog w i1 f1 n1 G1 S1) (N2 : NextBy prog w i2 f2 n2 G2 S2) (D : ZA z TI TO i1 i2 f1 f2) {a b : Value} {k : Nat} {Q : Option Value → Shared → Prop}
    (hz : IsZip s.heap z TI TO .none) (hI : IsPair s.heap TI (.ref i1) (.ref i2)) (hO : IsPair s.heap TO a b) (h1 : S1 k s.heap) (h2 : S2 k s.heap) (l1 : k < n1) (l2 : k < n2)
    (q : ∀ h' tk x y, G1 k x → G2 k y → IsZip h' z TI TO (rawInt s.heap.objs.size) → IsPair h' TO x y → S1 (k + 1) h' → S2 (k + 1) h' → IsPair h' s.heap.objs.size x y → h'.objs.size = s.heap.objs.size + 1 →
      (∀ c o, c ≠ z → c ≠ TO → c ≠ i1 → c ≠ i2 → s.heap.get? c = some o → h'.get? c = some o) → Q (some (.ref s.heap.objs.size)) { s with heap := h', toks := tk }) : wpAny (model prog w) A (pyNext (.ref z)) Q E s := by
  have ty : s.TypeIs (.ref z) "zip" := ⟨_, hz, rfl⟩
  unfold pyNext; apply wpAny_bind; apply wpAny_attempt
  exact wpAny_callSpecial?_slot (name := "__next__") ty F.slot_zip_next (wpAny_call_entry F.slot_zip_next ty F.entry_zip_next (zs_item N1 N2 D hz hI hO h1 h2 l1 l2 fun h' tk x y g1 g2 b1 b2 b3 b4 b5 b6 b7 => wpAny_pure (q h' tk x y g1 g2 b1 b2 b3 b4 b5 b6 b7)) (F.args_zip_next_1 _))
theorem zs_done (hh : A.handled = none) (N1 : NextBy prog w i1 f1 n1 G1 S1) (N2 : NextBy prog w i2 f2 n2 G2 S2) (D : ZA z TI TO i1 i2 f1 f2) {a b : Value} {k : Nat} {Q : Option Value → Shared → Prop}
    (hz : IsZip s.heap z TI TO .none) (hI : IsPair s.heap TI (.ref i1) (.ref i2)) (hO : IsPair s.heap TO a b) (h1 : S1 k s.heap) (h2 : S2 k s.heap) (l : n1 ≤ k ∨ k < n1 ∧ n2 ≤ k)
    (q : ∀ h' tk, (∀ c o, c ≠ z → c ≠ TO → c ≠ i1 → c ≠ i2 → s.heap.get? c = some o → h'.get? c = some o) → Q none { s with heap := h', toks := tk }) : wpAny (model prog w) A (pyNext (.ref z)) Q E s := by
  have ty : s.TypeIs (.ref z) "zip" := ⟨_, hz, rfl⟩
  unfold pyNext; apply wpAny_bind; apply wpAny_attempt
  refine wpAny_callSpecial?_slot (name := "__next__") ty F.slot_zip_next (wpAny_call_entry F.slot_zip_next ty F.entry_zip_next (zs_end (A := A.in1) hh N1 N2 D hz hI hO h1 h2 l fun h' tk e hk he => ?_) (F.args_zip_next_1 _))
  obtain ⟨o, ge, ce⟩ := he
  apply wpAny_bind; refine wpAny_isInstance (T := "StopIteration") (b := true) ⟨o, ge, ce⟩ isSubtype_stop (wpAny_pure (q _ tk hk))
end
/-- iter(v) makes the object o, while Pre stands -/
structure IterBy (v : Value) (o : Obj) (Pre : Heap → Prop) : Prop where
  keep : ∀ {h : Heap} {o' : Obj}, Pre h → Pre (h.push o')
  it : ∀ {prog : Program} {w : World} {A : Around} {E : Value → Shared → Prop} {s : Shared} {Q : Value → Shared → Prop}, Pre s.heap → Q (.ref s.heap.objs.size) { s with heap := s.heap.push o } → wpAny (model prog w) A (pyIter v) Q E s
theorem ib_tup (l : Addr) (xs : Array Value) : IterBy (.ref l) { cls := .type "tuple_iterator", data := .fields #[.ref l, .int 0 0] } (fun h => h.IsTuple l xs) := ⟨fun h => h.push _, fun h q => wpAny_pyIter_tuple h q⟩
theorem ib_list (l : Addr) (xs : Array Value) : IterBy (.ref l) { cls := .type "list_iterator", data := .fields #[.ref l, .int 0 0] } (fun h => h.IsList l xs) := ⟨fun h => h.push _, fun h q => wpAny_pyIter_list h q⟩
theorem ib_ascii (x : Str) (t : Tok) (ha : x.cps.all (· < 128) = true) : IterBy (.str x t) { cls := .type "str_ascii_iterator", data := .fields #[.str x t, .int 0 0] } (fun _ => True) := ⟨fun h => h, fun h q => wpAny_pyIter_ascii ha q⟩
theorem ib_wide (x : Str) (t : Tok) (ha : x.cps.all (· < 128) = false) : IterBy (.str x t) { cls := .type "str_iterator", data := .fields #[.str x t, .int 0 0] } (fun _ => True) := ⟨fun h => h, fun h q => wpAny_pyIter_wide ha q⟩
abbrev zh1 (h : Heap) (o1 : Obj) : Heap := h.push o1
abbrev zh2 (h : Heap) (o1 o2 : Obj) : Heap := (zh1 h o1).push o2
abbrev zh3 (h : Heap) (o1 o2 : Obj) : Heap := (zh2 h o1 o2).push { cls := .type "tuple", data := .seq #[.ref h.objs.size, .ref (zh1 h o1).objs.size] }
abbrev zh4 (h : Heap) (o1 o2 : Obj) : Heap := (zh3 h o1 o2).push { cls := .type "tuple", data := .seq #[.none, .none] }
abbrev zh5 (h : Heap) (o1 o2 : Obj) : Heap := (zh4 h o1 o2).push { cls := .type "zip", data := .fields #[.none, .bool false, .bool false, .ref (zh2 h o1 o2).objs.size, .ref (zh3 h o1 o2).objs.size] }
theorem zs_new (v1 v2 : Value) (o1 o2 : Obj) (P1 P2 : Heap → Prop) (B1 : IterBy v1 o1 P1) (B2 : IterBy v2 o2 P2) :
    Meets (Builtin.«zip.__new__» ⟨[.type "zip", v1, v2], []⟩) (fun _ R s => P1 s.heap ∧ P2 s.heap ∧ R (.ok (.ret (.ref (zh4 s.heap o1 o2).objs.size))) { s with heap := zh5 s.heap o1 o2 }) :=
  .of_wp fun prog w A R s h => by
    obtain ⟨hp, g, d, tk, os⟩ := s; obtain ⟨p1, p2, h⟩ := h
    have hsub := sub_zip
    have q1 : P1 (Shared.heap ⟨hp, g, d, tk, os⟩) := p1
    have q2 : P2 (Shared.heap ⟨hp.push o1, g, d, tk, os⟩) := B2.keep p2
    wp_walk using B1.it q1, B2.it q2
    exact ⟨_, rfl, h⟩
end Ev
set_option maxHeartbeats 4000000
/-! for .. in zip(x, y), each a tuple or a text -/
namespace Ev
open PySem PySem.Spec PyProof.Rows L2
inductive Src
  | tup (a : Addr)
  | lst (a : Addr)
  | txt (z : Str)
def Src.v : Src → V
  | .tup a => .ref a
  | .lst a => .ref a
  | .txt z => .str z
def Src.items (K : PySem.W.Frag) (H : Hp) : Src → List V → Prop
  | .tup a, xs => SqT K H a xs
  | .lst a, xs => SqL K H a xs
  | .txt z, xs => xs = z.cps.toList.map fun c => V.str ⟨#[c]⟩
/-- a source whose iterator has been made -/
inductive Sk
  | tup (a : Addr)
  | lst (a : Addr)
  | txt (z : Str) (t : Tok) (wd : Bool)
def Sk.src : Sk → Src
  | .tup a => .tup a
  | .lst a => .lst a
  | .txt z _ _ => .txt z
def Sk.st (it : Addr) : Sk → Nat → Heap → Prop
  | .tup a => fun i h => h.IsTupleIter it a i
  | .lst a => fun i h => h.IsListIter it a i
  | .txt z t wd => fun i h => h.IsStrIter it (if wd = true then "str_iterator" else "str_ascii_iterator") z t i
def Sk.at : Sk → List Addr
  | .tup a => [a]
  | .lst a => [a]
  | .txt _ _ _ => []
theorem Sk.st_at {it : Addr} {k : Sk} {i : Nat} {h h' : Heap} (st : k.st it i h) (e : ∀ o, h.get? it = some o → h'.get? it = some o) : k.st it i h' := by
  cases k with
  | tup a => exact Heap.IsTupleIter.at st e
  | lst a => exact Heap.IsListIter.at st e
  | txt z t wd =>
    obtain ⟨o, g, r⟩ := st
    exact ⟨o, e o g, r⟩
theorem Sk.st_obj {it : Addr} {k : Sk} {i : Nat} {h : Heap} (st : k.st it i h) : ∃ o, h.get? it = some o ∧ ∀ v, o.data ≠ .cell v := by
  cases k with
  | tup a =>
    obtain ⟨o, e, _, d⟩ := st
    exact ⟨o, e, fun v q => by rw [d] at q; cases q⟩
  | lst a =>
    obtain ⟨o, e, _, d⟩ := st
    exact ⟨o, e, fun v q => by rw [d] at q; cases q⟩
  | txt z t wd =>
    obtain ⟨o, e, _, d⟩ := st
    exact ⟨o, e, fun v q => by rw [d] at q; cases q⟩
theorem items_inj {X : Cx} {pins : List (Addr × Obj)} {σ : L2.St} {H : Hp} {s : Shared} (I : L2.Inv X pins σ H s) {k : Src} {xs ys : List V} (h : k.items X.K H xs) (g : k.items X.K H ys) : xs = ys := by
  cases k with
  | tup a => exact I.tuple_inj h g
  | lst a => exact I.list_inj h g
  | txt z => exact Eq.trans h (Eq.symm g)
theorem sk_next {X : Cx} {pins : List (Addr × Obj)} {σ : L2.St} {H : Hp} {s : Shared} (I : L2.Inv X pins σ H s) (k : Sk) (it : Addr) {xs : List V} (hx : k.src.items X.K H xs) (ne : ∀ a ∈ k.at, a ≠ it) :
    ∃ (fp : List Addr) (n : Nat) (G : Nat → Value → Prop) (S : Nat → Heap → Prop), NextBy X.prog X.w it fp n G S ∧ (∀ i, k.st it i s.heap → S i s.heap) ∧ (∀ i h, S i h → k.st it i h) ∧ (∀ b ∈ fp, b = it ∨ b ∈ k.at) ∧ n = xs.length ∧
      ∀ i v x, G i v → xs[i]? = some x → RelV x v := by
  cases k with
  | tup a =>
    have hx : SqT X.K H a xs := hx
    obtain ⟨its, rv, p, _⟩ := I.tuple hx
    refine ⟨_, _, _, _, nb_tup (ne a List.mem_cons_self) its.toArray, fun i st => ⟨st, p⟩, fun i h st => st.1, fun b hb => ?_, by rw [List.size_toArray, rv.length], fun i v x g e => ?_⟩
    · rcases List.mem_cons.mp hb with e | hb
      · exact .inl e
      · exact .inr hb
    · obtain ⟨u, hu, ru⟩ := rv.get e
      have g : its.toArray[i]? = some v := g
      rw [List.getElem?_toArray, hu] at g
      rw [← Option.some.inj g]
      exact ru
  | lst a =>
    have hx : SqL X.K H a xs := hx
    obtain ⟨its, rv, p, _⟩ := I.list hx
    refine ⟨_, _, _, _, nb_list (ne a List.mem_cons_self) its.toArray, fun i st => ⟨st, p.isList⟩, fun i h st => st.1, fun b hb => ?_, by rw [List.size_toArray, rv.length], fun i v x g e => ?_⟩
    · rcases List.mem_cons.mp hb with e | hb
      · exact .inl e
      · exact .inr hb
    · obtain ⟨u, hu, ru⟩ := rv.get e
      have g : its.toArray[i]? = some v := g
      rw [List.getElem?_toArray, hu] at g
      rw [← Option.some.inj g]
      exact ru
  | txt z t wd =>
    have hx : xs = z.cps.toList.map fun c => V.str ⟨#[c]⟩ := hx
    have rel : ∀ i v x, SignAt z i v → xs[i]? = some x → RelV x v := fun i v x g e => by
      obtain ⟨c, u, hc, rfl⟩ := g
      rw [hx, List.getElem?_map, Array.getElem?_toList, hc] at e
      rw [← Option.some.inj e]
      exact ⟨u, rfl⟩
    have ln : z.cps.size = xs.length := by rw [hx, List.length_map, Array.length_toList]
    cases wd with
    | false => exact ⟨_, _, _, _, nb_ascii z t, fun i st => st, fun i h st => st, fun b hb => .inl (List.mem_singleton.mp hb), ln, rel⟩
    | true => exact ⟨_, _, _, _, nb_wide z t, fun i st => st, fun i h st => st, fun b hb => .inl (List.mem_singleton.mp hb), ln, rel⟩
def ItzS (K : PySem.W.Frag) (k1 k2 : Src) : It where
  go := fun i H => ∃ (xs ys : List V) (x y : V), k1.items K H xs ∧ k2.items K H ys ∧ xs[i]? = some x ∧ ys[i]? = some y
  yld := fun i H v H' => ∃ T x y, v = .ref T ∧ H T = none ∧ H' = upd H T (.tup [x, y]) ∧ (∀ xs, k1.items K H xs → xs[i]? = some x) ∧ ∀ ys, k2.items K H ys → ys[i]? = some y
  stop := fun i H => ∃ xs ys : List V, k1.items K H xs ∧ k2.items K H ys ∧ (xs.length ≤ i ∨ ys.length ≤ i)
structure ZB (z TI TO i1 i2 : Addr) (k1 k2 : Sk) : Prop where
  nd : [z, TI, TO, i1, i2].Nodup
  off : ∀ b ∈ [z, TI, TO, i1, i2], b ∉ k1.at ∧ b ∉ k2.at
theorem ZB.za {z TI TO i1 i2 : Addr} {k1 k2 : Sk} (D : ZB z TI TO i1 i2 k1 k2) {f1 f2 : List Addr} (h1 : ∀ b ∈ f1, b = i1 ∨ b ∈ k1.at) (h2 : ∀ b ∈ f2, b = i2 ∨ b ∈ k2.at) : ZA z TI TO i1 i2 f1 f2 := by
  obtain ⟨nd, off⟩ := D
  have n := nd
  simp only [List.nodup_cons, List.mem_cons, List.not_mem_nil, or_false, not_or, List.nodup_nil, and_true, not_false_eq_true] at n
  obtain ⟨⟨a1, a2, a3, a4⟩, ⟨b1, b2, b3⟩, ⟨c1, c2⟩, d1⟩ := n
  have o1 : ∀ b ∈ [z, TI, TO, i1, i2], b ≠ i1 → b ∉ f1 := fun b hb ne m => (h1 b m).elim ne (off b hb).1
  have o2 : ∀ b ∈ [z, TI, TO, i1, i2], b ≠ i2 → b ∉ f2 := fun b hb ne m => (h2 b m).elim ne (off b hb).2
  exact ⟨Ne.symm a1, Ne.symm a2, b1, o1 z (by simp) a3, o2 z (by simp) a4, o1 TI (by simp) b2, o2 TI (by simp) b3, o1 TO (by simp) c1, o2 TO (by simp) c2, o2 i1 (by simp) d1, o1 i2 (by simp) (Ne.symm d1)⟩
def zTn (z TI TO i1 i2 : Addr) (k1 k2 : Sk) (i : Nat) (h : Heap) : Prop := IsZip h z TI TO .none ∧ IsPair h TI (.ref i1) (.ref i2) ∧ (∃ x y, IsPair h TO x y) ∧ k1.st i1 i h ∧ k2.st i2 i h
theorem zTn.lt {z TI TO i1 i2 : Addr} {k1 k2 : Sk} {i : Nat} {h : Heap} (st : zTn z TI TO i1 i2 k1 k2 i h) : ∀ b ∈ [z, TI, TO, i1, i2], b < h.objs.size := fun b hb => by
  obtain ⟨hz, hI, ⟨x, y, hO⟩, s1, s2⟩ := st
  obtain ⟨o1, e1, _⟩ := Sk.st_obj s1
  obtain ⟨o2, e2, _⟩ := Sk.st_obj s2
  simp only [List.mem_cons, List.not_mem_nil, or_false] at hb
  rcases hb with e | e | e | e | e <;> rw [e]
  · exact Heap.lt_size hz
  · exact Heap.lt_size hI
  · exact Heap.lt_size hO
  · exact Heap.lt_size e1
  · exact Heap.lt_size e2
theorem turn_zipS {P : Program} {w : World} {K : PySem.W.Frag} {elts : List Expr} {kk : Nat} {tpos : Pos} {z TI TO i1 i2 : Addr} {k1 k2 : Sk} (D : ZB z TI TO i1 i2 k1 k2) :
    Turn P w K (.Tuple elts kk tpos) (ItzS K k1.src k2.src) [z, TI, TO, i1, i2] z (zTn z TI TO i1 i2 k1 k2) where
  mem := List.mem_cons_self
  self := fun _ _ _ _ _ st h => wpAny_pyIter_zip st.1 h
  keep := fun i h h' st k => by
    obtain ⟨hz, hI, ⟨x, y, hO⟩, s1, s2⟩ := st
    exact ⟨k z (by simp) _ hz, k TI (by simp) _ hI, ⟨x, y, k TO (by simp) _ hO⟩, Sk.st_at s1 fun o e => k i1 (by simp) o e, Sk.st_at s2 fun o e => k i2 (by simp) o e⟩
  obj := fun i h st c hc => by
    obtain ⟨hz, hI, ⟨x, y, hO⟩, s1, s2⟩ := st
    simp only [List.mem_cons, List.not_mem_nil, or_false] at hc
    rcases hc with e | e | e | e | e <;> rw [e]
    · exact ⟨_, hz, fun v q => nomatch q⟩
    · exact ⟨_, hI, fun v q => nomatch q⟩
    · exact ⟨_, hO, fun v q => nomatch q⟩
    · exact Sk.st_obj s1
    · exact Sk.st_obj s2
  done := by
    intro X hP hw hK hc i pins s σ H E I hf st hg; subst hP hw hK
    obtain ⟨hz, hI, ⟨x0, y0, hO⟩, s1, s2⟩ := st
    obtain ⟨xs, ys, qx, qy, en⟩ := hg
    obtain ⟨f1, n1, G1, S1, N1, a1, b1, c1, e1, r1⟩ := sk_next I k1 i1 qx (fun a ha e => (D.off i1 (by simp)).1 (by rw [← e]; exact ha))
    obtain ⟨f2, n2, G2, S2, N2, a2, b2, c2, e2, r2⟩ := sk_next I k2 i2 qy (fun a ha e => (D.off i2 (by simp)).2 (by rw [← e]; exact ha))
    have l : n1 ≤ i ∨ i < n1 ∧ n2 ≤ i := by omega
    exact zs_done (I.ok.hd hc) N1 N2 (D.za c1 c2) hz hI hO (a1 i s1) (a2 i s2) l fun h' tk hk => ⟨rfl, I.turnedL (t' := tk) (ch := [z, TI, TO, i1, i2]) (fun c o hb q =>
      hk c o (fun e => hb (by simp [e])) (fun e => hb (by simp [e])) (fun e => hb (by simp [e])) (fun e => hb (by simp [e])) q) hf⟩
  item := by
    intro X hP hw hK hc i pins s σ H E I hf st hg; subst hP hw hK
    have lts := zTn.lt st
    obtain ⟨hz, hI, ⟨x0, y0, hO⟩, s1, s2⟩ := st
    obtain ⟨xs, ys, x, y, qx, qy, ex, ey⟩ := hg
    obtain ⟨f1, n1, G1, S1, N1, a1, b1, c1, e1, r1⟩ := sk_next I k1 i1 qx (fun a ha e => (D.off i1 (by simp)).1 (by rw [← e]; exact ha))
    obtain ⟨f2, n2, G2, S2, N2, a2, b2, c2, e2, r2⟩ := sk_next I k2 i2 qy (fun a ha e => (D.off i2 (by simp)).2 (by rw [← e]; exact ha))
    have lx := (List.getElem?_eq_some_iff.mp ex).1
    have ly := (List.getElem?_eq_some_iff.mp ey).1
    have Z := D.za c1 c2
    refine zs_next N1 N2 Z hz hI hO (a1 i s1) (a2 i s2) (by omega) (by omega) fun h' tk u u2 g1 g2 z' O' t1 t2 T' hs hk => ?_
    have ru := r1 i u x g1 ex
    have ru2 := r2 i u2 y g2 ey
    refine ⟨_, rfl, wpAny_letOwnedTupleGo_zip (s := { s with heap := h', toks := tk }) z' fun h'' z'' sb => ?_⟩
    have zl := lts z (by simp)
    have T2 : h''.get? s.heap.objs.size = some { cls := .type "tuple", data := .seq #[u, u2] } := (sb.2 _ (Nat.ne_of_gt zl)).trans T'
    have new : ObjOk X.prog X.w (upd H s.heap.objs.size (.tup [x, y])) h'' s.heap.objs.size (.tup [x, y]) := ⟨by show 2 ≤ sizeLine; decide, [u, u2], .cons ru (.cons ru2 .nil), ⟨_, T2, rfl, _, rfl⟩⟩
    have I1 : L2.Inv X pins σ (upd H s.heap.objs.size (.tup [x, y])) { s with heap := h'', toks := tk } :=
      I.turnedNew (t' := tk) (ch := [z, TI, TO, i1, i2]) (fun c o hb q => (sb.2 c (fun e => hb (by simp [e]))).trans (hk c o (fun e => hb (by simp [e])) (fun e => hb (by simp [e])) (fun e => hb (by simp [e])) (fun e => hb (by simp [e])) q)) hf (Nat.le_refl _) new
    refine ⟨.ref s.heap.objs.size, _, I1, rfl, ⟨_, x, y, rfl, I.hok.fresh (Nat.le_refl _), rfl, fun l hl => by rw [items_inj I hl qx]; exact ex, fun l hl => by rw [items_inj I hl qy]; exact ey⟩, ?_, fun c hcm => ?_⟩
    · have TI' : IsPair h' TI (.ref i1) (.ref i2) := hk _ _ Z.a Z.c (fun e => Z.t1 (by rw [e]; exact N1.mem)) (fun e => Z.t2 (by rw [e]; exact N2.mem)) hI
      exact ⟨z'', (sb.2 _ Z.a).trans TI', ⟨u, u2, (sb.2 _ Z.b).trans O'⟩, Sk.st_at (b1 _ _ t1) fun o e => (sb.2 _ fun e' => Z.z1 (by rw [← e']; exact N1.mem)).trans e, Sk.st_at (b2 _ _ t2) fun o e => (sb.2 _ fun e' => Z.z2 (by rw [← e']; exact N2.mem)).trans e⟩
    · rw [upd_ne (Nat.ne_of_lt (lts c hcm))]
      exact (hf c hcm).1
end Ev
set_option maxHeartbeats 4000000
/-! for .. in zip(x, y), each a tuple or a text: the rule -/
namespace Ev
open PySem PySem.Spec PyProof.Rows L2
theorem zb_nd (n : Nat) : [n + 4, n + 2, n + 3, n, n + 1].Nodup := by
  simp only [List.nodup_cons, List.mem_cons, List.not_mem_nil, or_false, not_or, List.nodup_nil, and_true, not_false_eq_true]
  omega
theorem zb_le (n b : Nat) (hb : b ∈ [n + 4, n + 2, n + 3, n, n + 1]) : n ≤ b := by
  simp only [List.mem_cons, List.not_mem_nil, or_false] at hb
  omega
theorem call_zs {prog : Program} {w : World} {A : Around} {E : Value → Shared → Prop} {s : Shared} {v1 v2 : Value} {o1 o2 : Obj} {P1 P2 : Heap → Prop} {Q : Value → Shared → Prop} (B1 : IterBy v1 o1 P1) (B2 : IterBy v2 o2 P2)
    (f1 : o1.isFreed = false) (f2 : o2.isFreed = false) (p1 : P1 s.heap) (p2 : P2 s.heap) (h : ∀ h', IsZip h' (s.heap.objs.size + 4) (s.heap.objs.size + 2) (s.heap.objs.size + 3) .none → IsPair h' (s.heap.objs.size + 2) (.ref s.heap.objs.size) (.ref (s.heap.objs.size + 1)) →
      IsPair h' (s.heap.objs.size + 3) .none .none → h'.get? s.heap.objs.size = some o1 → h'.get? (s.heap.objs.size + 1) = some o2 → (∀ c o, s.heap.get? c = some o → h'.get? c = some o) → Q (.ref (s.heap.objs.size + 4)) { s with heap := h' }) : wpAny (model prog w) A (call (.type "zip") [v1, v2]) Q E s := by
  refine callType_new F.called_zip (by decide) (F.typeCall_zip_2 _ _) (F.newCall_zip_2 _ _) (fun obj => F.args_object_init_3 obj _ _) F.entry_zip_new (zs_new v1 v2 o1 o2 P1 P2 B1 B2) ⟨p1, p2, ?_⟩
  have n1 : (zh1 s.heap o1).objs.size = s.heap.objs.size + 1 := Heap.size_push ..
  have n2 : (zh2 s.heap o1 o2).objs.size = s.heap.objs.size + 2 := by rw [Heap.size_push, n1]
  have n3 : (zh3 s.heap o1 o2).objs.size = s.heap.objs.size + 3 := by rw [Heap.size_push, n2]
  have n4 : (zh4 s.heap o1 o2).objs.size = s.heap.objs.size + 4 := by rw [Heap.size_push, n3]
  have g5 : (zh5 s.heap o1 o2).get? (zh4 s.heap o1 o2).objs.size = some _ := Heap.get?_push_size _ rfl
  have g4 : (zh5 s.heap o1 o2).get? (zh3 s.heap o1 o2).objs.size = some _ := Heap.get?_push_of_some _ (Heap.get?_push_size _ rfl)
  have g3 : (zh5 s.heap o1 o2).get? (zh2 s.heap o1 o2).objs.size = some _ := (fun e => Heap.get?_push_of_some _ (Heap.get?_push_of_some _ e)) (Heap.get?_push_size _ rfl)
  have g2 : (zh5 s.heap o1 o2).get? (zh1 s.heap o1).objs.size = some o2 := (fun e => Heap.get?_push_of_some _ (Heap.get?_push_of_some _ (Heap.get?_push_of_some _ e))) (Heap.get?_push_size _ f2)
  have g1 : (zh5 s.heap o1 o2).get? s.heap.objs.size = some o1 := (fun e => Heap.get?_push_of_some _ (Heap.get?_push_of_some _ (Heap.get?_push_of_some _ (Heap.get?_push_of_some _ e)))) (Heap.get?_push_size _ f1)
  show _ ∧ _
  rw [n2, n3, n4] at g5
  rw [n1, n2] at g3
  rw [n3] at g4; rw [n1] at g2; rw [n4]
  refine ⟨⟨_, g5, rfl⟩, h _ g5 g3 g4 g1 g2 fun c o x => ?_⟩
  exact (fun e => Heap.get?_push_of_some _ (Heap.get?_push_of_some _ (Heap.get?_push_of_some _ e))) (Heap.get?_push_of_some _ (Heap.get?_push_of_some _ x))
/-- a source, asked for its iterator -/
theorem src_iter {X : Cx} {pins : List (Addr × Obj)} {σ : L2.St} {H : Hp} {s : Shared} (I : L2.Inv X pins σ H s) (k : Src) {xs : List V} (hx : k.items X.K H xs) {v : Value} (r : RelV k.v v) :
    ∃ (q : Sk) (o : Obj) (Pre : Heap → Prop), q.src = k ∧ IterBy v o Pre ∧ o.isFreed = false ∧ Pre s.heap ∧ (∀ it h, h.get? it = some o → q.st it 0 h) ∧ ∀ a ∈ q.at, a < s.heap.objs.size := by
  cases k with
  | tup a =>
    have hx : SqT X.K H a xs := hx
    obtain ⟨its, rv, p, _⟩ := I.tuple hx
    cases r
    refine ⟨.tup a, _, _, rfl, ib_tup a its.toArray, rfl, p, fun it h e => ⟨_, e, rfl, rfl⟩, fun b hb => ?_⟩
    obtain ⟨o, e, _⟩ := id p
    rw [List.mem_singleton.mp hb]
    exact Heap.lt_size e
  | lst a =>
    have hx : SqL X.K H a xs := hx
    obtain ⟨its, rv, p, _⟩ := I.list hx
    cases r
    refine ⟨.lst a, _, _, rfl, ib_list a its.toArray, rfl, p.isList, fun it h e => ⟨_, e, rfl, rfl⟩, fun b hb => ?_⟩
    obtain ⟨o, e, _⟩ := id p.isList
    rw [List.mem_singleton.mp hb]
    exact Heap.lt_size e
  | txt z =>
    obtain ⟨t, rfl⟩ := r
    cases ha : z.cps.all (· < 128) with
    | true => exact ⟨.txt z t false, _, _, rfl, ib_ascii z t ha, rfl, trivial, fun it h e => ⟨_, e, rfl, rfl⟩, fun b hb => nomatch hb⟩
    | false => exact ⟨.txt z t true, _, _, rfl, ib_wide z t ha, rfl, trivial, fun it h e => ⟨_, e, rfl, rfl⟩, fun b hb => nomatch hb⟩
def iZipS (K : PySem.W.Frag) (ta : TA) : TI := fun σ H R => ta σ H fun vs H1 => ∃ (k1 k2 : Src) (xs ys : List V), vs = [k1.v, k2.v] ∧ k1.items K H1 xs ∧ k2.items K H1 ys ∧ R (ItzS K k1 k2) H1
theorem pi_zipS {X : Cx} {e e2 : Expr} {ta : TA} {p pos tpos : Pos} {elts : List Expr} {kk : Nat} (hg : Gl X "zip") (hm : X.mg "zip" = none) (ha : PA X [e, e2] ta) (hs : starEach [e, e2] X.env = (false, eval e X.env) :: starEach [e2] X.env := by rfl) (hpl : (backTo pos (starEach [e2] X.env)).any (·.1) = false := by rfl) :
    PI X (.Tuple elts kk tpos) (.Call (.Name "zip" p) [e, e2] [] pos) (iZipS X.K ta) := by
  refine ⟨fun pins s σ H R I h => Call_ (ld_blt I hg hm PyProof.Rows.boot_zip (PyProof.Rows.callWith_type1 (thn (ha.run pos pins s σ H _ I h) fun us s1 ⟨vs, H1, I1, r1, q1⟩ => ?_) hs hpl))⟩
  obtain ⟨k1, k2, xs, ys, ex, hx, hy, q⟩ := q1
  subst ex
  cases r1 with
  | cons r rr =>
    cases rr with
    | cons r' rr =>
      cases rr
      obtain ⟨c1, o1, P1, e1, B1, f1, p1, g1, l1⟩ := src_iter I1 k1 hx r
      obtain ⟨c2, o2, P2, e2', B2, f2, p2, g2, l2⟩ := src_iter I1 k2 hy r'
      refine call_zs B1 B2 f1 f2 p1 p2 fun h' hz hI hO t1 t2 hk => wpAny_pyIter_zip hz ?_
      have I2 : L2.Inv X pins σ H1 { s1 with heap := h' } := I1.kept (t' := s1.toks) hk
      have D : ZB (s1.heap.objs.size + 4) (s1.heap.objs.size + 2) (s1.heap.objs.size + 3) s1.heap.objs.size (s1.heap.objs.size + 1) c1 c2 := by
        exact ⟨zb_nd _, fun b hb => ⟨fun m => absurd (l1 b m) (Nat.not_lt.mpr (zb_le _ b hb)), fun m => absurd (l2 b m) (Nat.not_lt.mpr (zb_le _ b hb))⟩⟩
      subst e1 e2'
      refine ⟨_, [s1.heap.objs.size + 4, s1.heap.objs.size + 2, s1.heap.objs.size + 3, s1.heap.objs.size, s1.heap.objs.size + 1], _, _, H1, rfl, I2, turn_zipS D, ⟨hz, hI, ⟨_, _, hO⟩, g1 _ _ t1, g2 _ _ t2⟩, fun c hc => ?_, q⟩
      have hle : s1.heap.objs.size ≤ c := zb_le _ c hc
      have no := I1.hok.fresh hle
      exact I1.fpOk hle no
theorem walk_zipS {K : PySem.W.Frag} {k1 k2 : Src} {xs ys : List V} {n : Nat} (hn : n = min xs.length ys.length) :
    Walk (ItzS K k1 k2) n (fun H => k1.items K H xs ∧ k2.items K H ys) (YPair (fun i => xs[i]?) (fun i => ys[i]?)) := by
  rw [hn]
  have go : ∀ i H, i < min xs.length ys.length → k1.items K H xs ∧ k2.items K H ys → (ItzS K k1 k2).go i H := fun i H hi q => by
    have hx : xs[i]? = some (xs[i]'(Nat.lt_of_lt_of_le hi (Nat.min_le_left _ _))) := List.getElem?_eq_getElem _
    have hy : ys[i]? = some (ys[i]'(Nat.lt_of_lt_of_le hi (Nat.min_le_right _ _))) := List.getElem?_eq_getElem _
    exact ⟨xs, ys, _, _, q.1, q.2, hx, hy⟩
  refine ⟨fun i H hi q => go i H hi q, fun _ q => ⟨xs, ys, q.1, q.2, by omega⟩, fun i H v H' _ q y => ?_⟩
  obtain ⟨T, x, z, e1, e2, e3, fx, fy⟩ := y
  exact ⟨T, x, z, e1, e2, e3, fx xs q.1, fy ys q.2⟩
end Ev
set_option maxHeartbeats 4000000
namespace LawK
open PySem PySem.Spec PyProof.Rows L2 Ev
theorem valV_kd (z : Str) : ∀ kvs : List (Str × V), valV (kdK kvs) (Sum.inr z) = kvs.lookup z
  | [] => rfl
  | p :: kvs => by
    by_cases e : z = p.1
    · have : valV (kdK (p :: kvs)) (Sum.inr z) = some p.2 := valV_pos (p := (Sum.inr p.1, p.2)) (by rw [e])
      rw [this]
      show _ = List.lookup z ((p.1, p.2) :: kvs)
      rw [List.lookup_cons, e, beq_self_eq_true]
    · have : valV (kdK (p :: kvs)) (Sum.inr z) = valV (kdK kvs) (Sum.inr z) := valV_neg (p := (Sum.inr p.1, p.2)) (fun h => e (Sum.inr.inj h).symm)
      rw [this, valV_kd z kvs]
      show _ = List.lookup z ((p.1, p.2) :: kvs)
      rw [List.lookup_cons, beq_false_of_ne e]
/-- what a line tells -/
def readL (z : Str) : Option (List V) := match kindsOf (SX.S (hdW (cod z))) with
  | none => none
  | some ks => (rdK ks (tlW (cod z))).map (V.str (SX.S (hdW (cod z))) :: ·)
def lineO : V → Option (List V)
  | .str z => if sgB z = true then readL z else none
  | _ => none
theorem line_no {x : V} (h : sgV x = false) : lineO x = none := by
  cases x with
  | str z =>
    have h : sgB z = false := h
    exact if_neg (by rw [h]; decide)
  | _ => rfl
theorem line_yes {z : Str} (h : sgV (.str z) = true) : lineO (.str z) = readL z := if_pos h
theorem cutM_mem : ∀ (k : Nat) (s p : List Nat), p ∈ cutM k s → p.length ≤ s.length ∧ ∀ c ∈ p, c ∈ s
  | 0, s, p, h => by
    rw [List.mem_singleton.mp h]
    exact ⟨Nat.le_refl _, fun _ h => h⟩
  | k + 1, s, p, h => by
    cases e : tlW s with
    | none =>
      rw [cut_none e] at h
      rw [List.mem_singleton.mp h]
      exact ⟨Nat.le_refl _, fun _ h => h⟩
    | some r =>
      rw [cut_some e] at h
      have w := (w_put s).1
      rw [e] at w
      have w : s = hdW s ++ 32 :: r := w
      have lw := congrArg List.length w
      rw [List.length_append, List.length_cons] at lw
      rcases List.mem_cons.mp h with h | h
      · rw [h]
        exact ⟨by omega, fun c hc => by rw [w]; exact List.mem_append_left _ hc⟩
      · obtain ⟨a, b⟩ := cutM_mem k r p h
        exact ⟨by omega, fun c hc => by rw [w]; exact List.mem_append_right _ (List.mem_cons_of_mem _ (b c hc))⟩
theorem split_S (z : Str) (k : Nat) : Txt.splitMax z " " (k : Int) = (cutM k (cod z)).map SX.S := by
  rw [← split_cutM, List.map_map]
  have : (SX.S ∘ cod) = id := funext fun z => S_cod z
  rw [this, List.map_id]
theorem sg_sub {z : Str} {p : List Nat} (h : sgB z = true) (s : ∀ c ∈ p, c ∈ cod z) : sgB (SX.S p) = true := List.all_eq_true.mpr fun c hc => List.all_eq_true.mp h c (s c hc)
theorem rdP_flat (k z : Str) : flatV (rdP k z) = true := by
  unfold rdP figV
  split
  · split <;> rfl
  · split <;> rfl
theorem in_non {xs : List V} : inV .non xs = decide (V.non ∈ xs) := by
  refine Bool.eq_iff_iff.mpr ?_
  rw [decide_eq_true_iff]
  unfold inV
  rw [List.any_eq_true]
  constructor
  · rintro ⟨y, hy, e⟩
    cases y <;> first | exact hy | cases e
  · exact fun h => ⟨_, h, rfl⟩
theorem zipWith_flat (ks ps : List Str) : (List.zipWith rdP ks ps).all flatV = true := by
  refine List.all_eq_true.mpr fun v hv => ?_
  obtain ⟨i, hi⟩ := List.getElem?_of_mem hv
  rw [List.getElem?_zipWith] at hi
  cases h1 : ks[i]? with
  | none => rw [h1] at hi; cases hi
  | some a =>
    cases h2 : ps[i]? with
    | none => rw [h1, h2] at hi; cases hi
    | some b =>
      rw [h1, h2] at hi
      cases hi
      exact rdP_flat a b
theorem kinds_ok {w : Str} {ks : List Str} (h : kindsOf w = some ks) : ∀ k ∈ ks, k = kNum ∨ k = kMany ∨ k = kWord ∨ k = kSigns := by
  unfold kindsOf at h
  repeat' split at h
  all_goals first | cases h
  all_goals simp
theorem line_cases {z wd : Str} {ks : List Str} (hz : sgB z = true) (lz : z.length ≤ 5000) (ew : SX.S (hdW (cod z)) = wd) (hw : kindsOf wd = some ks) : ∃ y ps, (cutM ks.length (cod z)).map SX.S = y :: ps ∧
    (y ≠ wd ∧ readL z = none ∨ y = wd ∧ (ps.length ≠ ks.length ∧ readL z = none ∨ ps.length = ks.length ∧ (∀ p ∈ ps, sgB p = true ∧ p.length ≤ 5000) ∧ readL z = (lineL ks ps).map (V.str wd :: ·))) := by
  have lw : readL z = (rdK ks (tlW (cod z))).map (V.str wd :: ·) := by
    unfold readL
    rw [ew, hw]
  have hp := prp_kinds hw
  have wp := w_put (cod z)
  cases et : tlW (cod z) with
  | none =>
    rw [et] at lw wp
    have wz : cod z = hdW (cod z) := by
      have h : cod z = hdW (cod z) ++ [] := wp.1
      rw [List.append_nil] at h
      exact h
    have zw : SX.S (cod z) = wd := by rw [← ew, ← wz]
    cases ks with
    | nil =>
      refine ⟨SX.S (cod z), [], rfl, .inr ⟨zw, .inr ⟨rfl, (fun p hp => absurd hp (by simp)), lw.trans ?_⟩⟩⟩
      rw [show lineL [] [] = some [] from if_pos ⟨rfl, by simp⟩]
      rfl
    | cons k ks => exact ⟨SX.S (cod z), [], by rw [show cutM (k :: ks).length (cod z) = [cod z] from cut_none et ks.length]; rfl, .inr ⟨zw, .inl ⟨by simp, lw⟩⟩⟩
  | some r =>
    rw [et] at lw wp
    cases ks with
    | nil =>
      refine ⟨SX.S (cod z), [], rfl, .inl ⟨fun h => wp.2 ?_, lw⟩⟩
      rw [← ew] at h
      have h : cod z = hdW (cod z) := congrArg cod h
      rw [← h, wp.1]
      exact List.mem_append_right _ List.mem_cons_self
    | cons k ks =>
      refine ⟨wd, (cutM ks.length r).map SX.S, ?_, .inr ⟨rfl, ?_⟩⟩
      · rw [show cutM (k :: ks).length (cod z) = hdW (cod z) :: cutM ks.length r from cut_some et ks.length, List.map_cons, ew]
      · by_cases e : ((cutM ks.length r).map SX.S).length = (k :: ks).length
        · refine .inr ⟨e, fun p hp => ?_, by rw [line_rd ks k r hp]; exact lw⟩
          obtain ⟨q, hq, rfl⟩ := List.mem_map.mp hp
          obtain ⟨h1, h2⟩ := cutM_mem _ _ _ hq
          have hr : r.length ≤ (cod z).length := by
            have := congrArg List.length wp.1
            rw [List.length_append] at this
            have t : (spT (some r)).length = r.length + 1 := rfl
            omega
          rw [cod_len] at hr
          refine ⟨sg_sub hz fun c hc => ?_, ?_⟩
          · rw [wp.1]
            exact List.mem_append_right _ (List.mem_cons_of_mem _ (h2 c hc))
          · show q.length ≤ 5000
            omega
        · refine .inl ⟨e, ?_⟩
          rw [lw, ← line_rd ks k r hp]
          rw [show lineL (k :: ks) ((cutM ks.length r).map SX.S) = none from if_neg fun h => e h.1]
          rfl
def spRLine (kvF : List (Str × V)) : Sp := fun vs H Q _ => ∃ (x : V) (k : Kn) (d : Addr), vs = [x, .ref d] ∧ Kd H x k ∧ Vs x ∧ H d = some (.dK (kdK kvF)) ∧ (lineO x = none → ∀ H', Same H H' → Q .non H') ∧ ∀ xs, lineO x = some xs → ∀ t H', Same H H' → H' t = some (.tup xs) → Q (.ref t) H'
end LawK
set_option maxHeartbeats 4000000
namespace LawK
open PySem PySem.Spec PyProof.Rows L2 Ev
section
variable {P : Program} {w : World} {K : PySem.W.Frag} {mg : Str → Option Value} {base : Heap}
abbrev sPReadLine : Stmt := topS 12
theorem scPReadLine : FnScope ["line", "forms", "word", "kinds", "parts", "told", "kind", "signs"] ["line", "forms"] (defScope sPReadLine) := ⟨rfl, rfl, rfl, by decide +kernel, rfl, by decide +kernel, by decide +kernel⟩
theorem ok_PReadLine {f : Addr} {fd : FuncData} (F : Fun K "read_line" "read_line" sPReadLine f fd) {aF : Addr} {kvF : List (Str × V)} (FC : FormsC K w mg aF kvF) {fQReadPart : Addr} {fdQReadPart : FuncData} (DQReadPart : Dk P w K mg base "_read_part" sQReadPart ["kind", "signs"] 2 spRPart fQReadPart fdQReadPart) {fPSigns : Addr} {fdPSigns : FuncData} (DPSigns : Dk P w K mg base "is_signs" sPSigns ["thing"] 1 spSg fPSigns fdPSigns) (T : Glob mg) : FnOk P w K mg base CX0 3 f fd ["line", "forms"] (spRLine kvF) := by
  refine F.ok scPReadLine (fun vs H Q E h => ?_) (fun cdv A outer s H vs Q E hr h => ?_)
  · obtain ⟨x, kx, d, rfl, _⟩ := h
    rfl
  · refine ⟨_, (pss_cons (ps_if (pt_not (pt_val (pe_call DPSigns.ok (hr.mono (by decide)) (by rfl) DPSigns.g DPSigns.F.kp DPSigns.b .nil pass0 (pa_cons (pv 0) pa_nil))))
      (pss_one (ps_ret pe_non))
      pss_nil)
      (pss_cons (ps_set (i := 2) scPReadLine.nd rfl (.inl rfl) (pe_ix ix_tup (pe_bm PySem.F.plainAttrs_str PySem.F.slot_str_partition PySem.F.type_str_partition mt_partition (pv 0) (pa_cons pe_str pa_nil)) pe_int (fun _ _ => rfl)))
      (pss_cons (ps_set (i := 3) scPReadLine.nd rfl (.inl rfl) (pe_dget2 (hu_of hr) (pv 1) (pv 2) (pe_tup pa_nil) ⟨rfl, rfl, rfl, rfl⟩))
      (pss_cons (ps_set (i := 4) scPReadLine.nd rfl (.inl rfl) (pe_bm PySem.F.plainAttrs_str PySem.F.slot_str_split PySem.F.type_str_split mt_splitMax (pv 0) (pa_cons pe_str (pa_cons (pe_callB call_len_seq (by rfl) T.len PySem.boot_len (pa_cons (pv 3) pa_nil)) pa_nil))))
      (pss_cons (ps_if (PW.pt (pw_or (pt_cmp (pc_dnotin (hu_of hr) (pv 2) (pv 1))) (pw_or (pt_cmpR op_ne (pe_ix ix_list (pv 4) pe_int (fun _ _ => rfl)) (pv 2) (nomark _)) (pw_or1 (pt_cmpR op_ne (pe_callB call_len_seq (by rfl) T.len PySem.boot_len (pa_cons (pv 4) pa_nil)) (pe_op op_add (pe_callB call_len_seq (by rfl) T.len PySem.boot_len (pa_cons (pv 3) pa_nil)) pe_int) (nomark _))))))
      (pss_one (ps_ret pe_non))
      pss_nil)
      (pss_cons (ps_setLc (i := 5) (own := [("kind", 6), ("signs", 7)]) (g := (gTup K 2 (gCons (gName 6) (gCons (gName 7) gNil)))) (by rfl) scPReadLine.nd rfl rfl (sw_true rfl rfl rfl (by decide +kernel)) (pi_zipS (by rfl) T.zip (pa_cons (pv 3) (pa_cons (pe_slice sl_list (pv 4) (po_some pe_int) po_none) pa_nil))) (blkOk_by (N := ["line", "forms", "word", "kinds", "parts", "told", "kind", "signs"]) (sc := defScope sPReadLine) (by decide +kernel)) (fun _ _ _ _ _ => pg_tup (by rfl) (pgs_cons (pg_name (i := 6) scPReadLine.nd rfl (.inl rfl)) (pgs_cons (pg_name (i := 7) scPReadLine.nd rfl (.inl rfl)) pgs_nil))) (fun _ _ _ _ _ => pts_nil) (fun _ _ _ _ _ => (pe_call DQReadPart.ok (hr.mono (by decide)) (by rfl) DQReadPart.g DQReadPart.F.kp DQReadPart.b .nil pass0 (pa_cons (pv 6) (pa_cons (pv 7) pa_nil)))))
      (pss_one (ps_ret (pe_ifExp (pt_cmpR op_in_seq pe_non (pv 5) rfl) pe_non (pe_op op_catM (pe_tup (pa_cons (pv 2) pa_nil)) (pe_callTy call_tuple_of (by rfl) T.tuple (by decide +kernel) (pa_cons (pv 5) pa_nil)))))))))))), ?_⟩
    obtain ⟨x, kx, d, rfl, hk, hv, hd, q0, q1⟩ := h
    have sz : sizeLine = 16777216 := sizeLine_eq
    refine ⟨x, rfl, x, kx, rfl, hk, hv, _, rfl, ?_⟩
    cases sx : sgV x with
    | false => exact iteT (q0 (line_no sx) H (Same.refl H))
    | true =>
      obtain ⟨z, rfl⟩ := sg_str sx
      have lz := hv z rfl
      have hz : sgB z = true := sx
      rw [line_yes sx] at q0 q1
      refine iteF ?_
      dsimp only [tNext, tDrop, tSeq]
      refine ⟨.str z, rfl, rfl, z, " ", rfl, rfl, by decide, by omega, fun p np => ?_⟩
      refine ⟨p, _, 0, .str (SX.S (hdW (cod z))), rfl, rfl, SqT.of upd_same, by show some (V.str (Txt.partition z " ").1) = _; rw [part_hd], ?_⟩
      have k1 := Same.new (H := H) (o := .tup [.str (Txt.partition z " ").1, .str (Txt.partition z " ").2.1, .str (Txt.partition z " ").2.2]) np
      revert k1
      generalize upd H p _ = H1
      intro k1
      have lw : readL z = match kindsOf (SX.S (hdW (cod z))) with
        | none => none
        | some ks => (rdK ks (tlW (cod z))).map (V.str (SX.S (hdW (cod z))) :: ·) := rfl
      have wp := w_put (cod z)
      have lh : (hdW (cod z)).length ≤ (cod z).length := by
        have := congrArg List.length wp.1
        rw [List.length_append] at this
        omega
      generalize ew : SX.S (hdW (cod z)) = wd at lw
      have hd1 := k1 _ _ hd
      have fx := valV_kd wd kvF
      refine ⟨.ref d, rfl, d, rfl, .inl ⟨_, .inl hd1⟩, .str wd, rfl, by show 0 ≤ sizeLine; decide, fun t nt => ?_⟩
      have k2 := k1.trans (Same.new (o := .tup []) nt)
      have hd2 := k2 _ _ hd
      have hkk : ∃ kk ks, (∀ H', Same (upd H1 t (.tup [])) H' → SqT K H' kk (ks.map V.str)) ∧ (valV (kdK kvF) (Sum.inr wd)).getD (.ref t) = .ref kk ∧ ((kindsOf wd = none ∧ kvF.lookup wd = none ∧ ks = []) ∨ (kindsOf wd = some ks ∧ (kvF.lookup wd).isSome = true)) := by
        cases hw : kindsOf wd with
        | none =>
          refine ⟨t, [], fun H' s => SqT.of (s _ _ upd_same), ?_, .inl ⟨rfl, FC.no _ hw, rfl⟩⟩
          rw [fx, FC.no _ hw]
          rfl
        | some ks =>
          obtain ⟨kk, h1, h2⟩ := FC.yes _ _ hw
          refine ⟨kk, ks, fun H' _ => h2 H', ?_, .inr ⟨rfl, by rw [h1]; rfl⟩⟩
          rw [fx, h1]
          rfl
      obtain ⟨kk, ks, hS, ekk, hc⟩ := hkk
      revert k2 hd2 hS
      generalize upd H1 t _ = H2
      intro k2 hd2 hS
      refine ⟨_, DGet.k (k := .inr wd) hd2, ?_⟩
      rw [ekk]
      have few : ks.length ≤ 5 := by
        rcases hc with ⟨_, _, rfl⟩ | ⟨h, _⟩
        · decide
        · exact kinds_few h
      refine ⟨.str z, rfl, rfl, .ref kk, rfl, kk, _, rfl, .inr (hS _ (Same.refl _)), z, " ", ((ks.map V.str).length : Nat), rfl, rfl, by decide, by rw [List.length_map]; omega, by rw [List.length_map]; omega, by omega, fun l nl => ?_⟩
      rw [List.length_map, split_S]
      have k3 := k2.trans (Same.new (o := .lst (((cutM ks.length (cod z)).map SX.S).map V.str)) nl)
      have hl : upd H2 l (.lst (((cutM ks.length (cod z)).map SX.S).map V.str)) l = some (.lst (((cutM ks.length (cod z)).map SX.S).map V.str)) := upd_same
      have hS3 : ∀ H', Same (upd H2 l (.lst (((cutM ks.length (cod z)).map SX.S).map V.str))) H' → SqT K H' kk (ks.map V.str) := fun H' s => hS H' ((Same.new nl).trans s)
      have hd3 := k3 _ _ hd
      revert k3 hl hS3 hd3
      generalize upd H2 l _ = H3
      intro k3 hl hS3 hd3
      refine ⟨.str wd, rfl, .ref d, rfl, d, _, rfl, DGet.k (k := .inr wd) hd3, ?_⟩
      rw [fx]
      rcases hc with ⟨hw, hl0, rfl⟩ | ⟨hw, hl1⟩
      · rw [hl0]
        rw [hw] at lw
        exact ⟨_, rfl, iteT (q0 lw H3 k3)⟩
      rw [hl1]
      refine ⟨_, rfl, iteF ?_⟩
      obtain ⟨y, ps, ey, hcase⟩ := line_cases hz lz ew hw
      rw [ey] at hl
      refine ⟨.ref l, rfl, l, _, 0, .str y, rfl, rfl, sq_of hl, atI_nat (j := 0) rfl, .str wd, rfl, rfl, _, rfl, ?_⟩
      rcases hcase with ⟨ne, no⟩ | ⟨rfl, hcase⟩
      · rw [decide_eq_false fun h => ne (V.str.inj h)]
        exact iteT (q0 no H3 k3)
      rw [decide_eq_true rfl]
      refine iteF ⟨.ref l, rfl, l, _, rfl, .inl (sq_of hl), .ref kk, rfl, kk, _, rfl, .inr (hS3 _ (Same.refl _)), _, _, rfl, rfl, rfl, _, rfl, ?_⟩
      rw [List.length_map, List.length_map, List.length_cons]
      rcases hcase with ⟨ne, no⟩ | ⟨el, hps, yes⟩
      · have ne : ¬ V.int (((ps.length + 1 : Nat) : Nat) : Int) = V.int (((ks.length : Nat) : Int) + 1) := fun h => by
          have h := V.int.inj h
          omega
        rw [decide_eq_false ne]
        exact iteT (q0 no H3 k3)
      rw [show decide (V.int (((ps.length + 1 : Nat) : Nat) : Int) = V.int (((ks.length : Nat) : Int) + 1)) = true from decide_eq_true (by rw [el]; rfl)]
      refine iteF ?_
      dsimp only [tNext, tDrop, tSeq]
      rw [yes] at q0 q1
      have kk_ok := kinds_ok hw
      refine ⟨.ref kk, rfl, .ref l, rfl, 1, rfl, l, _, rfl, sq_of hl, fun b nb => ?_⟩
      have eps : cutV (((y :: ps) : List Str).map V.str) (some 1) none = ps.map V.str := by
        rw [cutV_from (by decide)]
        rfl
      rw [eps]
      have k4 := k3.trans (Same.new (o := .lst (ps.map V.str)) nb)
      have hS4 : ∀ H', Same (upd H3 b (.lst (ps.map V.str))) H' → SqT K H' kk (ks.map V.str) := fun H' s => hS3 H' ((Same.new nb).trans s)
      have hb : upd H3 b (.lst (ps.map V.str)) b = some (.lst (ps.map V.str)) := upd_same
      revert k4 hS4 hb
      generalize upd H3 b _ = H4
      intro k4 hS4 hb
      refine ⟨.tup kk, .lst b, ks.map V.str, ps.map V.str, rfl, hS4 _ (Same.refl _), sq_of hb, fun D nD => lc_it (walk_zipS (K := K) (k1 := .tup kk) (k2 := .lst b) (xs := ks.map V.str) (ys := ps.map V.str) (n := ks.length) (by rw [List.length_map, List.length_map]; omega)) (fun i H' => Same H4 H' ∧ H' D = some (.lst ((List.zipWith rdP ks ps).take i))) ⟨Same.new nD, by rw [List.take_zero]; exact upd_same⟩ (fun i H' _ g => ⟨hS4 _ g.1, sq_of (g.1 _ _ hb)⟩) ?_ ?_⟩
      · rintro i v H5 H6 hi ⟨k5, hD⟩ ⟨t, y1, y2, rfl, nt, rfl, e1, e2⟩
        have kt := Same.new (H := H5) (o := .tup [y1, y2]) nt
        have h1 : i < ks.length := hi
        have h2 : i < ps.length := by omega
        have e1 : (ks.map V.str)[i]? = some y1 := e1
        have e2 : (ps.map V.str)[i]? = some y2 := e2
        rw [List.getElem?_map, List.getElem?_eq_getElem h1] at e1
        rw [List.getElem?_map, List.getElem?_eq_getElem h2] at e2
        have e1 := Option.some.inj e1
        have e2 := Option.some.inj e2
        subst e1 e2
        obtain ⟨s1, s2⟩ := hps _ (List.getElem_mem h2)
        refine ⟨t, _, rfl, SqT.of upd_same, rfl, _, _, rfl, _, [], rfl, rfl, rfl, _, rfl, _, rfl, ks[i], ps[i], rfl, kk_ok _ (List.getElem_mem h1), s1, by omega, _, kt _ _ hD, ?_, sameAt (k5.trans kt) nD, ?_⟩
        · rw [List.length_take, List.length_zipWith]
          omega
        · rw [upd_same, List.take_succ, List.getElem?_zipWith, List.getElem?_eq_getElem h1, List.getElem?_eq_getElem h2]
          rfl
      · rintro H5 ⟨k5, hD⟩
        rw [List.take_of_length_le (by rw [List.length_zipWith]; omega)] at hD
        dsimp only [tNext, tDrop, tSeq]
        refine ⟨.ref D, rfl, D, _, rfl, .inl (sq_of hD), rfl, zipWith_flat ks ps, _, rfl, ?_⟩
        rw [show (if false = true then !inV V.non (List.zipWith rdP ks ps) else inV V.non (List.zipWith rdP ks ps)) = decide (V.non ∈ List.zipWith rdP ks ps) from in_non]
        have k5' := k4.trans k5
        by_cases cn : V.non ∈ List.zipWith rdP ks ps
        · rw [decide_eq_true cn]
          have : lineL ks ps = none := if_neg fun h => h.2 cn
          rw [this] at q0
          exact iteT (q0 rfl H5 k5')
        · rw [decide_eq_false cn]
          have : lineL ks ps = some (List.zipWith rdP ks ps) := if_pos ⟨el, cn⟩
          rw [this] at q1
          have q1 := q1 _ rfl
          refine iteF ⟨.str y, rfl, by show 1 ≤ sizeLine; decide, fun t nt => ⟨.ref D, rfl, D, _, rfl, .inl ⟨sq_of ((Same.new nt) _ _ hD), fun l2 nl => ⟨t, l2, [.str y], List.zipWith rdP ks ps, rfl, rfl, (Same.new nl) _ _ upd_same, upd_same, ?_, fun p H' s h => q1 p H' (((k5'.trans (Same.new nt)).trans (Same.new nl)).trans s) h⟩⟩⟩⟩
          rw [List.length_zipWith]
          show 1 + _ ≤ 1000
          omega
end
end LawK
set_option maxHeartbeats 4000000
namespace LawK
open PySem PySem.Spec PyProof.Rows L2 Ev

theorem form_parts {x : V} {ps : List V} (h : HasForm (some (x :: ps))) : ∀ v ∈ ps, (∃ i, v = .int i) ∨ ∃ z, v = .str z := by
  obtain ⟨e, he, ho⟩ := h
  injection he with he
  intro v hv
  have hm : ∀ v ∈ e.vals.tail, (∃ i, v = V.int i) ∨ ∃ z, v = V.str z := by
    cases e <;> simp [Ed.vals]
  rw [← he] at hm
  exact hm v hv
theorem form_join {ps : List V} (h : HasForm (some (.str (Str.ofString "join") :: ps))) : ∃ t u, ps = [.int t, .int u] := by
  have f := (form_iff (z := Str.ofString "join") (ks := [kNum, kNum]) (by decide +kernel)).mp h
  obtain ⟨a, b, rfl⟩ := len2 f.1
  obtain ⟨h1, h2⟩ := all_cons.mp f.2
  obtain ⟨h2, _⟩ := all_cons.mp h2
  obtain ⟨n, rfl⟩ := many_num (.inl rfl) h1
  obtain ⟨m, rfl⟩ := many_num (.inl rfl) h2
  exact ⟨_, _, rfl⟩
/-- of the numbers among the parts, which are small -/
def smF : V → Option Bool
  | .int i => some (decide (i < 10000))
  | _ => none
theorem sm_all {ps : List V} : ((ps.filterMap smF).all id) = true ↔ ∀ i, V.int i ∈ ps → i < 10000 := by
  rw [List.all_eq_true]
  constructor
  · intro h i hi
    have := h (decide (i < 10000)) (List.mem_filterMap.mpr ⟨_, hi, rfl⟩)
    exact of_decide_eq_true this
  · intro h b hb
    obtain ⟨v, hv, e⟩ := List.mem_filterMap.mp hb
    cases v with
    | int i =>
      cases e
      exact decide_eq_true (h i hv)
    | _ => cases e
theorem small_log {n : Int} (h0 : 0 ≤ n) (h1 : n < 10000) : n.natAbs.log2 < 1920 := Nat.lt_of_le_of_lt (Nat.log2_le_self _) (by omega) |> fun (h : n.natAbs.log2 < 10000) => by
  by_cases n0 : n.natAbs = 0
  · rw [n0]
    decide
  · have : n.natAbs.log2 < 14 := (Nat.log2_lt n0).mpr (by show n.natAbs < 16384; omega)
    omega
theorem tx_parts {xs : List V} (h : HasTx xs) : ∀ v ∈ xs, (∃ i, v = .int i ∧ 0 ≤ i ∧ i < 10000) ∨ ∃ z, v = .str z := by
  intro v hv
  have hs : ∀ i, v = .int i → i < 10000 := fun i e => h.2.1 i (e ▸ hv)
  obtain ⟨e, he, ho⟩ := h.1
  cases he
  have hm : (∃ i, v = .int i ∧ 0 ≤ i) ∨ ∃ z, v = .str z := by
    cases e <;> simp only [Ed.vals, List.mem_cons, List.not_mem_nil, or_false] at hv <;> simp only [Ed.ok] at ho
    all_goals first
      | (rcases hv with rfl | rfl | rfl | rfl | rfl | rfl <;> first | exact .inr ⟨_, rfl⟩ | exact .inl ⟨_, rfl, by omega⟩)
      | (rcases hv with rfl | rfl | rfl | rfl <;> first | exact .inr ⟨_, rfl⟩ | exact .inl ⟨_, rfl, by omega⟩)
      | (rcases hv with rfl | rfl | rfl <;> first | exact .inr ⟨_, rfl⟩ | exact .inl ⟨_, rfl, by omega⟩)
      | (rcases hv with rfl | rfl <;> first | exact .inr ⟨_, rfl⟩ | exact .inl ⟨_, rfl, by omega⟩)
      | (subst hv; exact .inr ⟨_, rfl⟩)
  rcases hm with ⟨i, e, h0⟩ | hz
  · exact .inl ⟨i, e, h0, hs i e⟩
  · exact .inr hz
theorem sum_shV : ∀ {xs : List V}, (∀ v ∈ xs, (∃ i, v = .int i ∧ 0 ≤ i ∧ i < 10000) ∨ ∃ z, v = .str z ∧ z.length ≤ 5000) → ((xs.map shV).map (·.length)).sum ≤ xs.length * 5000
  | [], _ => Nat.zero_le _
  | v :: xs, h => by
    have ih := sum_shV (xs := xs) fun u hu => h u (List.mem_cons_of_mem _ hu)
    rw [List.map_cons, List.map_cons, List.sum_cons, List.length_cons, Nat.add_mul]
    have : (shV v).length ≤ 5000 := by
      rcases h v List.mem_cons_self with ⟨i, rfl, h0, h1⟩ | ⟨z, rfl, l⟩
      · obtain ⟨n, rfl⟩ := Int.eq_ofNat_of_zero_le h0
        exact Nat.le_trans (num_len (by omega)) (by decide)
      · exact l
    omega
def spHasText : Sp := fun vs H Q _ => ∃ (x : V) (o : Option (List V)), vs = [x] ∧ Tg H x o ∧ ∀ b H', (b = true ↔ HasT o) → Same H H' → Q (.bl b) H'
/-- no text of it is too long -/
def ShT (o : Option (List V)) : Prop := ∀ xs, o = some xs → ∀ z, V.str z ∈ xs → z.length ≤ 2500
def spETextE (cE : Addr) : Sp := fun vs H Q E => ∃ (x : V) (o : Option (List V)), vs = [x] ∧ Tg H x o ∧ (¬ HasT o → ∀ H', Same H H' → E (.ref cE) none H') ∧ ∀ xs H', o = some xs → HasTx xs → Same H H' → Q (.str (shw xs)) H'
section
variable {P : Program} {w : World} {K : PySem.W.Frag} {mg : Str → Option Value} {base : Heap}
variable {PE cE : Addr}
abbrev sQHasText : Stmt := topS 19
theorem scQHasText : FnScope ["thing", "part"] ["thing"] (defScope sQHasText) := ⟨rfl, rfl, rfl, by decide +kernel, rfl, by decide +kernel, by decide +kernel⟩
theorem ok_QHasText {f : Addr} {fd : FuncData} (F : Fun K "_has_text" "_has_text" sQHasText f fd) {tN : Tok} (gN : mg "NUMBERS" = some (.int 10000 tN)) {fQHasForm : Addr} {fdQHasForm : FuncData} (DQHasForm : Dk P w K mg base "has_form" sQHasForm ["thing"] 4 spForm fQHasForm fdQHasForm) (T : Glob mg) : FnOk P w K mg base CX0 5 f fd ["thing"] spHasText := by
  refine F.ok scQHasText (fun vs H Q E h => ?_) (fun cdv A outer s H vs Q E hr h => ?_)
  · obtain ⟨x, o, rfl, _⟩ := h
    rfl
  · refine ⟨_, (pss_cons (ps_if (pt_not (pt_val (pe_call DQHasForm.ok (hr.mono (by decide)) (by rfl) DQHasForm.g DQHasForm.F.kp DQHasForm.b .nil pass0 (pa_cons (pv 0) pa_nil))))
      (pss_one (ps_ret pe_bl))
      pss_nil)
      (pss_cons (ps_if (PW.pt (pw_and (pt_cmpR op_eq (pe_ix ix_tup (pv 0) pe_int (fun _ _ => rfl)) pe_str (nomark _)) (pw_and1 (pt_cmpR op_eq (pe_ix ix_tup (pv 0) pe_int (fun _ _ => rfl)) (pe_ix ix_tup (pv 0) pe_int (fun _ _ => rfl)) (nomark _)))))
      (pss_one (ps_ret pe_bl))
      pss_nil)
      (pss_one (ps_ret (pe_callB (cr_all rfl) (by rfl) T.all (by decide +kernel) (pa_cons (pe_lc (own := [("part", 1)]) (g := gName 1) (by rfl) scQHasText.nd (pi_tup (pe_slice sl_tupM (pv 0) (po_some pe_int) po_none)) (blkOk_by (N := ["thing", "part"]) (sc := defScope sQHasText) (by decide +kernel)) (fun _ _ _ _ _ => pg_name (i := 1) scQHasText.nd rfl (.inl rfl)) (fun _ _ _ _ _ => (pts_one (pt_val (pe_callB (r := rIsi K) call_isi (by rfl) T.isinstance PyProof.Rows.boot_isinstance (pa_cons (pv 1) (pa_cons (pe_bltn (v := .ty "int") (by rfl) T.int (by decide +kernel) rfl) pa_nil)))))) (fun _ _ _ _ _ => (pe_cmpR op_lt (pv 1) (pe_glob (v := .int 10000) (by rfl) gN ⟨_, rfl⟩) (nomark _)))) pa_nil)))))), ?_⟩
    obtain ⟨x, o, rfl, hT, q⟩ := h
    refine ⟨x, rfl, x, o, rfl, hT, fun b H1 hb k1 => ⟨_, rfl, ?_⟩⟩
    cases b with
    | false => exact iteT (q false H1 (iff_of_false (by decide) fun ⟨xs, e, h⟩ => by
        have := hb.mpr (e ▸ h.1)
        cases this) k1)
    | true =>
      have hf := hb.mp rfl
      refine iteF ?_
      dsimp only [tNext, tDrop, tSeq]
      cases hT with
      | no _ _ _ => exact absurd hf form_none
      | @tup a xs e n hy =>
        cases xs with
        | nil => exact absurd hf form_nil
        | cons y ps =>
          obtain ⟨w, rfl⟩ := form_str hf
          have e1 := k1 _ _ e
          have hps := form_parts hf
          have n' : ps.length ≤ 30 := by
            rw [List.length_cons] at n
            omega
          have fin : ∀ H2, Same H1 H2 → ∀ D, H2 D = none → True := fun _ _ _ _ => trivial
          refine (?_ : ∀ Q' : Bool → Hp → Prop, Q' (decide (w = Str.ofString "join" ∧ ps[0]? = ps[1]?)) H1 → tAnd _ _ _ H1 Q') _ ?_
          · intro Q' q'
            refine ⟨.ref a, rfl, a, _, 0, .str w, rfl, rfl, SqT.of e1, atI_nat (j := 0) rfl, rfl, _, rfl, ite2 (fun c => ?_) (fun c => ?_)⟩
            · have c := V.str.inj (of_decide_eq_true c)
              subst c
              obtain ⟨t, u, rfl⟩ := form_join hf
              refine ⟨.ref a, rfl, a, _, 1, .int t, rfl, rfl, SqT.of e1, rfl, .ref a, rfl, a, _, 2, .int u, rfl, rfl, SqT.of e1, rfl, rfl, _, rfl, ?_⟩
              have ed : decide (Str.ofString "join" = Str.ofString "join" ∧ ([V.int t, V.int u] : List V)[0]? = [V.int t, V.int u][1]?) = decide (V.int t = V.int u) := decide_eq_decide.mpr ⟨fun h => Option.some.inj h.2, fun h => ⟨rfl, congrArg some h⟩⟩
              rw [ed] at q'
              exact q'
            · have ed : decide (w = Str.ofString "join" ∧ ps[0]? = ps[1]?) = false := decide_eq_false fun h => c (decide_eq_true (congrArg V.str h.1))
              rw [ed] at q'
              exact q'
          have hx : HasT (some (.str w :: ps)) ↔ (∀ i, V.int i ∈ ps → i < 10000) ∧ ¬ (w = Str.ofString "join" ∧ ps[0]? = ps[1]?) := by
            constructor
            · rintro ⟨xs, e, h⟩
              cases e
              exact ⟨fun i hi => h.2.1 i (List.mem_cons_of_mem _ hi), fun c => h.2.2 ⟨congrArg some (congrArg V.str c.1), c.2⟩⟩
            · rintro ⟨h1, h2⟩
              exact ⟨_, rfl, hf, fun i hi => (List.mem_cons.mp hi).elim (fun e => by cases e) (h1 i), fun c => h2 ⟨V.str.inj (Option.some.inj c.1), c.2⟩⟩
          refine ite2 (fun c => ?_) (fun c => ?_)
          · exact q false H1 (iff_of_false (by decide) fun h => (hx.mp h).2 (of_decide_eq_true c)) k1
          · have c : ¬ (w = Str.ofString "join" ∧ ps[0]? = ps[1]?) := fun h => c (decide_eq_true h)
            dsimp only [tNext, tDrop, tSeq]
            refine ⟨.ref a, rfl, 1, rfl, a, _, rfl, e1, fun b H2 k2 hb2 => ?_⟩
            have eps : cutV (V.str w :: ps) (some 1) none = ps := by
              rw [cutV_from (by decide)]
              rfl
            rw [eps] at hb2
            refine ⟨b, rfl, ⟨_, SqT.of hb2⟩, fun D nD => lc_it (walk_tup (K := K) (a := b) (xs := ps)) (fun i H' => Same H2 H' ∧ H' D = some (.lst (((ps.take i).filterMap smF).map V.bl))) ⟨Same.new nD, upd_same⟩ (fun i H' _ g => SqT.of (g.1 _ _ hb2)) ?_ ?_⟩
            · rintro i v H3 H4 hi ⟨k3, hD⟩ ⟨rfl, hv⟩
              have hm := List.mem_of_getElem? hv
              have sz : sizeLine = 16777216 := sizeLine_eq
              rcases hps v hm with ⟨n, rfl⟩ | ⟨z, rfl⟩
              · have ef : (ps.take (i + 1)).filterMap smF = (ps.take i).filterMap smF ++ [decide (n < 10000)] := by
                  rw [List.take_succ, hv, List.filterMap_append]
                  rfl
                refine ⟨rfl, .int n, rfl, .int n, .ty "int", .type (Kn.name .int), .type "int", kitB .int .int, rfl, .ty _, Kd.tyx (.int n), kit_kn .int .int, _, rfl, iteT ⟨.int n, rfl, n, 10000, rfl, rfl, _, hD, ?_, sameAt k3 nD, ?_⟩⟩
                · rw [List.length_map]
                  have := List.length_filterMap_le smF (ps.take i)
                  rw [List.length_take] at this
                  omega
                · rw [upd_same, ef, List.map_append]
                  rfl
              · have ef : (ps.take (i + 1)).filterMap smF = (ps.take i).filterMap smF := by
                  rw [List.take_succ, hv, List.filterMap_append]
                  show _ ++ [] = _
                  rw [List.append_nil]
                refine ⟨rfl, .str z, rfl, .str z, .ty "int", .type (Kn.name .str), .type "int", kitB .str .int, rfl, .ty _, Kd.tyx (.str z), kit_kn .str .int, _, rfl, iteF ⟨k3, ?_⟩⟩
                rw [ef]
                exact hD
            · rintro H3 ⟨k3, hD⟩
              rw [List.take_of_length_le (Nat.le_refl _)] at hD
              refine ⟨D, _, rfl, sq_of hD, ?_⟩
              refine q _ H3 ?_ ((k1.trans k2).trans k3)
              rw [hx]
              exact ⟨fun h => ⟨sm_all.mp h, c⟩, fun h => sm_all.mpr h.1⟩
abbrev sPEditText : Stmt := topS 20
theorem scPEditText : FnScope ["edit", "part"] ["edit"] (defScope sPEditText) := ⟨rfl, rfl, rfl, by decide +kernel, rfl, by decide +kernel, by decide +kernel⟩
theorem ok_PEditText {f : Addr} {fd : FuncData} (F : Fun K "edit_text" "edit_text" sPEditText f fd) (ENoEdit : Cls0 P K mg PE "NoEdit" cE) {fQHasText : Addr} {fdQHasText : FuncData} (DQHasText : Dk P w K mg base "_has_text" sQHasText ["thing"] 5 spHasText fQHasText fdQHasText) (T : Glob mg) : FnOk P w K mg base (L2.CX P w) 6 f fd ["edit"] (spETextE cE) := by
  obtain ⟨fW, SNoEdit⟩ := ENoEdit.sup
  refine F.okX scPEditText (fun vs H Q E h => ?_) (fun cdv A outer s H vs Q E hr h => ?_)
  · obtain ⟨x, o, rfl, _⟩ := h
    rfl
  · refine ⟨_, (pss_cons (ps_if (pt_not (pt_val (pe_call DQHasText.ok (hr.mono (by decide)) (by rfl) DQHasText.g DQHasText.F.kp DQHasText.b .nil pass0 (pa_cons (pv 0) pa_nil))))
      (pss_one (ps_raise rfl (takes_of rfl rfl rfl rfl) (pmk_exc0 SNoEdit hr (by rfl) ENoEdit.g)))
      pss_nil)
      (pss_one (ps_ret (pe_join pe_str (pe_lc (own := [("part", 1)]) (g := gName 1) (by rfl) scPEditText.nd (pi_tup (pv 0)) (blkOk_by (N := ["edit", "part"]) (sc := defScope sPEditText) (by decide +kernel)) (fun _ _ _ _ _ => pg_name (i := 1) scPEditText.nd rfl (.inl rfl)) (fun _ _ _ _ _ => pts_nil) (fun _ _ _ _ _ => (pe_callTy (CallR.or call_str_int SkE.call_str_str) (by rfl) T.str (by decide +kernel) (pa_cons (pv 1) pa_nil)))))))), ?_⟩
    obtain ⟨x, o, rfl, hT, q0, q1⟩ := h
    refine ⟨x, rfl, x, o, rfl, hT, fun b H1 hb k1 => ⟨_, rfl, ?_⟩⟩
    cases b with
    | false => exact iteT (q0 (fun h => by have := hb.mpr h; cases this) H1 k1)
    | true =>
      obtain ⟨xs, rfl, hx⟩ := hb.mp rfl
      have sz : sizeLine = 16777216 := sizeLine_eq
      refine iteF ?_
      dsimp only [tNext, tDrop, tSeq]
      cases hT with
      | @tup a _ e n hy =>
        have e1 := k1 _ _ e
        have hps : ∀ v ∈ xs, (∃ i, v = .int i ∧ 0 ≤ i ∧ i < 10000) ∨ ∃ z, v = .str z ∧ z.length ≤ 5000 := fun v hv => by
          rcases tx_parts hx v hv with ⟨i, rfl, h⟩ | ⟨z, rfl⟩
          · exact .inl ⟨i, rfl, h⟩
          · exact .inr ⟨z, rfl, (hy _ hv).2 z rfl⟩
        refine ⟨⟨_, rfl⟩, .ref a, rfl, a, rfl, ⟨_, SqT.of e1⟩, fun D nD => lc_it (walk_tup (K := K) (a := a) (xs := xs)) (fun i H' => Same H1 H' ∧ H' D = some (.lst (((xs.take i).map shV).map V.str))) ⟨Same.new nD, upd_same⟩ (fun i H' _ g => SqT.of (g.1 _ _ e1)) ?_ ?_⟩
        · rintro i v H3 H4 hi ⟨k3, hD⟩ ⟨rfl, hv⟩
          have hm := List.mem_of_getElem? hv
          have ef : (xs.take (i + 1)).map shV = (xs.take i).map shV ++ [shV v] := by
            rw [List.take_succ, hv, List.map_append]
            rfl
          have lt : (((xs.take i).map shV).map V.str).length < sizeLine := by
            rw [List.length_map, List.length_map, List.length_take]
            omega
          have put : upd H4 D (.lst (((xs.take i).map shV).map V.str ++ [V.str (shV v)])) D = some (.lst (((xs.take (i + 1)).map shV).map V.str)) := by
            rw [upd_same, ef, List.map_append]
            rfl
          rcases hps v hm with ⟨n, rfl, n0, n1⟩ | ⟨z, rfl, lz⟩
          · refine ⟨rfl, .int n, rfl, .inl ⟨n, rfl, small_log n0 n1, _, hD, lt, sameAt k3 nD, put⟩⟩
          · exact ⟨rfl, .str z, rfl, .inr ⟨z, rfl, _, hD, lt, sameAt k3 nD, put⟩⟩
        · rintro H3 ⟨k3, hD⟩
          rw [List.take_of_length_le (Nat.le_refl _)] at hD
          refine ⟨Str.ofString " ", D, xs.map shV, rfl, rfl, .inl (sq_of hD), ?_, q1 xs H3 rfl hx (k1.trans k3)⟩
          have h1 := sum_shV hps
          rw [List.length_map]
          have : (Str.ofString " ").length = 1 := sp_len
          rw [this]
          omega
end
end LawK
set_option maxHeartbeats 4000000
namespace LawK
open PySem PySem.Spec PyProof.Rows L2 Ev

theorem tl_len {s r : List Nat} (h : tlW s = some r) : r.length ≤ s.length := by
  have := congrArg List.length (w_put s).1
  rw [h, List.length_append] at this
  have t : (spT (some r)).length = r.length + 1 := rfl
  omega
theorem rdK_parts : ∀ (ks : List Str) (t : Option (List Nat)) (vs : List V) (N : Nat), rdK ks t = some vs → (∀ r, t = some r → r.length ≤ N) → vs.length ≤ ks.length ∧ ∀ v ∈ vs, (∃ i, v = .int i) ∨ ∃ z, v = .str z ∧ z.length ≤ N
  | [], none, vs, N, h, _ => by
    cases h
    exact ⟨Nat.le_refl _, fun v hv => by cases hv⟩
  | [], some _, vs, N, h, _ => by cases h
  | _ :: _, none, vs, N, h, _ => by cases h
  | k :: ks, some r, vs, N, h, l => by
    have lr := l r rfl
    unfold rdK at h
    by_cases c : k = kNum ∨ k = kMany
    · rw [if_pos c] at h
      by_cases g : figV (SX.S (hdW r)) = .non
      · rw [g] at h
        cases h
      · obtain ⟨n, e, en, _⟩ := fig_some g
        rw [e] at h
        obtain ⟨us, hu, rfl⟩ := Option.map_eq_some_iff.mp h
        obtain ⟨a, b⟩ := rdK_parts ks _ us N hu fun q hq => Nat.le_trans (tl_len hq) lr
        refine ⟨by simp only [List.length_cons]; omega, fun v hv => ?_⟩
        rcases List.mem_cons.mp hv with rfl | hv
        · exact .inl ⟨_, rfl⟩
        · exact b v hv
    · rw [if_neg c] at h
      by_cases c2 : k = kWord ∧ r = []
      · rw [if_pos c2] at h
        cases h
      · rw [if_neg c2] at h
        cases h
        refine ⟨by simp, fun v hv => ?_⟩
        rw [List.mem_singleton.mp hv]
        exact .inr ⟨_, rfl, lr⟩
theorem line_parts {x : V} {xs : List V} (hv : Vs x) (h : lineO x = some xs) : xs.length ≤ 6 ∧ ∀ v ∈ xs, (∃ i, v = .int i) ∨ ∃ z, v = .str z ∧ z.length ≤ 5000 := by
  cases hs : sgV x with
  | false =>
    rw [line_no hs] at h
    cases h
  | true =>
    obtain ⟨z, rfl⟩ := sg_str hs
    rw [line_yes hs] at h
    have lz := hv z rfl
    unfold readL at h
    cases hw : kindsOf (SX.S (hdW (cod z))) with
    | none =>
      rw [hw] at h
      cases h
    | some ks =>
      rw [hw] at h
      obtain ⟨vs, h2, rfl⟩ := Option.map_eq_some_iff.mp h
      obtain ⟨a, b⟩ := rdK_parts ks _ vs 5000 h2 fun r hr => Nat.le_trans (tl_len hr) (by rw [cod_len]; exact lz)
      have := kinds_few hw
      refine ⟨by rw [List.length_cons]; omega, fun v hv => ?_⟩
      rcases List.mem_cons.mp hv with rfl | hv
      · refine .inr ⟨_, rfl, ?_⟩
        have := congrArg List.length (w_put (cod z)).1
        rw [List.length_append, cod_len] at this
        show (hdW (cod z)).length ≤ 5000
        omega
      · exact b v hv
theorem tg_of {H : Hp} {t : Addr} {xs : List V} (e : H t = some (.tup xs)) (n : xs.length ≤ 6) (h : ∀ v ∈ xs, (∃ i, v = .int i) ∨ ∃ z, v = .str z ∧ z.length ≤ 5000) : Tg H (.ref t) (some xs) := .tup e (by omega) fun y hy => by
  rcases h y hy with ⟨i, rfl⟩ | ⟨z, rfl, l⟩
  · exact ⟨⟨_, .int i⟩, fun z e => by cases e⟩
  · exact ⟨⟨_, .str z⟩, fun y e => by cases e; exact l⟩
open Classical in
noncomputable def readT (x : V) : Option (List V) := match lineO x with
  | none => none
  | some xs => if HasTx xs then some xs else none
def spREdit : Sp := fun vs H Q _ => ∃ (x : V) (k : Kn), vs = [x] ∧ Kd H x k ∧ Vs x ∧ (readT x = none → ∀ H', Same H H' → Q .non H') ∧ ∀ xs, readT x = some xs → ∀ t H', Same H H' → H' t = some (.tup xs) → Q (.ref t) H'
theorem readT_none {x : V} (h : lineO x = none) : readT x = none := by
  unfold readT
  rw [h]
theorem readT_no {x : V} {xs : List V} (h : lineO x = some xs) (n : ¬ HasTx xs) : readT x = none := by
  unfold readT
  rw [h]
  exact if_neg n
theorem readT_yes {x : V} {xs : List V} (h : lineO x = some xs) (n : HasTx xs) : readT x = some xs := by
  unfold readT
  rw [h]
  exact if_pos n
section
variable {P : Program} {w : World} {K : PySem.W.Frag} {mg : Str → Option Value} {base : Heap}
abbrev sPReadEdit : Stmt := topS 21
theorem scPReadEdit : FnScope ["text", "edit"] ["text"] (defScope sPReadEdit) := ⟨rfl, rfl, rfl, by decide +kernel, rfl, by decide +kernel, by decide +kernel⟩
theorem ok_PReadEdit {f : Addr} {fd : FuncData} (F : Fun K "read_edit" "read_edit" sPReadEdit f fd) {aF : Addr} {kvF : List (Str × V)} (FC : FormsC K w mg aF kvF) (nF : (kvF.map (·.1)).Nodup) (lF : kvF.length ≤ 100) (gdict : mg "dict" = none) {fPReadLine : Addr} {fdPReadLine : FuncData} (DPReadLine : Dk P w K mg base "read_line" sPReadLine ["line", "forms"] 3 (spRLine kvF) fPReadLine fdPReadLine) {fQHasText : Addr} {fdQHasText : FuncData} (DQHasText : Dk P w K mg base "_has_text" sQHasText ["thing"] 5 spHasText fQHasText fdQHasText) (T : Glob mg) : FnOk P w K mg base CX0 6 f fd ["text"] spREdit := by
  refine F.ok scPReadEdit (fun vs H Q E h => ?_) (fun cdv A outer s H vs Q E hr h => ?_)
  · obtain ⟨x, k, rfl, _⟩ := h
    rfl
  · refine ⟨_, (pss_cons (ps_set (i := 1) scPReadEdit.nd rfl (.inl rfl) (pe_call DPReadLine.ok (hr.mono (by decide)) (by rfl) DPReadLine.g DPReadLine.F.kp DPReadLine.b .nil pass0 (pa_cons (pv 0) (pa_cons (pe_callTy call_dictKD (by rfl) gdict (by decide +kernel) (pa_cons (pe_glob (v := .ref aF) (by rfl) FC.g rfl) pa_nil)) pa_nil))))
      (pss_one (ps_ret (pe_ifExp (pt_val (pe_call DQHasText.ok (hr.mono (by decide)) (by rfl) DQHasText.g DQHasText.F.kp DQHasText.b .nil pass0 (pa_cons (pv 1) pa_nil))) (pv 1) pe_non)))), ?_⟩
    obtain ⟨x, k, rfl, hk, hv, q0, q1⟩ := h
    have sz : sizeLine = 16777216 := sizeLine_eq
    refine ⟨x, rfl, aF, kvF, rfl, FC.kd, nF, by omega, fun d nd => ?_⟩
    have k1 := Same.new (H := H) (o := .dK (kdK kvF)) nd
    have hd : upd H d (.dK (kdK kvF)) d = some (.dK (kdK kvF)) := upd_same
    revert k1 hd
    generalize upd H d _ = H1
    intro k1 hd
    refine ⟨x, k, d, rfl, hk.same k1, hv, hd, fun no H2 k2 => ?_, fun xs yes t H2 k2 ht => ?_⟩
    · dsimp only [tNext, tSeq, tAsg, gName]
      have q0 := q0 (readT_none no)
      refine ⟨.non, rfl, .non, none, rfl, .no .non (by decide) (fun z e => by cases e), fun b H3 hb k3 => ⟨_, rfl, ?_⟩⟩
      have : b = false := by
        cases b with
        | false => rfl
        | true => exact absurd (hb.mp rfl) fun ⟨xs, e, _⟩ => by cases e
      rw [this]
      exact iteF (q0 H3 ((k1.trans k2).trans k3))
    · dsimp only [tNext, tSeq, tAsg, gName]
      obtain ⟨l6, hp⟩ := line_parts hv yes
      refine ⟨.ref t, rfl, .ref t, some xs, rfl, tg_of ht l6 hp, fun b H3 hb k3 => ⟨_, rfl, ?_⟩⟩
      have k13 := (k1.trans k2).trans k3
      cases b with
      | false => exact iteF (q0 (readT_no yes fun h => by have := hb.mpr ⟨xs, rfl, h⟩; cases this) H3 k13)
      | true =>
        obtain ⟨ys, e, h⟩ := hb.mp rfl
        cases e
        exact iteT ⟨.ref t, rfl, q1 xs (readT_yes yes h) t H3 k13 (k3 _ _ ht)⟩
end
end LawK
set_option maxHeartbeats 4000000
namespace LawK
open PySem PySem.Spec PyProof.Rows L2 Ev
theorem eqv_yes {z v : Str} {n m : Int} (h : z = v ∧ n = m) {A B : Prop} (k : A) : if PyData.eqv (.tuple [.str z, .int n]) (.tuple [.str v, .int m]) = true then A else B := by
  have e : PyData.eqv (.tuple [.str z, .int n]) (.tuple [.str v, .int m]) = (z == v && (n == m && true)) := rfl
  rw [e, h.1, h.2, beq_self_eq_true, beq_self_eq_true]
  exact iteT k
theorem eqv_false {z v : Str} {n m : Int} (h : ¬ (z = v ∧ n = m)) : PyData.eqv (.tuple [.str z, .int n]) (.tuple [.str v, .int m]) = false := by
  have e : PyData.eqv (.tuple [.str z, .int n]) (.tuple [.str v, .int m]) = (z == v && (n == m && true)) := rfl
  rw [e]
  cases q : (z == v && (n == m && true)) with
  | false => rfl
  | true =>
    obtain ⟨q1, q2⟩ := Bool.and_eq_true_iff.mp q
    rw [Bool.and_true] at q2
    exact absurd ⟨eq_of_beq q1, eq_of_beq q2⟩ h
theorem eqv_no {z v : Str} {n m : Int} (h : ¬ (z = v ∧ n = m)) {A B : Prop} (k : B) : if PyData.eqv (.tuple [.str z, .int n]) (.tuple [.str v, .int m]) = true then A else B := by
  rw [eqv_false h]
  exact iteF k
theorem sh_pair {z : Str} {n : Int} (h : PyData.strOk z = true) : SeqAt.shaped (.tuple [.str z, .int n]) = true := by
  show ((PyData.strOk z && (true && true)) && decide (PyData.depth (.tuple [.str z, .int n]) ≤ 64)) = true
  rw [h]
  rfl
theorem dp_pair {K : PySem.W.Frag} {H : Hp} {z : Str} {n : Int} : DpAll K H [.str z, .int n] [.str z, .int n] := .cons (.str z) (.cons (.int n) .nil)

theorem any_pair (w : Str) (n : Int) : ∀ l : List (Str × Int), ((l.map fun p => PyData.tuple [.str p.1, .int p.2]).any fun z => PyData.eqv z (.tuple [.str w, .int n])) = decide ((w, n) ∈ l)
  | [] => rfl
  | p :: l => by
    rw [List.map_cons, List.any_cons, any_pair w n l]
    by_cases c : (w, n) = p
    · subst c
      have e : PyData.eqv (.tuple [.str w, .int n]) (.tuple [.str w, .int n]) = (w == w && (n == n && true)) := rfl
      rw [e, beq_self_eq_true, beq_self_eq_true, decide_eq_true List.mem_cons_self]
      rfl
    · rw [eqv_false (z := p.1) (n := p.2) fun h => c (Prod.ext h.1.symm h.2.symm), Bool.false_or]
      exact decide_eq_decide.mpr ⟨fun h => List.mem_cons_of_mem _ h, fun h => (List.mem_cons.mp h).elim (fun e => absurd e c) id⟩
/-- no text of it is too long, and each can be shown -/
def Shr (o : Option (List V)) : Prop := ∀ xs, o = some xs → ∀ z, V.str z ∈ xs → z.length ≤ 2500 ∧ PyData.strOk z = true
theorem hasT_iff {w : Str} {ps : List V} : HasT (some (.str w :: ps)) ↔ (∃ ks, kindsOf w = some ks ∧ ps.length = ks.length ∧ allP ks ps = true) ∧ (∀ i, V.int i ∈ ps → i < 10000) ∧ ¬ (w = Str.ofString "join" ∧ ps[0]? = ps[1]?) := by
  constructor
  · rintro ⟨xs, e, h⟩
    cases e
    refine ⟨?_, fun i hi => h.2.1 i (List.mem_cons_of_mem _ hi), fun c => h.2.2 ⟨congrArg some (congrArg V.str c.1), c.2⟩⟩
    cases hw : kindsOf w with
    | none => exact absurd h.1 (no_form_kinds hw)
    | some ks => exact ⟨ks, rfl, (form_iff hw).mp h.1⟩
  · rintro ⟨⟨ks, hw, hf⟩, h1, h2⟩
    exact ⟨_, rfl, (form_iff hw).mpr hf, fun i hi => (List.mem_cons.mp hi).elim (fun e => by cases e) (h1 i), fun c => h2 ⟨V.str.inj (Option.some.inj c.1), c.2⟩⟩
theorem in_num {v : V} : inV2 0 9999 v = true ↔ numV v = true ∧ ∀ i, v = .int i → i < 10000 := by
  cases v with
  | int i =>
    show (decide (0 ≤ i) && decide (i ≤ 9999)) = true ↔ decide (0 ≤ i) = true ∧ _
    rw [Bool.and_eq_true_iff, decide_eq_true_iff, decide_eq_true_iff]
    exact ⟨fun h => ⟨h.1, fun j e => by cases e; omega⟩, fun h => ⟨h.1, by have := h.2 i rfl; omega⟩⟩
  | _ => exact ⟨(fun h => by cases h), fun h => by cases h.1⟩
theorem not_int {v : V} (h : sgV v = true) : ∀ i, v ≠ .int i := fun i e => by
  subst e
  cases h
theorem t_come {v : V} : HasT (some [.str (Str.ofString "come"), v]) ↔ sgV v = true := by
  rw [hasT_iff]
  have ek : kindsOf (Str.ofString "come") = some [kSigns] := by decide +kernel
  constructor
  · rintro ⟨⟨ks, hw, _, ha⟩, _, _⟩
    rw [ek] at hw
    cases hw
    rw [← part_signs]
    exact (all_cons.mp ha).1
  · intro h
    refine ⟨⟨_, ek, rfl, all_cons.mpr ⟨by rw [part_signs]; exact h, rfl⟩⟩, fun i hi => absurd (List.mem_singleton.mp hi).symm (not_int h i), fun c => absurd c.1 (by decide +kernel)⟩
theorem t_put {w : Str} (hw : w = Str.ofString "put" ∨ w = Str.ofString "change") {a b c : V} : HasT (some [.str w, a, b, c]) ↔ wordV c = true ∧ inV2 0 9999 a = true ∧ inV2 0 9999 b = true := by
  rw [hasT_iff]
  have ek : kindsOf w = some [kNum, kNum, kWord] := by rcases hw with rfl | rfl <;> decide +kernel
  have nj : w ≠ Str.ofString "join" := by rcases hw with rfl | rfl <;> decide +kernel
  rw [in_num, in_num]
  constructor
  · rintro ⟨⟨ks, hw, _, ha⟩, hs, _⟩
    rw [ek] at hw
    cases hw
    obtain ⟨h1, ha⟩ := all_cons.mp ha
    obtain ⟨h2, ha⟩ := all_cons.mp ha
    obtain ⟨h3, ha⟩ := all_cons.mp ha
    rw [part_num] at h1 h2
    rw [part_word] at h3
    exact ⟨h3, ⟨h1, fun i e => hs i (by rw [e]; simp)⟩, h2, fun i e => hs i (by rw [e]; simp)⟩
  · rintro ⟨h3, ⟨h1, s1⟩, h2, s2⟩
    refine ⟨⟨_, ek, rfl, all_cons.mpr ⟨by rw [part_num]; exact h1, all_cons.mpr ⟨by rw [part_num]; exact h2, all_cons.mpr ⟨by rw [part_word]; exact h3, rfl⟩⟩⟩⟩, fun i hi => ?_, fun c => nj c.1⟩
    rcases List.mem_cons.mp hi with e | hi
    · exact s1 i e.symm
    rcases List.mem_cons.mp hi with e | hi
    · exact s2 i e.symm
    obtain ⟨z, ez⟩ := word_str h3
    rw [ez] at hi
    exact absurd (List.mem_singleton.mp hi) (by simp)
theorem in_pos {v : V} : inV2 0 9999 v = true ∧ posV v = true ↔ partV kMany v = true ∧ ∀ i, v = .int i → i < 10000 := by
  rw [in_num, part_many, Bool.and_eq_true_iff]
  exact ⟨fun h => ⟨⟨h.1.1, h.2⟩, h.1.2⟩, fun h => ⟨⟨h.1.1, h.2⟩, h.1.2⟩⟩
/-- the edits of numbers alone -/
theorem t_nums {w : Str} {ps : List V} {ks : List Str} (hw : kindsOf w = some ks) (hl : ps.length = ks.length) (hn : ∀ k ∈ ks, k = kNum ∨ k = kMany) :
    HasT (some (.str w :: ps)) ↔ (ps.all (inV2 0 9999)) = true ∧ (∀ (i : Nat) v, ks[i]? = some kMany → ps[i]? = some v → posV v = true) ∧ ¬ (w = Str.ofString "join" ∧ ps[0]? = ps[1]?) := by
  rw [hasT_iff]
  have key : ∀ (ks : List Str) (ps : List V), ps.length = ks.length → (∀ k ∈ ks, k = kNum ∨ k = kMany) → ((allP ks ps = true ∧ ∀ i, V.int i ∈ ps → i < 10000) ↔ (ps.all (inV2 0 9999)) = true ∧ ∀ (i : Nat) v, ks[i]? = some kMany → ps[i]? = some v → posV v = true) := by
    intro ks
    induction ks with
    | nil =>
      intro ps hl _
      obtain rfl := List.length_eq_zero_iff.mp hl
      exact ⟨fun _ => ⟨rfl, fun i v h => by cases h⟩, fun _ => ⟨rfl, fun i h => by cases h⟩⟩
    | cons k ks ih =>
      intro ps hl hn
      cases ps with
      | nil => cases hl
      | cons v ps =>
        have ih := ih ps (by simpa using hl) fun k hk => hn k (List.mem_cons_of_mem _ hk)
        have hk := hn k List.mem_cons_self
        rw [all_cons, List.all_cons, Bool.and_eq_true_iff]
        constructor
        · rintro ⟨⟨h1, h2⟩, hs⟩
          obtain ⟨a, b⟩ := ih.mp ⟨h2, fun i hi => hs i (List.mem_cons_of_mem _ hi)⟩
          have nv : numV v = true := by
            obtain ⟨n, rfl⟩ := many_num hk h1
            exact num_of.mpr (by omega)
          refine ⟨⟨in_num.mpr ⟨nv, fun i e => hs i (by rw [e]; exact List.mem_cons_self)⟩, a⟩, fun i u h3 h4 => ?_⟩
          cases i with
          | zero =>
            cases h3
            cases h4
            rw [part_many] at h1
            exact (Bool.and_eq_true_iff.mp h1).2
          | succ i => exact b i u h3 h4
        · rintro ⟨⟨h1, h2⟩, hp⟩
          obtain ⟨a, b⟩ := ih.mpr ⟨h2, fun i u h3 h4 => hp (i + 1) u h3 h4⟩
          obtain ⟨n1, n2⟩ := in_num.mp h1
          refine ⟨⟨?_, a⟩, fun i hi => (List.mem_cons.mp hi).elim (fun e => n2 i e.symm) (b i)⟩
          rcases hk with rfl | rfl
          · rw [part_num]
            exact n1
          · rw [part_many, n1]
            exact hp 0 v rfl rfl
  have key := key ks ps hl hn
  constructor
  · rintro ⟨⟨ks', hw', _, ha⟩, hs, nj⟩
    rw [hw] at hw'
    cases hw'
    obtain ⟨a, b⟩ := key.mp ⟨ha, hs⟩
    exact ⟨a, b, nj⟩
  · rintro ⟨a, b, nj⟩
    obtain ⟨c, d⟩ := key.mpr ⟨a, b⟩
    exact ⟨⟨ks, hw, hl, c⟩, d, nj⟩
theorem t_no {w : Str} {ps : List V} {n : Int} (hn : n = (ps.length : Int) + 1) (h1 : ¬ (w = Str.ofString "come" ∧ n = 2)) (h2 : (w, n) ∉ [(Str.ofString "put", (4 : Int)), (Str.ofString "change", 4)])
    (h3 : (w, n) ∉ [(Str.ofString "go", (1 : Int)), (Str.ofString "split", 3), (Str.ofString "join", 3), (Str.ofString "cut", 4), (Str.ofString "move", 6)]) : ¬ HasT (some (.str w :: ps)) := by
  rw [hasT_iff]
  rintro ⟨⟨ks, hw, hl, _⟩, _, _⟩
  have hn : n = (ks.length : Int) + 1 := by rw [hn, hl]
  simp only [List.mem_cons, List.not_mem_nil, or_false, Prod.mk.injEq] at h2 h3
  unfold kindsOf at hw
  repeat' split at hw
  all_goals first | cases hw
  all_goals simp only [List.length_cons, List.length_nil] at hn
  all_goals first
    | exact h1 ⟨by assumption, by omega⟩
    | exact h2 (.inl ⟨by assumption, by omega⟩)
    | exact h2 (.inr ⟨by assumption, by omega⟩)
    | exact h3 (.inl ⟨by assumption, by omega⟩)
    | exact h3 (.inr (.inl ⟨by assumption, by omega⟩))
    | exact h3 (.inr (.inr (.inl ⟨by assumption, by omega⟩)))
    | exact h3 (.inr (.inr (.inr (.inl ⟨by assumption, by omega⟩))))
    | exact h3 (.inr (.inr (.inr (.inr ⟨by assumption, by omega⟩))))
end LawK
set_option maxHeartbeats 4000000
namespace LawK
open PySem PySem.Spec PyProof.Rows L2 Ev
theorem nums5 {w : Str} {ps : List V} {nn : Int} (nl : nn = (ps.length : Int) + 1) (c3 : (w, nn) ∈ [(Str.ofString "go", (1 : Int)), (Str.ofString "split", 3), (Str.ofString "join", 3), (Str.ofString "cut", 4), (Str.ofString "move", 6)]) :
    (w = Str.ofString "join" ∧ ∃ A B, ps = [A, B] ∧ (HasT (some (.str w :: ps)) ↔ ps.all (inV2 0 9999) = true ∧ A ≠ B)) ∨
    ((w ≠ Str.ofString "join" ∧ w ≠ Str.ofString "cut" ∧ w ≠ Str.ofString "move") ∧ (HasT (some (.str w :: ps)) ↔ ps.all (inV2 0 9999) = true)) ∨
    ((w ≠ Str.ofString "join" ∧ (w = Str.ofString "cut" ∨ w = Str.ofString "move")) ∧ ∃ A B C r, ps = A :: B :: C :: r ∧ (HasT (some (.str w :: ps)) ↔ ps.all (inV2 0 9999) = true ∧ posV C = true)) := by
  simp only [List.mem_cons, List.not_mem_nil, or_false, Prod.mk.injEq] at c3
  have kn : kNum ≠ kMany := by decide +kernel
  rcases c3 with ⟨rfl, h⟩ | ⟨rfl, h⟩ | ⟨rfl, h⟩ | ⟨rfl, h⟩ | ⟨rfl, h⟩
  · have hl : ps.length = 0 := by omega
    obtain rfl := List.length_eq_zero_iff.mp hl
    refine .inr (.inl ⟨⟨by decide +kernel, by decide +kernel, by decide +kernel⟩, ?_⟩)
    rw [t_nums (ks := []) (by decide +kernel) rfl (by simp)]
    refine ⟨fun h => h.1, fun h => ⟨h, (fun i v h => by cases h), fun c => absurd c.1 (by decide +kernel)⟩⟩
  · obtain ⟨A, B, rfl⟩ := len2 (show ps.length = 2 by omega)
    refine .inr (.inl ⟨⟨by decide +kernel, by decide +kernel, by decide +kernel⟩, ?_⟩)
    rw [t_nums (ks := [kNum, kNum]) (by decide +kernel) rfl (by simp)]
    refine ⟨fun h => h.1, fun h => ⟨h, fun i v h => ?_, fun c => absurd c.1 (by decide +kernel)⟩⟩
    have := List.mem_of_getElem? h
    simp at this
    exact absurd this.symm kn
  · obtain ⟨A, B, rfl⟩ := len2 (show ps.length = 2 by omega)
    refine .inl ⟨rfl, A, B, rfl, ?_⟩
    rw [t_nums (ks := [kNum, kNum]) (by decide +kernel) rfl (by simp)]
    refine ⟨fun h => ⟨h.1, fun e => h.2.2 ⟨rfl, congrArg some e⟩⟩, fun h => ⟨h.1, fun i v h => ?_, fun c => h.2 (Option.some.inj c.2)⟩⟩
    have := List.mem_of_getElem? h
    simp at this
    exact absurd this.symm kn
  · obtain ⟨A, B, C, rfl⟩ := len3 (show ps.length = 3 by omega)
    refine .inr (.inr ⟨⟨by decide +kernel, .inl rfl⟩, A, B, C, [], rfl, ?_⟩)
    rw [t_nums (ks := [kNum, kNum, kMany]) (by decide +kernel) rfl (by simp)]
    refine ⟨fun h => ⟨h.1, h.2.1 2 C rfl rfl⟩, fun h => ⟨h.1, fun i v h1 h2 => ?_, fun c => absurd c.1 (by decide +kernel)⟩⟩
    match i, h1, h2 with
    | 0, h1, _ => exact absurd (Option.some.inj h1) kn
    | 1, h1, _ => exact absurd (Option.some.inj h1) kn
    | 2, _, h2 =>
      cases h2
      exact h.2
  · obtain ⟨A, B, C, D, F, rfl⟩ := len5' (show ps.length = 5 by omega)
    refine .inr (.inr ⟨⟨by decide +kernel, .inr rfl⟩, A, B, C, [D, F], rfl, ?_⟩)
    rw [t_nums (ks := [kNum, kNum, kMany, kNum, kNum]) (by decide +kernel) rfl (by simp)]
    refine ⟨fun h => ⟨h.1, h.2.1 2 C rfl rfl⟩, fun h => ⟨h.1, fun i v h1 h2 => ?_, fun c => absurd c.1 (by decide +kernel)⟩⟩
    match i, h1, h2 with
    | 0, h1, _ => exact absurd (Option.some.inj h1) kn
    | 1, h1, _ => exact absurd (Option.some.inj h1) kn
    | 2, _, h2 =>
      cases h2
      exact h.2
    | 3, h1, _ => exact absurd (Option.some.inj h1) kn
    | 4, h1, _ => exact absurd (Option.some.inj h1) kn
end LawK
set_option maxHeartbeats 4000000
namespace LawK
open PySem PySem.Spec PyProof.Rows L2 Ev

theorem room1 {k : Nat} {A : Around} (r : Room k A) : A.units + 65 < cLine := by have := r.un; omega
def spHasFormL : Sp := fun vs H Q _ => ∃ (x : V) (o : Option (List V)), vs = [x] ∧ Tg H x o ∧ Shr o ∧ ∀ b H', (b = true ↔ HasT o) → Same H H' → Q (.bl b) H'
theorem sh_pairs : ∀ l : List (Str × Int), l.length ≤ 10 → (∀ p ∈ l, PyData.strOk p.1 = true) → True := fun _ _ _ => trivial
theorem tail1 {H : Hp} {a : Addr} {xs : List V} (h : H a = some (.tup xs)) : True := trivial
section
variable {P : Program} {w : World} {K : PySem.W.Frag} {mg : Str → Option Value} {base : Heap}
abbrev sHasForm : Stmt := topS 38
theorem scHasForm : FnScope ["thing", "form", "part"] ["thing"] (defScope sHasForm) := ⟨rfl, rfl, rfl, by decide +kernel, rfl, by decide +kernel, by decide +kernel⟩
theorem ok_HasForm {f : Addr} {fd : FuncData} (F : Fun K "_law_has_form" "_law_has_form" sHasForm f fd)  {fIsNumber : Addr} {fdIsNumber : FuncData} (DIsNumber : Dk P w K mg base "_law_is_number" sIsNumber ["thing", "least", "most"] 1 spIn fIsNumber fdIsNumber) {fAreSigns : Addr} {fdAreSigns : FuncData} (DAreSigns : Dk P w K mg base "_law_are_signs" sAreSigns ["thing"] 1 spIsSg fAreSigns fdAreSigns) (T : Glob mg) : FnOk P w K mg base CX0 2 f fd ["thing"] spHasFormL := by
  refine F.ok scHasForm (fun vs H Q E h => ?_) (fun cdv A outer s H vs Q E hr h => ?_)
  · obtain ⟨x, o, rfl, _⟩ := h
    rfl
  · refine ⟨_, (pss_cons (ps_if (PW.pt (pw_or (pt_not (pt_val (pe_callB call_isi (by rfl) T.isinstance PyProof.Rows.boot_isinstance (pa_cons (pv 0) (pa_cons (pe_bltn (v := .ty "tuple") (by rfl) T.tuple (by decide +kernel) rfl) pa_nil))))) (pw_or (pt_cmpR op_eq (pe_callB call_len_seq (by rfl) T.len PySem.boot_len (pa_cons (pv 0) pa_nil)) pe_int (nomark _)) (pw_or1 (pt_not (pt_val (pe_callB call_isi (by rfl) T.isinstance PyProof.Rows.boot_isinstance (pa_cons (pe_ix ix_tup (pv 0) pe_int (fun _ _ => rfl)) (pa_cons (pe_bltn (v := .ty "str") (by rfl) T.str (by decide +kernel) rfl) pa_nil)))))))))
      (pss_one (ps_ret pe_bl))
      pss_nil)
      (pss_cons (ps_set (i := 1) scHasForm.nd rfl (.inl rfl) (pe_tup (pa_cons (pe_ix ix_tup (pv 0) pe_int (fun _ _ => rfl)) (pa_cons (pe_callB call_len_seq (by rfl) T.len PySem.boot_len (pa_cons (pv 0) pa_nil)) pa_nil))))
      (pss_cons (ps_if (pt_cmpR (op_eqD hr.units) (pv 1) (pe_tup (pa_cons pe_str (pa_cons pe_int pa_nil))) (nomark _))
      (pss_one (ps_ret (pe_call DAreSigns.ok (hr.mono (by decide)) (by rfl) DAreSigns.g DAreSigns.F.kp DAreSigns.b .nil pass0 (pa_cons (pe_ix ix_tup (pv 0) pe_int (fun _ _ => rfl)) pa_nil))))
      pss_nil)
      (pss_cons (ps_if (pt_cmpR (op_inD (room1 hr)) (pv 1) (pe_lst (pa_cons (pe_tup (pa_cons pe_str (pa_cons pe_int pa_nil))) (pa_cons (pe_tup (pa_cons pe_str (pa_cons pe_int pa_nil))) pa_nil))) rfl)
      (pss_cons (ps_if (PW.pt (pw_or (pt_not (pt_val (pe_call DAreSigns.ok (hr.mono (by decide)) (by rfl) DAreSigns.g DAreSigns.F.kp DAreSigns.b .nil pass0 (pa_cons (pe_ix ix_tup (pv 0) pe_int (fun _ _ => rfl)) pa_nil)))) (pw_or1 (pt_cmpR op_eq (pe_callB call_lenZ (by rfl) T.len PySem.boot_len (pa_cons (pe_ix ix_tup (pv 0) pe_int (fun _ _ => rfl)) pa_nil)) pe_int (nomark _)))))
        (pss_one (ps_ret pe_bl))
        pss_nil)
        (pss_one (ps_ret (pe_and (pe_call DIsNumber.ok (hr.mono (by decide)) (by rfl) DIsNumber.g DIsNumber.F.kp DIsNumber.b .nil pass0 (pa_cons (pe_ix ix_tup (pv 0) pe_int (fun _ _ => rfl)) (pa_cons pe_int (pa_cons pe_int pa_nil)))) (pe_one (pe_call DIsNumber.ok (hr.mono (by decide)) (by rfl) DIsNumber.g DIsNumber.F.kp DIsNumber.b .nil pass0 (pa_cons (pe_ix ix_tup (pv 0) pe_int (fun _ _ => rfl)) (pa_cons pe_int (pa_cons pe_int pa_nil)))))))))
      pss_nil)
      (pss_cons (ps_if (pt_cmpR (op_notInD (room1 hr)) (pv 1) (pe_lst (pa_cons (pe_tup (pa_cons pe_str (pa_cons pe_int pa_nil))) (pa_cons (pe_tup (pa_cons pe_str (pa_cons pe_int pa_nil))) (pa_cons (pe_tup (pa_cons pe_str (pa_cons pe_int pa_nil))) (pa_cons (pe_tup (pa_cons pe_str (pa_cons pe_int pa_nil))) (pa_cons (pe_tup (pa_cons pe_str (pa_cons pe_int pa_nil))) pa_nil)))))) rfl)
      (pss_one (ps_ret pe_bl))
      pss_nil)
      (pss_cons (ps_if (pt_not (pt_val (pe_callB (cr_all rfl) (by rfl) T.all (by decide +kernel) (pa_cons (pe_lc (own := [("part", 2)]) (g := gName 2) (by rfl) scHasForm.nd (pi_tup (pe_slice sl_tupM (pv 0) (po_some pe_int) po_none)) (blkOk_by (N := ["thing", "form", "part"]) (sc := defScope sHasForm) (by decide +kernel)) (fun _ _ _ _ _ => pg_name (i := 2) scHasForm.nd rfl (.inl rfl)) (fun _ _ _ _ _ => pts_nil) (fun _ _ _ _ _ => (pe_call DIsNumber.ok (hr.mono (by decide)) (by rfl) DIsNumber.g DIsNumber.F.kp DIsNumber.b .nil pass0 (pa_cons (pv 2) (pa_cons pe_int (pa_cons pe_int pa_nil)))))) pa_nil))))
      (pss_one (ps_ret pe_bl))
      pss_nil)
      (pss_cons (ps_if (pt_cmpR op_eq (pe_ix ix_tup (pv 0) pe_int (fun _ _ => rfl)) pe_str (nomark _))
      (pss_one (ps_ret (pe_cmpR op_ne (pe_ix ix_tup (pv 0) pe_int (fun _ _ => rfl)) (pe_ix ix_tup (pv 0) pe_int (fun _ _ => rfl)) (nomark _))))
      pss_nil)
      (pss_one (ps_ret (pe_or (pe_cmpR op_notIn_seq (pe_ix ix_tup (pv 0) pe_int (fun _ _ => rfl)) (pe_tup (pa_cons pe_str (pa_cons pe_str pa_nil))) rfl) (pe_one (pe_cmpR op_gt (pe_ix ix_tup (pv 0) pe_int (fun _ _ => rfl)) pe_int (nomark _))))))))))))), ?_⟩
    obtain ⟨x, o, rfl, hT, hS, q⟩ := h
    have sz : sizeLine = 16777216 := sizeLine_eq
    cases hT with
    | @no _ k hk n s =>
      exact ⟨x, rfl, x, .ty "tuple", .type (Kn.name k), .type "tuple", false, rfl, .ty _, Kd.tyx hk, kit_no n, _, rfl, iteT (q false H (iff_of_false (by simp) fun ⟨xs, e, h⟩ => by cases e) (Same.refl H))⟩
    | @tup a xs e nlen hy =>
      refine ⟨.ref a, rfl, .ref a, .ty "tuple", .type (Kn.name .tup), .type "tuple", kitB .tup .tup, rfl, .ty _, Kd.tyx (.tup e), kit_kn .tup .tup, _, rfl, iteF ?_⟩
      refine ⟨.ref a, rfl, a, xs, rfl, .inr (SqT.of e), rfl, _, rfl, ite2 (fun c => ?_) (fun c => ?_)⟩
      · have c' : (xs.length : Int) = 0 := V.int.inj (of_decide_eq_true c)
        obtain rfl : xs = [] := List.length_eq_zero_iff.mp (by omega)
        exact q false H (iff_of_false (by simp) fun ⟨xs, e, h⟩ => by cases e; exact form_nil h.1) (Same.refl H)
      cases xs with
      | nil => exact absurd rfl c
      | cons y ps =>
        obtain ⟨⟨k, hk⟩, hv⟩ := hy y List.mem_cons_self
        refine ⟨.ref a, rfl, a, _, 0, y, rfl, rfl, SqT.of e, atI_nat (j := 0) rfl, ?_⟩
        refine ⟨y, .ty "str", .type (Kn.name k), .type "str", kitB k .str, rfl, .ty _, Kd.tyx hk, kit_kn k .str, _, rfl, ?_⟩
        refine ite2 (fun d => ?_) (fun d => ?_)
        · refine q false H (iff_of_false (by simp) fun ⟨xs, e, hf⟩ => ?_) (Same.refl H)
          cases e
          obtain ⟨z, rfl⟩ := form_str hf.1
          cases hk
          exact absurd d (by decide)
        have ey : ∃ z, y = .str z := by
          cases hk with
          | str z => exact ⟨z, rfl⟩
          | non => exact absurd rfl d
          | bl b => exact absurd rfl d
          | int i => exact absurd rfl d
          | lst _ => exact absurd rfl d
          | tup _ => exact absurd rfl d
          | dic _ => exact absurd rfl d
        obtain ⟨w, rfl⟩ := ey
        have zk := (hS _ rfl w List.mem_cons_self).2
        have hps : ∀ v ∈ ps, (∃ k, Kd H v k) ∧ Vs v := fun v hv => hy v (List.mem_cons_of_mem _ hv)
        rw [List.length_cons] at nlen
        dsimp only [tNext, tDrop, tSeq]
        refine ⟨.ref a, rfl, a, _, 0, .str w, rfl, rfl, SqT.of e, atI_nat (j := 0) rfl, .ref a, rfl, a, _, rfl, .inr (SqT.of e), by show 2 ≤ sizeLine; decide, fun g ng => ?_⟩
        have k0 := Same.new (o := .tup [V.str w, V.int ((V.str w :: ps).length : Nat)]) ng
        have hgg : upd H g (.tup [V.str w, V.int ((V.str w :: ps).length : Nat)]) g = _ := upd_same
        generalize upd H g (.tup [V.str w, V.int ((V.str w :: ps).length : Nat)]) = H0 at k0 hgg ⊢
        have nl : ((V.str w :: ps).length : Int) = (ps.length : Int) + 1 := by rw [List.length_cons]; rfl
        generalize ((V.str w :: ps).length : Int) = nn at hgg nl ⊢
        refine ⟨.ref g, rfl, by show 2 ≤ sizeLine; decide, fun p1 np1 => ?_⟩
        have k1 := Same.new (o := .tup [V.str (Str.ofString "come"), V.int 2]) np1
        refine ⟨_, _, .tup (SqT.of (k1 _ _ hgg)) dp_pair, .tup (SqT.of upd_same) dp_pair, sh_pair zk, sh_pair (by decide +kernel), _, rfl, ?_⟩
        replace hgg := k1 _ _ hgg
        replace k0 := k0.trans k1
        revert hgg k0
        generalize upd H0 p1 _ = H1
        intro hgg k0
        by_cases c1 : w = Str.ofString "come" ∧ nn = 2
        · refine eqv_yes c1 ?_
          obtain ⟨rfl, hn⟩ := c1
          obtain ⟨A, rfl⟩ := len1 (show ps.length = 1 by omega)
          obtain ⟨⟨kA, hA⟩, vA⟩ := hps A (by simp)
          refine ⟨.ref a, rfl, a, _, 1, A, rfl, rfl, SqT.of (k0 _ _ e), rfl, A, kA, rfl, hA.same k0, vA, fun H2 k2 => ?_⟩
          exact q _ H2 t_come.symm (k0.trans k2)
        refine eqv_no c1 ?_
        refine ⟨.ref g, rfl, by show 2 ≤ sizeLine; decide, fun p2 np2 => ⟨by show 2 ≤ sizeLine; decide, fun p3 np3 => ⟨by show 2 ≤ sizeLine; decide, fun l nl' => ?_⟩⟩⟩
        have k2 := Same.new (o := .tup [V.str (Str.ofString "put"), V.int 4]) np2
        have g2 : upd H1 p2 (.tup [V.str (Str.ofString "put"), V.int 4]) p2 = _ := upd_same
        revert k2 g2 np3 nl'
        generalize upd H1 p2 _ = H2
        intro np3 nl' k2 g2
        have k3 := Same.new (o := .tup [V.str (Str.ofString "change"), V.int 4]) np3
        have g3 : upd H2 p3 (.tup [V.str (Str.ofString "change"), V.int 4]) p3 = _ := upd_same
        revert k3 g3 nl'
        generalize upd H2 p3 _ = H3
        intro nl' k3 g3
        have k4 := Same.new (o := .lst [V.ref p2, V.ref p3]) nl'
        have gl : upd H3 l (.lst [V.ref p2, V.ref p3]) l = _ := upd_same
        revert k4 gl
        generalize upd H3 l _ = H4
        intro k4 gl
        replace hgg := k4 _ _ (k3 _ _ (k2 _ _ hgg))
        replace g2 := k4 _ _ (k3 _ _ g2)
        replace g3 := k4 _ _ g3
        replace k0 := ((k0.trans k2).trans k3).trans k4
        have dl : Dp K H4 (.ref l) (.list ([(Str.ofString "put", (4 : Int)), (Str.ofString "change", 4)].map fun p => PyData.tuple [.str p.1, .int p.2])) := .lst (sq_of gl) (.cons (.tup (SqT.of g2) dp_pair) (.cons (.tup (SqT.of g3) dp_pair) .nil))
        refine ⟨_, _, .tup (SqT.of hgg) dp_pair, dl, sh_pair zk, by decide +kernel, _, rfl, ?_⟩
        rw [any_pair]
        refine ite2 (fun c2 => ?_) (fun c2 => ?_)
        · have c2 := of_decide_eq_true c2
          simp only [List.mem_cons, List.not_mem_nil, or_false, Prod.mk.injEq] at c2
          have hw : w = Str.ofString "put" ∨ w = Str.ofString "change" := c2.imp (·.1) (·.1)
          have hn : nn = 4 := c2.elim (·.2) (·.2)
          obtain ⟨A, B, C, rfl⟩ := len3 (show ps.length = 3 by omega)
          obtain ⟨⟨kA, hA⟩, vA⟩ := hps A (by simp)
          obtain ⟨⟨kB, hB⟩, vB⟩ := hps B (by simp)
          obtain ⟨⟨kC, hC⟩, vC⟩ := hps C (by simp)
          have tp := t_put hw (a := A) (b := B) (c := C)
          refine ⟨.ref a, rfl, a, _, 3, C, rfl, rfl, SqT.of (k0 _ _ e), rfl, C, kC, rfl, hC.same k0, vC, fun H5 k5 => ⟨_, rfl, ?_⟩⟩
          replace k0 := k0.trans k5
          have no : ∀ {b H'}, Same H H' → wordV C = false → (b = false) → (b = true ↔ HasT (some [.str w, A, B, C])) := fun _ h hb => by
            rw [hb, tp, h]
            simp
          cases hs : sgV C with
          | false =>
            have : wordV C = false := by
              cases C with
              | str z =>
                have hs : sgB z = false := hs
                show (sgB z && _) = false
                rw [hs]
                rfl
              | _ => rfl
            exact iteT (q false H5 (no k0 this rfl) k0)
          | true =>
            obtain ⟨z, rfl⟩ := sg_str hs
            have lz := vC z rfl
            refine iteF ⟨.ref a, rfl, a, _, 3, .str z, rfl, rfl, SqT.of (k0 _ _ e), rfl, _, rfl, len5 lz, rfl, _, rfl, ite2 (fun c3 => ?_) (fun c3 => ?_)⟩
            · have c3 := V.int.inj (of_decide_eq_true c3)
              refine q false H5 (no k0 ?_ rfl) k0
              show (sgB z && decide ((0 : Int) < (z.length : Int))) = false
              rw [decide_eq_false (by omega), Bool.and_false]
            · have l0 : (z.length : Int) ≠ 0 := fun h => c3 (decide_eq_true (congrArg V.int h))
              have wt : wordV (.str z) = true := by
                show (sgB z && decide ((0 : Int) < (z.length : Int))) = true
                rw [show sgB z = true from hs, decide_eq_true (by omega)]
                rfl
              dsimp only [tNext, tDrop, tSeq]
              refine ⟨.ref a, rfl, a, _, 1, A, rfl, rfl, SqT.of (k0 _ _ e), rfl, A, kA, 0, 9999, rfl, hA.same k0, _, rfl, ?_⟩
              cases iA : inV2 0 9999 A with
              | false => exact iteF (q false H5 (iff_of_false (by decide) fun h => by have := (tp.mp h).2.1; rw [iA] at this; cases this) k0)
              | true =>
                refine iteT ⟨.ref a, rfl, a, _, 2, B, rfl, rfl, SqT.of (k0 _ _ e), rfl, B, kB, 0, 9999, rfl, hB.same k0, ?_⟩
                exact q _ H5 ⟨fun h => tp.mpr ⟨wt, iA, h⟩, fun h => (tp.mp h).2.2⟩ k0
        · have c2 : (w, nn) ∉ [(Str.ofString "put", (4 : Int)), (Str.ofString "change", 4)] := fun h => c2 (decide_eq_true h)
          dsimp only [tNext, tDrop, tSeq]
          refine ⟨.ref g, rfl, by show 2 ≤ sizeLine; decide, fun q1 nq1 => ⟨by show 2 ≤ sizeLine; decide, fun q2 nq2 => ⟨by show 2 ≤ sizeLine; decide, fun q3 nq3 => ⟨by show 2 ≤ sizeLine; decide, fun q4 nq4 => ⟨by show 2 ≤ sizeLine; decide, fun q5 nq5 => ⟨by show 5 ≤ sizeLine; decide, fun l6 nq6 => ?_⟩⟩⟩⟩⟩⟩
          have m1 := Same.new (o := .tup [V.str (Str.ofString "go"), V.int 1]) nq1
          have j1 : upd H4 q1 (.tup [V.str (Str.ofString "go"), V.int 1]) q1 = _ := upd_same
          revert m1 j1 nq2 nq3 nq4 nq5 nq6
          generalize upd H4 q1 _ = J1
          intro nq2 nq3 nq4 nq5 nq6 m1 j1
          have m2 := Same.new (o := .tup [V.str (Str.ofString "split"), V.int 3]) nq2
          have j2 : upd J1 q2 (.tup [V.str (Str.ofString "split"), V.int 3]) q2 = _ := upd_same
          revert m2 j2 nq3 nq4 nq5 nq6
          generalize upd J1 q2 _ = J2
          intro nq3 nq4 nq5 nq6 m2 j2
          have m3 := Same.new (o := .tup [V.str (Str.ofString "join"), V.int 3]) nq3
          have j3 : upd J2 q3 (.tup [V.str (Str.ofString "join"), V.int 3]) q3 = _ := upd_same
          revert m3 j3 nq4 nq5 nq6
          generalize upd J2 q3 _ = J3
          intro nq4 nq5 nq6 m3 j3
          have m4 := Same.new (o := .tup [V.str (Str.ofString "cut"), V.int 4]) nq4
          have j4 : upd J3 q4 (.tup [V.str (Str.ofString "cut"), V.int 4]) q4 = _ := upd_same
          revert m4 j4 nq5 nq6
          generalize upd J3 q4 _ = J4
          intro nq5 nq6 m4 j4
          have m5 := Same.new (o := .tup [V.str (Str.ofString "move"), V.int 6]) nq5
          have j5 : upd J4 q5 (.tup [V.str (Str.ofString "move"), V.int 6]) q5 = _ := upd_same
          revert m5 j5 nq6
          generalize upd J4 q5 _ = J5
          intro nq6 m5 j5
          have m6 := Same.new (o := .lst [V.ref q1, V.ref q2, V.ref q3, V.ref q4, V.ref q5]) nq6
          have j6 : upd J5 l6 (.lst [V.ref q1, V.ref q2, V.ref q3, V.ref q4, V.ref q5]) l6 = _ := upd_same
          revert m6 j6
          generalize upd J5 l6 _ = J6
          intro m6 j6
          replace hgg := m6 _ _ (m5 _ _ (m4 _ _ (m3 _ _ (m2 _ _ (m1 _ _ hgg)))))
          replace j1 := m6 _ _ (m5 _ _ (m4 _ _ (m3 _ _ (m2 _ _ j1))))
          replace j2 := m6 _ _ (m5 _ _ (m4 _ _ (m3 _ _ j2)))
          replace j3 := m6 _ _ (m5 _ _ (m4 _ _ j3))
          replace j4 := m6 _ _ (m5 _ _ j4)
          replace j5 := m6 _ _ j5
          replace k0 := (((((k0.trans m1).trans m2).trans m3).trans m4).trans m5).trans m6
          have dl : Dp K J6 (.ref l6) (.list ([(Str.ofString "go", (1 : Int)), (Str.ofString "split", 3), (Str.ofString "join", 3), (Str.ofString "cut", 4), (Str.ofString "move", 6)].map fun p => PyData.tuple [.str p.1, .int p.2])) := .lst (sq_of j6) (.cons (.tup (SqT.of j1) dp_pair) (.cons (.tup (SqT.of j2) dp_pair) (.cons (.tup (SqT.of j3) dp_pair) (.cons (.tup (SqT.of j4) dp_pair) (.cons (.tup (SqT.of j5) dp_pair) .nil)))))
          refine ⟨_, _, .tup (SqT.of hgg) dp_pair, dl, sh_pair zk, by decide +kernel, _, rfl, ?_⟩
          rw [any_pair]
          by_cases c3 : (w, nn) ∈ [(Str.ofString "go", (1 : Int)), (Str.ofString "split", 3), (Str.ofString "join", 3), (Str.ofString "cut", 4), (Str.ofString "move", 6)]
          · rw [decide_eq_true c3]
            refine iteF ?_
            dsimp only [tNext, tDrop, tSeq]
            refine ⟨.ref a, rfl, 1, rfl, a, _, rfl, k0 _ _ e, fun b H7 k7 hb7 => ?_⟩
            have eps : cutV (V.str w :: ps) (some 1) none = ps := by
              rw [cutV_from (by decide)]
              rfl
            rw [eps] at hb7
            refine ⟨b, rfl, ⟨_, SqT.of hb7⟩, fun D nD => lc_it (walk_tup (K := K) (a := b) (xs := ps)) (fun i H' => Same H7 H' ∧ H' D = some (.lst (((ps.take i).map (inV2 0 9999)).map V.bl))) ⟨Same.new nD, upd_same⟩ (fun i H' _ g => SqT.of (g.1 _ _ hb7)) ?_ ?_⟩
            · rintro i v H8 H9 hi ⟨k8, hD⟩ ⟨rfl, hv⟩
              have hm := List.mem_of_getElem? hv
              obtain ⟨⟨kv, hkv⟩, _⟩ := hps v hm
              refine ⟨rfl, v, rfl, v, kv, 0, 9999, rfl, hkv.same ((k0.trans k7).trans k8), _, hD, ?_, sameAt k8 nD, ?_⟩
              · rw [List.length_map, List.length_map, List.length_take]
                omega
              · rw [upd_same, List.take_succ, hv, List.map_append, List.map_append]
                rfl
            · rintro H8 ⟨k8, hD⟩
              rw [List.take_of_length_le (Nat.le_refl _)] at hD
              have kk := (k0.trans k7).trans k8
              refine ⟨D, _, rfl, sq_of hD, ⟨_, rfl, ?_⟩⟩
              have ea : ((ps.map (inV2 0 9999)).all id) = ps.all (inV2 0 9999) := by
                rw [List.all_map]
                rfl
              rw [ea]
              have ee := kk _ _ e
              cases al : ps.all (inV2 0 9999) with
              | false =>
                refine iteT (q false H8 (iff_of_false (by decide) fun h => ?_) kk)
                rcases nums5 nl c3 with ⟨_, A, B, rfl, hx⟩ | ⟨_, hx⟩ | ⟨_, A, B, C, r, rfl, hx⟩
                · have := (hx.mp h).1
                  rw [al] at this
                  cases this
                · have := hx.mp h
                  rw [al] at this
                  cases this
                · have := (hx.mp h).1
                  rw [al] at this
                  cases this
              | true =>
                refine iteF ?_
                dsimp only [tNext, tDrop, tSeq]
                rcases nums5 nl c3 with ⟨rfl, A, B, rfl, hx⟩ | ⟨⟨n1, n2, n3⟩, hx⟩ | ⟨⟨n1, hw⟩, A, B, C, r, rfl, hx⟩
                · refine ⟨.ref a, rfl, a, _, 0, .str (Str.ofString "join"), rfl, rfl, SqT.of ee, rfl, rfl, _, rfl, iteT ?_⟩
                  rw [al] at hx
                  have hAB : (∃ i, A = .int i) ∧ ∃ j, B = .int j := by
                    have h1 := (in_num.mp (List.all_eq_true.mp al A (by simp))).1
                    have h2 := (in_num.mp (List.all_eq_true.mp al B (by simp))).1
                    obtain ⟨i, e, _⟩ := num_int h1
                    obtain ⟨j, e2, _⟩ := num_int h2
                    exact ⟨⟨i, e⟩, j, e2⟩
                  obtain ⟨⟨i, rfl⟩, j, rfl⟩ := hAB
                  refine ⟨.ref a, rfl, a, _, 1, .int i, rfl, rfl, SqT.of ee, rfl, .ref a, rfl, a, _, 2, .int j, rfl, rfl, SqT.of ee, rfl, rfl, ?_⟩
                  refine q _ H8 ?_ kk
                  rw [hx]
                  simp
                · refine ⟨.ref a, rfl, a, _, 0, .str w, rfl, rfl, SqT.of ee, atI_nat (j := 0) rfl, rfl, _, rfl, ite2 (fun z => absurd (V.str.inj (of_decide_eq_true z)) n1) (fun _ => ?_)⟩
                  refine ⟨.ref a, rfl, a, _, 0, .str w, rfl, rfl, SqT.of ee, atI_nat (j := 0) rfl, by show 2 ≤ sizeLine; decide, fun t nt => ⟨t, _, rfl, .inr (SqT.of upd_same), rfl, rfl, _, rfl, ?_⟩⟩
                  have iv : inV (.str w) [V.str (Str.ofString "cut"), V.str (Str.ofString "move")] = false := by
                    show ((Str.ofString "cut" == w) || ((Str.ofString "move" == w) || false)) = false
                    rw [beq_false_of_ne (Ne.symm n2), beq_false_of_ne (Ne.symm n3)]
                    rfl
                  rw [iv]
                  refine iteT (q true _ ?_ (kk.trans (Same.new nt)))
                  rw [hx, al]
                · rw [al] at hx
                  obtain ⟨i, rfl, _⟩ := num_int (in_num.mp (List.all_eq_true.mp al C (by simp))).1
                  refine ⟨.ref a, rfl, a, _, 0, .str w, rfl, rfl, SqT.of ee, atI_nat (j := 0) rfl, rfl, _, rfl, ite2 (fun z => absurd (V.str.inj (of_decide_eq_true z)) n1) (fun _ => ?_)⟩
                  refine ⟨.ref a, rfl, a, _, 0, .str w, rfl, rfl, SqT.of ee, atI_nat (j := 0) rfl, by show 2 ≤ sizeLine; decide, fun t nt => ⟨t, _, rfl, .inr (SqT.of upd_same), rfl, rfl, _, rfl, ?_⟩⟩
                  have iv : inV (.str w) [V.str (Str.ofString "cut"), V.str (Str.ofString "move")] = true := by
                    show ((Str.ofString "cut" == w) || ((Str.ofString "move" == w) || false)) = true
                    rcases hw with rfl | rfl
                    · rw [beq_self_eq_true]
                      rfl
                    · rw [beq_self_eq_true, Bool.true_or, Bool.or_true]
                  rw [iv]
                  refine iteF ⟨.ref a, rfl, a, _, 3, .int i, rfl, rfl, SqT.of ((Same.new nt) _ _ ee), atI_nat (j := 3) rfl, _, _, rfl, rfl, ?_⟩
                  refine q _ _ ?_ (kk.trans (Same.new nt))
                  rw [hx]
                  exact ⟨fun h => ⟨rfl, h⟩, fun h => h.2⟩
          · rw [decide_eq_false c3]
            exact iteT (q false J6 (iff_of_false (by decide) (t_no nl c1 c2 c3)) k0)
end
end LawK
set_option maxHeartbeats 4000000
namespace LawK
open PySem PySem.Spec PyProof.Rows L2 Ev
def wds : List Str := [Str.ofString "put", Str.ofString "change", Str.ofString "come", Str.ofString "go", Str.ofString "split", Str.ofString "join", Str.ofString "cut", Str.ofString "move"]
def cnts : List Int := [3, 3, 1, 0, 2, 2, 3, 5]
def txw (w : Str) : Bool := decide (w = Str.ofString "put" ∨ w = Str.ofString "change" ∨ w = Str.ofString "come")
structure W8 (w : Str) (j : Nat) (ks : List Str) : Prop where
  at_ : wds[j]? = some w
  fst : ∀ m, m < j → wds[m]? ≠ some w
  cnt : cnts[j]? = some (ks.length : Int)
  kin : kindsOf w = some ks
  lt : j < 8
  tx : ∀ (i : Nat) k, ks[i]? = some k → ((i + 1 = ks.length ∧ txw w = true) ↔ ¬ (k = kNum ∨ k = kMany))
def chkW (j : Nat) (ks : List Str) : Bool := match wds[j]? with
  | none => false
  | some w => (List.range j).all (fun m => decide (wds[m]? ≠ some w)) && decide (cnts[j]? = some (ks.length : Int)) && decide (kindsOf w = some ks) && decide (j < 8) &&
    (List.range ks.length).all (fun i => match ks[i]? with
      | none => true
      | some k => decide ((i + 1 = ks.length ∧ txw w = true) ↔ ¬ (k = kNum ∨ k = kMany)))
theorem w8_of {j : Nat} {ks : List Str} {w : Str} (e : wds[j]? = some w) (h : chkW j ks = true) : W8 w j ks := by
  unfold chkW at h
  rw [e] at h
  simp only [Bool.and_eq_true] at h
  obtain ⟨⟨⟨⟨h1, h2⟩, h3⟩, h4⟩, h5⟩ := h
  refine ⟨e, fun m hm => of_decide_eq_true (List.all_eq_true.mp h1 m (List.mem_range.mpr hm)), of_decide_eq_true h2, of_decide_eq_true h3, of_decide_eq_true h4, fun i k hk => ?_⟩
  have hi := (List.getElem?_eq_some_iff.mp hk).1
  have := List.all_eq_true.mp h5 i (List.mem_range.mpr hi)
  rw [hk] at this
  exact of_decide_eq_true this
theorem words8 {w : Str} (h : w ∈ wds) : ∃ j ks, W8 w j ks := by
  unfold wds at h
  simp only [List.mem_cons, List.not_mem_nil, or_false] at h
  rcases h with rfl | rfl | rfl | rfl | rfl | rfl | rfl | rfl
  · exact ⟨0, [kNum, kNum, kWord], w8_of rfl (by decide +kernel)⟩
  · exact ⟨1, [kNum, kNum, kWord], w8_of rfl (by decide +kernel)⟩
  · exact ⟨2, [kSigns], w8_of rfl (by decide +kernel)⟩
  · exact ⟨3, [], w8_of rfl (by decide +kernel)⟩
  · exact ⟨4, [kNum, kNum], w8_of rfl (by decide +kernel)⟩
  · exact ⟨5, [kNum, kNum], w8_of rfl (by decide +kernel)⟩
  · exact ⟨6, [kNum, kNum, kMany], w8_of rfl (by decide +kernel)⟩
  · exact ⟨7, [kNum, kNum, kMany, kNum, kNum], w8_of rfl (by decide +kernel)⟩
theorem no_word {w : Str} (h : w ∉ wds) : kindsOf w = none := by
  unfold wds at h
  simp only [List.mem_cons, List.not_mem_nil, or_false, not_or] at h
  obtain ⟨h1, h2, h3, h4, h5, h6, h7, h8⟩ := h
  unfold kindsOf
  rw [if_neg h1, if_neg h7, if_neg h2, if_neg h3, if_neg h4, if_neg h5, if_neg h6, if_neg h8]
theorem in_wds (w : Str) : inV (.str w) (wds.map V.str) = decide (w ∈ wds) := by
  refine Bool.eq_iff_iff.mpr ?_
  rw [decide_eq_true_iff]
  unfold inV
  rw [List.any_eq_true]
  constructor
  · rintro ⟨y, hy, e⟩
    obtain ⟨z, hz, rfl⟩ := List.mem_map.mp hy
    have e : (z == w) = true := e
    rw [← eq_of_beq e]
    exact hz
  · exact fun h => ⟨_, List.mem_map_of_mem h, show (w == w) = true from beq_self_eq_true w⟩
/-! what the law's reading gives -/
theorem readT_eq {z : Str} {ks : List Str} (hz : sgB z = true) (hw : kindsOf (SX.S (hdW (cod z))) = some ks) : lineO (.str z) = (rdK ks (tlW (cod z))).map (V.str (SX.S (hdW (cod z))) :: ·) := by
  rw [line_yes (show sgV (.str z) = true from hz)]
  unfold readL
  rw [hw]
theorem law_none {z : Str} {ks : List Str} (hz : sgB z = true) (hw : kindsOf (SX.S (hdW (cod z))) = some ks) (h : ∀ vs, lawK ks (spT (tlW (cod z))) ≠ some (vs, [])) : readT (.str z) = none := by
  refine readT_none ?_
  rw [readT_eq hz hw]
  cases e : rdK ks (tlW (cod z)) with
  | none => rfl
  | some vs => exact absurd (law_of ks _ vs (prp_kinds hw) e) (h vs)
theorem law_no {z : Str} {ks : List Str} {vs : List V} (hz : sgB z = true) (hw : kindsOf (SX.S (hdW (cod z))) = some ks) (h : lawK ks (spT (tlW (cod z))) = some (vs, [])) (n : ¬ HasT (some (.str (SX.S (hdW (cod z))) :: vs))) : readT (.str z) = none := by
  have e0 := readT_eq hz hw
  cases e : rdK ks (tlW (cod z)) with
  | none =>
    rw [e] at e0
    exact readT_none e0
  | some us =>
    rw [e] at e0
    have := law_of ks _ us (prp_kinds hw) e
    rw [h] at this
    injection this with this
    injection this with this _
    subst this
    exact readT_no e0 fun h => n ⟨_, rfl, h⟩
theorem law_yes {z : Str} {ks : List Str} {vs : List V} (hz : sgB z = true) (hw : kindsOf (SX.S (hdW (cod z))) = some ks) (h : lawK ks (spT (tlW (cod z))) = some (vs, [])) (n : HasT (some (.str (SX.S (hdW (cod z))) :: vs))) : readT (.str z) = some (.str (SX.S (hdW (cod z))) :: vs) := by
  have e0 := readT_eq hz hw
  obtain ⟨xs, e, hx⟩ := n
  cases e
  have ha := ((form_iff hw).mp hx.1).2
  rw [of_law ks _ vs (prp_kinds hw) h ha] at e0
  exact readT_yes e0 hx
end LawK
set_option maxHeartbeats 4000000
/-! A text read from its end. -/
namespace Ev
open PySem PySem.Spec PyProof.Rows L2
def revC (z : Str) : List Nat := (List.range z.length).map fun k => z.cps.getD (z.length - 1 - k) 0
def revZ (z : Str) : Str := SX.S (revC z)
theorem rev_pick (z : Str) : (Builtin.Str.strSliceIndices none none (-1) z.length).filterMap (z.cps[·]?) = revC z := by
  rw [picked_rev, filterMap_get, List.map_map]
  · rfl
  · intro i hi
    obtain ⟨k, hk, rfl⟩ := List.mem_map.mp hi
    have hk' := List.mem_range.mp hk
    show z.length - 1 - k < z.length
    omega
theorem revC_len (z : Str) : (revC z).length = z.length := by
  unfold revC
  rw [List.length_map, List.length_range]
theorem revZ_len (z : Str) : (revZ z).length = z.length := (SX.S_len _).trans (revC_len z)
theorem revC_mem {z : Str} {c : Nat} (h : c ∈ revC z) : c ∈ z.cps.toList := by
  obtain ⟨k, hk, rfl⟩ := List.mem_map.mp h
  have hk' := List.mem_range.mp hk
  have hi : z.length - 1 - k < z.cps.size := by
    show z.length - 1 - k < z.length
    omega
  have e : z.cps.getD (z.length - 1 - k) 0 = z.cps[z.length - 1 - k] := by simp [Array.getD, hi]
  rw [e]
  exact Array.getElem_mem_toList hi
theorem sgB_rev {z : Str} (h : sgB z = true) : sgB (revZ z) = true := List.all_eq_true.mpr fun c hc => sgB_mem h (revC_mem hc)
def tRevS (te : TE) : TE := fun σ H Q => te σ H fun x H1 => ∃ z : Str, x = .str z ∧ z.length ≤ sizeLine ∧ Q (.str (revZ z)) H1
theorem pe_revS {X : Cx} {e : Expr} {te : TE} {k : Nat} {p1 p2 p3 pos : Pos} (he : PE X e te) :
    PE X (.Subscript e (.Slice none none (some (.UnaryOp .USub (.Constant (.int 1) k p1) p2)) p3) pos) (tRevS te) := by
  constructor
  intro pins s σ H Q I h
  apply Subscript_
  refine thn (he.run pins s σ H _ I h) ?_
  rintro v s1 ⟨x, H1, I1, r1, z, rfl, hz, q⟩
  obtain ⟨t, rfl⟩ := r1
  have hst : PO X (some (.UnaryOp .USub (.Constant (.int 1) k p1) p2)) _ := po_some (pe_un un_neg pe_int)
  apply wpAny_Slice
  refine thn (po_none.run pins s1 σ H1 (fun o H2 => o = none ∧ H2 = H1) I1 ⟨rfl, rfl⟩) ?_
  rintro vl s2 ⟨l, H2, I2, pl, rfl, rfl⟩
  refine thn (po_none.run pins s2 σ _ (fun o H3 => o = none ∧ H3 = H2) I2 ⟨rfl, rfl⟩) ?_
  rintro vu s3 ⟨u, H3, I3, pu, rfl, rfl⟩
  refine thn (hst.run pins s3 σ _ (fun o H4 => o = some (-1) ∧ H4 = H3) I3 ⟨1, rfl, -1, rfl, rfl, rfl⟩) ?_
  rintro vs s4 ⟨o, H4, I4, pz, rfl, rfl⟩
  have I5 := I4.kept (t' := s4.toks) (h' := s4.heap.push { cls := .type "slice", data := .fields #[vl, vu, vs] }) fun b ob g => Heap.get?_push_of_some _ g
  obtain ⟨l', rfl, el⟩ := IsPart.raw pl
  obtain ⟨u', rfl, eu⟩ := IsPart.raw pu
  obtain ⟨w', rfl, ew⟩ := IsPart.raw pz
  refine tail_any (ops := [.str z t, .ref s4.heap.objs.size]) (typeIs_str _ _ _) F.slot_str_getitem.lookup ?_ (by with_unfolding_all rfl)
  have e1 : ((w'.map (·.1)).getD 1 == 1) = false := by rw [ew]; rfl
  have e0 : ((w'.map (·.1)).getD 1 == 0) = false := by rw [ew]; rfl
  refine wpAny_getItem_str_slice (l := l') (u := u') (st := w') (Heap.IsSliceOf.new ..) e0 ?_
  have em : sliceMade z t l' u' w' = Made.str (revZ z) := by
    unfold sliceMade
    rw [e1, Bool.false_and, if_neg (by decide)]
    have e2 : slicePicked z l' u' w' = Builtin.Str.strSliceIndices none none (-1) z.length := by
      unfold slicePicked
      rw [el, eu, ew]
      rfl
    rw [e2, rev_pick]
    rfl
  rw [em]
  refine ⟨?_, .str (revZ z), H4, I5.tok _, ⟨_, rfl⟩, q⟩
  rw [revZ_len]
  exact hz
end Ev
set_option maxHeartbeats 4000000
/-! Objects of an own class, made where the making may raise; == by an own __eq__, with anything. -/
namespace Ev
open PySem PySem.Spec PyProof.Rows L2
section
variable {X : Cx} {CX : CXT} {k : Nat} {f C : Addr} {fd : FuncData} {ps : List Str} {sp : Sp} {x : Str} {p pos : Pos} {e : Expr} {es : List Expr} {t : TA}
theorem run_mkAt {pins : List (Addr × Obj)} {σ : L2.St} {H : Hp} {s : Shared} {Q : VK} {us : List Value} {vs : List V} {E : XK} (M : Mk X.K C f) (F : FnOk X.prog X.w X.K X.mg X.base CX k f fd ps sp) (hr : Room (k + 1) X.A) (hb : Binds X.K fd ps []) (hx : PassesAt CX X σ E) (I : Inv X pins σ H s) (r : Vals vs us)
    (h : ∀ a dx, H a = none → H dx = none → dx ≠ a → sp (.ref a :: vs) (upd (upd H dx (.own a)) a (.ins C dx [])) (fun v H2 => v = .non ∧ Q (.ref a) H2) E) :
    wpAny (model X.prog X.w) X.A (call (.ref C) us) (EP X pins σ Q) X.xe s := by
  have q := h (s.heap.objs.size + 1) s.heap.objs.size (I.hok.fresh (Nat.le_succ _)) (I.hok.fresh (Nat.le_refl _)) (Nat.ne_of_lt (Nat.lt_succ_self _))
  have J := Inv.made (C := C) I
  have rv : Vals (V.ref (s.heap.objs.size + 1) :: vs) (Value.ref (s.heap.objs.size + 1) :: us) := .cons rfl r
  have len := F.len _ _ _ _ q
  have lu : (Value.ref (s.heap.objs.size + 1) :: us ++ []).length = ps.length := by
    rw [List.append_nil, ← rv.length]
    exact len
  have bnd := hb _ (Value.ref (s.heap.objs.size + 1) :: us) J.kIn lu
  rw [List.append_nil] at bnd
  have go := F.run _ X.stack _ _ ⟨Value.ref (s.heap.objs.size + 1) :: us, []⟩ (Value.ref (s.heap.objs.size + 1) :: us) _ _ E (hr.make C us []) (J.env0.make C us []) bnd rv q
  refine wpAny_call (make_map (f := f) I.kIn M.makes M.init (beq_iff_eq.mp M.fn) (codeAny_mono go ?_))
  intro res s' got
  match res, got with
  | .error er, got => exact hx pins _ _ er s' J got
  | .ok (.ret u), got =>
    obtain ⟨v, H', I3, ru, rfl, q3⟩ := J.after got
    exact ⟨ru, ⟨V.ref (s.heap.objs.size + 1), H', I3, rfl, q3⟩⟩
  | .ok .next, got => exact got.elim
  | .ok .brk, got => exact got.elim
  | .ok .cont, got => exact got.elim
def tMkS (C : Addr) (sp : Sp) (E : L2.St → XK) (t : TA) : TE := fun σ H Q => t σ H fun vs H1 => ∀ a dx, H1 a = none → H1 dx = none → dx ≠ a →
  sp (.ref a :: vs) (upd (upd H1 dx (.own a)) a (.ins C dx [])) (fun v H2 => v = .non ∧ Q (.ref a) H2) (E σ)
theorem pe_mkS {E : L2.St → XK} (M : Mk X.K C f) (F : FnOk X.prog X.w X.K X.mg X.base CX k f fd ps sp) (hr : Room (k + 1) X.A) (hg : Gl X x) (hm : X.mg x = some (.ref C)) (hb : Binds X.K fd ps []) (hx : ∀ σ, PassesAt CX X σ (E σ)) (ha : PA X (e :: es) t)
    (hdb : (x == ("__debug__" : Str)) = false := by decide) (he : starEach (e :: es) X.env = (false, eval e X.env) :: starEach es X.env := by rfl) (hpl : (backTo pos (starEach es X.env)).any (·.1) = false := by rfl) :
    PE X (.Call (.Name x p) (e :: es) [] pos) (tMkS C sp E t) := by
  constructor
  intro pins s σ H Q I h
  refine wpAny_Call_Name_kw (ld_glob I hg hm ?_ hdb)
  refine PySem.W.callWith_K (h₀ := X.base) I.ok.mod.kin M.kp (thn (ha.run pos pins s σ H _ I h) ?_) he hpl
  rintro us s1 ⟨vs, H1, I1, r, q⟩
  exact ⟨I1.kIn, run_mkAt M F hr hb (hx σ) I1 r q⟩
theorem passL_at (σ : L2.St) : PassesAt (L2.CX X.prog X.w) X σ E0 := fun pins H s e s' I h => passL pins σ H s e s' I h
/-- x == y, x an object of the class at C -/
def rEqO (C : Addr) (K : PySem.W.Frag) (sp : Sp) (E : XK) : R2 := fun x y H Q => ∃ a dx fs t, x = .ref a ∧ H a = some (.ins C dx fs) ∧ TyX K H y t ∧ PySem.W.notFirst K C t = true ∧ sp [x, y] H (fun v H' => (∃ b, v = .bl b) ∧ Q v H') E
theorem op_eqO {E : XK} (F : FnOk X.prog X.w X.K X.mg X.base CX k f fd ps sp) (hs : PySem.W.findIn X.K (.ref C) "__eq__" = some (some (.ref f))) (hf : PySem.W.isFn X.K (.ref f) = true) (hb : Binds X.K fd ps []) (hx : Passes CX X E) (hr : Room k X.A) : OpR X (compareOp .Eq) (rEqO C X.K sp E) := by
  intro pins s σ H x y v u Q I rx ry h
  obtain ⟨a, dx, fs, t, rfl, ha, ty, nf, q⟩ := h
  cases rx
  obtain ⟨mA, J, _⟩ := ins_get I.hok ha
  obtain ⟨od, J, _⟩ := J.look
  obtain ⟨m, hF⟩ := I.fr
  obtain ⟨P, Z, hp, _⟩ := kit_of I ry ty
  show wpAny (model X.prog X.w) X.A (richCompare .Eq _ u) (EP X pins σ Q) X.xe s
  refine PySem.W.cmp_K (op := .Eq) (tb := t) hr.units0 hF I.ok.mod.kin J (Z.ty _ _ I.kIn hp) nf hs hf ?_
  have len := F.len _ _ _ _ q
  have rv : Vals [V.ref a, y] [Value.ref a, u] := .cons rfl (.cons ry .nil)
  have bnd := hb s [Value.ref a, u] I.kIn (by simpa using len)
  have go := F.run X.A X.stack s H ⟨[Value.ref a, u], []⟩ [Value.ref a, u] [V.ref a, y] _ E hr I.env0 (by simpa using bnd) rv q
  refine wpAny_call (codeAny_mono go ?_)
  intro res s' got
  match res, got with
  | .error er, got => exact hx pins σ H s er s' I got
  | .ok (.ret w), got =>
    obtain ⟨z, H', I', rz, ⟨b, rfl⟩, q'⟩ := I.after got
    cases rz
    exact ⟨.bl b, H', I', rfl, q'⟩
  | .ok .next, got => exact got.elim
  | .ok .brk, got => exact got.elim
  | .ok .cont, got => exact got.elim
end
end Ev
set_option maxHeartbeats 4000000
/-! Tuples of texts as data. -/
namespace Ev
open PySem PySem.Spec PyProof.Rows L2
theorem dp_strs {K : PySem.W.Frag} {H : Hp} : ∀ ts : List Str, DpAll K H (ts.map V.str) (ts.map PyData.str)
  | [] => .nil
  | t :: ts => .cons (.str t) (dp_strs ts)
theorem eqv_strs : ∀ ts us : List Str, PyData.eqvAll (ts.map PyData.str) (us.map PyData.str) = decide (ts = us)
  | [], [] => by rw [decide_eq_true rfl]; rfl
  | [], u :: us => by rw [decide_eq_false (by simp)]; rfl
  | t :: ts, [] => by rw [decide_eq_false (by simp)]; rfl
  | t :: ts, u :: us => by
    show (PyData.eqv (.str t) (.str u) && PyData.eqvAll (ts.map PyData.str) (us.map PyData.str)) = _
    rw [eqv_strs ts us]
    show ((t == u) && _) = _
    by_cases e : t = u
    · subst e
      by_cases e2 : ts = us
      · subst e2
        simp
      · simp [e2]
    · have : (t == u) = false := by simpa using e
      rw [this, Bool.false_and, decide_eq_false fun z => e (by injection z)]
theorem strOk_sg {t : Str} (h : sgB t = true) : PyData.strOk t = true := by
  have g : ∀ c ∈ t.cps.toList, c ≤ 126 := fun c hc => by
    have := sgB_mem h hc
    unfold sgC at this
    exact of_decide_eq_true (Bool.and_eq_true_iff.mp this).2
  show t.cps.all (· < 0x110000) = true
  rw [← Array.all_toList, List.all_eq_true]
  intro c hc
  have := g c hc
  exact decide_eq_true (by omega)
theorem shaped_strs {ts : List Str} (h : ∀ t ∈ ts, sgB t = true) : SeqAt.shaped (.tuple (ts.map PyData.str)) = true := by
  have h1 : ∀ us : List Str, (∀ t ∈ us, sgB t = true) → PyData.canLayAll0 (us.map PyData.str) = true := fun us hu => by
    induction us with
    | nil => rfl
    | cons u us ih =>
      show (PyData.strOk u && PyData.canLayAll0 (us.map PyData.str)) = true
      rw [strOk_sg (hu u (by simp)), ih fun t ht => hu t (List.mem_cons_of_mem _ ht)]
      rfl
  have h2 : ∀ us : List Str, PyData.depthAll (us.map PyData.str) ≤ 1 := fun us => by
    induction us with
    | nil => exact Nat.zero_le _
    | cons u us ih =>
      simp only [List.map_cons, PyData.depthAll, PyData.depth]
      omega
  unfold SeqAt.shaped
  have a : (PyData.tuple (ts.map PyData.str)).canLay0 = true := h1 ts h
  have b : (PyData.tuple (ts.map PyData.str)).depth ≤ 64 := by
    have := h2 ts
    simp only [PyData.depth]
    omega
  rw [a, decide_eq_true b]
  rfl
end Ev
set_option maxHeartbeats 4000000
namespace LawK
open PySem PySem.Spec PyProof.Rows L2 Ev

theorem cut_hd (z : Str) : cutS z none (some 1) = SX.S ((cod z).take 1) := cod_inj (cutS_to (by decide))
theorem cut_tl (z : Str) : cutS z (some 1) none = SX.S ((cod z).drop 1) := cod_inj (cutS_from (by decide))
theorem cut_at (z : Str) (n : Nat) : cutS z (some (n : Int)) none = SX.S ((cod z).drop n) := cod_inj (cutS_from (i := (n : Int)) (by omega))
/-- a part that the law has read -/
def PtV (v : V) : Prop := v = .non ∨ (∃ i, v = .int i) ∨ ∃ y : Str, v = .str y ∧ y.length ≤ 2500 ∧ sgB y = true
theorem fig_pt (z : Str) : PtV (figV z) := by
  unfold figV
  split
  · exact .inr (.inl ⟨_, rfl⟩)
  · exact .inl rfl
theorem pt_kd {H : Hp} {v : V} (h : PtV v) : (∃ k, Kd H v k) ∧ Vs v := by
  rcases h with rfl | ⟨i, rfl⟩ | ⟨y, rfl, l, _⟩
  · exact ⟨⟨_, .non⟩, fun z e => by cases e⟩
  · exact ⟨⟨_, .int i⟩, fun z e => by cases e⟩
  · exact ⟨⟨_, .str y⟩, fun z e => by cases e; omega⟩
theorem pt_shr {xs : List V} (h : ∀ v ∈ xs, PtV v) : Shr (some xs) := fun ys e z hz => by
  cases e
  rcases h _ hz with e | ⟨i, e⟩ | ⟨y, e, l, s⟩
  · cases e
  · cases e
  · cases e
    exact ⟨l, strOk_sg s⟩
theorem txw_in (w : Str) : inV (.str w) [V.str (Str.ofString "put"), V.str (Str.ofString "change"), V.str (Str.ofString "come")] = txw w := by
  show ((Str.ofString "put" == w) || ((Str.ofString "change" == w) || ((Str.ofString "come" == w) || false))) = _
  unfold txw
  refine Bool.eq_iff_iff.mpr ?_
  rw [decide_eq_true_iff, Bool.or_false]
  simp only [Bool.or_eq_true, beq_iff_eq]
  exact ⟨fun h => h.imp Eq.symm fun h => h.imp Eq.symm Eq.symm, fun h => h.imp Eq.symm fun h => h.imp Eq.symm Eq.symm⟩
theorem drop_cons' {ks : List Str} {i : Nat} (h : i < ks.length) : ks.drop i = ks[i] :: ks.drop (i + 1) := List.drop_eq_getElem_cons h

def spLRead : Sp := fun vs H Q _ => ∃ z : Str, vs = [.str z] ∧ sgB z = true ∧ z.length ≤ 2500 ∧ (readT (.str z) = none → ∀ H', Same H H' → Q .non H') ∧ ∀ xs, readT (.str z) = some xs → ∀ t H', Same H H' → H' t = some (.tup xs) → Q (.ref t) H'
section
variable {P : Program} {w : World} {K : PySem.W.Frag} {mg : Str → Option Value} {base : Heap}
abbrev sRead : Stmt := topS 40
theorem scRead : FnScope ["text", "word", "words", "many", "parts", "rest", "turn", "figures"] ["text"] (defScope sRead) := ⟨rfl, rfl, rfl, by decide +kernel, rfl, by decide +kernel, by decide +kernel⟩
theorem ok_Read {f : Addr} {fd : FuncData} (F : Fun K "_law_read" "_law_read" sRead f fd)  {fHasForm : Addr} {fdHasForm : FuncData} (DHasForm : Dk P w K mg base "_law_has_form" sHasForm ["thing"] 2 spHasFormL fHasForm fdHasForm) {fFigures : Addr} {fdFigures : FuncData} (DFigures : Dk P w K mg base "_law_figures" sFigures ["word"] 1 spFigs fFigures fdFigures) (T : Glob mg) : FnOk P w K mg base CX0 3 f fd ["text"] spLRead := by
  refine F.ok scRead (fun vs H Q E h => ?_) (fun cdv A outer s H vs Q E hr h => ?_)
  · obtain ⟨z, rfl, _⟩ := h
    rfl
  · refine ⟨_, (pss_cons (ps_set (i := 1) scRead.nd rfl (.inl rfl) (pe_ix ix_list (pe_bm PySem.F.plainAttrs_str PySem.F.slot_str_split PySem.F.type_str_split mt_split (pv 0) (pa_cons pe_str pa_nil)) pe_int (fun _ _ => rfl)))
      (pss_cons (ps_set (i := 2) scRead.nd rfl (.inl rfl) (pe_lst (pa_cons pe_str (pa_cons pe_str (pa_cons pe_str (pa_cons pe_str (pa_cons pe_str (pa_cons pe_str (pa_cons pe_str (pa_cons pe_str pa_nil))))))))))
      (pss_cons (ps_if (pt_cmpR op_notIn_seq (pv 1) (pv 2) rfl)
      (pss_one (ps_ret pe_non))
      pss_nil)
      (pss_cons (ps_set (i := 3) scRead.nd rfl (.inl rfl) (pe_ix ix_list (pe_lst (pa_cons pe_int (pa_cons pe_int (pa_cons pe_int (pa_cons pe_int (pa_cons pe_int (pa_cons pe_int (pa_cons pe_int (pa_cons pe_int pa_nil))))))))) (pe_bm PySem.F.plainAttrs_list PySem.F.slot_list_index PySem.F.type_list_index mt_index (pv 2) (pa_cons (pv 1) pa_nil)) (fun _ _ => rfl)))
      (pss_cons (ps_set (i := 4) scRead.nd rfl (.inl rfl) (pe_lst (pa_cons (pv 1) pa_nil)))
      (pss_cons (ps_set (i := 5) scRead.nd rfl (.inl rfl) (pe_slice sl_str (pv 0) (po_some (pe_callB call_lenZ (by rfl) T.len PySem.boot_len (pa_cons (pv 1) pa_nil))) po_none))
      (pss_cons (ps_for PassesOwn.never rfl (pi_range1 (by rfl) T.range (pa_cons (pv 3) pa_nil)) (pg_name (i := 6) scRead.nd rfl (.inl rfl))
      (pss_cons (ps_if (pt_cmpR op_ne (pe_slice sl_str (pv 5) po_none (po_some pe_int)) pe_str (nomark _))
        (pss_one (ps_ret pe_non))
        pss_nil)
        (pss_cons (ps_set (i := 5) scRead.nd rfl (.inl rfl) (pe_slice sl_str (pv 5) (po_some pe_int) po_none))
        (pss_one (ps_if (PW.pt (pw_and (pt_cmpR op_eq (pv 6) (pe_op op_sub (pv 3) pe_int) (nomark _)) (pw_and1 (pt_cmpR op_in_seq (pv 1) (pe_tup (pa_cons pe_str (pa_cons pe_str (pa_cons pe_str pa_nil)))) rfl))))
        (pss_cons (ps_expr (pe_bm PySem.F.plainAttrs_list PySem.F.slot_list_append PySem.F.type_list_append mt_append (pv 4) (pa_cons (pv 5) pa_nil)))
          (pss_one (ps_set (i := 5) scRead.nd rfl (.inl rfl) pe_str)))
        (pss_cons (ps_set (i := 7) scRead.nd rfl (.inl rfl) (pe_ix ix_list (pe_bm PySem.F.plainAttrs_str PySem.F.slot_str_split PySem.F.type_str_split mt_split (pv 5) (pa_cons pe_str pa_nil)) pe_int (fun _ _ => rfl)))
          (pss_cons (ps_expr (pe_bm PySem.F.plainAttrs_list PySem.F.slot_list_append PySem.F.type_list_append mt_append (pv 4) (pa_cons (pe_call DFigures.ok (hr.mono (by decide)) (by rfl) DFigures.g DFigures.F.kp DFigures.b .nil pass0 (pa_cons (pv 7) pa_nil)) pa_nil)))
          (pss_one (ps_set (i := 5) scRead.nd rfl (.inl rfl) (pe_slice sl_str (pv 5) (po_some (pe_callB call_lenZ (by rfl) T.len PySem.boot_len (pa_cons (pv 7) pa_nil))) po_none))))))))))
      (pss_cons (ps_if (PW.pt (pw_or (pt_cmpR op_ne (pv 5) pe_str (nomark _)) (pw_or1 (pt_not (pt_val (pe_call DHasForm.ok (hr.mono (by decide)) (by rfl) DHasForm.g DHasForm.F.kp DHasForm.b .nil pass0 (pa_cons (pe_callTy call_tuple_of (by rfl) T.tuple (by decide +kernel) (pa_cons (pv 4) pa_nil)) pa_nil)))))))
      (pss_one (ps_ret pe_non))
      pss_nil)
      (pss_one (ps_ret (pe_callTy call_tuple_of (by rfl) T.tuple (by decide +kernel) (pa_cons (pv 4) pa_nil)))))))))))), ?_⟩
    obtain ⟨z, rfl, hz, lz, q0, q1⟩ := h
    have sz : sizeLine = 16777216 := sizeLine_eq
    obtain ⟨r0, er⟩ := split_hd z
    have wp := w_put (cod z)
    have lh : (SX.S (hdW (cod z))).length ≤ z.length := by
      have := congrArg List.length wp.1
      rw [List.length_append, cod_len] at this
      show (hdW (cod z)).length ≤ _
      omega
    have lawn := fun ks => law_none (ks := ks) hz
    have lawo := fun ks vs => law_no (ks := ks) (vs := vs) hz
    have lawy := fun ks vs => law_yes (ks := ks) (vs := vs) hz
    have hT0 : kindsOf (SX.S (hdW (cod z))) = none → readT (.str z) = none := fun h => readT_none (by
      rw [line_yes (show sgV (.str z) = true from hz)]
      unfold readL
      rw [h])
    have hr0 : (cod z).drop (hdW (cod z)).length = spT (tlW (cod z)) := w_drop (cod z)
    have sw : sgB (SX.S (hdW (cod z))) = true := sg_sub hz fun c hc => by rw [wp.1]; exact List.mem_append_left _ hc
    have cw : (hdW (cod z)).length = (SX.S (hdW (cod z))).length := rfl
    rw [cw] at hr0
    revert er lawn lawo lawy hT0 hr0 sw lh
    generalize SX.S (hdW (cod z)) = wd
    intro er lh lawn lawo lawy hT0 hr0 sw
    refine ⟨.str z, rfl, rfl, z, " ", rfl, rfl, by decide, by omega, fun l nl => ?_⟩
    rw [er]
    refine ⟨l, _, 0, .str wd, rfl, rfl, sq_of upd_same, atI_nat (j := 0) rfl, ?_⟩
    have k1 := Same.new (H := H) (o := .lst ((wd :: r0).map V.str)) nl
    revert k1
    generalize upd H l _ = H1
    intro k1
    refine ⟨by show 8 ≤ sizeLine; decide, fun L nL => ?_⟩
    have k2 := k1.trans (Same.new (o := .lst (wds.map V.str)) nL)
    have hL : upd H1 L (.lst (wds.map V.str)) L = some (.lst (wds.map V.str)) := upd_same
    dsimp only [tNext, tSeq, tAsg, gName]
    have e8 : [V.str (Str.ofString "put"), V.str (Str.ofString "change"), V.str (Str.ofString "come"), V.str (Str.ofString "go"), V.str (Str.ofString "split"), V.str (Str.ofString "join"), V.str (Str.ofString "cut"), V.str (Str.ofString "move")] = wds.map V.str := rfl
    rw [e8]
    revert k2 hL
    generalize upd H1 L (.lst (wds.map V.str)) = H2
    intro k2 hL
    refine ⟨.str wd, rfl, .ref L, rfl, L, _, rfl, .inl (sq_of hL), rfl, by decide, _, rfl, ?_⟩
    rw [show (if true = true then !inV (V.str wd) (wds.map V.str) else inV (V.str wd) (wds.map V.str)) = !decide (wd ∈ wds) from congrArg (!·) (in_wds wd)]
    rcases Classical.em (wd ∉ wds) with hw | hw
    · rw [decide_eq_false hw]
      exact iteT (q0 (hT0 (no_word hw)) H2 k2)
    replace hw := Decidable.of_not_not hw
    obtain ⟨j, ks, w8⟩ := words8 hw
    rw [decide_eq_true hw]
    refine iteF ?_
    dsimp only [tNext, tDrop, tSeq]
    refine ⟨by show 8 ≤ sizeLine; decide, fun C nC => ?_⟩
    have ec : [V.int 3, V.int 3, V.int 1, V.int 0, V.int 2, V.int 2, V.int 3, V.int 5] = cnts.map V.int := rfl
    rw [ec]
    have k3 := k2.trans (Same.new (o := .lst (cnts.map V.int)) nC)
    have hL3 := (Same.new (o := .lst (cnts.map V.int)) nC) _ _ hL
    have hC : upd H2 C (.lst (cnts.map V.int)) C = some (.lst (cnts.map V.int)) := upd_same
    revert k3 hL3 hC
    generalize upd H2 C _ = H3
    intro k3 hL3 hC
    have ixw : (wds.map V.str)[j]? = some (.str wd) := by rw [List.getElem?_map, w8.at_]; rfl
    refine ⟨.ref L, rfl, .inl ⟨rfl, _, sq_of hL3⟩, .str wd, rfl, L, _, .str wd, j, .str wd, rfl, rfl, sq_of hL3, rfl, by decide, ixw, show (wd == wd) = true from beq_self_eq_true wd, fun m y hm hy => ?_, ?_⟩
    · rw [List.getElem?_map] at hy
      obtain ⟨z', hz', rfl⟩ := Option.map_eq_some_iff.mp hy
      show (z' == wd) = false
      exact beq_false_of_ne fun e => w8.fst m hm (by rw [hz', e])
    refine ⟨C, _, (j : Nat), .int (ks.length : Int), rfl, rfl, sq_of hC, atI_nat (by rw [List.getElem?_map, w8.cnt]; rfl), ?_⟩
    dsimp only [tNext, tDrop, tSeq, tAsg, gName]
    refine ⟨.str wd, rfl, by show 1 ≤ sizeLine; decide, fun p np => ?_⟩
    have k4 := k3.trans (Same.new (o := .lst [.str wd]) np)
    have hp : upd H3 p (.lst [.str wd]) p = some (.lst (V.str wd :: [])) := upd_same
    have np0 : H p = none := by
      cases e : H p with
      | none => rfl
      | some o =>
        have := k3 _ _ e
        rw [np] at this
        cases this
    revert k4 hp
    generalize upd H3 p _ = H4
    intro k4 hp
    dsimp only [tNext, tDrop, tSeq, tAsg, gName]
    refine ⟨.str z, rfl, .str wd, rfl, _, rfl, by omega, _, rfl, z, rfl, by omega, ?_⟩
    rw [cut_at, hr0]
    dsimp only [tNext, tDrop, tSeq, tAsg, gName]
    have sr0 : ∀ c ∈ spT (tlW (cod z)), c ∈ cod z := fun c hc => by
      rw [wp.1]
      exact List.mem_append_right _ hc
    have lr0 : (spT (tlW (cod z))).length ≤ z.length := by
      have := congrArg List.length wp.1
      rw [List.length_append, cod_len] at this
      omega
    have wpt : PtV (.str wd) := .inr (.inr ⟨wd, rfl, by omega, sw⟩)
    have lk5 : ks.length ≤ 5 := kinds_few w8.kin
    have lawn := lawn ks w8.kin
    have lawo := fun vs => lawo ks vs w8.kin
    have lawy := fun vs => lawy ks vs w8.kin
    revert lawn lawo lawy sr0 lr0
    generalize hS0 : spT (tlW (cod z)) = S0
    intro sr0 lr0 lawn lawo lawy
    refine ⟨.int (ks.length : Int), rfl, _, rfl, by omega, by omega, for_range (fun i σ H' => ∃ (vs : List V) (rest : Str) (u6 u7 : Option V), σ = [some (.str z), some (.str wd), some (.ref L), some (.int (ks.length : Int)), some (.ref p), some (.str rest), u6, u7] ∧ Same H H' ∧ H' p = some (.lst (.str wd :: vs)) ∧ vs.length = i ∧ sgB rest = true ∧ rest.length ≤ z.length ∧ (∀ v ∈ vs, PtV v) ∧ lawK ks S0 = (lawK (ks.drop i) (cod rest)).map (fun p => (vs ++ p.1, p.2))) ⟨[], SX.S S0, none, none, rfl, k4, hp, rfl, sg_sub hz sr0, lr0, fun v hv => absurd hv (by simp), ?_⟩ ?_ ?_⟩
    · show lawK ks S0 = (lawK ks S0).map (fun p => ([] ++ p.1, p.2))
      cases lawK ks S0 <;> rfl
    · rintro i σ H' hi ⟨vs, rest, u6, u7, rfl, kH, hP, hl, sr, lr, hv, hlaw⟩
      have hi : i < ks.length := by omega
      rw [drop_cons' hi] at hlaw
      dsimp only [tNext, tDrop, tSeq, tAsg, gName]
      refine ⟨.str rest, rfl, 1, rfl, rest, rfl, by omega, rfl, _, rfl, ?_⟩
      rw [cut_hd]
      cases ecr : cod rest with
      | nil =>
        have : ¬ V.str (SX.S (([] : List Nat).take 1)) = V.str (Str.ofString " ") := by decide +kernel
        rw [decide_eq_false this]
        rw [ecr] at hlaw
        exact iteT (q0 (lawn fun us h => by rw [hlaw] at h; cases h) H' kH)
      | cons c r =>
        by_cases c32 : c = 32
        · subst c32
          have : V.str (SX.S ((32 :: r).take 1)) = V.str (Str.ofString " ") := by
            show V.str (SX.S [32]) = _
            decide +kernel
          rw [decide_eq_true this]
          refine iteF ?_
          dsimp only [tNext, tDrop, tSeq, tAsg, gName]
          refine ⟨.str rest, rfl, 1, rfl, rest, rfl, by omega, ?_⟩
          rw [cut_tl, ecr]
          rw [ecr] at hlaw
          have lres : (32 :: r).length ≤ z.length := by rw [← ecr, cod_len]; exact lr
          have lr1 : r.length ≤ z.length := by rw [List.length_cons] at lres; omega
          have sr1 : ∀ c ∈ r, sgC c = true := fun c hc => by
            have h : ∀ c ∈ cod rest, sgC c = true := List.all_eq_true.mp sr
            rw [ecr] at h
            exact h c (List.mem_cons_of_mem _ hc)
          have estep : lawK (ks[i] :: ks.drop (i + 1)) (32 :: r) = if ks[i] = kNum ∨ ks[i] = kMany then (lawK (ks.drop (i + 1)) (r.drop (hdW r).length)).map (fun p => (figV (SX.S (hdW r)) :: p.1, p.2)) else (lawK (ks.drop (i + 1)) []).map (fun p => (V.str (SX.S r) :: p.1, p.2)) := if_neg (by decide)
          rw [estep] at hlaw
          have tx := w8.tx i ks[i] (List.getElem?_eq_getElem hi)
          have np' : ∀ {o}, Same H (upd H' p o) := sameAt kH np0
          have npt : ∀ {t}, H' t = none → t ≠ p := fun h e => by
            rw [e, hP] at h
            cases h
          refine (?_ : ∀ Q' : Bool → Hp → Prop, (∀ H2, Same H' H2 → Q' (decide (i + 1 = ks.length ∧ txw wd = true)) H2) → tAnd _ _ _ H' Q') _ ?_
          · intro Q' qq
            refine ⟨.int (0 + (i : Int)), rfl, .int (ks.length : Int), rfl, _, _, rfl, rfl, rfl, _, rfl, ite2 (fun e => ?_) (fun e => ?_)⟩
            · have e := V.int.inj (of_decide_eq_true e)
              have e : i + 1 = ks.length := by omega
              refine ⟨.str wd, rfl, by show 3 ≤ sizeLine; decide, fun t nt => ⟨t, _, rfl, .inr (SqT.of upd_same), rfl, rfl, _, rfl, ?_⟩⟩
              have qq := qq _ (Same.new (o := .tup [V.str (Str.ofString "put"), V.str (Str.ofString "change"), V.str (Str.ofString "come")]) nt)
              rw [show decide (i + 1 = ks.length ∧ txw wd = true) = txw wd by cases txw wd <;> simp [e]] at qq
              rw [show (if false = true then !inV (V.str wd) [V.str (Str.ofString "put"), V.str (Str.ofString "change"), V.str (Str.ofString "come")] else inV (V.str wd) [V.str (Str.ofString "put"), V.str (Str.ofString "change"), V.str (Str.ofString "come")]) = txw wd from txw_in wd]
              exact qq
            · have ne : i + 1 ≠ ks.length := fun h => e (decide_eq_true (congrArg V.int (by omega)))
              have qq := qq _ (Same.refl _)
              rw [show decide (i + 1 = ks.length ∧ txw wd = true) = false from decide_eq_false fun h => ne h.1] at qq
              exact qq
          · intro H2 k2'
            have hP2 := k2' _ _ hP
            have kH2 := kH.trans k2'
            by_cases ct : ks[i] = kNum ∨ ks[i] = kMany
            · rw [decide_eq_false fun h => tx.mp h ct]
              rw [if_pos ct] at hlaw
              refine iteF ?_
              dsimp only [tNext, tDrop, tSeq, tAsg, gName]
              obtain ⟨r1, er1⟩ := split_hd (SX.S r)
              have lhd : (hdW r).length ≤ r.length := by
                have := congrArg List.length (w_put r).1
                rw [List.length_append] at this
                omega
              have er1 : Txt.split (SX.S r) " " = SX.S (hdW r) :: r1 := er1
              refine ⟨.str (SX.S r), rfl, rfl, SX.S r, " ", rfl, rfl, by decide, by show r.length + 2 ≤ _; omega, fun l nl => ?_⟩
              rw [er1]
              refine ⟨l, _, 0, .str (SX.S (hdW r)), rfl, rfl, sq_of upd_same, atI_nat (j := 0) rfl, ?_⟩
              have k3' := Same.new (H := H2) (o := .lst ((SX.S (hdW r) :: r1).map V.str)) nl
              revert k3'
              generalize upd H2 l _ = H5
              intro k3'
              have hP5 := k3' _ _ hP2
              have kH5 := kH2.trans k3'
              dsimp only [tNext, tDrop, tSeq, tAsg, gName]
              refine ⟨.ref p, rfl, .inl ⟨rfl, _, sq_of hP5⟩, .str (SX.S (hdW r)), rfl, SX.S (hdW r), rfl, by show (hdW r).length ≤ _; omega, fun H6 k6 => ?_⟩
              have hP6 := k6 _ _ hP5
              have kH6 := kH5.trans k6
              refine ⟨p, _, _, rfl, rfl, hP6, by rw [List.length_cons]; omega, ?_⟩
              refine ⟨.str (SX.S r), rfl, .str (SX.S (hdW r)), rfl, _, rfl, by show (hdW r).length ≤ _; omega, _, rfl, SX.S r, rfl, by show r.length ≤ _; omega, ?_⟩
              rw [cut_at]
              refine ⟨vs ++ [figV (SX.S (hdW r))], _, _, _, rfl, sameAt kH6 np0, by rw [upd_same]; rfl, by rw [List.length_append, hl]; rfl, ?_, ?_, fun v hm => ?_, ?_⟩
              · exact List.all_eq_true.mpr fun c hc => sr1 c (List.mem_of_mem_drop hc)
              · show (r.drop (hdW r).length).length ≤ _
                rw [List.length_drop]
                omega
              · rcases List.mem_append.mp hm with hm | hm
                · exact hv v hm
                · rw [List.mem_singleton.mp hm]
                  exact fig_pt _
              · rw [hlaw, Option.map_map]
                show _ = Option.map _ (lawK (ks.drop (i + 1)) (r.drop (hdW r).length))
                congr 1
                funext p
                simp
            · rw [decide_eq_true (tx.mpr ct)]
              rw [if_neg ct] at hlaw
              refine iteT ?_
              dsimp only [tNext, tDrop, tSeq, tAsg, gName]
              refine ⟨.ref p, rfl, .inl ⟨rfl, _, sq_of hP2⟩, .str (SX.S r), rfl, p, _, _, rfl, rfl, hP2, by rw [List.length_cons]; omega, ?_⟩
              refine ⟨vs ++ [.str (SX.S r)], Str.ofString "", _, _, rfl, sameAt kH2 np0, by rw [upd_same]; rfl, by rw [List.length_append, hl]; rfl, by decide +kernel, by show (0 : Nat) ≤ _; omega, fun v hm => ?_, ?_⟩
              · rcases List.mem_append.mp hm with hm | hm
                · exact hv v hm
                · rw [List.mem_singleton.mp hm]
                  exact .inr (.inr ⟨_, rfl, by show r.length ≤ 2500; omega, List.all_eq_true.mpr sr1⟩)
              · rw [hlaw, show cod (Str.ofString "") = [] by decide +kernel, Option.map_map]
                congr 1
                funext p
                simp
        · have : ¬ V.str (SX.S ((c :: r).take 1)) = V.str (Str.ofString " ") := fun h => by
            have h := congrArg cod (V.str.inj h)
            rw [show cod (Str.ofString " ") = [32] by decide +kernel] at h
            have h : [c] = [32] := h
            injection h with h _
            exact c32 h
          rw [decide_eq_false this]
          rw [ecr] at hlaw
          refine iteT (q0 (lawn fun us h => ?_) H' kH)
          rw [hlaw] at h
          have e : lawK (ks[i] :: ks.drop (i + 1)) (c :: r) = none := by
            show (if c ≠ 32 then none else _) = none
            rw [if_pos c32]
          rw [e] at h
          cases h
    · rintro σ H' ⟨vs, rest, u6, u7, rfl, kH, hP, hl, sr, lr, hv, hlaw⟩
      have hl : vs.length = ks.length := by omega
      have hlaw : lawK ks S0 = some (vs, cod rest) := by
        rw [hlaw, List.drop_of_length_le (by omega)]
        show some (vs ++ [], cod rest) = _
        rw [List.append_nil]
      dsimp only [tNext, tDrop, tSeq, tAsg, gName]
      refine ⟨.str rest, rfl, rfl, _, rfl, ?_⟩
      by_cases e0 : rest = Str.ofString ""
      · subst e0
        rw [decide_eq_true rfl]
        refine iteF ?_
        have hlaw : lawK ks S0 = some (vs, []) := by
          rw [hlaw, show cod (Str.ofString "") = [] by decide +kernel]
        have hpt : ∀ v ∈ V.str wd :: vs, PtV v := fun v hm => (List.mem_cons.mp hm).elim (fun e => e ▸ wpt) (hv v)
        refine ⟨.ref p, rfl, p, _, rfl, .inl ⟨sq_of hP, fun t nt => ?_⟩⟩
        have kt := kH.trans (Same.new (o := .tup (V.str wd :: vs)) nt)
        have ht : upd H' t (.tup (V.str wd :: vs)) t = some (.tup (V.str wd :: vs)) := upd_same
        have hP' : upd H' t (.tup (V.str wd :: vs)) p = some (.lst (V.str wd :: vs)) := (Same.new nt) _ _ hP
        revert kt ht hP'
        generalize upd H' t _ = H7
        intro kt ht hP'
        refine ⟨.ref t, some (V.str wd :: vs), rfl, .tup ht (by rw [List.length_cons]; omega) (fun y hy => pt_kd (hpt y hy)), pt_shr hpt, fun b H8 hb k8 => ⟨_, rfl, ?_⟩⟩
        have k78 := kt.trans k8
        cases b with
        | false => exact iteT (q0 (lawo vs hlaw fun h => by have := hb.mpr h; cases this) H8 k78)
        | true =>
          refine iteF ?_
          dsimp only [tNext, tDrop, tSeq, tAsg, gName]
          refine ⟨.ref p, rfl, p, _, rfl, .inl ⟨sq_of (k8 _ _ hP'), fun t2 nt2 => ?_⟩⟩
          exact q1 _ (lawy vs hlaw (hb.mp rfl)) t2 _ (k78.trans (Same.new nt2)) upd_same
      · rw [decide_eq_false fun h => e0 (V.str.inj h)]
        refine iteT (q0 (lawn fun us h => ?_) H' kH)
        rw [hlaw] at h
        injection h with h
        injection h with _ h
        exact e0 (cod_inj (h.trans (by decide +kernel)))
end
end LawK
set_option maxHeartbeats 4000000
namespace LawK
open PySem PySem.Spec PyProof.Rows L2 Ev
theorem kinds_word {w : Str} {ks : List Str} (h : kindsOf w = some ks) : 32 ∉ cod w ∧ sgB w = true ∧ w.length ≤ 6 := by
  have key : w ∈ wds := by
    by_cases c : w ∈ wds
    · exact c
    · rw [no_word c] at h
      cases h
  unfold wds at key
  simp only [List.mem_cons, List.not_mem_nil, or_false] at key
  rcases key with rfl | rfl | rfl | rfl | rfl | rfl | rfl | rfl <;> exact ⟨by decide +kernel, by decide +kernel, by decide +kernel⟩
theorem part_sg {k : Str} {v : V} (h : partV k v = true) : (cod (shV v)).all sgC = true := by
  by_cases c : k = kNum ∨ k = kMany
  · obtain ⟨n, rfl⟩ := many_num c h
    exact num_sg n
  · obtain ⟨z, rfl, s, _⟩ := text_part c h
    exact s
theorem spL_sg : ∀ (ks : List Str) (ps : List V), ps.length = ks.length → allP ks ps = true → (spL ps).all sgC = true
  | [], [], _, _ => rfl
  | [], _ :: _, h, _ => by cases h
  | _ :: _, [], h, _ => by cases h
  | k :: ks, v :: ps, hl, ha => by
    obtain ⟨h1, h2⟩ := all_cons.mp ha
    have ih := spL_sg ks ps (by simpa using hl) h2
    show (32 :: (cod (shV v) ++ spL ps)).all sgC = true
    rw [List.all_cons, List.all_append, part_sg h1, ih]
    decide
theorem form_word {xs : List V} (h : HasTx xs) : ∃ w ps ks, xs = .str w :: ps ∧ kindsOf w = some ks ∧ ps.length = ks.length ∧ allP ks ps = true ∧ ∀ i, V.int i ∈ ps → i < 10000 := by
  cases xs with
  | nil => exact absurd h.1 form_nil
  | cons x ps =>
    obtain ⟨w, rfl⟩ := form_str h.1
    cases hw : kindsOf w with
    | none => exact absurd h.1 (no_form_kinds hw)
    | some ks =>
      obtain ⟨a, b⟩ := (form_iff hw).mp h.1
      exact ⟨w, ps, ks, rfl, hw, a, b, fun i hi => h.2.1 i (List.mem_cons_of_mem _ hi)⟩
/-- what is told is read back -/
theorem shw_read {xs : List V} (h : HasTx xs) : sgB (shw xs) = true ∧ readT (.str (shw xs)) = some xs := by
  obtain ⟨w, ps, ks, rfl, hw, hl, ha, hs⟩ := form_word h
  obtain ⟨w1, w2, _⟩ := kinds_word hw
  have ec : cod (shw (.str w :: ps)) = cod w ++ spT (spO ps) := by
    rw [shw_cod, spO_T]
    rfl
  have sg : sgB (shw (.str w :: ps)) = true := by
    show (cod (shw (.str w :: ps))).all sgC = true
    rw [ec, List.all_append, spO_T, spL_sg ks ps hl ha]
    rw [show (cod w).all sgC = true from w2]
    rfl
  obtain ⟨e1, e2⟩ := w_of (spO ps) w1
  refine ⟨sg, ?_⟩
  have hd : SX.S (hdW (cod (shw (.str w :: ps)))) = w := by rw [ec, e1, S_cod]
  have e := readT_eq sg (ks := ks) (by rw [hd]; exact hw)
  rw [hd, ec, e2, rd_back ks ps (prp_kinds hw) hl ha hs] at e
  exact readT_yes e h
/-- what is read shows as the text -/
theorem read_shw {z : Str} {xs : List V} (hz : sgB z = true) (h : readT (.str z) = some xs) : HasTx xs ∧ shw xs = z := by
  cases e : lineO (.str z) with
  | none =>
    rw [readT_none e] at h
    cases h
  | some ys =>
    by_cases c : HasTx ys
    · rw [readT_yes e c] at h
      cases h
      refine ⟨c, ?_⟩
      rw [line_yes (show sgV (.str z) = true from hz)] at e
      unfold readL at e
      cases hw : kindsOf (SX.S (hdW (cod z))) with
      | none =>
        rw [hw] at e
        cases e
      | some ks =>
        rw [hw] at e
        obtain ⟨vs, h2, rfl⟩ := Option.map_eq_some_iff.mp e
        refine cod_inj ?_
        rw [shw_cod, rd_sound ks _ vs (prp_kinds hw) h2]
        exact (w_put (cod z)).1.symm
    · rw [readT_no e c] at h
      cases h
theorem spL_len : ∀ (ks : List Str) (ps : List V), prp ks → ps.length = ks.length → allP ks ps = true → (∀ i, V.int i ∈ ps → i < 10000) → (∀ z, V.str z ∈ ps → z.length ≤ 2500) → (spL ps).length ≤ 5 * ks.length + 2500
  | [], [], _, _, _, _, _ => by simp [spL]
  | [], _ :: _, _, h, _, _, _ => by cases h
  | _ :: _, [], _, h, _, _, _ => by cases h
  | k :: ks, v :: ps, hp, hl, ha, hs, ht => by
    obtain ⟨h1, h2⟩ := all_cons.mp ha
    show (32 :: (cod (shV v) ++ spL ps)).length ≤ _
    rw [List.length_cons, List.length_append, List.length_cons]
    by_cases c : k = kNum ∨ k = kMany
    · have hp2 : prp ks := by
        cases ks with
        | nil => trivial
        | cons k' ks => exact hp.2
      have ih := spL_len ks ps hp2 (by simpa using hl) h2 (fun i hi => hs i (List.mem_cons_of_mem _ hi)) fun z hz => ht z (List.mem_cons_of_mem _ hz)
      obtain ⟨n, rfl⟩ := many_num c h1
      have l := num_len (n := n) (by have := hs _ List.mem_cons_self; omega)
      rw [← cod_len] at l
      have : (cod (shV (.int (n : Int)))).length ≤ 4 := l
      omega
    · have kn : ks = [] := by
        cases ks with
        | nil => rfl
        | cons k' ks => exact absurd hp.1 c
      subst kn
      obtain rfl : ps = [] := List.length_eq_zero_iff.mp (by simpa using hl)
      obtain ⟨z, rfl, _⟩ := text_part c h1
      have := ht z List.mem_cons_self
      rw [← cod_len] at this
      have : (cod (shV (.str z))).length ≤ 2500 := this
      show (cod (shV (.str z))).length + (spL []).length + 1 ≤ _
      have e0 : (spL []).length = 0 := rfl
      have e1 : ([k] : List Str).length = 1 := rfl
      rw [e0]
      have e2 : ([] : List Str).length = 0 := rfl
      rw [e2]
      omega
theorem shw_len {xs : List V} (h : HasTx xs) (ht : ∀ z, V.str z ∈ xs → z.length ≤ 2500) : (shw xs).length ≤ 2600 := by
  obtain ⟨w, ps, ks, rfl, hw, hl, ha, hs⟩ := form_word h
  obtain ⟨_, _, w3⟩ := kinds_word hw
  have := spL_len ks ps (prp_kinds hw) hl ha hs fun z hz => ht z (List.mem_cons_of_mem _ hz)
  have l5 := kinds_few hw
  rw [← cod_len, shw_cod, List.length_append]
  have : (cod (shV (.str w))).length = w.length := cod_len w
  omega
end LawK
set_option maxHeartbeats 4000000
namespace LawK
open PySem PySem.Spec PyProof.Rows L2 Ev

/-- what is told of something that has a text; nothing is raised -/
def spEText0 : Sp := fun vs H Q _ => ∃ (x : V) (xs : List V), vs = [x] ∧ Tg H x (some xs) ∧ HasTx xs ∧ ∀ H', Same H H' → Q (.str (shw xs)) H'
/-- a number or a text, small -/
def SmV (v : V) : Prop := (∃ i, v = .int i ∧ 0 ≤ i ∧ i < 10000) ∨ ∃ z, v = .str z ∧ z.length ≤ 5000
def spLEText : Sp := fun vs H Q _ => ∃ (a : Addr) (xs : List V), vs = [.ref a] ∧ H a = some (.tup xs) ∧ xs.length ≤ 30 ∧ (∀ v ∈ xs, SmV v) ∧ ∀ H', Same H H' → Q (.str (shw xs)) H'
def TldAt (H : Hp) (t : Addr) (o : Option (List V)) : Prop := (∃ xs, o = some xs ∧ HasTx xs ∧ H t = some (.tup [.str (Str.ofString "told"), .str (shw xs)])) ∨ (¬ HasT o ∧ H t = some (.tup [.str (Str.ofString "refused"), .str (Str.ofString "edit")]))
def spTold : Sp := fun vs H Q _ => ∃ (x : V) (o : Option (List V)), vs = [x] ∧ Tg H x o ∧ ∀ t H', Same H H' → TldAt H' t o → Q (.ref t) H'
section
variable {P : Program} {w : World} {K : PySem.W.Frag} {mg : Str → Option Value} {base : Heap}
variable {PE cE : Addr}
theorem ok0_PEditText {f : Addr} {fd : FuncData} (F : Fun K "edit_text" "edit_text" sPEditText f fd)  {fQHasText : Addr} {fdQHasText : FuncData} (DQHasText : Dk P w K mg base "_has_text" sQHasText ["thing"] 5 spHasText fQHasText fdQHasText) (T : Glob mg) : FnOk P w K mg base CX0 6 f fd ["edit"] spEText0 := by
  refine F.ok scPEditText (fun vs H Q E h => ?_) (fun cdv A outer s H vs Q E hr h => ?_)
  · obtain ⟨x, xs, rfl, _⟩ := h
    rfl
  · refine ⟨_, (pss_cons (ps_if (pt_not (pt_val (pe_call DQHasText.ok (hr.mono (by decide)) (by rfl) DQHasText.g DQHasText.F.kp DQHasText.b .nil pass0 (pa_cons (pv 0) pa_nil))))
      (pss_one ps_dead)
      pss_nil)
      (pss_one (ps_ret (pe_join pe_str (pe_lc (own := [("part", 1)]) (g := gName 1) (by rfl) scPEditText.nd (pi_tup (pv 0)) (blkOk_by (N := ["edit", "part"]) (sc := defScope sPEditText) (by decide +kernel)) (fun _ _ _ _ _ => pg_name (i := 1) scPEditText.nd rfl (.inl rfl)) (fun _ _ _ _ _ => pts_nil) (fun _ _ _ _ _ => (pe_callTy (CallR.or call_str_int SkE.call_str_str) (by rfl) T.str (by decide +kernel) (pa_cons (pv 1) pa_nil)))))))), ?_⟩
    obtain ⟨x, xs, rfl, hT, hx, q⟩ := h
    refine ⟨x, rfl, x, some xs, rfl, hT, fun b H1 hb k1 => ⟨_, rfl, ?_⟩⟩
    have eb : b = true := hb.mpr ⟨xs, rfl, hx⟩
    subst eb
    refine iteF ?_
    dsimp only [tNext, tDrop, tSeq]
    cases hT with
    | @tup a _ e n hy =>
      have e1 := k1 _ _ e
      have hps : ∀ v ∈ xs, (∃ i, v = .int i ∧ 0 ≤ i ∧ i < 10000) ∨ ∃ z, v = .str z ∧ z.length ≤ 5000 := fun v hv => by
        rcases tx_parts hx v hv with ⟨i, rfl, h⟩ | ⟨z, rfl⟩
        · exact .inl ⟨i, rfl, h⟩
        · exact .inr ⟨z, rfl, (hy _ hv).2 z rfl⟩
      
      have sz : sizeLine = 16777216 := sizeLine_eq
      refine ⟨⟨_, rfl⟩, .ref a, rfl, a, rfl, ⟨_, SqT.of e1⟩, fun D nD => lc_it (walk_tup (K := K) (a := a) (xs := xs)) (fun i H' => Same H1 H' ∧ H' D = some (.lst (((xs.take i).map shV).map V.str))) ⟨Same.new nD, upd_same⟩ (fun i H' _ g => SqT.of (g.1 _ _ e1)) ?_ ?_⟩
      · rintro i v H3 H4 hi ⟨k3, hD⟩ ⟨rfl, hv⟩
        have hm := List.mem_of_getElem? hv
        have ef : (xs.take (i + 1)).map shV = (xs.take i).map shV ++ [shV v] := by
          rw [List.take_succ, hv, List.map_append]
          rfl
        have lt : (((xs.take i).map shV).map V.str).length < sizeLine := by
          rw [List.length_map, List.length_map, List.length_take]
          omega
        have put : upd H4 D (.lst (((xs.take i).map shV).map V.str ++ [V.str (shV v)])) D = some (.lst (((xs.take (i + 1)).map shV).map V.str)) := by
          rw [upd_same, ef, List.map_append]
          rfl
        rcases hps v hm with ⟨n, rfl, n0, n1⟩ | ⟨z, rfl, lz⟩
        · refine ⟨rfl, .int n, rfl, .inl ⟨n, rfl, small_log n0 n1, _, hD, lt, sameAt k3 nD, put⟩⟩
        · exact ⟨rfl, .str z, rfl, .inr ⟨z, rfl, _, hD, lt, sameAt k3 nD, put⟩⟩
      · rintro H3 ⟨k3, hD⟩
        rw [List.take_of_length_le (Nat.le_refl _)] at hD
        refine ⟨Str.ofString " ", D, xs.map shV, rfl, rfl, .inl (sq_of hD), ?_, q H3 (k1.trans k3)⟩
        have h1 := sum_shV hps
        rw [List.length_map]
        have : (Str.ofString " ").length = 1 := sp_len
        rw [this]
        omega
      
abbrev sEditText : Stmt := topS 35
theorem scEditText : FnScope ["edit", "part"] ["edit"] (defScope sEditText) := ⟨rfl, rfl, rfl, by decide +kernel, rfl, by decide +kernel, by decide +kernel⟩
theorem ok_EditText {f : Addr} {fd : FuncData} (F : Fun K "_law_edit_text" "_law_edit_text" sEditText f fd)   (T : Glob mg) : FnOk P w K mg base CX0 1 f fd ["edit"] spLEText := by
  refine F.ok scEditText (fun vs H Q E h => ?_) (fun cdv A outer s H vs Q E hr h => ?_)
  · obtain ⟨a, xs, rfl, _⟩ := h
    rfl
  · refine ⟨_, (pss_one (ps_ret (pe_join pe_str (pe_lc (own := [("part", 1)]) (g := gName 1) (by rfl) scEditText.nd (pi_tup (pv 0)) (blkOk_by (N := ["edit", "part"]) (sc := defScope sEditText) (by decide +kernel)) (fun _ _ _ _ _ => pg_name (i := 1) scEditText.nd rfl (.inl rfl)) (fun _ _ _ _ _ => pts_nil) (fun _ _ _ _ _ => (pe_callTy (CallR.or call_str_int SkE.call_str_str) (by rfl) T.str (by decide +kernel) (pa_cons (pv 1) pa_nil))))))), ?_⟩
    obtain ⟨a, xs, rfl, e1, n, hps, q⟩ := h
    
    have sz : sizeLine = 16777216 := sizeLine_eq
    refine ⟨⟨_, rfl⟩, .ref a, rfl, a, rfl, ⟨_, SqT.of e1⟩, fun D nD => lc_it (walk_tup (K := K) (a := a) (xs := xs)) (fun i H' => Same H H' ∧ H' D = some (.lst (((xs.take i).map shV).map V.str))) ⟨Same.new nD, upd_same⟩ (fun i H' _ g => SqT.of (g.1 _ _ e1)) ?_ ?_⟩
    · rintro i v H3 H4 hi ⟨k3, hD⟩ ⟨rfl, hv⟩
      have hm := List.mem_of_getElem? hv
      have ef : (xs.take (i + 1)).map shV = (xs.take i).map shV ++ [shV v] := by
        rw [List.take_succ, hv, List.map_append]
        rfl
      have lt : (((xs.take i).map shV).map V.str).length < sizeLine := by
        rw [List.length_map, List.length_map, List.length_take]
        omega
      have put : upd H4 D (.lst (((xs.take i).map shV).map V.str ++ [V.str (shV v)])) D = some (.lst (((xs.take (i + 1)).map shV).map V.str)) := by
        rw [upd_same, ef, List.map_append]
        rfl
      rcases hps v hm with ⟨n, rfl, n0, n1⟩ | ⟨z, rfl, lz⟩
      · refine ⟨rfl, .int n, rfl, .inl ⟨n, rfl, small_log n0 n1, _, hD, lt, sameAt k3 nD, put⟩⟩
      · exact ⟨rfl, .str z, rfl, .inr ⟨z, rfl, _, hD, lt, sameAt k3 nD, put⟩⟩
    · rintro H3 ⟨k3, hD⟩
      rw [List.take_of_length_le (Nat.le_refl _)] at hD
      refine ⟨Str.ofString " ", D, xs.map shV, rfl, rfl, .inl (sq_of hD), ?_, q H3 k3⟩
      have h1 := sum_shV hps
      rw [List.length_map]
      have : (Str.ofString " ").length = 1 := sp_len
      rw [this]
      omega
abbrev sTold : Stmt := topS 43
theorem scTold : FnScope ["thing"] ["thing"] (defScope sTold) := ⟨rfl, rfl, rfl, by decide +kernel, rfl, by decide +kernel, by decide +kernel⟩
theorem ok_Told {f fS : Addr} {fd fdS : FuncData} (F : Fun K "_law_told" "_law_told" sTold f fd) (EN : Cls0 P K mg PE "NoEdit" cE) (gPE : mg "PieceError" = some (.ref PE))
    (FS : Fun K "edit_text" "edit_text" sPEditText fS fdS) (bS : Binds K fdS ["edit"] []) (gS : mg "edit_text" = some (.ref fS)) (GS : FnOk P w K mg base (L2.CX P w) 6 fS fdS ["edit"] (spETextE cE)) (T : Glob mg) :
    FnOk P w K mg base CX0 7 f fd ["thing"] spTold := by
  refine F.ok scTold (fun vs H Q E h => ?_) (fun cdv A outer s H vs Q E hr h => ?_)
  · obtain ⟨x, o, rfl, _⟩ := h
    rfl
  · refine ⟨_, pss_one (ps_try_many (tb := fun W => tRet (tTup (tCons (tC (.str (Str.ofString "told"))) (tCons (tCallS (spETextE cE) (fun σ => WE W σ) (tCons (tVar 0) tNil)) tNil)))) (Wout := fun _ _ _ _ => False) rfl rfl takes0
        (fun W pn xe tk _ => pss_one (ps_ret (pe_tup (pa_cons pe_str (pa_cons (pe_callS (E := fun σ => WE W σ) GS (hr.mono (by decide)) (by rfl) gS FS.kp bS (fun σ => passAt tk σ) (pa_cons (pv 0) pa_nil)) pa_nil)))))
        (HdsOk.cons ⟨rfl, by decide, .inl EN.g⟩ (fun a oe cls d pn hz hf => pss_one (ps_ret (pe_tup (pa_cons pe_str (pa_cons pe_str pa_nil))))) (HdsOk.cons ⟨rfl, by decide, .inl gPE⟩ (fun a oe cls d pn hz hf => pss_one (ps_ret (pe_tup (pa_cons pe_str (pa_cons pe_str pa_nil))))) HdsOk.nil))), ?_⟩
    obtain ⟨x, o, rfl, hT, q⟩ := h
    refine ⟨x, rfl, x, o, rfl, hT, fun no H1 k1 => ?_, fun xs H1 e hx k1 => ?_⟩
    · refine ⟨true, (exm_at EN.er EN.er EN.ne).trans (congrArg some (decide_eq_true rfl)), (fun _ a1 na1 => ?_), fun z => Bool.noConfusion z⟩
      exact ⟨by show 2 ≤ sizeLine; decide, fun r nr => q r _ (k1.trans (Same.new nr)) (.inr ⟨no, upd_same⟩)⟩
    · exact ⟨by show 2 ≤ sizeLine; decide, fun r nr => q r _ (k1.trans (Same.new nr)) (.inl ⟨xs, e, hx, upd_same⟩)⟩
end
end LawK
set_option maxHeartbeats 4000000
namespace Ev
open PySem PySem.Spec PyProof.Rows L2
/-- either way to walk -/
theorem PI.or {X : Cx} {tg e : Expr} {u v : TI} (h : PI X tg e u) (k : PI X tg e v) : PI X tg e (fun σ H R => u σ H R ∨ v σ H R) :=
  ⟨fun pins s σ H R I q => q.elim (fun z => h.run pins s σ H R I z) (fun z => k.run pins s σ H R I z)⟩
theorem for_enL {K : PySem.W.Frag} {a : Addr} {xs : List V} {g : TG} {tb : TS} {D : Ends} {σ : L2.St} {H : Hp} (Pv : Nat → L2.St → Hp → Prop) (h0 : Pv 0 σ H) (hl : ∀ i σ H, Pv i σ H → SqL K H a xs)
    (hs : ∀ (i : Nat) x σ H, xs[i]? = some x → Pv i σ H → ∀ T, H T = none → g (.ref T) σ (upd H T (.tup [.int (i : Nat), x])) fun σ2 H2 => tb { D with nx := Pv (i + 1), ct := Pv (i + 1), bk := D.nx } σ2 H2) (hd : ∀ σ H, Pv xs.length σ H → D.nx σ H) :
    ∃ W : Nat → Nat → L2.St → Hp → Prop, (∃ m, W 0 m σ H) ∧ ∀ i m σ H, W i m σ H →
      ((Ite K a).stop i H ∧ D.nx σ H) ∨ ((Ite K a).go i H ∧ ∃ N : L2.St → Hp → Prop, (∀ σ' H', N σ' H' → ∃ m', m' < m ∧ W (i + 1) m' σ' H') ∧ ∀ x H', (Ite K a).yld i H x H' → g x σ H' fun σ2 H2 => tb { D with nx := N, ct := N, bk := D.nx } σ2 H2) :=
  for_it walk_enum Pv h0 (fun i σ H _ p => hl i σ H p) (fun i x σ H H' _ p y => by
    obtain ⟨T, x1, x2, rfl, nT, rfl, e1, e2⟩ := y
    cases e1
    exact hs i x2 σ H e2 p T nT) hd
theorem kit_seq {K : PySem.W.Frag} (k : Kn) : PySem.W.kitAny K (.type k.name) [.type "list", .type "tuple"] = some (decide (k = .lst) || decide (k = .tup)) := by
  cases k <;> rfl
end Ev
set_option maxHeartbeats 4000000
namespace Ev
open PySem PySem.Spec PyProof.Rows L2
/-! sets of keys of one kind whose table can be walked -/
section
variable {P : Program} {w : World} {K : Type} [DecidableEq K]
/-- no two of them are one key -/
def Apart (κ : KeyKind P w K) (l : List (Int × Value)) : Prop := l.Pairwise fun e f => ∀ k, κ.is k e.2 = true → κ.is k f.2 = true → False
/-- the set at a, S its members, n their number; its table rises and can be walked -/
def SetG (κ : KeyKind P w K) (h : Heap) (a : Addr) (S : K → Bool) (n : Nat) : Prop :=
  ∃ o es ep t, h.get? a = some o ∧ (o.ExactSet ∧ o.data = .set es ep t) ∧ (ElemsOf κ es.toList ∧ Apart κ es.toList) ∧ (∀ k, S k = true ↔ ∃ e ∈ es.toList, κ.is k e.2 = true) ∧ (es.size < scanBound ∧ t.fits es.size = true ∧ es.size = n) ∧ (Ris t.place.toList ∧ (w.params.followText "set-order" = true ∨ t.led = true))
variable {κ : KeyKind P w K} {h h' : Heap} {a : Addr} {S : K → Bool} {n : Nat}
theorem SetG.keep (R : SetG κ h a S n) (k : ∀ o, h.get? a = some o → h'.get? a = some o) : SetG κ h' a S n := let ⟨o, es, ep, t, ho, r⟩ := R; ⟨o, es, ep, t, k o ho, r⟩
theorem SetG.of (R : SetG κ h a S n) : h.SetOf κ a S n := let ⟨o, es, ep, t, ho, x, g, m, b, _⟩ := R; ⟨o, es, ep, t, ho, x.1, x.2, g.1, m, b⟩
theorem Apart.perm {l m : List (Int × Value)} (p : l.Perm m) (x : Apart κ l) : Apart κ m := List.Perm.pairwise p x fun {e f} q k h1 h2 => q k h2 h1
variable {A : Around} {E : Value → Shared → Prop} {s : Shared}
theorem setG_tail {g : Bool → Sem Unit} (gg : ∀ (b : Bool) (z : Shared) (W : Unit → Shared → Prop), W () z → wpAny (model P w) A (g b) W E z)
    {o : Obj} {es fs : Array (Int × Value)} {ep : Nat} {t u : SetTable} (ho : s.heap.get? a = some o) (xs : o.ExactSet) (hd : o.data = .set es ep t) (g1 : ElemsOf κ fs.toList) (n1 : Apart κ fs.toList) (m1 : ∀ k, S k = true ↔ ∃ e ∈ fs.toList, κ.is k e.2 = true)
    (b1 : fs.size < scanBound) (f1 : u.fits fs.size = true) (r1 : Ris u.place.toList) (l1 : w.params.followText "set-order" = true ∨ u.led = true) {wd : Bool} {R : Option Bool → Shared → Prop}
    (fin : ∀ z, Heap.SameBut a s.heap z → SetG κ z a S fs.size → R (some true) { s with heap := z }) :
    wpAny (model P w) A (storeSet a fs u >>= fun _ => if (!wd && u.tooFull) = true then (g (relayAll u fs (SetTable.grown fs.size)).2.2 >>= fun _ => storeSet a (relayAll u fs (SetTable.grown fs.size)).1 (relayAll u fs (SetTable.grown fs.size)).2.1 >>= fun _ => pure (some true)) else pure (some true)) R E s := by
  have put : ∀ {z : Heap} {o : Obj} {es : Array (Int × Value)} {ep : Nat} {t : SetTable} (fs : Array (Int × Value)) (u : SetTable), z.get? a = some o → o.data = .set es ep t → (z.update a (Obj.putSet fs u)).get? a = some { o with data := .set fs (ep + 1) u } := fun {z o es ep t} fs u e d => by
    have q := Heap.get?_update_self (Obj.putSet fs u) e (by rw [putSet_of fs u d] <;> rfl); rw [putSet_of fs u d] at q; exact q
  refine wpAny_bind (wpAny_storeSet_of ho hd ?_ (fits_of_scanBound b1))
  have o1 := put fs u ho hd
  have s1 := Heap.SameBut.update s.heap a (Obj.putSet fs u)
  split
  · have p2 := relayAll_perm u fs (SetTable.grown fs.size); have f2 := relayAll_fits u fs (SetTable.grown fs.size)
    have r2 := relayAll_ris u fs (SetTable.grown fs.size); have l2 := relayAll_led u fs (SetTable.grown fs.size)
    revert p2 f2 r2 l2
    generalize relayAll u fs (SetTable.grown fs.size) = Z
    obtain ⟨gs, v, gv⟩ := Z
    intro p2 f2 r2 l2; dsimp only at p2 f2 r2 l2 ⊢
    have sz : gs.size = fs.size := by have := p2.length_eq; rw [Array.length_toList, Array.length_toList] at this; exact this
    refine wpAny_bind (gg _ _ _ (wpAny_bind (wpAny_storeSet_of o1 rfl ?_ (fits_of_scanBound (by rw [sz] <;> exact b1)))))
    refine wpAny_pure (fin _ (s1.trans (Heap.SameBut.update _ a _)) ⟨_, gs, _, v, put gs v o1 rfl, ⟨xs, rfl⟩, ⟨fun e q => g1 e (p2.mem_iff.mp q), Apart.perm p2.symm n1⟩, fun k => (m1 k).trans ⟨fun ⟨e, q, z⟩ => ⟨e, p2.mem_iff.mpr q, z⟩, fun ⟨e, q, z⟩ => ⟨e, p2.mem_iff.mp q, z⟩⟩, ⟨by rw [sz] <;> exact b1, f2, sz⟩, r2, l1.imp id fun z => l2.trans z⟩)
  · exact wpAny_pure (fin _ s1 ⟨_, fs, _, u, o1, ⟨xs, rfl⟩, ⟨g1, n1⟩, m1, ⟨b1, f1, rfl⟩, r1, l1⟩)
theorem setG_hashed {k : K} {v : Value} {Q : Bool → Shared → Prop} (hv : κ.is k v = true) (sc : v.scannable = true) (R : SetG κ s.heap a S n) (room : n + 1 < scanBound)
    (q : ∀ z, Heap.SameBut a s.heap z → SetG κ z a (fun j => S j || decide (j = k)) (if S k = true then n else n + 1) → Q (!S k) { s with heap := z }) :
    wpAny (model P w) A (setAddHashed a v (κ.hash k)) Q E s := by
  obtain ⟨o, es, ep, t, ho, ⟨xs, hd⟩, ⟨hel, nd⟩, hm, ⟨hb, hf, hn⟩, hr, hl⟩ := R
  unfold setAddHashed; unfold setAddHashedIn
  refine wpAny_holding (wpAny_bind (wpAny_setState_of ho hd hf ?_)); dsimp only
  rw [byScan_of sc hb hel]; simp only [↓reduceIte]
  unfold setAddByScan
  refine wpAny_bind (wpAny_bind (wpAny_rule (wpAny_bind (wpAny_setScan_of hv ho hd hf hel ?_))))
  cases hfi : List.findIdx? (fun e => κ.is k e.2) es.toList with
  | some j =>
    dsimp only
    obtain ⟨hj, pj, _⟩ := List.findIdx?_eq_some_iff_getElem.mp hfi
    have hk : S k = true := (hm k).mpr ⟨es.toList[j], List.getElem_mem hj, pj⟩
    have q1 := q s.heap (Heap.SameBut.refl a s.heap) ⟨o, es, ep, t, ho, ⟨xs, hd⟩, ⟨hel, nd⟩, fun i => by
      rw [Bool.or_eq_true, decide_eq_true_eq, ← hm i]; exact ⟨fun z => z.elim id fun e => by rw [e] <;> exact hk, .inl⟩, ⟨hb, hf, by rw [if_pos hk] <;> exact hn⟩, hr, hl⟩
    rw [hk] at q1; exact wpAny_pure (wpAny_pure q1)
  | none =>
    dsimp only
    have nk : ∀ e ∈ es.toList, κ.is k e.2 = true → False := fun e he z => by
      have c := List.findIdx?_eq_none_iff.mp hfi e he; rw [z] at c; cases c
    have hk : S k = false := Bool.eq_false_iff.mpr fun z => let ⟨e, he, y⟩ := (hm k).mp z; nk e he y
    have gw : ∀ (b : Bool) {z : Shared} {W : Unit → Shared → Prop}, W () z → wpAny (model P w) A (match b with | true => rule "set.scan.the-table-gave-way" | false => pure ()) W E z := fun b {z W} y => by cases b <;> first | exact wpAny_pure y | exact wpAny_rule y
    have pm := layNew_perm t es (κ.hash k) v; have f1 := layNew_fits t es (κ.hash k) v
    have r1 := layNew_ris t es (κ.hash k) v hr; have l1 := layNew_led t es (κ.hash k) v
    revert pm f1 r1 l1
    generalize layNew t es (κ.hash k) v = Z
    obtain ⟨fs, u, wd, gv⟩ := Z
    intro pm f1 r1 l1; dsimp only at pm f1 r1 l1 ⊢
    rw [Array.toList_push] at pm
    have pc : fs.toList.Perm ((κ.hash k, v) :: es.toList) := pm.trans (List.perm_append_singleton _ _)
    have g1 : ElemsOf κ fs.toList := fun e he => by
      rcases List.mem_cons.mp (pc.mem_iff.mp he) with z | z
      · rw [z]; exact ⟨⟨k, hv, rfl⟩, sc⟩
      · exact hel e z
    have n1 : Apart κ fs.toList := Apart.perm pc.symm (List.pairwise_cons.mpr ⟨fun e he j x y => nk e he (by rw [← κ.inj v j k x hv] <;> exact y), nd⟩)
    have m1 : ∀ i, (S i || decide (i = k)) = true ↔ ∃ e ∈ fs.toList, κ.is i e.2 = true := fun i => by
      rw [Bool.or_eq_true, decide_eq_true_eq, hm i]
      constructor
      · rintro (⟨e, he, y⟩ | y)
        · exact ⟨e, pc.mem_iff.mpr (List.mem_cons_of_mem _ he), y⟩
        · exact ⟨_, pc.mem_iff.mpr List.mem_cons_self, by rw [y] <;> exact hv⟩
      · rintro ⟨e, he, y⟩
        rcases List.mem_cons.mp (pc.mem_iff.mp he) with z | z
        · rw [z] at y; exact .inr (κ.inj v i k y hv)
        · exact .inl ⟨e, z, y⟩
    have sz : fs.size = n + 1 := by have := pc.length_eq; rw [Array.length_toList, List.length_cons, Array.length_toList, hn] at this; exact this
    have b1 : fs.size < scanBound := by rw [sz] <;> exact room
    have ld : w.params.followText "set-order" = true ∨ u.led = true := hl.imp id fun z => l1.trans z
    have fin : ∀ z, Heap.SameBut a s.heap z → SetG κ z a (fun j => S j || decide (j = k)) fs.size → Q true { s with heap := z } := fun z sb r => by
      have q1 := q z sb; rw [hk] at q1; rw [sz] at r; exact q1 r
    have last : ∀ {u' : SetTable} {R : Option Bool → Shared → Prop} {g : Bool → Sem Unit}, (∀ (b : Bool) (z : Shared) (W : Unit → Shared → Prop), W () z → wpAny (model P w) A (g b) W E z) → u'.fits fs.size = true → Ris u'.place.toList → (w.params.followText "set-order" = true ∨ u'.led = true) → (∀ z, Heap.SameBut a s.heap z → SetG κ z a (fun j => S j || decide (j = k)) fs.size → R (some true) { s with heap := z }) → _ := fun {u' R g} gg a1 a2 a3 a4 => setG_tail (κ := κ) (wd := wd) (A := A) (E := E) (s := s) (R := R) gg ho xs hd g1 n1 m1 b1 a1 a2 a3 a4
    refine wpAny_bind (gw _ ?_)
    split
    · rw [hashByValue_scannable 8 sc]
      refine wpAny_bind (wpAny_pure (last ?_ ?_ ?_ ?_ ?_))
      · intro b z W y; cases b <;> first | exact wpAny_pure y | exact wpAny_rule y
      · first | (split <;> first | exact f1 | exact SetTable.fits_plain_off f1) | exact f1
      · first | (split <;> exact r1) | exact r1
      · first | (split <;> exact ld) | exact ld
      · intro z sb r; dsimp only; exact wpAny_pure (fin z sb r)
    · refine wpAny_bind (wpAny_pure ?_); simp only [↓reduceIte]
      refine last ?_ f1 r1 ld ?_
      · intro b z W y; cases b <;> first | exact wpAny_pure y | exact wpAny_rule y
      · intro z sb r; dsimp only; exact wpAny_pure (fin z sb r)
end
end Ev
set_option maxHeartbeats 4000000
namespace LawK
open PySem PySem.Spec PyProof.Rows L2 Ev
theorem kit_tl {K : PySem.W.Frag} (k : Kn) : PySem.W.kitAny K (.type k.name) [.type "tuple", .type "list"] = some (decide (k = .tup) || decide (k = .lst)) := by
  cases k <;> rfl
/-- a number, a text or None -/
inductive Sc : V → Prop
  | int (i : Int) : Sc (.int i)
  | str (z : Str) : Sc (.str z)
  | non : Sc .non
end LawK
set_option maxHeartbeats 4000000
namespace LawK
open PySem PySem.Spec PyProof.Rows L2 Ev

inductive SameX (S : Hp → V → V → Prop) (H : Hp) : V → V → Prop
  | sc {x : V} (h : Sc x) : SameX S H x x
  | bl (b : Bool) : SameX S H (.bl b) (.bl b)
  | tup {a b : Addr} {xs ys : List V} (ha : H a = some (.tup xs)) (hb : H b = some (.tup ys)) (hl : xs.length = ys.length) (few : xs.length ≤ 5000) (hp : ∀ (i : Nat) x y, xs[i]? = some x → ys[i]? = some y → S H x y) : SameX S H (.ref a) (.ref b)
  | lst {a b : Addr} {xs ys : List V} (ha : H a = some (.lst xs)) (hb : H b = some (.lst ys)) (hl : xs.length = ys.length) (few : xs.length ≤ 5000) (hp : ∀ (i : Nat) x y, xs[i]? = some x → ys[i]? = some y → S H x y) : SameX S H (.ref a) (.ref b)
theorem SameX.mono {S : Hp → V → V → Prop} (hm : ∀ H H' x y, Same H H' → S H x y → S H' x y) : ∀ H H' x y, Same H H' → SameX S H x y → SameX S H' x y := fun H H' x y k h => by
  cases h with
  | sc h => exact .sc h
  | bl b => exact .bl b
  | tup ha hb hl few hp => exact .tup (k _ _ ha) (k _ _ hb) hl few fun i x y e1 e2 => hm _ _ _ _ k (hp i x y e1 e2)
  | lst ha hb hl few hp => exact .lst (k _ _ ha) (k _ _ hb) hl few fun i x y e1 e2 => hm _ _ _ _ k (hp i x y e1 e2)
def R0 : Hp → V → V → Prop := fun _ _ _ => False
def R1 := SameX R0
def R2 := SameX R1
def R3 := SameX R2
theorem R0.mono : ∀ H H' x y, Same H H' → R0 H x y → R0 H' x y := fun _ _ _ _ _ h => h
theorem R1.mono : ∀ H H' x y, Same H H' → R1 H x y → R1 H' x y := SameX.mono R0.mono
theorem R2.mono : ∀ H H' x y, Same H H' → R2 H x y → R2 H' x y := SameX.mono R1.mono
theorem R3.mono : ∀ H H' x y, Same H H' → R3 H x y → R3 H' x y := SameX.mono R2.mono
def spIsR (S : Hp → V → V → Prop) : Sp := fun vs H Q _ => ∃ x y, vs = [x, y] ∧ S H x y ∧ ∀ H', Same H H' → Q (.bl true) H'
theorem walk_zipT2 {K : PySem.W.Frag} {a b : Addr} {xs ys : List V} {n : Nat} (hn : n = min xs.length ys.length) : Walk (RZ.ItzT K a b) n (fun H => SqT K H a xs ∧ SqT K H b ys) (YPair (fun i => xs[i]?) (fun i => ys[i]?)) := by
  subst hn
  refine ⟨fun i _ hi q => ?_, fun _ q => ⟨xs, ys, q.1, q.2, by omega⟩, fun i H v H' _ q y => ?_⟩
  · have h1 : i < xs.length := by omega
    have h2 : i < ys.length := by omega
    exact ⟨xs, ys, xs[i], ys[i], q.1, q.2, by simp [h1], by simp [h2]⟩
  · obtain ⟨T, x, z, h1, h2, h3, h4, h5⟩ := y
    exact ⟨T, x, z, h1, h2, h3, h4 xs q.1, h5 ys q.2⟩
theorem kitL {K : PySem.W.Frag} (k : Kn) : PySem.W.kitAny K (.type k.name) [.type "tuple", .type "list"] = some (decide (k = .tup) || decide (k = .lst)) := kit_tl k
section
variable {P : Program} {w : World} {K : PySem.W.Frag} {mg : Str → Option Value} {base : Heap}

abbrev sIs : Stmt := topS 25
theorem scIs : FnScope ["told", "due", "one", "two"] ["told", "due"] (defScope sIs) := ⟨rfl, rfl, rfl, by decide +kernel, rfl, by decide +kernel, by decide +kernel⟩
theorem ok_is_step {S : Hp → V → V → Prop} (hm : ∀ H H' x y, Same H H' → S H x y → S H' x y) {k : Nat} {f : Addr} {fd : FuncData} (F : Fun K "_law_is" "_law_is" sIs f fd) (bS : Binds K fd ["told", "due"] []) (gS : mg "_law_is" = some (.ref f)) (G : FnOk P w K mg base CX0 k f fd ["told", "due"] (spIsR S)) (T : Glob mg) : FnOk P w K mg base CX0 (k + 1) f fd ["told", "due"] (spIsR (SameX S)) := by
  refine F.ok scIs (fun vs H Q E h => ?_) (fun cdv A outer s H vs Q E hr h => ?_)
  · obtain ⟨x, y, rfl, _⟩ := h
    rfl
  · refine ⟨_, (pss_cons (ps_if (pt_val (pe_callB call_isiT (by rfl) T.isinstance PyProof.Rows.boot_isinstance (pa_cons (pv 1) (pa_cons (pe_tup (pa_cons (pe_bltn (v := .ty "tuple") (by rfl) T.tuple (by decide +kernel) rfl) (pa_cons (pe_bltn (v := .ty "list") (by rfl) T.list (by decide +kernel) rfl) pa_nil))) pa_nil))))
      (pss_cons (ps_if (PW.pt (pw_or (pt_cmpR op_ne (pe_callB call_isi (by rfl) T.isinstance PyProof.Rows.boot_isinstance (pa_cons (pv 0) (pa_cons (pe_bltn (v := .ty "tuple") (by rfl) T.tuple (by decide +kernel) rfl) pa_nil))) (pe_callB call_isi (by rfl) T.isinstance PyProof.Rows.boot_isinstance (pa_cons (pv 1) (pa_cons (pe_bltn (v := .ty "tuple") (by rfl) T.tuple (by decide +kernel) rfl) pa_nil))) (nomark _)) (pw_or1 (pt_not (pt_val (pe_callB call_isiT (by rfl) T.isinstance PyProof.Rows.boot_isinstance (pa_cons (pv 0) (pa_cons (pe_tup (pa_cons (pe_bltn (v := .ty "tuple") (by rfl) T.tuple (by decide +kernel) rfl) (pa_cons (pe_bltn (v := .ty "list") (by rfl) T.list (by decide +kernel) rfl) pa_nil))) pa_nil))))))))
        (pss_one (ps_ret pe_bl))
        pss_nil)
        (pss_one (ps_ret (pe_and (pe_cmpR op_eq (pe_callB call_len_seq (by rfl) T.len PySem.boot_len (pa_cons (pv 0) pa_nil)) (pe_callB call_len_seq (by rfl) T.len PySem.boot_len (pa_cons (pv 1) pa_nil)) (nomark _)) (pe_one (pe_callB (cr_all rfl) (by rfl) T.all (by decide +kernel) (pa_cons (pe_lc (own := [("one", 2), ("two", 3)]) (g := (gTup K 2 (gCons (gName 2) (gCons (gName 3) gNil)))) (by rfl) scIs.nd (RZ.pi_zipA (by rfl) T.zip (pa_cons (pv 0) (pa_cons (pv 1) pa_nil))) (blkOk_by (N := ["told", "due", "one", "two"]) (sc := defScope sIs) (by decide +kernel)) (fun _ _ _ _ _ => pg_tup (by rfl) (pgs_cons (pg_name (i := 2) scIs.nd rfl (.inl rfl)) (pgs_cons (pg_name (i := 3) scIs.nd rfl (.inl rfl)) pgs_nil))) (fun _ _ _ _ _ => pts_nil) (fun _ _ _ _ _ => (pe_call G (hr.mono (by omega)) (by rfl) gS F.kp bS .nil pass0 (pa_cons (pv 2) (pa_cons (pv 3) pa_nil))))) pa_nil)))))))
      pss_nil)
      (pss_one (ps_ret (pe_and (pe_cmpR op_eq (pe_callB call_isi (by rfl) T.isinstance PyProof.Rows.boot_isinstance (pa_cons (pv 0) (pa_cons (pe_bltn (v := .ty "bool") (by rfl) T.bool (by decide +kernel) rfl) pa_nil))) (pe_callB call_isi (by rfl) T.isinstance PyProof.Rows.boot_isinstance (pa_cons (pv 1) (pa_cons (pe_bltn (v := .ty "bool") (by rfl) T.bool (by decide +kernel) rfl) pa_nil))) (nomark _)) (pe_one (pe_cmpR op_eq (pv 0) (pv 1) (nomark _))))))), ?_⟩
    obtain ⟨x, y, rfl, hS, q⟩ := h
    have pc : Paired ClsV [V.ty "tuple", V.ty "list"] [.type "tuple", .type "list"] := .cons (.ty _) (.cons (.ty _) .nil)
    have hq : (∃ k, (∀ H, Kd H x k) ∧ k ≠ .tup ∧ k ≠ .lst ∧ scal x x = true ∧ x = y) ∨ (∃ a b xs ys, x = .ref a ∧ y = .ref b ∧ xs.length = ys.length ∧ xs.length ≤ 5000 ∧ (∀ (i : Nat) x y, xs[i]? = some x → ys[i]? = some y → S H x y) ∧ (H a = some (.tup xs) ∧ H b = some (.tup ys) ∨ H a = some (.lst xs) ∧ H b = some (.lst ys))) := by
      cases hS with
      | sc h =>
        cases h with
        | int i => exact .inl ⟨.int, fun _ => .int i, by decide, by decide, rfl, rfl⟩
        | str z => exact .inl ⟨.str, fun _ => .str z, by decide, by decide, rfl, rfl⟩
        | non => exact .inl ⟨.non, fun _ => .non, by decide, by decide, rfl, rfl⟩
      | bl b => exact .inl ⟨.bl, fun _ => .bl b, by decide, by decide, rfl, rfl⟩
      | tup ha hb hl few hp => exact .inr ⟨_, _, _, _, rfl, rfl, hl, few, hp, .inl ⟨ha, hb⟩⟩
      | lst ha hb hl few hp => exact .inr ⟨_, _, _, _, rfl, rfl, hl, few, hp, .inr ⟨ha, hb⟩⟩
    rcases hq with ⟨k, hk, n1, n2, sx, rfl⟩ | ⟨a, b, xs, ys, rfl, rfl, hl, few, hp, ⟨ha, hb⟩ | ⟨ha, hb⟩⟩
    · refine ⟨x, rfl, by show 2 ≤ sizeLine; decide, fun c nc => ⟨x, c, _, _, _, _, rfl, upd_same, pc, Kd.tyx (hk _), kit_tl k, _, rfl, ?_⟩⟩
      rw [decide_eq_false n1, decide_eq_false n2]
      refine iteF ?_
      refine ⟨x, rfl, x, .ty "bool", .type (Kn.name k), .type "bool", kitB k .bl, rfl, .ty _, Kd.tyx (hk _), kit_kn k .bl, x, rfl, x, .ty "bool", .type (Kn.name k), .type "bool", kitB k .bl, rfl, .ty _, Kd.tyx (hk _), kit_kn k .bl, rfl, _, rfl, ?_⟩
      rw [decide_eq_true rfl]
      refine iteT ⟨x, rfl, x, rfl, sx, ?_⟩
      rw [decide_eq_true rfl]
      exact q _ (Same.new nc)
    · refine ⟨.ref b, rfl, by show 2 ≤ sizeLine; decide, fun c nc => ⟨.ref b, c, _, _, _, _, rfl, upd_same, pc, Kd.tyx (Kd.same (Same.new nc) (.tup hb)), kit_tl .tup, _, rfl, iteT ?_⟩⟩
      have k1 := Same.new (H := H) (o := .tup [V.ty "tuple", .ty "list"]) nc
      have ha1 := k1 _ _ ha
      have hb1 := k1 _ _ hb
      revert k1 ha1 hb1
      generalize upd H c (.tup [V.ty "tuple", .ty "list"]) = H1
      intro k1 ha1 hb1
      refine ⟨.ref a, rfl, .ref a, .ty "tuple", .type (Kn.name .tup), .type "tuple", kitB .tup .tup, rfl, .ty _, Kd.tyx (.tup ha1), kit_kn .tup .tup, .ref b, rfl, .ref b, .ty "tuple", .type (Kn.name .tup), .type "tuple", kitB .tup .tup, rfl, .ty _, Kd.tyx (.tup hb1), kit_kn .tup .tup, rfl, _, rfl, iteF ?_⟩
      refine ⟨.ref a, rfl, by show 2 ≤ sizeLine; decide, fun d nd => ⟨.ref a, d, _, _, _, _, rfl, upd_same, pc, Kd.tyx (Kd.same (Same.new nd) (.tup ha1)), kit_tl .tup, _, rfl, iteF ?_⟩⟩
      have k2 := k1.trans (Same.new (H := H1) (o := .tup [V.ty "tuple", .ty "list"]) nd)
      have ha2 := k2 _ _ ha
      have hb2 := k2 _ _ hb
      revert k2 ha2 hb2
      generalize upd H1 d (.tup [V.ty "tuple", .ty "list"]) = H2
      intro k2 ha2 hb2
      clear nc nd ha1 hb1 k1
      dsimp only [tNext, tDrop]
      refine ⟨.ref a, rfl, a, xs, rfl, .inr (SqT.of ha2), .ref b, rfl, b, ys, rfl, .inr (SqT.of hb2), rfl, _, rfl, ?_⟩
      rw [hl, decide_eq_true rfl]
      refine iteT ⟨.ref a, rfl, .ref b, rfl, a, b, xs, ys, rfl, .inr ⟨SqT.of ha2, SqT.of hb2, fun D nD => lc_it (walk_zipT2 (K := K) (a := a) (b := b) (xs := xs) (ys := ys) (n := xs.length) (by rw [hl, Nat.min_self])) (fun i H' => Same H2 H' ∧ H' D = some (.lst (List.replicate i (V.bl true)))) ⟨Same.new nD, upd_same⟩ (fun i H' _ g => ⟨SqT.of (g.1 _ _ ha2), SqT.of (g.1 _ _ hb2)⟩) ?_ ?_⟩⟩
      · rintro i v H3 H4 hi ⟨k3, hD⟩ ⟨t, y1, y2, rfl, nt, rfl, e1, e2⟩
        have kt := Same.new (H := H3) (o := .tup [y1, y2]) nt
        refine ⟨t, [y1, y2], rfl, SqT.of upd_same, rfl, y1, [y2], rfl, y2, [], rfl, rfl, rfl, y1, rfl, y2, rfl, y1, y2, rfl, hm _ _ _ _ ((k2.trans k3).trans kt) (hp i y1 y2 e1 e2), fun H5 k5 => ⟨_, (kt.trans k5) _ _ hD, ?_, sameAt ((k3.trans kt).trans k5) nD, ?_⟩⟩
        · rw [List.length_replicate]
          have h3 : sizeLine = 16777216 := sizeLine_eq
          omega
        · rw [upd_same, List.replicate_succ']
      · rintro H3 ⟨k3, hD⟩
        refine ⟨D, List.replicate xs.length true, rfl, sq_of (by rw [hD, List.map_replicate]), ?_⟩
        rw [show (List.replicate xs.length true).all id = true from List.all_eq_true.mpr fun b hb => (List.mem_replicate.mp hb).2]
        exact q _ (k2.trans k3)

    · refine ⟨.ref b, rfl, by show 2 ≤ sizeLine; decide, fun c nc => ⟨.ref b, c, _, _, _, _, rfl, upd_same, pc, Kd.tyx (Kd.same (Same.new nc) (.lst hb)), kit_tl .lst, _, rfl, iteT ?_⟩⟩
      have k1 := Same.new (H := H) (o := .tup [V.ty "tuple", .ty "list"]) nc
      have ha1 := k1 _ _ ha
      have hb1 := k1 _ _ hb
      revert k1 ha1 hb1
      generalize upd H c (.tup [V.ty "tuple", .ty "list"]) = H1
      intro k1 ha1 hb1
      refine ⟨.ref a, rfl, .ref a, .ty "tuple", .type (Kn.name .lst), .type "tuple", kitB .lst .tup, rfl, .ty _, Kd.tyx (.lst ha1), kit_kn .lst .tup, .ref b, rfl, .ref b, .ty "tuple", .type (Kn.name .lst), .type "tuple", kitB .lst .tup, rfl, .ty _, Kd.tyx (.lst hb1), kit_kn .lst .tup, rfl, _, rfl, iteF ?_⟩
      refine ⟨.ref a, rfl, by show 2 ≤ sizeLine; decide, fun d nd => ⟨.ref a, d, _, _, _, _, rfl, upd_same, pc, Kd.tyx (Kd.same (Same.new nd) (.lst ha1)), kit_tl .lst, _, rfl, iteF ?_⟩⟩
      have k2 := k1.trans (Same.new (H := H1) (o := .tup [V.ty "tuple", .ty "list"]) nd)
      have ha2 := k2 _ _ ha
      have hb2 := k2 _ _ hb
      revert k2 ha2 hb2
      generalize upd H1 d (.tup [V.ty "tuple", .ty "list"]) = H2
      intro k2 ha2 hb2
      clear nc nd ha1 hb1 k1
      dsimp only [tNext, tDrop]
      refine ⟨.ref a, rfl, a, xs, rfl, .inl (sq_of ha2), .ref b, rfl, b, ys, rfl, .inl (sq_of hb2), rfl, _, rfl, ?_⟩
      rw [hl, decide_eq_true rfl]
      refine iteT ⟨.ref a, rfl, .ref b, rfl, a, b, xs, ys, rfl, .inl ⟨sq_of ha2, sq_of hb2, fun D nD => lc_it (walk_zip (K := K) (a := a) (b := b) (xs := xs) (ys := ys) (n := xs.length) (by rw [hl, Nat.min_self])) (fun i H' => Same H2 H' ∧ H' D = some (.lst (List.replicate i (V.bl true)))) ⟨Same.new nD, upd_same⟩ (fun i H' _ g => ⟨sq_of (g.1 _ _ ha2), sq_of (g.1 _ _ hb2)⟩) ?_ ?_⟩⟩
      · rintro i v H3 H4 hi ⟨k3, hD⟩ ⟨t, y1, y2, rfl, nt, rfl, e1, e2⟩
        have kt := Same.new (H := H3) (o := .tup [y1, y2]) nt
        refine ⟨t, [y1, y2], rfl, SqT.of upd_same, rfl, y1, [y2], rfl, y2, [], rfl, rfl, rfl, y1, rfl, y2, rfl, y1, y2, rfl, hm _ _ _ _ ((k2.trans k3).trans kt) (hp i y1 y2 e1 e2), fun H5 k5 => ⟨_, (kt.trans k5) _ _ hD, ?_, sameAt ((k3.trans kt).trans k5) nD, ?_⟩⟩
        · rw [List.length_replicate]
          have h3 : sizeLine = 16777216 := sizeLine_eq
          omega
        · rw [upd_same, List.replicate_succ']
      · rintro H3 ⟨k3, hD⟩
        refine ⟨D, List.replicate xs.length true, rfl, sq_of (by rw [hD, List.map_replicate]), ?_⟩
        rw [show (List.replicate xs.length true).all id = true from List.all_eq_true.mpr fun b hb => (List.mem_replicate.mp hb).2]
        exact q _ (k2.trans k3)

end
end LawK
set_option maxHeartbeats 4000000
namespace LawK
open PySem PySem.Spec PyProof.Rows L2 Ev

theorem r3_same {H : Hp} {a b : Addr} {xs : List V} (ha : H a = some (.tup xs)) (hb : H b = some (.tup xs)) (few : xs.length ≤ 5000) (hs : ∀ v ∈ xs, Sc v) : R3 H (.ref a) (.ref b) := .tup ha hb rfl few fun i x y e1 e2 => by
  rw [e1] at e2
  cases e2
  exact .sc (hs x (List.mem_of_getElem? e1))
def spIsTold : Sp := fun vs H Q _ => ∃ (x : V) (o : Option (List V)), vs = [x] ∧ Tg H x o ∧ Shr o ∧ ∀ H', Same H H' → Q (.bl true) H'
section
variable {P : Program} {w : World} {K : PySem.W.Frag} {mg : Str → Option Value} {base : Heap}
abbrev sIsTold : Stmt := topS 44
theorem scIsTold : FnScope ["thing", "told"] ["thing"] (defScope sIsTold) := ⟨rfl, rfl, rfl, by decide +kernel, rfl, by decide +kernel, by decide +kernel⟩
theorem ok_IsTold {f : Addr} {fd : FuncData} (F : Fun K "_law_is_told" "_law_is_told" sIsTold f fd)  {fPReadEdit : Addr} {fdPReadEdit : FuncData} (DPReadEdit : Dk P w K mg base "read_edit" sPReadEdit ["text"] 6 spREdit fPReadEdit fdPReadEdit) {fIs : Addr} {fdIs : FuncData} (DIs : Dk P w K mg base "_law_is" sIs ["told", "due"] 3 (spIsR R3) fIs fdIs) {fEditText : Addr} {fdEditText : FuncData} (DEditText : Dk P w K mg base "_law_edit_text" sEditText ["edit"] 1 spLEText fEditText fdEditText) {fHasForm : Addr} {fdHasForm : FuncData} (DHasForm : Dk P w K mg base "_law_has_form" sHasForm ["thing"] 2 spHasFormL fHasForm fdHasForm) {fTold : Addr} {fdTold : FuncData} (DTold : Dk P w K mg base "_law_told" sTold ["thing"] 7 spTold fTold fdTold) (T : Glob mg) : FnOk P w K mg base CX0 8 f fd ["thing"] spIsTold := by
  refine F.ok scIsTold (fun vs H Q E h => ?_) (fun cdv A outer s H vs Q E hr h => ?_)
  · obtain ⟨x, o, rfl, _⟩ := h
    rfl
  · refine ⟨_, (pss_cons (ps_set (i := 1) scIsTold.nd rfl (.inl rfl) (pe_call DTold.ok (hr.mono (by decide)) (by rfl) DTold.g DTold.F.kp DTold.b .nil pass0 (pa_cons (pv 0) pa_nil)))
      (pss_cons (ps_if (pt_not (pt_val (pe_call DHasForm.ok (hr.mono (by decide)) (by rfl) DHasForm.g DHasForm.F.kp DHasForm.b .nil pass0 (pa_cons (pv 0) pa_nil))))
      (pss_one (ps_ret (pe_call DIs.ok (hr.mono (by decide)) (by rfl) DIs.g DIs.F.kp DIs.b .nil pass0 (pa_cons (pv 1) (pa_cons (pe_tup (pa_cons pe_str (pa_cons pe_str pa_nil))) pa_nil)))))
      pss_nil)
      (pss_one (ps_ret (pe_and (pe_call DIs.ok (hr.mono (by decide)) (by rfl) DIs.g DIs.F.kp DIs.b .nil pass0 (pa_cons (pv 1) (pa_cons (pe_tup (pa_cons pe_str (pa_cons (pe_call DEditText.ok (hr.mono (by decide)) (by rfl) DEditText.g DEditText.F.kp DEditText.b .nil pass0 (pa_cons (pv 0) pa_nil)) pa_nil))) pa_nil))) (pe_one (pe_call DIs.ok (hr.mono (by decide)) (by rfl) DIs.g DIs.F.kp DIs.b .nil pass0 (pa_cons (pe_call DPReadEdit.ok (hr.mono (by decide)) (by rfl) DPReadEdit.g DPReadEdit.F.kp DPReadEdit.b .nil pass0 (pa_cons (pe_ix ix_tup (pv 1) pe_int (fun _ _ => rfl)) pa_nil)) (pa_cons (pv 0) pa_nil))))))))), ?_⟩
    obtain ⟨x, o, rfl, hT, hS, q⟩ := h
    refine ⟨x, rfl, x, o, rfl, hT, fun t H1 k1 hO => ?_⟩
    dsimp only [tNext, tDrop, tSeq, tAsg, gName]
    refine ⟨x, rfl, x, o, rfl, hT.same k1, hS, fun b H2 hb k2 => ⟨_, rfl, ?_⟩⟩
    have k12 := k1.trans k2
    cases b with
    | false =>
      rcases hO with ⟨xs, e, hx, _⟩ | ⟨_, ht⟩
      · have := hb.mpr ⟨xs, e, hx⟩
        cases this
      · refine iteT ⟨.ref t, rfl, by show 2 ≤ sizeLine; decide, fun r nr => ⟨.ref t, .ref r, rfl, r3_same ((Same.new nr) _ _ (k2 _ _ ht)) upd_same (by show 2 ≤ 5000; decide) (fun v hv => ?_), fun H3 k3 => q H3 ((k12.trans (Same.new nr)).trans k3)⟩⟩
        rcases List.mem_cons.mp hv with rfl | hv
        · exact .str _
        · rw [List.mem_singleton.mp hv]
          exact .str _
    | true =>
      obtain ⟨xs, rfl, hx⟩ := hb.mp rfl
      rcases hO with ⟨ys, e, _, ht⟩ | ⟨no, _⟩
      · cases e
        cases hT with
        | @tup a _ ea n hy =>
          have sm : ∀ v ∈ xs, SmV v := fun v hv => by
            rcases tx_parts hx v hv with ⟨i, rfl, h⟩ | ⟨z, rfl⟩
            · exact .inl ⟨i, rfl, h⟩
            · exact .inr ⟨z, rfl, (hy _ hv).2 z rfl⟩
          have sc : ∀ v ∈ xs, Sc v := fun v hv => by
            rcases tx_parts hx v hv with ⟨i, rfl, h⟩ | ⟨z, rfl⟩
            · exact .int i
            · exact .str z
          have s2 := shw_read hx
          have l2 := shw_len hx fun z hz => (hS xs rfl z hz).1
          refine iteF ?_
          dsimp only [tNext, tDrop, tSeq, tAsg, gName]
          have ea2 := k12 _ _ ea
          refine ⟨.ref t, rfl, .ref a, rfl, a, xs, rfl, ea2, n, sm, fun H3 k3 => ⟨by show 2 ≤ sizeLine; decide, fun r nr => ⟨.ref t, .ref r, rfl, r3_same ((Same.new nr) _ _ (k3 _ _ (k2 _ _ ht))) upd_same (by show 2 ≤ 5000; decide) (fun v hv => ?_), fun H4 k4 => ⟨_, rfl, iteT ?_⟩⟩⟩⟩
          · rcases List.mem_cons.mp hv with rfl | hv
            · exact .str _
            · rw [List.mem_singleton.mp hv]
              exact .str _
          have k34 := (k3.trans (Same.new (o := .tup [V.str (Str.ofString "told"), V.str (shw xs)]) nr)).trans k4
          have ht4 := k34 _ _ (k2 _ _ ht)
          have ea4 := k34 _ _ ea2
          refine ⟨.ref t, rfl, t, _, 1, .str (shw xs), rfl, rfl, SqT.of ht4, rfl, .str (shw xs), .str, rfl, .str _, (fun z e => by cases e; omega), (fun e => by rw [s2.2] at e; cases e), fun ys e u H5 k5 hu => ?_⟩
          rw [s2.2] at e
          cases e
          exact ⟨.ref a, rfl, .ref u, .ref a, rfl, r3_same hu (k5 _ _ ea4) (by omega) sc, fun H6 k6 => q H6 (((k12.trans k34).trans k5).trans k6)⟩
      · exact absurd ⟨xs, rfl, hx⟩ no
end
end LawK
set_option maxHeartbeats 4000000
namespace LawK
open PySem PySem.Spec PyProof.Rows L2 Ev

def spLine : Sp := fun vs H Q _ => ∃ (p : Addr), vs = [.ref p] ∧ ∃ l, HandL H p l ∧ ∀ z H', sgB z = true → z.length ≤ 30 → HandL H' p l → But p H H' → Q (.str z) H'
theorem sg_app {x y : Str} (hx : sgB x = true) (hy : sgB y = true) : sgB (x ++ y) = true := by
  have h1 : (cod x).all sgC = true := hx
  have h2 : (cod y).all sgC = true := hy
  show (cod (x ++ y)).all sgC = true
  rw [cod_app, List.all_append, h1, h2]
  rfl
theorem sg_to {z : Str} {i : Int} (h : 0 ≤ i) (hz : sgB z = true) : sgB (cutS z none (some i)) = true ∧ (cutS z none (some i)).length ≤ z.length := by
  have e : cod (cutS z none (some i)) = (cod z).take i.toNat := cutS_to h
  constructor
  · show (cod (cutS z none (some i))).all sgC = true
    rw [e]
    exact List.all_eq_true.mpr fun c hc => List.all_eq_true.mp hz c (List.mem_of_mem_take hc)
  · show (cod (cutS z none (some i))).length ≤ (cod z).length
    rw [e, List.length_take]
    omega
theorem sg_from {z : Str} {i : Int} (h : 0 ≤ i) (hz : sgB z = true) : sgB (cutS z (some i) none) = true ∧ (cutS z (some i) none).length ≤ z.length := by
  have e : cod (cutS z (some i) none) = (cod z).drop i.toNat := cutS_from h
  constructor
  · show (cod (cutS z (some i) none)).all sgC = true
    rw [e]
    exact List.all_eq_true.mpr fun c hc => List.all_eq_true.mp hz c (List.mem_of_mem_drop hc)
  · show (cod (cutS z (some i) none)).length ≤ (cod z).length
    rw [e, List.length_drop]
    omega
section
variable {P : Program} {w : World} {K : PySem.W.Frag} {mg : Str → Option Value} {base : Heap}
abbrev sLine : Stmt := topS 34
theorem scLine : FnScope ["hand", "kind", "turn"] ["hand"] (defScope sLine) := ⟨rfl, rfl, rfl, by decide +kernel, rfl, by decide +kernel, by decide +kernel⟩
theorem ok_Line {f : Addr} {fd : FuncData} (F : Fun K "_law_line" "_law_line" sLine f fd) {fDraw : Addr} {fdDraw : FuncData} (DDraw : Dk P w K mg base "_law_draw" sDraw ["hand", "many"] 1 spDraw fDraw fdDraw) {fAnySign : Addr} {fdAnySign : FuncData} (DAnySign : Dk P w K mg base "_law_any_sign" sAnySign ["hand"] 2 spAnySign fAnySign fdAnySign) {fText : Addr} {fdText : FuncData} (DText : Dk P w K mg base "_law_text" sText ["hand", "most"] 4 spLText fText fdText) (T : Glob mg) : FnOk P w K mg base CX0 5 f fd ["hand"] spLine := by
  refine F.ok scLine (fun vs H Q E h => ?_) (fun cdv A outer s H vs Q E hr h => ?_)
  · obtain ⟨p, rfl, _⟩ := h
    rfl
  · refine ⟨_, (pss_cons (ps_set (i := 1) scLine.nd rfl (.inl rfl) (pe_call DDraw.ok (hr.mono (by decide)) (by rfl) DDraw.g DDraw.F.kp DDraw.b .nil pass0 (pa_cons (pv 0) (pa_cons pe_int pa_nil))))
      (pss_cons (ps_if (pt_cmpR op_eq (pv 1) pe_int (nomark _))
      (pss_one (ps_ret (pe_ix ix_list (pe_lst (pa_cons pe_str (pa_cons pe_str (pa_cons pe_str (pa_cons pe_str (pa_cons pe_str (pa_cons pe_str (pa_cons pe_str (pa_cons pe_str pa_nil))))))))) (pe_call DDraw.ok (hr.mono (by decide)) (by rfl) DDraw.g DDraw.F.kp DDraw.b .nil pass0 (pa_cons (pv 0) (pa_cons pe_int pa_nil))) (fun _ _ => rfl))))
      pss_nil)
      (pss_cons (ps_if (pt_cmpR op_eq (pv 1) pe_int (nomark _))
      (pss_one (ps_ret (pe_call DText.ok (hr.mono (by decide)) (by rfl) DText.g DText.F.kp DText.b .nil pass0 (pa_cons (pv 0) (pa_cons pe_int pa_nil)))))
      pss_nil)
      (pss_one (ps_ret (pe_join pe_str (pe_lc (own := [("turn", 2)]) (g := gName 2) (by rfl) scLine.nd (pi_range1 (by rfl) T.range (pa_cons (pe_call DDraw.ok (hr.mono (by decide)) (by rfl) DDraw.g DDraw.F.kp DDraw.b .nil pass0 (pa_cons (pv 0) (pa_cons pe_int pa_nil))) pa_nil)) (blkOk_by (N := ["hand", "kind", "turn"]) (sc := defScope sLine) (by decide +kernel)) (fun _ _ _ _ _ => pg_name (i := 2) scLine.nd rfl (.inl rfl)) (fun _ _ _ _ _ => pts_nil) (fun _ _ _ _ _ => (pe_call DAnySign.ok (hr.mono (by decide)) (by rfl) DAnySign.g DAnySign.F.kp DAnySign.b .nil pass0 (pa_cons (pv 0) pa_nil)))))))))), ?_⟩
    obtain ⟨p, rfl, lh, hH, q⟩ := h
    refine ⟨.ref p, rfl, p, 6, rfl, by decide, by decide, lh, hH, fun kk H1 k0 k6 h1 b1 => ?_⟩
    try dsimp only [tNext, tDrop, tSeq, tAsg, gName]
    refine ⟨.int kk, rfl, rfl, _, rfl, ite2 (fun e => ?_) (fun e => ?_)⟩
    · refine ⟨by show 8 ≤ sizeLine; decide, fun a na => ?_⟩
      have ka := Same.new (o := .lst [.str "", .str "0:", .str "1:a", .str "2:a", .str "01:a", .str ":", .str "3:2:a", .str "12"]) na
      have ea : upd H1 a (.lst [.str "", .str "0:", .str "1:a", .str "2:a", .str "01:a", .str ":", .str "3:2:a", .str "12"]) a = some (.lst [.str "", .str "0:", .str "1:a", .str "2:a", .str "01:a", .str ":", .str "3:2:a", .str "12"]) := upd_same
      have nap := (h1.ne na).1
      revert ka ea
      generalize upd H1 a (.lst [.str "", .str "0:", .str "1:a", .str "2:a", .str "01:a", .str ":", .str "3:2:a", .str "12"]) = H2
      intro ka ea
      have h2 := h1.same ka
      refine ⟨.ref p, rfl, p, 8, rfl, by decide, by decide, lh, h2, fun v H3 v0 v1 h3 b3 => ?_⟩
      obtain ⟨y, ey, my⟩ := atI_in (xs := [V.str "", .str "0:", .str "1:a", .str "2:a", .str "01:a", .str ":", .str "3:2:a", .str "12"]) v0 v1
      have hy : ∃ z : Str, y = .str z ∧ sgB z = true ∧ z.length ≤ 30 := by
        simp only [List.mem_cons, List.not_mem_nil, or_false] at my
        rcases my with e | e | e | e | e | e | e | e <;> exact ⟨_, e, by decide +kernel, by decide +kernel⟩
      obtain ⟨z, rfl, hz, lz⟩ := hy
      exact ⟨a, _, v, _, rfl, rfl, sq_of (b3 _ _ nap ea), ey, q z H3 hz lz h3 ((b1.and ka).trans b3)⟩
    · try dsimp only [tNext, tDrop, tSeq, tAsg, gName]
      refine ⟨.int kk, rfl, rfl, _, rfl, ite2 (fun e => ?_) (fun e => ?_)⟩
      · exact ⟨.ref p, rfl, p, 30, rfl, by decide, by decide, lh, h1, fun y H2 hy ly h2 b2 => q y H2 hy (by omega) h2 (b1.trans b2)⟩
      · try dsimp only [tNext, tDrop, tSeq, tAsg, gName]
        refine ⟨⟨_, rfl⟩, .ref p, rfl, p, 14, rfl, by decide, by decide, lh, h1, fun n H3 n0 n1 h3 b3 => ?_⟩
        refine ⟨n, rfl, by omega, by omega, fun D nD => lc_range (fun i H' => ∃ cs : List Nat, H' D = some (.lst (cs.map fun c => V.str (SX.S [c]))) ∧ cs.length = i ∧ (∀ c ∈ cs, sgC c = true) ∧ Hn p lh H3 H') ⟨[], upd_same, rfl, fun c hc => absurd hc (by simp), (Hn.refl h3).new nD⟩ ?_ ?_⟩
        · rintro i H' hi ⟨cs, hD, hl, hs, hn⟩
          refine ⟨rfl, .ref p, rfl, p, rfl, lh, hn.at_, fun c H2 hc h2 b2 => ?_⟩
          have nDp := (h3.ne nD).1
          refine ⟨_, b2 _ _ nDp hD, ?_, cs ++ [c], ?_, ?_, ?_, (hn.go h2 b2).at h3 nD⟩
          · rw [List.length_map, hl, sizeLine_eq]
            omega
          · rw [upd_same, List.map_append]
            rfl
          · rw [List.length_append, hl]
            rfl
          · intro d hd
            rcases List.mem_append.mp hd with g | g
            · exact hs d g
            · rw [List.mem_singleton.mp g]
              exact hc
        · rintro H' ⟨cs, hD, hl, hs, hn⟩
          have e1 : (cs.map fun c => V.str (SX.S [c])) = (cs.map fun c => SX.S [c]).map V.str := by rw [List.map_map]; rfl
          have hln : (cs.length : Int) ≤ n := by omega
          have hsum := sum_one cs
          have sj : sgB (SX.S cs) = true := by rw [sgB_S]; exact List.all_eq_true.mpr hs
          have lj : (SX.S cs).length = cs.length := rfl
          refine ⟨_, D, cs.map (fun c => SX.S [c]), rfl, rfl, .inl (sq_of (e1 ▸ hD)), ?_, ?_⟩
          · rw [List.length_map]
            have : (Str.ofString "").length = 0 := by decide +kernel
            rw [this]
            omega
          · rw [join1]
            exact q _ H' sj (by omega) hn.at_ ((b1.trans b3).trans hn.but)
end
end LawK
set_option maxHeartbeats 4000000
namespace LawK
open PySem PySem.Spec PyProof.Rows L2 Ev
theorem but_write {q : Addr} {H H1 : Hp} {o o2 : HO} (n : H q = none) (k : Same (upd H q o) H1) : Same H (upd H1 q o2) := fun b u e => by
  have nb : b ≠ q := fun z => by rw [z, n] at e; cases e
  rw [upd_ne nb]
  exact k _ _ (by rw [upd_ne nb]; exact e)

/-- a text that is not too long and can be shown -/
def StOk (v : V) : Prop := ∀ z, v = .str z → z.length ≤ 2500 ∧ PyData.strOk z = true
def Od (H : Hp) (v : V) : Prop := (∃ k, Kd H v k) ∧ StOk v
theorem tgT {H : Hp} {t : Addr} {xs : List V} (e : H t = some (.tup xs)) (n : xs.length ≤ 30) (h : ∀ v ∈ xs, Od H v) : Tg H (.ref t) (some xs) ∧ Shr (some xs) :=
  ⟨.tup e n fun y hy => ⟨(h y hy).1, fun z e => Nat.le_trans ((h y hy).2 z e).1 (by decide)⟩, fun ys e z hz => by
    cases e
    exact (h _ hz).2 z rfl⟩
def spLDeep : Sp := fun vs H Q _ => ∃ (p : Addr), vs = [.ref p] ∧ ∃ l, HandL H p l ∧ ∀ a o H', Tg H' (.ref a) o → Shr o → HandL H' p l → But p H H' → Q (.ref a) H'
section
variable {P : Program} {w : World} {K : PySem.W.Frag} {mg : Str → Option Value} {base : Heap}
abbrev sDeep : Stmt := topS 26
theorem scDeep : FnScope ["hand", "found", "turn"] ["hand"] (defScope sDeep) := ⟨rfl, rfl, rfl, by decide +kernel, rfl, by decide +kernel, by decide +kernel⟩
theorem ok_Deep {f : Addr} {fd : FuncData} (F : Fun K "_law_deep" "_law_deep" sDeep f fd)  {fDraw : Addr} {fdDraw : FuncData} (DDraw : Dk P w K mg base "_law_draw" sDraw ["hand", "many"] 1 spDraw fDraw fdDraw) (T : Glob mg) : FnOk P w K mg base CX0 2 f fd ["hand"] spLDeep := by
  refine F.ok scDeep (fun vs H Q E h => ?_) (fun cdv A outer s H vs Q E hr h => ?_)
  · obtain ⟨p, rfl, _⟩ := h
    rfl
  · refine ⟨_, (pss_cons (ps_set (i := 1) scDeep.nd rfl (.inl rfl) (pe_ix ix_list (pe_lst (pa_cons pe_non (pa_cons pe_str (pa_cons (pe_un un_neg pe_int) (pa_cons pe_dnewK pa_nil))))) (pe_call DDraw.ok (hr.mono (by decide)) (by rfl) DDraw.g DDraw.F.kp DDraw.b .nil pass0 (pa_cons (pv 0) (pa_cons pe_int pa_nil))) (fun _ _ => rfl)))
      (pss_cons (ps_for PassesOwn.never rfl (pi_range1 (by rfl) T.range (pa_cons (pe_op op_add pe_int (pe_call DDraw.ok (hr.mono (by decide)) (by rfl) DDraw.g DDraw.F.kp DDraw.b .nil pass0 (pa_cons (pv 0) (pa_cons pe_int pa_nil)))) pa_nil)) (pg_name (i := 2) scDeep.nd rfl (.inl rfl))
      (pss_one (ps_set (i := 1) scDeep.nd rfl (.inl rfl) (pe_ix ix_list (pe_lst (pa_cons (pe_tup (pa_cons (pv 1) pa_nil)) (pa_cons (pe_lst (pa_cons (pv 1) pa_nil)) (pa_cons (pe_slice sl_tupM (pe_tup (pa_cons (pv 1) (pa_cons (pv 1) pa_nil))) po_none (po_some pe_int)) (pa_cons (pe_disp (pps_cons pe_int (pv 1) pps_nil) (by rfl) (by rfl) (by simp) (by decide)) pa_nil))))) (pe_call DDraw.ok (hr.mono (by decide)) (by rfl) DDraw.g DDraw.F.kp DDraw.b .nil pass0 (pa_cons (pv 0) (pa_cons pe_int pa_nil))) (fun _ _ => rfl)))))
      (pss_one (ps_ret (pv 1))))), ?_⟩
    obtain ⟨p, rfl, l, hH, q⟩ := h
    refine ⟨_, rfl, fun d nd => ⟨by show 4 ≤ sizeLine; decide, fun a na => ?_⟩⟩
    have k1 := (Same.new (o := .dK []) nd).trans (Same.new (o := .lst [.non, .str "a", .int (-1), .ref d]) na)
    have hA : upd (upd H d (.dK [])) a (.lst [.non, .str "a", .int (-1), .ref d]) a = some (.lst [.non, .str "a", .int (-1), .ref d]) := upd_same
    have hd : upd (upd H d (.dK [])) a (.lst [.non, .str "a", .int (-1), .ref d]) d = some (.dK []) := Same.new na _ _ upd_same
    have n1 := (Hn.refl hH).same k1
    revert n1 hA hd
    generalize upd (upd H d (.dK [])) a (.lst [.non, .str "a", .int (-1), .ref d]) = H1
    intro hA hd n1
    have nap : a ≠ p := hand_ne n1.at_ hA (fun x1 x2 x3 x4 x5 z => by cases z)
    have ndp : d ≠ p := hand_ne n1.at_ hd (fun x1 x2 x3 x4 x5 z => by cases z)
    refine ⟨.ref p, rfl, p, 4, rfl, by decide, by decide, l, n1.at_, fun v H2 v0 v1 h2 b2 => ?_⟩
    have hA2 := b2 _ _ nap hA
    have n2 := n1.go h2 b2
    obtain ⟨x, k, ex, hx, sx⟩ : ∃ x k, atI [V.non, V.str "a", V.int (-1), V.ref d] v = some x ∧ Kd H2 x k ∧ StOk x := by
      have e4 : v = 0 ∨ v = 1 ∨ v = 2 ∨ v = 3 := by omega
      rcases e4 with rfl | rfl | rfl | rfl
      · exact ⟨_, _, rfl, .non, fun z e => by cases e⟩
      · exact ⟨_, _, rfl, .str _, fun z e => by cases e; exact ⟨by decide +kernel, by decide +kernel⟩⟩
      · exact ⟨_, _, rfl, .int _, fun z e => by cases e⟩
      · exact ⟨_, _, rfl, .dic (b2 _ _ ndp hd), fun z e => by cases e⟩
    refine ⟨a, _, v, x, rfl, rfl, sq_of hA2, ex, ?_⟩
    dsimp only [tNext, tDrop]
    refine ⟨.ref p, rfl, p, 30, rfl, by decide, by decide, l, n2.at_, fun m H3 m0 m1 h3 b3 => ?_⟩
    have n3 := n2.go h3 b3
    have hx3 := Kd.but hx h2 h3 b3
    refine ⟨_, _, rfl, rfl, 1 + m, rfl, by omega, by omega, for_range (fun i σ H' => ∃ x u k, σ = [some (.ref p), some x, u] ∧ Kd H' x k ∧ StOk x ∧ Hn p l H H' ∧ (0 < i → ∃ a o, x = .ref a ∧ Tg H' x o ∧ Shr o)) ⟨x, _, k, rfl, hx3, sx, n3, fun z => absurd z (by omega)⟩ ?_ ?_⟩
    · rintro i σ H4 hi ⟨x, u, k, rfl, hx, sx, n4, hr⟩
      have s1 : 1 ≤ sizeLine := by decide
      have s2 : 2 ≤ sizeLine := by decide
      refine ⟨x, rfl, s1, fun t1 nt1 => ⟨x, rfl, s1, fun t2 nt2 => ⟨x, rfl, x, rfl, s2, fun t3 nt3 => ?_⟩⟩⟩
      have ka := ((Same.new (o := .tup [x]) nt1).trans (Same.new (o := .lst [x]) nt2)).trans (Same.new (o := .tup [x, x]) nt3)
      refine ⟨_, rfl, t3, [x, x], rfl, upd_same, fun t4 H5 k5 h5 => ?_⟩
      refine fun d2 nd2 => ⟨x, rfl, ?_⟩
      refine ⟨upd_same, [(.inl 0, x)], rfl, by show 1 ≤ 15; decide, ?_⟩
      have kd := but_write (o := .dK []) (o2 := .dK (mergeK [] [(.inl 0, x)])) nd2 (Same.refl _)
      have kall := (ka.trans k5).trans kd
      refine ⟨by show 4 ≤ sizeLine; decide, fun b nb => ?_⟩
      have kb := kall.trans (Same.new (o := .lst [.ref t1, .ref t2, .ref t4, .ref d2]) nb)
      have e1 := ((Same.new (o := .lst [x]) nt2).trans (Same.new (o := .tup [x, x]) nt3)).trans ((k5.trans kd).trans (Same.new (o := .lst [.ref t1, .ref t2, .ref t4, .ref d2]) nb)) _ _ (upd_same (H := H4) (a := t1) (o := .tup [x]))
      have e2 := ((Same.new (o := .tup [x, x]) nt3).trans ((k5.trans kd).trans (Same.new (o := .lst [.ref t1, .ref t2, .ref t4, .ref d2]) nb))) _ _ (upd_same (a := t2) (o := .lst [x]))
      have e3 := (kd.trans (Same.new (o := .lst [.ref t1, .ref t2, .ref t4, .ref d2]) nb)) _ _ h5
      have e4 := (Same.new (o := .lst [.ref t1, .ref t2, .ref t4, .ref d2]) nb) _ _ (upd_same (a := d2) (o := .dK (mergeK [] [(.inl 0, x)])))
      have eb : (upd (upd (upd H5 d2 (.dK [])) d2 (.dK (mergeK [] [(.inl 0, x)]))) b (.lst [.ref t1, .ref t2, .ref t4, .ref d2])) b = some (.lst [.ref t1, .ref t2, .ref t4, .ref d2]) := upd_same
      revert kb e1 e2 e3 e4 eb
      generalize (upd (upd (upd H5 d2 (.dK [])) d2 (.dK (mergeK [] [(.inl 0, x)]))) b (.lst [.ref t1, .ref t2, .ref t4, .ref d2])) = H6
      intro kb e1 e2 e3 e4 eb
      have n6 := n4.same kb
      have nw : ∀ {a : Addr} {o : HO}, H6 a = some o → (∀ x1 x2 x3 x4 x5, o ≠ .lst [x1, x2, x3, x4, x5]) → a ≠ p := fun h n => hand_ne n6.at_ h n
      refine ⟨.ref p, rfl, p, 4, rfl, by decide, by decide, l, n6.at_, fun v H7 v0 v1 h7 b7 => ?_⟩
      have g1 := b7 _ _ (nw e1 (fun x1 x2 x3 x4 x5 z => by cases z)) e1
      have g2 := b7 _ _ (nw e2 (fun x1 x2 x3 x4 x5 z => by cases z)) e2
      have g3 := b7 _ _ (nw e3 (fun x1 x2 x3 x4 x5 z => by cases z)) e3
      have g4 := b7 _ _ (nw e4 (fun x1 x2 x3 x4 x5 z => by cases z)) e4
      have g5 := b7 _ _ (nw eb (fun x1 x2 x3 x4 x5 z => by cases z)) eb
      have hx7 : Kd H7 x k := Kd.but (hx.same kb) n6.at_ h7 b7
      have tg1 : ∀ {t : Addr}, H7 t = some (.tup [x]) → Tg H7 (.ref t) (some [x]) ∧ Shr (some [x]) := fun h => tgT h (by simp) fun v hv => by rw [List.mem_singleton.mp hv]; exact ⟨⟨k, hx7⟩, sx⟩
      obtain ⟨y, k, o, ey, hy, ty, so⟩ : ∃ y k o, atI [V.ref t1, .ref t2, .ref t4, .ref d2] v = some (.ref y) ∧ Kd H7 (.ref y) k ∧ Tg H7 (.ref y) o ∧ Shr o := by
        have e4 : v = 0 ∨ v = 1 ∨ v = 2 ∨ v = 3 := by omega
        rcases e4 with rfl | rfl | rfl | rfl
        · exact ⟨_, _, _, rfl, .tup g1, tg1 g1⟩
        · exact ⟨_, _, none, rfl, .lst g2, .no (.lst g2) (by decide) (fun z e => by cases e), fun xs e => by cases e⟩
        · exact ⟨_, _, _, rfl, .tup g3, tg1 g3⟩
        · exact ⟨_, _, none, rfl, .dic g4, .no (.dic g4) (by decide) (fun z e => by cases e), fun xs e => by cases e⟩
      exact ⟨b, _, v, .ref y, rfl, rfl, sq_of g5, ey, .ref y, _, k, rfl, hy, (fun z e => by cases e), n6.go h7 b7, fun _ => ⟨y, o, rfl, ty, so⟩⟩
    · rintro σ H4 ⟨x, u, k, rfl, hx, sx, n4, hr⟩
      obtain ⟨a, o, rfl, ty, so⟩ := hr (by omega)
      exact ⟨.ref a, rfl, q a o H4 ty so n4.at_ n4.but⟩
end
end LawK
set_option maxHeartbeats 4000000
namespace LawK
open PySem PySem.Spec PyProof.Rows L2 Ev

def SmS (v : V) : Prop := (∃ i, v = .int i ∧ 0 ≤ i ∧ i < 10000) ∨ ∃ z, v = .str z ∧ sgB z = true ∧ z.length ≤ 30
theorem SmS.od {H : Hp} {v : V} (h : SmS v) : Od H v := by
  rcases h with ⟨i, rfl, _, _⟩ | ⟨z, rfl, s, l⟩
  · exact ⟨⟨_, .int i⟩, fun z e => by cases e⟩
  · exact ⟨⟨_, .str z⟩, fun y e => by cases e; exact ⟨by omega, strOk_sg s⟩⟩
theorem SmS.sm {v : V} (h : SmS v) : SmV v := by
  rcases h with ⟨i, rfl, h⟩ | ⟨z, rfl, s, l⟩
  · exact .inl ⟨i, rfl, h⟩
  · exact .inr ⟨z, rfl, by omega⟩
theorem Od.but {H H' : Hp} {p l : Addr} {v : V} (h : Od H v) (h0 : HandL H p l) (h1 : HandL H' p l) (b : But p H H') : Od H' v := ⟨h.1.elim fun k hk => ⟨k, Kd.but hk h0 h1 b⟩, h.2⟩
theorem Od.same {H H' : Hp} {v : V} (h : Od H v) (k : Same H H') : Od H' v := ⟨h.1.elim fun j hk => ⟨j, hk.same k⟩, h.2⟩
theorem od_int {H : Hp} (i : Int) : Od H (.int i) := ⟨⟨_, .int i⟩, fun z e => by cases e⟩
theorem od_str {H : Hp} {z : Str} (l : z.length ≤ 2500) (s : PyData.strOk z = true) : Od H (.str z) := ⟨⟨_, .str z⟩, fun y e => by cases e; exact ⟨l, s⟩⟩
theorem od_non {H : Hp} : Od H .non := ⟨⟨_, .non⟩, fun z e => by cases e⟩
theorem od_bl {H : Hp} (b : Bool) : Od H (.bl b) := ⟨⟨_, .bl b⟩, fun z e => by cases e⟩
theorem od_tup {H : Hp} {t : Addr} {xs : List V} (e : H t = some (.tup xs)) : Od H (.ref t) := ⟨⟨_, .tup e⟩, fun z e => by cases e⟩
def spBent : Sp := fun vs H Q _ => ∃ (p e : Addr) (xs : List V), vs = [.ref p, .ref e] ∧ H e = some (.tup xs) ∧ 1 ≤ xs.length ∧ xs.length ≤ 6 ∧ (∀ v ∈ xs, SmS v) ∧ ∃ l, HandL H p l ∧ ∀ x o H', Tg H' x o → Shr o → HandL H' p l → But p H H' → Q x H'
def spDrawn : Sp := fun vs H Q _ => ∃ (p : Addr), vs = [.ref p] ∧ ∃ l, HandL H p l ∧ ∀ e xs H', H' e = some (.tup xs) → 1 ≤ xs.length → xs.length ≤ 6 → (∀ v ∈ xs, SmS v) → HandL H' p l → But p H H' → Q (.ref e) H'
section
variable {P : Program} {w : World} {K : PySem.W.Frag} {mg : Str → Option Value} {base : Heap}
abbrev sBent : Stmt := topS 42
theorem scBent : FnScope ["hand", "thing", "at", "odd", "way"] ["hand", "thing"] (defScope sBent) := ⟨rfl, rfl, rfl, by decide +kernel, rfl, by decide +kernel, by decide +kernel⟩
theorem ok_Bent {f : Addr} {fd : FuncData} (F : Fun K "_law_bent" "_law_bent" sBent f fd)  {fDraw : Addr} {fdDraw : FuncData} (DDraw : Dk P w K mg base "_law_draw" sDraw ["hand", "many"] 1 spDraw fDraw fdDraw) (T : Glob mg) : FnOk P w K mg base CX0 2 f fd ["hand", "thing"] spBent := by
  refine F.ok scBent (fun vs H Q E h => ?_) (fun cdv A outer s H vs Q E hr h => ?_)
  · obtain ⟨p, e, xs, rfl, _⟩ := h
    rfl
  · refine ⟨_, (pss_cons (ps_set (i := 2) scBent.nd rfl (.inl rfl) (pe_call DDraw.ok (hr.mono (by decide)) (by rfl) DDraw.g DDraw.F.kp DDraw.b .nil pass0 (pa_cons (pv 0) (pa_cons (pe_callB call_len_seq (by rfl) T.len PySem.boot_len (pa_cons (pv 1) pa_nil)) pa_nil))))
      (pss_cons (ps_set (i := 3) scBent.nd rfl (.inl rfl) (pe_ix ix_list (pe_lst (pa_cons pe_int (pa_cons (pe_un un_neg pe_int) (pa_cons pe_bl (pa_cons pe_non (pa_cons pe_str (pa_cons pe_str (pa_cons pe_str (pa_cons pe_int (pa_cons (pe_tup (pa_cons pe_int pa_nil)) (pa_cons pe_str (pa_cons pe_str pa_nil)))))))))))) (pe_call DDraw.ok (hr.mono (by decide)) (by rfl) DDraw.g DDraw.F.kp DDraw.b .nil pass0 (pa_cons (pv 0) (pa_cons pe_int pa_nil))) (fun _ _ => rfl)))
      (pss_cons (ps_set (i := 4) scBent.nd rfl (.inl rfl) (pe_call DDraw.ok (hr.mono (by decide)) (by rfl) DDraw.g DDraw.F.kp DDraw.b .nil pass0 (pa_cons (pv 0) (pa_cons pe_int pa_nil))))
      (pss_cons (ps_if (pt_cmpR op_eq (pv 4) pe_int (nomark _))
      (pss_one (ps_ret (pe_op op_catM (pe_slice sl_tupM (pv 1) po_none (po_some (pv 2))) (pe_slice sl_tupM (pv 1) (po_some (pe_op op_add (pv 2) pe_int)) po_none))))
      pss_nil)
      (pss_cons (ps_if (pt_cmpR op_eq (pv 4) pe_int (nomark _))
      (pss_one (ps_ret (pe_op op_catM (pv 1) (pe_tup (pa_cons (pv 3) pa_nil)))))
      pss_nil)
      (pss_cons (ps_if (pt_cmpR op_eq (pv 4) pe_int (nomark _))
      (pss_one (ps_ret (pe_callTy call_list_of (by rfl) T.list (by decide +kernel) (pa_cons (pv 1) pa_nil))))
      pss_nil)
      (pss_one (ps_ret (pe_op op_catM (pe_op op_catM (pe_slice sl_tupM (pv 1) po_none (po_some (pv 2))) (pe_tup (pa_cons (pv 3) pa_nil))) (pe_slice sl_tupM (pv 1) (po_some (pe_op op_add (pv 2) pe_int)) po_none)))))))))), ?_⟩
    obtain ⟨p, e, xs, rfl, he, l1, l6, hs, l, hH, q⟩ := h
    have sz : sizeLine = 16777216 := sizeLine_eq
    have nep : e ≠ p := hand_ne hH he (fun x1 x2 x3 x4 x5 z => by cases z)
    refine ⟨.ref p, rfl, .ref e, rfl, e, _, rfl, .inr (SqT.of he), p, _, rfl, by omega, by omega, l, hH, fun at_ H1 a0 a1 h1 b1 => ?_⟩
    have he1 := b1 _ _ nep he
    dsimp only [tNext, tSeq, tAsg, gName]
    refine ⟨_, rfl, by show 1 ≤ sizeLine; decide, fun t nt => ⟨by show 11 ≤ sizeLine; decide, fun o no => ?_⟩⟩
    have k2 := (Same.new (o := .tup [.int 1]) nt).trans (Same.new (o := .lst [.int 10000, .int (-1), .bl true, .non, .str "1", .str "", .str "a\n", .int 0, .ref t, .str "go", .str "cut"]) no)
    have ht : upd (upd H1 t (.tup [.int 1])) o (.lst [.int 10000, .int (-1), .bl true, .non, .str "1", .str "", .str "a\n", .int 0, .ref t, .str "go", .str "cut"]) t = some (.tup [.int 1]) := Same.new no _ _ upd_same
    have ho : upd (upd H1 t (.tup [.int 1])) o (.lst [.int 10000, .int (-1), .bl true, .non, .str "1", .str "", .str "a\n", .int 0, .ref t, .str "go", .str "cut"]) o = some (.lst [.int 10000, .int (-1), .bl true, .non, .str "1", .str "", .str "a\n", .int 0, .ref t, .str "go", .str "cut"]) := upd_same
    revert k2 ht ho
    generalize upd (upd H1 t (.tup [.int 1])) o _ = H2
    intro k2 ht ho
    have h2 := h1.same k2
    have b2 := b1.and k2
    have od2 : ∀ y ∈ [V.int 10000, .int (-1), .bl true, .non, .str "1", .str "", .str "a\n", .int 0, .ref t, .str "go", .str "cut"], Od H2 y := by
      intro y hy
      simp only [List.mem_cons, List.not_mem_nil, or_false] at hy
      rcases hy with rfl | rfl | rfl | rfl | rfl | rfl | rfl | rfl | rfl | rfl | rfl
      · exact od_int _
      · exact od_int _
      · exact od_bl _
      · exact od_non
      · exact od_str (by decide +kernel) (by decide +kernel)
      · exact od_str (by decide +kernel) (by decide +kernel)
      · exact od_str (by decide +kernel) (by decide +kernel)
      · exact od_int _
      · exact od_tup ht
      · exact od_str (by decide +kernel) (by decide +kernel)
      · exact od_str (by decide +kernel) (by decide +kernel)
    have nop : o ≠ p := hand_ne h2 ho (fun x1 x2 x3 x4 x5 z => by cases z)
    refine ⟨.ref p, rfl, p, 11, rfl, by decide, by decide, l, h2, fun v H3 v0 v1 h3 b3 => ?_⟩
    obtain ⟨y, ey, my⟩ := atI_in (xs := [V.int 10000, .int (-1), .bl true, .non, .str "1", .str "", .str "a\n", .int 0, .ref t, .str "go", .str "cut"]) v0 v1
    refine ⟨o, _, v, y, rfl, rfl, sq_of (b3 _ _ nop ho), ey, ?_⟩
    have oy := (od2 y my).but h2 h3 b3
    have b13 := b2.trans b3
    clear od2 ho ht my ey
    dsimp only [tNext, tSeq, tAsg, gName]
    refine ⟨.ref p, rfl, p, 5, rfl, by decide, by decide, l, h3, fun wy H4 w0 w1 h4 b4 => ?_⟩
    have oy := oy.but h3 h4 b4
    have b14 := b13.trans b4
    have he4 := b14 _ _ nep he
    have fin : ∀ (ys : List V) P H', Same H4 H' → H' P = some (.tup ys) → ys.length ≤ 30 → (∀ v ∈ ys, v = y ∨ v ∈ xs) → Q (.ref P) H' := fun ys P H' k hP n hm => by
      obtain ⟨g1, g2⟩ := tgT hP n fun v hv => by
        rcases hm v hv with rfl | hv
        · exact oy.same k
        · exact (hs v hv).od
      exact q _ _ H' g1 g2 (h4.same k) (b14.and k)
    dsimp only [tNext, tSeq, tAsg, gName]
    refine ⟨.int wy, rfl, rfl, _, rfl, ite2 (fun _ => ?_) (fun _ => ?_)⟩
    · refine ⟨.ref e, rfl, .int at_, rfl, at_, rfl, e, _, rfl, he4, fun b H5 k5 hb => ?_⟩
      refine ⟨.ref e, rfl, .int at_, rfl, _, _, rfl, rfl, _, rfl, e, _, rfl, k5 _ _ he4, fun b2 H6 k6 hb2 => ?_⟩
      have c1 := cutV_length xs none (some at_)
      have c2 := cutV_length xs (some (at_ + 1)) none
      refine ⟨b, b2, _, _, rfl, rfl, k6 _ _ hb, hb2, by omega, fun P H' k hP => fin _ P H' ((k5.trans k6).trans k) hP (by rw [List.length_append]; omega) fun v hv => ?_⟩
      rcases List.mem_append.mp hv with hv | hv
      · exact .inr (cutV_mem hv)
      · exact .inr (cutV_mem hv)
    refine ⟨.int wy, rfl, rfl, _, rfl, ite2 (fun _ => ?_) (fun _ => ?_)⟩
    · refine ⟨.ref e, rfl, y, rfl, by show 1 ≤ sizeLine; decide, fun b nb => ⟨e, b, xs, [y], rfl, rfl, (Same.new nb) _ _ he4, upd_same, by show xs.length + 1 ≤ 1000; omega, fun P H' k hP => fin _ P H' ((Same.new nb).trans k) hP (by rw [List.length_append]; show xs.length + 1 ≤ 30; omega) fun v hv => ?_⟩⟩
      rcases List.mem_append.mp hv with hv | hv
      · exact .inr hv
      · exact .inl (List.mem_singleton.mp hv)
    refine ⟨.int wy, rfl, rfl, _, rfl, ite2 (fun _ => ?_) (fun _ => ?_)⟩
    · refine ⟨.ref e, rfl, e, _, rfl, .inr (SqT.of he4), fun L nL => q _ none _ (.no (.lst upd_same) (by decide) (fun z e => by cases e)) (fun xs e => by cases e) (h4.same (Same.new nL)) (b14.new nL)⟩
    · refine ⟨.ref e, rfl, .int at_, rfl, at_, rfl, e, _, rfl, he4, fun b H5 k5 hb => ?_⟩
      refine ⟨y, rfl, by show 1 ≤ sizeLine; decide, fun b3 nb3 => ⟨b, b3, _, [y], rfl, rfl, (Same.new nb3) _ _ hb, upd_same, ?_, fun b4 H6 k6 hb4 => ?_⟩⟩
      · have c1 := cutV_length xs none (some at_)
        show _ + 1 ≤ 1000
        omega
      have k56 := (k5.trans (Same.new nb3)).trans k6
      refine ⟨.ref e, rfl, .int at_, rfl, _, _, rfl, rfl, _, rfl, e, _, rfl, k56 _ _ he4, fun b5 H7 k7 hb5 => ?_⟩
      have c1 := cutV_length xs none (some at_)
      have c2 := cutV_length xs (some (at_ + 1)) none
      refine ⟨b4, b5, _, _, rfl, rfl, k7 _ _ hb4, hb5, by rw [List.length_append]; show _ + 1 + _ ≤ 1000; omega, fun P H' k hP => fin _ P H' ((k56.trans k7).trans k) hP (by rw [List.length_append, List.length_append]; show _ + 1 + _ ≤ 30; omega) fun v hv => ?_⟩
      rcases List.mem_append.mp hv with hv | hv
      · rcases List.mem_append.mp hv with hv | hv
        · exact .inr (cutV_mem hv)
        · exact .inl (List.mem_singleton.mp hv)
      · exact .inr (cutV_mem hv)
end
end LawK
set_option maxHeartbeats 4000000
namespace LawK
open PySem PySem.Spec PyProof.Rows L2 Ev
theorem allS {p : V → Prop} {x : V} {xs : List V} (h : p x) (k : ∀ v ∈ xs, p v) : ∀ v ∈ x :: xs, p v := fun v hv => (List.mem_cons.mp hv).elim (fun e => e ▸ h) (k v)
section
variable {P : Program} {w : World} {K : PySem.W.Frag} {mg : Str → Option Value} {base : Heap}
abbrev sDrawn : Stmt := topS 41
theorem scDrawn : FnScope ["hand", "numbers", "turn", "signs", "one", "two", "three", "four", "five"] ["hand"] (defScope sDrawn) := ⟨rfl, rfl, rfl, by decide +kernel, rfl, by decide +kernel, by decide +kernel⟩
theorem ok_Drawn {f : Addr} {fd : FuncData} (F : Fun K "_law_drawn" "_law_drawn" sDrawn f fd)  {fDraw : Addr} {fdDraw : FuncData} (DDraw : Dk P w K mg base "_law_draw" sDraw ["hand", "many"] 1 spDraw fDraw fdDraw) {fWord : Addr} {fdWord : FuncData} (DWord : Dk P w K mg base "_law_word" sWord ["hand", "most"] 4 spLWord fWord fdWord) {fLine : Addr} {fdLine : FuncData} (DLine : Dk P w K mg base "_law_line" sLine ["hand"] 5 spLine fLine fdLine) (T : Glob mg) : FnOk P w K mg base CX0 6 f fd ["hand"] spDrawn := by
  refine F.ok scDrawn (fun vs H Q E h => ?_) (fun cdv A outer s H vs Q E hr h => ?_)
  · obtain ⟨p, rfl, _⟩ := h
    rfl
  · refine ⟨_, (pss_cons (ps_set (i := 1) scDrawn.nd rfl (.inl rfl) (pe_lst pa_nil))
      (pss_cons (ps_for PassesOwn.never rfl (pi_range1 (by rfl) T.range (pa_cons pe_int pa_nil)) (pg_name (i := 2) scDrawn.nd rfl (.inl rfl))
      (pss_one (ps_expr (pe_bm PySem.F.plainAttrs_list PySem.F.slot_list_append PySem.F.type_list_append mt_append (pv 1) (pa_cons (pe_ix ix_list (pe_lst (pa_cons pe_int (pa_cons pe_int (pa_cons pe_int (pa_cons (pe_call DDraw.ok (hr.mono (by decide)) (by rfl) DDraw.g DDraw.F.kp DDraw.b .nil pass0 (pa_cons (pv 0) (pa_cons pe_int pa_nil))) (pa_cons (pe_call DDraw.ok (hr.mono (by decide)) (by rfl) DDraw.g DDraw.F.kp DDraw.b .nil pass0 (pa_cons (pv 0) (pa_cons pe_int pa_nil))) pa_nil)))))) (pe_call DDraw.ok (hr.mono (by decide)) (by rfl) DDraw.g DDraw.F.kp DDraw.b .nil pass0 (pa_cons (pv 0) (pa_cons pe_int pa_nil))) (fun _ _ => rfl)) pa_nil)))))
      (pss_cons (ps_set (i := 3) scDrawn.nd rfl (.inl rfl) (pe_ix ix_list (pe_lst (pa_cons (pe_call DWord.ok (hr.mono (by decide)) (by rfl) DWord.g DWord.F.kp DWord.b .nil pass0 (pa_cons (pv 0) (pa_cons pe_int pa_nil))) (pa_cons (pe_call DLine.ok (hr.mono (by decide)) (by rfl) DLine.g DLine.F.kp DLine.b .nil pass0 (pa_cons (pv 0) pa_nil)) (pa_cons pe_str (pa_cons pe_str (pa_cons pe_str pa_nil)))))) (pe_call DDraw.ok (hr.mono (by decide)) (by rfl) DDraw.g DDraw.F.kp DDraw.b .nil pass0 (pa_cons (pv 0) (pa_cons pe_int pa_nil))) (fun _ _ => rfl)))
      (pss_cons (ps_asg (pv 1) (pg_unl (by rfl) (pgs_cons (pg_name (i := 4) scDrawn.nd rfl (.inl rfl)) (pgs_cons (pg_name (i := 5) scDrawn.nd rfl (.inl rfl)) (pgs_cons (pg_name (i := 6) scDrawn.nd rfl (.inl rfl)) (pgs_cons (pg_name (i := 7) scDrawn.nd rfl (.inl rfl)) (pgs_cons (pg_name (i := 8) scDrawn.nd rfl (.inl rfl)) pgs_nil)))))))
      (pss_one (ps_ret (pe_ix ix_list (pe_lst (pa_cons (pe_tup (pa_cons pe_str (pa_cons (pv 4) (pa_cons (pv 5) (pa_cons (pv 3) pa_nil))))) (pa_cons (pe_tup (pa_cons pe_str (pa_cons (pv 4) (pa_cons (pv 5) (pa_cons (pv 6) pa_nil))))) (pa_cons (pe_tup (pa_cons pe_str (pa_cons (pv 4) (pa_cons (pv 5) (pa_cons (pv 3) pa_nil))))) (pa_cons (pe_tup (pa_cons pe_str (pa_cons (pv 3) pa_nil))) (pa_cons (pe_tup (pa_cons pe_str pa_nil)) (pa_cons (pe_tup (pa_cons pe_str (pa_cons (pv 4) (pa_cons (pv 5) pa_nil)))) (pa_cons (pe_tup (pa_cons pe_str (pa_cons (pv 4) (pa_cons (pv 5) pa_nil)))) (pa_cons (pe_tup (pa_cons pe_str (pa_cons (pv 4) (pa_cons (pv 5) (pa_cons (pv 6) (pa_cons (pv 7) (pa_cons (pv 8) pa_nil))))))) pa_nil))))))))) (pe_call DDraw.ok (hr.mono (by decide)) (by rfl) DDraw.g DDraw.F.kp DDraw.b .nil pass0 (pa_cons (pv 0) (pa_cons pe_int pa_nil))) (fun _ _ => rfl)))))))), ?_⟩
    obtain ⟨p, rfl, l, hH, q⟩ := h
    have sz : sizeLine = 16777216 := sizeLine_eq
    refine ⟨by show 0 ≤ sizeLine; decide, fun N nN => ?_⟩
    dsimp only [tNext, tSeq, tAsg, gName]
    have n0 := (Hn.refl hH).new (o := .lst ([] : List V)) nN
    have nNp := (hH.ne nN).1
    refine ⟨5, rfl, by decide, by decide, for_range (fun i σ H' => ∃ (u : Option V) (ns : List Int), σ = [some (.ref p), some (.ref N), u, none, none, none, none, none, none] ∧ H' N = some (.lst (ns.map V.int)) ∧ ns.length = i ∧ (∀ n ∈ ns, 0 ≤ n ∧ n < 10000) ∧ Hn p l H H') ⟨none, [], rfl, upd_same, rfl, fun n hn => absurd hn (by simp), n0⟩ ?_ ?_⟩
    · rintro i σ H1 hi ⟨u, ns, rfl, hN, hl, hs, n1⟩
      have hi : i < 5 := hi
      refine ⟨.ref N, rfl, .inl ⟨rfl, _, sq_of hN⟩, .ref p, rfl, p, 10000, rfl, by decide, by decide, l, n1.at_, fun a H2 a0 a1 h2 b2 => ?_⟩
      refine ⟨.ref p, rfl, p, 12, rfl, by decide, by decide, l, h2, fun b H3 b0 b1 h3 b3 => ⟨by show 5 ≤ sizeLine; decide, fun L nL => ?_⟩⟩
      have n3 := (n1.go h2 b2).go h3 b3
      have hN3 := b3 _ _ nNp (b2 _ _ nNp hN)
      have hN4 := (Same.new (o := .lst [.int 0, .int 7, .int 9999, .int a, .int b]) nL) _ _ hN3
      have hL : upd H3 L (.lst [.int 0, .int 7, .int 9999, .int a, .int b]) L = some (.lst ([0, 7, 9999, a, b].map V.int)) := upd_same
      have n4 := n3.same (Same.new (o := .lst [.int 0, .int 7, .int 9999, .int a, .int b]) nL)
      have nLp : L ≠ p := (n3.at_.ne nL).1
      revert hN4 hL n4
      generalize upd H3 L _ = H4
      intro hN4 hL n4
      refine ⟨.ref p, rfl, p, 5, rfl, by decide, by decide, l, n4.at_, fun v H5 v0 v1 h5 b5 => ?_⟩
      obtain ⟨y, ey, my⟩ := atI_in (xs := [0, 7, 9999, a, b].map V.int) v0 v1
      obtain ⟨n, mn, rfl⟩ := List.mem_map.mp my
      have hn : 0 ≤ n ∧ n < 10000 := by
        simp only [List.mem_cons, List.not_mem_nil, or_false] at mn
        rcases mn with rfl | rfl | rfl | rfl | rfl <;> omega
      refine ⟨L, _, v, .int n, rfl, rfl, sq_of (b5 _ _ nLp hL), ey, N, _, _, rfl, rfl, b5 _ _ nNp hN4, ?_, ?_⟩
      · rw [List.length_map]
        omega
      · refine ⟨_, ns ++ [n], rfl, by rw [upd_same, List.map_append]; rfl, by rw [List.length_append, hl]; rfl, fun m hm => ?_, (n4.go h5 b5).at hH nN⟩
        rcases List.mem_append.mp hm with hm | hm
        · exact hs m hm
        · rw [List.mem_singleton.mp hm]
          exact hn
    · rintro σ H1 ⟨u, ns, rfl, hN, hl, hs, n1⟩
      dsimp only [tNext, tSeq, tAsg, gName]
      have hl : ns.length = 5 := by omega
      refine ⟨.ref p, rfl, p, 8, rfl, by decide, by decide, l, n1.at_, fun y H2 sy ly ly1 h2 b2 => ⟨.ref p, rfl, p, rfl, l, h2, fun z H3 sz' lz h3 b3 => ⟨by show 5 ≤ sizeLine; decide, fun L nL => ?_⟩⟩⟩
      have n3 := (n1.go h2 b2).go h3 b3
      have hN3 := b3 _ _ nNp (b2 _ _ nNp hN)
      have hN4 := (Same.new (o := .lst [.str y, .str z, .str " ", .str "0 1", .str "a b  c"]) nL) _ _ hN3
      have hL : upd H3 L (.lst [.str y, .str z, .str " ", .str "0 1", .str "a b  c"]) L = some (.lst [.str y, .str z, .str " ", .str "0 1", .str "a b  c"]) := upd_same
      have n4 := n3.same (Same.new (o := .lst [.str y, .str z, .str " ", .str "0 1", .str "a b  c"]) nL)
      have nLp : L ≠ p := (n3.at_.ne nL).1
      revert hN4 hL n4
      generalize upd H3 L _ = H4
      intro hN4 hL n4
      refine ⟨.ref p, rfl, p, 5, rfl, by decide, by decide, l, n4.at_, fun v H5 v0 v1 h5 b5 => ?_⟩
      obtain ⟨s, es, ss, ls⟩ : ∃ s : Str, atI [V.str y, .str z, .str " ", .str "0 1", .str "a b  c"] v = some (.str s) ∧ sgB s = true ∧ s.length ≤ 30 := by
        have e5 : v = 0 ∨ v = 1 ∨ v = 2 ∨ v = 3 ∨ v = 4 := by omega
        rcases e5 with rfl | rfl | rfl | rfl | rfl
        · exact ⟨_, rfl, sy, by omega⟩
        · exact ⟨_, rfl, sz', lz⟩
        · exact ⟨_, rfl, by decide +kernel, by decide +kernel⟩
        · exact ⟨_, rfl, by decide +kernel, by decide +kernel⟩
        · exact ⟨_, rfl, by decide +kernel, by decide +kernel⟩
      refine ⟨L, _, v, .str s, rfl, rfl, sq_of (b5 _ _ nLp hL), es, ?_⟩
      have hN5 := b5 _ _ nNp hN4
      have n5 := n4.go h5 b5
      dsimp only [tNext, tSeq, tAsg, gName]
      obtain ⟨c1, c2, c3, c4, c5, rfl⟩ := len5' hl
      refine ⟨.ref N, rfl, N, _, rfl, sq_of hN5, rfl, ?_⟩
      refine ⟨_, _, rfl, _, _, rfl, _, _, rfl, _, _, rfl, _, [], rfl, rfl, ?_⟩
      have hc : ∀ n ∈ [c1, c2, c3, c4, c5], 0 ≤ n ∧ n < 10000 := hs
      have g1 := hc c1 (by simp)
      have g2 := hc c2 (by simp)
      have g3 := hc c3 (by simp)
      have g4 := hc c4 (by simp)
      have g5 := hc c5 (by simp)
      refine ⟨.int c1, rfl, .int c2, rfl, .str s, rfl, by show 4 ≤ sizeLine; decide, fun t1 nt1 => ?_⟩
      have e1 : upd H5 t1 (.tup [.str (Str.ofString "put"), .int c1, .int c2, .str s]) t1 = some (.tup [.str (Str.ofString "put"), .int c1, .int c2, .str s]) := upd_same
      have m1 := n5.same (Same.new (o := .tup [.str (Str.ofString "put"), .int c1, .int c2, .str s]) nt1)
      revert m1 e1
      generalize upd H5 t1 _ = J1
      intro e1 m1
      refine ⟨.int c1, rfl, .int c2, rfl, .int c3, rfl, by show 4 ≤ sizeLine; decide, fun t2 nt2 => ?_⟩
      have e2 : upd J1 t2 (.tup [.str (Str.ofString "cut"), .int c1, .int c2, .int c3]) t2 = some (.tup [.str (Str.ofString "cut"), .int c1, .int c2, .int c3]) := upd_same
      have e1 := (Same.new (o := .tup [.str (Str.ofString "cut"), .int c1, .int c2, .int c3]) nt2) _ _ e1
      have m2 := m1.same (Same.new (o := .tup [.str (Str.ofString "cut"), .int c1, .int c2, .int c3]) nt2)
      clear nt1
      revert m2 e1 e2
      generalize upd J1 t2 _ = J2
      intro e2 e1 m2
      refine ⟨.int c1, rfl, .int c2, rfl, .str s, rfl, by show 4 ≤ sizeLine; decide, fun t3 nt3 => ?_⟩
      have e3 : upd J2 t3 (.tup [.str (Str.ofString "change"), .int c1, .int c2, .str s]) t3 = some (.tup [.str (Str.ofString "change"), .int c1, .int c2, .str s]) := upd_same
      have e1 := (Same.new (o := .tup [.str (Str.ofString "change"), .int c1, .int c2, .str s]) nt3) _ _ e1
      have e2 := (Same.new (o := .tup [.str (Str.ofString "change"), .int c1, .int c2, .str s]) nt3) _ _ e2
      have m3 := m2.same (Same.new (o := .tup [.str (Str.ofString "change"), .int c1, .int c2, .str s]) nt3)
      clear nt2
      revert m3 e1 e2 e3
      generalize upd J2 t3 _ = J3
      intro e3 e1 e2 m3
      refine ⟨.str s, rfl, by show 2 ≤ sizeLine; decide, fun t4 nt4 => ?_⟩
      have e4 : upd J3 t4 (.tup [.str (Str.ofString "come"), .str s]) t4 = some (.tup [.str (Str.ofString "come"), .str s]) := upd_same
      have e1 := (Same.new (o := .tup [.str (Str.ofString "come"), .str s]) nt4) _ _ e1
      have e2 := (Same.new (o := .tup [.str (Str.ofString "come"), .str s]) nt4) _ _ e2
      have e3 := (Same.new (o := .tup [.str (Str.ofString "come"), .str s]) nt4) _ _ e3
      have m4 := m3.same (Same.new (o := .tup [.str (Str.ofString "come"), .str s]) nt4)
      clear nt3
      revert m4 e1 e2 e3 e4
      generalize upd J3 t4 _ = J4
      intro e4 e1 e2 e3 m4
      refine ⟨by show 1 ≤ sizeLine; decide, fun t5 nt5 => ?_⟩
      have e5 : upd J4 t5 (.tup [.str (Str.ofString "go")]) t5 = some (.tup [.str (Str.ofString "go")]) := upd_same
      have e1 := (Same.new (o := .tup [.str (Str.ofString "go")]) nt5) _ _ e1
      have e2 := (Same.new (o := .tup [.str (Str.ofString "go")]) nt5) _ _ e2
      have e3 := (Same.new (o := .tup [.str (Str.ofString "go")]) nt5) _ _ e3
      have e4 := (Same.new (o := .tup [.str (Str.ofString "go")]) nt5) _ _ e4
      have m5 := m4.same (Same.new (o := .tup [.str (Str.ofString "go")]) nt5)
      clear nt4
      revert m5 e1 e2 e3 e4 e5
      generalize upd J4 t5 _ = J5
      intro e5 e1 e2 e3 e4 m5
      refine ⟨.int c1, rfl, .int c2, rfl, by show 3 ≤ sizeLine; decide, fun t6 nt6 => ?_⟩
      have e6 : upd J5 t6 (.tup [.str (Str.ofString "split"), .int c1, .int c2]) t6 = some (.tup [.str (Str.ofString "split"), .int c1, .int c2]) := upd_same
      have e1 := (Same.new (o := .tup [.str (Str.ofString "split"), .int c1, .int c2]) nt6) _ _ e1
      have e2 := (Same.new (o := .tup [.str (Str.ofString "split"), .int c1, .int c2]) nt6) _ _ e2
      have e3 := (Same.new (o := .tup [.str (Str.ofString "split"), .int c1, .int c2]) nt6) _ _ e3
      have e4 := (Same.new (o := .tup [.str (Str.ofString "split"), .int c1, .int c2]) nt6) _ _ e4
      have e5 := (Same.new (o := .tup [.str (Str.ofString "split"), .int c1, .int c2]) nt6) _ _ e5
      have m6 := m5.same (Same.new (o := .tup [.str (Str.ofString "split"), .int c1, .int c2]) nt6)
      clear nt5
      revert m6 e1 e2 e3 e4 e5 e6
      generalize upd J5 t6 _ = J6
      intro e6 e1 e2 e3 e4 e5 m6
      refine ⟨.int c1, rfl, .int c2, rfl, by show 3 ≤ sizeLine; decide, fun t7 nt7 => ?_⟩
      have e7 : upd J6 t7 (.tup [.str (Str.ofString "join"), .int c1, .int c2]) t7 = some (.tup [.str (Str.ofString "join"), .int c1, .int c2]) := upd_same
      have e1 := (Same.new (o := .tup [.str (Str.ofString "join"), .int c1, .int c2]) nt7) _ _ e1
      have e2 := (Same.new (o := .tup [.str (Str.ofString "join"), .int c1, .int c2]) nt7) _ _ e2
      have e3 := (Same.new (o := .tup [.str (Str.ofString "join"), .int c1, .int c2]) nt7) _ _ e3
      have e4 := (Same.new (o := .tup [.str (Str.ofString "join"), .int c1, .int c2]) nt7) _ _ e4
      have e5 := (Same.new (o := .tup [.str (Str.ofString "join"), .int c1, .int c2]) nt7) _ _ e5
      have e6 := (Same.new (o := .tup [.str (Str.ofString "join"), .int c1, .int c2]) nt7) _ _ e6
      have m7 := m6.same (Same.new (o := .tup [.str (Str.ofString "join"), .int c1, .int c2]) nt7)
      clear nt6
      revert m7 e1 e2 e3 e4 e5 e6 e7
      generalize upd J6 t7 _ = J7
      intro e7 e1 e2 e3 e4 e5 e6 m7
      refine ⟨.int c1, rfl, .int c2, rfl, .int c3, rfl, .int c4, rfl, .int c5, rfl, by show 6 ≤ sizeLine; decide, fun t8 nt8 => ?_⟩
      have e8 : upd J7 t8 (.tup [.str (Str.ofString "move"), .int c1, .int c2, .int c3, .int c4, .int c5]) t8 = some (.tup [.str (Str.ofString "move"), .int c1, .int c2, .int c3, .int c4, .int c5]) := upd_same
      have e1 := (Same.new (o := .tup [.str (Str.ofString "move"), .int c1, .int c2, .int c3, .int c4, .int c5]) nt8) _ _ e1
      have e2 := (Same.new (o := .tup [.str (Str.ofString "move"), .int c1, .int c2, .int c3, .int c4, .int c5]) nt8) _ _ e2
      have e3 := (Same.new (o := .tup [.str (Str.ofString "move"), .int c1, .int c2, .int c3, .int c4, .int c5]) nt8) _ _ e3
      have e4 := (Same.new (o := .tup [.str (Str.ofString "move"), .int c1, .int c2, .int c3, .int c4, .int c5]) nt8) _ _ e4
      have e5 := (Same.new (o := .tup [.str (Str.ofString "move"), .int c1, .int c2, .int c3, .int c4, .int c5]) nt8) _ _ e5
      have e6 := (Same.new (o := .tup [.str (Str.ofString "move"), .int c1, .int c2, .int c3, .int c4, .int c5]) nt8) _ _ e6
      have e7 := (Same.new (o := .tup [.str (Str.ofString "move"), .int c1, .int c2, .int c3, .int c4, .int c5]) nt8) _ _ e7
      have m8 := m7.same (Same.new (o := .tup [.str (Str.ofString "move"), .int c1, .int c2, .int c3, .int c4, .int c5]) nt8)
      clear nt7
      revert m8 e1 e2 e3 e4 e5 e6 e7 e8
      generalize upd J7 t8 _ = J8
      intro e8 e1 e2 e3 e4 e5 e6 e7 m8
      refine ⟨by show 8 ≤ sizeLine; decide, fun M nM => ?_⟩
      have eM : upd J8 M (.lst [.ref t1, .ref t2, .ref t3, .ref t4, .ref t5, .ref t6, .ref t7, .ref t8]) M = some (.lst [.ref t1, .ref t2, .ref t3, .ref t4, .ref t5, .ref t6, .ref t7, .ref t8]) := upd_same
      have kM := Same.new (o := .lst [.ref t1, .ref t2, .ref t3, .ref t4, .ref t5, .ref t6, .ref t7, .ref t8]) nM
      have nMp : M ≠ p := (m8.at_.ne nM).1
      have m9 := m8.same kM
      replace e1 := kM _ _ e1
      replace e2 := kM _ _ e2
      replace e3 := kM _ _ e3
      replace e4 := kM _ _ e4
      replace e5 := kM _ _ e5
      replace e6 := kM _ _ e6
      replace e7 := kM _ _ e7
      replace e8 := kM _ _ e8
      clear kM
      revert m9 eM e1 e2 e3 e4 e5 e6 e7 e8
      generalize upd J8 M _ = J9
      intro eM m9 e1 e2 e3 e4 e5 e6 e7 e8
      refine ⟨.ref p, rfl, p, 8, rfl, by decide, by decide, l, m9.at_, fun v H9 v0 v1 h9 b9 => ?_⟩
      have bt : ∀ {t : Addr} {xs : List V}, J9 t = some (.tup xs) → H9 t = some (.tup xs) := fun h => b9 _ _ (hand_ne m9.at_ h (fun x1 x2 x3 x4 x5 z => by cases z)) h
      have n9 := m9.go h9 b9
      have sS : ∀ (z : String), (sgB (Str.ofString z) && decide ((Str.ofString z).length ≤ 30)) = true → SmS (.str (Str.ofString z)) := fun z h => .inr ⟨_, rfl, (Bool.and_eq_true_iff.mp h).1, of_decide_eq_true (Bool.and_eq_true_iff.mp h).2⟩
      have sI : ∀ {n : Int}, 0 ≤ n ∧ n < 10000 → SmS (.int n) := fun h => .inl ⟨_, rfl, h⟩
      have sZ : SmS (.str s) := .inr ⟨_, rfl, ss, ls⟩
      obtain ⟨t, xs, ey, et, x1, x6, hx⟩ : ∃ t xs, atI [V.ref t1, .ref t2, .ref t3, .ref t4, .ref t5, .ref t6, .ref t7, .ref t8] v = some (.ref t) ∧ H9 t = some (.tup xs) ∧ 1 ≤ xs.length ∧ xs.length ≤ 6 ∧ ∀ v ∈ xs, SmS v := by
        have e8' : v = 0 ∨ v = 1 ∨ v = 2 ∨ v = 3 ∨ v = 4 ∨ v = 5 ∨ v = 6 ∨ v = 7 := by omega
        rcases e8' with rfl | rfl | rfl | rfl | rfl | rfl | rfl | rfl
        · exact ⟨_, _, rfl, bt e1, by show 1 ≤ 4; decide, by show 4 ≤ 6; decide, allS (sS "put" (by decide +kernel)) (allS (sI g1) (allS (sI g2) (allS sZ (fun v hv => absurd hv (by simp)))))⟩
        · exact ⟨_, _, rfl, bt e2, by show 1 ≤ 4; decide, by show 4 ≤ 6; decide, allS (sS "cut" (by decide +kernel)) (allS (sI g1) (allS (sI g2) (allS (sI g3) (fun v hv => absurd hv (by simp)))))⟩
        · exact ⟨_, _, rfl, bt e3, by show 1 ≤ 4; decide, by show 4 ≤ 6; decide, allS (sS "change" (by decide +kernel)) (allS (sI g1) (allS (sI g2) (allS sZ (fun v hv => absurd hv (by simp)))))⟩
        · exact ⟨_, _, rfl, bt e4, by show 1 ≤ 2; decide, by show 2 ≤ 6; decide, allS (sS "come" (by decide +kernel)) (allS sZ (fun v hv => absurd hv (by simp)))⟩
        · exact ⟨_, _, rfl, bt e5, by show 1 ≤ 1; decide, by show 1 ≤ 6; decide, allS (sS "go" (by decide +kernel)) (fun v hv => absurd hv (by simp))⟩
        · exact ⟨_, _, rfl, bt e6, by show 1 ≤ 3; decide, by show 3 ≤ 6; decide, allS (sS "split" (by decide +kernel)) (allS (sI g1) (allS (sI g2) (fun v hv => absurd hv (by simp))))⟩
        · exact ⟨_, _, rfl, bt e7, by show 1 ≤ 3; decide, by show 3 ≤ 6; decide, allS (sS "join" (by decide +kernel)) (allS (sI g1) (allS (sI g2) (fun v hv => absurd hv (by simp))))⟩
        · exact ⟨_, _, rfl, bt e8, by show 1 ≤ 6; decide, by show 6 ≤ 6; decide, allS (sS "move" (by decide +kernel)) (allS (sI g1) (allS (sI g2) (allS (sI g3) (allS (sI g4) (allS (sI g5) (fun v hv => absurd hv (by simp)))))))⟩
      exact ⟨M, _, v, .ref t, rfl, rfl, sq_of (b9 _ _ nMp eM), ey, q t xs H9 et x1 x6 hx n9.at_ n9.but⟩
end
end LawK
set_option maxHeartbeats 4000000
namespace LawK
open PySem PySem.Spec PyProof.Rows L2 Ev
theorem mText_get {ts : List Str} {t : Int} (t0 : 0 ≤ t) (t1 : t < ts.length) : ts[t.toNat]? = some (mText ts t) := by
  have h : t.toNat < ts.length := by omega
  unfold mText
  rw [List.getD_eq_getElem?_getD, List.getElem?_eq_getElem h]
  rfl
theorem tIfS_of {tc : TT} {tb te : TS} {D : Ends} {σ : L2.St} {H : Hp} (P : Prop) (h : ∀ (tb te : TS) (D : Ends), (P → tb D σ H) → (¬ P → te D σ H) → tIfS tc tb te D σ H) (a : P → tb D σ H) (b : ¬ P → te D σ H) : tIfS tc tb te D σ H := h tb te D a b
theorem di {x y : Int} (e : decide (V.int x = V.int y) = true) : x = y := V.int.inj (of_decide_eq_true e)
theorem dn {x y : Int} (e : ¬ decide (V.int x = V.int y) = true) : x ≠ y := fun h => e (decide_eq_true (congrArg V.int h))
theorem dt {P : Prop} [Decidable P] (e : decide P = true) : P := of_decide_eq_true e
theorem df {P : Prop} [Decidable P] (e : ¬ decide P = true) : ¬ P := fun h => e (decide_eq_true h)
theorem tAt {ts : List Str} {t : Int} (t0 : 0 ≤ t) (t1 : t < ts.length) : atI (ts.map V.str) t = some (.str (mText ts t)) := by
  have h := mText_get t0 t1
  obtain ⟨j, rfl⟩ := Int.eq_ofNat_of_zero_le t0
  refine atI_nat ?_
  rw [List.getElem?_map]
  rw [Int.toNat_natCast] at h
  rw [h]
  rfl
theorem tx_le {ts : List Str} (len : ∀ t ∈ ts, t.length ≤ 200) {t : Int} (t0 : 0 ≤ t) (t1 : t < ts.length) : (mText ts t).length ≤ 200 := len _ (List.mem_of_getElem? (mText_get t0 t1))

def spLEdit : Sp := fun vs H Q _ => ∃ (p a : Addr) (ts : List Str), vs = [.ref p, .ref a] ∧ H a = some (.tup (ts.map V.str)) ∧ ts.length ≤ 8 ∧ (∀ t ∈ ts, t.length ≤ 200) ∧ ∃ l, HandL H p l ∧ ∀ e xs H', H' e = some (.tup xs) → 1 ≤ xs.length → xs.length ≤ 6 → (∀ v ∈ xs, SmS v) → HandL H' p l → But p H H' → Q (.ref e) H'
section
variable {P : Program} {w : World} {K : PySem.W.Frag} {mg : Str → Option Value} {base : Heap}
abbrev sLEdit : Stmt := topS 32
theorem scLEdit : FnScope ["hand", "texts", "kind", "many", "number", "text", "at", "long", "other", "room", "turn"] ["hand", "texts"] (defScope sLEdit) := ⟨rfl, rfl, rfl, by decide +kernel, rfl, by decide +kernel, by decide +kernel⟩
theorem ok_LEdit {f : Addr} {fd : FuncData} (F : Fun K "_law_edit" "_law_edit" sLEdit f fd)  {fDraw : Addr} {fdDraw : FuncData} (DDraw : Dk P w K mg base "_law_draw" sDraw ["hand", "many"] 1 spDraw fDraw fdDraw) {fSign : Addr} {fdSign : FuncData} (DSign : Dk P w K mg base "_law_sign" sSign ["hand", "kind"] 3 spSign fSign fdSign) {fText : Addr} {fdText : FuncData} (DText : Dk P w K mg base "_law_text" sText ["hand", "most"] 4 spLText fText fdText) {fWord : Addr} {fdWord : FuncData} (DWord : Dk P w K mg base "_law_word" sWord ["hand", "most"] 4 spLWord fWord fdWord) (T : Glob mg) : FnOk P w K mg base CX0 5 f fd ["hand", "texts"] spLEdit := by
  refine F.ok scLEdit (fun vs H Q E h => ?_) (fun cdv A outer s H vs Q E hr h => ?_)
  · obtain ⟨p, a, ts, rfl, _⟩ := h
    rfl
  · refine ⟨_, (pss_cons (ps_set (i := 2) scLEdit.nd rfl (.inl rfl) (pe_call DDraw.ok (hr.mono (by decide)) (by rfl) DDraw.g DDraw.F.kp DDraw.b .nil pass0 (pa_cons (pv 0) (pa_cons pe_int pa_nil))))
      (pss_cons (ps_set (i := 3) scLEdit.nd rfl (.inl rfl) (pe_callB call_len_seq (by rfl) T.len PySem.boot_len (pa_cons (pv 1) pa_nil)))
      (pss_cons (ps_if (PW.pt (pw_or (pt_cmpR op_eq (pv 3) pe_int (nomark _)) (pw_or1 (PW.pt (pw_and (pt_cmpR op_eq (pv 2) pe_int (nomark _)) (pw_and1 (pt_cmpR op_lt (pv 3) pe_int (nomark _))))))))
      (pss_one (ps_ret (pe_tup (pa_cons pe_str (pa_cons (pe_call DText.ok (hr.mono (by decide)) (by rfl) DText.g DText.F.kp DText.b .nil pass0 (pa_cons (pv 0) (pa_cons pe_int pa_nil))) pa_nil)))))
      pss_nil)
      (pss_cons (ps_if (PW.pt (pw_and (pt_cmpR op_eq (pv 2) pe_int (nomark _)) (pw_and1 (pt_cmpR op_eq (pe_ix ix_tup (pv 1) (pe_op op_sub (pv 3) pe_int) (fun _ _ => rfl)) pe_str (nomark _)))))
      (pss_one (ps_ret (pe_tup (pa_cons pe_str pa_nil))))
      pss_nil)
      (pss_cons (ps_set (i := 4) scLEdit.nd rfl (.inl rfl) (pe_call DDraw.ok (hr.mono (by decide)) (by rfl) DDraw.g DDraw.F.kp DDraw.b .nil pass0 (pa_cons (pv 0) (pa_cons (pv 3) pa_nil))))
      (pss_cons (ps_set (i := 5) scLEdit.nd rfl (.inl rfl) (pe_ix ix_tup (pv 1) (pv 4) (fun _ _ => rfl)))
      (pss_cons (ps_if (PW.pt (pw_and (pt_cmpR op_eq (pv 2) pe_int (nomark _)) (pw_and1 (pt_cmpR op_lt (pv 3) pe_int (nomark _)))))
      (pss_one (ps_ret (pe_tup (pa_cons pe_str (pa_cons (pv 4) (pa_cons (pe_call DDraw.ok (hr.mono (by decide)) (by rfl) DDraw.g DDraw.F.kp DDraw.b .nil pass0 (pa_cons (pv 0) (pa_cons (pe_op op_add (pe_callB call_lenZ (by rfl) T.len PySem.boot_len (pa_cons (pv 5) pa_nil)) pe_int) pa_nil))) pa_nil))))))
      pss_nil)
      (pss_cons (ps_if (PW.pt (pw_and (pt_cmpR op_eq (pv 2) pe_int (nomark _)) (pw_and1 (pt_cmpR op_gt (pv 3) pe_int (nomark _)))))
      (pss_one (ps_ret (pe_tup (pa_cons pe_str (pa_cons (pv 4) (pa_cons (pe_op op_mod (pe_callTy call_int1 (by rfl) T.int (by decide +kernel) (pa_cons (pe_op op_add (pe_op op_add (pv 4) pe_int) (pe_call DDraw.ok (hr.mono (by decide)) (by rfl) DDraw.g DDraw.F.kp DDraw.b .nil pass0 (pa_cons (pv 0) (pa_cons (pe_op op_sub (pv 3) pe_int) pa_nil)))) pa_nil)) (pv 3)) pa_nil))))))
      pss_nil)
      (pss_cons (ps_if (PW.pt (pw_or (pt_cmpR op_eq (pe_callB call_lenZ (by rfl) T.len PySem.boot_len (pa_cons (pv 5) pa_nil)) pe_int (nomark _)) (pw_or1 (pt_cmpR op_gt (pv 2) pe_int (nomark _)))))
      (pss_one (ps_ret (pe_tup (pa_cons pe_str (pa_cons (pv 4) (pa_cons (pe_call DDraw.ok (hr.mono (by decide)) (by rfl) DDraw.g DDraw.F.kp DDraw.b .nil pass0 (pa_cons (pv 0) (pa_cons (pe_op op_add (pe_callB call_lenZ (by rfl) T.len PySem.boot_len (pa_cons (pv 5) pa_nil)) pe_int) pa_nil))) (pa_cons (pe_call DWord.ok (hr.mono (by decide)) (by rfl) DWord.g DWord.F.kp DWord.b .nil pass0 (pa_cons (pv 0) (pa_cons pe_int pa_nil))) pa_nil)))))))
      pss_nil)
      (pss_cons (ps_set (i := 6) scLEdit.nd rfl (.inl rfl) (pe_call DDraw.ok (hr.mono (by decide)) (by rfl) DDraw.g DDraw.F.kp DDraw.b .nil pass0 (pa_cons (pv 0) (pa_cons (pe_callB call_lenZ (by rfl) T.len PySem.boot_len (pa_cons (pv 5) pa_nil)) pa_nil))))
      (pss_cons (ps_set (i := 7) scLEdit.nd rfl (.inl rfl) (pe_op op_add pe_int (pe_call DDraw.ok (hr.mono (by decide)) (by rfl) DDraw.g DDraw.F.kp DDraw.b .nil pass0 (pa_cons (pv 0) (pa_cons (pe_callB (call_min2 rfl) (by rfl) T.min (by decide +kernel) (pa_cons (pe_op op_sub (pe_callB call_lenZ (by rfl) T.len PySem.boot_len (pa_cons (pv 5) pa_nil)) (pv 6)) (pa_cons pe_int pa_nil))) pa_nil)))))
      (pss_cons (ps_if (pt_cmpR op_lt (pv 2) pe_int (nomark _))
      (pss_one (ps_ret (pe_tup (pa_cons pe_str (pa_cons (pv 4) (pa_cons (pv 6) (pa_cons (pv 7) pa_nil)))))))
      pss_nil)
      (pss_cons (ps_if (pt_cmpR op_eq (pv 2) pe_int (nomark _))
      (pss_one (ps_ret (pe_tup (pa_cons pe_str (pa_cons (pv 4) (pa_cons (pv 6) (pa_cons (pe_join pe_str (pe_lc (own := [("turn", 10)]) (g := gName 10) (by rfl) scLEdit.nd (pi_range1 (by rfl) T.range (pa_cons (pv 7) pa_nil)) (blkOk_by (N := ["hand", "texts", "kind", "many", "number", "text", "at", "long", "other", "room", "turn"]) (sc := defScope sLEdit) (by decide +kernel)) (fun _ _ _ _ _ => pg_name (i := 10) scLEdit.nd rfl (.inl rfl)) (fun _ _ _ _ _ => pts_nil) (fun _ _ _ _ _ => (pe_call DSign.ok (hr.mono (by decide)) (by rfl) DSign.g DSign.F.kp DSign.b .nil pass0 (pa_cons (pv 0) (pa_cons pe_int pa_nil)))))) pa_nil)))))))
      pss_nil)
      (pss_cons (ps_set (i := 8) scLEdit.nd rfl (.inl rfl) (pe_call DDraw.ok (hr.mono (by decide)) (by rfl) DDraw.g DDraw.F.kp DDraw.b .nil pass0 (pa_cons (pv 0) (pa_cons (pv 3) pa_nil))))
      (pss_cons (ps_set (i := 9) scLEdit.nd rfl (.inl rfl) (pe_callB call_lenZ (by rfl) T.len PySem.boot_len (pa_cons (pe_ix ix_tup (pv 1) (pv 8) (fun _ _ => rfl)) pa_nil)))
      (pss_cons (ps_if (pt_cmpR op_eq (pv 8) (pv 4) (nomark _))
      (pss_one (ps_set (i := 9) scLEdit.nd rfl (.inl rfl) (pe_op op_sub (pv 9) (pv 7))))
      pss_nil)
      (pss_one (ps_ret (pe_tup (pa_cons pe_str (pa_cons (pv 4) (pa_cons (pv 6) (pa_cons (pv 7) (pa_cons (pv 8) (pa_cons (pe_call DDraw.ok (hr.mono (by decide)) (by rfl) DDraw.g DDraw.F.kp DDraw.b .nil pass0 (pa_cons (pv 0) (pa_cons (pe_op op_add (pv 9) pe_int) pa_nil))) pa_nil))))))))))))))))))))))))), ?_⟩
    obtain ⟨p, a, ts, rfl, ha, few, len, lh, hH, q⟩ := h
    have nap : a ≠ p := hand_ne hH ha (fun x1 x2 x3 x4 x5 z => by cases z)
    have cl : (ts.map V.str).length = ts.length := List.length_map _
    have sS : ∀ (z : String), (sgB (Str.ofString z) && decide ((Str.ofString z).length ≤ 30)) = true → SmS (.str (Str.ofString z)) := fun z h => .inr ⟨_, rfl, (Bool.and_eq_true_iff.mp h).1, of_decide_eq_true (Bool.and_eq_true_iff.mp h).2⟩
    have sI : ∀ {n : Int}, 0 ≤ n → n < 10000 → SmS (.int n) := fun h h2 => .inl ⟨_, rfl, h, h2⟩
    have sZ : ∀ {z : Str}, sgB z = true → z.length ≤ 30 → SmS (.str z) := fun h h2 => .inr ⟨_, rfl, h, h2⟩
    have nil : ∀ v ∈ ([] : List V), SmS v := fun v hv => absurd hv (by simp)
    have fin : ∀ (vs : List V) H' e, 1 ≤ vs.length → vs.length ≤ 6 → (∀ v ∈ vs, SmS v) → HandL H' p lh → But p H H' → H' e = none → Q (.ref e) (upd H' e (.tup vs)) := fun vs H' e h1 h6 hs h b ne => q e vs _ upd_same h1 h6 hs (h.same (Same.new ne)) (b.new ne)
    refine ⟨.ref p, rfl, p, 9, rfl, by decide, by decide, lh, hH, fun kk H1 k0 k1 h1 b1 => ?_⟩
    have ha1 := b1 _ _ nap ha
    try dsimp only [tNext, tSeq, tAsg, gName, tDrop]
    refine ⟨.ref a, rfl, a, _, rfl, .inr (SqT.of ha1), ?_⟩
    try dsimp only [tNext, tSeq, tAsg, gName, tDrop]
    rw [List.length_map]
    refine tIfS_of ((ts.length : Int) = 0 ∨ kk = 0 ∧ (ts.length : Int) < 8) (fun tb te D A B => ⟨.int ts.length, rfl, rfl, _, rfl, ite2 (fun e => A (.inl (di e))) (fun e => ⟨.int kk, rfl, rfl, _, rfl, ite2 (fun e2 => ⟨.int ts.length, rfl, _, _, rfl, rfl, _, rfl, ite2 (fun e3 => A (.inr ⟨di e2, dt e3⟩)) (fun e3 => B fun c => c.elim (dn e) fun c => df e3 c.2)⟩) (fun e2 => B fun c => c.elim (dn e) fun c => dn e2 c.1)⟩)⟩) (fun c => ?_) (fun c => ?_)
    · refine ⟨.ref p, rfl, p, 8, rfl, by decide, by decide, lh, h1, fun y H2 sy ly h2 b2 => ⟨by show 2 ≤ sizeLine; decide, fun e ne => fin [.str (Str.ofString "come"), .str (y)] H2 e (by simp) (by simp) (allS (sS "come" (by decide +kernel)) (allS (sZ sy (by omega)) nil)) h2 (b1.trans b2) ne⟩⟩
    have m0 : 0 < ts.length := by omega
    try dsimp only [tNext, tSeq, tAsg, gName, tDrop]
    refine tIfS_of (kk = 1 ∧ mText ts ((ts.length : Int) - 1) = Str.ofString "") (fun tb te D A B => ⟨.int kk, rfl, rfl, _, rfl, ite2 (fun e2 => ⟨.ref a, rfl, .int ts.length, rfl, _, _, rfl, rfl, a, _, (ts.length : Int) - 1, .str (mText ts ((ts.length : Int) - 1)), rfl, rfl, SqT.of ha1, tAt (by omega) (by omega), rfl, _, rfl, ite2 (fun e3 => A ⟨di e2, V.str.inj (of_decide_eq_true e3)⟩) (fun e3 => B fun c => e3 (decide_eq_true (congrArg V.str c.2)))⟩) (fun e2 => B fun c => dn e2 c.1)⟩) (fun c2 => ?_) (fun c2 => ?_)
    · refine ⟨by show 1 ≤ sizeLine; decide, fun e ne => fin [.str (Str.ofString "go")] H1 e (by simp) (by simp) (allS (sS "go" (by decide +kernel)) nil) h1 b1 ne⟩
    try dsimp only [tNext, tSeq, tAsg, gName, tDrop]
    refine ⟨.ref p, rfl, .int ts.length, rfl, p, _, rfl, by omega, by omega, lh, h1, fun t H2 t0 t1 h2 b2 => ?_⟩
    have b12 := b1.trans b2
    have ha2 := b12 _ _ nap ha
    have ltx := tx_le len t0 t1
    try dsimp only [tNext, tSeq, tAsg, gName, tDrop]
    refine ⟨.ref a, rfl, .int t, rfl, a, _, t, .str (mText ts t), rfl, rfl, SqT.of ha2, tAt t0 t1, ?_⟩
    try dsimp only [tNext, tSeq, tAsg, gName, tDrop]
    refine tIfS_of (kk = 2 ∧ (ts.length : Int) < 8) (fun tb te D A B => ⟨.int kk, rfl, rfl, _, rfl, ite2 (fun e2 => ⟨.int ts.length, rfl, _, _, rfl, rfl, _, rfl, ite2 (fun e3 => A ⟨di e2, dt e3⟩) (fun e3 => B fun c => df e3 c.2)⟩) (fun e2 => B fun c => dn e2 c.1)⟩) (fun c3 => ?_) (fun c3 => ?_)
    · refine ⟨.int t, rfl, .ref p, rfl, .str (mText ts t), rfl, _, rfl, len5 (Nat.le_trans ltx (by decide)), _, _, rfl, rfl, p, _, rfl, by omega, by omega, lh, h2, fun at_ H3 p0 p1 h3 b3 => ⟨by show 3 ≤ sizeLine; decide, fun e ne => fin [.str (Str.ofString "split"), .int (t), .int (at_)] H3 e (by simp) (by simp) (allS (sS "split" (by decide +kernel)) (allS (sI (by omega) (by omega)) (allS (sI (by omega) (by omega)) nil))) h3 (b12.trans b3) ne⟩⟩
    try dsimp only [tNext, tSeq, tAsg, gName, tDrop]
    refine tIfS_of (kk = 3 ∧ (ts.length : Int) > 1) (fun tb te D A B => ⟨.int kk, rfl, rfl, _, rfl, ite2 (fun e2 => ⟨.int ts.length, rfl, _, _, rfl, rfl, _, rfl, ite2 (fun e3 => A ⟨di e2, dt e3⟩) (fun e3 => B fun c => df e3 c.2)⟩) (fun e2 => B fun c => dn e2 c.1)⟩) (fun c4 => ?_) (fun c4 => ?_)
    · refine ⟨.int t, rfl, .int t, rfl, _, _, rfl, rfl, .ref p, rfl, .int ts.length, rfl, _, _, rfl, rfl, p, _, rfl, by omega, by omega, lh, h2, fun d H3 d0 d1 h3 b3 => ⟨_, _, rfl, rfl, .inl ⟨_, rfl, .int ts.length, rfl, _, _, rfl, rfl, by show (0 : Int) < _; omega, by show 3 ≤ sizeLine; decide, fun e ne => ?_⟩⟩⟩
      have u0 := Int.emod_nonneg (t + 1 + d) (show (ts.length : Int) ≠ 0 by omega)
      have u1 := Int.emod_lt_of_pos (t + 1 + d) (show (0 : Int) < (ts.length : Int) by omega)
      have un : True := trivial
      refine fin [.str (Str.ofString "join"), .int (t), .int ((t + 1 + d) % (ts.length : Int))] H3 e (by simp) (by simp) (allS (sS "join" (by decide +kernel)) (allS (sI (by omega) (by omega)) (allS (sI (by omega) (by omega)) nil))) h3 (b12.trans b3) ne
    try dsimp only [tNext, tSeq, tAsg, gName, tDrop]
    refine tIfS_of (((mText ts t).length : Int) = 0 ∨ kk > 6) (fun tb te D A B => ⟨.str (mText ts t), rfl, _, rfl, len5 (Nat.le_trans ltx (by decide)), rfl, _, rfl, ite2 (fun e2 => A (.inl (di e2))) (fun e2 => ⟨.int kk, rfl, _, _, rfl, rfl, _, rfl, ite2 (fun e3 => A (.inr (dt e3))) (fun e3 => B fun c => c.elim (dn e2) (df e3))⟩)⟩) (fun c5 => ?_) (fun c5 => ?_)
    · refine ⟨.int t, rfl, .ref p, rfl, .str (mText ts t), rfl, _, rfl, len5 (Nat.le_trans ltx (by decide)), _, _, rfl, rfl, p, _, rfl, by omega, by omega, lh, h2, fun at_ H3 p0 p1 h3 b3 => ⟨.ref p, rfl, p, 6, rfl, by decide, by decide, lh, h3, fun y H4 sy ly ly1 h4 b4 => ⟨by show 4 ≤ sizeLine; decide, fun e ne => fin [.str (Str.ofString "put"), .int (t), .int (at_), .str (y)] H4 e (by simp) (by simp) (allS (sS "put" (by decide +kernel)) (allS (sI (by omega) (by omega)) (allS (sI (by omega) (by omega)) (allS (sZ sy (by omega)) nil)))) h4 ((b12.trans b3).trans b4) ne⟩⟩⟩
    try dsimp only [tNext, tSeq, tAsg, gName, tDrop]
    refine ⟨.ref p, rfl, .str (mText ts t), rfl, _, rfl, len5 (Nat.le_trans ltx (by decide)), p, _, rfl, by omega, by omega, lh, h2, fun at_ H3 p0 p1 h3 b3 => ?_⟩
    have b13 := b12.trans b3
    try dsimp only [tNext, tSeq, tAsg, gName, tDrop]
    refine ⟨.ref p, rfl, .str (mText ts t), rfl, _, rfl, len5 (Nat.le_trans ltx (by decide)), .int at_, rfl, _, _, rfl, rfl, _, _, rfl, p, _, rfl, ?_, ?_, lh, h3, fun d H4 d0 d1 h4 b4 => ⟨_, _, rfl, rfl, ?_⟩⟩
    · split <;> omega
    · split <;> omega
    have dd : 1 + d ≤ 9 ∧ at_ + (1 + d) ≤ (mText ts t).length := by
      split at d1 <;> omega
    have b14 := b13.trans b4
    have ha4 := b14 _ _ nap ha
    clear d1 h1 h2 h3 b1 b2 b3 b4 b12 b13 ha1 ha2 hH
    have l1 : 1 ≤ (1 + d) := by omega
    try dsimp only [tNext, tSeq, tAsg, gName, tDrop]
    refine ⟨.int kk, rfl, _, _, rfl, rfl, _, rfl, ite2 (fun c6 => ?_) (fun c6 => ?_)⟩
    · refine ⟨.int t, rfl, .int at_, rfl, .int (1 + d), rfl, by show 4 ≤ sizeLine; decide, fun e ne => fin [.str (Str.ofString "cut"), .int (t), .int (at_), .int (1 + d)] H4 e (by simp) (by simp) (allS (sS "cut" (by decide +kernel)) (allS (sI (by omega) (by omega)) (allS (sI (by omega) (by omega)) (allS (sI (by omega) (by omega)) nil)))) h4 b14 ne⟩
    try dsimp only [tNext, tSeq, tAsg, gName, tDrop]
    refine ⟨.int kk, rfl, rfl, _, rfl, ite2 (fun c7 => ?_) (fun c7 => ?_)⟩
    · refine ⟨.int t, rfl, .int at_, rfl, ⟨_, rfl⟩, _, rfl, (1 + d), rfl, by omega, by omega, fun D nD => lc_range (fun i H' => ∃ cs : List Nat, H' D = some (.lst (cs.map fun c => V.str (SX.S [c]))) ∧ cs.length = i ∧ (∀ c ∈ cs, sgC c = true) ∧ Hn p lh H4 H') ⟨[], upd_same, rfl, fun c hc => absurd hc (by simp), (Hn.refl h4).new nD⟩ ?_ ?_⟩
      · rintro i H' hi ⟨cs, hD, hl, hs, hn⟩
        refine ⟨rfl, .ref p, rfl, p, 0, rfl, by decide, by decide, lh, hn.at_, fun c H2 hc h2 b2 => ?_⟩
        have nDp := (h4.ne nD).1
        refine ⟨_, b2 _ _ nDp hD, ?_, cs ++ [c], ?_, ?_, ?_, (hn.go h2 b2).at h4 nD⟩
        · rw [List.length_map, hl, sizeLine_eq]
          omega
        · rw [upd_same, List.map_append]
          rfl
        · rw [List.length_append, hl]
          rfl
        · intro d hd
          rcases List.mem_append.mp hd with g | g
          · exact hs d g
          · rw [List.mem_singleton.mp g]
            exact hc
      · rintro H' ⟨cs, hD, hl, hs, hn⟩
        have e1 : (cs.map fun c => V.str (SX.S [c])) = (cs.map fun c => SX.S [c]).map V.str := by rw [List.map_map]; rfl
        have hln : (cs.length : Int) ≤ (1 + d) := by omega
        have hsum := sum_one cs
        have sj : sgB (SX.S cs) = true := by rw [sgB_S]; exact List.all_eq_true.mpr hs
        have lj : (SX.S cs).length = cs.length := rfl
        refine ⟨_, D, cs.map (fun c => SX.S [c]), rfl, rfl, .inl (sq_of (e1 ▸ hD)), ?_, ?_⟩
        · rw [List.length_map]
          have : (Str.ofString "").length = 0 := by decide +kernel
          rw [this]
          omega
        · rw [join1]
          refine ⟨by show 4 ≤ sizeLine; decide, fun e ne => fin [.str (Str.ofString "change"), .int (t), .int (at_), .str (SX.S cs)] H' e (by simp) (by simp) (allS (sS "change" (by decide +kernel)) (allS (sI (by omega) (by omega)) (allS (sI (by omega) (by omega)) (allS (sZ sj (by omega)) nil)))) hn.at_ (b14.trans hn.but) ne⟩
    try dsimp only [tNext, tSeq, tAsg, gName, tDrop]
    refine ⟨.ref p, rfl, .int ts.length, rfl, p, _, rfl, by omega, by omega, lh, h4, fun u H5 u0 u1 h5 b5 => ?_⟩
    have b15 := b14.trans b5
    have ha5 := b5 _ _ nap ha4
    have lux := tx_le len u0 u1
    try dsimp only [tNext, tSeq, tAsg, gName, tDrop]
    refine ⟨.ref a, rfl, .int u, rfl, a, _, u, .str (mText ts u), rfl, rfl, SqT.of ha5, tAt u0 u1, _, rfl, len5 (Nat.le_trans lux (by decide)), ?_⟩
    try dsimp only [tNext, tSeq, tAsg, gName, tDrop]
    have mv : ∀ (v : Int) H' e, 0 ≤ v → v < ((mText ts u).length : Int) - (1 + d) * (if u = t then 1 else 0) + 1 → HandL H' p lh → But p H H' → H' e = none → Q (.ref e) (upd H' e (.tup [.str (Str.ofString "move"), .int t, .int at_, .int (1 + d), .int u, .int v])) := fun v H' e v0 v1 h b ne => by
      have v2 : v < 9999 := by split at v1 <;> omega
      exact fin [.str (Str.ofString "move"), .int t, .int at_, .int (1 + d), .int u, .int v] H' e (by simp) (by simp) (allS (sS "move" (by decide +kernel)) (allS (sI (by omega) (by omega)) (allS (sI (by omega) (by omega)) (allS (sI (by omega) (by omega)) (allS (sI (by omega) (by omega)) (allS (sI (by omega) (by omega)) nil)))))) h b ne
    refine ⟨.int u, rfl, .int t, rfl, rfl, _, rfl, ite2 (fun c8 => ?_) (fun c8 => ?_)⟩
    · have eu := di c8
      rw [if_pos eu] at mv
      subst eu
      refine ⟨_, rfl, .int (1 + d), rfl, _, _, rfl, rfl, ?_⟩
      try dsimp only [tNext, tSeq, tAsg, gName, tDrop]
      exact ⟨.int u, rfl, .int at_, rfl, .int (1 + d), rfl, .int u, rfl, .ref p, rfl, _, rfl, _, _, rfl, rfl, p, _, rfl, by omega, by omega, lh, h5, fun v H6 v0 v1 h6 b6 => ⟨by show 6 ≤ sizeLine; decide, fun e ne => mv v H6 e v0 (by omega) h6 (b15.trans b6) ne⟩⟩
    · rw [if_neg (dn c8)] at mv
      try dsimp only [tNext, tSeq, tAsg, gName, tDrop]
      exact ⟨.int t, rfl, .int at_, rfl, .int (1 + d), rfl, .int u, rfl, .ref p, rfl, _, rfl, _, _, rfl, rfl, p, _, rfl, by omega, by omega, lh, h5, fun v H6 v0 v1 h6 b6 => ⟨by show 6 ≤ sizeLine; decide, fun e ne => mv v H6 e v0 (by omega) h6 (b15.trans b6) ne⟩⟩
end
end LawK
set_option maxHeartbeats 4000000
namespace LawK
open PySem PySem.Spec PyProof.Rows L2 Ev

/-- a thing that the law can judge -/
def TgS (H : Hp) (x : V) : Prop := ∃ o, Tg H x o ∧ Shr o
theorem tg_but {H H' : Hp} {p l : Addr} {x : V} {o : Option (List V)} (h : Tg H x o) (h0 : HandL H p l) (h1 : HandL H' p l) (b : But p H H') : Tg H' x o := by
  cases h with
  | no hk n s => exact .no (Kd.but hk h0 h1 b) n s
  | tup e n hy => exact .tup (b _ _ (hand_ne h0 e (fun x1 x2 x3 x4 x5 z => by cases z)) e) n fun y hm => ⟨(hy y hm).1.elim fun k hk => ⟨k, Kd.but hk h0 h1 b⟩, (hy y hm).2⟩
theorem TgS.but {H H' : Hp} {p l : Addr} {x : V} (h : TgS H x) (h0 : HandL H p l) (h1 : HandL H' p l) (b : But p H H') : TgS H' x := h.elim fun o q => ⟨o, tg_but q.1 h0 h1 b, q.2⟩
theorem TgS.same {H H' : Hp} {x : V} (h : TgS H x) (k : Same H H') : TgS H' x := h.elim fun o q => ⟨o, q.1.same k, q.2⟩
theorem ts_tup {H : Hp} {t : Addr} {xs : List V} (e : H t = some (.tup xs)) (n : xs.length ≤ 30) (h : ∀ v ∈ xs, Od H v) : TgS H (.ref t) := ⟨_, tgT e n h⟩
theorem ts_no {H : Hp} {x : V} {k : Kn} (h : Kd H x k) (n : k ≠ .tup) (s : StOk x) : TgS H x := ⟨none, .no h n (fun z e => Nat.le_trans (s z e).1 (by decide)), fun xs e => by cases e⟩
def spNoEdit : Sp := fun vs H Q _ => ∃ (p a : Addr) (ts : List Str), vs = [.ref p, .ref a] ∧ H a = some (.tup (ts.map V.str)) ∧ ts.length ≤ 8 ∧ (∀ t ∈ ts, t.length ≤ 200) ∧ ∃ l, HandL H p l ∧ ∀ x H', TgS H' x → HandL H' p l → But p H H' → Q x H'
theorem allP' {H : Hp} {p : Hp → V → Prop} {x : V} {xs : List V} (h : p H x) (k : ∀ v ∈ xs, p H v) : ∀ v ∈ x :: xs, p H v := fun v hv => (List.mem_cons.mp hv).elim (fun e => e ▸ h) (k v)
theorem allN' {H : Hp} {p : Hp → V → Prop} : ∀ v ∈ ([] : List V), p H v := fun v hv => absurd hv (by simp)
section
variable {P : Program} {w : World} {K : PySem.W.Frag} {mg : Str → Option Value} {base : Heap}
abbrev sNoEditL : Stmt := topS 33
theorem scNoEditL : FnScope ["hand", "texts", "many", "kind", "number", "long", "found"] ["hand", "texts"] (defScope sNoEditL) := ⟨rfl, rfl, rfl, by decide +kernel, rfl, by decide +kernel, by decide +kernel⟩
theorem ok_NoEditL {f : Addr} {fd : FuncData} (F : Fun K "_law_no_edit" "_law_no_edit" sNoEditL f fd)  {fDraw : Addr} {fdDraw : FuncData} (DDraw : Dk P w K mg base "_law_draw" sDraw ["hand", "many"] 1 spDraw fDraw fdDraw) {fDeep : Addr} {fdDeep : FuncData} (DDeep : Dk P w K mg base "_law_deep" sDeep ["hand"] 2 spLDeep fDeep fdDeep) (T : Glob mg) : FnOk P w K mg base CX0 3 f fd ["hand", "texts"] spNoEdit := by
  refine F.ok scNoEditL (fun vs H Q E h => ?_) (fun cdv A outer s H vs Q E hr h => ?_)
  · obtain ⟨p, a, ts, rfl, _⟩ := h
    rfl
  · refine ⟨_, (pss_cons (ps_set (i := 2) scNoEditL.nd rfl (.inl rfl) (pe_callB call_len_seq (by rfl) T.len PySem.boot_len (pa_cons (pv 1) pa_nil)))
      (pss_cons (ps_set (i := 3) scNoEditL.nd rfl (.inl rfl) (pe_call DDraw.ok (hr.mono (by decide)) (by rfl) DDraw.g DDraw.F.kp DDraw.b .nil pass0 (pa_cons (pv 0) (pa_cons pe_int pa_nil))))
      (pss_cons (ps_if (pt_cmpR op_eq (pv 3) pe_int (nomark _))
      (pss_one (ps_ret (pe_ix ix_list (pe_lst (pa_cons pe_non (pa_cons pe_str (pa_cons (pe_tup pa_nil) (pa_cons (pe_lst (pa_cons pe_str pa_nil)) (pa_cons (pe_tup (pa_cons pe_str pa_nil)) (pa_cons (pe_tup (pa_cons pe_str (pa_cons pe_int pa_nil))) (pa_cons (pe_tup (pa_cons pe_str pa_nil)) (pa_cons (pe_tup (pa_cons pe_non (pa_cons pe_int pa_nil))) (pa_cons pe_int (pa_cons pe_dnewK pa_nil))))))))))) (pe_call DDraw.ok (hr.mono (by decide)) (by rfl) DDraw.g DDraw.F.kp DDraw.b .nil pass0 (pa_cons (pv 0) (pa_cons pe_int pa_nil))) (fun _ _ => rfl))))
      pss_nil)
      (pss_cons (ps_if (pt_cmpR op_eq (pv 3) pe_int (nomark _))
      (pss_one (ps_ret (pe_call DDeep.ok (hr.mono (by decide)) (by rfl) DDeep.g DDeep.F.kp DDeep.b .nil pass0 (pa_cons (pv 0) pa_nil))))
      pss_nil)
      (pss_cons (ps_if (pt_cmpR op_eq (pv 3) pe_int (nomark _))
      (pss_one (ps_ret (pe_ix ix_list (pe_lst (pa_cons (pe_tup (pa_cons pe_str (pa_cons pe_non pa_nil))) (pa_cons (pe_tup (pa_cons pe_str (pa_cons pe_str pa_nil))) (pa_cons (pe_tup (pa_cons pe_str (pa_cons (pv 2) (pa_cons pe_int (pa_cons pe_str pa_nil))))) (pa_cons (pe_tup (pa_cons pe_str (pa_cons (pv 2) (pa_cons pe_int (pa_cons pe_int pa_nil))))) (pa_cons (pe_tup (pa_cons pe_str (pa_cons (pv 2) (pa_cons pe_int pa_nil)))) (pa_cons (pe_tup (pa_cons pe_str (pa_cons (pv 2) (pa_cons pe_int pa_nil)))) (pa_cons (pe_tup (pa_cons pe_str (pa_cons (pv 2) (pa_cons pe_int (pa_cons pe_str pa_nil))))) (pa_cons (pe_tup (pa_cons pe_str (pa_cons (pv 2) (pa_cons pe_int (pa_cons pe_int (pa_cons pe_int (pa_cons pe_int pa_nil))))))) pa_nil))))))))) (pe_call DDraw.ok (hr.mono (by decide)) (by rfl) DDraw.g DDraw.F.kp DDraw.b .nil pass0 (pa_cons (pv 0) (pa_cons pe_int pa_nil))) (fun _ _ => rfl))))
      pss_nil)
      (pss_cons (ps_if (pt_cmpR op_eq (pv 2) pe_int (nomark _))
      (pss_one (ps_ret (pe_tup (pa_cons pe_str pa_nil))))
      pss_nil)
      (pss_cons (ps_set (i := 4) scNoEditL.nd rfl (.inl rfl) (pe_call DDraw.ok (hr.mono (by decide)) (by rfl) DDraw.g DDraw.F.kp DDraw.b .nil pass0 (pa_cons (pv 0) (pa_cons (pv 2) pa_nil))))
      (pss_cons (ps_set (i := 5) scNoEditL.nd rfl (.inl rfl) (pe_callB call_lenZ (by rfl) T.len PySem.boot_len (pa_cons (pe_ix ix_tup (pv 1) (pv 4) (fun _ _ => rfl)) pa_nil)))
      (pss_cons (ps_if (pt_cmpR op_eq (pv 3) pe_int (nomark _))
      (pss_cons (ps_set (i := 6) scNoEditL.nd rfl (.inl rfl) (pe_lst (pa_cons (pe_tup (pa_cons pe_str (pa_cons (pv 4) (pa_cons (pe_op op_add (pv 5) pe_int) (pa_cons pe_str pa_nil))))) (pa_cons (pe_tup (pa_cons pe_str (pa_cons (pv 4) (pa_cons pe_int (pa_cons pe_str pa_nil))))) (pa_cons (pe_tup (pa_cons pe_str (pa_cons pe_bl (pa_cons pe_int (pa_cons pe_str pa_nil))))) pa_nil)))))
        (pss_cons (ps_set (i := 6) scNoEditL.nd rfl (.inl rfl) (pe_op op_cat (pv 6) (pe_lst (pa_cons (pe_tup (pa_cons pe_str (pa_cons (pv 4) (pa_cons (pe_un un_neg pe_int) (pa_cons pe_str pa_nil))))) pa_nil))))
        (pss_cons (ps_set (i := 6) scNoEditL.nd rfl (.inl rfl) (pe_op op_cat (pv 6) (pe_lst (pa_cons (pe_tup (pa_cons pe_str (pa_cons (pv 4) (pa_cons pe_int (pa_cons (pe_op op_add (pv 5) pe_int) pa_nil))))) (pa_cons (pe_tup (pa_cons pe_str (pa_cons (pv 4) (pa_cons pe_int (pa_cons pe_int pa_nil))))) (pa_cons (pe_tup (pa_cons pe_str (pa_cons (pv 4) (pa_cons (pv 5) (pa_cons pe_int pa_nil))))) pa_nil))))))
        (pss_one (ps_ret (pe_ix ix_list (pe_op op_cat (pv 6) (pe_lst (pa_cons (pe_tup (pa_cons pe_str (pa_cons (pv 4) (pa_cons pe_int (pa_cons pe_bl pa_nil))))) pa_nil))) (pe_call DDraw.ok (hr.mono (by decide)) (by rfl) DDraw.g DDraw.F.kp DDraw.b .nil pass0 (pa_cons (pv 0) (pa_cons pe_int pa_nil))) (fun _ _ => rfl)))))))
      pss_nil)
      (pss_cons (ps_set (i := 6) scNoEditL.nd rfl (.inl rfl) (pe_lst (pa_cons (pe_tup (pa_cons pe_str (pa_cons (pv 4) (pa_cons (pv 4) pa_nil)))) (pa_cons (pe_tup (pa_cons pe_str (pa_cons (pv 4) (pa_cons (pe_op op_add (pv 5) pe_int) pa_nil)))) (pa_cons (pe_tup (pa_cons pe_str (pa_cons (pv 4) (pa_cons (pv 5) (pa_cons pe_str pa_nil))))) pa_nil)))))
      (pss_cons (ps_set (i := 6) scNoEditL.nd rfl (.inl rfl) (pe_op op_cat (pv 6) (pe_lst (pa_cons (pe_tup (pa_cons pe_str (pa_cons (pv 4) (pa_cons pe_int (pa_cons pe_str pa_nil))))) (pa_cons (pe_tup (pa_cons pe_str (pa_cons (pv 4) (pa_cons pe_int (pa_cons (pe_op op_add (pv 5) pe_int) (pa_cons (pv 4) (pa_cons pe_int pa_nil))))))) (pa_cons (pe_tup (pa_cons pe_str (pa_cons (pv 4) (pa_cons pe_non pa_nil)))) pa_nil))))))
      (pss_one (ps_ret (pe_ix ix_list (pe_op op_cat (pv 6) (pe_lst (pa_cons (pe_tup (pa_cons pe_str (pa_cons (pv 4) (pa_cons (pv 5) (pa_cons pe_int (pa_cons (pv 4) (pa_cons pe_int pa_nil))))))) (pa_cons (pe_tup (pa_cons pe_str (pa_cons (pv 4) (pa_cons pe_int (pa_cons (pe_op op_mulS pe_str pe_int) pa_nil))))) pa_nil)))) (pe_call DDraw.ok (hr.mono (by decide)) (by rfl) DDraw.g DDraw.F.kp DDraw.b .nil pass0 (pa_cons (pv 0) (pa_cons pe_int pa_nil))) (fun _ _ => rfl))))))))))))))), ?_⟩
    obtain ⟨p, a, ts, rfl, ha, few, len, l, hH, q⟩ := h
    have nap : a ≠ p := hand_ne hH ha (fun x1 x2 x3 x4 x5 z => by cases z)
    have n0 := Hn.refl hH
    refine ⟨.ref a, rfl, a, _, rfl, .inr (SqT.of ha), ?_⟩
    rw [List.length_map]
    try dsimp only [tNext, tSeq, tAsg, gName]
    refine ⟨.ref p, rfl, p, 5, rfl, by decide, by decide, l, hH, fun kk H1 k0 k5 h1 b1 => ?_⟩
    have n1 := n0.go h1 b1
    have ha1 := b1 _ _ nap ha
    try dsimp only [tNext, tSeq, tAsg, gName]
    refine ⟨.int kk, rfl, rfl, _, rfl, ite2 (fun e => ?_) (fun e => ?_)⟩
    · try dsimp only [tNext, tSeq, tAsg, gName]
      refine ⟨by show 0 ≤ sizeLine; decide, fun a1 na1 => ?_⟩
      have ea1 : upd H1 a1 (.tup []) a1 = some (.tup []) := upd_same
      have ma1 := n1.same (Same.new (o := .tup []) na1)
      have nPa1 := (n1.at_.ne na1).1
      clear na1
      revert ma1 ea1
      generalize upd H1 a1 _ = Ja1
      intro ea1 ma1
      refine ⟨by show 1 ≤ sizeLine; decide, fun a2 na2 => ?_⟩
      have ea2 : upd Ja1 a2 (.lst [.str (Str.ofString "go")]) a2 = some (.lst [.str (Str.ofString "go")]) := upd_same
      have ea1 := (Same.new (o := .lst [.str (Str.ofString "go")]) na2) _ _ ea1
      have ma2 := ma1.same (Same.new (o := .lst [.str (Str.ofString "go")]) na2)
      have nPa2 := (ma1.at_.ne na2).1
      clear na2
      revert ma2 ea2 ea1
      generalize upd Ja1 a2 _ = Ja2
      intro ea2 ea1 ma2
      refine ⟨by show 1 ≤ sizeLine; decide, fun a3 na3 => ?_⟩
      have ea3 : upd Ja2 a3 (.tup [.str (Str.ofString "went")]) a3 = some (.tup [.str (Str.ofString "went")]) := upd_same
      have ea1 := (Same.new (o := .tup [.str (Str.ofString "went")]) na3) _ _ ea1
      have ea2 := (Same.new (o := .tup [.str (Str.ofString "went")]) na3) _ _ ea2
      have ma3 := ma2.same (Same.new (o := .tup [.str (Str.ofString "went")]) na3)
      have nPa3 := (ma2.at_.ne na3).1
      clear na3
      revert ma3 ea3 ea1 ea2
      generalize upd Ja2 a3 _ = Ja3
      intro ea3 ea1 ea2 ma3
      refine ⟨by show 2 ≤ sizeLine; decide, fun a4 na4 => ?_⟩
      have ea4 : upd Ja3 a4 (.tup [.str (Str.ofString "go"), .int (0)]) a4 = some (.tup [.str (Str.ofString "go"), .int (0)]) := upd_same
      have ea1 := (Same.new (o := .tup [.str (Str.ofString "go"), .int (0)]) na4) _ _ ea1
      have ea2 := (Same.new (o := .tup [.str (Str.ofString "go"), .int (0)]) na4) _ _ ea2
      have ea3 := (Same.new (o := .tup [.str (Str.ofString "go"), .int (0)]) na4) _ _ ea3
      have ma4 := ma3.same (Same.new (o := .tup [.str (Str.ofString "go"), .int (0)]) na4)
      have nPa4 := (ma3.at_.ne na4).1
      clear na4
      revert ma4 ea4 ea1 ea2 ea3
      generalize upd Ja3 a4 _ = Ja4
      intro ea4 ea1 ea2 ea3 ma4
      refine ⟨by show 1 ≤ sizeLine; decide, fun a5 na5 => ?_⟩
      have ea5 : upd Ja4 a5 (.tup [.str (Str.ofString "come")]) a5 = some (.tup [.str (Str.ofString "come")]) := upd_same
      have ea1 := (Same.new (o := .tup [.str (Str.ofString "come")]) na5) _ _ ea1
      have ea2 := (Same.new (o := .tup [.str (Str.ofString "come")]) na5) _ _ ea2
      have ea3 := (Same.new (o := .tup [.str (Str.ofString "come")]) na5) _ _ ea3
      have ea4 := (Same.new (o := .tup [.str (Str.ofString "come")]) na5) _ _ ea4
      have ma5 := ma4.same (Same.new (o := .tup [.str (Str.ofString "come")]) na5)
      have nPa5 := (ma4.at_.ne na5).1
      clear na5
      revert ma5 ea5 ea1 ea2 ea3 ea4
      generalize upd Ja4 a5 _ = Ja5
      intro ea5 ea1 ea2 ea3 ea4 ma5
      refine ⟨by show 2 ≤ sizeLine; decide, fun a6 na6 => ?_⟩
      have ea6 : upd Ja5 a6 (.tup [.non, .int (0)]) a6 = some (.tup [.non, .int (0)]) := upd_same
      have ea1 := (Same.new (o := .tup [.non, .int (0)]) na6) _ _ ea1
      have ea2 := (Same.new (o := .tup [.non, .int (0)]) na6) _ _ ea2
      have ea3 := (Same.new (o := .tup [.non, .int (0)]) na6) _ _ ea3
      have ea4 := (Same.new (o := .tup [.non, .int (0)]) na6) _ _ ea4
      have ea5 := (Same.new (o := .tup [.non, .int (0)]) na6) _ _ ea5
      have ma6 := ma5.same (Same.new (o := .tup [.non, .int (0)]) na6)
      have nPa6 := (ma5.at_.ne na6).1
      clear na6
      revert ma6 ea6 ea1 ea2 ea3 ea4 ea5
      generalize upd Ja5 a6 _ = Ja6
      intro ea6 ea1 ea2 ea3 ea4 ea5 ma6
      refine fun a7 na7 => ?_
      have ea7 : upd Ja6 a7 (.dK []) a7 = some (.dK []) := upd_same
      have ea1 := (Same.new (o := .dK []) na7) _ _ ea1
      have ea2 := (Same.new (o := .dK []) na7) _ _ ea2
      have ea3 := (Same.new (o := .dK []) na7) _ _ ea3
      have ea4 := (Same.new (o := .dK []) na7) _ _ ea4
      have ea5 := (Same.new (o := .dK []) na7) _ _ ea5
      have ea6 := (Same.new (o := .dK []) na7) _ _ ea6
      have ma7 := ma6.same (Same.new (o := .dK []) na7)
      have nPa7 := (ma6.at_.ne na7).1
      clear na7
      revert ma7 ea7 ea1 ea2 ea3 ea4 ea5 ea6
      generalize upd Ja6 a7 _ = Ja7
      intro ea7 ea1 ea2 ea3 ea4 ea5 ea6 ma7
      refine ⟨by show 10 ≤ sizeLine; decide, fun M0 nM0 => ?_⟩
      have eM0 : upd Ja7 M0 (.lst [.non, .str (Str.ofString "go"), .ref a1, .ref a2, .ref a3, .ref a4, .ref a5, .ref a6, .int 7, .ref a7]) M0 = some (.lst [.non, .str (Str.ofString "go"), .ref a1, .ref a2, .ref a3, .ref a4, .ref a5, .ref a6, .int 7, .ref a7]) := upd_same
      have ea1 := (Same.new (o := .lst [.non, .str (Str.ofString "go"), .ref a1, .ref a2, .ref a3, .ref a4, .ref a5, .ref a6, .int 7, .ref a7]) nM0) _ _ ea1
      have ea2 := (Same.new (o := .lst [.non, .str (Str.ofString "go"), .ref a1, .ref a2, .ref a3, .ref a4, .ref a5, .ref a6, .int 7, .ref a7]) nM0) _ _ ea2
      have ea3 := (Same.new (o := .lst [.non, .str (Str.ofString "go"), .ref a1, .ref a2, .ref a3, .ref a4, .ref a5, .ref a6, .int 7, .ref a7]) nM0) _ _ ea3
      have ea4 := (Same.new (o := .lst [.non, .str (Str.ofString "go"), .ref a1, .ref a2, .ref a3, .ref a4, .ref a5, .ref a6, .int 7, .ref a7]) nM0) _ _ ea4
      have ea5 := (Same.new (o := .lst [.non, .str (Str.ofString "go"), .ref a1, .ref a2, .ref a3, .ref a4, .ref a5, .ref a6, .int 7, .ref a7]) nM0) _ _ ea5
      have ea6 := (Same.new (o := .lst [.non, .str (Str.ofString "go"), .ref a1, .ref a2, .ref a3, .ref a4, .ref a5, .ref a6, .int 7, .ref a7]) nM0) _ _ ea6
      have ea7 := (Same.new (o := .lst [.non, .str (Str.ofString "go"), .ref a1, .ref a2, .ref a3, .ref a4, .ref a5, .ref a6, .int 7, .ref a7]) nM0) _ _ ea7
      have mM0 := ma7.same (Same.new (o := .lst [.non, .str (Str.ofString "go"), .ref a1, .ref a2, .ref a3, .ref a4, .ref a5, .ref a6, .int 7, .ref a7]) nM0)
      have nPM0 := (ma7.at_.ne nM0).1
      clear nM0
      revert mM0 eM0 ea1 ea2 ea3 ea4 ea5 ea6 ea7
      generalize upd Ja7 M0 _ = JM0
      intro eM0 ea1 ea2 ea3 ea4 ea5 ea6 ea7 mM0
      have all : ∀ y ∈ [(.non : V), (.str (Str.ofString "go") : V), (.ref a1 : V), (.ref a2 : V), (.ref a3 : V), (.ref a4 : V), (.ref a5 : V), (.ref a6 : V), (.int 7 : V), (.ref a7 : V)], TgS JM0 y := allP' (p := TgS) (ts_no .non (by decide) (fun z e => by cases e)) (allP' (p := TgS) (ts_no (.str _) (by decide) (fun z e => by cases e; exact ⟨by decide +kernel, by decide +kernel⟩)) (allP' (p := TgS) (ts_tup ea1 (by simp) (allN' (p := Od))) (allP' (p := TgS) (ts_no (.lst ea2) (by decide) (fun z e => by cases e)) (allP' (p := TgS) (ts_tup ea3 (by simp) (allP' (p := Od) (od_str (by decide +kernel) (by decide +kernel)) (allN' (p := Od)))) (allP' (p := TgS) (ts_tup ea4 (by simp) (allP' (p := Od) (od_str (by decide +kernel) (by decide +kernel)) (allP' (p := Od) (od_int _) (allN' (p := Od))))) (allP' (p := TgS) (ts_tup ea5 (by simp) (allP' (p := Od) (od_str (by decide +kernel) (by decide +kernel)) (allN' (p := Od)))) (allP' (p := TgS) (ts_tup ea6 (by simp) (allP' (p := Od) od_non (allP' (p := Od) (od_int _) (allN' (p := Od))))) (allP' (p := TgS) (ts_no (.int _) (by decide) (fun z e => by cases e)) (allP' (p := TgS) (ts_no (.dic ea7) (by decide) (fun z e => by cases e)) (allN' (p := TgS)))))))))))
      refine ⟨.ref p, rfl, p, 10, rfl, by decide, by decide, l, mM0.at_, fun v HF v0 v1 hF bF => ?_⟩
      obtain ⟨y, ey, my⟩ := atI_in (xs := [(.non : V), (.str (Str.ofString "go") : V), (.ref a1 : V), (.ref a2 : V), (.ref a3 : V), (.ref a4 : V), (.ref a5 : V), (.ref a6 : V), (.int 7 : V), (.ref a7 : V)]) v0 v1
      exact ⟨M0, _, v, y, rfl, rfl, sq_of (bF _ _ nPM0 eM0), ey, q y HF ((all y my).but mM0.at_ hF bF) hF (mM0.but.trans bF)⟩
    refine ⟨.int kk, rfl, rfl, _, rfl, ite2 (fun e => ?_) (fun e => ?_)⟩
    · exact ⟨.ref p, rfl, p, rfl, l, n1.at_, fun d o H2 td so h2 b2 => q _ H2 ⟨o, td, so⟩ h2 (n1.but.trans b2)⟩
    refine ⟨.int kk, rfl, rfl, _, rfl, ite2 (fun e => ?_) (fun e => ?_)⟩
    · try dsimp only [tNext, tSeq, tAsg, gName]
      refine ⟨by show 2 ≤ sizeLine; decide, fun a1 na1 => ?_⟩
      have ea1 : upd H1 a1 (.tup [.str (Str.ofString "come"), .non]) a1 = some (.tup [.str (Str.ofString "come"), .non]) := upd_same
      have ma1 := n1.same (Same.new (o := .tup [.str (Str.ofString "come"), .non]) na1)
      have nPa1 := (n1.at_.ne na1).1
      clear na1
      revert ma1 ea1
      generalize upd H1 a1 _ = Ja1
      intro ea1 ma1
      refine ⟨by show 2 ≤ sizeLine; decide, fun a2 na2 => ?_⟩
      have ea2 : upd Ja1 a2 (.tup [.str (Str.ofString "come"), .str (Str.ofString "\n")]) a2 = some (.tup [.str (Str.ofString "come"), .str (Str.ofString "\n")]) := upd_same
      have ea1 := (Same.new (o := .tup [.str (Str.ofString "come"), .str (Str.ofString "\n")]) na2) _ _ ea1
      have ma2 := ma1.same (Same.new (o := .tup [.str (Str.ofString "come"), .str (Str.ofString "\n")]) na2)
      have nPa2 := (ma1.at_.ne na2).1
      clear na2
      revert ma2 ea2 ea1
      generalize upd Ja1 a2 _ = Ja2
      intro ea2 ea1 ma2
      refine ⟨.int (((ts.length : Nat) : Int)), rfl, by show 4 ≤ sizeLine; decide, fun a3 na3 => ?_⟩
      have ea3 : upd Ja2 a3 (.tup [.str (Str.ofString "put"), .int (((ts.length : Nat) : Int)), .int (0), .str (Str.ofString "a")]) a3 = some (.tup [.str (Str.ofString "put"), .int (((ts.length : Nat) : Int)), .int (0), .str (Str.ofString "a")]) := upd_same
      have ea1 := (Same.new (o := .tup [.str (Str.ofString "put"), .int (((ts.length : Nat) : Int)), .int (0), .str (Str.ofString "a")]) na3) _ _ ea1
      have ea2 := (Same.new (o := .tup [.str (Str.ofString "put"), .int (((ts.length : Nat) : Int)), .int (0), .str (Str.ofString "a")]) na3) _ _ ea2
      have ma3 := ma2.same (Same.new (o := .tup [.str (Str.ofString "put"), .int (((ts.length : Nat) : Int)), .int (0), .str (Str.ofString "a")]) na3)
      have nPa3 := (ma2.at_.ne na3).1
      clear na3
      revert ma3 ea3 ea1 ea2
      generalize upd Ja2 a3 _ = Ja3
      intro ea3 ea1 ea2 ma3
      refine ⟨.int (((ts.length : Nat) : Int)), rfl, by show 4 ≤ sizeLine; decide, fun a4 na4 => ?_⟩
      have ea4 : upd Ja3 a4 (.tup [.str (Str.ofString "cut"), .int (((ts.length : Nat) : Int)), .int (0), .int (1)]) a4 = some (.tup [.str (Str.ofString "cut"), .int (((ts.length : Nat) : Int)), .int (0), .int (1)]) := upd_same
      have ea1 := (Same.new (o := .tup [.str (Str.ofString "cut"), .int (((ts.length : Nat) : Int)), .int (0), .int (1)]) na4) _ _ ea1
      have ea2 := (Same.new (o := .tup [.str (Str.ofString "cut"), .int (((ts.length : Nat) : Int)), .int (0), .int (1)]) na4) _ _ ea2
      have ea3 := (Same.new (o := .tup [.str (Str.ofString "cut"), .int (((ts.length : Nat) : Int)), .int (0), .int (1)]) na4) _ _ ea3
      have ma4 := ma3.same (Same.new (o := .tup [.str (Str.ofString "cut"), .int (((ts.length : Nat) : Int)), .int (0), .int (1)]) na4)
      have nPa4 := (ma3.at_.ne na4).1
      clear na4
      revert ma4 ea4 ea1 ea2 ea3
      generalize upd Ja3 a4 _ = Ja4
      intro ea4 ea1 ea2 ea3 ma4
      refine ⟨.int (((ts.length : Nat) : Int)), rfl, by show 3 ≤ sizeLine; decide, fun a5 na5 => ?_⟩
      have ea5 : upd Ja4 a5 (.tup [.str (Str.ofString "split"), .int (((ts.length : Nat) : Int)), .int (0)]) a5 = some (.tup [.str (Str.ofString "split"), .int (((ts.length : Nat) : Int)), .int (0)]) := upd_same
      have ea1 := (Same.new (o := .tup [.str (Str.ofString "split"), .int (((ts.length : Nat) : Int)), .int (0)]) na5) _ _ ea1
      have ea2 := (Same.new (o := .tup [.str (Str.ofString "split"), .int (((ts.length : Nat) : Int)), .int (0)]) na5) _ _ ea2
      have ea3 := (Same.new (o := .tup [.str (Str.ofString "split"), .int (((ts.length : Nat) : Int)), .int (0)]) na5) _ _ ea3
      have ea4 := (Same.new (o := .tup [.str (Str.ofString "split"), .int (((ts.length : Nat) : Int)), .int (0)]) na5) _ _ ea4
      have ma5 := ma4.same (Same.new (o := .tup [.str (Str.ofString "split"), .int (((ts.length : Nat) : Int)), .int (0)]) na5)
      have nPa5 := (ma4.at_.ne na5).1
      clear na5
      revert ma5 ea5 ea1 ea2 ea3 ea4
      generalize upd Ja4 a5 _ = Ja5
      intro ea5 ea1 ea2 ea3 ea4 ma5
      refine ⟨.int (((ts.length : Nat) : Int)), rfl, by show 3 ≤ sizeLine; decide, fun a6 na6 => ?_⟩
      have ea6 : upd Ja5 a6 (.tup [.str (Str.ofString "join"), .int (((ts.length : Nat) : Int)), .int (0)]) a6 = some (.tup [.str (Str.ofString "join"), .int (((ts.length : Nat) : Int)), .int (0)]) := upd_same
      have ea1 := (Same.new (o := .tup [.str (Str.ofString "join"), .int (((ts.length : Nat) : Int)), .int (0)]) na6) _ _ ea1
      have ea2 := (Same.new (o := .tup [.str (Str.ofString "join"), .int (((ts.length : Nat) : Int)), .int (0)]) na6) _ _ ea2
      have ea3 := (Same.new (o := .tup [.str (Str.ofString "join"), .int (((ts.length : Nat) : Int)), .int (0)]) na6) _ _ ea3
      have ea4 := (Same.new (o := .tup [.str (Str.ofString "join"), .int (((ts.length : Nat) : Int)), .int (0)]) na6) _ _ ea4
      have ea5 := (Same.new (o := .tup [.str (Str.ofString "join"), .int (((ts.length : Nat) : Int)), .int (0)]) na6) _ _ ea5
      have ma6 := ma5.same (Same.new (o := .tup [.str (Str.ofString "join"), .int (((ts.length : Nat) : Int)), .int (0)]) na6)
      have nPa6 := (ma5.at_.ne na6).1
      clear na6
      revert ma6 ea6 ea1 ea2 ea3 ea4 ea5
      generalize upd Ja5 a6 _ = Ja6
      intro ea6 ea1 ea2 ea3 ea4 ea5 ma6
      refine ⟨.int (((ts.length : Nat) : Int)), rfl, by show 4 ≤ sizeLine; decide, fun a7 na7 => ?_⟩
      have ea7 : upd Ja6 a7 (.tup [.str (Str.ofString "change"), .int (((ts.length : Nat) : Int)), .int (0), .str (Str.ofString "a")]) a7 = some (.tup [.str (Str.ofString "change"), .int (((ts.length : Nat) : Int)), .int (0), .str (Str.ofString "a")]) := upd_same
      have ea1 := (Same.new (o := .tup [.str (Str.ofString "change"), .int (((ts.length : Nat) : Int)), .int (0), .str (Str.ofString "a")]) na7) _ _ ea1
      have ea2 := (Same.new (o := .tup [.str (Str.ofString "change"), .int (((ts.length : Nat) : Int)), .int (0), .str (Str.ofString "a")]) na7) _ _ ea2
      have ea3 := (Same.new (o := .tup [.str (Str.ofString "change"), .int (((ts.length : Nat) : Int)), .int (0), .str (Str.ofString "a")]) na7) _ _ ea3
      have ea4 := (Same.new (o := .tup [.str (Str.ofString "change"), .int (((ts.length : Nat) : Int)), .int (0), .str (Str.ofString "a")]) na7) _ _ ea4
      have ea5 := (Same.new (o := .tup [.str (Str.ofString "change"), .int (((ts.length : Nat) : Int)), .int (0), .str (Str.ofString "a")]) na7) _ _ ea5
      have ea6 := (Same.new (o := .tup [.str (Str.ofString "change"), .int (((ts.length : Nat) : Int)), .int (0), .str (Str.ofString "a")]) na7) _ _ ea6
      have ma7 := ma6.same (Same.new (o := .tup [.str (Str.ofString "change"), .int (((ts.length : Nat) : Int)), .int (0), .str (Str.ofString "a")]) na7)
      have nPa7 := (ma6.at_.ne na7).1
      clear na7
      revert ma7 ea7 ea1 ea2 ea3 ea4 ea5 ea6
      generalize upd Ja6 a7 _ = Ja7
      intro ea7 ea1 ea2 ea3 ea4 ea5 ea6 ma7
      refine ⟨.int (((ts.length : Nat) : Int)), rfl, by show 6 ≤ sizeLine; decide, fun a8 na8 => ?_⟩
      have ea8 : upd Ja7 a8 (.tup [.str (Str.ofString "move"), .int (((ts.length : Nat) : Int)), .int (0), .int (1), .int (0), .int (0)]) a8 = some (.tup [.str (Str.ofString "move"), .int (((ts.length : Nat) : Int)), .int (0), .int (1), .int (0), .int (0)]) := upd_same
      have ea1 := (Same.new (o := .tup [.str (Str.ofString "move"), .int (((ts.length : Nat) : Int)), .int (0), .int (1), .int (0), .int (0)]) na8) _ _ ea1
      have ea2 := (Same.new (o := .tup [.str (Str.ofString "move"), .int (((ts.length : Nat) : Int)), .int (0), .int (1), .int (0), .int (0)]) na8) _ _ ea2
      have ea3 := (Same.new (o := .tup [.str (Str.ofString "move"), .int (((ts.length : Nat) : Int)), .int (0), .int (1), .int (0), .int (0)]) na8) _ _ ea3
      have ea4 := (Same.new (o := .tup [.str (Str.ofString "move"), .int (((ts.length : Nat) : Int)), .int (0), .int (1), .int (0), .int (0)]) na8) _ _ ea4
      have ea5 := (Same.new (o := .tup [.str (Str.ofString "move"), .int (((ts.length : Nat) : Int)), .int (0), .int (1), .int (0), .int (0)]) na8) _ _ ea5
      have ea6 := (Same.new (o := .tup [.str (Str.ofString "move"), .int (((ts.length : Nat) : Int)), .int (0), .int (1), .int (0), .int (0)]) na8) _ _ ea6
      have ea7 := (Same.new (o := .tup [.str (Str.ofString "move"), .int (((ts.length : Nat) : Int)), .int (0), .int (1), .int (0), .int (0)]) na8) _ _ ea7
      have ma8 := ma7.same (Same.new (o := .tup [.str (Str.ofString "move"), .int (((ts.length : Nat) : Int)), .int (0), .int (1), .int (0), .int (0)]) na8)
      have nPa8 := (ma7.at_.ne na8).1
      clear na8
      revert ma8 ea8 ea1 ea2 ea3 ea4 ea5 ea6 ea7
      generalize upd Ja7 a8 _ = Ja8
      intro ea8 ea1 ea2 ea3 ea4 ea5 ea6 ea7 ma8
      refine ⟨by show 8 ≤ sizeLine; decide, fun M0 nM0 => ?_⟩
      have eM0 : upd Ja8 M0 (.lst [.ref a1, .ref a2, .ref a3, .ref a4, .ref a5, .ref a6, .ref a7, .ref a8]) M0 = some (.lst [.ref a1, .ref a2, .ref a3, .ref a4, .ref a5, .ref a6, .ref a7, .ref a8]) := upd_same
      have ea1 := (Same.new (o := .lst [.ref a1, .ref a2, .ref a3, .ref a4, .ref a5, .ref a6, .ref a7, .ref a8]) nM0) _ _ ea1
      have ea2 := (Same.new (o := .lst [.ref a1, .ref a2, .ref a3, .ref a4, .ref a5, .ref a6, .ref a7, .ref a8]) nM0) _ _ ea2
      have ea3 := (Same.new (o := .lst [.ref a1, .ref a2, .ref a3, .ref a4, .ref a5, .ref a6, .ref a7, .ref a8]) nM0) _ _ ea3
      have ea4 := (Same.new (o := .lst [.ref a1, .ref a2, .ref a3, .ref a4, .ref a5, .ref a6, .ref a7, .ref a8]) nM0) _ _ ea4
      have ea5 := (Same.new (o := .lst [.ref a1, .ref a2, .ref a3, .ref a4, .ref a5, .ref a6, .ref a7, .ref a8]) nM0) _ _ ea5
      have ea6 := (Same.new (o := .lst [.ref a1, .ref a2, .ref a3, .ref a4, .ref a5, .ref a6, .ref a7, .ref a8]) nM0) _ _ ea6
      have ea7 := (Same.new (o := .lst [.ref a1, .ref a2, .ref a3, .ref a4, .ref a5, .ref a6, .ref a7, .ref a8]) nM0) _ _ ea7
      have ea8 := (Same.new (o := .lst [.ref a1, .ref a2, .ref a3, .ref a4, .ref a5, .ref a6, .ref a7, .ref a8]) nM0) _ _ ea8
      have mM0 := ma8.same (Same.new (o := .lst [.ref a1, .ref a2, .ref a3, .ref a4, .ref a5, .ref a6, .ref a7, .ref a8]) nM0)
      have nPM0 := (ma8.at_.ne nM0).1
      clear nM0
      revert mM0 eM0 ea1 ea2 ea3 ea4 ea5 ea6 ea7 ea8
      generalize upd Ja8 M0 _ = JM0
      intro eM0 ea1 ea2 ea3 ea4 ea5 ea6 ea7 ea8 mM0
      have all : ∀ y ∈ [(.ref a1 : V), (.ref a2 : V), (.ref a3 : V), (.ref a4 : V), (.ref a5 : V), (.ref a6 : V), (.ref a7 : V), (.ref a8 : V)], TgS JM0 y := allP' (p := TgS) (ts_tup ea1 (by simp) (allP' (p := Od) (od_str (by decide +kernel) (by decide +kernel)) (allP' (p := Od) od_non (allN' (p := Od))))) (allP' (p := TgS) (ts_tup ea2 (by simp) (allP' (p := Od) (od_str (by decide +kernel) (by decide +kernel)) (allP' (p := Od) (od_str (by decide +kernel) (by decide +kernel)) (allN' (p := Od))))) (allP' (p := TgS) (ts_tup ea3 (by simp) (allP' (p := Od) (od_str (by decide +kernel) (by decide +kernel)) (allP' (p := Od) (od_int _) (allP' (p := Od) (od_int _) (allP' (p := Od) (od_str (by decide +kernel) (by decide +kernel)) (allN' (p := Od))))))) (allP' (p := TgS) (ts_tup ea4 (by simp) (allP' (p := Od) (od_str (by decide +kernel) (by decide +kernel)) (allP' (p := Od) (od_int _) (allP' (p := Od) (od_int _) (allP' (p := Od) (od_int _) (allN' (p := Od))))))) (allP' (p := TgS) (ts_tup ea5 (by simp) (allP' (p := Od) (od_str (by decide +kernel) (by decide +kernel)) (allP' (p := Od) (od_int _) (allP' (p := Od) (od_int _) (allN' (p := Od)))))) (allP' (p := TgS) (ts_tup ea6 (by simp) (allP' (p := Od) (od_str (by decide +kernel) (by decide +kernel)) (allP' (p := Od) (od_int _) (allP' (p := Od) (od_int _) (allN' (p := Od)))))) (allP' (p := TgS) (ts_tup ea7 (by simp) (allP' (p := Od) (od_str (by decide +kernel) (by decide +kernel)) (allP' (p := Od) (od_int _) (allP' (p := Od) (od_int _) (allP' (p := Od) (od_str (by decide +kernel) (by decide +kernel)) (allN' (p := Od))))))) (allP' (p := TgS) (ts_tup ea8 (by simp) (allP' (p := Od) (od_str (by decide +kernel) (by decide +kernel)) (allP' (p := Od) (od_int _) (allP' (p := Od) (od_int _) (allP' (p := Od) (od_int _) (allP' (p := Od) (od_int _) (allP' (p := Od) (od_int _) (allN' (p := Od))))))))) (allN' (p := TgS)))))))))
      refine ⟨.ref p, rfl, p, 8, rfl, by decide, by decide, l, mM0.at_, fun v HF v0 v1 hF bF => ?_⟩
      obtain ⟨y, ey, my⟩ := atI_in (xs := [(.ref a1 : V), (.ref a2 : V), (.ref a3 : V), (.ref a4 : V), (.ref a5 : V), (.ref a6 : V), (.ref a7 : V), (.ref a8 : V)]) v0 v1
      exact ⟨M0, _, v, y, rfl, rfl, sq_of (bF _ _ nPM0 eM0), ey, q y HF ((all y my).but mM0.at_ hF bF) hF (mM0.but.trans bF)⟩
    refine ⟨.int (ts.length : Nat), rfl, rfl, _, rfl, ite2 (fun e => ?_) (fun e => ?_)⟩
    · exact ⟨by show 1 ≤ sizeLine; decide, fun t nt => q _ _ (ts_tup upd_same (by simp) (allP' (p := Od) (od_str (by decide +kernel) (by decide +kernel)) (allN' (p := Od)))) (n1.new nt).at_ (n1.new nt).but⟩
    have m0 : 0 < ts.length := by
      have : ((ts.length : Nat) : Int) ≠ 0 := fun h => e (decide_eq_true (congrArg V.int h))
      omega
    try dsimp only [tNext, tSeq, tAsg, gName]
    refine ⟨.ref p, rfl, .int (ts.length : Nat), rfl, p, _, rfl, by omega, by omega, l, n1.at_, fun nn H2 t0 t1 h2 b2 => ?_⟩
    have n2 := n1.go h2 b2
    have ha2 := b2 _ _ nap ha1
    have ltx := tx_le len t0 t1
    try dsimp only [tNext, tSeq, tAsg, gName]
    refine ⟨.ref a, rfl, .int nn, rfl, a, _, nn, .str (mText ts nn), rfl, rfl, SqT.of ha2, tAt t0 t1, _, rfl, len5 (Nat.le_trans ltx (by decide)), ?_⟩
    generalize (((mText ts nn).length : Nat) : Int) = long
    have big : ∀ {H : Hp}, Od H (.str (Txt.mul (Str.ofString "a") 2001)) := od_str (Nat.le_trans (mul_facts (Str.ofString "a") 2001).1 (by decide +kernel)) (strOk_sg ((mul_facts (Str.ofString "a") 2001).2 (by decide +kernel)))
    try dsimp only [tNext, tSeq, tAsg, gName]
    refine ⟨.int kk, rfl, rfl, _, rfl, ite2 (fun e => ?_) (fun e => ?_)⟩
    · try dsimp only [tNext, tSeq, tAsg, gName]
      refine ⟨.int (nn), rfl, .int (long), rfl, _, _, rfl, rfl, by show 4 ≤ sizeLine; decide, fun a1 na1 => ?_⟩
      have ea1 : upd H2 a1 (.tup [.str (Str.ofString "put"), .int (nn), .int (long + 1), .str (Str.ofString "a")]) a1 = some (.tup [.str (Str.ofString "put"), .int (nn), .int (long + 1), .str (Str.ofString "a")]) := upd_same
      have ma1 := n2.same (Same.new (o := .tup [.str (Str.ofString "put"), .int (nn), .int (long + 1), .str (Str.ofString "a")]) na1)
      have nPa1 := (n2.at_.ne na1).1
      clear na1
      revert ma1 ea1
      generalize upd H2 a1 _ = Ja1
      intro ea1 ma1
      refine ⟨.int (nn), rfl, by show 4 ≤ sizeLine; decide, fun a2 na2 => ?_⟩
      have ea2 : upd Ja1 a2 (.tup [.str (Str.ofString "put"), .int (nn), .int (0), .str (Str.ofString "")]) a2 = some (.tup [.str (Str.ofString "put"), .int (nn), .int (0), .str (Str.ofString "")]) := upd_same
      have ea1 := (Same.new (o := .tup [.str (Str.ofString "put"), .int (nn), .int (0), .str (Str.ofString "")]) na2) _ _ ea1
      have ma2 := ma1.same (Same.new (o := .tup [.str (Str.ofString "put"), .int (nn), .int (0), .str (Str.ofString "")]) na2)
      have nPa2 := (ma1.at_.ne na2).1
      clear na2
      revert ma2 ea2 ea1
      generalize upd Ja1 a2 _ = Ja2
      intro ea2 ea1 ma2
      refine ⟨by show 4 ≤ sizeLine; decide, fun a3 na3 => ?_⟩
      have ea3 : upd Ja2 a3 (.tup [.str (Str.ofString "put"), .bl true, .int (0), .str (Str.ofString "a")]) a3 = some (.tup [.str (Str.ofString "put"), .bl true, .int (0), .str (Str.ofString "a")]) := upd_same
      have ea1 := (Same.new (o := .tup [.str (Str.ofString "put"), .bl true, .int (0), .str (Str.ofString "a")]) na3) _ _ ea1
      have ea2 := (Same.new (o := .tup [.str (Str.ofString "put"), .bl true, .int (0), .str (Str.ofString "a")]) na3) _ _ ea2
      have ma3 := ma2.same (Same.new (o := .tup [.str (Str.ofString "put"), .bl true, .int (0), .str (Str.ofString "a")]) na3)
      have nPa3 := (ma2.at_.ne na3).1
      clear na3
      revert ma3 ea3 ea1 ea2
      generalize upd Ja2 a3 _ = Ja3
      intro ea3 ea1 ea2 ma3
      refine ⟨by show 3 ≤ sizeLine; decide, fun L0 nL0 => ?_⟩
      have eL0 : upd Ja3 L0 (.lst [.ref a1, .ref a2, .ref a3]) L0 = some (.lst [.ref a1, .ref a2, .ref a3]) := upd_same
      have ea1 := (Same.new (o := .lst [.ref a1, .ref a2, .ref a3]) nL0) _ _ ea1
      have ea2 := (Same.new (o := .lst [.ref a1, .ref a2, .ref a3]) nL0) _ _ ea2
      have ea3 := (Same.new (o := .lst [.ref a1, .ref a2, .ref a3]) nL0) _ _ ea3
      have mL0 := ma3.same (Same.new (o := .lst [.ref a1, .ref a2, .ref a3]) nL0)
      have nPL0 := (ma3.at_.ne nL0).1
      clear nL0
      revert mL0 eL0 ea1 ea2 ea3
      generalize upd Ja3 L0 _ = JL0
      intro eL0 ea1 ea2 ea3 mL0
      try dsimp only [tNext, tSeq, tAsg, gName, tDrop]
      refine ⟨.ref L0, rfl, ?_⟩
      refine ⟨.int (nn), rfl, _, rfl, by show 4 ≤ sizeLine; decide, fun a4 na4 => ?_⟩
      have ea4 : upd JL0 a4 (.tup [.str (Str.ofString "put"), .int (nn), .int (-1), .str (Str.ofString "a")]) a4 = some (.tup [.str (Str.ofString "put"), .int (nn), .int (-1), .str (Str.ofString "a")]) := upd_same
      have ea1 := (Same.new (o := .tup [.str (Str.ofString "put"), .int (nn), .int (-1), .str (Str.ofString "a")]) na4) _ _ ea1
      have ea2 := (Same.new (o := .tup [.str (Str.ofString "put"), .int (nn), .int (-1), .str (Str.ofString "a")]) na4) _ _ ea2
      have ea3 := (Same.new (o := .tup [.str (Str.ofString "put"), .int (nn), .int (-1), .str (Str.ofString "a")]) na4) _ _ ea3
      have eL0 := (Same.new (o := .tup [.str (Str.ofString "put"), .int (nn), .int (-1), .str (Str.ofString "a")]) na4) _ _ eL0
      have ma4 := mL0.same (Same.new (o := .tup [.str (Str.ofString "put"), .int (nn), .int (-1), .str (Str.ofString "a")]) na4)
      have nPa4 := (mL0.at_.ne na4).1
      clear na4
      revert ma4 ea4 ea1 ea2 ea3 eL0
      generalize upd JL0 a4 _ = Ja4
      intro ea4 ea1 ea2 ea3 eL0 ma4
      refine ⟨by show 1 ≤ sizeLine; decide, fun L1 nL1 => ?_⟩
      have eL1 : upd Ja4 L1 (.lst [.ref a4]) L1 = some (.lst [.ref a4]) := upd_same
      have ea1 := (Same.new (o := .lst [.ref a4]) nL1) _ _ ea1
      have ea2 := (Same.new (o := .lst [.ref a4]) nL1) _ _ ea2
      have ea3 := (Same.new (o := .lst [.ref a4]) nL1) _ _ ea3
      have eL0 := (Same.new (o := .lst [.ref a4]) nL1) _ _ eL0
      have ea4 := (Same.new (o := .lst [.ref a4]) nL1) _ _ ea4
      have mL1 := ma4.same (Same.new (o := .lst [.ref a4]) nL1)
      have nPL1 := (ma4.at_.ne nL1).1
      clear nL1
      revert mL1 eL1 ea1 ea2 ea3 eL0 ea4
      generalize upd Ja4 L1 _ = JL1
      intro eL1 ea1 ea2 ea3 eL0 ea4 mL1
      refine ⟨L0, L1, _, _, rfl, rfl, eL0, eL1, by show 3 + 1 ≤ sizeLine; decide, fun M1 nM1 => ?_⟩
      have ecat1 : ([V.ref a1, V.ref a2, V.ref a3] ++ [V.ref a4] : List V) = [V.ref a1, V.ref a2, V.ref a3, V.ref a4] := rfl
      rw [ecat1]
      have eM1 : upd JL1 M1 (.lst [.ref a1, .ref a2, .ref a3, .ref a4]) M1 = some (.lst [.ref a1, .ref a2, .ref a3, .ref a4]) := upd_same
      have ea1 := (Same.new (o := .lst [.ref a1, .ref a2, .ref a3, .ref a4]) nM1) _ _ ea1
      have ea2 := (Same.new (o := .lst [.ref a1, .ref a2, .ref a3, .ref a4]) nM1) _ _ ea2
      have ea3 := (Same.new (o := .lst [.ref a1, .ref a2, .ref a3, .ref a4]) nM1) _ _ ea3
      have eL0 := (Same.new (o := .lst [.ref a1, .ref a2, .ref a3, .ref a4]) nM1) _ _ eL0
      have ea4 := (Same.new (o := .lst [.ref a1, .ref a2, .ref a3, .ref a4]) nM1) _ _ ea4
      have eL1 := (Same.new (o := .lst [.ref a1, .ref a2, .ref a3, .ref a4]) nM1) _ _ eL1
      have mM1 := mL1.same (Same.new (o := .lst [.ref a1, .ref a2, .ref a3, .ref a4]) nM1)
      have nPM1 := (mL1.at_.ne nM1).1
      clear nM1
      revert mM1 eM1 ea1 ea2 ea3 eL0 ea4 eL1
      generalize upd JL1 M1 _ = JM1
      intro eM1 ea1 ea2 ea3 eL0 ea4 eL1 mM1
      try dsimp only [tNext, tSeq, tAsg, gName, tDrop]
      refine ⟨.ref M1, rfl, ?_⟩
      refine ⟨.int (nn), rfl, .int (long), rfl, _, _, rfl, rfl, by show 4 ≤ sizeLine; decide, fun a5 na5 => ?_⟩
      have ea5 : upd JM1 a5 (.tup [.str (Str.ofString "cut"), .int (nn), .int (0), .int (long + 1)]) a5 = some (.tup [.str (Str.ofString "cut"), .int (nn), .int (0), .int (long + 1)]) := upd_same
      have ea1 := (Same.new (o := .tup [.str (Str.ofString "cut"), .int (nn), .int (0), .int (long + 1)]) na5) _ _ ea1
      have ea2 := (Same.new (o := .tup [.str (Str.ofString "cut"), .int (nn), .int (0), .int (long + 1)]) na5) _ _ ea2
      have ea3 := (Same.new (o := .tup [.str (Str.ofString "cut"), .int (nn), .int (0), .int (long + 1)]) na5) _ _ ea3
      have eL0 := (Same.new (o := .tup [.str (Str.ofString "cut"), .int (nn), .int (0), .int (long + 1)]) na5) _ _ eL0
      have ea4 := (Same.new (o := .tup [.str (Str.ofString "cut"), .int (nn), .int (0), .int (long + 1)]) na5) _ _ ea4
      have eL1 := (Same.new (o := .tup [.str (Str.ofString "cut"), .int (nn), .int (0), .int (long + 1)]) na5) _ _ eL1
      have eM1 := (Same.new (o := .tup [.str (Str.ofString "cut"), .int (nn), .int (0), .int (long + 1)]) na5) _ _ eM1
      have ma5 := mM1.same (Same.new (o := .tup [.str (Str.ofString "cut"), .int (nn), .int (0), .int (long + 1)]) na5)
      have nPa5 := (mM1.at_.ne na5).1
      clear na5
      revert ma5 ea5 ea1 ea2 ea3 eL0 ea4 eL1 eM1
      generalize upd JM1 a5 _ = Ja5
      intro ea5 ea1 ea2 ea3 eL0 ea4 eL1 eM1 ma5
      refine ⟨.int (nn), rfl, by show 4 ≤ sizeLine; decide, fun a6 na6 => ?_⟩
      have ea6 : upd Ja5 a6 (.tup [.str (Str.ofString "cut"), .int (nn), .int (0), .int (0)]) a6 = some (.tup [.str (Str.ofString "cut"), .int (nn), .int (0), .int (0)]) := upd_same
      have ea1 := (Same.new (o := .tup [.str (Str.ofString "cut"), .int (nn), .int (0), .int (0)]) na6) _ _ ea1
      have ea2 := (Same.new (o := .tup [.str (Str.ofString "cut"), .int (nn), .int (0), .int (0)]) na6) _ _ ea2
      have ea3 := (Same.new (o := .tup [.str (Str.ofString "cut"), .int (nn), .int (0), .int (0)]) na6) _ _ ea3
      have eL0 := (Same.new (o := .tup [.str (Str.ofString "cut"), .int (nn), .int (0), .int (0)]) na6) _ _ eL0
      have ea4 := (Same.new (o := .tup [.str (Str.ofString "cut"), .int (nn), .int (0), .int (0)]) na6) _ _ ea4
      have eL1 := (Same.new (o := .tup [.str (Str.ofString "cut"), .int (nn), .int (0), .int (0)]) na6) _ _ eL1
      have eM1 := (Same.new (o := .tup [.str (Str.ofString "cut"), .int (nn), .int (0), .int (0)]) na6) _ _ eM1
      have ea5 := (Same.new (o := .tup [.str (Str.ofString "cut"), .int (nn), .int (0), .int (0)]) na6) _ _ ea5
      have ma6 := ma5.same (Same.new (o := .tup [.str (Str.ofString "cut"), .int (nn), .int (0), .int (0)]) na6)
      have nPa6 := (ma5.at_.ne na6).1
      clear na6
      revert ma6 ea6 ea1 ea2 ea3 eL0 ea4 eL1 eM1 ea5
      generalize upd Ja5 a6 _ = Ja6
      intro ea6 ea1 ea2 ea3 eL0 ea4 eL1 eM1 ea5 ma6
      refine ⟨.int (nn), rfl, .int (long), rfl, by show 4 ≤ sizeLine; decide, fun a7 na7 => ?_⟩
      have ea7 : upd Ja6 a7 (.tup [.str (Str.ofString "cut"), .int (nn), .int (long), .int (1)]) a7 = some (.tup [.str (Str.ofString "cut"), .int (nn), .int (long), .int (1)]) := upd_same
      have ea1 := (Same.new (o := .tup [.str (Str.ofString "cut"), .int (nn), .int (long), .int (1)]) na7) _ _ ea1
      have ea2 := (Same.new (o := .tup [.str (Str.ofString "cut"), .int (nn), .int (long), .int (1)]) na7) _ _ ea2
      have ea3 := (Same.new (o := .tup [.str (Str.ofString "cut"), .int (nn), .int (long), .int (1)]) na7) _ _ ea3
      have eL0 := (Same.new (o := .tup [.str (Str.ofString "cut"), .int (nn), .int (long), .int (1)]) na7) _ _ eL0
      have ea4 := (Same.new (o := .tup [.str (Str.ofString "cut"), .int (nn), .int (long), .int (1)]) na7) _ _ ea4
      have eL1 := (Same.new (o := .tup [.str (Str.ofString "cut"), .int (nn), .int (long), .int (1)]) na7) _ _ eL1
      have eM1 := (Same.new (o := .tup [.str (Str.ofString "cut"), .int (nn), .int (long), .int (1)]) na7) _ _ eM1
      have ea5 := (Same.new (o := .tup [.str (Str.ofString "cut"), .int (nn), .int (long), .int (1)]) na7) _ _ ea5
      have ea6 := (Same.new (o := .tup [.str (Str.ofString "cut"), .int (nn), .int (long), .int (1)]) na7) _ _ ea6
      have ma7 := ma6.same (Same.new (o := .tup [.str (Str.ofString "cut"), .int (nn), .int (long), .int (1)]) na7)
      have nPa7 := (ma6.at_.ne na7).1
      clear na7
      revert ma7 ea7 ea1 ea2 ea3 eL0 ea4 eL1 eM1 ea5 ea6
      generalize upd Ja6 a7 _ = Ja7
      intro ea7 ea1 ea2 ea3 eL0 ea4 eL1 eM1 ea5 ea6 ma7
      refine ⟨by show 3 ≤ sizeLine; decide, fun L2 nL2 => ?_⟩
      have eL2 : upd Ja7 L2 (.lst [.ref a5, .ref a6, .ref a7]) L2 = some (.lst [.ref a5, .ref a6, .ref a7]) := upd_same
      have ea1 := (Same.new (o := .lst [.ref a5, .ref a6, .ref a7]) nL2) _ _ ea1
      have ea2 := (Same.new (o := .lst [.ref a5, .ref a6, .ref a7]) nL2) _ _ ea2
      have ea3 := (Same.new (o := .lst [.ref a5, .ref a6, .ref a7]) nL2) _ _ ea3
      have eL0 := (Same.new (o := .lst [.ref a5, .ref a6, .ref a7]) nL2) _ _ eL0
      have ea4 := (Same.new (o := .lst [.ref a5, .ref a6, .ref a7]) nL2) _ _ ea4
      have eL1 := (Same.new (o := .lst [.ref a5, .ref a6, .ref a7]) nL2) _ _ eL1
      have eM1 := (Same.new (o := .lst [.ref a5, .ref a6, .ref a7]) nL2) _ _ eM1
      have ea5 := (Same.new (o := .lst [.ref a5, .ref a6, .ref a7]) nL2) _ _ ea5
      have ea6 := (Same.new (o := .lst [.ref a5, .ref a6, .ref a7]) nL2) _ _ ea6
      have ea7 := (Same.new (o := .lst [.ref a5, .ref a6, .ref a7]) nL2) _ _ ea7
      have mL2 := ma7.same (Same.new (o := .lst [.ref a5, .ref a6, .ref a7]) nL2)
      have nPL2 := (ma7.at_.ne nL2).1
      clear nL2
      revert mL2 eL2 ea1 ea2 ea3 eL0 ea4 eL1 eM1 ea5 ea6 ea7
      generalize upd Ja7 L2 _ = JL2
      intro eL2 ea1 ea2 ea3 eL0 ea4 eL1 eM1 ea5 ea6 ea7 mL2
      refine ⟨M1, L2, _, _, rfl, rfl, eM1, eL2, by show 4 + 3 ≤ sizeLine; decide, fun M2 nM2 => ?_⟩
      have ecat2 : ([V.ref a1, V.ref a2, V.ref a3, V.ref a4] ++ [V.ref a5, V.ref a6, V.ref a7] : List V) = [V.ref a1, V.ref a2, V.ref a3, V.ref a4, V.ref a5, V.ref a6, V.ref a7] := rfl
      rw [ecat2]
      have eM2 : upd JL2 M2 (.lst [.ref a1, .ref a2, .ref a3, .ref a4, .ref a5, .ref a6, .ref a7]) M2 = some (.lst [.ref a1, .ref a2, .ref a3, .ref a4, .ref a5, .ref a6, .ref a7]) := upd_same
      have ea1 := (Same.new (o := .lst [.ref a1, .ref a2, .ref a3, .ref a4, .ref a5, .ref a6, .ref a7]) nM2) _ _ ea1
      have ea2 := (Same.new (o := .lst [.ref a1, .ref a2, .ref a3, .ref a4, .ref a5, .ref a6, .ref a7]) nM2) _ _ ea2
      have ea3 := (Same.new (o := .lst [.ref a1, .ref a2, .ref a3, .ref a4, .ref a5, .ref a6, .ref a7]) nM2) _ _ ea3
      have eL0 := (Same.new (o := .lst [.ref a1, .ref a2, .ref a3, .ref a4, .ref a5, .ref a6, .ref a7]) nM2) _ _ eL0
      have ea4 := (Same.new (o := .lst [.ref a1, .ref a2, .ref a3, .ref a4, .ref a5, .ref a6, .ref a7]) nM2) _ _ ea4
      have eL1 := (Same.new (o := .lst [.ref a1, .ref a2, .ref a3, .ref a4, .ref a5, .ref a6, .ref a7]) nM2) _ _ eL1
      have eM1 := (Same.new (o := .lst [.ref a1, .ref a2, .ref a3, .ref a4, .ref a5, .ref a6, .ref a7]) nM2) _ _ eM1
      have ea5 := (Same.new (o := .lst [.ref a1, .ref a2, .ref a3, .ref a4, .ref a5, .ref a6, .ref a7]) nM2) _ _ ea5
      have ea6 := (Same.new (o := .lst [.ref a1, .ref a2, .ref a3, .ref a4, .ref a5, .ref a6, .ref a7]) nM2) _ _ ea6
      have ea7 := (Same.new (o := .lst [.ref a1, .ref a2, .ref a3, .ref a4, .ref a5, .ref a6, .ref a7]) nM2) _ _ ea7
      have eL2 := (Same.new (o := .lst [.ref a1, .ref a2, .ref a3, .ref a4, .ref a5, .ref a6, .ref a7]) nM2) _ _ eL2
      have mM2 := mL2.same (Same.new (o := .lst [.ref a1, .ref a2, .ref a3, .ref a4, .ref a5, .ref a6, .ref a7]) nM2)
      have nPM2 := (mL2.at_.ne nM2).1
      clear nM2
      revert mM2 eM2 ea1 ea2 ea3 eL0 ea4 eL1 eM1 ea5 ea6 ea7 eL2
      generalize upd JL2 M2 _ = JM2
      intro eM2 ea1 ea2 ea3 eL0 ea4 eL1 eM1 ea5 ea6 ea7 eL2 mM2
      try dsimp only [tNext, tSeq, tAsg, gName, tDrop]
      refine ⟨.ref M2, rfl, ?_⟩
      refine ⟨.int (nn), rfl, by show 4 ≤ sizeLine; decide, fun a8 na8 => ?_⟩
      have ea8 : upd JM2 a8 (.tup [.str (Str.ofString "cut"), .int (nn), .int (0), .bl true]) a8 = some (.tup [.str (Str.ofString "cut"), .int (nn), .int (0), .bl true]) := upd_same
      have ea1 := (Same.new (o := .tup [.str (Str.ofString "cut"), .int (nn), .int (0), .bl true]) na8) _ _ ea1
      have ea2 := (Same.new (o := .tup [.str (Str.ofString "cut"), .int (nn), .int (0), .bl true]) na8) _ _ ea2
      have ea3 := (Same.new (o := .tup [.str (Str.ofString "cut"), .int (nn), .int (0), .bl true]) na8) _ _ ea3
      have eL0 := (Same.new (o := .tup [.str (Str.ofString "cut"), .int (nn), .int (0), .bl true]) na8) _ _ eL0
      have ea4 := (Same.new (o := .tup [.str (Str.ofString "cut"), .int (nn), .int (0), .bl true]) na8) _ _ ea4
      have eL1 := (Same.new (o := .tup [.str (Str.ofString "cut"), .int (nn), .int (0), .bl true]) na8) _ _ eL1
      have eM1 := (Same.new (o := .tup [.str (Str.ofString "cut"), .int (nn), .int (0), .bl true]) na8) _ _ eM1
      have ea5 := (Same.new (o := .tup [.str (Str.ofString "cut"), .int (nn), .int (0), .bl true]) na8) _ _ ea5
      have ea6 := (Same.new (o := .tup [.str (Str.ofString "cut"), .int (nn), .int (0), .bl true]) na8) _ _ ea6
      have ea7 := (Same.new (o := .tup [.str (Str.ofString "cut"), .int (nn), .int (0), .bl true]) na8) _ _ ea7
      have eL2 := (Same.new (o := .tup [.str (Str.ofString "cut"), .int (nn), .int (0), .bl true]) na8) _ _ eL2
      have eM2 := (Same.new (o := .tup [.str (Str.ofString "cut"), .int (nn), .int (0), .bl true]) na8) _ _ eM2
      have ma8 := mM2.same (Same.new (o := .tup [.str (Str.ofString "cut"), .int (nn), .int (0), .bl true]) na8)
      have nPa8 := (mM2.at_.ne na8).1
      clear na8
      revert ma8 ea8 ea1 ea2 ea3 eL0 ea4 eL1 eM1 ea5 ea6 ea7 eL2 eM2
      generalize upd JM2 a8 _ = Ja8
      intro ea8 ea1 ea2 ea3 eL0 ea4 eL1 eM1 ea5 ea6 ea7 eL2 eM2 ma8
      refine ⟨by show 1 ≤ sizeLine; decide, fun L3 nL3 => ?_⟩
      have eL3 : upd Ja8 L3 (.lst [.ref a8]) L3 = some (.lst [.ref a8]) := upd_same
      have ea1 := (Same.new (o := .lst [.ref a8]) nL3) _ _ ea1
      have ea2 := (Same.new (o := .lst [.ref a8]) nL3) _ _ ea2
      have ea3 := (Same.new (o := .lst [.ref a8]) nL3) _ _ ea3
      have eL0 := (Same.new (o := .lst [.ref a8]) nL3) _ _ eL0
      have ea4 := (Same.new (o := .lst [.ref a8]) nL3) _ _ ea4
      have eL1 := (Same.new (o := .lst [.ref a8]) nL3) _ _ eL1
      have eM1 := (Same.new (o := .lst [.ref a8]) nL3) _ _ eM1
      have ea5 := (Same.new (o := .lst [.ref a8]) nL3) _ _ ea5
      have ea6 := (Same.new (o := .lst [.ref a8]) nL3) _ _ ea6
      have ea7 := (Same.new (o := .lst [.ref a8]) nL3) _ _ ea7
      have eL2 := (Same.new (o := .lst [.ref a8]) nL3) _ _ eL2
      have eM2 := (Same.new (o := .lst [.ref a8]) nL3) _ _ eM2
      have ea8 := (Same.new (o := .lst [.ref a8]) nL3) _ _ ea8
      have mL3 := ma8.same (Same.new (o := .lst [.ref a8]) nL3)
      have nPL3 := (ma8.at_.ne nL3).1
      clear nL3
      revert mL3 eL3 ea1 ea2 ea3 eL0 ea4 eL1 eM1 ea5 ea6 ea7 eL2 eM2 ea8
      generalize upd Ja8 L3 _ = JL3
      intro eL3 ea1 ea2 ea3 eL0 ea4 eL1 eM1 ea5 ea6 ea7 eL2 eM2 ea8 mL3
      refine ⟨M2, L3, _, _, rfl, rfl, eM2, eL3, by show 7 + 1 ≤ sizeLine; decide, fun M3 nM3 => ?_⟩
      have ecat3 : ([V.ref a1, V.ref a2, V.ref a3, V.ref a4, V.ref a5, V.ref a6, V.ref a7] ++ [V.ref a8] : List V) = [V.ref a1, V.ref a2, V.ref a3, V.ref a4, V.ref a5, V.ref a6, V.ref a7, V.ref a8] := rfl
      rw [ecat3]
      have eM3 : upd JL3 M3 (.lst [.ref a1, .ref a2, .ref a3, .ref a4, .ref a5, .ref a6, .ref a7, .ref a8]) M3 = some (.lst [.ref a1, .ref a2, .ref a3, .ref a4, .ref a5, .ref a6, .ref a7, .ref a8]) := upd_same
      have ea1 := (Same.new (o := .lst [.ref a1, .ref a2, .ref a3, .ref a4, .ref a5, .ref a6, .ref a7, .ref a8]) nM3) _ _ ea1
      have ea2 := (Same.new (o := .lst [.ref a1, .ref a2, .ref a3, .ref a4, .ref a5, .ref a6, .ref a7, .ref a8]) nM3) _ _ ea2
      have ea3 := (Same.new (o := .lst [.ref a1, .ref a2, .ref a3, .ref a4, .ref a5, .ref a6, .ref a7, .ref a8]) nM3) _ _ ea3
      have eL0 := (Same.new (o := .lst [.ref a1, .ref a2, .ref a3, .ref a4, .ref a5, .ref a6, .ref a7, .ref a8]) nM3) _ _ eL0
      have ea4 := (Same.new (o := .lst [.ref a1, .ref a2, .ref a3, .ref a4, .ref a5, .ref a6, .ref a7, .ref a8]) nM3) _ _ ea4
      have eL1 := (Same.new (o := .lst [.ref a1, .ref a2, .ref a3, .ref a4, .ref a5, .ref a6, .ref a7, .ref a8]) nM3) _ _ eL1
      have eM1 := (Same.new (o := .lst [.ref a1, .ref a2, .ref a3, .ref a4, .ref a5, .ref a6, .ref a7, .ref a8]) nM3) _ _ eM1
      have ea5 := (Same.new (o := .lst [.ref a1, .ref a2, .ref a3, .ref a4, .ref a5, .ref a6, .ref a7, .ref a8]) nM3) _ _ ea5
      have ea6 := (Same.new (o := .lst [.ref a1, .ref a2, .ref a3, .ref a4, .ref a5, .ref a6, .ref a7, .ref a8]) nM3) _ _ ea6
      have ea7 := (Same.new (o := .lst [.ref a1, .ref a2, .ref a3, .ref a4, .ref a5, .ref a6, .ref a7, .ref a8]) nM3) _ _ ea7
      have eL2 := (Same.new (o := .lst [.ref a1, .ref a2, .ref a3, .ref a4, .ref a5, .ref a6, .ref a7, .ref a8]) nM3) _ _ eL2
      have eM2 := (Same.new (o := .lst [.ref a1, .ref a2, .ref a3, .ref a4, .ref a5, .ref a6, .ref a7, .ref a8]) nM3) _ _ eM2
      have ea8 := (Same.new (o := .lst [.ref a1, .ref a2, .ref a3, .ref a4, .ref a5, .ref a6, .ref a7, .ref a8]) nM3) _ _ ea8
      have eL3 := (Same.new (o := .lst [.ref a1, .ref a2, .ref a3, .ref a4, .ref a5, .ref a6, .ref a7, .ref a8]) nM3) _ _ eL3
      have mM3 := mL3.same (Same.new (o := .lst [.ref a1, .ref a2, .ref a3, .ref a4, .ref a5, .ref a6, .ref a7, .ref a8]) nM3)
      have nPM3 := (mL3.at_.ne nM3).1
      clear nM3
      revert mM3 eM3 ea1 ea2 ea3 eL0 ea4 eL1 eM1 ea5 ea6 ea7 eL2 eM2 ea8 eL3
      generalize upd JL3 M3 _ = JM3
      intro eM3 ea1 ea2 ea3 eL0 ea4 eL1 eM1 ea5 ea6 ea7 eL2 eM2 ea8 eL3 mM3
      try dsimp only [tNext, tSeq, tAsg, gName, tDrop]
      have all : ∀ y ∈ [(.ref a1 : V), (.ref a2 : V), (.ref a3 : V), (.ref a4 : V), (.ref a5 : V), (.ref a6 : V), (.ref a7 : V), (.ref a8 : V)], TgS JM3 y := allP' (p := TgS) (ts_tup ea1 (by simp) (allP' (p := Od) (od_str (by decide +kernel) (by decide +kernel)) (allP' (p := Od) (od_int _) (allP' (p := Od) (od_int _) (allP' (p := Od) (od_str (by decide +kernel) (by decide +kernel)) (allN' (p := Od))))))) (allP' (p := TgS) (ts_tup ea2 (by simp) (allP' (p := Od) (od_str (by decide +kernel) (by decide +kernel)) (allP' (p := Od) (od_int _) (allP' (p := Od) (od_int _) (allP' (p := Od) (od_str (by decide +kernel) (by decide +kernel)) (allN' (p := Od))))))) (allP' (p := TgS) (ts_tup ea3 (by simp) (allP' (p := Od) (od_str (by decide +kernel) (by decide +kernel)) (allP' (p := Od) (od_bl _) (allP' (p := Od) (od_int _) (allP' (p := Od) (od_str (by decide +kernel) (by decide +kernel)) (allN' (p := Od))))))) (allP' (p := TgS) (ts_tup ea4 (by simp) (allP' (p := Od) (od_str (by decide +kernel) (by decide +kernel)) (allP' (p := Od) (od_int _) (allP' (p := Od) (od_int _) (allP' (p := Od) (od_str (by decide +kernel) (by decide +kernel)) (allN' (p := Od))))))) (allP' (p := TgS) (ts_tup ea5 (by simp) (allP' (p := Od) (od_str (by decide +kernel) (by decide +kernel)) (allP' (p := Od) (od_int _) (allP' (p := Od) (od_int _) (allP' (p := Od) (od_int _) (allN' (p := Od))))))) (allP' (p := TgS) (ts_tup ea6 (by simp) (allP' (p := Od) (od_str (by decide +kernel) (by decide +kernel)) (allP' (p := Od) (od_int _) (allP' (p := Od) (od_int _) (allP' (p := Od) (od_int _) (allN' (p := Od))))))) (allP' (p := TgS) (ts_tup ea7 (by simp) (allP' (p := Od) (od_str (by decide +kernel) (by decide +kernel)) (allP' (p := Od) (od_int _) (allP' (p := Od) (od_int _) (allP' (p := Od) (od_int _) (allN' (p := Od))))))) (allP' (p := TgS) (ts_tup ea8 (by simp) (allP' (p := Od) (od_str (by decide +kernel) (by decide +kernel)) (allP' (p := Od) (od_int _) (allP' (p := Od) (od_int _) (allP' (p := Od) (od_bl _) (allN' (p := Od))))))) (allN' (p := TgS)))))))))
      refine ⟨.ref p, rfl, p, 8, rfl, by decide, by decide, l, mM3.at_, fun v HF v0 v1 hF bF => ?_⟩
      obtain ⟨y, ey, my⟩ := atI_in (xs := [(.ref a1 : V), (.ref a2 : V), (.ref a3 : V), (.ref a4 : V), (.ref a5 : V), (.ref a6 : V), (.ref a7 : V), (.ref a8 : V)]) v0 v1
      exact ⟨M3, _, v, y, rfl, rfl, sq_of (bF _ _ nPM3 eM3), ey, q y HF ((all y my).but mM3.at_ hF bF) hF (mM3.but.trans bF)⟩
    try dsimp only [tNext, tSeq, tAsg, gName]
    refine ⟨.int (nn), rfl, .int (nn), rfl, by show 3 ≤ sizeLine; decide, fun a1 na1 => ?_⟩
    have ea1 : upd H2 a1 (.tup [.str (Str.ofString "join"), .int (nn), .int (nn)]) a1 = some (.tup [.str (Str.ofString "join"), .int (nn), .int (nn)]) := upd_same
    have ma1 := n2.same (Same.new (o := .tup [.str (Str.ofString "join"), .int (nn), .int (nn)]) na1)
    have nPa1 := (n2.at_.ne na1).1
    clear na1
    revert ma1 ea1
    generalize upd H2 a1 _ = Ja1
    intro ea1 ma1
    refine ⟨.int (nn), rfl, .int (long), rfl, _, _, rfl, rfl, by show 3 ≤ sizeLine; decide, fun a2 na2 => ?_⟩
    have ea2 : upd Ja1 a2 (.tup [.str (Str.ofString "split"), .int (nn), .int (long + 1)]) a2 = some (.tup [.str (Str.ofString "split"), .int (nn), .int (long + 1)]) := upd_same
    have ea1 := (Same.new (o := .tup [.str (Str.ofString "split"), .int (nn), .int (long + 1)]) na2) _ _ ea1
    have ma2 := ma1.same (Same.new (o := .tup [.str (Str.ofString "split"), .int (nn), .int (long + 1)]) na2)
    have nPa2 := (ma1.at_.ne na2).1
    clear na2
    revert ma2 ea2 ea1
    generalize upd Ja1 a2 _ = Ja2
    intro ea2 ea1 ma2
    refine ⟨.int (nn), rfl, .int (long), rfl, by show 4 ≤ sizeLine; decide, fun a3 na3 => ?_⟩
    have ea3 : upd Ja2 a3 (.tup [.str (Str.ofString "change"), .int (nn), .int (long), .str (Str.ofString "a")]) a3 = some (.tup [.str (Str.ofString "change"), .int (nn), .int (long), .str (Str.ofString "a")]) := upd_same
    have ea1 := (Same.new (o := .tup [.str (Str.ofString "change"), .int (nn), .int (long), .str (Str.ofString "a")]) na3) _ _ ea1
    have ea2 := (Same.new (o := .tup [.str (Str.ofString "change"), .int (nn), .int (long), .str (Str.ofString "a")]) na3) _ _ ea2
    have ma3 := ma2.same (Same.new (o := .tup [.str (Str.ofString "change"), .int (nn), .int (long), .str (Str.ofString "a")]) na3)
    have nPa3 := (ma2.at_.ne na3).1
    clear na3
    revert ma3 ea3 ea1 ea2
    generalize upd Ja2 a3 _ = Ja3
    intro ea3 ea1 ea2 ma3
    refine ⟨by show 3 ≤ sizeLine; decide, fun L0 nL0 => ?_⟩
    have eL0 : upd Ja3 L0 (.lst [.ref a1, .ref a2, .ref a3]) L0 = some (.lst [.ref a1, .ref a2, .ref a3]) := upd_same
    have ea1 := (Same.new (o := .lst [.ref a1, .ref a2, .ref a3]) nL0) _ _ ea1
    have ea2 := (Same.new (o := .lst [.ref a1, .ref a2, .ref a3]) nL0) _ _ ea2
    have ea3 := (Same.new (o := .lst [.ref a1, .ref a2, .ref a3]) nL0) _ _ ea3
    have mL0 := ma3.same (Same.new (o := .lst [.ref a1, .ref a2, .ref a3]) nL0)
    have nPL0 := (ma3.at_.ne nL0).1
    clear nL0
    revert mL0 eL0 ea1 ea2 ea3
    generalize upd Ja3 L0 _ = JL0
    intro eL0 ea1 ea2 ea3 mL0
    try dsimp only [tNext, tSeq, tAsg, gName, tDrop]
    refine ⟨.ref L0, rfl, ?_⟩
    refine ⟨.int (nn), rfl, by show 4 ≤ sizeLine; decide, fun a4 na4 => ?_⟩
    have ea4 : upd JL0 a4 (.tup [.str (Str.ofString "change"), .int (nn), .int (0), .str (Str.ofString "")]) a4 = some (.tup [.str (Str.ofString "change"), .int (nn), .int (0), .str (Str.ofString "")]) := upd_same
    have ea1 := (Same.new (o := .tup [.str (Str.ofString "change"), .int (nn), .int (0), .str (Str.ofString "")]) na4) _ _ ea1
    have ea2 := (Same.new (o := .tup [.str (Str.ofString "change"), .int (nn), .int (0), .str (Str.ofString "")]) na4) _ _ ea2
    have ea3 := (Same.new (o := .tup [.str (Str.ofString "change"), .int (nn), .int (0), .str (Str.ofString "")]) na4) _ _ ea3
    have eL0 := (Same.new (o := .tup [.str (Str.ofString "change"), .int (nn), .int (0), .str (Str.ofString "")]) na4) _ _ eL0
    have ma4 := mL0.same (Same.new (o := .tup [.str (Str.ofString "change"), .int (nn), .int (0), .str (Str.ofString "")]) na4)
    have nPa4 := (mL0.at_.ne na4).1
    clear na4
    revert ma4 ea4 ea1 ea2 ea3 eL0
    generalize upd JL0 a4 _ = Ja4
    intro ea4 ea1 ea2 ea3 eL0 ma4
    refine ⟨.int (nn), rfl, .int (long), rfl, _, _, rfl, rfl, .int (nn), rfl, by show 6 ≤ sizeLine; decide, fun a5 na5 => ?_⟩
    have ea5 : upd Ja4 a5 (.tup [.str (Str.ofString "move"), .int (nn), .int (0), .int (long + 1), .int (nn), .int (0)]) a5 = some (.tup [.str (Str.ofString "move"), .int (nn), .int (0), .int (long + 1), .int (nn), .int (0)]) := upd_same
    have ea1 := (Same.new (o := .tup [.str (Str.ofString "move"), .int (nn), .int (0), .int (long + 1), .int (nn), .int (0)]) na5) _ _ ea1
    have ea2 := (Same.new (o := .tup [.str (Str.ofString "move"), .int (nn), .int (0), .int (long + 1), .int (nn), .int (0)]) na5) _ _ ea2
    have ea3 := (Same.new (o := .tup [.str (Str.ofString "move"), .int (nn), .int (0), .int (long + 1), .int (nn), .int (0)]) na5) _ _ ea3
    have eL0 := (Same.new (o := .tup [.str (Str.ofString "move"), .int (nn), .int (0), .int (long + 1), .int (nn), .int (0)]) na5) _ _ eL0
    have ea4 := (Same.new (o := .tup [.str (Str.ofString "move"), .int (nn), .int (0), .int (long + 1), .int (nn), .int (0)]) na5) _ _ ea4
    have ma5 := ma4.same (Same.new (o := .tup [.str (Str.ofString "move"), .int (nn), .int (0), .int (long + 1), .int (nn), .int (0)]) na5)
    have nPa5 := (ma4.at_.ne na5).1
    clear na5
    revert ma5 ea5 ea1 ea2 ea3 eL0 ea4
    generalize upd Ja4 a5 _ = Ja5
    intro ea5 ea1 ea2 ea3 eL0 ea4 ma5
    refine ⟨.int (nn), rfl, by show 3 ≤ sizeLine; decide, fun a6 na6 => ?_⟩
    have ea6 : upd Ja5 a6 (.tup [.str (Str.ofString "split"), .int (nn), .non]) a6 = some (.tup [.str (Str.ofString "split"), .int (nn), .non]) := upd_same
    have ea1 := (Same.new (o := .tup [.str (Str.ofString "split"), .int (nn), .non]) na6) _ _ ea1
    have ea2 := (Same.new (o := .tup [.str (Str.ofString "split"), .int (nn), .non]) na6) _ _ ea2
    have ea3 := (Same.new (o := .tup [.str (Str.ofString "split"), .int (nn), .non]) na6) _ _ ea3
    have eL0 := (Same.new (o := .tup [.str (Str.ofString "split"), .int (nn), .non]) na6) _ _ eL0
    have ea4 := (Same.new (o := .tup [.str (Str.ofString "split"), .int (nn), .non]) na6) _ _ ea4
    have ea5 := (Same.new (o := .tup [.str (Str.ofString "split"), .int (nn), .non]) na6) _ _ ea5
    have ma6 := ma5.same (Same.new (o := .tup [.str (Str.ofString "split"), .int (nn), .non]) na6)
    have nPa6 := (ma5.at_.ne na6).1
    clear na6
    revert ma6 ea6 ea1 ea2 ea3 eL0 ea4 ea5
    generalize upd Ja5 a6 _ = Ja6
    intro ea6 ea1 ea2 ea3 eL0 ea4 ea5 ma6
    refine ⟨by show 3 ≤ sizeLine; decide, fun L1 nL1 => ?_⟩
    have eL1 : upd Ja6 L1 (.lst [.ref a4, .ref a5, .ref a6]) L1 = some (.lst [.ref a4, .ref a5, .ref a6]) := upd_same
    have ea1 := (Same.new (o := .lst [.ref a4, .ref a5, .ref a6]) nL1) _ _ ea1
    have ea2 := (Same.new (o := .lst [.ref a4, .ref a5, .ref a6]) nL1) _ _ ea2
    have ea3 := (Same.new (o := .lst [.ref a4, .ref a5, .ref a6]) nL1) _ _ ea3
    have eL0 := (Same.new (o := .lst [.ref a4, .ref a5, .ref a6]) nL1) _ _ eL0
    have ea4 := (Same.new (o := .lst [.ref a4, .ref a5, .ref a6]) nL1) _ _ ea4
    have ea5 := (Same.new (o := .lst [.ref a4, .ref a5, .ref a6]) nL1) _ _ ea5
    have ea6 := (Same.new (o := .lst [.ref a4, .ref a5, .ref a6]) nL1) _ _ ea6
    have mL1 := ma6.same (Same.new (o := .lst [.ref a4, .ref a5, .ref a6]) nL1)
    have nPL1 := (ma6.at_.ne nL1).1
    clear nL1
    revert mL1 eL1 ea1 ea2 ea3 eL0 ea4 ea5 ea6
    generalize upd Ja6 L1 _ = JL1
    intro eL1 ea1 ea2 ea3 eL0 ea4 ea5 ea6 mL1
    refine ⟨L0, L1, _, _, rfl, rfl, eL0, eL1, by show 3 + 3 ≤ sizeLine; decide, fun M1 nM1 => ?_⟩
    have ecat1 : ([V.ref a1, V.ref a2, V.ref a3] ++ [V.ref a4, V.ref a5, V.ref a6] : List V) = [V.ref a1, V.ref a2, V.ref a3, V.ref a4, V.ref a5, V.ref a6] := rfl
    rw [ecat1]
    have eM1 : upd JL1 M1 (.lst [.ref a1, .ref a2, .ref a3, .ref a4, .ref a5, .ref a6]) M1 = some (.lst [.ref a1, .ref a2, .ref a3, .ref a4, .ref a5, .ref a6]) := upd_same
    have ea1 := (Same.new (o := .lst [.ref a1, .ref a2, .ref a3, .ref a4, .ref a5, .ref a6]) nM1) _ _ ea1
    have ea2 := (Same.new (o := .lst [.ref a1, .ref a2, .ref a3, .ref a4, .ref a5, .ref a6]) nM1) _ _ ea2
    have ea3 := (Same.new (o := .lst [.ref a1, .ref a2, .ref a3, .ref a4, .ref a5, .ref a6]) nM1) _ _ ea3
    have eL0 := (Same.new (o := .lst [.ref a1, .ref a2, .ref a3, .ref a4, .ref a5, .ref a6]) nM1) _ _ eL0
    have ea4 := (Same.new (o := .lst [.ref a1, .ref a2, .ref a3, .ref a4, .ref a5, .ref a6]) nM1) _ _ ea4
    have ea5 := (Same.new (o := .lst [.ref a1, .ref a2, .ref a3, .ref a4, .ref a5, .ref a6]) nM1) _ _ ea5
    have ea6 := (Same.new (o := .lst [.ref a1, .ref a2, .ref a3, .ref a4, .ref a5, .ref a6]) nM1) _ _ ea6
    have eL1 := (Same.new (o := .lst [.ref a1, .ref a2, .ref a3, .ref a4, .ref a5, .ref a6]) nM1) _ _ eL1
    have mM1 := mL1.same (Same.new (o := .lst [.ref a1, .ref a2, .ref a3, .ref a4, .ref a5, .ref a6]) nM1)
    have nPM1 := (mL1.at_.ne nM1).1
    clear nM1
    revert mM1 eM1 ea1 ea2 ea3 eL0 ea4 ea5 ea6 eL1
    generalize upd JL1 M1 _ = JM1
    intro eM1 ea1 ea2 ea3 eL0 ea4 ea5 ea6 eL1 mM1
    try dsimp only [tNext, tSeq, tAsg, gName, tDrop]
    refine ⟨.ref M1, rfl, ?_⟩
    refine ⟨.int (nn), rfl, .int (long), rfl, .int (nn), rfl, by show 6 ≤ sizeLine; decide, fun a7 na7 => ?_⟩
    have ea7 : upd JM1 a7 (.tup [.str (Str.ofString "move"), .int (nn), .int (long), .int (1), .int (nn), .int (0)]) a7 = some (.tup [.str (Str.ofString "move"), .int (nn), .int (long), .int (1), .int (nn), .int (0)]) := upd_same
    have ea1 := (Same.new (o := .tup [.str (Str.ofString "move"), .int (nn), .int (long), .int (1), .int (nn), .int (0)]) na7) _ _ ea1
    have ea2 := (Same.new (o := .tup [.str (Str.ofString "move"), .int (nn), .int (long), .int (1), .int (nn), .int (0)]) na7) _ _ ea2
    have ea3 := (Same.new (o := .tup [.str (Str.ofString "move"), .int (nn), .int (long), .int (1), .int (nn), .int (0)]) na7) _ _ ea3
    have eL0 := (Same.new (o := .tup [.str (Str.ofString "move"), .int (nn), .int (long), .int (1), .int (nn), .int (0)]) na7) _ _ eL0
    have ea4 := (Same.new (o := .tup [.str (Str.ofString "move"), .int (nn), .int (long), .int (1), .int (nn), .int (0)]) na7) _ _ ea4
    have ea5 := (Same.new (o := .tup [.str (Str.ofString "move"), .int (nn), .int (long), .int (1), .int (nn), .int (0)]) na7) _ _ ea5
    have ea6 := (Same.new (o := .tup [.str (Str.ofString "move"), .int (nn), .int (long), .int (1), .int (nn), .int (0)]) na7) _ _ ea6
    have eL1 := (Same.new (o := .tup [.str (Str.ofString "move"), .int (nn), .int (long), .int (1), .int (nn), .int (0)]) na7) _ _ eL1
    have eM1 := (Same.new (o := .tup [.str (Str.ofString "move"), .int (nn), .int (long), .int (1), .int (nn), .int (0)]) na7) _ _ eM1
    have ma7 := mM1.same (Same.new (o := .tup [.str (Str.ofString "move"), .int (nn), .int (long), .int (1), .int (nn), .int (0)]) na7)
    have nPa7 := (mM1.at_.ne na7).1
    clear na7
    revert ma7 ea7 ea1 ea2 ea3 eL0 ea4 ea5 ea6 eL1 eM1
    generalize upd JM1 a7 _ = Ja7
    intro ea7 ea1 ea2 ea3 eL0 ea4 ea5 ea6 eL1 eM1 ma7
    refine ⟨.int (nn), rfl, Str.ofString "a", 2001, rfl, rfl, by decide, by decide, by decide +kernel, by show 4 ≤ sizeLine; decide, fun a8 na8 => ?_⟩
    have ea8 : upd Ja7 a8 (.tup [.str (Str.ofString "put"), .int (nn), .int (0), .str (Txt.mul (Str.ofString "a") 2001)]) a8 = some (.tup [.str (Str.ofString "put"), .int (nn), .int (0), .str (Txt.mul (Str.ofString "a") 2001)]) := upd_same
    have ea1 := (Same.new (o := .tup [.str (Str.ofString "put"), .int (nn), .int (0), .str (Txt.mul (Str.ofString "a") 2001)]) na8) _ _ ea1
    have ea2 := (Same.new (o := .tup [.str (Str.ofString "put"), .int (nn), .int (0), .str (Txt.mul (Str.ofString "a") 2001)]) na8) _ _ ea2
    have ea3 := (Same.new (o := .tup [.str (Str.ofString "put"), .int (nn), .int (0), .str (Txt.mul (Str.ofString "a") 2001)]) na8) _ _ ea3
    have eL0 := (Same.new (o := .tup [.str (Str.ofString "put"), .int (nn), .int (0), .str (Txt.mul (Str.ofString "a") 2001)]) na8) _ _ eL0
    have ea4 := (Same.new (o := .tup [.str (Str.ofString "put"), .int (nn), .int (0), .str (Txt.mul (Str.ofString "a") 2001)]) na8) _ _ ea4
    have ea5 := (Same.new (o := .tup [.str (Str.ofString "put"), .int (nn), .int (0), .str (Txt.mul (Str.ofString "a") 2001)]) na8) _ _ ea5
    have ea6 := (Same.new (o := .tup [.str (Str.ofString "put"), .int (nn), .int (0), .str (Txt.mul (Str.ofString "a") 2001)]) na8) _ _ ea6
    have eL1 := (Same.new (o := .tup [.str (Str.ofString "put"), .int (nn), .int (0), .str (Txt.mul (Str.ofString "a") 2001)]) na8) _ _ eL1
    have eM1 := (Same.new (o := .tup [.str (Str.ofString "put"), .int (nn), .int (0), .str (Txt.mul (Str.ofString "a") 2001)]) na8) _ _ eM1
    have ea7 := (Same.new (o := .tup [.str (Str.ofString "put"), .int (nn), .int (0), .str (Txt.mul (Str.ofString "a") 2001)]) na8) _ _ ea7
    have ma8 := ma7.same (Same.new (o := .tup [.str (Str.ofString "put"), .int (nn), .int (0), .str (Txt.mul (Str.ofString "a") 2001)]) na8)
    have nPa8 := (ma7.at_.ne na8).1
    clear na8
    revert ma8 ea8 ea1 ea2 ea3 eL0 ea4 ea5 ea6 eL1 eM1 ea7
    generalize upd Ja7 a8 _ = Ja8
    intro ea8 ea1 ea2 ea3 eL0 ea4 ea5 ea6 eL1 eM1 ea7 ma8
    refine ⟨by show 2 ≤ sizeLine; decide, fun L2 nL2 => ?_⟩
    have eL2 : upd Ja8 L2 (.lst [.ref a7, .ref a8]) L2 = some (.lst [.ref a7, .ref a8]) := upd_same
    have ea1 := (Same.new (o := .lst [.ref a7, .ref a8]) nL2) _ _ ea1
    have ea2 := (Same.new (o := .lst [.ref a7, .ref a8]) nL2) _ _ ea2
    have ea3 := (Same.new (o := .lst [.ref a7, .ref a8]) nL2) _ _ ea3
    have eL0 := (Same.new (o := .lst [.ref a7, .ref a8]) nL2) _ _ eL0
    have ea4 := (Same.new (o := .lst [.ref a7, .ref a8]) nL2) _ _ ea4
    have ea5 := (Same.new (o := .lst [.ref a7, .ref a8]) nL2) _ _ ea5
    have ea6 := (Same.new (o := .lst [.ref a7, .ref a8]) nL2) _ _ ea6
    have eL1 := (Same.new (o := .lst [.ref a7, .ref a8]) nL2) _ _ eL1
    have eM1 := (Same.new (o := .lst [.ref a7, .ref a8]) nL2) _ _ eM1
    have ea7 := (Same.new (o := .lst [.ref a7, .ref a8]) nL2) _ _ ea7
    have ea8 := (Same.new (o := .lst [.ref a7, .ref a8]) nL2) _ _ ea8
    have mL2 := ma8.same (Same.new (o := .lst [.ref a7, .ref a8]) nL2)
    have nPL2 := (ma8.at_.ne nL2).1
    clear nL2
    revert mL2 eL2 ea1 ea2 ea3 eL0 ea4 ea5 ea6 eL1 eM1 ea7 ea8
    generalize upd Ja8 L2 _ = JL2
    intro eL2 ea1 ea2 ea3 eL0 ea4 ea5 ea6 eL1 eM1 ea7 ea8 mL2
    refine ⟨M1, L2, _, _, rfl, rfl, eM1, eL2, by show 6 + 2 ≤ sizeLine; decide, fun M2 nM2 => ?_⟩
    have ecat2 : ([V.ref a1, V.ref a2, V.ref a3, V.ref a4, V.ref a5, V.ref a6] ++ [V.ref a7, V.ref a8] : List V) = [V.ref a1, V.ref a2, V.ref a3, V.ref a4, V.ref a5, V.ref a6, V.ref a7, V.ref a8] := rfl
    rw [ecat2]
    have eM2 : upd JL2 M2 (.lst [.ref a1, .ref a2, .ref a3, .ref a4, .ref a5, .ref a6, .ref a7, .ref a8]) M2 = some (.lst [.ref a1, .ref a2, .ref a3, .ref a4, .ref a5, .ref a6, .ref a7, .ref a8]) := upd_same
    have ea1 := (Same.new (o := .lst [.ref a1, .ref a2, .ref a3, .ref a4, .ref a5, .ref a6, .ref a7, .ref a8]) nM2) _ _ ea1
    have ea2 := (Same.new (o := .lst [.ref a1, .ref a2, .ref a3, .ref a4, .ref a5, .ref a6, .ref a7, .ref a8]) nM2) _ _ ea2
    have ea3 := (Same.new (o := .lst [.ref a1, .ref a2, .ref a3, .ref a4, .ref a5, .ref a6, .ref a7, .ref a8]) nM2) _ _ ea3
    have eL0 := (Same.new (o := .lst [.ref a1, .ref a2, .ref a3, .ref a4, .ref a5, .ref a6, .ref a7, .ref a8]) nM2) _ _ eL0
    have ea4 := (Same.new (o := .lst [.ref a1, .ref a2, .ref a3, .ref a4, .ref a5, .ref a6, .ref a7, .ref a8]) nM2) _ _ ea4
    have ea5 := (Same.new (o := .lst [.ref a1, .ref a2, .ref a3, .ref a4, .ref a5, .ref a6, .ref a7, .ref a8]) nM2) _ _ ea5
    have ea6 := (Same.new (o := .lst [.ref a1, .ref a2, .ref a3, .ref a4, .ref a5, .ref a6, .ref a7, .ref a8]) nM2) _ _ ea6
    have eL1 := (Same.new (o := .lst [.ref a1, .ref a2, .ref a3, .ref a4, .ref a5, .ref a6, .ref a7, .ref a8]) nM2) _ _ eL1
    have eM1 := (Same.new (o := .lst [.ref a1, .ref a2, .ref a3, .ref a4, .ref a5, .ref a6, .ref a7, .ref a8]) nM2) _ _ eM1
    have ea7 := (Same.new (o := .lst [.ref a1, .ref a2, .ref a3, .ref a4, .ref a5, .ref a6, .ref a7, .ref a8]) nM2) _ _ ea7
    have ea8 := (Same.new (o := .lst [.ref a1, .ref a2, .ref a3, .ref a4, .ref a5, .ref a6, .ref a7, .ref a8]) nM2) _ _ ea8
    have eL2 := (Same.new (o := .lst [.ref a1, .ref a2, .ref a3, .ref a4, .ref a5, .ref a6, .ref a7, .ref a8]) nM2) _ _ eL2
    have mM2 := mL2.same (Same.new (o := .lst [.ref a1, .ref a2, .ref a3, .ref a4, .ref a5, .ref a6, .ref a7, .ref a8]) nM2)
    have nPM2 := (mL2.at_.ne nM2).1
    clear nM2
    revert mM2 eM2 ea1 ea2 ea3 eL0 ea4 ea5 ea6 eL1 eM1 ea7 ea8 eL2
    generalize upd JL2 M2 _ = JM2
    intro eM2 ea1 ea2 ea3 eL0 ea4 ea5 ea6 eL1 eM1 ea7 ea8 eL2 mM2
    try dsimp only [tNext, tSeq, tAsg, gName, tDrop]
    have all : ∀ y ∈ [(.ref a1 : V), (.ref a2 : V), (.ref a3 : V), (.ref a4 : V), (.ref a5 : V), (.ref a6 : V), (.ref a7 : V), (.ref a8 : V)], TgS JM2 y := allP' (p := TgS) (ts_tup ea1 (by simp) (allP' (p := Od) (od_str (by decide +kernel) (by decide +kernel)) (allP' (p := Od) (od_int _) (allP' (p := Od) (od_int _) (allN' (p := Od)))))) (allP' (p := TgS) (ts_tup ea2 (by simp) (allP' (p := Od) (od_str (by decide +kernel) (by decide +kernel)) (allP' (p := Od) (od_int _) (allP' (p := Od) (od_int _) (allN' (p := Od)))))) (allP' (p := TgS) (ts_tup ea3 (by simp) (allP' (p := Od) (od_str (by decide +kernel) (by decide +kernel)) (allP' (p := Od) (od_int _) (allP' (p := Od) (od_int _) (allP' (p := Od) (od_str (by decide +kernel) (by decide +kernel)) (allN' (p := Od))))))) (allP' (p := TgS) (ts_tup ea4 (by simp) (allP' (p := Od) (od_str (by decide +kernel) (by decide +kernel)) (allP' (p := Od) (od_int _) (allP' (p := Od) (od_int _) (allP' (p := Od) (od_str (by decide +kernel) (by decide +kernel)) (allN' (p := Od))))))) (allP' (p := TgS) (ts_tup ea5 (by simp) (allP' (p := Od) (od_str (by decide +kernel) (by decide +kernel)) (allP' (p := Od) (od_int _) (allP' (p := Od) (od_int _) (allP' (p := Od) (od_int _) (allP' (p := Od) (od_int _) (allP' (p := Od) (od_int _) (allN' (p := Od))))))))) (allP' (p := TgS) (ts_tup ea6 (by simp) (allP' (p := Od) (od_str (by decide +kernel) (by decide +kernel)) (allP' (p := Od) (od_int _) (allP' (p := Od) od_non (allN' (p := Od)))))) (allP' (p := TgS) (ts_tup ea7 (by simp) (allP' (p := Od) (od_str (by decide +kernel) (by decide +kernel)) (allP' (p := Od) (od_int _) (allP' (p := Od) (od_int _) (allP' (p := Od) (od_int _) (allP' (p := Od) (od_int _) (allP' (p := Od) (od_int _) (allN' (p := Od))))))))) (allP' (p := TgS) (ts_tup ea8 (by simp) (allP' (p := Od) (od_str (by decide +kernel) (by decide +kernel)) (allP' (p := Od) (od_int _) (allP' (p := Od) (od_int _) (allP' (p := Od) big (allN' (p := Od))))))) (allN' (p := TgS)))))))))
    refine ⟨.ref p, rfl, p, 8, rfl, by decide, by decide, l, mM2.at_, fun v HF v0 v1 hF bF => ?_⟩
    obtain ⟨y, ey, my⟩ := atI_in (xs := [(.ref a1 : V), (.ref a2 : V), (.ref a3 : V), (.ref a4 : V), (.ref a5 : V), (.ref a6 : V), (.ref a7 : V), (.ref a8 : V)]) v0 v1
    exact ⟨M2, _, v, y, rfl, rfl, sq_of (bF _ _ nPM2 eM2), ey, q y HF ((all y my).but mM2.at_ hF bF) hF (mM2.but.trans bF)⟩
end
end LawK
set_option maxHeartbeats 4000000
/-! The law's own def, called by the caller of claims alone: what runs around it is known (no repr is under way). -/
namespace Ev
open PySem PySem.Spec PyProof.Rows L2
/-- the def at f keeps sp, called where A runs around it -/
structure FnAt (A : Around) (P : Program) (w : World) (K : PySem.W.Frag) (mg : Str → Option Value) (base : Heap) (CX : CXT) (f : Addr) (fd : FuncData) (ps : List Str) (sp : Sp) : Prop where
  len : ∀ vs H Q E, sp vs H Q E → vs.length = ps.length
  run : ∀ (outer : List Env) (s : Shared) (H : Hp) (args : Args) (us : List Value) (vs : List V) (Q : VK) (E : XK), Env0 P w K mg base A outer s H → BindsTo s fd args (ps.zip us) → Vals vs us → sp vs H Q E →
    codeAny (model P w) A (.call (.ref f) args) (CR CX outer P w H s Q E) s
section
variable {A : Around} {CX : CXT} {P : Program} {w : World} {K : PySem.W.Frag} {mg : Str → Option Value} {base : Heap} {k : Nat}
theorem fun_at {x qual : Str} {st : Stmt} {f : Addr} {fd : FuncData} {N ps : List Str} {sp : Sp} (F : Fun K x qual st f fd) (S : FnScope N ps (defScope st)) (hr : Room (k + 1) A) (len : ∀ vs H Q E, sp vs H Q E → vs.length = ps.length)
    (hbody : ∀ (cdv : Value) (outer : List Env) (s : Shared) (H : Hp) (vs : List V) (Q : VK) (E : XK), Room k (A.deeper (envOfC qual (defScope st) s.heap.objs.size f cdv)) → sp vs H Q E →
      ∃ t, PSs (cxOf CX P w K mg base N qual (defScope st) f cdv A outer s H E).nox (defBody st) t ∧ t { nx := fun _ H' => Q .non H', rt := Q } (start N vs) H) : FnAt A P w K mg base CX f fd ps sp := by
  obtain ⟨oc, od, kV, doc, pm, an, cdv, ct, osl, rfl, lk, hcd⟩ := F.ex
  refine ⟨len, fun outer s H args us vs Q E e0 hb r hsp => ?_⟩
  have lim : s.heap.NoLimit := e0.mod.nolimit.keeps fun b o e => (e0.bs b o e).1
  have KX : K.In s.heap := e0.mod.kin.keeps fun b o e => (e0.bs b o e).1
  have kinds : ∀ y ∈ ps.zip us, (defScope st).names.lookup y.1 = some .local ∨ ((defScope st).names.lookup y.1 = some .cell ∧ ((cellsFrom (s.heap.objs.size + 1) (defScope st).names []).lookup y.1).isSome = true) := by
    rintro ⟨n, v⟩ hy
    exact (S.par n (List.of_mem_zip hy).1).imp id fun q => ⟨q, PySem.W.cellsFrom_some _ _ _ (.inl q)⟩
  refine codeAny_call_function hr.depth (KX _ _ lk) rfl S.co S.gen rfl (PySem.W.codeRec_of KX hcd) (hb _ _ _ _ (wpAny_newFunctionEnv_cells S.kind kinds fun env he s1 x => ?_))
  subst he
  obtain ⟨t, ht, hq⟩ := hbody cdv outer s H vs Q E (hr.deeper _) hsp
  have I := inv_start (CX := CX) (P := P) (w := w) (mg := mg) (base := base) (E := E) S hr.hd e0 (len _ _ _ _ hsp) r x
  refine ⟨lim.keeps x.toInCall.keep, codeAny_func (wpAny_mono (ht.nox.run [] s1 (start N vs) H _ I hq) (fun fl s' hs => ?_) fun e s' hs => hs)⟩
  cases fl with
  | ret u =>
    obtain ⟨v, σ', H', J, rv, q⟩ := hs
    exact ⟨v, H', J.os, J.bare, J.base, J.hok, rv, q⟩
  | next =>
    obtain ⟨σ', H', J, q⟩ := hs
    exact ⟨V.non, H', J.os, J.bare, J.base, J.hok, rfl, q⟩
  | brk => exact hs.elim fun _ z => z.elim fun _ y => y.2.elim
  | cont => exact hs.elim fun _ z => z.elim fun _ y => y.2.elim
end
section
variable {P : Program} {w : World} {K : PySem.W.Frag} {mg mb : Str → Option Value} {fa a : Addr} {fd : FuncData} {x : Str} {sp : Sp} {s₁ : Shared} {vs : List Value} {ns : List Int}
/-- from one abstract heap: nothing is tracked but, perhaps, the script -/
theorem law_at0 {H : Hp} (KX : K.In s₁.heap) (hns : s₁.heap.Ns mainGlobals mg) (hb : s₁.heap.Ns builtinsNs mb) (hbb : ∀ y : Str, y ≠ "__name__" → mb y = bootBuiltins y) (hlim : s₁.heap.NoLimit) (hg : s₁.gens = #[])
    (ha : s₁.heap.get? a = some { cls := .type "list", data := .seq vs.toArray }) (F : ∀ base : Heap, K.In base → base.Ns mainGlobals mg → FnAt callerA P w K mg base CX0 fa fd [x] sp)
    (hbind : ∀ (s : Shared) (u : Value), BindsTo s fd ⟨[u], []⟩ [(x, u)]) (hO : Only H) (hok : HOk P w H s₁.heap) (hA : ∀ b, H b ≠ none → b = a) (hK : H a ≠ none → K.lookup a = none)
    (hsp : sp [.ref a] H (fun v _ => v = .bl true) fun _ _ _ => False) :
    codeAny (model P w) callerA (.call (.ref fa) ⟨[.ref a], []⟩) (fun r s' => r = .ok (.ret (.bool true)) ∧ OldK s₁.heap s'.heap ∧ s'.os = s₁.os ∧ AllBare s'.gens) s₁ := by
  have off : ∀ {b : Addr} {o : Obj}, s₁.heap.get? b = some o → o ≠ { cls := .type "list", data := .seq vs.toArray } → H b = none := fun {b o} e n => by
    refine Classical.byContradiction fun z => n ?_
    have eb := hA b z
    rw [eb, ha] at e
    exact (Option.some.inj e).symm
  have nsK : ∀ {b : Addr} {m : Str → Option Value}, s₁.heap.Ns b m → (hidT s₁.heap H).Ns b m := fun {b m} ⟨o, es, ep, e, d, r⟩ => ⟨o, es, ep, hidT_get e (off e fun z => by rw [z] at d; cases d), d, r⟩
  have hKb : K.In (hidT s₁.heap H) := fun b o e => hidT_get (KX b o e) (Classical.byContradiction fun z => by
    have eb := hA b z
    rw [eb] at e z
    rw [hK z] at e
    cases e)
  have hM : Mod K mg (hidT s₁.heap H) := ⟨hKb, nsK hns, ⟨mb, nsK hb, hbb⟩, hlim.elim fun mc z => ⟨mc, nsK z.1, z.2⟩⟩
  have e0 : Env0 P w K mg (hidT s₁.heap H) callerA [] s₁ H := ⟨rfl, hM, fun b o e => of_hidT e, Nat.le_of_eq (hidT_size _ _), trivial, fun b hb => absurd (show b ∈ ([] : List Addr) from hb) (by simp), hok, .of_eq hg⟩
  refine codeAny_mono ((F _ hKb (nsK hns)).run [] s₁ H ⟨[.ref a], []⟩ [.ref a] [.ref a] _ _ e0 (hbind s₁ (.ref a)) (.cons rfl .nil) hsp) fun r s' h => ?_
  rcases r with e | fl
  · exact False.elim h
  cases fl with
  | next => exact False.elim h
  | brk => exact False.elim h
  | cont => exact False.elim h
  | ret u =>
    obtain ⟨v, H', os, bare, un, hok', r', rfl⟩ := h
    obtain rfl : u = Value.bool true := r'
    refine ⟨rfl, OldK.of_keep fun b o e => ?_, os, bare⟩
    rcases hO b with z | ⟨ob, xs, z⟩
    · exact un.keep b o e z (fun y => absurd (show b ∈ ([] : List Addr) from y) (by simp)) (by simp)
    · have e1 := (hok b _ z).1
      rw [e] at e1
      cases e1
      exact (hok' b _ (un.frzs b _ _ z)).1
theorem law_at (KX : K.In s₁.heap) (hns : s₁.heap.Ns mainGlobals mg) (hb : s₁.heap.Ns builtinsNs mb) (hbb : ∀ y : Str, y ≠ "__name__" → mb y = bootBuiltins y) (hlim : s₁.heap.NoLimit) (hg : s₁.gens = #[])
    (ha : s₁.heap.get? a = some { cls := .type "list", data := .seq vs.toArray }) (hi : IntsAre vs ns) (hl : ns.length ≤ sizeLine)
    (F : ∀ base : Heap, K.In base → base.Ns mainGlobals mg → FnAt callerA P w K mg base CX0 fa fd [x] sp) (hbind : ∀ (s : Shared) (u : Value), BindsTo s fd ⟨[u], []⟩ [(x, u)])
    (hsp : ∀ H : Hp, Only H → SqL K H a (ns.map V.int) → sp [.ref a] H (fun v _ => v = .bl true) fun _ _ _ => False) :
    codeAny (model P w) callerA (.call (.ref fa) ⟨[.ref a], []⟩) (fun r s' => r = .ok (.ret (.bool true)) ∧ OldK s₁.heap s'.heap ∧ s'.os = s₁.os ∧ AllBare s'.gens) s₁ := by
  have rv := vals_ints hi
  cases hk : K.lookup a with
  | some o =>
    have e := KX a o hk
    rw [ha] at e
    cases e
    have hO : Only (fun _ => none) := fun _ => .inl rfl
    exact law_at0 KX hns hb hbb hlim hg ha F hbind hO (fun b u z => by cases z) (fun b z => absurd rfl z) (fun z => absurd rfl z)
      (hsp _ hO (.inr ⟨_, vs.toArray, _, hk, rfl, rfl, rfl, by rw [List.size_toArray, hi.length]; exact hl, by simpa using rv⟩))
  | none =>
    have same : upd (fun _ => none) a (.frz { cls := .type "list", data := .seq vs.toArray } (.lst (ns.map V.int))) a = some (.frz { cls := .type "list", data := .seq vs.toArray } (.lst (ns.map V.int))) := upd_same
    have hO : Only (upd (fun _ => none) a (.frz { cls := .type "list", data := .seq vs.toArray } (.lst (ns.map V.int)))) := fun b => by
      by_cases h : b = a
      · exact .inr ⟨_, _, by rw [h]; exact same⟩
      · exact .inl (by rw [upd_ne h])
    refine law_at0 KX hns hb hbb hlim hg ha F hbind hO (fun b u z => ?_) (fun b z => ?_) (fun _ => hk) (hsp _ hO (.inl (.inr ⟨_, same⟩)))
    · by_cases h : b = a
      · subst h
        rw [same] at z
        cases z
        exact ⟨ha, by rw [List.length_map]; exact hl, vs, _, rv, ha⟩
      · rw [upd_ne h] at z
        cases z
    · exact Classical.byContradiction fun h => z (by rw [upd_ne h])
end
/-- the end of a law's row -/
theorem walk_at {l : PySem.W.OpenLaw} {n : Nat} {q : Program} {loose : List Str} {XP : (Str → Option Value) → Heap → Prop} {YP : World → Heap → Prop} {d : DefRec} {K : Params → PySem.W.Frag} {sp : PySem.W.Frag → Sp} {x : Str}
    (hn : l.most = some n) (hn2 : n ≤ sizeLine) (hdf : d.params.defaults = []) (hY : ∀ (w : World) (h : Heap), YP w h → (K w.params).In h)
    (F : ∀ (w : World) (mg : Str → Option Value) (fa : Addr) (h : Heap), (K w.params).In h → h.Ns mainGlobals mg → mg d.name = some (.ref fa) →
      ∃ fd : FuncData, (∀ (s : Shared) (u : Value), BindsTo s fd ⟨[u], []⟩ [(x, u)]) ∧ ∀ base : Heap, (K w.params).In base → base.Ns mainGlobals mg → FnAt callerA l.prog w (K w.params) mg base CX0 fa fd [x] (sp (K w.params)))
    (hsp : ∀ (K : PySem.W.Frag) (H : Hp) (a : Addr) (ns : List Int), ns.length ≤ n → Only H → SqL K H a (ns.map V.int) → sp K [.ref a] H (fun v _ => v = .bl true) fun _ _ _ => False) :
    PySem.W.WalkO q loose XP YP l.row.toRowW d [] (fun f vs => PySem.call f vs) :=
  Att.attach_call hn hdf fun w s₀ s₁ mg mb fa o pm cd doc a vs ns G Y ho hd hcd hmg hobj hints hlen hg => by
    obtain ⟨fd, hb, hF⟩ := F w mg fa _ (hY w _ Y) G.T.g hmg
    exact law_at (hY w _ Y) G.T.g G.T.b G.T.builtins G.T.nolimit hg hobj hints (Nat.le_trans hlen hn2) hF hb fun H hO hS => hsp _ H a ns hlen hO hS
/-- C() of an own error class without an __init__ of its own -/
theorem pe_excP {X : Cx} {x : Str} {C : Addr} {p pos : Pos} {bmB : List Value} {B newId initId : String} (F : ExcBaseFacts B newId initId bmB) (q : PySem.W.excIn X.K C bmB newId = true) (kC : PySem.W.keepIn X.K (.ref C) = true) (hg : Gl X x) (hm : X.mg x = some (.ref C))
    (hdb : (x == ("__debug__" : Str)) = false := by decide) : PE X (.Call (.Name x p) [] [] pos) (fun _ H Q => ∀ a, H a = none → Q (.ref a) (upd H a (exo a C none))) := by
  refine ⟨fun pins s σ H Q I h => ?_⟩
  refine wpAny_Call_Name_kw (ld_glob I hg hm ?_ hdb)
  refine PySem.W.callWith_K0 I.kIn kC ?_
  show wpAny _ _ (call (.ref C) []) _ _ _
  obtain ⟨bm, N, nm, qn, bs, hdct, sn, sub, ab, col, dd, k0, k1, k2, k3, k5, mN, hC, hN, hni, T⟩ := exc_obj I.kIn q
  refine wpAny_call_exc_subT F T hC hN hni (fun h' a hm => ?_) (by show 0 ≤ sizeLine; decide)
  have hn : H a = none := I.hok.gone hm.new
  obtain ⟨t, ht, _, _⟩ := hm.there
  exact ⟨.ref a, upd H a (exo a C none), I.laidN hm.keeps hm.new hn (exo_ok ht), rfl, h a hn⟩
end Ev
set_option maxHeartbeats 4000000
namespace LawK
open PySem PySem.Spec PyProof.Rows L2 Ev

theorem sm_sh {v : V} (h : SmS v) : (cod (shV v)).all sgC = true ∧ (cod (shV v)).length ≤ 30 := by
  rcases h with ⟨i, rfl, h0, h1⟩ | ⟨z, rfl, s, l⟩
  · obtain ⟨n, rfl⟩ := Int.eq_ofNat_of_zero_le h0
    refine ⟨num_sg n, ?_⟩
    have := num_len (n := n) (by omega)
    rw [← cod_len] at this
    exact Nat.le_trans this (by decide)
  · exact ⟨s, by rw [← cod_len] at l; exact l⟩

theorem spL_sm : ∀ (xs : List V), (∀ v ∈ xs, SmS v) → (spL xs).all sgC = true ∧ (spL xs).length ≤ 31 * xs.length
  | [], _ => ⟨rfl, by simp [spL]⟩
  | v :: xs, h => by
    obtain ⟨a, b⟩ := spL_sm xs fun u hu => h u (List.mem_cons_of_mem _ hu)
    obtain ⟨c, d⟩ := sm_sh (h v List.mem_cons_self)
    refine ⟨?_, ?_⟩
    · show (32 :: (cod (shV v) ++ spL xs)).all sgC = true
      rw [List.all_cons, List.all_append, c, a]
      decide
    · show (32 :: (cod (shV v) ++ spL xs)).length ≤ _
      rw [List.length_cons, List.length_append, List.length_cons]
      omega
theorem shw_sm {xs : List V} (h : ∀ v ∈ xs, SmS v) (h1 : 1 ≤ xs.length) (h6 : xs.length ≤ 6) : sgB (shw xs) = true ∧ (shw xs).length ≤ 300 := by
  cases xs with
  | nil => simp at h1
  | cons v xs =>
    obtain ⟨a, b⟩ := spL_sm xs fun u hu => h u (List.mem_cons_of_mem _ hu)
    obtain ⟨c, d⟩ := sm_sh (h v List.mem_cons_self)
    rw [List.length_cons] at h6
    refine ⟨?_, ?_⟩
    · show (cod (shw (v :: xs))).all sgC = true
      rw [shw_cod, List.all_append, c, a]
      rfl
    · rw [← cod_len, shw_cod, List.length_append]
      omega
theorem readT_line {x : V} {xs : List V} (h : readT x = some xs) : lineO x = some xs := by
  cases e : lineO x with
  | none =>
    rw [readT_none e] at h
    cases h
  | some ys =>
    by_cases c : HasTx ys
    · rw [readT_yes e c] at h
      exact h
    · rw [readT_no e c] at h
      cases h
def spLaw (K : PySem.W.Frag) : Sp := fun vs H Q _ => ∃ (a : Addr) (ns : List Int), vs = [.ref a] ∧ SqL K H a (ns.map V.int) ∧ ∀ H', Q (.bl true) H'
section
variable {P : Program} {w : World} {K : PySem.W.Frag} {mg : Str → Option Value} {base : Heap}
abbrev sLaw : Stmt := topS 45
theorem scLaw : FnScope ["script", "hand", "texts", "turn", "edit", "bent", "text", "at", "sign", "other", "due", "odd"] ["script"] (defScope sLaw) := ⟨rfl, rfl, rfl, by decide +kernel, rfl, by decide +kernel, by decide +kernel⟩
theorem ok_law {f : Addr} {fd : FuncData} (F : Fun K "law" "law" sLaw f fd)  {fPEditText : Addr} {fdPEditText : FuncData} (DPEditText : Dk P w K mg base "edit_text" sPEditText ["edit"] 6 spEText0 fPEditText fdPEditText) {fPReadEdit : Addr} {fdPReadEdit : FuncData} (DPReadEdit : Dk P w K mg base "read_edit" sPReadEdit ["text"] 6 spREdit fPReadEdit fdPReadEdit) {fHand : Addr} {fdHand : FuncData} (DHand : Dk P w K mg base "_law_hand" sHand ["script"] 1 (spHand K) fHand fdHand) {fDraw : Addr} {fdDraw : FuncData} (DDraw : Dk P w K mg base "_law_draw" sDraw ["hand", "many"] 1 spDraw fDraw fdDraw) {fIs : Addr} {fdIs : FuncData} (DIs : Dk P w K mg base "_law_is" sIs ["told", "due"] 3 (spIsR R3) fIs fdIs) {fDeep : Addr} {fdDeep : FuncData} (DDeep : Dk P w K mg base "_law_deep" sDeep ["hand"] 2 spLDeep fDeep fdDeep) {fAnySign : Addr} {fdAnySign : FuncData} (DAnySign : Dk P w K mg base "_law_any_sign" sAnySign ["hand"] 2 spAnySign fAnySign fdAnySign) {fTexts : Addr} {fdTexts : FuncData} (DTexts : Dk P w K mg base "_law_texts" sTexts ["hand", "most"] 5 spLTexts fTexts fdTexts) {fLEdit : Addr} {fdLEdit : FuncData} (DLEdit : Dk P w K mg base "_law_edit" sLEdit ["hand", "texts"] 5 spLEdit fLEdit fdLEdit) {fNoEditL : Addr} {fdNoEditL : FuncData} (DNoEditL : Dk P w K mg base "_law_no_edit" sNoEditL ["hand", "texts"] 3 spNoEdit fNoEditL fdNoEditL) {fLine : Addr} {fdLine : FuncData} (DLine : Dk P w K mg base "_law_line" sLine ["hand"] 5 spLine fLine fdLine) {fEditText : Addr} {fdEditText : FuncData} (DEditText : Dk P w K mg base "_law_edit_text" sEditText ["edit"] 1 spLEText fEditText fdEditText) {fRead : Addr} {fdRead : FuncData} (DRead : Dk P w K mg base "_law_read" sRead ["text"] 3 spLRead fRead fdRead) {fDrawn : Addr} {fdDrawn : FuncData} (DDrawn : Dk P w K mg base "_law_drawn" sDrawn ["hand"] 6 spDrawn fDrawn fdDrawn) {fBent : Addr} {fdBent : FuncData} (DBent : Dk P w K mg base "_law_bent" sBent ["hand", "thing"] 2 spBent fBent fdBent) {fIsTold : Addr} {fdIsTold : FuncData} (DIsTold : Dk P w K mg base "_law_is_told" sIsTold ["thing"] 8 spIsTold fIsTold fdIsTold) (T : Glob mg) : FnAt callerA P w K mg base CX0 f fd ["script"] (spLaw K) := by
  refine fun_at (k := 12) F scLaw ⟨rfl, by decide, by decide⟩ (fun vs H Q E h => ?_) (fun cdv outer s H vs Q E hr h => ?_)
  · obtain ⟨a, ns, rfl, _⟩ := h
    rfl
  · refine ⟨_, (pss_cons (ps_set (i := 1) scLaw.nd rfl (.inl rfl) (pe_call DHand.ok (hr.mono (by decide)) (by rfl) DHand.g DHand.F.kp DHand.b .nil pass0 (pa_cons (pv 0) pa_nil)))
      (pss_cons (ps_set (i := 2) scLaw.nd rfl (.inl rfl) (pe_call DTexts.ok (hr.mono (by decide)) (by rfl) DTexts.g DTexts.F.kp DTexts.b .nil pass0 (pa_cons (pv 1) (pa_cons pe_int pa_nil))))
      (pss_cons (ps_for PassesOwn.never rfl (pi_range1 (by rfl) T.range (pa_cons pe_int pa_nil)) (pg_name (i := 3) scLaw.nd rfl (.inl rfl))
      (pss_cons (ps_set (i := 4) scLaw.nd rfl (.inl rfl) (pe_call DLEdit.ok (hr.mono (by decide)) (by rfl) DLEdit.g DLEdit.F.kp DLEdit.b .nil pass0 (pa_cons (pv 1) (pa_cons (pv 2) pa_nil))))
        (pss_cons (ps_if (pt_cmpR op_eq (pe_call DDraw.ok (hr.mono (by decide)) (by rfl) DDraw.g DDraw.F.kp DDraw.b .nil pass0 (pa_cons (pv 1) (pa_cons pe_int pa_nil))) pe_int (nomark _))
        (pss_one (ps_set (i := 4) scLaw.nd rfl (.inl rfl) (pe_call DDrawn.ok (hr.mono (by decide)) (by rfl) DDrawn.g DDrawn.F.kp DDrawn.b .nil pass0 (pa_cons (pv 1) pa_nil))))
        pss_nil)
        (pss_cons (ps_set (i := 5) scLaw.nd rfl (.inl rfl) (pe_call DBent.ok (hr.mono (by decide)) (by rfl) DBent.g DBent.F.kp DBent.b .nil pass0 (pa_cons (pv 1) (pa_cons (pv 4) pa_nil))))
        (pss_cons (ps_if (PW.pt (pw_or (pt_not (pt_val (pe_call DIsTold.ok (hr.mono (by decide)) (by rfl) DIsTold.g DIsTold.F.kp DIsTold.b .nil pass0 (pa_cons (pv 4) pa_nil)))) (pw_or (pt_not (pt_val (pe_call DIsTold.ok (hr.mono (by decide)) (by rfl) DIsTold.g DIsTold.F.kp DIsTold.b .nil pass0 (pa_cons (pv 5) pa_nil)))) (pw_or1 (pt_not (pt_val (pe_call DIsTold.ok (hr.mono (by decide)) (by rfl) DIsTold.g DIsTold.F.kp DIsTold.b .nil pass0 (pa_cons (pe_call DNoEditL.ok (hr.mono (by decide)) (by rfl) DNoEditL.g DNoEditL.F.kp DNoEditL.b .nil pass0 (pa_cons (pv 1) (pa_cons (pv 2) pa_nil))) pa_nil))))))))
        (pss_one (ps_ret pe_bl))
        pss_nil)
        (pss_cons (ps_set (i := 6) scLaw.nd rfl (.inl rfl) (pe_call DEditText.ok (hr.mono (by decide)) (by rfl) DEditText.g DEditText.F.kp DEditText.b .nil pass0 (pa_cons (pv 4) pa_nil)))
        (pss_cons (ps_set (i := 7) scLaw.nd rfl (.inl rfl) (pe_call DDraw.ok (hr.mono (by decide)) (by rfl) DDraw.g DDraw.F.kp DDraw.b .nil pass0 (pa_cons (pv 1) (pa_cons (pe_op op_add (pe_callB call_lenZ (by rfl) T.len PySem.boot_len (pa_cons (pv 6) pa_nil)) pe_int) pa_nil))))
        (pss_cons (ps_set (i := 8) scLaw.nd rfl (.inl rfl) (pe_ix ix_list (pe_lst (pa_cons pe_str (pa_cons pe_str (pa_cons pe_str (pa_cons pe_str (pa_cons pe_str (pa_cons pe_str (pa_cons (pe_call DAnySign.ok (hr.mono (by decide)) (by rfl) DAnySign.g DAnySign.F.kp DAnySign.b .nil pass0 (pa_cons (pv 1) pa_nil)) pa_nil)))))))) (pe_call DDraw.ok (hr.mono (by decide)) (by rfl) DDraw.g DDraw.F.kp DDraw.b .nil pass0 (pa_cons (pv 1) (pa_cons pe_int pa_nil))) (fun _ _ => rfl)))
        (pss_one (ps_for PassesOwn.never rfl (pi_list (pe_lst (pa_cons (pv 6) (pa_cons (pe_op op_add_str (pe_op op_add_str (pe_slice sl_str (pv 6) po_none (po_some (pv 7))) (pv 8)) (pe_slice sl_str (pv 6) (po_some (pv 7)) po_none)) (pa_cons (pe_op op_add_str (pe_slice sl_str (pv 6) po_none (po_some (pv 7))) (pe_slice sl_str (pv 6) (po_some (pe_op op_add (pv 7) pe_int)) po_none)) (pa_cons (pe_op op_add_str (pe_op op_add_str (pe_slice sl_str (pv 6) po_none (po_some (pv 7))) (pv 8)) (pe_slice sl_str (pv 6) (po_some (pe_op op_add (pv 7) pe_int)) po_none)) (pa_cons (pe_slice sl_str (pv 6) po_none (po_some (pv 7))) (pa_cons (pe_op op_add_str (pv 6) (pv 8)) (pa_cons (pe_call DLine.ok (hr.mono (by decide)) (by rfl) DLine.g DLine.F.kp DLine.b .nil pass0 (pa_cons (pv 1) pa_nil)) pa_nil))))))))) (pg_name (i := 9) scLaw.nd rfl (.inl rfl))
        (pss_cons (ps_set (i := 10) scLaw.nd rfl (.inl rfl) (pe_call DRead.ok (hr.mono (by decide)) (by rfl) DRead.g DRead.F.kp DRead.b .nil pass0 (pa_cons (pv 9) pa_nil)))
          (pss_one (ps_if (PW.pt (pw_or (pt_not (pt_val (pe_call DIs.ok (hr.mono (by decide)) (by rfl) DIs.g DIs.F.kp DIs.b .nil pass0 (pa_cons (pe_call DPReadEdit.ok (hr.mono (by decide)) (by rfl) DPReadEdit.g DPReadEdit.F.kp DPReadEdit.b .nil pass0 (pa_cons (pv 9) pa_nil)) (pa_cons (pv 10) pa_nil))))) (pw_or1 (PW.pt (pw_and (pt_cmpR op_notN (pv 10) pe_non (nomark _)) (pw_and1 (pt_cmpR op_ne (pe_call DPEditText.ok (hr.mono (by decide)) (by rfl) DPEditText.g DPEditText.F.kp DPEditText.b .nil pass0 (pa_cons (pv 10) pa_nil)) (pv 9) (nomark _))))))))
          (pss_one (ps_ret pe_bl))
          pss_nil)))))))))))))
      (pss_cons (ps_set (i := 11) scLaw.nd rfl (.inl rfl) (pe_ix ix_list (pe_lst (pa_cons pe_non (pa_cons pe_int (pa_cons (pe_tup (pa_cons pe_str pa_nil)) (pa_cons (pe_lst (pa_cons pe_str pa_nil)) (pa_cons pe_str (pa_cons pe_str (pa_cons pe_bl (pa_cons (pe_call DDeep.ok (hr.mono (by decide)) (by rfl) DDeep.g DDeep.F.kp DDeep.b .nil pass0 (pa_cons (pv 1) pa_nil)) pa_nil))))))))) (pe_call DDraw.ok (hr.mono (by decide)) (by rfl) DDraw.g DDraw.F.kp DDraw.b .nil pass0 (pa_cons (pv 1) (pa_cons pe_int pa_nil))) (fun _ _ => rfl)))
      (pss_one (ps_ret (pe_cmpR op_isN (pe_call DPReadEdit.ok (hr.mono (by decide)) (by rfl) DPReadEdit.g DPReadEdit.F.kp DPReadEdit.b .nil pass0 (pa_cons (pv 11) pa_nil)) pe_non (nomark _)))))))), ?_⟩
    obtain ⟨a0, ns, rfl, hSq, q⟩ := h
    refine ⟨.ref a0, rfl, a0, ns, rfl, hSq, fun p l H1 np nl h1 k1 => ?_⟩
    try dsimp only [tSeq, gName, tAsg, tNext]
    refine ⟨.ref p, rfl, p, 8, rfl, by decide, by decide, l, h1, fun ta ts H2 hta few sgt lent h2 b2 => ?_⟩
    have ntp : ta ≠ p := hand_ne h2 hta (fun x1 x2 x3 x4 x5 z => by cases z)
    have len2' : ∀ t ∈ ts, t.length ≤ 200 := fun t ht => by have := lent t ht; omega
    try dsimp only [tSeq, gName, tAsg, tNext]
    refine ⟨4, rfl, by decide, by decide, for_range (fun i σ H' => ∃ (u3 u4 u5 u6 u7 u8 u9 u10 : Option V), σ = [some (.ref a0), some (.ref p), some (.ref ta), u3, u4, u5, u6, u7, u8, u9, u10, none] ∧ Hn p l H2 H') ⟨none, none, none, none, none, none, none, none, rfl, Hn.refl h2⟩ ?_ ?_⟩
    · rintro i σ H3 hi ⟨u3, u4, u5, u6, u7, u8, u9, u10, rfl, n3⟩
      have hta3 := n3.but _ _ ntp hta
      try dsimp only [tNext, tDrop, tSeq, tAsg, gName]
      refine ⟨.ref p, rfl, .ref ta, rfl, p, ta, ts, rfl, hta3, few, len2', l, n3.at_, fun e0 xs0 H4 he0 x10 x60 hx0 h4 b4 => ?_⟩
      try dsimp only [tNext, tDrop, tSeq, tAsg, gName]
      have n4 := n3.go h4 b4
      refine (?_ : ∀ (N : L2.St → Hp → Prop) R B T', (∀ e xs H5, H5 e = some (.tup xs) → 1 ≤ xs.length → xs.length ≤ 6 → (∀ v ∈ xs, SmS v) → Hn p l H2 H5 → N [some (.ref a0), some (.ref p), some (.ref ta), some (.int (0 + (i : Int))), some (.ref e), u5, u6, u7, u8, u9, u10, none] H5) → tIfS _ _ _ { nx := N, rt := R, bk := B, ct := T' } _ H4) _ _ _ _ ?_
      · intro N R B T' qq
        refine ⟨.ref p, rfl, p, 2, rfl, by decide, by decide, l, h4, fun v H5 v0 v1 h5 b5 => ⟨rfl, _, rfl, ite2 (fun c => ?_) (fun c => ?_)⟩⟩
        · exact ⟨.ref p, rfl, p, rfl, l, h5, fun e xs H6 he x1 x6 hx h6 b6 => qq e xs H6 he x1 x6 hx ((n4.go h5 b5).go h6 b6)⟩
        · exact qq e0 xs0 H5 (b5 _ _ (hand_ne h4 he0 (fun x1 x2 x3 x4 x5 z => by cases z)) he0) x10 x60 hx0 (n4.go h5 b5)
      intro e xs H5 he x1 x6 hx n5
      have nep : e ≠ p := hand_ne n5.at_ he (fun x1 x2 x3 x4 x5 z => by cases z)
      clear he0 x10 x60 hx0 h4 b4 n4 hta3 n3
      try dsimp only [tNext, tDrop, tSeq, tAsg, gName]
      refine ⟨.ref p, rfl, .ref e, rfl, p, e, xs, rfl, he, x1, x6, hx, l, n5.at_, fun xb ob H6 tb sb h6 b6 => ?_⟩
      have n6 := n5.go h6 b6
      have he6 := b6 _ _ nep he
      try dsimp only [tNext, tDrop, tSeq, tAsg, gName]
      have te := tgT he6 (by omega) fun v hv => (hx v hv).od
      refine ⟨.ref e, rfl, .ref e, some xs, rfl, te.1, te.2, fun H7 k7 => ⟨_, rfl, iteF ?_⟩⟩
      refine ⟨xb, rfl, xb, ob, rfl, tb.same k7, sb, fun H8 k8 => ⟨_, rfl, iteF ?_⟩⟩
      have n8 := (n6.same k7).same k8
      have he8 := k8 _ _ (k7 _ _ he6)
      refine ⟨.ref p, rfl, .ref ta, rfl, p, ta, ts, rfl, n8.but _ _ ntp hta, few, len2', l, n8.at_, fun y H9 ty h9 b9 => ?_⟩
      obtain ⟨oy, ty, sy⟩ := ty
      refine ⟨y, oy, rfl, ty, sy, fun H10 k10 => ⟨_, rfl, iteF ?_⟩⟩
      have n10 := (n8.go h9 b9).same k10
      have he10 := k10 _ _ (b9 _ _ nep he8)
      clear ty sy k10 h9 b9 he8 k8 k7 tb sb te n8 h6 b6 n6 he6
      try dsimp only [tNext, tDrop, tSeq, tAsg, gName]
      refine ⟨.ref e, rfl, e, xs, rfl, he10, by omega, fun v hv => (hx v hv).sm, fun H11 k11 => ?_⟩
      have n11 := n10.same k11
      obtain ⟨sT, lT⟩ := shw_sm hx x1 x6
      revert sT lT
      generalize shw xs = T
      intro sT lT
      clear he10 n10 k11
      have sz : sizeLine = 16777216 := sizeLine_eq
      try dsimp only [tNext, tDrop, tSeq, tAsg, gName]
      refine ⟨.ref p, rfl, .str T, rfl, T, rfl, by omega, _, _, rfl, rfl, p, _, rfl, by omega, by omega, l, n11.at_, fun a H12 a0' a1 h12 b12 => ?_⟩
      have n12 := n11.go h12 b12
      try dsimp only [tNext, tDrop, tSeq, tAsg, gName]
      refine ⟨.ref p, rfl, p, rfl, l, h12, fun c H13 hc h13 b13 => ⟨by show 7 ≤ sizeLine; decide, fun L nL => ?_⟩⟩
      have kL := Same.new (o := .lst [V.str " ", .str "0", .str "1", .str "-", .str "+", .str "_", .str (SX.S [c])]) nL
      have eL : upd H13 L (.lst [V.str " ", .str "0", .str "1", .str "-", .str "+", .str "_", .str (SX.S [c])]) L = some (.lst [V.str " ", .str "0", .str "1", .str "-", .str "+", .str "_", .str (SX.S [c])]) := upd_same
      have nLp := (h13.ne nL).1
      have n14 := (n12.go h13 b13).same kL
      revert eL n14
      generalize upd H13 L _ = H14
      intro eL n14
      refine ⟨.ref p, rfl, p, 7, rfl, by decide, by decide, l, n14.at_, fun v H15 v0 v1 h15 b15 => ?_⟩
      obtain ⟨y, ey, my⟩ := atI_in (xs := [V.str " ", .str "0", .str "1", .str "-", .str "+", .str "_", .str (SX.S [c])]) v0 v1
      have hy : ∃ x : Str, y = .str x ∧ sgB x = true ∧ x.length ≤ 1 := by
        simp only [List.mem_cons, List.not_mem_nil, or_false] at my
        rcases my with e | e | e | e | e | e | e
        · exact ⟨_, e, by decide +kernel, by decide +kernel⟩
        · exact ⟨_, e, by decide +kernel, by decide +kernel⟩
        · exact ⟨_, e, by decide +kernel, by decide +kernel⟩
        · exact ⟨_, e, by decide +kernel, by decide +kernel⟩
        · exact ⟨_, e, by decide +kernel, by decide +kernel⟩
        · exact ⟨_, e, by decide +kernel, by decide +kernel⟩
        · exact ⟨_, e, by rw [sgB_S]; exact List.all_eq_true.mpr fun d hd => (by rw [List.mem_singleton.mp hd]; exact hc), Nat.le_refl 1⟩
      obtain ⟨x, rfl, hxx, lx⟩ := hy
      have n15 := n14.go h15 b15
      refine ⟨_, _, _, _, rfl, rfl, sq_of (b15 _ _ nLp eL), ey, ?_⟩
      clear ey my eL b15 h15 n14 nLp kL h13 b13 n12 h12 b12 n11
      try dsimp only [tNext, tDrop, tSeq, tAsg, gName]
      obtain ⟨s1, l1⟩ := sg_to (z := T) (i := a) (by omega) sT
      obtain ⟨s2, l2⟩ := sg_from (z := T) (i := a) (by omega) sT
      obtain ⟨s3, l3⟩ := sg_from (z := T) (i := a + 1) (by omega) sT
      have m1 : (cutS T none (some a) ++ x).length + (cutS T (some a) none).length ≤ 2000 := by rw [app_len]; omega
      have m2 : (cutS T none (some a) ++ x).length + (cutS T (some (a + 1)) none).length ≤ 2000 := by rw [app_len]; omega
      refine ⟨.str T, rfl, ?_⟩
      refine ⟨.str T, rfl, .int a, rfl, a, rfl, T, rfl, len5 (by omega), .str x, rfl, _, _, rfl, rfl, by omega, .str T, rfl, .int a, rfl, a, rfl, T, rfl, len5 (by omega), _, _, rfl, rfl, by omega, ?_⟩
      refine ⟨.str T, rfl, .int a, rfl, a, rfl, T, rfl, len5 (by omega), .str T, rfl, .int a, rfl, _, _, rfl, rfl, a + 1, rfl, T, rfl, len5 (by omega), _, _, rfl, rfl, by omega, ?_⟩
      refine ⟨.str T, rfl, .int a, rfl, a, rfl, T, rfl, len5 (by omega), .str x, rfl, _, _, rfl, rfl, by omega, .str T, rfl, .int a, rfl, _, _, rfl, rfl, a + 1, rfl, T, rfl, len5 (by omega), _, _, rfl, rfl, by omega, ?_⟩
      refine ⟨.str T, rfl, .int a, rfl, a, rfl, T, rfl, len5 (by omega), ?_⟩
      refine ⟨.str T, rfl, .str x, rfl, _, _, rfl, rfl, by omega, ?_⟩
      refine ⟨.ref p, rfl, p, rfl, l, n15.at_, fun zl H16 szl lzl h16 b16 => ⟨by show 7 ≤ sizeLine; decide, fun G nG => ?_⟩⟩
      have all : ∀ y ∈ [V.str T, .str (cutS T none (some a) ++ x ++ cutS T (some a) none), .str (cutS T none (some a) ++ cutS T (some (a + 1)) none), .str (cutS T none (some a) ++ x ++ cutS T (some (a + 1)) none), .str (cutS T none (some a)), .str (T ++ x), .str (zl)], ∃ u : Str, y = .str u ∧ sgB u = true ∧ u.length ≤ 2500 := by
        intro y hy
        simp only [List.mem_cons, List.not_mem_nil, or_false] at hy
        rcases hy with e | e | e | e | e | e | e
        · exact ⟨_, e, sT, by omega⟩
        · exact ⟨_, e, sg_app (sg_app s1 hxx) s2, by rw [app_len]; omega⟩
        · exact ⟨_, e, sg_app s1 s3, by rw [app_len]; omega⟩
        · exact ⟨_, e, sg_app (sg_app s1 hxx) s3, by rw [app_len]; omega⟩
        · exact ⟨_, e, s1, by omega⟩
        · exact ⟨_, e, sg_app sT hxx, by rw [app_len]; omega⟩
        · exact ⟨_, e, szl, by omega⟩
      have kG := Same.new (o := .lst [V.str T, .str (cutS T none (some a) ++ x ++ cutS T (some a) none), .str (cutS T none (some a) ++ cutS T (some (a + 1)) none), .str (cutS T none (some a) ++ x ++ cutS T (some (a + 1)) none), .str (cutS T none (some a)), .str (T ++ x), .str (zl)]) nG
      have eG : upd H16 G (.lst [V.str T, .str (cutS T none (some a) ++ x ++ cutS T (some a) none), .str (cutS T none (some a) ++ cutS T (some (a + 1)) none), .str (cutS T none (some a) ++ x ++ cutS T (some (a + 1)) none), .str (cutS T none (some a)), .str (T ++ x), .str (zl)]) G = some (.lst [V.str T, .str (cutS T none (some a) ++ x ++ cutS T (some a) none), .str (cutS T none (some a) ++ cutS T (some (a + 1)) none), .str (cutS T none (some a) ++ x ++ cutS T (some (a + 1)) none), .str (cutS T none (some a)), .str (T ++ x), .str (zl)]) := upd_same
      revert kG eG all
      generalize [V.str T, .str (cutS T none (some a) ++ x ++ cutS T (some a) none), .str (cutS T none (some a) ++ cutS T (some (a + 1)) none), .str (cutS T none (some a) ++ x ++ cutS T (some (a + 1)) none), .str (cutS T none (some a)), .str (T ++ x), .str (zl)] = os
      generalize upd H16 G (.lst os) = HG
      intro all kG eG
      have nGn := (n15.go h16 b16).same kG
      refine ⟨G, rfl, ⟨_, sq_of eG⟩, for_list (xs := os) (fun j σ H' => ∃ u9 u10 : Option V, σ = [some (.ref a0), some (.ref p), some (.ref ta), some (.int (0 + (i : Int))), some (.ref e), some xb, some (.str T), some (.int a), some (.str x), u9, u10, none] ∧ Same HG H') ⟨_, _, rfl, Same.refl HG⟩ (fun j σ H' _ g => by obtain ⟨_, _, _, k⟩ := g; exact sq_of (k _ _ eG)) ?_ ?_⟩
      · rintro j y σ H' hy ⟨u9, u10, rfl, k⟩
        obtain ⟨u, rfl, hu, lu⟩ := all y (List.mem_of_getElem? hy)
        try dsimp only [tNext, tDrop, tSeq, tAsg, gName]
        have vu : Vs (.str u) := fun z e => by cases e; omega
        refine ⟨.str u, rfl, u, rfl, hu, lu, fun no Ha ka => ?_, fun ys yes t Ha ka ht => ?_⟩
        · try dsimp only [tNext, tDrop, tSeq, tAsg, gName]
          refine ⟨.str u, rfl, .str u, .str, rfl, .str u, vu, fun _ Hb kb => ?_, fun zs e => by rw [no] at e; cases e⟩
          refine ⟨.non, rfl, .non, .non, rfl, .sc .non, fun Hc kc => ⟨_, rfl, iteF ?_⟩⟩
          exact ⟨.non, rfl, rfl, _, rfl, iteF (iteF ⟨_, _, rfl, ((k.trans ka).trans kb).trans kc⟩)⟩
        · try dsimp only [tNext, tDrop, tSeq, tAsg, gName]
          obtain ⟨hx2, es⟩ := read_shw hu yes
          refine ⟨.str u, rfl, .str u, .str, rfl, .str u, vu, (fun e => by rw [yes] at e; cases e), fun zs e t2 Hb kb ht2 => ?_⟩
          rw [yes] at e
          cases e
          have sc : ∀ v ∈ ys, Sc v := fun v hv => by
            rcases tx_parts hx2 v hv with ⟨i, rfl, h⟩ | ⟨z, rfl⟩
            · exact .int i
            · exact .str z
          obtain ⟨l6, hp⟩ := line_parts vu (readT_line yes)
          refine ⟨.ref t, rfl, .ref t2, .ref t, rfl, r3_same ht2 (kb _ _ ht) (by omega) sc, fun Hc kc => ⟨_, rfl, iteF ?_⟩⟩
          refine ⟨.ref t, rfl, rfl, _, rfl, iteT ?_⟩
          refine ⟨.ref t, rfl, .ref t, ys, rfl, tg_of (kc _ _ (kb _ _ ht)) l6 hp, hx2, fun Hd kd => ?_⟩
          rw [es]
          refine ⟨.str u, rfl, rfl, _, rfl, ?_⟩
          rw [decide_eq_true rfl]
          exact iteF ⟨_, _, rfl, (((k.trans ka).trans kb).trans kc).trans kd⟩
      · rintro σ H' ⟨u9, u10, rfl, k⟩
        exact ⟨_, _, _, _, _, _, _, _, rfl, nGn.same k⟩
    · rintro σ H3 ⟨u3, u4, u5, u6, u7, u8, u9, u10, rfl, n3⟩
      try dsimp only [tNext, tDrop, tSeq, tAsg, gName]
      refine ⟨by show 1 ≤ sizeLine; decide, fun t1 nt1 => ⟨by show 1 ≤ sizeLine; decide, fun t2 nt2 => ?_⟩⟩
      have k3 := (Same.new (o := .tup [.str "go"]) nt1).trans (Same.new (o := .lst [.str "go"]) nt2)
      have e1 : upd (upd H3 t1 (.tup [.str "go"])) t2 (.lst [.str "go"]) t1 = some (.tup [.str "go"]) := (Same.new nt2) _ _ upd_same
      have e2 : upd (upd H3 t1 (.tup [.str "go"])) t2 (.lst [.str "go"]) t2 = some (.lst [.str "go"]) := upd_same
      have n4 := n3.same k3
      revert e1 e2 n4
      generalize upd (upd H3 t1 _) t2 _ = H4
      intro e1 e2 n4
      have nt1p := hand_ne n4.at_ e1 (fun x1 x2 x3 x4 x5 z => by cases z)
      have nt2p := hand_ne n4.at_ e2 (fun x1 x2 x3 x4 x5 z => by cases z)
      refine ⟨.ref p, rfl, p, rfl, l, n4.at_, fun d od H5 td so h5 b5 => ⟨by show 8 ≤ sizeLine; decide, fun M nM => ?_⟩⟩
      have n5 := n4.go h5 b5
      have f1 := b5 _ _ nt1p e1
      have f2 := b5 _ _ nt2p e2
      have oddT : ∀ {H : Hp} {x : V} {k : Kn}, Kd H x k → Vs x → lineO x = none → (∃ k, Kd H x k) ∧ Vs x ∧ readT x = none := fun h v n => ⟨⟨_, h⟩, v, readT_none n⟩
      obtain ⟨kd, hkd, _⟩ := td.kd
      have all : ∀ y ∈ [V.non, .int 7, .ref t1, .ref t2, .str "go\n", .str "put 0 0 a\n", .bl true, .ref d], (∃ k, Kd H5 y k) ∧ Vs y ∧ readT y = none := by
        intro y hy
        simp only [List.mem_cons, List.not_mem_nil, or_false] at hy
        rcases hy with rfl | rfl | rfl | rfl | rfl | rfl | rfl | rfl
        · exact oddT .non (fun z e => by cases e) rfl
        · exact oddT (.int 7) (fun z e => by cases e) rfl
        · exact oddT (.tup f1) (fun z e => by cases e) rfl
        · exact oddT (.lst f2) (fun z e => by cases e) rfl
        · exact oddT (.str _) (fun z e => by cases e; decide +kernel) (line_no (by decide +kernel))
        · exact oddT (.str _) (fun z e => by cases e; decide +kernel) (line_no (by decide +kernel))
        · exact oddT (.bl true) (fun z e => by cases e) rfl
        · exact oddT hkd (fun z e => by cases e) rfl
      have kM := Same.new (o := .lst [V.non, .int 7, .ref t1, .ref t2, .str "go\n", .str "put 0 0 a\n", .bl true, .ref d]) nM
      have eM : upd H5 M (.lst [V.non, .int 7, .ref t1, .ref t2, .str "go\n", .str "put 0 0 a\n", .bl true, .ref d]) M = some (.lst [V.non, .int 7, .ref t1, .ref t2, .str "go\n", .str "put 0 0 a\n", .bl true, .ref d]) := upd_same
      have nMp := (n5.at_.ne nM).1
      have n6 := n5.same kM
      revert kM eM n6
      generalize upd H5 M _ = H6
      intro kM eM n6
      refine ⟨.ref p, rfl, p, 8, rfl, by decide, by decide, l, n6.at_, fun v H7 v0 v1 h7 b7 => ?_⟩
      obtain ⟨y, ey, my⟩ := atI_in (xs := [V.non, .int 7, .ref t1, .ref t2, .str "go\n", .str "put 0 0 a\n", .bl true, .ref d]) v0 v1
      obtain ⟨⟨k, hk⟩, vy, ny⟩ := all y my
      refine ⟨M, _, v, y, rfl, rfl, sq_of (b7 _ _ nMp eM), ey, ?_⟩
      try dsimp only [tNext, tDrop, tSeq, tAsg, gName]
      refine ⟨y, rfl, y, k, rfl, Kd.but (hk.same kM) n6.at_ h7 b7, vy, fun _ H8 k8 => ?_, fun xs e => by rw [ny] at e; cases e⟩
      exact ⟨rfl, q H8⟩
end
end LawK
set_option maxHeartbeats 8000000
namespace LawK
open PySem PySem.Spec PyProof.Rows L2 Ev
structure Df (K : PySem.W.Frag) (mg : Str → Option Value) (x : Str) (st : Stmt) (ps : List Str) (f : Addr) (fd : FuncData) : Prop where
  F : Fun K x x st f fd
  b : Binds K fd ps []
  g : mg x = some (.ref f)
section
variable {P : Program} {w : World} {K : PySem.W.Frag} {mg : Str → Option Value} {h : Heap} {x : Str}
theorem df_mk {st : Stmt} {ps : List Str} {oc kV dc pm cd ct : Value} {od an : Option Addr} {sl : Array (Option Value)} {fa : Addr} (X : K.In h) (G : h.Ns mainGlobals mg)
    (hb : ∀ (kV doc pm : Value) (an : Option Addr) (cdv ct : Value) (us : List Value), us.length = ps.length → bindArgs (PySem.W.fnOf x x (defArgs st) (defBody st) (defScope st) .none kV doc pm an cdv ct) ⟨us, []⟩ = pure (ps.zip us))
    (a : PySem.W.nsIn K mainGlobals x = some (some (.ref fa))) (l : K.lookup fa = some ⟨oc, od, .func (PySem.W.fnOf x x (defArgs st) (defBody st) (defScope st) .none kV dc pm an cd ct), sl⟩)
    (ck : (PySem.W.codeIn K cd x && PySem.W.keepIn K (.ref fa)) = true) : ∃ fd, Df K mg x st ps fa fd := by
  obtain ⟨c1, c2⟩ := Bool.and_eq_true_iff.mp ck
  have F1 := fun_mk (st := st) l c1 c2
  exact ⟨_, F1, F1.binds (ps := ps) hb, PySem.W.mg_of X G a⟩
end
theorem lk_eq {x : Str} {v : V} {l : List (Str × V)} : List.lookup x ((x, v) :: l) = some v := by
  rw [List.lookup_cons, beq_self_eq_true]
theorem lk_ne {x y : Str} (h : x ≠ y) {v : V} {l : List (Str × V)} : List.lookup x ((y, v) :: l) = List.lookup x l := by
  rw [List.lookup_cons, beq_false_of_ne h]
theorem sqt_k {K : PySem.W.Frag} {H : Hp} {a : Addr} {od : Option Addr} {its : List Value} {n : Nat} {sl : Array (Option Value)} {xs : List V} (l : K.lookup a = some ⟨.type "tuple", od, .seq its.toArray n, sl⟩) (hl : its.length ≤ 100) (v : Vals xs its) : SqT K H a xs :=
  .inr ⟨_, its.toArray, n, l, rfl, rfl, by rw [List.size_toArray]; exact Nat.le_trans hl (by decide), by simpa using v⟩
theorem forms_mk {K : PySem.W.Frag} {w : World} {mg : Str → Option Value} {h : Heap} {f a0 a1 a2 a3 a4 a5 a6 a7 : Addr} {od0 : Option Addr} {its0 : List Value} {n0 : Nat} {sl0 : Array (Option Value)} {od1 : Option Addr} {its1 : List Value} {n1 : Nat} {sl1 : Array (Option Value)} {od2 : Option Addr} {its2 : List Value} {n2 : Nat} {sl2 : Array (Option Value)} {od3 : Option Addr} {its3 : List Value} {n3 : Nat} {sl3 : Array (Option Value)} {od4 : Option Addr} {its4 : List Value} {n4 : Nat} {sl4 : Array (Option Value)} {od5 : Option Addr} {its5 : List Value} {n5 : Nat} {sl5 : Array (Option Value)} {od6 : Option Addr} {its6 : List Value} {n6 : Nat} {sl6 : Array (Option Value)} {od7 : Option Addr} {its7 : List Value} {n7 : Nat} {sl7 : Array (Option Value)} (X : K.In h) (G : h.Ns mainGlobals mg) (aF : PySem.W.nsIn K mainGlobals "FORMS" = some (some (.ref f))) (kd : KD K w f [(Str.ofString "put", V.ref a0), (Str.ofString "cut", V.ref a1), (Str.ofString "change", V.ref a2), (Str.ofString "come", V.ref a3), (Str.ofString "go", V.ref a4), (Str.ofString "split", V.ref a5), (Str.ofString "join", V.ref a6), (Str.ofString "move", V.ref a7)])
    (l0 : K.lookup a0 = some ⟨.type "tuple", od0, .seq its0.toArray n0, sl0⟩) (h0 : its0.length ≤ 100) (v0 : Vals (List.map V.str [kNum, kNum, kWord]) its0)
    (l1 : K.lookup a1 = some ⟨.type "tuple", od1, .seq its1.toArray n1, sl1⟩) (h1 : its1.length ≤ 100) (v1 : Vals (List.map V.str [kNum, kNum, kMany]) its1)
    (l2 : K.lookup a2 = some ⟨.type "tuple", od2, .seq its2.toArray n2, sl2⟩) (h2 : its2.length ≤ 100) (v2 : Vals (List.map V.str [kNum, kNum, kWord]) its2)
    (l3 : K.lookup a3 = some ⟨.type "tuple", od3, .seq its3.toArray n3, sl3⟩) (h3 : its3.length ≤ 100) (v3 : Vals (List.map V.str [kSigns]) its3)
    (l4 : K.lookup a4 = some ⟨.type "tuple", od4, .seq its4.toArray n4, sl4⟩) (h4 : its4.length ≤ 100) (v4 : Vals (List.map V.str []) its4)
    (l5 : K.lookup a5 = some ⟨.type "tuple", od5, .seq its5.toArray n5, sl5⟩) (h5 : its5.length ≤ 100) (v5 : Vals (List.map V.str [kNum, kNum]) its5)
    (l6 : K.lookup a6 = some ⟨.type "tuple", od6, .seq its6.toArray n6, sl6⟩) (h6 : its6.length ≤ 100) (v6 : Vals (List.map V.str [kNum, kNum]) its6)
    (l7 : K.lookup a7 = some ⟨.type "tuple", od7, .seq its7.toArray n7, sl7⟩) (h7 : its7.length ≤ 100) (v7 : Vals (List.map V.str [kNum, kNum, kMany, kNum, kNum]) its7) : ∃ kvs, FormsC K w mg f kvs ∧ (kvs.map (·.1)).Nodup ∧ kvs.length ≤ 100 := by
  refine ⟨_, ⟨kd, fun z hz => ?_, fun z ks hz => ?_, PySem.W.mg_of X G aF⟩, (by show [Str.ofString "put", Str.ofString "cut", Str.ofString "change", Str.ofString "come", Str.ofString "go", Str.ofString "split", Str.ofString "join", Str.ofString "move"].Nodup; decide +kernel), (by show 8 ≤ 100; decide)⟩
  · unfold kindsOf at hz
    have c0 : z ≠ Str.ofString "put" := fun e => by rw [if_pos e] at hz; cases hz
    rw [if_neg c0] at hz
    have c1 : z ≠ Str.ofString "cut" := fun e => by rw [if_pos e] at hz; cases hz
    rw [if_neg c1] at hz
    have c2 : z ≠ Str.ofString "change" := fun e => by rw [if_pos e] at hz; cases hz
    rw [if_neg c2] at hz
    have c3 : z ≠ Str.ofString "come" := fun e => by rw [if_pos e] at hz; cases hz
    rw [if_neg c3] at hz
    have c4 : z ≠ Str.ofString "go" := fun e => by rw [if_pos e] at hz; cases hz
    rw [if_neg c4] at hz
    have c5 : z ≠ Str.ofString "split" := fun e => by rw [if_pos e] at hz; cases hz
    rw [if_neg c5] at hz
    have c6 : z ≠ Str.ofString "join" := fun e => by rw [if_pos e] at hz; cases hz
    rw [if_neg c6] at hz
    have c7 : z ≠ Str.ofString "move" := fun e => by rw [if_pos e] at hz; cases hz
    rw [if_neg c7] at hz
    rw [lk_ne c0, lk_ne c1, lk_ne c2, lk_ne c3, lk_ne c4, lk_ne c5, lk_ne c6, lk_ne c7]
    rfl
  · unfold kindsOf at hz
    by_cases c0 : z = Str.ofString "put"
    · rw [if_pos c0] at hz
      cases hz
      subst c0
      exact ⟨a0, lk_eq, fun H => sqt_k l0 h0 v0⟩
    rw [if_neg c0] at hz
    by_cases c1 : z = Str.ofString "cut"
    · rw [if_pos c1] at hz
      cases hz
      subst c1
      exact ⟨a1, ((lk_ne (by decide +kernel)).trans lk_eq), fun H => sqt_k l1 h1 v1⟩
    rw [if_neg c1] at hz
    by_cases c2 : z = Str.ofString "change"
    · rw [if_pos c2] at hz
      cases hz
      subst c2
      exact ⟨a2, ((lk_ne (by decide +kernel)).trans ((lk_ne (by decide +kernel)).trans lk_eq)), fun H => sqt_k l2 h2 v2⟩
    rw [if_neg c2] at hz
    by_cases c3 : z = Str.ofString "come"
    · rw [if_pos c3] at hz
      cases hz
      subst c3
      exact ⟨a3, ((lk_ne (by decide +kernel)).trans ((lk_ne (by decide +kernel)).trans ((lk_ne (by decide +kernel)).trans lk_eq))), fun H => sqt_k l3 h3 v3⟩
    rw [if_neg c3] at hz
    by_cases c4 : z = Str.ofString "go"
    · rw [if_pos c4] at hz
      cases hz
      subst c4
      exact ⟨a4, ((lk_ne (by decide +kernel)).trans ((lk_ne (by decide +kernel)).trans ((lk_ne (by decide +kernel)).trans ((lk_ne (by decide +kernel)).trans lk_eq)))), fun H => sqt_k l4 h4 v4⟩
    rw [if_neg c4] at hz
    by_cases c5 : z = Str.ofString "split"
    · rw [if_pos c5] at hz
      cases hz
      subst c5
      exact ⟨a5, ((lk_ne (by decide +kernel)).trans ((lk_ne (by decide +kernel)).trans ((lk_ne (by decide +kernel)).trans ((lk_ne (by decide +kernel)).trans ((lk_ne (by decide +kernel)).trans lk_eq))))), fun H => sqt_k l5 h5 v5⟩
    rw [if_neg c5] at hz
    by_cases c6 : z = Str.ofString "join"
    · rw [if_pos c6] at hz
      cases hz
      subst c6
      exact ⟨a6, ((lk_ne (by decide +kernel)).trans ((lk_ne (by decide +kernel)).trans ((lk_ne (by decide +kernel)).trans ((lk_ne (by decide +kernel)).trans ((lk_ne (by decide +kernel)).trans ((lk_ne (by decide +kernel)).trans lk_eq)))))), fun H => sqt_k l6 h6 v6⟩
    rw [if_neg c6] at hz
    by_cases c7 : z = Str.ofString "move"
    · rw [if_pos c7] at hz
      cases hz
      subst c7
      exact ⟨a7, ((lk_ne (by decide +kernel)).trans ((lk_ne (by decide +kernel)).trans ((lk_ne (by decide +kernel)).trans ((lk_ne (by decide +kernel)).trans ((lk_ne (by decide +kernel)).trans ((lk_ne (by decide +kernel)).trans ((lk_ne (by decide +kernel)).trans lk_eq))))))), fun H => sqt_k l7 h7 v7⟩
    rw [if_neg c7] at hz
    cases hz
theorem end_mk {P : Program} {w : World} {K : PySem.W.Frag} {mg : Str → Option Value} {h : Heap} {fa f aF PE cEN fPNumber fPSigns fPWord fQReadNumber fQReadPart fPReadLine fQIsPart fQHasForm fQHasText fPEditText fPReadEdit fHand fDraw fIs fDeep fAnySign fSign fText fTexts fWord fLEdit fNoEditL fLine fEditText fIsNumber fAreSigns fHasForm fFigures fRead fDrawn fBent fTold fIsTold : Addr} {oc kV dc pm cd ct : Value} {od an : Option Addr} {sl : Array (Option Value)} (X : K.In h) (G : h.Ns mainGlobals mg) (hfa : mg "law" = some (.ref fa))
    (aL : PySem.W.nsIn K mainGlobals "law" = some (some (.ref f))) (lL : K.lookup f = some ⟨oc, od, .func (PySem.W.fnOf "law" "law" (defArgs sLaw) (defBody sLaw) (defScope sLaw) .none kV dc pm an cd ct), sl⟩) (ck : (PySem.W.codeIn K cd "law" && PySem.W.keepIn K (.ref f)) = true)
    {tMOST_FIGURES : Tok} (aMOST_FIGURES : PySem.W.nsIn K mainGlobals "MOST_FIGURES" = some (some (.int 9 tMOST_FIGURES)))
    {tNUMBERS : Tok} (aNUMBERS : PySem.W.nsIn K mainGlobals "NUMBERS" = some (some (.int 10000 tNUMBERS)))
    (DPNumber : ∃ fd, Df K mg "is_number" sPNumber ["thing"] fPNumber fd)
    (DPSigns : ∃ fd, Df K mg "is_signs" sPSigns ["thing"] fPSigns fd)
    (DPWord : ∃ fd, Df K mg "is_word" sPWord ["thing"] fPWord fd)
    (DQReadNumber : ∃ fd, Df K mg "_read_number" sQReadNumber ["signs"] fQReadNumber fd)
    (DQReadPart : ∃ fd, Df K mg "_read_part" sQReadPart ["kind", "signs"] fQReadPart fd)
    (DPReadLine : ∃ fd, Df K mg "read_line" sPReadLine ["line", "forms"] fPReadLine fd)
    (DQIsPart : ∃ fd, Df K mg "_is_part" sQIsPart ["kind", "thing"] fQIsPart fd)
    (DQHasForm : ∃ fd, Df K mg "has_form" sQHasForm ["thing"] fQHasForm fd)
    (DQHasText : ∃ fd, Df K mg "_has_text" sQHasText ["thing"] fQHasText fd)
    (DPEditText : ∃ fd, Df K mg "edit_text" sPEditText ["edit"] fPEditText fd)
    (DPReadEdit : ∃ fd, Df K mg "read_edit" sPReadEdit ["text"] fPReadEdit fd)
    (DHand : ∃ fd, Df K mg "_law_hand" sHand ["script"] fHand fd)
    (DDraw : ∃ fd, Df K mg "_law_draw" sDraw ["hand", "many"] fDraw fd)
    (DIs : ∃ fd, Df K mg "_law_is" sIs ["told", "due"] fIs fd)
    (DDeep : ∃ fd, Df K mg "_law_deep" sDeep ["hand"] fDeep fd)
    (DAnySign : ∃ fd, Df K mg "_law_any_sign" sAnySign ["hand"] fAnySign fd)
    (DSign : ∃ fd, Df K mg "_law_sign" sSign ["hand", "kind"] fSign fd)
    (DText : ∃ fd, Df K mg "_law_text" sText ["hand", "most"] fText fd)
    (DTexts : ∃ fd, Df K mg "_law_texts" sTexts ["hand", "most"] fTexts fd)
    (DWord : ∃ fd, Df K mg "_law_word" sWord ["hand", "most"] fWord fd)
    (DLEdit : ∃ fd, Df K mg "_law_edit" sLEdit ["hand", "texts"] fLEdit fd)
    (DNoEditL : ∃ fd, Df K mg "_law_no_edit" sNoEditL ["hand", "texts"] fNoEditL fd)
    (DLine : ∃ fd, Df K mg "_law_line" sLine ["hand"] fLine fd)
    (DEditText : ∃ fd, Df K mg "_law_edit_text" sEditText ["edit"] fEditText fd)
    (DIsNumber : ∃ fd, Df K mg "_law_is_number" sIsNumber ["thing", "least", "most"] fIsNumber fd)
    (DAreSigns : ∃ fd, Df K mg "_law_are_signs" sAreSigns ["thing"] fAreSigns fd)
    (DHasForm : ∃ fd, Df K mg "_law_has_form" sHasForm ["thing"] fHasForm fd)
    (DFigures : ∃ fd, Df K mg "_law_figures" sFigures ["word"] fFigures fd)
    (DRead : ∃ fd, Df K mg "_law_read" sRead ["text"] fRead fd)
    (DDrawn : ∃ fd, Df K mg "_law_drawn" sDrawn ["hand"] fDrawn fd)
    (DBent : ∃ fd, Df K mg "_law_bent" sBent ["hand", "thing"] fBent fd)
    (DTold : ∃ fd, Df K mg "_law_told" sTold ["thing"] fTold fd)
    (DIsTold : ∃ fd, Df K mg "_law_is_told" sIsTold ["thing"] fIsTold fd)
    (EN : Cls0 P K mg PE "NoEdit" cEN) (aPE : PySem.W.nsIn K mainGlobals "PieceError" = some (some (.ref PE))) (FF : ∃ kvs, FormsC K w mg aF kvs ∧ (kvs.map (·.1)).Nodup ∧ kvs.length ≤ 100) (gD : mg "dict" = none) (T : Glob mg) :
    ∃ fd : FuncData, (∀ (s : Shared) (u : Value), BindsTo s fd ⟨[u], []⟩ [("script", u)]) ∧ ∀ base : Heap, K.In base → base.Ns mainGlobals mg → FnAt callerA P w K mg base CX0 fa fd ["script"] (spLaw K) := by
  have e := hfa.symm.trans (PySem.W.mg_of X G aL)
  cases e
  obtain ⟨kvF, FC, nF, lF⟩ := FF
  obtain ⟨fdPNumber, DPNumber⟩ := DPNumber
  obtain ⟨fdPSigns, DPSigns⟩ := DPSigns
  obtain ⟨fdPWord, DPWord⟩ := DPWord
  obtain ⟨fdQReadNumber, DQReadNumber⟩ := DQReadNumber
  obtain ⟨fdQReadPart, DQReadPart⟩ := DQReadPart
  obtain ⟨fdPReadLine, DPReadLine⟩ := DPReadLine
  obtain ⟨fdQIsPart, DQIsPart⟩ := DQIsPart
  obtain ⟨fdQHasForm, DQHasForm⟩ := DQHasForm
  obtain ⟨fdQHasText, DQHasText⟩ := DQHasText
  obtain ⟨fdPEditText, DPEditText⟩ := DPEditText
  obtain ⟨fdPReadEdit, DPReadEdit⟩ := DPReadEdit
  obtain ⟨fdHand, DHand⟩ := DHand
  obtain ⟨fdDraw, DDraw⟩ := DDraw
  obtain ⟨fdIs, DIs⟩ := DIs
  obtain ⟨fdDeep, DDeep⟩ := DDeep
  obtain ⟨fdAnySign, DAnySign⟩ := DAnySign
  obtain ⟨fdSign, DSign⟩ := DSign
  obtain ⟨fdText, DText⟩ := DText
  obtain ⟨fdTexts, DTexts⟩ := DTexts
  obtain ⟨fdWord, DWord⟩ := DWord
  obtain ⟨fdLEdit, DLEdit⟩ := DLEdit
  obtain ⟨fdNoEditL, DNoEditL⟩ := DNoEditL
  obtain ⟨fdLine, DLine⟩ := DLine
  obtain ⟨fdEditText, DEditText⟩ := DEditText
  obtain ⟨fdIsNumber, DIsNumber⟩ := DIsNumber
  obtain ⟨fdAreSigns, DAreSigns⟩ := DAreSigns
  obtain ⟨fdHasForm, DHasForm⟩ := DHasForm
  obtain ⟨fdFigures, DFigures⟩ := DFigures
  obtain ⟨fdRead, DRead⟩ := DRead
  obtain ⟨fdDrawn, DDrawn⟩ := DDrawn
  obtain ⟨fdBent, DBent⟩ := DBent
  obtain ⟨fdTold, DTold⟩ := DTold
  obtain ⟨fdIsTold, DIsTold⟩ := DIsTold
  obtain ⟨c1, c2⟩ := Bool.and_eq_true_iff.mp ck
  have F1 := fun_mk (st := sLaw) lL c1 c2
  refine ⟨PySem.W.fnOf "law" "law" (defArgs sLaw) (defBody sLaw) (defScope sLaw) .none kV dc pm an cd ct, fun s u => .of_eq rfl, fun base _ _ => ?_⟩
  have TPSigns : Dk P w K mg base "is_signs" sPSigns ["thing"] 1 spSg fPSigns fdPSigns := ⟨DPSigns.F, DPSigns.b, DPSigns.g, ok_PSigns DPSigns.F   (T := T)⟩
  have TPNumber : Dk P w K mg base "is_number" sPNumber ["thing"] 1 spNum fPNumber fdPNumber := ⟨DPNumber.F, DPNumber.b, DPNumber.g, ok_PNumber DPNumber.F   (T := T)⟩
  have TPWord : Dk P w K mg base "is_word" sPWord ["thing"] 2 spWd fPWord fdPWord := ⟨DPWord.F, DPWord.b, DPWord.g, ok_PWord DPWord.F  (DPSigns := TPSigns) (T := T)⟩
  have TQIsPart : Dk P w K mg base "_is_part" sQIsPart ["kind", "thing"] 3 spPart fQIsPart fdQIsPart := ⟨DQIsPart.F, DQIsPart.b, DQIsPart.g, ok_QIsPart DQIsPart.F  (DPNumber := TPNumber) (DPSigns := TPSigns) (DPWord := TPWord) (T := T)⟩
  have TQHasForm : Dk P w K mg base "has_form" sQHasForm ["thing"] 4 spForm fQHasForm fdQHasForm := ⟨DQHasForm.F, DQHasForm.b, DQHasForm.g, ok_QHasForm DQHasForm.F (FC := FC) (DQIsPart := TQIsPart) (T := T)⟩
  have TQHasText : Dk P w K mg base "_has_text" sQHasText ["thing"] 5 spHasText fQHasText fdQHasText := ⟨DQHasText.F, DQHasText.b, DQHasText.g, ok_QHasText DQHasText.F (PySem.W.mg_of X G aNUMBERS) (DQHasForm := TQHasForm) (T := T)⟩
  have GE := ok_PEditText (P := P) (w := w) (base := base) DPEditText.F EN (DQHasText := TQHasText) (T := T)
  have TPEditText : Dk P w K mg base "edit_text" sPEditText ["edit"] 6 spEText0 fPEditText fdPEditText := ⟨DPEditText.F, DPEditText.b, DPEditText.g, ok0_PEditText DPEditText.F (DQHasText := TQHasText) (T := T)⟩
  have TQReadNumber : Dk P w K mg base "_read_number" sQReadNumber ["signs"] 1 spRNum fQReadNumber fdQReadNumber := ⟨DQReadNumber.F, DQReadNumber.b, DQReadNumber.g, ok_QReadNumber DQReadNumber.F (PySem.W.mg_of X G aMOST_FIGURES)  (T := T)⟩
  have TQReadPart : Dk P w K mg base "_read_part" sQReadPart ["kind", "signs"] 2 spRPart fQReadPart fdQReadPart := ⟨DQReadPart.F, DQReadPart.b, DQReadPart.g, ok_QReadPart DQReadPart.F  (DQReadNumber := TQReadNumber) (T := T)⟩
  have TPReadLine : Dk P w K mg base "read_line" sPReadLine ["line", "forms"] 3 (spRLine kvF) fPReadLine fdPReadLine := ⟨DPReadLine.F, DPReadLine.b, DPReadLine.g, ok_PReadLine DPReadLine.F (FC := FC) (DPSigns := TPSigns) (DQReadPart := TQReadPart) (T := T)⟩
  have TPReadEdit : Dk P w K mg base "read_edit" sPReadEdit ["text"] 6 spREdit fPReadEdit fdPReadEdit := ⟨DPReadEdit.F, DPReadEdit.b, DPReadEdit.g, ok_PReadEdit DPReadEdit.F (FC := FC) (nF := nF) (lF := lF) (gdict := gD) (DPReadLine := TPReadLine) (DQHasText := TQHasText) (T := T)⟩
  have THand : Dk P w K mg base "_law_hand" sHand ["script"] 1 (spHand K) fHand fdHand := ⟨DHand.F, DHand.b, DHand.g, ok_Hand DHand.F   (T := T)⟩
  have TDraw : Dk P w K mg base "_law_draw" sDraw ["hand", "many"] 1 spDraw fDraw fdDraw := ⟨DDraw.F, DDraw.b, DDraw.g, ok_Draw DDraw.F   (T := T)⟩
  have S0 : FnOk P w K mg base CX0 0 fIs fdIs ["told", "due"] (spIsR R0) := ⟨fun vs H Q E z => z.elim fun _ z => z.elim fun _ z => z.2.1.elim, fun A outer s H args us vs Q E _ _ _ _ z => z.elim fun _ z => z.elim fun _ z => z.2.1.elim⟩
  have S1 := ok_is_step R0.mono DIs.F DIs.b DIs.g S0 T
  have S2 := ok_is_step R1.mono DIs.F DIs.b DIs.g S1 T
  have S3 := ok_is_step R2.mono DIs.F DIs.b DIs.g S2 T
  have TIs : Dk P w K mg base "_law_is" sIs ["told", "due"] 3 (spIsR R3) fIs fdIs := ⟨DIs.F, DIs.b, DIs.g, S3⟩
  have TDeep : Dk P w K mg base "_law_deep" sDeep ["hand"] 2 spLDeep fDeep fdDeep := ⟨DDeep.F, DDeep.b, DDeep.g, ok_Deep DDeep.F  (DDraw := TDraw) (T := T)⟩
  have TAnySign : Dk P w K mg base "_law_any_sign" sAnySign ["hand"] 2 spAnySign fAnySign fdAnySign := ⟨DAnySign.F, DAnySign.b, DAnySign.g, ok_AnySign DAnySign.F  (DDraw := TDraw) (T := T)⟩
  have TSign : Dk P w K mg base "_law_sign" sSign ["hand", "kind"] 3 spSign fSign fdSign := ⟨DSign.F, DSign.b, DSign.g, ok_Sign DSign.F  (DDraw := TDraw) (DAnySign := TAnySign) (T := T)⟩
  have TText : Dk P w K mg base "_law_text" sText ["hand", "most"] 4 spLText fText fdText := ⟨DText.F, DText.b, DText.g, ok_Text DText.F  (DDraw := TDraw) (DSign := TSign) (T := T)⟩
  have TTexts : Dk P w K mg base "_law_texts" sTexts ["hand", "most"] 5 spLTexts fTexts fdTexts := ⟨DTexts.F, DTexts.b, DTexts.g, ok_Texts DTexts.F  (DDraw := TDraw) (DText := TText) (T := T)⟩
  have TWord : Dk P w K mg base "_law_word" sWord ["hand", "most"] 4 spLWord fWord fdWord := ⟨DWord.F, DWord.b, DWord.g, ok_Word DWord.F  (DDraw := TDraw) (DSign := TSign) (T := T)⟩
  have TLEdit : Dk P w K mg base "_law_edit" sLEdit ["hand", "texts"] 5 spLEdit fLEdit fdLEdit := ⟨DLEdit.F, DLEdit.b, DLEdit.g, ok_LEdit DLEdit.F  (DDraw := TDraw) (DSign := TSign) (DText := TText) (DWord := TWord) (T := T)⟩
  have TNoEditL : Dk P w K mg base "_law_no_edit" sNoEditL ["hand", "texts"] 3 spNoEdit fNoEditL fdNoEditL := ⟨DNoEditL.F, DNoEditL.b, DNoEditL.g, ok_NoEditL DNoEditL.F  (DDraw := TDraw) (DDeep := TDeep) (T := T)⟩
  have TLine : Dk P w K mg base "_law_line" sLine ["hand"] 5 spLine fLine fdLine := ⟨DLine.F, DLine.b, DLine.g, ok_Line DLine.F  (DDraw := TDraw) (DAnySign := TAnySign) (DText := TText) (T := T)⟩
  have TEditText : Dk P w K mg base "_law_edit_text" sEditText ["edit"] 1 spLEText fEditText fdEditText := ⟨DEditText.F, DEditText.b, DEditText.g, ok_EditText DEditText.F   (T := T)⟩
  have TIsNumber : Dk P w K mg base "_law_is_number" sIsNumber ["thing", "least", "most"] 1 spIn fIsNumber fdIsNumber := ⟨DIsNumber.F, DIsNumber.b, DIsNumber.g, ok_IsNumber DIsNumber.F   (T := T)⟩
  have TAreSigns : Dk P w K mg base "_law_are_signs" sAreSigns ["thing"] 1 spIsSg fAreSigns fdAreSigns := ⟨DAreSigns.F, DAreSigns.b, DAreSigns.g, ok_AreSigns DAreSigns.F   (T := T)⟩
  have THasForm : Dk P w K mg base "_law_has_form" sHasForm ["thing"] 2 spHasFormL fHasForm fdHasForm := ⟨DHasForm.F, DHasForm.b, DHasForm.g, ok_HasForm DHasForm.F  (DIsNumber := TIsNumber) (DAreSigns := TAreSigns) (T := T)⟩
  have TFigures : Dk P w K mg base "_law_figures" sFigures ["word"] 1 spFigs fFigures fdFigures := ⟨DFigures.F, DFigures.b, DFigures.g, ok_Figures DFigures.F   (T := T)⟩
  have TRead : Dk P w K mg base "_law_read" sRead ["text"] 3 spLRead fRead fdRead := ⟨DRead.F, DRead.b, DRead.g, ok_Read DRead.F  (DHasForm := THasForm) (DFigures := TFigures) (T := T)⟩
  have TDrawn : Dk P w K mg base "_law_drawn" sDrawn ["hand"] 6 spDrawn fDrawn fdDrawn := ⟨DDrawn.F, DDrawn.b, DDrawn.g, ok_Drawn DDrawn.F  (DDraw := TDraw) (DWord := TWord) (DLine := TLine) (T := T)⟩
  have TBent : Dk P w K mg base "_law_bent" sBent ["hand", "thing"] 2 spBent fBent fdBent := ⟨DBent.F, DBent.b, DBent.g, ok_Bent DBent.F  (DDraw := TDraw) (T := T)⟩
  have TTold : Dk P w K mg base "_law_told" sTold ["thing"] 7 spTold fTold fdTold := ⟨DTold.F, DTold.b, DTold.g, ok_Told DTold.F EN (PySem.W.mg_of X G aPE) DPEditText.F DPEditText.b DPEditText.g GE T⟩
  have TIsTold : Dk P w K mg base "_law_is_told" sIsTold ["thing"] 8 spIsTold fIsTold fdIsTold := ⟨DIsTold.F, DIsTold.b, DIsTold.g, ok_IsTold DIsTold.F  (DPReadEdit := TPReadEdit) (DIs := TIs) (DEditText := TEditText) (DHasForm := THasForm) (DTold := TTold) (T := T)⟩
  exact ok_law F1 (DPEditText := TPEditText) (DPReadEdit := TPReadEdit) (DHand := THand) (DDraw := TDraw) (DIs := TIs) (DDeep := TDeep) (DAnySign := TAnySign) (DTexts := TTexts) (DLEdit := TLEdit) (DNoEditL := TNoEditL) (DLine := TLine) (DEditText := TEditText) (DRead := TRead) (DDrawn := TDrawn) (DBent := TBent) (DIsTold := TIsTold)  (T := T)
end LawK
open PySem PySem.W PyProof.Rows L2
set_option maxRecDepth 100000 in
set_option maxHeartbeats 0 in
theorem PySem.Challenge.cw_everypiece_k51_whole_edits_as_texts_holds : PySem.Challenge.rw_everypiece_k51_whole_edits_as_texts.Holds := by
  w_on; o_law; k_head; (case hw => w_witness2)
  k_fill
  refine Ev.walk_at (l := PySem.Challenge.rw_everypiece_k51_whole_edits_as_texts) (n := 63) (x := "script") (sp := LawK.spLaw) rfl (by decide) rfl (fun w h Y => PySem.W.kIn_of Y) ?F (fun K H a ns hl _ hS => ⟨a, ns, rfl, hS, fun _ => rfl⟩)
  case F =>
    intro w mg fa h KX G hmg
    have hfa : mg "law" = some (.ref fa) := hmg
    clear hmg
    refine LawK.say KX (fun K => LawK.Sh0 (PySem.W.OpenLaw.prog PySem.Challenge.rw_everypiece_k51_whole_edits_as_texts) K mg) (by
      refine' LawK.sh0_mk KX G ?kq1a ?kq1b ?kq1c ?kq1d ?kq1e
      (case kq1a => k_is); (case kq1b => k_is); (case kq1c => k_is); (case kq1d => decide +kernel); (case kq1e => k_is)) ?_
    intro S
    refine LawK.say KX (fun K => LawK.Cls0 (PySem.W.OpenLaw.prog PySem.Challenge.rw_everypiece_k51_whole_edits_as_texts) K mg 24 "NoEdit" 46) (by
      refine' LawK.cls0_mk (qual := "NoEdit.__init__") KX G S ?kq2a ?kq2l ?kq2i ?kq2f ?kq2d ?kq2e ?kq2v ?kq2w ?kq2p ?kq2c
      (case kq2a => k_is); (case kq2l => k_is); (case kq2i => k_is); (case kq2f => k_is); (case kq2d => k_is); (case kq2e => k_is); (case kq2v => rfl); (case kq2w => rfl); (case kq2p => rfl); (case kq2c => kernel_rfl)) ?_
    intro EN
    refine LawK.say KX (fun K => ∃ fd, LawK.Df K mg "is_number" LawK.sPNumber ["thing"] 55 fd) (by
      refine' LawK.df_mk KX G (fun _ _ _ _ _ _ us hl => match us, hl with | [_], _ => rfl) ?kq3a ?kq3l ?kq3c
      (case kq3a => k_is); (case kq3l => k_is); (case kq3c => kernel_rfl)) ?_
    intro DPNumber
    refine LawK.say KX (fun K => ∃ fd, LawK.Df K mg "is_signs" LawK.sPSigns ["thing"] 62 fd) (by
      refine' LawK.df_mk KX G (fun _ _ _ _ _ _ us hl => match us, hl with | [_], _ => rfl) ?kq4a ?kq4l ?kq4c
      (case kq4a => k_is); (case kq4l => k_is); (case kq4c => kernel_rfl)) ?_
    intro DPSigns
    refine LawK.say KX (fun K => ∃ fd, LawK.Df K mg "is_word" LawK.sPWord ["thing"] 69 fd) (by
      refine' LawK.df_mk KX G (fun _ _ _ _ _ _ us hl => match us, hl with | [_], _ => rfl) ?kq5a ?kq5l ?kq5c
      (case kq5a => k_is); (case kq5l => k_is); (case kq5c => kernel_rfl)) ?_
    intro DPWord
    refine LawK.say KX (fun K => ∃ fd, LawK.Df K mg "_read_number" LawK.sQReadNumber ["signs"] 83 fd) (by
      refine' LawK.df_mk KX G (fun _ _ _ _ _ _ us hl => match us, hl with | [_], _ => rfl) ?kq6a ?kq6l ?kq6c
      (case kq6a => k_is); (case kq6l => k_is); (case kq6c => kernel_rfl)) ?_
    intro DQReadNumber
    refine LawK.say KX (fun K => ∃ fd, LawK.Df K mg "_read_part" LawK.sQReadPart ["kind", "signs"] 90 fd) (by
      refine' LawK.df_mk KX G (fun _ _ _ _ _ _ us hl => match us, hl with | [_, _], _ => rfl) ?kq7a ?kq7l ?kq7c
      (case kq7a => k_is); (case kq7l => k_is); (case kq7c => kernel_rfl)) ?_
    intro DQReadPart
    refine LawK.say KX (fun K => ∃ fd, LawK.Df K mg "read_line" LawK.sPReadLine ["line", "forms"] 95 fd) (by
      refine' LawK.df_mk KX G (fun _ _ _ _ _ _ us hl => match us, hl with | [_, _], _ => rfl) ?kq8a ?kq8l ?kq8c
      (case kq8a => k_is); (case kq8l => k_is); (case kq8c => kernel_rfl)) ?_
    intro DPReadLine
    refine LawK.say KX (fun K => ∃ fd, LawK.Df K mg "_is_part" LawK.sQIsPart ["kind", "thing"] 111 fd) (by
      refine' LawK.df_mk KX G (fun _ _ _ _ _ _ us hl => match us, hl with | [_, _], _ => rfl) ?kq9a ?kq9l ?kq9c
      (case kq9a => k_is); (case kq9l => k_is); (case kq9c => kernel_rfl)) ?_
    intro DQIsPart
    refine LawK.say KX (fun K => ∃ fd, LawK.Df K mg "has_form" LawK.sQHasForm ["thing"] 116 fd) (by
      refine' LawK.df_mk KX G (fun _ _ _ _ _ _ us hl => match us, hl with | [_], _ => rfl) ?kq10a ?kq10l ?kq10c
      (case kq10a => k_is); (case kq10l => k_is); (case kq10c => kernel_rfl)) ?_
    intro DQHasForm
    refine LawK.say KX (fun K => ∃ fd, LawK.Df K mg "_has_text" LawK.sQHasText ["thing"] 121 fd) (by
      refine' LawK.df_mk KX G (fun _ _ _ _ _ _ us hl => match us, hl with | [_], _ => rfl) ?kq11a ?kq11l ?kq11c
      (case kq11a => k_is); (case kq11l => k_is); (case kq11c => kernel_rfl)) ?_
    intro DQHasText
    refine LawK.say KX (fun K => ∃ fd, LawK.Df K mg "edit_text" LawK.sPEditText ["edit"] 126 fd) (by
      refine' LawK.df_mk KX G (fun _ _ _ _ _ _ us hl => match us, hl with | [_], _ => rfl) ?kq12a ?kq12l ?kq12c
      (case kq12a => k_is); (case kq12l => k_is); (case kq12c => kernel_rfl)) ?_
    intro DPEditText
    refine LawK.say KX (fun K => ∃ fd, LawK.Df K mg "read_edit" LawK.sPReadEdit ["text"] 133 fd) (by
      refine' LawK.df_mk KX G (fun _ _ _ _ _ _ us hl => match us, hl with | [_], _ => rfl) ?kq13a ?kq13l ?kq13c
      (case kq13a => k_is); (case kq13l => k_is); (case kq13c => kernel_rfl)) ?_
    intro DPReadEdit
    refine LawK.say KX (fun K => ∃ fd, LawK.Df K mg "_law_hand" LawK.sHand ["script"] 138 fd) (by
      refine' LawK.df_mk KX G (fun _ _ _ _ _ _ us hl => match us, hl with | [_], _ => rfl) ?kq14a ?kq14l ?kq14c
      (case kq14a => k_is); (case kq14l => k_is); (case kq14c => kernel_rfl)) ?_
    intro DHand
    refine LawK.say KX (fun K => ∃ fd, LawK.Df K mg "_law_draw" LawK.sDraw ["hand", "many"] 145 fd) (by
      refine' LawK.df_mk KX G (fun _ _ _ _ _ _ us hl => match us, hl with | [_, _], _ => rfl) ?kq15a ?kq15l ?kq15c
      (case kq15a => k_is); (case kq15l => k_is); (case kq15c => kernel_rfl)) ?_
    intro DDraw
    refine LawK.say KX (fun K => ∃ fd, LawK.Df K mg "_law_is" LawK.sIs ["told", "due"] 150 fd) (by
      refine' LawK.df_mk KX G (fun _ _ _ _ _ _ us hl => match us, hl with | [_, _], _ => rfl) ?kq16a ?kq16l ?kq16c
      (case kq16a => k_is); (case kq16l => k_is); (case kq16c => kernel_rfl)) ?_
    intro DIs
    refine LawK.say KX (fun K => ∃ fd, LawK.Df K mg "_law_deep" LawK.sDeep ["hand"] 157 fd) (by
      refine' LawK.df_mk KX G (fun _ _ _ _ _ _ us hl => match us, hl with | [_], _ => rfl) ?kq17a ?kq17l ?kq17c
      (case kq17a => k_is); (case kq17l => k_is); (case kq17c => kernel_rfl)) ?_
    intro DDeep
    refine LawK.say KX (fun K => ∃ fd, LawK.Df K mg "_law_any_sign" LawK.sAnySign ["hand"] 164 fd) (by
      refine' LawK.df_mk KX G (fun _ _ _ _ _ _ us hl => match us, hl with | [_], _ => rfl) ?kq18a ?kq18l ?kq18c
      (case kq18a => k_is); (case kq18l => k_is); (case kq18c => kernel_rfl)) ?_
    intro DAnySign
    refine LawK.say KX (fun K => ∃ fd, LawK.Df K mg "_law_sign" LawK.sSign ["hand", "kind"] 171 fd) (by
      refine' LawK.df_mk KX G (fun _ _ _ _ _ _ us hl => match us, hl with | [_, _], _ => rfl) ?kq19a ?kq19l ?kq19c
      (case kq19a => k_is); (case kq19l => k_is); (case kq19c => kernel_rfl)) ?_
    intro DSign
    refine LawK.say KX (fun K => ∃ fd, LawK.Df K mg "_law_text" LawK.sText ["hand", "most"] 176 fd) (by
      refine' LawK.df_mk KX G (fun _ _ _ _ _ _ us hl => match us, hl with | [_, _], _ => rfl) ?kq20a ?kq20l ?kq20c
      (case kq20a => k_is); (case kq20l => k_is); (case kq20c => kernel_rfl)) ?_
    intro DText
    refine LawK.say KX (fun K => ∃ fd, LawK.Df K mg "_law_texts" LawK.sTexts ["hand", "most"] 183 fd) (by
      refine' LawK.df_mk KX G (fun _ _ _ _ _ _ us hl => match us, hl with | [_, _], _ => rfl) ?kq21a ?kq21l ?kq21c
      (case kq21a => k_is); (case kq21l => k_is); (case kq21c => kernel_rfl)) ?_
    intro DTexts
    refine LawK.say KX (fun K => ∃ fd, LawK.Df K mg "_law_word" LawK.sWord ["hand", "most"] 188 fd) (by
      refine' LawK.df_mk KX G (fun _ _ _ _ _ _ us hl => match us, hl with | [_, _], _ => rfl) ?kq22a ?kq22l ?kq22c
      (case kq22a => k_is); (case kq22l => k_is); (case kq22c => kernel_rfl)) ?_
    intro DWord
    refine LawK.say KX (fun K => ∃ fd, LawK.Df K mg "_law_edit" LawK.sLEdit ["hand", "texts"] 193 fd) (by
      refine' LawK.df_mk KX G (fun _ _ _ _ _ _ us hl => match us, hl with | [_, _], _ => rfl) ?kq23a ?kq23l ?kq23c
      (case kq23a => k_is); (case kq23l => k_is); (case kq23c => kernel_rfl)) ?_
    intro DLEdit
    refine LawK.say KX (fun K => ∃ fd, LawK.Df K mg "_law_no_edit" LawK.sNoEditL ["hand", "texts"] 200 fd) (by
      refine' LawK.df_mk KX G (fun _ _ _ _ _ _ us hl => match us, hl with | [_, _], _ => rfl) ?kq24a ?kq24l ?kq24c
      (case kq24a => k_is); (case kq24l => k_is); (case kq24c => kernel_rfl)) ?_
    intro DNoEditL
    refine LawK.say KX (fun K => ∃ fd, LawK.Df K mg "_law_line" LawK.sLine ["hand"] 205 fd) (by
      refine' LawK.df_mk KX G (fun _ _ _ _ _ _ us hl => match us, hl with | [_], _ => rfl) ?kq25a ?kq25l ?kq25c
      (case kq25a => k_is); (case kq25l => k_is); (case kq25c => kernel_rfl)) ?_
    intro DLine
    refine LawK.say KX (fun K => ∃ fd, LawK.Df K mg "_law_edit_text" LawK.sEditText ["edit"] 210 fd) (by
      refine' LawK.df_mk KX G (fun _ _ _ _ _ _ us hl => match us, hl with | [_], _ => rfl) ?kq26a ?kq26l ?kq26c
      (case kq26a => k_is); (case kq26l => k_is); (case kq26c => kernel_rfl)) ?_
    intro DEditText
    refine LawK.say KX (fun K => ∃ fd, LawK.Df K mg "_law_is_number" LawK.sIsNumber ["thing", "least", "most"] 217 fd) (by
      refine' LawK.df_mk KX G (fun _ _ _ _ _ _ us hl => match us, hl with | [_, _, _], _ => rfl) ?kq27a ?kq27l ?kq27c
      (case kq27a => k_is); (case kq27l => k_is); (case kq27c => kernel_rfl)) ?_
    intro DIsNumber
    refine LawK.say KX (fun K => ∃ fd, LawK.Df K mg "_law_are_signs" LawK.sAreSigns ["thing"] 222 fd) (by
      refine' LawK.df_mk KX G (fun _ _ _ _ _ _ us hl => match us, hl with | [_], _ => rfl) ?kq28a ?kq28l ?kq28c
      (case kq28a => k_is); (case kq28l => k_is); (case kq28c => kernel_rfl)) ?_
    intro DAreSigns
    refine LawK.say KX (fun K => ∃ fd, LawK.Df K mg "_law_has_form" LawK.sHasForm ["thing"] 227 fd) (by
      refine' LawK.df_mk KX G (fun _ _ _ _ _ _ us hl => match us, hl with | [_], _ => rfl) ?kq29a ?kq29l ?kq29c
      (case kq29a => k_is); (case kq29l => k_is); (case kq29c => kernel_rfl)) ?_
    intro DHasForm
    refine LawK.say KX (fun K => ∃ fd, LawK.Df K mg "_law_figures" LawK.sFigures ["word"] 232 fd) (by
      refine' LawK.df_mk KX G (fun _ _ _ _ _ _ us hl => match us, hl with | [_], _ => rfl) ?kq30a ?kq30l ?kq30c
      (case kq30a => k_is); (case kq30l => k_is); (case kq30c => kernel_rfl)) ?_
    intro DFigures
    refine LawK.say KX (fun K => ∃ fd, LawK.Df K mg "_law_read" LawK.sRead ["text"] 239 fd) (by
      refine' LawK.df_mk KX G (fun _ _ _ _ _ _ us hl => match us, hl with | [_], _ => rfl) ?kq31a ?kq31l ?kq31c
      (case kq31a => k_is); (case kq31l => k_is); (case kq31c => kernel_rfl)) ?_
    intro DRead
    refine LawK.say KX (fun K => ∃ fd, LawK.Df K mg "_law_drawn" LawK.sDrawn ["hand"] 246 fd) (by
      refine' LawK.df_mk KX G (fun _ _ _ _ _ _ us hl => match us, hl with | [_], _ => rfl) ?kq32a ?kq32l ?kq32c
      (case kq32a => k_is); (case kq32l => k_is); (case kq32c => kernel_rfl)) ?_
    intro DDrawn
    refine LawK.say KX (fun K => ∃ fd, LawK.Df K mg "_law_bent" LawK.sBent ["hand", "thing"] 253 fd) (by
      refine' LawK.df_mk KX G (fun _ _ _ _ _ _ us hl => match us, hl with | [_, _], _ => rfl) ?kq33a ?kq33l ?kq33c
      (case kq33a => k_is); (case kq33l => k_is); (case kq33c => kernel_rfl)) ?_
    intro DBent
    refine LawK.say KX (fun K => ∃ fd, LawK.Df K mg "_law_told" LawK.sTold ["thing"] 260 fd) (by
      refine' LawK.df_mk KX G (fun _ _ _ _ _ _ us hl => match us, hl with | [_], _ => rfl) ?kq34a ?kq34l ?kq34c
      (case kq34a => k_is); (case kq34l => k_is); (case kq34c => kernel_rfl)) ?_
    intro DTold
    refine LawK.say KX (fun K => ∃ fd, LawK.Df K mg "_law_is_told" LawK.sIsTold ["thing"] 267 fd) (by
      refine' LawK.df_mk KX G (fun _ _ _ _ _ _ us hl => match us, hl with | [_], _ => rfl) ?kq35a ?kq35l ?kq35c
      (case kq35a => k_is); (case kq35l => k_is); (case kq35c => kernel_rfl)) ?_
    intro DIsTold
    refine LawK.say KX (fun K => Ev.KD K w 96 [(PySem.Str.ofString "put", L2.V.ref 97), (PySem.Str.ofString "cut", L2.V.ref 98), (PySem.Str.ofString "change", L2.V.ref 99), (PySem.Str.ofString "come", L2.V.ref 100), (PySem.Str.ofString "go", L2.V.ref 101), (PySem.Str.ofString "split", L2.V.ref 102), (PySem.Str.ofString "join", L2.V.ref 103), (PySem.Str.ofString "move", L2.V.ref 104)]) (by
      refine' Ev.kd_mk ?kq36l ?kq36m ?kq36c
      (case kq36l => k_is); (case kq36m => rfl); (case kq36c => exact (.cons rfl (.cons rfl (.cons rfl (.cons rfl (.cons rfl (.cons rfl (.cons rfl (.cons rfl .nil)))))))))) ?_
    intro KF
    refine LawK.say KX (fun K => ∃ kvs, LawK.FormsC K w mg 96 kvs ∧ (kvs.map (·.1)).Nodup ∧ kvs.length ≤ 100) (by
      refine' LawK.forms_mk KX G ?kq37a KF ?kq37l0 ?kq37h0 ?kq37v0 ?kq37l1 ?kq37h1 ?kq37v1 ?kq37l2 ?kq37h2 ?kq37v2 ?kq37l3 ?kq37h3 ?kq37v3 ?kq37l4 ?kq37h4 ?kq37v4 ?kq37l5 ?kq37h5 ?kq37v5 ?kq37l6 ?kq37h6 ?kq37v6 ?kq37l7 ?kq37h7 ?kq37v7
      (case kq37a => k_is); (case kq37l0 => k_is); (case kq37h0 => decide); (case kq37v0 => exact (.cons ⟨_, rfl⟩ (.cons ⟨_, rfl⟩ (.cons ⟨_, rfl⟩ .nil)))); (case kq37l1 => k_is); (case kq37h1 => decide); (case kq37v1 => exact (.cons ⟨_, rfl⟩ (.cons ⟨_, rfl⟩ (.cons ⟨_, rfl⟩ .nil)))); (case kq37l2 => k_is); (case kq37h2 => decide); (case kq37v2 => exact (.cons ⟨_, rfl⟩ (.cons ⟨_, rfl⟩ (.cons ⟨_, rfl⟩ .nil)))); (case kq37l3 => k_is); (case kq37h3 => decide); (case kq37v3 => exact (.cons ⟨_, rfl⟩ .nil)); (case kq37l4 => k_is); (case kq37h4 => decide); (case kq37v4 => exact .nil); (case kq37l5 => k_is); (case kq37h5 => decide); (case kq37v5 => exact (.cons ⟨_, rfl⟩ (.cons ⟨_, rfl⟩ .nil))); (case kq37l6 => k_is); (case kq37h6 => decide); (case kq37v6 => exact (.cons ⟨_, rfl⟩ (.cons ⟨_, rfl⟩ .nil))); (case kq37l7 => k_is); (case kq37h7 => decide); (case kq37v7 => exact (.cons ⟨_, rfl⟩ (.cons ⟨_, rfl⟩ (.cons ⟨_, rfl⟩ (.cons ⟨_, rfl⟩ (.cons ⟨_, rfl⟩ .nil))))))) ?_
    intro FF
    have GL : LawK.Glob mg := ⟨mg_none_of KX G (by k_is), mg_none_of KX G (by k_is), mg_none_of KX G (by k_is), mg_none_of KX G (by k_is), mg_none_of KX G (by k_is), mg_none_of KX G (by k_is), mg_none_of KX G (by k_is), mg_none_of KX G (by k_is), mg_none_of KX G (by k_is), mg_none_of KX G (by k_is), mg_none_of KX G (by k_is), mg_none_of KX G (by k_is), mg_none_of KX G (by k_is), mg_none_of KX G (by k_is), mg_none_of KX G (by k_is), mg_none_of KX G (by k_is), mg_none_of KX G (by k_is), mg_none_of KX G (by k_is), mg_none_of KX G (by k_is), mg_none_of KX G (by k_is)⟩
    refine' LawK.end_mk KX G hfa ?kq38a ?kq38l ?kq38c ?kq38b ?kq38d DPNumber DPSigns DPWord DQReadNumber DQReadPart DPReadLine DQIsPart DQHasForm DQHasText DPEditText DPReadEdit DHand DDraw DIs DDeep DAnySign DSign DText DTexts DWord DLEdit DNoEditL DLine DEditText DIsNumber DAreSigns DHasForm DFigures DRead DDrawn DBent DTold DIsTold EN ?kq38p FF (mg_none_of KX G (by k_is)) GL
    (case kq38a => k_is); (case kq38l => k_is); (case kq38c => kernel_rfl); (case kq38b => k_is); (case kq38d => k_is); (case kq38p => k_is)
