import PyProof.Rows.All
import Wide.All
import OpenK.AllK
import Wide.FinOn
import HandS.ForMost
import HandS.ForExc
import PyProof.ReprRoads
import PyProof.ReprLen
import HandS.Dict
import HandS.ExcInit
import PyProof.StrBlock2
import HandS.IsInst
import HandS.Codes
import HandS.StrMore
import HandS.TupMul
import HandS.Style
import HandS.TupAny
import HandS.Zip
import KE.GoesEnum
import KE.KExcSuper
import KE.KExcMake
import HandS.ExcValue
import HandS.ExcIs
import KE.KExcIs
import HandS.ExcField
import HandS.TryMany
import HandS.TryOnly
import HandS.Walk
import HandS.Base
import HandS.Call
import HandS.List
import HandS.Comp
import HandS.Set
import HandS.SetKeys
import HandS.SetBool
import HandS.SortOrd
import HandS.SortInts
import PyProof.Rows.SortStr
import HandS.DictTup
import PyProof.SliceMore
import PyProof.StrLoop
import PyProof.StrWalks
import HandS.Text
import PySem.Challenge.RW_everypiece_k50_whole_disks_and_records
set_option Elab.async false
set_option linter.all false
set_option maxRecDepth 100000
set_option maxHeartbeats 4000000
/-! repr of nested data that the law has made. -/
namespace Ev
open PySem PySem.Spec PyProof.Rows L2

/-- a display of a list; its place is not the table of modules -/
def tLstN (t : TA) : TE := fun σ H Q => t σ H fun xs H1 => xs.length ≤ sizeLine ∧ ∀ p, H1 p = none → p ≠ sysModules → Q (.ref p) (upd H1 p (.lst xs))
theorem pe_lstN {X : Cx} {es : List Expr} {pos : Pos} {t : TA} (h : PA X es t) : PE X (.List es pos) (tLstN t) := by
  refine ⟨fun pins s σ H Q I hq => ?_⟩
  refine wpAny_List_spliced (thn (h.run pos pins s σ H _ I hq) fun us s1 hh => ?_)
  obtain ⟨xs, H1, I1, r, z, q⟩ := hh
  have hf : H1 s1.heap.objs.size = none := I1.hok.fresh (Nat.le_refl _)
  refine ⟨by rw [← r.length]; exact z, .ref s1.heap.objs.size, upd H1 s1.heap.objs.size (.lst xs), I1.laid (t' := s1.toks) (o := .lst xs) (fun b u e => Heap.get?_push_of_some _ e) (Nat.le_refl _) ⟨z, us, 0, r, Heap.get?_push_size _ rfl⟩, rfl, q _ hf (Ne.symm (Nat.ne_of_lt I1.big))⟩

/-- the datum d is told by v -/
inductive Dt (H : Hp) : V → PyData → Prop
  | non : Dt H .non .none
  | bl (b : Bool) : Dt H (.bl b) (.bool b)
  | int (i : Int) : Dt H (.int i) (.int i)
  | str (x : Str) : Dt H (.str x) (.str x)
  | dic {a : Addr} : H a = some (.dK []) → Dt H (.ref a) (.dict [])
  | l0 {a : Addr} : H a = some (.lst []) → a ≠ sysModules → Dt H (.ref a) (.list [])
  | l1 {a : Addr} {x : V} {d : PyData} : H a = some (.lst [x]) → a ≠ sysModules → Dt H x d → Dt H (.ref a) (.list [d])
  | l2 {a : Addr} {x y : V} {d e : PyData} : H a = some (.lst [x, y]) → a ≠ sysModules → Dt H x d → Dt H y e → Dt H (.ref a) (.list [d, e])
  | t0 {a : Addr} : H a = some (.tup []) → Dt H (.ref a) (.tuple [])
  | t1 {a : Addr} {x : V} {d : PyData} : H a = some (.tup [x]) → Dt H x d → Dt H (.ref a) (.tuple [d])
  | t2 {a : Addr} {x y : V} {d e : PyData} : H a = some (.tup [x, y]) → Dt H x d → Dt H y e → Dt H (.ref a) (.tuple [d, e])
theorem Dt.keep {H H' : Hp} {v : V} {d : PyData} (h : Dt H v d) (k : ∀ b o, H b = some o → H' b = some o) : Dt H' v d := by
  induction h with
  | non => exact .non
  | bl b => exact .bl b
  | int i => exact .int i
  | str x => exact .str x
  | dic e => exact .dic (k _ _ e)
  | l0 e n => exact .l0 (k _ _ e) n
  | l1 e n _ ih => exact .l1 (k _ _ e) n ih
  | l2 e n _ _ i1 i2 => exact .l2 (k _ _ e) n i1 i2
  | t0 e => exact .t0 (k _ _ e)
  | t1 e _ ih => exact .t1 (k _ _ e) ih
  | t2 e _ _ i1 i2 => exact .t2 (k _ _ e) i1 i2
section
variable {X : Cx} {pins : List (Addr × Obj)} {σ : L2.St} {H : Hp} {s : Shared}
theorem lst_at (I : L2.Inv X pins σ H s) {a : Addr} {xs : List V} (h : H a = some (.lst xs)) : ∃ (its : List Value) (n : Nat), Vals xs its ∧ s.heap.get? a = some { cls := .type "list", data := .seq its.toArray n } := by
  obtain ⟨_, its, n, r, e⟩ := (show ObjOk X.prog X.w H s.heap a (.lst xs) from I.hok a _ h)
  exact ⟨its, n, r, e⟩
theorem tup_at (I : L2.Inv X pins σ H s) {a : Addr} {xs : List V} (h : H a = some (.tup xs)) : ∃ (its : List Value) (o : Obj) (n : Nat), Vals xs its ∧ s.heap.get? a = some o ∧ o.cls = .type "tuple" ∧ o.data = .seq its.toArray n := by
  obtain ⟨_, its, r, o, e, c, n, d⟩ := (show ObjOk X.prog X.w H s.heap a (.tup xs) from I.hok a _ h)
  exact ⟨its, o, n, r, e, c, d⟩
theorem Dt.reads (I : L2.Inv X pins σ H s) {v : V} {d : PyData} (h : Dt H v d) : ∀ {u : Value}, RelV v u → ∃ as, Reads s.heap u d as ∧ sysModules ∉ as := by
  induction h with
  | non => intro u r; cases r; exact ⟨_, .none, by simp⟩
  | bl b => intro u r; cases r; exact ⟨_, .bool b, by simp⟩
  | int i => intro u r; obtain ⟨t, rfl⟩ := r; exact ⟨_, .int i t, by simp⟩
  | str x => intro u r; obtain ⟨t, rfl⟩ := r; exact ⟨_, .str x t, by simp⟩
  | @dic a e =>
    intro u r
    cases r
    obtain ⟨_, hs, vs, kv, o, es, ep, ho, hx, hd, hk, hp, _⟩ := (show ObjOk X.prog X.w H s.heap a (.dK []) from I.hok a _ e)
    cases kv
    have he : es.toList = [] := by
      generalize es.toList = l at hp
      cases hp
      rfl
    refine ⟨a :: [] ++ [], .dict (as := []) (bs := []) ho hx.1 hd ?_ ?_, ?_⟩
    · rw [he]; exact .nil
    · rw [he]; exact .nil
    · have : a ≠ sysModules := by simpa using hs
      simp [Ne.symm this]
  | @l0 a e n =>
    intro u r
    cases r
    obtain ⟨its, m, rv, ho⟩ := lst_at I e
    cases rv
    exact ⟨_, .list ho rfl rfl .nil, by simp [Ne.symm n]⟩
  | @l1 a x d e n hx ih =>
    intro u r
    cases r
    obtain ⟨its, m, rv, ho⟩ := lst_at I e
    cases rv with
    | cons r1 rr =>
      cases rr
      obtain ⟨as, q, nq⟩ := ih r1
      exact ⟨_, .list ho rfl rfl (.cons q .nil), by simp [Ne.symm n, nq]⟩
  | @l2 a x y d e2 e n hx hy ih1 ih2 =>
    intro u r
    cases r
    obtain ⟨its, m, rv, ho⟩ := lst_at I e
    cases rv with
    | cons r1 rr =>
      cases rr with
      | cons r2 rr =>
        cases rr
        obtain ⟨as, q, nq⟩ := ih1 r1
        obtain ⟨bs, q2, nq2⟩ := ih2 r2
        exact ⟨_, .list ho rfl rfl (.cons q (.cons q2 .nil)), by simp [Ne.symm n, nq, nq2]⟩
  | @t0 a e =>
    intro u r
    cases r
    obtain ⟨its, o, m, rv, ho, hc, hd⟩ := tup_at I e
    cases rv
    exact ⟨_, .tuple ho hc hd .nil, by simp⟩
  | @t1 a x d e hx ih =>
    intro u r
    cases r
    obtain ⟨its, o, m, rv, ho, hc, hd⟩ := tup_at I e
    cases rv with
    | cons r1 rr =>
      cases rr
      obtain ⟨as, q, nq⟩ := ih r1
      exact ⟨_, .tuple ho hc hd (.cons q .nil), by simp [nq]⟩
  | @t2 a x y d e2 e hx hy ih1 ih2 =>
    intro u r
    cases r
    obtain ⟨its, o, m, rv, ho, hc, hd⟩ := tup_at I e
    cases rv with
    | cons r1 rr =>
      cases rr with
      | cons r2 rr =>
        cases rr
        obtain ⟨as, q, nq⟩ := ih1 r1
        obtain ⟨bs, q2, nq2⟩ := ih2 r2
        exact ⟨_, .tuple ho hc hd (.cons q (.cons q2 .nil)), by simp [nq, nq2]⟩
end
/-- repr(x), x a datum of small depth and size -/
def rRepr : List V → Hp → VK → Prop := fun xs H Q => ∃ (x : V) (d : PyData), xs = [x] ∧ Dt H x d ∧ d.showable = true ∧ d.depth ≤ 100 ∧ d.shown.length ≤ 100000 ∧ Q (.str d.shown) H
theorem call_repr {X : Cx} {k : Nat} (hg : X.A.guards = some []) (hr : Room k X.A) : CallR X (.builtin "repr") rRepr := by
  intro pins s σ H xs us Q I r h
  obtain ⟨x, d, rfl, hd, hs, hdp, hz, q⟩ := h
  obtain ⟨u, rfl, ru⟩ := vals1 r
  have hz' : d.shown.length ≤ sizeLine := Nat.le_trans hz (by decide)
  obtain ⟨as, rd, ns⟩ := hd.reads I ru
  have hu : X.A.units + (d.depth + 1) < cLine := by have := hr.un; omega
  have viaRef : ∀ a, u = .ref a → wpAny (model X.prog X.w) X.A (call (.builtin "repr") [u]) (EP X pins σ Q) X.xe s := fun a e => by
    subst e
    exact repr_of_reads' rd hs (fun _ => ns) hg hu (fun _ _ e => e) (fun h' u tk k => ⟨.str d.shown, H, I.kept k, ⟨_, rfl⟩, q⟩) hz'
  cases hd with
  | non => cases ru; exact PySem.P.repr_of_none ⟨.str _, H, I.tok _, ⟨_, rfl⟩, by simpa only [PyData.shown] using q⟩
  | bl b => cases ru; exact PySem.P.repr_of_bool ⟨.str _, H, I.tok _, ⟨_, rfl⟩, by simpa only [PyData.shown] using q⟩
  | int i => obtain ⟨t, rfl⟩ := ru; exact PySem.P.repr_of_int (by simpa [PyData.showable] using hs) ⟨.str _, H, I.tok _, ⟨_, rfl⟩, by simpa only [PyData.shown] using q⟩
  | str x => obtain ⟨t, rfl⟩ := ru; exact PySem.P.repr_of_str ⟨.str _, H, I.tok _, ⟨_, rfl⟩, by simpa only [PyData.shown] using q⟩ (by simpa only [PyData.shown] using hz')
  | dic e => exact viaRef _ ru
  | l0 e n => exact viaRef _ ru
  | l1 e n h1 => exact viaRef _ ru
  | l2 e n h1 h2 => exact viaRef _ ru
  | t0 e => exact viaRef _ ru
  | t1 e h1 => exact viaRef _ ru
  | t2 e h1 h2 => exact viaRef _ ru
/-- what is told of a datum: it may be shown, so deep, so long -/
def Small (d : PyData) (n m : Nat) : Prop := d.showable = true ∧ d.depth ≤ n ∧ d.shown.length ≤ m
theorem int_len {k : Int} (hk : 0 ≤ k ∧ k < 100) : (PyData.shown (.int k)).length ≤ 3 := by
  have e : (toString k).length ≤ 2 + 1 := int_text_length_le10 (by decide) (by omega)
  simp only [PyData.shown]
  rw [PySem.ofString_length]
  exact e
theorem int_show {k : Int} (hk : 0 ≤ k ∧ k < 100) : k.natAbs.log2 < 1920 := by
  have := Nat.log2_le_self k.natAbs
  omega
theorem small_tup {d : PyData} {n m : Nat} {k : Int} (h : Small d n m) (hk : 0 ≤ k ∧ k < 100) : Small (.tuple [d, .int k]) (n + 1) (m + 10) := by
  obtain ⟨h1, h2, h3⟩ := h
  refine ⟨by simp [PyData.showable, PyData.showableAll, h1, int_show hk], by simp only [PyData.depth, PyData.depthAll]; omega, ?_⟩
  have e := tupleText_len_le (PyData.shownAll [d, .int k])
  have e2 := int_len hk
  simp only [PyData.shownAll, List.map_cons, List.map_nil, List.sum_cons, List.sum_nil, List.length_cons, List.length_nil] at e
  show (tupleText (PyData.shownAll [d, .int k])).length ≤ m + 10
  simp only [PyData.shownAll]
  omega
theorem small_lst {d : PyData} {n m : Nat} {k : Int} (h : Small d n m) (hk : 0 ≤ k ∧ k < 100) : Small (.list [.int k, d]) (n + 1) (m + 10) := by
  obtain ⟨h1, h2, h3⟩ := h
  refine ⟨by simp [PyData.showable, PyData.showableAll, h1, int_show hk], by simp only [PyData.depth, PyData.depthAll]; omega, ?_⟩
  have e := listText_len_le (PyData.shownAll [.int k, d])
  have e2 := int_len hk
  simp only [PyData.shownAll, List.map_cons, List.map_nil, List.sum_cons, List.sum_nil, List.length_cons, List.length_nil] at e
  show (listText (PyData.shownAll [.int k, d])).length ≤ m + 10
  simp only [PyData.shownAll]
  omega
theorem Small.mono {d : PyData} {n m n' m' : Nat} (h : Small d n m) (h1 : n ≤ n') (h2 : m ≤ m') : Small d n' m' := ⟨h.1, Nat.le_trans h.2.1 h1, Nat.le_trans h.2.2 h2⟩
end Ev
set_option maxHeartbeats 4000000
namespace LawK
open PySem PySem.Spec PyProof.Rows L2 Ev

def topS (i : Nat) : Stmt := PySem.Challenge.pw_everypiece_k50_whole_disks_and_records.main.body.getD i (.Pass ⟨0, 0, 0, 0⟩)
abbrev sHand : Stmt := topS 14
theorem scHand : FnScope ["script", "cell"] ["script"] (defScope sHand) := ⟨rfl, rfl, rfl, by decide +kernel, rfl, by decide +kernel, by decide +kernel⟩
abbrev sDraw : Stmt := topS 15
theorem scDraw : FnScope ["hand", "many", "cell", "digit", "number"] ["hand", "many"] (defScope sDraw) := ⟨rfl, rfl, rfl, by decide +kernel, rfl, by decide +kernel, by decide +kernel⟩
/-! ### the hand of a law: what is left of the script, and a seed -/
def HandL (H : Hp) (p l : Addr) : Prop := ∃ (cells : List Int) (i r s n : Int), H p = some (.lst [.ref l, .int i, .int r, .int s, .int n]) ∧ H l = some (.lst (cells.map V.int)) ∧ l ≠ p ∧ 0 ≤ i ∧ 0 ≤ s ∧ s < 2147483647
/-- nothing but the hand at p has changed -/
def But (p : Addr) (H H' : Hp) : Prop := ∀ b o, b ≠ p → H b = some o → H' b = some o
theorem But.refl (p : Addr) (H : Hp) : But p H H := fun _ _ _ h => h
theorem But.trans {p : Addr} {H H1 H2 : Hp} (a : But p H H1) (b : But p H1 H2) : But p H H2 := fun c o n h => b c o n (a c o n h)
theorem But.new {p q : Addr} {H H1 : Hp} {o : HO} (a : But p H H1) (h : H1 q = none) : But p H (upd H1 q o) := fun c u n e => by
  have z := a c u n e
  rw [upd_ne (ne_of_none z h)]
  exact z
theorem But.same {p : Addr} {H H' : Hp} (a : Same H H') : But p H H' := fun c o _ e => a c o e
def spDraw : Sp := fun vs H Q _ => ∃ (p : Addr) (m : Int), vs = [.ref p, .int m] ∧ 0 < m ∧ m < 1000000 ∧ ∃ l, HandL H p l ∧ ∀ v H', 0 ≤ v → v < m → HandL H' p l → But p H H' → Q (.int v) H'
def spHand (K : PySem.W.Frag) : Sp := fun vs H Q _ => ∃ (a : Addr) (ns : List Int), vs = [.ref a] ∧ SqL K H a (ns.map V.int) ∧ ∀ p l H', H p = none → H l = none → HandL H' p l → Same H H' → Q (.ref p) H'
structure Glob (mg : Str → Option Value) : Prop where
  abs : mg "abs" = none
  any : mg "any" = none
  repr : mg "repr" = none
  reversed : mg "reversed" = none
  len : mg "len" = none
  int : mg "int" = none
  list : mg "list" = none
  range : mg "range" = none
  isinstance : mg "isinstance" = none
  bool : mg "bool" = none
  str : mg "str" = none
  tuple : mg "tuple" = none
  sum : mg "sum" = none
  ord : mg "ord" = none
  zip : mg "zip" = none
  max : mg "max" = none
  min : mg "min" = none
  all : mg "all" = none
  enumerate : mg "enumerate" = none
  sorted : mg "sorted" = none

theorem sq_of {K : PySem.W.Frag} {H : Hp} {a : Addr} {xs : List V} (h : H a = some (.lst xs)) : SqL K H a xs := .inl (.inl h)
theorem atI_in {α : Type} {xs : List α} {i : Int} (h0 : 0 ≤ i) (h1 : i < xs.length) : ∃ v, atI xs i = some v ∧ v ∈ xs := by
  obtain ⟨j, rfl⟩ := Int.eq_ofNat_of_zero_le h0
  have hj : j < xs.length := by omega
  exact ⟨xs[j], atI_nat (by rw [List.getElem?_eq_getElem hj]), List.getElem_mem hj⟩
theorem atI_int {xs : List Int} {i : Int} (h0 : 0 ≤ i) (h1 : i < xs.length) : ∃ c : Int, atI (xs.map V.int) i = some (.int c) := by
  obtain ⟨v, e, hm⟩ := atI_in (xs := xs.map V.int) h0 (by rw [List.length_map]; exact h1)
  obtain ⟨c, _, rfl⟩ := List.mem_map.mp hm
  exact ⟨c, e⟩
theorem sqSame {K : PySem.W.Frag} {H H' : Hp} {a : Addr} {xs : List V} (h : SqL K H a xs) (k : Same H H') : SqL K H' a xs := by
  rcases h with (h | ⟨o, h⟩) | h
  · exact .inl (.inl (k _ _ h))
  · exact .inl (.inr ⟨o, k _ _ h⟩)
  · exact .inr h
theorem Same.new {H : Hp} {q : Addr} {o : HO} (h : H q = none) : Same H (upd H q o) := fun b u e => by
  rw [upd_ne (ne_of_none e h)]
  exact e
theorem sameAt {H H' : Hp} {q : Addr} {o : HO} (k : Same H H') (h : H q = none) : Same H (upd H' q o) := fun b u e => by
  rw [upd_ne (ne_of_none e h)]
  exact k b u e
theorem Same.free {H H' : Hp} (k : Same H H') {a : Addr} (h : H' a = none) : H a = none := by
  cases e : H a with
  | none => rfl
  | some o =>
    rw [k _ _ e] at h
    cases h
theorem cells_cut {ns : List Int} {h : Option Int} : ∃ ms : List Int, cutV (ns.map V.int) none h = ms.map V.int ∧ ms.length ≤ ns.length := by
  refine ⟨(ns.drop (HT.sIx (ns.map V.int).length 0 none)).take (HT.sIx (ns.map V.int).length (ns.map V.int).length h - HT.sIx (ns.map V.int).length 0 none), ?_, ?_⟩
  · show ((ns.map V.int).drop _).take _ = _
    rw [← List.map_drop, ← List.map_take]
  · rw [List.length_take, List.length_drop]
    omega
theorem PSs.imp {X : Cx} {st : List Stmt} {t u : TS} (h : PSs X st u) (k : ∀ D σ H, t D σ H → u D σ H) : PSs X st t := ⟨fun pins s σ H D I q => h.run pins s σ H D I (k D σ H q)⟩
theorem PE.imp {X : Cx} {e : Expr} {t u : TE} (h : PE X e u) (k : ∀ σ H Q, t σ H Q → u σ H Q) : PE X e t := ⟨fun pins s σ H Q I q => h.run pins s σ H Q I (k σ H Q q)⟩
theorem PS.imp {X : Cx} {st : Stmt} {t u : TS} (h : PS X st u) (k : ∀ D σ H, t D σ H → u D σ H) : PS X st t := ⟨fun pins s σ H D I q => h.run pins s σ H D I (k D σ H q)⟩
def tTail : TS := fun D σ H => ∃ (p : Addr) (m : Int) (l : Addr) (cells : List Int) (i r s n : Int) (c f x : Option V), σ = [some (.ref p), some (.int m), c, f, x] ∧ 0 < m ∧ m < 1000000 ∧ H p = some (.lst [.ref l, .int i, .int r, .int s, .int n]) ∧ H l = some (.lst (cells.map V.int)) ∧ l ≠ p ∧ 0 ≤ i ∧ 0 ≤ s ∧ s < 2147483647 ∧
  ∀ v H', 0 ≤ v → v < m → HandL H' p l → But p H H' → D.rt (.int v) H'
theorem HandL.mk {H : Hp} {p l : Addr} {cells : List Int} {i r s n : Int} (hp : H p = some (.lst [.ref l, .int i, .int r, .int s, .int n])) (hl : H l = some (.lst (cells.map V.int))) (n0 : l ≠ p) (h1 : 0 ≤ i) (h2 : 0 ≤ s) (h3 : s < 2147483647) : HandL H p l := ⟨cells, i, r, s, n, hp, hl, n0, h1, h2, h3⟩
theorem but_upd {p : Addr} {H : Hp} {o : HO} : But p H (upd H p o) := fun b u n e => by
  rw [upd_ne n]
  exact e
theorem boot_ty_int : bootBuiltins "int" = some (.type "int") := by decide +kernel
section
variable {P : Program} {w : World} {K : PySem.W.Frag} {mg : Str → Option Value} {base : Heap}

theorem ok_Hand {f : Addr} {fd : FuncData} (F : Fun K "_law_hand" "_law_hand" sHand f fd) (T : Glob mg) : FnOk P w K mg base CX0 1 f fd ["script"] (spHand K) := by
  refine F.ok scHand (fun vs H Q E h => ?_) (fun cdv A outer s H vs Q E hr h => ?_)
  · obtain ⟨a, ns, rfl, _⟩ := h
    rfl
  · obtain ⟨a, ns, rfl, hS, q⟩ := h
    refine ⟨_, (pss_one (ps_ret (pe_lst (pa_cons (pe_lc (own := [("cell", 1)]) (g := gName 1) (by rfl) scHand.nd (pi_list (pe_slice sl_list (pv 0) po_none (po_some pe_int))) (blkOk_by (N := ["script", "cell"]) (sc := defScope sHand) (by decide +kernel)) (fun _ _ _ _ _ => pg_name (i := 1) scHand.nd rfl (.inl rfl)) (fun _ _ _ _ _ => pts_nil) (fun _ _ _ _ _ => (pe_callTy call_int1 (by rfl) T.int boot_ty_int (pa_cons (pv 1) pa_nil)))) (pa_cons pe_int (pa_cons pe_int (pa_cons (pe_op op_add pe_int (pe_callB call_len_seq (by rfl) T.len PySem.boot_len (pa_cons (pe_slice sl_list (pv 0) po_none (po_some pe_int)) pa_nil))) (pa_cons pe_int pa_nil)))))))), ?_⟩
    obtain ⟨ms, ec, lm⟩ := cells_cut (ns := ns) (h := some 63)
    have lc : (cutV (ns.map V.int) none (some (63 : Int))).length ≤ 63 := by
      show (((ns.map V.int).drop _).take _).length ≤ 63
      rw [List.length_take]
      have : HT.sIx (ns.map V.int).length (ns.map V.int).length (some (63 : Int)) ≤ 63 := Nat.min_le_left _ _
      omega
    refine ⟨.ref a, rfl, 63, rfl, a, _, rfl, hS, fun c nc => ?_⟩
    rw [ec]
    rw [ec, List.length_map] at lc
    have kc := Same.new (o := .lst (ms.map V.int)) nc
    have hc : upd H c (.lst (ms.map V.int)) c = some (.lst (ms.map V.int)) := upd_same
    revert kc hc
    generalize upd H c (.lst (ms.map V.int)) = H1
    intro kc hc
    refine ⟨c, rfl, ⟨_, sq_of hc⟩, fun l nl => lc_list (xs := ms.map V.int) (fun i H' => Same H1 H' ∧ ∃ zs : List Int, H' l = some (.lst (zs.map V.int)) ∧ zs.length = i) ⟨Same.new nl, [], upd_same, rfl⟩ (fun i H' _ w => sq_of (w.1 _ _ hc)) ?_ ?_⟩
    · rintro i x H2 hx ⟨k2, zs, hl, lz⟩
      rw [List.getElem?_map] at hx
      obtain ⟨y, hy, rfl⟩ := Option.map_eq_some_iff.mp hx
      have li := (List.getElem?_eq_some_iff.mp hy).1
      refine ⟨rfl, .int y, rfl, .inl ⟨y, rfl, _, hl, ?_, sameAt k2 nl, zs ++ [y], ?_, by rw [List.length_append, lz]; rfl⟩⟩
      · rw [List.length_map, lz, sizeLine_eq]
        omega
      · rw [upd_same, List.map_append]
        rfl
    · rintro H2 ⟨k2, zs, hl, lz⟩
      rw [List.length_map] at lz
      refine ⟨.ref a, rfl, 63, rfl, a, _, rfl, sqSame hS (kc.trans k2), fun d nd => ?_⟩
      rw [ec]
      have kd := Same.new (o := .lst (ms.map V.int)) nd
      have hd : upd H2 d (.lst (ms.map V.int)) d = some (.lst (ms.map V.int)) := upd_same
      revert kd hd
      generalize upd H2 d (.lst (ms.map V.int)) = H3
      intro kd hd
      refine ⟨d, _, rfl, .inl (sq_of hd), _, _, rfl, rfl, by show 5 ≤ sizeLine; decide, fun p hp => ?_⟩
      have hl3 := kd _ _ hl
      have nlp : l ≠ p := fun e => by
        rw [e] at hl3
        rw [hl3] at hp
        cases hp
      have kH3 : Same H H3 := (kc.trans k2).trans kd
      have ncl : H l = none := Same.free kc nl
      refine q p l _ (Same.free kH3 hp) ncl ⟨zs, 0, 0, 1 + (((ms.map V.int).length : Nat) : Int), 0, upd_same, by rw [upd_ne nlp]; exact hl3, nlp, by decide, by omega, ?_⟩ (sameAt kH3 (Same.free kH3 hp))
      rw [List.length_map]
      omega
theorem ok_Draw {f : Addr} {fd : FuncData} (F : Fun K "_law_draw" "_law_draw" sDraw f fd) (T : Glob mg) : FnOk P w K mg base CX0 1 f fd ["hand", "many"] spDraw := by
  refine F.ok scDraw (fun vs H Q E h => ?_) (fun cdv A outer s H vs Q E hr h => ?_)
  · obtain ⟨p, m, rfl, _⟩ := h
    rfl
  · obtain ⟨p, m, rfl, m0, m1, l, ⟨cells, i, r, s0, n, hp, hl, npl, hi, hs0, hs1⟩, q⟩ := h
    refine ⟨_, (pss_cons (ps_if (PW.pt (pw_and (pt_cmpR op_eq (pe_ix ix_list (pv 0) pe_int (fun _ _ => rfl)) pe_int (nomark _)) (pw_and1 (pt_cmpR op_lt (pe_ix ix_list (pv 0) pe_int (fun _ _ => rfl)) (pe_callB call_len_seq (by rfl) T.len PySem.boot_len (pa_cons (pe_ix ix_list (pv 0) pe_int (fun _ _ => rfl)) pa_nil)) (nomark _)))))
      (pss_cons (ps_set (i := 2) scDraw.nd rfl (.inl rfl) (pe_ix ix_list (pe_ix ix_list (pv 0) pe_int (fun _ _ => rfl)) (pe_ix ix_list (pv 0) pe_int (fun _ _ => rfl)) (fun _ _ => rfl)))
        (pss_cons (ps_asg (pe_op op_add (pe_ix ix_list (pv 0) pe_int (fun _ _ => rfl)) pe_int) (pg_sub (pv 0) pe_int set_list))
        (pss_cons (ps_asg (pe_op op_mod (pe_callTy call_int1 (by rfl) T.int boot_ty_int (pa_cons (pe_op op_add (pe_op op_add (pe_op op_mul (pe_ix ix_list (pv 0) pe_int (fun _ _ => rfl)) pe_int) (pe_op op_mul (pv 2) pe_int)) pe_int) pa_nil)) pe_int) (pg_sub (pv 0) pe_int set_list))
        (pss_one (ps_if (pt_cmpR op_ge (pv 2) (pe_op op_pow pe_int pe_int) (nomark _))
        (pss_one (ps_asg (pv 2) (pg_sub (pv 0) pe_int set_list)))
        pss_nil)))))
      pss_nil)
      (PSs.imp (t := tTail) (pss_cons (ps_if (pt_cmpR op_gt (pe_ix ix_list (pv 0) pe_int (fun _ _ => rfl)) pe_int (nomark _))
      (pss_cons (ps_set (i := 3) scDraw.nd rfl (.inl rfl) (pe_op op_mod (pe_callTy call_int1 (by rfl) T.int boot_ty_int (pa_cons (pe_ix ix_list (pv 0) pe_int (fun _ _ => rfl)) pa_nil)) (pv 1)))
        (pss_cons (ps_asg (pe_op op_fdiv (pe_ix ix_list (pv 0) pe_int (fun _ _ => rfl)) (pv 1)) (pg_sub (pv 0) pe_int set_list))
        (pss_one (ps_ret (pv 3)))))
      pss_nil)
      (pss_cons (ps_asg (pe_op op_add (pe_ix ix_list (pv 0) pe_int (fun _ _ => rfl)) pe_int) (pg_sub (pv 0) pe_int set_list))
      (pss_cons (ps_set (i := 4) scDraw.nd rfl (.inl rfl) (pe_op op_mod (pe_callTy call_int1 (by rfl) T.int boot_ty_int (pa_cons (pe_op op_mul (pe_callTy call_int1 (by rfl) T.int boot_ty_int (pa_cons (pe_op op_add (pe_ix ix_list (pv 0) pe_int (fun _ _ => rfl)) (pe_op op_mul pe_int (pe_ix ix_list (pv 0) pe_int (fun _ _ => rfl)))) pa_nil)) pe_int) pa_nil)) pe_int))
      (pss_cons (ps_set (i := 4) scDraw.nd rfl (.inl rfl) (pe_op op_mod (pe_callTy call_int1 (by rfl) T.int boot_ty_int (pa_cons (pe_op op_mul (pv 4) (pe_op op_add (pe_op op_fdiv (pv 4) pe_int) pe_int)) pa_nil)) pe_int))
      (pss_cons (ps_set (i := 4) scDraw.nd rfl (.inl rfl) (pe_op op_mod (pe_callTy call_int1 (by rfl) T.int boot_ty_int (pa_cons (pe_op op_mul (pv 4) (pe_op op_add (pe_op op_fdiv (pv 4) pe_int) pe_int)) pa_nil)) pe_int))
      (pss_one (ps_ret (pe_op op_mod (pe_callTy call_int1 (by rfl) T.int boot_ty_int (pa_cons (pe_op op_fdiv (pv 4) pe_int) pa_nil)) (pv 1))))))))) ?tail)), ?_⟩
    case tail =>
      rintro D σ H ⟨p, m, l, cells, i, r, s, n, c, f, x, rfl, m0, m1, hp, hl, npl, hi, hs0, hs1, q⟩
      refine ⟨.ref p, rfl, p, _, 2, _, rfl, rfl, sq_of hp, rfl, _, _, rfl, rfl, _, rfl, ite2 (fun e => ?_) (fun e => ?_)⟩
      · refine ⟨.ref p, rfl, p, _, 2, _, rfl, rfl, sq_of hp, rfl, .inl ⟨r, rfl, .int m, rfl, _, _, rfl, rfl, m0, ?_⟩⟩
        refine ⟨.ref p, rfl, p, _, 2, _, rfl, rfl, sq_of hp, rfl, .int m, rfl, _, _, rfl, rfl, ⟨m0, by omega⟩, ?_⟩
        refine ⟨.ref p, rfl, p, _, 2, 2, rfl, rfl, hp, rfl, ?_⟩
        refine ⟨_, rfl, ?_⟩
        refine q _ _ (Int.emod_nonneg _ (by omega)) (Int.emod_lt_of_pos _ m0) (.mk upd_same (by rw [upd_ne npl]; exact hl) npl hi hs0 hs1) but_upd
      · dsimp only [tNext, tDrop]
        refine ⟨.ref p, rfl, p, _, 4, _, rfl, rfl, sq_of hp, rfl, _, _, rfl, rfl, .ref p, rfl, p, _, 4, 4, rfl, rfl, hp, rfl, ?_⟩
        dsimp only
        have hp2 : upd H p (.lst (List.set [.ref l, .int i, .int r, .int s, .int n] 4 (.int (n + 1)))) p = some (.lst [.ref l, .int i, .int r, .int s, .int (n + 1)]) := upd_same
        have hl2 : upd H p (.lst (List.set [.ref l, .int i, .int r, .int s, .int n] 4 (.int (n + 1)))) l = some (.lst (cells.map V.int)) := by rw [upd_ne npl]; exact hl
        have b2 : But p H (upd H p (.lst (List.set [.ref l, .int i, .int r, .int s, .int n] 4 (.int (n + 1))))) := but_upd
        generalize upd H p (.lst (List.set [.ref l, .int i, .int r, .int s, .int n] 4 (.int (n + 1)))) = H2 at hp2 hl2 b2 ⊢
        refine ⟨.ref p, rfl, p, _, 3, _, rfl, rfl, sq_of hp2, rfl, .ref p, rfl, p, _, 4, _, rfl, rfl, sq_of hp2, rfl, 7919, n + 1, rfl, rfl, .inl ⟨by decide, by decide⟩, _, _, rfl, rfl, .inl ⟨_, rfl, _, _, rfl, rfl, .inr ⟨by decide, by decide⟩, .inl ⟨_, rfl, _, _, rfl, rfl, (by show (0 : Int) < 2147483647; decide), ?_⟩⟩⟩
        dsimp only
        have a2 : 0 ≤ ((s + 7919 * (n + 1)) * 48271) % 2147483647 := Int.emod_nonneg _ (by decide)
        have a3 : ((s + 7919 * (n + 1)) * 48271) % 2147483647 < 2147483647 := Int.emod_lt_of_pos _ (by decide)
        generalize ((s + 7919 * (n + 1)) * 48271) % 2147483647 = y at a2 a3 ⊢
        refine ⟨.int y, rfl, .int y, rfl, _, _, rfl, rfl, ⟨by decide, by decide⟩, _, _, rfl, rfl, _, _, rfl, rfl, .inl ⟨by omega, by omega⟩, .inl ⟨_, rfl, _, _, rfl, rfl, (by show (0 : Int) < 2147483647; decide), ?_⟩⟩
        dsimp only
        have a4 : 0 ≤ (y * (y / 1009 + 69621)) % 2147483647 := Int.emod_nonneg _ (by decide)
        have a5 : (y * (y / 1009 + 69621)) % 2147483647 < 2147483647 := Int.emod_lt_of_pos _ (by decide)
        generalize (y * (y / 1009 + 69621)) % 2147483647 = z at a4 a5 ⊢
        refine ⟨.int z, rfl, .int z, rfl, _, _, rfl, rfl, ⟨by decide, by decide⟩, _, _, rfl, rfl, _, _, rfl, rfl, .inl ⟨by omega, by omega⟩, .inl ⟨_, rfl, _, _, rfl, rfl, (by show (0 : Int) < 2147483399; decide), ?_⟩⟩
        refine ⟨_, rfl, _, _, rfl, rfl, ⟨by decide, by decide⟩, .inl ⟨_, rfl, .int m, rfl, _, _, rfl, rfl, m0, ?_⟩⟩
        exact q _ _ (Int.emod_nonneg _ (by omega)) (Int.emod_lt_of_pos _ m0) (.mk hp2 hl2 npl hi hs0 hs1) b2
    have fin : ∀ {H2 : Hp} {i r s n : Int} {c : Option V}, H2 p = some (.lst [.ref l, .int i, .int r, .int s, .int n]) → H2 l = some (.lst (cells.map V.int)) → 0 ≤ i → 0 ≤ s → s < 2147483647 → But p H H2 →
        tTail { nx := fun _ H' => Q .non H', rt := Q } [some (.ref p), some (.int m), c, none, none] H2 := fun {H2 i r s n c} h1 h2 h3 h4 h5 h6 =>
      ⟨p, m, l, cells, i, r, s, n, c, none, none, rfl, m0, m1, h1, h2, npl, h3, h4, h5, fun v H' g1 g2 g3 g4 => q v H' g1 g2 g3 (h6.trans g4)⟩
    refine ⟨.ref p, rfl, p, _, 2, _, rfl, rfl, sq_of hp, rfl, rfl, _, rfl, ite2 (fun e => ?_) (fun e => ?_)⟩
    · refine ⟨.ref p, rfl, p, _, 1, _, rfl, rfl, sq_of hp, rfl, .ref p, rfl, p, _, 0, _, rfl, rfl, sq_of hp, rfl, l, _, rfl, .inl (sq_of hl), _, _, rfl, rfl, _, rfl, ite2 (fun e2 => ?_) (fun e2 => ?_)⟩
      · have hlt : i < (cells.length : Int) := by
          have z := of_decide_eq_true e2
          rw [List.length_map] at z
          exact z
        obtain ⟨c, hc⟩ := atI_int hi hlt
        refine ⟨.ref p, rfl, p, _, 0, _, rfl, rfl, sq_of hp, rfl, .ref p, rfl, p, _, 1, _, rfl, rfl, sq_of hp, rfl, l, _, i, _, rfl, rfl, sq_of hl, hc, ?_⟩
        refine ⟨.ref p, rfl, p, _, 1, _, rfl, rfl, sq_of hp, rfl, _, _, rfl, rfl, .ref p, rfl, p, _, 1, 1, rfl, rfl, hp, rfl, ?_⟩
        dsimp only
        have hp2 : upd H p (.lst (List.set [.ref l, .int i, .int r, .int s0, .int n] 1 (.int (i + 1)))) p = some (.lst [.ref l, .int (i + 1), .int r, .int s0, .int n]) := upd_same
        have hl2 : upd H p (.lst (List.set [.ref l, .int i, .int r, .int s0, .int n] 1 (.int (i + 1)))) l = some (.lst (cells.map V.int)) := by rw [upd_ne npl]; exact hl
        have b2 : But p H (upd H p (.lst (List.set [.ref l, .int i, .int r, .int s0, .int n] 1 (.int (i + 1))))) := but_upd
        generalize upd H p (.lst (List.set [.ref l, .int i, .int r, .int s0, .int n] 1 (.int (i + 1)))) = H2 at hp2 hl2 b2 ⊢
        refine ⟨.ref p, rfl, p, _, 3, _, rfl, rfl, sq_of hp2, rfl, s0, 69621, rfl, rfl, .inl ⟨by omega, by omega⟩, .int c, rfl, _, _, rfl, rfl, .inr ⟨by decide, by decide⟩, _, _, rfl, rfl, _, _, rfl, rfl, .inl ⟨_, rfl, _, _, rfl, rfl, (by show (0 : Int) < 2147483629; decide), .ref p, rfl, p, _, 3, 3, rfl, rfl, hp2, rfl, ?_⟩⟩
        dsimp only
        have a0 : 0 ≤ (s0 * 69621 + c * 16 + 11) % 2147483629 := Int.emod_nonneg _ (by decide)
        have a1 : (s0 * 69621 + c * 16 + 11) % 2147483629 < 2147483629 := Int.emod_lt_of_pos _ (by decide)
        generalize (s0 * 69621 + c * 16 + 11) % 2147483629 = s2 at a0 a1 ⊢
        have hp3 : upd H2 p (.lst (List.set [.ref l, .int (i + 1), .int r, .int s0, .int n] 3 (.int s2))) p = some (.lst [.ref l, .int (i + 1), .int r, .int s2, .int n]) := upd_same
        have hl3 : upd H2 p (.lst (List.set [.ref l, .int (i + 1), .int r, .int s0, .int n] 3 (.int s2))) l = some (.lst (cells.map V.int)) := by rw [upd_ne npl]; exact hl2
        have b3 : But p H (upd H2 p (.lst (List.set [.ref l, .int (i + 1), .int r, .int s0, .int n] 3 (.int s2)))) := b2.trans but_upd
        generalize upd H2 p (.lst (List.set [.ref l, .int (i + 1), .int r, .int s0, .int n] 3 (.int s2))) = H3 at hp3 hl3 b3 ⊢
        refine ⟨.int c, rfl, _, _, rfl, rfl, ⟨by decide, by decide, by decide⟩, _, _, rfl, rfl, _, rfl, ite2 (fun _ => ?_) (fun _ => ?_)⟩
        · refine ⟨.int c, rfl, .ref p, rfl, p, _, 2, 2, rfl, rfl, hp3, rfl, ?_⟩
          exact fin upd_same (by rw [upd_ne npl]; exact hl3) (by omega) a0 (by omega) (b3.trans but_upd)
        · dsimp only [tNext, tDrop]
          exact fin hp3 hl3 (by omega) a0 (by omega) b3
      · dsimp only [tNext, tDrop]
        exact fin hp hl hi hs0 hs1 (But.refl _ _)
    · dsimp only [tNext, tDrop]
      exact fin hp hl hi hs0 hs1 (But.refl _ _)
end
end LawK
set_option maxHeartbeats 4000000
/-! Texts: how long, so many times, which signs; kinds of values. -/
namespace Ev
open PySem PySem.Spec PyProof.Rows L2
def rLenZ : List V → Hp → VK → Prop := fun xs H Q => ∃ z : Str, xs = [.str z] ∧ z.length ≤ sizeLine ∧ Q (.int z.length) H
theorem call_lenZ {X : Cx} : CallR X (.builtin "len") rLenZ := fun pins s σ H xs us Q I r h =>
  call_len pins s σ H xs us Q I r (let ⟨z, e, hz, q⟩ := h; ⟨.str z, z.length, e, ⟨hz, rfl⟩, q⟩)
def rMulS : R2 := fun x y H Q => ∃ (z : Str) (n : Int), x = .str z ∧ y = .int n ∧ 0 ≤ n ∧ n ≤ 3000 ∧ z.length ≤ 1000 ∧ Q (.str (Txt.mul z n)) H
theorem mul_ok {z : Str} {n : Int} (h0 : 0 ≤ n) (h1 : n ≤ 3000) (h2 : z.length ≤ 1000) : MulOk z n := by
  refine ⟨by simp; omega, fun a _ => ?_, fun _ _ => ?_⟩
  · have e : (1000 : Int) ≤ (2 ^ 63 - 1) / n := by
      refine Int.le_ediv_of_mul_le (by omega) ?_
      have : (2 : Int) ^ 63 - 1 = 9223372036854775807 := by decide
      omega
    omega
  · have e : z.length * n.toNat ≤ 1000 * 3000 := Nat.mul_le_mul h2 (by omega)
    have h3 : sizeLine = 16777216 := sizeLine_eq
    show decide (z.length * n.toNat > sizeLine) = false
    exact decide_eq_false (by omega)
theorem op_mulS {X : Cx} : OpR X (binaryOp .Mult) rMulS := by
  intro pins s σ H x y v u Q I rx ry h
  obtain ⟨z, n, rfl, rfl, h0, h1, h2, q⟩ := h
  obtain ⟨t, rfl⟩ := rx
  obtain ⟨t', rfl⟩ := ry
  exact SB.mul (mul_ok h0 h1 h2) fun t' k => ⟨.str _, H, I.tok _, ⟨_, rfl⟩, q⟩
/-- every sign of the text is one from the blank to the tilde -/
def sgC (c : Nat) : Bool := decide (32 ≤ c) && decide (c ≤ 126)
def sgB (z : Str) : Bool := z.cps.toList.all sgC
theorem prn128 : ∀ c : Fin 128, Unicode.isPrintable c.val = sgC c.val := by decide +kernel
theorem sgC_of (c : Nat) : (decide (c < 128) && Unicode.isPrintable c) = sgC c := by
  by_cases h : c < 128
  · rw [decide_eq_true h, Bool.true_and]
    exact prn128 ⟨c, h⟩
  · rw [decide_eq_false h, Bool.false_and]
    unfold sgC
    rw [decide_eq_false (show ¬ c ≤ 126 by omega), Bool.and_false]
theorem sgB_of (z : Str) : (Txt.isascii z && Txt.isprintable z) = sgB z := by
  unfold Txt.isascii Txt.isprintable sgB
  rw [← Array.all_toList, ← Array.all_toList]
  generalize z.cps.toList = l
  induction l with
  | nil => rfl
  | cons c l ih =>
    rw [List.all_cons, List.all_cons, List.all_cons, ← sgC_of, ← ih]
    cases decide (c < 128) <;> cases Unicode.isPrintable c <;> cases l.all (fun c => decide (c < 128)) <;> rfl
/-! ### kinds -/
inductive Kn | non | bl | int | str | lst | tup | dic
  deriving DecidableEq
def Kn.name : Kn → String
  | .non => "NoneType"
  | .bl => "bool"
  | .int => "int"
  | .str => "str"
  | .lst => "list"
  | .tup => "tuple"
  | .dic => "dict"
def kitB : Kn → Kn → Bool
  | .bl, .int => true
  | a, b => decide (a = b)
inductive Kd (H : Hp) : V → Kn → Prop
  | non : Kd H .non .non
  | bl (b : Bool) : Kd H (.bl b) .bl
  | int (i : Int) : Kd H (.int i) .int
  | str (z : Str) : Kd H (.str z) .str
  | lst {a : Addr} {xs : List V} (e : H a = some (.lst xs)) : Kd H (.ref a) .lst
  | tup {a : Addr} {xs : List V} (e : H a = some (.tup xs)) : Kd H (.ref a) .tup
  | dic {a : Addr} {kvs : List (Key × V)} (e : H a = some (.dK kvs)) : Kd H (.ref a) .dic
theorem Kd.tyx {K : PySem.W.Frag} {H : Hp} {x : V} {k : Kn} (h : Kd H x k) : TyX K H x (.type k.name) := by
  cases h with
  | non => exact .base .non
  | bl b => exact .base (.bl b)
  | int i => exact .base (.int i)
  | str z => exact .base (.str z)
  | lst e => exact .base (.lst e)
  | tup e => exact .base (.tup e)
  | dic e => exact .base (.dK e)
theorem Kd.same {H H' : Hp} (s : ∀ b o, H b = some o → H' b = some o) {x : V} {k : Kn} (h : Kd H x k) : Kd H' x k := by
  cases h with
  | non => exact .non
  | bl b => exact .bl b
  | int i => exact .int i
  | str z => exact .str z
  | lst e => exact .lst (s _ _ e)
  | tup e => exact .tup (s _ _ e)
  | dic e => exact .dic (s _ _ e)
theorem kit_kn {K : PySem.W.Frag} : ∀ a b : Kn, PySem.W.kitOne K (.type a.name) (.type b.name) = some (kitB a b) := by
  intro a b
  cases a <;> cases b <;> exact kit_ty (by decide +kernel)
theorem rd_isi {K : PySem.W.Frag} {H : Hp} {x : V} {k : Kn} {Q : VK} (T : Kn) (h : Kd H x k) (q : Q (.bl (kitB k T)) H) : rIsi K [x, .ty T.name] H Q :=
  ⟨x, .ty T.name, .type k.name, .type T.name, kitB k T, rfl, .ty _, h.tyx, kit_kn k T, q⟩
/-- for c in s -/
theorem for_strZ {z : Str} {g : TG} {tb : TS} {D : Ends} {σ : L2.St} {H : Hp} (Pv : Nat → L2.St → Hp → Prop) (h0 : Pv 0 σ H)
    (hs : ∀ i c σ H, z.cps[i]? = some c → Pv i σ H → g (.str ⟨#[c]⟩) σ H fun σ2 H2 => tb { D with nx := Pv (i + 1), ct := Pv (i + 1), bk := D.nx } σ2 H2) (hd : ∀ σ H, Pv z.cps.size σ H → D.nx σ H) :
    ∃ W : Nat → Nat → L2.St → Hp → Prop, (∃ m, W 0 m σ H) ∧ ∀ i m σ H, W i m σ H →
      ((Its z).stop i H ∧ D.nx σ H) ∨ ((Its z).go i H ∧ ∃ N : L2.St → Hp → Prop, (∀ σ' H', N σ' H' → ∃ m', m' < m ∧ W (i + 1) m' σ' H') ∧ ∀ x H', (Its z).yld i H x H' → g x σ H' fun σ2 H2 => tb { D with nx := N, ct := N, bk := D.nx } σ2 H2) := by
  refine ⟨fun i m σ H => m = z.cps.size - i ∧ i ≤ z.cps.size ∧ Pv i σ H, ⟨z.cps.size, by simp, Nat.zero_le _, h0⟩, ?_⟩
  rintro i m σ H ⟨rfl, hi, p⟩
  by_cases hlt : i < z.cps.size
  · refine .inr ⟨hlt, Pv (i + 1), fun σ' H' p' => ⟨z.cps.size - (i + 1), by omega, rfl, hlt, p'⟩, fun x H' y => ?_⟩
    obtain ⟨e, c, hc, ex⟩ := y
    subst e ex
    exact hs i c σ _ hc p
  · have e : i = z.cps.size := by omega
    subst e
    exact .inl ⟨Nat.le_refl _, hd σ H p⟩
def sgV : V → Bool
  | .str z => sgB z
  | _ => false
def wordV : V → Bool
  | .str z => sgB z && decide ((0 : Int) < (z.length : Int))
  | _ => false
/-- no text is too long -/
def Vs (x : V) : Prop := ∀ z, x = .str z → z.length ≤ 5000
theorem len5 {n : Nat} (h : n ≤ 5000) : n ≤ sizeLine := by
  have h3 : sizeLine = 16777216 := sizeLine_eq
  omega
def spSg : Sp := fun vs H Q _ => ∃ x k, vs = [x] ∧ Kd H x k ∧ Vs x ∧ Q (.bl (sgV x)) H
def spWd : Sp := fun vs H Q _ => ∃ x k, vs = [x] ∧ Kd H x k ∧ Vs x ∧ Q (.bl (wordV x)) H
def spInt : Sp := fun vs H Q _ => ∃ x k, vs = [x] ∧ Kd H x k ∧ Q (.bl (decide (k = .int))) H
def numV : V → Bool
  | .int i => decide (0 ≤ i)
  | _ => false
def spNum : Sp := fun vs H Q _ => ∃ x k, vs = [x] ∧ Kd H x k ∧ Q (.bl (numV x)) H
def inV2 (a b : Int) : V → Bool
  | .int i => decide (a ≤ i) && decide (i ≤ b)
  | _ => false
def spIn : Sp := fun vs H Q _ => ∃ x k a b, vs = [x, .int a, .int b] ∧ Kd H x k ∧ Q (.bl (inV2 a b x)) H
theorem sgB_at {z : Str} {i c : Nat} (h : z.cps[i]? = some c) (n : sgC c = false) : sgB z = false := by
  unfold sgB
  rw [List.all_eq_false]
  refine ⟨c, ?_, by simp [n]⟩
  rw [← Array.getElem?_toList] at h
  exact List.mem_of_getElem? h
theorem sgB_all {z : Str} (h : ∀ i c : Nat, z.cps[i]? = some c → sgC c = true) : sgB z = true := by
  unfold sgB
  rw [List.all_eq_true]
  intro c hc
  obtain ⟨i, hi, e⟩ := List.mem_iff_getElem.mp hc
  refine h i c ?_
  rw [← Array.getElem?_toList, List.getElem?_eq_getElem hi, e]
end Ev
set_option maxHeartbeats 4000000
/-! Things that are judged: what they are, as far as it is asked. -/
namespace Ev
open PySem PySem.Spec PyProof.Rows L2
def dsm0 : PyData → Bool
  | .str z => decide (z.length ≤ 100) && PyData.strOk z
  | _ => true
/-- no text in it is long -/
def dsm : PyData → Bool
  | .list ds => ds.all dsm0
  | .tuple ds => ds.all dsm0
  | d => dsm0 d
theorem Dt.kd {H : Hp} {v : V} {d : PyData} (h : Dt H v d) : ∃ k, Kd H v k := by
  cases h with
  | non => exact ⟨_, .non⟩
  | bl b => exact ⟨_, .bl b⟩
  | int i => exact ⟨_, .int i⟩
  | str x => exact ⟨_, .str x⟩
  | dic e => exact ⟨_, .dic e⟩
  | l0 e n => exact ⟨_, .lst e⟩
  | l1 e n _ => exact ⟨_, .lst e⟩
  | l2 e n _ _ => exact ⟨_, .lst e⟩
  | t0 e => exact ⟨_, .tup e⟩
  | t1 e _ => exact ⟨_, .tup e⟩
  | t2 e _ _ => exact ⟨_, .tup e⟩
theorem Dt.vs {H : Hp} {v : V} {d : PyData} (h : Dt H v d) (s : dsm0 d = true) : Vs v := by
  cases h with
  | str x =>
    intro z e
    cases e
    have q : x.length ≤ 100 := of_decide_eq_true (Bool.and_eq_true_iff.mp s).1
    exact Nat.le_trans q (by decide)
  | non => exact fun z e => by cases e
  | bl b => exact fun z e => by cases e
  | int i => exact fun z e => by cases e
  | dic e => exact fun z e => by cases e
  | l0 e n => exact fun z e => by cases e
  | l1 e n _ => exact fun z e => by cases e
  | l2 e n _ _ => exact fun z e => by cases e
  | t0 e => exact fun z e => by cases e
  | t1 e _ => exact fun z e => by cases e
  | t2 e _ _ => exact fun z e => by cases e
/-- a thing; some xs: a tuple of xs -/
inductive Tg (H : Hp) : V → Option (List V) → Prop
  | no {x : V} {k : Kn} (h : Kd H x k) (n : k ≠ .tup) (s : Vs x) : Tg H x none
  | tup {a : Addr} {xs : List V} (e : H a = some (.tup xs)) (n : xs.length ≤ 30) (h : ∀ y ∈ xs, (∃ k, Kd H y k) ∧ Vs y) : Tg H (.ref a) (some xs)
theorem Tg.kd {H : Hp} {x : V} {o : Option (List V)} (h : Tg H x o) : ∃ k, Kd H x k ∧ (k = .tup ↔ o.isSome = true) := by
  cases h with
  | no h n s => exact ⟨_, h, fun e => absurd e n, fun e => by cases e⟩
  | tup e n h => exact ⟨_, .tup e, fun _ => rfl, fun _ => rfl⟩
theorem Tg.vs {H : Hp} {x : V} {o : Option (List V)} (h : Tg H x o) : Vs x := by
  cases h with
  | no h n s => exact s
  | tup e n h => exact fun z e => by cases e
theorem Tg.same {H H' : Hp} (s : ∀ b o, H b = some o → H' b = some o) {x : V} {o : Option (List V)} (h : Tg H x o) : Tg H' x o := by
  cases h with
  | no h n z => exact .no (h.same s) n z
  | tup e n h => exact .tup (s _ _ e) n fun y hy => ⟨let ⟨k, q⟩ := (h y hy).1; ⟨k, q.same s⟩, (h y hy).2⟩
theorem Dt.tg {H : Hp} {v : V} {d : PyData} (h : Dt H v d) (s : dsm d = true) : ∃ o, Tg H v o := by
  cases h with
  | non => exact ⟨_, .no .non (by decide) fun z e => by cases e⟩
  | bl b => exact ⟨_, .no (.bl b) (by decide) fun z e => by cases e⟩
  | int i => exact ⟨_, .no (.int i) (by decide) fun z e => by cases e⟩
  | str x => exact ⟨_, .no (.str x) (by decide) (Dt.vs (.str (H := H) x) s)⟩
  | dic e => exact ⟨_, .no (.dic e) (by decide) fun z e => by cases e⟩
  | l0 e n => exact ⟨_, .no (.lst e) (by decide) fun z e => by cases e⟩
  | l1 e n _ => exact ⟨_, .no (.lst e) (by decide) fun z e => by cases e⟩
  | l2 e n _ _ => exact ⟨_, .no (.lst e) (by decide) fun z e => by cases e⟩
  | t0 e => exact ⟨_, .tup e (by decide) fun y hy => absurd hy (by simp)⟩
  | @t1 a x d e hx =>
    have s1 : dsm0 d = true := List.all_eq_true.mp s d (by simp)
    exact ⟨_, .tup e (by simp) fun y hy => by
      obtain rfl := List.mem_singleton.mp hy
      exact ⟨hx.kd, hx.vs s1⟩⟩
  | @t2 a x z d1 d2 e hx hz =>
    have s1 : dsm0 d1 = true := List.all_eq_true.mp s d1 (by simp)
    have s2 : dsm0 d2 = true := List.all_eq_true.mp s d2 (by simp)
    refine ⟨_, .tup e (by simp) fun y hy => ?_⟩
    rcases List.mem_cons.mp hy with g | g
    · rw [g]
      exact ⟨hx.kd, hx.vs s1⟩
    · rw [List.mem_singleton.mp g]
      exact ⟨hz.kd, hz.vs s2⟩
def slen : V → Nat
  | .str z => z.length
  | _ => 0
/-- what is wrong with a thing that is to be texts -/
def badOf : Option (List V) → V
  | none => .int (-1)
  | some xs => if xs.length > 8 then .int (-1) else match xs.findIdx? (fun y => !sgV y) with
    | some k => .int (k : Int)
    | none => if (xs.map slen).sum > 2000 then .str (Str.ofString "long") else .non
/-- whether a thing is a place of these texts -/
def placeV (ts : List Str) : Option (List V) → Bool
  | some [x, y] => inV2 0 ((ts.length : Int) - 1) x && (match x with
    | .int i => inV2 0 (((ts.getD i.toNat Str.empty).length : Int) - 1) y
    | _ => false)
  | _ => false
end Ev
set_option maxHeartbeats 4000000
namespace Ev
open PySem PySem.Spec PyProof.Rows L2
theorem bad1 {xs : List V} (h : xs.length > 8) : badOf (some xs) = .int (-1) := if_pos h
theorem bad2 {xs : List V} {i : Nat} {y : V} (h : ¬ xs.length > 8) (hy : xs[i]? = some y) (b : sgV y = false) (g : ∀ (j : Nat) c, j < i → xs[j]? = some c → sgV c = true) : badOf (some xs) = .int (i : Int) := by
  obtain ⟨hi, ey⟩ := List.getElem?_eq_some_iff.mp hy
  have e : xs.findIdx? (fun y => !sgV y) = some i := by
    rw [List.findIdx?_eq_some_iff_getElem]
    refine ⟨hi, by rw [ey, b]; rfl, fun j hj => ?_⟩
    rw [g j xs[j] hj (List.getElem?_eq_getElem (by omega))]
    simp
  show (if xs.length > 8 then V.int (-1) else match xs.findIdx? (fun y => !sgV y) with
    | some k => V.int (k : Int)
    | none => if (xs.map slen).sum > 2000 then V.str (Str.ofString "long") else V.non) = _
  rw [if_neg h, e]
theorem good_none {xs : List V} (g : ∀ c ∈ xs, sgV c = true) : xs.findIdx? (fun y => !sgV y) = none := by
  rw [List.findIdx?_eq_none_iff]
  intro c hc
  rw [g c hc]
  rfl
theorem bad3 {xs : List V} (h : ¬ xs.length > 8) (g : ∀ c ∈ xs, sgV c = true) (s : (xs.map slen).sum > 2000) : badOf (some xs) = .str (Str.ofString "long") := by
  show (if xs.length > 8 then V.int (-1) else match xs.findIdx? (fun y => !sgV y) with
    | some k => V.int (k : Int)
    | none => if (xs.map slen).sum > 2000 then V.str (Str.ofString "long") else V.non) = _
  rw [if_neg h, good_none g]
  exact if_pos s
theorem bad4 {xs : List V} (h : ¬ xs.length > 8) (g : ∀ c ∈ xs, sgV c = true) (s : ¬ (xs.map slen).sum > 2000) : badOf (some xs) = .non := by
  show (if xs.length > 8 then V.int (-1) else match xs.findIdx? (fun y => !sgV y) with
    | some k => V.int (k : Int)
    | none => if (xs.map slen).sum > 2000 then V.str (Str.ofString "long") else V.non) = _
  rw [if_neg h, good_none g]
  exact if_neg s
/-- what is right: at most eight texts of signs -/
theorem bad_non {o : Option (List V)} (h : badOf o = .non) : ∃ xs, o = some xs ∧ xs.length ≤ 8 ∧ (∀ c ∈ xs, sgV c = true) ∧ (xs.map slen).sum ≤ 2000 := by
  cases o with
  | none => cases h
  | some xs =>
    by_cases h1 : xs.length > 8
    · rw [bad1 h1] at h
      cases h
    · cases e : xs.findIdx? (fun y => !sgV y) with
      | some k =>
        have h' : (if xs.length > 8 then V.int (-1) else match xs.findIdx? (fun y => !sgV y) with
          | some k => V.int (k : Int)
          | none => if (xs.map slen).sum > 2000 then V.str (Str.ofString "long") else V.non) = V.non := h
        rw [if_neg h1, e] at h'
        cases h'
      | none =>
        have g : ∀ c ∈ xs, sgV c = true := fun c hc => by
          have := List.findIdx?_eq_none_iff.mp e c hc
          simpa using this
        refine ⟨xs, rfl, by omega, g, ?_⟩
        by_cases s : (xs.map slen).sum > 2000
        · rw [bad3 h1 g s] at h
          cases h
        · omega
theorem sg_str {y : V} (h : sgV y = true) : ∃ z, y = .str z := by
  cases y with
  | str z => exact ⟨z, rfl⟩
  | non => cases h
  | bl b => cases h
  | int i => cases h
  | byt b => cases h
  | flt b => cases h
  | ref a => cases h
  | ty n => cases h
theorem bad_strs {xs : List V} (g : ∀ c ∈ xs, sgV c = true) : ∃ ts : List Str, xs = ts.map V.str ∧ ∀ t ∈ ts, sgB t = true := by
  induction xs with
  | nil => exact ⟨[], rfl, fun t h => absurd h (by simp)⟩
  | cons y xs ih =>
    obtain ⟨z, rfl⟩ := sg_str (g y (by simp))
    obtain ⟨ts, rfl, h⟩ := ih fun c hc => g c (List.mem_cons_of_mem _ hc)
    refine ⟨z :: ts, rfl, fun t ht => ?_⟩
    rcases List.mem_cons.mp ht with e | e
    · rw [e]
      exact g (.str z) (by simp)
    · exact h t e
theorem sum_cast (ns : List Nat) : (ns.map fun n : Nat => (n : Int)).sum = ((ns.sum : Nat) : Int) := by
  induction ns with
  | nil => rfl
  | cons n ns ih =>
    rw [List.map_cons, List.sum_cons, List.sum_cons, ih]
    simp
/-- the lengths of the texts of a tuple -/
theorem lc_lens {K : PySem.W.Frag} {a : Addr} {ts : List Str} {i : Nat} {σ : L2.St} {H1 : Hp} {D : Addr} {Qd : Hp → Prop} (hi : i < σ.length) (ha : H1 a = some (.tup (ts.map V.str))) (nD : H1 D = none) (hlen : ∀ t ∈ ts, t.length ≤ 5000) (hn : ts.length ≤ 1000)
    (hd : ∀ H, H D = some (.lst ((ts.map fun t => (t.length : Int)).map V.int)) → Same H1 H → Qd H) :
    ∃ W : Nat → Nat → Hp → Prop, (∃ m, W 0 m (upd H1 D (.lst []))) ∧ ∀ j m H, W j m H →
      ((Itt K a).stop j H ∧ Qd H) ∨ ((Itt K a).go j H ∧ ∃ Nx : Hp → Prop, (∀ H', Nx H' → ∃ m', m' < m ∧ W (j + 1) m' H') ∧ ∀ x H', (Itt K a).yld j H x H' → gName i x (wipe σ [i]) H' fun σ2 H2 => wipe σ2 [i] = wipe σ [i] ∧ tYes σ2 H2 fun b H3 =>
        if b = true then tCB rLenZ (tCons (tVar i) tNil) σ2 H3 fun y H4 => ∃ acc, H4 D = some (.lst acc) ∧ acc.length < sizeLine ∧ Nx (upd H4 D (.lst (acc ++ [y]))) else Nx H3) := by
  have sAt : ∀ {H' : Hp} {o : HO}, Same H1 H' → Same H1 (upd H' D o) := fun {H' o} k b u e => by
    rw [upd_ne (ne_of_none e nD)]
    exact k b u e
  refine lc_tup (K := K) (xs := ts.map V.str) (fun j H => H D = some (.lst (((ts.take j).map fun t => (t.length : Int)).map V.int)) ∧ Same H1 H) ⟨upd_same, sAt (Same.refl _)⟩ (fun j H _ p => SqT.of (p.2 _ _ ha)) (fun j x H hx p => ?_) (fun H p => ?_)
  · rw [List.getElem?_map] at hx
    cases e : ts[j]? with
    | none => rw [e] at hx; cases hx
    | some t =>
      rw [e] at hx
      obtain rfl : V.str t = x := Option.some.inj hx
      have hm := List.mem_of_getElem? e
      obtain ⟨hD, hs⟩ := p
      have hw : ((wipe σ [i]).set i (some (V.str t)))[i]? = some (some (V.str t)) := by
        rw [List.getElem?_set_self]
        show i < (σ.set i none).length
        rw [List.length_set]
        exact hi
      refine ⟨?_, .str t, hw, t, rfl, len5 (hlen t hm), _, hD, ?_, ?_, sAt hs⟩
      · show ((σ.set i none).set i (some (V.str t))).set i none = σ.set i none
        rw [List.set_set, List.set_set]
      · have h3 : sizeLine = 16777216 := sizeLine_eq
        rw [List.length_map, List.length_map, List.length_take]
        omega
      · rw [upd_same]
        have et : ts.take (j + 1) = ts.take j ++ [t] := by
          rw [List.take_add_one, e]
          rfl
        rw [et, List.map_append, List.map_append]
        rfl
  · obtain ⟨hD, hs⟩ := p
    rw [List.length_map, List.take_length] at hD
    exact hd H hD hs
theorem lens_sum (ts : List Str) : (ts.map fun t => (t.length : Int)).sum = ((((ts.map V.str).map slen).sum : Nat) : Int) := by
  rw [List.map_map, ← sum_cast, List.map_map]
  rfl
end Ev
set_option maxHeartbeats 4000000
namespace Ev
open PySem PySem.Spec PyProof.Rows L2
theorem joinL1 : ∀ cs : List Nat, TL.joinL [] (cs.map fun c => [c]) = cs
  | [] => rfl
  | [c] => rfl
  | c :: d :: r => by
    have e := joinL1 (d :: r)
    show [c] ++ ([] ++ TL.joinL [] ((d :: r).map fun c => [c])) = c :: d :: r
    rw [e]
    rfl
theorem join1 (cs : List Nat) : Txt.join (Str.ofString "") (cs.map fun c => SX.S [c]) = SX.S cs := by
  have e := SX.join_S [] (cs.map fun c => [c])
  rw [List.map_map, joinL1] at e
  exact e
theorem sgB_S (cs : List Nat) : sgB (SX.S cs) = cs.all sgC := rfl
theorem S_eta (z : Str) : SX.S z.cps.toList = z := SX.S_tl z
theorem len_S (z : Str) : z.length = z.cps.toList.length := by simp [Str.length]
theorem sgB_mem {z : Str} (h : sgB z = true) {c : Nat} (hc : c ∈ z.cps.toList) : sgC c = true := List.all_eq_true.mp h c hc
theorem sgB_of_mem {z : Str} (h : ∀ c ∈ z.cps.toList, sgC c = true) : sgB z = true := List.all_eq_true.mpr h
theorem sgB_cut {z : Str} (h : sgB z = true) (lo hi : Option Int) : sgB (cutS z lo hi) = true := by
  refine sgB_of_mem fun c hc => sgB_mem h ?_
  have hc' : c ∈ (z.cps.toList.drop (HT.sIx z.length 0 lo)).take (HT.sIx z.length z.length hi - HT.sIx z.length 0 lo) := by
    simpa [cutS] using hc
  exact List.mem_of_mem_drop (List.mem_of_mem_take hc')
theorem cut_len {z : Str} (lo hi : Option Int) : (cutS z lo hi).length ≤ z.length := by
  rw [len_S, len_S]
  have e : (cutS z lo hi).cps.toList = (z.cps.toList.drop (HT.sIx z.length 0 lo)).take (HT.sIx z.length z.length hi - HT.sIx z.length 0 lo) := by simp [cutS]
  rw [e, List.length_take, List.length_drop]
  omega
theorem cut_len2 {z : Str} (lo hi : Option Int) : (cutS z lo hi).length ≤ HT.sIx z.length z.length hi - HT.sIx z.length 0 lo := by
  rw [len_S]
  have e : (cutS z lo hi).cps.toList = (z.cps.toList.drop (HT.sIx z.length 0 lo)).take (HT.sIx z.length z.length hi - HT.sIx z.length 0 lo) := by simp [cutS]
  rw [e, List.length_take]
  omega
theorem sgB_app {a b : Str} (h1 : sgB a = true) (h2 : sgB b = true) : sgB (a ++ b) = true := by
  refine sgB_of_mem fun c hc => ?_
  have e : (a ++ b).cps.toList = a.cps.toList ++ b.cps.toList := TL.tl_append a b
  rw [e] at hc
  rcases List.mem_append.mp hc with h | h
  · exact sgB_mem h1 h
  · exact sgB_mem h2 h
theorem app_len (a b : Str) : (a ++ b).length = a.length + b.length := by
  have e : (a ++ b).cps.toList = a.cps.toList ++ b.cps.toList := TL.tl_append a b
  rw [len_S, e, List.length_append, ← len_S, ← len_S]
theorem rep_all (x : Array Nat) : ∀ (n : Nat) (acc : Array Nat), ((List.replicate n x).foldl (· ++ ·) acc).size = acc.size + n * x.size ∧ ∀ c ∈ ((List.replicate n x).foldl (· ++ ·) acc).toList, c ∈ acc.toList ∨ c ∈ x.toList
  | 0, acc => ⟨by simp, fun c h => .inl h⟩
  | n + 1, acc => by
    obtain ⟨h1, h2⟩ := rep_all x n (acc ++ x)
    rw [List.replicate_succ, List.foldl_cons]
    refine ⟨by rw [h1, Array.size_append, Nat.succ_mul]; omega, fun c hc => ?_⟩
    rcases h2 c hc with h | h
    · rw [Array.toList_append] at h
      exact List.mem_append.mp h
    · exact .inr h
theorem mul_facts (z : Str) (n : Int) : (Txt.mul z n).length ≤ z.length * n.toNat ∧ (sgB z = true → sgB (Txt.mul z n) = true) := by
  unfold Txt.mul
  by_cases h1 : n < 1
  · rw [if_pos h1]
    exact ⟨Nat.zero_le _, fun _ => rfl⟩
  · rw [if_neg h1]
    by_cases h2 : (n == 1 || z.length == 0) = true
    · rw [if_pos h2]
      exact ⟨Nat.le_mul_of_pos_right _ (by omega), fun h => h⟩
    · rw [if_neg h2]
      obtain ⟨r1, r2⟩ := rep_all z.cps n.toNat #[]
      refine ⟨?_, fun h => sgB_of_mem fun c hc => ?_⟩
      · show Array.size _ ≤ _
        rw [r1, Nat.mul_comm]
        show 0 + _ ≤ _
        rw [Nat.zero_add]
        exact Nat.le_refl _
      · rcases r2 c hc with q | q
        · cases q
        · exact sgB_mem h q
theorem cut_hi {z : Str} {lo : Option Int} {u : Int} (h : 0 ≤ u) : ((cutS z lo (some u)).length : Int) ≤ u := by
  have e := cut_len2 (z := z) lo (some u)
  have e2 : HT.sIx z.length z.length (some u) ≤ u.toNat := by
    show (if u < 0 then (u + (z.length : Int)).toNat else min u.toNat z.length) ≤ u.toNat
    rw [if_neg (by omega)]
    exact Nat.min_le_left _ _
  omega
theorem cut_lohi {z : Str} {b e : Int} (h : 0 ≤ b) (h2 : b ≤ e) : ((cutS z (some b) (some e)).length : Int) ≤ e - b := by
  have q := cut_len2 (z := z) (some b) (some e)
  have e1 : HT.sIx z.length z.length (some e) = min e.toNat z.length := by
    show (if e < 0 then (e + (z.length : Int)).toNat else min e.toNat z.length) = _
    rw [if_neg (by omega)]
  have e2 : HT.sIx z.length 0 (some b) = min b.toNat z.length := by
    show (if b < 0 then (b + (z.length : Int)).toNat else min b.toNat z.length) = _
    rw [if_neg (by omega)]
  rw [e1, e2] at q
  omega
end Ev
set_option maxHeartbeats 4000000
/-! Tuples put together and cut, the heap only growing. -/
namespace Ev
open PySem PySem.Spec PyProof.Rows L2
def rCatM : R2 := fun x y H Q => ∃ a b xs ys, x = .ref a ∧ y = .ref b ∧ H a = some (.tup xs) ∧ H b = some (.tup ys) ∧ xs.length + ys.length ≤ 1000 ∧ ∀ p H', Same H H' → H' p = some (.tup (xs ++ ys)) → Q (.ref p) H'
theorem sameNew {H : Hp} {q : Addr} {o : HO} (h : H q = none) : Same H (upd H q o) := fun b u e => by
  rw [upd_ne (ne_of_none e h)]
  exact e
theorem op_catM {X : Cx} : OpR X (binaryOp .Add) rCatM := fun pins s σ H x y v u Q I rx ry h =>
  op_catA pins s σ H x y v u Q I rx ry (by
    obtain ⟨a, b, xs, ys, ex, ey, ha, hb, hz, q⟩ := h
    refine ⟨a, b, xs, ys, ex, ey, SqT.of ha, SqT.of hb, ?_, fun e => ?_, fun _ e => ?_, fun _ _ p np => ?_⟩
    · have h3 : sizeLine = 16777216 := sizeLine_eq
      omega
    · refine q b H (Same.refl H) ?_
      rw [e, List.nil_append]
      exact hb
    · refine q a H (Same.refl H) ?_
      rw [e, List.append_nil]
      exact ha
    · exact q p _ (sameNew np) upd_same)
def rSlM : V → Option Int → Option Int → Hp → VK → Prop := fun x lo hi H Q => ∃ a xs, x = .ref a ∧ H a = some (.tup xs) ∧ ∀ p H', Same H H' → H' p = some (.tup (cutV xs lo hi)) → Q (.ref p) H'
theorem sl_tupM {X : Cx} : SlR X rSlM := fun pins s σ H x v vl vu lo hi sl Q I rx hs pl pu h =>
  sl_tupA pins s σ H x v vl vu lo hi sl Q I rx hs pl pu (by
    obtain ⟨a, xs, ex, ha, q⟩ := h
    refine ⟨a, xs, ex, SqT.of ha, fun e => ?_, fun _ p np => q p _ (sameNew np) upd_same⟩
    refine q a H (Same.refl H) ?_
    have ec : cutV xs lo hi = xs := by
      unfold cutV
      rw [e.1, e.2, List.drop_zero, Nat.sub_zero, List.take_length]
    rw [ec]
    exact ha)
theorem cutV_mem {xs : List V} {lo hi : Option Int} {y : V} (h : y ∈ cutV xs lo hi) : y ∈ xs := List.mem_of_mem_drop (List.mem_of_mem_take h)
/-- the place that is one -/
theorem place_true {ts : List Str} {o : Option (List V)} (h : placeV ts o = true) : ∃ (i j : Int), o = some [.int i, .int j] ∧ 0 ≤ i ∧ i < ts.length ∧ 0 ≤ j ∧ j < ((ts.getD i.toNat Str.empty).length : Int) := by
  unfold placeV at h
  split at h
  · rename_i x y
    obtain ⟨h1, h2⟩ := Bool.and_eq_true_iff.mp h
    cases x with
    | int i =>
      obtain ⟨a1, a2⟩ := Bool.and_eq_true_iff.mp (show (decide (0 ≤ i) && decide (i ≤ (ts.length : Int) - 1)) = true from h1)
      have a1 := of_decide_eq_true a1
      have a2 := of_decide_eq_true a2
      cases y with
      | int j =>
        obtain ⟨b1, b2⟩ := Bool.and_eq_true_iff.mp (show (decide (0 ≤ j) && decide (j ≤ ((ts.getD i.toNat Str.empty).length : Int) - 1)) = true from h2)
        have b1 := of_decide_eq_true b1
        have b2 := of_decide_eq_true b2
        exact ⟨i, j, rfl, a1, by omega, b1, by omega⟩
      | non => cases h2
      | bl b => cases h2
      | str b => cases h2
      | byt b => cases h2
      | flt b => cases h2
      | ref b => cases h2
      | ty b => cases h2
    | non => cases h1
    | bl b => cases h1
    | str b => cases h1
    | byt b => cases h1
    | flt b => cases h1
    | ref b => cases h1
    | ty b => cases h1
  · cases h
theorem text_at {ts : List Str} {i : Int} (h0 : 0 ≤ i) (h1 : i < ts.length) : atI (ts.map V.str) i = some (.str (ts.getD i.toNat Str.empty)) ∧ ts.getD i.toNat Str.empty ∈ ts := by
  have hi : i.toNat < ts.length := by omega
  constructor
  · have e1 : i = ((i.toNat : Nat) : Int) := by omega
    rw [e1]
    refine atI_nat ?_
    rw [List.getElem?_map, List.getD_eq_getElem?_getD, Int.toNat_natCast, List.getElem?_eq_getElem hi]
    rfl
  · rw [List.getD_eq_getElem?_getD, List.getElem?_eq_getElem hi]
    exact List.getElem_mem hi
end Ev
set_option maxHeartbeats 4000000
namespace Ev
open PySem PySem.Spec PyProof.Rows L2
/-- x is True, x is False, x any value of a kind -/
def rIsT : R2 := fun x y H Q => ∃ (b : Bool) (k : Kn), y = .bl b ∧ Kd H x k ∧ Q (.bl (decide (x = .bl b))) H
theorem op_isT {X : Cx} : OpR X (compareOp .Is) rIsT := by
  intro pins s σ H x y v u Q I rx ry h
  obtain ⟨b, k, rfl, hk, q⟩ := h
  cases (show u = Value.bool b from ry)
  cases hk with
  | bl a =>
    refine op_isBl pins s σ H _ (.bl b) v _ Q I rx rfl ⟨a, b, rfl, rfl, ?_⟩
    have e : decide (V.bl a = V.bl b) = decide (a = b) := by
      by_cases z : a = b
      · subst z
        simp
      · rw [decide_eq_false z, decide_eq_false fun w => z (V.bl.inj w)]
    rw [e] at q
    exact q
  | non =>
    cases rx
    exact wpAny_is_other rfl (fun z => by cases z) ⟨.bl false, H, I, rfl, by simpa using q⟩
  | int i =>
    obtain ⟨t, rfl⟩ := rx
    exact wpAny_is_other rfl (fun z => by cases z) ⟨.bl false, H, I, rfl, by simpa using q⟩
  | str i =>
    obtain ⟨t, rfl⟩ := rx
    exact wpAny_is_other rfl (fun z => by cases z) ⟨.bl false, H, I, rfl, by simpa using q⟩
  | lst e =>
    cases rx
    exact wpAny_is_other rfl (fun z => by cases z) ⟨.bl false, H, I, rfl, by simpa using q⟩
  | tup e =>
    cases rx
    exact wpAny_is_other rfl (fun z => by cases z) ⟨.bl false, H, I, rfl, by simpa using q⟩
  | dic e =>
    cases rx
    exact wpAny_is_other rfl (fun z => by cases z) ⟨.bl false, H, I, rfl, by simpa using q⟩
end Ev
set_option maxHeartbeats 4000000
namespace LawK
open PySem PySem.Spec PyProof.Rows L2 Ev
theorem HandL.same {H H' : Hp} {p l : Addr} (k : Same H H') (h : HandL H p l) : HandL H' p l := by
  obtain ⟨cells, i, r, s, n, h1, h2, h3⟩ := h
  exact ⟨cells, i, r, s, n, k _ _ h1, k _ _ h2, h3⟩
theorem But.and {p : Addr} {H H1 H2 : Hp} (a : But p H H1) (k : Same H1 H2) : But p H H2 := fun b o n e => k b o (a b o n e)
theorem hand_ne {H : Hp} {p l' a : Addr} {o : HO} (h : HandL H p l') (e : H a = some o) (n : ∀ x1 x2 x3 x4 x5, o ≠ .lst [x1, x2, x3, x4, x5]) : a ≠ p := fun z => by
  obtain ⟨cells, i, r, s, m, h1, _⟩ := h
  rw [z, h1] at e
  exact n _ _ _ _ _ (Option.some.inj e).symm
theorem dt_but {H H' : Hp} {p l' : Addr} {v : V} {d : PyData} (h : Dt H v d) (hp : HandL H p l') (k : But p H H') : Dt H' v d := by
  induction h with
  | non => exact .non
  | bl b => exact .bl b
  | int i => exact .int i
  | str x => exact .str x
  | dic e => exact .dic (k _ _ (hand_ne hp e fun _ _ _ _ _ z => by cases z) e)
  | l0 e n => exact .l0 (k _ _ (hand_ne hp e fun _ _ _ _ _ z => by cases z) e) n
  | l1 e n _ ih => exact .l1 (k _ _ (hand_ne hp e fun _ _ _ _ _ z => by cases z) e) n ih
  | l2 e n _ _ i1 i2 => exact .l2 (k _ _ (hand_ne hp e fun _ _ _ _ _ z => by cases z) e) n i1 i2
  | t0 e => exact .t0 (k _ _ (hand_ne hp e fun _ _ _ _ _ z => by cases z) e)
  | t1 e _ ih => exact .t1 (k _ _ (hand_ne hp e fun _ _ _ _ _ z => by cases z) e) ih
  | t2 e _ _ i1 i2 => exact .t2 (k _ _ (hand_ne hp e fun _ _ _ _ _ z => by cases z) e) i1 i2
structure Hn (p l : Addr) (H H' : Hp) : Prop where
  at_ : HandL H' p l
  but : But p H H'
theorem HandL.ne {H : Hp} {p l q : Addr} (h : HandL H p l) (n : H q = none) : q ≠ p ∧ q ≠ l := by
  obtain ⟨cells, i, r, s, m, h1, h2, _⟩ := h
  exact ⟨fun z => (by rw [z, h1] at n; cases n), fun z => (by rw [z, h2] at n; cases n)⟩
theorem Hn.new {p l q : Addr} {H H' : Hp} {o : HO} (h : Hn p l H H') (n : H' q = none) : Hn p l H (upd H' q o) := ⟨h.at_.same (Same.new n), h.but.and (Same.new n)⟩
theorem Hn.trans {p l : Addr} {H H1 H2 : Hp} (a : Hn p l H H1) (b : Hn p l H1 H2) : Hn p l H H2 := ⟨b.at_, a.but.trans b.but⟩
theorem Hn.refl {p l : Addr} {H : Hp} (h : HandL H p l) : Hn p l H H := ⟨h, But.refl p H⟩
theorem Hn.go {p l : Addr} {H H1 H2 : Hp} (a : Hn p l H H1) (h : HandL H2 p l) (b : But p H1 H2) : Hn p l H H2 := ⟨h, a.but.trans b⟩
theorem Hn.same {p l : Addr} {H H1 H2 : Hp} (a : Hn p l H H1) (k : Same H1 H2) : Hn p l H H2 := ⟨a.at_.same k, a.but.and k⟩
/-- an object that is new since H, at q, changes -/
theorem Hn.at {p l q : Addr} {H H' : Hp} {o : HO} (h : Hn p l H H') (h0 : HandL H p l) (n : H q = none) : Hn p l H (upd H' q o) := by
  obtain ⟨n1, n2⟩ := h0.ne n
  refine ⟨?_, fun b u nb e => ?_⟩
  · obtain ⟨cells, i, r, s, m, h1, h2, h3⟩ := h.at_
    exact ⟨cells, i, r, s, m, by rw [upd_ne (Ne.symm n1)]; exact h1, by rw [upd_ne (Ne.symm n2)]; exact h2, h3⟩
  · rw [upd_ne (ne_of_none e n)]
    exact h.but b u nb e
theorem sqBut {K : PySem.W.Frag} {H H' : Hp} {p a : Addr} {xs : List V} (h : SqL K H a xs) (n : a ≠ p) (b : But p H H') : SqL K H' a xs := by
  rcases h with (h | ⟨o, h⟩) | h
  · exact .inl (.inl (b _ _ n h))
  · exact .inl (.inr ⟨o, b _ _ n h⟩)
  · exact .inr h
structure Dk (P : Program) (w : World) (K : PySem.W.Frag) (mg : Str → Option Value) (base : Heap) (x : Str) (st : Stmt) (ps : List Str) (k : Nat) (sp : Sp) (f : Addr) (fd : FuncData) : Prop where
  F : Fun K x x st f fd
  b : Binds K fd ps []
  g : mg x = some (.ref f)
  ok : FnOk P w K mg base CX0 k f fd ps sp
theorem len6 {z : Str} {n : Nat} (h : z.length ≤ n) (hn : n ≤ 5000 := by decide) : z.length ≤ sizeLine := len5 (Nat.le_trans h hn)
theorem sg_at {z : Str} {v : Int} (hz : sgB z = true) (h0 : 0 ≤ v) (h1 : v < (z.length : Int)) : ∃ c, atI z.cps.toList v = some c ∧ sgC c = true := by
  obtain ⟨c, e, hm⟩ := atI_in (xs := z.cps.toList) h0 (by rw [← len_S]; exact h1)
  exact ⟨c, e, sgB_mem hz hm⟩
theorem str_ok {ts : List Str} (hts : ∀ t ∈ ts, t.length ≤ 5000) {H : Hp} {y : V} (h : y ∈ ts.map V.str) : (∃ k, Kd H y k) ∧ Vs y := by
  obtain ⟨z, hz, rfl⟩ := List.mem_map.mp h
  refine ⟨⟨_, .str z⟩, fun w e => ?_⟩
  cases e
  exact hts z hz
theorem lit_ok {z : Str} (h : z.length ≤ 5000) {H : Hp} : (∃ k, Kd H (.str z) k) ∧ Vs (.str z) := ⟨⟨_, .str z⟩, fun w e => by
  cases e
  exact h⟩
theorem int_ok {i : Int} {H : Hp} : (∃ k, Kd H (.int i) k) ∧ Vs (.int i) := ⟨⟨_, .int i⟩, fun w e => by cases e⟩
theorem tup_ne {H : Hp} {p l a : Addr} {xs : List V} (h : HandL H p l) (e : H a = some (.tup xs)) : a ≠ p := hand_ne h e fun _ _ _ _ _ z => by cases z
theorem Kd.but {H H' : Hp} {p l : Addr} {x : V} {k : Kn} (h : Kd H x k) (h0 : HandL H p l) (h1 : HandL H' p l) (b : But p H H') : Kd H' x k := by
  cases h with
  | non => exact .non
  | bl b => exact .bl b
  | int i => exact .int i
  | str z => exact .str z
  | @lst a xs e =>
    by_cases z : a = p
    · obtain ⟨cells, i, r, s, m, h2, _⟩ := h1
      rw [z]
      exact .lst h2
    · exact .lst (b _ _ z e)
  | tup e => exact .tup (b _ _ (tup_ne h0 e) e)
  | dic e => exact .dic (b _ _ (hand_ne h0 e fun _ _ _ _ _ z => by cases z) e)
theorem Tg.but {H H' : Hp} {p l : Addr} {x : V} {o : Option (List V)} (h : Tg H x o) (h0 : HandL H p l) (h1 : HandL H' p l) (b : But p H H') : Tg H' x o := by
  cases h with
  | no h n s => exact .no (Kd.but h h0 h1 b) n s
  | tup e n h => exact .tup (b _ _ (tup_ne h0 e) e) n fun y hy => ⟨let ⟨k, q⟩ := (h y hy).1; ⟨k, Kd.but q h0 h1 b⟩, (h y hy).2⟩
/-- what a thing's texts may be -/
inductive All2 {α β : Type} (R : α → β → Prop) : List α → List β → Prop
  | nil : All2 R [] []
  | cons {x : α} {y : β} {xs : List α} {ys : List β} (h : R x y) (t : All2 R xs ys) : All2 R (x :: xs) (y :: ys)
theorem All2.imp {α β : Type} {R S : α → β → Prop} {xs : List α} {ys : List β} (f : ∀ x y, R x y → S x y) (h : All2 R xs ys) : All2 S xs ys := by
  induction h with
  | nil => exact .nil
  | cons h _ ih => exact .cons (f _ _ h) ih
theorem All2.len {α β : Type} {R : α → β → Prop} {xs : List α} {ys : List β} (h : All2 R xs ys) : xs.length = ys.length := by
  induction h with
  | nil => rfl
  | cons _ _ ih => exact congrArg (· + 1) ih
theorem All2.at {α β : Type} {R : α → β → Prop} {xs : List α} {ys : List β} (h : All2 R xs ys) : ∀ {i : Nat} {x : α}, xs[i]? = some x → ∃ y, ys[i]? = some y ∧ R x y := by
  induction h with
  | nil => intro i x e; simp at e
  | cons r _ ih =>
    intro i x e
    cases i with
    | zero => cases e; exact ⟨_, rfl, r⟩
    | succ i => exact ih e
theorem All2.snoc {α β : Type} {R : α → β → Prop} {xs : List α} {ys : List β} {x : α} {y : β} (h : All2 R xs ys) (r : R x y) : All2 R (xs ++ [x]) (ys ++ [y]) := by
  induction h with
  | nil => exact .cons r .nil
  | cons r1 _ ih => exact .cons r1 ih
theorem sne {a b : Str} (h : a ≠ b) {A B : Prop} (k : B) : if decide (V.str a = V.str b) = true then A else B := by
  rw [decide_eq_false (fun z => h (V.str.inj z))]
  exact iteF k
theorem seq {a : Str} {A B : Prop} (k : A) : if decide (V.str a = V.str a) = true then A else B := by
  rw [decide_eq_true rfl]
  exact iteT k
end LawK
set_option maxHeartbeats 8000000
/-! enumerate over a tuple, as a walk. -/
namespace Ev
open PySem PySem.Spec PyProof.Rows L2
abbrev enObj (it : Addr) : Obj := { cls := .type "enumerate", data := .fields #[.none, .bool false, .ref it, rawInt 0, .none, .none] }
theorem enum_new1 {v : Value} {o : Obj} {Hh : Heap → Prop} (B : Begins v o Hh) :
    Meets (Builtin.«enumerate.__new__» ⟨[.type "enumerate", v], []⟩)
      (fun _ R s => Hh s.heap ∧ R (.ok (.ret (.ref (s.heap.push o).objs.size))) { s with heap := (s.heap.push o).push (enObj s.heap.objs.size) }) := by
  refine .of_wp fun prog w A R s hh => ?_
  obtain ⟨hp, g, d, tk, os⟩ := s
  obtain ⟨hv, hR⟩ := hh
  have hs := sub_enumerate
  have qi : ∀ {B' : Around} {E : Value → Shared → Prop} {Q : Value → Shared → Prop}, Q (.ref hp.objs.size) ⟨hp.push o, g, d, tk, os⟩ →
      wpAny (model prog w) B' (pyIter v) Q E ⟨hp, g, d, tk, os⟩ := fun q => B.iter prog w _ _ ⟨hp, g, d, tk, os⟩ _ hv q
  wp_walk using qi
  apply wpAny_stack_any
  intro st
  apply wpAny_pure
  split
  · rename_i c _ _ _ _ _
    cases (c == Value.type "enumerate") <;> (wp_walk using qi; exact ⟨_, rfl, hR⟩)
  · wp_walk using qi
    exact ⟨_, rfl, hR⟩
theorem enum_call {prog : Program} {w : World} {A : Around} {E : Value → Shared → Prop} {s : Shared} {v : Value} {o : Obj} {Hh : Heap → Prop} {Q : Value → Shared → Prop} (B : Begins v o Hh) (hv : Hh s.heap)
    (h : ∀ h', IsEnum h' (s.heap.objs.size + 1) s.heap.objs.size 0 .none → h'.get? s.heap.objs.size = some o → (∀ b u, s.heap.get? b = some u → h'.get? b = some u) →
      Q (.ref (s.heap.objs.size + 1)) { s with heap := h' }) : wpAny (model prog w) A (call (.type "enumerate") [v]) Q E s := by
  have m := enum_new1 B
  refine callType_new F.called_enumerate (by decide) (F.typeCall_enumerate_1 _) (F.newCall_enumerate_1 _) (fun obj => F.args_object_init_2 obj _) F.entry_enumerate_new m ⟨hv, ?_⟩
  have hsz : (s.heap.push o).objs.size = s.heap.objs.size + 1 := Heap.size_push ..
  show _ ∧ _
  rw [hsz]
  have hat : ((s.heap.push o).push (enObj s.heap.objs.size)).get? (s.heap.objs.size + 1) = some (enObj s.heap.objs.size) := by
    have z := Heap.get?_push_size (s.heap.push o) (o := enObj s.heap.objs.size) rfl
    rw [hsz] at z
    exact z
  exact ⟨⟨_, hat, rfl⟩, h _ hat (Heap.get?_push_of_some _ (Heap.get?_push_size _ B.free)) fun b u x => Heap.get?_push_of_some _ (Heap.get?_push_of_some _ x)⟩
/-- the tuple at a as it stands at each turn, each item in a new pair -/
def Iten (K : PySem.W.Frag) (a : Addr) : It :=
  ⟨fun i H => ∃ (xs : List V) (x : V), SqT K H a xs ∧ xs[i]? = some x,
   fun i H v H' => ∃ T x, v = .ref T ∧ H T = none ∧ H' = upd H T (.tup [.int (i : Nat), x]) ∧ ∀ xs, SqT K H a xs → xs[i]? = some x,
   fun i H => ∃ xs : List V, SqT K H a xs ∧ xs.length ≤ i⟩
theorem turn_en {P : Program} {w : World} {K : PySem.W.Frag} {elts : List Expr} {kk : Nat} {tpos : Pos} (a e it : Addr) :
    Turn P w K (.Tuple elts kk tpos) (Iten K a) [e, it] e (fun i h => (∃ old, IsEnum h e it ((i : Nat) : Int) old) ∧ h.IsTupleIter it a i ∧ e ≠ it ∧ a ≠ it ∧ a ≠ e) where
  mem := List.mem_cons_self
  obj := by
    rintro i h ⟨⟨old, he⟩, ⟨o, ho, hc, hd⟩, _⟩ b hb
    rcases List.mem_cons.mp hb with rfl | hb
    · exact ⟨_, he, fun v q => by cases q⟩
    · obtain rfl := List.mem_singleton.mp hb
      exact ⟨o, ho, fun v q => by rw [hd] at q; cases q⟩
  keep := by
    rintro i h h' ⟨⟨old, he⟩, hi, hn⟩ k
    exact ⟨⟨old, k e (by simp) _ he⟩, hi.at fun o q => k it (by simp) o q, hn⟩
  item := by
    intro X hP hw hK hc i pins s σ H E I hf st hg
    subst hP hw hK
    obtain ⟨⟨old, he⟩, hit, hne, hai, hae⟩ := st
    obtain ⟨xs, x, hq, hx⟩ := hg
    obtain ⟨its, rv, p, hz⟩ := I.tuple hq
    obtain ⟨u, hu, ru⟩ := rv.get hx
    have hel : e < s.heap.objs.size := Heap.lt_size he
    have hil : it < s.heap.objs.size := by
      obtain ⟨_, q, _⟩ := hit
      exact Heap.lt_size q
    have hlt : i < its.toArray.size := by
      rw [List.size_toArray]
      exact (List.getElem?_eq_some_iff.mp hu).1
    have D := Draws.tuple (prog := X.prog) (w := X.w) (A := X.A.in1) (I.ok.hd hc) it a hai its.toArray
    refine wpAny_pyNext_enum_itemD D he ⟨hit, (show s.heap.IsTuple a its.toArray from p)⟩ hlt hne (by simp [hne, Ne.symm hae]) fun y h' tk hy ho hst hT hsz hk => ?_
    have ey : y = u := by
      have z : its.toArray[i]? = some y := hy
      rw [List.getElem?_toArray, hu] at z
      exact (Option.some.inj z).symm
    subst ey
    refine ⟨_, rfl, ?_⟩
    refine wpAny_letOwnedTupleGo_enum (s := ⟨h', s.gens, s.drawn, tk + 1, s.os⟩) ho ?_
    intro h2 he2 sb
    have at2 : h2.get? s.heap.objs.size = some { cls := .type "tuple", data := .seq #[.int i tk, y] } := by
      rw [sb.2 _ (Nat.ne_of_gt hel)]
      exact hT
    have cell : ObjOk X.prog X.w (upd H s.heap.objs.size (.tup [.int (i : Nat), x])) h2 s.heap.objs.size (.tup [.int (i : Nat), x]) := by
      refine ⟨by show 2 ≤ sizeLine; decide, [.int i tk, y], .cons ⟨_, rfl⟩ (.cons ru .nil), ⟨_, at2, rfl, _, rfl⟩⟩
    have far : ∀ b ob, b ∉ [e, it] → s.heap.get? b = some ob → h2.get? b = some ob := fun b ob hb q => by
      have n1 : b ≠ e := fun z => hb (by simp [z])
      have n2 : b ≠ it := fun z => hb (by simp [z])
      rw [sb.2 b n1]
      exact hk b ob n1 n2 q
    have J := I.turnedNew (ch := [e, it]) (t' := tk + 1) far hf (Nat.le_refl _) cell
    refine ⟨.ref s.heap.objs.size, _, J, rfl, ⟨_, x, rfl, I.hok.fresh (Nat.le_refl _), rfl, fun ys hy => by rw [I.tuple_inj hy hq]; exact hx⟩, ⟨⟨y, ?_⟩, ?_, hne, hai, hae⟩, fun b hb => ?_⟩
    · have e1 : ((i + 1 : Nat) : Int) = (i : Int) + 1 := by omega
      rw [e1]
      exact he2
    · exact hst.1.at fun o q => by
        rw [sb.2 it (Ne.symm hne)]
        exact q
    · have lt : b < s.heap.objs.size := by
        rcases List.mem_cons.mp hb with rfl | hb
        · exact hel
        · obtain rfl := List.mem_singleton.mp hb
          exact hil
      rw [upd_ne (Nat.ne_of_lt lt)]
      exact (hf b hb).1
  done := by
    intro X hP hw hK hc i pins s σ H E I hf st hg
    subst hP hw hK
    obtain ⟨⟨old, he⟩, hit, hne, hai, hae⟩ := st
    obtain ⟨xs, hq, hx⟩ := hg
    obtain ⟨its, rv, p, hz⟩ := I.tuple hq
    obtain ⟨f0, f1, f2, f3, f4, f5⟩ := hf it (by simp)
    have hl := rv.length
    have none_i : its.toArray[i]? = none := by
      rw [List.getElem?_toArray, List.getElem?_eq_none_iff]
      omega
    have D : Draws X.prog X.w X.A.in1 it [it, a] i (fun j v => its.toArray[j]? = some v) (fun j h => (h.IsTupleIter it a j ∧ h.IsTuple a its.toArray) ∧ i ≤ j) :=
      { live := fun _ _ st => let ⟨o, ho, _⟩ := st.1.1; ⟨o, ho⟩
        frame := fun _ _ _ st hk => ⟨⟨st.1.1.at fun o e => hk it (by simp) o e, st.1.2.at fun o e => hk a (by simp) o e⟩, st.2⟩
        item := fun j _ _ _ hj st _ => absurd st.2 (by omega)
        done := fun s Q E st hE => wpAny_nextOf_tuple_end (I.ok.hd hc) st.1.1 st.1.2 none_i hE }
    refine wpAny_pyNext_enum_endD D he ⟨⟨hit, (show s.heap.IsTuple a its.toArray from p)⟩, Nat.le_refl _⟩ fun h' eb => ⟨rfl, ?_⟩
    exact I.turned (t' := s.toks) (fun b o hb q => eb b o hb q) f0 f1 f3 f4 f5
  self := fun A i s Q E st h => by
    obtain ⟨⟨_, he⟩, _⟩ := st
    exact wpAny_pyIter_enum he h
def iEnumT (K : PySem.W.Frag) (ta : TA) : TI := fun σ H R => ta σ H fun vs H1 => ∃ a xs, vs = [.ref a] ∧ SqT K H1 a xs ∧ R (Iten K a) H1
theorem pi_enumT {X : Cx} {e : Expr} {ta : TA} {p pos tpos : Pos} {elts : List Expr} {kk : Nat} (hg : Gl X "enumerate") (hm : X.mg "enumerate" = none) (ha : PA X [e] ta) (hs : starEach [e] X.env = [(false, eval e X.env)] := by rfl) :
    PI X (.Tuple elts kk tpos) (.Call (.Name "enumerate" p) [e] [] pos) (iEnumT X.K ta) := by
  constructor
  intro pins s σ H R I h
  refine Call_ (ld_blt I hg hm boot_enumerate (PyProof.Rows.callWith_type1 (thn (ha.run pos pins s σ H _ I h) ?_) hs rfl))
  rintro us s1 ⟨vs, H1, I1, r1, a, xs, rfl, hq, q⟩
  obtain ⟨u, rfl, ru⟩ := vals1 r1
  cases ru
  obtain ⟨its, rv, p', hz⟩ := I1.tuple hq
  have hal : a < s1.heap.objs.size := by
    obtain ⟨o, ho, _⟩ := p'
    exact Heap.lt_size ho
  refine enum_call (begins_tuple a its.toArray) (show s1.heap.IsTuple a its.toArray from p') fun h' he hit hk => wpAny_pyIter_enum he ?_
  have I2 : Inv X pins σ H1 { s1 with heap := h' } := I1.kept (t' := s1.toks) hk
  refine ⟨s1.heap.objs.size + 1, [s1.heap.objs.size + 1, s1.heap.objs.size], _, _, H1, rfl, I2, turn_en a (s1.heap.objs.size + 1) s1.heap.objs.size, ⟨⟨.none, he⟩, ⟨_, hit, rfl, rfl⟩, Nat.succ_ne_self _, Nat.ne_of_lt hal, Nat.ne_of_lt (Nat.lt_succ_of_lt hal)⟩, fun b hb => ?_, q⟩
  have hle : s1.heap.objs.size ≤ b := by
    rcases List.mem_cons.mp hb with rfl | hb
    · exact Nat.le_succ _
    · obtain rfl := List.mem_singleton.mp hb
      exact Nat.le_refl _
  exact I1.fpOk hle (I1.hok.fresh hle)
/-- for i, x in enumerate(t) -/
theorem for_enT {K : PySem.W.Frag} {a : Addr} {xs : List V} {g : TG} {tb : TS} {D : Ends} {σ : L2.St} {H : Hp} (Pv : Nat → L2.St → Hp → Prop) (h0 : Pv 0 σ H) (hl : ∀ i σ H, Pv i σ H → SqT K H a xs)
    (hs : ∀ (i : Nat) x σ H, xs[i]? = some x → Pv i σ H → ∀ T, H T = none → g (.ref T) σ (upd H T (.tup [.int (i : Nat), x])) fun σ2 H2 => tb { D with nx := Pv (i + 1), ct := Pv (i + 1), bk := D.nx } σ2 H2) (hd : ∀ σ H, Pv xs.length σ H → D.nx σ H) :
    ∃ W : Nat → Nat → L2.St → Hp → Prop, (∃ m, W 0 m σ H) ∧ ∀ i m σ H, W i m σ H →
      ((Iten K a).stop i H ∧ D.nx σ H) ∨ ((Iten K a).go i H ∧ ∃ N : L2.St → Hp → Prop, (∀ σ' H', N σ' H' → ∃ m', m' < m ∧ W (i + 1) m' σ' H') ∧ ∀ x H', (Iten K a).yld i H x H' → g x σ H' fun σ2 H2 => tb { D with nx := N, ct := N, bk := D.nx } σ2 H2) := by
  refine ⟨fun i m σ H => m = xs.length - i ∧ i ≤ xs.length ∧ Pv i σ H, ⟨xs.length, by simp, Nat.zero_le _, h0⟩, ?_⟩
  rintro i m σ H ⟨rfl, hi, p⟩
  have q := hl i σ H p
  by_cases hlt : i < xs.length
  · refine .inr ⟨⟨xs, xs[i], q, List.getElem?_eq_getElem hlt⟩, Pv (i + 1), fun σ' H' p' => ⟨xs.length - (i + 1), by omega, rfl, hlt, p'⟩, fun v H' y => ?_⟩
    obtain ⟨T, x, rfl, nT, rfl, hx⟩ := y
    exact hs i x σ H (hx xs q) p T nT
  · have e : i = xs.length := by omega
    subst e
    exact .inl ⟨⟨xs, q, Nat.le_refl _⟩, hd σ H p⟩
end Ev
set_option maxHeartbeats 4000000
/-! Own errors whose __init__ says super().__init__() and nothing else. -/
namespace Ev
open PySem PySem.W PySem.Calls PyProof.Rows L2

abbrev supArgs (p : Pos) : Arguments := { posonlyargs := [], args := [{ arg := "self", annotation := none, pos := p }], vararg := none, kwonlyargs := [], kw_defaults := [], kwarg := none, defaults := [] }
abbrev supBody (p0 p1 p2 p3 p4 : Pos) : List Stmt := [.Expr (.Call (.Attribute (.Call (.Name "super" p0) [] [] p1) "__init__" p2) [] [] p3) p4]

abbrev supScope : Scope := { kind := .function, names := [(PySem.Str.ofString "self", .local), (PySem.Str.ofString "__class__", .free), (PySem.Str.ofString "super", .globalImplicit)], isGenerator := false, isCoroutine := false, more := [] }
theorem sup_l1 : supScope.names.lookup ("self" : Str) = some .local := by decide +kernel
theorem sup_l2 : supScope.names.lookup ("super" : Str) = some .globalImplicit := by decide +kernel
theorem sup_l3 : supScope.names.lookup ("__class__" : Str) = some .free := by decide +kernel
/-- what the written part tells of such a class at C, whose __init__ stands at fI -/
structure SupC (P : Program) (K : Frag) (mg : Str → Option Value) (C fI : Addr) : Prop where
  oex : OexC K C
  ini : findIn K (.ref C) "__init__" = some (some (.ref fI))
  tyI : typeIn K (.ref fI) = some (.type "function")
  fn : ∃ (oc : Value) (od : Option Addr) (qual : Str) (kV doc pm ct : Value) (an : Option Addr) (cda cc : Addr) (osl : Array (Option Value)) (p p0 p1 p2 p3 p4 : Pos) (ccl : Value) (cdd : Option Addr) (vs : Array Value) (ccs : Array (Option Value)) (file : Str) (tf : Tok) (cl : Value) (cld : Option Addr) (csl : Array (Option Value)),
    K.lookup fI = some ⟨oc, od, .func (ksFn "__init__" qual (supArgs p) (supBody p0 p1 p2 p3 p4) supScope .none kV doc pm an (.ref cda) ct cc), osl⟩ ∧ codeIn K (.ref cda) qual = true ∧
    K.lookup cda = some ⟨ccl, cdd, .fields vs, ccs⟩ ∧ vs[2]? = some (.str file tf) ∧ ((P.main.file : Str) == file) = true ∧ K.lookup cc = some ⟨cl, cld, .cell (some (.ref C)), csl⟩ ∧
    (p2.endLine == p3.line) = true
  gs : mg "super" = none
  top : (P.main.scope.names.lookup ("super" : Str)).isSome = false
  third : nsIn K cStatics "thirdparty.any" = some none
  sup : ks_superIn K C C "__init__" = some (some (.builtin "ValueError.__init__"))
  ve : subIn K (.ref C) (.type "ValueError") = some true
  me : mroIn K C (.ref C) = some true

theorem sup_eval {env : Env} {p0 p1 p2 p3 : Pos} (h : (p2.endLine == p3.line) = true) : eval (.Call (.Attribute (.Call (.Name "super" p0) [] [] p1) "__init__" p2) [] [] p3) env = (do
      let ov ← attributeBase (.Call (.Name "super" p0) [] [] p1) "__init__" env (eval (.Call (.Name "super" p0) [] [] p1) env)
      standAt p2.atName
      let (f, first) ← holding [ov] (getMethod ov "__init__" (do return (← importBound (.Call (.Name "super" p0) [] [] p1) env).getD true))
      callWith p3 f first (backTo p3 (starEach [] env)) []) := by
  have e : methodCallPos true (.Call (.Name "super" p0) [] [] p1) env p2 p3 = pure p3 := by
    unfold methodCallPos
    rw [h]
    rfl
  show (do
    let ov ← attributeBase (.Call (.Name "super" p0) [] [] p1) "__init__" env (eval (.Call (.Name "super" p0) [] [] p1) env)
    standAt p2.atName
    let (f, first) ← holding [ov] (getMethod ov "__init__" (do return (← importBound (.Call (.Name "super" p0) [] [] p1) env).getD true))
    let callPos ← methodCallPos true (.Call (.Name "super" p0) [] [] p1) env p2 p3
    callWith callPos f first (backTo p3 (starEach [] env)) []) = _
  rw [e]
  rfl
theorem boot_super : bootBuiltins "super" = some (.type "super") := by first | boot_by_name | rfl | kernel_rfl

section
variable {P : Program} {w : World} {A : Around} {E : Value → Shared → Prop} {K : Frag} {mg mb : Str → Option Value} {C fI x t0 : Addr} {h : Heap} {g : Array GenState} {d : Drawn} {tk : Nat} {os : OsState}

/-- the wrapper that super().__init__ gives, called: the args are laid anew -/
theorem bound_init {u : Addr} {Q : Value → Shared → Prop} (T : OexC K C) (X : K.In h) (hu : h.get? u = some (kxs_mw "ValueError.__init__" x)) (hx : h.get? x = some (PySem.HandSPX.excO C t0))
    (hq : ∀ h' t1, (∀ b o, b ≠ x → h.get? b = some o → h'.get? b = some o) → h'.get? x = some (PySem.HandSPX.excO C t1) → Q .none ⟨h', g, d, tk, os⟩) :
    wpAny (model P w) A (call (.ref u) []) Q E ⟨h, g, d, tk, os⟩ := by
  obtain ⟨nm, q, N, bs, bm, sn, sub, ab, col, dd, k0, k1, k2, k3, k5, hC, hbm⟩ := T.cls
  refine wpAny_call (codeAny_of_tree ?_)
  show wpAny _ A.in1 (callAny (.ref u) ⟨[], []⟩) _ _ _
  simp only [callAny]
  refine wpAny_bind (wpAny_load hu ?_)
  simp only [kxs_mw, show (Value.type "method-wrapper" == Value.type "method" || Value.type "method-wrapper" == Value.type "builtin_function_or_method" || Value.type "method-wrapper" == Value.type "method-wrapper") = true by decide, if_true]
  refine KFB.if_so (by decide) ?_
  refine wpAny_bind (check_bound_init F.excBase_ValueError.toExcCallFacts (X _ _ hC) hx rfl ?_)
  refine wpAny_bind (wpAny_pure (wpAny_pure ?_))
  refine ⟨plainId_quiet F.excBase_ValueError.init.plain _, codeAny_builtin F.excBase_ValueError.initEntry ?_⟩
  exact exc_init_tree (cls := .ref C) (t0 := t0) (dv := none) (c2 := .none) (c3 := .none) (b4 := .bool false) hx (by rw [sizeLine_eq]; exact Nat.zero_le _) fun h' k e _ => hq h' h.objs.size k e

theorem sup_init {R : Result → Shared → Prop} {s : Shared} (T : SupC P K mg C fI) (hroom : A.depth < recursionLimit) (X : K.In s.heap) (hlim : s.heap.NoLimit) (G : s.heap.Ns mainGlobals mg) (B : s.heap.Ns builtinsNs mb)
    (hbb : ∀ y : Str, y ≠ "__name__" → mb y = bootBuiltins y) (hx : s.heap.get? x = some (PySem.HandSPX.excO C t0))
    (hq : ∀ h' t' t1, (∀ b o, b ≠ x → s.heap.get? b = some o → h'.get? b = some o) → h'.get? x = some (PySem.HandSPX.excO C t1) → R (.ok (.ret .none)) { s with heap := h', toks := t' }) :
    codeAny (model P w) A (.call (.ref fI) ⟨[.ref x], []⟩) R s := by
  obtain ⟨oc, od, qual, kV, doc, pm, ct, an, cda, cc, osl, p, p0, p1, p2, p3, p4, ccl, cdd, vs, ccs, file, tf, cl, cld, csl, ho, hcd, hcode, hvs, hfile, hcell, hline⟩ := T.fn
  refine ks_codeAny_call_defAt (fd := ksFn "__init__" qual (supArgs p) (supBody p0 p1 p2 p3 p4) supScope .none kV doc pm an (.ref cda) ct cc) (body := supBody p0 p1 p2 p3 p4) (binds := [("self", .ref x)]) hroom (X _ _ ho) rfl hlim (codeRec_of X hcd) rfl
    (BindsTo.of_eq rfl) (by show ∀ y ∈ supScope.names, y.2 ≠ .cell; decide) (fun y hy => ?_) (fun h₁ hns k₁ => ?_)
  · obtain rfl : y = (("self" : Str), Value.ref x) := List.mem_singleton.mp hy
    exact sup_l1
  obtain ⟨hp, g, d, tk, os⟩ := s
  have X₁ : K.In h₁ := X.keeps k₁
  have hx₁ : h₁.get? x = some (PySem.HandSPX.excO C t0) := k₁ _ _ hx
  have G₁ : h₁.Ns mainGlobals mg := G.keeps k₁
  have B₁ : h₁.Ns builtinsNs mb := B.keeps k₁
  obtain ⟨nm, q, N, bs, bm, sn, sub, ab, col, dd, q0, q1, q2, q3, q5, hC, hbm⟩ := T.oex.cls
  show _root_.PySem.wpAt _ _ _ (execs (supBody p0 p1 p2 p3 p4) (ksEnv qual supScope hp.objs.size fI (.ref cda) cc)) _ _ _
  refine ks_wpAt_execs_cons (ks_wpAt_Expr_any (ks_wpAt_MethodCall ?_ (sup_eval hline)))
  refine ks_wpAt_super_base (env := ksEnv qual supScope hp.objs.size fI (.ref cda) cc) sup_l2 sup_l3 (by decide) rfl (X₁ _ _ ho) rfl rfl rfl (X₁ _ _ hcode) rfl hvs hfile T.top ?_
  refine ks_loadName_global rfl sup_l2 (loadGlobal_builtin (env := ksEnv qual supScope hp.objs.size fI (.ref cda) cc) G₁ T.gs B₁ ((hbb _ (by decide +kernel)).trans boot_super) ⟨rfl, ?_⟩)
  refine wpAny_loadName_free rfl sup_l3 rfl ⟨_, X₁ _ _ hcell, rfl⟩ ?_
  refine wpAny_loadName_local rfl sup_l1 hns (v := .ref x) (by show List.lookup ("self" : Str) [(("self" : Str), Value.ref x)] = some (Value.ref x); simp [List.lookup]) ?_
  refine ks_wpAny_isType_cls (X₁ _ _ hC) rfl ⟨rfl, ?_⟩
  have I : InstAt h₁ x (PySem.HandSPX.excO C t0) C none := ⟨hx₁, rfl, rfl, trivial⟩
  refine ks_wpAny_call_super (X₁ _ _ hC) rfl I.at_ I.cls (fun c e => by cases e) (looks_mroIn X₁ T.me) (fun h' e k => ?_)
  have X₂ : K.In h' := X₁.keeps k
  have hx₂ : h'.get? x = some (PySem.HandSPX.excO C t0) := k _ _ hx₁
  have I₂ : InstAt h' x (PySem.HandSPX.excO C t0) C none := ⟨hx₂, rfl, rfl, trivial⟩
  have hsu := T.sup
  unfold ks_superIn at hsu
  have hcl : clsIn K C = some { name := nm, bases := bs, mro := .ref C :: bm, ns := N, qualname := q, hasDict := true, slotNames := sn, subclasses := sub, abstract := ab, collection := col, hasDel := false } := by unfold clsIn; rw [hC] <;> rfl
  rw [hcl] at hsu
  refine kxs_getMethod kxs_ValueError e (looks_opaque X₂ T.third) (l₀ := .ref C :: bm) ?_ rfl X₂ hsu (I₂.type.andThen (looks_subIn X₂ T.ve)) (ks_ne X₂ I₂ hcl) (by decide) ?_
  · exact fun A Q E s k q => wpAny_bind ((looks_clsIn X₂ hcl) A _ E s k (wpAny_pure q))
  have hne : h'.objs.size ≠ x := Nat.ne_of_gt (Heap.lt_size hx₂)
  have k2 : ∀ b o, h'.get? b = some o → (h'.push (kxs_mw "ValueError.__init__" x)).get? b = some o := fun b o z => Heap.get?_push_of_some _ z
  have hmw : (h'.push (kxs_mw "ValueError.__init__" x)).get? h'.objs.size = some (kxs_mw "ValueError.__init__" x) := Heap.get?_push_at rfl rfl
  refine kxs_callWith (i := "ValueError.__init__") (x := x) rfl (evalArgs_empty ⟨hmw, ?_⟩)
  refine bound_init T.oex (X₂.keeps k2) hmw (k2 _ _ hx₂) fun h3 t1 k3 hx3 => ?_
  exact wpAt_of_wpAny (wpAny_execs_nil (hq h3 _ t1 (fun b o hb z => k3 b o hb (k2 b o (k b o (k₁ b o z)))) hx3))
end
end Ev
set_option maxHeartbeats 4000000
/-! Rules for own errors as values: made, asked by isinstance, their fields read. -/
namespace Ev
open PySem PySem.Spec PyProof.Rows L2

section
variable {X : Cx} {x : Str} {C fI : Addr} {p pos : Pos}
theorem make_room {k : Nat} {A : Around} (hr : Room k A) {us : List Value} : (A.under (.builtin "type.__call__" ⟨.ref C :: us, []⟩)).depth < recursionLimit := by
  rw [make_depth]
  have := hr.dp
  omega
/-- C() of a class whose __init__ is super().__init__(): what stands behind it -/
theorem run_exc0 {pins : List (Addr × Obj)} {s : Shared} {σ : L2.St} {H : Hp} {k : Nat} {Q : Value → Shared → Prop} (T : SupC X.prog X.K X.mg C fI) (hr : Room k X.A) (I : Inv X pins σ H s)
    (h : ∀ h' tk a t1, s.heap.objs.size ≤ a → (∀ b o, s.heap.get? b = some o → h'.get? b = some o) → h'.get? a = some (PySem.HandSPX.excO C t1) → Q (.ref a) { s with heap := h', toks := tk }) :
    wpAny (model X.prog X.w) X.A (call (.ref C) []) Q X.xe s := by
  obtain ⟨nm, q, N, bs, bm, sn, sub, ab, col, dd, k0, k1, k2, k3, k5, hC, hbm⟩ := T.oex.cls
  obtain ⟨mb, hb1, hb2⟩ := I.mod.blt
  have kX := I.kIn
  have lim := I.nolimit
  have g1 := I.mod.glob.keeps I.bk
  have b1 := hb1.keeps I.bk
  obtain ⟨hp, g, dr, tk, os⟩ := s
  have kk : ∀ b o, hp.get? b = some o → ((hp.push (PySem.W.kdv_tup [])).push (PySem.HandSPX.excO C hp.objs.size)).get? b = some o := fun b o e => Heap.get?_push_of_some _ (Heap.get?_push_of_some _ e)
  have hget : ((hp.push (PySem.W.kdv_tup [])).push (PySem.HandSPX.excO C hp.objs.size)).get? (hp.objs.size + 1) = some (PySem.HandSPX.excO C hp.objs.size) := by heap_get
  refine wpAny_call (PySem.HandSPX.call_own F.excBase_ValueError (fun Y => PySem.HandSPX.refsVE_contains Y bm hbm) (kX _ _ hC) (PySem.W.looks_findIn kX T.ini) (fun self => PySem.W.bind_fn kX self T.tyI) (by rw [sizeLine_eq]; exact Nat.zero_le _)
    (sup_init (s := ⟨(hp.push (PySem.W.kdv_tup [])).push (PySem.HandSPX.excO C hp.objs.size), g, dr, tk, os⟩) T (make_room hr) (kX.keeps kk) (lim.keeps kk) (g1.keeps kk) (b1.keeps kk) hb2 hget fun h' t' t1 k' hx => ⟨rfl, ?_⟩))
  exact h h' t' (hp.objs.size + 1) t1 (Nat.le_succ _) (fun b o e => k' b o (Nat.ne_of_lt (Nat.lt_succ_of_lt (Heap.lt_size e))) (kk b o e)) hx
def tExc0 (C : Addr) : TE := fun _ H Q => ∀ a, H a = none → Q (.ref a) (upd H a (exo a C none))
theorem pe_exc0 {k : Nat} (T : SupC X.prog X.K X.mg C fI) (hr : Room k X.A) (hg : Gl X x) (hm : X.mg x = some (.ref C)) (hdb : (x == ("__debug__" : Str)) = false := by decide) : PE X (.Call (.Name x p) [] [] pos) (tExc0 C) := by
  refine ⟨fun pins s σ H Q I h => ?_⟩
  refine wpAny_Call_Name_kw (ld_glob I hg hm ?_ hdb)
  refine PySem.W.callWith_K0 I.kIn T.oex.kC ?_
  show wpAny _ _ (call (.ref C) []) _ _ _
  refine run_exc0 T hr I fun h' tk a t1 ha k e => ?_
  exact ⟨.ref a, upd H a (exo a C none), I.laid k ha (exo_ok e), rfl, h a (I.hok.fresh ha)⟩
/-- raised at once -/
theorem pmk_exc0 {k : Nat} (T : SupC X.prog X.K X.mg C fI) (hr : Room k X.A) (hg : Gl X x) (hm : X.mg x = some (.ref C)) (hdb : (x == ("__debug__" : Str)) = false := by decide) : PMk X (.Call (.Name x p) [] [] pos) (fun _ H Q => Q (.ref C) none H) := by
  intro pins s σ H Q I h
  refine wpAny_Call_Name_kw (ld_glob I hg hm ?_ hdb)
  refine PySem.W.callWith_K0 I.kIn T.oex.kC ?_
  show wpAny _ _ (call (.ref C) []) _ _ _
  refine run_exc0 T hr I fun h' tk a t1 ha k e => ?_
  refine ⟨a, _, _, s, H, .ref C, none, rfl, I, k, ?_, e, ⟨rfl, rfl⟩, rfl, rfl, I.hok.fresh ha, rfl, I.bare, raises_own T.oex.exC T.oex.tyC, h⟩
  exact Heap.get?_none_of_le ha
end

/-! ### __init__(self, f): self.f = f -/
structure Ini1 (st : Stmt) (f : Str) : Prop where
  body : ∃ q1 q2 q3 q4, defBody st = [.Assign [.Attribute (.Name "self" q1) f q2] (.Name f q3) q4]
  sc : FnScope ["self", f] ["self", f] (defScope st)
  l0 : (defScope st).names.lookup ("self" : Str) = some .local
  l1 : (defScope st).names.lookup f = some .local
  d1 : (f == ("__debug__" : Str)) = false
  d2 : (f == ("__classdict__" : Str)) = false
def spIni1 (C : Addr) (f : Str) : Sp := fun vs H Q _ => ∃ (a : Addr) (v : V), vs = [.ref a, v] ∧ H a = some (exo a C none) ∧ ∀ dx, H dx = none → dx ≠ a → Q .non (upd (upd H dx (exd dx [(f, v)])) a (exo a C (some dx)))
section
variable {P : Program} {w : World} {K : PySem.W.Frag} {mg : Str → Option Value} {base : Heap} {C : Addr}
theorem ok_ini1 {qual f : Str} {st : Stmt} {fI : Addr} {fd : FuncData} (F : Fun K "__init__" qual st fI fd) (S : Ini1 st f) (T : OexC K C) (hno : PySem.W.findIn K (.ref C) f = some none) : FnOk P w K mg base CX0 1 fI fd ["self", f] (spIni1 C f) := by
  refine F.ok S.sc (fun vs H Q E h => ?_) (fun cdv A outer s H vs Q E hr h => ?_)
  · obtain ⟨a, v, rfl, _⟩ := h
    rfl
  · obtain ⟨a, v, rfl, ha, q⟩ := h
    obtain ⟨q1, q2, q3, q4, hb⟩ := S.body
    rw [hb]
    refine ⟨_, pss_one (ps_ost (pv 0 rfl (.inl S.l0)) (pv 1 rfl (.inl S.l1) S.d1 S.d2)), ?_⟩
    exact ⟨v, rfl, .ref a, rfl, a, C, rfl, T, hno, .inl ⟨ha, fun dx n ne => q dx n ne⟩⟩
end
theorem upd3 {H : Hp} {a d : Addr} {o1 o2 o3 : HO} (h : d ≠ a) : upd (upd (upd H a o1) d o2) a o3 = upd (upd H d o2) a o3 := by
  funext b
  by_cases e : b = a
  · rw [e, upd_same, upd_same]
  · rw [upd_ne e, upd_ne e]
    by_cases e2 : b = d
    · rw [e2, upd_same, upd_same]
    · rw [upd_ne e2, upd_ne e2, upd_ne e]
def tExc1 (C : Addr) (f : Str) (ta : TA) : TE := fun σ H Q => ta σ H fun vs H1 => ∃ v, vs = [v] ∧ ∀ a d, H1 a = none → H1 d = none → d ≠ a → Q (.ref a) (upd (upd H1 d (exd d [(f, v)])) a (exo a C (some d)))
section
variable {X : Cx} {x f : Str} {C fI : Addr} {p pos : Pos} {e : Expr} {ta : TA} {fd : FuncData}
theorem pe_exc1 {k : Nat} (T : OexC X.K C) (iC : PySem.W.findIn X.K (.ref C) "__init__" = some (some (.ref fI))) (tI : PySem.W.typeIn X.K (.ref fI) = some (.type "function")) (F1 : FnOk X.prog X.w X.K X.mg X.base CX0 1 fI fd ["self", f] (spIni1 C f)) (hr : Room (k + 2) X.A)
    (hb : Binds X.K fd ["self", f] []) (hg : Gl X x) (hm : X.mg x = some (.ref C)) (ha : PA X [e] ta) (hdb : (x == ("__debug__" : Str)) = false := by decide) (he : starEach (e :: []) X.env = (false, eval e X.env) :: starEach [] X.env := by rfl)
    (hpl : (backTo pos (starEach [] X.env)).any (·.1) = false := by rfl) : PE X (.Call (.Name x p) [e] [] pos) (tExc1 C f ta) := by
  refine ⟨fun pins s σ H Q I h => ?_⟩
  obtain ⟨nm, q, N, bs, bm, sn, sub, ab, col, dd, k0, k1, k2, k3, k5, hC, hbm⟩ := T.cls
  refine wpAny_Call_Name_kw (ld_glob I hg hm ?_ hdb)
  refine PySem.W.callWith_K (h₀ := X.base) I.ok.mod.kin T.kC (thn (ha.run pos pins s σ H _ I h) fun us s1 ⟨vs, H1, I1, r1, v, ev, q1⟩ => ⟨I1.kIn, ?_⟩) he hpl
  subst ev
  show wpAny _ _ (call (.ref C) us) _ _ _
  obtain ⟨hp, g, dr, tk, os⟩ := s1
  have hsz : hp.objs.size ≤ hp.objs.size + 1 := Nat.le_succ _
  have hn : H1 (hp.objs.size + 1) = none := I1.hok.fresh hsz
  have kk : ∀ b o, hp.get? b = some o → ((hp.push (PySem.W.kdv_tup us)).push (PySem.HandSPX.excO C hp.objs.size)).get? b = some o := fun b o e => Heap.get?_push_of_some _ (Heap.get?_push_of_some _ e)
  have hget : ((hp.push (PySem.W.kdv_tup us)).push (PySem.HandSPX.excO C hp.objs.size)).get? (hp.objs.size + 1) = some (PySem.HandSPX.excO C hp.objs.size) := by heap_get
  have I2 : Inv X pins σ (upd H1 (hp.objs.size + 1) (exo (hp.objs.size + 1) C none)) ⟨(hp.push (PySem.W.kdv_tup us)).push (PySem.HandSPX.excO C hp.objs.size), g, dr, tk, os⟩ :=
    I1.laid (t' := tk) (a := hp.objs.size + 1) (o := exo (hp.objs.size + 1) C none) (h' := (hp.push (PySem.W.kdv_tup us)).push (PySem.HandSPX.excO C hp.objs.size)) kk hsz (exo_ok hget)
  have r2 : Vals [V.ref (hp.objs.size + 1), v] (Value.ref (hp.objs.size + 1) :: us) := .cons rfl r1
  have hl1 : us.length = 1 := by rw [← Paired.length r1] <;> rfl
  have hl : (Value.ref (hp.objs.size + 1) :: us ++ []).length = (["self", f] : List Str).length := by
    rw [List.append_nil, List.length_cons, hl1] <;> rfl
  have hus : us.length ≤ sizeLine := by
    rw [hl1, sizeLine_eq]
    omega
  have b2 := hb _ (Value.ref (hp.objs.size + 1) :: us) I2.kIn hl
  rw [List.append_nil] at b2
  have hq : spIni1 C f [V.ref (hp.objs.size + 1), v] (upd H1 (hp.objs.size + 1) (exo (hp.objs.size + 1) C none)) (fun z H2 => z = .non ∧ Q (.ref (hp.objs.size + 1)) H2) E0 := by
    refine ⟨_, v, rfl, upd_same, fun dx n ne => ⟨rfl, ?_⟩⟩
    rw [upd_ne ne] at n
    rw [upd3 ne]
    exact q1 _ dx hn n ne
  refine wpAny_call (PySem.HandSPX.call_own F.excBase_ValueError (fun Y => PySem.HandSPX.refsVE_contains Y bm hbm) (I1.kIn _ _ hC) (PySem.W.looks_findIn I1.kIn iC) (fun self => PySem.W.bind_fn I1.kIn self tI) hus
    (codeAny_mono (F1.run _ X.stack _ _ ⟨Value.ref (hp.objs.size + 1) :: us, []⟩ (Value.ref (hp.objs.size + 1) :: us) _ _ E0 ((hr.mono (by omega : 1 + 1 ≤ k + 2)).make C us []) (I2.env0.make C us []) b2 r2 hq) fun r s' hq' => ?_))
  cases r with
  | error er => exact False.elim hq'
  | ok fl =>
    cases fl with
    | ret u =>
      obtain ⟨z, H', I3, rz, ez, q3⟩ := I2.after hq'
      subst ez
      exact ⟨rz, ⟨V.ref (hp.objs.size + 1), H', I3, rfl, q3⟩⟩
    | next => exact False.elim hq'
    | brk => exact False.elim hq'
    | cont => exact False.elim hq'
end

/-! ### isinstance -/
/-- at a stands an own error of the class at C -/
def ErrAt (H : Hp) (a C : Addr) : Prop := H a = some (exo a C none) ∨ ∃ d fs, H a = some (exo a C (some d)) ∧ H d = some (exd d fs)
theorem err_inst {X : Cx} {pins : List (Addr × Obj)} {σ : L2.St} {H : Hp} {s : Shared} {a C : Addr} (I : Inv X pins σ H s) (h : ErrAt H a C) : ∃ ox od, PySem.W.InstAt s.heap a ox C od := by
  rcases h with h | ⟨d, fs, h, hd⟩
  · obtain ⟨t1, e⟩ := exo_at I.hok h
    exact ⟨_, none, e, rfl, rfl, trivial⟩
  · obtain ⟨t1, e⟩ := exo_at I.hok h
    obtain ⟨mA, ⟨o, es, ep, ho, _⟩, _⟩ := exd_at I.hok hd
    exact ⟨_, some o, e, rfl, rfl, ho⟩
/-- isinstance(e, c), e an own error -/
def rIsX (K : PySem.W.Frag) : List V → Hp → VK → Prop := fun xs H Q => ∃ (a C : Addr) (c : V) (cv : Value) (b : Bool), xs = [.ref a, c] ∧ ErrAt H a C ∧ ExcC K C ∧ ClsV c cv ∧ PySem.W.kitOne K (.ref C) cv = some b ∧ Q (.bl b) H
theorem call_isX {X : Cx} : CallR X (.builtin "isinstance") (rIsX X.K) := by
  intro pins s σ H xs us Q I r h
  obtain ⟨a, C, c, cv, b, rfl, ea, T, k, e, q⟩ := h
  obtain ⟨u1, u2, rfl, r1, r2⟩ := vals2 r
  have e2 := k.eq r2
  subst e2
  obtain rfl : u1 = Value.ref a := r1
  obtain ⟨ox, od, J⟩ := err_inst I ea
  have hcl : (PySem.W.clsIn X.K C).isSome = true := by
    obtain ⟨cd, hc, _⟩ := PySem.W.any_some T.hd
    rw [hc]
    rfl
  exact PySem.W.kia_one (PySem.W.kitx_exc hcl T.hg T.hk T.hs T.ha T.hn T.ht T.hm) I.kIn J e (fun z => nomatch z) fun tk => ⟨.bl b, H, I.tok tk, rfl, q⟩
/-- e.n, e an own error -/
def tErrF (K : PySem.W.Frag) (n : Str) (te : TE) : TE := fun σ H Q => te σ H fun x H1 => ∃ (a C d : Addr) (fs : List (Str × V)) (v : V), x = .ref a ∧ H1 a = some (exo a C (some d)) ∧ H1 d = some (exd d fs) ∧ fs.lookup n = some v ∧ XfC K C ∧ PySem.W.findIn K (.ref C) n = some none ∧ Q v H1
theorem pe_errF {X : Cx} {e : Expr} {te : TE} {pos : Pos} {n : Str} (he : PE X e te) (hb : attributeBase e n X.env (eval e X.env) = eval e X.env := by rfl) : PE X (.Attribute e n pos) (tErrF X.K n te) := by
  refine ⟨fun pins s σ H Q I h => ?_⟩
  refine attr_of hb (thn (he.run pins s σ H _ I h) fun u s1 hh => ?_)
  obtain ⟨x, H1, I1, rx, a, C, d, fs, v, ex, ea, ed, l, T, hno, q⟩ := hh
  subst ex
  obtain rfl : u = Value.ref a := rx
  obtain ⟨t1, e1⟩ := exo_at I1.hok ea
  obtain ⟨mA, hns, hr⟩ := exd_at I1.hok ed
  obtain ⟨od, ho, hl⟩ := lookIn_ns hns
  obtain ⟨u, hu, ru⟩ := RelO.some_of (v := v) (o := mA n) (by rw [← l]; exact hr n)
  have J : PySem.W.InstAt s1.heap a _ C (some od) := ⟨e1, rfl, rfl, ho⟩
  exact HandSPX.exc_get I1.kIn J T.ga T.gg T.exC (PySem.W.findObj_own T.hdC hno rfl (by rw [hl, hu])) (handed_of ru) ⟨v, H1, I1.tok _, ru, q⟩
end Ev
set_option maxHeartbeats 4000000
/-! try with several clauses «except X as n», the name the same in all of them. -/
namespace Ev
open PySem PySem.Spec PyProof.Rows L2
/-- behind a suite the name's slot (i) is empty -/
def offS (i : Nat) (D : Ends) : Ends := { nx := fun σ' H' => D.nx (σ'.set i none) H', rt := D.rt, bk := fun σ' H' => D.bk (σ'.set i none) H', ct := fun σ' H' => D.ct (σ'.set i none) H' }
def wManyAs (K : PySem.W.Frag) (i : Nat) (Wout : WX) (D : Ends) : List (Value × (Addr → Value → Option Addr → TS)) → WX
  | [] => Wout
  | (c, ts) :: r => fun cls d σ H => ∃ b, PySem.W.exmOne K cls c = some b ∧ (b = true → ∀ a, H a = none → ts a cls d (offS i D) (σ.set i (some (.ref a))) H) ∧ (b = false → wManyAs K i Wout D r cls d σ H)
inductive HdsAs (X : Cx) (n : Str) : List ExceptHandler → List (Value × (Addr → Value → Option Addr → TS)) → Prop
  | nil : HdsAs X n [] []
  | cons {x : Str} {c : Value} {ts : Addr → Value → Option Addr → TS} {b₀ : Stmt} {suite : List Stmt} {np pos' : Pos} {hds : List ExceptHandler} {l : List (Value × (Addr → Value → Option Addr → TS))} (hc : Names X x c)
      (hsu : ∀ (a : Addr) (oe : Obj) (cls : Value) (d : Option Addr) (pn : List (Addr × Obj)), Zc cls d oe → (∃ vs, oe.data = .fields vs) → PSs (X.suite a ((a, oe) :: pn)) (b₀ :: suite) (ts a cls d)) (r : HdsAs X n hds l) :
      HdsAs X n (.ExceptHandler (some (.Name x np)) (some n) (b₀ :: suite) pos' :: hds) ((c, ts) :: l)
section
variable {X : Cx} {body : List Stmt} {h₀ : ExceptHandler} {hds : List ExceptHandler} {l : List (Value × (Addr → Value → Option Addr → TS))} {pos : Pos} {tb : WX → TS} {Wout : WX} {n : Str} {i : Nat}
theorem ps_try_manyAs (hs : X.stack = X.env :: X.outer) (hf : X.env.frame = some X.env.locals) (hN : X.N.Nodup) (hi : X.N[i]? = some n) (hln : X.env.kindOf n = some .local) (tk : Takes X Wout)
    (hb : ∀ (W : WX) (pn : List (Addr × Obj)) (xe : Value → Shared → Prop), Takes (X.tr pn xe) W → PassesOwn (model X.prog X.w) X.A X.env xe → PSs (X.tr pn xe) body (tb W))
    (hh : HdsAs X n (h₀ :: hds) l) : PS X (.Try body (h₀ :: hds) [] [] pos) (fun D σ H => tb (wManyAs X.K i Wout D l) D σ H) := by
  refine ⟨fun pins s σ H D I h => ?_⟩
  have ok := I.ok
  have hfr : X.A.frames = some (X.env :: X.outer) := by rw [ok.frames, hs]
  have hloc : Loc X.env.scope n := .inl hln
  refine wpAny_Try_except (wpAny_mono ((hb (wManyAs X.K i Wout D l) (X.pn ++ pins) (fun e s₁ => wpAny (model X.prog X.w) X.A (noteFrame e X.env) (fun _ s₂ => wpAny (model X.prog X.w) X.A (setFlight e none) (fun _ s₃ =>
    wpAny (model X.prog X.w) X.A (handleBy e X.env (h₀ :: hds)) (SP X pins D) X.xe s₃) X.xe s₂) X.xe s₁) (fun u s' xx => ?_) PassesOwn.looking).run [] s σ H D (I.toTry _) h) (fun f s1 hsp => ?_) (fun e s1 he => he))
  · obtain ⟨a, B, sI, pins', σ', H', cls, d, rfl, J', nb, up, sky, na, os, ag, w⟩ := xx
    have J : L2.Inv X pins σ' H' sI := J'.ofTry ok
    have sky' : Sky B (X.env :: X.outer) a (Zc cls d) X.env.locals s'.heap := by rw [← hs]; exact sky
    refine Sky.land Zc.steady hfr hf sky' fun h3 fl3 up3 => ?_
    have J3 : L2.Inv X pins σ' H' { s' with heap := h3 } := J.landed nb fl3.1 (up.trans up3) os ag
    obtain ⟨oe3, vs3, he3, hz3, hd3⟩ := fl3.there
    have nfr : a ∉ frs (X.env :: X.outer) := fun hm => by
      obtain ⟨_, o', e', hnf⟩ := fl3.2.2.1.mem hm
      rw [he3] at e'; cases e'
      exact hnf _ hd3
    have nL : a ≠ X.env.locals := fun z => nfr (List.mem_filterMap.mpr ⟨X.env, List.mem_cons_self, by rw [hf, z]⟩)
    have nF : a ∉ X.fs := fun hm => by
      obtain ⟨e, he, q⟩ := List.mem_filterMap.mp hm
      exact nfr (List.mem_filterMap.mpr ⟨e, List.mem_cons_of_mem _ he, q⟩)
    have S3 := J3.suite he3 hd3 na nL nF
    have LT : PySem.W.Looks (model X.prog X.w) h3 (typeOf (.ref a)) cls := fun A Q E s k q => wpAny_typeOf_ref (k _ _ he3) (by rw [hz3.1]; exact q)
    have go : ∀ {hds' : List ExceptHandler} {l' : List (Value × (Addr → Value → Option Addr → TS))}, HdsAs X n hds' l' → wManyAs X.K i Wout D l' cls d σ' H' →
        wpAny (model X.prog X.w) X.A (handleBy (.ref a) X.env hds') (SP X pins D) X.xe { s' with heap := h3 } := by
      intro hds' l' hk
      induction hk with
      | nil =>
        intro w
        refine wpAny_handleBy_nil ?_
        obtain ⟨k1, k2, k3, oe, vs, T, oT, ts', he, hz, hd, h1, hr⟩ := id fl3
        unfold PySem.passOn
        refine wpAny_bind (wpAny_field he hd h1 ?_)
        rw [if_neg (show ¬ ((Value.ref T == Value.none) = true) from by simp)]
        have fin : wpAny (model X.prog X.w) X.A (setFlight (.ref a) X.env.frame) (fun _ s4 => wpAny (model X.prog X.w) X.A (throw (.ref a) : Sem Flow) (SP X pins D) X.xe s4) X.xe { s' with heap := h3 } := by
          rw [hf]
          refine HandSPX.setFlight_upZ fl3 fun h4 hh4 up4 => wpAny_throw (tk _ _ ?_)
          exact ⟨a, B, sI, pins, σ', H', cls, d, rfl, J, nb, (up.trans up3).trans up4, .inr (.inr (by rw [hs]; exact hh4)), na, os, ag, w⟩
        first
          | exact wpAny_bind (wpAny_pure (wpAny_bind fin))
          | exact wpAny_bind fin
      | @cons x c ts b₀ suite np pos' hds2 l2 hc hsu r ih =>
        intro w
        obtain ⟨b, hb1, hyes, hno⟩ := w
        refine wpAny_handleBy_cons (codeAny_handlers_test ?_) (by intro q; cases q)
        have LM := PySem.W.exm_one (M := model X.prog X.w) (J3.kIn) LT hb1
        have test : ∀ {Q : Value → Shared → Prop} {E : Value → Shared → Prop}, Q c { s' with heap := h3 } → wpAny (model X.prog X.w) (X.A.mark (some (.ref a))) (eval (.Name x np) X.env) Q E { s' with heap := h3 } := fun {Q E} q => by
          obtain ⟨hg, hdbg, hm | ⟨hm, hv, hnn⟩⟩ := hc
          · exact ld_glob (X := X.suite a ((a, oe3) :: (X.pn ++ pins))) S3 hg hm q hdbg
          · exact ld_blt (X := X.suite a ((a, oe3) :: (X.pn ++ pins))) S3 hg hm hv q hnn hdbg
        refine test (LM.here ?_)
        cases b with
        | true =>
          refine codeAny_handlers_suite_as (HandSPX.lands_againZ fl3 fun h4 fl4 up4 => ?_)
          have J4 : L2.Inv X pins σ' H' { s' with heap := h4 } := J.landed nb fl4.1 ((up.trans up3).trans up4) os ag
          obtain ⟨oe4, vs4, he4, hz4, hd4⟩ := fl4.there
          refine store_ok (X := X.suite a ((a, oe4) :: (X.pn ++ pins))) (v := .ref a) (J4.suite he4 hd4 na nL nF) hN hi hloc rfl (fun s5 S5 => ?_) (.inr hln)
          refine wpAny_mono ((hsu a oe4 cls d (X.pn ++ pins) hz4 ⟨_, hd4⟩).run [] s5 _ H' _ S5 (hyes rfl a na)) (fun f s6 hsp => ?_) (fun _ _ z => False.elim z)
          cases f with
          | next =>
            obtain ⟨σ6, H6, S6, q6⟩ := hsp
            exact gone_ok (S6.unsuite ok) hN hi hln fun s7 J7 => ⟨_, _, J7, q6⟩
          | brk =>
            obtain ⟨σ6, H6, S6, q6⟩ := hsp
            exact gone_ok (S6.unsuite ok) hN hi hln fun s7 J7 => ⟨_, _, J7, q6⟩
          | cont =>
            obtain ⟨σ6, H6, S6, q6⟩ := hsp
            exact gone_ok (S6.unsuite ok) hN hi hln fun s7 J7 => ⟨_, _, J7, q6⟩
          | ret u =>
            obtain ⟨v6, σ6, H6, S6, r6, q6⟩ := hsp
            exact gone_ok (S6.unsuite ok) hN hi hln fun s7 J7 => ⟨_, _, _, J7, r6, q6⟩
        | false => exact ih (hno rfl)
    exact go hh w
  · cases f with
    | next =>
      obtain ⟨σ', H', J', q⟩ := hsp
      exact wpAny_execs_nil ⟨σ', H', J'.ofTry ok, q⟩
    | brk =>
      obtain ⟨σ', H', J', q⟩ := hsp
      exact ⟨σ', H', J'.ofTry ok, q⟩
    | cont =>
      obtain ⟨σ', H', J', q⟩ := hsp
      exact ⟨σ', H', J'.ofTry ok, q⟩
    | ret u =>
      obtain ⟨v, σ', H', J', r, q⟩ := hsp
      exact ⟨v, σ', H', J'.ofTry ok, r, q⟩
end
end Ev
set_option maxHeartbeats 8000000
namespace LawK
open PySem PySem.Spec PyProof.Rows L2 Ev
abbrev veT : List Value := [.type "ValueError", .type "Exception", .type "BaseException", .type "object"]
/-- an own error class at C, over the one at PE -/
structure ErC (K : PySem.W.Frag) (PE C : Addr) : Prop where
  oex : OexC K C
  isx : ExcC K C
  xf : XfC K C
  mro : ∃ cd, PySem.W.clsIn K C = some cd ∧ cd.mro = .ref C :: .ref PE :: veT
  isT : PySem.W.typeIn K (.ref C) = some (.type "type")
section
variable {K : PySem.W.Frag} {PE C D : Addr}
theorem ErC.sub (T : ErC K PE C) (b : Value) : PySem.W.subIn K (.ref C) b = some ((Value.ref C :: .ref PE :: veT).contains b) := by
  obtain ⟨cd, h1, h2⟩ := T.mro
  show (PySem.W.clsIn K C).bind _ = _
  rw [h1, Option.bind_some, h2]
  rfl
theorem kit_at (TD : ErC K PE D) (T : ErC K PE C) (n : D ≠ PE) : PySem.W.kitOne K (.ref C) (.ref D) = some (decide (C = D)) := by
  unfold PySem.W.kitOne
  by_cases e : C = D
  · subst e
    rw [if_pos (by simp), decide_eq_true rfl]
  · rw [if_neg (by simpa using e), decide_eq_false e]
    obtain ⟨cd, h1, h2⟩ := TD.mro
    show (if ((PySem.W.clsIn K D).isSome && PySem.W.typeIn K (.ref D) == some (.type "type")) = true then PySem.W.subIn K (.ref C) (.ref D) else none) = some false
    rw [if_pos (by rw [h1, TD.isT]; rfl), T.sub]
    have e2 : D ≠ C := fun z => e z.symm
    simp [veT, e2, n]
end
/-- an error class without a field -/
structure Cls0 (P : Program) (K : PySem.W.Frag) (mg : Str → Option Value) (PE : Addr) (x : Str) (C : Addr) : Prop where
  er : ErC K PE C
  ne : C ≠ PE
  sup : ∃ fI, SupC P K mg C fI
  g : mg x = some (.ref C)
/-- an error class with the field f -/
structure Cls1 (K : PySem.W.Frag) (mg : Str → Option Value) (PE : Addr) (x f : Str) (C : Addr) : Prop where
  er : ErC K PE C
  ne : C ≠ PE
  g : mg x = some (.ref C)
  ini : ∃ (fI : Addr) (fd : FuncData) (st : Stmt) (qual : Str), Fun K "__init__" qual st fI fd ∧ Ini1 st f ∧ Binds K fd ["self", f] [] ∧ PySem.W.findIn K (.ref C) "__init__" = some (some (.ref fI)) ∧ PySem.W.typeIn K (.ref fI) = some (.type "function")
  hno : PySem.W.findIn K (.ref C) f = some none
section
variable {X : Cx} {x f : Str} {PE C : Addr} {p pos : Pos} {e : Expr} {ta : TA} {k : Nat}
theorem pe_c0 (T : Cls0 X.prog X.K X.mg PE x C) (hr : Room k X.A) (hg : Gl X x := by rfl) (hdb : (x == ("__debug__" : Str)) = false := by decide) : L2.PE X (.Call (.Name x p) [] [] pos) (tExc0 C) := by
  obtain ⟨fI, S⟩ := T.sup
  exact pe_exc0 S hr hg T.g hdb
theorem pe_c1 (T : Cls1 X.K X.mg PE x f C) (hr : Room (k + 2) X.A) (ha : PA X [e] ta) (hg : Gl X x := by rfl) (hdb : (x == ("__debug__" : Str)) = false := by decide) (he : starEach (e :: []) X.env = (false, eval e X.env) :: starEach [] X.env := by rfl)
    (hpl : (backTo pos (starEach [] X.env)).any (·.1) = false := by rfl) : L2.PE X (.Call (.Name x p) [e] [] pos) (tExc1 C f ta) := by
  obtain ⟨fI, fd, st, qual, F1, S1, b1, iC, tI⟩ := T.ini
  exact pe_exc1 T.er.oex iC tI (ok_ini1 F1 S1 T.er.oex T.hno) hr b1 hg T.g ha hdb he hpl
def tMk1 (C : Addr) (f : Str) (ta : TA) : L2.St → Hp → XK → Prop := fun σ H Q => ta σ H fun vs H1 => ∃ v, vs = [v] ∧ ∀ d, H1 d = none → Q (.ref C) (some d) (upd H1 d (.xd [(f, v)]))
theorem del_upd {H : Hp} {a d : Addr} {o1 o2 o3 u : HO} (ha : H a = none) (hd : d ≠ a) : upd (del (upd (upd (upd H a o1) d o2) a o3) a) d u = upd H d u := by
  funext b
  by_cases e : b = d
  · rw [e, upd_same, upd_same]
  · rw [upd_ne e, upd_ne e]
    by_cases e2 : b = a
    · rw [e2, del_same, ha]
    · rw [del_ne e2, upd_ne e2, upd_ne e, upd_ne e2]
theorem pmk_c1 (T : Cls1 X.K X.mg PE x f C) (hr : Room (k + 2) X.A) (ha : PA X [e] ta) (hg : Gl X x := by rfl) (hdb : (x == ("__debug__" : Str)) = false := by decide) (he : starEach (e :: []) X.env = (false, eval e X.env) :: starEach [] X.env := by rfl)
    (hpl : (backTo pos (starEach [] X.env)).any (·.1) = false := by rfl) (hm : ∀ {σ : L2.St} {H : Hp} {Q1 Q2 : List V → Hp → Prop}, (∀ vs H1, Q1 vs H1 → Q2 vs H1) → ta σ H Q1 → ta σ H Q2) : PMk X (.Call (.Name x p) [e] [] pos) (tMk1 C f ta) := by
  obtain ⟨fI, fd, st, qual, F1, S1, b1, iC, tI⟩ := T.ini
  intro pins s σ H Q I h
  refine pmk_oex (CX := CX0) (k := 1) (sp := spIni1 C f) (ds := []) (dvs := []) T.er.oex iC tI (ok_ini1 F1 S1 T.er.oex T.hno) (hr.mono (by omega)) b1 .nil (fun _ _ _ _ _ _ _ z => z.elim) hg T.g ha hdb he hpl pins s σ H Q I (hm (fun vs H1 q => ?_) h)
  obtain ⟨v, rfl, q⟩ := q
  refine ⟨by show 1 ≤ 1000; decide, fun a na => ⟨a, v, rfl, upd_same, fun dx n ne => ⟨rfl, dx, _, upd_same, by rw [upd_ne ne, upd_same], ?_, ?_⟩⟩⟩
  · rw [upd_ne ne] at n
    exact n
  · rw [del_upd na ne]
    rw [upd_ne ne] at n
    exact q dx n
end
structure BaseX (K : PySem.W.Frag) (PE : Addr) : Prop where
  sub : PySem.W.subIn K (.ref PE) (.type "BaseException") = some true
  hd : PySem.W.hasDictIn K PE = true
  isT : PySem.W.typeIn K (.ref PE) = some (.type "type")
section
variable {K : PySem.W.Frag} {PE : Addr}
theorem exm_at {C D : Addr} (TD : ErC K PE D) (T : ErC K PE C) (n : D ≠ PE) : PySem.W.exmOne K (.ref C) (.ref D) = some (decide (C = D)) := by
  refine PySem.W.exm_ref TD.isx.hs TD.isx.hd TD.isT ?_
  rw [T.sub]
  by_cases e : C = D
  · subst e
    simp
  · have e2 : D ≠ C := fun z => e z.symm
    rw [decide_eq_false e]
    simp [veT, e2, n]
theorem exm_base {C : Addr} (B : BaseX K PE) (T : ErC K PE C) : PySem.W.exmOne K (.ref C) (.ref PE) = some true := by
  refine PySem.W.exm_ref B.sub B.hd B.isT ?_
  rw [T.sub]
  simp [veT]
theorem tCons1 {i j : Nat} {σ : L2.St} {H : Hp} {Q1 Q2 : List V → Hp → Prop} (h : ∀ vs H1, Q1 vs H1 → Q2 vs H1) : tCons (tVar i) tNil σ H Q1 → tCons (tVar i) tNil σ H Q2 := fun ⟨v, e, q⟩ => ⟨v, e, h _ _ q⟩
end
def chkE (K : PySem.W.Frag) (C : Addr) : Bool := xfB K C && (decide (PySem.W.typeIn K (.ref C) = some (.type "type")) && (PySem.W.keepIn K (.ref C) && (decide (PySem.W.findIn K (.ref C) "__class__" = some (some (.builtin "object.__class__"))) && decide (PySem.W.mroIn K C (.type "object") = some true))))
def chkC (K : PySem.W.Frag) (PE C : Addr) : Bool := chkE K C && (decide (PySem.W.findIn K (.ref C) "__setattr__" = some (some (.builtin "object.__setattr__"))) && decide (C ≠ PE))
structure Sh (K : PySem.W.Frag) : Prop where
  hn : PySem.W.specialIn K (.builtin "object.__class__") "__get__" = some (some (.builtin "getset_descriptor.__get__"))
  ht : PySem.W.takesIn K (.builtin "object.__class__") = some true
structure Sh0 (P : Program) (K : PySem.W.Frag) (mg : Str → Option Value) : Prop extends Sh K where
  gs : mg "super" = none
  top : (P.main.scope.names.lookup ("super" : Str)).isSome = false
  third : PySem.W.nsIn K cStatics "thirdparty.any" = some none
structure CkE (K : PySem.W.Frag) (C : Addr) : Prop where
  xf : XfC K C
  isT : PySem.W.typeIn K (.ref C) = some (.type "type")
  kp : PySem.W.keepIn K (.ref C) = true
  ha : PySem.W.findIn K (.ref C) "__class__" = some (some (.builtin "object.__class__"))
  hm : PySem.W.mroIn K C (.type "object") = some true
theorem chkE_ok {K : PySem.W.Frag} {C : Addr} (h : chkE K C = true) : CkE K C := by
  obtain ⟨h1, h⟩ := Bool.and_eq_true_iff.mp h
  obtain ⟨h2, h⟩ := Bool.and_eq_true_iff.mp h
  obtain ⟨h3, h⟩ := Bool.and_eq_true_iff.mp h
  obtain ⟨h4, h5⟩ := Bool.and_eq_true_iff.mp h
  exact ⟨xfB_ok h1, of_decide_eq_true h2, h3, of_decide_eq_true h4, of_decide_eq_true h5⟩
theorem CkE.isx {K : PySem.W.Frag} {C : Addr} (T : CkE K C) (S : Sh K) : ExcC K C := ⟨T.xf.ga, T.xf.gg, T.xf.exC, T.xf.hdC, T.ha, S.hn, S.ht, T.hm⟩
section
variable {P : Program} {w : World} {K : PySem.W.Frag} {mg : Str → Option Value} {h : Heap} {PE C fI : Addr} {x f qual : Str} {nm q : Str} {N : Addr} {bs : List Value} {sn : List Str} {sub : List Value} {ab : Bool} {col : Option Bool} {dd : Option Addr} {k0 k1 k2 k3 k5 : Option Value}
theorem mro_of {bm : List Value} {id : String} (lC : K.lookup C = some (excClassObj nm q C N bs bm true sn sub ab col dd k0 k1 k2 k3 k5 id)) : ∃ cd, PySem.W.clsIn K C = some cd ∧ cd.mro = .ref C :: bm := by
  have e : PySem.W.clsIn K C = some { name := nm, bases := bs, mro := .ref C :: bm, ns := N, qualname := q, hasDict := true, slotNames := sn, subclasses := sub, abstract := ab, collection := col, hasDel := false } := by
    unfold PySem.W.clsIn
    rw [lC]
  exact ⟨_, e, rfl⟩
theorem er_mk (S : Sh K) (lC : K.lookup C = some (excClassObj nm q C N bs (.ref PE :: veT) true sn sub ab col dd k0 k1 k2 k3 k5 "ValueError.__new__")) (ck : chkC K PE C = true) : ErC K PE C ∧ C ≠ PE := by
  obtain ⟨c1, c2⟩ := Bool.and_eq_true_iff.mp ck
  obtain ⟨c2, c3⟩ := Bool.and_eq_true_iff.mp c2
  have T := chkE_ok c1
  exact ⟨⟨⟨⟨nm, q, N, bs, _, sn, sub, ab, col, dd, k0, k1, k2, k3, k5, lC, (show PySem.HandSPX.refsVE veT = true by decide +kernel)⟩, of_decide_eq_true c2, T.xf.exC, T.isT, T.kp⟩, T.isx S, T.xf, mro_of lC, T.isT⟩, of_decide_eq_true c3⟩
theorem say {K : PySem.W.Frag} {h : Heap} (X : K.In h) (T : PySem.W.Frag → Prop) {g : Prop} (a : T K) (k : T K → g) : g := k a
def chk1 (K : PySem.W.Frag) (PE C fI : Addr) (f : Str) (cd : Value) (qual : Str) : Bool := chkC K PE C && (decide (PySem.W.typeIn K (.ref fI) = some (.type "function")) && (PySem.W.codeIn K cd qual && (PySem.W.keepIn K (.ref fI) && decide (PySem.W.findIn K (.ref C) f = some none))))
theorem cls1_mk {st : Stmt} {oc kV dc pm cd ct : Value} {od an : Option Addr} {sl : Array (Option Value)} (X : K.In h) (G : h.Ns mainGlobals mg) (S : Sh K)
    (i1 : Ini1 st f) (hb : ∀ (kV doc pm : Value) (an : Option Addr) (cdv ct : Value) (us : List Value), us.length = 2 → bindArgs (PySem.W.fnOf "__init__" qual (defArgs st) (defBody st) (defScope st) .none kV doc pm an cdv ct) ⟨us, []⟩ = pure ((["self", f] : List Str).zip us))
    (aC : PySem.W.nsIn K mainGlobals x = some (some (.ref C))) (lC : K.lookup C = some (excClassObj nm q C N bs (.ref PE :: veT) true sn sub ab col dd k0 k1 k2 k3 k5 "ValueError.__new__"))
    (iC : PySem.W.findIn K (.ref C) "__init__" = some (some (.ref fI))) (lI : K.lookup fI = some ⟨oc, od, .func (PySem.W.fnOf "__init__" qual (defArgs st) (defBody st) (defScope st) .none kV dc pm an cd ct), sl⟩)
    (ck : chk1 K PE C fI f cd qual = true) : Cls1 K mg PE x f C := by
  obtain ⟨c1, c2⟩ := Bool.and_eq_true_iff.mp ck
  obtain ⟨c2, c3⟩ := Bool.and_eq_true_iff.mp c2
  obtain ⟨c3, c4⟩ := Bool.and_eq_true_iff.mp c3
  obtain ⟨c4, c5⟩ := Bool.and_eq_true_iff.mp c4
  obtain ⟨e, n⟩ := er_mk S lC c1
  have F1 := fun_mk (st := st) lI c3 c4
  exact ⟨e, n, PySem.W.mg_of X G aC, ⟨fI, _, st, qual, F1, i1, F1.binds (ps := ["self", f]) hb, iC, of_decide_eq_true c2⟩, of_decide_eq_true c5⟩
def chk0 (K : PySem.W.Frag) (PE C fI : Addr) (cd : Value) (qual : Str) : Bool := chkC K PE C && (decide (PySem.W.typeIn K (.ref fI) = some (.type "function")) && (PySem.W.codeIn K cd qual && (decide (PySem.W.ks_superIn K C C "__init__" = some (some (.builtin "ValueError.__init__"))) && (decide (PySem.W.subIn K (.ref C) (.type "ValueError") = some true) && decide (PySem.W.mroIn K C (.ref C) = some true)))))
theorem cls0_mk {oc kV dc pm ct : Value} {od an : Option Addr} {cda cc : Addr} {osl : Array (Option Value)} {p p0 p1 p2 p3 p4 : Pos} {ccl : Value} {cdd : Option Addr} {vs : Array Value} {ccs : Array (Option Value)} {file : Str} {tf : Tok} {cl : Value} {cld : Option Addr} {csl : Array (Option Value)}
    (X : K.In h) (G : h.Ns mainGlobals mg) (S : Sh0 P K mg)
    (aC : PySem.W.nsIn K mainGlobals x = some (some (.ref C))) (lC : K.lookup C = some (excClassObj nm q C N bs (.ref PE :: veT) true sn sub ab col dd k0 k1 k2 k3 k5 "ValueError.__new__"))
    (iC : PySem.W.findIn K (.ref C) "__init__" = some (some (.ref fI)))
    (lI : K.lookup fI = some ⟨oc, od, .func (PySem.W.ksFn "__init__" qual (supArgs p) (supBody p0 p1 p2 p3 p4) supScope .none kV dc pm an (.ref cda) ct cc), osl⟩)
    (lD : K.lookup cda = some ⟨ccl, cdd, .fields vs, ccs⟩) (lc : K.lookup cc = some ⟨cl, cld, .cell (some (.ref C)), csl⟩)
    (v2 : vs[2]? = some (.str file tf)) (vf : ((P.main.file : Str) == file) = true) (pl : (p2.endLine == p3.line) = true)
    (ck : chk0 K PE C fI (.ref cda) qual = true) : Cls0 P K mg PE x C := by
  obtain ⟨c1, c2⟩ := Bool.and_eq_true_iff.mp ck
  obtain ⟨c2, c3⟩ := Bool.and_eq_true_iff.mp c2
  obtain ⟨c3, c4⟩ := Bool.and_eq_true_iff.mp c3
  obtain ⟨c4, c5⟩ := Bool.and_eq_true_iff.mp c4
  obtain ⟨c5, c6⟩ := Bool.and_eq_true_iff.mp c5
  obtain ⟨e, n⟩ := er_mk S.toSh lC c1
  exact ⟨e, n, ⟨fI, e.oex, iC, of_decide_eq_true c2, ⟨oc, od, qual, kV, dc, pm, ct, an, cda, cc, osl, p, p0, p1, p2, p3, p4, ccl, cdd, vs, ccs, file, tf, cl, cld, csl, lI, c3, lD, v2, vf, lc, pl⟩, S.gs, S.top, S.third, of_decide_eq_true c4, of_decide_eq_true c5, of_decide_eq_true c6⟩, PySem.W.mg_of X G aC⟩
theorem sh0_mk (X : K.In h) (G : h.Ns mainGlobals mg) (hn : PySem.W.specialIn K (.builtin "object.__class__") "__get__" = some (some (.builtin "getset_descriptor.__get__"))) (ht : PySem.W.takesIn K (.builtin "object.__class__") = some true)
    (gs : PySem.W.nsIn K mainGlobals "super" = some none) (top : (P.main.scope.names.lookup ("super" : Str)).isSome = false) (third : PySem.W.nsIn K cStatics "thirdparty.any" = some none) : Sh0 P K mg := ⟨⟨hn, ht⟩, PySem.W.mg_none_of X G gs, top, third⟩
end
end LawK
set_option maxHeartbeats 4000000
namespace LawK
open PySem PySem.Spec PyProof.Rows L2 Ev

theorem dec_int {a b : Int} : decide (V.int a = V.int b) = decide (a = b) := by
  by_cases h : a = b
  · rw [h, decide_eq_true rfl, decide_eq_true rfl]
  · rw [decide_eq_false h, decide_eq_false (fun e => h (V.int.inj e))]
theorem dec_str {a b : Str} : decide (V.str a = V.str b) = decide (a = b) := by
  by_cases h : a = b
  · rw [h, decide_eq_true rfl, decide_eq_true rfl]
  · rw [decide_eq_false h, decide_eq_false (fun e => h (V.str.inj e))]
/-- what is never reached -/
theorem ps_dead {X : Cx} {st : Stmt} : PS X st (fun _ _ _ => False) := ⟨fun pins s σ H D I q => q.elim⟩
abbrev sIs : Stmt := topS 16
theorem scIs : FnScope ["told", "due", "one", "two"] ["told", "due"] (defScope sIs) := ⟨rfl, rfl, rfl, by decide +kernel, rfl, by decide +kernel, by decide +kernel⟩
section
variable {P : Program} {w : World} {K : PySem.W.Frag} {mg : Str → Option Value} {base : Heap}
abbrev sPSigns : Stmt := topS 7
theorem scPSigns : FnScope ["thing"] ["thing"] (defScope sPSigns) := ⟨rfl, rfl, rfl, by decide +kernel, rfl, by decide +kernel, by decide +kernel⟩
theorem ok_PSigns {f : Addr} {fd : FuncData} (F : Fun K "is_signs" "is_signs" sPSigns f fd)  (T : Glob mg) : FnOk P w K mg base CX0 1 f fd ["thing"] spSg := by
  refine F.ok scPSigns (fun vs H Q E h => ?_) (fun cdv A outer s H vs Q E hr h => ?_)
  · obtain ⟨x, k, rfl, _⟩ := h
    rfl
  · refine ⟨_, (pss_one (ps_ret (pe_and (pe_callB call_isi (by rfl) T.isinstance PyProof.Rows.boot_isinstance (pa_cons (pv 0) (pa_cons (pe_bltn (v := .ty "str") (by rfl) T.str (by decide +kernel) rfl) pa_nil))) (pe_and (pe_bm0 PySem.F.plainAttrs_str PySem.F.slot_str_isascii PySem.F.type_str_isascii mt_isascii (pv 0)) (pe_one (pe_bm0 PySem.F.plainAttrs_str PySem.F.slot_str_isprintable PySem.F.type_str_isprintable mt_isprintable (pv 0))))))), ?_⟩
    obtain ⟨x, k, rfl, hk, hz, q⟩ := h
    refine ⟨x, rfl, x, .ty "str", .type (Kn.name k), .type "str", kitB k .str, rfl, .ty _, Kd.tyx hk, kit_kn k .str, _, rfl, ?_⟩
    cases hk with
    | str z =>
      refine iteT ⟨.str z, rfl, rfl, z, rfl, rfl, trivial, _, rfl, ite2 (fun e => ⟨.str z, rfl, rfl, z, rfl, rfl, trivial, ?_⟩) (fun e => ?_)⟩
      · have q' : Q (.bl (sgB z)) H := q
        rw [← sgB_of, e, Bool.true_and] at q'
        exact q'
      · have e' : Txt.isascii z = false := by simpa using e
        have q' : Q (.bl (sgB z)) H := q
        rw [← sgB_of, e', Bool.false_and] at q'
        exact q'
    | non => exact iteF q
    | bl b => exact iteF q
    | int i => exact iteF q
    | lst e => exact iteF q
    | tup e => exact iteF q
    | dic e => exact iteF q
abbrev sPNumber : Stmt := topS 6
theorem scPNumber : FnScope ["thing"] ["thing"] (defScope sPNumber) := ⟨rfl, rfl, rfl, by decide +kernel, rfl, by decide +kernel, by decide +kernel⟩
theorem ok_PNumber {f : Addr} {fd : FuncData} (F : Fun K "is_number" "is_number" sPNumber f fd)   (T : Glob mg) : FnOk P w K mg base CX0 1 f fd ["thing"] spNum := by
  refine F.ok scPNumber (fun vs H Q E h => ?_) (fun cdv A outer s H vs Q E hr h => ?_)
  · obtain ⟨x, k, rfl, _⟩ := h
    rfl
  · refine ⟨_, (pss_one (ps_ret (pe_and (pe_callB call_isi (by rfl) T.isinstance PyProof.Rows.boot_isinstance (pa_cons (pv 0) (pa_cons (pe_bltn (v := .ty "int") (by rfl) T.int (by decide +kernel) rfl) pa_nil))) (pe_and (pe_not (pe_callB call_isi (by rfl) T.isinstance PyProof.Rows.boot_isinstance (pa_cons (pv 0) (pa_cons (pe_bltn (v := .ty "bool") (by rfl) T.bool (by decide +kernel) rfl) pa_nil)))) (pe_one (pe_cmpR op_ge (pv 0) pe_int (nomark _))))))), ?_⟩
    obtain ⟨x, k, rfl, hk, q⟩ := h
    refine ⟨x, rfl, x, .ty "int", .type (Kn.name k), .type "int", kitB k .int, rfl, .ty _, Kd.tyx hk, kit_kn k .int, _, rfl, ?_⟩
    cases hk with
    | int i => exact iteT ⟨.int i, rfl, .int i, .ty "bool", .type (Kn.name .int), .type "bool", kitB .int .bl, rfl, .ty _, Kd.tyx (.int i), kit_kn .int .bl, _, rfl, _, rfl, iteT ⟨.int i, rfl, _, _, rfl, rfl, q⟩⟩
    | bl b => exact iteT ⟨.bl b, rfl, .bl b, .ty "bool", .type (Kn.name .bl), .type "bool", kitB .bl .bl, rfl, .ty _, Kd.tyx (.bl b), kit_kn .bl .bl, _, rfl, _, rfl, iteF q⟩
    | str z => exact iteF q
    | non => exact iteF q
    | lst e => exact iteF q
    | tup e => exact iteF q
    | dic e => exact iteF q
end
end LawK
set_option maxHeartbeats 4000000
namespace Ev
open PySem PySem.Spec PyProof.Rows L2
/-- either way to walk -/
theorem PI.or {X : Cx} {tg e : Expr} {u v : TI} (h : PI X tg e u) (k : PI X tg e v) : PI X tg e (fun σ H R => u σ H R ∨ v σ H R) :=
  ⟨fun pins s σ H R I q => q.elim (fun z => h.run pins s σ H R I z) (fun z => k.run pins s σ H R I z)⟩
theorem for_enL {K : PySem.W.Frag} {a : Addr} {xs : List V} {g : TG} {tb : TS} {D : Ends} {σ : L2.St} {H : Hp} (Pv : Nat → L2.St → Hp → Prop) (h0 : Pv 0 σ H) (hl : ∀ i σ H, Pv i σ H → SqL K H a xs)
    (hs : ∀ (i : Nat) x σ H, xs[i]? = some x → Pv i σ H → ∀ T, H T = none → g (.ref T) σ (upd H T (.tup [.int (i : Nat), x])) fun σ2 H2 => tb { D with nx := Pv (i + 1), ct := Pv (i + 1), bk := D.nx } σ2 H2) (hd : ∀ σ H, Pv xs.length σ H → D.nx σ H) :
    ∃ W : Nat → Nat → L2.St → Hp → Prop, (∃ m, W 0 m σ H) ∧ ∀ i m σ H, W i m σ H →
      ((Ite K a).stop i H ∧ D.nx σ H) ∨ ((Ite K a).go i H ∧ ∃ N : L2.St → Hp → Prop, (∀ σ' H', N σ' H' → ∃ m', m' < m ∧ W (i + 1) m' σ' H') ∧ ∀ x H', (Ite K a).yld i H x H' → g x σ H' fun σ2 H2 => tb { D with nx := N, ct := N, bk := D.nx } σ2 H2) :=
  for_it walk_enum Pv h0 (fun i σ H _ p => hl i σ H p) (fun i x σ H H' _ p y => by
    obtain ⟨T, x1, x2, rfl, nT, rfl, e1, e2⟩ := y
    cases e1
    exact hs i x2 σ H e2 p T nT) hd
theorem kit_seq {K : PySem.W.Frag} (k : Kn) : PySem.W.kitAny K (.type k.name) [.type "list", .type "tuple"] = some (decide (k = .lst) || decide (k = .tup)) := by
  cases k <;> rfl
end Ev
set_option maxHeartbeats 4000000
namespace Ev
open PySem PySem.Spec PyProof.Rows L2
/-! sets of keys of one kind whose table can be walked -/
section
variable {P : Program} {w : World} {K : Type} [DecidableEq K]
/-- no two of them are one key -/
def Apart (κ : KeyKind P w K) (l : List (Int × Value)) : Prop := l.Pairwise fun e f => ∀ k, κ.is k e.2 = true → κ.is k f.2 = true → False
/-- the set at a, S its members, n their number; its table rises and can be walked -/
def SetG (κ : KeyKind P w K) (h : Heap) (a : Addr) (S : K → Bool) (n : Nat) : Prop :=
  ∃ o es ep t, h.get? a = some o ∧ (o.ExactSet ∧ o.data = .set es ep t) ∧ (ElemsOf κ es.toList ∧ Apart κ es.toList) ∧ (∀ k, S k = true ↔ ∃ e ∈ es.toList, κ.is k e.2 = true) ∧ (es.size < scanBound ∧ t.fits es.size = true ∧ es.size = n) ∧ (Ris t.place.toList ∧ (w.params.followText "set-order" = true ∨ t.led = true))
variable {κ : KeyKind P w K} {h h' : Heap} {a : Addr} {S : K → Bool} {n : Nat}
theorem SetG.keep (R : SetG κ h a S n) (k : ∀ o, h.get? a = some o → h'.get? a = some o) : SetG κ h' a S n := let ⟨o, es, ep, t, ho, r⟩ := R; ⟨o, es, ep, t, k o ho, r⟩
theorem SetG.of (R : SetG κ h a S n) : h.SetOf κ a S n := let ⟨o, es, ep, t, ho, x, g, m, b, _⟩ := R; ⟨o, es, ep, t, ho, x.1, x.2, g.1, m, b⟩
theorem Apart.perm {l m : List (Int × Value)} (p : l.Perm m) (x : Apart κ l) : Apart κ m := List.Perm.pairwise p x fun {e f} q k h1 h2 => q k h2 h1
variable {A : Around} {E : Value → Shared → Prop} {s : Shared}
theorem setG_tail {g : Bool → Sem Unit} (gg : ∀ (b : Bool) (z : Shared) (W : Unit → Shared → Prop), W () z → wpAny (model P w) A (g b) W E z)
    {o : Obj} {es fs : Array (Int × Value)} {ep : Nat} {t u : SetTable} (ho : s.heap.get? a = some o) (xs : o.ExactSet) (hd : o.data = .set es ep t) (g1 : ElemsOf κ fs.toList) (n1 : Apart κ fs.toList) (m1 : ∀ k, S k = true ↔ ∃ e ∈ fs.toList, κ.is k e.2 = true)
    (b1 : fs.size < scanBound) (f1 : u.fits fs.size = true) (r1 : Ris u.place.toList) (l1 : w.params.followText "set-order" = true ∨ u.led = true) {wd : Bool} {R : Option Bool → Shared → Prop}
    (fin : ∀ z, Heap.SameBut a s.heap z → SetG κ z a S fs.size → R (some true) { s with heap := z }) :
    wpAny (model P w) A (storeSet a fs u >>= fun _ => if (!wd && u.tooFull) = true then (g (relayAll u fs (SetTable.grown fs.size)).2.2 >>= fun _ => storeSet a (relayAll u fs (SetTable.grown fs.size)).1 (relayAll u fs (SetTable.grown fs.size)).2.1 >>= fun _ => pure (some true)) else pure (some true)) R E s := by
  have put : ∀ {z : Heap} {o : Obj} {es : Array (Int × Value)} {ep : Nat} {t : SetTable} (fs : Array (Int × Value)) (u : SetTable), z.get? a = some o → o.data = .set es ep t → (z.update a (Obj.putSet fs u)).get? a = some { o with data := .set fs (ep + 1) u } := fun {z o es ep t} fs u e d => by
    have q := Heap.get?_update_self (Obj.putSet fs u) e (by rw [putSet_of fs u d] <;> rfl); rw [putSet_of fs u d] at q; exact q
  refine wpAny_bind (wpAny_storeSet_of ho hd ?_ (fits_of_scanBound b1))
  have o1 := put fs u ho hd
  have s1 := Heap.SameBut.update s.heap a (Obj.putSet fs u)
  split
  · have p2 := relayAll_perm u fs (SetTable.grown fs.size); have f2 := relayAll_fits u fs (SetTable.grown fs.size)
    have r2 := relayAll_ris u fs (SetTable.grown fs.size); have l2 := relayAll_led u fs (SetTable.grown fs.size)
    revert p2 f2 r2 l2
    generalize relayAll u fs (SetTable.grown fs.size) = Z
    obtain ⟨gs, v, gv⟩ := Z
    intro p2 f2 r2 l2; dsimp only at p2 f2 r2 l2 ⊢
    have sz : gs.size = fs.size := by have := p2.length_eq; rw [Array.length_toList, Array.length_toList] at this; exact this
    refine wpAny_bind (gg _ _ _ (wpAny_bind (wpAny_storeSet_of o1 rfl ?_ (fits_of_scanBound (by rw [sz] <;> exact b1)))))
    refine wpAny_pure (fin _ (s1.trans (Heap.SameBut.update _ a _)) ⟨_, gs, _, v, put gs v o1 rfl, ⟨xs, rfl⟩, ⟨fun e q => g1 e (p2.mem_iff.mp q), Apart.perm p2.symm n1⟩, fun k => (m1 k).trans ⟨fun ⟨e, q, z⟩ => ⟨e, p2.mem_iff.mpr q, z⟩, fun ⟨e, q, z⟩ => ⟨e, p2.mem_iff.mp q, z⟩⟩, ⟨by rw [sz] <;> exact b1, f2, sz⟩, r2, l1.imp id fun z => l2.trans z⟩)
  · exact wpAny_pure (fin _ s1 ⟨_, fs, _, u, o1, ⟨xs, rfl⟩, ⟨g1, n1⟩, m1, ⟨b1, f1, rfl⟩, r1, l1⟩)
theorem setG_hashed {k : K} {v : Value} {Q : Bool → Shared → Prop} (hv : κ.is k v = true) (sc : v.scannable = true) (R : SetG κ s.heap a S n) (room : n + 1 < scanBound)
    (q : ∀ z, Heap.SameBut a s.heap z → SetG κ z a (fun j => S j || decide (j = k)) (if S k = true then n else n + 1) → Q (!S k) { s with heap := z }) :
    wpAny (model P w) A (setAddHashed a v (κ.hash k)) Q E s := by
  obtain ⟨o, es, ep, t, ho, ⟨xs, hd⟩, ⟨hel, nd⟩, hm, ⟨hb, hf, hn⟩, hr, hl⟩ := R
  unfold setAddHashed; unfold setAddHashedIn
  refine wpAny_holding (wpAny_bind (wpAny_setState_of ho hd hf ?_)); dsimp only
  rw [byScan_of sc hb hel]; simp only [↓reduceIte]
  unfold setAddByScan
  refine wpAny_bind (wpAny_bind (wpAny_rule (wpAny_bind (wpAny_setScan_of hv ho hd hf hel ?_))))
  cases hfi : List.findIdx? (fun e => κ.is k e.2) es.toList with
  | some j =>
    dsimp only
    obtain ⟨hj, pj, _⟩ := List.findIdx?_eq_some_iff_getElem.mp hfi
    have hk : S k = true := (hm k).mpr ⟨es.toList[j], List.getElem_mem hj, pj⟩
    have q1 := q s.heap (Heap.SameBut.refl a s.heap) ⟨o, es, ep, t, ho, ⟨xs, hd⟩, ⟨hel, nd⟩, fun i => by
      rw [Bool.or_eq_true, decide_eq_true_eq, ← hm i]; exact ⟨fun z => z.elim id fun e => by rw [e] <;> exact hk, .inl⟩, ⟨hb, hf, by rw [if_pos hk] <;> exact hn⟩, hr, hl⟩
    rw [hk] at q1; exact wpAny_pure (wpAny_pure q1)
  | none =>
    dsimp only
    have nk : ∀ e ∈ es.toList, κ.is k e.2 = true → False := fun e he z => by
      have c := List.findIdx?_eq_none_iff.mp hfi e he; rw [z] at c; cases c
    have hk : S k = false := Bool.eq_false_iff.mpr fun z => let ⟨e, he, y⟩ := (hm k).mp z; nk e he y
    have gw : ∀ (b : Bool) {z : Shared} {W : Unit → Shared → Prop}, W () z → wpAny (model P w) A (match b with | true => rule "set.scan.the-table-gave-way" | false => pure ()) W E z := fun b {z W} y => by cases b <;> first | exact wpAny_pure y | exact wpAny_rule y
    have pm := layNew_perm t es (κ.hash k) v; have f1 := layNew_fits t es (κ.hash k) v
    have r1 := layNew_ris t es (κ.hash k) v hr; have l1 := layNew_led t es (κ.hash k) v
    revert pm f1 r1 l1
    generalize layNew t es (κ.hash k) v = Z
    obtain ⟨fs, u, wd, gv⟩ := Z
    intro pm f1 r1 l1; dsimp only at pm f1 r1 l1 ⊢
    rw [Array.toList_push] at pm
    have pc : fs.toList.Perm ((κ.hash k, v) :: es.toList) := pm.trans (List.perm_append_singleton _ _)
    have g1 : ElemsOf κ fs.toList := fun e he => by
      rcases List.mem_cons.mp (pc.mem_iff.mp he) with z | z
      · rw [z]; exact ⟨⟨k, hv, rfl⟩, sc⟩
      · exact hel e z
    have n1 : Apart κ fs.toList := Apart.perm pc.symm (List.pairwise_cons.mpr ⟨fun e he j x y => nk e he (by rw [← κ.inj v j k x hv] <;> exact y), nd⟩)
    have m1 : ∀ i, (S i || decide (i = k)) = true ↔ ∃ e ∈ fs.toList, κ.is i e.2 = true := fun i => by
      rw [Bool.or_eq_true, decide_eq_true_eq, hm i]
      constructor
      · rintro (⟨e, he, y⟩ | y)
        · exact ⟨e, pc.mem_iff.mpr (List.mem_cons_of_mem _ he), y⟩
        · exact ⟨_, pc.mem_iff.mpr List.mem_cons_self, by rw [y] <;> exact hv⟩
      · rintro ⟨e, he, y⟩
        rcases List.mem_cons.mp (pc.mem_iff.mp he) with z | z
        · rw [z] at y; exact .inr (κ.inj v i k y hv)
        · exact .inl ⟨e, z, y⟩
    have sz : fs.size = n + 1 := by have := pc.length_eq; rw [Array.length_toList, List.length_cons, Array.length_toList, hn] at this; exact this
    have b1 : fs.size < scanBound := by rw [sz] <;> exact room
    have ld : w.params.followText "set-order" = true ∨ u.led = true := hl.imp id fun z => l1.trans z
    have fin : ∀ z, Heap.SameBut a s.heap z → SetG κ z a (fun j => S j || decide (j = k)) fs.size → Q true { s with heap := z } := fun z sb r => by
      have q1 := q z sb; rw [hk] at q1; rw [sz] at r; exact q1 r
    have last : ∀ {u' : SetTable} {R : Option Bool → Shared → Prop} {g : Bool → Sem Unit}, (∀ (b : Bool) (z : Shared) (W : Unit → Shared → Prop), W () z → wpAny (model P w) A (g b) W E z) → u'.fits fs.size = true → Ris u'.place.toList → (w.params.followText "set-order" = true ∨ u'.led = true) → (∀ z, Heap.SameBut a s.heap z → SetG κ z a (fun j => S j || decide (j = k)) fs.size → R (some true) { s with heap := z }) → _ := fun {u' R g} gg a1 a2 a3 a4 => setG_tail (κ := κ) (wd := wd) (A := A) (E := E) (s := s) (R := R) gg ho xs hd g1 n1 m1 b1 a1 a2 a3 a4
    refine wpAny_bind (gw _ ?_)
    split
    · rw [hashByValue_scannable 8 sc]
      refine wpAny_bind (wpAny_pure (last ?_ ?_ ?_ ?_ ?_))
      · intro b z W y; cases b <;> first | exact wpAny_pure y | exact wpAny_rule y
      · first | (split <;> first | exact f1 | exact SetTable.fits_plain_off f1) | exact f1
      · first | (split <;> exact r1) | exact r1
      · first | (split <;> exact ld) | exact ld
      · intro z sb r; dsimp only; exact wpAny_pure (fin z sb r)
    · refine wpAny_bind (wpAny_pure ?_); simp only [↓reduceIte]
      refine last ?_ f1 r1 ld ?_
      · intro b z W y; cases b <;> first | exact wpAny_pure y | exact wpAny_rule y
      · intro z sb r; dsimp only; exact wpAny_pure (fin z sb r)
end
end Ev
set_option maxHeartbeats 4000000
namespace LawK
open PySem PySem.Spec PyProof.Rows L2 Ev
theorem kit_tl {K : PySem.W.Frag} (k : Kn) : PySem.W.kitAny K (.type k.name) [.type "tuple", .type "list"] = some (decide (k = .tup) || decide (k = .lst)) := by
  cases k <;> rfl
/-- a number, a text or None -/
inductive Sc : V → Prop
  | int (i : Int) : Sc (.int i)
  | str (z : Str) : Sc (.str z)
  | non : Sc .non
end LawK
set_option maxHeartbeats 4000000
namespace LawK
open PySem PySem.Spec PyProof.Rows L2 Ev

def spAnySign : Sp := fun vs H Q _ => ∃ (p : Addr), vs = [.ref p] ∧ ∃ l, HandL H p l ∧ ∀ c H', sgC c = true → HandL H' p l → But p H H' → Q (.str (SX.S [c])) H'
def spSign : Sp := fun vs H Q _ => ∃ (p : Addr) (k : Int), vs = [.ref p, .int k] ∧ 0 ≤ k ∧ k < 5 ∧ ∃ l, HandL H p l ∧ ∀ c H', sgC c = true → HandL H' p l → But p H H' → Q (.str (SX.S [c])) H'
def spLText : Sp := fun vs H Q _ => ∃ (p : Addr) (m : Int), vs = [.ref p, .int m] ∧ 0 ≤ m ∧ m ≤ 200 ∧ ∃ l, HandL H p l ∧ ∀ y H', sgB y = true → (y.length : Int) ≤ m → HandL H' p l → But p H H' → Q (.str y) H'
def spLWord : Sp := fun vs H Q _ => ∃ (p : Addr) (m : Int), vs = [.ref p, .int m] ∧ 1 ≤ m ∧ m ≤ 200 ∧ ∃ l, HandL H p l ∧ ∀ y H', sgB y = true → (y.length : Int) ≤ m → 1 ≤ y.length → HandL H' p l → But p H H' → Q (.str y) H'
def spLTexts : Sp := fun vs H Q _ => ∃ (p : Addr) (m : Int), vs = [.ref p, .int m] ∧ 0 ≤ m ∧ m ≤ 200 ∧ ∃ l, HandL H p l ∧
  ∀ a (ts : List Str) H', H' a = some (.tup (ts.map V.str)) → ts.length ≤ 8 → (∀ t ∈ ts, sgB t = true) → (∀ t ∈ ts, (t.length : Int) ≤ m) → HandL H' p l → But p H H' → Q (.ref a) H'
theorem len_S1 (cs : List Nat) : (SX.S cs).length = cs.length := rfl
theorem sum_one (cs : List Nat) : ((cs.map fun c => SX.S [c]).map (·.length)).sum ≤ cs.length := by
  induction cs with
  | nil => exact Nat.le_refl _
  | cons c cs ih =>
    simp only [List.map_cons, List.sum_cons, List.length_cons]
    have : (SX.S [c]).length = 1 := rfl
    omega
section
variable {P : Program} {w : World} {K : PySem.W.Frag} {mg : Str → Option Value} {base : Heap}
abbrev sAnySign : Stmt := topS 17
theorem scAnySign : FnScope ["hand", "signs"] ["hand"] (defScope sAnySign) := ⟨rfl, rfl, rfl, by decide +kernel, rfl, by decide +kernel, by decide +kernel⟩
theorem ok_AnySign {f : Addr} {fd : FuncData} (F : Fun K "_law_any_sign" "_law_any_sign" sAnySign f fd)  {fDraw : Addr} {fdDraw : FuncData} (DDraw : Dk P w K mg base "_law_draw" sDraw ["hand", "many"] 1 spDraw fDraw fdDraw) (T : Glob mg) : FnOk P w K mg base CX0 2 f fd ["hand"] spAnySign := by
  refine F.ok scAnySign (fun vs H Q E h => ?_) (fun cdv A outer s H vs Q E hr h => ?_)
  · obtain ⟨p, rfl, _⟩ := h
    rfl
  · refine ⟨_, (pss_cons (ps_set (i := 1) scAnySign.nd rfl (.inl rfl) pe_str)
      (pss_cons (ps_set (i := 1) scAnySign.nd rfl (.inl rfl) (pe_op op_add_str (pv 1) pe_str))
      (pss_one (ps_ret (pe_ix ix_str (pv 1) (pe_call DDraw.ok (hr.mono (by decide)) (by rfl) DDraw.g DDraw.F.kp DDraw.b .nil pass0 (pa_cons (pv 0) (pa_cons (pe_callB call_lenZ (by rfl) T.len PySem.boot_len (pa_cons (pv 1) pa_nil)) pa_nil))) (fun _ _ => rfl)))))), ?_⟩
    obtain ⟨p, rfl, lh, hH, q⟩ := h
    refine ⟨_, rfl, _, _, rfl, rfl, by decide +kernel, ?_⟩
    dsimp only
    refine ⟨_, rfl, .ref p, rfl, _, rfl, _, rfl, by decide +kernel, p, _, rfl, by decide +kernel, by decide +kernel, lh, hH, fun v H1 v0 v1 h2 b2 => ?_⟩
    obtain ⟨c, ec, hc⟩ := sg_at (by decide +kernel) v0 v1
    exact ⟨_, v, c, rfl, rfl, by decide +kernel, ec, q c H1 hc h2 b2⟩
abbrev sSign : Stmt := topS 18
theorem scSign : FnScope ["hand", "kind", "some"] ["hand", "kind"] (defScope sSign) := ⟨rfl, rfl, rfl, by decide +kernel, rfl, by decide +kernel, by decide +kernel⟩
theorem ok_Sign {f : Addr} {fd : FuncData} (F : Fun K "_law_sign" "_law_sign" sSign f fd)  {fDraw : Addr} {fdDraw : FuncData} (DDraw : Dk P w K mg base "_law_draw" sDraw ["hand", "many"] 1 spDraw fDraw fdDraw) {fAnySign : Addr} {fdAnySign : FuncData} (DAnySign : Dk P w K mg base "_law_any_sign" sAnySign ["hand"] 2 spAnySign fAnySign fdAnySign) (T : Glob mg) : FnOk P w K mg base CX0 3 f fd ["hand", "kind"] spSign := by
  refine F.ok scSign (fun vs H Q E h => ?_) (fun cdv A outer s H vs Q E hr h => ?_)
  · obtain ⟨p, k, rfl, _⟩ := h
    rfl
  · refine ⟨_, (pss_cons (ps_if (pt_cmpR op_eq (pv 1) pe_int (nomark _))
      (pss_one (ps_ret (pe_call DAnySign.ok (hr.mono (by decide)) (by rfl) DAnySign.g DAnySign.F.kp DAnySign.b .nil pass0 (pa_cons (pv 0) pa_nil))))
      pss_nil)
      (pss_cons (ps_set (i := 2) scSign.nd rfl (.inl rfl) (pe_ix ix_list (pe_lst (pa_cons pe_str (pa_cons pe_str (pa_cons pe_str (pa_cons pe_str pa_nil))))) (pv 1) (fun _ _ => rfl)))
      (pss_one (ps_ret (pe_ix ix_str (pv 2) (pe_call DDraw.ok (hr.mono (by decide)) (by rfl) DDraw.g DDraw.F.kp DDraw.b .nil pass0 (pa_cons (pv 0) (pa_cons (pe_callB call_lenZ (by rfl) T.len PySem.boot_len (pa_cons (pv 2) pa_nil)) pa_nil))) (fun _ _ => rfl)))))), ?_⟩
    obtain ⟨p, k, rfl, k0, k4, lh, hH, q⟩ := h
    refine ⟨.int k, rfl, rfl, _, rfl, ite2 (fun e => ?_) (fun e => ?_)⟩
    · exact ⟨.ref p, rfl, p, rfl, lh, hH, q⟩
    · rw [dec_int] at e
      have k3 : k < 4 := by
        have : ¬ k = 4 := fun z => e (decide_eq_true z)
        omega
      dsimp only [tNext, tDrop]
      refine ⟨by show 4 ≤ sizeLine; decide, fun a na => ?_⟩
      have h1 := hH.same (Same.new (o := .lst [.str "ab", .str "abc", .str "a", .str "ab~ "]) na)
      have b1 := But.same (p := p) (Same.new (H := H) (o := .lst [.str "ab", .str "abc", .str "a", .str "ab~ "]) na)
      have hA : upd H a (.lst [.str "ab", .str "abc", .str "a", .str "ab~ "]) a = some (.lst [.str "ab", .str "abc", .str "a", .str "ab~ "]) := upd_same
      revert h1 b1 hA
      generalize upd H a (.lst [.str "ab", .str "abc", .str "a", .str "ab~ "]) = H1
      intro h1 b1 hA
      have e4 : k = 0 ∨ k = 1 ∨ k = 2 ∨ k = 3 := by omega
      obtain ⟨z, w, e2⟩ : ∃ z : Str, (sgB z = true ∧ 0 < z.length ∧ z.length ≤ 100) ∧ atI [V.str "ab", .str "abc", .str "a", .str "ab~ "] k = some (.str z) := by
        rcases e4 with rfl | rfl | rfl | rfl
        · exact ⟨"ab", ⟨by decide +kernel, by decide +kernel, by decide +kernel⟩, rfl⟩
        · exact ⟨"abc", ⟨by decide +kernel, by decide +kernel, by decide +kernel⟩, rfl⟩
        · exact ⟨"a", ⟨by decide +kernel, by decide +kernel, by decide +kernel⟩, rfl⟩
        · exact ⟨"ab~ ", ⟨by decide +kernel, by decide +kernel, by decide +kernel⟩, rfl⟩
      refine ⟨_, rfl, a, _, k, .str z, rfl, rfl, sq_of hA, e2, .str z, rfl, .ref p, rfl, .str z, rfl, z, rfl, len6 w.2.2, p, (z.length : Int), rfl, by omega, by omega, lh, h1, fun v H2 v0 v1 h2 b2 => ?_⟩
      obtain ⟨c, ec, hc⟩ := sg_at w.1 v0 v1
      exact ⟨z, v, c, rfl, rfl, len6 w.2.2, ec, q c H2 hc h2 (b1.trans b2)⟩
abbrev sText : Stmt := topS 19
theorem scText : FnScope ["hand", "most", "kind", "way", "many", "one", "other", "turn"] ["hand", "most"] (defScope sText) := ⟨rfl, rfl, rfl, by decide +kernel, rfl, by decide +kernel, by decide +kernel⟩
theorem ok_Text {f : Addr} {fd : FuncData} (F : Fun K "_law_text" "_law_text" sText f fd)  {fDraw : Addr} {fdDraw : FuncData} (DDraw : Dk P w K mg base "_law_draw" sDraw ["hand", "many"] 1 spDraw fDraw fdDraw) {fSign : Addr} {fdSign : FuncData} (DSign : Dk P w K mg base "_law_sign" sSign ["hand", "kind"] 3 spSign fSign fdSign) (T : Glob mg) : FnOk P w K mg base CX0 4 f fd ["hand", "most"] spLText := by
  refine F.ok scText (fun vs H Q E h => ?_) (fun cdv A outer s H vs Q E hr h => ?_)
  · obtain ⟨p, m, rfl, _⟩ := h
    rfl
  · refine ⟨_, (pss_cons (ps_set (i := 2) scText.nd rfl (.inr rfl) (pe_call DDraw.ok (hr.mono (by decide)) (by rfl) DDraw.g DDraw.F.kp DDraw.b .nil pass0 (pa_cons (pv 0) (pa_cons pe_int pa_nil))))
      (pss_cons (ps_set (i := 3) scText.nd rfl (.inl rfl) (pe_call DDraw.ok (hr.mono (by decide)) (by rfl) DDraw.g DDraw.F.kp DDraw.b .nil pass0 (pa_cons (pv 0) (pa_cons pe_int pa_nil))))
      (pss_cons (ps_set (i := 4) scText.nd rfl (.inl rfl) (pe_call DDraw.ok (hr.mono (by decide)) (by rfl) DDraw.g DDraw.F.kp DDraw.b .nil pass0 (pa_cons (pv 0) (pa_cons (pe_op op_add (pv 1) pe_int) pa_nil))))
      (pss_cons (ps_if (pt_cmpR op_gt (pv 3) pe_int (nomark _))
      (pss_one (ps_ret (pe_join pe_str (pe_lc (own := [("turn", 7)]) (g := gName 7) (by rfl) scText.nd (pi_range1 (by rfl) T.range (pa_cons (pv 4) pa_nil)) (blkOk_by (N := ["hand", "most", "kind", "way", "many", "one", "other", "turn"]) (sc := defScope sText) (by decide +kernel)) (fun _ _ _ _ _ => pg_name (i := 7) scText.nd rfl (.inl rfl)) (fun _ _ _ _ _ => pts_nil) (fun _ _ _ _ _ => (pe_call DSign.ok (hr.mono (by decide)) (by rfl) DSign.g DSign.F.kp DSign.b .nil pass0 (pa_cons (pv 0) (pa_cons (pv 2) pa_nil))))))))
      pss_nil)
      (pss_cons (ps_set (i := 5) scText.nd rfl (.inl rfl) (pe_join pe_str (pe_lc (own := [("turn", 7)]) (g := gName 7) (by rfl) scText.nd (pi_range1 (by rfl) T.range (pa_cons (pe_op op_add pe_int (pe_call DDraw.ok (hr.mono (by decide)) (by rfl) DDraw.g DDraw.F.kp DDraw.b .nil pass0 (pa_cons (pv 0) (pa_cons pe_int pa_nil)))) pa_nil)) (blkOk_by (N := ["hand", "most", "kind", "way", "many", "one", "other", "turn"]) (sc := defScope sText) (by decide +kernel)) (fun _ _ _ _ _ => pg_name (i := 7) scText.nd rfl (.inl rfl)) (fun _ _ _ _ _ => pts_nil) (fun _ _ _ _ _ => (pe_call DSign.ok (hr.mono (by decide)) (by rfl) DSign.g DSign.F.kp DSign.b .nil pass0 (pa_cons (pv 0) (pa_cons (pv 2) pa_nil)))))))
      (pss_cons (ps_if (pt_cmpR op_eq (pv 3) pe_int (nomark _))
      (pss_one (ps_ret (pe_slice sl_str (pe_op op_mulS (pv 5) (pv 4)) po_none (po_some (pv 4)))))
      pss_nil)
      (pss_cons (ps_set (i := 6) scText.nd rfl (.inl rfl) (pe_call DSign.ok (hr.mono (by decide)) (by rfl) DSign.g DSign.F.kp DSign.b .nil pass0 (pa_cons (pv 0) (pa_cons (pv 2) pa_nil))))
      (pss_cons (ps_for PassesOwn.never rfl (pi_range1 (by rfl) T.range (pa_cons pe_int pa_nil)) (pg_name (i := 7) scText.nd rfl (.inl rfl))
      (pss_cons (ps_if (pt_cmpR op_ge (pe_callB call_lenZ (by rfl) T.len PySem.boot_len (pa_cons (pv 5) pa_nil)) (pv 4) (nomark _))
        (pss_one ps_break)
        pss_nil)
        (pss_one (ps_par (i := 5) (j := 6) (by rfl) scText.nd rfl rfl (by decide) rfl rfl (pa_cons (pe_op op_add_str (pv 5) (pv 6)) (pa_cons (pv 5) pa_nil)) (by rfl)))))
      (pss_one (ps_ret (pe_slice sl_str (pv 5) po_none (po_some (pv 4))))))))))))), ?_⟩
    obtain ⟨p, m, rfl, m0, m1, lh, hH, q⟩ := h
    refine ⟨.ref p, rfl, p, 5, rfl, by decide, by decide, lh, hH, fun kk H1 k0 k4 h1 b1 => ?_⟩
    refine ⟨.ref p, rfl, p, 4, rfl, by decide, by decide, lh, h1, fun wy H2 w0 w4 h2 b2 => ?_⟩
    refine ⟨.ref p, rfl, _, rfl, _, _, rfl, rfl, p, m + 1, rfl, by omega, by omega, lh, h2, fun n H3 n0 n1 h3 b3 => ?_⟩
    have b13 := (b1.trans b2).trans b3
    refine ⟨_, rfl, _, _, rfl, rfl, _, rfl, ite2 (fun e => ?_) (fun e => ?_)⟩
    · refine ⟨⟨_, rfl⟩, _, rfl, n, rfl, by omega, by omega, fun D nD => lc_range (fun i H' => ∃ cs : List Nat, H' D = some (.lst (cs.map fun c => V.str (SX.S [c]))) ∧ cs.length = i ∧ (∀ c ∈ cs, sgC c = true) ∧ Hn p lh H3 H') ⟨[], upd_same, rfl, fun c hc => absurd hc (by simp), (Hn.refl h3).new nD⟩ ?_ ?_⟩
      · rintro i H' hi ⟨cs, hD, hl, hs, hn⟩
        refine ⟨rfl, .ref p, rfl, .int kk, rfl, p, kk, rfl, k0, k4, lh, hn.at_, fun c H2 hc h2 b2 => ?_⟩
        have nDp := (h3.ne nD).1
        refine ⟨_, b2 _ _ nDp hD, ?_, cs ++ [c], ?_, ?_, ?_, (hn.go h2 b2).at h3 nD⟩
        · rw [List.length_map, hl, sizeLine_eq]
          omega
        · rw [upd_same, List.map_append]
          rfl
        · rw [List.length_append, hl]
          rfl
        · intro d hd
          rcases List.mem_append.mp hd with g | g
          · exact hs d g
          · rw [List.mem_singleton.mp g]
            exact hc
      · rintro H' ⟨cs, hD, hl, hs, hn⟩
        have e1 : (cs.map fun c => V.str (SX.S [c])) = (cs.map fun c => SX.S [c]).map V.str := by rw [List.map_map]; rfl
        have hln : (cs.length : Int) ≤ n := by omega
        have hsum := sum_one cs
        have sj : sgB (SX.S cs) = true := by rw [sgB_S]; exact List.all_eq_true.mpr hs
        have lj : (SX.S cs).length = cs.length := rfl
        refine ⟨_, D, cs.map (fun c => SX.S [c]), rfl, rfl, .inl (sq_of (e1 ▸ hD)), ?_, ?_⟩
        · rw [List.length_map]
          have : (Str.ofString "").length = 0 := by decide +kernel
          rw [this]
          omega
        · rw [join1]
          exact q _ H' sj (by omega) hn.at_ (b13.trans hn.but)
    · dsimp only [tNext, tDrop]
      refine ⟨⟨_, rfl⟩, .ref p, rfl, p, 4, rfl, by decide, by decide, lh, h3, fun u H4 u0 u1 h4 b4 => ?_⟩
      have b14 := b13.trans b4
      refine ⟨_, _, rfl, rfl, 1 + u, rfl, by omega, by omega, fun D nD => lc_range (fun i H' => ∃ cs : List Nat, H' D = some (.lst (cs.map fun c => V.str (SX.S [c]))) ∧ cs.length = i ∧ (∀ c ∈ cs, sgC c = true) ∧ Hn p lh H4 H') ⟨[], upd_same, rfl, fun c hc => absurd hc (by simp), (Hn.refl h4).new nD⟩ ?_ ?_⟩
      · rintro i H' hi ⟨cs, hD, hl, hs, hn⟩
        refine ⟨rfl, .ref p, rfl, .int kk, rfl, p, kk, rfl, k0, k4, lh, hn.at_, fun c H2 hc h2 b2 => ?_⟩
        have nDp := (h4.ne nD).1
        refine ⟨_, b2 _ _ nDp hD, ?_, cs ++ [c], ?_, ?_, ?_, (hn.go h2 b2).at h4 nD⟩
        · rw [List.length_map, hl, sizeLine_eq]
          omega
        · rw [upd_same, List.map_append]
          rfl
        · rw [List.length_append, hl]
          rfl
        · intro d hd
          rcases List.mem_append.mp hd with g | g
          · exact hs d g
          · rw [List.mem_singleton.mp g]
            exact hc
      · rintro H' ⟨cs, hD, hl, hs, hn⟩
        have e1 : (cs.map fun c => V.str (SX.S [c])) = (cs.map fun c => SX.S [c]).map V.str := by rw [List.map_map]; rfl
        have hln : (cs.length : Int) ≤ 4 := by omega
        have hsum := sum_one cs
        have sj : sgB (SX.S cs) = true := by rw [sgB_S]; exact List.all_eq_true.mpr hs
        have lj : (SX.S cs).length = cs.length := rfl
        refine ⟨_, D, cs.map (fun c => SX.S [c]), rfl, rfl, .inl (sq_of (e1 ▸ hD)), ?_, ?_⟩
        · rw [List.length_map]
          have : (Str.ofString "").length = 0 := by decide +kernel
          rw [this]
          omega
        · rw [join1]
          have h5 := hn.at_
          have b15 := b14.trans hn.but
          have l4 : (SX.S cs).length ≤ 4 := by omega
          clear hD hl hs hsum e1 hn lj
          revert sj l4 h5 b15
          generalize SX.S cs = one
          clear nD
          intro sj h5 b15 l4
          refine ⟨.int wy, rfl, rfl, _, rfl, ite2 (fun e => ?_) (fun e => ?_)⟩
          · obtain ⟨l2, s2⟩ := mul_facts one n
            have c1 := cut_hi (z := Txt.mul one n) (lo := none) (u := n) (by omega)
            have lm : (Txt.mul one n).length ≤ 5000 := by
              have : one.length * n.toNat ≤ 4 * 201 := Nat.mul_le_mul l4 (by omega)
              omega
            exact ⟨_, rfl, _, rfl, one, n, rfl, rfl, by omega, by omega, by omega, .int n, rfl, n, rfl, _, rfl, len5 lm, q _ _ (sgB_cut (s2 sj) _ _) (by omega) h5 b15⟩
          · dsimp only [tNext, tDrop]
            refine ⟨.ref p, rfl, .int kk, rfl, p, kk, rfl, k0, k4, lh, h5, fun c H6 hc h6 b6 => ?_⟩
            have so : sgB (SX.S [c]) = true := by rw [sgB_S]; exact List.all_eq_true.mpr fun d hd => by rw [List.mem_singleton.mp hd]; exact hc
            have b16 := b15.trans b6
            refine ⟨8, rfl, by decide, by decide, for_range (fun i σ H' => ∃ (x y : Str) (u : Option V), σ = [some (.ref p), some (.int m), some (.int kk), some (.int wy), some (.int n), some (.str x), some (.str y), u] ∧ sgB x = true ∧ sgB y = true ∧ x.length ≤ 4 * 2 ^ i ∧ y.length ≤ 4 * 2 ^ i ∧ H' = H6) ⟨_, _, _, rfl, sj, so, by simpa using l4, by show 1 ≤ 4 * 2 ^ 0; decide, rfl⟩ ?_ ?_⟩
            · rintro i σ H' hi ⟨x, y, u, rfl, sx, sy, lx, ly, rfl⟩
              have hi2 : i < 8 := by omega
              have p2 : 4 * 2 ^ i ≤ 512 := by
                have : 2 ^ i ≤ 2 ^ 7 := Nat.pow_le_pow_right (by decide) (by omega)
                omega
              have c1 := cut_hi (z := x) (lo := none) (u := n) (by omega)
              refine ⟨.str x, rfl, x, rfl, len5 (by omega), .int n, rfl, _, _, rfl, rfl, _, rfl, ite2 (fun e => ?_) (fun e => ?_)⟩
              · exact ⟨_, rfl, .int n, rfl, n, rfl, _, rfl, len5 (by omega), q _ _ (sgB_cut sx _ _) (by omega) h6 b16⟩
              · dsimp only [tNext, tDrop]
                refine ⟨.str x, rfl, .str y, rfl, x, y, rfl, rfl, by rw [sizeLine_eq]; omega, .str x, rfl, _, _, rfl, x ++ y, x, _, rfl, sgB_app sx sy, sx, by rw [app_len, Nat.pow_succ]; omega, by rw [Nat.pow_succ]; omega, rfl⟩
            · rintro σ H' ⟨x, y, u, rfl, sx, sy, lx, ly, rfl⟩
              have lx2 : x.length ≤ 1024 := lx
              have c1 := cut_hi (z := x) (lo := none) (u := n) (by omega)
              exact ⟨_, rfl, .int n, rfl, n, rfl, _, rfl, len5 (by omega), q _ _ (sgB_cut sx _ _) (by omega) h6 b16⟩
end
end LawK
set_option maxHeartbeats 4000000
/-! o.m(..) where the method may raise, the wish for the exception by the slots. -/
namespace Ev
open PySem PySem.Spec PyProof.Rows L2
def tMethX (C : Addr) (m : Str) (sp : Sp) (E : L2.St → XK) (ta : TE) (t : TA) : TE := fun σ H Q => ta σ H fun x H1 => ∃ a dx fs, x = .ref a ∧ H1 a = some (.ins C dx fs) ∧ fs.lookup m = none ∧
  t σ H1 fun vs H2 => sp (x :: vs) H2 Q (E σ)
section
variable {X : Cx} {CX : CXT} {k : Nat} {f C : Addr} {fd : FuncData} {ps : List Str} {sp : Sp} {E : L2.St → XK} {m : Str} {apos pos : Pos} {e o : Expr} {es : List Expr} {ta : TE} {t : TA}
theorem pe_methX {pl : Sem Bool} (he : PE X o ta) (c : Cls X.K C) (hm : Meth X.K C m f) (F : FnOk X.prog X.w X.K X.mg X.base CX k f fd ps sp) (hr : Room k X.A) (hb : Binds X.K fd ps []) (hx : ∀ σ, PassesAt CX X σ (E σ)) (ha : PA X (e :: es) t)
    (hst : starEach (e :: es) X.env = (false, eval e X.env) :: starEach es X.env := by rfl) (hpl : (backTo pos (starEach es X.env)).any (·.1) = false := by rfl)
    (ht : eval (.Call (.Attribute o m apos) (e :: es) [] pos) X.env = (do
      let ov ← eval o X.env
      standAt apos.atName
      let (f, first) ← holding [ov] (getMethod ov m pl)
      callWith pos f first (backTo pos (starEach (e :: es) X.env)) (backToKw pos (keywordEach [] X.env))) := by rfl) :
    PE X (.Call (.Attribute o m apos) (e :: es) [] pos) (tMethX C m sp E ta t) := by
  constructor
  intro pins s σ H Q I h
  refine PySem.W.methodCall_KW (pl := pl) (thn (he.run pins s σ H _ I h) ?_) ht
  rintro u s1 ⟨x, H1, I1, rx, a, dx, fs, ex, ea, l, q⟩
  subst ex
  obtain rfl : u = Value.ref a := rx
  apply getmeth_ok I1 ea c hm l
  apply PySem.W.callWith_K (first := [Value.ref a]) (h₀ := X.base) I.ok.mod.kin hm.kp _ hst hpl
  refine thn (ha.run pos pins s1 σ H1 _ I1 q) ?_
  rintro us s2 ⟨vs, H2, I2, r, q2⟩
  exact ⟨I2.kIn, run_fnS (us := .ref a :: us) (vs := .ref a :: vs) F hr hb (hx σ) I2 (.cons rfl r) q2⟩
theorem pe_methX0 {pl : Sem Bool} (he : PE X o ta) (c : Cls X.K C) (hm : Meth X.K C m f) (F : FnOk X.prog X.w X.K X.mg X.base CX k f fd ps sp) (hr : Room k X.A) (hb : Binds X.K fd ps []) (hx : ∀ σ, PassesAt CX X σ (E σ))
    (ht : eval (.Call (.Attribute o m apos) [] [] pos) X.env = (do
      let ov ← eval o X.env
      standAt apos.atName
      let (f, first) ← holding [ov] (getMethod ov m pl)
      callWith pos f first (backTo pos (starEach [] X.env)) (backToKw pos (keywordEach [] X.env))) := by rfl) :
    PE X (.Call (.Attribute o m apos) [] [] pos) (tMethX C m sp E ta tNil) := by
  constructor
  intro pins s σ H Q I h
  refine PySem.W.methodCall_KW (pl := pl) (thn (he.run pins s σ H _ I h) ?_) ht
  rintro u s1 ⟨x, H1, I1, rx, a, dx, fs, ex, ea, l, q⟩
  subst ex
  obtain rfl : u = Value.ref a := rx
  apply getmeth_ok I1 ea c hm l
  exact PySem.W.callWith_K0 (first := [.ref a]) I1.kIn hm.kp (run_fnS (us := [.ref a]) (vs := [.ref a]) F hr hb (hx σ) I1 (.cons rfl .nil) q)
/-- C() -/
def tMkS0 (C : Addr) (sp : Sp) (E : L2.St → XK) : TE := fun σ H Q => ∀ a dx, H a = none → H dx = none → dx ≠ a → sp [.ref a] (upd (upd H dx (.own a)) a (.ins C dx [])) (fun v H2 => v = .non ∧ Q (.ref a) H2) (E σ)
end
end Ev
set_option maxHeartbeats 4000000
/-! xs[a:c] = ys, where c may lie behind the end of xs -/
namespace Ev
open PySem PySem.Spec PyProof.Rows L2
section
variable {prog : Program} {w : World} {A : Around} {E : Value → Shared → Prop} {s : Shared}
theorem cut_bounds {a c n : Nat} (ha : a ≤ n) : sliceBounds (some (a : Int)) (some (c : Int)) none n = ((a : Int), ((min c n : Nat) : Int), 1) := by
  rw [sliceBounds_plain]; show (((clipAt n (a : Int) : Nat) : Int), ((clipAt n (c : Int) : Nat) : Int), (1 : Int)) = _
  rw [clipAt_nat, clipAt_nat, Nat.min_eq_left ha]
set_option maxRecDepth 100000 in
theorem setItem_cut {l b sl : Addr} {its new : Array Value} {n n2 : Nat} {vl vu : Value} {a c : Nat} {Q : Unit → Shared → Prop}
    (e : s.heap.get? l = some { cls := .type "list", data := .seq its n }) (e2 : s.heap.get? b = some { cls := .type "list", data := .seq new n2 }) (ne : l ≠ b) (hs : s.heap.IsSliceOf sl vl vu .none)
    (pl : IsPart vl (some (a : Int))) (pu : IsPart vu (some (c : Int))) (ha : a ≤ its.size) (hac : a ≤ c) (hz : its.size + new.size ≤ sizeLine)
    (q : Q () { s with heap := s.heap.update l (Obj.mapSeq fun xs => xs.extract 0 a ++ new ++ xs.extract (min c its.size) xs.size) }) : wpAny (model prog w) A (setItem (.ref l) (.ref sl) (.ref b)) Q E s := by
  have Ll : s.heap.IsList l its := PySem.IsL.isList e; have Lb : s.heap.IsList b new := PySem.IsL.isList e2
  obtain ⟨os, h1, h2, h3⟩ := id hs
  have Ts : s.TypeIs (.ref sl) "slice" := ⟨os, h1, h2⟩; have st : ¬ ((rawPart none == rawInt 0) = true) := Bool.false_ne_true
  have sm : Builtin.List.listSameRef (.ref l) (.ref b) = false := by
    unfold Builtin.List.listSameRef; exact beq_eq_false_iff_ne.mpr ne
  have mxc : (max (a : Int) ((min c its.size : Nat) : Int)).toNat = min c its.size := by omega
  have z2 : ((fun xs : Array Value => xs.extract 0 a ++ new ++ xs.extract (min c its.size) xs.size) its).size ≤ sizeLine + 1 := by
    simp only [Array.size_append, Array.size_extract]; omega
  unfold setItem; try with_reducible refine wpAny_holding ?_
  first | refine wpAny_bind (wpAny_pure ?_) | skip
  refine wpAny_bind (wpAny_sequenceKey Ll.typeIs (by decide) ?_); refine wpAny_bind (wpAny_callSpecial?_slot (name := Str.ofString "__setitem__") Ll.typeIs slot_list_setitem (wpAny_call_entry slot_list_setitem Ll.typeIs entry_list_setitem ?_ (args_list_setitem _ _ _)))
  show wpAny _ _ (Builtin.List.listSubscript? (.ref sl) >>= _) _ _ s; refine wpAny_bind ?_
  unfold Builtin.List.listSubscript?; refine wpAny_bind (wpAny_specialOf Ts slice_no_index ?_); simp only [Option.isNone_none, if_true]
  refine wpAny_pure ?_; show wpAny _ _ (typeOf (.ref sl) >>= _) _ _ s; refine wpAny_bind (wpAny_typeOf Ts ?_)
  first | rw [if_neg (by decide)] | refine PySem.W.KFB.if_not (by decide) ?_
  rw [listSliceParts_eq]; refine wpAny_bind (wpAny_bind (wpAny_field h1 h3 (x := .none) rfl (wpAny_bind (wpAny_listPart .none ?_)))); rw [if_neg st]
  refine wpAny_bind (wpAny_field h1 h3 (x := vl) rfl (wpAny_bind (wpAny_listPart pl ?_))); refine wpAny_bind (wpAny_field h1 h3 (x := vu) rfl (wpAny_bind (wpAny_listPart pu (wpAny_pure ?_))))
  first | simp only [sm, Bool.false_eq_true, if_false] | refine PySem.W.KFB.if_not sm ?_
  refine wpAny_bind (m := Builtin.List.listAllItems (.ref b) "must assign iterable to extended slice") ?_; unfold Builtin.List.listAllItems; refine wpAny_bind (wpAny_typeOf Lb.typeIs ?_)
  first | refine PySem.W.KFB.if_so (by decide) ?_ | rw [if_pos (by decide)] | simp only [beq_self_eq_true, Bool.true_or, if_true]
  unfold Builtin.List.listItems; refine wpAny_bind (wpAny_seqItems e2 rfl (wpAny_pure ?_)); refine wpAny_bind (wpAny_bind (wpAny_seqItems e rfl (wpAny_pure ?_)))
  refine wpAny_bind (wpAny_of_eq ((sliceIndices_raw (some (a : Int)) (some (c : Int)) none its.size (by simp)).trans (congrArg (pure : Int × Int × Int → Sem (Int × Int × Int)) (cut_bounds ha))) ?_)
  show wpAny _ _ (if ((1 : Int) == 1) = true then _ else _) _ _ s; rw [if_pos (by decide)]; refine wpAny_bind (wpAny_rule ?_)
  first | simp only [notLongL hz, Bool.false_eq_true, if_false] | refine PySem.W.KFB.if_not (notLongL hz) ?_
  first | refine wpAny_bind (wpAny_pure ?_) | skip
  show wpAny _ _ (updateSeq l (fun xs => xs.extract 0 ((a : Int)).toNat ++ new ++ xs.extract (max (a : Int) ((min c its.size : Nat) : Int)).toNat xs.size) >>= _) _ _ s; rw [mxc, Int.toNat_natCast]
  refine wpAny_bind (wpAny_updateSeq (hz := Nat.le_trans (Nat.le_add_right _ _) hz) (_hz' := z2) e rfl ?_); refine wpAny_bind (wpAny_letGo ?_)
  first | exact wpAny_bind (wpAny_pure (wpAny_pure ⟨.none, rfl, wpAny_pure q⟩)) | exact wpAny_pure ⟨.none, rfl, wpAny_pure q⟩
end
section
variable {X : Cx}
/-- the items with those from a up to c put anew -/
def splV (xs ys : List V) (a c : Nat) : List V := xs.take a ++ ys ++ xs.drop (min c xs.length)
theorem set_cut {pins : List (Addr × Obj)} {s : Shared} {σ : L2.St} {H : Hp} {l b sl : Addr} {xs ys : List V} {a c : Nat} {vl vu : Value} {Q : Unit → Shared → Prop} (I : Inv X pins σ H s) (hH : H l = some (.lst xs)) (hB : H b = some (.lst ys)) (ne : l ≠ b)
    (hs : s.heap.IsSliceOf sl vl vu .none) (pl : IsPart vl (some (a : Int))) (pu : IsPart vu (some (c : Int))) (ha : a ≤ xs.length) (hac : a ≤ c) (hz : xs.length + ys.length ≤ sizeLine)
    (q : ∀ s', Inv X pins σ (upd H l (.lst (splV xs ys a c))) s' → Q () s') : wpAny (model X.prog X.w) X.A (setItem (.ref l) (.ref sl) (.ref b)) Q X.xe s := by
  obtain ⟨z, its, n, r, hl, e⟩ := I.lstM hH; obtain ⟨z2, its2, n2, r2, hl2, e2⟩ := I.lstM hB
  have n1 : its.length = xs.length := r.length.symm; have n3 : its2.length = ys.length := r2.length.symm
  refine setItem_cut (a := a) (c := c) e e2 ne hs pl pu (by rw [List.size_toArray]; omega) hac (by rw [List.size_toArray, List.size_toArray]; omega) (q _ ?_)
  refine I.lset (its' := its.take a ++ its2 ++ its.drop (min c xs.length)) (t' := s.toks) hH e ?_ (Vals.append (Vals.append (r.take _) r2) (r.drop _)) ?_
  · have ez : min c its.toArray.size = min c xs.length := by rw [List.size_toArray, n1]
    show its.toArray.extract 0 a ++ its2.toArray ++ its.toArray.extract (min c its.toArray.size) its.toArray.size = _; rw [ez]; exact splice_eq its its2 a (min c xs.length)
  · rw [splV, List.length_append, List.length_append, List.length_take, List.length_drop]; omega
/-- o[lo:hi] = a list -/
def gCut (to : TE) (tl th : TO) : TG := fun v σ H Q => to σ H fun x H1 => tl σ H1 fun l H2 => th σ H2 fun u H3 => ∃ (p b : Addr) (xs ys : List V) (a c : Nat), x = .ref p ∧ v = .ref b ∧ l = some (a : Int) ∧ u = some (c : Int) ∧ H3 p = some (.lst xs) ∧ H3 b = some (.lst ys) ∧ p ≠ b ∧ a ≤ xs.length ∧ a ≤ c ∧
  xs.length + ys.length ≤ sizeLine ∧ Q σ (upd H3 p (.lst (splV xs ys a c)))
theorem pg_cut {o : Expr} {lo hi : Option Expr} {to : TE} {tl th : TO} {pos p2 : Pos} (ho : PE X o to) (hl : PO X lo tl) (hu : PO X hi th)
    (ha : ∀ v, assign (.Subscript o (.Slice lo hi none p2) pos) X.env v = (do let ov ← holding [v] (eval o X.env); let iv ← holding [v, ov] (eval (.Slice lo hi none p2) X.env); standAt pos; holding [v, ov, iv] (setItem ov iv v); release [iv, v, ov] []) := by intro _; rfl) :
    PG X (.Subscript o (.Slice lo hi none p2) pos) (gCut to tl th) := by
  refine ⟨fun pins s σ H v u Q I r h => ?_⟩
  rw [ha]
  refine wpAny_bind (wpAny_holding (thn (ho.run pins s σ H _ I h) fun ov s1 ⟨x, H1, I1, r1, q1⟩ => ?_))
  refine wpAny_bind (wpAny_holding (wpAny_Slice (thn (hl.run pins s1 σ H1 _ I1 q1) fun vl s2 ⟨l, H2, I2, pl, q2⟩ => thn (hu.run pins s2 σ H2 _ I2 q2) fun vu s3 ⟨u2, H3, I3, pu, q3⟩ => ?_)))
  rw [evalPart_none]; refine wpAny_pure ?_
  obtain ⟨p, b, xs, ys, a, c, rfl, rfl, rfl, rfl, hp, hb, ne, la, lc, lz, q⟩ := q3
  have I4 : Inv X pins σ H3 { s3 with heap := s3.heap.push { cls := .type "slice", data := .fields #[vl, vu, .none] } } := I3.kept (t' := s3.toks) fun b ob q => Heap.get?_push_of_some _ q
  cases r1; cases r
  refine wpAny_bind (wpAny_standAt (wpAny_bind (wpAny_holding ?_)))
  exact set_cut I4 hp hb ne (Heap.IsSliceOf.new ..) pl pu la lc lz fun s5 I5 => wpAny_release ⟨σ, _, I5, q⟩
end
end Ev
set_option maxHeartbeats 4000000
/-! xs[a:] = ys -/
namespace Ev
open PySem PySem.Spec PyProof.Rows L2
section
variable {prog : Program} {w : World} {A : Around} {E : Value → Shared → Prop} {s : Shared}
theorem tail_bounds {a n : Nat} (ha : a ≤ n) : sliceBounds (some (a : Int)) none none n = ((a : Int), (n : Int), 1) := by
  rw [sliceBounds_plain]; show (((clipAt n (a : Int) : Nat) : Int), ((n : Nat) : Int), (1 : Int)) = _
  rw [clipAt_nat, Nat.min_eq_left ha]
set_option maxRecDepth 100000 in
theorem setItem_tail {l b sl : Addr} {its new : Array Value} {n n2 : Nat} {vl vu : Value} {a : Nat} {Q : Unit → Shared → Prop}
    (e : s.heap.get? l = some { cls := .type "list", data := .seq its n }) (e2 : s.heap.get? b = some { cls := .type "list", data := .seq new n2 }) (ne : l ≠ b) (hs : s.heap.IsSliceOf sl vl vu .none)
    (pl : IsPart vl (some (a : Int))) (pu : IsPart vu none) (ha : a ≤ its.size) (hz : its.size + new.size ≤ sizeLine)
    (q : Q () { s with heap := s.heap.update l (Obj.mapSeq fun xs => xs.extract 0 a ++ new ++ xs.extract (its.size) xs.size) }) : wpAny (model prog w) A (setItem (.ref l) (.ref sl) (.ref b)) Q E s := by
  have Ll : s.heap.IsList l its := PySem.IsL.isList e; have Lb : s.heap.IsList b new := PySem.IsL.isList e2
  obtain ⟨os, h1, h2, h3⟩ := id hs
  have Ts : s.TypeIs (.ref sl) "slice" := ⟨os, h1, h2⟩; have st : ¬ ((rawPart none == rawInt 0) = true) := Bool.false_ne_true
  have sm : Builtin.List.listSameRef (.ref l) (.ref b) = false := by
    unfold Builtin.List.listSameRef; exact beq_eq_false_iff_ne.mpr ne
  have mxc : (max (a : Int) ((its.size : Nat) : Int)).toNat = its.size := by omega
  have z2 : ((fun xs : Array Value => xs.extract 0 a ++ new ++ xs.extract (its.size) xs.size) its).size ≤ sizeLine + 1 := by
    simp only [Array.size_append, Array.size_extract]; omega
  unfold setItem; try with_reducible refine wpAny_holding ?_
  first | refine wpAny_bind (wpAny_pure ?_) | skip
  refine wpAny_bind (wpAny_sequenceKey Ll.typeIs (by decide) ?_); refine wpAny_bind (wpAny_callSpecial?_slot (name := Str.ofString "__setitem__") Ll.typeIs slot_list_setitem (wpAny_call_entry slot_list_setitem Ll.typeIs entry_list_setitem ?_ (args_list_setitem _ _ _)))
  show wpAny _ _ (Builtin.List.listSubscript? (.ref sl) >>= _) _ _ s; refine wpAny_bind ?_
  unfold Builtin.List.listSubscript?; refine wpAny_bind (wpAny_specialOf Ts slice_no_index ?_); simp only [Option.isNone_none, if_true]
  refine wpAny_pure ?_; show wpAny _ _ (typeOf (.ref sl) >>= _) _ _ s; refine wpAny_bind (wpAny_typeOf Ts ?_)
  first | rw [if_neg (by decide)] | refine PySem.W.KFB.if_not (by decide) ?_
  rw [listSliceParts_eq]; refine wpAny_bind (wpAny_bind (wpAny_field h1 h3 (x := .none) rfl (wpAny_bind (wpAny_listPart .none ?_)))); rw [if_neg st]
  refine wpAny_bind (wpAny_field h1 h3 (x := vl) rfl (wpAny_bind (wpAny_listPart pl ?_))); refine wpAny_bind (wpAny_field h1 h3 (x := vu) rfl (wpAny_bind (wpAny_listPart pu (wpAny_pure ?_))))
  first | simp only [sm, Bool.false_eq_true, if_false] | refine PySem.W.KFB.if_not sm ?_
  refine wpAny_bind (m := Builtin.List.listAllItems (.ref b) "must assign iterable to extended slice") ?_; unfold Builtin.List.listAllItems; refine wpAny_bind (wpAny_typeOf Lb.typeIs ?_)
  first | refine PySem.W.KFB.if_so (by decide) ?_ | rw [if_pos (by decide)] | simp only [beq_self_eq_true, Bool.true_or, if_true]
  unfold Builtin.List.listItems; refine wpAny_bind (wpAny_seqItems e2 rfl (wpAny_pure ?_)); refine wpAny_bind (wpAny_bind (wpAny_seqItems e rfl (wpAny_pure ?_)))
  refine wpAny_bind (wpAny_of_eq ((sliceIndices_raw (some (a : Int)) none none its.size (by simp)).trans (congrArg (pure : Int × Int × Int → Sem (Int × Int × Int)) (tail_bounds ha))) ?_)
  show wpAny _ _ (if ((1 : Int) == 1) = true then _ else _) _ _ s; rw [if_pos (by decide)]; refine wpAny_bind (wpAny_rule ?_)
  first | simp only [notLongL hz, Bool.false_eq_true, if_false] | refine PySem.W.KFB.if_not (notLongL hz) ?_
  first | refine wpAny_bind (wpAny_pure ?_) | skip
  show wpAny _ _ (updateSeq l (fun xs => xs.extract 0 ((a : Int)).toNat ++ new ++ xs.extract (max (a : Int) ((its.size : Nat) : Int)).toNat xs.size) >>= _) _ _ s; rw [mxc, Int.toNat_natCast]
  refine wpAny_bind (wpAny_updateSeq (hz := Nat.le_trans (Nat.le_add_right _ _) hz) (_hz' := z2) e rfl ?_); refine wpAny_bind (wpAny_letGo ?_)
  first | exact wpAny_bind (wpAny_pure (wpAny_pure ⟨.none, rfl, wpAny_pure q⟩)) | exact wpAny_pure ⟨.none, rfl, wpAny_pure q⟩
end
section
variable {X : Cx}
/-- the items with those from a up to c put anew -/
def tailV (xs ys : List V) (a : Nat) : List V := xs.take a ++ ys ++ xs.drop (xs.length)
theorem set_tail {pins : List (Addr × Obj)} {s : Shared} {σ : L2.St} {H : Hp} {l b sl : Addr} {xs ys : List V} {a : Nat} {vl vu : Value} {Q : Unit → Shared → Prop} (I : Inv X pins σ H s) (hH : H l = some (.lst xs)) (hB : H b = some (.lst ys)) (ne : l ≠ b)
    (hs : s.heap.IsSliceOf sl vl vu .none) (pl : IsPart vl (some (a : Int))) (pu : IsPart vu none) (ha : a ≤ xs.length) (hz : xs.length + ys.length ≤ sizeLine)
    (q : ∀ s', Inv X pins σ (upd H l (.lst (tailV xs ys a))) s' → Q () s') : wpAny (model X.prog X.w) X.A (setItem (.ref l) (.ref sl) (.ref b)) Q X.xe s := by
  obtain ⟨z, its, n, r, hl, e⟩ := I.lstM hH; obtain ⟨z2, its2, n2, r2, hl2, e2⟩ := I.lstM hB
  have n1 : its.length = xs.length := r.length.symm; have n3 : its2.length = ys.length := r2.length.symm
  refine setItem_tail (a := a) e e2 ne hs pl pu (by rw [List.size_toArray]; omega) (by rw [List.size_toArray, List.size_toArray]; omega) (q _ ?_)
  refine I.lset (its' := its.take a ++ its2 ++ its.drop (xs.length)) (t' := s.toks) hH e ?_ (Vals.append (Vals.append (r.take _) r2) (r.drop _)) ?_
  · have ez : its.toArray.size = xs.length := by rw [List.size_toArray, n1]
    show its.toArray.extract 0 a ++ its2.toArray ++ its.toArray.extract (its.toArray.size) its.toArray.size = _; rw [← ez]; exact splice_eq its its2 a its.toArray.size
  · rw [tailV, List.length_append, List.length_append, List.length_take, List.length_drop]; omega
/-- o[lo:hi] = a list -/
def gTail (to : TE) (tl th : TO) : TG := fun v σ H Q => to σ H fun x H1 => tl σ H1 fun l H2 => th σ H2 fun u H3 => ∃ (p b : Addr) (xs ys : List V) (a : Nat), x = .ref p ∧ v = .ref b ∧ l = some (a : Int) ∧ u = none ∧ H3 p = some (.lst xs) ∧ H3 b = some (.lst ys) ∧ p ≠ b ∧ a ≤ xs.length ∧
  xs.length + ys.length ≤ sizeLine ∧ Q σ (upd H3 p (.lst (tailV xs ys a)))
theorem pg_tail {o : Expr} {lo hi : Option Expr} {to : TE} {tl th : TO} {pos p2 : Pos} (ho : PE X o to) (hl : PO X lo tl) (hu : PO X hi th)
    (ha : ∀ v, assign (.Subscript o (.Slice lo hi none p2) pos) X.env v = (do let ov ← holding [v] (eval o X.env); let iv ← holding [v, ov] (eval (.Slice lo hi none p2) X.env); standAt pos; holding [v, ov, iv] (setItem ov iv v); release [iv, v, ov] []) := by intro _; rfl) :
    PG X (.Subscript o (.Slice lo hi none p2) pos) (gTail to tl th) := by
  refine ⟨fun pins s σ H v u Q I r h => ?_⟩
  rw [ha]
  refine wpAny_bind (wpAny_holding (thn (ho.run pins s σ H _ I h) fun ov s1 ⟨x, H1, I1, r1, q1⟩ => ?_))
  refine wpAny_bind (wpAny_holding (wpAny_Slice (thn (hl.run pins s1 σ H1 _ I1 q1) fun vl s2 ⟨l, H2, I2, pl, q2⟩ => thn (hu.run pins s2 σ H2 _ I2 q2) fun vu s3 ⟨u2, H3, I3, pu, q3⟩ => ?_)))
  rw [evalPart_none]; refine wpAny_pure ?_
  obtain ⟨p, b, xs, ys, a, rfl, rfl, rfl, rfl, hp, hb, ne, la, lz, q⟩ := q3
  have I4 : Inv X pins σ H3 { s3 with heap := s3.heap.push { cls := .type "slice", data := .fields #[vl, vu, .none] } } := I3.kept (t' := s3.toks) fun b ob q => Heap.get?_push_of_some _ q
  cases r1; cases r
  refine wpAny_bind (wpAny_standAt (wpAny_bind (wpAny_holding ?_)))
  exact set_tail I4 hp hb ne (Heap.IsSliceOf.new ..) pl pu la lz fun s5 I5 => wpAny_release ⟨σ, _, I5, q⟩
end
end Ev
set_option maxHeartbeats 4000000
/-! Slices by natural bounds. -/
namespace Ev
open PySem PySem.Spec PyProof.Rows L2
theorem sIx_int {n d : Nat} {i : Int} (h : 0 ≤ i) : HT.sIx n d (some i) = min i.toNat n := by
  show (if i < 0 then (i + (n : Int)).toNat else min i.toNat n) = _
  rw [if_neg (by omega)]
theorem cutV_to {xs : List V} {i : Int} (h : 0 ≤ i) : cutV xs none (some i) = xs.take i.toNat := by
  unfold cutV
  rw [sIx_int h]
  show (xs.drop 0).take (min i.toNat xs.length - 0) = _
  rw [List.drop_zero, Nat.sub_zero, ← List.take_eq_take_min]
theorem cutV_from {xs : List V} {i : Int} (h : 0 ≤ i) : cutV xs (some i) none = xs.drop i.toNat := by
  unfold cutV
  rw [sIx_int h]
  show (xs.drop (min i.toNat xs.length)).take (xs.length - min i.toNat xs.length) = _
  rw [List.take_of_length_le (by rw [List.length_drop]; exact Nat.le_refl _)]
  by_cases g : i.toNat ≤ xs.length
  · rw [Nat.min_eq_left g]
  · rw [Nat.min_eq_right (by omega), List.drop_length, List.drop_of_length_le (by omega)]
theorem cutV_set {xs : List V} {i : Int} {z : V} (h : 0 ≤ i) (h2 : i < xs.length) : cutV xs none (some i) ++ [z] ++ cutV xs (some (i + 1)) none = xs.set i.toNat z := by
  rw [cutV_to h, cutV_from (by omega)]
  have e : (i + 1).toNat = i.toNat + 1 := by omega
  rw [e, List.set_eq_take_append_cons_drop, if_pos (by omega)]
  simp
theorem cutS_to {z : Str} {i : Int} (h : 0 ≤ i) : (cutS z none (some i)).cps.toList = z.cps.toList.take i.toNat := by
  have e : (cutS z none (some i)).cps.toList = (z.cps.toList.drop 0).take (HT.sIx z.length z.length (some i) - 0) := by simp [cutS, HT.sIx]
  rw [e, sIx_int h, List.drop_zero, Nat.sub_zero, len_S, ← List.take_eq_take_min]
theorem cutS_from {z : Str} {i : Int} (h : 0 ≤ i) : (cutS z (some i) none).cps.toList = z.cps.toList.drop i.toNat := by
  have e : (cutS z (some i) none).cps.toList = (z.cps.toList.drop (HT.sIx z.length 0 (some i))).take (z.length - HT.sIx z.length 0 (some i)) := by simp [cutS, HT.sIx]
  rw [e, sIx_int h, len_S]
  rw [List.take_of_length_le (by rw [List.length_drop]; exact Nat.le_refl _)]
  by_cases g : i.toNat ≤ z.cps.toList.length
  · rw [Nat.min_eq_left g]
  · rw [Nat.min_eq_right (by omega), List.drop_length, List.drop_of_length_le (by omega)]
theorem cutS_of {z : Str} {i j : Int} (h : 0 ≤ i) (h2 : i ≤ j) : (cutS z (some i) (some j)).cps.toList = (z.cps.toList.drop i.toNat).take (j - i).toNat := by
  have e : (cutS z (some i) (some j)).cps.toList = (z.cps.toList.drop (HT.sIx z.length 0 (some i))).take (HT.sIx z.length z.length (some j) - HT.sIx z.length 0 (some i)) := by simp [cutS]
  rw [e, sIx_int h, sIx_int (by omega), len_S]
  apply List.ext_getElem?
  intro k
  rw [List.getElem?_take, List.getElem?_take, List.getElem?_drop, List.getElem?_drop]
  by_cases g : i.toNat ≤ z.cps.toList.length
  · rw [Nat.min_eq_left g]
    by_cases a : k < (j - i).toNat
    · rw [if_pos a]
      by_cases b : k < min j.toNat z.cps.toList.length - i.toNat
      · rw [if_pos b]
      · rw [if_neg b]
        exact (List.getElem?_eq_none (by omega)).symm
    · rw [if_neg a, if_neg (by omega)]
  · rw [List.getElem?_eq_none (show z.cps.toList.length ≤ i.toNat + k by omega), if_neg (by omega)]
    split <;> rfl
end Ev
set_option maxHeartbeats 4000000
namespace LawK
open PySem PySem.Spec PyProof.Rows L2 Ev
theorem pss_dead {X : Cx} {ss : List Stmt} : PSs X ss (fun _ _ _ => False) := ⟨fun pins s σ H D I q => q.elim⟩
theorem FnOk.lift {P : Program} {w : World} {K : PySem.W.Frag} {mg : Str → Option Value} {base : Heap} {CX : CXT} {k : Nat} {f : Addr} {fd : FuncData} {ps : List Str} {sp : Sp} (F : FnOk P w K mg base CX0 k f fd ps sp) : FnOk P w K mg base CX k f fd ps sp :=
  ⟨F.len, fun A outer s H args us vs Q E hr he hb hv hs => codeAny_mono (F.run A outer s H args us vs Q E hr he hb hv hs) fun r s' h => by
    cases r with
    | error e => exact False.elim h
    | ok fl =>
      cases fl with
      | ret u => exact h
      | next => exact h
      | brk => exact h
      | cont => exact h⟩
/-- the class of disks, at C -/
structure DskB (K : PySem.W.Frag) (mg : Str → Option Value) (C : Addr) : Prop where
  cl : Cls K C
  n1 : NoAttr K C "_lines"
  n2 : NoAttr K C "_synced"
  g : mg "Disk" = some (.ref C)
/-- all but these are kept -/
def ButS (as : List Addr) (H H' : Hp) : Prop := ∀ b o, b ∉ as → H b = some o → H' b = some o
theorem ButS.refl (as : List Addr) (H : Hp) : ButS as H H := fun _ _ _ h => h
theorem ButS.trans {as : List Addr} {H H1 H2 : Hp} (a : ButS as H H1) (b : ButS as H1 H2) : ButS as H H2 := fun c o n h => b c o n (a c o n h)
theorem ButS.of {as : List Addr} {H H' : Hp} (k : Same H H') : ButS as H H' := fun c o _ h => k c o h
theorem ButS.mono {as bs : List Addr} {H H' : Hp} (k : ButS as H H') (s : ∀ x ∈ as, x ∈ bs) : ButS bs H H' := fun c o n h => k c o (fun m => n (s c m)) h
theorem ButS.upd {as : List Addr} {H H' : Hp} {a : Addr} {o : HO} (k : ButS as H H') (m : a ∈ as) : ButS as H (upd H' a o) := fun c u n h => by
  rw [upd_ne fun z => n (by rw [z]; exact m)]
  exact k c u n h
theorem ButS.new {as : List Addr} {H H' : Hp} {a : Addr} {o : HO} (k : ButS as H H') (m : H' a = none) : ButS as H (L2.upd H' a o) := fun c u n h => (Same.new m) _ _ (k c u n h)
abbrev lv (ls : List Str) : List V := ls.map V.str
theorem lv_snoc (ls : List Str) (z : Str) : lv (ls ++ [z]) = lv ls ++ [.str z] := List.map_append
theorem lkL {x y : V} : ([("_lines", x), ("_synced", y)] : List (Str × V)).lookup ("_lines" : Str) = some x := by simp [List.lookup]
theorem lkS {x y : V} : ([("_lines", x), ("_synced", y)] : List (Str × V)).lookup ("_synced" : Str) = some y := by
  have e : (("_synced" : Str) == ("_lines" : Str)) = false := by decide
  simp [List.lookup, e]
theorem putL {x y z : V} : putF "_lines" z [("_lines", x), ("_synced", y)] = ([("_lines", z), ("_synced", y)] : List (Str × V)) := rfl
theorem putS {x y z : V} : putF "_synced" z [("_lines", x), ("_synced", y)] = ([("_lines", x), ("_synced", z)] : List (Str × V)) := by
  have e : ¬ (("_lines" : Str) = ("_synced" : Str)) := by decide
  simp [putF, e]
theorem putS1 {x z : V} : putF "_synced" z [("_lines", x)] = ([("_lines", x), ("_synced", z)] : List (Str × V)) := by
  have e : ¬ (("_lines" : Str) = ("_synced" : Str)) := by decide
  simp [putF, e]
/-- a disk of these lines at d, its list at a; from the n-th on they wait -/
structure DskAt (H : Hp) (C d a : Addr) (ls : List Str) (n : Nat) : Prop where
  ob : ∃ dx, H d = some (.ins C dx [("_lines", .ref a), ("_synced", .int (n : Nat))])
  at_ : H a = some (.lst (lv ls))
  le : n ≤ ls.length
  few : ls.length ≤ 3000
  len : ∀ z ∈ ls, z.length ≤ 200
theorem DskAt.ne {H : Hp} {C d a : Addr} {ls : List Str} {n : Nat} (h : DskAt H C d a ls n) : d ≠ a := fun z => by
  obtain ⟨dx, e⟩ := h.ob
  have := h.at_
  rw [← z, e] at this
  cases this
theorem DskAt.buts {H H' : Hp} {as : List Addr} {C d a : Addr} {ls : List Str} {n : Nat} (k : ButS as H H') (h : DskAt H C d a ls n) (nd : d ∉ as) (na : a ∉ as) : DskAt H' C d a ls n := ⟨let ⟨dx, e⟩ := h.ob; ⟨dx, k _ _ nd e⟩, k _ _ na h.at_, h.le, h.few, h.len⟩
theorem DskAt.same {H H' : Hp} {C d a : Addr} {ls : List Str} {n : Nat} (k : Same H H') (h : DskAt H C d a ls n) : DskAt H' C d a ls n := ⟨let ⟨dx, e⟩ := h.ob; ⟨dx, k _ _ e⟩, k _ _ h.at_, h.le, h.few, h.len⟩
def spDInit (C : Addr) : Sp := fun vs H Q _ => ∃ d dx, vs = [.ref d] ∧ H d = some (.ins C dx []) ∧ ∀ a H', H a = none → DskAt H' C d a [] 0 → ButS [d] H H' → Q .non H'
def spDWrite (C cL : Addr) : Sp := fun vs H Q E => ∃ (d a : Addr) (ls : List Str) (n : Nat) (x : V) (k : Kn), vs = [.ref d, x] ∧ DskAt H C d a ls n ∧ ls.length < 3000 ∧ Kd H x k ∧ Vs x ∧ (∀ z, x = .str z → z.length ≤ 200) ∧
  (sgV x = false → E (.ref cL) none H) ∧ (∀ z H', x = .str z → sgB z = true → DskAt H' C d a (ls ++ [z]) n → ButS [a] H H' → Q (.int (ls.length : Nat)) H')
def spDSync (C : Addr) : Sp := fun vs H Q _ => ∃ (d a : Addr) (ls : List Str) (n : Nat), vs = [.ref d] ∧ DskAt H C d a ls n ∧ ∀ H', DskAt H' C d a ls ls.length → ButS [d] H H' → Q (.int ((ls.length : Int) - (n : Int))) H'
def spDLines (C : Addr) : Sp := fun vs H Q _ => ∃ (d a : Addr) (ls : List Str) (n : Nat), vs = [.ref d] ∧ DskAt H C d a ls n ∧ ∀ b H', Same H H' → H b = none → H' b = some (.lst (lv ls)) → Q (.ref b) H'
def spDSynced (C : Addr) : Sp := fun vs H Q _ => ∃ (d a : Addr) (ls : List Str) (n : Nat), vs = [.ref d] ∧ DskAt H C d a ls n ∧ Q (.int (n : Nat)) H
section
variable {P : Program} {w : World} {K : PySem.W.Frag} {mg : Str → Option Value} {base : Heap}
variable {C PE cL cC cN : Addr}
abbrev sDInit : Stmt := inClass (topS 10) 0
theorem scDInit : FnScope ["self"] ["self"] (defScope sDInit) := ⟨rfl, rfl, rfl, by decide +kernel, rfl, by decide +kernel, by decide +kernel⟩
theorem ok_DInit {f : Addr} {fd : FuncData} (F : Fun K "__init__" "Disk.__init__" sDInit f fd) (B : DskB K mg C) (T : Glob mg) : FnOk P w K mg base CX0 1 f fd ["self"] (spDInit C) := by
  refine F.ok scDInit (fun vs H Q E h => ?_) (fun cdv A outer s H vs Q E hr h => ?_)
  · obtain ⟨d, dx, rfl, _⟩ := h
    rfl
  · refine ⟨_, (pss_cons (ps_fld (pv 0) (pe_lst pa_nil) rfl) (pss_one (ps_fld (pv 0) pe_int rfl))), ?_⟩
    obtain ⟨d, dx, rfl, hd, q⟩ := h
    refine ⟨by show 0 ≤ sizeLine; decide, fun a na => ?_⟩
    have nda : d ≠ a := fun z => by rw [z, na] at hd; cases hd
    refine ⟨.ref d, rfl, d, C, dx, [], rfl, (Same.new na) _ _ hd, B.cl, B.n1, by decide, ?_⟩
    refine ⟨.ref d, rfl, d, C, dx, _, rfl, upd_same, B.cl, B.n2, by show 1 < 1000; decide, ?_⟩
    refine q a _ na ⟨⟨dx, ?_⟩, ?_, Nat.le_refl _, by decide, fun z hz => by cases hz⟩ ?_
    · rw [upd_same]
      exact congrArg (fun l => some (HO.ins C dx l)) putS1
    · rw [upd_ne (Ne.symm nda), upd_ne (Ne.symm nda), upd_same]
      rfl
    · exact (((ButS.refl [d] H).new na).upd (by simp)).upd (by simp)
abbrev sDWrite : Stmt := inClass (topS 10) 1
theorem scDWrite : FnScope ["self", "line"] ["self", "line"] (defScope sDWrite) := ⟨rfl, rfl, rfl, by decide +kernel, rfl, by decide +kernel, by decide +kernel⟩
theorem ok_DWrite {f : Addr} {fd : FuncData} (F : Fun K "write" "Disk.write" sDWrite f fd) (B : DskB K mg C) (ENoLine : Cls0 P K mg PE "NoLine" cL) {fPSigns : Addr} {fdPSigns : FuncData} (DPSigns : Dk P w K mg base "is_signs" sPSigns ["thing"] 1 spSg fPSigns fdPSigns) (T : Glob mg) : FnOk P w K mg base (L2.CX P w) 2 f fd ["self", "line"] (spDWrite C cL) := by
  obtain ⟨fW, SNoLine⟩ := ENoLine.sup
  refine F.okX scDWrite (fun vs H Q E h => ?_) (fun cdv A outer s H vs Q E hr h => ?_)
  · obtain ⟨d, a, ls, n, x, k, rfl, _⟩ := h
    rfl
  · refine ⟨_, (pss_cons (ps_if (pt_not (pt_val (pe_call DPSigns.ok (hr.mono (by decide)) (by rfl) DPSigns.g DPSigns.F.kp DPSigns.b .nil pass0 (pa_cons (pv 1) pa_nil))))
      (pss_one (ps_raise rfl (takes_of rfl rfl rfl rfl) (pmk_exc0 SNoLine hr (by rfl) ENoLine.g)))
      pss_nil)
      (pss_cons (ps_expr (pe_bm PySem.F.plainAttrs_list PySem.F.slot_list_append PySem.F.type_list_append mt_append (pe_fld (pv 0) rfl) (pa_cons (pv 1) pa_nil)))
      (pss_one (ps_ret (pe_op op_sub (pe_callB call_len_seq (by rfl) T.len PySem.boot_len (pa_cons (pe_fld (pv 0) rfl) pa_nil)) pe_int))))), ?_⟩
    obtain ⟨d, a, ls, n, x, k, rfl, hD, few, hk, hv, l200, q0, q⟩ := h
    refine ⟨x, rfl, x, k, rfl, hk, hv, _, rfl, ?_⟩
    cases hs : sgV x with
    | false => exact iteT (q0 hs)
    | true =>
      obtain ⟨z, rfl, hz⟩ : ∃ z, x = .str z ∧ sgB z = true := by
        cases x with
        | str z => exact ⟨z, rfl, hs⟩
        | _ => cases hs
      refine iteF ?_
      dsimp only [tNext, tDrop, tSeq]
      obtain ⟨dx, ed⟩ := hD.ob
      have ea := hD.at_
      have nda := hD.ne
      have sz : sizeLine = 16777216 := sizeLine_eq
      refine ⟨.ref d, rfl, d, C, dx, _, .ref a, rfl, ed, B.cl, B.n1, lkL, .inl ⟨rfl, _, sq_of ea⟩, _, rfl, a, lv ls, .str z, rfl, rfl, ea, by rw [List.length_map]; omega, ?_⟩
      have ed1 : upd H a (.lst (lv ls ++ [.str z])) d = some (.ins C dx [("_lines", .ref a), ("_synced", .int (n : Nat))]) := by
        rw [upd_ne nda]
        exact ed
      have ea1 : upd H a (.lst (lv ls ++ [.str z])) a = some (.lst (lv (ls ++ [z]))) := by
        rw [upd_same, lv_snoc]
      refine ⟨.ref d, rfl, d, C, dx, _, .ref a, rfl, ed1, B.cl, B.n1, lkL, a, _, rfl, .inl (sq_of ea1), _, _, rfl, rfl, ?_⟩
      have el : ((lv (ls ++ [z])).length : Int) - 1 = ((ls.length : Nat) : Int) := by
        rw [List.length_map, List.length_append, List.length_singleton]
        omega
      show Q (.int (((lv (ls ++ [z])).length : Int) - 1)) _
      rw [el]
      refine q z _ rfl hz ⟨⟨dx, ed1⟩, ea1, ?_, ?_, fun y hy => ?_⟩ ((ButS.refl [a] H).upd (by simp))
      · rw [List.length_append]
        have := hD.le
        omega
      · rw [List.length_append, List.length_singleton]
        omega
      · rcases List.mem_append.mp hy with hy | hy
        · exact hD.len y hy
        · rw [List.mem_singleton.mp hy]
          exact l200 z rfl
abbrev sDSync : Stmt := inClass (topS 10) 2
theorem scDSync : FnScope ["self", "many"] ["self"] (defScope sDSync) := ⟨rfl, rfl, rfl, by decide +kernel, rfl, by decide +kernel, by decide +kernel⟩
theorem ok_DSync {f : Addr} {fd : FuncData} (F : Fun K "sync" "Disk.sync" sDSync f fd) (B : DskB K mg C) (T : Glob mg) : FnOk P w K mg base CX0 1 f fd ["self"] (spDSync C) := by
  refine F.ok scDSync (fun vs H Q E h => ?_) (fun cdv A outer s H vs Q E hr h => ?_)
  · obtain ⟨d, a, ls, n, rfl, _⟩ := h
    rfl
  · refine ⟨_, (pss_cons (ps_set (i := 1) scDSync.nd rfl (.inl rfl) (pe_op op_sub (pe_callB call_len_seq (by rfl) T.len PySem.boot_len (pa_cons (pe_fld (pv 0) rfl) pa_nil)) (pe_fld (pv 0) rfl)))
      (pss_cons (ps_fld (pv 0) (pe_callB call_len_seq (by rfl) T.len PySem.boot_len (pa_cons (pe_fld (pv 0) rfl) pa_nil)) rfl)
      (pss_one (ps_ret (pv 1))))), ?_⟩
    obtain ⟨d, a, ls, n, rfl, hD, q⟩ := h
    obtain ⟨dx, ed⟩ := hD.ob
    have ea := hD.at_
    have nda := hD.ne
    refine ⟨.ref d, rfl, d, C, dx, _, .ref a, rfl, ed, B.cl, B.n1, lkL, a, _, rfl, .inl (sq_of ea), .ref d, rfl, d, C, dx, _, .int (n : Nat), rfl, ed, B.cl, B.n2, lkS, _, _, rfl, rfl, ?_⟩
    dsimp only [tSeq, gName]
    refine ⟨.ref d, rfl, d, C, dx, _, .ref a, rfl, ed, B.cl, B.n1, lkL, a, _, rfl, .inl (sq_of ea), .ref d, rfl, d, C, dx, _, rfl, ed, B.cl, B.n2, by show 2 < 1000; decide, ?_⟩
    refine ⟨_, rfl, ?_⟩
    have e1 : (((lv ls).length : Nat) : Int) = ((ls.length : Nat) : Int) := by rw [List.length_map]
    rw [e1]
    refine q _ ⟨⟨dx, ?_⟩, ?_, Nat.le_refl _, hD.few, hD.len⟩ ((ButS.refl [d] H).upd (by simp))
    · rw [upd_same, putS]
    · rw [upd_ne (Ne.symm nda)]
      exact ea
abbrev sDLines : Stmt := inClass (topS 10) 3
theorem scDLines : FnScope ["self"] ["self"] (defScope sDLines) := ⟨rfl, rfl, rfl, by decide +kernel, rfl, by decide +kernel, by decide +kernel⟩
theorem ok_DLines {f : Addr} {fd : FuncData} (F : Fun K "lines" "Disk.lines" sDLines f fd) (B : DskB K mg C) (T : Glob mg) : FnOk P w K mg base CX0 1 f fd ["self"] (spDLines C) := by
  refine F.ok scDLines (fun vs H Q E h => ?_) (fun cdv A outer s H vs Q E hr h => ?_)
  · obtain ⟨d, a, ls, n, rfl, _⟩ := h
    rfl
  · refine ⟨_, (pss_one (ps_ret (pe_callTy call_list_of (by rfl) T.list (by decide +kernel) (pa_cons (pe_fld (pv 0) rfl) pa_nil)))), ?_⟩
    obtain ⟨d, a, ls, n, rfl, hD, q⟩ := h
    obtain ⟨dx, ed⟩ := hD.ob
    refine ⟨.ref d, rfl, d, C, dx, _, .ref a, rfl, ed, B.cl, B.n1, lkL, a, _, rfl, .inl (sq_of hD.at_), fun b nb => ?_⟩
    exact q b _ (Same.new nb) nb upd_same
abbrev sDSynced : Stmt := inClass (topS 10) 4
theorem scDSynced : FnScope ["self"] ["self"] (defScope sDSynced) := ⟨rfl, rfl, rfl, by decide +kernel, rfl, by decide +kernel, by decide +kernel⟩
theorem ok_DSynced {f : Addr} {fd : FuncData} (F : Fun K "synced" "Disk.synced" sDSynced f fd) (B : DskB K mg C) (T : Glob mg) : FnOk P w K mg base CX0 1 f fd ["self"] (spDSynced C) := by
  refine F.ok scDSynced (fun vs H Q E h => ?_) (fun cdv A outer s H vs Q E hr h => ?_)
  · obtain ⟨d, a, ls, n, rfl, _⟩ := h
    rfl
  · refine ⟨_, (pss_one (ps_ret (pe_fld (pv 0) rfl))), ?_⟩
    obtain ⟨d, a, ls, n, rfl, hD, q⟩ := h
    obtain ⟨dx, ed⟩ := hD.ob
    exact ⟨.ref d, rfl, d, C, dx, _, .int (n : Nat), rfl, ed, B.cl, B.n2, lkS, q⟩
end
end LawK
set_option maxHeartbeats 4000000
/-! zip of any two things whose iterators can be asked: tuples and texts. -/
namespace Ev
open PySem PySem.Spec PyProof.Rows L2
section
variable {prog : Program} {w : World}
/-- how the iterator at it goes on: n items, the i-th told by G, its state at turn i by S, which hangs on the objects of fp alone -/
structure NextBy (prog : Program) (w : World) (it : Addr) (fp : List Addr) (n : Nat) (G : Nat → Value → Prop) (S : Nat → Heap → Prop) : Prop where
  mem : it ∈ fp
  keep : ∀ i h h', S i h → (∀ b ∈ fp, ∀ o, h.get? b = some o → h'.get? b = some o) → S i h'
  nxt : ∀ (A : Around) i (s : Shared) (Q : Value → Shared → Prop) (E : Value → Shared → Prop), i < n → S i s.heap →
    (∀ v h' tk, G i v → S (i + 1) h' → Heap.SameBut it s.heap h' → Q v { s with heap := h', toks := tk }) → wpAny (model prog w) A (Builtin.SmallTypes.nextOf (.ref it)) Q E s
  fin : ∀ (A : Around) i (s : Shared) (Q : Value → Shared → Prop) (E : Value → Shared → Prop), A.handled = none → n ≤ i → S i s.heap → (∀ h' e, Heap.ExtBut it s.heap h' → (∃ o, h'.get? e = some o ∧ o.cls = .type "StopIteration") → E (.ref e) { s with heap := h' }) → wpAny (model prog w) A (Builtin.SmallTypes.nextOf (.ref it)) Q E s
theorem nb_tup {it l : Addr} (ne : l ≠ it) (xs : Array Value) : NextBy prog w it [it, l] xs.size (fun i v => xs[i]? = some v) (fun i h => h.IsTupleIter it l i ∧ h.IsTuple l xs) where
  mem := List.mem_cons_self
  keep := fun i h h' st k => ⟨st.1.at fun o e => k it (by simp) o e, st.2.at fun o e => k l (by simp) o e⟩
  nxt := fun A i s Q E hi st q => RZ.nextOf_tuple_item st.1 st.2 (x := xs[i]) (by simp [hi]) fun h' a b => q _ h' s.toks (by simp [hi]) ⟨a, st.2.extBut b.extBut ne⟩ b
  fin := fun A i s Q E hh hi st q => RZ.nextOf_tuple_end hh st.1 st.2 (Array.getElem?_eq_none hi) q
theorem nb_list {it l : Addr} (ne : l ≠ it) (xs : Array Value) : NextBy prog w it [it, l] xs.size (fun i v => xs[i]? = some v) (fun i h => h.IsListIter it l i ∧ h.IsList l xs) where
  mem := List.mem_cons_self
  keep := fun i h h' st k => ⟨st.1.at fun o e => k it (by simp) o e, st.2.at fun o e => k l (by simp) o e⟩
  nxt := fun A i s Q E hi st q => wpAny_nextOf_list_item st.1 st.2 (x := xs[i]) (by simp [hi]) fun h' a b => q _ h' s.toks (by simp [hi]) ⟨a, st.2.extBut b.extBut ne⟩ b
  fin := fun A i s Q E hh hi st q => wpAny_nextOf_list_end hh st.1 st.2 (Array.getElem?_eq_none hi) q
theorem next_ascii {A : Around} {E : Value → Shared → Prop} {s : Shared} {it : Addr} {x : Str} {t : Tok} {i c : Nat} {Q : Value → Shared → Prop} (st : s.heap.IsStrIter it "str_ascii_iterator" x t i) (hx : x.cps[i]? = some c)
    (q : ∀ h', h'.IsStrIter it "str_ascii_iterator" x t (i + 1) → Heap.SameBut it s.heap h' → Q (.str ⟨#[c]⟩ s.toks) { s with heap := h', toks := s.toks + 1 }) : wpAny (model prog w) A (Builtin.SmallTypes.nextOf (.ref it)) Q E s := by
  obtain ⟨o, e1, e2, e3⟩ := id st
  unfold Builtin.SmallTypes.nextOf; refine wpAny_bind (wpAny_callSpecial?_slot (name := "__next__") st.typeIs F.slot_str_ascii_iterator_next (wpAny_call_entry F.slot_str_ascii_iterator_next st.typeIs F.entry_str_ascii_iterator_next ?_ (F.args_str_ascii_iterator_next_1 _)))
  show wpAny _ _ (field (.ref it) 0 >>= fun _ => _) _ _ s; apply wpAny_bind; refine wpAny_field e1 e3 (x := .str x t) rfl ?_
  show wpAny _ _ (field (.ref it) 1 >>= fun _ => _) _ _ s; apply wpAny_bind; refine wpAny_field e1 e3 (x := .int i 0) rfl ?_
  simp only [Int.toNat_natCast]; rw [hx]; apply wpAny_bind; refine wpAny_setField e1 e3 (by simp) ?_
  apply wpAny_bind; refine wpAny_mkStr (wpAny_pure ⟨_, rfl, wpAny_pure (q _ ⟨_, Heap.get?_update_self _ e1 (Obj.isFreed_of_fields (Obj.data_mapFields e3 _)), (Obj.cls_mapFields ..).trans e2, ?_⟩ (Heap.SameBut.update ..))⟩) (by show 1 ≤ sizeLine; decide)
  rw [Obj.data_mapFields e3] <;> simp [rawInt]
theorem last_ascii {A : Around} {E : Value → Shared → Prop} {s : Shared} {it : Addr} {x : Str} {t : Tok} {i : Nat} {Q : Value → Shared → Prop} (hh : A.handled = none) (st : s.heap.IsStrIter it "str_ascii_iterator" x t i) (hx : x.cps[i]? = none)
    (q : ∀ h' e, Heap.ExtBut it s.heap h' → (∃ o, h'.get? e = some o ∧ o.cls = .type "StopIteration") → E (.ref e) { s with heap := h' }) : wpAny (model prog w) A (Builtin.SmallTypes.nextOf (.ref it)) Q E s := by
  obtain ⟨o, e1, e2, e3⟩ := id st
  unfold Builtin.SmallTypes.nextOf; refine wpAny_bind (wpAny_callSpecial?_slot (name := "__next__") st.typeIs F.slot_str_ascii_iterator_next (wpAny_call_entry F.slot_str_ascii_iterator_next st.typeIs F.entry_str_ascii_iterator_next ?_ (F.args_str_ascii_iterator_next_1 _)))
  show wpAny _ _ (field (.ref it) 0 >>= fun _ => _) _ _ s; apply wpAny_bind; refine wpAny_field e1 e3 (x := .str x t) rfl ?_
  show wpAny _ _ (field (.ref it) 1 >>= fun _ => _) _ _ s; apply wpAny_bind; refine wpAny_field e1 e3 (x := .int i 0) rfl ?_
  simp only [Int.toNat_natCast]; rw [hx]; apply wpAny_bind; apply wpAny_rule; apply wpAny_bind; refine wpAny_setField e1 e3 (by simp) ?_
  apply wpAny_bind; apply wpAny_letGo; show wpAny _ _ (newExc (.type "StopIteration") [] >>= fun _ => _) _ _ _; apply wpAny_bind; simp only [newExc, newTuple]
  apply wpAny_bind; refine wpAny_newObj_type ?_ (by size_fits); refine wpAny_bind (m := firstArgMember _ _) (wpAny_of_eq (a := .none) (by first | rfl | (simp only [firstArgMember]; rfl)) ?_)
  refine wpAny_newObj_type ?_ (by size_fits); simp only [raiseNew]; apply wpAny_bind; apply wpAny_handled; first | rw [show A.in1.handled = none from hh] | rw [hh]
  refine wpAny_bind (wpAny_pure (wpAny_throw ?_)); exact q _ _ (((Heap.SameBut.update ..).extBut.push _).push _) ⟨_, Heap.get?_push_size _ rfl, rfl⟩
theorem nb_ascii {it : Addr} (x : Str) (t : Tok) : NextBy prog w it [it] x.cps.size (SignAt x) (fun i h => h.IsStrIter it "str_ascii_iterator" x t i) where
  mem := List.mem_cons_self
  keep := fun i h h' st k => let ⟨o, e, r⟩ := st; ⟨o, k it (by simp) o e, r⟩
  nxt := fun A i s Q E hi st q => next_ascii st (c := x.cps[i]) (by simp [hi]) fun h' a b => q _ h' _ ⟨_, _, by simp [hi], rfl⟩ a b
  fin := fun A i s Q E hh hi st q => last_ascii hh st (Array.getElem?_eq_none hi) q
theorem next_wide {A : Around} {E : Value → Shared → Prop} {s : Shared} {it : Addr} {x : Str} {t : Tok} {i c : Nat} {Q : Value → Shared → Prop} (st : s.heap.IsStrIter it "str_iterator" x t i) (hx : x.cps[i]? = some c)
    (q : ∀ h', h'.IsStrIter it "str_iterator" x t (i + 1) → Heap.SameBut it s.heap h' → Q (.str ⟨#[c]⟩ s.toks) { s with heap := h', toks := s.toks + 1 }) : wpAny (model prog w) A (Builtin.SmallTypes.nextOf (.ref it)) Q E s := by
  obtain ⟨o, e1, e2, e3⟩ := id st
  unfold Builtin.SmallTypes.nextOf; refine wpAny_bind (wpAny_callSpecial?_slot (name := "__next__") st.typeIs F.slot_str_iterator_next (wpAny_call_entry F.slot_str_iterator_next st.typeIs F.entry_str_iterator_next ?_ (F.args_str_iterator_next_1 _)))
  show wpAny _ _ (field (.ref it) 0 >>= fun _ => _) _ _ s; apply wpAny_bind; refine wpAny_field e1 e3 (x := .str x t) rfl ?_
  show wpAny _ _ (field (.ref it) 1 >>= fun _ => _) _ _ s; apply wpAny_bind; refine wpAny_field e1 e3 (x := .int i 0) rfl ?_
  simp only [Int.toNat_natCast]; rw [hx]; apply wpAny_bind; refine wpAny_setField e1 e3 (by simp) ?_
  apply wpAny_bind; refine wpAny_mkStr (wpAny_pure ⟨_, rfl, wpAny_pure (q _ ⟨_, Heap.get?_update_self _ e1 (Obj.isFreed_of_fields (Obj.data_mapFields e3 _)), (Obj.cls_mapFields ..).trans e2, ?_⟩ (Heap.SameBut.update ..))⟩) (by show 1 ≤ sizeLine; decide)
  rw [Obj.data_mapFields e3] <;> simp [rawInt]
theorem last_wide {A : Around} {E : Value → Shared → Prop} {s : Shared} {it : Addr} {x : Str} {t : Tok} {i : Nat} {Q : Value → Shared → Prop} (hh : A.handled = none) (st : s.heap.IsStrIter it "str_iterator" x t i) (hx : x.cps[i]? = none)
    (q : ∀ h' e, Heap.ExtBut it s.heap h' → (∃ o, h'.get? e = some o ∧ o.cls = .type "StopIteration") → E (.ref e) { s with heap := h' }) : wpAny (model prog w) A (Builtin.SmallTypes.nextOf (.ref it)) Q E s := by
  obtain ⟨o, e1, e2, e3⟩ := id st
  unfold Builtin.SmallTypes.nextOf; refine wpAny_bind (wpAny_callSpecial?_slot (name := "__next__") st.typeIs F.slot_str_iterator_next (wpAny_call_entry F.slot_str_iterator_next st.typeIs F.entry_str_iterator_next ?_ (F.args_str_iterator_next_1 _)))
  show wpAny _ _ (field (.ref it) 0 >>= fun _ => _) _ _ s; apply wpAny_bind; refine wpAny_field e1 e3 (x := .str x t) rfl ?_
  show wpAny _ _ (field (.ref it) 1 >>= fun _ => _) _ _ s; apply wpAny_bind; refine wpAny_field e1 e3 (x := .int i 0) rfl ?_
  simp only [Int.toNat_natCast]; rw [hx]; apply wpAny_bind; apply wpAny_rule; apply wpAny_bind; refine wpAny_setField e1 e3 (by simp) ?_
  apply wpAny_bind; apply wpAny_letGo; show wpAny _ _ (newExc (.type "StopIteration") [] >>= fun _ => _) _ _ _; apply wpAny_bind; simp only [newExc, newTuple]
  apply wpAny_bind; refine wpAny_newObj_type ?_ (by size_fits); refine wpAny_bind (m := firstArgMember _ _) (wpAny_of_eq (a := .none) (by first | rfl | (simp only [firstArgMember]; rfl)) ?_)
  refine wpAny_newObj_type ?_ (by size_fits); simp only [raiseNew]; apply wpAny_bind; apply wpAny_handled; first | rw [show A.in1.handled = none from hh] | rw [hh]
  refine wpAny_bind (wpAny_pure (wpAny_throw ?_)); exact q _ _ (((Heap.SameBut.update ..).extBut.push _).push _) ⟨_, Heap.get?_push_size _ rfl, rfl⟩
theorem nb_wide {it : Addr} (x : Str) (t : Tok) : NextBy prog w it [it] x.cps.size (SignAt x) (fun i h => h.IsStrIter it "str_iterator" x t i) where
  mem := List.mem_cons_self
  keep := fun i h h' st k => let ⟨o, e, r⟩ := st; ⟨o, k it (by simp) o e, r⟩
  nxt := fun A i s Q E hi st q => next_wide st (c := x.cps[i]) (by simp [hi]) fun h' a b => q _ h' _ ⟨_, _, by simp [hi], rfl⟩ a b
  fin := fun A i s Q E hh hi st q => last_wide hh st (Array.getElem?_eq_none hi) q
structure ZA (z TI TO i1 i2 : Addr) (f1 f2 : List Addr) : Prop where
  a : TI ≠ z
  b : TO ≠ z
  c : TI ≠ TO
  z1 : z ∉ f1
  z2 : z ∉ f2
  t1 : TI ∉ f1
  t2 : TI ∉ f2
  o1 : TO ∉ f1
  o2 : TO ∉ f2
  x1 : i1 ∉ f2
  x2 : i2 ∉ f1
variable {A : Around} {E : Value → Shared → Prop} {s : Shared} {z TI TO i1 i2 : Addr} {f1 f2 : List Addr} {n1 n2 : Nat} {G1 G2 : Nat → Value → Prop} {S1 S2 : Nat → Heap → Prop}
theorem NextBy.off {it : Addr} {fp : List Addr} {n : Nat} {G : Nat → Value → Prop} {S : Nat → Heap → Prop} (N : NextBy prog w it fp n G S) {i : Nat} {h h' : Heap} {q : Addr} (st : S i h) (k : Heap.SameBut q h h') (n : q ∉ fp) : S i h' :=
  N.keep i h h' st fun b hb o e => k.extBut b o (fun z => n (by rw [← z]; exact hb)) e
theorem zs_item (N1 : NextBy prog w i1 f1 n1 G1 S1) (N2 : NextBy prog w i2 f2 n2 G2 S2) (D : ZA z TI TO i1 i2 f1 f2) {a b : Value} {k : Nat} {Q : Value → Shared → Prop}
    (hz : IsZip s.heap z TI TO .none) (hI : IsPair s.heap TI (.ref i1) (.ref i2)) (hO : IsPair s.heap TO a b) (h1 : S1 k s.heap) (h2 : S2 k s.heap) (l1 : k < n1) (l2 : k < n2)
    (q : ∀ h' tk x y, G1 k x → G2 k y → IsZip h' z TI TO (rawInt s.heap.objs.size) → IsPair h' TO x y → S1 (k + 1) h' → S2 (k + 1) h' → IsPair h' s.heap.objs.size x y → h'.objs.size = s.heap.objs.size + 1 → (∀ c o, c ≠ z → c ≠ TO → c ≠ i1 → c ≠ i2 → s.heap.get? c = some o → h'.get? c = some o) → Q (.ref s.heap.objs.size) { s with heap := h', toks := tk }) : wpAny (model prog w) A (Builtin.«zip.__next__» ⟨[.ref z], []⟩) (fun fin s' => ∃ v, fin = .done (.ret v) ∧ Q v s') E s := by
  have i1z : i1 ≠ z := fun e => D.z1 (by rw [← e]; exact N1.mem)
  have i2z : i2 ≠ z := fun e => D.z2 (by rw [← e]; exact N2.mem)
  have Oi1 : TO ≠ i1 := fun e => D.o1 (by rw [e]; exact N1.mem)
  have Oi2 : TO ≠ i2 := fun e => D.o2 (by rw [e]; exact N2.mem)
  have i12 : i1 ≠ i2 := fun e => D.x1 (by rw [e]; exact N2.mem)
  show wpAny _ _ (field (.ref z) 2 >>= fun _ => _) _ _ _; apply wpAny_bind; refine wpAny_field hz rfl (x := .bool false) rfl ?_
  show wpAny _ _ (field (.ref z) 3 >>= fun _ => _) _ _ _; apply wpAny_bind; refine wpAny_field hz rfl (x := .ref TI) rfl ?_
  apply wpAny_bind; refine wpAny_seqItems hI rfl ?_; show wpAny _ _ (Builtin.SmallTypes.ownedTupleIsFree (.ref z) >>= fun _ => _) _ _ _
  apply wpAny_bind; unfold Builtin.SmallTypes.ownedTupleIsFree; apply wpAny_bind; refine wpAny_field hz rfl (x := .none) rfl (wpAny_pure ?_); simp only [if_true]
  apply wpAny_bind; apply wpAny_rule; apply wpAny_bind; refine wpAny_field hz rfl (x := .ref TO) rfl ?_
  apply wpAny_bind; refine wpAny_setField_rec hz (by simp) fun ha za sa => ?_
  have za : IsZip ha z TI TO .ellipsis := za
  apply wpAny_bind; simp only [List.zipIdx_cons, List.zipIdx_nil, List.forIn_cons, List.forIn_nil]
  apply wpAny_bind; apply wpAny_bind; apply wpAny_onRaise; show wpAny _ _ (Builtin.SmallTypes.nextOf (.ref i1) >>= fun _ => _) _ _ _
  apply wpAny_bind; refine N1.nxt _ k _ _ _ l1 (N1.off h1 sa D.z1) fun x hb tb gx st1 sb => wpAny_pure ?_
  have Ob : IsPair hb TO a b := sb.extBut _ _ Oi1 (sa.extBut _ _ D.b hO)
  apply wpAny_bind; refine wpAny_seqItems Ob rfl ?_; apply wpAny_bind; refine wpAny_updateSeq_pair Ob fun hc Oc sc => ?_
  have Oc : IsPair hc TO x b := Oc
  apply wpAny_bind; refine wpAny_letGo (wpAny_pure ?_); apply wpAny_bind; apply wpAny_bind; apply wpAny_onRaise; show wpAny _ _ (Builtin.SmallTypes.nextOf (.ref i2) >>= fun _ => _) _ _ _
  apply wpAny_bind; refine N2.nxt _ k _ _ _ l2 (N2.off (N2.off (N2.off h2 sa D.z2) sb D.x1) sc D.o2) fun y hd td gy st2 sd => wpAny_pure ?_
  have Od : IsPair hd TO x b := sd.extBut _ _ Oi2 Oc
  apply wpAny_bind; refine wpAny_seqItems Od rfl ?_; apply wpAny_bind; refine wpAny_updateSeq_pair Od fun he Oe se => ?_
  have Oe : IsPair he TO x y := Oe
  apply wpAny_bind; refine wpAny_letGo (wpAny_pure (wpAny_pure ?_)); apply wpAny_bind; refine wpAny_seqItems Oe rfl ?_; apply wpAny_bind; refine wpAny_newTuple ?_
  have sz : he.objs.size = s.heap.objs.size := by rw [se.1, sd.1, sc.1, sb.1, sa.1]
  have ze : IsZip he z TI TO .ellipsis := se.extBut _ _ D.b.symm (sd.extBut _ _ i2z.symm (sc.extBut _ _ D.b.symm (sb.extBut _ _ i1z.symm za)))
  have kp : ∀ c o, c ≠ z → c ≠ TO → c ≠ i1 → c ≠ i2 → s.heap.get? c = some o → he.get? c = some o := fun c o c1 c2 c3 c4 e => se.extBut _ _ c2 (sd.extBut _ _ c4 (sc.extBut _ _ c2 (sb.extBut _ _ c3 (sa.extBut _ _ c1 e))))
  have t1 := N1.off (N1.off (N1.off st1 sc D.o1) sd D.x2) se D.o1
  have t2 := N2.off st2 se D.o2
  have zl : z < he.objs.size := Heap.lt_size ze
  show wpAny _ _ (Builtin.SmallTypes.ownedTupleHandOut (.ref z) (.ref he.objs.size) >>= fun _ => _) _ _ _; apply wpAny_bind; unfold Builtin.SmallTypes.ownedTupleHandOut
  have zf : IsZip (he.push { cls := .type "tuple", data := .seq #[x, y] }) z TI TO .ellipsis := Heap.get?_push_of_some _ ze
  apply wpAny_bind; refine wpAny_setField_rec zf (by simp) fun hg zg sg => ?_
  have zg : IsZip hg z TI TO (rawInt he.objs.size) := zg
  refine wpAny_setField_rec zg (by simp) fun hh zh sh => ?_
  have zh : IsZip hh z TI TO (rawInt he.objs.size) := zh
  have up : ∀ c o, c ≠ z → he.get? c = some o → hh.get? c = some o := fun c o c1 e => sh.extBut _ _ c1 (sg.extBut _ _ c1 (Heap.get?_push_of_some _ e))
  have Th : IsPair hh he.objs.size x y := sh.extBut _ _ (Nat.ne_of_gt zl) (sg.extBut _ _ (Nat.ne_of_gt zl) (Heap.get?_push_size _ rfl))
  have zs : hh.objs.size = he.objs.size + 1 := by rw [sh.1, sg.1, Heap.size_push]
  rw [sz] at zh Th zs
  refine wpAny_pure ⟨_, rfl, ?_⟩
  show Q (.ref he.objs.size) _; rw [sz]
  exact q hh td x y gx gy zh (up _ _ D.b Oe) (N1.keep _ _ _ t1 fun c hc o e => up c o (fun w => D.z1 (by rw [← w]; exact hc)) e) (N2.keep _ _ _ t2 fun c hc o e => up c o (fun w => D.z2 (by rw [← w]; exact hc)) e) Th zs fun c o c1 c2 c3 c4 e => up c o c1 (kp c o c1 c2 c3 c4 e)
theorem zs_end (hh : A.handled = none) (N1 : NextBy prog w i1 f1 n1 G1 S1) (N2 : NextBy prog w i2 f2 n2 G2 S2) (D : ZA z TI TO i1 i2 f1 f2) {a b : Value} {k : Nat} {Q : PySem.Fin → Shared → Prop}
    (hz : IsZip s.heap z TI TO .none) (hI : IsPair s.heap TI (.ref i1) (.ref i2)) (hO : IsPair s.heap TO a b) (h1 : S1 k s.heap) (h2 : S2 k s.heap) (l : n1 ≤ k ∨ k < n1 ∧ n2 ≤ k)
    (q : ∀ h' tk e, (∀ c o, c ≠ z → c ≠ TO → c ≠ i1 → c ≠ i2 → s.heap.get? c = some o → h'.get? c = some o) → (∃ o, h'.get? e = some o ∧ o.cls = .type "StopIteration") → E (.ref e) { s with heap := h', toks := tk }) : wpAny (model prog w) A (Builtin.«zip.__next__» ⟨[.ref z], []⟩) Q E s := by
  have i1z : i1 ≠ z := fun e => D.z1 (by rw [← e]; exact N1.mem)
  have i2z : i2 ≠ z := fun e => D.z2 (by rw [← e]; exact N2.mem)
  have Oi1 : TO ≠ i1 := fun e => D.o1 (by rw [e]; exact N1.mem)
  show wpAny _ _ (field (.ref z) 2 >>= fun _ => _) _ _ _; apply wpAny_bind; refine wpAny_field hz rfl (x := .bool false) rfl ?_
  show wpAny _ _ (field (.ref z) 3 >>= fun _ => _) _ _ _; apply wpAny_bind; refine wpAny_field hz rfl (x := .ref TI) rfl ?_
  apply wpAny_bind; refine wpAny_seqItems hI rfl ?_; show wpAny _ _ (Builtin.SmallTypes.ownedTupleIsFree (.ref z) >>= fun _ => _) _ _ _
  apply wpAny_bind; unfold Builtin.SmallTypes.ownedTupleIsFree; apply wpAny_bind; refine wpAny_field hz rfl (x := .none) rfl (wpAny_pure ?_); simp only [if_true]
  apply wpAny_bind; apply wpAny_rule; apply wpAny_bind; refine wpAny_field hz rfl (x := .ref TO) rfl ?_
  apply wpAny_bind; refine wpAny_setField_rec hz (by simp) fun ha za sa => ?_
  have za : IsZip ha z TI TO .ellipsis := za
  apply wpAny_bind; simp only [List.zipIdx_cons, List.zipIdx_nil, List.forIn_cons, List.forIn_nil]
  apply wpAny_bind; apply wpAny_bind; apply wpAny_onRaise; show wpAny _ _ (Builtin.SmallTypes.nextOf (.ref i1) >>= fun _ => _) _ _ _
  have a1 := N1.off h1 sa D.z1
  rcases l with l | ⟨l1, l2⟩
  · apply wpAny_bind; refine N1.fin _ k _ _ _ hh l a1 fun hb e sb ⟨oe, ge, ce⟩ => ?_
    have zb : IsZip hb z TI TO .ellipsis := sb _ _ i1z.symm za
    have ez : e ≠ z := fun x => by subst x; rw [zb] at ge; cases ge; simp at ce
    refine wpAny_setField_rec zb (by simp) fun hc _ sc => q hc _ e (fun c o c1 _ c3 _ x => sc.extBut _ _ c1 (sb _ _ c3 (sa.extBut _ _ c1 x))) ⟨oe, sc.extBut _ _ ez ge, ce⟩
  · apply wpAny_bind; refine N1.nxt _ k _ _ _ l1 a1 fun x hb tb gx st1 sb => wpAny_pure ?_
    have Ob : IsPair hb TO a b := sb.extBut _ _ Oi1 (sa.extBut _ _ D.b hO)
    apply wpAny_bind; refine wpAny_seqItems Ob rfl ?_; apply wpAny_bind; refine wpAny_updateSeq_pair Ob fun hc Oc sc => ?_
    apply wpAny_bind; refine wpAny_letGo (wpAny_pure ?_); apply wpAny_bind; apply wpAny_bind; apply wpAny_onRaise; show wpAny _ _ (Builtin.SmallTypes.nextOf (.ref i2) >>= fun _ => _) _ _ _
    have a2 := N2.off (N2.off (N2.off h2 sa D.z2) sb D.x1) sc D.o2
    apply wpAny_bind; refine N2.fin _ k _ _ _ hh l2 a2 fun hd e sd ⟨oe, ge, ce⟩ => ?_
    have zd : IsZip hd z TI TO .ellipsis := sd _ _ i2z.symm (sc.extBut _ _ D.b.symm (sb.extBut _ _ i1z.symm za))
    have ez : e ≠ z := fun x => by subst x; rw [zd] at ge; cases ge; simp at ce
    refine wpAny_setField_rec zd (by simp) fun hf _ sf => q hf _ e (fun c o c1 c2 c3 c4 x => sf.extBut _ _ c1 (sd _ _ c4 (sc.extBut _ _ c2 (sb.extBut _ _ c3 (sa.extBut _ _ c1 x))))) ⟨oe, sf.extBut _ _ ez ge, ce⟩
theorem zs_next (N1 : NextBy prog w i1 f1 n1 G1 S1) (N2 : NextBy prog w i2 f2 n2 G2 S2) (D : ZA z TI TO i1 i2 f1 f2) {a b : Value} {k : Nat} {Q : Option Value → Shared → Prop}
    (hz : IsZip s.heap z TI TO .none) (hI : IsPair s.heap TI (.ref i1) (.ref i2)) (hO : IsPair s.heap TO a b) (h1 : S1 k s.heap) (h2 : S2 k s.heap) (l1 : k < n1) (l2 : k < n2)
    (q : ∀ h' tk x y, G1 k x → G2 k y → IsZip h' z TI TO (rawInt s.heap.objs.size) → IsPair h' TO x y → S1 (k + 1) h' → S2 (k + 1) h' → IsPair h' s.heap.objs.size x y → h'.objs.size = s.heap.objs.size + 1 →
      (∀ c o, c ≠ z → c ≠ TO → c ≠ i1 → c ≠ i2 → s.heap.get? c = some o → h'.get? c = some o) → Q (some (.ref s.heap.objs.size)) { s with heap := h', toks := tk }) : wpAny (model prog w) A (pyNext (.ref z)) Q E s := by
  have ty : s.TypeIs (.ref z) "zip" := ⟨_, hz, rfl⟩
  unfold pyNext; apply wpAny_bind; apply wpAny_attempt
  exact wpAny_callSpecial?_slot (name := "__next__") ty F.slot_zip_next (wpAny_call_entry F.slot_zip_next ty F.entry_zip_next (zs_item N1 N2 D hz hI hO h1 h2 l1 l2 fun h' tk x y g1 g2 b1 b2 b3 b4 b5 b6 b7 => wpAny_pure (q h' tk x y g1 g2 b1 b2 b3 b4 b5 b6 b7)) (F.args_zip_next_1 _))
theorem zs_done (hh : A.handled = none) (N1 : NextBy prog w i1 f1 n1 G1 S1) (N2 : NextBy prog w i2 f2 n2 G2 S2) (D : ZA z TI TO i1 i2 f1 f2) {a b : Value} {k : Nat} {Q : Option Value → Shared → Prop}
    (hz : IsZip s.heap z TI TO .none) (hI : IsPair s.heap TI (.ref i1) (.ref i2)) (hO : IsPair s.heap TO a b) (h1 : S1 k s.heap) (h2 : S2 k s.heap) (l : n1 ≤ k ∨ k < n1 ∧ n2 ≤ k)
    (q : ∀ h' tk, (∀ c o, c ≠ z → c ≠ TO → c ≠ i1 → c ≠ i2 → s.heap.get? c = some o → h'.get? c = some o) → Q none { s with heap := h', toks := tk }) : wpAny (model prog w) A (pyNext (.ref z)) Q E s := by
  have ty : s.TypeIs (.ref z) "zip" := ⟨_, hz, rfl⟩
  unfold pyNext; apply wpAny_bind; apply wpAny_attempt
  refine wpAny_callSpecial?_slot (name := "__next__") ty F.slot_zip_next (wpAny_call_entry F.slot_zip_next ty F.entry_zip_next (zs_end (A := A.in1) hh N1 N2 D hz hI hO h1 h2 l fun h' tk e hk he => ?_) (F.args_zip_next_1 _))
  obtain ⟨o, ge, ce⟩ := he
  apply wpAny_bind; refine wpAny_isInstance (T := "StopIteration") (b := true) ⟨o, ge, ce⟩ isSubtype_stop (wpAny_pure (q _ tk hk))
end
/-- iter(v) makes the object o, while Pre stands -/
structure IterBy (v : Value) (o : Obj) (Pre : Heap → Prop) : Prop where
  keep : ∀ {h : Heap} {o' : Obj}, Pre h → Pre (h.push o')
  it : ∀ {prog : Program} {w : World} {A : Around} {E : Value → Shared → Prop} {s : Shared} {Q : Value → Shared → Prop}, Pre s.heap → Q (.ref s.heap.objs.size) { s with heap := s.heap.push o } → wpAny (model prog w) A (pyIter v) Q E s
theorem ib_tup (l : Addr) (xs : Array Value) : IterBy (.ref l) { cls := .type "tuple_iterator", data := .fields #[.ref l, .int 0 0] } (fun h => h.IsTuple l xs) := ⟨fun h => h.push _, fun h q => wpAny_pyIter_tuple h q⟩
theorem ib_list (l : Addr) (xs : Array Value) : IterBy (.ref l) { cls := .type "list_iterator", data := .fields #[.ref l, .int 0 0] } (fun h => h.IsList l xs) := ⟨fun h => h.push _, fun h q => wpAny_pyIter_list h q⟩
theorem ib_ascii (x : Str) (t : Tok) (ha : x.cps.all (· < 128) = true) : IterBy (.str x t) { cls := .type "str_ascii_iterator", data := .fields #[.str x t, .int 0 0] } (fun _ => True) := ⟨fun h => h, fun h q => wpAny_pyIter_ascii ha q⟩
theorem ib_wide (x : Str) (t : Tok) (ha : x.cps.all (· < 128) = false) : IterBy (.str x t) { cls := .type "str_iterator", data := .fields #[.str x t, .int 0 0] } (fun _ => True) := ⟨fun h => h, fun h q => wpAny_pyIter_wide ha q⟩
abbrev zh1 (h : Heap) (o1 : Obj) : Heap := h.push o1
abbrev zh2 (h : Heap) (o1 o2 : Obj) : Heap := (zh1 h o1).push o2
abbrev zh3 (h : Heap) (o1 o2 : Obj) : Heap := (zh2 h o1 o2).push { cls := .type "tuple", data := .seq #[.ref h.objs.size, .ref (zh1 h o1).objs.size] }
abbrev zh4 (h : Heap) (o1 o2 : Obj) : Heap := (zh3 h o1 o2).push { cls := .type "tuple", data := .seq #[.none, .none] }
abbrev zh5 (h : Heap) (o1 o2 : Obj) : Heap := (zh4 h o1 o2).push { cls := .type "zip", data := .fields #[.none, .bool false, .bool false, .ref (zh2 h o1 o2).objs.size, .ref (zh3 h o1 o2).objs.size] }
theorem zs_new (v1 v2 : Value) (o1 o2 : Obj) (P1 P2 : Heap → Prop) (B1 : IterBy v1 o1 P1) (B2 : IterBy v2 o2 P2) :
    Meets (Builtin.«zip.__new__» ⟨[.type "zip", v1, v2], []⟩) (fun _ R s => P1 s.heap ∧ P2 s.heap ∧ R (.ok (.ret (.ref (zh4 s.heap o1 o2).objs.size))) { s with heap := zh5 s.heap o1 o2 }) :=
  .of_wp fun prog w A R s h => by
    obtain ⟨hp, g, d, tk, os⟩ := s; obtain ⟨p1, p2, h⟩ := h
    have hsub := sub_zip
    have q1 : P1 (Shared.heap ⟨hp, g, d, tk, os⟩) := p1
    have q2 : P2 (Shared.heap ⟨hp.push o1, g, d, tk, os⟩) := B2.keep p2
    wp_walk using B1.it q1, B2.it q2
    exact ⟨_, rfl, h⟩
end Ev
set_option maxHeartbeats 4000000
/-! for .. in zip(x, y), each a tuple or a text -/
namespace Ev
open PySem PySem.Spec PyProof.Rows L2
inductive Src
  | tup (a : Addr)
  | lst (a : Addr)
  | txt (z : Str)
def Src.v : Src → V
  | .tup a => .ref a
  | .lst a => .ref a
  | .txt z => .str z
def Src.items (K : PySem.W.Frag) (H : Hp) : Src → List V → Prop
  | .tup a, xs => SqT K H a xs
  | .lst a, xs => SqL K H a xs
  | .txt z, xs => xs = z.cps.toList.map fun c => V.str ⟨#[c]⟩
/-- a source whose iterator has been made -/
inductive Sk
  | tup (a : Addr)
  | lst (a : Addr)
  | txt (z : Str) (t : Tok) (wd : Bool)
def Sk.src : Sk → Src
  | .tup a => .tup a
  | .lst a => .lst a
  | .txt z _ _ => .txt z
def Sk.st (it : Addr) : Sk → Nat → Heap → Prop
  | .tup a => fun i h => h.IsTupleIter it a i
  | .lst a => fun i h => h.IsListIter it a i
  | .txt z t wd => fun i h => h.IsStrIter it (if wd = true then "str_iterator" else "str_ascii_iterator") z t i
def Sk.at : Sk → List Addr
  | .tup a => [a]
  | .lst a => [a]
  | .txt _ _ _ => []
theorem Sk.st_at {it : Addr} {k : Sk} {i : Nat} {h h' : Heap} (st : k.st it i h) (e : ∀ o, h.get? it = some o → h'.get? it = some o) : k.st it i h' := by
  cases k with
  | tup a => exact Heap.IsTupleIter.at st e
  | lst a => exact Heap.IsListIter.at st e
  | txt z t wd =>
    obtain ⟨o, g, r⟩ := st
    exact ⟨o, e o g, r⟩
theorem Sk.st_obj {it : Addr} {k : Sk} {i : Nat} {h : Heap} (st : k.st it i h) : ∃ o, h.get? it = some o ∧ ∀ v, o.data ≠ .cell v := by
  cases k with
  | tup a =>
    obtain ⟨o, e, _, d⟩ := st
    exact ⟨o, e, fun v q => by rw [d] at q; cases q⟩
  | lst a =>
    obtain ⟨o, e, _, d⟩ := st
    exact ⟨o, e, fun v q => by rw [d] at q; cases q⟩
  | txt z t wd =>
    obtain ⟨o, e, _, d⟩ := st
    exact ⟨o, e, fun v q => by rw [d] at q; cases q⟩
theorem items_inj {X : Cx} {pins : List (Addr × Obj)} {σ : L2.St} {H : Hp} {s : Shared} (I : L2.Inv X pins σ H s) {k : Src} {xs ys : List V} (h : k.items X.K H xs) (g : k.items X.K H ys) : xs = ys := by
  cases k with
  | tup a => exact I.tuple_inj h g
  | lst a => exact I.list_inj h g
  | txt z => exact Eq.trans h (Eq.symm g)
theorem sk_next {X : Cx} {pins : List (Addr × Obj)} {σ : L2.St} {H : Hp} {s : Shared} (I : L2.Inv X pins σ H s) (k : Sk) (it : Addr) {xs : List V} (hx : k.src.items X.K H xs) (ne : ∀ a ∈ k.at, a ≠ it) :
    ∃ (fp : List Addr) (n : Nat) (G : Nat → Value → Prop) (S : Nat → Heap → Prop), NextBy X.prog X.w it fp n G S ∧ (∀ i, k.st it i s.heap → S i s.heap) ∧ (∀ i h, S i h → k.st it i h) ∧ (∀ b ∈ fp, b = it ∨ b ∈ k.at) ∧ n = xs.length ∧
      ∀ i v x, G i v → xs[i]? = some x → RelV x v := by
  cases k with
  | tup a =>
    have hx : SqT X.K H a xs := hx
    obtain ⟨its, rv, p, _⟩ := I.tuple hx
    refine ⟨_, _, _, _, nb_tup (ne a List.mem_cons_self) its.toArray, fun i st => ⟨st, p⟩, fun i h st => st.1, fun b hb => ?_, by rw [List.size_toArray, rv.length], fun i v x g e => ?_⟩
    · rcases List.mem_cons.mp hb with e | hb
      · exact .inl e
      · exact .inr hb
    · obtain ⟨u, hu, ru⟩ := rv.get e
      have g : its.toArray[i]? = some v := g
      rw [List.getElem?_toArray, hu] at g
      rw [← Option.some.inj g]
      exact ru
  | lst a =>
    have hx : SqL X.K H a xs := hx
    obtain ⟨its, rv, p, _⟩ := I.list hx
    refine ⟨_, _, _, _, nb_list (ne a List.mem_cons_self) its.toArray, fun i st => ⟨st, p.isList⟩, fun i h st => st.1, fun b hb => ?_, by rw [List.size_toArray, rv.length], fun i v x g e => ?_⟩
    · rcases List.mem_cons.mp hb with e | hb
      · exact .inl e
      · exact .inr hb
    · obtain ⟨u, hu, ru⟩ := rv.get e
      have g : its.toArray[i]? = some v := g
      rw [List.getElem?_toArray, hu] at g
      rw [← Option.some.inj g]
      exact ru
  | txt z t wd =>
    have hx : xs = z.cps.toList.map fun c => V.str ⟨#[c]⟩ := hx
    have rel : ∀ i v x, SignAt z i v → xs[i]? = some x → RelV x v := fun i v x g e => by
      obtain ⟨c, u, hc, rfl⟩ := g
      rw [hx, List.getElem?_map, Array.getElem?_toList, hc] at e
      rw [← Option.some.inj e]
      exact ⟨u, rfl⟩
    have ln : z.cps.size = xs.length := by rw [hx, List.length_map, Array.length_toList]
    cases wd with
    | false => exact ⟨_, _, _, _, nb_ascii z t, fun i st => st, fun i h st => st, fun b hb => .inl (List.mem_singleton.mp hb), ln, rel⟩
    | true => exact ⟨_, _, _, _, nb_wide z t, fun i st => st, fun i h st => st, fun b hb => .inl (List.mem_singleton.mp hb), ln, rel⟩
def ItzS (K : PySem.W.Frag) (k1 k2 : Src) : It where
  go := fun i H => ∃ (xs ys : List V) (x y : V), k1.items K H xs ∧ k2.items K H ys ∧ xs[i]? = some x ∧ ys[i]? = some y
  yld := fun i H v H' => ∃ T x y, v = .ref T ∧ H T = none ∧ H' = upd H T (.tup [x, y]) ∧ (∀ xs, k1.items K H xs → xs[i]? = some x) ∧ ∀ ys, k2.items K H ys → ys[i]? = some y
  stop := fun i H => ∃ xs ys : List V, k1.items K H xs ∧ k2.items K H ys ∧ (xs.length ≤ i ∨ ys.length ≤ i)
structure ZB (z TI TO i1 i2 : Addr) (k1 k2 : Sk) : Prop where
  nd : [z, TI, TO, i1, i2].Nodup
  off : ∀ b ∈ [z, TI, TO, i1, i2], b ∉ k1.at ∧ b ∉ k2.at
theorem ZB.za {z TI TO i1 i2 : Addr} {k1 k2 : Sk} (D : ZB z TI TO i1 i2 k1 k2) {f1 f2 : List Addr} (h1 : ∀ b ∈ f1, b = i1 ∨ b ∈ k1.at) (h2 : ∀ b ∈ f2, b = i2 ∨ b ∈ k2.at) : ZA z TI TO i1 i2 f1 f2 := by
  obtain ⟨nd, off⟩ := D
  have n := nd
  simp only [List.nodup_cons, List.mem_cons, List.not_mem_nil, or_false, not_or, List.nodup_nil, and_true, not_false_eq_true] at n
  obtain ⟨⟨a1, a2, a3, a4⟩, ⟨b1, b2, b3⟩, ⟨c1, c2⟩, d1⟩ := n
  have o1 : ∀ b ∈ [z, TI, TO, i1, i2], b ≠ i1 → b ∉ f1 := fun b hb ne m => (h1 b m).elim ne (off b hb).1
  have o2 : ∀ b ∈ [z, TI, TO, i1, i2], b ≠ i2 → b ∉ f2 := fun b hb ne m => (h2 b m).elim ne (off b hb).2
  exact ⟨Ne.symm a1, Ne.symm a2, b1, o1 z (by simp) a3, o2 z (by simp) a4, o1 TI (by simp) b2, o2 TI (by simp) b3, o1 TO (by simp) c1, o2 TO (by simp) c2, o2 i1 (by simp) d1, o1 i2 (by simp) (Ne.symm d1)⟩
def zTn (z TI TO i1 i2 : Addr) (k1 k2 : Sk) (i : Nat) (h : Heap) : Prop := IsZip h z TI TO .none ∧ IsPair h TI (.ref i1) (.ref i2) ∧ (∃ x y, IsPair h TO x y) ∧ k1.st i1 i h ∧ k2.st i2 i h
theorem zTn.lt {z TI TO i1 i2 : Addr} {k1 k2 : Sk} {i : Nat} {h : Heap} (st : zTn z TI TO i1 i2 k1 k2 i h) : ∀ b ∈ [z, TI, TO, i1, i2], b < h.objs.size := fun b hb => by
  obtain ⟨hz, hI, ⟨x, y, hO⟩, s1, s2⟩ := st
  obtain ⟨o1, e1, _⟩ := Sk.st_obj s1
  obtain ⟨o2, e2, _⟩ := Sk.st_obj s2
  simp only [List.mem_cons, List.not_mem_nil, or_false] at hb
  rcases hb with e | e | e | e | e <;> rw [e]
  · exact Heap.lt_size hz
  · exact Heap.lt_size hI
  · exact Heap.lt_size hO
  · exact Heap.lt_size e1
  · exact Heap.lt_size e2
theorem turn_zipS {P : Program} {w : World} {K : PySem.W.Frag} {elts : List Expr} {kk : Nat} {tpos : Pos} {z TI TO i1 i2 : Addr} {k1 k2 : Sk} (D : ZB z TI TO i1 i2 k1 k2) :
    Turn P w K (.Tuple elts kk tpos) (ItzS K k1.src k2.src) [z, TI, TO, i1, i2] z (zTn z TI TO i1 i2 k1 k2) where
  mem := List.mem_cons_self
  self := fun _ _ _ _ _ st h => wpAny_pyIter_zip st.1 h
  keep := fun i h h' st k => by
    obtain ⟨hz, hI, ⟨x, y, hO⟩, s1, s2⟩ := st
    exact ⟨k z (by simp) _ hz, k TI (by simp) _ hI, ⟨x, y, k TO (by simp) _ hO⟩, Sk.st_at s1 fun o e => k i1 (by simp) o e, Sk.st_at s2 fun o e => k i2 (by simp) o e⟩
  obj := fun i h st c hc => by
    obtain ⟨hz, hI, ⟨x, y, hO⟩, s1, s2⟩ := st
    simp only [List.mem_cons, List.not_mem_nil, or_false] at hc
    rcases hc with e | e | e | e | e <;> rw [e]
    · exact ⟨_, hz, fun v q => nomatch q⟩
    · exact ⟨_, hI, fun v q => nomatch q⟩
    · exact ⟨_, hO, fun v q => nomatch q⟩
    · exact Sk.st_obj s1
    · exact Sk.st_obj s2
  done := by
    intro X hP hw hK hc i pins s σ H E I hf st hg; subst hP hw hK
    obtain ⟨hz, hI, ⟨x0, y0, hO⟩, s1, s2⟩ := st
    obtain ⟨xs, ys, qx, qy, en⟩ := hg
    obtain ⟨f1, n1, G1, S1, N1, a1, b1, c1, e1, r1⟩ := sk_next I k1 i1 qx (fun a ha e => (D.off i1 (by simp)).1 (by rw [← e]; exact ha))
    obtain ⟨f2, n2, G2, S2, N2, a2, b2, c2, e2, r2⟩ := sk_next I k2 i2 qy (fun a ha e => (D.off i2 (by simp)).2 (by rw [← e]; exact ha))
    have l : n1 ≤ i ∨ i < n1 ∧ n2 ≤ i := by omega
    exact zs_done (I.ok.hd hc) N1 N2 (D.za c1 c2) hz hI hO (a1 i s1) (a2 i s2) l fun h' tk hk => ⟨rfl, I.turnedL (t' := tk) (ch := [z, TI, TO, i1, i2]) (fun c o hb q =>
      hk c o (fun e => hb (by simp [e])) (fun e => hb (by simp [e])) (fun e => hb (by simp [e])) (fun e => hb (by simp [e])) q) hf⟩
  item := by
    intro X hP hw hK hc i pins s σ H E I hf st hg; subst hP hw hK
    have lts := zTn.lt st
    obtain ⟨hz, hI, ⟨x0, y0, hO⟩, s1, s2⟩ := st
    obtain ⟨xs, ys, x, y, qx, qy, ex, ey⟩ := hg
    obtain ⟨f1, n1, G1, S1, N1, a1, b1, c1, e1, r1⟩ := sk_next I k1 i1 qx (fun a ha e => (D.off i1 (by simp)).1 (by rw [← e]; exact ha))
    obtain ⟨f2, n2, G2, S2, N2, a2, b2, c2, e2, r2⟩ := sk_next I k2 i2 qy (fun a ha e => (D.off i2 (by simp)).2 (by rw [← e]; exact ha))
    have lx := (List.getElem?_eq_some_iff.mp ex).1
    have ly := (List.getElem?_eq_some_iff.mp ey).1
    have Z := D.za c1 c2
    refine zs_next N1 N2 Z hz hI hO (a1 i s1) (a2 i s2) (by omega) (by omega) fun h' tk u u2 g1 g2 z' O' t1 t2 T' hs hk => ?_
    have ru := r1 i u x g1 ex
    have ru2 := r2 i u2 y g2 ey
    refine ⟨_, rfl, wpAny_letOwnedTupleGo_zip (s := { s with heap := h', toks := tk }) z' fun h'' z'' sb => ?_⟩
    have zl := lts z (by simp)
    have T2 : h''.get? s.heap.objs.size = some { cls := .type "tuple", data := .seq #[u, u2] } := (sb.2 _ (Nat.ne_of_gt zl)).trans T'
    have new : ObjOk X.prog X.w (upd H s.heap.objs.size (.tup [x, y])) h'' s.heap.objs.size (.tup [x, y]) := ⟨by show 2 ≤ sizeLine; decide, [u, u2], .cons ru (.cons ru2 .nil), ⟨_, T2, rfl, _, rfl⟩⟩
    have I1 : L2.Inv X pins σ (upd H s.heap.objs.size (.tup [x, y])) { s with heap := h'', toks := tk } :=
      I.turnedNew (t' := tk) (ch := [z, TI, TO, i1, i2]) (fun c o hb q => (sb.2 c (fun e => hb (by simp [e]))).trans (hk c o (fun e => hb (by simp [e])) (fun e => hb (by simp [e])) (fun e => hb (by simp [e])) (fun e => hb (by simp [e])) q)) hf (Nat.le_refl _) new
    refine ⟨.ref s.heap.objs.size, _, I1, rfl, ⟨_, x, y, rfl, I.hok.fresh (Nat.le_refl _), rfl, fun l hl => by rw [items_inj I hl qx]; exact ex, fun l hl => by rw [items_inj I hl qy]; exact ey⟩, ?_, fun c hcm => ?_⟩
    · have TI' : IsPair h' TI (.ref i1) (.ref i2) := hk _ _ Z.a Z.c (fun e => Z.t1 (by rw [e]; exact N1.mem)) (fun e => Z.t2 (by rw [e]; exact N2.mem)) hI
      exact ⟨z'', (sb.2 _ Z.a).trans TI', ⟨u, u2, (sb.2 _ Z.b).trans O'⟩, Sk.st_at (b1 _ _ t1) fun o e => (sb.2 _ fun e' => Z.z1 (by rw [← e']; exact N1.mem)).trans e, Sk.st_at (b2 _ _ t2) fun o e => (sb.2 _ fun e' => Z.z2 (by rw [← e']; exact N2.mem)).trans e⟩
    · rw [upd_ne (Nat.ne_of_lt (lts c hcm))]
      exact (hf c hcm).1
end Ev
set_option maxHeartbeats 4000000
/-! for .. in zip(x, y), each a tuple or a text: the rule -/
namespace Ev
open PySem PySem.Spec PyProof.Rows L2
theorem zb_nd (n : Nat) : [n + 4, n + 2, n + 3, n, n + 1].Nodup := by
  simp only [List.nodup_cons, List.mem_cons, List.not_mem_nil, or_false, not_or, List.nodup_nil, and_true, not_false_eq_true]
  omega
theorem zb_le (n b : Nat) (hb : b ∈ [n + 4, n + 2, n + 3, n, n + 1]) : n ≤ b := by
  simp only [List.mem_cons, List.not_mem_nil, or_false] at hb
  omega
theorem call_zs {prog : Program} {w : World} {A : Around} {E : Value → Shared → Prop} {s : Shared} {v1 v2 : Value} {o1 o2 : Obj} {P1 P2 : Heap → Prop} {Q : Value → Shared → Prop} (B1 : IterBy v1 o1 P1) (B2 : IterBy v2 o2 P2)
    (f1 : o1.isFreed = false) (f2 : o2.isFreed = false) (p1 : P1 s.heap) (p2 : P2 s.heap) (h : ∀ h', IsZip h' (s.heap.objs.size + 4) (s.heap.objs.size + 2) (s.heap.objs.size + 3) .none → IsPair h' (s.heap.objs.size + 2) (.ref s.heap.objs.size) (.ref (s.heap.objs.size + 1)) →
      IsPair h' (s.heap.objs.size + 3) .none .none → h'.get? s.heap.objs.size = some o1 → h'.get? (s.heap.objs.size + 1) = some o2 → (∀ c o, s.heap.get? c = some o → h'.get? c = some o) → Q (.ref (s.heap.objs.size + 4)) { s with heap := h' }) : wpAny (model prog w) A (call (.type "zip") [v1, v2]) Q E s := by
  refine callType_new F.called_zip (by decide) (F.typeCall_zip_2 _ _) (F.newCall_zip_2 _ _) (fun obj => F.args_object_init_3 obj _ _) F.entry_zip_new (zs_new v1 v2 o1 o2 P1 P2 B1 B2) ⟨p1, p2, ?_⟩
  have n1 : (zh1 s.heap o1).objs.size = s.heap.objs.size + 1 := Heap.size_push ..
  have n2 : (zh2 s.heap o1 o2).objs.size = s.heap.objs.size + 2 := by rw [Heap.size_push, n1]
  have n3 : (zh3 s.heap o1 o2).objs.size = s.heap.objs.size + 3 := by rw [Heap.size_push, n2]
  have n4 : (zh4 s.heap o1 o2).objs.size = s.heap.objs.size + 4 := by rw [Heap.size_push, n3]
  have g5 : (zh5 s.heap o1 o2).get? (zh4 s.heap o1 o2).objs.size = some _ := Heap.get?_push_size _ rfl
  have g4 : (zh5 s.heap o1 o2).get? (zh3 s.heap o1 o2).objs.size = some _ := Heap.get?_push_of_some _ (Heap.get?_push_size _ rfl)
  have g3 : (zh5 s.heap o1 o2).get? (zh2 s.heap o1 o2).objs.size = some _ := (fun e => Heap.get?_push_of_some _ (Heap.get?_push_of_some _ e)) (Heap.get?_push_size _ rfl)
  have g2 : (zh5 s.heap o1 o2).get? (zh1 s.heap o1).objs.size = some o2 := (fun e => Heap.get?_push_of_some _ (Heap.get?_push_of_some _ (Heap.get?_push_of_some _ e))) (Heap.get?_push_size _ f2)
  have g1 : (zh5 s.heap o1 o2).get? s.heap.objs.size = some o1 := (fun e => Heap.get?_push_of_some _ (Heap.get?_push_of_some _ (Heap.get?_push_of_some _ (Heap.get?_push_of_some _ e)))) (Heap.get?_push_size _ f1)
  show _ ∧ _
  rw [n2, n3, n4] at g5
  rw [n1, n2] at g3
  rw [n3] at g4; rw [n1] at g2; rw [n4]
  refine ⟨⟨_, g5, rfl⟩, h _ g5 g3 g4 g1 g2 fun c o x => ?_⟩
  exact (fun e => Heap.get?_push_of_some _ (Heap.get?_push_of_some _ (Heap.get?_push_of_some _ e))) (Heap.get?_push_of_some _ (Heap.get?_push_of_some _ x))
/-- a source, asked for its iterator -/
theorem src_iter {X : Cx} {pins : List (Addr × Obj)} {σ : L2.St} {H : Hp} {s : Shared} (I : L2.Inv X pins σ H s) (k : Src) {xs : List V} (hx : k.items X.K H xs) {v : Value} (r : RelV k.v v) :
    ∃ (q : Sk) (o : Obj) (Pre : Heap → Prop), q.src = k ∧ IterBy v o Pre ∧ o.isFreed = false ∧ Pre s.heap ∧ (∀ it h, h.get? it = some o → q.st it 0 h) ∧ ∀ a ∈ q.at, a < s.heap.objs.size := by
  cases k with
  | tup a =>
    have hx : SqT X.K H a xs := hx
    obtain ⟨its, rv, p, _⟩ := I.tuple hx
    cases r
    refine ⟨.tup a, _, _, rfl, ib_tup a its.toArray, rfl, p, fun it h e => ⟨_, e, rfl, rfl⟩, fun b hb => ?_⟩
    obtain ⟨o, e, _⟩ := id p
    rw [List.mem_singleton.mp hb]
    exact Heap.lt_size e
  | lst a =>
    have hx : SqL X.K H a xs := hx
    obtain ⟨its, rv, p, _⟩ := I.list hx
    cases r
    refine ⟨.lst a, _, _, rfl, ib_list a its.toArray, rfl, p.isList, fun it h e => ⟨_, e, rfl, rfl⟩, fun b hb => ?_⟩
    obtain ⟨o, e, _⟩ := id p.isList
    rw [List.mem_singleton.mp hb]
    exact Heap.lt_size e
  | txt z =>
    obtain ⟨t, rfl⟩ := r
    cases ha : z.cps.all (· < 128) with
    | true => exact ⟨.txt z t false, _, _, rfl, ib_ascii z t ha, rfl, trivial, fun it h e => ⟨_, e, rfl, rfl⟩, fun b hb => nomatch hb⟩
    | false => exact ⟨.txt z t true, _, _, rfl, ib_wide z t ha, rfl, trivial, fun it h e => ⟨_, e, rfl, rfl⟩, fun b hb => nomatch hb⟩
def iZipS (K : PySem.W.Frag) (ta : TA) : TI := fun σ H R => ta σ H fun vs H1 => ∃ (k1 k2 : Src) (xs ys : List V), vs = [k1.v, k2.v] ∧ k1.items K H1 xs ∧ k2.items K H1 ys ∧ R (ItzS K k1 k2) H1
theorem pi_zipS {X : Cx} {e e2 : Expr} {ta : TA} {p pos tpos : Pos} {elts : List Expr} {kk : Nat} (hg : Gl X "zip") (hm : X.mg "zip" = none) (ha : PA X [e, e2] ta) (hs : starEach [e, e2] X.env = (false, eval e X.env) :: starEach [e2] X.env := by rfl) (hpl : (backTo pos (starEach [e2] X.env)).any (·.1) = false := by rfl) :
    PI X (.Tuple elts kk tpos) (.Call (.Name "zip" p) [e, e2] [] pos) (iZipS X.K ta) := by
  refine ⟨fun pins s σ H R I h => Call_ (ld_blt I hg hm PyProof.Rows.boot_zip (PyProof.Rows.callWith_type1 (thn (ha.run pos pins s σ H _ I h) fun us s1 ⟨vs, H1, I1, r1, q1⟩ => ?_) hs hpl))⟩
  obtain ⟨k1, k2, xs, ys, ex, hx, hy, q⟩ := q1
  subst ex
  cases r1 with
  | cons r rr =>
    cases rr with
    | cons r' rr =>
      cases rr
      obtain ⟨c1, o1, P1, e1, B1, f1, p1, g1, l1⟩ := src_iter I1 k1 hx r
      obtain ⟨c2, o2, P2, e2', B2, f2, p2, g2, l2⟩ := src_iter I1 k2 hy r'
      refine call_zs B1 B2 f1 f2 p1 p2 fun h' hz hI hO t1 t2 hk => wpAny_pyIter_zip hz ?_
      have I2 : L2.Inv X pins σ H1 { s1 with heap := h' } := I1.kept (t' := s1.toks) hk
      have D : ZB (s1.heap.objs.size + 4) (s1.heap.objs.size + 2) (s1.heap.objs.size + 3) s1.heap.objs.size (s1.heap.objs.size + 1) c1 c2 := by
        exact ⟨zb_nd _, fun b hb => ⟨fun m => absurd (l1 b m) (Nat.not_lt.mpr (zb_le _ b hb)), fun m => absurd (l2 b m) (Nat.not_lt.mpr (zb_le _ b hb))⟩⟩
      subst e1 e2'
      refine ⟨_, [s1.heap.objs.size + 4, s1.heap.objs.size + 2, s1.heap.objs.size + 3, s1.heap.objs.size, s1.heap.objs.size + 1], _, _, H1, rfl, I2, turn_zipS D, ⟨hz, hI, ⟨_, _, hO⟩, g1 _ _ t1, g2 _ _ t2⟩, fun c hc => ?_, q⟩
      have hle : s1.heap.objs.size ≤ c := zb_le _ c hc
      have no := I1.hok.fresh hle
      exact I1.fpOk hle no
theorem walk_zipS {K : PySem.W.Frag} {k1 k2 : Src} {xs ys : List V} {n : Nat} (hn : n = min xs.length ys.length) :
    Walk (ItzS K k1 k2) n (fun H => k1.items K H xs ∧ k2.items K H ys) (YPair (fun i => xs[i]?) (fun i => ys[i]?)) := by
  rw [hn]
  have go : ∀ i H, i < min xs.length ys.length → k1.items K H xs ∧ k2.items K H ys → (ItzS K k1 k2).go i H := fun i H hi q => by
    have hx : xs[i]? = some (xs[i]'(Nat.lt_of_lt_of_le hi (Nat.min_le_left _ _))) := List.getElem?_eq_getElem _
    have hy : ys[i]? = some (ys[i]'(Nat.lt_of_lt_of_le hi (Nat.min_le_right _ _))) := List.getElem?_eq_getElem _
    exact ⟨xs, ys, _, _, q.1, q.2, hx, hy⟩
  refine ⟨fun i H hi q => go i H hi q, fun _ q => ⟨xs, ys, q.1, q.2, by omega⟩, fun i H v H' _ q y => ?_⟩
  obtain ⟨T, x, z, e1, e2, e3, fx, fy⟩ := y
  exact ⟨T, x, z, e1, e2, e3, fx xs q.1, fy ys q.2⟩
end Ev
set_option maxHeartbeats 4000000
namespace LawK
open PySem PySem.Spec PyProof.Rows L2 Ev
/-- numbers and flags -/
structure FlB (xs : List V) : Prop where
  few : xs.length ≤ 4000
  fl : ∀ y ∈ xs, (∃ i, y = .int i) ∨ ∃ c, y = .bl c
/-- whether these are numbers of first signs of these lines -/
def cutB (ws : List Str) (xs : List V) : Bool := decide (xs.length = ws.length) && (xs.zip ws).all fun p => inV2 0 ((p.2.length : Nat) : Int) p.1
def cutTo (z : Str) : V → Str
  | .int k => cutS z none (some k)
  | _ => z
def cutL (ws : List Str) (xs : List V) : List Str := (ws.zip xs).map fun p => cutTo p.1 p.2
/-- what may say how a disk is cut -/
structure CuX (H : Hp) (x : V) (k : Kn) (ws : List Str) (c : Bool) : Prop where
  kd : Kd H x k
  no : k ≠ .tup → c = false
  tup : ∀ b xs, x = .ref b → H b = some (.tup xs) → FlB xs ∧ c = cutB ws xs
def spCutsAll : Sp := fun vs H Q _ => ∃ (x : V) (k : Kn) (b : Addr) (ws : List Str) (c : Bool), vs = [x, .ref b] ∧ H b = some (.lst (lv ws)) ∧ ws.length ≤ 3000 ∧ (∀ z ∈ ws, z.length ≤ 200) ∧ CuX H x k ws c ∧ ∀ H', Same H H' → Q (.bl c) H'
theorem kit_no {K : PySem.W.Frag} {k : Kn} (n : k ≠ .tup) : PySem.W.kitOne K (.type k.name) (.type "tuple") = some false := by
  have e : kitB k .tup = false := by cases k <;> first | rfl | exact absurd rfl n
  have z := kit_kn (K := K) k .tup
  rw [e] at z
  exact z
theorem cutTo_len {z : Str} {m : Int} (h : 0 ≤ m) (l : z.length ≤ 200) : (cutTo z (.int m)).length ≤ 200 := by
  have e := congrArg List.length (cutS_to (z := z) h)
  rw [List.length_take] at e
  have a : (cutTo z (.int m)).length = (cutS z none (some m)).cps.toList.length := rfl
  have b : z.length = z.cps.toList.length := rfl
  omega
theorem lv_drop (ls : List Str) (n : Nat) : lv (ls.drop n) = (lv ls).drop n := List.map_drop
theorem lv_take (ls : List Str) (n : Nat) : lv (ls.take n) = (lv ls).take n := List.map_take
theorem lv_app (ls ms : List Str) : lv (ls ++ ms) = lv ls ++ lv ms := List.map_append
def spDCut (C cC : Addr) : Sp := fun vs H Q E => ∃ (d a : Addr) (ls : List Str) (n : Nat) (x : V) (k : Kn) (c : Bool), vs = [.ref d, x] ∧ DskAt H C d a ls n ∧ CuX H x k (ls.drop n) c ∧
  (c = false → ∀ H', Same H H' → E (.ref cC) none H') ∧ (∀ b xs H', c = true → x = .ref b → H b = some (.tup xs) → DskAt H' C d a (ls.take n ++ cutL (ls.drop n) xs) ls.length → ButS [d, a] H H' → Q .non H')
def spDDrop (C cN : Addr) : Sp := fun vs H Q E => ∃ (d a : Addr) (ls : List Str) (n : Nat) (x : V) (k : Kn), vs = [.ref d, x] ∧ DskAt H C d a ls n ∧ Kd H x k ∧
  (inV2 0 ((ls.length : Nat) : Int) x = false → E (.ref cN) none H) ∧ (∀ (m : Nat) b H', x = .int (m : Nat) → m ≤ ls.length → H b = none → DskAt H' C d b (ls.take m) (min n m) → ButS [d] H H' → Q .non H')
def spDCopy (C : Addr) : Sp := fun vs H Q _ => ∃ (d a : Addr) (ls : List Str) (n : Nat), vs = [.ref d] ∧ DskAt H C d a ls n ∧ ∀ o b H', Same H H' → H o = none → H b = none → DskAt H' C o b ls n → Q (.ref o) H'
section
variable {P : Program} {w : World} {K : PySem.W.Frag} {mg : Str → Option Value} {base : Heap}
variable {C PE cL cC cN : Addr}
abbrev sQCutsAll : Stmt := topS 9
theorem scQCutsAll : FnScope ["thing", "lines", "many", "line"] ["thing", "lines"] (defScope sQCutsAll) := ⟨rfl, rfl, rfl, by decide +kernel, rfl, by decide +kernel, by decide +kernel⟩
theorem ok_QCutsAll {f : Addr} {fd : FuncData} (F : Fun K "_cuts_all" "_cuts_all" sQCutsAll f fd) {fPNumber : Addr} {fdPNumber : FuncData} (DPNumber : Dk P w K mg base "is_number" sPNumber ["thing"] 1 spNum fPNumber fdPNumber) (T : Glob mg) : FnOk P w K mg base CX0 2 f fd ["thing", "lines"] spCutsAll := by
  refine F.ok scQCutsAll (fun vs H Q E h => ?_) (fun cdv A outer s H vs Q E hr h => ?_)
  · obtain ⟨x, k, b, ws, c, rfl, _⟩ := h
    rfl
  · refine ⟨_, (pss_cons (ps_if (PW.pt (pw_or (pt_not (pt_val (pe_callB call_isi (by rfl) T.isinstance PyProof.Rows.boot_isinstance (pa_cons (pv 0) (pa_cons (pe_bltn (v := .ty "tuple") (by rfl) T.tuple (by decide +kernel) rfl) pa_nil))))) (pw_or1 (pt_cmpR op_ne (pe_callB call_len_seq (by rfl) T.len PySem.boot_len (pa_cons (pv 0) pa_nil)) (pe_callB call_len_seq (by rfl) T.len PySem.boot_len (pa_cons (pv 1) pa_nil)) (nomark _)))))
      (pss_one (ps_ret pe_bl))
      pss_nil)
      (pss_one (ps_ret (pe_callB (cr_all rfl) (by rfl) T.all (by decide +kernel) (pa_cons (pe_lc (own := [("many", 2), ("line", 3)]) (g := (gTup K 2 (gCons (gName 2) (gCons (gName 3) gNil)))) (by rfl) scQCutsAll.nd (pi_zipS (by rfl) T.zip (pa_cons (pv 0) (pa_cons (pv 1) pa_nil))) (blkOk_by (N := ["thing", "lines", "many", "line"]) (sc := defScope sQCutsAll) (by decide +kernel)) (fun _ _ _ _ _ => pg_tup (by rfl) (pgs_cons (pg_name (i := 2) scQCutsAll.nd rfl (.inl rfl)) (pgs_cons (pg_name (i := 3) scQCutsAll.nd rfl (.inl rfl)) pgs_nil))) (fun _ _ _ _ _ => pts_nil) (fun _ _ _ _ _ => (pe_and (pe_call DPNumber.ok (hr.mono (by decide)) (by rfl) DPNumber.g DPNumber.F.kp DPNumber.b .nil pass0 (pa_cons (pv 2) pa_nil)) (pe_one (pe_cmpR op_le (pv 2) (pe_callB call_lenZ (by rfl) T.len PySem.boot_len (pa_cons (pv 3) pa_nil)) (nomark _)))))) pa_nil))))), ?_⟩
    obtain ⟨x, k, b, ws, c, rfl, hb, few, lens, ⟨hk, no, tp⟩, q⟩ := h
    have sz : sizeLine = 16777216 := sizeLine_eq
    by_cases nk : k = .tup
    case neg =>
      have e := no nk
      subst e
      exact ⟨x, rfl, x, .ty "tuple", .type (Kn.name k), .type "tuple", false, rfl, .ty _, Kd.tyx hk, kit_no nk, _, rfl, iteT (q _ (Same.refl H))⟩
    subst nk
    cases hk with
    | @tup a xs ha =>
    obtain ⟨⟨fx, fl⟩, e⟩ := tp a xs rfl ha
    refine ⟨.ref a, rfl, .ref a, .ty "tuple", .type (Kn.name .tup), .type "tuple", kitB .tup .tup, rfl, .ty _, Kd.tyx (.tup ha), kit_kn .tup .tup, _, rfl, iteF ?_⟩
    refine ⟨.ref a, rfl, a, _, rfl, .inr (SqT.of ha), .ref b, rfl, b, _, rfl, .inl (sq_of hb), rfl, _, rfl, ?_⟩
    have lw : (lv ws).length = ws.length := List.length_map ..
    by_cases el : xs.length = ws.length
    case neg =>
      have ne : ¬ V.int (xs.length : Int) = V.int ((lv ws).length : Int) := fun z => el (by have := V.int.inj z; omega)
      rw [decide_eq_false ne]
      refine iteT ?_
      have e2 : c = false := by
        rw [e]
        unfold cutB
        rw [decide_eq_false el, Bool.false_and]
      rw [← e2]
      exact q _ (Same.refl H)
    have ee : V.int (xs.length : Int) = V.int ((lv ws).length : Int) := by rw [el, lw]
    rw [decide_eq_true ee]
    refine iteF ?_
    dsimp only [tNext, tDrop]
    refine ⟨.ref a, rfl, .ref b, rfl, .tup a, .lst b, xs, lv ws, rfl, SqT.of ha, sq_of hb, fun D nD => lc_it (walk_zipS (K := K) (k1 := .tup a) (k2 := .lst b) (xs := xs) (ys := lv ws) (n := (xs.zip ws).length) (by rw [List.length_zip, lw])) (fun i H' => Same H H' ∧ H' D = some (.lst ((((xs.zip ws).take i).map fun p => inV2 0 ((p.2.length : Nat) : Int) p.1).map V.bl))) ⟨Same.new nD, upd_same⟩ (fun i H' _ g => ⟨SqT.of (g.1 _ _ ha), sq_of (g.1 _ _ hb)⟩) ?_ ?_⟩
    · rintro i v H3 H4 hi ⟨k3, hD⟩ ⟨t, y1, y2, rfl, nt, rfl, e1, e2⟩
      dsimp only at e1 e2
      have kt := Same.new (H := H3) (o := .tup [y1, y2]) nt
      obtain ⟨z, ez, rfl⟩ := Option.map_eq_some_iff.mp ((List.getElem?_map (f := V.str) (l := ws) (i := i)).symm.trans e2)
      have epz : (xs.zip ws)[i]? = some (y1, z) := List.getElem?_zip_eq_some.mpr ⟨e1, ez⟩
      have lz := lens z (List.mem_of_getElem? ez)
      have put : upd (upd H3 t (.tup [y1, .str z])) D (.lst ((((xs.zip ws).take i).map fun p => inV2 0 ((p.2.length : Nat) : Int) p.1).map V.bl ++ [V.bl (inV2 0 ((z.length : Nat) : Int) y1)])) D = some (.lst ((((xs.zip ws).take (i + 1)).map fun p => inV2 0 ((p.2.length : Nat) : Int) p.1).map V.bl)) := by
        rw [upd_same, List.take_succ, epz, Option.toList_some, List.map_append, List.map_append]
        rfl
      have fw : ((((xs.zip ws).take i).map fun p => inV2 0 ((p.2.length : Nat) : Int) p.1).map V.bl).length < sizeLine := by
        rw [List.length_map, List.length_map, List.length_take, List.length_zip]
        omega
      rcases fl y1 (List.mem_of_getElem? e1) with ⟨m, rfl⟩ | ⟨g, rfl⟩
      · refine ⟨t, _, rfl, SqT.of upd_same, rfl, _, _, rfl, _, [], rfl, rfl, rfl, .int m, rfl, .int m, .int, rfl, .int m, _, rfl, ite2 (fun e => ?_) (fun e => ?_)⟩
        · have e : decide (0 ≤ m) = true := e
          refine ⟨.int m, rfl, .str z, rfl, z, rfl, len5 (by omega), _, _, rfl, rfl, _, kt _ _ hD, fw, sameAt (k3.trans kt) nD, ?_⟩
          have y := put
          rw [show inV2 0 ((z.length : Nat) : Int) (.int m) = (decide (0 ≤ m) && decide (m ≤ ((z.length : Nat) : Int))) from rfl, e, Bool.true_and] at y
          exact y
        · have e : ¬ decide (0 ≤ m) = true := e
          have e : decide (0 ≤ m) = false := by simpa using e
          have y := put
          rw [show inV2 0 ((z.length : Nat) : Int) (.int m) = (decide (0 ≤ m) && decide (m ≤ ((z.length : Nat) : Int))) from rfl, e, Bool.false_and] at y
          exact ⟨_, kt _ _ hD, fw, sameAt (k3.trans kt) nD, y⟩
      · exact ⟨t, _, rfl, SqT.of upd_same, rfl, _, _, rfl, _, [], rfl, rfl, rfl, .bl g, rfl, .bl g, .bl, rfl, .bl g, _, rfl, iteF ⟨_, kt _ _ hD, fw, sameAt (k3.trans kt) nD, put⟩⟩
    · rintro H3 ⟨k3, hD⟩
      rw [List.take_length] at hD
      refine ⟨D, (xs.zip ws).map fun p => inV2 0 ((p.2.length : Nat) : Int) p.1, rfl, sq_of hD, ?_⟩
      have e2 : c = (xs.zip ws).all fun p => inV2 0 ((p.2.length : Nat) : Int) p.1 := by
        rw [e]
        unfold cutB
        rw [decide_eq_true el, Bool.true_and]
      rw [List.all_map]
      rw [e2] at q
      exact q _ k3
abbrev sDCut : Stmt := inClass (topS 10) 5
theorem scDCut : FnScope ["self", "kept", "waiting", "line", "many"] ["self", "kept"] (defScope sDCut) := ⟨rfl, rfl, rfl, by decide +kernel, rfl, by decide +kernel, by decide +kernel⟩
theorem ok_DCut {f : Addr} {fd : FuncData} (F : Fun K "cut" "Disk.cut" sDCut f fd) (B : DskB K mg C) (ENoCut : Cls0 P K mg PE "NoCut" cC) {fQCutsAll : Addr} {fdQCutsAll : FuncData} (DQCutsAll : Dk P w K mg base "_cuts_all" sQCutsAll ["thing", "lines"] 2 spCutsAll fQCutsAll fdQCutsAll) (T : Glob mg) : FnOk P w K mg base (L2.CX P w) 3 f fd ["self", "kept"] (spDCut C cC) := by
  obtain ⟨fW, SNoCut⟩ := ENoCut.sup
  refine F.okX scDCut (fun vs H Q E h => ?_) (fun cdv A outer s H vs Q E hr h => ?_)
  · obtain ⟨d, a, ls, n, x, k, c, rfl, _⟩ := h
    rfl
  · refine ⟨_, (pss_cons (ps_set (i := 2) scDCut.nd rfl (.inl rfl) (pe_slice sl_list (pe_fld (pv 0) rfl) (po_some (pe_fld (pv 0) rfl)) po_none))
      (pss_cons (ps_if (pt_not (pt_val (pe_call DQCutsAll.ok (hr.mono (by decide)) (by rfl) DQCutsAll.g DQCutsAll.F.kp DQCutsAll.b .nil pass0 (pa_cons (pv 1) (pa_cons (pv 2) pa_nil)))))
      (pss_one (ps_raise rfl (takes_of rfl rfl rfl rfl) (pmk_exc0 SNoCut hr (by rfl) ENoCut.g)))
      pss_nil)
      (pss_cons (ps_asg (pe_lc (own := [("line", 3), ("many", 4)]) (g := (gTup K 2 (gCons (gName 3) (gCons (gName 4) gNil)))) (by rfl) scDCut.nd (pi_zipS (by rfl) T.zip (pa_cons (pv 2) (pa_cons (pv 1) pa_nil))) (blkOk_by (N := ["self", "kept", "waiting", "line", "many"]) (sc := defScope sDCut) (by decide +kernel)) (fun _ _ _ _ _ => pg_tup (by rfl) (pgs_cons (pg_name (i := 3) scDCut.nd rfl (.inl rfl)) (pgs_cons (pg_name (i := 4) scDCut.nd rfl (.inl rfl)) pgs_nil))) (fun _ _ _ _ _ => pts_nil) (fun _ _ _ _ _ => (pe_slice sl_str (pv 3) po_none (po_some (pv 4))))) (Ev.pg_tail (pe_fld (pv 0) rfl) (po_some (pe_fld (pv 0) rfl)) po_none))
      (pss_one (ps_fld (pv 0) (pe_callB call_len_seq (by rfl) T.len PySem.boot_len (pa_cons (pe_fld (pv 0) rfl) pa_nil)) rfl))))), ?_⟩
    obtain ⟨d, a, ls, n, x, k, c, rfl, hD, hx, q0, q⟩ := h
    have sz : sizeLine = 16777216 := sizeLine_eq
    obtain ⟨dx, ed⟩ := hD.ob
    have ea := hD.at_
    have nda := hD.ne
    have few := hD.few
    have ln := hD.le
    refine ⟨.ref d, rfl, d, C, dx, _, .ref a, rfl, ed, B.cl, B.n1, lkL, .ref d, rfl, d, C, dx, _, .int (n : Nat), rfl, ed, B.cl, B.n2, lkS, (n : Int), rfl, a, _, rfl, sq_of ea, fun W nW => ?_⟩
    have eW : upd H W (.lst (cutV (lv ls) (some (n : Int)) none)) W = some (.lst (lv (ls.drop n))) := by
      rw [upd_same, cutV_from (by omega)]
      rw [lv_drop, Int.toNat_natCast]
    have kW := Same.new (o := .lst (cutV (lv ls) (some (n : Int)) none)) nW
    revert eW kW
    generalize upd H W (.lst (cutV (lv ls) (some (n : Int)) none)) = H1
    intro eW kW
    have hD1 := hD.same kW
    have hx1 : CuX H1 x k (ls.drop n) c := ⟨hx.kd.same kW, hx.no, fun b xs e hb => by
      have kd := hx.kd
      subst e
      cases kd with
      | tup e2 => have := kW _ _ e2; rw [hb] at this; cases this; exact hx.tup b xs rfl e2
      | lst e2 => have := kW _ _ e2; rw [hb] at this; cases this
      | dic e2 => have := kW _ _ e2; rw [hb] at this; cases this⟩
    dsimp only [tSeq, gName]
    refine ⟨x, rfl, .ref W, rfl, x, k, W, ls.drop n, c, rfl, eW, by rw [List.length_drop]; omega, fun z hz => hD.len z (List.mem_of_mem_drop hz), hx1, fun H2 k2 => ⟨_, rfl, ?_⟩⟩
    cases hc : c with
    | false => exact iteT (q0 hc H2 (kW.trans k2))
    | true =>
      have ek : k = .tup := Classical.byContradiction fun z => by
        have := hx.no z
        rw [hc] at this
        cases this
      subst ek
      have kd := hx.kd
      cases kd with
      | @tup b xs hb =>
      obtain ⟨⟨fx, fl⟩, e⟩ := hx.tup b xs rfl hb
      rw [hc] at e
      obtain ⟨c1, c2⟩ := Bool.and_eq_true_iff.mp e.symm
      have c1 := of_decide_eq_true c1
      refine iteF ?_
      dsimp only [tNext, tDrop, tAsg, tSeq]
      have k02 := kW.trans k2
      have hb2 := k02 _ _ hb
      have eW2 := k2 _ _ eW
      have lw : (lv (ls.drop n)).length = (ls.drop n).length := List.length_map ..
      refine ⟨.ref W, rfl, .ref b, rfl, .lst W, .tup b, lv (ls.drop n), xs, rfl, sq_of eW2, SqT.of hb2, fun D nD => lc_it (walk_zipS (K := K) (k1 := .lst W) (k2 := .tup b) (xs := lv (ls.drop n)) (ys := xs) (n := ((ls.drop n).zip xs).length) (by rw [List.length_zip, lw])) (fun i H' => Same H2 H' ∧ H' D = some (.lst (lv ((((ls.drop n).zip xs).take i).map fun p => cutTo p.1 p.2)))) ⟨Same.new nD, upd_same⟩ (fun i H' _ g => ⟨sq_of (g.1 _ _ eW2), SqT.of (g.1 _ _ hb2)⟩) ?_ ?_⟩
      · rintro i v H3 H4 hi ⟨k3, hD3⟩ ⟨t, y1, y2, rfl, nt, rfl, e1, e2⟩
        dsimp only at e1 e2
        have kt := Same.new (H := H3) (o := .tup [y1, y2]) nt
        obtain ⟨z, ez, rfl⟩ := Option.map_eq_some_iff.mp ((List.getElem?_map (f := V.str) (l := ls.drop n) (i := i)).symm.trans e1)
        have epz : ((ls.drop n).zip xs)[i]? = some (z, y2) := List.getElem?_zip_eq_some.mpr ⟨ez, e2⟩
        have epx : (xs.zip (ls.drop n))[i]? = some (y2, z) := List.getElem?_zip_eq_some.mpr ⟨e2, ez⟩
        have iv := List.all_eq_true.mp c2 _ (List.mem_of_getElem? epx)
        obtain ⟨m, rfl, m0⟩ : ∃ m : Int, y2 = .int m ∧ 0 ≤ m := by
          cases y2 with
          | int m => exact ⟨m, rfl, of_decide_eq_true (Bool.and_eq_true_iff.mp (show (decide (0 ≤ m) && _) = true from iv)).1⟩
          | _ => exact Bool.noConfusion iv
        have lz := hD.len z (List.mem_of_mem_drop (List.mem_of_getElem? ez))
        refine ⟨t, _, rfl, SqT.of upd_same, rfl, _, _, rfl, _, [], rfl, rfl, rfl, .str z, rfl, .int m, rfl, m, rfl, z, rfl, len5 (by omega), _, kt _ _ hD3, ?_, sameAt (k3.trans kt) nD, ?_⟩
        · rw [List.length_map, List.length_map, List.length_take, List.length_zip, List.length_drop]
          omega
        · rw [upd_same, List.take_succ, epz, Option.toList_some, List.map_append]
          exact congrArg (fun l => some (HO.lst l)) (lv_snoc _ _).symm
      · rintro H3 ⟨k3, hD3⟩
        rw [List.take_length] at hD3
        have k03 := k02.trans k3
        have hd3 := hD.same k03
        obtain ⟨dx3, ed3⟩ := hd3.ob
        have ea3 := hd3.at_
        have na : a ≠ D := fun z => by
          have := k02 _ _ ea
          rw [z, nD] at this
          cases this
        have lc : (cutL (ls.drop n) xs).length = ls.length - n := by
          unfold cutL
          rw [List.length_map, List.length_zip, List.length_drop, c1, List.length_drop]
          omega
        refine ⟨.ref d, rfl, d, C, dx3, _, .ref a, rfl, ed3, B.cl, B.n1, lkL, .ref d, rfl, d, C, dx3, _, .int (n : Nat), rfl, ed3, B.cl, B.n2, lkS, (n : Int), rfl, a, D, lv ls, lv (cutL (ls.drop n) xs), n, rfl, rfl, rfl, rfl, ea3, hD3, na, by rw [List.length_map]; exact ln, by rw [List.length_map, List.length_map, lc]; omega, ?_⟩
        have et : Ev.tailV (lv ls) (lv (cutL (ls.drop n) xs)) n = lv (ls.take n ++ cutL (ls.drop n) xs) := by
          unfold Ev.tailV
          rw [List.drop_length, List.append_nil, lv_app, lv_take]
        rw [et]
        have ed4 : upd H3 a (.lst (lv (ls.take n ++ cutL (ls.drop n) xs))) d = some (.ins C dx3 [("_lines", .ref a), ("_synced", .int (n : Nat))]) := by
          rw [upd_ne nda]
          exact ed3
        have lt : (ls.take n ++ cutL (ls.drop n) xs).length = ls.length := by
          rw [List.length_append, lc, List.length_take]
          omega
        refine ⟨.ref d, rfl, d, C, dx3, _, .ref a, rfl, ed4, B.cl, B.n1, lkL, a, _, rfl, .inl (sq_of upd_same), .ref d, rfl, d, C, dx3, _, rfl, ed4, B.cl, B.n2, by show 2 < 1000; decide, ?_⟩
        refine q b xs _ hc rfl hb ⟨⟨dx3, ?_⟩, ?_, by rw [lt]; exact Nat.le_refl _, by rw [lt]; exact few, fun z hz => ?_⟩ ?_
        · rw [upd_same, putS, List.length_map, lt]
        · rw [upd_ne (Ne.symm nda), upd_same]
        · rcases List.mem_append.mp hz with hz | hz
          · exact hD.len z (List.mem_of_mem_take hz)
          · obtain ⟨p, hp, rfl⟩ := List.mem_map.mp hz
            obtain ⟨h1, h2⟩ := List.of_mem_zip hp
            have iv : inV2 0 ((p.1.length : Nat) : Int) p.2 = true := by
              obtain ⟨i, ei⟩ := List.getElem?_of_mem hp
              obtain ⟨f1, f2⟩ := List.getElem?_zip_eq_some.mp ei
              exact List.all_eq_true.mp c2 (p.2, p.1) (List.mem_of_getElem? (List.getElem?_zip_eq_some.mpr ⟨f2, f1⟩))
            obtain ⟨y, z2⟩ := p
            cases z2 with
            | int m => exact cutTo_len (of_decide_eq_true (Bool.and_eq_true_iff.mp (show (decide (0 ≤ m) && _) = true from iv)).1) (hD.len y (List.mem_of_mem_drop h1))
            | _ => exact Bool.noConfusion iv
        · exact ((ButS.of k03).upd (by simp)).upd (by simp)
end
end LawK
set_option maxHeartbeats 4000000
namespace LawK
open PySem PySem.Spec PyProof.Rows L2 Ev
section
variable {P : Program} {w : World} {K : PySem.W.Frag} {mg : Str → Option Value} {base : Heap}
variable {C PE cL cC cN : Addr}
abbrev sDDrop : Stmt := inClass (topS 10) 6
theorem scDDrop : FnScope ["self", "number"] ["self", "number"] (defScope sDDrop) := ⟨rfl, rfl, rfl, by decide +kernel, rfl, by decide +kernel, by decide +kernel⟩
theorem ok_DDrop {f : Addr} {fd : FuncData} (F : Fun K "drop" "Disk.drop" sDDrop f fd) (B : DskB K mg C) (ENoNumber : Cls0 P K mg PE "NoNumber" cN) {fPNumber : Addr} {fdPNumber : FuncData} (DPNumber : Dk P w K mg base "is_number" sPNumber ["thing"] 1 spNum fPNumber fdPNumber) (T : Glob mg) : FnOk P w K mg base (L2.CX P w) 2 f fd ["self", "number"] (spDDrop C cN) := by
  obtain ⟨fW, SNoNumber⟩ := ENoNumber.sup
  refine F.okX scDDrop (fun vs H Q E h => ?_) (fun cdv A outer s H vs Q E hr h => ?_)
  · obtain ⟨d, a, ls, n, x, k, rfl, _⟩ := h
    rfl
  · refine ⟨_, (pss_cons (ps_if (PW.pt (pw_or (pt_not (pt_val (pe_call DPNumber.ok (hr.mono (by decide)) (by rfl) DPNumber.g DPNumber.F.kp DPNumber.b .nil pass0 (pa_cons (pv 1) pa_nil)))) (pw_or1 (pt_cmpR op_gt (pv 1) (pe_callB call_len_seq (by rfl) T.len PySem.boot_len (pa_cons (pe_fld (pv 0) rfl) pa_nil)) (nomark _)))))
      (pss_one (ps_raise rfl (takes_of rfl rfl rfl rfl) (pmk_exc0 SNoNumber hr (by rfl) ENoNumber.g)))
      pss_nil)
      (pss_cons (ps_fld (pv 0) (pe_slice sl_list (pe_fld (pv 0) rfl) po_none (po_some (pv 1))) rfl)
      (pss_one (ps_fld (pv 0) (pe_callB (call_min2 rfl) (by rfl) T.min (by decide +kernel) (pa_cons (pe_fld (pv 0) rfl) (pa_cons (pv 1) pa_nil))) rfl)))), ?_⟩
    obtain ⟨d, a, ls, n, x, k, rfl, hD, hk, q0, q⟩ := h
    obtain ⟨dx, ed⟩ := hD.ob
    have ea := hD.at_
    have nda := hD.ne
    refine ⟨x, rfl, x, k, rfl, hk, _, rfl, ?_⟩
    cases hk with
    | int i =>
      cases c : decide (0 ≤ i) with
      | false =>
        rw [show numV (.int i) = false from c]
        refine iteT (q0 ?_)
        show (decide (0 ≤ i) && _) = false
        rw [c, Bool.false_and]
      | true =>
        rw [show numV (.int i) = true from c]
        obtain ⟨m, rfl⟩ := Int.eq_ofNat_of_zero_le (of_decide_eq_true c)
        have ll : (lv ls).length = ls.length := List.length_map ..
        refine iteF ⟨.int (m : Nat), rfl, .ref d, rfl, d, C, dx, _, .ref a, rfl, ed, B.cl, B.n1, lkL, a, _, rfl, .inl (sq_of ea), _, _, rfl, rfl, _, rfl, ite2 (fun e => ?_) (fun e => ?_)⟩
        · have e := of_decide_eq_true e
          refine q0 ?_
          show (decide ((0 : Int) ≤ (m : Int)) && decide ((m : Int) ≤ ((ls.length : Nat) : Int))) = false
          rw [decide_eq_false (show ¬ (m : Int) ≤ ((ls.length : Nat) : Int) by omega), Bool.and_false]
        · have e : ¬ (((lv ls).length : Nat) : Int) < (m : Int) := fun z => e (decide_eq_true z)
          dsimp only [tNext, tDrop, tSeq]
          refine ⟨.ref d, rfl, d, C, dx, _, .ref a, rfl, ed, B.cl, B.n1, lkL, .int (m : Nat), rfl, (m : Int), rfl, a, _, rfl, sq_of ea, fun b nb => ?_⟩
          have ndb : d ≠ b := fun z => by rw [← z, ed] at nb; cases nb
          have eb : upd H b (.lst (cutV (lv ls) none (some (m : Int)))) b = some (.lst (lv (ls.take m))) := by
            rw [upd_same, cutV_to (by omega), lv_take, Int.toNat_natCast]
          have kb := Same.new (o := .lst (cutV (lv ls) none (some (m : Int)))) nb
          have ed1 := kb _ _ ed
          refine ⟨.ref d, rfl, d, C, dx, _, rfl, ed1, B.cl, B.n1, by show 2 < 1000; decide, ?_⟩
          rw [putL]
          refine ⟨.ref d, rfl, d, C, dx, _, .int (n : Nat), rfl, upd_same, B.cl, B.n2, lkS, .int (m : Nat), rfl, _, _, rfl, .ref d, rfl, d, C, dx, _, rfl, upd_same, B.cl, B.n2, by show 2 < 1000; decide, ?_⟩
          rw [putS]
          have em : (if (m : Int) < (n : Int) then (m : Int) else (n : Int)) = ((min n m : Nat) : Int) := by
            split <;> omega
          rw [em]
          refine q m b _ rfl (by omega) nb ⟨⟨dx, upd_same⟩, ?_, ?_, ?_, fun z hz => hD.len z (List.mem_of_mem_take hz)⟩ ((((ButS.refl [d] H).new nb).upd (by simp)).upd (by simp))
          · rw [upd_ne (Ne.symm ndb), upd_ne (Ne.symm ndb)]
            exact eb
          · rw [List.length_take]
            have := hD.le
            omega
          · rw [List.length_take]
            have := hD.few
            omega
    | bl b => exact iteT (q0 rfl)
    | str z => exact iteT (q0 rfl)
    | non => exact iteT (q0 rfl)
    | lst e => exact iteT (q0 rfl)
    | tup e => exact iteT (q0 rfl)
    | dic e => exact iteT (q0 rfl)
abbrev sDCopy : Stmt := inClass (topS 10) 7
theorem scDCopy : FnScope ["self", "other"] ["self"] (defScope sDCopy) := ⟨rfl, rfl, rfl, by decide +kernel, rfl, by decide +kernel, by decide +kernel⟩
theorem ok_DCopy {f fI : Addr} {fd fdI : FuncData} (F : Fun K "copy" "Disk.copy" sDCopy f fd) (B : DskB K mg C) (M : Mk K C fI) (bI : Binds K fdI ["self"] []) (GI : FnOk P w K mg base CX0 1 fI fdI ["self"] (spDInit C)) (T : Glob mg) : FnOk P w K mg base CX0 3 f fd ["self"] (spDCopy C) := by
  refine F.ok scDCopy (fun vs H Q E h => ?_) (fun cdv A outer s H vs Q E hr h => ?_)
  · obtain ⟨d, a, ls, n, rfl, _⟩ := h
    rfl
  · refine ⟨_, (pss_cons (ps_set (i := 1) scDCopy.nd rfl (.inl rfl) (pe_make0 M GI (hr.mono (by decide)) (by rfl) B.g bI .nil pass0))
      (pss_cons (ps_fld (pv 1) (pe_callTy call_list_of (by rfl) T.list (by decide +kernel) (pa_cons (pe_fld (pv 0) rfl) pa_nil)) rfl)
      (pss_cons (ps_fld (pv 1) (pe_fld (pv 0) rfl) rfl)
      (pss_one (ps_ret (pv 1)))))), ?_⟩
    obtain ⟨d, a, ls, n, rfl, hD, q⟩ := h
    obtain ⟨dx, ed⟩ := hD.ob
    have ea := hD.at_
    refine fun o ox no nx nox => ⟨o, ox, rfl, upd_same, fun a0 H1 na0 h1 b1 => ⟨rfl, ?_⟩⟩
    have kx := Same.new (o := .own o) nx
    have no2 : upd H ox (.own o) o = none := by
      rw [upd_ne (Ne.symm nox)]
      exact no
    have ko := kx.trans (Same.new (o := .ins C ox []) no2)
    have k1 : Same H H1 := fun b u e => b1 b u (fun z => by rw [List.mem_singleton.mp z, no] at e; cases e) (ko _ _ e)
    have hD1 := hD.same k1
    obtain ⟨dx1, ed1⟩ := hD1.ob
    obtain ⟨ox1, eo1⟩ := h1.ob
    have ea1 := hD1.at_
    have nod : o ≠ d := fun z => by rw [z, ed] at no; cases no
    dsimp only [tSeq, gName]
    refine ⟨.ref d, rfl, d, C, dx1, _, .ref a, rfl, ed1, B.cl, B.n1, lkL, a, _, rfl, .inl (sq_of ea1), fun b nb => ?_⟩
    have nb1 : H b = none := Same.free k1 nb
    have nob : o ≠ b := fun z => by rw [← z, eo1] at nb; cases nb
    have kb := Same.new (o := .lst (lv ls)) nb
    refine ⟨.ref o, rfl, o, C, ox1, _, rfl, kb _ _ eo1, B.cl, B.n1, by show 2 < 1000; decide, ?_⟩
    rw [putL]
    have ed2 : upd (upd H1 b (.lst (lv ls))) o (.ins C ox1 [("_lines", .ref b), ("_synced", .int ((0 : Nat) : Int))]) d = some (.ins C dx1 [("_lines", .ref a), ("_synced", .int (n : Nat))]) := by
      rw [upd_ne (Ne.symm nod)]
      exact kb _ _ ed1
    refine ⟨.ref d, rfl, d, C, dx1, _, .int (n : Nat), rfl, ed2, B.cl, B.n2, lkS, .ref o, rfl, o, C, ox1, _, rfl, upd_same, B.cl, B.n2, by show 2 < 1000; decide, ?_⟩
    rw [putS]
    refine ⟨_, rfl, q o b _ ?_ no nb1 ⟨⟨ox1, upd_same⟩, ?_, hD.le, hD.few, hD.len⟩⟩
    · intro c u e
      have nc : c ≠ o := fun z => by rw [z, no] at e; cases e
      rw [upd_ne nc, upd_ne nc]
      exact kb _ _ (k1 _ _ e)
    · rw [upd_ne (Ne.symm nob), upd_ne (Ne.symm nob), upd_same]
end
end LawK
set_option maxHeartbeats 4000000
/-! Where a text stands in another within bounds; a text so many times. -/
namespace Ev
open PySem PySem.Spec PyProof.Rows L2 PySem.Builtin.Str
theorem occ_size {x y : Str} {hi lim : Nat} : ∀ (l : List Nat) (a : Array Nat) (k : Nat), 0 < a.size → 0 < ((forIn (m := Id) l (a, k) (StrLaws.occBody x y hi lim)).run.fst).size := by
  intro l
  induction l with
  | nil => intro a k h; exact h
  | cons i r ih =>
    intro a k h
    simp only [List.forIn_cons, StrLaws.occBody]
    split
    · exact ih _ _ (by rw [Array.size_push]; omega)
    · exact ih _ _ h
theorem occ_some {x y : Str} {lo hi i : Nat} (h0 : lo ≤ i) (h1 : i + y.length ≤ hi) (h2 : subAt x y i = true) : occurrences x y lo hi 1 ≠ [] := by
  rw [StrLaws.occ_eq]
  have hm : i ∈ List.range' lo (hi + 1 - lo) := by
    rw [List.mem_range'_1]
    omega
  have hlo : ∀ j ∈ List.range' lo (hi + 1 - lo), lo ≤ j := fun j hj => (List.mem_range'_1.mp hj).1
  revert hm hlo
  generalize List.range' lo (hi + 1 - lo) = l
  suffices H : ∀ (l : List Nat), i ∈ l → (∀ j ∈ l, lo ≤ j) → 0 < ((forIn (m := Id) l ((#[] : Array Nat), lo) (StrLaws.occBody x y hi 1)).run.fst).size by
    intro hm hlo e
    have := H l hm hlo
    rw [← Array.length_toList, e] at this
    exact absurd this (by simp)
  intro l
  induction l with
  | nil => intro h; cases h
  | cons j r ih =>
    intro hm hlo
    simp only [List.forIn_cons, StrLaws.occBody]
    split
    · exact occ_size r _ _ (by rw [Array.size_push]; omega)
    · rename_i hn
      refine ih ?_ (fun j hj => hlo j (List.mem_cons_of_mem _ hj))
      rcases List.mem_cons.mp hm with e | e
      · subst e
        exact absurd ⟨⟨⟨by decide, hlo i (List.mem_cons_self ..)⟩, h1⟩, h2⟩ hn
      · exact e
theorem subAt_iff {x y : Str} {k : Nat} : subAt x y k = true ↔ (x.cps.toList.drop k).take y.length = y.cps.toList := by
  unfold subAt
  rw [beq_iff_eq, ← Array.toList_inj, Array.toList_extract, List.extract_eq_take_drop]
  have : k + y.length - k = y.length := by omega
  rw [this]
/-- the place of y in x ahead of j, or -1 -/
theorem findIn_of {x y : Str} {j : Int} (h : 0 ≤ j) : (∃ k : Nat, Txt.findIn x y 0 j = (k : Int) ∧ (k : Int) + (y.length : Int) ≤ j ∧ (x.cps.toList.drop k).take y.length = y.cps.toList) ∨
    (Txt.findIn x y 0 j = -1 ∧ ∀ k : Nat, (k : Int) + (y.length : Int) ≤ j → k + y.length ≤ x.length → (x.cps.toList.drop k).take y.length ≠ y.cps.toList) := by
  unfold Txt.findIn
  have e0 : fromIndex x.length 0 = 0 := rfl
  have e1 : toIndexW x.length j = min j.toNat x.length := by
    unfold toIndexW
    rw [if_neg (by omega), Int.max_eq_right h]
  rw [e0, e1]
  cases e : occurrences x y 0 (min j.toNat x.length) 1 with
  | nil =>
    refine .inr ⟨rfl, fun k h1 h2 h3 => ?_⟩
    exact occ_some (Nat.zero_le k) (by omega) (subAt_iff.mpr h3) e
  | cons k r =>
    have := StrLaws.occ_spec x y 0 (min j.toNat x.length) 1 k (by rw [e]; exact List.mem_cons_self ..)
    exact .inl ⟨k, rfl, by omega, subAt_iff.mp this.2⟩
theorem fold_rep (x : Array Nat) : ∀ (n : Nat) (acc : Array Nat), ((List.replicate n x).foldl (· ++ ·) acc).toList = acc.toList ++ (List.replicate n x.toList).flatten
  | 0, acc => by simp
  | n + 1, acc => by
    rw [List.replicate_succ, List.foldl_cons, fold_rep x n, Array.toList_append, List.replicate_succ, List.flatten_cons, List.append_assoc]
theorem mul_list {z : Str} {n : Int} (h : 0 ≤ n) : (Txt.mul z n).cps.toList = (List.replicate n.toNat z.cps.toList).flatten := by
  unfold Txt.mul
  by_cases h1 : n < 1
  · rw [if_pos h1]
    have : n.toNat = 0 := by omega
    rw [this]
    rfl
  · rw [if_neg h1]
    split
    · rename_i hc
      rw [Bool.or_eq_true, beq_iff_eq, beq_iff_eq] at hc
      rcases hc with e | e
      · rw [e]
        show _ = (List.replicate 1 _).flatten
        simp
      · have en : z.cps.toList = [] := List.eq_nil_of_length_eq_zero (by rw [← len_S]; exact e)
        rw [en]
        generalize n.toNat = m
        clear h h1
        induction m with
        | zero => rfl
        | succ m ih => rw [List.replicate_succ, List.flatten_cons, List.nil_append]; exact ih
    · show ((List.replicate n.toNat z.cps).foldl (· ++ ·) #[]).toList = _
      rw [fold_rep]
      rfl
theorem rep_at {l : List Nat} (hl : 0 < l.length) : ∀ (n i : Nat), i < n * l.length → ((List.replicate n l).flatten)[i]? = l[i % l.length]?
  | 0, i, h => by omega
  | n + 1, i, h => by
    rw [List.replicate_succ, List.flatten_cons]
    by_cases c : i < l.length
    · rw [List.getElem?_append_left c, Nat.mod_eq_of_lt c]
    · rw [List.getElem?_append_right (by omega), rep_at hl n (i - l.length) (by rw [Nat.succ_mul] at h; omega)]
      have e : i % l.length = (i - l.length) % l.length := Nat.mod_eq_sub_mod (by omega)
      rw [e]
theorem rep_len {l : List Nat} : ∀ (n : Nat), ((List.replicate n l).flatten).length = n * l.length
  | 0 => by simp
  | n + 1 => by rw [List.replicate_succ, List.flatten_cons, List.length_append, rep_len n, Nat.succ_mul]; omega
/-- a text so many times -/
def rMulL : R2 := fun x y H Q => ∃ (z : Str) (n : Int), x = .str z ∧ y = .int n ∧ 0 ≤ n ∧ n ≤ 3000 ∧ z.length ≤ 5000 ∧ Q (.str (Txt.mul z n)) H
theorem op_mulL {X : Cx} : OpR X (binaryOp .Mult) rMulL := by
  intro pins s σ H x y v u Q I rx ry h
  obtain ⟨z, n, rfl, rfl, h0, h1, h2, q⟩ := h
  obtain ⟨t, rfl⟩ := rx
  obtain ⟨t', rfl⟩ := ry
  exact SB.mul (mulOk_of 5000 3000 h2 h1 (by omega) (by decide) (by decide)) fun t' k => ⟨.str _, H, I.tok _, ⟨_, rfl⟩, q⟩
end Ev
set_option maxHeartbeats 4000000
namespace LawK
open PySem PySem.Spec PyProof.Rows L2 Ev
abbrev cod (z : Str) : List Nat := z.cps.toList
theorem cod_inj {x y : Str} (h : cod x = cod y) : x = y := by
  obtain ⟨a⟩ := x
  obtain ⟨b⟩ := y
  exact congrArg Str.mk (Array.toList_inj.mp h)
theorem cod_app (x y : Str) : cod (x ++ y) = cod x ++ cod y := Array.toList_append
/-- the figures of a number -/
def numZ (n : Nat) : Str := ((toString ((n : Nat) : Int) : String) : Str)
def numL (n : Nat) : List Nat := cod (numZ n)
theorem num_fact : ∀ n < 400, ((numL n).foldl (fun a c => 10 * a + (c - 48)) 0 == n && (numL n).all fun c => decide (48 ≤ c) && decide (c ≤ 57)) = true := by decide +kernel
theorem num_len : ∀ n < 400, (numL n).length ≤ 3 := by decide +kernel
theorem num_inj {n m : Nat} (hn : n < 400) (hm : m < 400) (h : numL n = numL m) : n = m := by
  have a := (Bool.and_eq_true_iff.mp (num_fact n hn)).1
  have b := (Bool.and_eq_true_iff.mp (num_fact m hm)).1
  rw [beq_iff_eq] at a b
  rw [← a, ← b, h]
theorem num_no {n : Nat} (hn : n < 400) : 58 ∉ numL n := fun h => by
  have a := List.all_eq_true.mp (Bool.and_eq_true_iff.mp (num_fact n hn)).2 58 h
  exact absurd a (by decide)
theorem num_sg {n : Nat} (hn : n < 400) : sgB (numZ n) = true := by
  have a := (Bool.and_eq_true_iff.mp (num_fact n hn)).2
  unfold sgB
  refine List.all_eq_true.mpr fun c hc => ?_
  have := List.all_eq_true.mp a c hc
  obtain ⟨h1, h2⟩ := Bool.and_eq_true_iff.mp this
  have h1 := of_decide_eq_true h1
  have h2 := of_decide_eq_true h2
  unfold sgC
  rw [decide_eq_true (by omega), decide_eq_true (by omega)]
  rfl
def recS (z : Str) : Str := numZ z.length ++ (":" : Str) ++ z
def recL (c : List Nat) : List Nat := numL c.length ++ 58 :: c
theorem rec_cod (z : Str) : cod (recS z) = recL (cod z) := by
  unfold recS recL
  rw [cod_app, cod_app, List.append_assoc]
  rfl
/-- the contents of a record -/
def contL (s : List Nat) : Option (List Nat) := match s.dropWhile (fun c => decide (c ≠ 58)) with
  | [] => none
  | _ :: c => if s.takeWhile (fun c => decide (c ≠ 58)) = numL c.length then some c else none
theorem cut58 : ∀ s : List Nat, (58 ∉ s) ∨ ∃ a c, s = a ++ 58 :: c ∧ 58 ∉ a
  | [] => .inl (by simp)
  | x :: s => by
    by_cases h : x = 58
    · subst h
      exact .inr ⟨[], s, rfl, by simp⟩
    · rcases cut58 s with h2 | ⟨a, c, e, h2⟩
      · exact .inl fun z => (List.mem_cons.mp z).elim (fun z => h z.symm) h2
      · exact .inr ⟨x :: a, c, by rw [e]; rfl, fun z => (List.mem_cons.mp z).elim (fun z => h z.symm) h2⟩
theorem tw_no : ∀ {s : List Nat}, 58 ∉ s → s.takeWhile (fun c => decide (c ≠ 58)) = s ∧ s.dropWhile (fun c => decide (c ≠ 58)) = []
  | [], _ => ⟨rfl, rfl⟩
  | x :: s, h => by
    have hx : decide (x ≠ 58) = true := decide_eq_true fun z => h (by rw [z]; exact List.mem_cons_self)
    obtain ⟨a, b⟩ := tw_no (s := s) fun z => h (List.mem_cons_of_mem _ z)
    rw [List.takeWhile_cons, List.dropWhile_cons, if_pos hx, if_pos hx, a, b]
    exact ⟨rfl, rfl⟩
theorem tw_at : ∀ {a : List Nat} {c : List Nat}, 58 ∉ a → (a ++ 58 :: c).takeWhile (fun c => decide (c ≠ 58)) = a ∧ (a ++ 58 :: c).dropWhile (fun c => decide (c ≠ 58)) = 58 :: c
  | [], c, _ => ⟨rfl, rfl⟩
  | x :: s, c, h => by
    have hx : decide (x ≠ 58) = true := decide_eq_true fun z => h (by rw [z]; exact List.mem_cons_self)
    obtain ⟨a, b⟩ := tw_at (a := s) (c := c) fun z => h (List.mem_cons_of_mem _ z)
    rw [List.cons_append, List.takeWhile_cons, List.dropWhile_cons, if_pos hx, if_pos hx, a, b]
    exact ⟨rfl, rfl⟩
theorem cont_no {s : List Nat} (h : 58 ∉ s) : contL s = none := by
  unfold contL
  rw [(tw_no h).2]
theorem cont_at {a c : List Nat} (h : 58 ∉ a) : contL (a ++ 58 :: c) = if a = numL c.length then some c else none := by
  unfold contL
  rw [(tw_at h).2, (tw_at h).1]
theorem cont_rec {c : List Nat} (l : c.length < 400) : contL (recL c) = some c := by
  unfold recL
  rw [cont_at (num_no l), if_pos rfl]
theorem cont_iff {s c : List Nat} (h : contL s = some c) : s = recL c := by
  rcases cut58 s with n | ⟨a, c', rfl, n⟩
  · rw [cont_no n] at h
    cases h
  · rw [cont_at n] at h
    by_cases e : a = numL c'.length
    · rw [if_pos e] at h
      cases h
      unfold recL
      rw [e]
    · rw [if_neg e] at h
      cases h
theorem cont_take {c : List Nat} (l : c.length < 390) {j : Nat} (hj : j < (recL c).length) : contL ((recL c).take j) = none := by
  cases h : contL ((recL c).take j) with
  | none => rfl
  | some c2 =>
    exfalso
    have e := cont_iff h
    have lt : ((recL c).take j).length = j := by rw [List.length_take]; omega
    obtain ⟨t, e2⟩ : ∃ t, recL c = recL c2 ++ t := ⟨(recL c).drop j, by
      have := List.take_append_drop j (recL c)
      rw [e] at this
      exact this.symm⟩
    have l2 : (recL c2).length = j := by rw [← e]; exact lt
    have l3 : (recL c2).length = (numL c2.length).length + (c2.length + 1) := by unfold recL; rw [List.length_append, List.length_cons]
    have l4 : (recL c).length = (numL c.length).length + (c.length + 1) := by unfold recL; rw [List.length_append, List.length_cons]
    have l5 := num_len c.length (by omega)
    have l6 : c2.length < 400 := by omega
    have t1 := (tw_at (c := c) (num_no (n := c.length) (by omega))).1
    have t2 : (recL c).takeWhile (fun c => decide (c ≠ 58)) = numL c.length := t1
    have t3 := (tw_at (c := c2 ++ t) (num_no l6)).1
    have e3 : recL c = numL c2.length ++ 58 :: (c2 ++ t) := by
      rw [e2]
      show numL c2.length ++ 58 :: c2 ++ t = _
      rw [List.append_assoc]
      rfl
    rw [← e3, t2] at t3
    have := num_inj (by omega) l6 t3
    rw [this] at l4
    omega
/-- what read_record gives -/
def conV (z : Str) : V := match contL (cod z) with
  | some c => .str (SX.S c)
  | none => .non
theorem at58 {x : Str} {i : Nat} : Builtin.Str.subAt x ":" i = true ↔ (cod x)[i]? = some 58 := by
  rw [subAt_iff]
  show ((cod x).drop i).take 1 = [58] ↔ _
  constructor
  · intro h
    cases e : (cod x).drop i with
    | nil => rw [e] at h; cases h
    | cons y r =>
      rw [e] at h
      have hy : y = 58 := by injection h
      have := congrArg (fun l => l[0]?) e
      simp only [List.getElem?_drop, Nat.add_zero] at this
      rw [this, hy]
      rfl
  · intro h
    have hl := (List.getElem?_eq_some_iff.mp h).1
    rw [List.drop_eq_getElem_cons hl, (List.getElem?_eq_some_iff.mp h).2]
    rfl
/-- where the first ":" stands -/
theorem occ58 (x : Str) : (58 ∉ cod x ∧ Builtin.Str.occurrences x ":" 0 x.length 1 = []) ∨ ∃ a c r, cod x = a ++ 58 :: c ∧ 58 ∉ a ∧ Builtin.Str.occurrences x ":" 0 x.length 1 = a.length :: r := by
  have lx : x.length = (cod x).length := rfl
  have l1 : (":" : Str).length = 1 := by decide
  rcases StrLaws.occ_head x ":" 1 (Nat.le_refl 1) with ⟨h1, h2⟩ | ⟨i, r, h1, h2, h3⟩
  · refine .inl ⟨fun m => ?_, h1⟩
    obtain ⟨i, hi⟩ := List.getElem?_of_mem m
    have hl := (List.getElem?_eq_some_iff.mp hi).1
    exact h2 i ⟨by rw [l1]; omega, at58.mpr hi⟩
  · refine .inr ⟨(cod x).take i, (cod x).drop (i + 1), r, ?_, fun m => ?_, ?_⟩
    · have hi := at58.mp h2.2
      have hl := (List.getElem?_eq_some_iff.mp hi).1
      have := List.take_append_drop i (cod x)
      rw [List.drop_eq_getElem_cons hl, (List.getElem?_eq_some_iff.mp hi).2] at this
      exact this.symm
    · obtain ⟨k, hk⟩ := List.getElem?_of_mem m
      have hkl := (List.getElem?_eq_some_iff.mp hk).1
      rw [List.length_take] at hkl
      rw [List.getElem?_take_of_lt (by omega)] at hk
      have hl := (List.getElem?_eq_some_iff.mp hk).1
      exact h3 k (by omega) ⟨by rw [l1]; omega, at58.mpr hk⟩
    · have hi := (List.getElem?_eq_some_iff.mp (at58.mp h2.2)).1
      rw [h1, List.length_take, Nat.min_eq_left (by omega)]
end LawK
set_option maxHeartbeats 4000000
namespace LawK
open PySem PySem.Spec PyProof.Rows L2 Ev
theorem lt_one {a b : Nat} : ([a] : List Nat) < [b] ↔ a < b := by
  rw [List.cons_lt_cons_iff]
  exact ⟨fun h => h.elim id fun h => absurd h.2 (List.lt_irrefl []), .inl⟩
theorem le_lo (c : Nat) : (!decide ((Str.mk #[c]).cps.toList < (Str.ofString " ").cps.toList)) = decide (32 ≤ c) := by
  rw [show (Str.ofString " ").cps.toList = [32] by decide +kernel]
  refine Bool.eq_iff_iff.mpr ?_
  rw [Bool.not_eq_true', decide_eq_false_iff_not, decide_eq_true_iff]
  show ¬ ([c] : List Nat) < [32] ↔ _
  rw [lt_one]
  omega
theorem le_hi (c : Nat) : (!decide ((Str.ofString "~").cps.toList < (Str.mk #[c]).cps.toList)) = decide (c ≤ 126) := by
  rw [show (Str.ofString "~").cps.toList = [126] by decide +kernel]
  refine Bool.eq_iff_iff.mpr ?_
  rw [Bool.not_eq_true', decide_eq_false_iff_not, decide_eq_true_iff]
  show ¬ ([126] : List Nat) < [c] ↔ _
  rw [lt_one]
  omega

def spRec : Sp := fun vs H Q _ => ∃ z : Str, vs = [.str z] ∧ sgB z = true ∧ z.length ≤ 350 ∧ Q (.str (recS z)) H
def spRead : Sp := fun vs H Q _ => ∃ z : Str, vs = [.str z] ∧ sgB z = true ∧ z.length ≤ 350 ∧ ∀ H', Same H H' → Q (conV z) H'
/-- a thing is a string of signs -/
def spIsLine : Sp := fun vs H Q _ => ∃ x k, vs = [x] ∧ Kd H x k ∧ Vs x ∧ ∀ H', Same H H' → Q (.bl (sgV x)) H'
theorem log_ok {n : Nat} (h : n ≤ 400) : ((n : Nat) : Int).natAbs.log2 < 1920 := Nat.lt_of_le_of_lt (Nat.log2_le_self _) (by omega)
theorem numZ_len {n : Nat} (h : n < 400) : (numZ n).length ≤ 3 := num_len n h
theorem app_len (x y : Str) : (x ++ y).length = x.length + y.length := by
  have := congrArg List.length (cod_app x y)
  rw [List.length_append] at this
  exact this
theorem colon_len : (":" : Str).length = 1 := by decide
theorem sub_cod (x : Str) (i j : Nat) : cod (Builtin.Str.strSub x i j) = ((cod x).drop i).take (j - i) := by
  unfold Builtin.Str.strSub
  show (x.cps.extract i j).toList = _
  rw [Array.toList_extract, List.extract_eq_take_drop]
theorem sg_drop {z : Str} {c : List Nat} {a : List Nat} (h : sgB z = true) (e : cod z = a ++ 58 :: c) : sgB (SX.S c) = true := by
  rw [sgB_S]
  have h2 : (cod z).all sgC = true := h
  rw [e, List.all_append, List.all_cons] at h2
  exact (Bool.and_eq_true_iff.mp (Bool.and_eq_true_iff.mp h2).2).2
/-- what the record of the contents is -/
theorem rec_eq {z : Str} {a c : List Nat} (e : cod z = a ++ 58 :: c) (n : 58 ∉ a) (l : c.length < 400) : decide (V.str (recS (SX.S c)) = V.str z) = decide (a = numL c.length) := by
  refine decide_eq_decide.mpr ⟨fun h => ?_, fun h => ?_⟩
  · have h := congrArg cod (V.str.inj h)
    rw [rec_cod, e] at h
    have h : recL c = a ++ 58 :: c := h
    have t := (tw_at (c := c) n).1
    rw [← h] at t
    have t2 : (recL c).takeWhile (fun c => decide (c ≠ 58)) = numL c.length := (tw_at (c := c) (num_no l)).1
    rw [t2] at t
    exact t.symm
  · refine congrArg V.str (cod_inj ?_)
    rw [rec_cod, e, h]
    rfl
section
variable {P : Program} {w : World} {K : PySem.W.Frag} {mg : Str → Option Value} {base : Heap}
abbrev sIsNumber : Stmt := topS 23
theorem scIsNumber : FnScope ["thing", "least", "most"] ["thing", "least", "most"] (defScope sIsNumber) := ⟨rfl, rfl, rfl, by decide +kernel, rfl, by decide +kernel, by decide +kernel⟩
theorem ok_IsNumber {f : Addr} {fd : FuncData} (F : Fun K "_law_is_number" "_law_is_number" sIsNumber f fd)   (T : Glob mg) : FnOk P w K mg base CX0 1 f fd ["thing", "least", "most"] spIn := by
  refine F.ok scIsNumber (fun vs H Q E h => ?_) (fun cdv A outer s H vs Q E hr h => ?_)
  · obtain ⟨x, k, a, b, rfl, _⟩ := h
    rfl
  · refine ⟨_, (pss_one (ps_ret (pe_and (pe_callB call_isi (by rfl) T.isinstance PyProof.Rows.boot_isinstance (pa_cons (pv 0) (pa_cons (pe_bltn (v := .ty "int") (by rfl) T.int (by decide +kernel) rfl) pa_nil))) (pe_and (pe_not (pe_callB call_isi (by rfl) T.isinstance PyProof.Rows.boot_isinstance (pa_cons (pv 0) (pa_cons (pe_bltn (v := .ty "bool") (by rfl) T.bool (by decide +kernel) rfl) pa_nil)))) (pe_one (pe_chain op_le op_le (pv 1) (pv 0) (pv 2))))))), ?_⟩
    obtain ⟨x, k, a, b, rfl, hk, q⟩ := h
    refine ⟨x, rfl, x, .ty "int", .type (Kn.name k), .type "int", kitB k .int, rfl, .ty _, Kd.tyx hk, kit_kn k .int, _, rfl, ?_⟩
    cases hk with
    | int i =>
      refine iteT ⟨.int i, rfl, .int i, .ty "bool", .type (Kn.name .int), .type "bool", kitB .int .bl, rfl, .ty _, Kd.tyx (.int i), kit_kn .int .bl, _, rfl, _, rfl, iteT ?_⟩
      refine ⟨.int a, rfl, .int i, rfl, _, _, rfl, rfl, ?_⟩
      refine ⟨_, rfl, ite2 (fun e => ?_) (fun e => ?_)⟩
      · refine ⟨.int b, rfl, _, _, rfl, rfl, ?_⟩
        have q' : Q (.bl (decide (a ≤ i) && decide (i ≤ b))) H := q
        have e : decide (a ≤ i) = true := e
        rw [e, Bool.true_and] at q'
        exact q'
      · have q' : Q (.bl (decide (a ≤ i) && decide (i ≤ b))) H := q
        have e : decide (a ≤ i) = false := by simpa using e
        rw [e, Bool.false_and] at q'
        have e2 : V.bl (decide (a ≤ i)) = .bl false := by rw [e]
        first
          | exact q'
          | (show Q (V.bl (decide (a ≤ i))) H; rw [e]; exact q')
    | bl c => exact iteT ⟨.bl c, rfl, .bl c, .ty "bool", .type (Kn.name .bl), .type "bool", kitB .bl .bl, rfl, .ty _, Kd.tyx (.bl c), kit_kn .bl .bl, _, rfl, _, rfl, iteF q⟩
    | str z => exact iteF q
    | non => exact iteF q
    | lst e => exact iteF q
    | tup e => exact iteF q
    | dic e => exact iteF q

abbrev sPRecord : Stmt := topS 11
theorem scPRecord : FnScope ["line"] ["line"] (defScope sPRecord) := ⟨rfl, rfl, rfl, by decide +kernel, rfl, by decide +kernel, by decide +kernel⟩
theorem ok_PRecord {f : Addr} {fd : FuncData} (F : Fun K "record" "record" sPRecord f fd) {fPSigns : Addr} {fdPSigns : FuncData} (DPSigns : Dk P w K mg base "is_signs" sPSigns ["thing"] 1 spSg fPSigns fdPSigns) (T : Glob mg) : FnOk P w K mg base CX0 2 f fd ["line"] spRec := by
  refine F.ok scPRecord (fun vs H Q E h => ?_) (fun cdv A outer s H vs Q E hr h => ?_)
  · obtain ⟨z, rfl, _⟩ := h
    rfl
  · refine ⟨_, (pss_cons (ps_if (pt_not (pt_val (pe_call DPSigns.ok (hr.mono (by decide)) (by rfl) DPSigns.g DPSigns.F.kp DPSigns.b .nil pass0 (pa_cons (pv 0) pa_nil))))
      (pss_one ps_dead)
      pss_nil)
      (pss_one (ps_ret (pe_op op_add_str (pe_op op_add_str (pe_callTy call_str_int (by rfl) T.str (by decide +kernel) (pa_cons (pe_callB call_lenZ (by rfl) T.len PySem.boot_len (pa_cons (pv 0) pa_nil)) pa_nil)) pe_str) (pv 0))))), ?_⟩
    obtain ⟨z, rfl, hz, lz, q⟩ := h
    have sz : sizeLine = 16777216 := sizeLine_eq
    have ln := numZ_len (n := z.length) (by omega)
    refine ⟨.str z, rfl, .str z, .str, rfl, .str z, (fun w e => by cases e; omega), _, rfl, ?_⟩
    rw [show sgV (.str z) = true from hz]
    refine iteF ?_
    dsimp only [tNext, tDrop]
    refine ⟨.str z, rfl, z, rfl, len5 (by omega), _, rfl, log_ok (by omega), _, _, rfl, rfl, ?_, .str z, rfl, _, _, rfl, rfl, ?_, q⟩
    · show (numZ z.length).length + (":" : Str).length ≤ sizeLine
      rw [colon_len]
      omega
    · show (numZ z.length ++ (":" : Str)).length + z.length ≤ sizeLine
      rw [app_len, colon_len]
      omega
abbrev sRecord : Stmt := topS 21
theorem scRecord : FnScope ["contents"] ["contents"] (defScope sRecord) := ⟨rfl, rfl, rfl, by decide +kernel, rfl, by decide +kernel, by decide +kernel⟩
theorem ok_Record {f : Addr} {fd : FuncData} (F : Fun K "_law_record" "_law_record" sRecord f fd) (T : Glob mg) : FnOk P w K mg base CX0 1 f fd ["contents"] spRec := by
  refine F.ok scRecord (fun vs H Q E h => ?_) (fun cdv A outer s H vs Q E hr h => ?_)
  · obtain ⟨z, rfl, _⟩ := h
    rfl
  · refine ⟨_, (pss_one (ps_ret (pe_op op_add_str (pe_op op_add_str (pe_callTy call_str_int (by rfl) T.str (by decide +kernel) (pa_cons (pe_callB call_lenZ (by rfl) T.len PySem.boot_len (pa_cons (pv 0) pa_nil)) pa_nil)) pe_str) (pv 0)))), ?_⟩
    obtain ⟨z, rfl, hz, lz, q⟩ := h
    have sz : sizeLine = 16777216 := sizeLine_eq
    have ln := numZ_len (n := z.length) (by omega)
    refine ⟨.str z, rfl, z, rfl, len5 (by omega), _, rfl, log_ok (by omega), _, _, rfl, rfl, ?_, .str z, rfl, _, _, rfl, rfl, ?_, q⟩
    · show (numZ z.length).length + (":" : Str).length ≤ sizeLine
      rw [colon_len]
      omega
    · show (numZ z.length ++ (":" : Str)).length + z.length ≤ sizeLine
      rw [app_len, colon_len]
      omega
abbrev sPReadRecord : Stmt := topS 12
theorem scPReadRecord : FnScope ["line", "contents"] ["line"] (defScope sPReadRecord) := ⟨rfl, rfl, rfl, by decide +kernel, rfl, by decide +kernel, by decide +kernel⟩
theorem ok_PReadRecord {f : Addr} {fd : FuncData} (F : Fun K "read_record" "read_record" sPReadRecord f fd) {fPSigns : Addr} {fdPSigns : FuncData} (DPSigns : Dk P w K mg base "is_signs" sPSigns ["thing"] 1 spSg fPSigns fdPSigns) {fPRecord : Addr} {fdPRecord : FuncData} (DPRecord : Dk P w K mg base "record" sPRecord ["line"] 2 spRec fPRecord fdPRecord) (T : Glob mg) : FnOk P w K mg base CX0 3 f fd ["line"] spRead := by
  refine F.ok scPReadRecord (fun vs H Q E h => ?_) (fun cdv A outer s H vs Q E hr h => ?_)
  · obtain ⟨z, rfl, _⟩ := h
    rfl
  · refine ⟨_, (pss_cons (ps_if (pt_not (pt_val (pe_call DPSigns.ok (hr.mono (by decide)) (by rfl) DPSigns.g DPSigns.F.kp DPSigns.b .nil pass0 (pa_cons (pv 0) pa_nil))))
      (pss_one ps_dead)
      pss_nil)
      (pss_cons (ps_set (i := 1) scPReadRecord.nd rfl (.inl rfl) (pe_ix ix_tup (pe_bm PySem.F.plainAttrs_str PySem.F.slot_str_partition PySem.F.type_str_partition mt_partition (pv 0) (pa_cons pe_str pa_nil)) pe_int (fun _ _ => rfl)))
      (pss_one (ps_ret (pe_ifExp (pt_cmpR op_eq (pe_call DPRecord.ok (hr.mono (by decide)) (by rfl) DPRecord.g DPRecord.F.kp DPRecord.b .nil pass0 (pa_cons (pv 1) pa_nil)) (pv 0) (nomark _)) (pv 1) pe_non))))), ?_⟩
    obtain ⟨z, rfl, hz, lz, q⟩ := h
    have sz : sizeLine = 16777216 := sizeLine_eq
    have zc : z.length = (cod z).length := rfl
    refine ⟨.str z, rfl, .str z, .str, rfl, .str z, (fun w e => by cases e; omega), _, rfl, ?_⟩
    rw [show sgV (.str z) = true from hz]
    refine iteF ?_
    dsimp only [tNext, tDrop, tSeq]
    refine ⟨.str z, rfl, rfl, z, ":", rfl, rfl, by decide, by omega, fun p np => ?_⟩
    rcases occ58 z with ⟨n, eo⟩ | ⟨a, c, r, e, n, eo⟩
    · have ep : (Txt.partition z ":").2.2 = Str.empty := by unfold Txt.partition; rw [eo]
      refine ⟨p, _, 2, _, rfl, rfl, SqT.of upd_same, rfl, ?_⟩
      rw [ep]
      have q := q _ (Same.new (o := .tup [.str (Txt.partition z ":").1, .str (Txt.partition z ":").2.1, .str (Txt.partition z ":").2.2]) np)
      rw [ep] at q
      refine ⟨.str Str.empty, rfl, Str.empty, rfl, rfl, by decide, .str z, rfl, rfl, _, rfl, ?_⟩
      have ne : ¬ V.str (recS Str.empty) = V.str z := fun h => n (by rw [← V.str.inj h, rec_cod]; unfold recL; simp)
      rw [decide_eq_false ne]
      refine iteF ?_
      have ec : conV z = .non := by unfold conV; rw [cont_no n]
      rw [ec] at q
      exact q
    · have lc : c.length < 350 := by
        have := congrArg List.length e
        rw [List.length_append, List.length_cons] at this
        omega
      have ep : (Txt.partition z ":").2.2 = SX.S c := by
        unfold Txt.partition
        rw [eo]
        refine cod_inj ?_
        show cod (Builtin.Str.strSub z (a.length + (":" : Str).length) z.length) = c
        rw [sub_cod, colon_len, e, List.drop_append, List.drop_eq_nil_of_le (by omega), List.nil_append, show a.length + 1 - a.length = 1 by omega]
        show c.take _ = c
        refine List.take_of_length_le ?_
        rw [zc, e, List.length_append, List.length_cons]
        omega
      refine ⟨p, _, 2, _, rfl, rfl, SqT.of upd_same, rfl, ?_⟩
      rw [ep]
      have q := q _ (Same.new (o := .tup [.str (Txt.partition z ":").1, .str (Txt.partition z ":").2.1, .str (Txt.partition z ":").2.2]) np)
      rw [ep] at q
      refine ⟨.str (SX.S c), rfl, SX.S c, rfl, sg_drop hz e, Nat.le_of_lt lc, .str z, rfl, rfl, _, rfl, ?_⟩
      rw [rec_eq e n (by omega)]
      unfold conV at q
      rw [e, cont_at n] at q
      by_cases h : a = numL c.length
      · rw [decide_eq_true h]
        rw [if_pos h] at q
        exact iteT ⟨_, rfl, q⟩
      · rw [decide_eq_false h]
        rw [if_neg h] at q
        exact iteF q
abbrev sContents : Stmt := topS 22
theorem scContents : FnScope ["line", "at"] ["line"] (defScope sContents) := ⟨rfl, rfl, rfl, by decide +kernel, rfl, by decide +kernel, by decide +kernel⟩
theorem ok_Contents {f : Addr} {fd : FuncData} (F : Fun K "_law_contents" "_law_contents" sContents f fd) (T : Glob mg) : FnOk P w K mg base CX0 1 f fd ["line"] spRead := by
  refine F.ok scContents (fun vs H Q E h => ?_) (fun cdv A outer s H vs Q E hr h => ?_)
  · obtain ⟨z, rfl, _⟩ := h
    rfl
  · refine ⟨_, (pss_cons (ps_set (i := 1) scContents.nd rfl (.inl rfl) (pe_bm PySem.F.plainAttrs_str PySem.F.slot_str_find PySem.F.type_str_find mt_find (pv 0) (pa_cons pe_str pa_nil)))
      (pss_cons (ps_if (PW.pt (pw_or (pt_cmpR op_lt (pv 1) pe_int (nomark _)) (pw_or1 (pt_cmpR op_ne (pe_callTy call_str_int (by rfl) T.str (by decide +kernel) (pa_cons (pe_op op_sub (pe_op op_sub (pe_callB call_lenZ (by rfl) T.len PySem.boot_len (pa_cons (pv 0) pa_nil)) (pv 1)) pe_int) pa_nil)) (pe_slice sl_str (pv 0) po_none (po_some (pv 1))) (nomark _)))))
      (pss_one (ps_ret pe_non))
      pss_nil)
      (pss_one (ps_ret (pe_slice sl_str (pv 0) (po_some (pe_op op_add (pv 1) pe_int)) po_none))))), ?_⟩
    obtain ⟨z, rfl, hz, lz, q⟩ := h
    have sz : sizeLine = 16777216 := sizeLine_eq
    have zc : z.length = (cod z).length := rfl
    have q := q H (Same.refl H)
    refine ⟨.str z, rfl, rfl, z, ":", rfl, rfl, ?_⟩
    dsimp only [tSeq, gName]
    rcases occ58 z with ⟨n, eo⟩ | ⟨a, c, r, e, n, eo⟩
    · have ep : Txt.find z ":" = -1 := by unfold Txt.find; rw [eo]
      rw [ep]
      refine ⟨.int (-1), rfl, _, _, rfl, rfl, _, rfl, iteT ?_⟩
      have ec : conV z = .non := by unfold conV; rw [cont_no n]
      rw [ec] at q
      exact q
    · have lc : a.length + c.length + 1 = z.length := by
        have := congrArg List.length e
        rw [List.length_append, List.length_cons] at this
        omega
      have ep : Txt.find z ":" = (a.length : Int) := by unfold Txt.find; rw [eo]
      rw [ep]
      unfold conV at q
      rw [e, cont_at n] at q
      refine ⟨.int (a.length : Nat), rfl, _, _, rfl, rfl, _, rfl, iteF ?_⟩
      have en : (z.length : Int) - (a.length : Int) - 1 = ((c.length : Nat) : Int) := by omega
      refine ⟨.str z, rfl, z, rfl, len5 (by omega), .int (a.length : Nat), rfl, _, _, rfl, rfl, _, _, rfl, rfl, _, rfl, ?_, .str z, rfl, .int (a.length : Nat), rfl, (a.length : Int), rfl, z, rfl, len5 (by omega), ?_⟩
      · show ((z.length : Int) - (a.length : Int) - 1).natAbs.log2 < 1920
        rw [en]
        exact log_ok (by omega)
      have e1 : cod (cutS z none (some (a.length : Int))) = a := by
        have h : cod (cutS z none (some (a.length : Int))) = (cod z).take (a.length : Int).toNat := cutS_to (by omega)
        rw [h, e, Int.toNat_natCast, List.take_left]
      have e2 : cod (cutS z (some ((a.length : Int) + 1)) none) = c := by
        have h : cod (cutS z (some ((a.length : Int) + 1)) none) = (cod z).drop ((a.length : Int) + 1).toNat := cutS_from (by omega)
        rw [h, e, show ((a.length : Int) + 1).toNat = a.length + 1 by omega, List.drop_append, List.drop_eq_nil_of_le (by omega), List.nil_append, show a.length + 1 - a.length = 1 by omega]
        rfl
      have e0 : (((toString ((z.length : Int) - (a.length : Int) - 1) : String) : Str)) = numZ c.length := by rw [en]; rfl
      by_cases h : a = numL c.length
      · rw [if_pos h] at q
        have e3 : V.str ((toString ((z.length : Int) - (a.length : Int) - 1) : String) : Str) = V.str (cutS z none (some (a.length : Int))) := by
          rw [e0]
          exact congrArg V.str (cod_inj (by rw [e1]; exact h.symm))
        refine ⟨rfl, _, rfl, iteNS e3 ?_⟩
        dsimp only [tNext, tDrop]
        refine ⟨.str z, rfl, .int (a.length : Nat), rfl, _, _, rfl, rfl, _, rfl, z, rfl, len5 (by omega), ?_⟩
        have e4 : cutS z (some ((a.length : Int) + 1)) none = SX.S c := cod_inj e2
        rw [e4]
        exact q
      · rw [if_neg h] at q
        have e3 : ¬ V.str ((toString ((z.length : Int) - (a.length : Int) - 1) : String) : Str) = V.str (cutS z none (some (a.length : Int))) := fun x => h (by
          have x := congrArg cod (V.str.inj x)
          rw [e0, e1] at x
          exact x.symm)
        refine ⟨rfl, _, rfl, ?_⟩
        rw [decide_eq_false e3]
        exact iteT q
abbrev sIsLine : Stmt := topS 25
theorem scIsLine : FnScope ["thing", "sign"] ["thing"] (defScope sIsLine) := ⟨rfl, rfl, rfl, by decide +kernel, rfl, by decide +kernel, by decide +kernel⟩
theorem ok_IsLine {f : Addr} {fd : FuncData} (F : Fun K "_law_is_line" "_law_is_line" sIsLine f fd) (T : Glob mg) : FnOk P w K mg base CX0 1 f fd ["thing"] spIsLine := by
  refine F.ok scIsLine (fun vs H Q E h => ?_) (fun cdv A outer s H vs Q E hr h => ?_)
  · obtain ⟨x, k, rfl, _⟩ := h
    rfl
  · refine ⟨_, (pss_cons (ps_if (pt_not (pt_val (pe_callB call_isi (by rfl) T.isinstance PyProof.Rows.boot_isinstance (pa_cons (pv 0) (pa_cons (pe_bltn (v := .ty "str") (by rfl) T.str (by decide +kernel) rfl) pa_nil)))))
      (pss_one (ps_ret pe_bl))
      pss_nil)
      (pss_one (ps_ret (pe_callB (cr_all rfl) (by rfl) T.all (by decide +kernel) (pa_cons (pe_lc (own := [("sign", 1)]) (g := gName 1) (by rfl) scIsLine.nd (pi_str (pv 0)) (blkOk_by (N := ["thing", "sign"]) (sc := defScope sIsLine) (by decide +kernel)) (fun _ _ _ _ _ => pg_name (i := 1) scIsLine.nd rfl (.inl rfl)) (fun _ _ _ _ _ => pts_nil) (fun _ _ _ _ _ => (pe_chain op_le_str op_le_str pe_str (pv 1) pe_str))) pa_nil))))), ?_⟩
    obtain ⟨x, k, rfl, hk, hz, q⟩ := h
    have sz : sizeLine = 16777216 := sizeLine_eq
    refine ⟨x, rfl, x, .ty "str", .type (Kn.name k), .type "str", kitB k .str, rfl, .ty _, Kd.tyx hk, kit_kn k .str, _, rfl, ?_⟩
    cases hk with
    | str z =>
      have lz := hz z rfl
      refine iteF ?_
      dsimp only [tNext, tDrop]
      refine ⟨.str z, rfl, z, rfl, fun D nD => lc_it walk_str (fun j H' => Same H H' ∧ H' D = some (.lst (((z.cps.toList.take j).map sgC).map V.bl))) ⟨Same.new nD, upd_same⟩ (fun _ _ _ _ => trivial) ?_ ?_⟩
      · rintro j v H1 H2 hj ⟨k1, hD⟩ ⟨rfl, c, ec, rfl⟩
        have ec2 : z.cps.toList[j]? = some c := by rw [Array.getElem?_toList]; exact ec
        have put : upd H2 D (.lst (((z.cps.toList.take j).map sgC).map V.bl ++ [V.bl (sgC c)])) D = some (.lst (((z.cps.toList.take (j + 1)).map sgC).map V.bl)) := by
          rw [upd_same, List.take_succ, ec2, Option.toList_some, List.map_append, List.map_append]
          rfl
        have few : (((z.cps.toList.take j).map sgC).map V.bl).length < sizeLine := by
          rw [List.length_map, List.length_map, List.length_take]
          have : z.cps.toList.length = z.length := rfl
          omega
        refine ⟨rfl, .str ⟨#[c]⟩, rfl, _, _, rfl, rfl, ?_⟩
        rw [le_lo]
        refine ⟨_, rfl, ite2 (fun e => ?_) (fun e => ?_)⟩
        · refine ⟨_, _, rfl, rfl, ?_⟩
          rw [le_hi]
          have es : sgC c = decide (c ≤ 126) := by unfold sgC; rw [e, Bool.true_and]
          rw [← es]
          exact ⟨_, hD, few, sameAt k1 nD, put⟩
        · have es : sgC c = false := by unfold sgC; rw [show decide (32 ≤ c) = false by simpa using e, Bool.false_and]
          rw [es] at put
          exact ⟨_, hD, few, sameAt k1 nD, put⟩
      · rintro H1 ⟨k1, hD⟩
        have hD : H1 D = some (.lst ((z.cps.toList.map sgC).map V.bl)) := by
          rw [hD, List.take_of_length_le (by rw [Array.length_toList]; exact Nat.le_refl _)]
        refine ⟨D, z.cps.toList.map sgC, rfl, sq_of hD, ?_⟩
        have e2 : (z.cps.toList.map sgC).all id = sgB z := by
          rw [List.all_map]
          rfl
        rw [e2]
        exact q H1 k1
    | int i => exact iteT (q H (Same.refl H))
    | bl c => exact iteT (q H (Same.refl H))
    | non => exact iteT (q H (Same.refl H))
    | lst e => exact iteT (q H (Same.refl H))
    | tup e => exact iteT (q H (Same.refl H))
    | dic e => exact iteT (q H (Same.refl H))
end
end LawK
set_option maxHeartbeats 4000000
namespace LawK
open PySem PySem.Spec PyProof.Rows L2 Ev
/-- what may be done to a disk -/
inductive Deed
  | write (x : V)
  | sync
  | drop (x : V)
  | cut (x : V)
/-- a tuple that tells a deed -/
inductive DeedAt (H : Hp) : V → Deed → Prop
  | write {t : Addr} {x : V} {k : Kn} (e : H t = some (.tup [.str "write", x])) (hk : Kd H x k) (hv : Vs x) (l : ∀ z, x = .str z → z.length ≤ 200) : DeedAt H (.ref t) (.write x)
  | sync {t : Addr} (e : H t = some (.tup [.str "sync"])) : DeedAt H (.ref t) .sync
  | drop {t : Addr} {x : V} {k : Kn} (e : H t = some (.tup [.str "drop", x])) (hk : Kd H x k) : DeedAt H (.ref t) (.drop x)
  | cut {t : Addr} {x : V} {k : Kn} (e : H t = some (.tup [.str "cut", x])) (hk : Kd H x k) (fl : ∀ b xs, x = .ref b → H b = some (.tup xs) → FlB xs) : DeedAt H (.ref t) (.cut x)
inductive Out
  | told (v : Option Int)
  | line
  | cut
  | number
def Out.vs : Out → List V
  | .told (some i) => [.str "told", .int i]
  | .told none => [.str "told", .non]
  | .line => [.str "refused", .str "line"]
  | .cut => [.str "refused", .str "cut"]
  | .number => [.str "refused", .str "number"]
def OutAt (H : Hp) (t : Addr) (o : Out) : Prop := H t = some (.tup o.vs)
/-- what a deed does to a disk of these lines, n of them synced -/
inductive Stp (H : Hp) (ls : List Str) (n : Nat) : Deed → Out → List Str → Nat → Prop
  | w0 {x : V} (h : sgV x = false) : Stp H ls n (.write x) .line ls n
  | w1 {z : Str} (h : sgB z = true) : Stp H ls n (.write (.str z)) (.told (some (ls.length : Nat))) (ls ++ [z]) n
  | s : Stp H ls n .sync (.told (some ((ls.length : Int) - (n : Int)))) ls ls.length
  | d0 {x : V} (h : inV2 0 ((ls.length : Nat) : Int) x = false) : Stp H ls n (.drop x) .number ls n
  | d1 {m : Nat} (h : m ≤ ls.length) : Stp H ls n (.drop (.int (m : Nat))) (.told none) (ls.take m) (min n m)
  | c0 {x : V} {k : Kn} (h : CuX H x k (ls.drop n) false) : Stp H ls n (.cut x) .cut ls n
  | c1 {b : Addr} {xs : List V} (e : H b = some (.tup xs)) (fl : FlB xs) (h : cutB (ls.drop n) xs = true) : Stp H ls n (.cut (.ref b)) (.told none) (ls.take n ++ cutL (ls.drop n) xs) ls.length
theorem stp_ex {H : Hp} {v : V} {D : Deed} (h : DeedAt H v D) (ls : List Str) (n : Nat) : ∃ o ls' n', Stp H ls n D o ls' n' := by
  cases h with
  | @write t x k e hk hv l =>
    cases c : sgV x with
    | false => exact ⟨_, _, _, .w0 c⟩
    | true =>
      cases x with
      | str z => exact ⟨_, _, _, .w1 c⟩
      | _ => cases c
  | sync e => exact ⟨_, _, _, .s⟩
  | @drop t x k e hk =>
    cases c : inV2 0 ((ls.length : Nat) : Int) x with
    | false => exact ⟨_, _, _, .d0 c⟩
    | true =>
      cases x with
      | int i =>
        have c : (decide (0 ≤ i) && decide (i ≤ ((ls.length : Nat) : Int))) = true := c
        obtain ⟨c1, c2⟩ := Bool.and_eq_true_iff.mp c
        have c1 := of_decide_eq_true c1
        have c2 := of_decide_eq_true c2
        obtain ⟨m, rfl⟩ := Int.eq_ofNat_of_zero_le c1
        exact ⟨_, _, _, .d1 (by omega)⟩
      | _ => cases c
  | @cut t x k e hk fl =>
    by_cases nk : k = .tup
    · subst nk
      cases hk with
      | @tup b xs hb =>
        have f := fl b xs rfl hb
        cases c : cutB (ls.drop n) xs with
        | true => exact ⟨_, _, _, .c1 hb f c⟩
        | false => exact ⟨_, _, _, .c0 ⟨.tup hb, fun z => absurd rfl z, fun b2 ys e2 h2 => by
            cases e2
            rw [hb] at h2
            cases h2
            exact ⟨f, c.symm⟩⟩⟩
    · exact ⟨_, _, _, .c0 ⟨hk, fun _ => rfl, fun b xs e2 h2 => by
        subst e2
        cases hk with
        | tup e3 => exact absurd rfl nk
        | lst e3 => rw [h2] at e3; cases e3
        | dic e3 => rw [h2] at e3; cases e3⟩⟩
def spCalled (C : Addr) : Sp := fun vs H Q _ => ∃ (d a : Addr) (ls : List Str) (n : Nat) (v : V) (D : Deed) (o : Out) (ls' : List Str) (n' : Nat), vs = [.ref d, v] ∧ DskAt H C d a ls n ∧ ls.length < 3000 ∧ DeedAt H v D ∧ Stp H ls n D o ls' n' ∧
  ∀ a' t H', (a' = a ∨ H a' = none ∧ ButS [d] H H') → DskAt H' C d a' ls' n' → ButS [d, a] H H' → OutAt H' t o → Q (.ref t) H'
/-- the methods that a deed calls -/
structure Mths (P : Program) (w : World) (K : PySem.W.Frag) (mg : Str → Option Value) (base : Heap) (C cL cC cN : Addr) : Prop where
  wr : ∃ f fd, Meth K C "write" f ∧ Binds K fd ["self", "line"] [] ∧ FnOk P w K mg base (L2.CX P w) 2 f fd ["self", "line"] (spDWrite C cL)
  sy : ∃ f fd, Meth K C "sync" f ∧ Binds K fd ["self"] [] ∧ FnOk P w K mg base (L2.CX P w) 1 f fd ["self"] (spDSync C)
  cu : ∃ f fd, Meth K C "cut" f ∧ Binds K fd ["self", "kept"] [] ∧ FnOk P w K mg base (L2.CX P w) 3 f fd ["self", "kept"] (spDCut C cC)
  dr : ∃ f fd, Meth K C "drop" f ∧ Binds K fd ["self", "number"] [] ∧ FnOk P w K mg base (L2.CX P w) 2 f fd ["self", "number"] (spDDrop C cN)
section
variable {P : Program} {w : World} {K : PySem.W.Frag} {mg : Str → Option Value} {base : Heap}
variable {C PE cL cC cN : Addr}
theorem lkM {x y : V} {m : Str} (h1 : m ≠ "_lines") (h2 : m ≠ "_synced") : ([("_lines", x), ("_synced", y)] : List (Str × V)).lookup m = none := by
  have e1 : (m == ("_lines" : Str)) = false := by simpa using h1
  have e2 : (m == ("_synced" : Str)) = false := by simpa using h2
  simp [List.lookup, e1, e2]
abbrev sCalled : Stmt := topS 24
theorem scCalled : FnScope ["disk", "deed"] ["disk", "deed"] (defScope sCalled) := ⟨rfl, rfl, rfl, by decide +kernel, rfl, by decide +kernel, by decide +kernel⟩
theorem ok_Called {f : Addr} {fd : FuncData} (F : Fun K "_law_called" "_law_called" sCalled f fd) (B : DskB K mg C) (EL : Cls0 P K mg PE "NoLine" cL) (EC : Cls0 P K mg PE "NoCut" cC) (EN : Cls0 P K mg PE "NoNumber" cN) (gPE : mg "PieceError" = some (.ref PE)) (ne1 : cL ≠ cC) (ne2 : cL ≠ cN) (ne3 : cC ≠ cN)
    (M : Mths P w K mg base C cL cC cN) (T : Glob mg) : FnOk P w K mg base CX0 4 f fd ["disk", "deed"] (spCalled C) := by
  obtain ⟨⟨fW, fdW, mW, bW, GW⟩, ⟨fS, fdS, mS, bS, GS⟩, ⟨fC, fdC, mC, bC, GC⟩, ⟨fD, fdD, mD, bD, GD⟩⟩ := M
  refine F.ok scCalled (fun vs H Q E h => ?_) (fun cdv A outer s H vs Q E hr h => ?_)
  · obtain ⟨d, a, ls, n, v, D, o, ls', n', rfl, _⟩ := h
    rfl
  · obtain ⟨d, a, ls, n, v, D, o, ls', n', rfl, hD, few, hv, hs, q⟩ := h
    refine ⟨_, pss_one (ps_try_many (tb := fun W => tSeq (tIfS (tTest (tOp rEq (tOp (rIxT K) (tVar 1) (tC (.int 0))) (tC (.str "write")))) (tRet (tTup (tCons (tC (.str "told")) (tCons (tMethX C "write" (spDWrite C cL) (fun σ => WE W σ) (tVar 0) (tCons (tOp (rIxT K) (tVar 1) (tC (.int 1))) tNil)) tNil)))) tNext) (tSeq (tIfS (tTest (tOp rEq (tOp (rIxT K) (tVar 1) (tC (.int 0))) (tC (.str "sync")))) (tRet (tTup (tCons (tC (.str "told")) (tCons (tMethX C "sync" (spDSync C) (fun σ => WE W σ) (tVar 0) tNil) tNil)))) tNext) (tSeq (tIfS (tTest (tOp rEq (tOp (rIxT K) (tVar 1) (tC (.int 0))) (tC (.str "cut")))) (tRet (tTup (tCons (tC (.str "told")) (tCons (tMethX C "cut" (spDCut C cC) (fun σ => WE W σ) (tVar 0) (tCons (tOp (rIxT K) (tVar 1) (tC (.int 1))) tNil)) tNil)))) tNext) (tRet (tTup (tCons (tC (.str "told")) (tCons (tMethX C "drop" (spDDrop C cN) (fun σ => WE W σ) (tVar 0) (tCons (tOp (rIxT K) (tVar 1) (tC (.int 1))) tNil)) tNil))))))) (Wout := fun _ _ _ _ => False) rfl rfl takes0
        (fun W pn xe tk _ => pss_cons (ps_if (pt_cmpR op_eq (pe_ix (r := rIxT K) ix_tup (pv 1) pe_int (fun _ _ => rfl)) pe_str (nomark _))
            (pss_one (ps_ret (pe_tup (pa_cons pe_str (pa_cons (pe_methX (E := fun σ => WE W σ) (pv 0) B.cl mW GW (hr.mono (by decide)) bW (fun σ => passAt tk σ) (pa_cons (pe_ix (r := rIxT K) ix_tup (pv 1) pe_int (fun _ _ => rfl)) pa_nil)) pa_nil))))) pss_nil)
          (pss_cons (ps_if (pt_cmpR op_eq (pe_ix (r := rIxT K) ix_tup (pv 1) pe_int (fun _ _ => rfl)) pe_str (nomark _))
            (pss_one (ps_ret (pe_tup (pa_cons pe_str (pa_cons (pe_methX0 (E := fun σ => WE W σ) (pv 0) B.cl mS GS (hr.mono (by decide)) bS (fun σ => passAt tk σ)) pa_nil))))) pss_nil)
          (pss_cons (ps_if (pt_cmpR op_eq (pe_ix (r := rIxT K) ix_tup (pv 1) pe_int (fun _ _ => rfl)) pe_str (nomark _))
            (pss_one (ps_ret (pe_tup (pa_cons pe_str (pa_cons (pe_methX (E := fun σ => WE W σ) (pv 0) B.cl mC GC (hr.mono (by decide)) bC (fun σ => passAt tk σ) (pa_cons (pe_ix (r := rIxT K) ix_tup (pv 1) pe_int (fun _ _ => rfl)) pa_nil)) pa_nil))))) pss_nil)
          (pss_one (ps_ret (pe_tup (pa_cons pe_str (pa_cons (pe_methX (E := fun σ => WE W σ) (pv 0) B.cl mD GD (hr.mono (by decide)) bD (fun σ => passAt tk σ) (pa_cons (pe_ix (r := rIxT K) ix_tup (pv 1) pe_int (fun _ _ => rfl)) pa_nil)) pa_nil))))))))
        (HdsOk.cons ⟨rfl, by decide, .inl EL.g⟩ (fun a oe cls d pn hz hf => pss_one (ps_ret (pe_tup (pa_cons pe_str (pa_cons pe_str pa_nil))))) (HdsOk.cons ⟨rfl, by decide, .inl EC.g⟩ (fun a oe cls d pn hz hf => pss_one (ps_ret (pe_tup (pa_cons pe_str (pa_cons pe_str pa_nil))))) (HdsOk.cons ⟨rfl, by decide, .inl EN.g⟩ (fun a oe cls d pn hz hf => pss_one (ps_ret (pe_tup (pa_cons pe_str (pa_cons pe_str pa_nil))))) (HdsOk.cons ⟨rfl, by decide, .inl gPE⟩ (fun a oe cls d pn hz hf => pss_one (ps_ret (pe_tup (pa_cons pe_str (pa_cons pe_str pa_nil))))) HdsOk.nil))))), ?_⟩
    have out : ∀ {a' : Addr} {o : Out} {ls' : List Str} {n' : Nat} {H1 : Hp}, (∀ a' t H', (a' = a ∨ H a' = none ∧ ButS [d] H H') → DskAt H' C d a' ls' n' → ButS [d, a] H H' → OutAt H' t o → Q (.ref t) H') → (a' = a ∨ H a' = none ∧ ButS [d] H H1) → DskAt H1 C d a' ls' n' → ButS [d, a] H H1 → ∀ t, H1 t = none → Q (.ref t) (upd H1 t (.tup o.vs)) := fun q ea hd b t nt => q _ t _ (ea.imp id fun h => ⟨h.1, h.2.new nt⟩) (hd.same (Same.new nt)) (b.new nt) upd_same
    obtain ⟨dx, ed⟩ := hD.ob
    have refl := ButS.refl [d, a] H
    cases hv with
    | @write t x k e hk hvs l =>
      refine ⟨.ref t, rfl, t, _, 0, _, rfl, rfl, SqT.of e, rfl, rfl, _, rfl, seq ?_⟩
      refine ⟨.ref d, rfl, d, dx, _, rfl, ed, lkM (by decide +kernel) (by decide +kernel), .ref t, rfl, t, _, 1, x, rfl, rfl, SqT.of e, rfl, d, a, ls, n, x, k, rfl, hD, few, hk, hvs, l, fun c => ?_, fun z H1 ex hz hd1 b1 => ?_⟩
      · cases hs with
        | w0 h =>
          refine ⟨true, (exm_at EL.er EL.er EL.ne).trans (congrArg some (decide_eq_true rfl)), (fun _ a1 na1 => ?_), fun z => Bool.noConfusion z⟩
          exact ⟨by show 2 ≤ sizeLine; decide, fun r nr => out (o := .line) q (.inl rfl) hD refl r nr⟩
        | w1 h =>
          have c : sgB _ = false := c
          rw [h] at c
          cases c
      · subst ex
        cases hs with
        | w0 h =>
          have h : sgB z = false := h
          rw [hz] at h
          cases h
        | w1 h => exact ⟨by show 2 ≤ sizeLine; decide, fun r nr => out (o := .told (some (ls.length : Nat))) q (.inl rfl) hd1 (b1.mono (by simp)) r nr⟩
    | @sync t e =>
      refine ⟨.ref t, rfl, t, _, 0, _, rfl, rfl, SqT.of e, rfl, rfl, _, rfl, sne (by decide +kernel) ?_⟩
      refine ⟨.ref t, rfl, t, _, 0, _, rfl, rfl, SqT.of e, rfl, rfl, _, rfl, seq ?_⟩
      refine ⟨.ref d, rfl, d, dx, _, rfl, ed, lkM (by decide +kernel) (by decide +kernel), d, a, ls, n, rfl, hD, fun H1 hd1 b1 => ?_⟩
      cases hs with
      | s => exact ⟨by show 2 ≤ sizeLine; decide, fun r nr => out (o := .told (some ((ls.length : Int) - (n : Int)))) q (.inl rfl) hd1 (b1.mono (by simp)) r nr⟩
    | @cut t x k e hk fl =>
      refine ⟨.ref t, rfl, t, _, 0, _, rfl, rfl, SqT.of e, rfl, rfl, _, rfl, sne (by decide +kernel) ?_⟩
      refine ⟨.ref t, rfl, t, _, 0, _, rfl, rfl, SqT.of e, rfl, rfl, _, rfl, sne (by decide +kernel) ?_⟩
      refine ⟨.ref t, rfl, t, _, 0, _, rfl, rfl, SqT.of e, rfl, rfl, _, rfl, seq ?_⟩
      refine ⟨.ref d, rfl, d, dx, _, rfl, ed, lkM (by decide +kernel) (by decide +kernel), .ref t, rfl, t, _, 1, x, rfl, rfl, SqT.of e, rfl, ?_⟩
      cases hs with
      | @c0 _ k2 h =>
        refine ⟨d, a, ls, n, x, k2, false, rfl, hD, h, fun _ H1 k1 => ?_, fun b xs H1 c => Bool.noConfusion c⟩
        refine ⟨false, (exm_at EL.er EC.er EL.ne).trans (congrArg some (decide_eq_false (Ne.symm ne1))), (fun z => Bool.noConfusion z), fun _ => ⟨true, (exm_at EC.er EC.er EC.ne).trans (congrArg some (decide_eq_true rfl)), (fun _ a1 na1 => ?_), fun z => Bool.noConfusion z⟩⟩
        exact ⟨by show 2 ≤ sizeLine; decide, fun r nr => out (o := .cut) q (.inl rfl) (hD.same k1) (ButS.of k1) r nr⟩
      | @c1 b xs hb f h =>
        refine ⟨d, a, ls, n, .ref b, .tup, true, rfl, hD, ⟨.tup hb, fun z => absurd rfl z, fun b2 ys e2 h2 => ?_⟩, fun c => Bool.noConfusion c, fun b2 ys H1 _ e2 h2 hd1 b1 => ?_⟩
        · cases e2
          rw [hb] at h2
          cases h2
          exact ⟨f, h.symm⟩
        · cases e2
          rw [hb] at h2
          cases h2
          exact ⟨by show 2 ≤ sizeLine; decide, fun r nr => out (o := .told none) q (.inl rfl) hd1 b1 r nr⟩
    | @drop t x k e hk =>
      refine ⟨.ref t, rfl, t, _, 0, _, rfl, rfl, SqT.of e, rfl, rfl, _, rfl, sne (by decide +kernel) ?_⟩
      refine ⟨.ref t, rfl, t, _, 0, _, rfl, rfl, SqT.of e, rfl, rfl, _, rfl, sne (by decide +kernel) ?_⟩
      refine ⟨.ref t, rfl, t, _, 0, _, rfl, rfl, SqT.of e, rfl, rfl, _, rfl, sne (by decide +kernel) ?_⟩
      refine ⟨.ref d, rfl, d, dx, _, rfl, ed, lkM (by decide +kernel) (by decide +kernel), .ref t, rfl, t, _, 1, x, rfl, rfl, SqT.of e, rfl, d, a, ls, n, x, k, rfl, hD, hk, fun c => ?_, fun m b H1 ex lm nb hd1 b1 => ?_⟩
      · cases hs with
        | d0 h =>
          refine ⟨false, (exm_at EL.er EN.er EL.ne).trans (congrArg some (decide_eq_false (Ne.symm ne2))), (fun z => Bool.noConfusion z), fun _ => ⟨false, (exm_at EC.er EN.er EC.ne).trans (congrArg some (decide_eq_false (Ne.symm ne3))), (fun z => Bool.noConfusion z), fun _ => ⟨true, (exm_at EN.er EN.er EN.ne).trans (congrArg some (decide_eq_true rfl)), (fun _ a1 na1 => ?_), fun z => Bool.noConfusion z⟩⟩⟩
          exact ⟨by show 2 ≤ sizeLine; decide, fun r nr => out (o := .number) q (.inl rfl) hD refl r nr⟩
        | @d1 m h =>
          have c : (decide ((0 : Int) ≤ (m : Int)) && decide ((m : Int) ≤ ((ls.length : Nat) : Int))) = false := c
          rw [decide_eq_true (by omega), decide_eq_true (by omega)] at c
          cases c
      · subst ex
        cases hs with
        | d0 h =>
          have c : (decide ((0 : Int) ≤ (m : Int)) && decide ((m : Int) ≤ ((ls.length : Nat) : Int))) = false := h
          rw [decide_eq_true (by omega), decide_eq_true (by omega)] at c
          cases c
        | d1 h => exact ⟨by show 2 ≤ sizeLine; decide, fun r nr => out (o := .told none) q (.inr ⟨nb, b1⟩) hd1 (b1.mono (by simp)) r nr⟩
end
end LawK
set_option maxHeartbeats 4000000
namespace LawK
open PySem PySem.Spec PyProof.Rows L2 Ev

inductive SameX (S : Hp → V → V → Prop) (H : Hp) : V → V → Prop
  | sc {x : V} (h : Sc x) : SameX S H x x
  | bl (b : Bool) : SameX S H (.bl b) (.bl b)
  | tup {a b : Addr} {xs ys : List V} (ha : H a = some (.tup xs)) (hb : H b = some (.tup ys)) (hl : xs.length = ys.length) (few : xs.length ≤ 5000) (hp : ∀ (i : Nat) x y, xs[i]? = some x → ys[i]? = some y → S H x y) : SameX S H (.ref a) (.ref b)
  | lst {a b : Addr} {xs ys : List V} (ha : H a = some (.lst xs)) (hb : H b = some (.lst ys)) (hl : xs.length = ys.length) (few : xs.length ≤ 5000) (hp : ∀ (i : Nat) x y, xs[i]? = some x → ys[i]? = some y → S H x y) : SameX S H (.ref a) (.ref b)
theorem SameX.mono {S : Hp → V → V → Prop} (hm : ∀ H H' x y, Same H H' → S H x y → S H' x y) : ∀ H H' x y, Same H H' → SameX S H x y → SameX S H' x y := fun H H' x y k h => by
  cases h with
  | sc h => exact .sc h
  | bl b => exact .bl b
  | tup ha hb hl few hp => exact .tup (k _ _ ha) (k _ _ hb) hl few fun i x y e1 e2 => hm _ _ _ _ k (hp i x y e1 e2)
  | lst ha hb hl few hp => exact .lst (k _ _ ha) (k _ _ hb) hl few fun i x y e1 e2 => hm _ _ _ _ k (hp i x y e1 e2)
def R0 : Hp → V → V → Prop := fun _ _ _ => False
def R1 := SameX R0
def R2 := SameX R1
def R3 := SameX R2
theorem R0.mono : ∀ H H' x y, Same H H' → R0 H x y → R0 H' x y := fun _ _ _ _ _ h => h
theorem R1.mono : ∀ H H' x y, Same H H' → R1 H x y → R1 H' x y := SameX.mono R0.mono
theorem R2.mono : ∀ H H' x y, Same H H' → R2 H x y → R2 H' x y := SameX.mono R1.mono
theorem R3.mono : ∀ H H' x y, Same H H' → R3 H x y → R3 H' x y := SameX.mono R2.mono
def spIsR (S : Hp → V → V → Prop) : Sp := fun vs H Q _ => ∃ x y, vs = [x, y] ∧ S H x y ∧ ∀ H', Same H H' → Q (.bl true) H'
theorem walk_zipT2 {K : PySem.W.Frag} {a b : Addr} {xs ys : List V} {n : Nat} (hn : n = min xs.length ys.length) : Walk (RZ.ItzT K a b) n (fun H => SqT K H a xs ∧ SqT K H b ys) (YPair (fun i => xs[i]?) (fun i => ys[i]?)) := by
  subst hn
  refine ⟨fun i _ hi q => ?_, fun _ q => ⟨xs, ys, q.1, q.2, by omega⟩, fun i H v H' _ q y => ?_⟩
  · have h1 : i < xs.length := by omega
    have h2 : i < ys.length := by omega
    exact ⟨xs, ys, xs[i], ys[i], q.1, q.2, by simp [h1], by simp [h2]⟩
  · obtain ⟨T, x, z, h1, h2, h3, h4, h5⟩ := y
    exact ⟨T, x, z, h1, h2, h3, h4 xs q.1, h5 ys q.2⟩
theorem kitL {K : PySem.W.Frag} (k : Kn) : PySem.W.kitAny K (.type k.name) [.type "tuple", .type "list"] = some (decide (k = .tup) || decide (k = .lst)) := kit_tl k
section
variable {P : Program} {w : World} {K : PySem.W.Frag} {mg : Str → Option Value} {base : Heap}

theorem ok_is_step {S : Hp → V → V → Prop} (hm : ∀ H H' x y, Same H H' → S H x y → S H' x y) {k : Nat} {f : Addr} {fd : FuncData} (F : Fun K "_law_is" "_law_is" sIs f fd) (bS : Binds K fd ["told", "due"] []) (gS : mg "_law_is" = some (.ref f)) (G : FnOk P w K mg base CX0 k f fd ["told", "due"] (spIsR S)) (T : Glob mg) : FnOk P w K mg base CX0 (k + 1) f fd ["told", "due"] (spIsR (SameX S)) := by
  refine F.ok scIs (fun vs H Q E h => ?_) (fun cdv A outer s H vs Q E hr h => ?_)
  · obtain ⟨x, y, rfl, _⟩ := h
    rfl
  · refine ⟨_, (pss_cons (ps_if (pt_val (pe_callB call_isiT (by rfl) T.isinstance PyProof.Rows.boot_isinstance (pa_cons (pv 1) (pa_cons (pe_tup (pa_cons (pe_bltn (v := .ty "tuple") (by rfl) T.tuple (by decide +kernel) rfl) (pa_cons (pe_bltn (v := .ty "list") (by rfl) T.list (by decide +kernel) rfl) pa_nil))) pa_nil))))
      (pss_cons (ps_if (PW.pt (pw_or (pt_cmpR op_ne (pe_callB call_isi (by rfl) T.isinstance PyProof.Rows.boot_isinstance (pa_cons (pv 0) (pa_cons (pe_bltn (v := .ty "tuple") (by rfl) T.tuple (by decide +kernel) rfl) pa_nil))) (pe_callB call_isi (by rfl) T.isinstance PyProof.Rows.boot_isinstance (pa_cons (pv 1) (pa_cons (pe_bltn (v := .ty "tuple") (by rfl) T.tuple (by decide +kernel) rfl) pa_nil))) (nomark _)) (pw_or1 (pt_not (pt_val (pe_callB call_isiT (by rfl) T.isinstance PyProof.Rows.boot_isinstance (pa_cons (pv 0) (pa_cons (pe_tup (pa_cons (pe_bltn (v := .ty "tuple") (by rfl) T.tuple (by decide +kernel) rfl) (pa_cons (pe_bltn (v := .ty "list") (by rfl) T.list (by decide +kernel) rfl) pa_nil))) pa_nil))))))))
        (pss_one (ps_ret pe_bl))
        pss_nil)
        (pss_one (ps_ret (pe_and (pe_cmpR op_eq (pe_callB call_len_seq (by rfl) T.len PySem.boot_len (pa_cons (pv 0) pa_nil)) (pe_callB call_len_seq (by rfl) T.len PySem.boot_len (pa_cons (pv 1) pa_nil)) (nomark _)) (pe_one (pe_callB (cr_all rfl) (by rfl) T.all (by decide +kernel) (pa_cons (pe_lc (own := [("one", 2), ("two", 3)]) (g := (gTup K 2 (gCons (gName 2) (gCons (gName 3) gNil)))) (by rfl) scIs.nd (RZ.pi_zipA (by rfl) T.zip (pa_cons (pv 0) (pa_cons (pv 1) pa_nil))) (blkOk_by (N := ["told", "due", "one", "two"]) (sc := defScope sIs) (by decide +kernel)) (fun _ _ _ _ _ => pg_tup (by rfl) (pgs_cons (pg_name (i := 2) scIs.nd rfl (.inl rfl)) (pgs_cons (pg_name (i := 3) scIs.nd rfl (.inl rfl)) pgs_nil))) (fun _ _ _ _ _ => pts_nil) (fun _ _ _ _ _ => (pe_call G (hr.mono (by omega)) (by rfl) gS F.kp bS .nil pass0 (pa_cons (pv 2) (pa_cons (pv 3) pa_nil))))) pa_nil)))))))
      pss_nil)
      (pss_one (ps_ret (pe_and (pe_cmpR op_eq (pe_callB call_isi (by rfl) T.isinstance PyProof.Rows.boot_isinstance (pa_cons (pv 0) (pa_cons (pe_bltn (v := .ty "bool") (by rfl) T.bool (by decide +kernel) rfl) pa_nil))) (pe_callB call_isi (by rfl) T.isinstance PyProof.Rows.boot_isinstance (pa_cons (pv 1) (pa_cons (pe_bltn (v := .ty "bool") (by rfl) T.bool (by decide +kernel) rfl) pa_nil))) (nomark _)) (pe_one (pe_cmpR op_eq (pv 0) (pv 1) (nomark _))))))), ?_⟩
    obtain ⟨x, y, rfl, hS, q⟩ := h
    have pc : Paired ClsV [V.ty "tuple", V.ty "list"] [.type "tuple", .type "list"] := .cons (.ty _) (.cons (.ty _) .nil)
    have hq : (∃ k, (∀ H, Kd H x k) ∧ k ≠ .tup ∧ k ≠ .lst ∧ scal x x = true ∧ x = y) ∨ (∃ a b xs ys, x = .ref a ∧ y = .ref b ∧ xs.length = ys.length ∧ xs.length ≤ 5000 ∧ (∀ (i : Nat) x y, xs[i]? = some x → ys[i]? = some y → S H x y) ∧ (H a = some (.tup xs) ∧ H b = some (.tup ys) ∨ H a = some (.lst xs) ∧ H b = some (.lst ys))) := by
      cases hS with
      | sc h =>
        cases h with
        | int i => exact .inl ⟨.int, fun _ => .int i, by decide, by decide, rfl, rfl⟩
        | str z => exact .inl ⟨.str, fun _ => .str z, by decide, by decide, rfl, rfl⟩
        | non => exact .inl ⟨.non, fun _ => .non, by decide, by decide, rfl, rfl⟩
      | bl b => exact .inl ⟨.bl, fun _ => .bl b, by decide, by decide, rfl, rfl⟩
      | tup ha hb hl few hp => exact .inr ⟨_, _, _, _, rfl, rfl, hl, few, hp, .inl ⟨ha, hb⟩⟩
      | lst ha hb hl few hp => exact .inr ⟨_, _, _, _, rfl, rfl, hl, few, hp, .inr ⟨ha, hb⟩⟩
    rcases hq with ⟨k, hk, n1, n2, sx, rfl⟩ | ⟨a, b, xs, ys, rfl, rfl, hl, few, hp, ⟨ha, hb⟩ | ⟨ha, hb⟩⟩
    · refine ⟨x, rfl, by show 2 ≤ sizeLine; decide, fun c nc => ⟨x, c, _, _, _, _, rfl, upd_same, pc, Kd.tyx (hk _), kit_tl k, _, rfl, ?_⟩⟩
      rw [decide_eq_false n1, decide_eq_false n2]
      refine iteF ?_
      refine ⟨x, rfl, x, .ty "bool", .type (Kn.name k), .type "bool", kitB k .bl, rfl, .ty _, Kd.tyx (hk _), kit_kn k .bl, x, rfl, x, .ty "bool", .type (Kn.name k), .type "bool", kitB k .bl, rfl, .ty _, Kd.tyx (hk _), kit_kn k .bl, rfl, _, rfl, ?_⟩
      rw [decide_eq_true rfl]
      refine iteT ⟨x, rfl, x, rfl, sx, ?_⟩
      rw [decide_eq_true rfl]
      exact q _ (Same.new nc)
    · refine ⟨.ref b, rfl, by show 2 ≤ sizeLine; decide, fun c nc => ⟨.ref b, c, _, _, _, _, rfl, upd_same, pc, Kd.tyx (Kd.same (Same.new nc) (.tup hb)), kit_tl .tup, _, rfl, iteT ?_⟩⟩
      have k1 := Same.new (H := H) (o := .tup [V.ty "tuple", .ty "list"]) nc
      have ha1 := k1 _ _ ha
      have hb1 := k1 _ _ hb
      revert k1 ha1 hb1
      generalize upd H c (.tup [V.ty "tuple", .ty "list"]) = H1
      intro k1 ha1 hb1
      refine ⟨.ref a, rfl, .ref a, .ty "tuple", .type (Kn.name .tup), .type "tuple", kitB .tup .tup, rfl, .ty _, Kd.tyx (.tup ha1), kit_kn .tup .tup, .ref b, rfl, .ref b, .ty "tuple", .type (Kn.name .tup), .type "tuple", kitB .tup .tup, rfl, .ty _, Kd.tyx (.tup hb1), kit_kn .tup .tup, rfl, _, rfl, iteF ?_⟩
      refine ⟨.ref a, rfl, by show 2 ≤ sizeLine; decide, fun d nd => ⟨.ref a, d, _, _, _, _, rfl, upd_same, pc, Kd.tyx (Kd.same (Same.new nd) (.tup ha1)), kit_tl .tup, _, rfl, iteF ?_⟩⟩
      have k2 := k1.trans (Same.new (H := H1) (o := .tup [V.ty "tuple", .ty "list"]) nd)
      have ha2 := k2 _ _ ha
      have hb2 := k2 _ _ hb
      revert k2 ha2 hb2
      generalize upd H1 d (.tup [V.ty "tuple", .ty "list"]) = H2
      intro k2 ha2 hb2
      clear nc nd ha1 hb1 k1
      dsimp only [tNext, tDrop]
      refine ⟨.ref a, rfl, a, xs, rfl, .inr (SqT.of ha2), .ref b, rfl, b, ys, rfl, .inr (SqT.of hb2), rfl, _, rfl, ?_⟩
      rw [hl, decide_eq_true rfl]
      refine iteT ⟨.ref a, rfl, .ref b, rfl, a, b, xs, ys, rfl, .inr ⟨SqT.of ha2, SqT.of hb2, fun D nD => lc_it (walk_zipT2 (K := K) (a := a) (b := b) (xs := xs) (ys := ys) (n := xs.length) (by rw [hl, Nat.min_self])) (fun i H' => Same H2 H' ∧ H' D = some (.lst (List.replicate i (V.bl true)))) ⟨Same.new nD, upd_same⟩ (fun i H' _ g => ⟨SqT.of (g.1 _ _ ha2), SqT.of (g.1 _ _ hb2)⟩) ?_ ?_⟩⟩
      · rintro i v H3 H4 hi ⟨k3, hD⟩ ⟨t, y1, y2, rfl, nt, rfl, e1, e2⟩
        have kt := Same.new (H := H3) (o := .tup [y1, y2]) nt
        refine ⟨t, [y1, y2], rfl, SqT.of upd_same, rfl, y1, [y2], rfl, y2, [], rfl, rfl, rfl, y1, rfl, y2, rfl, y1, y2, rfl, hm _ _ _ _ ((k2.trans k3).trans kt) (hp i y1 y2 e1 e2), fun H5 k5 => ⟨_, (kt.trans k5) _ _ hD, ?_, sameAt ((k3.trans kt).trans k5) nD, ?_⟩⟩
        · rw [List.length_replicate]
          have h3 : sizeLine = 16777216 := sizeLine_eq
          omega
        · rw [upd_same, List.replicate_succ']
      · rintro H3 ⟨k3, hD⟩
        refine ⟨D, List.replicate xs.length true, rfl, sq_of (by rw [hD, List.map_replicate]), ?_⟩
        rw [show (List.replicate xs.length true).all id = true from List.all_eq_true.mpr fun b hb => (List.mem_replicate.mp hb).2]
        exact q _ (k2.trans k3)

    · refine ⟨.ref b, rfl, by show 2 ≤ sizeLine; decide, fun c nc => ⟨.ref b, c, _, _, _, _, rfl, upd_same, pc, Kd.tyx (Kd.same (Same.new nc) (.lst hb)), kit_tl .lst, _, rfl, iteT ?_⟩⟩
      have k1 := Same.new (H := H) (o := .tup [V.ty "tuple", .ty "list"]) nc
      have ha1 := k1 _ _ ha
      have hb1 := k1 _ _ hb
      revert k1 ha1 hb1
      generalize upd H c (.tup [V.ty "tuple", .ty "list"]) = H1
      intro k1 ha1 hb1
      refine ⟨.ref a, rfl, .ref a, .ty "tuple", .type (Kn.name .lst), .type "tuple", kitB .lst .tup, rfl, .ty _, Kd.tyx (.lst ha1), kit_kn .lst .tup, .ref b, rfl, .ref b, .ty "tuple", .type (Kn.name .lst), .type "tuple", kitB .lst .tup, rfl, .ty _, Kd.tyx (.lst hb1), kit_kn .lst .tup, rfl, _, rfl, iteF ?_⟩
      refine ⟨.ref a, rfl, by show 2 ≤ sizeLine; decide, fun d nd => ⟨.ref a, d, _, _, _, _, rfl, upd_same, pc, Kd.tyx (Kd.same (Same.new nd) (.lst ha1)), kit_tl .lst, _, rfl, iteF ?_⟩⟩
      have k2 := k1.trans (Same.new (H := H1) (o := .tup [V.ty "tuple", .ty "list"]) nd)
      have ha2 := k2 _ _ ha
      have hb2 := k2 _ _ hb
      revert k2 ha2 hb2
      generalize upd H1 d (.tup [V.ty "tuple", .ty "list"]) = H2
      intro k2 ha2 hb2
      clear nc nd ha1 hb1 k1
      dsimp only [tNext, tDrop]
      refine ⟨.ref a, rfl, a, xs, rfl, .inl (sq_of ha2), .ref b, rfl, b, ys, rfl, .inl (sq_of hb2), rfl, _, rfl, ?_⟩
      rw [hl, decide_eq_true rfl]
      refine iteT ⟨.ref a, rfl, .ref b, rfl, a, b, xs, ys, rfl, .inl ⟨sq_of ha2, sq_of hb2, fun D nD => lc_it (walk_zip (K := K) (a := a) (b := b) (xs := xs) (ys := ys) (n := xs.length) (by rw [hl, Nat.min_self])) (fun i H' => Same H2 H' ∧ H' D = some (.lst (List.replicate i (V.bl true)))) ⟨Same.new nD, upd_same⟩ (fun i H' _ g => ⟨sq_of (g.1 _ _ ha2), sq_of (g.1 _ _ hb2)⟩) ?_ ?_⟩⟩
      · rintro i v H3 H4 hi ⟨k3, hD⟩ ⟨t, y1, y2, rfl, nt, rfl, e1, e2⟩
        have kt := Same.new (H := H3) (o := .tup [y1, y2]) nt
        refine ⟨t, [y1, y2], rfl, SqT.of upd_same, rfl, y1, [y2], rfl, y2, [], rfl, rfl, rfl, y1, rfl, y2, rfl, y1, y2, rfl, hm _ _ _ _ ((k2.trans k3).trans kt) (hp i y1 y2 e1 e2), fun H5 k5 => ⟨_, (kt.trans k5) _ _ hD, ?_, sameAt ((k3.trans kt).trans k5) nD, ?_⟩⟩
        · rw [List.length_replicate]
          have h3 : sizeLine = 16777216 := sizeLine_eq
          omega
        · rw [upd_same, List.replicate_succ']
      · rintro H3 ⟨k3, hD⟩
        refine ⟨D, List.replicate xs.length true, rfl, sq_of (by rw [hD, List.map_replicate]), ?_⟩
        rw [show (List.replicate xs.length true).all id = true from List.all_eq_true.mpr fun b hb => (List.mem_replicate.mp hb).2]
        exact q _ (k2.trans k3)

end
end LawK
set_option maxHeartbeats 4000000
namespace LawK
open PySem PySem.Spec PyProof.Rows L2 Ev

/-- the own account: its lines at b, how many are synced -/
structure AccAt (H : Hp) (e b : Addr) (ls : List Str) (n : Nat) : Prop where
  ob : H e = some (.lst [.ref b, .int (n : Nat)])
  at_ : H b = some (.lst (lv ls))
  le : n ≤ ls.length
  few : ls.length ≤ 3000
  len : ∀ z ∈ ls, z.length ≤ 200
theorem AccAt.buts {H H' : Hp} {as : List Addr} {e b : Addr} {ls : List Str} {n : Nat} (k : ButS as H H') (h : AccAt H e b ls n) (ne : e ∉ as) (nb : b ∉ as) : AccAt H' e b ls n := ⟨k _ _ ne h.ob, k _ _ nb h.at_, h.le, h.few, h.len⟩
theorem AccAt.same {H H' : Hp} {e b : Addr} {ls : List Str} {n : Nat} (k : Same H H') (h : AccAt H e b ls n) : AccAt H' e b ls n := ⟨k _ _ h.ob, k _ _ h.at_, h.le, h.few, h.len⟩
theorem AccAt.ne {H : Hp} {e b : Addr} {ls : List Str} {n : Nat} (h : AccAt H e b ls n) : e ≠ b := fun z => by
  have h1 := h.ob
  rw [z, h.at_] at h1
  have h2 := HO.lst.inj (Option.some.inj h1)
  cases ls with
  | nil => cases h2
  | cons y l => cases (List.cons.inj h2).1
def spDid : Sp := fun vs H Q _ => ∃ (e b : Addr) (ls : List Str) (n : Nat) (v : V) (D : Deed) (o : Out) (ls' : List Str) (n' : Nat), vs = [.ref e, v] ∧ AccAt H e b ls n ∧ ls.length < 3000 ∧ DeedAt H v D ∧ Stp H ls n D o ls' n' ∧
  ∀ b' t H', (b' = b ∨ H b' = none) → AccAt H' e b' ls' n' → ButS [e] H H' → OutAt H' t o → Q (.ref t) H'
def spIsDisk (C : Addr) : Sp := fun vs H Q _ => ∃ (d a e b : Addr) (ls : List Str) (n : Nat), vs = [.ref d, .ref e] ∧ DskAt H C d a ls n ∧ AccAt H e b ls n ∧ ∀ H', Same H H' → Q (.bl true) H'
theorem cut_num {z : Str} {y : V} (h : inV2 0 ((z.length : Nat) : Int) y = true) : ∃ m : Int, y = .int m ∧ 0 ≤ m := by
  cases y with
  | int m => exact ⟨m, rfl, of_decide_eq_true (Bool.and_eq_true_iff.mp (show (decide (0 ≤ m) && _) = true from h)).1⟩
  | _ => exact Bool.noConfusion h
theorem stp_ok {H : Hp} {ls : List Str} {n : Nat} {v : V} {D : Deed} {o : Out} {ls' : List Str} {n' : Nat} (hv : DeedAt H v D) (h : Stp H ls n D o ls' n') (le : n ≤ ls.length) (len : ∀ z ∈ ls, z.length ≤ 200) : n' ≤ ls'.length ∧ ls'.length ≤ ls.length + 1 ∧ ∀ z ∈ ls', z.length ≤ 200 := by
  cases h with
  | w0 h => exact ⟨le, Nat.le_succ _, len⟩
  | @w1 z h =>
    cases hv with
    | write e hk hvs l =>
      refine ⟨by rw [List.length_append]; omega, by rw [List.length_append, List.length_singleton]; exact Nat.le_refl _, fun y hy => ?_⟩
      rcases List.mem_append.mp hy with hy | hy
      · exact len y hy
      · rw [List.mem_singleton.mp hy]
        exact l z rfl
  | s => exact ⟨Nat.le_refl _, Nat.le_succ _, len⟩
  | d0 h => exact ⟨le, Nat.le_succ _, len⟩
  | @d1 m h => exact ⟨by rw [List.length_take]; omega, by rw [List.length_take]; omega, fun z hz => len z (List.mem_of_mem_take hz)⟩
  | c0 h => exact ⟨le, Nat.le_succ _, len⟩
  | @c1 b xs e fl h =>
    obtain ⟨c1, c2⟩ := Bool.and_eq_true_iff.mp h
    have c1 := of_decide_eq_true c1
    have lc : (cutL (ls.drop n) xs).length = ls.length - n := by
      unfold cutL
      rw [List.length_map, List.length_zip, List.length_drop, c1, List.length_drop]
      omega
    have lt : (ls.take n ++ cutL (ls.drop n) xs).length = ls.length := by
      rw [List.length_append, lc, List.length_take]
      omega
    refine ⟨by rw [lt]; exact Nat.le_refl _, by rw [lt]; exact Nat.le_succ _, fun z hz => ?_⟩
    rcases List.mem_append.mp hz with hz | hz
    · exact len z (List.mem_of_mem_take hz)
    · obtain ⟨p, hp, rfl⟩ := List.mem_map.mp hz
      obtain ⟨h1, h2⟩ := List.of_mem_zip hp
      have iv : inV2 0 ((p.1.length : Nat) : Int) p.2 = true := by
        obtain ⟨i, ei⟩ := List.getElem?_of_mem hp
        obtain ⟨f1, f2⟩ := List.getElem?_zip_eq_some.mp ei
        exact List.all_eq_true.mp c2 (p.2, p.1) (List.mem_of_getElem? (List.getElem?_zip_eq_some.mpr ⟨f2, f1⟩))
      obtain ⟨m, em, m0⟩ := cut_num iv
      rw [em]
      exact cutTo_len m0 (len _ (List.mem_of_mem_drop h1))
section
variable {P : Program} {w : World} {K : PySem.W.Frag} {mg : Str → Option Value} {base : Heap}
variable {C : Addr}
abbrev sDid : Stmt := topS 26
theorem scDid : FnScope ["account", "deed", "lines", "found", "waits", "many", "line"] ["account", "deed"] (defScope sDid) := ⟨rfl, rfl, rfl, by decide +kernel, rfl, by decide +kernel, by decide +kernel⟩
theorem ok_Did {f : Addr} {fd : FuncData} (F : Fun K "_law_did" "_law_did" sDid f fd) {fIsLine : Addr} {fdIsLine : FuncData} (DIsLine : Dk P w K mg base "_law_is_line" sIsLine ["thing"] 1 spIsLine fIsLine fdIsLine) {fIsNumber : Addr} {fdIsNumber : FuncData} (DIsNumber : Dk P w K mg base "_law_is_number" sIsNumber ["thing", "least", "most"] 1 spIn fIsNumber fdIsNumber) (T : Glob mg) : FnOk P w K mg base CX0 2 f fd ["account", "deed"] spDid := by
  refine F.ok scDid (fun vs H Q E h => ?_) (fun cdv A outer s H vs Q E hr h => ?_)
  · obtain ⟨e, b, ls, n, v, D, o, ls', n', rfl, _⟩ := h
    rfl
  · refine ⟨_, (pss_cons (ps_set (i := 2) scDid.nd rfl (.inl rfl) (pe_ix ix_list (pv 0) pe_int (fun _ _ => rfl)))
      (pss_cons (ps_if (pt_cmpR op_eq (pe_ix ix_tup (pv 1) pe_int (fun _ _ => rfl)) pe_str (nomark _)) (pss_cons (ps_if (pt_not (pt_val (pe_call DIsLine.ok (hr.mono (by decide)) (by rfl) DIsLine.g DIsLine.F.kp DIsLine.b .nil pass0 (pa_cons (pe_ix ix_tup (pv 1) pe_int (fun _ _ => rfl)) pa_nil)))) (pss_one (ps_ret (pe_tup (pa_cons pe_str (pa_cons pe_str pa_nil))))) pss_nil) (pss_cons (ps_asg (pe_op op_cat (pv 2) (pe_lst (pa_cons (pe_ix ix_tup (pv 1) pe_int (fun _ _ => rfl)) pa_nil))) (pg_sub (pv 0) pe_int set_list)) (pss_one (ps_ret (pe_tup (pa_cons pe_str (pa_cons (pe_callB call_len_seq (by rfl) T.len PySem.boot_len (pa_cons (pv 2) pa_nil)) pa_nil))))))) pss_nil)
      (pss_cons (ps_if (pt_cmpR op_eq (pe_ix ix_tup (pv 1) pe_int (fun _ _ => rfl)) pe_str (nomark _)) (pss_cons (ps_asg (pe_tup (pa_cons (pe_callB call_len_seq (by rfl) T.len PySem.boot_len (pa_cons (pv 2) pa_nil)) (pa_cons (pe_op op_sub (pe_callB call_len_seq (by rfl) T.len PySem.boot_len (pa_cons (pv 2) pa_nil)) (pe_ix ix_list (pv 0) pe_int (fun _ _ => rfl))) pa_nil))) (pg_tup (by rfl) (pgs_cons (pg_sub (pv 0) pe_int set_list) (pgs_cons (pg_name (i := 3) scDid.nd rfl (.inl rfl)) pgs_nil)))) (pss_one (ps_ret (pe_tup (pa_cons pe_str (pa_cons (pv 3) pa_nil)))))) pss_nil)
      (pss_cons (ps_if (pt_cmpR op_eq (pe_ix ix_tup (pv 1) pe_int (fun _ _ => rfl)) pe_str (nomark _)) (pss_cons (ps_if (pt_not (pt_val (pe_call DIsNumber.ok (hr.mono (by decide)) (by rfl) DIsNumber.g DIsNumber.F.kp DIsNumber.b .nil pass0 (pa_cons (pe_ix ix_tup (pv 1) pe_int (fun _ _ => rfl)) (pa_cons pe_int (pa_cons (pe_callB call_len_seq (by rfl) T.len PySem.boot_len (pa_cons (pv 2) pa_nil)) pa_nil)))))) (pss_one (ps_ret (pe_tup (pa_cons pe_str (pa_cons pe_str pa_nil))))) pss_nil) (pss_cons (ps_asg (pe_slice sl_list (pv 2) po_none (po_some (pe_ix ix_tup (pv 1) pe_int (fun _ _ => rfl)))) (pg_sub (pv 0) pe_int set_list)) (pss_cons (ps_asg (pe_callB (call_min2 rfl) (by rfl) T.min (by decide +kernel) (pa_cons (pe_ix ix_list (pv 0) pe_int (fun _ _ => rfl)) (pa_cons (pe_ix ix_tup (pv 1) pe_int (fun _ _ => rfl)) pa_nil))) (pg_sub (pv 0) pe_int set_list)) (pss_one (ps_ret (pe_tup (pa_cons pe_str (pa_cons pe_non pa_nil)))))))) pss_nil)
      (pss_cons (ps_set (i := 4) scDid.nd rfl (.inl rfl) (pe_slice sl_list (pv 2) (po_some (pe_ix ix_list (pv 0) pe_int (fun _ _ => rfl))) po_none))
      (pss_cons (ps_if (PW.pt (pw_or (pt_not (pt_val (pe_callB call_isi (by rfl) T.isinstance PyProof.Rows.boot_isinstance (pa_cons (pe_ix ix_tup (pv 1) pe_int (fun _ _ => rfl)) (pa_cons (pe_bltn (v := .ty "tuple") (by rfl) T.tuple (by decide +kernel) rfl) pa_nil))))) (pw_or1 (pt_cmpR op_ne (pe_callB call_len_seq (by rfl) T.len PySem.boot_len (pa_cons (pe_ix ix_tup (pv 1) pe_int (fun _ _ => rfl)) pa_nil)) (pe_callB call_len_seq (by rfl) T.len PySem.boot_len (pa_cons (pv 4) pa_nil)) (nomark _))))) (pss_one (ps_ret (pe_tup (pa_cons pe_str (pa_cons pe_str pa_nil))))) pss_nil)
      (pss_cons (ps_if (pt_not (pt_val (pe_callB (cr_all rfl) (by rfl) T.all (by decide +kernel) (pa_cons (pe_lc (own := [("many", 5), ("line", 6)]) (g := (gTup K 2 (gCons (gName 5) (gCons (gName 6) gNil)))) (by rfl) scDid.nd (pi_zipS (by rfl) T.zip (pa_cons (pe_ix ix_tup (pv 1) pe_int (fun _ _ => rfl)) (pa_cons (pv 4) pa_nil))) (blkOk_by (N := ["account", "deed", "lines", "found", "waits", "many", "line"]) (sc := defScope sDid) (by decide +kernel)) (fun _ _ _ _ _ => pg_tup (by rfl) (pgs_cons (pg_name (i := 5) scDid.nd rfl (.inl rfl)) (pgs_cons (pg_name (i := 6) scDid.nd rfl (.inl rfl)) pgs_nil))) (fun _ _ _ _ _ => pts_nil) (fun _ _ _ _ _ => (pe_call DIsNumber.ok (hr.mono (by decide)) (by rfl) DIsNumber.g DIsNumber.F.kp DIsNumber.b .nil pass0 (pa_cons (pv 5) (pa_cons pe_int (pa_cons (pe_callB call_lenZ (by rfl) T.len PySem.boot_len (pa_cons (pv 6) pa_nil)) pa_nil)))))) pa_nil)))) (pss_one (ps_ret (pe_tup (pa_cons pe_str (pa_cons pe_str pa_nil))))) pss_nil)
      (pss_cons (ps_asg (pe_op op_cat (pe_slice sl_list (pv 2) po_none (po_some (pe_ix ix_list (pv 0) pe_int (fun _ _ => rfl)))) (pe_lc (own := [("many", 5), ("line", 6)]) (g := (gTup K 2 (gCons (gName 5) (gCons (gName 6) gNil)))) (by rfl) scDid.nd (pi_zipS (by rfl) T.zip (pa_cons (pe_ix ix_tup (pv 1) pe_int (fun _ _ => rfl)) (pa_cons (pv 4) pa_nil))) (blkOk_by (N := ["account", "deed", "lines", "found", "waits", "many", "line"]) (sc := defScope sDid) (by decide +kernel)) (fun _ _ _ _ _ => pg_tup (by rfl) (pgs_cons (pg_name (i := 5) scDid.nd rfl (.inl rfl)) (pgs_cons (pg_name (i := 6) scDid.nd rfl (.inl rfl)) pgs_nil))) (fun _ _ _ _ _ => pts_nil) (fun _ _ _ _ _ => (pe_slice sl_str (pv 6) po_none (po_some (pv 5)))))) (pg_sub (pv 0) pe_int set_list))
      (pss_cons (ps_asg (pe_callB call_len_seq (by rfl) T.len PySem.boot_len (pa_cons (pv 2) pa_nil)) (pg_sub (pv 0) pe_int set_list))
      (pss_one (ps_ret (pe_tup (pa_cons pe_str (pa_cons pe_non pa_nil)))))))))))))), ?_⟩
    obtain ⟨e, b, ls, n, v, D, o, ls', n', rfl, hA, few, hv, hs, q⟩ := h
    have sz : sizeLine = 16777216 := sizeLine_eq
    have he := hA.ob
    have hb := hA.at_
    have neb := hA.ne
    have ln := hA.le
    have ll : (lv ls).length = ls.length := List.length_map ..
    obtain ⟨p1, p2, p3⟩ := stp_ok hv hs ln hA.len
    have out : ∀ {H1 : Hp} {b' : Addr}, (b' = b ∨ H b' = none) → H1 e = some (.lst [.ref b', .int (n' : Nat)]) → H1 b' = some (.lst (lv ls')) → ButS [e] H H1 → ∀ t, H1 t = none → Q (.ref t) (upd H1 t (.tup o.vs)) := fun {H1 b'} hb' h1 h2 bs t nt => q b' t _ hb' ⟨(Same.new nt) _ _ h1, (Same.new nt) _ _ h2, p1, by omega, p3⟩ (bs.new nt) upd_same
    have outS : ∀ {H1 : Hp}, ls' = ls → n' = n → Same H H1 → ∀ t, H1 t = none → Q (.ref t) (upd H1 t (.tup o.vs)) := fun {H1} el en k => out (.inl rfl) (by rw [en]; exact k _ _ he) (by rw [el]; exact k _ _ hb) (ButS.of k)
    refine ⟨.ref e, rfl, e, _, 0, _, rfl, rfl, sq_of he, rfl, ?_⟩
    dsimp only [tSeq, gName]
    have frs : ∀ {H1 : Hp} {L : Addr}, Same H H1 → H1 L = none → e ≠ L := fun {H1 L} k nL z => by rw [← z, k _ _ he] at nL; cases nL
    cases hv with
    | @write t x k et hk hvs l =>
      refine ⟨.ref t, rfl, t, _, 0, _, rfl, rfl, SqT.of et, rfl, rfl, _, rfl, seq ?_⟩
      refine ⟨.ref t, rfl, t, _, 1, x, rfl, rfl, SqT.of et, rfl, x, k, rfl, hk, hvs, fun H1 k1 => ⟨_, rfl, ?_⟩⟩
      cases hs with
      | w0 h =>
        rw [h]
        exact iteT ⟨by show 2 ≤ sizeLine; decide, fun r nr => outS rfl rfl k1 r nr⟩
      | @w1 z h =>
        rw [show sgV (.str z) = true from h]
        refine iteF ?_
        dsimp only [tNext, tDrop, tSeq, tAsg]
        have et1 := k1 _ _ et
        have he1 := k1 _ _ he
        have hb1 := k1 _ _ hb
        refine ⟨.ref b, rfl, .ref t, rfl, t, _, 1, .str z, rfl, rfl, SqT.of et1, rfl, by show 1 ≤ sizeLine; decide, fun L nL => ?_⟩
        have kL := Same.new (o := .lst [V.str z]) nL
        refine ⟨b, L, lv ls, [.str z], rfl, rfl, kL _ _ hb1, upd_same, by rw [ll]; show ls.length + 1 ≤ _; omega, fun p np => ?_⟩
        have kp := kL.trans (Same.new (o := .lst (lv ls ++ [V.str z])) np)
        have k2 := k1.trans kp
        have hp : upd (upd H1 L (.lst [V.str z])) p (.lst (lv ls ++ [V.str z])) p = some (.lst (lv (ls ++ [z]))) := by rw [upd_same, lv_snoc]
        have nep := frs (k1.trans kL) np
        have npH : H p = none := Same.free (k1.trans kL) np
        refine ⟨.ref e, rfl, e, _, 0, 0, rfl, rfl, kp _ _ he1, rfl, ?_⟩
        have eb : ∀ {H9 : Hp}, upd H9 e (.lst (List.set [V.ref b, .int (n : Nat)] 0 (.ref p))) b = H9 b := fun {H9} => upd_ne (Ne.symm neb)
        refine ⟨.ref b, rfl, b, _, rfl, .inl (sq_of (eb.trans (kp _ _ hb1))), by show 2 ≤ sizeLine; decide, fun r nr => ?_⟩
        rw [ll]
        exact out (.inr npH) upd_same ((upd_ne (Ne.symm nep)).trans hp) ((ButS.of k2).upd (by simp)) r nr
    | @sync t et =>
      refine ⟨.ref t, rfl, t, _, 0, _, rfl, rfl, SqT.of et, rfl, rfl, _, rfl, sne (by decide +kernel) ?_⟩
      refine ⟨.ref t, rfl, t, _, 0, _, rfl, rfl, SqT.of et, rfl, rfl, _, rfl, seq ?_⟩
      cases hs with
      | s =>
        try dsimp only [tNext, tDrop, tSeq, tAsg]
        refine ⟨.ref b, rfl, b, _, rfl, .inl (sq_of hb), .ref b, rfl, b, _, rfl, .inl (sq_of hb), .ref e, rfl, e, _, 1, .int (n : Nat), rfl, rfl, sq_of he, rfl, _, _, rfl, rfl, by show 2 ≤ sizeLine; decide, fun r nr => ?_⟩
        rw [ll]
        have kr := Same.new (o := .tup [.int (ls.length : Nat), .int ((ls.length : Int) - (n : Int))]) nr
        refine ⟨r, _, rfl, SqT.of upd_same, rfl, _, _, rfl, .ref e, rfl, e, _, 1, 1, rfl, rfl, kr _ _ he, rfl, _, [], rfl, rfl, ?_⟩
        try dsimp only [tNext, tDrop, tSeq, tAsg, gName]
        refine ⟨_, rfl, by show 2 ≤ sizeLine; decide, fun t2 n2 => ?_⟩
        exact out (.inl rfl) upd_same ((upd_ne (Ne.symm neb)).trans (kr _ _ hb)) ((ButS.of kr).upd (by simp)) t2 n2
    | @drop t x k et hk =>
      refine ⟨.ref t, rfl, t, _, 0, _, rfl, rfl, SqT.of et, rfl, rfl, _, rfl, sne (by decide +kernel) ?_⟩
      refine ⟨.ref t, rfl, t, _, 0, _, rfl, rfl, SqT.of et, rfl, rfl, _, rfl, sne (by decide +kernel) ?_⟩
      refine ⟨.ref t, rfl, t, _, 0, _, rfl, rfl, SqT.of et, rfl, rfl, _, rfl, seq ?_⟩
      refine ⟨.ref t, rfl, t, _, 1, x, rfl, rfl, SqT.of et, rfl, .ref b, rfl, b, _, rfl, .inl (sq_of hb), x, k, 0, ((lv ls).length : Int), rfl, hk, ⟨_, rfl, ?_⟩⟩
      rw [ll]
      cases hs with
      | d0 h =>
        rw [h]
        exact iteT ⟨by show 2 ≤ sizeLine; decide, fun r nr => outS rfl rfl (Same.refl H) r nr⟩
      | @d1 m h =>
        have iv : inV2 0 ((ls.length : Nat) : Int) (.int (m : Nat)) = true := by
          show (decide ((0 : Int) ≤ (m : Int)) && decide ((m : Int) ≤ ((ls.length : Nat) : Int))) = true
          rw [decide_eq_true (by omega), decide_eq_true (by omega)]
          rfl
        rw [iv]
        refine iteF ?_
        dsimp only [tNext, tDrop, tSeq, tAsg]
        refine ⟨.ref b, rfl, .ref t, rfl, t, _, 1, .int (m : Nat), rfl, rfl, SqT.of et, rfl, (m : Int), rfl, b, _, rfl, sq_of hb, fun p np => ?_⟩
        have kp := Same.new (o := .lst (cutV (lv ls) none (some (m : Int)))) np
        have hp : upd H p (.lst (cutV (lv ls) none (some (m : Int)))) p = some (.lst (lv (ls.take m))) := by rw [upd_same, cutV_to (by omega), lv_take, Int.toNat_natCast]
        have nep := frs (Same.refl H) np
        refine ⟨.ref e, rfl, e, _, 0, 0, rfl, rfl, kp _ _ he, rfl, ?_⟩
        have net : t ≠ e := fun z => by rw [z, he] at et; cases et
        have et1 : upd (upd H p (.lst (cutV (lv ls) none (some (m : Int))))) e (.lst (List.set [V.ref b, .int (n : Nat)] 0 (.ref p))) t = some (.tup [.str "drop", .int (m : Nat)]) := by
          rw [upd_ne net]
          exact kp _ _ et
        have he1 : upd (upd H p (.lst (cutV (lv ls) none (some (m : Int))))) e (.lst (List.set [V.ref b, .int (n : Nat)] 0 (.ref p))) e = some (.lst [.ref p, .int (n : Nat)]) := upd_same
        have hp1 : upd (upd H p (.lst (cutV (lv ls) none (some (m : Int))))) e (.lst (List.set [V.ref b, .int (n : Nat)] 0 (.ref p))) p = some (.lst (lv (ls.take m))) := (upd_ne (Ne.symm nep)).trans hp
        have bs1 : ButS [e] H (upd (upd H p (.lst (cutV (lv ls) none (some (m : Int))))) e (.lst (List.set [V.ref b, .int (n : Nat)] 0 (.ref p)))) := (ButS.of kp).upd (by simp)
        revert et1 he1 hp1 bs1
        generalize upd (upd H p (.lst (cutV (lv ls) none (some (m : Int))))) e (.lst (List.set [V.ref b, .int (n : Nat)] 0 (.ref p))) = H2
        intro et1 he1 hp1 bs1
        refine ⟨.ref e, rfl, e, _, 1, .int (n : Nat), rfl, rfl, sq_of he1, rfl, .ref t, rfl, t, _, 1, .int (m : Nat), rfl, rfl, SqT.of et1, rfl, _, _, rfl, ?_⟩
        have em : (if (m : Int) < (n : Int) then (m : Int) else (n : Int)) = ((min n m : Nat) : Int) := by
          split <;> omega
        rw [em]
        refine ⟨.ref e, rfl, e, _, 1, 1, rfl, rfl, he1, rfl, ?_⟩
        exact ⟨by show 2 ≤ sizeLine; decide, fun r nr => out (.inr np) upd_same ((upd_ne (Ne.symm nep)).trans hp1) (bs1.upd (by simp)) r nr⟩
    | @cut t x k et hk fl =>
      refine ⟨.ref t, rfl, t, _, 0, _, rfl, rfl, SqT.of et, rfl, rfl, _, rfl, sne (by decide +kernel) ?_⟩
      refine ⟨.ref t, rfl, t, _, 0, _, rfl, rfl, SqT.of et, rfl, rfl, _, rfl, sne (by decide +kernel) ?_⟩
      refine ⟨.ref t, rfl, t, _, 0, _, rfl, rfl, SqT.of et, rfl, rfl, _, rfl, sne (by decide +kernel) ?_⟩
      try dsimp only [tNext, tDrop, tSeq, tAsg]
      refine ⟨.ref b, rfl, .ref e, rfl, e, _, 1, .int (n : Nat), rfl, rfl, sq_of he, rfl, (n : Int), rfl, b, _, rfl, sq_of hb, fun W nW => ?_⟩
      have eW : upd H W (.lst (cutV (lv ls) (some (n : Int)) none)) W = some (.lst (lv (ls.drop n))) := by
        rw [upd_same, cutV_from (by omega), lv_drop, Int.toNat_natCast]
      have kW := Same.new (o := .lst (cutV (lv ls) (some (n : Int)) none)) nW
      revert eW kW
      generalize upd H W (.lst (cutV (lv ls) (some (n : Int)) none)) = H1
      intro eW kW
      have et1 := kW _ _ et
      try dsimp only [tNext, tDrop, tSeq, tAsg, gName]
      have lw : (lv (ls.drop n)).length = (ls.drop n).length := List.length_map ..
      by_cases nk : k = .tup
      case neg =>
        have hk1 := hk.same kW
        refine ⟨.ref t, rfl, t, _, 1, x, rfl, rfl, SqT.of et1, rfl, x, .ty "tuple", .type (Kn.name k), .type "tuple", false, rfl, .ty _, Kd.tyx hk1, kit_no nk, _, rfl, iteT ?_⟩
        cases hs with
        | c0 h => exact ⟨by show 2 ≤ sizeLine; decide, fun r nr => outS rfl rfl kW r nr⟩
        | c1 hb2 f h =>
          cases hk with
          | tup e2 => exact absurd rfl nk
          | lst e2 => rw [hb2] at e2; cases e2
          | dic e2 => rw [hb2] at e2; cases e2
      subst nk
      cases hk with
      | @tup g xs hg =>
      have hg1 := kW _ _ hg
      obtain ⟨fx, fl⟩ := fl g xs rfl hg
      refine ⟨.ref t, rfl, t, _, 1, .ref g, rfl, rfl, SqT.of et1, rfl, .ref g, .ty "tuple", .type (Kn.name .tup), .type "tuple", kitB .tup .tup, rfl, .ty _, Kd.tyx (.tup hg1), kit_kn .tup .tup, _, rfl, iteF ?_⟩
      refine ⟨.ref t, rfl, t, _, 1, .ref g, rfl, rfl, SqT.of et1, rfl, g, _, rfl, .inr (SqT.of hg1), .ref W, rfl, W, _, rfl, .inl (sq_of eW), rfl, _, rfl, ?_⟩
      have cb : ∀ c, cutB (ls.drop n) xs = c → (c = false → ls' = ls ∧ n' = n ∧ o = .cut) ∧ (c = true → o = .told none ∧ ls' = ls.take n ++ cutL (ls.drop n) xs ∧ n' = ls.length) := fun c hc => by
        cases hs with
        | c0 h =>
          obtain ⟨_, e2⟩ := h.tup g xs rfl hg
          rw [hc] at e2
          subst e2
          exact ⟨fun _ => ⟨rfl, rfl, rfl⟩, fun z => Bool.noConfusion z⟩
        | c1 hb2 f h =>
          rw [hg] at hb2
          cases hb2
          rw [hc] at h
          subst h
          exact ⟨fun z => Bool.noConfusion z, fun _ => ⟨rfl, rfl, rfl⟩⟩
      by_cases el : xs.length = (ls.drop n).length
      case neg =>
        have ne : ¬ V.int (xs.length : Int) = V.int ((lv (ls.drop n)).length : Int) := fun z => el (by have := V.int.inj z; omega)
        rw [decide_eq_false ne]
        have e2 : cutB (ls.drop n) xs = false := by
          unfold cutB
          rw [decide_eq_false el, Bool.false_and]
        obtain ⟨c1, c2, c3⟩ := (cb _ e2).1 rfl
        subst c3
        exact iteT ⟨by show 2 ≤ sizeLine; decide, fun r nr => outS c1 c2 kW r nr⟩
      have ee : V.int (xs.length : Int) = V.int ((lv (ls.drop n)).length : Int) := by rw [el, lw]
      rw [decide_eq_true ee]
      refine iteF ?_
      try dsimp only [tNext, tDrop, tSeq, tAsg, gName]
      refine ⟨.ref t, rfl, t, _, 1, .ref g, rfl, rfl, SqT.of et1, rfl, .ref W, rfl, .tup g, .lst W, xs, lv (ls.drop n), rfl, SqT.of hg1, sq_of eW, fun G nG => lc_it (walk_zipS (K := K) (k1 := .tup g) (k2 := .lst W) (xs := xs) (ys := lv (ls.drop n)) (n := (xs.zip (ls.drop n)).length) (by rw [List.length_zip, lw])) (fun i H' => Same H1 H' ∧ H' G = some (.lst ((((xs.zip (ls.drop n)).take i).map fun p => inV2 0 ((p.2.length : Nat) : Int) p.1).map V.bl))) ⟨Same.new nG, upd_same⟩ (fun i H' _ w => ⟨SqT.of (w.1 _ _ hg1), sq_of (w.1 _ _ eW)⟩) ?_ ?_⟩
      · rintro i v H3 H4 hi ⟨k3, hG⟩ ⟨tt, y1, y2, rfl, nt, rfl, e1, e2⟩
        dsimp only at e1 e2
        have kt := Same.new (H := H3) (o := .tup [y1, y2]) nt
        obtain ⟨z, ez, rfl⟩ := Option.map_eq_some_iff.mp ((List.getElem?_map (f := V.str) (l := ls.drop n) (i := i)).symm.trans e2)
        have epz : (xs.zip (ls.drop n))[i]? = some (y1, z) := List.getElem?_zip_eq_some.mpr ⟨e1, ez⟩
        have lz := hA.len z (List.mem_of_mem_drop (List.mem_of_getElem? ez))
        have hy : ∃ k, ∀ H : Hp, Kd H y1 k := by
          rcases fl y1 (List.mem_of_getElem? e1) with ⟨m, rfl⟩ | ⟨c, rfl⟩
          · exact ⟨.int, fun _ => .int m⟩
          · exact ⟨.bl, fun _ => .bl c⟩
        obtain ⟨ky, hy⟩ := hy
        refine ⟨tt, _, rfl, SqT.of upd_same, rfl, _, _, rfl, _, [], rfl, rfl, rfl, y1, rfl, .str z, rfl, z, rfl, len5 (by omega), y1, ky, 0, _, rfl, hy _, _, kt _ _ hG, ?_, sameAt (k3.trans kt) nG, ?_⟩
        · rw [List.length_map, List.length_map, List.length_take, List.length_zip]
          omega
        · rw [upd_same, List.take_succ, epz, Option.toList_some, List.map_append, List.map_append]
          rfl
      rintro H3 ⟨k3, hG⟩
      rw [List.take_length] at hG
      refine ⟨G, (xs.zip (ls.drop n)).map fun p => inV2 0 ((p.2.length : Nat) : Int) p.1, rfl, sq_of hG, _, rfl, ?_⟩
      have ea : ((xs.zip (ls.drop n)).map fun p => inV2 0 ((p.2.length : Nat) : Int) p.1).all id = cutB (ls.drop n) xs := by
        unfold cutB
        rw [decide_eq_true el, Bool.true_and, List.all_map]
        rfl
      rw [ea]
      have k03 := kW.trans k3
      cases hc : cutB (ls.drop n) xs with
      | false =>
        obtain ⟨c1, c2, c3⟩ := (cb _ hc).1 rfl
        subst c3
        exact iteT ⟨by show 2 ≤ sizeLine; decide, fun r nr => outS c1 c2 k03 r nr⟩
      | true =>
        obtain ⟨c3, c1, c2⟩ := (cb _ hc).2 rfl
        subst c1 c2 c3
        refine iteF ?_
        try dsimp only [tNext, tDrop, tSeq, tAsg, gName]
        have he3 := k03 _ _ he
        have hb3 := k03 _ _ hb
        refine ⟨.ref b, rfl, .ref e, rfl, e, _, 1, .int (n : Nat), rfl, rfl, sq_of he3, rfl, (n : Int), rfl, b, _, rfl, sq_of hb3, fun Z nZ => ?_⟩
        have eZ : upd H3 Z (.lst (cutV (lv ls) none (some (n : Int)))) Z = some (.lst (lv (ls.take n))) := by
          rw [upd_same, cutV_to (by omega), lv_take, Int.toNat_natCast]
        have kZ := Same.new (o := .lst (cutV (lv ls) none (some (n : Int)))) nZ
        revert eZ kZ
        generalize upd H3 Z (.lst (cutV (lv ls) none (some (n : Int)))) = H4
        intro eZ kZ
        have k04 := k03.trans kZ
        have et4 := k04 _ _ et
        have hg4 := k04 _ _ hg
        have eW4 := (k3.trans kZ) _ _ eW
        have hall := (Bool.and_eq_true_iff.mp hc).2
        refine ⟨.ref t, rfl, t, _, 1, .ref g, rfl, rfl, SqT.of et4, rfl, .ref W, rfl, .tup g, .lst W, xs, lv (ls.drop n), rfl, SqT.of hg4, sq_of eW4, fun R nR => lc_it (walk_zipS (K := K) (k1 := .tup g) (k2 := .lst W) (xs := xs) (ys := lv (ls.drop n)) (n := (xs.zip (ls.drop n)).length) (by rw [List.length_zip, lw])) (fun i H' => Same H4 H' ∧ H' R = some (.lst (lv ((cutL (ls.drop n) xs).take i)))) ⟨Same.new nR, upd_same⟩ (fun i H' _ w => ⟨SqT.of (w.1 _ _ hg4), sq_of (w.1 _ _ eW4)⟩) ?_ ?_⟩
        · rintro i v H5 H6 hi ⟨k5, hR⟩ ⟨tt, y1, y2, rfl, nt, rfl, e1, e2⟩
          dsimp only at e1 e2
          have kt := Same.new (H := H5) (o := .tup [y1, y2]) nt
          obtain ⟨z, ez, rfl⟩ := Option.map_eq_some_iff.mp ((List.getElem?_map (f := V.str) (l := ls.drop n) (i := i)).symm.trans e2)
          have epz : ((ls.drop n).zip xs)[i]? = some (z, y1) := List.getElem?_zip_eq_some.mpr ⟨ez, e1⟩
          have epx : (xs.zip (ls.drop n))[i]? = some (y1, z) := List.getElem?_zip_eq_some.mpr ⟨e1, ez⟩
          obtain ⟨m, rfl, m0⟩ := cut_num (z := z) (List.all_eq_true.mp hall _ (List.mem_of_getElem? epx))
          have lz := hA.len z (List.mem_of_mem_drop (List.mem_of_getElem? ez))
          have ecu : (cutL (ls.drop n) xs)[i]? = some (cutTo z (.int m)) := by
            unfold cutL
            rw [List.getElem?_map, epz]
            rfl
          refine ⟨tt, _, rfl, SqT.of upd_same, rfl, _, _, rfl, _, [], rfl, rfl, rfl, .str z, rfl, .int m, rfl, m, rfl, z, rfl, len5 (by omega), _, kt _ _ hR, ?_, sameAt (k5.trans kt) nR, ?_⟩
          · rw [List.length_map, List.length_take]
            unfold cutL
            rw [List.length_map, List.length_zip, List.length_drop]
            omega
          · rw [upd_same, List.take_succ, ecu, Option.toList_some, lv_snoc]
            rfl
        rintro H5 ⟨k5, hR⟩
        have lcz : (xs.zip (ls.drop n)).length = (cutL (ls.drop n) xs).length := by
          unfold cutL
          rw [List.length_map, List.length_zip, List.length_zip]
          omega
        rw [lcz, List.take_length] at hR
        have k05 := k04.trans k5
        have eZ5 := k5 _ _ eZ
        have lc : (cutL (ls.drop n) xs).length ≤ ls.length := by
          unfold cutL
          rw [List.length_map, List.length_zip, List.length_drop]
          omega
        refine ⟨Z, R, lv (ls.take n), lv (cutL (ls.drop n) xs), rfl, rfl, eZ5, hR, by rw [List.length_map, List.length_map, List.length_take]; omega, fun p np => ?_⟩
        have kp := Same.new (o := .lst (lv (ls.take n) ++ lv (cutL (ls.drop n) xs))) np
        have hp : upd H5 p (.lst (lv (ls.take n) ++ lv (cutL (ls.drop n) xs))) p = some (.lst (lv (ls.take n ++ cutL (ls.drop n) xs))) := by rw [upd_same, lv_app]
        have nep := frs k05 np
        have npH : H p = none := Same.free k05 np
        have k06 := k05.trans kp
        have he6 := k06 _ _ he
        have hb6 := k06 _ _ hb
        revert kp hp k06 he6 hb6
        generalize upd H5 p (.lst (lv (ls.take n) ++ lv (cutL (ls.drop n) xs))) = H6
        intro kp hp k06 he6 hb6
        refine ⟨.ref e, rfl, e, _, 0, 0, rfl, rfl, he6, rfl, ?_⟩
        have bs1 : ButS [e] H (upd H6 e (.lst (List.set [V.ref b, .int (n : Nat)] 0 (.ref p)))) := (ButS.of k06).upd (by simp)
        refine ⟨.ref b, rfl, b, _, rfl, .inl (sq_of ((upd_ne (Ne.symm neb)).trans hb6)), .ref e, rfl, e, _, 1, 1, rfl, rfl, upd_same, rfl, ?_⟩
        rw [ll]
        exact ⟨by show 2 ≤ sizeLine; decide, fun r nr => out (.inr npH) upd_same ((upd_ne (Ne.symm nep)).trans ((upd_ne (Ne.symm nep)).trans hp)) (bs1.upd (by simp)) r nr⟩
abbrev sIsDisk : Stmt := topS 28
theorem scIsDisk : FnScope ["disk", "account"] ["disk", "account"] (defScope sIsDisk) := ⟨rfl, rfl, rfl, by decide +kernel, rfl, by decide +kernel, by decide +kernel⟩
theorem ok_IsDisk {f fL fY : Addr} {fd fdL fdY : FuncData} (F : Fun K "_law_is_disk" "_law_is_disk" sIsDisk f fd) (B : DskB K mg C) (mL : Meth K C "lines" fL) (bL : Binds K fdL ["self"] []) (GL : FnOk P w K mg base CX0 1 fL fdL ["self"] (spDLines C)) (mY : Meth K C "synced" fY) (bY : Binds K fdY ["self"] []) (GY : FnOk P w K mg base CX0 1 fY fdY ["self"] (spDSynced C)) {fIs : Addr} {fdIs : FuncData} (DIs : Dk P w K mg base "_law_is" sIs ["told", "due"] 3 (spIsR R3) fIs fdIs) (T : Glob mg) : FnOk P w K mg base CX0 4 f fd ["disk", "account"] (spIsDisk C) := by
  refine F.ok scIsDisk (fun vs H Q E h => ?_) (fun cdv A outer s H vs Q E hr h => ?_)
  · obtain ⟨d, a, e, b, ls, n, rfl, _⟩ := h
    rfl
  · refine ⟨_, (pss_one (ps_ret (pe_call DIs.ok (hr.mono (by decide)) (by rfl) DIs.g DIs.F.kp DIs.b .nil pass0 (pa_cons (pe_tup (pa_cons (pe_meth0 (pv 0) B.cl mL GL (hr.mono (by decide)) bL .nil pass0) (pa_cons (pe_meth0 (pv 0) B.cl mY GY (hr.mono (by decide)) bY .nil pass0) pa_nil))) (pa_cons (pe_tup (pa_cons (pe_ix ix_list (pv 1) pe_int (fun _ _ => rfl)) (pa_cons (pe_ix ix_list (pv 1) pe_int (fun _ _ => rfl)) pa_nil))) pa_nil))))), ?_⟩
    obtain ⟨d, a, e, b, ls, n, rfl, hD, hA, q⟩ := h
    obtain ⟨dx, ed⟩ := hD.ob
    refine ⟨.ref d, rfl, d, dx, _, rfl, ed, lkM (by decide +kernel) (by decide +kernel), d, a, ls, n, rfl, hD, fun c H1 k1 nc hc => ?_⟩
    have hD1 := hD.same k1
    obtain ⟨dx1, ed1⟩ := hD1.ob
    refine ⟨.ref d, rfl, d, dx1, _, rfl, ed1, lkM (by decide +kernel) (by decide +kernel), d, a, ls, n, rfl, hD1, by show 2 ≤ sizeLine; decide, fun t nt => ?_⟩
    have kt := Same.new (o := .tup [.ref c, .int (n : Nat)]) nt
    have hA1 := (hA.same k1).same kt
    refine ⟨.ref e, rfl, e, _, 0, .ref b, rfl, rfl, sq_of hA1.ob, rfl, .ref e, rfl, e, _, 1, .int (n : Nat), rfl, rfl, sq_of hA1.ob, rfl, by show 2 ≤ sizeLine; decide, fun u nu => ?_⟩
    have ku := Same.new (o := .tup [.ref b, .int (n : Nat)]) nu
    have hc2 := (kt.trans ku) _ _ hc
    have hb2 := ku _ _ hA1.at_
    have ht2 := ku _ _ (upd_same (H := H1) (a := t) (o := .tup [.ref c, .int (n : Nat)]))
    refine ⟨.ref t, .ref u, rfl, ?_, fun H4 k4 => q H4 ((k1.trans (kt.trans ku)).trans k4)⟩
    refine .tup ht2 upd_same rfl (by show 2 ≤ 5000; decide) fun i x y e1 e2 => ?_
    match i, e1, e2 with
    | 0, e1, e2 =>
      cases e1
      cases e2
      refine .lst hc2 hb2 rfl (by rw [List.length_map]; have := hA.few; omega) fun i x y e1 e2 => ?_
      rw [e1] at e2
      cases e2
      obtain ⟨z, hz, rfl⟩ := List.mem_map.mp (List.mem_of_getElem? e1)
      exact .sc (.str z)
    | 1, e1, e2 =>
      cases e1
      cases e2
      exact .sc (.int _)
end
end LawK
set_option maxHeartbeats 4000000
namespace LawK
open PySem PySem.Spec PyProof.Rows L2 Ev

def spLine : Sp := fun vs H Q _ => ∃ (p : Addr), vs = [.ref p] ∧ ∃ l, HandL H p l ∧ ∀ z H', sgB z = true → z.length ≤ 30 → HandL H' p l → But p H H' → Q (.str z) H'
theorem sg_app {x y : Str} (hx : sgB x = true) (hy : sgB y = true) : sgB (x ++ y) = true := by
  have h1 : (cod x).all sgC = true := hx
  have h2 : (cod y).all sgC = true := hy
  show (cod (x ++ y)).all sgC = true
  rw [cod_app, List.all_append, h1, h2]
  rfl
theorem sg_to {z : Str} {i : Int} (h : 0 ≤ i) (hz : sgB z = true) : sgB (cutS z none (some i)) = true ∧ (cutS z none (some i)).length ≤ z.length := by
  have e : cod (cutS z none (some i)) = (cod z).take i.toNat := cutS_to h
  constructor
  · show (cod (cutS z none (some i))).all sgC = true
    rw [e]
    exact List.all_eq_true.mpr fun c hc => List.all_eq_true.mp hz c (List.mem_of_mem_take hc)
  · show (cod (cutS z none (some i))).length ≤ (cod z).length
    rw [e, List.length_take]
    omega
theorem sg_from {z : Str} {i : Int} (h : 0 ≤ i) (hz : sgB z = true) : sgB (cutS z (some i) none) = true ∧ (cutS z (some i) none).length ≤ z.length := by
  have e : cod (cutS z (some i) none) = (cod z).drop i.toNat := cutS_from h
  constructor
  · show (cod (cutS z (some i) none)).all sgC = true
    rw [e]
    exact List.all_eq_true.mpr fun c hc => List.all_eq_true.mp hz c (List.mem_of_mem_drop hc)
  · show (cod (cutS z (some i) none)).length ≤ (cod z).length
    rw [e, List.length_drop]
    omega
theorem con_sc (z : Str) : Sc (conV z) := by
  unfold conV
  split
  · exact .str _
  · exact .non
theorem con_rec {z : Str} (l : z.length < 390) : conV (recS z) = .str z := by
  unfold conV
  rw [rec_cod, cont_rec (show (cod z).length < 400 by have : z.length = (cod z).length := rfl; omega)]
theorem con_take {z : Str} (l : z.length < 390) {j : Nat} (hj : j < (recS z).length) : conV (cutS (recS z) none (some (j : Int))) = .non := by
  have e : cod (cutS (recS z) none (some (j : Int))) = (recL (cod z)).take j := by
    have h : cod (cutS (recS z) none (some (j : Int))) = (cod (recS z)).take (j : Int).toNat := cutS_to (by omega)
    rw [h, rec_cod, Int.toNat_natCast]
  have lr : (recS z).length = (recL (cod z)).length := by rw [← rec_cod]; rfl
  unfold conV
  rw [e, cont_take (show (cod z).length < 390 from l) (by omega)]
theorem rec_sg {z : Str} (h : sgB z = true) (l : z.length < 390) : sgB (recS z) = true ∧ (recS z).length ≤ z.length + 4 := by
  refine ⟨sg_app (sg_app (num_sg (by omega)) (by decide +kernel)) h, ?_⟩
  have ln := numZ_len (n := z.length) (by omega)
  unfold recS
  rw [app_len, app_len, colon_len]
  omega
def spRecs : Sp := fun vs H Q _ => ∃ (p : Addr), vs = [.ref p] ∧ ∃ l, HandL H p l ∧ ∀ H', HandL H' p l → But p H H' → Q (.bl true) H'
section
variable {P : Program} {w : World} {K : PySem.W.Frag} {mg : Str → Option Value} {base : Heap}
abbrev sLine : Stmt := topS 20
theorem scLine : FnScope ["hand", "kind", "turn"] ["hand"] (defScope sLine) := ⟨rfl, rfl, rfl, by decide +kernel, rfl, by decide +kernel, by decide +kernel⟩
theorem ok_Line {f : Addr} {fd : FuncData} (F : Fun K "_law_line" "_law_line" sLine f fd) {fDraw : Addr} {fdDraw : FuncData} (DDraw : Dk P w K mg base "_law_draw" sDraw ["hand", "many"] 1 spDraw fDraw fdDraw) {fAnySign : Addr} {fdAnySign : FuncData} (DAnySign : Dk P w K mg base "_law_any_sign" sAnySign ["hand"] 2 spAnySign fAnySign fdAnySign) {fText : Addr} {fdText : FuncData} (DText : Dk P w K mg base "_law_text" sText ["hand", "most"] 4 spLText fText fdText) (T : Glob mg) : FnOk P w K mg base CX0 5 f fd ["hand"] spLine := by
  refine F.ok scLine (fun vs H Q E h => ?_) (fun cdv A outer s H vs Q E hr h => ?_)
  · obtain ⟨p, rfl, _⟩ := h
    rfl
  · refine ⟨_, (pss_cons (ps_set (i := 1) scLine.nd rfl (.inl rfl) (pe_call DDraw.ok (hr.mono (by decide)) (by rfl) DDraw.g DDraw.F.kp DDraw.b .nil pass0 (pa_cons (pv 0) (pa_cons pe_int pa_nil))))
      (pss_cons (ps_if (pt_cmpR op_eq (pv 1) pe_int (nomark _))
      (pss_one (ps_ret (pe_ix ix_list (pe_lst (pa_cons pe_str (pa_cons pe_str (pa_cons pe_str (pa_cons pe_str (pa_cons pe_str (pa_cons pe_str (pa_cons pe_str (pa_cons pe_str pa_nil))))))))) (pe_call DDraw.ok (hr.mono (by decide)) (by rfl) DDraw.g DDraw.F.kp DDraw.b .nil pass0 (pa_cons (pv 0) (pa_cons pe_int pa_nil))) (fun _ _ => rfl))))
      pss_nil)
      (pss_cons (ps_if (pt_cmpR op_eq (pv 1) pe_int (nomark _))
      (pss_one (ps_ret (pe_call DText.ok (hr.mono (by decide)) (by rfl) DText.g DText.F.kp DText.b .nil pass0 (pa_cons (pv 0) (pa_cons pe_int pa_nil)))))
      pss_nil)
      (pss_one (ps_ret (pe_join pe_str (pe_lc (own := [("turn", 2)]) (g := gName 2) (by rfl) scLine.nd (pi_range1 (by rfl) T.range (pa_cons (pe_call DDraw.ok (hr.mono (by decide)) (by rfl) DDraw.g DDraw.F.kp DDraw.b .nil pass0 (pa_cons (pv 0) (pa_cons pe_int pa_nil))) pa_nil)) (blkOk_by (N := ["hand", "kind", "turn"]) (sc := defScope sLine) (by decide +kernel)) (fun _ _ _ _ _ => pg_name (i := 2) scLine.nd rfl (.inl rfl)) (fun _ _ _ _ _ => pts_nil) (fun _ _ _ _ _ => (pe_call DAnySign.ok (hr.mono (by decide)) (by rfl) DAnySign.g DAnySign.F.kp DAnySign.b .nil pass0 (pa_cons (pv 0) pa_nil)))))))))), ?_⟩
    obtain ⟨p, rfl, lh, hH, q⟩ := h
    refine ⟨.ref p, rfl, p, 6, rfl, by decide, by decide, lh, hH, fun kk H1 k0 k6 h1 b1 => ?_⟩
    try dsimp only [tNext, tDrop, tSeq, tAsg, gName]
    refine ⟨.int kk, rfl, rfl, _, rfl, ite2 (fun e => ?_) (fun e => ?_)⟩
    · refine ⟨by show 8 ≤ sizeLine; decide, fun a na => ?_⟩
      have ka := Same.new (o := .lst [.str "", .str "0:", .str "1:a", .str "2:a", .str "01:a", .str ":", .str "3:2:a", .str "12"]) na
      have ea : upd H1 a (.lst [.str "", .str "0:", .str "1:a", .str "2:a", .str "01:a", .str ":", .str "3:2:a", .str "12"]) a = some (.lst [.str "", .str "0:", .str "1:a", .str "2:a", .str "01:a", .str ":", .str "3:2:a", .str "12"]) := upd_same
      have nap := (h1.ne na).1
      revert ka ea
      generalize upd H1 a (.lst [.str "", .str "0:", .str "1:a", .str "2:a", .str "01:a", .str ":", .str "3:2:a", .str "12"]) = H2
      intro ka ea
      have h2 := h1.same ka
      refine ⟨.ref p, rfl, p, 8, rfl, by decide, by decide, lh, h2, fun v H3 v0 v1 h3 b3 => ?_⟩
      obtain ⟨y, ey, my⟩ := atI_in (xs := [V.str "", .str "0:", .str "1:a", .str "2:a", .str "01:a", .str ":", .str "3:2:a", .str "12"]) v0 v1
      have hy : ∃ z : Str, y = .str z ∧ sgB z = true ∧ z.length ≤ 30 := by
        simp only [List.mem_cons, List.not_mem_nil, or_false] at my
        rcases my with e | e | e | e | e | e | e | e <;> exact ⟨_, e, by decide +kernel, by decide +kernel⟩
      obtain ⟨z, rfl, hz, lz⟩ := hy
      exact ⟨a, _, v, _, rfl, rfl, sq_of (b3 _ _ nap ea), ey, q z H3 hz lz h3 ((b1.and ka).trans b3)⟩
    · try dsimp only [tNext, tDrop, tSeq, tAsg, gName]
      refine ⟨.int kk, rfl, rfl, _, rfl, ite2 (fun e => ?_) (fun e => ?_)⟩
      · exact ⟨.ref p, rfl, p, 30, rfl, by decide, by decide, lh, h1, fun y H2 hy ly h2 b2 => q y H2 hy (by omega) h2 (b1.trans b2)⟩
      · try dsimp only [tNext, tDrop, tSeq, tAsg, gName]
        refine ⟨⟨_, rfl⟩, .ref p, rfl, p, 14, rfl, by decide, by decide, lh, h1, fun n H3 n0 n1 h3 b3 => ?_⟩
        refine ⟨n, rfl, by omega, by omega, fun D nD => lc_range (fun i H' => ∃ cs : List Nat, H' D = some (.lst (cs.map fun c => V.str (SX.S [c]))) ∧ cs.length = i ∧ (∀ c ∈ cs, sgC c = true) ∧ Hn p lh H3 H') ⟨[], upd_same, rfl, fun c hc => absurd hc (by simp), (Hn.refl h3).new nD⟩ ?_ ?_⟩
        · rintro i H' hi ⟨cs, hD, hl, hs, hn⟩
          refine ⟨rfl, .ref p, rfl, p, rfl, lh, hn.at_, fun c H2 hc h2 b2 => ?_⟩
          have nDp := (h3.ne nD).1
          refine ⟨_, b2 _ _ nDp hD, ?_, cs ++ [c], ?_, ?_, ?_, (hn.go h2 b2).at h3 nD⟩
          · rw [List.length_map, hl, sizeLine_eq]
            omega
          · rw [upd_same, List.map_append]
            rfl
          · rw [List.length_append, hl]
            rfl
          · intro d hd
            rcases List.mem_append.mp hd with g | g
            · exact hs d g
            · rw [List.mem_singleton.mp g]
              exact hc
        · rintro H' ⟨cs, hD, hl, hs, hn⟩
          have e1 : (cs.map fun c => V.str (SX.S [c])) = (cs.map fun c => SX.S [c]).map V.str := by rw [List.map_map]; rfl
          have hln : (cs.length : Int) ≤ n := by omega
          have hsum := sum_one cs
          have sj : sgB (SX.S cs) = true := by rw [sgB_S]; exact List.all_eq_true.mpr hs
          have lj : (SX.S cs).length = cs.length := rfl
          refine ⟨_, D, cs.map (fun c => SX.S [c]), rfl, rfl, .inl (sq_of (e1 ▸ hD)), ?_, ?_⟩
          · rw [List.length_map]
            have : (Str.ofString "").length = 0 := by decide +kernel
            rw [this]
            omega
          · rw [join1]
            exact q _ H' sj (by omega) hn.at_ ((b1.trans b3).trans hn.but)
abbrev sAreRecords : Stmt := topS 29
theorem scAreRecords : FnScope ["hand", "line", "row", "at", "sign", "other"] ["hand"] (defScope sAreRecords) := ⟨rfl, rfl, rfl, by decide +kernel, rfl, by decide +kernel, by decide +kernel⟩
theorem ok_AreRecords {f : Addr} {fd : FuncData} (F : Fun K "_law_are_records" "_law_are_records" sAreRecords f fd) {fDraw : Addr} {fdDraw : FuncData} (DDraw : Dk P w K mg base "_law_draw" sDraw ["hand", "many"] 1 spDraw fDraw fdDraw) {fAnySign : Addr} {fdAnySign : FuncData} (DAnySign : Dk P w K mg base "_law_any_sign" sAnySign ["hand"] 2 spAnySign fAnySign fdAnySign) {fLine : Addr} {fdLine : FuncData} (DLine : Dk P w K mg base "_law_line" sLine ["hand"] 5 spLine fLine fdLine) {fPRecord : Addr} {fdPRecord : FuncData} (DPRecord : Dk P w K mg base "record" sPRecord ["line"] 2 spRec fPRecord fdPRecord) {fPReadRecord : Addr} {fdPReadRecord : FuncData} (DPReadRecord : Dk P w K mg base "read_record" sPReadRecord ["line"] 3 spRead fPReadRecord fdPReadRecord) {fRecord : Addr} {fdRecord : FuncData} (DRecord : Dk P w K mg base "_law_record" sRecord ["contents"] 1 spRec fRecord fdRecord) {fContents : Addr} {fdContents : FuncData} (DContents : Dk P w K mg base "_law_contents" sContents ["line"] 1 spRead fContents fdContents) {fIs : Addr} {fdIs : FuncData} (DIs : Dk P w K mg base "_law_is" sIs ["told", "due"] 3 (spIsR R3) fIs fdIs) (T : Glob mg) : FnOk P w K mg base CX0 6 f fd ["hand"] spRecs := by
  refine F.ok scAreRecords (fun vs H Q E h => ?_) (fun cdv A outer s H vs Q E hr h => ?_)
  · obtain ⟨p, rfl, _⟩ := h
    rfl
  · refine ⟨_, (pss_cons (ps_set (i := 1) scAreRecords.nd rfl (.inl rfl) (pe_call DLine.ok (hr.mono (by decide)) (by rfl) DLine.g DLine.F.kp DLine.b .nil pass0 (pa_cons (pv 0) pa_nil)))
      (pss_cons (ps_set (i := 2) scAreRecords.nd rfl (.inr rfl) (pe_call DPRecord.ok (hr.mono (by decide)) (by rfl) DPRecord.g DPRecord.F.kp DPRecord.b .nil pass0 (pa_cons (pv 1) pa_nil)))
      (pss_cons (ps_if (PW.pt (pw_or (pt_not (pt_val (pe_call DIs.ok (hr.mono (by decide)) (by rfl) DIs.g DIs.F.kp DIs.b .nil pass0 (pa_cons (pv 2) (pa_cons (pe_call DRecord.ok (hr.mono (by decide)) (by rfl) DRecord.g DRecord.F.kp DRecord.b .nil pass0 (pa_cons (pv 1) pa_nil)) pa_nil))))) (pw_or1 (pt_not (pt_val (pe_call DIs.ok (hr.mono (by decide)) (by rfl) DIs.g DIs.F.kp DIs.b .nil pass0 (pa_cons (pe_call DPReadRecord.ok (hr.mono (by decide)) (by rfl) DPReadRecord.g DPReadRecord.F.kp DPReadRecord.b .nil pass0 (pa_cons (pv 2) pa_nil)) (pa_cons (pv 1) pa_nil))))))))
      (pss_one (ps_ret pe_bl))
      pss_nil)
      (pss_cons (ps_if (pt_not (pt_val (pe_callB (cr_all rfl) (by rfl) T.all (by decide +kernel) (pa_cons (pe_lc (own := [("at", 3)]) (g := gName 3) (by rfl) scAreRecords.nd (pi_range1 (by rfl) T.range (pa_cons (pe_callB call_lenZ (by rfl) T.len PySem.boot_len (pa_cons (pv 2) pa_nil)) pa_nil)) (blkOk_by (N := ["hand", "line", "row", "at", "sign", "other"]) (sc := defScope sAreRecords) (by decide +kernel)) (fun _ _ _ _ _ => pg_name (i := 3) scAreRecords.nd rfl (.inl rfl)) (fun _ _ _ _ _ => pts_nil) (fun _ _ _ _ _ => (pe_cmpR op_isN (pe_call DPReadRecord.ok (hr.mono (by decide)) (by rfl) DPReadRecord.g DPReadRecord.F.kp DPReadRecord.b .nil pass0 (pa_cons (pe_slice sl_str (pv 2) po_none (po_some (pv 3))) pa_nil)) pe_non (nomark _)))) pa_nil))))
      (pss_one (ps_ret pe_bl))
      pss_nil)
      (pss_cons (ps_set (i := 3) scAreRecords.nd rfl (.inl rfl) (pe_call DDraw.ok (hr.mono (by decide)) (by rfl) DDraw.g DDraw.F.kp DDraw.b .nil pass0 (pa_cons (pv 0) (pa_cons (pe_op op_add (pe_callB call_lenZ (by rfl) T.len PySem.boot_len (pa_cons (pv 2) pa_nil)) pe_int) pa_nil))))
      (pss_cons (ps_set (i := 4) scAreRecords.nd rfl (.inl rfl) (pe_ix ix_list (pe_lst (pa_cons pe_str (pa_cons pe_str (pa_cons pe_str (pa_cons (pe_call DAnySign.ok (hr.mono (by decide)) (by rfl) DAnySign.g DAnySign.F.kp DAnySign.b .nil pass0 (pa_cons (pv 0) pa_nil)) pa_nil))))) (pe_call DDraw.ok (hr.mono (by decide)) (by rfl) DDraw.g DDraw.F.kp DDraw.b .nil pass0 (pa_cons (pv 0) (pa_cons pe_int pa_nil))) (fun _ _ => rfl)))
      (pss_cons (ps_for PassesOwn.never rfl (pi_list (pe_lst (pa_cons (pe_op op_add_str (pe_op op_add_str (pe_slice sl_str (pv 2) po_none (po_some (pv 3))) (pv 4)) (pe_slice sl_str (pv 2) (po_some (pv 3)) po_none)) (pa_cons (pe_op op_add_str (pe_op op_add_str (pe_slice sl_str (pv 2) po_none (po_some (pv 3))) (pv 4)) (pe_slice sl_str (pv 2) (po_some (pe_op op_add (pv 3) pe_int)) po_none)) (pa_cons (pe_op op_add_str (pe_slice sl_str (pv 2) po_none (po_some (pv 3))) (pe_slice sl_str (pv 2) (po_some (pe_op op_add (pv 3) pe_int)) po_none)) (pa_cons (pv 1) pa_nil)))))) (pg_name (i := 5) scAreRecords.nd rfl (.inl rfl))
      (pss_one (ps_if (pt_not (pt_val (pe_call DIs.ok (hr.mono (by decide)) (by rfl) DIs.g DIs.F.kp DIs.b .nil pass0 (pa_cons (pe_call DPReadRecord.ok (hr.mono (by decide)) (by rfl) DPReadRecord.g DPReadRecord.F.kp DPReadRecord.b .nil pass0 (pa_cons (pv 5) pa_nil)) (pa_cons (pe_call DContents.ok (hr.mono (by decide)) (by rfl) DContents.g DContents.F.kp DContents.b .nil pass0 (pa_cons (pv 5) pa_nil)) pa_nil)))))
        (pss_one (ps_ret pe_bl))
        pss_nil)))
      (pss_one (ps_ret pe_bl))))))))), ?_⟩
    obtain ⟨p, rfl, lh, hH, q⟩ := h
    have sz : sizeLine = 16777216 := sizeLine_eq
    have sc : ∀ {x : V} {H : Hp}, Sc x → R3 H x x := fun h => SameX.sc h
    refine ⟨.ref p, rfl, p, rfl, lh, hH, fun z H1 hz lz h1 b1 => ?_⟩
    obtain ⟨hr1, lr⟩ := rec_sg hz (by omega)
    try dsimp only [tNext, tDrop, tSeq, tAsg, gName]
    refine ⟨.str z, rfl, z, rfl, hz, by omega, ?_⟩
    obtain ⟨row, erow⟩ : ∃ row, row = recS z := ⟨_, rfl⟩
    rw [← erow] at hr1 lr ⊢
    try dsimp only [tNext, tDrop, tSeq, tAsg, gName]
    refine ⟨.str row, rfl, .str z, rfl, z, rfl, hz, by omega, ?_⟩
    rw [← erow]
    refine ⟨.str row, .str row, rfl, sc (.str _), fun H2 k2 => ⟨_, rfl, iteF ?_⟩⟩
    refine ⟨.str row, rfl, row, rfl, hr1, by omega, fun H3 k3 => ?_⟩
    rw [show conV row = .str z by rw [erow]; exact con_rec (by omega)]
    refine ⟨.str z, rfl, .str z, .str z, rfl, sc (.str _), fun H4 k4 => ⟨_, rfl, iteF ?_⟩⟩
    have k14 := (k2.trans k3).trans k4
    have h4 := h1.same k14
    have b4 := b1.and k14
    clear k14 k2 k3 k4 h1 b1
    try dsimp only [tNext, tDrop, tSeq, tAsg, gName]
    refine ⟨.str row, rfl, row, rfl, len5 (by omega), _, rfl, by omega, by omega, fun D nD => lc_range (fun j H' => Same H4 H' ∧ H' D = some (.lst ((List.replicate j true).map V.bl))) ⟨Same.new nD, upd_same⟩ ?_ ?_⟩
    · rintro j H5 hj ⟨k5, hD⟩
      obtain ⟨s1, s2⟩ := sg_to (z := row) (i := (0 : Int) + (j : Int)) (by omega) hr1
      refine ⟨rfl, .str row, rfl, .int (0 + (j : Int)), rfl, (0 + (j : Int)), rfl, row, rfl, len5 (by omega), cutS row none (some (0 + (j : Int))), rfl, s1, by omega, fun H6 k6 => ?_⟩
      have ec : conV (cutS row none (some ((0 : Int) + (j : Int)))) = .non := by
        rw [Int.zero_add, erow]
        exact con_take (by omega) (by rw [← erow]; omega)
      rw [ec]
      refine ⟨rfl, _, k6 _ _ hD, ?_, sameAt (k5.trans k6) nD, ?_⟩
      · rw [List.length_map, List.length_replicate]
        omega
      · rw [upd_same, List.replicate_succ', List.map_append]
        rfl
    rintro H5 ⟨k5, hD⟩
    refine ⟨D, List.replicate row.length true, rfl, sq_of hD, _, rfl, ?_⟩
    rw [show (List.replicate row.length true).all id = true from List.all_eq_true.mpr fun b hb => (List.mem_replicate.mp hb).2]
    refine iteF ?_
    have h5 := h4.same k5
    have b5 := b4.and k5
    try dsimp only [tNext, tDrop, tSeq, tAsg, gName]
    refine ⟨.ref p, rfl, .str row, rfl, row, rfl, len5 (by omega), _, _, rfl, rfl, p, _, rfl, by omega, by omega, lh, h5, fun a H6 a0 a1 h6 b6 => ?_⟩
    try dsimp only [tNext, tDrop, tSeq, tAsg, gName]
    refine ⟨.ref p, rfl, p, rfl, lh, h6, fun c H7 hc h7 b7 => ⟨by show 4 ≤ sizeLine; decide, fun L nL => ?_⟩⟩
    have kL := Same.new (o := .lst [V.str "0", .str ":", .str "1", .str (SX.S [c])]) nL
    have eL : upd H7 L (.lst [V.str "0", .str ":", .str "1", .str (SX.S [c])]) L = some (.lst [V.str "0", .str ":", .str "1", .str (SX.S [c])]) := upd_same
    have nLp := (h7.ne nL).1
    have h8 := h7.same kL
    have b8 := ((b5.trans b6).trans b7).and kL
    revert eL h8 b8
    generalize upd H7 L (.lst [V.str "0", .str ":", .str "1", .str (SX.S [c])]) = H8
    intro eL h8 b8
    refine ⟨.ref p, rfl, p, 4, rfl, by decide, by decide, lh, h8, fun v H9 v0 v1 h9 b9 => ?_⟩
    obtain ⟨y, ey, my⟩ := atI_in (xs := [V.str "0", .str ":", .str "1", .str (SX.S [c])]) v0 v1
    have hy : ∃ x : Str, y = .str x ∧ sgB x = true ∧ x.length ≤ 1 := by
      simp only [List.mem_cons, List.not_mem_nil, or_false] at my
      rcases my with e | e | e | e
      · exact ⟨_, e, by decide +kernel, by decide +kernel⟩
      · exact ⟨_, e, by decide +kernel, by decide +kernel⟩
      · exact ⟨_, e, by decide +kernel, by decide +kernel⟩
      · exact ⟨_, e, by rw [sgB_S]; exact List.all_eq_true.mpr fun d hd => (by rw [List.mem_singleton.mp hd]; exact hc), Nat.le_refl 1⟩
    obtain ⟨x, rfl, hx, lx⟩ := hy
    have b10 := b8.trans b9
    refine ⟨_, _, _, _, rfl, rfl, sq_of (b9 _ _ nLp eL), ey, ?_⟩
    try dsimp only [tNext, tDrop, tSeq, tAsg, gName]
    clear ey my eL b9 b8 h8 nLp kL
    obtain ⟨s1, l1⟩ := sg_to (z := row) (i := a) (by omega) hr1
    obtain ⟨s2, l2⟩ := sg_from (z := row) (i := a) (by omega) hr1
    obtain ⟨s3, l3⟩ := sg_from (z := row) (i := a + 1) (by omega) hr1
    have z1 := sg_app (sg_app s1 hx) s2
    have z2 := sg_app (sg_app s1 hx) s3
    have z3 := sg_app s1 s3
    have m1 : (cutS row none (some a) ++ x).length + (cutS row (some a) none).length ≤ 200 := by rw [app_len]; omega
    have m2 : (cutS row none (some a) ++ x).length + (cutS row (some (a + 1)) none).length ≤ 200 := by rw [app_len]; omega
    refine ⟨.str row, rfl, .int a, rfl, a, rfl, row, rfl, len5 (by omega), .str x, rfl, _, _, rfl, rfl, by omega, .str row, rfl, .int a, rfl, a, rfl, row, rfl, len5 (by omega), _, _, rfl, rfl, by omega, ?_⟩
    refine ⟨.str row, rfl, .int a, rfl, a, rfl, row, rfl, len5 (by omega), .str x, rfl, _, _, rfl, rfl, by omega, .str row, rfl, .int a, rfl, _, _, rfl, rfl, a + 1, rfl, row, rfl, len5 (by omega), _, _, rfl, rfl, by omega, ?_⟩
    refine ⟨.str row, rfl, .int a, rfl, a, rfl, row, rfl, len5 (by omega), .str row, rfl, .int a, rfl, _, _, rfl, rfl, a + 1, rfl, row, rfl, len5 (by omega), _, _, rfl, rfl, by omega, ?_⟩
    refine ⟨.str z, rfl, by show 4 ≤ sizeLine; decide, fun G nG => ?_⟩
    have all : ∀ y ∈ [V.str (cutS row none (some a) ++ x ++ cutS row (some a) none), .str (cutS row none (some a) ++ x ++ cutS row (some (a + 1)) none), .str (cutS row none (some a) ++ cutS row (some (a + 1)) none), .str z], ∃ u : Str, y = .str u ∧ sgB u = true ∧ u.length ≤ 350 := by
      intro y hy
      simp only [List.mem_cons, List.not_mem_nil, or_false] at hy
      rcases hy with e | e | e | e
      · exact ⟨_, e, z1, by rw [app_len]; omega⟩
      · exact ⟨_, e, z2, by rw [app_len]; omega⟩
      · exact ⟨_, e, z3, by rw [app_len]; omega⟩
      · exact ⟨_, e, hz, by omega⟩
    have kG := Same.new (o := .lst [V.str (cutS row none (some a) ++ x ++ cutS row (some a) none), .str (cutS row none (some a) ++ x ++ cutS row (some (a + 1)) none), .str (cutS row none (some a) ++ cutS row (some (a + 1)) none), .str z]) nG
    have eG : upd H9 G (.lst [V.str (cutS row none (some a) ++ x ++ cutS row (some a) none), .str (cutS row none (some a) ++ x ++ cutS row (some (a + 1)) none), .str (cutS row none (some a) ++ cutS row (some (a + 1)) none), .str z]) G = some (.lst [V.str (cutS row none (some a) ++ x ++ cutS row (some a) none), .str (cutS row none (some a) ++ x ++ cutS row (some (a + 1)) none), .str (cutS row none (some a) ++ cutS row (some (a + 1)) none), .str z]) := upd_same
    revert kG eG all
    generalize [V.str (cutS row none (some a) ++ x ++ cutS row (some a) none), .str (cutS row none (some a) ++ x ++ cutS row (some (a + 1)) none), .str (cutS row none (some a) ++ cutS row (some (a + 1)) none), .str z] = os
    generalize upd H9 G (.lst os) = HG
    intro all kG eG
    have hG := h9.same kG
    have bG := b10.and kG
    refine ⟨G, rfl, ⟨_, sq_of eG⟩, for_list (xs := os) (fun i σ H' => ∃ u5 : Option V, σ = [some (.ref p), some (.str z), some (.str row), some (.int a), some (.str x), u5] ∧ Same HG H') ⟨_, rfl, Same.refl HG⟩ (fun i σ H' _ g => by obtain ⟨_, _, k⟩ := g; exact sq_of (k _ _ eG)) ?_ ?_⟩
    · rintro i y σ H' hy ⟨u5, rfl, k⟩
      obtain ⟨u, rfl, hu, lu⟩ := all y (List.mem_of_getElem? hy)
      try dsimp only [tNext, tDrop, tSeq, tAsg, gName]
      refine ⟨.str u, rfl, u, rfl, hu, lu, fun Ha ka => ⟨.str u, rfl, u, rfl, hu, lu, fun Hb kb => ⟨_, _, rfl, sc (con_sc u), fun Hc kc => ⟨_, rfl, iteF ?_⟩⟩⟩⟩
      exact ⟨_, rfl, k.trans ((ka.trans kb).trans kc)⟩
    · rintro σ H' ⟨u5, rfl, k⟩
      exact q H' (hG.same k) (bG.and k)
end
end LawK
set_option maxHeartbeats 4000000
namespace LawK
open PySem PySem.Spec PyProof.Rows L2 Ev

theorem lines_ne {H : Hp} {p l b : Addr} {ls : List Str} (h : HandL H p l) (e : H b = some (.lst (lv ls))) : b ≠ p := fun z => by
  obtain ⟨cells, i, r, s, n, h1, h2, _⟩ := h
  rw [z, h1] at e
  have e := HO.lst.inj (Option.some.inj e)
  cases ls with
  | nil => cases e
  | cons y l => cases (List.cons.inj e).1
theorem none_but {H H' : Hp} {p a : Addr} (b : But p H H') (n : H' a = none) (ne : a ≠ p) : H a = none := by
  cases e : H a with
  | none => rfl
  | some o => rw [b _ _ ne e] at n; cases n
theorem hand_up {H : Hp} {p l a : Addr} {o : HO} (h : HandL H p l) (n1 : a ≠ p) (n2 : a ≠ l) : HandL (upd H a o) p l := by
  obtain ⟨cells, i, r, s, n, h1, h2, h3⟩ := h
  exact ⟨cells, i, r, s, n, by rw [upd_ne (Ne.symm n1)]; exact h1, by rw [upd_ne (Ne.symm n2)]; exact h2, h3⟩
/-- what may tell how a disk is cut -/
inductive CutD (H : Hp) : V → Prop
  | non : CutD H .non
  | lst {a : Addr} {xs : List V} (e : H a = some (.lst xs)) : CutD H (.ref a)
  | tup {a : Addr} {xs : List V} (e : H a = some (.tup xs)) (f : FlB xs) : CutD H (.ref a)
theorem CutD.same {H H' : Hp} {x : V} (k : Same H H') : CutD H x → CutD H' x
  | .non => .non
  | .lst e => .lst (k _ _ e)
  | .tup e f => .tup (k _ _ e) f
theorem CutD.but {H H' : Hp} {p l : Addr} {x : V} (h : CutD H x) (h0 : HandL H p l) (h1 : HandL H' p l) (b : But p H H') : CutD H' x := by
  cases h with
  | non => exact .non
  | @lst a xs e =>
    by_cases z : a = p
    · subst z
      obtain ⟨cells, i, r, s, n, g1, g2, _⟩ := h1
      exact .lst g1
    · exact .lst (b _ _ z e)
  | tup e f => exact .tup (b _ _ (tup_ne h0 e) e) f
theorem CutD.deed {H : Hp} {x : V} (h : CutD H x) : ∃ k, Kd H x k ∧ ∀ b xs, x = .ref b → H b = some (.tup xs) → FlB xs := by
  cases h with
  | non => exact ⟨_, .non, fun b xs e => (by cases e)⟩
  | lst e => exact ⟨_, .lst e, fun b xs e2 h2 => by cases e2; rw [e] at h2; cases h2⟩
  | tup e f => exact ⟨_, .tup e, fun b xs e2 h2 => by cases e2; rw [e] at h2; cases h2; exact f⟩
def spDeed : Sp := fun vs H Q _ => ∃ (p e b : Addr) (ls : List Str) (n : Nat), vs = [.ref p, .ref e] ∧ AccAt H e b ls n ∧ ls.length ≤ 900 ∧ ∃ l, HandL H p l ∧ ∀ v D H', HandL H' p l → But p H H' → DeedAt H' v D → Q v H'
section
variable {P : Program} {w : World} {K : PySem.W.Frag} {mg : Str → Option Value} {base : Heap}
abbrev sDeed : Stmt := topS 27
theorem scDeed : FnScope ["hand", "account", "kind", "many", "kept", "line", "wrong"] ["hand", "account"] (defScope sDeed) := ⟨rfl, rfl, rfl, by decide +kernel, rfl, by decide +kernel, by decide +kernel⟩
theorem ok_Deed {f : Addr} {fd : FuncData} (F : Fun K "_law_deed" "_law_deed" sDeed f fd) {fDraw : Addr} {fdDraw : FuncData} (DDraw : Dk P w K mg base "_law_draw" sDraw ["hand", "many"] 1 spDraw fDraw fdDraw) {fLine : Addr} {fdLine : FuncData} (DLine : Dk P w K mg base "_law_line" sLine ["hand"] 5 spLine fLine fdLine) (T : Glob mg) : FnOk P w K mg base CX0 6 f fd ["hand", "account"] spDeed := by
  refine F.ok scDeed (fun vs H Q E h => ?_) (fun cdv A outer s H vs Q E hr h => ?_)
  · obtain ⟨p, e, b, ls, n, rfl, _⟩ := h
    rfl
  · refine ⟨_, (pss_cons (ps_set (i := 2) scDeed.nd rfl (.inl rfl) (pe_call DDraw.ok (hr.mono (by decide)) (by rfl) DDraw.g DDraw.F.kp DDraw.b .nil pass0 (pa_cons (pv 0) (pa_cons pe_int pa_nil))))
      (pss_cons (ps_if (pt_cmpR op_lt (pv 2) pe_int (nomark _))
      (pss_one (ps_ret (pe_tup (pa_cons pe_str (pa_cons (pe_call DLine.ok (hr.mono (by decide)) (by rfl) DLine.g DLine.F.kp DLine.b .nil pass0 (pa_cons (pv 0) pa_nil)) pa_nil)))))
      pss_nil)
      (pss_cons (ps_if (pt_cmpR op_eq (pv 2) pe_int (nomark _))
      (pss_one (ps_ret (pe_tup (pa_cons pe_str (pa_cons (pe_ix ix_list (pe_lst (pa_cons pe_non (pa_cons pe_int (pa_cons (pe_lst (pa_cons pe_str pa_nil)) (pa_cons pe_str (pa_cons (pe_tup (pa_cons pe_str pa_nil)) (pa_cons pe_bl pa_nil))))))) (pe_call DDraw.ok (hr.mono (by decide)) (by rfl) DDraw.g DDraw.F.kp DDraw.b .nil pass0 (pa_cons (pv 0) (pa_cons pe_int pa_nil))) (fun _ _ => rfl)) pa_nil)))))
      pss_nil)
      (pss_cons (ps_if (pt_cmpR op_eq (pv 2) pe_int (nomark _))
      (pss_one (ps_ret (pe_tup (pa_cons pe_str pa_nil))))
      pss_nil)
      (pss_cons (ps_if (pt_cmpR op_eq (pv 2) pe_int (nomark _))
      (pss_cons (ps_set (i := 3) scDeed.nd rfl (.inl rfl) (pe_callB call_len_seq (by rfl) T.len PySem.boot_len (pa_cons (pe_ix ix_list (pv 1) pe_int (fun _ _ => rfl)) pa_nil)))
        (pss_one (ps_ret (pe_tup (pa_cons pe_str (pa_cons (pe_ix ix_list (pe_lst (pa_cons (pv 3) (pa_cons (pe_op op_add (pv 3) pe_int) (pa_cons (pe_un un_neg pe_int) (pa_cons pe_bl (pa_cons pe_non (pa_cons (pe_call DDraw.ok (hr.mono (by decide)) (by rfl) DDraw.g DDraw.F.kp DDraw.b .nil pass0 (pa_cons (pv 0) (pa_cons (pe_op op_add (pv 3) pe_int) pa_nil))) pa_nil))))))) (pe_call DDraw.ok (hr.mono (by decide)) (by rfl) DDraw.g DDraw.F.kp DDraw.b .nil pass0 (pa_cons (pv 0) (pa_cons pe_int pa_nil))) (fun _ _ => rfl)) pa_nil))))))
      pss_nil)
      (pss_cons (ps_set (i := 4) scDeed.nd rfl (.inl rfl) (pe_lst pa_nil))
      (pss_cons (ps_for PassesOwn.never rfl (pi_list (pe_slice sl_list (pe_ix ix_list (pv 1) pe_int (fun _ _ => rfl)) (po_some (pe_ix ix_list (pv 1) pe_int (fun _ _ => rfl))) po_none)) (pg_name (i := 5) scDeed.nd rfl (.inl rfl))
      (pss_one (ps_expr (pe_bm PySem.F.plainAttrs_list PySem.F.slot_list_append PySem.F.type_list_append mt_append (pv 4) (pa_cons (pe_ix ix_list (pe_lst (pa_cons (pe_callB call_lenZ (by rfl) T.len PySem.boot_len (pa_cons (pv 5) pa_nil)) (pa_cons pe_int (pa_cons (pe_call DDraw.ok (hr.mono (by decide)) (by rfl) DDraw.g DDraw.F.kp DDraw.b .nil pass0 (pa_cons (pv 0) (pa_cons (pe_op op_add (pe_callB call_lenZ (by rfl) T.len PySem.boot_len (pa_cons (pv 5) pa_nil)) pe_int) pa_nil))) pa_nil)))) (pe_call DDraw.ok (hr.mono (by decide)) (by rfl) DDraw.g DDraw.F.kp DDraw.b .nil pass0 (pa_cons (pv 0) (pa_cons pe_int pa_nil))) (fun _ _ => rfl)) pa_nil)))))
      (pss_cons (ps_if (pt_cmpR op_lt (pv 2) pe_int (nomark _))
      (pss_one (ps_ret (pe_tup (pa_cons pe_str (pa_cons (pe_callTy call_tuple_of (by rfl) T.tuple (by decide +kernel) (pa_cons (pv 4) pa_nil)) pa_nil)))))
      pss_nil)
      (pss_cons (ps_set (i := 6) scDeed.nd rfl (.inl rfl) (pe_lst (pa_cons (pe_callTy call_list_of (by rfl) T.list (by decide +kernel) (pa_cons (pv 4) pa_nil)) (pa_cons (pe_op op_catM (pe_callTy call_tuple_of (by rfl) T.tuple (by decide +kernel) (pa_cons (pv 4) pa_nil)) (pe_tup (pa_cons pe_int pa_nil))) (pa_cons (pe_op op_catM (pe_slice sl_tupM (pe_callTy call_tuple_of (by rfl) T.tuple (by decide +kernel) (pa_cons (pv 4) pa_nil)) (po_some pe_int) po_none) (pe_tup (pa_cons (pe_op op_pow pe_int pe_int) pa_nil))) (pa_cons pe_non (pa_cons (pe_op op_catM (pe_slice sl_tupM (pe_callTy call_tuple_of (by rfl) T.tuple (by decide +kernel) (pa_cons (pv 4) pa_nil)) po_none (po_some (pe_un un_neg pe_int))) (pe_tup (pa_cons pe_bl pa_nil))) (pa_cons (pe_tup (pa_cons (pe_un un_neg pe_int) pa_nil)) pa_nil))))))))
      (pss_one (ps_ret (pe_tup (pa_cons pe_str (pa_cons (pe_ix ix_list (pv 6) (pe_call DDraw.ok (hr.mono (by decide)) (by rfl) DDraw.g DDraw.F.kp DDraw.b .nil pass0 (pa_cons (pv 0) (pa_cons pe_int pa_nil))) (fun _ _ => rfl)) pa_nil)))))))))))))), ?_⟩
    obtain ⟨p, e, b, ls, n, rfl, hA, few, lh, hH, q⟩ := h
    have sz : sizeLine = 16777216 := sizeLine_eq
    have he := hA.ob
    have hb := hA.at_
    have ll : (lv ls).length = ls.length := List.length_map ..
    have nep : e ≠ p := hand_ne hH he fun x1 x2 x3 x4 x5 z => by cases z
    have nbp : b ≠ p := lines_ne hH hb
    refine ⟨.ref p, rfl, p, 10, rfl, by decide, by decide, lh, hH, fun kk H1 k0 k9 h1 b1 => ?_⟩
    try dsimp only [tNext, tDrop, tSeq, tAsg, gName]
    have he1 := b1 _ _ nep he
    have hb1 := b1 _ _ nbp hb
    have fin : ∀ {D : Deed} {H2 : Hp} {t : Addr}, HandL H2 p lh → But p H H2 → DeedAt H2 (.ref t) D → Q (.ref t) H2 := fun h b d => q _ _ _ h b d
    refine ⟨.int kk, rfl, _, _, rfl, rfl, _, rfl, ite2 (fun _ => ?_) (fun _ => ?_)⟩
    · refine ⟨.ref p, rfl, p, rfl, lh, h1, fun z H2 hz lz h2 b2 => ⟨by show 2 ≤ sizeLine; decide, fun t nt => ?_⟩⟩
      exact fin (h2.same (Same.new nt)) ((b1.trans b2).and (Same.new nt)) (.write upd_same (.str z) (fun w e => by cases e; omega) (fun w e => by cases e; omega))
    try dsimp only [tNext, tDrop, tSeq, tAsg, gName]
    refine ⟨.int kk, rfl, rfl, _, rfl, ite2 (fun _ => ?_) (fun _ => ?_)⟩
    · refine ⟨by show 1 ≤ sizeLine; decide, fun t1 n1 => ?_⟩
      have s1 := Same.new (o := .lst [V.str "a"]) n1
      have e1 : upd H1 t1 (.lst [V.str "a"]) t1 = some (.lst [V.str "a"]) := upd_same
      revert s1 e1
      generalize upd H1 t1 (.lst [V.str "a"]) = G1
      intro s1 e1
      refine ⟨by show 1 ≤ sizeLine; decide, fun t2 n2 => ?_⟩
      have s2 := Same.new (o := .tup [V.str "a"]) n2
      have e2 : upd G1 t2 (.tup [V.str "a"]) t2 = some (.tup [V.str "a"]) := upd_same
      revert s2 e2
      generalize upd G1 t2 (.tup [V.str "a"]) = G2
      intro s2 e2
      refine ⟨by show 6 ≤ sizeLine; decide, fun t3 n3 => ?_⟩
      have h2 := h1.same (s1.trans s2)
      have n3p := (h2.ne n3).1
      have s3 := Same.new (o := .lst [V.non, .int 7, .ref t1, .str "a\n", .ref t2, .bl true]) n3
      have e3 : upd G2 t3 (.lst [V.non, .int 7, .ref t1, .str "a\n", .ref t2, .bl true]) t3 = some (.lst [V.non, .int 7, .ref t1, .str "a\n", .ref t2, .bl true]) := upd_same
      revert s3 e3
      generalize upd G2 t3 (.lst [V.non, .int 7, .ref t1, .str "a\n", .ref t2, .bl true]) = G3
      intro s3 e3
      have h3 := h2.same s3
      refine ⟨.ref p, rfl, p, 6, rfl, by decide, by decide, lh, h3, fun v H4 v0 v1 h4 b4 => ?_⟩
      obtain ⟨x, ex, mx⟩ := atI_in (xs := [V.non, .int 7, .ref t1, .str "a\n", .ref t2, .bl true]) v0 v1
      have hx : (∃ k, Kd G3 x k) ∧ Vs x ∧ ∀ z, x = .str z → z.length ≤ 200 := by
        simp only [List.mem_cons, List.not_mem_nil, or_false] at mx
        rcases mx with e | e | e | e | e | e <;> rw [e]
        · exact ⟨⟨_, .non⟩, fun w e => (by cases e), fun w e => (by cases e)⟩
        · exact ⟨⟨_, .int _⟩, fun w e => (by cases e), fun w e => (by cases e)⟩
        · exact ⟨⟨_, .lst ((s2.trans s3) _ _ e1)⟩, fun w e => (by cases e), fun w e => (by cases e)⟩
        · exact ⟨⟨_, .str _⟩, fun w e => (by cases e; decide +kernel), fun w e => (by cases e; decide +kernel)⟩
        · exact ⟨⟨_, .tup (s3 _ _ e2)⟩, fun w e => (by cases e), fun w e => (by cases e)⟩
        · exact ⟨⟨_, .bl _⟩, fun w e => (by cases e), fun w e => (by cases e)⟩
      obtain ⟨⟨k, hk⟩, hv, hl⟩ := hx
      refine ⟨_, _, _, _, rfl, rfl, sq_of (b4 _ _ n3p e3), ex, by show 2 ≤ sizeLine; decide, fun t nt => ?_⟩
      have bb := (b1.and ((s1.trans s2).trans s3)).trans b4
      exact fin (h4.same (Same.new nt)) (bb.and (Same.new nt)) (.write upd_same ((Kd.but hk h3 h4 b4).same (Same.new nt)) hv hl)
    try dsimp only [tNext, tDrop, tSeq, tAsg, gName]
    refine ⟨.int kk, rfl, rfl, _, rfl, ite2 (fun _ => ?_) (fun _ => ?_)⟩
    · exact ⟨by show 1 ≤ sizeLine; decide, fun t nt => fin (h1.same (Same.new nt)) (b1.and (Same.new nt)) (.sync upd_same)⟩
    try dsimp only [tNext, tDrop, tSeq, tAsg, gName]
    refine ⟨.int kk, rfl, rfl, _, rfl, ite2 (fun _ => ?_) (fun _ => ?_)⟩
    · refine ⟨.ref e, rfl, e, _, 0, _, rfl, rfl, sq_of he1, rfl, b, _, rfl, .inl (sq_of hb1), ?_⟩
      try dsimp only [tNext, tDrop, tSeq, tAsg, gName]
      rw [ll]
      refine ⟨.int (ls.length : Nat), rfl, .int (ls.length : Nat), rfl, _, _, rfl, rfl, _, rfl, .ref p, rfl, .int (ls.length : Nat), rfl, _, _, rfl, rfl, p, _, rfl, by omega, by omega, lh, h1, fun u H2 u0 u1 h2 b2 => ⟨by show 6 ≤ sizeLine; decide, fun t3 n3 => ?_⟩⟩
      have n3p := (h2.ne n3).1
      have s3 := Same.new (o := .lst [V.int (ls.length : Nat), .int ((ls.length : Int) + 1), .int (-1), .bl true, .non, .int u]) n3
      have e3 : upd H2 t3 (.lst [V.int (ls.length : Nat), .int ((ls.length : Int) + 1), .int (-1), .bl true, .non, .int u]) t3 = some (.lst [V.int (ls.length : Nat), .int ((ls.length : Int) + 1), .int (-1), .bl true, .non, .int u]) := upd_same
      revert s3 e3
      generalize upd H2 t3 (.lst [V.int (ls.length : Nat), .int ((ls.length : Int) + 1), .int (-1), .bl true, .non, .int u]) = G3
      intro s3 e3
      have h3 := h2.same s3
      refine ⟨.ref p, rfl, p, 6, rfl, by decide, by decide, lh, h3, fun v H4 v0 v1 h4 b4 => ?_⟩
      obtain ⟨x, ex, mx⟩ := atI_in (xs := [V.int (ls.length : Nat), .int ((ls.length : Int) + 1), .int (-1), .bl true, .non, .int u]) v0 v1
      have hx : ∀ H : Hp, ∃ k, Kd H x k := by
        intro H
        simp only [List.mem_cons, List.not_mem_nil, or_false] at mx
        rcases mx with e | e | e | e | e | e <;> rw [e]
        · exact ⟨_, .int _⟩
        · exact ⟨_, .int _⟩
        · exact ⟨_, .int _⟩
        · exact ⟨_, .bl _⟩
        · exact ⟨_, .non⟩
        · exact ⟨_, .int _⟩
      refine ⟨_, _, _, _, rfl, rfl, sq_of (b4 _ _ n3p e3), ex, by show 2 ≤ sizeLine; decide, fun t nt => ?_⟩
      have bb := ((b1.trans b2).and s3).trans b4
      obtain ⟨k, hk⟩ := hx (upd H4 t (.tup [.str "drop", x]))
      exact fin (h4.same (Same.new nt)) (bb.and (Same.new nt)) (.drop upd_same hk)
    try dsimp only [tNext, tDrop, tSeq, tAsg, gName]
    refine ⟨by show 0 ≤ sizeLine; decide, fun K0 nK => ?_⟩
    have sK := Same.new (o := .lst []) nK
    have eK : upd H1 K0 (.lst []) K0 = some (.lst []) := upd_same
    have nKp := (h1.ne nK).1
    have nKl := (h1.ne nK).2
    revert sK eK
    generalize upd H1 K0 (.lst []) = H2
    intro sK eK
    have h2 := h1.same sK
    have b2 := b1.and sK
    have he2 := sK _ _ he1
    have hb2 := sK _ _ hb1
    try dsimp only [tNext, tDrop, tSeq, tAsg, gName]
    refine ⟨.ref e, rfl, e, _, 0, .ref b, rfl, rfl, sq_of he2, rfl, .ref e, rfl, e, _, 1, .int (n : Nat), rfl, rfl, sq_of he2, rfl, (n : Int), rfl, b, _, rfl, sq_of hb2, fun W nW => ?_⟩
    have eW : upd H2 W (.lst (cutV (lv ls) (some (n : Int)) none)) W = some (.lst (lv (ls.drop n))) := by
      rw [upd_same, cutV_from (by omega), lv_drop, Int.toNat_natCast]
    have kW := Same.new (o := .lst (cutV (lv ls) (some (n : Int)) none)) nW
    have nWp := (h2.ne nW).1
    have nWK : W ≠ K0 := fun z => by rw [z, eK] at nW; cases nW
    have eK3 := kW _ _ eK
    revert eW kW eK3
    generalize upd H2 W (.lst (cutV (lv ls) (some (n : Int)) none)) = H3
    intro eW kW eK3
    have h3 := h2.same kW
    have b3 := b2.and kW
    refine ⟨W, rfl, ⟨_, sq_of eW⟩, for_list (xs := lv (ls.drop n)) (fun i σ H' => ∃ (u5 : Option V) (ms : List Int), σ = [some (.ref p), some (.ref e), some (.int kk), none, some (.ref K0), u5, none] ∧ HandL H' p lh ∧ But p H H' ∧ H' W = some (.lst (lv (ls.drop n))) ∧ H' K0 = some (.lst (ms.map V.int)) ∧ ms.length = i) ⟨none, [], rfl, h3, b3, eW, eK3, rfl⟩ (fun i σ H' _ g => by obtain ⟨_, _, _, _, _, k, _⟩ := g; exact sq_of k) ?_ ?_⟩
    · rintro i y σ H4 hy ⟨u5, ms, rfl, h4, b4, eW4, eK4, lm⟩
      obtain ⟨z, hz, rfl⟩ := List.mem_map.mp (List.mem_of_getElem? hy)
      have li := (List.getElem?_eq_some_iff.mp hy).1
      rw [List.length_map, List.length_drop] at li
      have lz := hA.len z (List.mem_of_mem_drop hz)
      try dsimp only [tNext, tDrop, tSeq, tAsg, gName]
      refine ⟨.ref K0, rfl, .inl ⟨rfl, _, sq_of eK4⟩, .str z, rfl, z, rfl, len5 (by omega), .ref p, rfl, .str z, rfl, z, rfl, len5 (by omega), _, _, rfl, rfl, p, _, rfl, by omega, by omega, lh, h4, fun u H5 u0 u1 h5 b5 => ⟨by show 3 ≤ sizeLine; decide, fun t nt => ?_⟩⟩
      have ntp := (h5.ne nt).1
      have st := Same.new (o := .lst [V.int (z.length : Nat), .int 0, .int u]) nt
      have et : upd H5 t (.lst [V.int (z.length : Nat), .int 0, .int u]) t = some (.lst [V.int (z.length : Nat), .int 0, .int u]) := upd_same
      have eK5 := st _ _ (b5 _ _ nKp eK4)
      have eW5 := st _ _ (b5 _ _ nWp eW4)
      revert st et eK5 eW5
      generalize upd H5 t (.lst [V.int (z.length : Nat), .int 0, .int u]) = H6
      intro st et eK5 eW5
      have h6 := h5.same st
      refine ⟨.ref p, rfl, p, 3, rfl, by decide, by decide, lh, h6, fun v H7 v0 v1 h7 b7 => ?_⟩
      obtain ⟨x, ex, mx⟩ := atI_in (xs := [V.int (z.length : Nat), .int 0, .int u]) v0 v1
      have hx : ∃ m : Int, x = .int m := by
        simp only [List.mem_cons, List.not_mem_nil, or_false] at mx
        rcases mx with e | e | e <;> exact ⟨_, e⟩
      obtain ⟨m, rfl⟩ := hx
      refine ⟨_, _, _, _, rfl, rfl, sq_of (b7 _ _ ntp et), ex, K0, ms.map V.int, _, rfl, rfl, b7 _ _ nKp eK5, by rw [List.length_map]; omega, ?_⟩
      have bb := ((b4.trans b5).and st).trans b7
      have up : ∀ c u, c ≠ K0 → H7 c = some u → upd H7 K0 (.lst (ms.map V.int ++ [.int m])) c = some u := fun c u n e => by rw [upd_ne n]; exact e
      refine ⟨_, ms ++ [m], rfl, hand_up h7 nKp nKl, fun c u nc hc => up c u (fun z => ?_) (bb c u nc hc), up _ _ nWK (b7 _ _ nWp eW5), ?_, ?_⟩
      · have hn : H K0 = none := none_but b1 nK nKp
        rw [z, hn] at hc
        cases hc
      · rw [upd_same, List.map_append]
        rfl
      · rw [List.length_append, lm]
        rfl
    rintro σ H4 ⟨u5, ms, rfl, h4, b4, eW4, eK4, lm⟩
    rw [List.length_map, List.length_drop] at lm
    have flI : ∀ (ns : List Int), ns.length ≤ 1000 → FlB (ns.map V.int) := fun ns h => ⟨by rw [List.length_map]; omega, fun y hy => by
      obtain ⟨i, _, rfl⟩ := List.mem_map.mp hy
      exact .inl ⟨i, rfl⟩⟩
    try dsimp only [tNext, tDrop, tSeq, tAsg, gName]
    refine ⟨.int kk, rfl, _, _, rfl, rfl, _, rfl, ite2 (fun _ => ?_) (fun _ => ?_)⟩
    · refine ⟨.ref K0, rfl, K0, _, rfl, .inl ⟨sq_of eK4, fun t1 n1 => ⟨by show 2 ≤ sizeLine; decide, fun t nt => ?_⟩⟩⟩
      have k1 := (Same.new (o := .tup (ms.map V.int)) n1).trans (Same.new (o := .tup [V.str "cut", .ref t1]) nt)
      have e1 : upd (upd H4 t1 (.tup (ms.map V.int))) t (.tup [V.str "cut", .ref t1]) t1 = some (.tup (ms.map V.int)) := (Same.new nt) _ _ upd_same
      exact fin (h4.same k1) (b4.and k1) (.cut upd_same (.tup e1) fun b2 xs e2 hb2 => by
        cases e2
        rw [e1] at hb2
        cases hb2
        exact flI ms (by omega))
    try dsimp only [tNext, tDrop, tSeq, tAsg, gName]
    refine ⟨.ref K0, rfl, K0, _, rfl, .inl (sq_of eK4), fun t1 n1 => ?_⟩
    have s1 := Same.new (o := .lst (ms.map V.int)) n1
    have e1 : upd H4 t1 (.lst (ms.map V.int)) t1 = some (.lst (ms.map V.int)) := upd_same
    have eK5 := s1 _ _ eK4
    revert s1 e1 eK5
    generalize upd H4 t1 (.lst (ms.map V.int)) = G1
    intro s1 e1 eK5
    refine ⟨.ref K0, rfl, K0, _, rfl, .inl ⟨sq_of eK5, fun t2 n2 => ?_⟩⟩
    have s2 := Same.new (o := .tup (ms.map V.int)) n2
    have e2 : upd G1 t2 (.tup (ms.map V.int)) t2 = some (.tup (ms.map V.int)) := upd_same
    revert s2 e2
    generalize upd G1 t2 (.tup (ms.map V.int)) = G2
    intro s2 e2
    refine ⟨by show 1 ≤ sizeLine; decide, fun t3 n3 => ?_⟩
    have s3 := Same.new (o := .tup [V.int 0]) n3
    have e3 : upd G2 t3 (.tup [V.int 0]) t3 = some (.tup [V.int 0]) := upd_same
    revert s3 e3
    generalize upd G2 t3 (.tup [V.int 0]) = G3
    intro s3 e3
    refine ⟨t2, t3, _, _, rfl, rfl, s3 _ _ e2, e3, by rw [List.length_map]; show ms.length + 1 ≤ _; omega, fun c1 G4 s4 ec1 => ?_⟩
    have ec1 : G4 c1 = some (.tup ((ms ++ [0]).map V.int)) := by rw [ec1, List.map_append]; rfl
    have eK8 := (((s2.trans s3).trans s4)) _ _ eK5
    refine ⟨.ref K0, rfl, K0, _, rfl, .inl ⟨sq_of eK8, fun t5 n5 => ?_⟩⟩
    have s5 := Same.new (o := .tup (ms.map V.int)) n5
    have e5 : upd G4 t5 (.tup (ms.map V.int)) t5 = some (.tup (ms.map V.int)) := upd_same
    revert s5 e5
    generalize upd G4 t5 (.tup (ms.map V.int)) = G5
    intro s5 e5
    refine ⟨_, rfl, t5, _, rfl, e5, fun c6 G6 s6 ec6 => ?_⟩
    rw [cutV_from (by omega)] at ec6
    have ec6 : G6 c6 = some (.tup ((ms.drop 1).map V.int)) := by rw [ec6, List.map_drop]; rfl
    refine ⟨_, _, rfl, rfl, ⟨by decide, by decide, by decide⟩, by show 1 ≤ sizeLine; decide, fun t7 n7 => ?_⟩
    have s7 := Same.new (o := .tup [V.int (10 ^ (9 : Int).toNat)]) n7
    have e7 : upd G6 t7 (.tup [V.int (10 ^ (9 : Int).toNat)]) t7 = some (.tup [V.int (10 ^ (9 : Int).toNat)]) := upd_same
    revert s7 e7
    generalize upd G6 t7 (.tup [V.int (10 ^ (9 : Int).toNat)]) = G7
    intro s7 e7
    refine ⟨c6, t7, _, _, rfl, rfl, s7 _ _ ec6, e7, by rw [List.length_map, List.length_drop]; show ms.length - 1 + 1 ≤ _; omega, fun c8 G8 s8 ec8 => ?_⟩
    have ec8 : G8 c8 = some (.tup ((ms.drop 1 ++ [10 ^ (9 : Int).toNat]).map V.int)) := by rw [ec8, List.map_append]; rfl
    have s48 := (((s5.trans s6).trans s7).trans s8)
    have eK9 := s48 _ _ eK8
    refine ⟨.ref K0, rfl, K0, _, rfl, .inl ⟨sq_of eK9, fun t9 n9 => ?_⟩⟩
    have s9 := Same.new (o := .tup (ms.map V.int)) n9
    have e9 : upd G8 t9 (.tup (ms.map V.int)) t9 = some (.tup (ms.map V.int)) := upd_same
    revert s9 e9
    generalize upd G8 t9 (.tup (ms.map V.int)) = G9
    intro s9 e9
    refine ⟨_, rfl, _, rfl, t9, _, rfl, e9, fun c10 G10 s10 ec10 => ?_⟩
    obtain ⟨ns, ens, lns⟩ := cells_cut (ns := ms) (h := some (-1))
    rw [ens] at ec10
    refine ⟨by show 1 ≤ sizeLine; decide, fun t11 n11 => ?_⟩
    have s11 := Same.new (o := .tup [V.bl true]) n11
    have e11 : upd G10 t11 (.tup [V.bl true]) t11 = some (.tup [V.bl true]) := upd_same
    revert s11 e11
    generalize upd G10 t11 (.tup [V.bl true]) = G11
    intro s11 e11
    refine ⟨c10, t11, _, _, rfl, rfl, s11 _ _ ec10, e11, by rw [List.length_map]; show ns.length + 1 ≤ _; omega, fun c12 G12 s12 ec12 => ?_⟩
    refine ⟨_, rfl, by show 1 ≤ sizeLine; decide, fun t13 n13 => ?_⟩
    have s13 := Same.new (o := .tup [V.int (-1)]) n13
    have e13 : upd G12 t13 (.tup [V.int (-1)]) t13 = some (.tup [V.int (-1)]) := upd_same
    revert s13 e13
    generalize upd G12 t13 (.tup [V.int (-1)]) = G13
    intro s13 e13
    have sA := ((s1.trans s2).trans s3).trans s4
    have sB := sA.trans s48
    have sC := (((sB.trans s9).trans s10).trans s11).trans s12
    have sD := sC.trans s13
    refine ⟨by show 6 ≤ sizeLine; decide, fun tL nL => ?_⟩
    have hD := h4.same sD
    have bD := b4.and sD
    have nLp := (hD.ne nL).1
    have sL := Same.new (o := .lst [V.ref t1, .ref c1, .ref c8, .non, .ref c12, .ref t13]) nL
    have eL : upd G13 tL (.lst [V.ref t1, .ref c1, .ref c8, .non, .ref c12, .ref t13]) tL = some (.lst [V.ref t1, .ref c1, .ref c8, .non, .ref c12, .ref t13]) := upd_same
    revert sL eL
    generalize upd G13 tL (.lst [V.ref t1, .ref c1, .ref c8, .non, .ref c12, .ref t13]) = GL
    intro sL eL
    try dsimp only [tNext, tDrop, tSeq, tAsg, gName]
    have hL := hD.same sL
    have bL := bD.and sL
    have u13 := sL
    have u12 := s13.trans u13
    have u8 := (((s9.trans s10).trans s11).trans s12).trans u12
    have u4 := s48.trans u8
    have u1 := ((s2.trans s3).trans s4).trans u4
    have hx : ∀ x ∈ ([V.ref t1, .ref c1, .ref c8, .non, .ref c12, .ref t13] : List V), CutD GL x := by
      intro x hx
      simp only [List.mem_cons, List.not_mem_nil, or_false] at hx
      rcases hx with e | e | e | e | e | e <;> rw [e]
      · exact .lst (u1 _ _ e1)
      · exact .tup (u4 _ _ ec1) (flI _ (by rw [List.length_append, List.length_singleton]; omega))
      · exact .tup (u8 _ _ ec8) (flI _ (by rw [List.length_append, List.length_singleton, List.length_drop]; omega))
      · exact .non
      · refine .tup (u12 _ _ ec12) ⟨by rw [List.length_append, List.length_map]; show ns.length + 1 ≤ _; omega, fun y hy => ?_⟩
        rcases List.mem_append.mp hy with hy | hy
        · obtain ⟨i, _, rfl⟩ := List.mem_map.mp hy
          exact .inl ⟨i, rfl⟩
        · exact .inr ⟨true, List.mem_singleton.mp hy⟩
      · exact .tup (u13 _ _ e13) (flI [-1] (by decide))
    refine ⟨.ref tL, rfl, .ref p, rfl, p, 6, rfl, by decide, by decide, lh, hL, fun v H9 v0 v1 h9 b9 => ?_⟩
    obtain ⟨x, ex, mx⟩ := atI_in (xs := [V.ref t1, .ref c1, .ref c8, .non, .ref c12, .ref t13]) v0 v1
    have cx := (hx x mx).but hL h9 b9
    refine ⟨_, _, _, _, rfl, rfl, sq_of (b9 _ _ nLp eL), ex, by show 2 ≤ sizeLine; decide, fun t nt => ?_⟩
    obtain ⟨k, hk, hf⟩ := (cx.same (Same.new (o := .tup [V.str "cut", x]) nt)).deed
    exact fin (h9.same (Same.new nt)) ((bL.trans b9).and (Same.new nt)) (.cut upd_same hk hf)
end
end LawK
set_option maxHeartbeats 4000000
namespace LawK
open PySem PySem.Spec PyProof.Rows L2 Ev
/-- tuples and dicts are kept, lists stay lists -/
structure Kp (H H' : Hp) : Prop where
  tup : ∀ b xs, H b = some (.tup xs) → H' b = some (.tup xs)
  lst : ∀ b xs, H b = some (.lst xs) → ∃ ys, H' b = some (.lst ys)
  dic : ∀ b ks, H b = some (.dK ks) → H' b = some (.dK ks)
theorem Kp.of {H H' : Hp} (k : Same H H') : Kp H H' := ⟨fun _ _ h => k _ _ h, fun _ xs h => ⟨xs, k _ _ h⟩, fun _ _ h => k _ _ h⟩
theorem Kp.trans {H H1 H2 : Hp} (a : Kp H H1) (b : Kp H1 H2) : Kp H H2 := ⟨fun x xs h => b.tup _ _ (a.tup x xs h), fun x xs h => let ⟨ys, g⟩ := a.lst x xs h; b.lst _ _ g, fun x ks h => b.dic _ _ (a.dic x ks h)⟩
theorem Kd.kp {H H' : Hp} {x : V} {k : Kn} (h : Kp H H') (hk : Kd H x k) : Kd H' x k := by
  cases hk with
  | non => exact .non
  | bl b => exact .bl b
  | int i => exact .int i
  | str z => exact .str z
  | lst e => obtain ⟨ys, g⟩ := h.lst _ _ e; exact .lst g
  | tup e => exact .tup (h.tup _ _ e)
  | dic e => exact .dic (h.dic _ _ e)
theorem tup_back {H H' : Hp} {x : V} {k : Kn} (h : Kp H H') (hk : Kd H x k) {b : Addr} {xs : List V} (ex : x = .ref b) (e : H' b = some (.tup xs)) : H b = some (.tup xs) := by
  subst ex
  cases hk with
  | lst e2 => obtain ⟨ys, g⟩ := h.lst _ _ e2; rw [e] at g; cases g
  | tup e2 => have g := h.tup _ _ e2; rw [e] at g; cases g; exact e2
  | dic e2 => have g := h.dic _ _ e2; rw [e] at g; cases g
theorem DeedAt.kp {H H' : Hp} {v : V} {D : Deed} (h : Kp H H') (hd : DeedAt H v D) : DeedAt H' v D := by
  cases hd with
  | write e hk hv l => exact .write (h.tup _ _ e) (Kd.kp h hk) hv l
  | sync e => exact .sync (h.tup _ _ e)
  | drop e hk => exact .drop (h.tup _ _ e) (Kd.kp h hk)
  | cut e hk fl => exact .cut (h.tup _ _ e) (Kd.kp h hk) fun b xs ex hb => fl b xs ex (tup_back h hk ex hb)
theorem Stp.kp {H H' : Hp} {ls : List Str} {n : Nat} {D : Deed} {o : Out} {ls' : List Str} {n' : Nat} (h : Kp H H') (s : Stp H ls n D o ls' n') : Stp H' ls n D o ls' n' := by
  cases s with
  | w0 c => exact .w0 c
  | w1 c => exact .w1 c
  | s => exact .s
  | d0 c => exact .d0 c
  | d1 c => exact .d1 c
  | c0 c => exact .c0 ⟨Kd.kp h c.kd, c.no, fun b xs ex hb => c.tup b xs ex (tup_back h c.kd ex hb)⟩
  | c1 e f c => exact .c1 (h.tup _ _ e) f c
theorem ne_of {H : Hp} {x y : Addr} {u v : HO} (hx : H x = some u) (hy : H y = some v) (n : u ≠ v) : x ≠ y := fun z => n (by rw [z, hy] at hx; exact (Option.some.inj hx).symm)
theorem lv_two {ls : List Str} {b : Addr} {y : V} : HO.lst (lv ls) ≠ .lst [.ref b, y] := fun z => by
  have z := HO.lst.inj z
  cases ls with
  | nil => cases z
  | cons u l => cases (List.cons.inj z).1
theorem ints_two {cs : List Int} {b : Addr} {y : V} : HO.lst (cs.map V.int) ≠ .lst [.ref b, y] := fun z => by
  have z := HO.lst.inj z
  cases cs with
  | nil => cases z
  | cons u l => cases (List.cons.inj z).1
theorem lv_five {ls : List Str} {b : Addr} {y : List V} : HO.lst (lv ls) ≠ .lst (.ref b :: y) := fun z => by
  have z := HO.lst.inj z
  cases ls with
  | nil => cases z
  | cons u l => cases (List.cons.inj z).1
theorem Kp.disk {H H' : Hp} {C d a a' : Addr} {ls ls' : List Str} {n n' : Nat} (h : DskAt H C d a ls n) (h' : DskAt H' C d a' ls' n') (bs : ButS [d, a] H H') (ea : a' = a ∨ H a' = none ∧ ButS [d] H H') : Kp H H' := by
  obtain ⟨dx, ed⟩ := h.ob
  have ea0 := h.at_
  refine ⟨fun b xs e => bs _ _ ?_ e, fun b xs e => ?_, fun b ks e => bs _ _ ?_ e⟩
  · simp only [List.mem_cons, List.not_mem_nil, or_false, not_or]
    exact ⟨ne_of e ed (fun z => by cases z), ne_of e ea0 (fun z => by cases z)⟩
  · have nd : b ≠ d := ne_of e ed (fun z => by cases z)
    by_cases z : b = a
    · subst z
      rcases ea with ea | ⟨_, b1⟩
      · subst ea
        exact ⟨_, h'.at_⟩
      · exact ⟨_, b1 _ _ (by simpa using nd) e⟩
    · exact ⟨_, bs _ _ (by simp only [List.mem_cons, List.not_mem_nil, or_false, not_or]; exact ⟨nd, z⟩) e⟩
  · simp only [List.mem_cons, List.not_mem_nil, or_false, not_or]
    exact ⟨ne_of e ed (fun z => by cases z), ne_of e ea0 (fun z => by cases z)⟩
theorem Kp.acc {H H' : Hp} {e b b' : Addr} {ls ls' : List Str} {n n' : Nat} (h : AccAt H e b ls n) (h' : AccAt H' e b' ls' n') (bs : ButS [e] H H') : Kp H H' := by
  have ee := h.ob
  refine ⟨fun b xs e => bs _ _ ?_ e, fun c xs ec => ?_, fun b ks e => bs _ _ ?_ e⟩
  · simpa using ne_of e ee (fun z => by cases z)
  · by_cases z : c = e
    · subst z
      exact ⟨_, h'.ob⟩
    · exact ⟨_, bs _ _ (by simpa using z) ec⟩
  · simpa using ne_of e ee (fun z => by cases z)
/-- two disks and two accounts of theirs, all apart -/
structure Sy (C p l d a e b o c e2 b2 : Addr) (ls : List Str) (n : Nat) (ks : List Str) (k : Nat) (ms : List Str) (m : Nat) (qs : List Str) (j : Nat) (H : Hp) : Prop where
  hand : HandL H p l
  d1 : DskAt H C d a ls n
  a1 : AccAt H e b ks k
  d2 : DskAt H C o c ms m
  a2 : AccAt H e2 b2 qs j
  ne : e ≠ e2
  nd : d ≠ o
  na : a ≠ c
  ab : a ≠ b
  ab2 : a ≠ b2
  cb : c ≠ b
  cb2 : c ≠ b2
  la : l ≠ a
  lc : l ≠ c
section
variable {C p l d a e b o c e2 b2 : Addr} {ls ks ms qs : List Str} {n k m j : Nat} {H H' : Hp}
theorem Sy.same (s : Same H H') (h : Sy C p l d a e b o c e2 b2 ls n ks k ms m qs j H) : Sy C p l d a e b o c e2 b2 ls n ks k ms m qs j H' :=
  ⟨h.hand.same s, h.d1.same s, h.a1.same s, h.d2.same s, h.a2.same s, h.ne, h.nd, h.na, h.ab, h.ab2, h.cb, h.cb2, h.la, h.lc⟩
theorem Sy.swap (h : Sy C p l d a e b o c e2 b2 ls n ks k ms m qs j H) : Sy C p l o c e2 b2 d a e b ms m qs j ls n ks k H :=
  ⟨h.hand, h.d2, h.a2, h.d1, h.a1, h.ne.symm, h.nd.symm, h.na.symm, h.cb2, h.cb, h.ab2, h.ab, h.lc, h.la⟩
theorem dsk_but {ls : List Str} {n : Nat} {d a : Addr} (h0 : HandL H p l) (bt : But p H H') (h : DskAt H C d a ls n) : DskAt H' C d a ls n := by
  obtain ⟨dx, ed⟩ := h.ob
  exact ⟨⟨dx, bt _ _ (hand_ne h0 ed (fun _ _ _ _ _ z => by cases z)) ed⟩, bt _ _ (lines_ne h0 h.at_) h.at_, h.le, h.few, h.len⟩
theorem acc_but {ls : List Str} {n : Nat} {e b : Addr} (h0 : HandL H p l) (bt : But p H H') (h : AccAt H e b ls n) : AccAt H' e b ls n :=
  ⟨bt _ _ (hand_ne h0 h.ob (fun _ _ _ _ _ z => by cases z)) h.ob, bt _ _ (lines_ne h0 h.at_) h.at_, h.le, h.few, h.len⟩
theorem Sy.but (h : Sy C p l d a e b o c e2 b2 ls n ks k ms m qs j H) (h1 : HandL H' p l) (bt : But p H H') : Sy C p l d a e b o c e2 b2 ls n ks k ms m qs j H' :=
  ⟨h1, dsk_but h.hand bt h.d1, acc_but h.hand bt h.a1, dsk_but h.hand bt h.d2, acc_but h.hand bt h.a2, h.ne, h.nd, h.na, h.ab, h.ab2, h.cb, h.cb2, h.la, h.lc⟩
theorem fresh_ne {H : Hp} {x y : Addr} {u : HO} (n : H x = none) (e : H y = some u) : x ≠ y := fun z => by rw [z, e] at n; cases n
theorem Sy.called {a' : Addr} {ls' : List Str} {n' : Nat} (h : Sy C p l d a e b o c e2 b2 ls n ks k ms m qs j H) (hd : DskAt H' C d a' ls' n') (bs : ButS [d, a] H H') (ea : a' = a ∨ H a' = none ∧ ButS [d] H H') : Sy C p l d a' e b o c e2 b2 ls' n' ks k ms m qs j H' := by
  obtain ⟨hh, h1, h2, h3, h4, ne, nd, na, ab, ab2, cb, cb2, la, lc⟩ := h
  obtain ⟨dx, ed⟩ := h1.ob
  obtain ⟨ox, eo⟩ := h3.ob
  have ea0 := h1.at_
  have nin : ∀ {x : Addr} {xs : List V}, H x = some (.lst xs) → x ≠ a → x ∉ [d, a] := fun {x xs} e n => by
    simp only [List.mem_cons, List.not_mem_nil, or_false, not_or]
    exact ⟨ne_of e ed (fun z => by cases z), n⟩
  have hh' : HandL H' p l := by
    obtain ⟨cells, i, r, s, n, g1, g2, g3⟩ := hh
    exact ⟨cells, i, r, s, n, bs _ _ (nin g1 (ne_of g1 ea0 fun z => lv_five z.symm)) g1, bs _ _ (nin g2 la) g2, g3⟩
  have fr : ∀ {x : Addr} {u : HO}, H x = some u → x ≠ a → x ≠ a' := fun {x u} e n z => by
    rcases ea with ea | ⟨f, _⟩
    · exact n (by rw [z, ea])
    · rw [← z, e] at f
      cases f
  obtain ⟨cells, i, r, s, n1, g1, g2, g3⟩ := hh
  have h2' := h2.buts bs (nin h2.ob (ne_of h2.ob ea0 fun z => lv_two z.symm)) (nin h2.at_ ab.symm)
  have h4' := h4.buts bs (nin h4.ob (ne_of h4.ob ea0 fun z => lv_two z.symm)) (nin h4.at_ ab2.symm)
  have no : o ∉ [d, a] := by
    simp only [List.mem_cons, List.not_mem_nil, or_false, not_or]
    exact ⟨nd.symm, ne_of eo ea0 (fun z => by cases z)⟩
  exact ⟨hh', hd, h2', h3.buts bs no (nin h3.at_ na.symm), h4', ne, nd, (fr h3.at_ na.symm).symm, (fr h2.at_ ab.symm).symm, (fr h4.at_ ab2.symm).symm, cb, cb2, fr g2 la, lc⟩
theorem Sy.did {b' : Addr} {ks' : List Str} {k' : Nat} (h : Sy C p l d a e b o c e2 b2 ls n ks k ms m qs j H) (ha : AccAt H' e b' ks' k') (bs : ButS [e] H H') (eb : b' = b ∨ H b' = none) : Sy C p l d a e b' o c e2 b2 ls n ks' k' ms m qs j H' := by
  obtain ⟨hh, h1, h2, h3, h4, ne, nd, na, ab, ab2, cb, cb2, la, lc⟩ := h
  obtain ⟨dx, ed⟩ := h1.ob
  obtain ⟨ox, eo⟩ := h3.ob
  have ee := h2.ob
  have hh' : HandL H' p l := by
    obtain ⟨cells, i, r, s, n, g1, g2, g3⟩ := hh
    exact ⟨cells, i, r, s, n, bs _ _ (by simpa using ne_of g1 ee (fun z => by cases z)) g1, bs _ _ (by simpa using ne_of g2 ee ints_two) g2, g3⟩
  have fr : ∀ {x : Addr} {u : HO}, H x = some u → x ≠ b → x ≠ b' := fun {x u} e n z => by
    rcases eb with eb | f
    · exact n (by rw [z, eb])
    · rw [← z, e] at f
      cases f
  exact ⟨hh', h1.buts bs (by simpa using ne_of ed ee (fun z => by cases z)) (by simpa using ne_of h1.at_ ee lv_two), ha, h3.buts bs (by simpa using ne_of eo ee (fun z => by cases z)) (by simpa using ne_of h3.at_ ee lv_two), h4.buts bs (by simpa using ne.symm) (by simpa using ne_of h4.at_ ee lv_two), ne, nd, na, fr h1.at_ ab, ab2, fr h3.at_ cb, cb2, la, lc⟩
/-- another disk and another account, as these -/
theorem Sy.anew {o' c' f : Addr} (h : Sy C p l d a e b o c e2 b2 ls n ls n ms m qs j H) (s : Same H H') (no : H o' = none) (nc : H c' = none) (nf : H f = none) (h3 : DskAt H' C o' c' ls n) (h4 : H' f = some (.lst [.ref b, .int (n : Nat)])) : Sy C p l d a e b o' c' f b ls n ls n ls n ls n H' := by
  obtain ⟨hh, h1, h2, _, _, _, _, _, ab, _, _, _, la, _⟩ := h
  obtain ⟨dx, ed⟩ := h1.ob
  obtain ⟨cells, i, r, s1, n1, g1, g2, g3⟩ := id hh
  have h2' := h2.same s
  exact ⟨hh.same s, h1.same s, h2', h3, ⟨h4, h2'.at_, h2'.le, h2'.few, h2'.len⟩, (fresh_ne nf h2.ob).symm, (fresh_ne no ed).symm, (fresh_ne nc h1.at_).symm, ab, ab, fresh_ne nc h2.at_, fresh_ne nc h2.at_, la, (fresh_ne nc g2).symm⟩
end
theorem out_same {H : Hp} {t u : Addr} {o : Out} (h1 : OutAt H t o) (h2 : OutAt H u o) : R3 H (.ref t) (.ref u) := by
  refine .tup h1 h2 rfl (by cases o with | told v => cases v <;> (show 2 ≤ 5000; decide) | _ => show 2 ≤ 5000; decide) fun i x y e1 e2 => ?_
  rw [e1] at e2
  cases e2
  have m := List.mem_of_getElem? e1
  have : Sc x := by
    cases o with
    | told v => cases v <;> (simp only [Out.vs, List.mem_cons, List.not_mem_nil, or_false] at m; rcases m with e | e <;> rw [e] <;> constructor)
    | _ => simp only [Out.vs, List.mem_cons, List.not_mem_nil, or_false] at m; rcases m with e | e <;> rw [e] <;> constructor
  exact .sc this
end LawK
set_option maxHeartbeats 4000000
/-! The law's own def, called by the caller of claims alone: what runs around it is known (no repr is under way). -/
namespace Ev
open PySem PySem.Spec PyProof.Rows L2
/-- the def at f keeps sp, called where A runs around it -/
structure FnAt (A : Around) (P : Program) (w : World) (K : PySem.W.Frag) (mg : Str → Option Value) (base : Heap) (CX : CXT) (f : Addr) (fd : FuncData) (ps : List Str) (sp : Sp) : Prop where
  len : ∀ vs H Q E, sp vs H Q E → vs.length = ps.length
  run : ∀ (outer : List Env) (s : Shared) (H : Hp) (args : Args) (us : List Value) (vs : List V) (Q : VK) (E : XK), Env0 P w K mg base A outer s H → BindsTo s fd args (ps.zip us) → Vals vs us → sp vs H Q E →
    codeAny (model P w) A (.call (.ref f) args) (CR CX outer P w H s Q E) s
section
variable {A : Around} {CX : CXT} {P : Program} {w : World} {K : PySem.W.Frag} {mg : Str → Option Value} {base : Heap} {k : Nat}
theorem fun_at {x qual : Str} {st : Stmt} {f : Addr} {fd : FuncData} {N ps : List Str} {sp : Sp} (F : Fun K x qual st f fd) (S : FnScope N ps (defScope st)) (hr : Room (k + 1) A) (len : ∀ vs H Q E, sp vs H Q E → vs.length = ps.length)
    (hbody : ∀ (cdv : Value) (outer : List Env) (s : Shared) (H : Hp) (vs : List V) (Q : VK) (E : XK), Room k (A.deeper (envOfC qual (defScope st) s.heap.objs.size f cdv)) → sp vs H Q E →
      ∃ t, PSs (cxOf CX P w K mg base N qual (defScope st) f cdv A outer s H E).nox (defBody st) t ∧ t { nx := fun _ H' => Q .non H', rt := Q } (start N vs) H) : FnAt A P w K mg base CX f fd ps sp := by
  obtain ⟨oc, od, kV, doc, pm, an, cdv, ct, osl, rfl, lk, hcd⟩ := F.ex
  refine ⟨len, fun outer s H args us vs Q E e0 hb r hsp => ?_⟩
  have lim : s.heap.NoLimit := e0.mod.nolimit.keeps fun b o e => (e0.bs b o e).1
  have KX : K.In s.heap := e0.mod.kin.keeps fun b o e => (e0.bs b o e).1
  have kinds : ∀ y ∈ ps.zip us, (defScope st).names.lookup y.1 = some .local ∨ ((defScope st).names.lookup y.1 = some .cell ∧ ((cellsFrom (s.heap.objs.size + 1) (defScope st).names []).lookup y.1).isSome = true) := by
    rintro ⟨n, v⟩ hy
    exact (S.par n (List.of_mem_zip hy).1).imp id fun q => ⟨q, PySem.W.cellsFrom_some _ _ _ (.inl q)⟩
  refine codeAny_call_function hr.depth (KX _ _ lk) rfl S.co S.gen rfl (PySem.W.codeRec_of KX hcd) (hb _ _ _ _ (wpAny_newFunctionEnv_cells S.kind kinds fun env he s1 x => ?_))
  subst he
  obtain ⟨t, ht, hq⟩ := hbody cdv outer s H vs Q E (hr.deeper _) hsp
  have I := inv_start (CX := CX) (P := P) (w := w) (mg := mg) (base := base) (E := E) S hr.hd e0 (len _ _ _ _ hsp) r x
  refine ⟨lim.keeps x.toInCall.keep, codeAny_func (wpAny_mono (ht.nox.run [] s1 (start N vs) H _ I hq) (fun fl s' hs => ?_) fun e s' hs => hs)⟩
  cases fl with
  | ret u =>
    obtain ⟨v, σ', H', J, rv, q⟩ := hs
    exact ⟨v, H', J.os, J.bare, J.base, J.hok, rv, q⟩
  | next =>
    obtain ⟨σ', H', J, q⟩ := hs
    exact ⟨V.non, H', J.os, J.bare, J.base, J.hok, rfl, q⟩
  | brk => exact hs.elim fun _ z => z.elim fun _ y => y.2.elim
  | cont => exact hs.elim fun _ z => z.elim fun _ y => y.2.elim
end
section
variable {P : Program} {w : World} {K : PySem.W.Frag} {mg mb : Str → Option Value} {fa a : Addr} {fd : FuncData} {x : Str} {sp : Sp} {s₁ : Shared} {vs : List Value} {ns : List Int}
/-- from one abstract heap: nothing is tracked but, perhaps, the script -/
theorem law_at0 {H : Hp} (KX : K.In s₁.heap) (hns : s₁.heap.Ns mainGlobals mg) (hb : s₁.heap.Ns builtinsNs mb) (hbb : ∀ y : Str, y ≠ "__name__" → mb y = bootBuiltins y) (hlim : s₁.heap.NoLimit) (hg : s₁.gens = #[])
    (ha : s₁.heap.get? a = some { cls := .type "list", data := .seq vs.toArray }) (F : ∀ base : Heap, K.In base → base.Ns mainGlobals mg → FnAt callerA P w K mg base CX0 fa fd [x] sp)
    (hbind : ∀ (s : Shared) (u : Value), BindsTo s fd ⟨[u], []⟩ [(x, u)]) (hO : Only H) (hok : HOk P w H s₁.heap) (hA : ∀ b, H b ≠ none → b = a) (hK : H a ≠ none → K.lookup a = none)
    (hsp : sp [.ref a] H (fun v _ => v = .bl true) fun _ _ _ => False) :
    codeAny (model P w) callerA (.call (.ref fa) ⟨[.ref a], []⟩) (fun r s' => r = .ok (.ret (.bool true)) ∧ OldK s₁.heap s'.heap ∧ s'.os = s₁.os ∧ AllBare s'.gens) s₁ := by
  have off : ∀ {b : Addr} {o : Obj}, s₁.heap.get? b = some o → o ≠ { cls := .type "list", data := .seq vs.toArray } → H b = none := fun {b o} e n => by
    refine Classical.byContradiction fun z => n ?_
    have eb := hA b z
    rw [eb, ha] at e
    exact (Option.some.inj e).symm
  have nsK : ∀ {b : Addr} {m : Str → Option Value}, s₁.heap.Ns b m → (hidT s₁.heap H).Ns b m := fun {b m} ⟨o, es, ep, e, d, r⟩ => ⟨o, es, ep, hidT_get e (off e fun z => by rw [z] at d; cases d), d, r⟩
  have hKb : K.In (hidT s₁.heap H) := fun b o e => hidT_get (KX b o e) (Classical.byContradiction fun z => by
    have eb := hA b z
    rw [eb] at e z
    rw [hK z] at e
    cases e)
  have hM : Mod K mg (hidT s₁.heap H) := ⟨hKb, nsK hns, ⟨mb, nsK hb, hbb⟩, hlim.elim fun mc z => ⟨mc, nsK z.1, z.2⟩⟩
  have e0 : Env0 P w K mg (hidT s₁.heap H) callerA [] s₁ H := ⟨rfl, hM, fun b o e => of_hidT e, Nat.le_of_eq (hidT_size _ _), trivial, fun b hb => absurd (show b ∈ ([] : List Addr) from hb) (by simp), hok, .of_eq hg⟩
  refine codeAny_mono ((F _ hKb (nsK hns)).run [] s₁ H ⟨[.ref a], []⟩ [.ref a] [.ref a] _ _ e0 (hbind s₁ (.ref a)) (.cons rfl .nil) hsp) fun r s' h => ?_
  rcases r with e | fl
  · exact False.elim h
  cases fl with
  | next => exact False.elim h
  | brk => exact False.elim h
  | cont => exact False.elim h
  | ret u =>
    obtain ⟨v, H', os, bare, un, hok', r', rfl⟩ := h
    obtain rfl : u = Value.bool true := r'
    refine ⟨rfl, OldK.of_keep fun b o e => ?_, os, bare⟩
    rcases hO b with z | ⟨ob, xs, z⟩
    · exact un.keep b o e z (fun y => absurd (show b ∈ ([] : List Addr) from y) (by simp)) (by simp)
    · have e1 := (hok b _ z).1
      rw [e] at e1
      cases e1
      exact (hok' b _ (un.frzs b _ _ z)).1
theorem law_at (KX : K.In s₁.heap) (hns : s₁.heap.Ns mainGlobals mg) (hb : s₁.heap.Ns builtinsNs mb) (hbb : ∀ y : Str, y ≠ "__name__" → mb y = bootBuiltins y) (hlim : s₁.heap.NoLimit) (hg : s₁.gens = #[])
    (ha : s₁.heap.get? a = some { cls := .type "list", data := .seq vs.toArray }) (hi : IntsAre vs ns) (hl : ns.length ≤ sizeLine)
    (F : ∀ base : Heap, K.In base → base.Ns mainGlobals mg → FnAt callerA P w K mg base CX0 fa fd [x] sp) (hbind : ∀ (s : Shared) (u : Value), BindsTo s fd ⟨[u], []⟩ [(x, u)])
    (hsp : ∀ H : Hp, Only H → SqL K H a (ns.map V.int) → sp [.ref a] H (fun v _ => v = .bl true) fun _ _ _ => False) :
    codeAny (model P w) callerA (.call (.ref fa) ⟨[.ref a], []⟩) (fun r s' => r = .ok (.ret (.bool true)) ∧ OldK s₁.heap s'.heap ∧ s'.os = s₁.os ∧ AllBare s'.gens) s₁ := by
  have rv := vals_ints hi
  cases hk : K.lookup a with
  | some o =>
    have e := KX a o hk
    rw [ha] at e
    cases e
    have hO : Only (fun _ => none) := fun _ => .inl rfl
    exact law_at0 KX hns hb hbb hlim hg ha F hbind hO (fun b u z => by cases z) (fun b z => absurd rfl z) (fun z => absurd rfl z)
      (hsp _ hO (.inr ⟨_, vs.toArray, _, hk, rfl, rfl, rfl, by rw [List.size_toArray, hi.length]; exact hl, by simpa using rv⟩))
  | none =>
    have same : upd (fun _ => none) a (.frz { cls := .type "list", data := .seq vs.toArray } (.lst (ns.map V.int))) a = some (.frz { cls := .type "list", data := .seq vs.toArray } (.lst (ns.map V.int))) := upd_same
    have hO : Only (upd (fun _ => none) a (.frz { cls := .type "list", data := .seq vs.toArray } (.lst (ns.map V.int)))) := fun b => by
      by_cases h : b = a
      · exact .inr ⟨_, _, by rw [h]; exact same⟩
      · exact .inl (by rw [upd_ne h])
    refine law_at0 KX hns hb hbb hlim hg ha F hbind hO (fun b u z => ?_) (fun b z => ?_) (fun _ => hk) (hsp _ hO (.inl (.inr ⟨_, same⟩)))
    · by_cases h : b = a
      · subst h
        rw [same] at z
        cases z
        exact ⟨ha, by rw [List.length_map]; exact hl, vs, _, rv, ha⟩
      · rw [upd_ne h] at z
        cases z
    · exact Classical.byContradiction fun h => z (by rw [upd_ne h])
end
/-- the end of a law's row -/
theorem walk_at {l : PySem.W.OpenLaw} {n : Nat} {q : Program} {loose : List Str} {XP : (Str → Option Value) → Heap → Prop} {YP : World → Heap → Prop} {d : DefRec} {K : Params → PySem.W.Frag} {sp : PySem.W.Frag → Sp} {x : Str}
    (hn : l.most = some n) (hn2 : n ≤ sizeLine) (hdf : d.params.defaults = []) (hY : ∀ (w : World) (h : Heap), YP w h → (K w.params).In h)
    (F : ∀ (w : World) (mg : Str → Option Value) (fa : Addr) (h : Heap), (K w.params).In h → h.Ns mainGlobals mg → mg d.name = some (.ref fa) →
      ∃ fd : FuncData, (∀ (s : Shared) (u : Value), BindsTo s fd ⟨[u], []⟩ [(x, u)]) ∧ ∀ base : Heap, (K w.params).In base → base.Ns mainGlobals mg → FnAt callerA l.prog w (K w.params) mg base CX0 fa fd [x] (sp (K w.params)))
    (hsp : ∀ (K : PySem.W.Frag) (H : Hp) (a : Addr) (ns : List Int), ns.length ≤ n → Only H → SqL K H a (ns.map V.int) → sp K [.ref a] H (fun v _ => v = .bl true) fun _ _ _ => False) :
    PySem.W.WalkO q loose XP YP l.row.toRowW d [] (fun f vs => PySem.call f vs) :=
  Att.attach_call hn hdf fun w s₀ s₁ mg mb fa o pm cd doc a vs ns G Y ho hd hcd hmg hobj hints hlen hg => by
    obtain ⟨fd, hb, hF⟩ := F w mg fa _ (hY w _ Y) G.T.g hmg
    exact law_at (hY w _ Y) G.T.g G.T.b G.T.builtins G.T.nolimit hg hobj hints (Nat.le_trans hlen hn2) hF hb fun H hO hS => hsp _ H a ns hlen hO hS
/-- C() of an own error class without an __init__ of its own -/
theorem pe_excP {X : Cx} {x : Str} {C : Addr} {p pos : Pos} {bmB : List Value} {B newId initId : String} (F : ExcBaseFacts B newId initId bmB) (q : PySem.W.excIn X.K C bmB newId = true) (kC : PySem.W.keepIn X.K (.ref C) = true) (hg : Gl X x) (hm : X.mg x = some (.ref C))
    (hdb : (x == ("__debug__" : Str)) = false := by decide) : PE X (.Call (.Name x p) [] [] pos) (fun _ H Q => ∀ a, H a = none → Q (.ref a) (upd H a (exo a C none))) := by
  refine ⟨fun pins s σ H Q I h => ?_⟩
  refine wpAny_Call_Name_kw (ld_glob I hg hm ?_ hdb)
  refine PySem.W.callWith_K0 I.kIn kC ?_
  show wpAny _ _ (call (.ref C) []) _ _ _
  obtain ⟨bm, N, nm, qn, bs, hdct, sn, sub, ab, col, dd, k0, k1, k2, k3, k5, mN, hC, hN, hni, T⟩ := exc_obj I.kIn q
  refine wpAny_call_exc_subT F T hC hN hni (fun h' a hm => ?_) (by show 0 ≤ sizeLine; decide)
  have hn : H a = none := I.hok.gone hm.new
  obtain ⟨t, ht, _, _⟩ := hm.there
  exact ⟨.ref a, upd H a (exo a C none), I.laidN hm.keeps hm.new hn (exo_ok ht), rfl, h a hn⟩
end Ev
set_option maxHeartbeats 4000000
namespace LawK
open PySem PySem.Spec PyProof.Rows L2 Ev
abbrev sLaw : Stmt := topS 30
theorem scLaw : FnScope ["script", "hand", "disk", "account", "other", "twin", "turn", "deed"] ["script"] (defScope sLaw) := ⟨rfl, rfl, rfl, by decide +kernel, rfl, by decide +kernel, by decide +kernel⟩
def spLaw (K : PySem.W.Frag) : Sp := fun vs H Q _ => ∃ (a : Addr) (ns : List Int), vs = [.ref a] ∧ SqL K H a (ns.map V.int) ∧ ∀ H', Q (.bl true) H'
section
variable {P : Program} {w : World} {K : PySem.W.Frag} {mg : Str → Option Value} {base : Heap}
variable {C : Addr}

theorem ok_law {f fI fO fL : Addr} {fd fdI fdO fdL : FuncData} (F : Fun K "law" "law" sLaw f fd) {fHand : Addr} {fdHand : FuncData} (DHand : Dk P w K mg base "_law_hand" sHand ["script"] 1 (spHand K) fHand fdHand) {fDraw : Addr} {fdDraw : FuncData} (DDraw : Dk P w K mg base "_law_draw" sDraw ["hand", "many"] 1 spDraw fDraw fdDraw) {fIs : Addr} {fdIs : FuncData} (DIs : Dk P w K mg base "_law_is" sIs ["told", "due"] 3 (spIsR R3) fIs fdIs) {fCalled : Addr} {fdCalled : FuncData} (DCalled : Dk P w K mg base "_law_called" sCalled ["disk", "deed"] 4 (spCalled C) fCalled fdCalled) {fDid : Addr} {fdDid : FuncData} (DDid : Dk P w K mg base "_law_did" sDid ["account", "deed"] 2 spDid fDid fdDid) {fDeed : Addr} {fdDeed : FuncData} (DDeed : Dk P w K mg base "_law_deed" sDeed ["hand", "account"] 6 spDeed fDeed fdDeed) {fIsDisk : Addr} {fdIsDisk : FuncData} (DIsDisk : Dk P w K mg base "_law_is_disk" sIsDisk ["disk", "account"] 4 (spIsDisk C) fIsDisk fdIsDisk) {fAreRecords : Addr} {fdAreRecords : FuncData} (DAreRecords : Dk P w K mg base "_law_are_records" sAreRecords ["hand"] 6 spRecs fAreRecords fdAreRecords) (B : DskB K mg C) (M : Mk K C fI) (bI : Binds K fdI ["self"] []) (GI : FnOk P w K mg base CX0 1 fI fdI ["self"] (spDInit C)) (mO : Meth K C "copy" fO) (bO : Binds K fdO ["self"] []) (GO : FnOk P w K mg base CX0 3 fO fdO ["self"] (spDCopy C)) (mL : Meth K C "lines" fL) (bL : Binds K fdL ["self"] []) (GL : FnOk P w K mg base CX0 1 fL fdL ["self"] (spDLines C))
    (T : Glob mg) : FnAt callerA P w K mg base CX0 f fd ["script"] (spLaw K) := by
  refine fun_at (k := 12) F scLaw ⟨rfl, by decide, by decide⟩ (fun vs H Q E h => ?_) (fun cdv outer s H vs Q E hr h => ?_)
  · obtain ⟨a, ns, rfl, _⟩ := h
    rfl
  · refine ⟨_, (pss_cons (ps_set (i := 1) scLaw.nd rfl (.inl rfl) (pe_call DHand.ok (hr.mono (by decide)) (by rfl) DHand.g DHand.F.kp DHand.b .nil pass0 (pa_cons (pv 0) pa_nil)))
      (pss_cons (ps_set (i := 2) scLaw.nd rfl (.inl rfl) (pe_make0 M GI (hr.mono (by decide)) (by rfl) B.g bI .nil pass0))
      (pss_cons (ps_set (i := 3) scLaw.nd rfl (.inl rfl) (pe_lst (pa_cons (pe_lst pa_nil) (pa_cons pe_int pa_nil))))
      (pss_cons (ps_set (i := 4) scLaw.nd rfl (.inl rfl) (pe_meth0 (pv 2) B.cl mO GO (hr.mono (by decide)) bO .nil pass0))
      (pss_cons (ps_set (i := 5) scLaw.nd rfl (.inl rfl) (pe_lst (pa_cons (pe_lst pa_nil) (pa_cons pe_int pa_nil))))
      (pss_cons (ps_for PassesOwn.never rfl (pi_range1 (by rfl) T.range (pa_cons (pe_op op_add pe_int (pe_call DDraw.ok (hr.mono (by decide)) (by rfl) DDraw.g DDraw.F.kp DDraw.b .nil pass0 (pa_cons (pv 1) (pa_cons pe_int pa_nil)))) pa_nil)) (pg_name (i := 6) scLaw.nd rfl (.inl rfl))
      (pss_cons (ps_if (pt_cmpR op_eq (pe_call DDraw.ok (hr.mono (by decide)) (by rfl) DDraw.g DDraw.F.kp DDraw.b .nil pass0 (pa_cons (pv 1) (pa_cons pe_int pa_nil))) pe_int (nomark _))
        (pss_cons (ps_set (i := 4) scLaw.nd rfl (.inl rfl) (pe_meth0 (pv 2) B.cl mO GO (hr.mono (by decide)) bO .nil pass0))
          (pss_one (ps_set (i := 5) scLaw.nd rfl (.inl rfl) (pe_callTy call_list_of (by rfl) T.list (by decide +kernel) (pa_cons (pv 3) pa_nil)))))
        pss_nil)
        (pss_cons (ps_set (i := 7) scLaw.nd rfl (.inl rfl) (pe_call DDeed.ok (hr.mono (by decide)) (by rfl) DDeed.g DDeed.F.kp DDeed.b .nil pass0 (pa_cons (pv 1) (pa_cons (pv 3) pa_nil))))
        (pss_cons (ps_if (PW.pt (pw_or (pt_not (pt_val (pe_call DIs.ok (hr.mono (by decide)) (by rfl) DIs.g DIs.F.kp DIs.b .nil pass0 (pa_cons (pe_call DCalled.ok (hr.mono (by decide)) (by rfl) DCalled.g DCalled.F.kp DCalled.b .nil pass0 (pa_cons (pv 2) (pa_cons (pv 7) pa_nil))) (pa_cons (pe_call DDid.ok (hr.mono (by decide)) (by rfl) DDid.g DDid.F.kp DDid.b .nil pass0 (pa_cons (pv 3) (pa_cons (pv 7) pa_nil))) pa_nil))))) (pw_or1 (pt_not (pt_val (pe_call DIsDisk.ok (hr.mono (by decide)) (by rfl) DIsDisk.g DIsDisk.F.kp DIsDisk.b .nil pass0 (pa_cons (pv 2) (pa_cons (pv 3) pa_nil))))))))
        (pss_one (ps_ret pe_bl))
        pss_nil)
        (pss_cons (ps_expr (pe_bm PySem.F.plainAttrs_list PySem.F.slot_list_append PySem.F.type_list_append mt_append (pe_meth0 (pv 2) B.cl mL GL (hr.mono (by decide)) bL .nil pass0) (pa_cons pe_str pa_nil)))
        (pss_cons (ps_if (pt_cmpR op_eq (pe_op op_mod (pv 6) pe_int) pe_int (nomark _))
        (pss_cons (ps_set (i := 7) scLaw.nd rfl (.inl rfl) (pe_call DDeed.ok (hr.mono (by decide)) (by rfl) DDeed.g DDeed.F.kp DDeed.b .nil pass0 (pa_cons (pv 1) (pa_cons (pv 5) pa_nil))))
          (pss_one (ps_if (pt_not (pt_val (pe_call DIs.ok (hr.mono (by decide)) (by rfl) DIs.g DIs.F.kp DIs.b .nil pass0 (pa_cons (pe_call DCalled.ok (hr.mono (by decide)) (by rfl) DCalled.g DCalled.F.kp DCalled.b .nil pass0 (pa_cons (pv 4) (pa_cons (pv 7) pa_nil))) (pa_cons (pe_call DDid.ok (hr.mono (by decide)) (by rfl) DDid.g DDid.F.kp DDid.b .nil pass0 (pa_cons (pv 5) (pa_cons (pv 7) pa_nil))) pa_nil)))))
          (pss_one (ps_ret pe_bl))
          pss_nil)))
        pss_nil)
        (pss_one (ps_if (PW.pt (pw_or (pt_not (pt_val (pe_call DIsDisk.ok (hr.mono (by decide)) (by rfl) DIsDisk.g DIsDisk.F.kp DIsDisk.b .nil pass0 (pa_cons (pv 4) (pa_cons (pv 5) pa_nil))))) (pw_or1 (pt_not (pt_val (pe_call DAreRecords.ok (hr.mono (by decide)) (by rfl) DAreRecords.g DAreRecords.F.kp DAreRecords.b .nil pass0 (pa_cons (pv 1) pa_nil)))))))
        (pss_one (ps_ret pe_bl))
        pss_nil))))))))
      (pss_one (ps_ret (pe_call DIsDisk.ok (hr.mono (by decide)) (by rfl) DIsDisk.g DIsDisk.F.kp DIsDisk.b .nil pass0 (pa_cons (pv 2) (pa_cons (pv 3) pa_nil))))))))))), ?_⟩
    obtain ⟨a0, ns, rfl, hS, q⟩ := h
    refine ⟨.ref a0, rfl, a0, ns, rfl, hS, fun p l H1 np nl h1 k1 => ?_⟩
    try dsimp only [tSeq, gName, tAsg]
    refine fun d dx nd ndx ndxd => ⟨d, dx, rfl, upd_same, fun a H2 na hd b2 => ⟨rfl, ?_⟩⟩
    have kx := Same.new (o := .own d) ndx
    have nd2 : upd H1 dx (.own d) d = none := by
      rw [upd_ne (Ne.symm ndxd)]
      exact nd
    have kd := kx.trans (Same.new (o := .ins C dx []) nd2)
    have k2 : Same H1 H2 := fun b u e => b2 b u (fun z => by rw [List.mem_singleton.mp z, nd] at e; cases e) (kd _ _ e)
    have naH : H1 a = none := Same.free kd na
    have h2 := h1.same k2
    obtain ⟨cells, i1, r1, s1, n1, g1, g2, g3⟩ := id h1
    have la : l ≠ a := (fresh_ne naH g2).symm
    clear kx nd2 kd b2 na
    try dsimp only [tSeq, gName, tAsg]
    refine ⟨by show 0 ≤ sizeLine; decide, fun b nb => ⟨by show 2 ≤ sizeLine; decide, fun e ne0 => ?_⟩⟩
    have k3 := (Same.new (o := .lst []) nb).trans (Same.new (o := .lst [.ref b, .int 0]) ne0)
    have eb : upd (upd H2 b (.lst [])) e (.lst [.ref b, .int 0]) b = some (.lst (lv [])) := (Same.new ne0) _ _ upd_same
    have ee : upd (upd H2 b (.lst [])) e (.lst [.ref b, .int 0]) e = some (.lst [.ref b, .int ((0 : Nat) : Int)]) := upd_same
    revert k3 eb ee
    generalize upd (upd H2 b (.lst [])) e (.lst [.ref b, .int 0]) = H3
    intro k3 eb ee
    have ab : a ≠ b := (fresh_ne nb hd.at_).symm
    have hd3 := hd.same k3
    obtain ⟨dx3, ed3⟩ := hd3.ob
    try dsimp only [tSeq, gName, tAsg]
    refine ⟨.ref d, rfl, d, dx3, _, rfl, ed3, lkM (by decide +kernel) (by decide +kernel), d, a, [], 0, rfl, hd3, fun o c H4 k4 no nc hd4 => ?_⟩
    try dsimp only [tSeq, gName, tAsg]
    refine ⟨by show 0 ≤ sizeLine; decide, fun b2 nb2 => ⟨by show 2 ≤ sizeLine; decide, fun e2 ne2 => ?_⟩⟩
    have k5 := (Same.new (o := .lst []) nb2).trans (Same.new (o := .lst [.ref b2, .int 0]) ne2)
    have eb2 : upd (upd H4 b2 (.lst [])) e2 (.lst [.ref b2, .int 0]) b2 = some (.lst (lv [])) := (Same.new ne2) _ _ upd_same
    have ee2 : upd (upd H4 b2 (.lst [])) e2 (.lst [.ref b2, .int 0]) e2 = some (.lst [.ref b2, .int ((0 : Nat) : Int)]) := upd_same
    have neH : H4 e2 = none := Same.free (Same.new (o := .lst []) nb2) ne2
    revert k5 eb2 ee2
    generalize upd (upd H4 b2 (.lst [])) e2 (.lst [.ref b2, .int 0]) = H5
    intro k5 eb2 ee2
    have k35 := k4.trans k5
    have sy : Sy C p l d a e b o c e2 b2 [] 0 [] 0 [] 0 [] 0 H5 :=
      ⟨((h2.same k3).same k4).same k5, (hd3.same k4).same k5, ⟨k35 _ _ ee, k35 _ _ eb, Nat.le_refl _, by decide, fun z hz => by cases hz⟩, hd4.same k5, ⟨ee2, eb2, Nat.le_refl _, by decide, fun z hz => by cases hz⟩,
        (fresh_ne neH (k4 _ _ ee)).symm, (fresh_ne no ed3).symm, (fresh_ne nc hd3.at_).symm, ab, (fresh_ne nb2 ((hd3.same k4).at_)).symm, fresh_ne nc eb, (fresh_ne nb2 hd4.at_).symm, la, (fresh_ne nc ((k2.trans k3) _ _ g2)).symm⟩
    clear ee2 eb2 ne2 nb2 hd4 nc no k4 ed3 hd3 ee eb ne0 nb hd h2 naH k2 g1 g2 g3 la ab k5 k35 neH k3
    try dsimp only [tSeq, gName, tAsg]
    refine ⟨.ref p, rfl, p, 24, rfl, by decide, by decide, l, sy.hand, fun v H6 v0 v1 h6 b6 => ?_⟩
    have sy := sy.but h6 b6
    refine ⟨_, _, rfl, rfl, 1 + v, rfl, by omega, by omega, for_range (fun i σ H' => ∃ (a b o c e2 b2 : Addr) (ls : List Str) (n : Nat) (ms : List Str) (m : Nat) (u6 u7 : Option V), σ = [some (.ref a0), some (.ref p), some (.ref d), some (.ref e), some (.ref o), some (.ref e2), u6, u7] ∧ Sy C p l d a e b o c e2 b2 ls n ls n ms m ms m H' ∧ ls.length ≤ i ∧ ms.length ≤ 2 * i) ⟨a, b, o, c, e2, b2, [], 0, [], 0, none, none, rfl, sy, Nat.le_refl _, Nat.le_refl _⟩ ?_ ?_⟩
    case refine_2 =>
      rintro σ H7 ⟨a, b, o, c, e2, b2, ls, n, ms, m, u6, u7, rfl, sy, l1, l2⟩
      exact ⟨.ref d, rfl, .ref e, rfl, d, a, e, b, ls, n, rfl, sy.d1, sy.a1, fun H8 k8 => q H8⟩
    clear sy h6 b6
    rintro i σ H7 hi ⟨a, b, o, c, e2, b2, ls, n, ms, m, u6, u7, rfl, sy, l1, l2⟩
    have i24 : i < 24 := by omega
    try dsimp only [tSeq, gName, tAsg]
    refine (?_ : ∀ (N : L2.St → Hp → Prop) (R : VK) (Bk Ct : L2.St → Hp → Prop), (∀ (o c e2 b2 : Addr) (ms : List Str) (m : Nat) (H' : Hp), Sy C p l d a e b o c e2 b2 ls n ls n ms m ms m H' → ms.length ≤ 2 * i → N [some (.ref a0), some (.ref p), some (.ref d), some (.ref e), some (.ref o), some (.ref e2), some (.int (0 + (i : Int))), u7] H') → tIfS _ _ _ { nx := N, rt := R, bk := Bk, ct := Ct } _ H7) _ _ _ _ ?_
    · intro N R Bk Ct hN
      refine ⟨.ref p, rfl, p, 8, rfl, by decide, by decide, l, sy.hand, fun w H8 w0 w1 h8 b8 => ⟨rfl, _, rfl, ite2 (fun _ => ?_) (fun _ => ?_)⟩⟩
      · have sy := sy.but h8 b8
        obtain ⟨dx3, ed3⟩ := sy.d1.ob
        try dsimp only [tSeq, gName, tAsg]
        refine ⟨.ref d, rfl, d, dx3, _, rfl, ed3, lkM (by decide +kernel) (by decide +kernel), d, a, ls, n, rfl, sy.d1, fun o' c' H9 k9 no nc hd9 => ?_⟩
        try dsimp only [tSeq, gName, tAsg]
        refine ⟨.ref e, rfl, e, _, rfl, .inl (sq_of (k9 _ _ sy.a1.ob)), fun f nf => ?_⟩
        have nf0 := Same.free k9 nf
        have kf := Same.new (o := .lst [.ref b, .int (n : Nat)]) nf
        exact hN o' c' f b ls n _ (sy.anew (k9.trans kf) no nc nf0 (hd9.same kf) upd_same) (by omega)
      · exact hN o c e2 b2 ms m H8 (sy.but h8 b8) l2
    clear sy l2
    intro o c e2 b2 ms m H8 sy l2
    try dsimp only [tSeq, gName, tAsg]
    refine ⟨.ref p, rfl, .ref e, rfl, p, e, b, ls, n, rfl, sy.a1, by omega, l, sy.hand, fun v D Hx hx bx hv => ?_⟩
    try dsimp only [tNext, tDrop, tSeq, tAsg, gName]
    have sy := sy.but hx bx
    clear hx bx
    obtain ⟨oo, ls', n', hs⟩ := stp_ex hv ls n
    obtain ⟨q1, q2, q3⟩ := stp_ok hv hs sy.d1.le sy.d1.len
    refine ⟨.ref d, rfl, v, rfl, d, a, ls, n, v, D, oo, ls', n', rfl, sy.d1, by omega, hv, hs, fun a' t1 Hy ea hd bs ho => ?_⟩
    have kp1 := Kp.disk sy.d1 hd bs ea
    have syc := Sy.called sy hd bs ea
    refine ⟨.ref e, rfl, v, rfl, e, b, ls, n, v, D, oo, ls', n', rfl, syc.a1, by omega, hv.kp kp1, hs.kp kp1, fun b' t2 Hz eb ha bs2 ho2 => ?_⟩
    have kp2 := Kp.acc syc.a1 ha bs2
    have ho1 : OutAt Hz t1 oo := kp2.tup _ _ ho
    have syd := Sy.did syc ha bs2 eb
    clear syc kp1 kp2 bs bs2 ea eb ho hv hs sy hd ha
    refine ⟨.ref t1, .ref t2, rfl, out_same ho1 ho2, fun Hw kw => ⟨_, rfl, iteF ?_⟩⟩
    have syd := syd.same kw
    clear ho1 ho2 kw
    refine ⟨.ref d, rfl, .ref e, rfl, d, a', e, b', ls', n', rfl, syd.d1, syd.a1, fun Hv kv => ⟨_, rfl, iteF ?_⟩⟩
    have syd := syd.same kv
    clear kv
    try dsimp only [tNext, tDrop, tSeq, gName, tAsg]
    obtain ⟨dx4, ed4⟩ := syd.d1.ob
    refine ⟨.ref d, rfl, d, dx4, _, rfl, ed4, lkM (by decide +kernel) (by decide +kernel), d, a', ls', n', rfl, syd.d1, fun L H9 k9 nL hL => ⟨.inl ⟨rfl, _, sq_of hL⟩, L, lv ls', .str "x", rfl, rfl, hL, ?_, ?_⟩⟩
    · rw [List.length_map, sizeLine_eq]
      omega
    have syd := syd.same (sameAt k9 nL (o := .lst (lv ls' ++ [.str "x"])))
    revert syd
    generalize upd H9 L (.lst (lv ls' ++ [.str "x"])) = H10
    intro syd
    clear nL hL k9
    try dsimp only [tNext, tDrop, tSeq, gName, tAsg]
    refine (?_ : ∀ (N : L2.St → Hp → Prop) (R : VK) (Bk Ct : L2.St → Hp → Prop), (∀ (c b2 : Addr) (ms : List Str) (m : Nat) (v : V) (H' : Hp), Sy C p l d a' e b' o c e2 b2 ls' n' ls' n' ms m ms m H' → ms.length ≤ 2 * i + 1 → N [some (.ref a0), some (.ref p), some (.ref d), some (.ref e), some (.ref o), some (.ref e2), some (.int (0 + (i : Int))), some v] H') → tIfS _ _ _ { nx := N, rt := R, bk := Bk, ct := Ct } _ H10) _ _ _ _ ?_
    · intro N R Bk Ct hN
      refine ⟨.int (0 + (i : Int)), rfl, _, _, rfl, rfl, (by show (0 : Int) < 3; decide), rfl, _, rfl, ite2 (fun _ => ?_) (fun _ => ?_)⟩
      · try dsimp only [tNext, tDrop, tSeq, gName, tAsg]
        have lss := q2
        clear q1 q2 q3
        refine ⟨.ref p, rfl, .ref e2, rfl, p, e2, b2, ms, m, rfl, syd.a2, by omega, l, syd.hand, fun v2 D Hx hx bx hv => ?_⟩
        try dsimp only [tNext, tDrop, tSeq, tAsg, gName]
        have syY := syd.but hx bx
        clear hx bx
        obtain ⟨oo, ms', m', hs⟩ := stp_ex hv ms m
        obtain ⟨q1, q2, q3⟩ := stp_ok hv hs syY.d2.le syY.d2.len
        refine ⟨.ref o, rfl, v2, rfl, o, c, ms, m, v2, D, oo, ms', m', rfl, syY.d2, by omega, hv, hs, fun a'' t1 Hy ea hd bs ho => ?_⟩
        have kp1 := Kp.disk syY.d2 hd bs ea
        have syc := Sy.swap (Sy.called (Sy.swap syY) hd bs ea)
        refine ⟨.ref e2, rfl, v2, rfl, e2, b2, ms, m, v2, D, oo, ms', m', rfl, syc.a2, by omega, hv.kp kp1, hs.kp kp1, fun b'' t2 Hz eb ha bs2 ho2 => ?_⟩
        have kp2 := Kp.acc syc.a2 ha bs2
        have ho1 : OutAt Hz t1 oo := kp2.tup _ _ ho
        have syd2 := Sy.swap (Sy.did (Sy.swap syc) ha bs2 eb)
        clear syc kp1 kp2 bs bs2 ea eb ho hv hs syY hd ha
        refine ⟨.ref t1, .ref t2, rfl, out_same ho1 ho2, fun Hw kw => ⟨_, rfl, iteF ?_⟩⟩
        exact hN a'' b'' ms' m' v2 Hw (syd2.same kw) (by omega)
      · exact hN c b2 ms m v H10 syd (by omega)
    clear syd
    intro c b2 ms m v2 H10 syd l3
    try dsimp only [tNext, tDrop, tSeq, gName, tAsg]
    refine ⟨.ref o, rfl, .ref e2, rfl, o, c, e2, b2, ms, m, rfl, syd.d2, syd.a2, fun Hw kw => ⟨_, rfl, iteF ?_⟩⟩
    have syd := syd.same kw
    refine ⟨.ref p, rfl, p, rfl, l, syd.hand, fun Hu hu bu => ⟨_, rfl, iteF ?_⟩⟩
    exact ⟨a', b', o, c, e2, b2, ls', n', ms, m, _, _, rfl, syd.but hu bu, by omega, by omega⟩
end
end LawK
set_option maxHeartbeats 8000000
namespace LawK
open PySem PySem.Spec PyProof.Rows L2 Ev
structure Df (K : PySem.W.Frag) (mg : Str → Option Value) (x : Str) (st : Stmt) (ps : List Str) (f : Addr) (fd : FuncData) : Prop where
  F : Fun K x x st f fd
  b : Binds K fd ps []
  g : mg x = some (.ref f)
section
variable {P : Program} {w : World} {K : PySem.W.Frag} {mg : Str → Option Value} {h : Heap} {x : Str}
theorem df_mk {st : Stmt} {ps : List Str} {oc kV dc pm cd ct : Value} {od an : Option Addr} {sl : Array (Option Value)} {fa : Addr} (X : K.In h) (G : h.Ns mainGlobals mg)
    (hb : ∀ (kV doc pm : Value) (an : Option Addr) (cdv ct : Value) (us : List Value), us.length = ps.length → bindArgs (PySem.W.fnOf x x (defArgs st) (defBody st) (defScope st) .none kV doc pm an cdv ct) ⟨us, []⟩ = pure (ps.zip us))
    (a : PySem.W.nsIn K mainGlobals x = some (some (.ref fa))) (l : K.lookup fa = some ⟨oc, od, .func (PySem.W.fnOf x x (defArgs st) (defBody st) (defScope st) .none kV dc pm an cd ct), sl⟩)
    (ck : (PySem.W.codeIn K cd x && PySem.W.keepIn K (.ref fa)) = true) : ∃ fd, Df K mg x st ps fa fd := by
  obtain ⟨c1, c2⟩ := Bool.and_eq_true_iff.mp ck
  have F1 := fun_mk (st := st) l c1 c2
  exact ⟨_, F1, F1.binds (ps := ps) hb, PySem.W.mg_of X G a⟩
end
structure MDf (K : PySem.W.Frag) (C : Addr) (x qual : Str) (st : Stmt) (ps : List Str) (f : Addr) (fd : FuncData) : Prop where
  at_ : Meth K C x f
  F : Fun K x qual st f fd
  b : Binds K fd ps []
theorem md_mk {K : PySem.W.Frag} {x qual : Str} {st : Stmt} {ps : List Str} {oc kV dc pm cd ct : Value} {od an : Option Addr} {sl : Array (Option Value)} {C f : Addr}
    (hb : ∀ (kV doc pm : Value) (an : Option Addr) (cdv ct : Value) (us : List Value), us.length = ps.length → bindArgs (PySem.W.fnOf x qual (defArgs st) (defBody st) (defScope st) .none kV doc pm an cdv ct) ⟨us, []⟩ = pure (ps.zip us))
    (i : PySem.W.findIn K (.ref C) x = some (some (.ref f))) (l : K.lookup f = some ⟨oc, od, .func (PySem.W.fnOf x qual (defArgs st) (defBody st) (defScope st) .none kV dc pm an cd ct), sl⟩)
    (c : (PySem.W.codeIn K cd qual && PySem.W.keepIn K (.ref f)) = true) (g : PySem.W.isFn K (.ref f) = true) : ∃ f fd, MDf K C x qual st ps f fd := by
  obtain ⟨c1, c2⟩ := Bool.and_eq_true_iff.mp c
  have F1 := fun_mk (st := st) l c1 c2
  exact ⟨_, _, ⟨i, g, c2⟩, F1, F1.binds (ps := ps) hb⟩
def chkD (K : PySem.W.Frag) (C : Addr) : Bool := PySem.W.makesIn K C && (PySem.W.keepIn K (.ref C) && (PySem.W.plainGet K C Str.empty && (PySem.W.hasDictIn K C && (PySem.W.plainOver K C &&
  (decide (PySem.W.findIn K (.ref C) "__setattr__" = some (some (.builtin "object.__setattr__"))) && (decide (PySem.W.findIn K (.ref C) "_lines" = some none) && decide (PySem.W.findIn K (.ref C) "_synced" = some none)))))))
structure DskX (K : PySem.W.Frag) (mg : Str → Option Value) (C : Addr) : Prop where
  B : DskB K mg C
  mk1 : PySem.W.makesIn K C = true
  mk2 : PySem.W.keepIn K (.ref C) = true
theorem dsk_mk {K : PySem.W.Frag} {mg : Str → Option Value} {h : Heap} {C : Addr} (X : K.In h) (G : h.Ns mainGlobals mg)
    (aC : PySem.W.nsIn K mainGlobals "Disk" = some (some (.ref C))) (ck : chkD K C = true) : DskX K mg C := by
  obtain ⟨h1, ck⟩ := Bool.and_eq_true_iff.mp ck
  obtain ⟨h3, ck⟩ := Bool.and_eq_true_iff.mp ck
  obtain ⟨h4, ck⟩ := Bool.and_eq_true_iff.mp ck
  obtain ⟨h5, ck⟩ := Bool.and_eq_true_iff.mp ck
  obtain ⟨h6, ck⟩ := Bool.and_eq_true_iff.mp ck
  obtain ⟨h7, ck⟩ := Bool.and_eq_true_iff.mp ck
  obtain ⟨h8, h9⟩ := Bool.and_eq_true_iff.mp ck
  have h8' := of_decide_eq_true h8
  have h9' := of_decide_eq_true h9
  exact ⟨⟨⟨h4, h5, h6, of_decide_eq_true h7⟩, h8', h9', PySem.W.mg_of X G aC⟩, h1, h3⟩
theorem end_mk {P : Program} {w : World} {K : PySem.W.Frag} {mg : Str → Option Value} {h : Heap} {fa f PE C cEL cEC cEN fPNumber fPSigns fQCutsAll fPRecord fPReadRecord fHand fDraw fIs fAnySign fSign fText fLine fRecord fContents fIsNumber fCalled fIsLine fDid fDeed fIsDisk fAreRecords : Addr} {oc kV dc pm cd ct : Value} {od an : Option Addr} {sl : Array (Option Value)} (X : K.In h) (G : h.Ns mainGlobals mg) (hfa : mg "law" = some (.ref fa))
    (aL : PySem.W.nsIn K mainGlobals "law" = some (some (.ref f))) (lL : K.lookup f = some ⟨oc, od, .func (PySem.W.fnOf "law" "law" (defArgs sLaw) (defBody sLaw) (defScope sLaw) .none kV dc pm an cd ct), sl⟩) (ck : (PySem.W.codeIn K cd "law" && PySem.W.keepIn K (.ref f)) = true)
    
    (DPNumber : ∃ fd, Df K mg "is_number" sPNumber ["thing"] fPNumber fd)
    (DPSigns : ∃ fd, Df K mg "is_signs" sPSigns ["thing"] fPSigns fd)
    (DQCutsAll : ∃ fd, Df K mg "_cuts_all" sQCutsAll ["thing", "lines"] fQCutsAll fd)
    (DPRecord : ∃ fd, Df K mg "record" sPRecord ["line"] fPRecord fd)
    (DPReadRecord : ∃ fd, Df K mg "read_record" sPReadRecord ["line"] fPReadRecord fd)
    (DHand : ∃ fd, Df K mg "_law_hand" sHand ["script"] fHand fd)
    (DDraw : ∃ fd, Df K mg "_law_draw" sDraw ["hand", "many"] fDraw fd)
    (DIs : ∃ fd, Df K mg "_law_is" sIs ["told", "due"] fIs fd)
    (DAnySign : ∃ fd, Df K mg "_law_any_sign" sAnySign ["hand"] fAnySign fd)
    (DSign : ∃ fd, Df K mg "_law_sign" sSign ["hand", "kind"] fSign fd)
    (DText : ∃ fd, Df K mg "_law_text" sText ["hand", "most"] fText fd)
    (DLine : ∃ fd, Df K mg "_law_line" sLine ["hand"] fLine fd)
    (DRecord : ∃ fd, Df K mg "_law_record" sRecord ["contents"] fRecord fd)
    (DContents : ∃ fd, Df K mg "_law_contents" sContents ["line"] fContents fd)
    (DIsNumber : ∃ fd, Df K mg "_law_is_number" sIsNumber ["thing", "least", "most"] fIsNumber fd)
    (DCalled : ∃ fd, Df K mg "_law_called" sCalled ["disk", "deed"] fCalled fd)
    (DIsLine : ∃ fd, Df K mg "_law_is_line" sIsLine ["thing"] fIsLine fd)
    (DDid : ∃ fd, Df K mg "_law_did" sDid ["account", "deed"] fDid fd)
    (DDeed : ∃ fd, Df K mg "_law_deed" sDeed ["hand", "account"] fDeed fd)
    (DIsDisk : ∃ fd, Df K mg "_law_is_disk" sIsDisk ["disk", "account"] fIsDisk fd)
    (DAreRecords : ∃ fd, Df K mg "_law_are_records" sAreRecords ["hand"] fAreRecords fd)
    (EL : Cls0 P K mg PE "NoLine" cEL) (EC : Cls0 P K mg PE "NoCut" cEC) (EN : Cls0 P K mg PE "NoNumber" cEN) (neELEC : cEL ≠ cEC) (neELEN : cEL ≠ cEN) (neECEN : cEC ≠ cEN) (aPE : PySem.W.nsIn K mainGlobals "PieceError" = some (some (.ref PE))) (DX : DskX K mg C) (mInit : ∃ f fd, MDf K C "__init__" "Disk.__init__" sDInit ["self"] f fd) (mWrite : ∃ f fd, MDf K C "write" "Disk.write" sDWrite ["self", "line"] f fd) (mSync : ∃ f fd, MDf K C "sync" "Disk.sync" sDSync ["self"] f fd) (mLines : ∃ f fd, MDf K C "lines" "Disk.lines" sDLines ["self"] f fd) (mSynced : ∃ f fd, MDf K C "synced" "Disk.synced" sDSynced ["self"] f fd) (mCut : ∃ f fd, MDf K C "cut" "Disk.cut" sDCut ["self", "kept"] f fd) (mDrop : ∃ f fd, MDf K C "drop" "Disk.drop" sDDrop ["self", "number"] f fd) (mCopy : ∃ f fd, MDf K C "copy" "Disk.copy" sDCopy ["self"] f fd) (T : Glob mg) :
    ∃ fd : FuncData, (∀ (s : Shared) (u : Value), BindsTo s fd ⟨[u], []⟩ [("script", u)]) ∧ ∀ base : Heap, K.In base → base.Ns mainGlobals mg → FnAt callerA P w K mg base CX0 fa fd ["script"] (spLaw K) := by
  have e := hfa.symm.trans (PySem.W.mg_of X G aL)
  cases e
  obtain ⟨B, mk1, mk2⟩ := DX
  obtain ⟨fDInit, fdDInit, mInit⟩ := mInit
  obtain ⟨fDWrite, fdDWrite, mWrite⟩ := mWrite
  obtain ⟨fDSync, fdDSync, mSync⟩ := mSync
  obtain ⟨fDLines, fdDLines, mLines⟩ := mLines
  obtain ⟨fDSynced, fdDSynced, mSynced⟩ := mSynced
  obtain ⟨fDCut, fdDCut, mCut⟩ := mCut
  obtain ⟨fDDrop, fdDDrop, mDrop⟩ := mDrop
  obtain ⟨fDCopy, fdDCopy, mCopy⟩ := mCopy
  obtain ⟨fdPNumber, DPNumber⟩ := DPNumber
  obtain ⟨fdPSigns, DPSigns⟩ := DPSigns
  obtain ⟨fdQCutsAll, DQCutsAll⟩ := DQCutsAll
  obtain ⟨fdPRecord, DPRecord⟩ := DPRecord
  obtain ⟨fdPReadRecord, DPReadRecord⟩ := DPReadRecord
  obtain ⟨fdHand, DHand⟩ := DHand
  obtain ⟨fdDraw, DDraw⟩ := DDraw
  obtain ⟨fdIs, DIs⟩ := DIs
  obtain ⟨fdAnySign, DAnySign⟩ := DAnySign
  obtain ⟨fdSign, DSign⟩ := DSign
  obtain ⟨fdText, DText⟩ := DText
  obtain ⟨fdLine, DLine⟩ := DLine
  obtain ⟨fdRecord, DRecord⟩ := DRecord
  obtain ⟨fdContents, DContents⟩ := DContents
  obtain ⟨fdIsNumber, DIsNumber⟩ := DIsNumber
  obtain ⟨fdCalled, DCalled⟩ := DCalled
  obtain ⟨fdIsLine, DIsLine⟩ := DIsLine
  obtain ⟨fdDid, DDid⟩ := DDid
  obtain ⟨fdDeed, DDeed⟩ := DDeed
  obtain ⟨fdIsDisk, DIsDisk⟩ := DIsDisk
  obtain ⟨fdAreRecords, DAreRecords⟩ := DAreRecords
  obtain ⟨c1, c2⟩ := Bool.and_eq_true_iff.mp ck
  have F1 := fun_mk (st := sLaw) lL c1 c2
  refine ⟨PySem.W.fnOf "law" "law" (defArgs sLaw) (defBody sLaw) (defScope sLaw) .none kV dc pm an cd ct, fun s u => .of_eq rfl, fun base _ _ => ?_⟩
  have TPSigns : Dk P w K mg base "is_signs" sPSigns ["thing"] 1 spSg fPSigns fdPSigns := ⟨DPSigns.F, DPSigns.b, DPSigns.g, ok_PSigns DPSigns.F   (T := T)⟩
  have THand : Dk P w K mg base "_law_hand" sHand ["script"] 1 (spHand K) fHand fdHand := ⟨DHand.F, DHand.b, DHand.g, ok_Hand DHand.F   (T := T)⟩
  have TDraw : Dk P w K mg base "_law_draw" sDraw ["hand", "many"] 1 spDraw fDraw fdDraw := ⟨DDraw.F, DDraw.b, DDraw.g, ok_Draw DDraw.F   (T := T)⟩
  have S0 : FnOk P w K mg base CX0 0 fIs fdIs ["told", "due"] (spIsR R0) := ⟨fun vs H Q E z => z.elim fun _ z => z.elim fun _ z => z.2.1.elim, fun A outer s H args us vs Q E _ _ _ _ z => z.elim fun _ z => z.elim fun _ z => z.2.1.elim⟩
  have S1 := ok_is_step R0.mono DIs.F DIs.b DIs.g S0 T
  have S2 := ok_is_step R1.mono DIs.F DIs.b DIs.g S1 T
  have S3 := ok_is_step R2.mono DIs.F DIs.b DIs.g S2 T
  have TIs : Dk P w K mg base "_law_is" sIs ["told", "due"] 3 (spIsR R3) fIs fdIs := ⟨DIs.F, DIs.b, DIs.g, S3⟩
  have TPNumber : Dk P w K mg base "is_number" sPNumber ["thing"] 1 spNum fPNumber fdPNumber := ⟨DPNumber.F, DPNumber.b, DPNumber.g, ok_PNumber DPNumber.F   (T := T)⟩
  have TQCutsAll : Dk P w K mg base "_cuts_all" sQCutsAll ["thing", "lines"] 2 spCutsAll fQCutsAll fdQCutsAll := ⟨DQCutsAll.F, DQCutsAll.b, DQCutsAll.g, ok_QCutsAll DQCutsAll.F  (DPNumber := TPNumber) (T := T)⟩
  have GInit := ok_DInit (P := P) (w := w) (base := base) mInit.F B T
  have GWrite := ok_DWrite (P := P) (w := w) (base := base) mWrite.F B EL TPSigns T
  have GSync := ok_DSync (P := P) (w := w) (base := base) mSync.F B T
  have GLines := ok_DLines (P := P) (w := w) (base := base) mLines.F B T
  have GSynced := ok_DSynced (P := P) (w := w) (base := base) mSynced.F B T
  have GCut := ok_DCut (P := P) (w := w) (base := base) mCut.F B EC TQCutsAll T
  have GDrop := ok_DDrop (P := P) (w := w) (base := base) mDrop.F B EN TPNumber T
  have MK0 : Mk K C fDInit := ⟨mk1, mInit.at_.at_, mInit.at_.fn, mk2⟩
  have GCopy := ok_DCopy (P := P) (w := w) (base := base) mCopy.F B MK0 mInit.b GInit T
  have MT : Mths P w K mg base C cEL cEC cEN := ⟨⟨_, _, mWrite.at_, mWrite.b, GWrite⟩, ⟨_, _, mSync.at_, mSync.b, FnOk.lift GSync⟩, ⟨_, _, mCut.at_, mCut.b, GCut⟩, ⟨_, _, mDrop.at_, mDrop.b, GDrop⟩⟩
  have TCalled : Dk P w K mg base "_law_called" sCalled ["disk", "deed"] 4 (spCalled C) fCalled fdCalled := ⟨DCalled.F, DCalled.b, DCalled.g, ok_Called DCalled.F B EL EC EN (PySem.W.mg_of X G aPE) neELEC neELEN neECEN MT T⟩
  have TIsNumber : Dk P w K mg base "_law_is_number" sIsNumber ["thing", "least", "most"] 1 spIn fIsNumber fdIsNumber := ⟨DIsNumber.F, DIsNumber.b, DIsNumber.g, ok_IsNumber DIsNumber.F   (T := T)⟩
  have TIsLine : Dk P w K mg base "_law_is_line" sIsLine ["thing"] 1 spIsLine fIsLine fdIsLine := ⟨DIsLine.F, DIsLine.b, DIsLine.g, ok_IsLine DIsLine.F   (T := T)⟩
  have TDid : Dk P w K mg base "_law_did" sDid ["account", "deed"] 2 spDid fDid fdDid := ⟨DDid.F, DDid.b, DDid.g, ok_Did DDid.F  (DIsNumber := TIsNumber) (DIsLine := TIsLine) (T := T)⟩
  have TAnySign : Dk P w K mg base "_law_any_sign" sAnySign ["hand"] 2 spAnySign fAnySign fdAnySign := ⟨DAnySign.F, DAnySign.b, DAnySign.g, ok_AnySign DAnySign.F  (DDraw := TDraw) (T := T)⟩
  have TSign : Dk P w K mg base "_law_sign" sSign ["hand", "kind"] 3 spSign fSign fdSign := ⟨DSign.F, DSign.b, DSign.g, ok_Sign DSign.F  (DDraw := TDraw) (DAnySign := TAnySign) (T := T)⟩
  have TText : Dk P w K mg base "_law_text" sText ["hand", "most"] 4 spLText fText fdText := ⟨DText.F, DText.b, DText.g, ok_Text DText.F  (DDraw := TDraw) (DSign := TSign) (T := T)⟩
  have TLine : Dk P w K mg base "_law_line" sLine ["hand"] 5 spLine fLine fdLine := ⟨DLine.F, DLine.b, DLine.g, ok_Line DLine.F  (DDraw := TDraw) (DAnySign := TAnySign) (DText := TText) (T := T)⟩
  have TDeed : Dk P w K mg base "_law_deed" sDeed ["hand", "account"] 6 spDeed fDeed fdDeed := ⟨DDeed.F, DDeed.b, DDeed.g, ok_Deed DDeed.F  (DDraw := TDraw) (DLine := TLine) (T := T)⟩
  have TIsDisk : Dk P w K mg base "_law_is_disk" sIsDisk ["disk", "account"] 4 (spIsDisk C) fIsDisk fdIsDisk := ⟨DIsDisk.F, DIsDisk.b, DIsDisk.g, ok_IsDisk DIsDisk.F B mLines.at_ mLines.b GLines mSynced.at_ mSynced.b GSynced (DIs := TIs) (T := T)⟩
  have TPRecord : Dk P w K mg base "record" sPRecord ["line"] 2 spRec fPRecord fdPRecord := ⟨DPRecord.F, DPRecord.b, DPRecord.g, ok_PRecord DPRecord.F  (DPSigns := TPSigns) (T := T)⟩
  have TPReadRecord : Dk P w K mg base "read_record" sPReadRecord ["line"] 3 spRead fPReadRecord fdPReadRecord := ⟨DPReadRecord.F, DPReadRecord.b, DPReadRecord.g, ok_PReadRecord DPReadRecord.F  (DPSigns := TPSigns) (DPRecord := TPRecord) (T := T)⟩
  have TRecord : Dk P w K mg base "_law_record" sRecord ["contents"] 1 spRec fRecord fdRecord := ⟨DRecord.F, DRecord.b, DRecord.g, ok_Record DRecord.F   (T := T)⟩
  have TContents : Dk P w K mg base "_law_contents" sContents ["line"] 1 spRead fContents fdContents := ⟨DContents.F, DContents.b, DContents.g, ok_Contents DContents.F   (T := T)⟩
  have TAreRecords : Dk P w K mg base "_law_are_records" sAreRecords ["hand"] 6 spRecs fAreRecords fdAreRecords := ⟨DAreRecords.F, DAreRecords.b, DAreRecords.g, ok_AreRecords DAreRecords.F  (DPRecord := TPRecord) (DPReadRecord := TPReadRecord) (DDraw := TDraw) (DIs := TIs) (DAnySign := TAnySign) (DLine := TLine) (DRecord := TRecord) (DContents := TContents) (T := T)⟩
  exact ok_law F1 (DHand := THand) (DDraw := TDraw) (DIs := TIs) (DCalled := TCalled) (DDid := TDid) (DDeed := TDeed) (DIsDisk := TIsDisk) (DAreRecords := TAreRecords) (B := B) (M := MK0) (bI := mInit.b) (GI := GInit) (mO := mCopy.at_) (bO := mCopy.b) (GO := GCopy) (mL := mLines.at_) (bL := mLines.b) (GL := GLines) (T := T)
end LawK
open PySem PySem.W PyProof.Rows L2
set_option maxRecDepth 100000 in
set_option maxHeartbeats 0 in
theorem PySem.Challenge.cw_everypiece_k50_whole_disks_and_records_holds : PySem.Challenge.rw_everypiece_k50_whole_disks_and_records.Holds := by
  w_on; o_law; k_head; (case hw => w_witness2)
  k_fill
  refine Ev.walk_at (l := PySem.Challenge.rw_everypiece_k50_whole_disks_and_records) (n := 63) (x := "script") (sp := LawK.spLaw) rfl (by decide) rfl (fun w h Y => PySem.W.kIn_of Y) ?F (fun K H a ns hl _ hS => ⟨a, ns, rfl, hS, fun _ => rfl⟩)
  case F =>
    intro w mg fa h KX G hmg
    have hfa : mg "law" = some (.ref fa) := hmg
    clear hmg
    refine LawK.say KX (fun K => LawK.Sh0 (PySem.W.OpenLaw.prog PySem.Challenge.rw_everypiece_k50_whole_disks_and_records) K mg) (by
      refine' LawK.sh0_mk KX G ?kq1a ?kq1b ?kq1c ?kq1d ?kq1e
      (case kq1a => k_is); (case kq1b => k_is); (case kq1c => k_is); (case kq1d => decide +kernel); (case kq1e => k_is)) ?_
    intro S
    refine LawK.say KX (fun K => LawK.Cls0 (PySem.W.OpenLaw.prog PySem.Challenge.rw_everypiece_k50_whole_disks_and_records) K mg 24 "NoLine" 67) (by
      refine' LawK.cls0_mk (qual := "NoLine.__init__") KX G S ?kq2a ?kq2l ?kq2i ?kq2f ?kq2d ?kq2e ?kq2v ?kq2w ?kq2p ?kq2c
      (case kq2a => k_is); (case kq2l => k_is); (case kq2i => k_is); (case kq2f => k_is); (case kq2d => k_is); (case kq2e => k_is); (case kq2v => rfl); (case kq2w => rfl); (case kq2p => rfl); (case kq2c => kernel_rfl)) ?_
    intro EL
    refine LawK.say KX (fun K => LawK.Cls0 (PySem.W.OpenLaw.prog PySem.Challenge.rw_everypiece_k50_whole_disks_and_records) K mg 24 "NoCut" 88) (by
      refine' LawK.cls0_mk (qual := "NoCut.__init__") KX G S ?kq3a ?kq3l ?kq3i ?kq3f ?kq3d ?kq3e ?kq3v ?kq3w ?kq3p ?kq3c
      (case kq3a => k_is); (case kq3l => k_is); (case kq3i => k_is); (case kq3f => k_is); (case kq3d => k_is); (case kq3e => k_is); (case kq3v => rfl); (case kq3w => rfl); (case kq3p => rfl); (case kq3c => kernel_rfl)) ?_
    intro EC
    refine LawK.say KX (fun K => LawK.Cls0 (PySem.W.OpenLaw.prog PySem.Challenge.rw_everypiece_k50_whole_disks_and_records) K mg 24 "NoNumber" 46) (by
      refine' LawK.cls0_mk (qual := "NoNumber.__init__") KX G S ?kq4a ?kq4l ?kq4i ?kq4f ?kq4d ?kq4e ?kq4v ?kq4w ?kq4p ?kq4c
      (case kq4a => k_is); (case kq4l => k_is); (case kq4i => k_is); (case kq4f => k_is); (case kq4d => k_is); (case kq4e => k_is); (case kq4v => rfl); (case kq4w => rfl); (case kq4p => rfl); (case kq4c => kernel_rfl)) ?_
    intro EN
    refine LawK.say KX (fun K => ∃ fd, LawK.Df K mg "is_number" LawK.sPNumber ["thing"] 97 fd) (by
      refine' LawK.df_mk KX G (fun _ _ _ _ _ _ us hl => match us, hl with | [_], _ => rfl) ?kq5a ?kq5l ?kq5c
      (case kq5a => k_is); (case kq5l => k_is); (case kq5c => kernel_rfl)) ?_
    intro DPNumber
    refine LawK.say KX (fun K => ∃ fd, LawK.Df K mg "is_signs" LawK.sPSigns ["thing"] 104 fd) (by
      refine' LawK.df_mk KX G (fun _ _ _ _ _ _ us hl => match us, hl with | [_], _ => rfl) ?kq6a ?kq6l ?kq6c
      (case kq6a => k_is); (case kq6l => k_is); (case kq6c => kernel_rfl)) ?_
    intro DPSigns
    refine LawK.say KX (fun K => ∃ fd, LawK.Df K mg "_cuts_all" LawK.sQCutsAll ["thing", "lines"] 109 fd) (by
      refine' LawK.df_mk KX G (fun _ _ _ _ _ _ us hl => match us, hl with | [_, _], _ => rfl) ?kq7a ?kq7l ?kq7c
      (case kq7a => k_is); (case kq7l => k_is); (case kq7c => kernel_rfl)) ?_
    intro DQCutsAll
    refine LawK.say KX (fun K => ∃ fd, LawK.Df K mg "record" LawK.sPRecord ["line"] 184 fd) (by
      refine' LawK.df_mk KX G (fun _ _ _ _ _ _ us hl => match us, hl with | [_], _ => rfl) ?kq8a ?kq8l ?kq8c
      (case kq8a => k_is); (case kq8l => k_is); (case kq8c => kernel_rfl)) ?_
    intro DPRecord
    refine LawK.say KX (fun K => ∃ fd, LawK.Df K mg "read_record" LawK.sPReadRecord ["line"] 191 fd) (by
      refine' LawK.df_mk KX G (fun _ _ _ _ _ _ us hl => match us, hl with | [_], _ => rfl) ?kq9a ?kq9l ?kq9c
      (case kq9a => k_is); (case kq9l => k_is); (case kq9c => kernel_rfl)) ?_
    intro DPReadRecord
    refine LawK.say KX (fun K => ∃ fd, LawK.Df K mg "_law_hand" LawK.sHand ["script"] 196 fd) (by
      refine' LawK.df_mk KX G (fun _ _ _ _ _ _ us hl => match us, hl with | [_], _ => rfl) ?kq10a ?kq10l ?kq10c
      (case kq10a => k_is); (case kq10l => k_is); (case kq10c => kernel_rfl)) ?_
    intro DHand
    refine LawK.say KX (fun K => ∃ fd, LawK.Df K mg "_law_draw" LawK.sDraw ["hand", "many"] 203 fd) (by
      refine' LawK.df_mk KX G (fun _ _ _ _ _ _ us hl => match us, hl with | [_, _], _ => rfl) ?kq11a ?kq11l ?kq11c
      (case kq11a => k_is); (case kq11l => k_is); (case kq11c => kernel_rfl)) ?_
    intro DDraw
    refine LawK.say KX (fun K => ∃ fd, LawK.Df K mg "_law_is" LawK.sIs ["told", "due"] 208 fd) (by
      refine' LawK.df_mk KX G (fun _ _ _ _ _ _ us hl => match us, hl with | [_, _], _ => rfl) ?kq12a ?kq12l ?kq12c
      (case kq12a => k_is); (case kq12l => k_is); (case kq12c => kernel_rfl)) ?_
    intro DIs
    refine LawK.say KX (fun K => ∃ fd, LawK.Df K mg "_law_any_sign" LawK.sAnySign ["hand"] 215 fd) (by
      refine' LawK.df_mk KX G (fun _ _ _ _ _ _ us hl => match us, hl with | [_], _ => rfl) ?kq13a ?kq13l ?kq13c
      (case kq13a => k_is); (case kq13l => k_is); (case kq13c => kernel_rfl)) ?_
    intro DAnySign
    refine LawK.say KX (fun K => ∃ fd, LawK.Df K mg "_law_sign" LawK.sSign ["hand", "kind"] 222 fd) (by
      refine' LawK.df_mk KX G (fun _ _ _ _ _ _ us hl => match us, hl with | [_, _], _ => rfl) ?kq14a ?kq14l ?kq14c
      (case kq14a => k_is); (case kq14l => k_is); (case kq14c => kernel_rfl)) ?_
    intro DSign
    refine LawK.say KX (fun K => ∃ fd, LawK.Df K mg "_law_text" LawK.sText ["hand", "most"] 227 fd) (by
      refine' LawK.df_mk KX G (fun _ _ _ _ _ _ us hl => match us, hl with | [_, _], _ => rfl) ?kq15a ?kq15l ?kq15c
      (case kq15a => k_is); (case kq15l => k_is); (case kq15c => kernel_rfl)) ?_
    intro DText
    refine LawK.say KX (fun K => ∃ fd, LawK.Df K mg "_law_line" LawK.sLine ["hand"] 232 fd) (by
      refine' LawK.df_mk KX G (fun _ _ _ _ _ _ us hl => match us, hl with | [_], _ => rfl) ?kq16a ?kq16l ?kq16c
      (case kq16a => k_is); (case kq16l => k_is); (case kq16c => kernel_rfl)) ?_
    intro DLine
    refine LawK.say KX (fun K => ∃ fd, LawK.Df K mg "_law_record" LawK.sRecord ["contents"] 239 fd) (by
      refine' LawK.df_mk KX G (fun _ _ _ _ _ _ us hl => match us, hl with | [_], _ => rfl) ?kq17a ?kq17l ?kq17c
      (case kq17a => k_is); (case kq17l => k_is); (case kq17c => kernel_rfl)) ?_
    intro DRecord
    refine LawK.say KX (fun K => ∃ fd, LawK.Df K mg "_law_contents" LawK.sContents ["line"] 246 fd) (by
      refine' LawK.df_mk KX G (fun _ _ _ _ _ _ us hl => match us, hl with | [_], _ => rfl) ?kq18a ?kq18l ?kq18c
      (case kq18a => k_is); (case kq18l => k_is); (case kq18c => kernel_rfl)) ?_
    intro DContents
    refine LawK.say KX (fun K => ∃ fd, LawK.Df K mg "_law_is_number" LawK.sIsNumber ["thing", "least", "most"] 253 fd) (by
      refine' LawK.df_mk KX G (fun _ _ _ _ _ _ us hl => match us, hl with | [_, _, _], _ => rfl) ?kq19a ?kq19l ?kq19c
      (case kq19a => k_is); (case kq19l => k_is); (case kq19c => kernel_rfl)) ?_
    intro DIsNumber
    refine LawK.say KX (fun K => ∃ fd, LawK.Df K mg "_law_called" LawK.sCalled ["disk", "deed"] 260 fd) (by
      refine' LawK.df_mk KX G (fun _ _ _ _ _ _ us hl => match us, hl with | [_, _], _ => rfl) ?kq20a ?kq20l ?kq20c
      (case kq20a => k_is); (case kq20l => k_is); (case kq20c => kernel_rfl)) ?_
    intro DCalled
    refine LawK.say KX (fun K => ∃ fd, LawK.Df K mg "_law_is_line" LawK.sIsLine ["thing"] 265 fd) (by
      refine' LawK.df_mk KX G (fun _ _ _ _ _ _ us hl => match us, hl with | [_], _ => rfl) ?kq21a ?kq21l ?kq21c
      (case kq21a => k_is); (case kq21l => k_is); (case kq21c => kernel_rfl)) ?_
    intro DIsLine
    refine LawK.say KX (fun K => ∃ fd, LawK.Df K mg "_law_did" LawK.sDid ["account", "deed"] 270 fd) (by
      refine' LawK.df_mk KX G (fun _ _ _ _ _ _ us hl => match us, hl with | [_, _], _ => rfl) ?kq22a ?kq22l ?kq22c
      (case kq22a => k_is); (case kq22l => k_is); (case kq22c => kernel_rfl)) ?_
    intro DDid
    refine LawK.say KX (fun K => ∃ fd, LawK.Df K mg "_law_deed" LawK.sDeed ["hand", "account"] 277 fd) (by
      refine' LawK.df_mk KX G (fun _ _ _ _ _ _ us hl => match us, hl with | [_, _], _ => rfl) ?kq23a ?kq23l ?kq23c
      (case kq23a => k_is); (case kq23l => k_is); (case kq23c => kernel_rfl)) ?_
    intro DDeed
    refine LawK.say KX (fun K => ∃ fd, LawK.Df K mg "_law_is_disk" LawK.sIsDisk ["disk", "account"] 284 fd) (by
      refine' LawK.df_mk KX G (fun _ _ _ _ _ _ us hl => match us, hl with | [_, _], _ => rfl) ?kq24a ?kq24l ?kq24c
      (case kq24a => k_is); (case kq24l => k_is); (case kq24c => kernel_rfl)) ?_
    intro DIsDisk
    refine LawK.say KX (fun K => ∃ fd, LawK.Df K mg "_law_are_records" LawK.sAreRecords ["hand"] 289 fd) (by
      refine' LawK.df_mk KX G (fun _ _ _ _ _ _ us hl => match us, hl with | [_], _ => rfl) ?kq25a ?kq25l ?kq25c
      (case kq25a => k_is); (case kq25l => k_is); (case kq25c => kernel_rfl)) ?_
    intro DAreRecords
    refine LawK.say KX (fun K => LawK.DskX K mg 173) (by
      refine' LawK.dsk_mk KX G ?kq26a ?kq26c
      (case kq26a => k_is); (case kq26c => kernel_rfl)) ?_
    intro DX
    refine LawK.say KX (fun K => ∃ f fd, LawK.MDf K 173 "__init__" "Disk.__init__" LawK.sDInit ["self"] f fd) (by
      refine' LawK.md_mk (fun _ _ _ _ _ _ us hl => match us, hl with | [_], _ => rfl) ?kq27i ?kq27l ?kq27c ?kq27g
      (case kq27i => k_is); (case kq27l => k_is); (case kq27c => kernel_rfl); (case kq27g => kernel_rfl)) ?_
    intro mInit
    refine LawK.say KX (fun K => ∃ f fd, LawK.MDf K 173 "write" "Disk.write" LawK.sDWrite ["self", "line"] f fd) (by
      refine' LawK.md_mk (fun _ _ _ _ _ _ us hl => match us, hl with | [_, _], _ => rfl) ?kq28i ?kq28l ?kq28c ?kq28g
      (case kq28i => k_is); (case kq28l => k_is); (case kq28c => kernel_rfl); (case kq28g => kernel_rfl)) ?_
    intro mWrite
    refine LawK.say KX (fun K => ∃ f fd, LawK.MDf K 173 "sync" "Disk.sync" LawK.sDSync ["self"] f fd) (by
      refine' LawK.md_mk (fun _ _ _ _ _ _ us hl => match us, hl with | [_], _ => rfl) ?kq29i ?kq29l ?kq29c ?kq29g
      (case kq29i => k_is); (case kq29l => k_is); (case kq29c => kernel_rfl); (case kq29g => kernel_rfl)) ?_
    intro mSync
    refine LawK.say KX (fun K => ∃ f fd, LawK.MDf K 173 "lines" "Disk.lines" LawK.sDLines ["self"] f fd) (by
      refine' LawK.md_mk (fun _ _ _ _ _ _ us hl => match us, hl with | [_], _ => rfl) ?kq30i ?kq30l ?kq30c ?kq30g
      (case kq30i => k_is); (case kq30l => k_is); (case kq30c => kernel_rfl); (case kq30g => kernel_rfl)) ?_
    intro mLines
    refine LawK.say KX (fun K => ∃ f fd, LawK.MDf K 173 "synced" "Disk.synced" LawK.sDSynced ["self"] f fd) (by
      refine' LawK.md_mk (fun _ _ _ _ _ _ us hl => match us, hl with | [_], _ => rfl) ?kq31i ?kq31l ?kq31c ?kq31g
      (case kq31i => k_is); (case kq31l => k_is); (case kq31c => kernel_rfl); (case kq31g => kernel_rfl)) ?_
    intro mSynced
    refine LawK.say KX (fun K => ∃ f fd, LawK.MDf K 173 "cut" "Disk.cut" LawK.sDCut ["self", "kept"] f fd) (by
      refine' LawK.md_mk (fun _ _ _ _ _ _ us hl => match us, hl with | [_, _], _ => rfl) ?kq32i ?kq32l ?kq32c ?kq32g
      (case kq32i => k_is); (case kq32l => k_is); (case kq32c => kernel_rfl); (case kq32g => kernel_rfl)) ?_
    intro mCut
    refine LawK.say KX (fun K => ∃ f fd, LawK.MDf K 173 "drop" "Disk.drop" LawK.sDDrop ["self", "number"] f fd) (by
      refine' LawK.md_mk (fun _ _ _ _ _ _ us hl => match us, hl with | [_, _], _ => rfl) ?kq33i ?kq33l ?kq33c ?kq33g
      (case kq33i => k_is); (case kq33l => k_is); (case kq33c => kernel_rfl); (case kq33g => kernel_rfl)) ?_
    intro mDrop
    refine LawK.say KX (fun K => ∃ f fd, LawK.MDf K 173 "copy" "Disk.copy" LawK.sDCopy ["self"] f fd) (by
      refine' LawK.md_mk (fun _ _ _ _ _ _ us hl => match us, hl with | [_], _ => rfl) ?kq34i ?kq34l ?kq34c ?kq34g
      (case kq34i => k_is); (case kq34l => k_is); (case kq34c => kernel_rfl); (case kq34g => kernel_rfl)) ?_
    intro mCopy
    have GL : LawK.Glob mg := ⟨mg_none_of KX G (by k_is), mg_none_of KX G (by k_is), mg_none_of KX G (by k_is), mg_none_of KX G (by k_is), mg_none_of KX G (by k_is), mg_none_of KX G (by k_is), mg_none_of KX G (by k_is), mg_none_of KX G (by k_is), mg_none_of KX G (by k_is), mg_none_of KX G (by k_is), mg_none_of KX G (by k_is), mg_none_of KX G (by k_is), mg_none_of KX G (by k_is), mg_none_of KX G (by k_is), mg_none_of KX G (by k_is), mg_none_of KX G (by k_is), mg_none_of KX G (by k_is), mg_none_of KX G (by k_is), mg_none_of KX G (by k_is), mg_none_of KX G (by k_is)⟩
    refine' LawK.end_mk KX G hfa ?kq35a ?kq35l ?kq35c  DPNumber DPSigns DQCutsAll DPRecord DPReadRecord DHand DDraw DIs DAnySign DSign DText DLine DRecord DContents DIsNumber DCalled DIsLine DDid DDeed DIsDisk DAreRecords EL EC EN (by decide) (by decide) (by decide) ?kq35p DX mInit mWrite mSync mLines mSynced mCut mDrop mCopy GL
    (case kq35a => k_is); (case kq35l => k_is); (case kq35c => kernel_rfl); (case kq35p => k_is)
