import PyProof.Rows.All
import Wide.All
import OpenK.AllK
import Wide.FinOn
import HandS.ForMost
import HandS.ForExc
import PyProof.ReprRoads
import PyProof.ReprLen
import HandS.Dict
import HandS.ExcInit
import PyProof.StrBlock2
import HandS.IsInst
import HandS.Codes
import HandS.StrMore
import HandS.TupMul
import HandS.Style
import HandS.TupAny
import HandS.Zip
import KE.GoesEnum
import KE.KExcSuper
import KE.KExcMake
import HandS.ExcValue
import HandS.ExcIs
import KE.KExcIs
import HandS.ExcField
import HandS.TryMany
import HandS.TryOnly
import PyProof.StrLoop
import PyProof.StrWalks
import HandS.Walk
import HandS.Steps
import HandS.Base
import HandS.Call
import HandS.List
import HandS.Comp
import HandS.Set
import HandS.SetKeys
import HandS.SetBool
import HandS.SortOrd
import HandS.SortInts
import PyProof.Rows.SortStr
import KE.SortData
import KE.DataCmp
import KE.KDictList
import HandS.Iter
import HandS.Conv
import KE.KDictSum
import HandS.Small
import HandS.SetFor
import HandS.OwnEq
import PySem.Challenge.RW_everypiece_k47_whole_patterns_searched_b
set_option Elab.async false
set_option linter.all false
set_option maxRecDepth 100000
set_option maxHeartbeats 4000000
/-! repr of nested data that the law has made. -/
namespace Ev
open PySem PySem.Spec PyProof.Rows L2

/-- a display of a list; its place is not the table of modules -/
def tLstN (t : TA) : TE := fun σ H Q => t σ H fun xs H1 => xs.length ≤ sizeLine ∧ ∀ p, H1 p = none → p ≠ sysModules → Q (.ref p) (upd H1 p (.lst xs))
theorem pe_lstN {X : Cx} {es : List Expr} {pos : Pos} {t : TA} (h : PA X es t) : PE X (.List es pos) (tLstN t) := by
  refine ⟨fun pins s σ H Q I hq => ?_⟩
  refine wpAny_List_spliced (thn (h.run pos pins s σ H _ I hq) fun us s1 hh => ?_)
  obtain ⟨xs, H1, I1, r, z, q⟩ := hh
  have hf : H1 s1.heap.objs.size = none := I1.hok.fresh (Nat.le_refl _)
  refine ⟨by rw [← r.length]; exact z, .ref s1.heap.objs.size, upd H1 s1.heap.objs.size (.lst xs), I1.laid (t' := s1.toks) (o := .lst xs) (fun b u e => Heap.get?_push_of_some _ e) (Nat.le_refl _) ⟨z, us, 0, r, Heap.get?_push_size _ rfl⟩, rfl, q _ hf (Ne.symm (Nat.ne_of_lt I1.big))⟩

/-- the datum d is told by v -/
inductive Dt (H : Hp) : V → PyData → Prop
  | non : Dt H .non .none
  | bl (b : Bool) : Dt H (.bl b) (.bool b)
  | int (i : Int) : Dt H (.int i) (.int i)
  | str (x : Str) : Dt H (.str x) (.str x)
  | dic {a : Addr} : H a = some (.dK []) → Dt H (.ref a) (.dict [])
  | l0 {a : Addr} : H a = some (.lst []) → a ≠ sysModules → Dt H (.ref a) (.list [])
  | l1 {a : Addr} {x : V} {d : PyData} : H a = some (.lst [x]) → a ≠ sysModules → Dt H x d → Dt H (.ref a) (.list [d])
  | l2 {a : Addr} {x y : V} {d e : PyData} : H a = some (.lst [x, y]) → a ≠ sysModules → Dt H x d → Dt H y e → Dt H (.ref a) (.list [d, e])
  | t0 {a : Addr} : H a = some (.tup []) → Dt H (.ref a) (.tuple [])
  | t1 {a : Addr} {x : V} {d : PyData} : H a = some (.tup [x]) → Dt H x d → Dt H (.ref a) (.tuple [d])
  | t2 {a : Addr} {x y : V} {d e : PyData} : H a = some (.tup [x, y]) → Dt H x d → Dt H y e → Dt H (.ref a) (.tuple [d, e])
theorem Dt.keep {H H' : Hp} {v : V} {d : PyData} (h : Dt H v d) (k : ∀ b o, H b = some o → H' b = some o) : Dt H' v d := by
  induction h with
  | non => exact .non
  | bl b => exact .bl b
  | int i => exact .int i
  | str x => exact .str x
  | dic e => exact .dic (k _ _ e)
  | l0 e n => exact .l0 (k _ _ e) n
  | l1 e n _ ih => exact .l1 (k _ _ e) n ih
  | l2 e n _ _ i1 i2 => exact .l2 (k _ _ e) n i1 i2
  | t0 e => exact .t0 (k _ _ e)
  | t1 e _ ih => exact .t1 (k _ _ e) ih
  | t2 e _ _ i1 i2 => exact .t2 (k _ _ e) i1 i2
section
variable {X : Cx} {pins : List (Addr × Obj)} {σ : L2.St} {H : Hp} {s : Shared}
theorem lst_at (I : L2.Inv X pins σ H s) {a : Addr} {xs : List V} (h : H a = some (.lst xs)) : ∃ (its : List Value) (n : Nat), Vals xs its ∧ s.heap.get? a = some { cls := .type "list", data := .seq its.toArray n } := by
  obtain ⟨_, its, n, r, e⟩ := (show ObjOk X.prog X.w H s.heap a (.lst xs) from I.hok a _ h)
  exact ⟨its, n, r, e⟩
theorem tup_at (I : L2.Inv X pins σ H s) {a : Addr} {xs : List V} (h : H a = some (.tup xs)) : ∃ (its : List Value) (o : Obj) (n : Nat), Vals xs its ∧ s.heap.get? a = some o ∧ o.cls = .type "tuple" ∧ o.data = .seq its.toArray n := by
  obtain ⟨_, its, r, o, e, c, n, d⟩ := (show ObjOk X.prog X.w H s.heap a (.tup xs) from I.hok a _ h)
  exact ⟨its, o, n, r, e, c, d⟩
theorem Dt.reads (I : L2.Inv X pins σ H s) {v : V} {d : PyData} (h : Dt H v d) : ∀ {u : Value}, RelV v u → ∃ as, Reads s.heap u d as ∧ sysModules ∉ as := by
  induction h with
  | non => intro u r; cases r; exact ⟨_, .none, by simp⟩
  | bl b => intro u r; cases r; exact ⟨_, .bool b, by simp⟩
  | int i => intro u r; obtain ⟨t, rfl⟩ := r; exact ⟨_, .int i t, by simp⟩
  | str x => intro u r; obtain ⟨t, rfl⟩ := r; exact ⟨_, .str x t, by simp⟩
  | @dic a e =>
    intro u r
    cases r
    obtain ⟨_, hs, vs, kv, o, es, ep, ho, hx, hd, hk, hp, _⟩ := (show ObjOk X.prog X.w H s.heap a (.dK []) from I.hok a _ e)
    cases kv
    have he : es.toList = [] := by
      generalize es.toList = l at hp
      cases hp
      rfl
    refine ⟨a :: [] ++ [], .dict (as := []) (bs := []) ho hx.1 hd ?_ ?_, ?_⟩
    · rw [he]; exact .nil
    · rw [he]; exact .nil
    · have : a ≠ sysModules := by simpa using hs
      simp [Ne.symm this]
  | @l0 a e n =>
    intro u r
    cases r
    obtain ⟨its, m, rv, ho⟩ := lst_at I e
    cases rv
    exact ⟨_, .list ho rfl rfl .nil, by simp [Ne.symm n]⟩
  | @l1 a x d e n hx ih =>
    intro u r
    cases r
    obtain ⟨its, m, rv, ho⟩ := lst_at I e
    cases rv with
    | cons r1 rr =>
      cases rr
      obtain ⟨as, q, nq⟩ := ih r1
      exact ⟨_, .list ho rfl rfl (.cons q .nil), by simp [Ne.symm n, nq]⟩
  | @l2 a x y d e2 e n hx hy ih1 ih2 =>
    intro u r
    cases r
    obtain ⟨its, m, rv, ho⟩ := lst_at I e
    cases rv with
    | cons r1 rr =>
      cases rr with
      | cons r2 rr =>
        cases rr
        obtain ⟨as, q, nq⟩ := ih1 r1
        obtain ⟨bs, q2, nq2⟩ := ih2 r2
        exact ⟨_, .list ho rfl rfl (.cons q (.cons q2 .nil)), by simp [Ne.symm n, nq, nq2]⟩
  | @t0 a e =>
    intro u r
    cases r
    obtain ⟨its, o, m, rv, ho, hc, hd⟩ := tup_at I e
    cases rv
    exact ⟨_, .tuple ho hc hd .nil, by simp⟩
  | @t1 a x d e hx ih =>
    intro u r
    cases r
    obtain ⟨its, o, m, rv, ho, hc, hd⟩ := tup_at I e
    cases rv with
    | cons r1 rr =>
      cases rr
      obtain ⟨as, q, nq⟩ := ih r1
      exact ⟨_, .tuple ho hc hd (.cons q .nil), by simp [nq]⟩
  | @t2 a x y d e2 e hx hy ih1 ih2 =>
    intro u r
    cases r
    obtain ⟨its, o, m, rv, ho, hc, hd⟩ := tup_at I e
    cases rv with
    | cons r1 rr =>
      cases rr with
      | cons r2 rr =>
        cases rr
        obtain ⟨as, q, nq⟩ := ih1 r1
        obtain ⟨bs, q2, nq2⟩ := ih2 r2
        exact ⟨_, .tuple ho hc hd (.cons q (.cons q2 .nil)), by simp [nq, nq2]⟩
end
/-- repr(x), x a datum of small depth and size -/
def rRepr : List V → Hp → VK → Prop := fun xs H Q => ∃ (x : V) (d : PyData), xs = [x] ∧ Dt H x d ∧ d.showable = true ∧ d.depth ≤ 100 ∧ d.shown.length ≤ 100000 ∧ Q (.str d.shown) H
theorem call_repr {X : Cx} {k : Nat} (hg : X.A.guards = some []) (hr : Room k X.A) : CallR X (.builtin "repr") rRepr := by
  intro pins s σ H xs us Q I r h
  obtain ⟨x, d, rfl, hd, hs, hdp, hz, q⟩ := h
  obtain ⟨u, rfl, ru⟩ := vals1 r
  have hz' : d.shown.length ≤ sizeLine := Nat.le_trans hz (by decide)
  obtain ⟨as, rd, ns⟩ := hd.reads I ru
  have hu : X.A.units + (d.depth + 1) < cLine := by have := hr.un; omega
  have viaRef : ∀ a, u = .ref a → wpAny (model X.prog X.w) X.A (call (.builtin "repr") [u]) (EP X pins σ Q) X.xe s := fun a e => by
    subst e
    exact repr_of_reads' rd hs (fun _ => ns) hg hu (fun _ _ e => e) (fun h' u tk k => ⟨.str d.shown, H, I.kept k, ⟨_, rfl⟩, q⟩) hz'
  cases hd with
  | non => cases ru; exact PySem.P.repr_of_none ⟨.str _, H, I.tok _, ⟨_, rfl⟩, by simpa only [PyData.shown] using q⟩
  | bl b => cases ru; exact PySem.P.repr_of_bool ⟨.str _, H, I.tok _, ⟨_, rfl⟩, by simpa only [PyData.shown] using q⟩
  | int i => obtain ⟨t, rfl⟩ := ru; exact PySem.P.repr_of_int (by simpa [PyData.showable] using hs) ⟨.str _, H, I.tok _, ⟨_, rfl⟩, by simpa only [PyData.shown] using q⟩
  | str x => obtain ⟨t, rfl⟩ := ru; exact PySem.P.repr_of_str ⟨.str _, H, I.tok _, ⟨_, rfl⟩, by simpa only [PyData.shown] using q⟩ (by simpa only [PyData.shown] using hz')
  | dic e => exact viaRef _ ru
  | l0 e n => exact viaRef _ ru
  | l1 e n h1 => exact viaRef _ ru
  | l2 e n h1 h2 => exact viaRef _ ru
  | t0 e => exact viaRef _ ru
  | t1 e h1 => exact viaRef _ ru
  | t2 e h1 h2 => exact viaRef _ ru
/-- what is told of a datum: it may be shown, so deep, so long -/
def Small (d : PyData) (n m : Nat) : Prop := d.showable = true ∧ d.depth ≤ n ∧ d.shown.length ≤ m
theorem int_len {k : Int} (hk : 0 ≤ k ∧ k < 100) : (PyData.shown (.int k)).length ≤ 3 := by
  have e : (toString k).length ≤ 2 + 1 := int_text_length_le10 (by decide) (by omega)
  simp only [PyData.shown]
  rw [PySem.ofString_length]
  exact e
theorem int_show {k : Int} (hk : 0 ≤ k ∧ k < 100) : k.natAbs.log2 < 1920 := by
  have := Nat.log2_le_self k.natAbs
  omega
theorem small_tup {d : PyData} {n m : Nat} {k : Int} (h : Small d n m) (hk : 0 ≤ k ∧ k < 100) : Small (.tuple [d, .int k]) (n + 1) (m + 10) := by
  obtain ⟨h1, h2, h3⟩ := h
  refine ⟨by simp [PyData.showable, PyData.showableAll, h1, int_show hk], by simp only [PyData.depth, PyData.depthAll]; omega, ?_⟩
  have e := tupleText_len_le (PyData.shownAll [d, .int k])
  have e2 := int_len hk
  simp only [PyData.shownAll, List.map_cons, List.map_nil, List.sum_cons, List.sum_nil, List.length_cons, List.length_nil] at e
  show (tupleText (PyData.shownAll [d, .int k])).length ≤ m + 10
  simp only [PyData.shownAll]
  omega
theorem small_lst {d : PyData} {n m : Nat} {k : Int} (h : Small d n m) (hk : 0 ≤ k ∧ k < 100) : Small (.list [.int k, d]) (n + 1) (m + 10) := by
  obtain ⟨h1, h2, h3⟩ := h
  refine ⟨by simp [PyData.showable, PyData.showableAll, h1, int_show hk], by simp only [PyData.depth, PyData.depthAll]; omega, ?_⟩
  have e := listText_len_le (PyData.shownAll [.int k, d])
  have e2 := int_len hk
  simp only [PyData.shownAll, List.map_cons, List.map_nil, List.sum_cons, List.sum_nil, List.length_cons, List.length_nil] at e
  show (listText (PyData.shownAll [.int k, d])).length ≤ m + 10
  simp only [PyData.shownAll]
  omega
theorem Small.mono {d : PyData} {n m n' m' : Nat} (h : Small d n m) (h1 : n ≤ n') (h2 : m ≤ m') : Small d n' m' := ⟨h.1, Nat.le_trans h.2.1 h1, Nat.le_trans h.2.2 h2⟩
end Ev
set_option maxHeartbeats 4000000
namespace LawK
open PySem PySem.Spec PyProof.Rows L2 Ev

def topS (i : Nat) : Stmt := PySem.Challenge.pw_everypiece_k47_whole_patterns_searched_b.main.body.getD i (.Pass ⟨0, 0, 0, 0⟩)
abbrev sPool : Stmt := topS 30
theorem scPool : FnScope ["script", "seed", "cell"] ["script"] (defScope sPool) := ⟨rfl, rfl, rfl, by decide +kernel, rfl, by decide +kernel, by decide +kernel⟩
abbrev sDraw : Stmt := topS 31
theorem scDraw : FnScope ["pool", "many", "cells", "digit", "mixed"] ["pool", "many"] (defScope sDraw) := ⟨rfl, rfl, rfl, by decide +kernel, rfl, by decide +kernel, by decide +kernel⟩
/-! ### the pool of a law: a seed, how often it was asked, what is left of the great numbers -/
def HandL (H : Hp) (p l : Addr) : Prop := ∃ (cells : List Int) (s n : Int), H p = some (.lst [.int s, .int n, .ref l]) ∧ H l = some (.lst (cells.map V.int)) ∧ l ≠ p
/-- nothing but the pool at p and its list at l has changed -/
def But (p l : Addr) (H H' : Hp) : Prop := ∀ b o, b ≠ p ∧ b ≠ l → H b = some o → H' b = some o
theorem But.refl (p l : Addr) (H : Hp) : But p l H H := fun _ _ _ h => h
theorem But.trans {p l : Addr} {H H1 H2 : Hp} (a : But p l H H1) (b : But p l H1 H2) : But p l H H2 := fun c o n h => b c o n (a c o n h)
theorem But.same {p l : Addr} {H H' : Hp} (a : Same H H') : But p l H H' := fun c o _ e => a c o e
def spDraw : Sp := fun vs H Q _ => ∃ (p : Addr) (m : Int), vs = [.ref p, .int m] ∧ 0 < m ∧ m < 1000000 ∧ ∃ l, HandL H p l ∧ ∀ v H', 0 ≤ v → v < m → HandL H' p l → But p l H H' → Q (.int v) H'
def spPool (K : PySem.W.Frag) : Sp := fun vs H Q _ => ∃ (a : Addr) (ns : List Int), vs = [.ref a] ∧ SqL K H a (ns.map V.int) ∧ ∀ p l H', H p = none → H l = none → HandL H' p l → Same H H' → Q (.ref p) H'
structure Glob (mg : Str → Option Value) : Prop where
  abs : mg "abs" = none
  any : mg "any" = none
  repr : mg "repr" = none
  reversed : mg "reversed" = none
  len : mg "len" = none
  int : mg "int" = none
  list : mg "list" = none
  range : mg "range" = none
  isinstance : mg "isinstance" = none
  bool : mg "bool" = none
  str : mg "str" = none
  tuple : mg "tuple" = none
  sum : mg "sum" = none
  ord : mg "ord" = none
  zip : mg "zip" = none
  max : mg "max" = none
  min : mg "min" = none
  all : mg "all" = none
  enumerate : mg "enumerate" = none
  sorted : mg "sorted" = none
  set : mg "set" = none
theorem sq_of {K : PySem.W.Frag} {H : Hp} {a : Addr} {xs : List V} (h : H a = some (.lst xs)) : SqL K H a xs := .inl (.inl h)
theorem atI_in {α : Type} {xs : List α} {i : Int} (h0 : 0 ≤ i) (h1 : i < xs.length) : ∃ v, atI xs i = some v ∧ v ∈ xs := by
  obtain ⟨j, rfl⟩ := Int.eq_ofNat_of_zero_le h0
  have hj : j < xs.length := by omega
  exact ⟨xs[j], atI_nat (by rw [List.getElem?_eq_getElem hj]), List.getElem_mem hj⟩
theorem atI_int {xs : List Int} {i : Int} (h0 : 0 ≤ i) (h1 : i < xs.length) : ∃ c : Int, atI (xs.map V.int) i = some (.int c) := by
  obtain ⟨v, e, hm⟩ := atI_in (xs := xs.map V.int) h0 (by rw [List.length_map]; exact h1)
  obtain ⟨c, _, rfl⟩ := List.mem_map.mp hm
  exact ⟨c, e⟩
theorem Same.new {H : Hp} {q : Addr} {o : HO} (h : H q = none) : Same H (upd H q o) := fun b u e => by
  rw [upd_ne (ne_of_none e h)]
  exact e
theorem sameAt {H H' : Hp} {q : Addr} {o : HO} (k : Same H H') (h : H q = none) : Same H (upd H' q o) := fun b u e => by
  rw [upd_ne (ne_of_none e h)]
  exact k b u e
theorem Same.free {H H' : Hp} (k : Same H H') {a : Addr} (h : H' a = none) : H a = none := by
  cases e : H a with
  | none => rfl
  | some o =>
    rw [k _ _ e] at h
    cases h
theorem cells_cut {ns : List Int} {h : Option Int} : ∃ ms : List Int, cutV (ns.map V.int) none h = ms.map V.int ∧ ms.length ≤ ns.length := by
  refine ⟨(ns.drop (HT.sIx (ns.map V.int).length 0 none)).take (HT.sIx (ns.map V.int).length (ns.map V.int).length h - HT.sIx (ns.map V.int).length 0 none), ?_, ?_⟩
  · show ((ns.map V.int).drop _).take _ = _
    rw [← List.map_drop, ← List.map_take]
  · rw [List.length_take, List.length_drop]
    omega
theorem PSs.imp {X : Cx} {st : List Stmt} {t u : TS} (h : PSs X st u) (k : ∀ D σ H, t D σ H → u D σ H) : PSs X st t := ⟨fun pins s σ H D I q => h.run pins s σ H D I (k D σ H q)⟩
theorem PE.imp {X : Cx} {e : Expr} {t u : TE} (h : PE X e u) (k : ∀ σ H Q, t σ H Q → u σ H Q) : PE X e t := ⟨fun pins s σ H Q I q => h.run pins s σ H Q I (k σ H Q q)⟩
theorem PS.imp {X : Cx} {st : Stmt} {t u : TS} (h : PS X st u) (k : ∀ D σ H, t D σ H → u D σ H) : PS X st t := ⟨fun pins s σ H D I q => h.run pins s σ H D I (k D σ H q)⟩
theorem sqSame {K : PySem.W.Frag} {H H' : Hp} {a : Addr} {xs : List V} (h : SqL K H a xs) (k : Same H H') : SqL K H' a xs := by
  rcases h with (h | ⟨o, h⟩) | h
  · exact .inl (.inl (k _ _ h))
  · exact .inl (.inr ⟨o, k _ _ h⟩)
  · exact .inr h
theorem boot_ty_int : bootBuiltins "int" = some (.type "int") := by decide +kernel
section
variable {P : Program} {w : World} {K : PySem.W.Frag} {mg : Str → Option Value} {base : Heap}

theorem ok_Pool {f : Addr} {fd : FuncData} (F : Fun K "_law_pool" "_law_pool" sPool f fd) (T : Glob mg) : FnOk P w K mg base CX0 1 f fd ["script"] (spPool K) := by
  refine F.ok scPool (fun vs H Q E h => ?_) (fun cdv A outer s H vs Q E hr h => ?_)
  · obtain ⟨a, ns, rfl, _⟩ := h
    rfl
  · obtain ⟨a, ns, rfl, hS, q⟩ := h
    refine ⟨_, (pss_cons (ps_set (i := 1) scPool.nd rfl (.inl rfl) (pe_op op_add (pe_op op_add (pe_op op_mod (pe_callTy call_int1 (by rfl) T.int boot_ty_int (pa_cons (pe_callB (cr_sum rfl) (by rfl) T.sum (by decide +kernel) (pa_cons (pe_slice sl_list (pv 0) po_none (po_some pe_int)) pa_nil)) pa_nil)) pe_int) (pe_callB call_len_seq (by rfl) T.len PySem.boot_len (pa_cons (pv 0) pa_nil))) pe_int))
      (pss_cons (ps_for PassesOwn.never rfl (pi_list (pe_slice sl_list (pv 0) po_none (po_some pe_int))) (pg_name (i := 2) scPool.nd rfl (.inl rfl))
      (pss_one (ps_set (i := 1) scPool.nd rfl (.inl rfl) (pe_op op_mod (pe_callTy call_int1 (by rfl) T.int boot_ty_int (pa_cons (pe_op op_add (pe_op op_add (pe_op op_mul (pv 1) pe_int) (pe_op op_mod (pe_callTy call_int1 (by rfl) T.int boot_ty_int (pa_cons (pv 2) pa_nil)) pe_int)) pe_int) pa_nil)) pe_int))))
      (pss_one (ps_ret (pe_lst (pa_cons (pv 1) (pa_cons pe_int (pa_cons (pe_lc (own := [("cell", 2)]) (g := gName 2) (by rfl) scPool.nd (pi_list (pe_slice sl_list (pv 0) po_none (po_some pe_int))) (blkOk_by (N := ["script", "seed", "cell"]) (sc := defScope sPool) (by decide +kernel)) (fun _ _ _ _ _ => pg_name (i := 2) scPool.nd rfl (.inl rfl)) (fun _ _ _ _ _ => (pts_one (pt_cmpR op_ge (pe_callB call_abs (by rfl) T.abs (by decide +kernel) (pa_cons (pv 2) pa_nil)) (pe_op op_pow pe_int pe_int) (nomark _)))) (fun _ _ _ _ _ => (pe_callB call_abs (by rfl) T.abs (by decide +kernel) (pa_cons (pv 2) pa_nil)))) pa_nil)))))))), ?_⟩
    obtain ⟨m1, e1, _⟩ := cells_cut (ns := ns) (h := some 1)
    obtain ⟨ms, ec, lm⟩ := cells_cut (ns := ns) (h := some 63)
    have lc : (cutV (ns.map V.int) none (some (63 : Int))).length ≤ 63 := by
      show (((ns.map V.int).drop _).take _).length ≤ 63
      rw [List.length_take]
      have : HT.sIx (ns.map V.int).length (ns.map V.int).length (some (63 : Int)) ≤ 63 := Nat.min_le_left _ _
      omega
    rw [ec, List.length_map] at lc
    refine ⟨.ref a, rfl, _, rfl, a, _, rfl, hS, fun c nc => ?_⟩
    rw [e1]
    have k1 := Same.new (o := .lst (m1.map V.int)) nc
    have h1 : upd H c (.lst (m1.map V.int)) c = some (.lst (m1.map V.int)) := upd_same
    revert k1 h1
    generalize upd H c (.lst (m1.map V.int)) = H1
    intro k1 h1
    have hS1 := sqSame hS k1
    refine ⟨c, m1, rfl, sq_of h1, .inl ⟨_, rfl, _, _, rfl, rfl, (by show (0 : Int) < 1000003; decide), ?_⟩⟩
    refine ⟨.ref a, rfl, a, _, rfl, .inl hS1, _, _, rfl, rfl, _, _, rfl, rfl, ?_⟩
    refine ⟨.ref a, rfl, _, rfl, a, _, rfl, hS1, fun c2 nc2 => ?_⟩
    rw [ec]
    have k2 := Same.new (o := .lst (ms.map V.int)) nc2
    have h2 : upd H1 c2 (.lst (ms.map V.int)) c2 = some (.lst (ms.map V.int)) := upd_same
    revert k2 h2
    generalize upd H1 c2 (.lst (ms.map V.int)) = H2
    intro k2 h2
    have hS2 := sqSame hS1 k2
    refine ⟨c2, rfl, ⟨_, sq_of h2⟩, for_list (K := K) (xs := ms.map V.int) (fun i σ H' => ∃ (s : Int) (u : Option V), σ = [some (.ref a), some (.int s), u] ∧ H' = H2) ⟨_, _, rfl, rfl⟩ (fun i σ H' _ ⟨_, _, _, w⟩ => by rw [w]; exact sq_of h2) ?_ ?_⟩
    · rintro i x σ H3 hx ⟨s, u, rfl, rfl⟩
      rw [List.getElem?_map] at hx
      obtain ⟨y, hy, rfl⟩ := Option.map_eq_some_iff.mp hx
      refine ⟨.int s, rfl, _, _, rfl, rfl, .inr ⟨by decide, by decide⟩, .int y, rfl, .inl ⟨_, rfl, _, _, rfl, rfl, (by show (0 : Int) < 2147483629; decide), _, _, rfl, rfl, _, _, rfl, rfl, .inl ⟨_, rfl, _, _, rfl, rfl, (by show (0 : Int) < 2147483647; decide), ?_⟩⟩⟩
      exact ⟨_, _, rfl, rfl⟩
    · rintro σ H3 ⟨s, u, rfl, rfl⟩
      refine ⟨.int s, rfl, .ref a, rfl, _, rfl, a, _, rfl, hS2, fun c3 nc3 => ?_⟩
      rw [ec]
      have k3 := Same.new (o := .lst (ms.map V.int)) nc3
      have h3 : upd H3 c3 (.lst (ms.map V.int)) c3 = some (.lst (ms.map V.int)) := upd_same
      revert k3 h3
      generalize upd H3 c3 (.lst (ms.map V.int)) = H4
      intro k3 h3
      refine ⟨c3, rfl, ⟨_, sq_of h3⟩, fun l nl => lc_list (xs := ms.map V.int) (fun i H' => Same H4 H' ∧ ∃ zs : List Int, H' l = some (.lst (zs.map V.int)) ∧ zs.length ≤ i) ⟨Same.new nl, [], upd_same, Nat.le_refl _⟩ (fun i H' _ w => sq_of (w.1 _ _ h3)) ?_ ?_⟩
      · rintro i x H5 hx ⟨k5, zs, hl, lz⟩
        rw [List.getElem?_map] at hx
        obtain ⟨y, hy, rfl⟩ := Option.map_eq_some_iff.mp hx
        have li := (List.getElem?_eq_some_iff.mp hy).1
        refine ⟨rfl, .int y, rfl, y, rfl, _, _, rfl, rfl, ⟨by decide, by decide, by decide⟩, _, _, rfl, rfl, _, rfl, ite2 (fun c => ?_) fun c => ?_⟩
        · refine ⟨.int y, rfl, y, rfl, _, hl, ?_, sameAt k5 nl, zs ++ [if y < 0 then -y else y], ?_, by rw [List.length_append, List.length_singleton]; omega⟩
          · rw [List.length_map, sizeLine_eq]
            omega
          · rw [upd_same, List.map_append]
            rfl
        · exact ⟨k5, zs, hl, by omega⟩
      · rintro H5 ⟨k5, zs, hl, lz⟩
        refine ⟨by show 3 ≤ sizeLine; decide, fun p np => ?_⟩
        have nlp : l ≠ p := ne_of_none hl np
        have kH5 : Same H H5 := k1.trans (k2.trans (k3.trans k5))
        have nH : H l = none := Same.free (k1.trans (k2.trans k3)) nl
        exact q p l _ (Same.free kH5 np) nH ⟨zs, s, 0, upd_same, by rw [upd_ne nlp]; exact hl, nlp⟩ (sameAt kH5 (Same.free kH5 np))
theorem ok_Draw {f : Addr} {fd : FuncData} (F : Fun K "_law_draw" "_law_draw" sDraw f fd) (T : Glob mg) : FnOk P w K mg base CX0 1 f fd ["pool", "many"] spDraw := by
  refine F.ok scDraw (fun vs H Q E h => ?_) (fun cdv A outer s H vs Q E hr h => ?_)
  · obtain ⟨p, m, rfl, _⟩ := h
    rfl
  · obtain ⟨p, m, rfl, m0, m1, l, ⟨cells, s0, n, hp, hl, npl⟩, q⟩ := h
    refine ⟨_, (pss_cons (ps_asg (pe_op op_add (pe_ix ix_list (pv 0) pe_int (fun _ _ => rfl)) pe_int) (pg_sub (pv 0) pe_int set_list))
      (pss_cons (ps_set (i := 2) scDraw.nd rfl (.inl rfl) (pe_ix ix_list (pv 0) pe_int (fun _ _ => rfl)))
      (pss_cons (ps_if (pt_cmpR op_gt (pe_callB call_len_seq (by rfl) T.len PySem.boot_len (pa_cons (pv 2) pa_nil)) pe_int (nomark _))
      (pss_cons (ps_set (i := 3) scDraw.nd rfl (.inl rfl) (pe_op op_mod (pe_callTy call_int1 (by rfl) T.int boot_ty_int (pa_cons (pe_ix ix_list (pv 2) pe_int (fun _ _ => rfl)) pa_nil)) (pv 1)))
        (pss_cons (ps_asg (pe_op op_fdiv (pe_callTy call_int1 (by rfl) T.int boot_ty_int (pa_cons (pe_ix ix_list (pv 2) pe_int (fun _ _ => rfl)) pa_nil)) (pv 1)) (pg_sub (pv 2) pe_int set_list))
        (pss_cons (ps_if (pt_cmpR op_eq (pe_ix ix_list (pv 2) pe_int (fun _ _ => rfl)) pe_int (nomark _))
        (pss_one (ps_expr (pe_bm PySem.F.plainAttrs_list PySem.F.slot_list_pop PySem.F.type_list_pop mt_popAt (pv 2) (pa_cons pe_int pa_nil))))
        pss_nil)
        (pss_one (ps_ret (pv 3))))))
      pss_nil)
      (pss_cons (ps_set (i := 4) scDraw.nd rfl (.inl rfl) (pe_op op_mod (pe_callTy call_int1 (by rfl) T.int boot_ty_int (pa_cons (pe_op op_mul (pe_op op_add (pe_ix ix_list (pv 0) pe_int (fun _ _ => rfl)) (pe_op op_mul pe_int (pe_ix ix_list (pv 0) pe_int (fun _ _ => rfl)))) pe_int) pa_nil)) pe_int))
      (pss_cons (ps_set (i := 4) scDraw.nd rfl (.inl rfl) (pe_op op_mod (pe_callTy call_int1 (by rfl) T.int boot_ty_int (pa_cons (pe_op op_mul (pv 4) (pe_op op_add (pe_op op_fdiv (pv 4) pe_int) pe_int)) pa_nil)) pe_int))
      (pss_cons (ps_set (i := 4) scDraw.nd rfl (.inl rfl) (pe_op op_mod (pe_callTy call_int1 (by rfl) T.int boot_ty_int (pa_cons (pe_op op_mul (pv 4) (pe_op op_add (pe_op op_fdiv (pv 4) pe_int) pe_int)) pa_nil)) pe_int))
      (pss_one (ps_ret (pe_op op_mod (pe_callTy call_int1 (by rfl) T.int boot_ty_int (pa_cons (pe_op op_fdiv (pv 4) pe_int) pa_nil)) (pv 1)))))))))), ?_⟩
    refine ⟨.ref p, rfl, p, _, 1, _, rfl, rfl, sq_of hp, rfl, _, _, rfl, rfl, .ref p, rfl, p, _, 1, 1, rfl, rfl, hp, rfl, ?_⟩
    dsimp only
    have hp2 : upd H p (.lst (List.set [.int s0, .int n, .ref l] 1 (.int (n + 1)))) p = some (.lst [.int s0, .int (n + 1), .ref l]) := upd_same
    have hl2 : upd H p (.lst (List.set [.int s0, .int n, .ref l] 1 (.int (n + 1)))) l = some (.lst (cells.map V.int)) := by rw [upd_ne npl]; exact hl
    have b2 : But p l H (upd H p (.lst (List.set [.int s0, .int n, .ref l] 1 (.int (n + 1))))) := fun b u n e => by rw [upd_ne n.1]; exact e
    generalize upd H p (.lst (List.set [.int s0, .int n, .ref l] 1 (.int (n + 1)))) = H2 at hp2 hl2 b2 ⊢
    refine ⟨.ref p, rfl, p, _, 2, _, rfl, rfl, sq_of hp2, rfl, ?_⟩
    refine ⟨.ref l, rfl, l, _, rfl, .inl (sq_of hl2), _, _, rfl, rfl, _, rfl, ite2 (fun e => ?_) (fun e => ?_)⟩
    · have pos : 0 < cells.length := by
        have e := of_decide_eq_true e
        rw [List.length_map] at e
        omega
      obtain ⟨c, cs, rfl⟩ : ∃ c cs, cells = c :: cs := by
        cases cells with
        | nil => cases pos
        | cons c cs => exact ⟨c, cs, rfl⟩
      have ix0 : ∀ d : Int, ixN ((d :: cs).map V.int).length 0 = some 0 := fun d => by
        rw [List.length_map, List.length_cons]
        simp [ixN]
      have sx0 : ∀ d : Int, seqIndex? 0 ((d :: cs).map V.int).length = some 0 := fun d => by
        rw [List.length_map, List.length_cons]
        simp [seqIndex?]
      refine ⟨.ref l, rfl, l, _, 0, .int c, rfl, rfl, sq_of hl2, atI_nat (j := 0) rfl, .inl ⟨c, rfl, .int m, rfl, _, _, rfl, rfl, m0, ?_⟩⟩
      refine ⟨.ref l, rfl, l, _, 0, .int c, rfl, rfl, sq_of hl2, atI_nat (j := 0) rfl, .inl ⟨c, rfl, .int m, rfl, _, _, rfl, rfl, ⟨m0, by omega⟩, ?_⟩⟩
      refine ⟨.ref l, rfl, l, _, 0, 0, rfl, rfl, hl2, ix0 c, ?_⟩
      dsimp only
      have hp3 : upd H2 l (.lst (List.set ((c :: cs).map V.int) 0 (.int (c / m)))) p = some (.lst [.int s0, .int (n + 1), .ref l]) := by rw [upd_ne (Ne.symm npl)]; exact hp2
      have hl3 : upd H2 l (.lst (List.set ((c :: cs).map V.int) 0 (.int (c / m)))) l = some (.lst ((c / m :: cs).map V.int)) := upd_same
      have b3 : But p l H (upd H2 l (.lst (List.set ((c :: cs).map V.int) 0 (.int (c / m))))) := b2.trans fun b u n e => by rw [upd_ne n.2]; exact e
      generalize upd H2 l (.lst (List.set ((c :: cs).map V.int) 0 (.int (c / m)))) = H3 at hp3 hl3 b3 ⊢
      refine ⟨.ref l, rfl, l, _, 0, .int (c / m), rfl, rfl, sq_of hl3, atI_nat (j := 0) rfl, rfl, _, rfl, ite2 (fun e2 => ?_) fun e2 => ?_⟩
      · refine ⟨.ref l, rfl, .inl ⟨rfl, _, sq_of hl3⟩, l, _, 0, 0, .int (c / m), rfl, rfl, hl3, by decide, by decide, sx0 (c / m), rfl, ?_⟩
        refine ⟨_, rfl, ?_⟩
        exact q _ _ (Int.emod_nonneg _ (by omega)) (Int.emod_lt_of_pos _ m0) ⟨cs, s0, n + 1, by rw [upd_ne (Ne.symm npl)]; exact hp3, upd_same, npl⟩ (b3.trans fun b u n e => by rw [upd_ne n.2]; exact e)
      · dsimp only [tNext, tDrop]
        refine ⟨_, rfl, ?_⟩
        exact q _ _ (Int.emod_nonneg _ (by omega)) (Int.emod_lt_of_pos _ m0) ⟨_, s0, n + 1, hp3, hl3, npl⟩ b3
    · dsimp only [tNext, tDrop]
      refine ⟨.ref p, rfl, p, _, 0, _, rfl, rfl, sq_of hp2, rfl, .ref p, rfl, p, _, 1, _, rfl, rfl, sq_of hp2, rfl, 7919, n + 1, rfl, rfl, .inl ⟨by decide, by decide⟩, _, _, rfl, rfl, _, _, rfl, rfl, .inr ⟨by decide, by decide⟩, .inl ⟨_, rfl, _, _, rfl, rfl, (by show (0 : Int) < 2147483647; decide), ?_⟩⟩
      dsimp only
      have a2 : 0 ≤ ((s0 + 7919 * (n + 1)) * 48271) % 2147483647 := Int.emod_nonneg _ (by decide)
      have a3 : ((s0 + 7919 * (n + 1)) * 48271) % 2147483647 < 2147483647 := Int.emod_lt_of_pos _ (by decide)
      generalize ((s0 + 7919 * (n + 1)) * 48271) % 2147483647 = y at a2 a3 ⊢
      refine ⟨.int y, rfl, .int y, rfl, _, _, rfl, rfl, ⟨by decide, by decide⟩, _, _, rfl, rfl, _, _, rfl, rfl, .inl ⟨by omega, by omega⟩, .inl ⟨_, rfl, _, _, rfl, rfl, (by show (0 : Int) < 2147483647; decide), ?_⟩⟩
      dsimp only
      have a4 : 0 ≤ (y * (y / 1009 + 69621)) % 2147483647 := Int.emod_nonneg _ (by decide)
      have a5 : (y * (y / 1009 + 69621)) % 2147483647 < 2147483647 := Int.emod_lt_of_pos _ (by decide)
      generalize (y * (y / 1009 + 69621)) % 2147483647 = z at a4 a5 ⊢
      refine ⟨.int z, rfl, .int z, rfl, _, _, rfl, rfl, ⟨by decide, by decide⟩, _, _, rfl, rfl, _, _, rfl, rfl, .inl ⟨by omega, by omega⟩, .inl ⟨_, rfl, _, _, rfl, rfl, (by show (0 : Int) < 2147483399; decide), ?_⟩⟩
      refine ⟨_, rfl, _, _, rfl, rfl, ⟨by decide, by decide⟩, .inl ⟨_, rfl, .int m, rfl, _, _, rfl, rfl, m0, ?_⟩⟩
      exact q _ _ (Int.emod_nonneg _ (by omega)) (Int.emod_lt_of_pos _ m0) ⟨cells, s0, n + 1, hp2, hl2, npl⟩ b2
end
end LawK
set_option maxHeartbeats 4000000
/-! Texts: how long, so many times, which signs; kinds of values. -/
namespace Ev
open PySem PySem.Spec PyProof.Rows L2
def rLenZ : List V → Hp → VK → Prop := fun xs H Q => ∃ z : Str, xs = [.str z] ∧ z.length ≤ sizeLine ∧ Q (.int z.length) H
theorem call_lenZ {X : Cx} : CallR X (.builtin "len") rLenZ := fun pins s σ H xs us Q I r h =>
  call_len pins s σ H xs us Q I r (let ⟨z, e, hz, q⟩ := h; ⟨.str z, z.length, e, ⟨hz, rfl⟩, q⟩)
def rMulS : R2 := fun x y H Q => ∃ (z : Str) (n : Int), x = .str z ∧ y = .int n ∧ 0 ≤ n ∧ n ≤ 3000 ∧ z.length ≤ 1000 ∧ Q (.str (Txt.mul z n)) H
theorem mul_ok {z : Str} {n : Int} (h0 : 0 ≤ n) (h1 : n ≤ 3000) (h2 : z.length ≤ 1000) : MulOk z n := by
  refine ⟨by simp; omega, fun a _ => ?_, fun _ _ => ?_⟩
  · have e : (1000 : Int) ≤ (2 ^ 63 - 1) / n := by
      refine Int.le_ediv_of_mul_le (by omega) ?_
      have : (2 : Int) ^ 63 - 1 = 9223372036854775807 := by decide
      omega
    omega
  · have e : z.length * n.toNat ≤ 1000 * 3000 := Nat.mul_le_mul h2 (by omega)
    have h3 : sizeLine = 16777216 := sizeLine_eq
    show decide (z.length * n.toNat > sizeLine) = false
    exact decide_eq_false (by omega)
theorem op_mulS {X : Cx} : OpR X (binaryOp .Mult) rMulS := by
  intro pins s σ H x y v u Q I rx ry h
  obtain ⟨z, n, rfl, rfl, h0, h1, h2, q⟩ := h
  obtain ⟨t, rfl⟩ := rx
  obtain ⟨t', rfl⟩ := ry
  exact SB.mul (mul_ok h0 h1 h2) fun t' k => ⟨.str _, H, I.tok _, ⟨_, rfl⟩, q⟩
/-- every sign of the text is one from the blank to the tilde -/
def sgC (c : Nat) : Bool := decide (32 ≤ c) && decide (c ≤ 126)
def sgB (z : Str) : Bool := z.cps.toList.all sgC
theorem prn128 : ∀ c : Fin 128, Unicode.isPrintable c.val = sgC c.val := by decide +kernel
theorem sgC_of (c : Nat) : (decide (c < 128) && Unicode.isPrintable c) = sgC c := by
  by_cases h : c < 128
  · rw [decide_eq_true h, Bool.true_and]
    exact prn128 ⟨c, h⟩
  · rw [decide_eq_false h, Bool.false_and]
    unfold sgC
    rw [decide_eq_false (show ¬ c ≤ 126 by omega), Bool.and_false]
theorem sgB_of (z : Str) : (Txt.isascii z && Txt.isprintable z) = sgB z := by
  unfold Txt.isascii Txt.isprintable sgB
  rw [← Array.all_toList, ← Array.all_toList]
  generalize z.cps.toList = l
  induction l with
  | nil => rfl
  | cons c l ih =>
    rw [List.all_cons, List.all_cons, List.all_cons, ← sgC_of, ← ih]
    cases decide (c < 128) <;> cases Unicode.isPrintable c <;> cases l.all (fun c => decide (c < 128)) <;> rfl
/-! ### kinds -/
inductive Kn | non | bl | int | str | lst | tup | dic
  deriving DecidableEq
def Kn.name : Kn → String
  | .non => "NoneType"
  | .bl => "bool"
  | .int => "int"
  | .str => "str"
  | .lst => "list"
  | .tup => "tuple"
  | .dic => "dict"
def kitB : Kn → Kn → Bool
  | .bl, .int => true
  | a, b => decide (a = b)
inductive Kd (H : Hp) : V → Kn → Prop
  | non : Kd H .non .non
  | bl (b : Bool) : Kd H (.bl b) .bl
  | int (i : Int) : Kd H (.int i) .int
  | str (z : Str) : Kd H (.str z) .str
  | lst {a : Addr} {xs : List V} (e : H a = some (.lst xs)) : Kd H (.ref a) .lst
  | tup {a : Addr} {xs : List V} (e : H a = some (.tup xs)) : Kd H (.ref a) .tup
  | dic {a : Addr} {kvs : List (Key × V)} (e : H a = some (.dK kvs)) : Kd H (.ref a) .dic
theorem Kd.tyx {K : PySem.W.Frag} {H : Hp} {x : V} {k : Kn} (h : Kd H x k) : TyX K H x (.type k.name) := by
  cases h with
  | non => exact .base .non
  | bl b => exact .base (.bl b)
  | int i => exact .base (.int i)
  | str z => exact .base (.str z)
  | lst e => exact .base (.lst e)
  | tup e => exact .base (.tup e)
  | dic e => exact .base (.dK e)
theorem Kd.same {H H' : Hp} (s : ∀ b o, H b = some o → H' b = some o) {x : V} {k : Kn} (h : Kd H x k) : Kd H' x k := by
  cases h with
  | non => exact .non
  | bl b => exact .bl b
  | int i => exact .int i
  | str z => exact .str z
  | lst e => exact .lst (s _ _ e)
  | tup e => exact .tup (s _ _ e)
  | dic e => exact .dic (s _ _ e)
theorem kit_kn {K : PySem.W.Frag} : ∀ a b : Kn, PySem.W.kitOne K (.type a.name) (.type b.name) = some (kitB a b) := by
  intro a b
  cases a <;> cases b <;> exact kit_ty (by decide +kernel)
theorem rd_isi {K : PySem.W.Frag} {H : Hp} {x : V} {k : Kn} {Q : VK} (T : Kn) (h : Kd H x k) (q : Q (.bl (kitB k T)) H) : rIsi K [x, .ty T.name] H Q :=
  ⟨x, .ty T.name, .type k.name, .type T.name, kitB k T, rfl, .ty _, h.tyx, kit_kn k T, q⟩
/-- for c in s -/
theorem for_strZ {z : Str} {g : TG} {tb : TS} {D : Ends} {σ : L2.St} {H : Hp} (Pv : Nat → L2.St → Hp → Prop) (h0 : Pv 0 σ H)
    (hs : ∀ i c σ H, z.cps[i]? = some c → Pv i σ H → g (.str ⟨#[c]⟩) σ H fun σ2 H2 => tb { D with nx := Pv (i + 1), ct := Pv (i + 1), bk := D.nx } σ2 H2) (hd : ∀ σ H, Pv z.cps.size σ H → D.nx σ H) :
    ∃ W : Nat → Nat → L2.St → Hp → Prop, (∃ m, W 0 m σ H) ∧ ∀ i m σ H, W i m σ H →
      ((Its z).stop i H ∧ D.nx σ H) ∨ ((Its z).go i H ∧ ∃ N : L2.St → Hp → Prop, (∀ σ' H', N σ' H' → ∃ m', m' < m ∧ W (i + 1) m' σ' H') ∧ ∀ x H', (Its z).yld i H x H' → g x σ H' fun σ2 H2 => tb { D with nx := N, ct := N, bk := D.nx } σ2 H2) := by
  refine ⟨fun i m σ H => m = z.cps.size - i ∧ i ≤ z.cps.size ∧ Pv i σ H, ⟨z.cps.size, by simp, Nat.zero_le _, h0⟩, ?_⟩
  rintro i m σ H ⟨rfl, hi, p⟩
  by_cases hlt : i < z.cps.size
  · refine .inr ⟨hlt, Pv (i + 1), fun σ' H' p' => ⟨z.cps.size - (i + 1), by omega, rfl, hlt, p'⟩, fun x H' y => ?_⟩
    obtain ⟨e, c, hc, ex⟩ := y
    subst e ex
    exact hs i c σ _ hc p
  · have e : i = z.cps.size := by omega
    subst e
    exact .inl ⟨Nat.le_refl _, hd σ H p⟩
def sgV : V → Bool
  | .str z => sgB z
  | _ => false
def wordV : V → Bool
  | .str z => sgB z && decide ((0 : Int) < (z.length : Int))
  | _ => false
/-- no text is too long -/
def Vs (x : V) : Prop := ∀ z, x = .str z → z.length ≤ 5000
theorem len5 {n : Nat} (h : n ≤ 5000) : n ≤ sizeLine := by
  have h3 : sizeLine = 16777216 := sizeLine_eq
  omega
def spSg : Sp := fun vs H Q _ => ∃ x k, vs = [x] ∧ Kd H x k ∧ Vs x ∧ Q (.bl (sgV x)) H
def spWd : Sp := fun vs H Q _ => ∃ x k, vs = [x] ∧ Kd H x k ∧ Vs x ∧ Q (.bl (wordV x)) H
def spInt : Sp := fun vs H Q _ => ∃ x k, vs = [x] ∧ Kd H x k ∧ Q (.bl (decide (k = .int))) H
def numV : V → Bool
  | .int i => decide (0 ≤ i)
  | _ => false
def spNum : Sp := fun vs H Q _ => ∃ x k, vs = [x] ∧ Kd H x k ∧ Q (.bl (numV x)) H
def inV2 (a b : Int) : V → Bool
  | .int i => decide (a ≤ i) && decide (i ≤ b)
  | _ => false
def spIn : Sp := fun vs H Q _ => ∃ x k a b, vs = [x, .int a, .int b] ∧ Kd H x k ∧ Q (.bl (inV2 a b x)) H
theorem sgB_at {z : Str} {i c : Nat} (h : z.cps[i]? = some c) (n : sgC c = false) : sgB z = false := by
  unfold sgB
  rw [List.all_eq_false]
  refine ⟨c, ?_, by simp [n]⟩
  rw [← Array.getElem?_toList] at h
  exact List.mem_of_getElem? h
theorem sgB_all {z : Str} (h : ∀ i c : Nat, z.cps[i]? = some c → sgC c = true) : sgB z = true := by
  unfold sgB
  rw [List.all_eq_true]
  intro c hc
  obtain ⟨i, hi, e⟩ := List.mem_iff_getElem.mp hc
  refine h i c ?_
  rw [← Array.getElem?_toList, List.getElem?_eq_getElem hi, e]
end Ev
set_option maxHeartbeats 4000000
/-! Things that are judged: what they are, as far as it is asked. -/
namespace Ev
open PySem PySem.Spec PyProof.Rows L2
def dsm0 : PyData → Bool
  | .str z => decide (z.length ≤ 100) && PyData.strOk z
  | _ => true
/-- no text in it is long -/
def dsm : PyData → Bool
  | .list ds => ds.all dsm0
  | .tuple ds => ds.all dsm0
  | d => dsm0 d
theorem Dt.kd {H : Hp} {v : V} {d : PyData} (h : Dt H v d) : ∃ k, Kd H v k := by
  cases h with
  | non => exact ⟨_, .non⟩
  | bl b => exact ⟨_, .bl b⟩
  | int i => exact ⟨_, .int i⟩
  | str x => exact ⟨_, .str x⟩
  | dic e => exact ⟨_, .dic e⟩
  | l0 e n => exact ⟨_, .lst e⟩
  | l1 e n _ => exact ⟨_, .lst e⟩
  | l2 e n _ _ => exact ⟨_, .lst e⟩
  | t0 e => exact ⟨_, .tup e⟩
  | t1 e _ => exact ⟨_, .tup e⟩
  | t2 e _ _ => exact ⟨_, .tup e⟩
theorem Dt.vs {H : Hp} {v : V} {d : PyData} (h : Dt H v d) (s : dsm0 d = true) : Vs v := by
  cases h with
  | str x =>
    intro z e
    cases e
    have q : x.length ≤ 100 := of_decide_eq_true (Bool.and_eq_true_iff.mp s).1
    exact Nat.le_trans q (by decide)
  | non => exact fun z e => by cases e
  | bl b => exact fun z e => by cases e
  | int i => exact fun z e => by cases e
  | dic e => exact fun z e => by cases e
  | l0 e n => exact fun z e => by cases e
  | l1 e n _ => exact fun z e => by cases e
  | l2 e n _ _ => exact fun z e => by cases e
  | t0 e => exact fun z e => by cases e
  | t1 e _ => exact fun z e => by cases e
  | t2 e _ _ => exact fun z e => by cases e
/-- a thing; some xs: a tuple of xs -/
inductive Tg (H : Hp) : V → Option (List V) → Prop
  | no {x : V} {k : Kn} (h : Kd H x k) (n : k ≠ .tup) (s : Vs x) : Tg H x none
  | tup {a : Addr} {xs : List V} (e : H a = some (.tup xs)) (n : xs.length ≤ 30) (h : ∀ y ∈ xs, (∃ k, Kd H y k) ∧ Vs y) : Tg H (.ref a) (some xs)
theorem Tg.kd {H : Hp} {x : V} {o : Option (List V)} (h : Tg H x o) : ∃ k, Kd H x k ∧ (k = .tup ↔ o.isSome = true) := by
  cases h with
  | no h n s => exact ⟨_, h, fun e => absurd e n, fun e => by cases e⟩
  | tup e n h => exact ⟨_, .tup e, fun _ => rfl, fun _ => rfl⟩
theorem Tg.vs {H : Hp} {x : V} {o : Option (List V)} (h : Tg H x o) : Vs x := by
  cases h with
  | no h n s => exact s
  | tup e n h => exact fun z e => by cases e
theorem Tg.same {H H' : Hp} (s : ∀ b o, H b = some o → H' b = some o) {x : V} {o : Option (List V)} (h : Tg H x o) : Tg H' x o := by
  cases h with
  | no h n z => exact .no (h.same s) n z
  | tup e n h => exact .tup (s _ _ e) n fun y hy => ⟨let ⟨k, q⟩ := (h y hy).1; ⟨k, q.same s⟩, (h y hy).2⟩
theorem Dt.tg {H : Hp} {v : V} {d : PyData} (h : Dt H v d) (s : dsm d = true) : ∃ o, Tg H v o := by
  cases h with
  | non => exact ⟨_, .no .non (by decide) fun z e => by cases e⟩
  | bl b => exact ⟨_, .no (.bl b) (by decide) fun z e => by cases e⟩
  | int i => exact ⟨_, .no (.int i) (by decide) fun z e => by cases e⟩
  | str x => exact ⟨_, .no (.str x) (by decide) (Dt.vs (.str (H := H) x) s)⟩
  | dic e => exact ⟨_, .no (.dic e) (by decide) fun z e => by cases e⟩
  | l0 e n => exact ⟨_, .no (.lst e) (by decide) fun z e => by cases e⟩
  | l1 e n _ => exact ⟨_, .no (.lst e) (by decide) fun z e => by cases e⟩
  | l2 e n _ _ => exact ⟨_, .no (.lst e) (by decide) fun z e => by cases e⟩
  | t0 e => exact ⟨_, .tup e (by decide) fun y hy => absurd hy (by simp)⟩
  | @t1 a x d e hx =>
    have s1 : dsm0 d = true := List.all_eq_true.mp s d (by simp)
    exact ⟨_, .tup e (by simp) fun y hy => by
      obtain rfl := List.mem_singleton.mp hy
      exact ⟨hx.kd, hx.vs s1⟩⟩
  | @t2 a x z d1 d2 e hx hz =>
    have s1 : dsm0 d1 = true := List.all_eq_true.mp s d1 (by simp)
    have s2 : dsm0 d2 = true := List.all_eq_true.mp s d2 (by simp)
    refine ⟨_, .tup e (by simp) fun y hy => ?_⟩
    rcases List.mem_cons.mp hy with g | g
    · rw [g]
      exact ⟨hx.kd, hx.vs s1⟩
    · rw [List.mem_singleton.mp g]
      exact ⟨hz.kd, hz.vs s2⟩
def slen : V → Nat
  | .str z => z.length
  | _ => 0
/-- what is wrong with a thing that is to be texts -/
def badOf : Option (List V) → V
  | none => .int (-1)
  | some xs => if xs.length > 8 then .int (-1) else match xs.findIdx? (fun y => !sgV y) with
    | some k => .int (k : Int)
    | none => if (xs.map slen).sum > 2000 then .str (Str.ofString "long") else .non
/-- whether a thing is a place of these texts -/
def placeV (ts : List Str) : Option (List V) → Bool
  | some [x, y] => inV2 0 ((ts.length : Int) - 1) x && (match x with
    | .int i => inV2 0 (((ts.getD i.toNat Str.empty).length : Int) - 1) y
    | _ => false)
  | _ => false
end Ev
set_option maxHeartbeats 4000000
namespace Ev
open PySem PySem.Spec PyProof.Rows L2
theorem bad1 {xs : List V} (h : xs.length > 8) : badOf (some xs) = .int (-1) := if_pos h
theorem bad2 {xs : List V} {i : Nat} {y : V} (h : ¬ xs.length > 8) (hy : xs[i]? = some y) (b : sgV y = false) (g : ∀ (j : Nat) c, j < i → xs[j]? = some c → sgV c = true) : badOf (some xs) = .int (i : Int) := by
  obtain ⟨hi, ey⟩ := List.getElem?_eq_some_iff.mp hy
  have e : xs.findIdx? (fun y => !sgV y) = some i := by
    rw [List.findIdx?_eq_some_iff_getElem]
    refine ⟨hi, by rw [ey, b]; rfl, fun j hj => ?_⟩
    rw [g j xs[j] hj (List.getElem?_eq_getElem (by omega))]
    simp
  show (if xs.length > 8 then V.int (-1) else match xs.findIdx? (fun y => !sgV y) with
    | some k => V.int (k : Int)
    | none => if (xs.map slen).sum > 2000 then V.str (Str.ofString "long") else V.non) = _
  rw [if_neg h, e]
theorem good_none {xs : List V} (g : ∀ c ∈ xs, sgV c = true) : xs.findIdx? (fun y => !sgV y) = none := by
  rw [List.findIdx?_eq_none_iff]
  intro c hc
  rw [g c hc]
  rfl
theorem bad3 {xs : List V} (h : ¬ xs.length > 8) (g : ∀ c ∈ xs, sgV c = true) (s : (xs.map slen).sum > 2000) : badOf (some xs) = .str (Str.ofString "long") := by
  show (if xs.length > 8 then V.int (-1) else match xs.findIdx? (fun y => !sgV y) with
    | some k => V.int (k : Int)
    | none => if (xs.map slen).sum > 2000 then V.str (Str.ofString "long") else V.non) = _
  rw [if_neg h, good_none g]
  exact if_pos s
theorem bad4 {xs : List V} (h : ¬ xs.length > 8) (g : ∀ c ∈ xs, sgV c = true) (s : ¬ (xs.map slen).sum > 2000) : badOf (some xs) = .non := by
  show (if xs.length > 8 then V.int (-1) else match xs.findIdx? (fun y => !sgV y) with
    | some k => V.int (k : Int)
    | none => if (xs.map slen).sum > 2000 then V.str (Str.ofString "long") else V.non) = _
  rw [if_neg h, good_none g]
  exact if_neg s
/-- what is right: at most eight texts of signs -/
theorem bad_non {o : Option (List V)} (h : badOf o = .non) : ∃ xs, o = some xs ∧ xs.length ≤ 8 ∧ (∀ c ∈ xs, sgV c = true) ∧ (xs.map slen).sum ≤ 2000 := by
  cases o with
  | none => cases h
  | some xs =>
    by_cases h1 : xs.length > 8
    · rw [bad1 h1] at h
      cases h
    · cases e : xs.findIdx? (fun y => !sgV y) with
      | some k =>
        have h' : (if xs.length > 8 then V.int (-1) else match xs.findIdx? (fun y => !sgV y) with
          | some k => V.int (k : Int)
          | none => if (xs.map slen).sum > 2000 then V.str (Str.ofString "long") else V.non) = V.non := h
        rw [if_neg h1, e] at h'
        cases h'
      | none =>
        have g : ∀ c ∈ xs, sgV c = true := fun c hc => by
          have := List.findIdx?_eq_none_iff.mp e c hc
          simpa using this
        refine ⟨xs, rfl, by omega, g, ?_⟩
        by_cases s : (xs.map slen).sum > 2000
        · rw [bad3 h1 g s] at h
          cases h
        · omega
theorem sg_str {y : V} (h : sgV y = true) : ∃ z, y = .str z := by
  cases y with
  | str z => exact ⟨z, rfl⟩
  | non => cases h
  | bl b => cases h
  | int i => cases h
  | byt b => cases h
  | flt b => cases h
  | ref a => cases h
  | ty n => cases h
theorem bad_strs {xs : List V} (g : ∀ c ∈ xs, sgV c = true) : ∃ ts : List Str, xs = ts.map V.str ∧ ∀ t ∈ ts, sgB t = true := by
  induction xs with
  | nil => exact ⟨[], rfl, fun t h => absurd h (by simp)⟩
  | cons y xs ih =>
    obtain ⟨z, rfl⟩ := sg_str (g y (by simp))
    obtain ⟨ts, rfl, h⟩ := ih fun c hc => g c (List.mem_cons_of_mem _ hc)
    refine ⟨z :: ts, rfl, fun t ht => ?_⟩
    rcases List.mem_cons.mp ht with e | e
    · rw [e]
      exact g (.str z) (by simp)
    · exact h t e
theorem sum_cast (ns : List Nat) : (ns.map fun n : Nat => (n : Int)).sum = ((ns.sum : Nat) : Int) := by
  induction ns with
  | nil => rfl
  | cons n ns ih =>
    rw [List.map_cons, List.sum_cons, List.sum_cons, ih]
    simp
/-- the lengths of the texts of a tuple -/
theorem lc_lens {K : PySem.W.Frag} {a : Addr} {ts : List Str} {i : Nat} {σ : L2.St} {H1 : Hp} {D : Addr} {Qd : Hp → Prop} (hi : i < σ.length) (ha : H1 a = some (.tup (ts.map V.str))) (nD : H1 D = none) (hlen : ∀ t ∈ ts, t.length ≤ 5000) (hn : ts.length ≤ 1000)
    (hd : ∀ H, H D = some (.lst ((ts.map fun t => (t.length : Int)).map V.int)) → Same H1 H → Qd H) :
    ∃ W : Nat → Nat → Hp → Prop, (∃ m, W 0 m (upd H1 D (.lst []))) ∧ ∀ j m H, W j m H →
      ((Itt K a).stop j H ∧ Qd H) ∨ ((Itt K a).go j H ∧ ∃ Nx : Hp → Prop, (∀ H', Nx H' → ∃ m', m' < m ∧ W (j + 1) m' H') ∧ ∀ x H', (Itt K a).yld j H x H' → gName i x (wipe σ [i]) H' fun σ2 H2 => wipe σ2 [i] = wipe σ [i] ∧ tYes σ2 H2 fun b H3 =>
        if b = true then tCB rLenZ (tCons (tVar i) tNil) σ2 H3 fun y H4 => ∃ acc, H4 D = some (.lst acc) ∧ acc.length < sizeLine ∧ Nx (upd H4 D (.lst (acc ++ [y]))) else Nx H3) := by
  have sAt : ∀ {H' : Hp} {o : HO}, Same H1 H' → Same H1 (upd H' D o) := fun {H' o} k b u e => by
    rw [upd_ne (ne_of_none e nD)]
    exact k b u e
  refine lc_tup (K := K) (xs := ts.map V.str) (fun j H => H D = some (.lst (((ts.take j).map fun t => (t.length : Int)).map V.int)) ∧ Same H1 H) ⟨upd_same, sAt (Same.refl _)⟩ (fun j H _ p => SqT.of (p.2 _ _ ha)) (fun j x H hx p => ?_) (fun H p => ?_)
  · rw [List.getElem?_map] at hx
    cases e : ts[j]? with
    | none => rw [e] at hx; cases hx
    | some t =>
      rw [e] at hx
      obtain rfl : V.str t = x := Option.some.inj hx
      have hm := List.mem_of_getElem? e
      obtain ⟨hD, hs⟩ := p
      have hw : ((wipe σ [i]).set i (some (V.str t)))[i]? = some (some (V.str t)) := by
        rw [List.getElem?_set_self]
        show i < (σ.set i none).length
        rw [List.length_set]
        exact hi
      refine ⟨?_, .str t, hw, t, rfl, len5 (hlen t hm), _, hD, ?_, ?_, sAt hs⟩
      · show ((σ.set i none).set i (some (V.str t))).set i none = σ.set i none
        rw [List.set_set, List.set_set]
      · have h3 : sizeLine = 16777216 := sizeLine_eq
        rw [List.length_map, List.length_map, List.length_take]
        omega
      · rw [upd_same]
        have et : ts.take (j + 1) = ts.take j ++ [t] := by
          rw [List.take_add_one, e]
          rfl
        rw [et, List.map_append, List.map_append]
        rfl
  · obtain ⟨hD, hs⟩ := p
    rw [List.length_map, List.take_length] at hD
    exact hd H hD hs
theorem lens_sum (ts : List Str) : (ts.map fun t => (t.length : Int)).sum = ((((ts.map V.str).map slen).sum : Nat) : Int) := by
  rw [List.map_map, ← sum_cast, List.map_map]
  rfl
end Ev
set_option maxHeartbeats 4000000
namespace Ev
open PySem PySem.Spec PyProof.Rows L2
theorem joinL1 : ∀ cs : List Nat, TL.joinL [] (cs.map fun c => [c]) = cs
  | [] => rfl
  | [c] => rfl
  | c :: d :: r => by
    have e := joinL1 (d :: r)
    show [c] ++ ([] ++ TL.joinL [] ((d :: r).map fun c => [c])) = c :: d :: r
    rw [e]
    rfl
theorem join1 (cs : List Nat) : Txt.join (Str.ofString "") (cs.map fun c => SX.S [c]) = SX.S cs := by
  have e := SX.join_S [] (cs.map fun c => [c])
  rw [List.map_map, joinL1] at e
  exact e
theorem sgB_S (cs : List Nat) : sgB (SX.S cs) = cs.all sgC := rfl
theorem S_eta (z : Str) : SX.S z.cps.toList = z := SX.S_tl z
theorem len_S (z : Str) : z.length = z.cps.toList.length := by simp [Str.length]
theorem sgB_mem {z : Str} (h : sgB z = true) {c : Nat} (hc : c ∈ z.cps.toList) : sgC c = true := List.all_eq_true.mp h c hc
theorem sgB_of_mem {z : Str} (h : ∀ c ∈ z.cps.toList, sgC c = true) : sgB z = true := List.all_eq_true.mpr h
theorem sgB_cut {z : Str} (h : sgB z = true) (lo hi : Option Int) : sgB (cutS z lo hi) = true := by
  refine sgB_of_mem fun c hc => sgB_mem h ?_
  have hc' : c ∈ (z.cps.toList.drop (HT.sIx z.length 0 lo)).take (HT.sIx z.length z.length hi - HT.sIx z.length 0 lo) := by
    simpa [cutS] using hc
  exact List.mem_of_mem_drop (List.mem_of_mem_take hc')
theorem cut_len {z : Str} (lo hi : Option Int) : (cutS z lo hi).length ≤ z.length := by
  rw [len_S, len_S]
  have e : (cutS z lo hi).cps.toList = (z.cps.toList.drop (HT.sIx z.length 0 lo)).take (HT.sIx z.length z.length hi - HT.sIx z.length 0 lo) := by simp [cutS]
  rw [e, List.length_take, List.length_drop]
  omega
theorem cut_len2 {z : Str} (lo hi : Option Int) : (cutS z lo hi).length ≤ HT.sIx z.length z.length hi - HT.sIx z.length 0 lo := by
  rw [len_S]
  have e : (cutS z lo hi).cps.toList = (z.cps.toList.drop (HT.sIx z.length 0 lo)).take (HT.sIx z.length z.length hi - HT.sIx z.length 0 lo) := by simp [cutS]
  rw [e, List.length_take]
  omega
theorem sgB_app {a b : Str} (h1 : sgB a = true) (h2 : sgB b = true) : sgB (a ++ b) = true := by
  refine sgB_of_mem fun c hc => ?_
  have e : (a ++ b).cps.toList = a.cps.toList ++ b.cps.toList := TL.tl_append a b
  rw [e] at hc
  rcases List.mem_append.mp hc with h | h
  · exact sgB_mem h1 h
  · exact sgB_mem h2 h
theorem app_len (a b : Str) : (a ++ b).length = a.length + b.length := by
  have e : (a ++ b).cps.toList = a.cps.toList ++ b.cps.toList := TL.tl_append a b
  rw [len_S, e, List.length_append, ← len_S, ← len_S]
theorem rep_all (x : Array Nat) : ∀ (n : Nat) (acc : Array Nat), ((List.replicate n x).foldl (· ++ ·) acc).size = acc.size + n * x.size ∧ ∀ c ∈ ((List.replicate n x).foldl (· ++ ·) acc).toList, c ∈ acc.toList ∨ c ∈ x.toList
  | 0, acc => ⟨by simp, fun c h => .inl h⟩
  | n + 1, acc => by
    obtain ⟨h1, h2⟩ := rep_all x n (acc ++ x)
    rw [List.replicate_succ, List.foldl_cons]
    refine ⟨by rw [h1, Array.size_append, Nat.succ_mul]; omega, fun c hc => ?_⟩
    rcases h2 c hc with h | h
    · rw [Array.toList_append] at h
      exact List.mem_append.mp h
    · exact .inr h
theorem mul_facts (z : Str) (n : Int) : (Txt.mul z n).length ≤ z.length * n.toNat ∧ (sgB z = true → sgB (Txt.mul z n) = true) := by
  unfold Txt.mul
  by_cases h1 : n < 1
  · rw [if_pos h1]
    exact ⟨Nat.zero_le _, fun _ => rfl⟩
  · rw [if_neg h1]
    by_cases h2 : (n == 1 || z.length == 0) = true
    · rw [if_pos h2]
      exact ⟨Nat.le_mul_of_pos_right _ (by omega), fun h => h⟩
    · rw [if_neg h2]
      obtain ⟨r1, r2⟩ := rep_all z.cps n.toNat #[]
      refine ⟨?_, fun h => sgB_of_mem fun c hc => ?_⟩
      · show Array.size _ ≤ _
        rw [r1, Nat.mul_comm]
        show 0 + _ ≤ _
        rw [Nat.zero_add]
        exact Nat.le_refl _
      · rcases r2 c hc with q | q
        · cases q
        · exact sgB_mem h q
theorem cut_hi {z : Str} {lo : Option Int} {u : Int} (h : 0 ≤ u) : ((cutS z lo (some u)).length : Int) ≤ u := by
  have e := cut_len2 (z := z) lo (some u)
  have e2 : HT.sIx z.length z.length (some u) ≤ u.toNat := by
    show (if u < 0 then (u + (z.length : Int)).toNat else min u.toNat z.length) ≤ u.toNat
    rw [if_neg (by omega)]
    exact Nat.min_le_left _ _
  omega
theorem cut_lohi {z : Str} {b e : Int} (h : 0 ≤ b) (h2 : b ≤ e) : ((cutS z (some b) (some e)).length : Int) ≤ e - b := by
  have q := cut_len2 (z := z) (some b) (some e)
  have e1 : HT.sIx z.length z.length (some e) = min e.toNat z.length := by
    show (if e < 0 then (e + (z.length : Int)).toNat else min e.toNat z.length) = _
    rw [if_neg (by omega)]
  have e2 : HT.sIx z.length 0 (some b) = min b.toNat z.length := by
    show (if b < 0 then (b + (z.length : Int)).toNat else min b.toNat z.length) = _
    rw [if_neg (by omega)]
  rw [e1, e2] at q
  omega
end Ev
set_option maxHeartbeats 4000000
/-! Tuples put together and cut, the heap only growing. -/
namespace Ev
open PySem PySem.Spec PyProof.Rows L2
def rCatM : R2 := fun x y H Q => ∃ a b xs ys, x = .ref a ∧ y = .ref b ∧ H a = some (.tup xs) ∧ H b = some (.tup ys) ∧ xs.length + ys.length ≤ 1000 ∧ ∀ p H', Same H H' → H' p = some (.tup (xs ++ ys)) → Q (.ref p) H'
theorem sameNew {H : Hp} {q : Addr} {o : HO} (h : H q = none) : Same H (upd H q o) := fun b u e => by
  rw [upd_ne (ne_of_none e h)]
  exact e
theorem op_catM {X : Cx} : OpR X (binaryOp .Add) rCatM := fun pins s σ H x y v u Q I rx ry h =>
  op_catA pins s σ H x y v u Q I rx ry (by
    obtain ⟨a, b, xs, ys, ex, ey, ha, hb, hz, q⟩ := h
    refine ⟨a, b, xs, ys, ex, ey, SqT.of ha, SqT.of hb, ?_, fun e => ?_, fun _ e => ?_, fun _ _ p np => ?_⟩
    · have h3 : sizeLine = 16777216 := sizeLine_eq
      omega
    · refine q b H (Same.refl H) ?_
      rw [e, List.nil_append]
      exact hb
    · refine q a H (Same.refl H) ?_
      rw [e, List.append_nil]
      exact ha
    · exact q p _ (sameNew np) upd_same)
def rSlM : V → Option Int → Option Int → Hp → VK → Prop := fun x lo hi H Q => ∃ a xs, x = .ref a ∧ H a = some (.tup xs) ∧ ∀ p H', Same H H' → H' p = some (.tup (cutV xs lo hi)) → Q (.ref p) H'
theorem sl_tupM {X : Cx} : SlR X rSlM := fun pins s σ H x v vl vu lo hi sl Q I rx hs pl pu h =>
  sl_tupA pins s σ H x v vl vu lo hi sl Q I rx hs pl pu (by
    obtain ⟨a, xs, ex, ha, q⟩ := h
    refine ⟨a, xs, ex, SqT.of ha, fun e => ?_, fun _ p np => q p _ (sameNew np) upd_same⟩
    refine q a H (Same.refl H) ?_
    have ec : cutV xs lo hi = xs := by
      unfold cutV
      rw [e.1, e.2, List.drop_zero, Nat.sub_zero, List.take_length]
    rw [ec]
    exact ha)
theorem cutV_mem {xs : List V} {lo hi : Option Int} {y : V} (h : y ∈ cutV xs lo hi) : y ∈ xs := List.mem_of_mem_drop (List.mem_of_mem_take h)
/-- the place that is one -/
theorem place_true {ts : List Str} {o : Option (List V)} (h : placeV ts o = true) : ∃ (i j : Int), o = some [.int i, .int j] ∧ 0 ≤ i ∧ i < ts.length ∧ 0 ≤ j ∧ j < ((ts.getD i.toNat Str.empty).length : Int) := by
  unfold placeV at h
  split at h
  · rename_i x y
    obtain ⟨h1, h2⟩ := Bool.and_eq_true_iff.mp h
    cases x with
    | int i =>
      obtain ⟨a1, a2⟩ := Bool.and_eq_true_iff.mp (show (decide (0 ≤ i) && decide (i ≤ (ts.length : Int) - 1)) = true from h1)
      have a1 := of_decide_eq_true a1
      have a2 := of_decide_eq_true a2
      cases y with
      | int j =>
        obtain ⟨b1, b2⟩ := Bool.and_eq_true_iff.mp (show (decide (0 ≤ j) && decide (j ≤ ((ts.getD i.toNat Str.empty).length : Int) - 1)) = true from h2)
        have b1 := of_decide_eq_true b1
        have b2 := of_decide_eq_true b2
        exact ⟨i, j, rfl, a1, by omega, b1, by omega⟩
      | non => cases h2
      | bl b => cases h2
      | str b => cases h2
      | byt b => cases h2
      | flt b => cases h2
      | ref b => cases h2
      | ty b => cases h2
    | non => cases h1
    | bl b => cases h1
    | str b => cases h1
    | byt b => cases h1
    | flt b => cases h1
    | ref b => cases h1
    | ty b => cases h1
  · cases h
theorem text_at {ts : List Str} {i : Int} (h0 : 0 ≤ i) (h1 : i < ts.length) : atI (ts.map V.str) i = some (.str (ts.getD i.toNat Str.empty)) ∧ ts.getD i.toNat Str.empty ∈ ts := by
  have hi : i.toNat < ts.length := by omega
  constructor
  · have e1 : i = ((i.toNat : Nat) : Int) := by omega
    rw [e1]
    refine atI_nat ?_
    rw [List.getElem?_map, List.getD_eq_getElem?_getD, Int.toNat_natCast, List.getElem?_eq_getElem hi]
    rfl
  · rw [List.getD_eq_getElem?_getD, List.getElem?_eq_getElem hi]
    exact List.getElem_mem hi
end Ev
set_option maxHeartbeats 4000000
namespace Ev
open PySem PySem.Spec PyProof.Rows L2
/-- x is True, x is False, x any value of a kind -/
def rIsT : R2 := fun x y H Q => ∃ (b : Bool) (k : Kn), y = .bl b ∧ Kd H x k ∧ Q (.bl (decide (x = .bl b))) H
theorem op_isT {X : Cx} : OpR X (compareOp .Is) rIsT := by
  intro pins s σ H x y v u Q I rx ry h
  obtain ⟨b, k, rfl, hk, q⟩ := h
  cases (show u = Value.bool b from ry)
  cases hk with
  | bl a =>
    refine op_isBl pins s σ H _ (.bl b) v _ Q I rx rfl ⟨a, b, rfl, rfl, ?_⟩
    have e : decide (V.bl a = V.bl b) = decide (a = b) := by
      by_cases z : a = b
      · subst z
        simp
      · rw [decide_eq_false z, decide_eq_false fun w => z (V.bl.inj w)]
    rw [e] at q
    exact q
  | non =>
    cases rx
    exact wpAny_is_other rfl (fun z => by cases z) ⟨.bl false, H, I, rfl, by simpa using q⟩
  | int i =>
    obtain ⟨t, rfl⟩ := rx
    exact wpAny_is_other rfl (fun z => by cases z) ⟨.bl false, H, I, rfl, by simpa using q⟩
  | str i =>
    obtain ⟨t, rfl⟩ := rx
    exact wpAny_is_other rfl (fun z => by cases z) ⟨.bl false, H, I, rfl, by simpa using q⟩
  | lst e =>
    cases rx
    exact wpAny_is_other rfl (fun z => by cases z) ⟨.bl false, H, I, rfl, by simpa using q⟩
  | tup e =>
    cases rx
    exact wpAny_is_other rfl (fun z => by cases z) ⟨.bl false, H, I, rfl, by simpa using q⟩
  | dic e =>
    cases rx
    exact wpAny_is_other rfl (fun z => by cases z) ⟨.bl false, H, I, rfl, by simpa using q⟩
end Ev
set_option maxHeartbeats 4000000
namespace LawK
open PySem PySem.Spec PyProof.Rows L2 Ev
theorem HandL.same {H H' : Hp} {p l : Addr} (k : Same H H') (h : HandL H p l) : HandL H' p l := by
  obtain ⟨cells, s, n, h1, h2, h3⟩ := h
  exact ⟨cells, s, n, k _ _ h1, k _ _ h2, h3⟩
theorem But.and {p l : Addr} {H H1 H2 : Hp} (a : But p l H H1) (k : Same H1 H2) : But p l H H2 := fun b o n e => k b o (a b o n e)
theorem hand_ne {H : Hp} {p l' a : Addr} {o : HO} (h : HandL H p l') (e : H a = some o) (n : ∀ xs, o ≠ .lst xs) : a ≠ p ∧ a ≠ l' := by
  obtain ⟨cells, s, m, h1, h2, _⟩ := h
  refine ⟨fun z => ?_, fun z => ?_⟩
  · rw [z, h1] at e
    exact n _ (Option.some.inj e).symm
  · rw [z, h2] at e
    exact n _ (Option.some.inj e).symm
structure Hn (p l : Addr) (H H' : Hp) : Prop where
  at_ : HandL H' p l
  but : But p l H H'
theorem HandL.ne {H : Hp} {p l q : Addr} (h : HandL H p l) (n : H q = none) : q ≠ p ∧ q ≠ l := by
  obtain ⟨cells, s, m, h1, h2, _⟩ := h
  exact ⟨fun z => (by rw [z, h1] at n; cases n), fun z => (by rw [z, h2] at n; cases n)⟩
theorem Hn.new {p l q : Addr} {H H' : Hp} {o : HO} (h : Hn p l H H') (n : H' q = none) : Hn p l H (upd H' q o) := ⟨h.at_.same (Same.new n), h.but.and (Same.new n)⟩
theorem Hn.trans {p l : Addr} {H H1 H2 : Hp} (a : Hn p l H H1) (b : Hn p l H1 H2) : Hn p l H H2 := ⟨b.at_, a.but.trans b.but⟩
theorem Hn.refl {p l : Addr} {H : Hp} (h : HandL H p l) : Hn p l H H := ⟨h, But.refl p l H⟩
theorem Hn.go {p l : Addr} {H H1 H2 : Hp} (a : Hn p l H H1) (h : HandL H2 p l) (b : But p l H1 H2) : Hn p l H H2 := ⟨h, a.but.trans b⟩
theorem Hn.same {p l : Addr} {H H1 H2 : Hp} (a : Hn p l H H1) (k : Same H1 H2) : Hn p l H H2 := ⟨a.at_.same k, a.but.and k⟩
/-- an object that is new since H, at q, changes -/
theorem Hn.at {p l q : Addr} {H H' : Hp} {o : HO} (h : Hn p l H H') (h0 : HandL H p l) (n : H q = none) : Hn p l H (upd H' q o) := by
  obtain ⟨n1, n2⟩ := h0.ne n
  refine ⟨?_, fun b u nb e => ?_⟩
  · obtain ⟨cells, s, m, h1, h2, h3⟩ := h.at_
    exact ⟨cells, s, m, by rw [upd_ne (Ne.symm n1)]; exact h1, by rw [upd_ne (Ne.symm n2)]; exact h2, h3⟩
  · rw [upd_ne (ne_of_none e n)]
    exact h.but b u nb e
structure Dk (P : Program) (w : World) (K : PySem.W.Frag) (mg : Str → Option Value) (base : Heap) (x : Str) (st : Stmt) (ps : List Str) (k : Nat) (sp : Sp) (f : Addr) (fd : FuncData) : Prop where
  F : Fun K x x st f fd
  b : Binds K fd ps []
  g : mg x = some (.ref f)
  ok : FnOk P w K mg base CX0 k f fd ps sp
theorem len6 {z : Str} {n : Nat} (h : z.length ≤ n) (hn : n ≤ 5000 := by decide) : z.length ≤ sizeLine := len5 (Nat.le_trans h hn)
theorem sg_at {z : Str} {v : Int} (hz : sgB z = true) (h0 : 0 ≤ v) (h1 : v < (z.length : Int)) : ∃ c, atI z.cps.toList v = some c ∧ sgC c = true := by
  obtain ⟨c, e, hm⟩ := atI_in (xs := z.cps.toList) h0 (by rw [← len_S]; exact h1)
  exact ⟨c, e, sgB_mem hz hm⟩
theorem str_ok {ts : List Str} (hts : ∀ t ∈ ts, t.length ≤ 5000) {H : Hp} {y : V} (h : y ∈ ts.map V.str) : (∃ k, Kd H y k) ∧ Vs y := by
  obtain ⟨z, hz, rfl⟩ := List.mem_map.mp h
  refine ⟨⟨_, .str z⟩, fun w e => ?_⟩
  cases e
  exact hts z hz
theorem lit_ok {z : Str} (h : z.length ≤ 5000) {H : Hp} : (∃ k, Kd H (.str z) k) ∧ Vs (.str z) := ⟨⟨_, .str z⟩, fun w e => by
  cases e
  exact h⟩
theorem int_ok {i : Int} {H : Hp} : (∃ k, Kd H (.int i) k) ∧ Vs (.int i) := ⟨⟨_, .int i⟩, fun w e => by cases e⟩
theorem tup_ne {H : Hp} {p l a : Addr} {xs : List V} (h : HandL H p l) (e : H a = some (.tup xs)) : a ≠ p ∧ a ≠ l := hand_ne h e fun _ z => by cases z
theorem Kd.but {H H' : Hp} {p l : Addr} {x : V} {k : Kn} (h : Kd H x k) (h0 : HandL H p l) (h1 : HandL H' p l) (b : But p l H H') : Kd H' x k := by
  cases h with
  | non => exact .non
  | bl b => exact .bl b
  | int i => exact .int i
  | str z => exact .str z
  | @lst a xs e =>
    obtain ⟨cells, s, m, h2, h3, _⟩ := h1
    by_cases z : a = p
    · rw [z]
      exact .lst h2
    · by_cases z2 : a = l
      · rw [z2]
        exact .lst h3
      · exact .lst (b _ _ ⟨z, z2⟩ e)
  | tup e => exact .tup (b _ _ (tup_ne h0 e) e)
  | dic e => exact .dic (b _ _ (hand_ne h0 e fun _ z => by cases z) e)
theorem Tg.but {H H' : Hp} {p l : Addr} {x : V} {o : Option (List V)} (h : Tg H x o) (h0 : HandL H p l) (h1 : HandL H' p l) (b : But p l H H') : Tg H' x o := by
  cases h with
  | no h n s => exact .no (Kd.but h h0 h1 b) n s
  | tup e n h => exact .tup (b _ _ (tup_ne h0 e) e) n fun y hy => ⟨let ⟨k, q⟩ := (h y hy).1; ⟨k, Kd.but q h0 h1 b⟩, (h y hy).2⟩
/-- what a thing's texts may be -/
inductive All2 {α β : Type} (R : α → β → Prop) : List α → List β → Prop
  | nil : All2 R [] []
  | cons {x : α} {y : β} {xs : List α} {ys : List β} (h : R x y) (t : All2 R xs ys) : All2 R (x :: xs) (y :: ys)
theorem All2.imp {α β : Type} {R S : α → β → Prop} {xs : List α} {ys : List β} (f : ∀ x y, R x y → S x y) (h : All2 R xs ys) : All2 S xs ys := by
  induction h with
  | nil => exact .nil
  | cons h _ ih => exact .cons (f _ _ h) ih
theorem All2.len {α β : Type} {R : α → β → Prop} {xs : List α} {ys : List β} (h : All2 R xs ys) : xs.length = ys.length := by
  induction h with
  | nil => rfl
  | cons _ _ ih => exact congrArg (· + 1) ih
theorem All2.at {α β : Type} {R : α → β → Prop} {xs : List α} {ys : List β} (h : All2 R xs ys) : ∀ {i : Nat} {x : α}, xs[i]? = some x → ∃ y, ys[i]? = some y ∧ R x y := by
  induction h with
  | nil => intro i x e; simp at e
  | cons r _ ih =>
    intro i x e
    cases i with
    | zero => cases e; exact ⟨_, rfl, r⟩
    | succ i => exact ih e
theorem All2.snoc {α β : Type} {R : α → β → Prop} {xs : List α} {ys : List β} {x : α} {y : β} (h : All2 R xs ys) (r : R x y) : All2 R (xs ++ [x]) (ys ++ [y]) := by
  induction h with
  | nil => exact .cons r .nil
  | cons r1 _ ih => exact .cons r1 ih
theorem sne {a b : Str} (h : a ≠ b) {A B : Prop} (k : B) : if decide (V.str a = V.str b) = true then A else B := by
  rw [decide_eq_false (fun z => h (V.str.inj z))]
  exact iteF k
theorem seq {a : Str} {A B : Prop} (k : A) : if decide (V.str a = V.str a) = true then A else B := by
  rw [decide_eq_true rfl]
  exact iteT k
end LawK
set_option maxHeartbeats 8000000
/-! enumerate over a tuple, as a walk. -/
namespace Ev
open PySem PySem.Spec PyProof.Rows L2
abbrev enObj (it : Addr) : Obj := { cls := .type "enumerate", data := .fields #[.none, .bool false, .ref it, rawInt 0, .none, .none] }
theorem enum_new1 {v : Value} {o : Obj} {Hh : Heap → Prop} (B : Begins v o Hh) :
    Meets (Builtin.«enumerate.__new__» ⟨[.type "enumerate", v], []⟩)
      (fun _ R s => Hh s.heap ∧ R (.ok (.ret (.ref (s.heap.push o).objs.size))) { s with heap := (s.heap.push o).push (enObj s.heap.objs.size) }) := by
  refine .of_wp fun prog w A R s hh => ?_
  obtain ⟨hp, g, d, tk, os⟩ := s
  obtain ⟨hv, hR⟩ := hh
  have hs := sub_enumerate
  have qi : ∀ {B' : Around} {E : Value → Shared → Prop} {Q : Value → Shared → Prop}, Q (.ref hp.objs.size) ⟨hp.push o, g, d, tk, os⟩ →
      wpAny (model prog w) B' (pyIter v) Q E ⟨hp, g, d, tk, os⟩ := fun q => B.iter prog w _ _ ⟨hp, g, d, tk, os⟩ _ hv q
  wp_walk using qi
  apply wpAny_stack_any
  intro st
  apply wpAny_pure
  split
  · rename_i c _ _ _ _ _
    cases (c == Value.type "enumerate") <;> (wp_walk using qi; exact ⟨_, rfl, hR⟩)
  · wp_walk using qi
    exact ⟨_, rfl, hR⟩
theorem enum_call {prog : Program} {w : World} {A : Around} {E : Value → Shared → Prop} {s : Shared} {v : Value} {o : Obj} {Hh : Heap → Prop} {Q : Value → Shared → Prop} (B : Begins v o Hh) (hv : Hh s.heap)
    (h : ∀ h', IsEnum h' (s.heap.objs.size + 1) s.heap.objs.size 0 .none → h'.get? s.heap.objs.size = some o → (∀ b u, s.heap.get? b = some u → h'.get? b = some u) →
      Q (.ref (s.heap.objs.size + 1)) { s with heap := h' }) : wpAny (model prog w) A (call (.type "enumerate") [v]) Q E s := by
  have m := enum_new1 B
  refine callType_new F.called_enumerate (by decide) (F.typeCall_enumerate_1 _) (F.newCall_enumerate_1 _) (fun obj => F.args_object_init_2 obj _) F.entry_enumerate_new m ⟨hv, ?_⟩
  have hsz : (s.heap.push o).objs.size = s.heap.objs.size + 1 := Heap.size_push ..
  show _ ∧ _
  rw [hsz]
  have hat : ((s.heap.push o).push (enObj s.heap.objs.size)).get? (s.heap.objs.size + 1) = some (enObj s.heap.objs.size) := by
    have z := Heap.get?_push_size (s.heap.push o) (o := enObj s.heap.objs.size) rfl
    rw [hsz] at z
    exact z
  exact ⟨⟨_, hat, rfl⟩, h _ hat (Heap.get?_push_of_some _ (Heap.get?_push_size _ B.free)) fun b u x => Heap.get?_push_of_some _ (Heap.get?_push_of_some _ x)⟩
/-- the tuple at a as it stands at each turn, each item in a new pair -/
def Iten (K : PySem.W.Frag) (a : Addr) : It :=
  ⟨fun i H => ∃ (xs : List V) (x : V), SqT K H a xs ∧ xs[i]? = some x,
   fun i H v H' => ∃ T x, v = .ref T ∧ H T = none ∧ H' = upd H T (.tup [.int (i : Nat), x]) ∧ ∀ xs, SqT K H a xs → xs[i]? = some x,
   fun i H => ∃ xs : List V, SqT K H a xs ∧ xs.length ≤ i⟩
theorem turn_en {P : Program} {w : World} {K : PySem.W.Frag} {elts : List Expr} {kk : Nat} {tpos : Pos} (a e it : Addr) :
    Turn P w K (.Tuple elts kk tpos) (Iten K a) [e, it] e (fun i h => (∃ old, IsEnum h e it ((i : Nat) : Int) old) ∧ h.IsTupleIter it a i ∧ e ≠ it ∧ a ≠ it ∧ a ≠ e) where
  mem := List.mem_cons_self
  obj := by
    rintro i h ⟨⟨old, he⟩, ⟨o, ho, hc, hd⟩, _⟩ b hb
    rcases List.mem_cons.mp hb with rfl | hb
    · exact ⟨_, he, fun v q => by cases q⟩
    · obtain rfl := List.mem_singleton.mp hb
      exact ⟨o, ho, fun v q => by rw [hd] at q; cases q⟩
  keep := by
    rintro i h h' ⟨⟨old, he⟩, hi, hn⟩ k
    exact ⟨⟨old, k e (by simp) _ he⟩, hi.at fun o q => k it (by simp) o q, hn⟩
  item := by
    intro X hP hw hK hc i pins s σ H E I hf st hg
    subst hP hw hK
    obtain ⟨⟨old, he⟩, hit, hne, hai, hae⟩ := st
    obtain ⟨xs, x, hq, hx⟩ := hg
    obtain ⟨its, rv, p, hz⟩ := I.tuple hq
    obtain ⟨u, hu, ru⟩ := rv.get hx
    have hel : e < s.heap.objs.size := Heap.lt_size he
    have hil : it < s.heap.objs.size := by
      obtain ⟨_, q, _⟩ := hit
      exact Heap.lt_size q
    have hlt : i < its.toArray.size := by
      rw [List.size_toArray]
      exact (List.getElem?_eq_some_iff.mp hu).1
    have D := Draws.tuple (prog := X.prog) (w := X.w) (A := X.A.in1) (I.ok.hd hc) it a hai its.toArray
    refine wpAny_pyNext_enum_itemD D he ⟨hit, (show s.heap.IsTuple a its.toArray from p)⟩ hlt hne (by simp [hne, Ne.symm hae]) fun y h' tk hy ho hst hT hsz hk => ?_
    have ey : y = u := by
      have z : its.toArray[i]? = some y := hy
      rw [List.getElem?_toArray, hu] at z
      exact (Option.some.inj z).symm
    subst ey
    refine ⟨_, rfl, ?_⟩
    refine wpAny_letOwnedTupleGo_enum (s := ⟨h', s.gens, s.drawn, tk + 1, s.os⟩) ho ?_
    intro h2 he2 sb
    have at2 : h2.get? s.heap.objs.size = some { cls := .type "tuple", data := .seq #[.int i tk, y] } := by
      rw [sb.2 _ (Nat.ne_of_gt hel)]
      exact hT
    have cell : ObjOk X.prog X.w (upd H s.heap.objs.size (.tup [.int (i : Nat), x])) h2 s.heap.objs.size (.tup [.int (i : Nat), x]) := by
      refine ⟨by show 2 ≤ sizeLine; decide, [.int i tk, y], .cons ⟨_, rfl⟩ (.cons ru .nil), ⟨_, at2, rfl, _, rfl⟩⟩
    have far : ∀ b ob, b ∉ [e, it] → s.heap.get? b = some ob → h2.get? b = some ob := fun b ob hb q => by
      have n1 : b ≠ e := fun z => hb (by simp [z])
      have n2 : b ≠ it := fun z => hb (by simp [z])
      rw [sb.2 b n1]
      exact hk b ob n1 n2 q
    have J := I.turnedNew (ch := [e, it]) (t' := tk + 1) far hf (Nat.le_refl _) cell
    refine ⟨.ref s.heap.objs.size, _, J, rfl, ⟨_, x, rfl, I.hok.fresh (Nat.le_refl _), rfl, fun ys hy => by rw [I.tuple_inj hy hq]; exact hx⟩, ⟨⟨y, ?_⟩, ?_, hne, hai, hae⟩, fun b hb => ?_⟩
    · have e1 : ((i + 1 : Nat) : Int) = (i : Int) + 1 := by omega
      rw [e1]
      exact he2
    · exact hst.1.at fun o q => by
        rw [sb.2 it (Ne.symm hne)]
        exact q
    · have lt : b < s.heap.objs.size := by
        rcases List.mem_cons.mp hb with rfl | hb
        · exact hel
        · obtain rfl := List.mem_singleton.mp hb
          exact hil
      rw [upd_ne (Nat.ne_of_lt lt)]
      exact (hf b hb).1
  done := by
    intro X hP hw hK hc i pins s σ H E I hf st hg
    subst hP hw hK
    obtain ⟨⟨old, he⟩, hit, hne, hai, hae⟩ := st
    obtain ⟨xs, hq, hx⟩ := hg
    obtain ⟨its, rv, p, hz⟩ := I.tuple hq
    obtain ⟨f0, f1, f2, f3, f4, f5⟩ := hf it (by simp)
    have hl := rv.length
    have none_i : its.toArray[i]? = none := by
      rw [List.getElem?_toArray, List.getElem?_eq_none_iff]
      omega
    have D : Draws X.prog X.w X.A.in1 it [it, a] i (fun j v => its.toArray[j]? = some v) (fun j h => (h.IsTupleIter it a j ∧ h.IsTuple a its.toArray) ∧ i ≤ j) :=
      { live := fun _ _ st => let ⟨o, ho, _⟩ := st.1.1; ⟨o, ho⟩
        frame := fun _ _ _ st hk => ⟨⟨st.1.1.at fun o e => hk it (by simp) o e, st.1.2.at fun o e => hk a (by simp) o e⟩, st.2⟩
        item := fun j _ _ _ hj st _ => absurd st.2 (by omega)
        done := fun s Q E st hE => wpAny_nextOf_tuple_end (I.ok.hd hc) st.1.1 st.1.2 none_i hE }
    refine wpAny_pyNext_enum_endD D he ⟨⟨hit, (show s.heap.IsTuple a its.toArray from p)⟩, Nat.le_refl _⟩ fun h' eb => ⟨rfl, ?_⟩
    exact I.turned (t' := s.toks) (fun b o hb q => eb b o hb q) f0 f1 f3 f4 f5
  self := fun A i s Q E st h => by
    obtain ⟨⟨_, he⟩, _⟩ := st
    exact wpAny_pyIter_enum he h
def iEnumT (K : PySem.W.Frag) (ta : TA) : TI := fun σ H R => ta σ H fun vs H1 => ∃ a xs, vs = [.ref a] ∧ SqT K H1 a xs ∧ R (Iten K a) H1
theorem pi_enumT {X : Cx} {e : Expr} {ta : TA} {p pos tpos : Pos} {elts : List Expr} {kk : Nat} (hg : Gl X "enumerate") (hm : X.mg "enumerate" = none) (ha : PA X [e] ta) (hs : starEach [e] X.env = [(false, eval e X.env)] := by rfl) :
    PI X (.Tuple elts kk tpos) (.Call (.Name "enumerate" p) [e] [] pos) (iEnumT X.K ta) := by
  constructor
  intro pins s σ H R I h
  refine Call_ (ld_blt I hg hm boot_enumerate (PyProof.Rows.callWith_type1 (thn (ha.run pos pins s σ H _ I h) ?_) hs rfl))
  rintro us s1 ⟨vs, H1, I1, r1, a, xs, rfl, hq, q⟩
  obtain ⟨u, rfl, ru⟩ := vals1 r1
  cases ru
  obtain ⟨its, rv, p', hz⟩ := I1.tuple hq
  have hal : a < s1.heap.objs.size := by
    obtain ⟨o, ho, _⟩ := p'
    exact Heap.lt_size ho
  refine enum_call (begins_tuple a its.toArray) (show s1.heap.IsTuple a its.toArray from p') fun h' he hit hk => wpAny_pyIter_enum he ?_
  have I2 : Inv X pins σ H1 { s1 with heap := h' } := I1.kept (t' := s1.toks) hk
  refine ⟨s1.heap.objs.size + 1, [s1.heap.objs.size + 1, s1.heap.objs.size], _, _, H1, rfl, I2, turn_en a (s1.heap.objs.size + 1) s1.heap.objs.size, ⟨⟨.none, he⟩, ⟨_, hit, rfl, rfl⟩, Nat.succ_ne_self _, Nat.ne_of_lt hal, Nat.ne_of_lt (Nat.lt_succ_of_lt hal)⟩, fun b hb => ?_, q⟩
  have hle : s1.heap.objs.size ≤ b := by
    rcases List.mem_cons.mp hb with rfl | hb
    · exact Nat.le_succ _
    · obtain rfl := List.mem_singleton.mp hb
      exact Nat.le_refl _
  exact I1.fpOk hle (I1.hok.fresh hle)
/-- for i, x in enumerate(t) -/
theorem for_enT {K : PySem.W.Frag} {a : Addr} {xs : List V} {g : TG} {tb : TS} {D : Ends} {σ : L2.St} {H : Hp} (Pv : Nat → L2.St → Hp → Prop) (h0 : Pv 0 σ H) (hl : ∀ i σ H, Pv i σ H → SqT K H a xs)
    (hs : ∀ (i : Nat) x σ H, xs[i]? = some x → Pv i σ H → ∀ T, H T = none → g (.ref T) σ (upd H T (.tup [.int (i : Nat), x])) fun σ2 H2 => tb { D with nx := Pv (i + 1), ct := Pv (i + 1), bk := D.nx } σ2 H2) (hd : ∀ σ H, Pv xs.length σ H → D.nx σ H) :
    ∃ W : Nat → Nat → L2.St → Hp → Prop, (∃ m, W 0 m σ H) ∧ ∀ i m σ H, W i m σ H →
      ((Iten K a).stop i H ∧ D.nx σ H) ∨ ((Iten K a).go i H ∧ ∃ N : L2.St → Hp → Prop, (∀ σ' H', N σ' H' → ∃ m', m' < m ∧ W (i + 1) m' σ' H') ∧ ∀ x H', (Iten K a).yld i H x H' → g x σ H' fun σ2 H2 => tb { D with nx := N, ct := N, bk := D.nx } σ2 H2) := by
  refine ⟨fun i m σ H => m = xs.length - i ∧ i ≤ xs.length ∧ Pv i σ H, ⟨xs.length, by simp, Nat.zero_le _, h0⟩, ?_⟩
  rintro i m σ H ⟨rfl, hi, p⟩
  have q := hl i σ H p
  by_cases hlt : i < xs.length
  · refine .inr ⟨⟨xs, xs[i], q, List.getElem?_eq_getElem hlt⟩, Pv (i + 1), fun σ' H' p' => ⟨xs.length - (i + 1), by omega, rfl, hlt, p'⟩, fun v H' y => ?_⟩
    obtain ⟨T, x, rfl, nT, rfl, hx⟩ := y
    exact hs i x σ H (hx xs q) p T nT
  · have e : i = xs.length := by omega
    subst e
    exact .inl ⟨⟨xs, q, Nat.le_refl _⟩, hd σ H p⟩
end Ev
set_option maxHeartbeats 4000000
/-! Own errors whose __init__ says super().__init__() and nothing else. -/
namespace Ev
open PySem PySem.W PySem.Calls PyProof.Rows L2

abbrev supArgs (p : Pos) : Arguments := { posonlyargs := [], args := [{ arg := "self", annotation := none, pos := p }], vararg := none, kwonlyargs := [], kw_defaults := [], kwarg := none, defaults := [] }
abbrev supBody (p0 p1 p2 p3 p4 : Pos) : List Stmt := [.Expr (.Call (.Attribute (.Call (.Name "super" p0) [] [] p1) "__init__" p2) [] [] p3) p4]

abbrev supScope : Scope := { kind := .function, names := [(PySem.Str.ofString "self", .local), (PySem.Str.ofString "__class__", .free), (PySem.Str.ofString "super", .globalImplicit)], isGenerator := false, isCoroutine := false, more := [] }
theorem sup_l1 : supScope.names.lookup ("self" : Str) = some .local := by decide +kernel
theorem sup_l2 : supScope.names.lookup ("super" : Str) = some .globalImplicit := by decide +kernel
theorem sup_l3 : supScope.names.lookup ("__class__" : Str) = some .free := by decide +kernel
/-- what the written part tells of such a class at C, whose __init__ stands at fI -/
structure SupC (P : Program) (K : Frag) (mg : Str → Option Value) (C fI : Addr) : Prop where
  oex : OexC K C
  ini : findIn K (.ref C) "__init__" = some (some (.ref fI))
  tyI : typeIn K (.ref fI) = some (.type "function")
  fn : ∃ (oc : Value) (od : Option Addr) (qual : Str) (kV doc pm ct : Value) (an : Option Addr) (cda cc : Addr) (osl : Array (Option Value)) (p p0 p1 p2 p3 p4 : Pos) (ccl : Value) (cdd : Option Addr) (vs : Array Value) (ccs : Array (Option Value)) (file : Str) (tf : Tok) (cl : Value) (cld : Option Addr) (csl : Array (Option Value)),
    K.lookup fI = some ⟨oc, od, .func (ksFn "__init__" qual (supArgs p) (supBody p0 p1 p2 p3 p4) supScope .none kV doc pm an (.ref cda) ct cc), osl⟩ ∧ codeIn K (.ref cda) qual = true ∧
    K.lookup cda = some ⟨ccl, cdd, .fields vs, ccs⟩ ∧ vs[2]? = some (.str file tf) ∧ ((P.main.file : Str) == file) = true ∧ K.lookup cc = some ⟨cl, cld, .cell (some (.ref C)), csl⟩ ∧
    (p2.endLine == p3.line) = true
  gs : mg "super" = none
  top : (P.main.scope.names.lookup ("super" : Str)).isSome = false
  third : nsIn K cStatics "thirdparty.any" = some none
  sup : ks_superIn K C C "__init__" = some (some (.builtin "ValueError.__init__"))
  ve : subIn K (.ref C) (.type "ValueError") = some true
  me : mroIn K C (.ref C) = some true

theorem sup_eval {env : Env} {p0 p1 p2 p3 : Pos} (h : (p2.endLine == p3.line) = true) : eval (.Call (.Attribute (.Call (.Name "super" p0) [] [] p1) "__init__" p2) [] [] p3) env = (do
      let ov ← attributeBase (.Call (.Name "super" p0) [] [] p1) "__init__" env (eval (.Call (.Name "super" p0) [] [] p1) env)
      standAt p2.atName
      let (f, first) ← holding [ov] (getMethod ov "__init__" (do return (← importBound (.Call (.Name "super" p0) [] [] p1) env).getD true))
      callWith p3 f first (backTo p3 (starEach [] env)) []) := by
  have e : methodCallPos true (.Call (.Name "super" p0) [] [] p1) env p2 p3 = pure p3 := by
    unfold methodCallPos
    rw [h]
    rfl
  show (do
    let ov ← attributeBase (.Call (.Name "super" p0) [] [] p1) "__init__" env (eval (.Call (.Name "super" p0) [] [] p1) env)
    standAt p2.atName
    let (f, first) ← holding [ov] (getMethod ov "__init__" (do return (← importBound (.Call (.Name "super" p0) [] [] p1) env).getD true))
    let callPos ← methodCallPos true (.Call (.Name "super" p0) [] [] p1) env p2 p3
    callWith callPos f first (backTo p3 (starEach [] env)) []) = _
  rw [e]
  rfl
theorem boot_super : bootBuiltins "super" = some (.type "super") := by first | boot_by_name | rfl | kernel_rfl

section
variable {P : Program} {w : World} {A : Around} {E : Value → Shared → Prop} {K : Frag} {mg mb : Str → Option Value} {C fI x t0 : Addr} {h : Heap} {g : Array GenState} {d : Drawn} {tk : Nat} {os : OsState}

/-- the wrapper that super().__init__ gives, called: the args are laid anew -/
theorem bound_init {u : Addr} {Q : Value → Shared → Prop} (T : OexC K C) (X : K.In h) (hu : h.get? u = some (kxs_mw "ValueError.__init__" x)) (hx : h.get? x = some (PySem.HandSPX.excO C t0))
    (hq : ∀ h' t1, (∀ b o, b ≠ x → h.get? b = some o → h'.get? b = some o) → h'.get? x = some (PySem.HandSPX.excO C t1) → Q .none ⟨h', g, d, tk, os⟩) :
    wpAny (model P w) A (call (.ref u) []) Q E ⟨h, g, d, tk, os⟩ := by
  obtain ⟨nm, q, N, bs, bm, sn, sub, ab, col, dd, k0, k1, k2, k3, k5, hC, hbm⟩ := T.cls
  refine wpAny_call (codeAny_of_tree ?_)
  show wpAny _ A.in1 (callAny (.ref u) ⟨[], []⟩) _ _ _
  simp only [callAny]
  refine wpAny_bind (wpAny_load hu ?_)
  simp only [kxs_mw, show (Value.type "method-wrapper" == Value.type "method" || Value.type "method-wrapper" == Value.type "builtin_function_or_method" || Value.type "method-wrapper" == Value.type "method-wrapper") = true by decide, if_true]
  refine KFB.if_so (by decide) ?_
  refine wpAny_bind (check_bound_init F.excBase_ValueError.toExcCallFacts (X _ _ hC) hx rfl ?_)
  refine wpAny_bind (wpAny_pure (wpAny_pure ?_))
  refine ⟨plainId_quiet F.excBase_ValueError.init.plain _, codeAny_builtin F.excBase_ValueError.initEntry ?_⟩
  exact exc_init_tree (cls := .ref C) (t0 := t0) (dv := none) (c2 := .none) (c3 := .none) (b4 := .bool false) hx (by rw [sizeLine_eq]; exact Nat.zero_le _) fun h' k e _ => hq h' h.objs.size k e

theorem sup_init {R : Result → Shared → Prop} {s : Shared} (T : SupC P K mg C fI) (hroom : A.depth < recursionLimit) (X : K.In s.heap) (hlim : s.heap.NoLimit) (G : s.heap.Ns mainGlobals mg) (B : s.heap.Ns builtinsNs mb)
    (hbb : ∀ y : Str, y ≠ "__name__" → mb y = bootBuiltins y) (hx : s.heap.get? x = some (PySem.HandSPX.excO C t0))
    (hq : ∀ h' t' t1, (∀ b o, b ≠ x → s.heap.get? b = some o → h'.get? b = some o) → h'.get? x = some (PySem.HandSPX.excO C t1) → R (.ok (.ret .none)) { s with heap := h', toks := t' }) :
    codeAny (model P w) A (.call (.ref fI) ⟨[.ref x], []⟩) R s := by
  obtain ⟨oc, od, qual, kV, doc, pm, ct, an, cda, cc, osl, p, p0, p1, p2, p3, p4, ccl, cdd, vs, ccs, file, tf, cl, cld, csl, ho, hcd, hcode, hvs, hfile, hcell, hline⟩ := T.fn
  refine ks_codeAny_call_defAt (fd := ksFn "__init__" qual (supArgs p) (supBody p0 p1 p2 p3 p4) supScope .none kV doc pm an (.ref cda) ct cc) (body := supBody p0 p1 p2 p3 p4) (binds := [("self", .ref x)]) hroom (X _ _ ho) rfl hlim (codeRec_of X hcd) rfl
    (BindsTo.of_eq rfl) (by show ∀ y ∈ supScope.names, y.2 ≠ .cell; decide) (fun y hy => ?_) (fun h₁ hns k₁ => ?_)
  · obtain rfl : y = (("self" : Str), Value.ref x) := List.mem_singleton.mp hy
    exact sup_l1
  obtain ⟨hp, g, d, tk, os⟩ := s
  have X₁ : K.In h₁ := X.keeps k₁
  have hx₁ : h₁.get? x = some (PySem.HandSPX.excO C t0) := k₁ _ _ hx
  have G₁ : h₁.Ns mainGlobals mg := G.keeps k₁
  have B₁ : h₁.Ns builtinsNs mb := B.keeps k₁
  obtain ⟨nm, q, N, bs, bm, sn, sub, ab, col, dd, q0, q1, q2, q3, q5, hC, hbm⟩ := T.oex.cls
  show _root_.PySem.wpAt _ _ _ (execs (supBody p0 p1 p2 p3 p4) (ksEnv qual supScope hp.objs.size fI (.ref cda) cc)) _ _ _
  refine ks_wpAt_execs_cons (ks_wpAt_Expr_any (ks_wpAt_MethodCall ?_ (sup_eval hline)))
  refine ks_wpAt_super_base (env := ksEnv qual supScope hp.objs.size fI (.ref cda) cc) sup_l2 sup_l3 (by decide) rfl (X₁ _ _ ho) rfl rfl rfl (X₁ _ _ hcode) rfl hvs hfile T.top ?_
  refine ks_loadName_global rfl sup_l2 (loadGlobal_builtin (env := ksEnv qual supScope hp.objs.size fI (.ref cda) cc) G₁ T.gs B₁ ((hbb _ (by decide +kernel)).trans boot_super) ⟨rfl, ?_⟩)
  refine wpAny_loadName_free rfl sup_l3 rfl ⟨_, X₁ _ _ hcell, rfl⟩ ?_
  refine wpAny_loadName_local rfl sup_l1 hns (v := .ref x) (by show List.lookup ("self" : Str) [(("self" : Str), Value.ref x)] = some (Value.ref x); simp [List.lookup]) ?_
  refine ks_wpAny_isType_cls (X₁ _ _ hC) rfl ⟨rfl, ?_⟩
  have I : InstAt h₁ x (PySem.HandSPX.excO C t0) C none := ⟨hx₁, rfl, rfl, trivial⟩
  refine ks_wpAny_call_super (X₁ _ _ hC) rfl I.at_ I.cls (fun c e => by cases e) (looks_mroIn X₁ T.me) (fun h' e k => ?_)
  have X₂ : K.In h' := X₁.keeps k
  have hx₂ : h'.get? x = some (PySem.HandSPX.excO C t0) := k _ _ hx₁
  have I₂ : InstAt h' x (PySem.HandSPX.excO C t0) C none := ⟨hx₂, rfl, rfl, trivial⟩
  have hsu := T.sup
  unfold ks_superIn at hsu
  have hcl : clsIn K C = some { name := nm, bases := bs, mro := .ref C :: bm, ns := N, qualname := q, hasDict := true, slotNames := sn, subclasses := sub, abstract := ab, collection := col, hasDel := false } := by unfold clsIn; rw [hC] <;> rfl
  rw [hcl] at hsu
  refine kxs_getMethod kxs_ValueError e (looks_opaque X₂ T.third) (l₀ := .ref C :: bm) ?_ rfl X₂ hsu (I₂.type.andThen (looks_subIn X₂ T.ve)) (ks_ne X₂ I₂ hcl) (by decide) ?_
  · exact fun A Q E s k q => wpAny_bind ((looks_clsIn X₂ hcl) A _ E s k (wpAny_pure q))
  have hne : h'.objs.size ≠ x := Nat.ne_of_gt (Heap.lt_size hx₂)
  have k2 : ∀ b o, h'.get? b = some o → (h'.push (kxs_mw "ValueError.__init__" x)).get? b = some o := fun b o z => Heap.get?_push_of_some _ z
  have hmw : (h'.push (kxs_mw "ValueError.__init__" x)).get? h'.objs.size = some (kxs_mw "ValueError.__init__" x) := Heap.get?_push_at rfl rfl
  refine kxs_callWith (i := "ValueError.__init__") (x := x) rfl (evalArgs_empty ⟨hmw, ?_⟩)
  refine bound_init T.oex (X₂.keeps k2) hmw (k2 _ _ hx₂) fun h3 t1 k3 hx3 => ?_
  exact wpAt_of_wpAny (wpAny_execs_nil (hq h3 _ t1 (fun b o hb z => k3 b o hb (k2 b o (k b o (k₁ b o z)))) hx3))
end
end Ev
set_option maxHeartbeats 4000000
/-! Rules for own errors as values: made, asked by isinstance, their fields read. -/
namespace Ev
open PySem PySem.Spec PyProof.Rows L2

section
variable {X : Cx} {x : Str} {C fI : Addr} {p pos : Pos}
theorem make_room {k : Nat} {A : Around} (hr : Room k A) {us : List Value} : (A.under (.builtin "type.__call__" ⟨.ref C :: us, []⟩)).depth < recursionLimit := by
  rw [make_depth]
  have := hr.dp
  omega
/-- C() of a class whose __init__ is super().__init__(): what stands behind it -/
theorem run_exc0 {pins : List (Addr × Obj)} {s : Shared} {σ : L2.St} {H : Hp} {k : Nat} {Q : Value → Shared → Prop} (T : SupC X.prog X.K X.mg C fI) (hr : Room k X.A) (I : Inv X pins σ H s)
    (h : ∀ h' tk a t1, s.heap.objs.size ≤ a → (∀ b o, s.heap.get? b = some o → h'.get? b = some o) → h'.get? a = some (PySem.HandSPX.excO C t1) → Q (.ref a) { s with heap := h', toks := tk }) :
    wpAny (model X.prog X.w) X.A (call (.ref C) []) Q X.xe s := by
  obtain ⟨nm, q, N, bs, bm, sn, sub, ab, col, dd, k0, k1, k2, k3, k5, hC, hbm⟩ := T.oex.cls
  obtain ⟨mb, hb1, hb2⟩ := I.mod.blt
  have kX := I.kIn
  have lim := I.nolimit
  have g1 := I.mod.glob.keeps I.bk
  have b1 := hb1.keeps I.bk
  obtain ⟨hp, g, dr, tk, os⟩ := s
  have kk : ∀ b o, hp.get? b = some o → ((hp.push (PySem.W.kdv_tup [])).push (PySem.HandSPX.excO C hp.objs.size)).get? b = some o := fun b o e => Heap.get?_push_of_some _ (Heap.get?_push_of_some _ e)
  have hget : ((hp.push (PySem.W.kdv_tup [])).push (PySem.HandSPX.excO C hp.objs.size)).get? (hp.objs.size + 1) = some (PySem.HandSPX.excO C hp.objs.size) := by heap_get
  refine wpAny_call (PySem.HandSPX.call_own F.excBase_ValueError (fun Y => PySem.HandSPX.refsVE_contains Y bm hbm) (kX _ _ hC) (PySem.W.looks_findIn kX T.ini) (fun self => PySem.W.bind_fn kX self T.tyI) (by rw [sizeLine_eq]; exact Nat.zero_le _)
    (sup_init (s := ⟨(hp.push (PySem.W.kdv_tup [])).push (PySem.HandSPX.excO C hp.objs.size), g, dr, tk, os⟩) T (make_room hr) (kX.keeps kk) (lim.keeps kk) (g1.keeps kk) (b1.keeps kk) hb2 hget fun h' t' t1 k' hx => ⟨rfl, ?_⟩))
  exact h h' t' (hp.objs.size + 1) t1 (Nat.le_succ _) (fun b o e => k' b o (Nat.ne_of_lt (Nat.lt_succ_of_lt (Heap.lt_size e))) (kk b o e)) hx
def tExc0 (C : Addr) : TE := fun _ H Q => ∀ a, H a = none → Q (.ref a) (upd H a (exo a C none))
theorem pe_exc0 {k : Nat} (T : SupC X.prog X.K X.mg C fI) (hr : Room k X.A) (hg : Gl X x) (hm : X.mg x = some (.ref C)) (hdb : (x == ("__debug__" : Str)) = false := by decide) : PE X (.Call (.Name x p) [] [] pos) (tExc0 C) := by
  refine ⟨fun pins s σ H Q I h => ?_⟩
  refine wpAny_Call_Name_kw (ld_glob I hg hm ?_ hdb)
  refine PySem.W.callWith_K0 I.kIn T.oex.kC ?_
  show wpAny _ _ (call (.ref C) []) _ _ _
  refine run_exc0 T hr I fun h' tk a t1 ha k e => ?_
  exact ⟨.ref a, upd H a (exo a C none), I.laid k ha (exo_ok e), rfl, h a (I.hok.fresh ha)⟩
/-- raised at once -/
theorem pmk_exc0 {k : Nat} (T : SupC X.prog X.K X.mg C fI) (hr : Room k X.A) (hg : Gl X x) (hm : X.mg x = some (.ref C)) (hdb : (x == ("__debug__" : Str)) = false := by decide) : PMk X (.Call (.Name x p) [] [] pos) (fun _ H Q => Q (.ref C) none H) := by
  intro pins s σ H Q I h
  refine wpAny_Call_Name_kw (ld_glob I hg hm ?_ hdb)
  refine PySem.W.callWith_K0 I.kIn T.oex.kC ?_
  show wpAny _ _ (call (.ref C) []) _ _ _
  refine run_exc0 T hr I fun h' tk a t1 ha k e => ?_
  refine ⟨a, _, _, s, H, .ref C, none, rfl, I, k, ?_, e, ⟨rfl, rfl⟩, rfl, rfl, I.hok.fresh ha, rfl, I.bare, raises_own T.oex.exC T.oex.tyC, h⟩
  exact Heap.get?_none_of_le ha
end

/-! ### __init__(self, f): self.f = f -/
structure Ini1 (st : Stmt) (f : Str) : Prop where
  body : ∃ q1 q2 q3 q4, defBody st = [.Assign [.Attribute (.Name "self" q1) f q2] (.Name f q3) q4]
  sc : FnScope ["self", f] ["self", f] (defScope st)
  l0 : (defScope st).names.lookup ("self" : Str) = some .local
  l1 : (defScope st).names.lookup f = some .local
  d1 : (f == ("__debug__" : Str)) = false
  d2 : (f == ("__classdict__" : Str)) = false
def spIni1 (C : Addr) (f : Str) : Sp := fun vs H Q _ => ∃ (a : Addr) (v : V), vs = [.ref a, v] ∧ H a = some (exo a C none) ∧ ∀ dx, H dx = none → dx ≠ a → Q .non (upd (upd H dx (exd dx [(f, v)])) a (exo a C (some dx)))
section
variable {P : Program} {w : World} {K : PySem.W.Frag} {mg : Str → Option Value} {base : Heap} {C : Addr}
theorem ok_ini1 {qual f : Str} {st : Stmt} {fI : Addr} {fd : FuncData} (F : Fun K "__init__" qual st fI fd) (S : Ini1 st f) (T : OexC K C) (hno : PySem.W.findIn K (.ref C) f = some none) : FnOk P w K mg base CX0 1 fI fd ["self", f] (spIni1 C f) := by
  refine F.ok S.sc (fun vs H Q E h => ?_) (fun cdv A outer s H vs Q E hr h => ?_)
  · obtain ⟨a, v, rfl, _⟩ := h
    rfl
  · obtain ⟨a, v, rfl, ha, q⟩ := h
    obtain ⟨q1, q2, q3, q4, hb⟩ := S.body
    rw [hb]
    refine ⟨_, pss_one (ps_ost (pv 0 rfl (.inl S.l0)) (pv 1 rfl (.inl S.l1) S.d1 S.d2)), ?_⟩
    exact ⟨v, rfl, .ref a, rfl, a, C, rfl, T, hno, .inl ⟨ha, fun dx n ne => q dx n ne⟩⟩
end
theorem upd3 {H : Hp} {a d : Addr} {o1 o2 o3 : HO} (h : d ≠ a) : upd (upd (upd H a o1) d o2) a o3 = upd (upd H d o2) a o3 := by
  funext b
  by_cases e : b = a
  · rw [e, upd_same, upd_same]
  · rw [upd_ne e, upd_ne e]
    by_cases e2 : b = d
    · rw [e2, upd_same, upd_same]
    · rw [upd_ne e2, upd_ne e2, upd_ne e]
def tExc1 (C : Addr) (f : Str) (ta : TA) : TE := fun σ H Q => ta σ H fun vs H1 => ∃ v, vs = [v] ∧ ∀ a d, H1 a = none → H1 d = none → d ≠ a → Q (.ref a) (upd (upd H1 d (exd d [(f, v)])) a (exo a C (some d)))
section
variable {X : Cx} {x f : Str} {C fI : Addr} {p pos : Pos} {e : Expr} {ta : TA} {fd : FuncData}
theorem pe_exc1 {k : Nat} (T : OexC X.K C) (iC : PySem.W.findIn X.K (.ref C) "__init__" = some (some (.ref fI))) (tI : PySem.W.typeIn X.K (.ref fI) = some (.type "function")) (F1 : FnOk X.prog X.w X.K X.mg X.base CX0 1 fI fd ["self", f] (spIni1 C f)) (hr : Room (k + 2) X.A)
    (hb : Binds X.K fd ["self", f] []) (hg : Gl X x) (hm : X.mg x = some (.ref C)) (ha : PA X [e] ta) (hdb : (x == ("__debug__" : Str)) = false := by decide) (he : starEach (e :: []) X.env = (false, eval e X.env) :: starEach [] X.env := by rfl)
    (hpl : (backTo pos (starEach [] X.env)).any (·.1) = false := by rfl) : PE X (.Call (.Name x p) [e] [] pos) (tExc1 C f ta) := by
  refine ⟨fun pins s σ H Q I h => ?_⟩
  obtain ⟨nm, q, N, bs, bm, sn, sub, ab, col, dd, k0, k1, k2, k3, k5, hC, hbm⟩ := T.cls
  refine wpAny_Call_Name_kw (ld_glob I hg hm ?_ hdb)
  refine PySem.W.callWith_K (h₀ := X.base) I.ok.mod.kin T.kC (thn (ha.run pos pins s σ H _ I h) fun us s1 ⟨vs, H1, I1, r1, v, ev, q1⟩ => ⟨I1.kIn, ?_⟩) he hpl
  subst ev
  show wpAny _ _ (call (.ref C) us) _ _ _
  obtain ⟨hp, g, dr, tk, os⟩ := s1
  have hsz : hp.objs.size ≤ hp.objs.size + 1 := Nat.le_succ _
  have hn : H1 (hp.objs.size + 1) = none := I1.hok.fresh hsz
  have kk : ∀ b o, hp.get? b = some o → ((hp.push (PySem.W.kdv_tup us)).push (PySem.HandSPX.excO C hp.objs.size)).get? b = some o := fun b o e => Heap.get?_push_of_some _ (Heap.get?_push_of_some _ e)
  have hget : ((hp.push (PySem.W.kdv_tup us)).push (PySem.HandSPX.excO C hp.objs.size)).get? (hp.objs.size + 1) = some (PySem.HandSPX.excO C hp.objs.size) := by heap_get
  have I2 : Inv X pins σ (upd H1 (hp.objs.size + 1) (exo (hp.objs.size + 1) C none)) ⟨(hp.push (PySem.W.kdv_tup us)).push (PySem.HandSPX.excO C hp.objs.size), g, dr, tk, os⟩ :=
    I1.laid (t' := tk) (a := hp.objs.size + 1) (o := exo (hp.objs.size + 1) C none) (h' := (hp.push (PySem.W.kdv_tup us)).push (PySem.HandSPX.excO C hp.objs.size)) kk hsz (exo_ok hget)
  have r2 : Vals [V.ref (hp.objs.size + 1), v] (Value.ref (hp.objs.size + 1) :: us) := .cons rfl r1
  have hl1 : us.length = 1 := by rw [← Paired.length r1] <;> rfl
  have hl : (Value.ref (hp.objs.size + 1) :: us ++ []).length = (["self", f] : List Str).length := by
    rw [List.append_nil, List.length_cons, hl1] <;> rfl
  have hus : us.length ≤ sizeLine := by
    rw [hl1, sizeLine_eq]
    omega
  have b2 := hb _ (Value.ref (hp.objs.size + 1) :: us) I2.kIn hl
  rw [List.append_nil] at b2
  have hq : spIni1 C f [V.ref (hp.objs.size + 1), v] (upd H1 (hp.objs.size + 1) (exo (hp.objs.size + 1) C none)) (fun z H2 => z = .non ∧ Q (.ref (hp.objs.size + 1)) H2) E0 := by
    refine ⟨_, v, rfl, upd_same, fun dx n ne => ⟨rfl, ?_⟩⟩
    rw [upd_ne ne] at n
    rw [upd3 ne]
    exact q1 _ dx hn n ne
  refine wpAny_call (PySem.HandSPX.call_own F.excBase_ValueError (fun Y => PySem.HandSPX.refsVE_contains Y bm hbm) (I1.kIn _ _ hC) (PySem.W.looks_findIn I1.kIn iC) (fun self => PySem.W.bind_fn I1.kIn self tI) hus
    (codeAny_mono (F1.run _ X.stack _ _ ⟨Value.ref (hp.objs.size + 1) :: us, []⟩ (Value.ref (hp.objs.size + 1) :: us) _ _ E0 ((hr.mono (by omega : 1 + 1 ≤ k + 2)).make C us []) (I2.env0.make C us []) b2 r2 hq) fun r s' hq' => ?_))
  cases r with
  | error er => exact False.elim hq'
  | ok fl =>
    cases fl with
    | ret u =>
      obtain ⟨z, H', I3, rz, ez, q3⟩ := I2.after hq'
      subst ez
      exact ⟨rz, ⟨V.ref (hp.objs.size + 1), H', I3, rfl, q3⟩⟩
    | next => exact False.elim hq'
    | brk => exact False.elim hq'
    | cont => exact False.elim hq'
end

/-! ### isinstance -/
/-- at a stands an own error of the class at C -/
def ErrAt (H : Hp) (a C : Addr) : Prop := H a = some (exo a C none) ∨ ∃ d fs, H a = some (exo a C (some d)) ∧ H d = some (exd d fs)
theorem err_inst {X : Cx} {pins : List (Addr × Obj)} {σ : L2.St} {H : Hp} {s : Shared} {a C : Addr} (I : Inv X pins σ H s) (h : ErrAt H a C) : ∃ ox od, PySem.W.InstAt s.heap a ox C od := by
  rcases h with h | ⟨d, fs, h, hd⟩
  · obtain ⟨t1, e⟩ := exo_at I.hok h
    exact ⟨_, none, e, rfl, rfl, trivial⟩
  · obtain ⟨t1, e⟩ := exo_at I.hok h
    obtain ⟨mA, ⟨o, es, ep, ho, _⟩, _⟩ := exd_at I.hok hd
    exact ⟨_, some o, e, rfl, rfl, ho⟩
/-- isinstance(e, c), e an own error -/
def rIsX (K : PySem.W.Frag) : List V → Hp → VK → Prop := fun xs H Q => ∃ (a C : Addr) (c : V) (cv : Value) (b : Bool), xs = [.ref a, c] ∧ ErrAt H a C ∧ ExcC K C ∧ ClsV c cv ∧ PySem.W.kitOne K (.ref C) cv = some b ∧ Q (.bl b) H
theorem call_isX {X : Cx} : CallR X (.builtin "isinstance") (rIsX X.K) := by
  intro pins s σ H xs us Q I r h
  obtain ⟨a, C, c, cv, b, rfl, ea, T, k, e, q⟩ := h
  obtain ⟨u1, u2, rfl, r1, r2⟩ := vals2 r
  have e2 := k.eq r2
  subst e2
  obtain rfl : u1 = Value.ref a := r1
  obtain ⟨ox, od, J⟩ := err_inst I ea
  have hcl : (PySem.W.clsIn X.K C).isSome = true := by
    obtain ⟨cd, hc, _⟩ := PySem.W.any_some T.hd
    rw [hc]
    rfl
  exact PySem.W.kia_one (PySem.W.kitx_exc hcl T.hg T.hk T.hs T.ha T.hn T.ht T.hm) I.kIn J e (fun z => nomatch z) fun tk => ⟨.bl b, H, I.tok tk, rfl, q⟩
/-- e.n, e an own error -/
def tErrF (K : PySem.W.Frag) (n : Str) (te : TE) : TE := fun σ H Q => te σ H fun x H1 => ∃ (a C d : Addr) (fs : List (Str × V)) (v : V), x = .ref a ∧ H1 a = some (exo a C (some d)) ∧ H1 d = some (exd d fs) ∧ fs.lookup n = some v ∧ XfC K C ∧ PySem.W.findIn K (.ref C) n = some none ∧ Q v H1
theorem pe_errF {X : Cx} {e : Expr} {te : TE} {pos : Pos} {n : Str} (he : PE X e te) (hb : attributeBase e n X.env (eval e X.env) = eval e X.env := by rfl) : PE X (.Attribute e n pos) (tErrF X.K n te) := by
  refine ⟨fun pins s σ H Q I h => ?_⟩
  refine attr_of hb (thn (he.run pins s σ H _ I h) fun u s1 hh => ?_)
  obtain ⟨x, H1, I1, rx, a, C, d, fs, v, ex, ea, ed, l, T, hno, q⟩ := hh
  subst ex
  obtain rfl : u = Value.ref a := rx
  obtain ⟨t1, e1⟩ := exo_at I1.hok ea
  obtain ⟨mA, hns, hr⟩ := exd_at I1.hok ed
  obtain ⟨od, ho, hl⟩ := lookIn_ns hns
  obtain ⟨u, hu, ru⟩ := RelO.some_of (v := v) (o := mA n) (by rw [← l]; exact hr n)
  have J : PySem.W.InstAt s1.heap a _ C (some od) := ⟨e1, rfl, rfl, ho⟩
  exact HandSPX.exc_get I1.kIn J T.ga T.gg T.exC (PySem.W.findObj_own T.hdC hno rfl (by rw [hl, hu])) (handed_of ru) ⟨v, H1, I1.tok _, ru, q⟩
end Ev
set_option maxHeartbeats 4000000
/-! try with several clauses «except X as n», the name the same in all of them. -/
namespace Ev
open PySem PySem.Spec PyProof.Rows L2
/-- behind a suite the name's slot (i) is empty -/
def offS (i : Nat) (D : Ends) : Ends := { nx := fun σ' H' => D.nx (σ'.set i none) H', rt := D.rt, bk := fun σ' H' => D.bk (σ'.set i none) H', ct := fun σ' H' => D.ct (σ'.set i none) H' }
def wManyAs (K : PySem.W.Frag) (i : Nat) (Wout : WX) (D : Ends) : List (Value × (Addr → Value → Option Addr → TS)) → WX
  | [] => Wout
  | (c, ts) :: r => fun cls d σ H => ∃ b, PySem.W.exmOne K cls c = some b ∧ (b = true → ∀ a, H a = none → ts a cls d (offS i D) (σ.set i (some (.ref a))) H) ∧ (b = false → wManyAs K i Wout D r cls d σ H)
inductive HdsAs (X : Cx) (n : Str) : List ExceptHandler → List (Value × (Addr → Value → Option Addr → TS)) → Prop
  | nil : HdsAs X n [] []
  | cons {x : Str} {c : Value} {ts : Addr → Value → Option Addr → TS} {b₀ : Stmt} {suite : List Stmt} {np pos' : Pos} {hds : List ExceptHandler} {l : List (Value × (Addr → Value → Option Addr → TS))} (hc : Names X x c)
      (hsu : ∀ (a : Addr) (oe : Obj) (cls : Value) (d : Option Addr) (pn : List (Addr × Obj)), Zc cls d oe → (∃ vs, oe.data = .fields vs) → PSs (X.suite a ((a, oe) :: pn)) (b₀ :: suite) (ts a cls d)) (r : HdsAs X n hds l) :
      HdsAs X n (.ExceptHandler (some (.Name x np)) (some n) (b₀ :: suite) pos' :: hds) ((c, ts) :: l)
section
variable {X : Cx} {body : List Stmt} {h₀ : ExceptHandler} {hds : List ExceptHandler} {l : List (Value × (Addr → Value → Option Addr → TS))} {pos : Pos} {tb : WX → TS} {Wout : WX} {n : Str} {i : Nat}
theorem ps_try_manyAs (hs : X.stack = X.env :: X.outer) (hf : X.env.frame = some X.env.locals) (hN : X.N.Nodup) (hi : X.N[i]? = some n) (hln : X.env.kindOf n = some .local) (tk : Takes X Wout)
    (hb : ∀ (W : WX) (pn : List (Addr × Obj)) (xe : Value → Shared → Prop), Takes (X.tr pn xe) W → PassesOwn (model X.prog X.w) X.A X.env xe → PSs (X.tr pn xe) body (tb W))
    (hh : HdsAs X n (h₀ :: hds) l) : PS X (.Try body (h₀ :: hds) [] [] pos) (fun D σ H => tb (wManyAs X.K i Wout D l) D σ H) := by
  refine ⟨fun pins s σ H D I h => ?_⟩
  have ok := I.ok
  have hfr : X.A.frames = some (X.env :: X.outer) := by rw [ok.frames, hs]
  have hloc : Loc X.env.scope n := .inl hln
  refine wpAny_Try_except (wpAny_mono ((hb (wManyAs X.K i Wout D l) (X.pn ++ pins) (fun e s₁ => wpAny (model X.prog X.w) X.A (noteFrame e X.env) (fun _ s₂ => wpAny (model X.prog X.w) X.A (setFlight e none) (fun _ s₃ =>
    wpAny (model X.prog X.w) X.A (handleBy e X.env (h₀ :: hds)) (SP X pins D) X.xe s₃) X.xe s₂) X.xe s₁) (fun u s' xx => ?_) PassesOwn.looking).run [] s σ H D (I.toTry _) h) (fun f s1 hsp => ?_) (fun e s1 he => he))
  · obtain ⟨a, B, sI, pins', σ', H', cls, d, rfl, J', nb, up, sky, na, os, ag, w⟩ := xx
    have J : L2.Inv X pins σ' H' sI := J'.ofTry ok
    have sky' : Sky B (X.env :: X.outer) a (Zc cls d) X.env.locals s'.heap := by rw [← hs]; exact sky
    refine Sky.land Zc.steady hfr hf sky' fun h3 fl3 up3 => ?_
    have J3 : L2.Inv X pins σ' H' { s' with heap := h3 } := J.landed nb fl3.1 (up.trans up3) os ag
    obtain ⟨oe3, vs3, he3, hz3, hd3⟩ := fl3.there
    have nfr : a ∉ frs (X.env :: X.outer) := fun hm => by
      obtain ⟨_, o', e', hnf⟩ := fl3.2.2.1.mem hm
      rw [he3] at e'; cases e'
      exact hnf _ hd3
    have nL : a ≠ X.env.locals := fun z => nfr (List.mem_filterMap.mpr ⟨X.env, List.mem_cons_self, by rw [hf, z]⟩)
    have nF : a ∉ X.fs := fun hm => by
      obtain ⟨e, he, q⟩ := List.mem_filterMap.mp hm
      exact nfr (List.mem_filterMap.mpr ⟨e, List.mem_cons_of_mem _ he, q⟩)
    have S3 := J3.suite he3 hd3 na nL nF
    have LT : PySem.W.Looks (model X.prog X.w) h3 (typeOf (.ref a)) cls := fun A Q E s k q => wpAny_typeOf_ref (k _ _ he3) (by rw [hz3.1]; exact q)
    have go : ∀ {hds' : List ExceptHandler} {l' : List (Value × (Addr → Value → Option Addr → TS))}, HdsAs X n hds' l' → wManyAs X.K i Wout D l' cls d σ' H' →
        wpAny (model X.prog X.w) X.A (handleBy (.ref a) X.env hds') (SP X pins D) X.xe { s' with heap := h3 } := by
      intro hds' l' hk
      induction hk with
      | nil =>
        intro w
        refine wpAny_handleBy_nil ?_
        obtain ⟨k1, k2, k3, oe, vs, T, oT, ts', he, hz, hd, h1, hr⟩ := id fl3
        unfold PySem.passOn
        refine wpAny_bind (wpAny_field he hd h1 ?_)
        rw [if_neg (show ¬ ((Value.ref T == Value.none) = true) from by simp)]
        have fin : wpAny (model X.prog X.w) X.A (setFlight (.ref a) X.env.frame) (fun _ s4 => wpAny (model X.prog X.w) X.A (throw (.ref a) : Sem Flow) (SP X pins D) X.xe s4) X.xe { s' with heap := h3 } := by
          rw [hf]
          refine HandSPX.setFlight_upZ fl3 fun h4 hh4 up4 => wpAny_throw (tk _ _ ?_)
          exact ⟨a, B, sI, pins, σ', H', cls, d, rfl, J, nb, (up.trans up3).trans up4, .inr (.inr (by rw [hs]; exact hh4)), na, os, ag, w⟩
        first
          | exact wpAny_bind (wpAny_pure (wpAny_bind fin))
          | exact wpAny_bind fin
      | @cons x c ts b₀ suite np pos' hds2 l2 hc hsu r ih =>
        intro w
        obtain ⟨b, hb1, hyes, hno⟩ := w
        refine wpAny_handleBy_cons (codeAny_handlers_test ?_) (by intro q; cases q)
        have LM := PySem.W.exm_one (M := model X.prog X.w) (J3.kIn) LT hb1
        have test : ∀ {Q : Value → Shared → Prop} {E : Value → Shared → Prop}, Q c { s' with heap := h3 } → wpAny (model X.prog X.w) (X.A.mark (some (.ref a))) (eval (.Name x np) X.env) Q E { s' with heap := h3 } := fun {Q E} q => by
          obtain ⟨hg, hdbg, hm | ⟨hm, hv, hnn⟩⟩ := hc
          · exact ld_glob (X := X.suite a ((a, oe3) :: (X.pn ++ pins))) S3 hg hm q hdbg
          · exact ld_blt (X := X.suite a ((a, oe3) :: (X.pn ++ pins))) S3 hg hm hv q hnn hdbg
        refine test (LM.here ?_)
        cases b with
        | true =>
          refine codeAny_handlers_suite_as (HandSPX.lands_againZ fl3 fun h4 fl4 up4 => ?_)
          have J4 : L2.Inv X pins σ' H' { s' with heap := h4 } := J.landed nb fl4.1 ((up.trans up3).trans up4) os ag
          obtain ⟨oe4, vs4, he4, hz4, hd4⟩ := fl4.there
          refine store_ok (X := X.suite a ((a, oe4) :: (X.pn ++ pins))) (v := .ref a) (J4.suite he4 hd4 na nL nF) hN hi hloc rfl (fun s5 S5 => ?_) (.inr hln)
          refine wpAny_mono ((hsu a oe4 cls d (X.pn ++ pins) hz4 ⟨_, hd4⟩).run [] s5 _ H' _ S5 (hyes rfl a na)) (fun f s6 hsp => ?_) (fun _ _ z => False.elim z)
          cases f with
          | next =>
            obtain ⟨σ6, H6, S6, q6⟩ := hsp
            exact gone_ok (S6.unsuite ok) hN hi hln fun s7 J7 => ⟨_, _, J7, q6⟩
          | brk =>
            obtain ⟨σ6, H6, S6, q6⟩ := hsp
            exact gone_ok (S6.unsuite ok) hN hi hln fun s7 J7 => ⟨_, _, J7, q6⟩
          | cont =>
            obtain ⟨σ6, H6, S6, q6⟩ := hsp
            exact gone_ok (S6.unsuite ok) hN hi hln fun s7 J7 => ⟨_, _, J7, q6⟩
          | ret u =>
            obtain ⟨v6, σ6, H6, S6, r6, q6⟩ := hsp
            exact gone_ok (S6.unsuite ok) hN hi hln fun s7 J7 => ⟨_, _, _, J7, r6, q6⟩
        | false => exact ih (hno rfl)
    exact go hh w
  · cases f with
    | next =>
      obtain ⟨σ', H', J', q⟩ := hsp
      exact wpAny_execs_nil ⟨σ', H', J'.ofTry ok, q⟩
    | brk =>
      obtain ⟨σ', H', J', q⟩ := hsp
      exact ⟨σ', H', J'.ofTry ok, q⟩
    | cont =>
      obtain ⟨σ', H', J', q⟩ := hsp
      exact ⟨σ', H', J'.ofTry ok, q⟩
    | ret u =>
      obtain ⟨v, σ', H', J', r, q⟩ := hsp
      exact ⟨v, σ', H', J'.ofTry ok, r, q⟩
end
end Ev
set_option maxHeartbeats 8000000
namespace LawK
open PySem PySem.Spec PyProof.Rows L2 Ev
abbrev veT : List Value := [.type "ValueError", .type "Exception", .type "BaseException", .type "object"]
/-- an own error class at C, over the one at PE -/
structure ErC (K : PySem.W.Frag) (PE C : Addr) : Prop where
  oex : OexC K C
  isx : ExcC K C
  xf : XfC K C
  mro : ∃ cd, PySem.W.clsIn K C = some cd ∧ cd.mro = .ref C :: .ref PE :: veT
  isT : PySem.W.typeIn K (.ref C) = some (.type "type")
section
variable {K : PySem.W.Frag} {PE C D : Addr}
theorem ErC.sub (T : ErC K PE C) (b : Value) : PySem.W.subIn K (.ref C) b = some ((Value.ref C :: .ref PE :: veT).contains b) := by
  obtain ⟨cd, h1, h2⟩ := T.mro
  show (PySem.W.clsIn K C).bind _ = _
  rw [h1, Option.bind_some, h2]
  rfl
theorem kit_at (TD : ErC K PE D) (T : ErC K PE C) (n : D ≠ PE) : PySem.W.kitOne K (.ref C) (.ref D) = some (decide (C = D)) := by
  unfold PySem.W.kitOne
  by_cases e : C = D
  · subst e
    rw [if_pos (by simp), decide_eq_true rfl]
  · rw [if_neg (by simpa using e), decide_eq_false e]
    obtain ⟨cd, h1, h2⟩ := TD.mro
    show (if ((PySem.W.clsIn K D).isSome && PySem.W.typeIn K (.ref D) == some (.type "type")) = true then PySem.W.subIn K (.ref C) (.ref D) else none) = some false
    rw [if_pos (by rw [h1, TD.isT]; rfl), T.sub]
    have e2 : D ≠ C := fun z => e z.symm
    simp [veT, e2, n]
end
/-- an error class without a field -/
structure Cls0 (P : Program) (K : PySem.W.Frag) (mg : Str → Option Value) (PE : Addr) (x : Str) (C : Addr) : Prop where
  er : ErC K PE C
  ne : C ≠ PE
  sup : ∃ fI, SupC P K mg C fI
  g : mg x = some (.ref C)
/-- an error class with the field f -/
structure Cls1 (K : PySem.W.Frag) (mg : Str → Option Value) (PE : Addr) (x f : Str) (C : Addr) : Prop where
  er : ErC K PE C
  ne : C ≠ PE
  g : mg x = some (.ref C)
  ini : ∃ (fI : Addr) (fd : FuncData) (st : Stmt) (qual : Str), Fun K "__init__" qual st fI fd ∧ Ini1 st f ∧ Binds K fd ["self", f] [] ∧ PySem.W.findIn K (.ref C) "__init__" = some (some (.ref fI)) ∧ PySem.W.typeIn K (.ref fI) = some (.type "function")
  hno : PySem.W.findIn K (.ref C) f = some none
section
variable {X : Cx} {x f : Str} {PE C : Addr} {p pos : Pos} {e : Expr} {ta : TA} {k : Nat}
theorem pe_c0 (T : Cls0 X.prog X.K X.mg PE x C) (hr : Room k X.A) (hg : Gl X x := by rfl) (hdb : (x == ("__debug__" : Str)) = false := by decide) : L2.PE X (.Call (.Name x p) [] [] pos) (tExc0 C) := by
  obtain ⟨fI, S⟩ := T.sup
  exact pe_exc0 S hr hg T.g hdb
theorem pe_c1 (T : Cls1 X.K X.mg PE x f C) (hr : Room (k + 2) X.A) (ha : PA X [e] ta) (hg : Gl X x := by rfl) (hdb : (x == ("__debug__" : Str)) = false := by decide) (he : starEach (e :: []) X.env = (false, eval e X.env) :: starEach [] X.env := by rfl)
    (hpl : (backTo pos (starEach [] X.env)).any (·.1) = false := by rfl) : L2.PE X (.Call (.Name x p) [e] [] pos) (tExc1 C f ta) := by
  obtain ⟨fI, fd, st, qual, F1, S1, b1, iC, tI⟩ := T.ini
  exact pe_exc1 T.er.oex iC tI (ok_ini1 F1 S1 T.er.oex T.hno) hr b1 hg T.g ha hdb he hpl
def tMk1 (C : Addr) (f : Str) (ta : TA) : L2.St → Hp → XK → Prop := fun σ H Q => ta σ H fun vs H1 => ∃ v, vs = [v] ∧ ∀ d, H1 d = none → Q (.ref C) (some d) (upd H1 d (.xd [(f, v)]))
theorem del_upd {H : Hp} {a d : Addr} {o1 o2 o3 u : HO} (ha : H a = none) (hd : d ≠ a) : upd (del (upd (upd (upd H a o1) d o2) a o3) a) d u = upd H d u := by
  funext b
  by_cases e : b = d
  · rw [e, upd_same, upd_same]
  · rw [upd_ne e, upd_ne e]
    by_cases e2 : b = a
    · rw [e2, del_same, ha]
    · rw [del_ne e2, upd_ne e2, upd_ne e, upd_ne e2]
theorem pmk_c1 (T : Cls1 X.K X.mg PE x f C) (hr : Room (k + 2) X.A) (ha : PA X [e] ta) (hg : Gl X x := by rfl) (hdb : (x == ("__debug__" : Str)) = false := by decide) (he : starEach (e :: []) X.env = (false, eval e X.env) :: starEach [] X.env := by rfl)
    (hpl : (backTo pos (starEach [] X.env)).any (·.1) = false := by rfl) (hm : ∀ {σ : L2.St} {H : Hp} {Q1 Q2 : List V → Hp → Prop}, (∀ vs H1, Q1 vs H1 → Q2 vs H1) → ta σ H Q1 → ta σ H Q2) : PMk X (.Call (.Name x p) [e] [] pos) (tMk1 C f ta) := by
  obtain ⟨fI, fd, st, qual, F1, S1, b1, iC, tI⟩ := T.ini
  intro pins s σ H Q I h
  refine pmk_oex (CX := CX0) (k := 1) (sp := spIni1 C f) (ds := []) (dvs := []) T.er.oex iC tI (ok_ini1 F1 S1 T.er.oex T.hno) (hr.mono (by omega)) b1 .nil (fun _ _ _ _ _ _ _ z => z.elim) hg T.g ha hdb he hpl pins s σ H Q I (hm (fun vs H1 q => ?_) h)
  obtain ⟨v, rfl, q⟩ := q
  refine ⟨by show 1 ≤ 1000; decide, fun a na => ⟨a, v, rfl, upd_same, fun dx n ne => ⟨rfl, dx, _, upd_same, by rw [upd_ne ne, upd_same], ?_, ?_⟩⟩⟩
  · rw [upd_ne ne] at n
    exact n
  · rw [del_upd na ne]
    rw [upd_ne ne] at n
    exact q dx n
end
structure BaseX (K : PySem.W.Frag) (PE : Addr) : Prop where
  sub : PySem.W.subIn K (.ref PE) (.type "BaseException") = some true
  hd : PySem.W.hasDictIn K PE = true
  isT : PySem.W.typeIn K (.ref PE) = some (.type "type")
section
variable {K : PySem.W.Frag} {PE : Addr}
theorem exm_at {C D : Addr} (TD : ErC K PE D) (T : ErC K PE C) (n : D ≠ PE) : PySem.W.exmOne K (.ref C) (.ref D) = some (decide (C = D)) := by
  refine PySem.W.exm_ref TD.isx.hs TD.isx.hd TD.isT ?_
  rw [T.sub]
  by_cases e : C = D
  · subst e
    simp
  · have e2 : D ≠ C := fun z => e z.symm
    rw [decide_eq_false e]
    simp [veT, e2, n]
theorem exm_base {C : Addr} (B : BaseX K PE) (T : ErC K PE C) : PySem.W.exmOne K (.ref C) (.ref PE) = some true := by
  refine PySem.W.exm_ref B.sub B.hd B.isT ?_
  rw [T.sub]
  simp [veT]
theorem tCons1 {i j : Nat} {σ : L2.St} {H : Hp} {Q1 Q2 : List V → Hp → Prop} (h : ∀ vs H1, Q1 vs H1 → Q2 vs H1) : tCons (tVar i) tNil σ H Q1 → tCons (tVar i) tNil σ H Q2 := fun ⟨v, e, q⟩ => ⟨v, e, h _ _ q⟩
end
def chkE (K : PySem.W.Frag) (C : Addr) : Bool := xfB K C && (decide (PySem.W.typeIn K (.ref C) = some (.type "type")) && (PySem.W.keepIn K (.ref C) && (decide (PySem.W.findIn K (.ref C) "__class__" = some (some (.builtin "object.__class__"))) && decide (PySem.W.mroIn K C (.type "object") = some true))))
def chkC (K : PySem.W.Frag) (PE C : Addr) : Bool := chkE K C && (decide (PySem.W.findIn K (.ref C) "__setattr__" = some (some (.builtin "object.__setattr__"))) && decide (C ≠ PE))
structure Sh (K : PySem.W.Frag) : Prop where
  hn : PySem.W.specialIn K (.builtin "object.__class__") "__get__" = some (some (.builtin "getset_descriptor.__get__"))
  ht : PySem.W.takesIn K (.builtin "object.__class__") = some true
structure Sh0 (P : Program) (K : PySem.W.Frag) (mg : Str → Option Value) : Prop extends Sh K where
  gs : mg "super" = none
  top : (P.main.scope.names.lookup ("super" : Str)).isSome = false
  third : PySem.W.nsIn K cStatics "thirdparty.any" = some none
structure CkE (K : PySem.W.Frag) (C : Addr) : Prop where
  xf : XfC K C
  isT : PySem.W.typeIn K (.ref C) = some (.type "type")
  kp : PySem.W.keepIn K (.ref C) = true
  ha : PySem.W.findIn K (.ref C) "__class__" = some (some (.builtin "object.__class__"))
  hm : PySem.W.mroIn K C (.type "object") = some true
theorem chkE_ok {K : PySem.W.Frag} {C : Addr} (h : chkE K C = true) : CkE K C := by
  obtain ⟨h1, h⟩ := Bool.and_eq_true_iff.mp h
  obtain ⟨h2, h⟩ := Bool.and_eq_true_iff.mp h
  obtain ⟨h3, h⟩ := Bool.and_eq_true_iff.mp h
  obtain ⟨h4, h5⟩ := Bool.and_eq_true_iff.mp h
  exact ⟨xfB_ok h1, of_decide_eq_true h2, h3, of_decide_eq_true h4, of_decide_eq_true h5⟩
theorem CkE.isx {K : PySem.W.Frag} {C : Addr} (T : CkE K C) (S : Sh K) : ExcC K C := ⟨T.xf.ga, T.xf.gg, T.xf.exC, T.xf.hdC, T.ha, S.hn, S.ht, T.hm⟩
section
variable {P : Program} {w : World} {K : PySem.W.Frag} {mg : Str → Option Value} {h : Heap} {PE C fI : Addr} {x f qual : Str} {nm q : Str} {N : Addr} {bs : List Value} {sn : List Str} {sub : List Value} {ab : Bool} {col : Option Bool} {dd : Option Addr} {k0 k1 k2 k3 k5 : Option Value}
theorem mro_of {bm : List Value} {id : String} (lC : K.lookup C = some (excClassObj nm q C N bs bm true sn sub ab col dd k0 k1 k2 k3 k5 id)) : ∃ cd, PySem.W.clsIn K C = some cd ∧ cd.mro = .ref C :: bm := by
  have e : PySem.W.clsIn K C = some { name := nm, bases := bs, mro := .ref C :: bm, ns := N, qualname := q, hasDict := true, slotNames := sn, subclasses := sub, abstract := ab, collection := col, hasDel := false } := by
    unfold PySem.W.clsIn
    rw [lC]
  exact ⟨_, e, rfl⟩
theorem er_mk (S : Sh K) (lC : K.lookup C = some (excClassObj nm q C N bs (.ref PE :: veT) true sn sub ab col dd k0 k1 k2 k3 k5 "ValueError.__new__")) (ck : chkC K PE C = true) : ErC K PE C ∧ C ≠ PE := by
  obtain ⟨c1, c2⟩ := Bool.and_eq_true_iff.mp ck
  obtain ⟨c2, c3⟩ := Bool.and_eq_true_iff.mp c2
  have T := chkE_ok c1
  exact ⟨⟨⟨⟨nm, q, N, bs, _, sn, sub, ab, col, dd, k0, k1, k2, k3, k5, lC, (show PySem.HandSPX.refsVE veT = true by decide +kernel)⟩, of_decide_eq_true c2, T.xf.exC, T.isT, T.kp⟩, T.isx S, T.xf, mro_of lC, T.isT⟩, of_decide_eq_true c3⟩
theorem say {K : PySem.W.Frag} {h : Heap} (X : K.In h) (T : PySem.W.Frag → Prop) {g : Prop} (a : T K) (k : T K → g) : g := k a
def chk1 (K : PySem.W.Frag) (PE C fI : Addr) (f : Str) (cd : Value) (qual : Str) : Bool := chkC K PE C && (decide (PySem.W.typeIn K (.ref fI) = some (.type "function")) && (PySem.W.codeIn K cd qual && (PySem.W.keepIn K (.ref fI) && decide (PySem.W.findIn K (.ref C) f = some none))))
theorem cls1_mk {st : Stmt} {oc kV dc pm cd ct : Value} {od an : Option Addr} {sl : Array (Option Value)} (X : K.In h) (G : h.Ns mainGlobals mg) (S : Sh K)
    (i1 : Ini1 st f) (hb : ∀ (kV doc pm : Value) (an : Option Addr) (cdv ct : Value) (us : List Value), us.length = 2 → bindArgs (PySem.W.fnOf "__init__" qual (defArgs st) (defBody st) (defScope st) .none kV doc pm an cdv ct) ⟨us, []⟩ = pure ((["self", f] : List Str).zip us))
    (aC : PySem.W.nsIn K mainGlobals x = some (some (.ref C))) (lC : K.lookup C = some (excClassObj nm q C N bs (.ref PE :: veT) true sn sub ab col dd k0 k1 k2 k3 k5 "ValueError.__new__"))
    (iC : PySem.W.findIn K (.ref C) "__init__" = some (some (.ref fI))) (lI : K.lookup fI = some ⟨oc, od, .func (PySem.W.fnOf "__init__" qual (defArgs st) (defBody st) (defScope st) .none kV dc pm an cd ct), sl⟩)
    (ck : chk1 K PE C fI f cd qual = true) : Cls1 K mg PE x f C := by
  obtain ⟨c1, c2⟩ := Bool.and_eq_true_iff.mp ck
  obtain ⟨c2, c3⟩ := Bool.and_eq_true_iff.mp c2
  obtain ⟨c3, c4⟩ := Bool.and_eq_true_iff.mp c3
  obtain ⟨c4, c5⟩ := Bool.and_eq_true_iff.mp c4
  obtain ⟨e, n⟩ := er_mk S lC c1
  have F1 := fun_mk (st := st) lI c3 c4
  exact ⟨e, n, PySem.W.mg_of X G aC, ⟨fI, _, st, qual, F1, i1, F1.binds (ps := ["self", f]) hb, iC, of_decide_eq_true c2⟩, of_decide_eq_true c5⟩
def chk0 (K : PySem.W.Frag) (PE C fI : Addr) (cd : Value) (qual : Str) : Bool := chkC K PE C && (decide (PySem.W.typeIn K (.ref fI) = some (.type "function")) && (PySem.W.codeIn K cd qual && (decide (PySem.W.ks_superIn K C C "__init__" = some (some (.builtin "ValueError.__init__"))) && (decide (PySem.W.subIn K (.ref C) (.type "ValueError") = some true) && decide (PySem.W.mroIn K C (.ref C) = some true)))))
theorem cls0_mk {oc kV dc pm ct : Value} {od an : Option Addr} {cda cc : Addr} {osl : Array (Option Value)} {p p0 p1 p2 p3 p4 : Pos} {ccl : Value} {cdd : Option Addr} {vs : Array Value} {ccs : Array (Option Value)} {file : Str} {tf : Tok} {cl : Value} {cld : Option Addr} {csl : Array (Option Value)}
    (X : K.In h) (G : h.Ns mainGlobals mg) (S : Sh0 P K mg)
    (aC : PySem.W.nsIn K mainGlobals x = some (some (.ref C))) (lC : K.lookup C = some (excClassObj nm q C N bs (.ref PE :: veT) true sn sub ab col dd k0 k1 k2 k3 k5 "ValueError.__new__"))
    (iC : PySem.W.findIn K (.ref C) "__init__" = some (some (.ref fI)))
    (lI : K.lookup fI = some ⟨oc, od, .func (PySem.W.ksFn "__init__" qual (supArgs p) (supBody p0 p1 p2 p3 p4) supScope .none kV dc pm an (.ref cda) ct cc), osl⟩)
    (lD : K.lookup cda = some ⟨ccl, cdd, .fields vs, ccs⟩) (lc : K.lookup cc = some ⟨cl, cld, .cell (some (.ref C)), csl⟩)
    (v2 : vs[2]? = some (.str file tf)) (vf : ((P.main.file : Str) == file) = true) (pl : (p2.endLine == p3.line) = true)
    (ck : chk0 K PE C fI (.ref cda) qual = true) : Cls0 P K mg PE x C := by
  obtain ⟨c1, c2⟩ := Bool.and_eq_true_iff.mp ck
  obtain ⟨c2, c3⟩ := Bool.and_eq_true_iff.mp c2
  obtain ⟨c3, c4⟩ := Bool.and_eq_true_iff.mp c3
  obtain ⟨c4, c5⟩ := Bool.and_eq_true_iff.mp c4
  obtain ⟨c5, c6⟩ := Bool.and_eq_true_iff.mp c5
  obtain ⟨e, n⟩ := er_mk S.toSh lC c1
  exact ⟨e, n, ⟨fI, e.oex, iC, of_decide_eq_true c2, ⟨oc, od, qual, kV, dc, pm, ct, an, cda, cc, osl, p, p0, p1, p2, p3, p4, ccl, cdd, vs, ccs, file, tf, cl, cld, csl, lI, c3, lD, v2, vf, lc, pl⟩, S.gs, S.top, S.third, of_decide_eq_true c4, of_decide_eq_true c5, of_decide_eq_true c6⟩, PySem.W.mg_of X G aC⟩
theorem sh0_mk (X : K.In h) (G : h.Ns mainGlobals mg) (hn : PySem.W.specialIn K (.builtin "object.__class__") "__get__" = some (some (.builtin "getset_descriptor.__get__"))) (ht : PySem.W.takesIn K (.builtin "object.__class__") = some true)
    (gs : PySem.W.nsIn K mainGlobals "super" = some none) (top : (P.main.scope.names.lookup ("super" : Str)).isSome = false) (third : PySem.W.nsIn K cStatics "thirdparty.any" = some none) : Sh0 P K mg := ⟨⟨hn, ht⟩, PySem.W.mg_none_of X G gs, top, third⟩
end
end LawK
set_option maxHeartbeats 4000000
namespace LawK
open PySem PySem.Spec PyProof.Rows L2 Ev

theorem dec_int {a b : Int} : decide (V.int a = V.int b) = decide (a = b) := by
  by_cases h : a = b
  · rw [h, decide_eq_true rfl, decide_eq_true rfl]
  · rw [decide_eq_false h, decide_eq_false (fun e => h (V.int.inj e))]
theorem dec_str {a b : Str} : decide (V.str a = V.str b) = decide (a = b) := by
  by_cases h : a = b
  · rw [h, decide_eq_true rfl, decide_eq_true rfl]
  · rw [decide_eq_false h, decide_eq_false (fun e => h (V.str.inj e))]
/-- what is never reached -/
theorem ps_dead {X : Cx} {st : Stmt} : PS X st (fun _ _ _ => False) := ⟨fun pins s σ H D I q => q.elim⟩
/-- the class of libraries, as it stands at C -/
structure LibC (K : PySem.W.Frag) (mg : Str → Option Value) (C fI : Addr) (fdI : FuncData) : Prop where
  mak : Mk K C fI
  cl : Cls K C
  nt : NoAttr K C "texts"
  FI : Fun K "__init__" "Library.__init__" (inClass (topS 13) 0) fI fdI
  bI : Binds K fdI ["self", "texts"] []
  g : mg "Library" = some (.ref C)
/-- a library of these texts, at s -/
structure LibAt (H : Hp) (C s : Addr) (ts : List Str) : Prop where
  ex : ∃ dx a, H s = some (.ins C dx [("texts", .ref a)]) ∧ H a = some (.tup (ts.map V.str))
  few : ts.length ≤ 8
  sg : ∀ t ∈ ts, sgB t = true
  len : ∀ t ∈ ts, t.length ≤ 200
theorem LibAt.same {H H' : Hp} {C s : Addr} {ts : List Str} (k : Same H H') (h : LibAt H C s ts) : LibAt H' C s ts := by
  obtain ⟨⟨dx, a, h1, h2⟩, h3, h4, h5⟩ := h
  exact ⟨⟨dx, a, k _ _ h1, k _ _ h2⟩, h3, h4, h5⟩
theorem lk1 {a : V} : ([("texts", a)] : List (Str × V)).lookup ("texts" : Str) = some a := by simp [List.lookup]
/-- a text by its number -/
abbrev tx (ts : List Str) (i : Nat) : Str := ts.getD i Str.empty
abbrev Pl := Nat × Nat
structure InT (ts : List Str) (p : Pl) : Prop where
  text : p.1 < ts.length
  at_ : p.2 < (tx ts p.1).length
/-- a pair of numbers -/
def PAt (H : Hp) (v : V) (p : Pl) : Prop := ∃ b, v = .ref b ∧ H b = some (.tup [.int (p.1 : Nat), .int (p.2 : Nat)])
theorem PAt.same {H H' : Hp} {v : V} {p : Pl} (k : Same H H') (h : PAt H v p) : PAt H' v p := let ⟨b, e, q⟩ := h; ⟨b, e, k _ _ q⟩
def spLInit (C : Addr) : Sp := fun vs H Q E => ∃ (s dx a : Addr) (ts : List Str), vs = [.ref s, .ref a] ∧ H s = some (.ins C dx []) ∧ H a = some (.tup (ts.map V.str)) ∧ ts.length ≤ 8 ∧ (∀ t ∈ ts, sgB t = true) ∧ (∀ t ∈ ts, t.length ≤ 200) ∧
  ∀ H', H' s = some (.ins C dx [("texts", .ref a)]) → (∀ b u, b ≠ s → H b = some u → H' b = some u) → Q .non H'
def spPPlace (C : Addr) : Sp := fun vs H Q _ => ∃ (s : Addr) (ts : List Str) (v : V) (p : Pl), vs = [.ref s, v] ∧ LibAt H C s ts ∧ PAt H v p ∧ InT ts p ∧ Q (.bl true) H
theorem sum_le {ts : List Str} (h : ∀ t ∈ ts, t.length ≤ 200) : (ts.map fun t => (t.length : Int)).sum ≤ 200 * (ts.length : Int) := by
  induction ts with
  | nil => exact Int.le_refl _
  | cons t ts ih =>
    have a := ih fun u hu => h u (List.mem_cons_of_mem _ hu)
    have b := h t List.mem_cons_self
    simp only [List.map_cons, List.sum_cons, List.length_cons]
    omega
theorem tx_mem {ts : List Str} {i : Nat} (h : i < ts.length) : tx ts i ∈ ts := by
  unfold tx
  rw [List.getD_eq_getElem?_getD, List.getElem?_eq_getElem h]
  exact List.getElem_mem h
theorem tx_at {ts : List Str} {i : Nat} (h : i < ts.length) : (ts.map V.str)[i]? = some (.str (tx ts i)) := by
  unfold tx
  rw [List.getElem?_map, List.getD_eq_getElem?_getD, List.getElem?_eq_getElem h]
  rfl
section
variable {P : Program} {w : World} {K : PySem.W.Frag} {mg : Str → Option Value} {base : Heap}
variable {C fI : Addr} {fdI : FuncData}
abbrev sPSigns : Stmt := topS 7
theorem scPSigns : FnScope ["thing"] ["thing"] (defScope sPSigns) := ⟨rfl, rfl, rfl, by decide +kernel, rfl, by decide +kernel, by decide +kernel⟩
theorem ok_PSigns {f : Addr} {fd : FuncData} (F : Fun K "is_signs" "is_signs" sPSigns f fd)  (T : Glob mg) : FnOk P w K mg base CX0 1 f fd ["thing"] spSg := by
  refine F.ok scPSigns (fun vs H Q E h => ?_) (fun cdv A outer s H vs Q E hr h => ?_)
  · obtain ⟨x, k, rfl, _⟩ := h
    rfl
  · refine ⟨_, (pss_one (ps_ret (pe_and (pe_callB call_isi (by rfl) T.isinstance PyProof.Rows.boot_isinstance (pa_cons (pv 0) (pa_cons (pe_bltn (v := .ty "str") (by rfl) T.str (by decide +kernel) rfl) pa_nil))) (pe_and (pe_bm0 PySem.F.plainAttrs_str PySem.F.slot_str_isascii PySem.F.type_str_isascii mt_isascii (pv 0)) (pe_one (pe_bm0 PySem.F.plainAttrs_str PySem.F.slot_str_isprintable PySem.F.type_str_isprintable mt_isprintable (pv 0))))))), ?_⟩
    obtain ⟨x, k, rfl, hk, hz, q⟩ := h
    refine ⟨x, rfl, x, .ty "str", .type (Kn.name k), .type "str", kitB k .str, rfl, .ty _, Kd.tyx hk, kit_kn k .str, _, rfl, ?_⟩
    cases hk with
    | str z =>
      refine iteT ⟨.str z, rfl, rfl, z, rfl, rfl, trivial, _, rfl, ite2 (fun e => ⟨.str z, rfl, rfl, z, rfl, rfl, trivial, ?_⟩) (fun e => ?_)⟩
      · have q' : Q (.bl (sgB z)) H := q
        rw [← sgB_of, e, Bool.true_and] at q'
        exact q'
      · have e' : Txt.isascii z = false := by simpa using e
        have q' : Q (.bl (sgB z)) H := q
        rw [← sgB_of, e', Bool.false_and] at q'
        exact q'
    | non => exact iteF q
    | bl b => exact iteF q
    | int i => exact iteF q
    | lst e => exact iteF q
    | tup e => exact iteF q
    | dic e => exact iteF q
abbrev sPNumber : Stmt := topS 6
theorem scPNumber : FnScope ["thing"] ["thing"] (defScope sPNumber) := ⟨rfl, rfl, rfl, by decide +kernel, rfl, by decide +kernel, by decide +kernel⟩
theorem ok_PNumber {f : Addr} {fd : FuncData} (F : Fun K "is_number" "is_number" sPNumber f fd)   (T : Glob mg) : FnOk P w K mg base CX0 1 f fd ["thing"] spNum := by
  refine F.ok scPNumber (fun vs H Q E h => ?_) (fun cdv A outer s H vs Q E hr h => ?_)
  · obtain ⟨x, k, rfl, _⟩ := h
    rfl
  · refine ⟨_, (pss_one (ps_ret (pe_and (pe_callB call_isi (by rfl) T.isinstance PyProof.Rows.boot_isinstance (pa_cons (pv 0) (pa_cons (pe_bltn (v := .ty "int") (by rfl) T.int (by decide +kernel) rfl) pa_nil))) (pe_and (pe_not (pe_callB call_isi (by rfl) T.isinstance PyProof.Rows.boot_isinstance (pa_cons (pv 0) (pa_cons (pe_bltn (v := .ty "bool") (by rfl) T.bool (by decide +kernel) rfl) pa_nil)))) (pe_one (pe_cmpR op_ge (pv 0) pe_int (nomark _))))))), ?_⟩
    obtain ⟨x, k, rfl, hk, q⟩ := h
    refine ⟨x, rfl, x, .ty "int", .type (Kn.name k), .type "int", kitB k .int, rfl, .ty _, Kd.tyx hk, kit_kn k .int, _, rfl, ?_⟩
    cases hk with
    | int i => exact iteT ⟨.int i, rfl, .int i, .ty "bool", .type (Kn.name .int), .type "bool", kitB .int .bl, rfl, .ty _, Kd.tyx (.int i), kit_kn .int .bl, _, rfl, _, rfl, iteT ⟨.int i, rfl, _, _, rfl, rfl, q⟩⟩
    | bl b => exact iteT ⟨.bl b, rfl, .bl b, .ty "bool", .type (Kn.name .bl), .type "bool", kitB .bl .bl, rfl, .ty _, Kd.tyx (.bl b), kit_kn .bl .bl, _, rfl, _, rfl, iteF q⟩
    | str z => exact iteF q
    | non => exact iteF q
    | lst e => exact iteF q
    | tup e => exact iteF q
    | dic e => exact iteF q
abbrev sPWord : Stmt := topS 8
theorem scPWord : FnScope ["thing"] ["thing"] (defScope sPWord) := ⟨rfl, rfl, rfl, by decide +kernel, rfl, by decide +kernel, by decide +kernel⟩
theorem ok_PWord {f : Addr} {fd : FuncData} (F : Fun K "is_word" "is_word" sPWord f fd)  {fPSigns : Addr} {fdPSigns : FuncData} (DPSigns : Dk P w K mg base "is_signs" sPSigns ["thing"] 1 spSg fPSigns fdPSigns) (T : Glob mg) : FnOk P w K mg base CX0 2 f fd ["thing"] spWd := by
  refine F.ok scPWord (fun vs H Q E h => ?_) (fun cdv A outer s H vs Q E hr h => ?_)
  · obtain ⟨x, k, rfl, _⟩ := h
    rfl
  · refine ⟨_, (pss_one (ps_ret (pe_and (pe_call DPSigns.ok (hr.mono (by decide)) (by rfl) DPSigns.g DPSigns.F.kp DPSigns.b .nil pass0 (pa_cons (pv 0) pa_nil)) (pe_one (pe_cmpR op_gt (pe_callB call_lenZ (by rfl) T.len PySem.boot_len (pa_cons (pv 0) pa_nil)) pe_int (nomark _)))))), ?_⟩
    obtain ⟨x, k, rfl, hk, hz, q⟩ := h
    refine ⟨x, rfl, x, k, rfl, hk, hz, _, rfl, ite2 (fun e => ?_) (fun e => ?_)⟩
    · cases hk with
      | str z =>
        refine ⟨.str z, rfl, z, rfl, len5 (hz z rfl), _, _, rfl, rfl, ?_⟩
        have e' : sgB z = true := e
        have q' : Q (.bl (sgB z && decide ((0 : Int) < (z.length : Int)))) H := q
        rw [e', Bool.true_and] at q'
        exact q'
      | non => exact Bool.noConfusion e
      | bl b => exact Bool.noConfusion e
      | int i => exact Bool.noConfusion e
      | lst e2 => exact Bool.noConfusion e
      | tup e2 => exact Bool.noConfusion e
      | dic e2 => exact Bool.noConfusion e
    · have e' : sgV x = false := by simpa using e
      cases hk with
      | str z =>
        have e2 : sgB z = false := e'
        have q' : Q (.bl (sgB z && decide ((0 : Int) < (z.length : Int)))) H := q
        rw [e2, Bool.false_and] at q'
        exact q'
      | non => exact q
      | bl b => exact q
      | int i => exact q
      | lst e2 => exact q
      | tup e2 => exact q
      | dic e2 => exact q
abbrev sLInit : Stmt := inClass (topS 13) 0
theorem scLInit : FnScope ["self", "texts", "part", "text"] ["self", "texts"] (defScope sLInit) := ⟨rfl, rfl, rfl, by decide +kernel, rfl, by decide +kernel, by decide +kernel⟩
theorem ok_LInit (L : LibC K mg C fI fdI) {t8 t2000 : Tok} (g8 : mg "MOST_TEXTS" = some (.int 8 t8)) (g2000 : mg "MOST_SIGNS" = some (.int 2000 t2000))
    {fPSigns : Addr} {fdPSigns : FuncData} (DPSigns : Dk P w K mg base "is_signs" sPSigns ["thing"] 1 spSg fPSigns fdPSigns) (T : Glob mg) : FnOk P w K mg base (L2.CX P w) 4 fI fdI ["self", "texts"] (spLInit C) := by
  refine L.FI.okX scLInit (fun vs H Q E h => ?_) (fun cdv A outer s H vs Q E hr h => ?_)
  · obtain ⟨s, dx, a, ts, rfl, _⟩ := h
    rfl
  · obtain ⟨p, dx, a, ts, rfl, hp, ha, few, sg, lens, q⟩ := h
    refine ⟨_, (pss_cons (ps_if (PW.pt (pw_or (pt_not (pt_val (pe_callB call_isi (by rfl) T.isinstance PyProof.Rows.boot_isinstance (pa_cons (pv 1) (pa_cons (pe_bltn (v := .ty "tuple") (by rfl) T.tuple (by decide +kernel) rfl) pa_nil))))) (pw_or1 (pt_cmpR op_gt (pe_callB call_len_seq (by rfl) T.len PySem.boot_len (pa_cons (pv 1) pa_nil)) (pe_glob (v := .int 8) (by rfl) g8 ⟨_, rfl⟩) (nomark _))))) (pss_one ps_dead) pss_nil)
      (pss_cons (ps_for (passes_of rfl) rfl (pi_enumT (by rfl) T.enumerate (pa_cons (pv 1) pa_nil)) (pg_tup (by rfl) (pgs_cons (pg_name (i := 2) scLInit.nd rfl (.inl rfl)) (pgs_cons (pg_name (i := 3) scLInit.nd rfl (.inl rfl)) pgs_nil)))
        (pss_one (ps_if (pt_not (pt_val (pe_call DPSigns.ok (hr.mono (by decide)) (by rfl) DPSigns.g DPSigns.F.kp DPSigns.b .nil pass0 (pa_cons (pv 3) pa_nil)))) (pss_one ps_dead) pss_nil)))
      (pss_cons (ps_if (pt_cmpR op_gt (pe_callB (cr_sum rfl) (by rfl) T.sum (by decide +kernel) (pa_cons (pe_lc (own := [("text", 3)]) (g := gName 3) (by rfl) scLInit.nd (pi_tup (pv 1)) (blkOk_by (N := ["self", "texts", "part", "text"]) (sc := defScope sLInit) (by decide +kernel)) (fun _ _ _ _ _ => pg_name (i := 3) scLInit.nd rfl (.inl rfl)) (fun _ _ _ _ _ => pts_nil) (fun _ _ _ _ _ => (pe_callB call_lenZ (by rfl) T.len PySem.boot_len (pa_cons (pv 3) pa_nil)))) pa_nil)) (pe_glob (v := .int 2000) (by rfl) g2000 ⟨_, rfl⟩) (nomark _)) (pss_one ps_dead) pss_nil)
      (pss_one (ps_fld (pv 0) (pv 1) rfl))))), ?_⟩
    have lm : (ts.map V.str).length = ts.length := List.length_map ..
    refine ⟨.ref a, rfl, .ref a, .ty "tuple", .type (Kn.name .tup), .type "tuple", kitB .tup .tup, rfl, .ty _, Kd.tyx (.tup ha), kit_kn .tup .tup, _, rfl, iteF ?_⟩
    refine ⟨.ref a, rfl, a, _, rfl, .inr (SqT.of ha), _, _, rfl, rfl, _, rfl, ?_⟩
    rw [decide_eq_false (show ¬ (8 : Int) < (((ts.map V.str).length : Nat) : Int) by omega)]
    refine iteF ?_
    refine ⟨.ref a, rfl, a, _, rfl, SqT.of ha, for_enT (fun i σ H' => (∃ y z, σ = [some (.ref p), some (.ref a), y, z]) ∧ Same H H') ⟨⟨_, _, rfl⟩, Same.refl H⟩ (fun i σ H' q => SqT.of (q.2 _ _ ha)) ?_ ?_⟩
    · rintro i c σ H' hxi ⟨⟨y, z, rfl⟩, kH⟩ t nt
      obtain ⟨u, hu, rfl⟩ := List.mem_map.mp (List.mem_of_getElem? hxi)
      have k2 := kH.trans (Same.new (o := .tup [.int (i : Nat), .str u]) nt)
      refine ⟨t, [.int (i : Nat), .str u], rfl, SqT.of upd_same, rfl, .int (i : Nat), [.str u], rfl, .str u, [], rfl, rfl, ?_⟩
      refine ⟨.str u, rfl, .str u, .str, rfl, .str u, (fun w e => by cases e; exact Nat.le_trans (lens _ hu) (by decide)), _, rfl, ?_⟩
      rw [show sgV (.str u) = true from sg u hu]
      exact iteF ⟨⟨_, _, rfl⟩, k2⟩
    · rintro σ H' ⟨⟨y, z, rfl⟩, kH⟩
      refine ⟨.ref a, rfl, a, rfl, ⟨_, SqT.of (kH _ _ ha)⟩, fun D nD => lc_lens (i := 3) (show 3 < 4 by decide) (kH _ _ ha) nD (fun t ht => Nat.le_trans (lens t ht) (by decide)) (by omega) fun H2 hD hs => ?_⟩
      refine ⟨D, _, rfl, sq_of hD, _, _, rfl, rfl, _, rfl, ?_⟩
      have := sum_le lens
      rw [decide_eq_false (show ¬ (2000 : Int) < (ts.map fun t => (t.length : Int)).sum by omega)]
      refine iteF ?_
      have k2 := kH.trans hs
      refine ⟨.ref a, rfl, .ref p, rfl, p, C, dx, [], rfl, k2 _ _ hp, L.cl, L.nt, by decide, ?_⟩
      refine q _ upd_same fun b u nb hb => ?_
      rw [upd_ne nb]
      exact k2 _ _ hb
end
end LawK
set_option maxHeartbeats 4000000
/-! zip of any two things whose iterators can be asked: tuples and texts. -/
namespace Ev
open PySem PySem.Spec PyProof.Rows L2
section
variable {prog : Program} {w : World}
/-- how the iterator at it goes on: n items, the i-th told by G, its state at turn i by S, which hangs on the objects of fp alone -/
structure NextBy (prog : Program) (w : World) (it : Addr) (fp : List Addr) (n : Nat) (G : Nat → Value → Prop) (S : Nat → Heap → Prop) : Prop where
  mem : it ∈ fp
  keep : ∀ i h h', S i h → (∀ b ∈ fp, ∀ o, h.get? b = some o → h'.get? b = some o) → S i h'
  nxt : ∀ (A : Around) i (s : Shared) (Q : Value → Shared → Prop) (E : Value → Shared → Prop), i < n → S i s.heap →
    (∀ v h' tk, G i v → S (i + 1) h' → Heap.SameBut it s.heap h' → Q v { s with heap := h', toks := tk }) → wpAny (model prog w) A (Builtin.SmallTypes.nextOf (.ref it)) Q E s
  fin : ∀ (A : Around) i (s : Shared) (Q : Value → Shared → Prop) (E : Value → Shared → Prop), A.handled = none → n ≤ i → S i s.heap → (∀ h' e, Heap.ExtBut it s.heap h' → (∃ o, h'.get? e = some o ∧ o.cls = .type "StopIteration") → E (.ref e) { s with heap := h' }) → wpAny (model prog w) A (Builtin.SmallTypes.nextOf (.ref it)) Q E s
theorem nb_tup {it l : Addr} (ne : l ≠ it) (xs : Array Value) : NextBy prog w it [it, l] xs.size (fun i v => xs[i]? = some v) (fun i h => h.IsTupleIter it l i ∧ h.IsTuple l xs) where
  mem := List.mem_cons_self
  keep := fun i h h' st k => ⟨st.1.at fun o e => k it (by simp) o e, st.2.at fun o e => k l (by simp) o e⟩
  nxt := fun A i s Q E hi st q => RZ.nextOf_tuple_item st.1 st.2 (x := xs[i]) (by simp [hi]) fun h' a b => q _ h' s.toks (by simp [hi]) ⟨a, st.2.extBut b.extBut ne⟩ b
  fin := fun A i s Q E hh hi st q => RZ.nextOf_tuple_end hh st.1 st.2 (Array.getElem?_eq_none hi) q
theorem next_ascii {A : Around} {E : Value → Shared → Prop} {s : Shared} {it : Addr} {x : Str} {t : Tok} {i c : Nat} {Q : Value → Shared → Prop} (st : s.heap.IsStrIter it "str_ascii_iterator" x t i) (hx : x.cps[i]? = some c)
    (q : ∀ h', h'.IsStrIter it "str_ascii_iterator" x t (i + 1) → Heap.SameBut it s.heap h' → Q (.str ⟨#[c]⟩ s.toks) { s with heap := h', toks := s.toks + 1 }) : wpAny (model prog w) A (Builtin.SmallTypes.nextOf (.ref it)) Q E s := by
  obtain ⟨o, e1, e2, e3⟩ := id st
  unfold Builtin.SmallTypes.nextOf; refine wpAny_bind (wpAny_callSpecial?_slot (name := "__next__") st.typeIs F.slot_str_ascii_iterator_next (wpAny_call_entry F.slot_str_ascii_iterator_next st.typeIs F.entry_str_ascii_iterator_next ?_ (F.args_str_ascii_iterator_next_1 _)))
  show wpAny _ _ (field (.ref it) 0 >>= fun _ => _) _ _ s; apply wpAny_bind; refine wpAny_field e1 e3 (x := .str x t) rfl ?_
  show wpAny _ _ (field (.ref it) 1 >>= fun _ => _) _ _ s; apply wpAny_bind; refine wpAny_field e1 e3 (x := .int i 0) rfl ?_
  simp only [Int.toNat_natCast]; rw [hx]; apply wpAny_bind; refine wpAny_setField e1 e3 (by simp) ?_
  apply wpAny_bind; refine wpAny_mkStr (wpAny_pure ⟨_, rfl, wpAny_pure (q _ ⟨_, Heap.get?_update_self _ e1 (Obj.isFreed_of_fields (Obj.data_mapFields e3 _)), (Obj.cls_mapFields ..).trans e2, ?_⟩ (Heap.SameBut.update ..))⟩) (by show 1 ≤ sizeLine; decide)
  rw [Obj.data_mapFields e3] <;> simp [rawInt]
theorem last_ascii {A : Around} {E : Value → Shared → Prop} {s : Shared} {it : Addr} {x : Str} {t : Tok} {i : Nat} {Q : Value → Shared → Prop} (hh : A.handled = none) (st : s.heap.IsStrIter it "str_ascii_iterator" x t i) (hx : x.cps[i]? = none)
    (q : ∀ h' e, Heap.ExtBut it s.heap h' → (∃ o, h'.get? e = some o ∧ o.cls = .type "StopIteration") → E (.ref e) { s with heap := h' }) : wpAny (model prog w) A (Builtin.SmallTypes.nextOf (.ref it)) Q E s := by
  obtain ⟨o, e1, e2, e3⟩ := id st
  unfold Builtin.SmallTypes.nextOf; refine wpAny_bind (wpAny_callSpecial?_slot (name := "__next__") st.typeIs F.slot_str_ascii_iterator_next (wpAny_call_entry F.slot_str_ascii_iterator_next st.typeIs F.entry_str_ascii_iterator_next ?_ (F.args_str_ascii_iterator_next_1 _)))
  show wpAny _ _ (field (.ref it) 0 >>= fun _ => _) _ _ s; apply wpAny_bind; refine wpAny_field e1 e3 (x := .str x t) rfl ?_
  show wpAny _ _ (field (.ref it) 1 >>= fun _ => _) _ _ s; apply wpAny_bind; refine wpAny_field e1 e3 (x := .int i 0) rfl ?_
  simp only [Int.toNat_natCast]; rw [hx]; apply wpAny_bind; apply wpAny_rule; apply wpAny_bind; refine wpAny_setField e1 e3 (by simp) ?_
  apply wpAny_bind; apply wpAny_letGo; show wpAny _ _ (newExc (.type "StopIteration") [] >>= fun _ => _) _ _ _; apply wpAny_bind; simp only [newExc, newTuple]
  apply wpAny_bind; refine wpAny_newObj_type ?_ (by size_fits); refine wpAny_bind (m := firstArgMember _ _) (wpAny_of_eq (a := .none) (by first | rfl | (simp only [firstArgMember]; rfl)) ?_)
  refine wpAny_newObj_type ?_ (by size_fits); simp only [raiseNew]; apply wpAny_bind; apply wpAny_handled; first | rw [show A.in1.handled = none from hh] | rw [hh]
  refine wpAny_bind (wpAny_pure (wpAny_throw ?_)); exact q _ _ (((Heap.SameBut.update ..).extBut.push _).push _) ⟨_, Heap.get?_push_size _ rfl, rfl⟩
theorem nb_ascii {it : Addr} (x : Str) (t : Tok) : NextBy prog w it [it] x.cps.size (SignAt x) (fun i h => h.IsStrIter it "str_ascii_iterator" x t i) where
  mem := List.mem_cons_self
  keep := fun i h h' st k => let ⟨o, e, r⟩ := st; ⟨o, k it (by simp) o e, r⟩
  nxt := fun A i s Q E hi st q => next_ascii st (c := x.cps[i]) (by simp [hi]) fun h' a b => q _ h' _ ⟨_, _, by simp [hi], rfl⟩ a b
  fin := fun A i s Q E hh hi st q => last_ascii hh st (Array.getElem?_eq_none hi) q
theorem next_wide {A : Around} {E : Value → Shared → Prop} {s : Shared} {it : Addr} {x : Str} {t : Tok} {i c : Nat} {Q : Value → Shared → Prop} (st : s.heap.IsStrIter it "str_iterator" x t i) (hx : x.cps[i]? = some c)
    (q : ∀ h', h'.IsStrIter it "str_iterator" x t (i + 1) → Heap.SameBut it s.heap h' → Q (.str ⟨#[c]⟩ s.toks) { s with heap := h', toks := s.toks + 1 }) : wpAny (model prog w) A (Builtin.SmallTypes.nextOf (.ref it)) Q E s := by
  obtain ⟨o, e1, e2, e3⟩ := id st
  unfold Builtin.SmallTypes.nextOf; refine wpAny_bind (wpAny_callSpecial?_slot (name := "__next__") st.typeIs F.slot_str_iterator_next (wpAny_call_entry F.slot_str_iterator_next st.typeIs F.entry_str_iterator_next ?_ (F.args_str_iterator_next_1 _)))
  show wpAny _ _ (field (.ref it) 0 >>= fun _ => _) _ _ s; apply wpAny_bind; refine wpAny_field e1 e3 (x := .str x t) rfl ?_
  show wpAny _ _ (field (.ref it) 1 >>= fun _ => _) _ _ s; apply wpAny_bind; refine wpAny_field e1 e3 (x := .int i 0) rfl ?_
  simp only [Int.toNat_natCast]; rw [hx]; apply wpAny_bind; refine wpAny_setField e1 e3 (by simp) ?_
  apply wpAny_bind; refine wpAny_mkStr (wpAny_pure ⟨_, rfl, wpAny_pure (q _ ⟨_, Heap.get?_update_self _ e1 (Obj.isFreed_of_fields (Obj.data_mapFields e3 _)), (Obj.cls_mapFields ..).trans e2, ?_⟩ (Heap.SameBut.update ..))⟩) (by show 1 ≤ sizeLine; decide)
  rw [Obj.data_mapFields e3] <;> simp [rawInt]
theorem last_wide {A : Around} {E : Value → Shared → Prop} {s : Shared} {it : Addr} {x : Str} {t : Tok} {i : Nat} {Q : Value → Shared → Prop} (hh : A.handled = none) (st : s.heap.IsStrIter it "str_iterator" x t i) (hx : x.cps[i]? = none)
    (q : ∀ h' e, Heap.ExtBut it s.heap h' → (∃ o, h'.get? e = some o ∧ o.cls = .type "StopIteration") → E (.ref e) { s with heap := h' }) : wpAny (model prog w) A (Builtin.SmallTypes.nextOf (.ref it)) Q E s := by
  obtain ⟨o, e1, e2, e3⟩ := id st
  unfold Builtin.SmallTypes.nextOf; refine wpAny_bind (wpAny_callSpecial?_slot (name := "__next__") st.typeIs F.slot_str_iterator_next (wpAny_call_entry F.slot_str_iterator_next st.typeIs F.entry_str_iterator_next ?_ (F.args_str_iterator_next_1 _)))
  show wpAny _ _ (field (.ref it) 0 >>= fun _ => _) _ _ s; apply wpAny_bind; refine wpAny_field e1 e3 (x := .str x t) rfl ?_
  show wpAny _ _ (field (.ref it) 1 >>= fun _ => _) _ _ s; apply wpAny_bind; refine wpAny_field e1 e3 (x := .int i 0) rfl ?_
  simp only [Int.toNat_natCast]; rw [hx]; apply wpAny_bind; apply wpAny_rule; apply wpAny_bind; refine wpAny_setField e1 e3 (by simp) ?_
  apply wpAny_bind; apply wpAny_letGo; show wpAny _ _ (newExc (.type "StopIteration") [] >>= fun _ => _) _ _ _; apply wpAny_bind; simp only [newExc, newTuple]
  apply wpAny_bind; refine wpAny_newObj_type ?_ (by size_fits); refine wpAny_bind (m := firstArgMember _ _) (wpAny_of_eq (a := .none) (by first | rfl | (simp only [firstArgMember]; rfl)) ?_)
  refine wpAny_newObj_type ?_ (by size_fits); simp only [raiseNew]; apply wpAny_bind; apply wpAny_handled; first | rw [show A.in1.handled = none from hh] | rw [hh]
  refine wpAny_bind (wpAny_pure (wpAny_throw ?_)); exact q _ _ (((Heap.SameBut.update ..).extBut.push _).push _) ⟨_, Heap.get?_push_size _ rfl, rfl⟩
theorem nb_wide {it : Addr} (x : Str) (t : Tok) : NextBy prog w it [it] x.cps.size (SignAt x) (fun i h => h.IsStrIter it "str_iterator" x t i) where
  mem := List.mem_cons_self
  keep := fun i h h' st k => let ⟨o, e, r⟩ := st; ⟨o, k it (by simp) o e, r⟩
  nxt := fun A i s Q E hi st q => next_wide st (c := x.cps[i]) (by simp [hi]) fun h' a b => q _ h' _ ⟨_, _, by simp [hi], rfl⟩ a b
  fin := fun A i s Q E hh hi st q => last_wide hh st (Array.getElem?_eq_none hi) q
structure ZA (z TI TO i1 i2 : Addr) (f1 f2 : List Addr) : Prop where
  a : TI ≠ z
  b : TO ≠ z
  c : TI ≠ TO
  z1 : z ∉ f1
  z2 : z ∉ f2
  t1 : TI ∉ f1
  t2 : TI ∉ f2
  o1 : TO ∉ f1
  o2 : TO ∉ f2
  x1 : i1 ∉ f2
  x2 : i2 ∉ f1
variable {A : Around} {E : Value → Shared → Prop} {s : Shared} {z TI TO i1 i2 : Addr} {f1 f2 : List Addr} {n1 n2 : Nat} {G1 G2 : Nat → Value → Prop} {S1 S2 : Nat → Heap → Prop}
theorem NextBy.off {it : Addr} {fp : List Addr} {n : Nat} {G : Nat → Value → Prop} {S : Nat → Heap → Prop} (N : NextBy prog w it fp n G S) {i : Nat} {h h' : Heap} {q : Addr} (st : S i h) (k : Heap.SameBut q h h') (n : q ∉ fp) : S i h' :=
  N.keep i h h' st fun b hb o e => k.extBut b o (fun z => n (by rw [← z]; exact hb)) e
theorem zs_item (N1 : NextBy prog w i1 f1 n1 G1 S1) (N2 : NextBy prog w i2 f2 n2 G2 S2) (D : ZA z TI TO i1 i2 f1 f2) {a b : Value} {k : Nat} {Q : Value → Shared → Prop}
    (hz : IsZip s.heap z TI TO .none) (hI : IsPair s.heap TI (.ref i1) (.ref i2)) (hO : IsPair s.heap TO a b) (h1 : S1 k s.heap) (h2 : S2 k s.heap) (l1 : k < n1) (l2 : k < n2)
    (q : ∀ h' tk x y, G1 k x → G2 k y → IsZip h' z TI TO (rawInt s.heap.objs.size) → IsPair h' TO x y → S1 (k + 1) h' → S2 (k + 1) h' → IsPair h' s.heap.objs.size x y → h'.objs.size = s.heap.objs.size + 1 → (∀ c o, c ≠ z → c ≠ TO → c ≠ i1 → c ≠ i2 → s.heap.get? c = some o → h'.get? c = some o) → Q (.ref s.heap.objs.size) { s with heap := h', toks := tk }) : wpAny (model prog w) A (Builtin.«zip.__next__» ⟨[.ref z], []⟩) (fun fin s' => ∃ v, fin = .done (.ret v) ∧ Q v s') E s := by
  have i1z : i1 ≠ z := fun e => D.z1 (by rw [← e]; exact N1.mem)
  have i2z : i2 ≠ z := fun e => D.z2 (by rw [← e]; exact N2.mem)
  have Oi1 : TO ≠ i1 := fun e => D.o1 (by rw [e]; exact N1.mem)
  have Oi2 : TO ≠ i2 := fun e => D.o2 (by rw [e]; exact N2.mem)
  have i12 : i1 ≠ i2 := fun e => D.x1 (by rw [e]; exact N2.mem)
  show wpAny _ _ (field (.ref z) 2 >>= fun _ => _) _ _ _; apply wpAny_bind; refine wpAny_field hz rfl (x := .bool false) rfl ?_
  show wpAny _ _ (field (.ref z) 3 >>= fun _ => _) _ _ _; apply wpAny_bind; refine wpAny_field hz rfl (x := .ref TI) rfl ?_
  apply wpAny_bind; refine wpAny_seqItems hI rfl ?_; show wpAny _ _ (Builtin.SmallTypes.ownedTupleIsFree (.ref z) >>= fun _ => _) _ _ _
  apply wpAny_bind; unfold Builtin.SmallTypes.ownedTupleIsFree; apply wpAny_bind; refine wpAny_field hz rfl (x := .none) rfl (wpAny_pure ?_); simp only [if_true]
  apply wpAny_bind; apply wpAny_rule; apply wpAny_bind; refine wpAny_field hz rfl (x := .ref TO) rfl ?_
  apply wpAny_bind; refine wpAny_setField_rec hz (by simp) fun ha za sa => ?_
  have za : IsZip ha z TI TO .ellipsis := za
  apply wpAny_bind; simp only [List.zipIdx_cons, List.zipIdx_nil, List.forIn_cons, List.forIn_nil]
  apply wpAny_bind; apply wpAny_bind; apply wpAny_onRaise; show wpAny _ _ (Builtin.SmallTypes.nextOf (.ref i1) >>= fun _ => _) _ _ _
  apply wpAny_bind; refine N1.nxt _ k _ _ _ l1 (N1.off h1 sa D.z1) fun x hb tb gx st1 sb => wpAny_pure ?_
  have Ob : IsPair hb TO a b := sb.extBut _ _ Oi1 (sa.extBut _ _ D.b hO)
  apply wpAny_bind; refine wpAny_seqItems Ob rfl ?_; apply wpAny_bind; refine wpAny_updateSeq_pair Ob fun hc Oc sc => ?_
  have Oc : IsPair hc TO x b := Oc
  apply wpAny_bind; refine wpAny_letGo (wpAny_pure ?_); apply wpAny_bind; apply wpAny_bind; apply wpAny_onRaise; show wpAny _ _ (Builtin.SmallTypes.nextOf (.ref i2) >>= fun _ => _) _ _ _
  apply wpAny_bind; refine N2.nxt _ k _ _ _ l2 (N2.off (N2.off (N2.off h2 sa D.z2) sb D.x1) sc D.o2) fun y hd td gy st2 sd => wpAny_pure ?_
  have Od : IsPair hd TO x b := sd.extBut _ _ Oi2 Oc
  apply wpAny_bind; refine wpAny_seqItems Od rfl ?_; apply wpAny_bind; refine wpAny_updateSeq_pair Od fun he Oe se => ?_
  have Oe : IsPair he TO x y := Oe
  apply wpAny_bind; refine wpAny_letGo (wpAny_pure (wpAny_pure ?_)); apply wpAny_bind; refine wpAny_seqItems Oe rfl ?_; apply wpAny_bind; refine wpAny_newTuple ?_
  have sz : he.objs.size = s.heap.objs.size := by rw [se.1, sd.1, sc.1, sb.1, sa.1]
  have ze : IsZip he z TI TO .ellipsis := se.extBut _ _ D.b.symm (sd.extBut _ _ i2z.symm (sc.extBut _ _ D.b.symm (sb.extBut _ _ i1z.symm za)))
  have kp : ∀ c o, c ≠ z → c ≠ TO → c ≠ i1 → c ≠ i2 → s.heap.get? c = some o → he.get? c = some o := fun c o c1 c2 c3 c4 e => se.extBut _ _ c2 (sd.extBut _ _ c4 (sc.extBut _ _ c2 (sb.extBut _ _ c3 (sa.extBut _ _ c1 e))))
  have t1 := N1.off (N1.off (N1.off st1 sc D.o1) sd D.x2) se D.o1
  have t2 := N2.off st2 se D.o2
  have zl : z < he.objs.size := Heap.lt_size ze
  show wpAny _ _ (Builtin.SmallTypes.ownedTupleHandOut (.ref z) (.ref he.objs.size) >>= fun _ => _) _ _ _; apply wpAny_bind; unfold Builtin.SmallTypes.ownedTupleHandOut
  have zf : IsZip (he.push { cls := .type "tuple", data := .seq #[x, y] }) z TI TO .ellipsis := Heap.get?_push_of_some _ ze
  apply wpAny_bind; refine wpAny_setField_rec zf (by simp) fun hg zg sg => ?_
  have zg : IsZip hg z TI TO (rawInt he.objs.size) := zg
  refine wpAny_setField_rec zg (by simp) fun hh zh sh => ?_
  have zh : IsZip hh z TI TO (rawInt he.objs.size) := zh
  have up : ∀ c o, c ≠ z → he.get? c = some o → hh.get? c = some o := fun c o c1 e => sh.extBut _ _ c1 (sg.extBut _ _ c1 (Heap.get?_push_of_some _ e))
  have Th : IsPair hh he.objs.size x y := sh.extBut _ _ (Nat.ne_of_gt zl) (sg.extBut _ _ (Nat.ne_of_gt zl) (Heap.get?_push_size _ rfl))
  have zs : hh.objs.size = he.objs.size + 1 := by rw [sh.1, sg.1, Heap.size_push]
  rw [sz] at zh Th zs
  refine wpAny_pure ⟨_, rfl, ?_⟩
  show Q (.ref he.objs.size) _; rw [sz]
  exact q hh td x y gx gy zh (up _ _ D.b Oe) (N1.keep _ _ _ t1 fun c hc o e => up c o (fun w => D.z1 (by rw [← w]; exact hc)) e) (N2.keep _ _ _ t2 fun c hc o e => up c o (fun w => D.z2 (by rw [← w]; exact hc)) e) Th zs fun c o c1 c2 c3 c4 e => up c o c1 (kp c o c1 c2 c3 c4 e)
theorem zs_end (hh : A.handled = none) (N1 : NextBy prog w i1 f1 n1 G1 S1) (N2 : NextBy prog w i2 f2 n2 G2 S2) (D : ZA z TI TO i1 i2 f1 f2) {a b : Value} {k : Nat} {Q : PySem.Fin → Shared → Prop}
    (hz : IsZip s.heap z TI TO .none) (hI : IsPair s.heap TI (.ref i1) (.ref i2)) (hO : IsPair s.heap TO a b) (h1 : S1 k s.heap) (h2 : S2 k s.heap) (l : n1 ≤ k ∨ k < n1 ∧ n2 ≤ k)
    (q : ∀ h' tk e, (∀ c o, c ≠ z → c ≠ TO → c ≠ i1 → c ≠ i2 → s.heap.get? c = some o → h'.get? c = some o) → (∃ o, h'.get? e = some o ∧ o.cls = .type "StopIteration") → E (.ref e) { s with heap := h', toks := tk }) : wpAny (model prog w) A (Builtin.«zip.__next__» ⟨[.ref z], []⟩) Q E s := by
  have i1z : i1 ≠ z := fun e => D.z1 (by rw [← e]; exact N1.mem)
  have i2z : i2 ≠ z := fun e => D.z2 (by rw [← e]; exact N2.mem)
  have Oi1 : TO ≠ i1 := fun e => D.o1 (by rw [e]; exact N1.mem)
  show wpAny _ _ (field (.ref z) 2 >>= fun _ => _) _ _ _; apply wpAny_bind; refine wpAny_field hz rfl (x := .bool false) rfl ?_
  show wpAny _ _ (field (.ref z) 3 >>= fun _ => _) _ _ _; apply wpAny_bind; refine wpAny_field hz rfl (x := .ref TI) rfl ?_
  apply wpAny_bind; refine wpAny_seqItems hI rfl ?_; show wpAny _ _ (Builtin.SmallTypes.ownedTupleIsFree (.ref z) >>= fun _ => _) _ _ _
  apply wpAny_bind; unfold Builtin.SmallTypes.ownedTupleIsFree; apply wpAny_bind; refine wpAny_field hz rfl (x := .none) rfl (wpAny_pure ?_); simp only [if_true]
  apply wpAny_bind; apply wpAny_rule; apply wpAny_bind; refine wpAny_field hz rfl (x := .ref TO) rfl ?_
  apply wpAny_bind; refine wpAny_setField_rec hz (by simp) fun ha za sa => ?_
  have za : IsZip ha z TI TO .ellipsis := za
  apply wpAny_bind; simp only [List.zipIdx_cons, List.zipIdx_nil, List.forIn_cons, List.forIn_nil]
  apply wpAny_bind; apply wpAny_bind; apply wpAny_onRaise; show wpAny _ _ (Builtin.SmallTypes.nextOf (.ref i1) >>= fun _ => _) _ _ _
  have a1 := N1.off h1 sa D.z1
  rcases l with l | ⟨l1, l2⟩
  · apply wpAny_bind; refine N1.fin _ k _ _ _ hh l a1 fun hb e sb ⟨oe, ge, ce⟩ => ?_
    have zb : IsZip hb z TI TO .ellipsis := sb _ _ i1z.symm za
    have ez : e ≠ z := fun x => by subst x; rw [zb] at ge; cases ge; simp at ce
    refine wpAny_setField_rec zb (by simp) fun hc _ sc => q hc _ e (fun c o c1 _ c3 _ x => sc.extBut _ _ c1 (sb _ _ c3 (sa.extBut _ _ c1 x))) ⟨oe, sc.extBut _ _ ez ge, ce⟩
  · apply wpAny_bind; refine N1.nxt _ k _ _ _ l1 a1 fun x hb tb gx st1 sb => wpAny_pure ?_
    have Ob : IsPair hb TO a b := sb.extBut _ _ Oi1 (sa.extBut _ _ D.b hO)
    apply wpAny_bind; refine wpAny_seqItems Ob rfl ?_; apply wpAny_bind; refine wpAny_updateSeq_pair Ob fun hc Oc sc => ?_
    apply wpAny_bind; refine wpAny_letGo (wpAny_pure ?_); apply wpAny_bind; apply wpAny_bind; apply wpAny_onRaise; show wpAny _ _ (Builtin.SmallTypes.nextOf (.ref i2) >>= fun _ => _) _ _ _
    have a2 := N2.off (N2.off (N2.off h2 sa D.z2) sb D.x1) sc D.o2
    apply wpAny_bind; refine N2.fin _ k _ _ _ hh l2 a2 fun hd e sd ⟨oe, ge, ce⟩ => ?_
    have zd : IsZip hd z TI TO .ellipsis := sd _ _ i2z.symm (sc.extBut _ _ D.b.symm (sb.extBut _ _ i1z.symm za))
    have ez : e ≠ z := fun x => by subst x; rw [zd] at ge; cases ge; simp at ce
    refine wpAny_setField_rec zd (by simp) fun hf _ sf => q hf _ e (fun c o c1 c2 c3 c4 x => sf.extBut _ _ c1 (sd _ _ c4 (sc.extBut _ _ c2 (sb.extBut _ _ c3 (sa.extBut _ _ c1 x))))) ⟨oe, sf.extBut _ _ ez ge, ce⟩
theorem zs_next (N1 : NextBy prog w i1 f1 n1 G1 S1) (N2 : NextBy prog w i2 f2 n2 G2 S2) (D : ZA z TI TO i1 i2 f1 f2) {a b : Value} {k : Nat} {Q : Option Value → Shared → Prop}
    (hz : IsZip s.heap z TI TO .none) (hI : IsPair s.heap TI (.ref i1) (.ref i2)) (hO : IsPair s.heap TO a b) (h1 : S1 k s.heap) (h2 : S2 k s.heap) (l1 : k < n1) (l2 : k < n2)
    (q : ∀ h' tk x y, G1 k x → G2 k y → IsZip h' z TI TO (rawInt s.heap.objs.size) → IsPair h' TO x y → S1 (k + 1) h' → S2 (k + 1) h' → IsPair h' s.heap.objs.size x y → h'.objs.size = s.heap.objs.size + 1 →
      (∀ c o, c ≠ z → c ≠ TO → c ≠ i1 → c ≠ i2 → s.heap.get? c = some o → h'.get? c = some o) → Q (some (.ref s.heap.objs.size)) { s with heap := h', toks := tk }) : wpAny (model prog w) A (pyNext (.ref z)) Q E s := by
  have ty : s.TypeIs (.ref z) "zip" := ⟨_, hz, rfl⟩
  unfold pyNext; apply wpAny_bind; apply wpAny_attempt
  exact wpAny_callSpecial?_slot (name := "__next__") ty F.slot_zip_next (wpAny_call_entry F.slot_zip_next ty F.entry_zip_next (zs_item N1 N2 D hz hI hO h1 h2 l1 l2 fun h' tk x y g1 g2 b1 b2 b3 b4 b5 b6 b7 => wpAny_pure (q h' tk x y g1 g2 b1 b2 b3 b4 b5 b6 b7)) (F.args_zip_next_1 _))
theorem zs_done (hh : A.handled = none) (N1 : NextBy prog w i1 f1 n1 G1 S1) (N2 : NextBy prog w i2 f2 n2 G2 S2) (D : ZA z TI TO i1 i2 f1 f2) {a b : Value} {k : Nat} {Q : Option Value → Shared → Prop}
    (hz : IsZip s.heap z TI TO .none) (hI : IsPair s.heap TI (.ref i1) (.ref i2)) (hO : IsPair s.heap TO a b) (h1 : S1 k s.heap) (h2 : S2 k s.heap) (l : n1 ≤ k ∨ k < n1 ∧ n2 ≤ k)
    (q : ∀ h' tk, (∀ c o, c ≠ z → c ≠ TO → c ≠ i1 → c ≠ i2 → s.heap.get? c = some o → h'.get? c = some o) → Q none { s with heap := h', toks := tk }) : wpAny (model prog w) A (pyNext (.ref z)) Q E s := by
  have ty : s.TypeIs (.ref z) "zip" := ⟨_, hz, rfl⟩
  unfold pyNext; apply wpAny_bind; apply wpAny_attempt
  refine wpAny_callSpecial?_slot (name := "__next__") ty F.slot_zip_next (wpAny_call_entry F.slot_zip_next ty F.entry_zip_next (zs_end (A := A.in1) hh N1 N2 D hz hI hO h1 h2 l fun h' tk e hk he => ?_) (F.args_zip_next_1 _))
  obtain ⟨o, ge, ce⟩ := he
  apply wpAny_bind; refine wpAny_isInstance (T := "StopIteration") (b := true) ⟨o, ge, ce⟩ isSubtype_stop (wpAny_pure (q _ tk hk))
end
/-- iter(v) makes the object o, while Pre stands -/
structure IterBy (v : Value) (o : Obj) (Pre : Heap → Prop) : Prop where
  keep : ∀ {h : Heap} {o' : Obj}, Pre h → Pre (h.push o')
  it : ∀ {prog : Program} {w : World} {A : Around} {E : Value → Shared → Prop} {s : Shared} {Q : Value → Shared → Prop}, Pre s.heap → Q (.ref s.heap.objs.size) { s with heap := s.heap.push o } → wpAny (model prog w) A (pyIter v) Q E s
theorem ib_tup (l : Addr) (xs : Array Value) : IterBy (.ref l) { cls := .type "tuple_iterator", data := .fields #[.ref l, .int 0 0] } (fun h => h.IsTuple l xs) := ⟨fun h => h.push _, fun h q => wpAny_pyIter_tuple h q⟩
theorem ib_ascii (x : Str) (t : Tok) (ha : x.cps.all (· < 128) = true) : IterBy (.str x t) { cls := .type "str_ascii_iterator", data := .fields #[.str x t, .int 0 0] } (fun _ => True) := ⟨fun h => h, fun h q => wpAny_pyIter_ascii ha q⟩
theorem ib_wide (x : Str) (t : Tok) (ha : x.cps.all (· < 128) = false) : IterBy (.str x t) { cls := .type "str_iterator", data := .fields #[.str x t, .int 0 0] } (fun _ => True) := ⟨fun h => h, fun h q => wpAny_pyIter_wide ha q⟩
abbrev zh1 (h : Heap) (o1 : Obj) : Heap := h.push o1
abbrev zh2 (h : Heap) (o1 o2 : Obj) : Heap := (zh1 h o1).push o2
abbrev zh3 (h : Heap) (o1 o2 : Obj) : Heap := (zh2 h o1 o2).push { cls := .type "tuple", data := .seq #[.ref h.objs.size, .ref (zh1 h o1).objs.size] }
abbrev zh4 (h : Heap) (o1 o2 : Obj) : Heap := (zh3 h o1 o2).push { cls := .type "tuple", data := .seq #[.none, .none] }
abbrev zh5 (h : Heap) (o1 o2 : Obj) : Heap := (zh4 h o1 o2).push { cls := .type "zip", data := .fields #[.none, .bool false, .bool false, .ref (zh2 h o1 o2).objs.size, .ref (zh3 h o1 o2).objs.size] }
theorem zs_new (v1 v2 : Value) (o1 o2 : Obj) (P1 P2 : Heap → Prop) (B1 : IterBy v1 o1 P1) (B2 : IterBy v2 o2 P2) :
    Meets (Builtin.«zip.__new__» ⟨[.type "zip", v1, v2], []⟩) (fun _ R s => P1 s.heap ∧ P2 s.heap ∧ R (.ok (.ret (.ref (zh4 s.heap o1 o2).objs.size))) { s with heap := zh5 s.heap o1 o2 }) :=
  .of_wp fun prog w A R s h => by
    obtain ⟨hp, g, d, tk, os⟩ := s; obtain ⟨p1, p2, h⟩ := h
    have hsub := sub_zip
    have q1 : P1 (Shared.heap ⟨hp, g, d, tk, os⟩) := p1
    have q2 : P2 (Shared.heap ⟨hp.push o1, g, d, tk, os⟩) := B2.keep p2
    wp_walk using B1.it q1, B2.it q2
    exact ⟨_, rfl, h⟩
end Ev
set_option maxHeartbeats 4000000
/-! for .. in zip(x, y), each a tuple or a text -/
namespace Ev
open PySem PySem.Spec PyProof.Rows L2
inductive Src
  | tup (a : Addr)
  | txt (z : Str)
def Src.v : Src → V
  | .tup a => .ref a
  | .txt z => .str z
def Src.items (K : PySem.W.Frag) (H : Hp) : Src → List V → Prop
  | .tup a, xs => SqT K H a xs
  | .txt z, xs => xs = z.cps.toList.map fun c => V.str ⟨#[c]⟩
/-- a source whose iterator has been made -/
inductive Sk
  | tup (a : Addr)
  | txt (z : Str) (t : Tok) (wd : Bool)
def Sk.src : Sk → Src
  | .tup a => .tup a
  | .txt z _ _ => .txt z
def Sk.st (it : Addr) : Sk → Nat → Heap → Prop
  | .tup a => fun i h => h.IsTupleIter it a i
  | .txt z t wd => fun i h => h.IsStrIter it (if wd = true then "str_iterator" else "str_ascii_iterator") z t i
def Sk.at : Sk → List Addr
  | .tup a => [a]
  | .txt _ _ _ => []
theorem Sk.st_at {it : Addr} {k : Sk} {i : Nat} {h h' : Heap} (st : k.st it i h) (e : ∀ o, h.get? it = some o → h'.get? it = some o) : k.st it i h' := by
  cases k with
  | tup a => exact Heap.IsTupleIter.at st e
  | txt z t wd =>
    obtain ⟨o, g, r⟩ := st
    exact ⟨o, e o g, r⟩
theorem Sk.st_obj {it : Addr} {k : Sk} {i : Nat} {h : Heap} (st : k.st it i h) : ∃ o, h.get? it = some o ∧ ∀ v, o.data ≠ .cell v := by
  cases k with
  | tup a =>
    obtain ⟨o, e, _, d⟩ := st
    exact ⟨o, e, fun v q => by rw [d] at q; cases q⟩
  | txt z t wd =>
    obtain ⟨o, e, _, d⟩ := st
    exact ⟨o, e, fun v q => by rw [d] at q; cases q⟩
theorem items_inj {X : Cx} {pins : List (Addr × Obj)} {σ : L2.St} {H : Hp} {s : Shared} (I : L2.Inv X pins σ H s) {k : Src} {xs ys : List V} (h : k.items X.K H xs) (g : k.items X.K H ys) : xs = ys := by
  cases k with
  | tup a => exact I.tuple_inj h g
  | txt z => exact Eq.trans h (Eq.symm g)
theorem sk_next {X : Cx} {pins : List (Addr × Obj)} {σ : L2.St} {H : Hp} {s : Shared} (I : L2.Inv X pins σ H s) (k : Sk) (it : Addr) {xs : List V} (hx : k.src.items X.K H xs) (ne : ∀ a ∈ k.at, a ≠ it) :
    ∃ (fp : List Addr) (n : Nat) (G : Nat → Value → Prop) (S : Nat → Heap → Prop), NextBy X.prog X.w it fp n G S ∧ (∀ i, k.st it i s.heap → S i s.heap) ∧ (∀ i h, S i h → k.st it i h) ∧ (∀ b ∈ fp, b = it ∨ b ∈ k.at) ∧ n = xs.length ∧
      ∀ i v x, G i v → xs[i]? = some x → RelV x v := by
  cases k with
  | tup a =>
    have hx : SqT X.K H a xs := hx
    obtain ⟨its, rv, p, _⟩ := I.tuple hx
    refine ⟨_, _, _, _, nb_tup (ne a List.mem_cons_self) its.toArray, fun i st => ⟨st, p⟩, fun i h st => st.1, fun b hb => ?_, by rw [List.size_toArray, rv.length], fun i v x g e => ?_⟩
    · rcases List.mem_cons.mp hb with e | hb
      · exact .inl e
      · exact .inr hb
    · obtain ⟨u, hu, ru⟩ := rv.get e
      have g : its.toArray[i]? = some v := g
      rw [List.getElem?_toArray, hu] at g
      rw [← Option.some.inj g]
      exact ru
  | txt z t wd =>
    have hx : xs = z.cps.toList.map fun c => V.str ⟨#[c]⟩ := hx
    have rel : ∀ i v x, SignAt z i v → xs[i]? = some x → RelV x v := fun i v x g e => by
      obtain ⟨c, u, hc, rfl⟩ := g
      rw [hx, List.getElem?_map, Array.getElem?_toList, hc] at e
      rw [← Option.some.inj e]
      exact ⟨u, rfl⟩
    have ln : z.cps.size = xs.length := by rw [hx, List.length_map, Array.length_toList]
    cases wd with
    | false => exact ⟨_, _, _, _, nb_ascii z t, fun i st => st, fun i h st => st, fun b hb => .inl (List.mem_singleton.mp hb), ln, rel⟩
    | true => exact ⟨_, _, _, _, nb_wide z t, fun i st => st, fun i h st => st, fun b hb => .inl (List.mem_singleton.mp hb), ln, rel⟩
def ItzS (K : PySem.W.Frag) (k1 k2 : Src) : It where
  go := fun i H => ∃ (xs ys : List V) (x y : V), k1.items K H xs ∧ k2.items K H ys ∧ xs[i]? = some x ∧ ys[i]? = some y
  yld := fun i H v H' => ∃ T x y, v = .ref T ∧ H T = none ∧ H' = upd H T (.tup [x, y]) ∧ (∀ xs, k1.items K H xs → xs[i]? = some x) ∧ ∀ ys, k2.items K H ys → ys[i]? = some y
  stop := fun i H => ∃ xs ys : List V, k1.items K H xs ∧ k2.items K H ys ∧ (xs.length ≤ i ∨ ys.length ≤ i)
structure ZB (z TI TO i1 i2 : Addr) (k1 k2 : Sk) : Prop where
  nd : [z, TI, TO, i1, i2].Nodup
  off : ∀ b ∈ [z, TI, TO, i1, i2], b ∉ k1.at ∧ b ∉ k2.at
theorem ZB.za {z TI TO i1 i2 : Addr} {k1 k2 : Sk} (D : ZB z TI TO i1 i2 k1 k2) {f1 f2 : List Addr} (h1 : ∀ b ∈ f1, b = i1 ∨ b ∈ k1.at) (h2 : ∀ b ∈ f2, b = i2 ∨ b ∈ k2.at) : ZA z TI TO i1 i2 f1 f2 := by
  obtain ⟨nd, off⟩ := D
  have n := nd
  simp only [List.nodup_cons, List.mem_cons, List.not_mem_nil, or_false, not_or, List.nodup_nil, and_true, not_false_eq_true] at n
  obtain ⟨⟨a1, a2, a3, a4⟩, ⟨b1, b2, b3⟩, ⟨c1, c2⟩, d1⟩ := n
  have o1 : ∀ b ∈ [z, TI, TO, i1, i2], b ≠ i1 → b ∉ f1 := fun b hb ne m => (h1 b m).elim ne (off b hb).1
  have o2 : ∀ b ∈ [z, TI, TO, i1, i2], b ≠ i2 → b ∉ f2 := fun b hb ne m => (h2 b m).elim ne (off b hb).2
  exact ⟨Ne.symm a1, Ne.symm a2, b1, o1 z (by simp) a3, o2 z (by simp) a4, o1 TI (by simp) b2, o2 TI (by simp) b3, o1 TO (by simp) c1, o2 TO (by simp) c2, o2 i1 (by simp) d1, o1 i2 (by simp) (Ne.symm d1)⟩
def zTn (z TI TO i1 i2 : Addr) (k1 k2 : Sk) (i : Nat) (h : Heap) : Prop := IsZip h z TI TO .none ∧ IsPair h TI (.ref i1) (.ref i2) ∧ (∃ x y, IsPair h TO x y) ∧ k1.st i1 i h ∧ k2.st i2 i h
theorem zTn.lt {z TI TO i1 i2 : Addr} {k1 k2 : Sk} {i : Nat} {h : Heap} (st : zTn z TI TO i1 i2 k1 k2 i h) : ∀ b ∈ [z, TI, TO, i1, i2], b < h.objs.size := fun b hb => by
  obtain ⟨hz, hI, ⟨x, y, hO⟩, s1, s2⟩ := st
  obtain ⟨o1, e1, _⟩ := Sk.st_obj s1
  obtain ⟨o2, e2, _⟩ := Sk.st_obj s2
  simp only [List.mem_cons, List.not_mem_nil, or_false] at hb
  rcases hb with e | e | e | e | e <;> rw [e]
  · exact Heap.lt_size hz
  · exact Heap.lt_size hI
  · exact Heap.lt_size hO
  · exact Heap.lt_size e1
  · exact Heap.lt_size e2
theorem turn_zipS {P : Program} {w : World} {K : PySem.W.Frag} {elts : List Expr} {kk : Nat} {tpos : Pos} {z TI TO i1 i2 : Addr} {k1 k2 : Sk} (D : ZB z TI TO i1 i2 k1 k2) :
    Turn P w K (.Tuple elts kk tpos) (ItzS K k1.src k2.src) [z, TI, TO, i1, i2] z (zTn z TI TO i1 i2 k1 k2) where
  mem := List.mem_cons_self
  self := fun _ _ _ _ _ st h => wpAny_pyIter_zip st.1 h
  keep := fun i h h' st k => by
    obtain ⟨hz, hI, ⟨x, y, hO⟩, s1, s2⟩ := st
    exact ⟨k z (by simp) _ hz, k TI (by simp) _ hI, ⟨x, y, k TO (by simp) _ hO⟩, Sk.st_at s1 fun o e => k i1 (by simp) o e, Sk.st_at s2 fun o e => k i2 (by simp) o e⟩
  obj := fun i h st c hc => by
    obtain ⟨hz, hI, ⟨x, y, hO⟩, s1, s2⟩ := st
    simp only [List.mem_cons, List.not_mem_nil, or_false] at hc
    rcases hc with e | e | e | e | e <;> rw [e]
    · exact ⟨_, hz, fun v q => nomatch q⟩
    · exact ⟨_, hI, fun v q => nomatch q⟩
    · exact ⟨_, hO, fun v q => nomatch q⟩
    · exact Sk.st_obj s1
    · exact Sk.st_obj s2
  done := by
    intro X hP hw hK hc i pins s σ H E I hf st hg; subst hP hw hK
    obtain ⟨hz, hI, ⟨x0, y0, hO⟩, s1, s2⟩ := st
    obtain ⟨xs, ys, qx, qy, en⟩ := hg
    obtain ⟨f1, n1, G1, S1, N1, a1, b1, c1, e1, r1⟩ := sk_next I k1 i1 qx (fun a ha e => (D.off i1 (by simp)).1 (by rw [← e]; exact ha))
    obtain ⟨f2, n2, G2, S2, N2, a2, b2, c2, e2, r2⟩ := sk_next I k2 i2 qy (fun a ha e => (D.off i2 (by simp)).2 (by rw [← e]; exact ha))
    have l : n1 ≤ i ∨ i < n1 ∧ n2 ≤ i := by omega
    exact zs_done (I.ok.hd hc) N1 N2 (D.za c1 c2) hz hI hO (a1 i s1) (a2 i s2) l fun h' tk hk => ⟨rfl, I.turnedL (t' := tk) (ch := [z, TI, TO, i1, i2]) (fun c o hb q =>
      hk c o (fun e => hb (by simp [e])) (fun e => hb (by simp [e])) (fun e => hb (by simp [e])) (fun e => hb (by simp [e])) q) hf⟩
  item := by
    intro X hP hw hK hc i pins s σ H E I hf st hg; subst hP hw hK
    have lts := zTn.lt st
    obtain ⟨hz, hI, ⟨x0, y0, hO⟩, s1, s2⟩ := st
    obtain ⟨xs, ys, x, y, qx, qy, ex, ey⟩ := hg
    obtain ⟨f1, n1, G1, S1, N1, a1, b1, c1, e1, r1⟩ := sk_next I k1 i1 qx (fun a ha e => (D.off i1 (by simp)).1 (by rw [← e]; exact ha))
    obtain ⟨f2, n2, G2, S2, N2, a2, b2, c2, e2, r2⟩ := sk_next I k2 i2 qy (fun a ha e => (D.off i2 (by simp)).2 (by rw [← e]; exact ha))
    have lx := (List.getElem?_eq_some_iff.mp ex).1
    have ly := (List.getElem?_eq_some_iff.mp ey).1
    have Z := D.za c1 c2
    refine zs_next N1 N2 Z hz hI hO (a1 i s1) (a2 i s2) (by omega) (by omega) fun h' tk u u2 g1 g2 z' O' t1 t2 T' hs hk => ?_
    have ru := r1 i u x g1 ex
    have ru2 := r2 i u2 y g2 ey
    refine ⟨_, rfl, wpAny_letOwnedTupleGo_zip (s := { s with heap := h', toks := tk }) z' fun h'' z'' sb => ?_⟩
    have zl := lts z (by simp)
    have T2 : h''.get? s.heap.objs.size = some { cls := .type "tuple", data := .seq #[u, u2] } := (sb.2 _ (Nat.ne_of_gt zl)).trans T'
    have new : ObjOk X.prog X.w (upd H s.heap.objs.size (.tup [x, y])) h'' s.heap.objs.size (.tup [x, y]) := ⟨by show 2 ≤ sizeLine; decide, [u, u2], .cons ru (.cons ru2 .nil), ⟨_, T2, rfl, _, rfl⟩⟩
    have I1 : L2.Inv X pins σ (upd H s.heap.objs.size (.tup [x, y])) { s with heap := h'', toks := tk } :=
      I.turnedNew (t' := tk) (ch := [z, TI, TO, i1, i2]) (fun c o hb q => (sb.2 c (fun e => hb (by simp [e]))).trans (hk c o (fun e => hb (by simp [e])) (fun e => hb (by simp [e])) (fun e => hb (by simp [e])) (fun e => hb (by simp [e])) q)) hf (Nat.le_refl _) new
    refine ⟨.ref s.heap.objs.size, _, I1, rfl, ⟨_, x, y, rfl, I.hok.fresh (Nat.le_refl _), rfl, fun l hl => by rw [items_inj I hl qx]; exact ex, fun l hl => by rw [items_inj I hl qy]; exact ey⟩, ?_, fun c hcm => ?_⟩
    · have TI' : IsPair h' TI (.ref i1) (.ref i2) := hk _ _ Z.a Z.c (fun e => Z.t1 (by rw [e]; exact N1.mem)) (fun e => Z.t2 (by rw [e]; exact N2.mem)) hI
      exact ⟨z'', (sb.2 _ Z.a).trans TI', ⟨u, u2, (sb.2 _ Z.b).trans O'⟩, Sk.st_at (b1 _ _ t1) fun o e => (sb.2 _ fun e' => Z.z1 (by rw [← e']; exact N1.mem)).trans e, Sk.st_at (b2 _ _ t2) fun o e => (sb.2 _ fun e' => Z.z2 (by rw [← e']; exact N2.mem)).trans e⟩
    · rw [upd_ne (Nat.ne_of_lt (lts c hcm))]
      exact (hf c hcm).1
end Ev
set_option maxHeartbeats 4000000
/-! for .. in zip(x, y), each a tuple or a text: the rule -/
namespace Ev
open PySem PySem.Spec PyProof.Rows L2
theorem zb_nd (n : Nat) : [n + 4, n + 2, n + 3, n, n + 1].Nodup := by
  simp only [List.nodup_cons, List.mem_cons, List.not_mem_nil, or_false, not_or, List.nodup_nil, and_true, not_false_eq_true]
  omega
theorem zb_le (n b : Nat) (hb : b ∈ [n + 4, n + 2, n + 3, n, n + 1]) : n ≤ b := by
  simp only [List.mem_cons, List.not_mem_nil, or_false] at hb
  omega
theorem call_zs {prog : Program} {w : World} {A : Around} {E : Value → Shared → Prop} {s : Shared} {v1 v2 : Value} {o1 o2 : Obj} {P1 P2 : Heap → Prop} {Q : Value → Shared → Prop} (B1 : IterBy v1 o1 P1) (B2 : IterBy v2 o2 P2)
    (f1 : o1.isFreed = false) (f2 : o2.isFreed = false) (p1 : P1 s.heap) (p2 : P2 s.heap) (h : ∀ h', IsZip h' (s.heap.objs.size + 4) (s.heap.objs.size + 2) (s.heap.objs.size + 3) .none → IsPair h' (s.heap.objs.size + 2) (.ref s.heap.objs.size) (.ref (s.heap.objs.size + 1)) →
      IsPair h' (s.heap.objs.size + 3) .none .none → h'.get? s.heap.objs.size = some o1 → h'.get? (s.heap.objs.size + 1) = some o2 → (∀ c o, s.heap.get? c = some o → h'.get? c = some o) → Q (.ref (s.heap.objs.size + 4)) { s with heap := h' }) : wpAny (model prog w) A (call (.type "zip") [v1, v2]) Q E s := by
  refine callType_new F.called_zip (by decide) (F.typeCall_zip_2 _ _) (F.newCall_zip_2 _ _) (fun obj => F.args_object_init_3 obj _ _) F.entry_zip_new (zs_new v1 v2 o1 o2 P1 P2 B1 B2) ⟨p1, p2, ?_⟩
  have n1 : (zh1 s.heap o1).objs.size = s.heap.objs.size + 1 := Heap.size_push ..
  have n2 : (zh2 s.heap o1 o2).objs.size = s.heap.objs.size + 2 := by rw [Heap.size_push, n1]
  have n3 : (zh3 s.heap o1 o2).objs.size = s.heap.objs.size + 3 := by rw [Heap.size_push, n2]
  have n4 : (zh4 s.heap o1 o2).objs.size = s.heap.objs.size + 4 := by rw [Heap.size_push, n3]
  have g5 : (zh5 s.heap o1 o2).get? (zh4 s.heap o1 o2).objs.size = some _ := Heap.get?_push_size _ rfl
  have g4 : (zh5 s.heap o1 o2).get? (zh3 s.heap o1 o2).objs.size = some _ := Heap.get?_push_of_some _ (Heap.get?_push_size _ rfl)
  have g3 : (zh5 s.heap o1 o2).get? (zh2 s.heap o1 o2).objs.size = some _ := (fun e => Heap.get?_push_of_some _ (Heap.get?_push_of_some _ e)) (Heap.get?_push_size _ rfl)
  have g2 : (zh5 s.heap o1 o2).get? (zh1 s.heap o1).objs.size = some o2 := (fun e => Heap.get?_push_of_some _ (Heap.get?_push_of_some _ (Heap.get?_push_of_some _ e))) (Heap.get?_push_size _ f2)
  have g1 : (zh5 s.heap o1 o2).get? s.heap.objs.size = some o1 := (fun e => Heap.get?_push_of_some _ (Heap.get?_push_of_some _ (Heap.get?_push_of_some _ (Heap.get?_push_of_some _ e)))) (Heap.get?_push_size _ f1)
  show _ ∧ _
  rw [n2, n3, n4] at g5
  rw [n1, n2] at g3
  rw [n3] at g4; rw [n1] at g2; rw [n4]
  refine ⟨⟨_, g5, rfl⟩, h _ g5 g3 g4 g1 g2 fun c o x => ?_⟩
  exact (fun e => Heap.get?_push_of_some _ (Heap.get?_push_of_some _ (Heap.get?_push_of_some _ e))) (Heap.get?_push_of_some _ (Heap.get?_push_of_some _ x))
/-- a source, asked for its iterator -/
theorem src_iter {X : Cx} {pins : List (Addr × Obj)} {σ : L2.St} {H : Hp} {s : Shared} (I : L2.Inv X pins σ H s) (k : Src) {xs : List V} (hx : k.items X.K H xs) {v : Value} (r : RelV k.v v) :
    ∃ (q : Sk) (o : Obj) (Pre : Heap → Prop), q.src = k ∧ IterBy v o Pre ∧ o.isFreed = false ∧ Pre s.heap ∧ (∀ it h, h.get? it = some o → q.st it 0 h) ∧ ∀ a ∈ q.at, a < s.heap.objs.size := by
  cases k with
  | tup a =>
    have hx : SqT X.K H a xs := hx
    obtain ⟨its, rv, p, _⟩ := I.tuple hx
    cases r
    refine ⟨.tup a, _, _, rfl, ib_tup a its.toArray, rfl, p, fun it h e => ⟨_, e, rfl, rfl⟩, fun b hb => ?_⟩
    obtain ⟨o, e, _⟩ := id p
    rw [List.mem_singleton.mp hb]
    exact Heap.lt_size e
  | txt z =>
    obtain ⟨t, rfl⟩ := r
    cases ha : z.cps.all (· < 128) with
    | true => exact ⟨.txt z t false, _, _, rfl, ib_ascii z t ha, rfl, trivial, fun it h e => ⟨_, e, rfl, rfl⟩, fun b hb => nomatch hb⟩
    | false => exact ⟨.txt z t true, _, _, rfl, ib_wide z t ha, rfl, trivial, fun it h e => ⟨_, e, rfl, rfl⟩, fun b hb => nomatch hb⟩
def iZipS (K : PySem.W.Frag) (ta : TA) : TI := fun σ H R => ta σ H fun vs H1 => ∃ (k1 k2 : Src) (xs ys : List V), vs = [k1.v, k2.v] ∧ k1.items K H1 xs ∧ k2.items K H1 ys ∧ R (ItzS K k1 k2) H1
theorem pi_zipS {X : Cx} {e e2 : Expr} {ta : TA} {p pos tpos : Pos} {elts : List Expr} {kk : Nat} (hg : Gl X "zip") (hm : X.mg "zip" = none) (ha : PA X [e, e2] ta) (hs : starEach [e, e2] X.env = (false, eval e X.env) :: starEach [e2] X.env := by rfl) (hpl : (backTo pos (starEach [e2] X.env)).any (·.1) = false := by rfl) :
    PI X (.Tuple elts kk tpos) (.Call (.Name "zip" p) [e, e2] [] pos) (iZipS X.K ta) := by
  refine ⟨fun pins s σ H R I h => Call_ (ld_blt I hg hm PyProof.Rows.boot_zip (PyProof.Rows.callWith_type1 (thn (ha.run pos pins s σ H _ I h) fun us s1 ⟨vs, H1, I1, r1, q1⟩ => ?_) hs hpl))⟩
  obtain ⟨k1, k2, xs, ys, ex, hx, hy, q⟩ := q1
  subst ex
  cases r1 with
  | cons r rr =>
    cases rr with
    | cons r' rr =>
      cases rr
      obtain ⟨c1, o1, P1, e1, B1, f1, p1, g1, l1⟩ := src_iter I1 k1 hx r
      obtain ⟨c2, o2, P2, e2', B2, f2, p2, g2, l2⟩ := src_iter I1 k2 hy r'
      refine call_zs B1 B2 f1 f2 p1 p2 fun h' hz hI hO t1 t2 hk => wpAny_pyIter_zip hz ?_
      have I2 : L2.Inv X pins σ H1 { s1 with heap := h' } := I1.kept (t' := s1.toks) hk
      have D : ZB (s1.heap.objs.size + 4) (s1.heap.objs.size + 2) (s1.heap.objs.size + 3) s1.heap.objs.size (s1.heap.objs.size + 1) c1 c2 := by
        exact ⟨zb_nd _, fun b hb => ⟨fun m => absurd (l1 b m) (Nat.not_lt.mpr (zb_le _ b hb)), fun m => absurd (l2 b m) (Nat.not_lt.mpr (zb_le _ b hb))⟩⟩
      subst e1 e2'
      refine ⟨_, [s1.heap.objs.size + 4, s1.heap.objs.size + 2, s1.heap.objs.size + 3, s1.heap.objs.size, s1.heap.objs.size + 1], _, _, H1, rfl, I2, turn_zipS D, ⟨hz, hI, ⟨_, _, hO⟩, g1 _ _ t1, g2 _ _ t2⟩, fun c hc => ?_, q⟩
      have hle : s1.heap.objs.size ≤ c := zb_le _ c hc
      have no := I1.hok.fresh hle
      exact I1.fpOk hle no
theorem walk_zipS {K : PySem.W.Frag} {k1 k2 : Src} {xs ys : List V} {n : Nat} (hn : n = min xs.length ys.length) :
    Walk (ItzS K k1 k2) n (fun H => k1.items K H xs ∧ k2.items K H ys) (YPair (fun i => xs[i]?) (fun i => ys[i]?)) := by
  rw [hn]
  have go : ∀ i H, i < min xs.length ys.length → k1.items K H xs ∧ k2.items K H ys → (ItzS K k1 k2).go i H := fun i H hi q => by
    have hx : xs[i]? = some (xs[i]'(Nat.lt_of_lt_of_le hi (Nat.min_le_left _ _))) := List.getElem?_eq_getElem _
    have hy : ys[i]? = some (ys[i]'(Nat.lt_of_lt_of_le hi (Nat.min_le_right _ _))) := List.getElem?_eq_getElem _
    exact ⟨xs, ys, _, _, q.1, q.2, hx, hy⟩
  refine ⟨fun i H hi q => go i H hi q, fun _ q => ⟨xs, ys, q.1, q.2, by omega⟩, fun i H v H' _ q y => ?_⟩
  obtain ⟨T, x, z, e1, e2, e3, fx, fy⟩ := y
  exact ⟨T, x, z, e1, e2, e3, fx xs q.1, fy ys q.2⟩
end Ev
set_option maxHeartbeats 4000000
namespace LawK
open PySem PySem.Spec PyProof.Rows L2 Ev
def signV : V → Bool
  | .str z => sgB z && decide ((z.length : Int) = 1)
  | _ => false
def spSign : Sp := fun vs H Q _ => ∃ x k, vs = [x] ∧ Kd H x k ∧ Vs x ∧ Q (.bl (signV x)) H
/-! ### parts of a pattern of the law -/
inductive Prt
  | any
  | sg (c : Nat)
  | lot (cs : List Nat)
abbrev sn (c : Nat) : Str := ⟨#[c]⟩
def Prt.v : Prt → List V
  | .any => [.str "any"]
  | .sg c => [.str "sign", .str (sn c)]
  | .lot cs => [.str "lot", .str ⟨cs.toArray⟩]
structure Prt.Ok (p : Prt) : Prop where
  sg : ∀ c, p = .sg c → sgB (sn c) = true
  lot : ∀ cs, p = .lot cs → sgB ⟨cs.toArray⟩ = true ∧ 0 < cs.length ∧ cs.length ≤ 20 ∧ cs.Pairwise (· < ·)
def PrtAt (H : Hp) (v : V) (p : Prt) : Prop := ∃ a, v = .ref a ∧ H a = some (.tup p.v)
theorem PrtAt.same {H H' : Hp} {v : V} {p : Prt} (k : Same H H') (h : PrtAt H v p) : PrtAt H' v p := let ⟨a, e, q⟩ := h; ⟨a, e, k _ _ q⟩
def lets : Prt → Nat → Bool
  | .any, _ => true
  | .sg d, c => decide (c = d)
  | .lot cs, c => decide (c ∈ cs)
def spMay : Sp := fun vs H Q _ => ∃ (v : V) (p : Prt) (c : Nat), vs = [v, .str (sn c)] ∧ PrtAt H v p ∧ Q (.bl (lets p c)) H
theorem n_sa : ¬ V.str "sign" = V.str "any" := fun e => absurd (V.str.inj e) (by decide +kernel)
theorem n_la : ¬ V.str "lot" = V.str "any" := fun e => absurd (V.str.inj e) (by decide +kernel)
theorem n_as : ¬ V.str "any" = V.str "sign" := fun e => absurd (V.str.inj e) (by decide +kernel)
theorem n_ls : ¬ V.str "lot" = V.str "sign" := fun e => absurd (V.str.inj e) (by decide +kernel)
theorem sn_inj {c d : Nat} : decide (V.str (sn c) = V.str (sn d)) = decide (c = d) := decide_eq_decide.mpr ⟨fun e => by have := V.str.inj e; injection this with h; exact (Array.toList_inj.mpr h |> fun q => by simpa using q), fun e => by rw [e]⟩
section
variable {P : Program} {w : World} {K : PySem.W.Frag} {mg : Str → Option Value} {base : Heap}
abbrev sPSign : Stmt := topS 9
theorem scPSign : FnScope ["thing"] ["thing"] (defScope sPSign) := ⟨rfl, rfl, rfl, by decide +kernel, rfl, by decide +kernel, by decide +kernel⟩
theorem ok_PSign {f : Addr} {fd : FuncData} (F : Fun K "is_sign" "is_sign" sPSign f fd)  {fPSigns : Addr} {fdPSigns : FuncData} (DPSigns : Dk P w K mg base "is_signs" sPSigns ["thing"] 1 spSg fPSigns fdPSigns) (T : Glob mg) : FnOk P w K mg base CX0 2 f fd ["thing"] spSign := by
  refine F.ok scPSign (fun vs H Q E h => ?_) (fun cdv A outer s H vs Q E hr h => ?_)
  · obtain ⟨x, k, rfl, _⟩ := h
    rfl
  · refine ⟨_, (pss_one (ps_ret (pe_and (pe_call DPSigns.ok (hr.mono (by decide)) (by rfl) DPSigns.g DPSigns.F.kp DPSigns.b .nil pass0 (pa_cons (pv 0) pa_nil)) (pe_one (pe_cmpR op_eq (pe_callB call_len (by rfl) T.len PySem.boot_len (pa_cons (pv 0) pa_nil)) pe_int (nomark _)))))), ?_⟩
    obtain ⟨x, k, rfl, hk, hz, q⟩ := h
    refine ⟨x, rfl, x, k, rfl, hk, hz, _, rfl, ite2 (fun e => ?_) (fun e => ?_)⟩
    · cases hk with
      | str z =>
        refine ⟨.str z, rfl, .str z, z.length, rfl, ⟨len5 (hz z rfl), rfl⟩, rfl, ?_⟩
        have e' : sgB z = true := e
        have q' : Q (.bl (sgB z && decide ((z.length : Int) = 1))) H := q
        rw [e', Bool.true_and] at q'
        rw [dec_int]
        exact q'
      | non => exact Bool.noConfusion e
      | bl b => exact Bool.noConfusion e
      | int i => exact Bool.noConfusion e
      | lst e2 => exact Bool.noConfusion e
      | tup e2 => exact Bool.noConfusion e
      | dic e2 => exact Bool.noConfusion e
    · have e' : sgV x = false := by simpa using e
      cases hk with
      | str z =>
        have e2 : sgB z = false := e'
        have q' : Q (.bl (sgB z && decide ((z.length : Int) = 1))) H := q
        rw [e2, Bool.false_and] at q'
        exact q'
      | non => exact q
      | bl b => exact q
      | int i => exact q
      | lst e2 => exact q
      | tup e2 => exact q
      | dic e2 => exact q
abbrev sPMayBe : Stmt := topS 25
theorem scPMayBe : FnScope ["part", "sign"] ["part", "sign"] (defScope sPMayBe) := ⟨rfl, rfl, rfl, by decide +kernel, rfl, by decide +kernel, by decide +kernel⟩
theorem ok_PMayBe {f : Addr} {fd : FuncData} (F : Fun K "may_be" "may_be" sPMayBe f fd)   (T : Glob mg) : FnOk P w K mg base CX0 1 f fd ["part", "sign"] spMay := by
  refine F.ok scPMayBe (fun vs H Q E h => ?_) (fun cdv A outer s H vs Q E hr h => ?_)
  · obtain ⟨v, p, c, rfl, _⟩ := h
    rfl
  · refine ⟨_, (pss_cons (ps_if (pt_cmpR op_eq (pe_ix ix_tup (pv 0) pe_int (fun _ _ => rfl)) pe_str (nomark _))
      (pss_one (ps_ret pe_bl))
      pss_nil)
      (pss_one (ps_ret (pe_cmpR op_inS (pv 1) (pe_ix ix_tup (pv 0) pe_int (fun _ _ => rfl)) rfl)))), ?_⟩
    obtain ⟨v, p, c, rfl, ⟨a, rfl, ha⟩, q⟩ := h
    refine ⟨.ref a, rfl, a, _, 0, _, rfl, rfl, SqT.of ha, (by cases p <;> rfl : atI p.v 0 = some (p.v.headD .non)), by cases p <;> rfl, _, rfl, ?_⟩
    cases p with
    | any => exact ite2 (fun _ => q) (fun n => absurd (decide_eq_true rfl) n)
    | sg d =>
      refine ite2 (fun e => absurd (of_decide_eq_true e) n_sa) (fun _ => ?_)
      refine ⟨.str (sn c), rfl, .ref a, rfl, a, _, 1, .str (sn d), rfl, rfl, SqT.of ha, rfl, c, sn d, rfl, rfl, ?_⟩
      rw [show decide (c ∈ (sn d).cps.toList) = decide (c = d) from decide_eq_decide.mpr List.mem_singleton]
      exact q
    | lot cs =>
      refine ite2 (fun e => absurd (of_decide_eq_true e) n_la) (fun _ => ?_)
      exact ⟨.str (sn c), rfl, .ref a, rfl, a, _, 1, .str ⟨cs.toArray⟩, rfl, rfl, SqT.of ha, rfl, c, ⟨cs.toArray⟩, rfl, rfl, q⟩

abbrev sLets : Stmt := topS 37
theorem scLets : FnScope ["part", "sign"] ["part", "sign"] (defScope sLets) := ⟨rfl, rfl, rfl, by decide +kernel, rfl, by decide +kernel, by decide +kernel⟩
theorem ok_Lets {f : Addr} {fd : FuncData} (F : Fun K "_law_lets" "_law_lets" sLets f fd)   (T : Glob mg) : FnOk P w K mg base CX0 1 f fd ["part", "sign"] spMay := by
  refine F.ok scLets (fun vs H Q E h => ?_) (fun cdv A outer s H vs Q E hr h => ?_)
  · obtain ⟨v, p, c, rfl, _⟩ := h
    rfl
  · refine ⟨_, (pss_cons (ps_if (pt_cmpR op_eq (pe_ix ix_tup (pv 0) pe_int (fun _ _ => rfl)) pe_str (nomark _))
      (pss_one (ps_ret (pe_cmpR op_eq (pv 1) (pe_ix ix_tup (pv 0) pe_int (fun _ _ => rfl)) (nomark _))))
      pss_nil)
      (pss_one (ps_ret (pe_or (pe_cmpR op_eq (pe_ix ix_tup (pv 0) pe_int (fun _ _ => rfl)) pe_str (nomark _)) (pe_one (pe_cmpR op_inS (pv 1) (pe_ix ix_tup (pv 0) pe_int (fun _ _ => rfl)) rfl)))))), ?_⟩
    obtain ⟨v, p, c, rfl, ⟨a, rfl, ha⟩, q⟩ := h
    refine ⟨.ref a, rfl, a, _, 0, _, rfl, rfl, SqT.of ha, (by cases p <;> rfl : atI p.v 0 = some (p.v.headD .non)), by cases p <;> rfl, _, rfl, ?_⟩
    cases p with
    | any =>
      refine ite2 (fun e => absurd (of_decide_eq_true e) n_as) (fun _ => ?_)
      exact ⟨.ref a, rfl, a, _, 0, .str "any", rfl, rfl, SqT.of ha, rfl, rfl, _, rfl, iteT q⟩
    | sg d =>
      refine ite2 (fun _ => ?_) (fun n => absurd (decide_eq_true rfl) n)
      refine ⟨.str (sn c), rfl, .ref a, rfl, a, _, 1, .str (sn d), rfl, rfl, SqT.of ha, rfl, rfl, ?_⟩
      rw [sn_inj]
      exact q
    | lot cs =>
      refine ite2 (fun e => absurd (of_decide_eq_true e) n_ls) (fun _ => ?_)
      refine ⟨.ref a, rfl, a, _, 0, .str "lot", rfl, rfl, SqT.of ha, rfl, rfl, _, rfl, ite2 (fun e => absurd (of_decide_eq_true e) n_la) (fun _ => ?_)⟩
      exact ⟨.str (sn c), rfl, .ref a, rfl, a, _, 1, .str ⟨cs.toArray⟩, rfl, rfl, SqT.of ha, rfl, c, ⟨cs.toArray⟩, rfl, rfl, q⟩

end
end LawK
set_option maxHeartbeats 4000000
/-! Slices by natural bounds. -/
namespace Ev
open PySem PySem.Spec PyProof.Rows L2
theorem sIx_int {n d : Nat} {i : Int} (h : 0 ≤ i) : HT.sIx n d (some i) = min i.toNat n := by
  show (if i < 0 then (i + (n : Int)).toNat else min i.toNat n) = _
  rw [if_neg (by omega)]
theorem cutV_to {xs : List V} {i : Int} (h : 0 ≤ i) : cutV xs none (some i) = xs.take i.toNat := by
  unfold cutV
  rw [sIx_int h]
  show (xs.drop 0).take (min i.toNat xs.length - 0) = _
  rw [List.drop_zero, Nat.sub_zero, ← List.take_eq_take_min]
theorem cutV_from {xs : List V} {i : Int} (h : 0 ≤ i) : cutV xs (some i) none = xs.drop i.toNat := by
  unfold cutV
  rw [sIx_int h]
  show (xs.drop (min i.toNat xs.length)).take (xs.length - min i.toNat xs.length) = _
  rw [List.take_of_length_le (by rw [List.length_drop]; exact Nat.le_refl _)]
  by_cases g : i.toNat ≤ xs.length
  · rw [Nat.min_eq_left g]
  · rw [Nat.min_eq_right (by omega), List.drop_length, List.drop_of_length_le (by omega)]
theorem cutV_set {xs : List V} {i : Int} {z : V} (h : 0 ≤ i) (h2 : i < xs.length) : cutV xs none (some i) ++ [z] ++ cutV xs (some (i + 1)) none = xs.set i.toNat z := by
  rw [cutV_to h, cutV_from (by omega)]
  have e : (i + 1).toNat = i.toNat + 1 := by omega
  rw [e, List.set_eq_take_append_cons_drop, if_pos (by omega)]
  simp
theorem cutS_to {z : Str} {i : Int} (h : 0 ≤ i) : (cutS z none (some i)).cps.toList = z.cps.toList.take i.toNat := by
  have e : (cutS z none (some i)).cps.toList = (z.cps.toList.drop 0).take (HT.sIx z.length z.length (some i) - 0) := by simp [cutS, HT.sIx]
  rw [e, sIx_int h, List.drop_zero, Nat.sub_zero, len_S, ← List.take_eq_take_min]
theorem cutS_from {z : Str} {i : Int} (h : 0 ≤ i) : (cutS z (some i) none).cps.toList = z.cps.toList.drop i.toNat := by
  have e : (cutS z (some i) none).cps.toList = (z.cps.toList.drop (HT.sIx z.length 0 (some i))).take (z.length - HT.sIx z.length 0 (some i)) := by simp [cutS, HT.sIx]
  rw [e, sIx_int h, len_S]
  rw [List.take_of_length_le (by rw [List.length_drop]; exact Nat.le_refl _)]
  by_cases g : i.toNat ≤ z.cps.toList.length
  · rw [Nat.min_eq_left g]
  · rw [Nat.min_eq_right (by omega), List.drop_length, List.drop_of_length_le (by omega)]
theorem cutS_of {z : Str} {i j : Int} (h : 0 ≤ i) (h2 : i ≤ j) : (cutS z (some i) (some j)).cps.toList = (z.cps.toList.drop i.toNat).take (j - i).toNat := by
  have e : (cutS z (some i) (some j)).cps.toList = (z.cps.toList.drop (HT.sIx z.length 0 (some i))).take (HT.sIx z.length z.length (some j) - HT.sIx z.length 0 (some i)) := by simp [cutS]
  rw [e, sIx_int h, sIx_int (by omega), len_S]
  apply List.ext_getElem?
  intro k
  rw [List.getElem?_take, List.getElem?_take, List.getElem?_drop, List.getElem?_drop]
  by_cases g : i.toNat ≤ z.cps.toList.length
  · rw [Nat.min_eq_left g]
    by_cases a : k < (j - i).toNat
    · rw [if_pos a]
      by_cases b : k < min j.toNat z.cps.toList.length - i.toNat
      · rw [if_pos b]
      · rw [if_neg b]
        exact (List.getElem?_eq_none (by omega)).symm
    · rw [if_neg a, if_neg (by omega)]
  · rw [List.getElem?_eq_none (show z.cps.toList.length ≤ i.toNat + k by omega), if_neg (by omega)]
    split <;> rfl
end Ev
set_option maxHeartbeats 4000000
namespace LawK
open PySem PySem.Spec PyProof.Rows L2 Ev

structure LotOk (cs : List Nat) : Prop where
  sg : sgB ⟨cs.toArray⟩ = true
  pos : 0 < cs.length
  few : cs.length ≤ 20
  asc : cs.Pairwise (· < ·)
def spIsLot : Sp := fun vs H Q _ => ∃ (cs : List Nat), vs = [.str ⟨cs.toArray⟩] ∧ LotOk cs ∧ ∀ H', Same H H' → Q (.bl true) H'
def spIsPart : Sp := fun vs H Q _ => ∃ (v : V) (p : Prt), vs = [v] ∧ PrtAt H v p ∧ p.Ok ∧ ∀ H', Same H H' → Q (.bl true) H'
/-- a pattern of the law: its parts -/
structure PatV (H : Hp) (vs : List V) (ps : List Prt) : Prop where
  len : vs.length = ps.length
  at_ : ∀ (i : Nat) v p, vs[i]? = some v → ps[i]? = some p → PrtAt H v p
  ok : ∀ p ∈ ps, p.Ok
theorem PatV.same {H H' : Hp} {vs : List V} {ps : List Prt} (k : Same H H') (h : PatV H vs ps) : PatV H' vs ps := ⟨h.len, fun i v p e1 e2 => (h.at_ i v p e1 e2).same k, h.ok⟩
theorem PatV.get {H : Hp} {vs : List V} {ps : List Prt} (h : PatV H vs ps) {i : Nat} {v : V} (e : vs[i]? = some v) : ∃ p, ps[i]? = some p ∧ PrtAt H v p ∧ p.Ok := by
  have hi := (List.getElem?_eq_some_iff.mp e).1
  have hp : i < ps.length := by rw [← h.len]; exact hi
  exact ⟨ps[i], List.getElem?_eq_getElem hp, h.at_ i v _ e (List.getElem?_eq_getElem hp), h.ok _ (List.getElem_mem hp)⟩
def spIsPat : Sp := fun vs H Q _ => ∃ (a : Addr) (us : List V) (ps : List Prt), vs = [.ref a] ∧ H a = some (.tup us) ∧ PatV H us ps ∧ 1 ≤ ps.length ∧ ps.length ≤ 30 ∧ ∀ H', Same H H' → Q (.bl true) H'
section
variable {P : Program} {w : World} {K : PySem.W.Frag} {mg : Str → Option Value} {base : Heap}

abbrev sQIsLot : Stmt := topS 22
theorem scQIsLot : FnScope ["thing", "one", "other"] ["thing"] (defScope sQIsLot) := ⟨rfl, rfl, rfl, by decide +kernel, rfl, by decide +kernel, by decide +kernel⟩
theorem ok_QIsLot {f : Addr} {fd : FuncData} (F : Fun K "_is_lot" "_is_lot" sQIsLot f fd) {tL : Tok} (gL : mg "MOST_IN_LOT" = some (.int 20 tL)) {fPWord : Addr} {fdPWord : FuncData} (DPWord : Dk P w K mg base "is_word" sPWord ["thing"] 2 spWd fPWord fdPWord) (T : Glob mg) : FnOk P w K mg base CX0 3 f fd ["thing"] spIsLot := by
  refine F.ok scQIsLot (fun vs H Q E h => ?_) (fun cdv A outer s H vs Q E hr h => ?_)
  · obtain ⟨cs, rfl, _⟩ := h
    rfl
  · refine ⟨_, (pss_cons (ps_if (PW.pt (pw_or (pt_not (pt_val (pe_call DPWord.ok (hr.mono (by decide)) (by rfl) DPWord.g DPWord.F.kp DPWord.b .nil pass0 (pa_cons (pv 0) pa_nil)))) (pw_or1 (pt_cmpR op_gt (pe_callB call_lenZ (by rfl) T.len PySem.boot_len (pa_cons (pv 0) pa_nil)) (pe_glob (v := .int 20) (by rfl) gL ⟨_, rfl⟩) (nomark _)))))
      (pss_one (ps_ret pe_bl))
      pss_nil)
      (pss_one (ps_ret (pe_callB (cr_all rfl) (by rfl) T.all (by decide +kernel) (pa_cons (pe_lc (own := [("one", 1), ("other", 2)]) (g := (gTup K 2 (gCons (gName 1) (gCons (gName 2) gNil)))) (by rfl) scQIsLot.nd (pi_zipS (by rfl) T.zip (pa_cons (pv 0) (pa_cons (pe_slice sl_str (pv 0) (po_some pe_int) po_none) pa_nil))) (blkOk_by (N := ["thing", "one", "other"]) (sc := defScope sQIsLot) (by decide +kernel)) (fun _ _ _ _ _ => pg_tup (by rfl) (pgs_cons (pg_name (i := 1) scQIsLot.nd rfl (.inl rfl)) (pgs_cons (pg_name (i := 2) scQIsLot.nd rfl (.inl rfl)) pgs_nil))) (fun _ _ _ _ _ => pts_nil) (fun _ _ _ _ _ => (pe_cmpR op_lt_str (pv 1) (pv 2) (nomark _)))) pa_nil))))), ?_⟩
    obtain ⟨cs, rfl, ok, q⟩ := h
    have ln : Str.length ⟨cs.toArray⟩ = cs.length := rfl
    have l20 := ok.few
    have l0 := ok.pos
    refine ⟨.str ⟨cs.toArray⟩, rfl, .str ⟨cs.toArray⟩, .str, rfl, .str _, (fun w e => by cases e; rw [ln]; exact Nat.le_trans l20 (by decide)), _, rfl, ?_⟩
    rw [show wordV (.str ⟨cs.toArray⟩) = true by show (sgB ⟨cs.toArray⟩ && decide ((0 : Int) < ((cs.length : Nat) : Int))) = true; rw [ok.sg, decide_eq_true (by omega)]; rfl]
    refine iteF ?_
    refine ⟨.str ⟨cs.toArray⟩, rfl, ⟨cs.toArray⟩, rfl, len5 (by rw [ln]; exact Nat.le_trans l20 (by decide)), _, _, rfl, rfl, _, rfl, ?_⟩
    rw [decide_eq_false (show ¬ (20 : Int) < ((Str.length ⟨cs.toArray⟩ : Nat) : Int) by rw [ln]; omega)]
    refine iteF ?_
    have hz' : (cutS ⟨cs.toArray⟩ (some 1) none).cps.toList = cs.drop 1 := cutS_from (z := ⟨cs.toArray⟩) (i := 1) (by decide)
    refine ⟨.str ⟨cs.toArray⟩, rfl, .str ⟨cs.toArray⟩, rfl, _, rfl, ⟨cs.toArray⟩, rfl, len5 (by rw [ln]; exact Nat.le_trans l20 (by decide)), .txt ⟨cs.toArray⟩, .txt (cutS ⟨cs.toArray⟩ (some 1) none), cs.map fun c => V.str ⟨#[c]⟩, (cs.drop 1).map fun c => V.str ⟨#[c]⟩, rfl, rfl, by rw [← hz']; rfl, fun D nD => lc_it (walk_zipS (K := K) (k1 := .txt ⟨cs.toArray⟩) (k2 := .txt (cutS ⟨cs.toArray⟩ (some 1) none)) (xs := cs.map fun c => V.str ⟨#[c]⟩) (ys := (cs.drop 1).map fun c => V.str ⟨#[c]⟩) (n := cs.length - 1) (by rw [List.length_map, List.length_map, List.length_drop]; omega)) (fun i H' => Same H H' ∧ H' D = some (.lst (List.replicate i (V.bl true)))) ⟨Same.new nD, upd_same⟩ (fun i H' _ _ => ⟨rfl, by show _ = _; rw [hz']⟩) ?_ ?_⟩
    · rintro i v H3 H4 hi ⟨k3, hD⟩ ⟨t, y1, y2, rfl, nt, rfl, e1, e2⟩
      have kt := Same.new (H := H3) (o := .tup [y1, y2]) nt
      have h1 : i < cs.length := by omega
      have h2 : 1 + i < cs.length := by omega
      have e1 : (cs.map fun c => V.str ⟨#[c]⟩)[i]? = some y1 := e1
      have e2 : ((cs.drop 1).map fun c => V.str ⟨#[c]⟩)[i]? = some y2 := e2
      rw [List.getElem?_map, List.getElem?_eq_getElem h1] at e1
      rw [List.getElem?_map, List.getElem?_drop, List.getElem?_eq_getElem h2] at e2
      have e1 := Option.some.inj e1
      have e2 := Option.some.inj e2
      have lt : cs[i] < cs[1 + i] := List.pairwise_iff_getElem.mp ok.asc i (1 + i) h1 h2 (by omega)
      subst e1 e2
      refine ⟨t, _, rfl, SqT.of upd_same, rfl, _, _, rfl, _, [], rfl, rfl, rfl, _, rfl, _, rfl, sn cs[i], sn cs[1 + i], rfl, rfl, _, kt _ _ hD, ?_, sameAt (k3.trans kt) nD, ?_⟩
      · rw [List.length_replicate]
        have h3 : sizeLine = 16777216 := sizeLine_eq
        omega
      · rw [upd_same, List.replicate_succ', show decide ((sn cs[i]).cps.toList < (sn cs[1 + i]).cps.toList) = true from decide_eq_true (List.Lex.rel lt)]
    · rintro H3 ⟨k3, hD⟩
      refine ⟨D, List.replicate (cs.length - 1) true, rfl, sq_of (by rw [hD, List.map_replicate]), ?_⟩
      rw [show (List.replicate (cs.length - 1) true).all id = true from List.all_eq_true.mpr fun b hb => (List.mem_replicate.mp hb).2]
      exact q _ k3

abbrev sQIsPart : Stmt := topS 23
theorem scQIsPart : FnScope ["thing", "word"] ["thing"] (defScope sQIsPart) := ⟨rfl, rfl, rfl, by decide +kernel, rfl, by decide +kernel, by decide +kernel⟩
theorem ok_QIsPart {f : Addr} {fd : FuncData} (F : Fun K "_is_part" "_is_part" sQIsPart f fd) {tG : Tok} (gG : mg "MOST_GAP" = some (.int 20 tG)) {fQIsLot : Addr} {fdQIsLot : FuncData} (DQIsLot : Dk P w K mg base "_is_lot" sQIsLot ["thing"] 3 spIsLot fQIsLot fdQIsLot) {fPNumber : Addr} {fdPNumber : FuncData} (DPNumber : Dk P w K mg base "is_number" sPNumber ["thing"] 1 spNum fPNumber fdPNumber) {fPSign : Addr} {fdPSign : FuncData} (DPSign : Dk P w K mg base "is_sign" sPSign ["thing"] 2 spSign fPSign fdPSign) (T : Glob mg) : FnOk P w K mg base CX0 4 f fd ["thing"] spIsPart := by
  refine F.ok scQIsPart (fun vs H Q E h => ?_) (fun cdv A outer s H vs Q E hr h => ?_)
  · obtain ⟨v, p, rfl, _⟩ := h
    rfl
  · refine ⟨_, (pss_cons (ps_if (PW.pt (pw_or (pt_not (pt_val (pe_callB call_isi (by rfl) T.isinstance PyProof.Rows.boot_isinstance (pa_cons (pv 0) (pa_cons (pe_bltn (v := .ty "tuple") (by rfl) T.tuple (by decide +kernel) rfl) pa_nil))))) (pw_or (pt_cmpR op_eq (pe_callB call_len_seq (by rfl) T.len PySem.boot_len (pa_cons (pv 0) pa_nil)) pe_int (nomark _)) (pw_or1 (pt_not (pt_val (pe_callB call_isi (by rfl) T.isinstance PyProof.Rows.boot_isinstance (pa_cons (pe_ix ix_tup (pv 0) pe_int (fun _ _ => rfl)) (pa_cons (pe_bltn (v := .ty "str") (by rfl) T.str (by decide +kernel) rfl) pa_nil)))))))))
      (pss_one (ps_ret pe_bl))
      pss_nil)
      (pss_cons (ps_set (i := 1) scQIsPart.nd rfl (.inl rfl) (pe_ix ix_tup (pv 0) pe_int (fun _ _ => rfl)))
      (pss_cons (ps_if (pt_cmpR op_eq (pv 1) pe_str (nomark _))
      (pss_one (ps_ret (pe_cmpR op_eq (pe_callB call_len_seq (by rfl) T.len PySem.boot_len (pa_cons (pv 0) pa_nil)) pe_int (nomark _))))
      pss_nil)
      (pss_cons (ps_if (pt_cmpR op_eq (pv 1) pe_str (nomark _))
      (pss_one (ps_ret (pe_and (pe_cmpR op_eq (pe_callB call_len_seq (by rfl) T.len PySem.boot_len (pa_cons (pv 0) pa_nil)) pe_int (nomark _)) (pe_one (pe_call DPSign.ok (hr.mono (by decide)) (by rfl) DPSign.g DPSign.F.kp DPSign.b .nil pass0 (pa_cons (pe_ix ix_tup (pv 0) pe_int (fun _ _ => rfl)) pa_nil))))))
      pss_nil)
      (pss_cons (ps_if (pt_cmpR op_eq (pv 1) pe_str (nomark _))
      (pss_one (ps_ret (pe_and (pe_cmpR op_eq (pe_callB call_len_seq (by rfl) T.len PySem.boot_len (pa_cons (pv 0) pa_nil)) pe_int (nomark _)) (pe_one (pe_call DQIsLot.ok (hr.mono (by decide)) (by rfl) DQIsLot.g DQIsLot.F.kp DQIsLot.b .nil pass0 (pa_cons (pe_ix ix_tup (pv 0) pe_int (fun _ _ => rfl)) pa_nil))))))
      pss_nil)
      (pss_cons (ps_if (PW.pt (pw_or (pt_cmpR op_ne (pv 1) pe_str (nomark _)) (pw_or (pt_cmpR op_ne (pe_callB call_len_seq (by rfl) T.len PySem.boot_len (pa_cons (pv 0) pa_nil)) pe_int (nomark _)) (pw_or (pt_not (pt_val (pe_call DPNumber.ok (hr.mono (by decide)) (by rfl) DPNumber.g DPNumber.F.kp DPNumber.b .nil pass0 (pa_cons (pe_ix ix_tup (pv 0) pe_int (fun _ _ => rfl)) pa_nil)))) (pw_or1 (pt_not (pt_val (pe_call DPNumber.ok (hr.mono (by decide)) (by rfl) DPNumber.g DPNumber.F.kp DPNumber.b .nil pass0 (pa_cons (pe_ix ix_tup (pv 0) pe_int (fun _ _ => rfl)) pa_nil)))))))))
      (pss_one (ps_ret pe_bl))
      pss_nil)
      (pss_one (ps_ret (pe_chain op_le op_le (pe_ix ix_tup (pv 0) pe_int (fun _ _ => rfl)) (pe_ix ix_tup (pv 0) pe_int (fun _ _ => rfl)) (pe_glob (v := .int 20) (by rfl) gG ⟨_, rfl⟩)))))))))), ?_⟩
    obtain ⟨v, p, rfl, ⟨a, rfl, ha⟩, ok, q⟩ := h
    refine ⟨.ref a, rfl, .ref a, .ty "tuple", .type (Kn.name .tup), .type "tuple", kitB .tup .tup, rfl, .ty _, Kd.tyx (.tup ha), kit_kn .tup .tup, _, rfl, iteF ?_⟩
    refine ⟨.ref a, rfl, a, _, rfl, .inr (SqT.of ha), rfl, _, rfl, ?_⟩
    rw [dec_int]
    cases p with
    | any =>
      refine iteF ⟨.ref a, rfl, a, _, 0, .str "any", rfl, rfl, SqT.of ha, rfl, .str "any", .ty "str", .type (Kn.name .str), .type "str", kitB .str .str, rfl, .ty _, Kd.tyx (.str "any"), kit_kn .str .str, _, rfl, iteF ?_⟩
      refine ⟨.ref a, rfl, a, _, 0, .str "any", rfl, rfl, SqT.of ha, rfl, .str "any", rfl, rfl, _, rfl, iteT ?_⟩
      exact ⟨.ref a, rfl, a, _, rfl, .inr (SqT.of ha), rfl, q _ fun _ _ h => h⟩
    | sg d =>
      refine iteF ⟨.ref a, rfl, a, _, 0, .str "sign", rfl, rfl, SqT.of ha, rfl, .str "sign", .ty "str", .type (Kn.name .str), .type "str", kitB .str .str, rfl, .ty _, Kd.tyx (.str "sign"), kit_kn .str .str, _, rfl, iteF ?_⟩
      refine ⟨.ref a, rfl, a, _, 0, .str "sign", rfl, rfl, SqT.of ha, rfl, .str "sign", rfl, rfl, _, rfl, ite2 (fun e => absurd (of_decide_eq_true e) n_sa) fun _ => ?_⟩
      refine ⟨.str "sign", rfl, rfl, _, rfl, iteT ?_⟩
      refine ⟨.ref a, rfl, a, _, rfl, .inr (SqT.of ha), rfl, _, rfl, iteT ?_⟩
      refine ⟨.ref a, rfl, a, _, 1, .str (sn d), rfl, rfl, SqT.of ha, rfl, .str (sn d), .str, rfl, .str _, (fun w e => by cases e; exact (by decide : 1 ≤ 5000)), ?_⟩
      rw [show signV (.str (sn d)) = true by show (sgB (sn d) && decide ((((sn d).length : Nat) : Int) = 1)) = true; rw [ok.sg d rfl]; rfl]
      exact q _ fun _ _ h => h
    | lot cs =>
      refine iteF ⟨.ref a, rfl, a, _, 0, .str "lot", rfl, rfl, SqT.of ha, rfl, .str "lot", .ty "str", .type (Kn.name .str), .type "str", kitB .str .str, rfl, .ty _, Kd.tyx (.str "lot"), kit_kn .str .str, _, rfl, iteF ?_⟩
      refine ⟨.ref a, rfl, a, _, 0, .str "lot", rfl, rfl, SqT.of ha, rfl, .str "lot", rfl, rfl, _, rfl, ite2 (fun e => absurd (of_decide_eq_true e) n_la) fun _ => ?_⟩
      refine ⟨.str "lot", rfl, rfl, _, rfl, ite2 (fun e => absurd (of_decide_eq_true e) n_ls) fun _ => ?_⟩
      refine ⟨.str "lot", rfl, rfl, _, rfl, iteT ?_⟩
      refine ⟨.ref a, rfl, a, _, rfl, .inr (SqT.of ha), rfl, _, rfl, iteT ?_⟩
      obtain ⟨k1, k2, k3, k4⟩ := ok.lot cs rfl
      exact ⟨.ref a, rfl, a, _, 1, .str ⟨cs.toArray⟩, rfl, rfl, SqT.of ha, rfl, cs, rfl, ⟨k1, k2, k3, k4⟩, q⟩

abbrev sPIsPattern : Stmt := topS 24
theorem scPIsPattern : FnScope ["thing", "gaps", "part", "one", "other"] ["thing"] (defScope sPIsPattern) := ⟨rfl, rfl, rfl, by decide +kernel, rfl, by decide +kernel, by decide +kernel⟩
theorem ok_PIsPattern {f : Addr} {fd : FuncData} (F : Fun K "is_pattern" "is_pattern" sPIsPattern f fd) {tP : Tok} (gP : mg "MOST_PARTS" = some (.int 30 tP)) {fQIsPart : Addr} {fdQIsPart : FuncData} (DQIsPart : Dk P w K mg base "_is_part" sQIsPart ["thing"] 4 spIsPart fQIsPart fdQIsPart) (T : Glob mg) : FnOk P w K mg base CX0 5 f fd ["thing"] spIsPat := by
  refine F.ok scPIsPattern (fun vs H Q E h => ?_) (fun cdv A outer s H vs Q E hr h => ?_)
  · obtain ⟨a, vs, ps, rfl, _⟩ := h
    rfl
  · refine ⟨_, (pss_cons (ps_if (PW.pt (pw_or (pt_not (pt_val (pe_callB call_isi (by rfl) T.isinstance PyProof.Rows.boot_isinstance (pa_cons (pv 0) (pa_cons (pe_bltn (v := .ty "tuple") (by rfl) T.tuple (by decide +kernel) rfl) pa_nil))))) (pw_or (pt_cmpR op_lt (pe_callB call_len_seq (by rfl) T.len PySem.boot_len (pa_cons (pv 0) pa_nil)) pe_int (nomark _)) (pw_or1 (pt_cmpR op_gt (pe_callB call_len_seq (by rfl) T.len PySem.boot_len (pa_cons (pv 0) pa_nil)) (pe_glob (v := .int 30) (by rfl) gP ⟨_, rfl⟩) (nomark _))))))
      (pss_one (ps_ret pe_bl))
      pss_nil)
      (pss_cons (ps_if (pt_not (pt_val (pe_callB (cr_all rfl) (by rfl) T.all (by decide +kernel) (pa_cons (pe_lc (own := [("part", 2)]) (g := gName 2) (by rfl) scPIsPattern.nd (pi_tup (pv 0)) (blkOk_by (N := ["thing", "gaps", "part", "one", "other"]) (sc := defScope sPIsPattern) (by decide +kernel)) (fun _ _ _ _ _ => pg_name (i := 2) scPIsPattern.nd rfl (.inl rfl)) (fun _ _ _ _ _ => pts_nil) (fun _ _ _ _ _ => (pe_call DQIsPart.ok (hr.mono (by decide)) (by rfl) DQIsPart.g DQIsPart.F.kp DQIsPart.b .nil pass0 (pa_cons (pv 2) pa_nil)))) pa_nil))))
      (pss_one (ps_ret pe_bl))
      pss_nil)
      (pss_cons (ps_setLc (i := 1) (own := [("part", 2)]) (g := gName 2) (by rfl) scPIsPattern.nd rfl rfl (sw_true rfl rfl rfl (by decide +kernel)) (pi_tup (pv 0)) (blkOk_by (N := ["thing", "gaps", "part", "one", "other"]) (sc := defScope sPIsPattern) (by decide +kernel)) (fun _ _ _ _ _ => pg_name (i := 2) scPIsPattern.nd rfl (.inl rfl)) (fun _ _ _ _ _ => pts_nil) (fun _ _ _ _ _ => (pe_cmpR op_eq (pe_ix (r := rIxT K) ix_tup (pv 2) pe_int (fun _ _ => rfl)) pe_str (nomark _))))
      (pss_cons (ps_if (PW.pt (pw_or (pt_val (pe_ix ix_list (pv 1) pe_int (fun _ _ => rfl))) (pw_or1 (pt_val (pe_ix ix_list (pv 1) (pe_un un_neg pe_int) (fun _ _ => rfl))))))
      (pss_one (ps_ret pe_bl))
      pss_nil)
      (pss_one (ps_ret (pe_not (pe_callB (cr_any rfl) (by rfl) T.any (by decide +kernel) (pa_cons (pe_lc (own := [("one", 3), ("other", 4)]) (g := (gTup K 2 (gCons (gName 3) (gCons (gName 4) gNil)))) (by rfl) scPIsPattern.nd (RZ.pi_zipA (by rfl) T.zip (pa_cons (pv 1) (pa_cons (pe_slice sl_list (pv 1) (po_some pe_int) po_none) pa_nil))) (blkOk_by (N := ["thing", "gaps", "part", "one", "other"]) (sc := defScope sPIsPattern) (by decide +kernel)) (fun _ _ _ _ _ => pg_tup (by rfl) (pgs_cons (pg_name (i := 3) scPIsPattern.nd rfl (.inl rfl)) (pgs_cons (pg_name (i := 4) scPIsPattern.nd rfl (.inl rfl)) pgs_nil))) (fun _ _ _ _ _ => pts_nil) (fun _ _ _ _ _ => (pe_and (pv 3) (pe_one (pv 4))))) pa_nil))))))))), ?_⟩
    obtain ⟨a, vs, ps, rfl, ha, hv, l1, l30, q⟩ := h
    have lv := hv.len
    have hq : ∀ H', Same H H' → H' a = some (.tup vs) := fun H' k => k _ _ ha
    refine ⟨.ref a, rfl, .ref a, .ty "tuple", .type (Kn.name .tup), .type "tuple", kitB .tup .tup, rfl, .ty _, Kd.tyx (.tup ha), kit_kn .tup .tup, _, rfl, iteF ?_⟩
    refine ⟨.ref a, rfl, a, _, rfl, .inr (SqT.of ha), _, _, rfl, rfl, _, rfl, ?_⟩
    rw [decide_eq_false (show ¬ ((vs.length : Nat) : Int) < 1 by omega)]
    refine iteF ⟨.ref a, rfl, a, _, rfl, .inr (SqT.of ha), _, _, rfl, rfl, _, rfl, ?_⟩
    rw [decide_eq_false (show ¬ (30 : Int) < ((vs.length : Nat) : Int) by omega)]
    refine iteF ?_
    have sz : sizeLine = 16777216 := sizeLine_eq
    refine ⟨.ref a, rfl, a, rfl, ⟨_, SqT.of ha⟩, fun D nD => lc_tup (K := K) (xs := vs) (fun i H' => Same H H' ∧ H' D = some (.lst (List.replicate i (V.bl true)))) ⟨Same.new nD, upd_same⟩ (fun i H' _ g => SqT.of (g.1 _ _ ha)) ?_ ?_⟩
    · rintro i u H2 hu ⟨k2, hD⟩
      obtain ⟨p, _, hp, ok⟩ := hv.get hu
      have li := (List.getElem?_eq_some_iff.mp hu).1
      refine ⟨rfl, u, rfl, u, p, rfl, hp.same k2, ok, fun H3 k3 => ⟨_, k3 _ _ hD, ?_, sameAt (k2.trans k3) nD, ?_⟩⟩
      · rw [List.length_replicate]
        omega
      · rw [upd_same, List.replicate_succ']
    rintro H2 ⟨k2, hD⟩
    refine ⟨D, List.replicate vs.length true, rfl, sq_of (by rw [hD, List.map_replicate]), _, rfl, ?_⟩
    rw [show (List.replicate vs.length true).all id = true from List.all_eq_true.mpr fun b hb => (List.mem_replicate.mp hb).2]
    refine iteF ?_
    have ha2 := k2 _ _ ha
    refine ⟨.ref a, rfl, a, rfl, ⟨_, SqT.of ha2⟩, fun G nG => lc_tup (K := K) (xs := vs) (fun i H' => Same H2 H' ∧ H' G = some (.lst (List.replicate i (V.bl false)))) ⟨Same.new nG, upd_same⟩ (fun i H' _ g => SqT.of (g.1 _ _ ha2)) ?_ ?_⟩
    · rintro i u H3 hu ⟨k3, hG⟩
      obtain ⟨p, _, ⟨b, rfl, hb⟩, ok⟩ := hv.get hu
      have li := (List.getElem?_eq_some_iff.mp hu).1
      refine ⟨rfl, .ref b, rfl, b, p.v, 0, _, rfl, rfl, SqT.of (k3 _ _ (k2 _ _ hb)), (by cases p <;> rfl : atI p.v 0 = some (p.v.headD .non)), by cases p <;> rfl, _, hG, ?_, sameAt k3 nG, ?_⟩
      · rw [List.length_replicate]
        omega
      · rw [upd_same, List.replicate_succ']
        have : decide (p.v.headD .non = V.str "gap") = false := decide_eq_false (by cases p with
          | any => exact fun e => absurd (V.str.inj e) (by decide +kernel)
          | sg c => exact fun e => absurd (V.str.inj e) (by decide +kernel)
          | lot cs => exact fun e => absurd (V.str.inj e) (by decide +kernel))
        rw [this]
    rintro H3 ⟨k3, hG⟩
    obtain ⟨m, hm⟩ : ∃ m, vs.length = m + 1 := ⟨vs.length - 1, by omega⟩
    rw [hm] at hG
    have g0 : atI (List.replicate (m + 1) (V.bl false)) 0 = some (V.bl false) := atI_nat (by rw [List.replicate_succ]; rfl)
    have g1 : atI (List.replicate (m + 1) (V.bl false)) (-1) = some (V.bl false) := by rw [List.replicate_succ']; exact atI_last _ _
    refine ⟨.ref G, rfl, G, _, 0, .bl false, rfl, rfl, sq_of hG, g0, _, rfl, iteF ?_⟩
    refine ⟨.ref G, rfl, _, rfl, G, _, -1, .bl false, rfl, rfl, sq_of hG, g1, _, rfl, iteF ?_⟩
    refine ⟨.ref G, rfl, .ref G, rfl, _, rfl, G, _, rfl, sq_of hG, fun p np => ?_⟩
    obtain ⟨ys, ey⟩ : ∃ ys, ys = cutV (List.replicate (m + 1) (V.bl false)) (some 1) none := ⟨_, rfl⟩
    rw [← ey]
    have my : ∀ y ∈ ys, y = V.bl false := fun y hy => by
      rw [ey] at hy
      exact (List.mem_replicate.mp (List.mem_of_mem_drop (List.mem_of_mem_take hy))).2
    have kp := Same.new (H := H3) (o := .lst ys) np
    refine ⟨G, p, List.replicate (m + 1) (V.bl false), ys, rfl, .inl ⟨sq_of (kp _ _ hG), sq_of upd_same, fun R nR => ?_⟩⟩
    have hp4 : upd H3 p (.lst ys) p = some (.lst ys) := upd_same
    have hG4 := kp _ _ hG
    have k4 := k3.trans kp
    revert hp4 hG4 k4 nR
    generalize upd H3 p (.lst ys) = H4
    intro nR hp4 hG4 k4
    refine lc_it (walk_zip (K := K) (a := G) (b := p) (xs := List.replicate (m + 1) (V.bl false)) (ys := ys) (n := min (m + 1) ys.length) (by rw [List.length_replicate])) (fun i H' => Same H4 H' ∧ H' R = some (.lst (List.replicate i (V.bl false)))) ⟨Same.new nR, upd_same⟩ (fun i H' _ g => ⟨sq_of (g.1 _ _ hG4), sq_of (g.1 _ _ hp4)⟩) ?_ ?_
    · rintro i v H5 H6 hi ⟨k5, hR⟩ ⟨t, y1, y2, rfl, nt, rfl, e1, e2⟩
      have kt := Same.new (H := H5) (o := .tup [y1, y2]) nt
      have e1 : y1 = V.bl false := (List.mem_replicate.mp (List.mem_of_getElem? e1)).2
      have e2 : y2 = V.bl false := my _ (List.mem_of_getElem? e2)
      subst e1 e2
      refine ⟨t, _, rfl, SqT.of upd_same, rfl, _, _, rfl, _, [], rfl, rfl, rfl, .bl false, rfl, false, rfl, iteF ⟨_, kt _ _ hR, ?_, sameAt (k5.trans kt) nR, ?_⟩⟩
      · rw [List.length_replicate]
        omega
      · rw [upd_same, List.replicate_succ']
    rintro H5 ⟨k5, hR⟩
    refine ⟨R, List.replicate (min (m + 1) ys.length) false, rfl, sq_of (by rw [hR, List.map_replicate]), _, rfl, ?_⟩
    rw [show (List.replicate (min (m + 1) ys.length) false).any id = false from List.any_eq_false.mpr fun b hb => by rw [(List.mem_replicate.mp hb).2]; exact Bool.false_ne_true]
    exact q _ ((k2.trans k4).trans k5)

end
end LawK
set_option linter.all false
set_option maxRecDepth 100000
set_option maxHeartbeats 4000000
/-! Texts in order, what neighbours have in common, and their pieces in order. -/
namespace LawK
abbrev LN := List Nat
theorem ltc {a b : Nat} {x y : LN} : (a :: x < b :: y) ↔ (a < b ∨ a = b ∧ x < y) := List.cons_lt_cons_iff
theorem ltn {x : LN} : ¬ x < ([] : LN) := List.not_lt_nil x
theorem nlc {a : Nat} {x : LN} : ([] : LN) < a :: x := List.nil_lt_cons a x
theorem lirr (x : LN) : ¬ x < x := List.lt_irrefl x
theorem ltr {x y z : LN} (h : x < y) (k : y < z) : x < z := List.lt_trans h k
theorem ltri (x y : LN) : x < y ∨ x = y ∨ y < x := by
  induction x generalizing y with
  | nil => cases y with
    | nil => exact .inr (.inl rfl)
    | cons b y => exact .inl nlc
  | cons a x ih => cases y with
    | nil => exact .inr (.inr nlc)
    | cons b y =>
      rcases Nat.lt_trichotomy a b with h | h | h
      · exact .inl (ltc.mpr (.inl h))
      · subst h
        rcases ih y with k | k | k
        · exact .inl (ltc.mpr (.inr ⟨rfl, k⟩))
        · exact .inr (.inl (by rw [k]))
        · exact .inr (.inr (ltc.mpr (.inr ⟨rfl, k⟩)))
      · exact .inr (.inr (ltc.mpr (.inl h)))
theorem lle {x y z : LN} (h : ¬ y < x) (k : ¬ z < y) : ¬ z < x := fun e => by
  rcases ltri x y with a | a | a
  · exact k (ltr e a)
  · rw [a] at e; exact k e
  · exact h a
theorem llt {x y z : LN} (h : ¬ y < x) (k : y < z) : x < z := by
  rcases ltri x z with a | a | a
  · exact a
  · rw [← a] at k; exact absurd k h
  · exact absurd (ltr k a) h
theorem pre_le {x y : LN} (h : x <+: y) : ¬ y < x := by
  obtain ⟨t, rfl⟩ := h
  induction x with
  | nil => exact ltn
  | cons a x ih =>
    intro e
    rcases ltc.mp e with k | ⟨_, k⟩
    · exact absurd k (Nat.lt_irrefl _)
    · exact ih k
theorem pre_lt {x y : LN} (h : x <+: y) (n : x ≠ y) : x < y := by
  rcases ltri x y with a | a | a
  · exact a
  · exact absurd a n
  · exact absurd a (pre_le h)
theorem between {w x y : LN} (h : ¬ x < w) (k : ¬ y < x) (p : w <+: y) : w <+: x := by
  induction w generalizing x y with
  | nil => exact List.nil_prefix
  | cons c w ih =>
    obtain ⟨t, rfl⟩ := p
    cases x with
    | nil => exact absurd nlc h
    | cons d x =>
      have h1 : ¬ (d < c ∨ d = c ∧ x < w) := fun e => h (ltc.mpr e)
      have k1 : ¬ (c < d ∨ c = d ∧ w ++ t < x) := fun e => k (ltc.mpr e)
      have e : c = d := by omega
      subst e
      exact List.cons_prefix_cons.mpr ⟨rfl, ih (fun z => h1 (.inr ⟨rfl, z⟩)) (fun z => k1 (.inr ⟨rfl, z⟩)) ⟨t, rfl⟩⟩
def lcp : LN → LN → Nat
  | a :: x, b :: y => if a = b then lcp x y + 1 else 0
  | _, _ => 0
theorem lcp_le (x y : LN) : lcp x y ≤ x.length ∧ lcp x y ≤ y.length := by
  induction x generalizing y with
  | nil => exact ⟨Nat.zero_le _, Nat.zero_le _⟩
  | cons a x ih => cases y with
    | nil => exact ⟨Nat.zero_le _, Nat.zero_le _⟩
    | cons b y =>
      show (if a = b then lcp x y + 1 else 0) ≤ x.length + 1 ∧ (if a = b then lcp x y + 1 else 0) ≤ y.length + 1
      have := ih y
      split <;> omega
theorem lcp_take (x y : LN) {m : Nat} (hx : m ≤ x.length) (hy : m ≤ y.length) : x.take m = y.take m ↔ m ≤ lcp x y := by
  induction x generalizing y m with
  | nil =>
    have : m = 0 := by simpa using hx
    subst this
    simp
  | cons a x ih => cases y with
    | nil =>
      have : m = 0 := by simpa using hy
      subst this
      simp
    | cons b y => cases m with
      | zero => simp
      | succ m =>
        have q := ih y (m := m) (by simpa using hx) (by simpa using hy)
        show a :: x.take m = b :: y.take m ↔ m + 1 ≤ (if a = b then lcp x y + 1 else 0)
        rw [List.cons.injEq, q]
        split
        · rename_i e
          exact ⟨fun h => by omega, fun h => ⟨e, by omega⟩⟩
        · rename_i e
          exact ⟨fun h => absurd h.1 e, fun h => by omega⟩
theorem lcp_lt {x y : LN} (h : ¬ y < x) {m : Nat} (l : lcp x y < m) (k : m ≤ y.length) : x < y.take m := by
  induction x generalizing y m with
  | nil => cases y with
    | nil => exact absurd k (by simp; omega)
    | cons b y => cases m with
      | zero => exact absurd l (by omega)
      | succ m => exact nlc
  | cons a x ih => cases y with
    | nil => exact absurd nlc h
    | cons b y => cases m with
      | zero => exact absurd l (by omega)
      | succ m =>
        show a :: x < b :: y.take m
        have l' : (if a = b then lcp x y + 1 else 0) < m + 1 := l
        have h1 : ¬ (b < a ∨ b = a ∧ y < x) := fun e => h (ltc.mpr e)
        by_cases e : a = b
        · rw [if_pos e] at l'
          exact ltc.mpr (.inr ⟨e, ih (fun z => h1 (.inr ⟨e.symm, z⟩)) (by omega) (by simpa using k)⟩)
        · exact ltc.mpr (.inl (by omega))
/-- what the i-th has in common with the one ahead -/
def ln (s : Nat → LN) (i : Nat) : Nat := if i = 0 then 0 else lcp (s (i - 1)) (s i)
theorem ln_le (s : Nat → LN) (i : Nat) : ln s i ≤ (s i).length := by
  unfold ln
  split
  · exact Nat.zero_le _
  · exact (lcp_le _ _).2
/-- the pieces that come first with the i-th -/
def grp (s : Nat → LN) (i : Nat) : List LN := (List.range ((s i).length - ln s i)).map fun k => (s i).take (ln s i + k + 1)
def pcs (s : Nat → LN) (n : Nat) : List LN := (List.range n).flatMap (grp s)
theorem pcs_succ (s : Nat → LN) (n : Nat) : pcs s (n + 1) = pcs s n ++ grp s n := by
  unfold pcs
  rw [List.range_succ, List.flatMap_append]
  simp
def Srt (s : Nat → LN) (n : Nat) : Prop := ∀ i j, i < j → j < n → ¬ s j < s i
theorem Srt.less {s : Nat → LN} {n m : Nat} (h : Srt s n) (l : m ≤ n) : Srt s m := fun i j a b => h i j a (by omega)
theorem grp_mem {s : Nat → LN} {i : Nat} {x : LN} : x ∈ grp s i ↔ x <+: s i ∧ ln s i < x.length := by
  unfold grp
  rw [List.mem_map]
  constructor
  · rintro ⟨k, hk, rfl⟩
    have hk := List.mem_range.mp hk
    exact ⟨List.take_prefix _ _, by rw [List.length_take]; omega⟩
  · rintro ⟨p, l⟩
    have := p.length_le
    refine ⟨x.length - ln s i - 1, List.mem_range.mpr (by omega), ?_⟩
    rw [List.prefix_iff_eq_take.mp p]
    congr 1
    rw [List.length_take]
    omega
theorem pcs_le {s : Nat → LN} {n : Nat} (h : Srt s (n + 1)) {x : LN} (hx : x ∈ pcs s (n + 1)) : ¬ s n < x := by
  unfold pcs at hx
  obtain ⟨i, hi, hm⟩ := List.mem_flatMap.mp hx
  have hi := List.mem_range.mp hi
  have p := pre_le (grp_mem.mp hm).1
  rcases Nat.lt_or_ge i n with l | l
  · exact lle p (h i n l (by omega))
  · rw [show n = i by omega]
    exact p
theorem pcs_asc {s : Nat → LN} {n : Nat} (h : Srt s n) : (pcs s n).Pairwise (· < ·) := by
  induction n with
  | zero => exact List.Pairwise.nil
  | succ n ih =>
    rw [pcs_succ]
    refine List.pairwise_append.mpr ⟨ih (h.less (Nat.le_succ n)), ?_, fun x hx y hy => ?_⟩
    · unfold grp
      refine List.pairwise_map.mpr (List.Pairwise.imp_of_mem (fun {a b} ha hb l => ?_) List.pairwise_lt_range)
      have ha := List.mem_range.mp ha
      have hb := List.mem_range.mp hb
      have e : (s n).take (ln s n + a + 1) = ((s n).take (ln s n + b + 1)).take (ln s n + a + 1) := by
        rw [List.take_take, Nat.min_eq_left (by omega)]
      refine pre_lt (by rw [e]; exact List.take_prefix _ _) fun z => ?_
      have := congrArg List.length z
      rw [List.length_take, List.length_take] at this
      omega
    · obtain ⟨p, l⟩ := grp_mem.mp hy
      cases n with
      | zero => exact absurd hx (by simp [pcs])
      | succ n =>
        have q := pcs_le (h.less (Nat.le_succ _)) hx
        have l2 : lcp (s n) (s (n + 1)) < y.length := l
        have := lcp_lt (h n (n + 1) (by omega) (by omega)) l2 p.length_le
        rw [← List.prefix_iff_eq_take.mp p] at this
        exact llt q this
theorem pcs_mem {s : Nat → LN} {n : Nat} {x : LN} : x ∈ pcs s n ↔ x ≠ [] ∧ ∃ i, i < n ∧ x <+: s i := by
  constructor
  · intro h
    obtain ⟨i, hi, hm⟩ := List.mem_flatMap.mp h
    obtain ⟨p, l⟩ := grp_mem.mp hm
    exact ⟨fun e => by rw [e] at l; exact absurd l (by simp), i, List.mem_range.mp hi, p⟩
  · rintro ⟨ne, i, hi, p⟩
    induction i with
    | zero =>
      refine List.mem_flatMap.mpr ⟨0, List.mem_range.mpr hi, grp_mem.mpr ⟨p, ?_⟩⟩
      have : ln s 0 = 0 := rfl
      rw [this]
      exact List.length_pos_iff.mpr ne
    | succ i ih =>
      by_cases l : ln s (i + 1) < x.length
      · exact List.mem_flatMap.mpr ⟨i + 1, List.mem_range.mpr hi, grp_mem.mpr ⟨p, l⟩⟩
      · have l2 : x.length ≤ lcp (s i) (s (i + 1)) := Nat.le_of_not_lt l
        have q := lcp_le (s i) (s (i + 1))
        have e := (lcp_take (s i) (s (i + 1)) (m := x.length) (by omega) (by omega)).mpr l2
        refine ih (by omega) ?_
        rw [List.prefix_iff_eq_take.mp p]
        have : ((s (i + 1)).take x.length).length = x.length := by rw [List.length_take]; omega
        rw [← e]
        exact List.take_prefix _ _
theorem pcs_pre (s : Nat → LN) {m n : Nat} (h : m ≤ n) : pcs s m <+: pcs s n := by
  induction n with
  | zero =>
    rw [show m = 0 by omega]
    exact List.prefix_rfl
  | succ n ih =>
    rcases Nat.lt_or_ge m (n + 1) with l | l
    · rw [pcs_succ]
      exact (ih (by omega)).trans (List.prefix_append _ _)
    · rw [show m = n + 1 by omega]
      exact List.prefix_rfl
theorem pcs_at (s : Nat → LN) {n i k : Nat} (h : i < n) (l : k < (s i).length - ln s i) : (pcs s n)[(pcs s i).length + k]? = some ((s i).take (ln s i + k + 1)) := by
  obtain ⟨t, ht⟩ := pcs_pre s (show i + 1 ≤ n from h)
  rw [← ht, pcs_succ, List.append_assoc, List.getElem?_append_right (Nat.le_add_right _ _), Nat.add_sub_cancel_left]
  have lg : (grp s i).length = (s i).length - ln s i := by unfold grp; rw [List.length_map, List.length_range]
  rw [List.getElem?_append_left (by rw [lg]; exact l)]
  unfold grp
  rw [List.getElem?_map, List.getElem?_range l]
  rfl
theorem pcs_len (s : Nat → LN) (n : Nat) : (pcs s (n + 1)).length = (pcs s n).length + ((s n).length - ln s n) := by
  rw [pcs_succ, List.length_append]
  unfold grp
  rw [List.length_map, List.length_range]
/-- how many are less than w -/
def cntLt (s : Nat → LN) (w : LN) (n : Nat) : Nat := ((List.range n).filter fun i => decide (s i < w)).length
theorem cnt_down {s : Nat → LN} {n : Nat} (h : Srt s n) (w : LN) : cntLt s w n ≤ n ∧ ∀ i, i < n → (s i < w ↔ i < cntLt s w n) := by
  induction n with
  | zero => exact ⟨Nat.le_refl _, fun i h => absurd h (by omega)⟩
  | succ n ih =>
    obtain ⟨l, q⟩ := ih (h.less (Nat.le_succ n))
    have e : cntLt s w (n + 1) = cntLt s w n + (if s n < w then 1 else 0) := by
      unfold cntLt
      rw [List.range_succ, List.filter_append, List.length_append]
      congr 1
      by_cases z : s n < w <;> simp [z]
    by_cases z : s n < w
    · rw [if_pos z] at e
      have all : cntLt s w n = n := by
        rcases Nat.lt_or_ge (cntLt s w n) n with g | g
        · have : ¬ s (cntLt s w n) < w := fun z => Nat.lt_irrefl _ ((q _ g).mp z)
          exact absurd (llt (h _ n g (by omega)) z) this
        · omega
      refine ⟨by omega, fun i hi => ?_⟩
      rcases Nat.lt_or_ge i n with g | g
      · exact ⟨fun _ => by omega, fun _ => (q i g).mpr (by omega)⟩
      · rw [show i = n by omega]
        exact ⟨fun _ => by omega, fun _ => z⟩
    · rw [if_neg z] at e
      refine ⟨by omega, fun i hi => ?_⟩
      rcases Nat.lt_or_ge i n with g | g
      · rw [e]; exact q i g
      · rw [show i = n by omega]
        exact ⟨fun y => absurd y z, fun y => by omega⟩
/-- the number of a piece -/
theorem pcs_no {s : Nat → LN} {n : Nat} (h : Srt s n) {w : LN} (ne : w ≠ []) {i : Nat} (hi : i < n) (p : w <+: s i) :
    cntLt s w n < n ∧ ln s (cntLt s w n) < w.length ∧ w.length ≤ (s (cntLt s w n)).length ∧ (pcs s n)[(pcs s (cntLt s w n)).length + (w.length - ln s (cntLt s w n) - 1)]? = some w := by
  obtain ⟨l, q⟩ := cnt_down h w
  have ni : ¬ i < cntLt s w n := fun z => pre_le p ((q i hi).mpr z)
  have lt : cntLt s w n < n := by omega
  have nf : ¬ s (cntLt s w n) < w := fun z => Nat.lt_irrefl _ ((q _ lt).mp z)
  have pf : w <+: s (cntLt s w n) := by
    rcases Nat.lt_or_ge (cntLt s w n) i with g | g
    · exact between nf (h _ _ g hi) p
    · rw [show cntLt s w n = i by omega]; exact p
  have lnf : ln s (cntLt s w n) < w.length := by
    rcases Nat.eq_zero_or_pos (cntLt s w n) with z | z
    · rw [z]; exact List.length_pos_iff.mpr ne
    · refine Nat.lt_of_not_le fun c => ?_
      have e : ln s (cntLt s w n) = lcp (s (cntLt s w n - 1)) (s (cntLt s w n)) := by
        unfold ln
        rw [if_neg (by omega)]
      rw [e] at c
      have ll := lcp_le (s (cntLt s w n - 1)) (s (cntLt s w n))
      have tk := (lcp_take (s (cntLt s w n - 1)) (s (cntLt s w n)) (m := w.length) (by omega) (by omega)).mpr c
      have pw : w <+: s (cntLt s w n - 1) := by
        have tp : (s (cntLt s w n - 1)).take w.length <+: s (cntLt s w n - 1) := List.take_prefix _ _
        rw [tk, ← List.prefix_iff_eq_take.mp pf] at tp
        exact tp
      exact pre_le pw ((q _ (by omega)).mpr (by omega))
  refine ⟨lt, lnf, pf.length_le, ?_⟩
  have := pf.length_le
  rw [pcs_at s lt (by omega)]
  rw [show ln s (cntLt s w n) + (w.length - ln s (cntLt s w n) - 1) + 1 = w.length by omega]
  exact congrArg some (List.prefix_iff_eq_take.mp pf).symm
end LawK
set_option maxHeartbeats 4000000
namespace Ev
open PySem PySem.Spec PyProof.Rows L2
/-! sets of keys of one kind whose table can be walked -/
section
variable {P : Program} {w : World} {K : Type} [DecidableEq K]
/-- no two of them are one key -/
def Apart (κ : KeyKind P w K) (l : List (Int × Value)) : Prop := l.Pairwise fun e f => ∀ k, κ.is k e.2 = true → κ.is k f.2 = true → False
/-- the set at a, S its members, n their number; its table rises and can be walked -/
def SetG (κ : KeyKind P w K) (h : Heap) (a : Addr) (S : K → Bool) (n : Nat) : Prop :=
  ∃ o es ep t, h.get? a = some o ∧ (o.ExactSet ∧ o.data = .set es ep t) ∧ (ElemsOf κ es.toList ∧ Apart κ es.toList) ∧ (∀ k, S k = true ↔ ∃ e ∈ es.toList, κ.is k e.2 = true) ∧ (es.size < scanBound ∧ t.fits es.size = true ∧ es.size = n) ∧ (Ris t.place.toList ∧ (w.params.followText "set-order" = true ∨ t.led = true))
variable {κ : KeyKind P w K} {h h' : Heap} {a : Addr} {S : K → Bool} {n : Nat}
theorem SetG.keep (R : SetG κ h a S n) (k : ∀ o, h.get? a = some o → h'.get? a = some o) : SetG κ h' a S n := let ⟨o, es, ep, t, ho, r⟩ := R; ⟨o, es, ep, t, k o ho, r⟩
theorem SetG.of (R : SetG κ h a S n) : h.SetOf κ a S n := let ⟨o, es, ep, t, ho, x, g, m, b, _⟩ := R; ⟨o, es, ep, t, ho, x.1, x.2, g.1, m, b⟩
theorem Apart.perm {l m : List (Int × Value)} (p : l.Perm m) (x : Apart κ l) : Apart κ m := List.Perm.pairwise p x fun {e f} q k h1 h2 => q k h2 h1
variable {A : Around} {E : Value → Shared → Prop} {s : Shared}
theorem setG_tail {g : Bool → Sem Unit} (gg : ∀ (b : Bool) (z : Shared) (W : Unit → Shared → Prop), W () z → wpAny (model P w) A (g b) W E z)
    {o : Obj} {es fs : Array (Int × Value)} {ep : Nat} {t u : SetTable} (ho : s.heap.get? a = some o) (xs : o.ExactSet) (hd : o.data = .set es ep t) (g1 : ElemsOf κ fs.toList) (n1 : Apart κ fs.toList) (m1 : ∀ k, S k = true ↔ ∃ e ∈ fs.toList, κ.is k e.2 = true)
    (b1 : fs.size < scanBound) (f1 : u.fits fs.size = true) (r1 : Ris u.place.toList) (l1 : w.params.followText "set-order" = true ∨ u.led = true) {wd : Bool} {R : Option Bool → Shared → Prop}
    (fin : ∀ z, Heap.SameBut a s.heap z → SetG κ z a S fs.size → R (some true) { s with heap := z }) :
    wpAny (model P w) A (storeSet a fs u >>= fun _ => if (!wd && u.tooFull) = true then (g (relayAll u fs (SetTable.grown fs.size)).2.2 >>= fun _ => storeSet a (relayAll u fs (SetTable.grown fs.size)).1 (relayAll u fs (SetTable.grown fs.size)).2.1 >>= fun _ => pure (some true)) else pure (some true)) R E s := by
  have put : ∀ {z : Heap} {o : Obj} {es : Array (Int × Value)} {ep : Nat} {t : SetTable} (fs : Array (Int × Value)) (u : SetTable), z.get? a = some o → o.data = .set es ep t → (z.update a (Obj.putSet fs u)).get? a = some { o with data := .set fs (ep + 1) u } := fun {z o es ep t} fs u e d => by
    have q := Heap.get?_update_self (Obj.putSet fs u) e (by rw [putSet_of fs u d] <;> rfl); rw [putSet_of fs u d] at q; exact q
  refine wpAny_bind (wpAny_storeSet_of ho hd ?_ (fits_of_scanBound b1))
  have o1 := put fs u ho hd
  have s1 := Heap.SameBut.update s.heap a (Obj.putSet fs u)
  split
  · have p2 := relayAll_perm u fs (SetTable.grown fs.size); have f2 := relayAll_fits u fs (SetTable.grown fs.size)
    have r2 := relayAll_ris u fs (SetTable.grown fs.size); have l2 := relayAll_led u fs (SetTable.grown fs.size)
    revert p2 f2 r2 l2
    generalize relayAll u fs (SetTable.grown fs.size) = Z
    obtain ⟨gs, v, gv⟩ := Z
    intro p2 f2 r2 l2; dsimp only at p2 f2 r2 l2 ⊢
    have sz : gs.size = fs.size := by have := p2.length_eq; rw [Array.length_toList, Array.length_toList] at this; exact this
    refine wpAny_bind (gg _ _ _ (wpAny_bind (wpAny_storeSet_of o1 rfl ?_ (fits_of_scanBound (by rw [sz] <;> exact b1)))))
    refine wpAny_pure (fin _ (s1.trans (Heap.SameBut.update _ a _)) ⟨_, gs, _, v, put gs v o1 rfl, ⟨xs, rfl⟩, ⟨fun e q => g1 e (p2.mem_iff.mp q), Apart.perm p2.symm n1⟩, fun k => (m1 k).trans ⟨fun ⟨e, q, z⟩ => ⟨e, p2.mem_iff.mpr q, z⟩, fun ⟨e, q, z⟩ => ⟨e, p2.mem_iff.mp q, z⟩⟩, ⟨by rw [sz] <;> exact b1, f2, sz⟩, r2, l1.imp id fun z => l2.trans z⟩)
  · exact wpAny_pure (fin _ s1 ⟨_, fs, _, u, o1, ⟨xs, rfl⟩, ⟨g1, n1⟩, m1, ⟨b1, f1, rfl⟩, r1, l1⟩)
theorem setG_hashed {k : K} {v : Value} {Q : Bool → Shared → Prop} (hv : κ.is k v = true) (sc : v.scannable = true) (R : SetG κ s.heap a S n) (room : n + 1 < scanBound)
    (q : ∀ z, Heap.SameBut a s.heap z → SetG κ z a (fun j => S j || decide (j = k)) (if S k = true then n else n + 1) → Q (!S k) { s with heap := z }) :
    wpAny (model P w) A (setAddHashed a v (κ.hash k)) Q E s := by
  obtain ⟨o, es, ep, t, ho, ⟨xs, hd⟩, ⟨hel, nd⟩, hm, ⟨hb, hf, hn⟩, hr, hl⟩ := R
  unfold setAddHashed; unfold setAddHashedIn
  refine wpAny_holding (wpAny_bind (wpAny_setState_of ho hd hf ?_)); dsimp only
  rw [byScan_of sc hb hel]; simp only [↓reduceIte]
  unfold setAddByScan
  refine wpAny_bind (wpAny_bind (wpAny_rule (wpAny_bind (wpAny_setScan_of hv ho hd hf hel ?_))))
  cases hfi : List.findIdx? (fun e => κ.is k e.2) es.toList with
  | some j =>
    dsimp only
    obtain ⟨hj, pj, _⟩ := List.findIdx?_eq_some_iff_getElem.mp hfi
    have hk : S k = true := (hm k).mpr ⟨es.toList[j], List.getElem_mem hj, pj⟩
    have q1 := q s.heap (Heap.SameBut.refl a s.heap) ⟨o, es, ep, t, ho, ⟨xs, hd⟩, ⟨hel, nd⟩, fun i => by
      rw [Bool.or_eq_true, decide_eq_true_eq, ← hm i]; exact ⟨fun z => z.elim id fun e => by rw [e] <;> exact hk, .inl⟩, ⟨hb, hf, by rw [if_pos hk] <;> exact hn⟩, hr, hl⟩
    rw [hk] at q1; exact wpAny_pure (wpAny_pure q1)
  | none =>
    dsimp only
    have nk : ∀ e ∈ es.toList, κ.is k e.2 = true → False := fun e he z => by
      have c := List.findIdx?_eq_none_iff.mp hfi e he; rw [z] at c; cases c
    have hk : S k = false := Bool.eq_false_iff.mpr fun z => let ⟨e, he, y⟩ := (hm k).mp z; nk e he y
    have gw : ∀ (b : Bool) {z : Shared} {W : Unit → Shared → Prop}, W () z → wpAny (model P w) A (match b with | true => rule "set.scan.the-table-gave-way" | false => pure ()) W E z := fun b {z W} y => by cases b <;> first | exact wpAny_pure y | exact wpAny_rule y
    have pm := layNew_perm t es (κ.hash k) v; have f1 := layNew_fits t es (κ.hash k) v
    have r1 := layNew_ris t es (κ.hash k) v hr; have l1 := layNew_led t es (κ.hash k) v
    revert pm f1 r1 l1
    generalize layNew t es (κ.hash k) v = Z
    obtain ⟨fs, u, wd, gv⟩ := Z
    intro pm f1 r1 l1; dsimp only at pm f1 r1 l1 ⊢
    rw [Array.toList_push] at pm
    have pc : fs.toList.Perm ((κ.hash k, v) :: es.toList) := pm.trans (List.perm_append_singleton _ _)
    have g1 : ElemsOf κ fs.toList := fun e he => by
      rcases List.mem_cons.mp (pc.mem_iff.mp he) with z | z
      · rw [z]; exact ⟨⟨k, hv, rfl⟩, sc⟩
      · exact hel e z
    have n1 : Apart κ fs.toList := Apart.perm pc.symm (List.pairwise_cons.mpr ⟨fun e he j x y => nk e he (by rw [← κ.inj v j k x hv] <;> exact y), nd⟩)
    have m1 : ∀ i, (S i || decide (i = k)) = true ↔ ∃ e ∈ fs.toList, κ.is i e.2 = true := fun i => by
      rw [Bool.or_eq_true, decide_eq_true_eq, hm i]
      constructor
      · rintro (⟨e, he, y⟩ | y)
        · exact ⟨e, pc.mem_iff.mpr (List.mem_cons_of_mem _ he), y⟩
        · exact ⟨_, pc.mem_iff.mpr List.mem_cons_self, by rw [y] <;> exact hv⟩
      · rintro ⟨e, he, y⟩
        rcases List.mem_cons.mp (pc.mem_iff.mp he) with z | z
        · rw [z] at y; exact .inr (κ.inj v i k y hv)
        · exact .inl ⟨e, z, y⟩
    have sz : fs.size = n + 1 := by have := pc.length_eq; rw [Array.length_toList, List.length_cons, Array.length_toList, hn] at this; exact this
    have b1 : fs.size < scanBound := by rw [sz] <;> exact room
    have ld : w.params.followText "set-order" = true ∨ u.led = true := hl.imp id fun z => l1.trans z
    have fin : ∀ z, Heap.SameBut a s.heap z → SetG κ z a (fun j => S j || decide (j = k)) fs.size → Q true { s with heap := z } := fun z sb r => by
      have q1 := q z sb; rw [hk] at q1; rw [sz] at r; exact q1 r
    have last : ∀ {u' : SetTable} {R : Option Bool → Shared → Prop} {g : Bool → Sem Unit}, (∀ (b : Bool) (z : Shared) (W : Unit → Shared → Prop), W () z → wpAny (model P w) A (g b) W E z) → u'.fits fs.size = true → Ris u'.place.toList → (w.params.followText "set-order" = true ∨ u'.led = true) → (∀ z, Heap.SameBut a s.heap z → SetG κ z a (fun j => S j || decide (j = k)) fs.size → R (some true) { s with heap := z }) → _ := fun {u' R g} gg a1 a2 a3 a4 => setG_tail (κ := κ) (wd := wd) (A := A) (E := E) (s := s) (R := R) gg ho xs hd g1 n1 m1 b1 a1 a2 a3 a4
    refine wpAny_bind (gw _ ?_)
    split
    · rw [hashByValue_scannable 8 sc]
      refine wpAny_bind (wpAny_pure (last ?_ ?_ ?_ ?_ ?_))
      · intro b z W y; cases b <;> first | exact wpAny_pure y | exact wpAny_rule y
      · first | (split <;> first | exact f1 | exact SetTable.fits_plain_off f1) | exact f1
      · first | (split <;> exact r1) | exact r1
      · first | (split <;> exact ld) | exact ld
      · intro z sb r; dsimp only; exact wpAny_pure (fin z sb r)
    · refine wpAny_bind (wpAny_pure ?_); simp only [↓reduceIte]
      refine last ?_ f1 r1 ld ?_
      · intro b z W y; cases b <;> first | exact wpAny_pure y | exact wpAny_rule y
      · intro z sb r; dsimp only; exact wpAny_pure (fin z sb r)
end
end Ev
set_option maxHeartbeats 4000000
namespace Ev
open PySem PySem.Spec PyProof.Rows L2
/-- one turn of a block's loop: the next thing, its store, the tests, then the body -/
def oneTurn (c : Code) (ip : Pos) (tg : Expr) (ifs : List Expr) (it : Value) (env : Env) (body : Sem PySem.Fin) : Sem PySem.Fin := standAt ip >>= fun _ => pyNext it >>= fun r => match r with
  | none => pure (.done .next)
  | some v => letOwnedTupleGo tg it v >>= fun _ => assign tg env v >>= fun _ => (forIn ifs true fun c r => if r = true then (do let ok ← isTrue c env (eval c env); pure (ForInStep.yield ok)) else pure (ForInStep.yield r)) >>= fun ok => if ok = true then body else again c
theorem turn_set1 (elt tg iter : Expr) (ifs : List Expr) (scope : Scope) (pos : Pos) (it acc : Value) (env : Env) :
    compTurn (.SetComp elt [⟨tg, iter, ifs, 0⟩] scope pos) 0 it acc env = oneTurn (.compLoop (.SetComp elt [⟨tg, iter, ifs, 0⟩] scope pos) 0 it acc env) iter.pos tg ifs it env ((eval elt env >>= fun v => standAt elt.pos >>= fun _ => call (.builtin "set.add") [acc, v] >>= fun _ => pure ()) >>= fun _ => again (.compLoop (.SetComp elt [⟨tg, iter, ifs, 0⟩] scope pos) 0 it acc env)) := by
  unfold oneTurn
  rfl
theorem turn_set2i (elt t0 i0 t1 i1 : Expr) (ifs0 ifs1 : List Expr) (scope : Scope) (pos : Pos) (it acc : Value) (env : Env) :
    compTurn (.SetComp elt [⟨t0, i0, ifs0, 0⟩, ⟨t1, i1, ifs1, 0⟩] scope pos) 1 it acc env = oneTurn (.compLoop (.SetComp elt [⟨t0, i0, ifs0, 0⟩, ⟨t1, i1, ifs1, 0⟩] scope pos) 1 it acc env) i1.pos t1 ifs1 it env ((eval elt env >>= fun v => standAt elt.pos >>= fun _ => call (.builtin "set.add") [acc, v] >>= fun _ => pure ()) >>= fun _ => again (.compLoop (.SetComp elt [⟨t0, i0, ifs0, 0⟩, ⟨t1, i1, ifs1, 0⟩] scope pos) 1 it acc env)) := by
  unfold oneTurn
  rfl
theorem turn_set2o (elt t0 i0 t1 i1 : Expr) (ifs0 ifs1 : List Expr) (scope : Scope) (pos : Pos) (it acc : Value) (env : Env) :
    compTurn (.SetComp elt [⟨t0, i0, ifs0, 0⟩, ⟨t1, i1, ifs1, 0⟩] scope pos) 0 it acc env = oneTurn (.compLoop (.SetComp elt [⟨t0, i0, ifs0, 0⟩, ⟨t1, i1, ifs1, 0⟩] scope pos) 0 it acc env) i0.pos t0 ifs0 it env
      (eval i1 env >>= fun x => standAt i1.pos >>= fun _ => foldedSetIterable i1 env x >>= fun x => holding [x] (pyIter x) >>= fun j => runOwn (.compStart (.SetComp elt [⟨t0, i0, ifs0, 0⟩, ⟨t1, i1, ifs1, 0⟩] scope pos) 1 j acc env) env >>= fun _ => again (.compLoop (.SetComp elt [⟨t0, i0, ifs0, 0⟩, ⟨t1, i1, ifs1, 0⟩] scope pos) 0 it acc env)) := by
  unfold oneTurn
  rfl
section
variable {Y : Cx} {e : Expr} {ci : Nat} {it : Addr} {acc : Value} {ip : Pos} {tg : Expr} {ifs : List Expr} {body : Sem PySem.Fin} {J : It} {fp : List Addr} {tn : Nat → Heap → Prop} {R : Result → Shared → Prop} {pins : List (Addr × Obj)} {σ : L2.St} {vs : List Nat} {g : TG} {tt : TT}
/-- what a body says of the slots: those that were wiped may be anything -/
def Slots (σ τ : L2.St) (vs : List Nat) : Prop := τ.length = σ.length ∧ ∀ (j : Nat) v, (wipe σ vs)[j]? = some (some v) → τ[j]? = some (some v)
/-- a block's loop over what is walked: W at each turn, and the body's own word B -/
theorem loop_any (B : L2.St → Hp → (Hp → Prop) → Prop) (hden : (model Y.prog Y.w).den (.compLoop e ci (.ref it) acc Y.env) = (oneTurn (.compLoop e ci (.ref it) acc Y.env) ip tg ifs (.ref it) Y.env body).onRaise (fun x => do noteFrame x Y.env; theTreesLotGoes x))
    (hu : Y.A.under (.compLoop e ci (.ref it) acc Y.env) = Y.A) (hq : (Code.compLoop e ci (.ref it) acc Y.env).quiet = true) (hc : Y.calm = true) (T : Turn Y.prog Y.w Y.K tg J fp it tn) (pg : PG Y tg g) (pt : PTs Y ifs tt) (hA : ∀ x s, ¬ Y.xe x s)
    (hb : ∀ (pins' : List (Addr × Obj)) s τ H (N : Hp → Prop), (∀ p ∈ pins, p ∈ pins') → Inv Y pins' τ H s → B τ H N → wpAny (model Y.prog Y.w) Y.A body (fun r s' => r = .again (.compLoop e ci (.ref it) acc Y.env) ∧ ∃ τ' H', Inv Y pins' τ' H' s' ∧ Slots τ τ' vs ∧ N H') Y.xe s)
    (fok : ∀ {H : Hp}, (∀ b ∈ fp, H b = none) → ∀ b ∈ fp, FpOk Y pins H b) (W : Nat → Nat → Hp → Prop) (F : Hp → Prop)
    (turn : ∀ i m H, W i m H → (J.stop i H ∧ F H) ∨ (J.go i H ∧ ∃ N : Hp → Prop, (∀ H', N H' → ∃ m', m' < m ∧ W (i + 1) m' H') ∧ ∀ x H', J.yld i H x H' → g x (wipe σ vs) H' fun σ2 H2 => wipe σ2 vs = wipe σ vs ∧ tt σ2 H2 fun b H3 => if b = true then B σ2 H3 N else N H3))
    (fin : ∀ s' H', Inv Y pins (wipe σ vs) H' s' → F H' → R (.ok .next) s') (m0 : Nat) (s : Shared) (H : Hp) (w0 : W 0 m0 H) (I : Inv Y pins (wipe σ vs) H s) (t0 : tn 0 s.heap) (n0 : ∀ b ∈ fp, H b = none) :
    codeAny (model Y.prog Y.w) Y.A (.compLoop e ci (.ref it) acc Y.env) R s := by
  have th : ∀ {α : Type} {t : Sem α} {Q Q' : α → Shared → Prop} {E : Value → Shared → Prop} {s : Shared}, wpAny (model Y.prog Y.w) Y.A t Q Y.xe s → (∀ a s, Q a s → Q' a s) → wpAny (model Y.prog Y.w) Y.A t Q' E s := fun h q => wpAny_mono h q fun x s z => (hA x s z).elim
  refine codeAny_loop hq (fun m s' => ∃ i H', W i m H' ∧ Inv Y pins (wipe σ vs) H' s' ∧ tn i s'.heap ∧ ∀ b ∈ fp, H' b = none) (fun m s1 hI => ?_) m0 ⟨0, H, w0, I, t0, n0⟩
  obtain ⟨i, H1, w1, I1, t1, n1⟩ := hI
  rw [hden, hu]
  refine wpAny_noted ?_
  unfold oneTurn
  refine wpAny_bind (wpAny_standAt (wpAny_bind ?_))
  rcases turn i m H1 w1 with ⟨stop, f1⟩ | ⟨go, N, hN, step⟩
  · refine thnF (T.done Y rfl rfl rfl hc i pins s1 _ H1 (fun _ _ => False) I1 (fok n1) t1 stop) fun r s2 ⟨er, I2⟩ => ?_
    subst er
    exact wpAny_pure (fin s2 H1 I2 f1)
  · refine thnF (T.item Y rfl rfl rfl hc i pins s1 _ H1 (fun _ _ => False) I1 (fok n1) t1 go) fun r s2 ⟨u, er, h2⟩ => ?_
    subst er
    refine wpAny_bind (thnF h2 fun _ s3 ⟨x, H3, I3, r3, y3, t3, n3⟩ => wpAny_bind ?_)
    have J3 := I3.pinned (fok n3) (T.obj _ _ t3)
    refine th (pg.run _ s3 _ H3 x u _ J3 r3 (step x H3 y3)) fun _ s4 ⟨τ, H4, I4, e4, q4⟩ => wpAny_bind ?_
    refine th (pt.run _ s4 τ H4 _ I4 q4) fun b s5 ⟨H5, I5, q5⟩ => ?_
    have back : ∀ {τ' : L2.St} {s' : Shared} {H' : Hp}, Inv Y (pins ++ pinsAt fp s3.heap) τ' H' s' → Slots τ τ' vs → N H' → ∃ m', m' < m ∧ ∃ i H', W i m' H' ∧ Inv Y pins (wipe σ vs) H' s' ∧ tn i s'.heap ∧ ∀ b ∈ fp, H' b = none := fun {τ' s' H'} I' sl nx => by
      obtain ⟨m', lm, w'⟩ := hN H' nx
      have pin : ∀ b ∈ fp, ∀ o, s3.heap.get? b = some o → s'.heap.get? b = some o ∧ H' b = none := fun b hb o eo => let z := I'.pin (b, o) (List.mem_append_right _ (List.mem_append_right _ (mem_pinsAt hb eo))); ⟨z.1, z.2.1⟩
      refine ⟨m', lm, i + 1, H', w', I'.unpinned.weak ?_ (fun j v ev => sl.2 j v (by rw [e4] <;> exact ev)), T.keep _ _ _ t3 fun b hb o eo => (pin b hb o eo).1, fun b hb => ?_⟩
      · rw [sl.1, ← wipe_length τ vs, e4] <;> rfl
      · obtain ⟨o, eo, _⟩ := T.obj _ _ t3 b hb
        exact (pin b hb o eo).2
    cases b with
    | false =>
      simp only [Bool.false_eq_true, if_false] at q5 ⊢
      exact wpAny_pure ⟨rfl, back I5 ⟨rfl, fun j v ev => (wipe_some ev).1⟩ q5⟩
    | true =>
      simp only [if_true] at q5 ⊢
      exact th (hb _ s5 τ H5 N (fun p hp => List.mem_append_left _ hp) I5 q5) fun r s6 ⟨er, τ', H6, I6, sl, q6⟩ => by subst er; exact ⟨rfl, back I6 sl q6⟩
end
end Ev
set_option maxHeartbeats 4000000
namespace Ev
open PySem PySem.Spec PyProof.Rows L2
theorem setG_add {P : Program} {w : World} {K : Type} [DecidableEq K] {κ : KeyKind P w K} {A : Around} {E : Value → Shared → Prop} {s : Shared} {a : Addr} {S : K → Bool} {n : Nat} {k : K} {v : Value} {Q : Value → Shared → Prop} (hv : κ.is k v = true) (sc : v.scannable = true) (R : SetG κ s.heap a S n) (room : n + 1 < scanBound)
    (q : ∀ z, Heap.SameBut a s.heap z → SetG κ z a (fun j => S j || decide (j = k)) (if S k = true then n else n + 1) → Q .none { s with heap := z, toks := s.toks + 1 }) : wpAny (model P w) A (call (.builtin "set.add") [.ref a, v]) Q E s := by
  refine wpAny_call_entry F.slot_set_add R.of.typeIs F.entry_set_add ?_ (F.args_set_add_2 _ _)
  unfold Builtin.«set.add»; unfold Builtin.Frozenset.oneOther
  simp only [List.isEmpty_nil, bind_assoc]; unfold Builtin.Frozenset.addrOf; unfold setAdd
  refine wpAny_bind (wpAny_pure ?_); try dsimp only
  refine wpAny_bind (wpAny_pure ?_); try dsimp only
  refine wpAny_bind (wpAny_holding (wpAny_bind (κ.pyHash hv (setG_hashed (s := { s with toks := s.toks + 1 }) hv sc R room fun z sb r => ?_))))
  show wpAny _ _ (ret Value.none) _ _ _; exact wpAny_pure ⟨_, rfl, q z sb r⟩
/-- the set of keys at a, that can be walked -/
def SetX (P : Program) (w : World) (a : Addr) (S : Key → Bool) (n : Nat) : HO := .ext fun h => SetG (mixKind P w) h a S n
theorem setX_new {P : Program} {w : World} {H : Hp} {h : Heap} {a : Addr} {S : Key → Bool} {n : Nat} (R : SetG (mixKind P w) h a S n) : ObjOk P w H h a (SetX P w a S n) := by
  have ⟨o, _, _, _, ho, _⟩ := R
  exact ⟨R, ⟨o, ho⟩, fun h1 h2 p k => SetG.keep p k⟩
/-- the set with one more -/
def put1 (P : Program) (w : World) (D : Addr) (S : Key → Bool) (n : Nat) (k : Key) : HO := SetX P w D (fun j => S j || decide (j = k)) (if S k = true then n else n + 1)
section
variable {X : Cx} {pins : List (Addr × Obj)} {σ : L2.St} {H : Hp} {s : Shared}
theorem setX_get {a : Addr} {S : Key → Bool} {n : Nat} (I : Inv X pins σ H s) (ha : H a = some (SetX X.prog X.w a S n)) : SetG (mixKind X.prog X.w) s.heap a S n := (I.hok a _ ha).1
/-- set.add of a key -/
theorem addX_ok {E : Value → Shared → Prop} {D : Addr} {S : Key → Bool} {n : Nat} {k : Key} {v : Value} {Q : Value → Shared → Prop} (I : Inv X pins σ H s) (r : RelV (kV k) v) (hD : H D = some (SetX X.prog X.w D S n)) (room : n + 1 < scanBound)
    (h : ∀ s', Inv X pins σ (upd H D (put1 X.prog X.w D S n k)) s' → Q .none s') : wpAny (model X.prog X.w) X.A (call (.builtin "set.add") [.ref D, v]) Q E s := by
  refine setG_add (kV_is r) (key_scan r) (setX_get I hD) room fun z sb new => ?_
  have ⟨o, _, _, _, ho, _⟩ := new
  exact h _ (I.write (e := D) (t' := s.toks + 1) (by rw [hD] <;> trivial) (.inl rfl) (fun b u hb hu => (sb.2 b hb).trans hu) ⟨o, ho⟩ (setX_new new))
end
/-- what a body asks that puts one key more into D -/
def bAdd (P : Program) (w : World) (D : Addr) (te : TE) : L2.St → Hp → (Hp → Prop) → Prop := fun τ H N => te τ H fun y H4 => ∃ (k : Key) (S : Key → Bool) (n : Nat), y = kV k ∧ H4 D = some (SetX P w D S n) ∧ n + 1 < scanBound ∧ N (upd H4 D (put1 P w D S n k))
theorem body_add {Y : Cx} {elt : Expr} {te : TE} {c : Code} {D : Addr} {vs : List Nat} (pe : PE Y elt te) (pins' : List (Addr × Obj)) (s : Shared) (τ : L2.St) (H : Hp) (N : Hp → Prop) (I : Inv Y pins' τ H s) (h : bAdd Y.prog Y.w D te τ H N) :
    wpAny (model Y.prog Y.w) Y.A ((eval elt Y.env >>= fun v => standAt elt.pos >>= fun _ => call (.builtin "set.add") [.ref D, v] >>= fun _ => pure ()) >>= fun _ => again c) (fun r s' => r = .again c ∧ ∃ τ' H', Inv Y pins' τ' H' s' ∧ Slots τ τ' vs ∧ N H') Y.xe s := by
  refine wpAny_bind (wpAny_bind (thn (pe.run pins' s τ H _ I h) fun v s1 ⟨y, H1, I1, r1, k, S, n, ey, hD, room, nx⟩ => wpAny_bind (wpAny_standAt (wpAny_bind ?_))))
  subst ey
  exact addX_ok I1 r1 hD room fun s2 I2 => wpAny_pure (wpAny_pure ⟨rfl, τ, _, I2, ⟨rfl, fun j v e => (wipe_some e).1⟩, nx⟩)
/-- over anything that is walked -/
theorem wk {J : It} {n : Nat} {G : Hp → Prop} {Y : Nat → Hp → V → Hp → Prop} (w : Walk J n G Y) {F : Hp → Prop} {H0 : Hp} {T : V → Hp → (Hp → Prop) → Prop} (Pv : Nat → Hp → Prop) (h0 : Pv 0 H0) (hG : ∀ i H, i ≤ n → Pv i H → G H)
    (hs : ∀ i x H H', i < n → Pv i H → Y i H x H' → T x H' (Pv (i + 1))) (hd : ∀ H, Pv n H → F H) :
    ∃ W : Nat → Nat → Hp → Prop, (∃ m, W 0 m H0) ∧ ∀ i m H, W i m H → (J.stop i H ∧ F H) ∨ (J.go i H ∧ ∃ N : Hp → Prop, (∀ H', N H' → ∃ m', m' < m ∧ W (i + 1) m' H') ∧ ∀ x H', J.yld i H x H' → T x H' N) := by
  refine ⟨fun i m H => i ≤ n ∧ m + i = n ∧ Pv i H, ⟨n, Nat.zero_le _, rfl, h0⟩, fun i m H ⟨hi, em, p⟩ => ?_⟩
  rcases Nat.lt_or_ge i n with hlt | hge
  · exact .inr ⟨w.goes i H hlt (hG i H hi p), Pv (i + 1), fun H' p' => ⟨m - 1, by omega, hlt, by omega, p'⟩, fun x H' y => hs i x H H' hlt p (w.yields i H x H' hlt (hG i H hi p) y)⟩
  · obtain rfl : i = n := Nat.le_antisymm hi hge
    exact .inl ⟨w.stops H (hG i H hi p), hd H p⟩
end Ev
set_option maxHeartbeats 4000000
namespace Ev
open PySem PySem.Spec PyProof.Rows L2
/-- an empty set, new at the heap's end -/
abbrev emptyS (w : World) : Obj := { cls := .type "set", dict := none, data := .set #[] 0 (.fresh 0 0 (!w.params.followText "set-order")) }
theorem setG_new {P : Program} {w : World} {K : Type} [DecidableEq K] {κ : KeyKind P w K} {h : Heap} : SetG κ (h.push (emptyS w)) h.objs.size (fun _ => false) 0 := by
  refine ⟨_, #[], 0, _, Heap.get?_push_size _ rfl, ⟨⟨rfl, rfl, rfl⟩, rfl⟩, ⟨fun e he => by simp at he, List.Pairwise.nil⟩, fun k => by simp, ⟨by decide, by rfl, rfl⟩, List.Pairwise.nil, ?_⟩
  show _ ∨ (!w.params.followText "set-order") = true
  cases w.params.followText "set-order" with
  | true => exact .inl rfl
  | false => exact .inr rfl
/-- {.. for tg in iter if ..}, B: what each turn's body asks, D the new set -/
def tScG (P : Program) (w : World) (wi : TI) (g : TG) (tt : TT) (B : Addr → L2.St → Hp → (Hp → Prop) → Prop) (vs : List Nat) : TE := fun σ H Q => wi σ H fun J H1 => ∀ D, H1 D = none → ∃ W : Nat → Nat → Hp → Prop, (∃ m, W 0 m (upd H1 D (SetX P w D (fun _ => false) 0))) ∧ ∀ i m H, W i m H → (J.stop i H ∧ Q (.ref D) H) ∨ (J.go i H ∧ ∃ N : Hp → Prop, (∀ H', N H' → ∃ m', m' < m ∧ W (i + 1) m' H') ∧ ∀ x H', J.yld i H x H' → g x (wipe σ vs) H' fun σ2 H2 => wipe σ2 vs = wipe σ vs ∧ tt σ2 H2 fun b H3 => if b = true then B D σ2 H3 N else N H3)
/-- what an inner clause asks -/
def bIn (P : Program) (w : World) (wi1 : TI) (g1 : TG) (tt1 : TT) (te : TE) (vs1 : List Nat) (D : Addr) : L2.St → Hp → (Hp → Prop) → Prop := fun τ H N => wi1 τ H fun J1 H4 => ∃ W1 : Nat → Nat → Hp → Prop, (∃ m, W1 0 m H4) ∧ ∀ j k H, W1 j k H → (J1.stop j H ∧ N H) ∨ (J1.go j H ∧ ∃ N1 : Hp → Prop, (∀ H', N1 H' → ∃ k', k' < k ∧ W1 (j + 1) k' H') ∧ ∀ x H', J1.yld j H x H' → g1 x (wipe τ vs1) H' fun σ3 H5 => wipe σ3 vs1 = wipe τ vs1 ∧ tt1 σ3 H5 fun b H6 => if b = true then bAdd P w D te σ3 H6 N1 else N1 H6)
/-- the block that a comprehension runs in -/
abbrev blkC (X : Cx) (s : Shared) (H : Hp) (scope : Scope) (fp : List Addr) : Cx := X.blk s H scope (compEnvC scope (cellsFrom (s.heap.objs.size + 1) scope.names (cloFrom X.env.cells scope.names [])) s.heap.objs.size X.env) fp
section
variable {X : Cx} {elt tg iter : Expr} {ifs : List Expr} {rest : List Comprehension} {scope : Scope} {own : List (Str × Nat)} {pos pos' : Pos} {wi : TI} {g : TG} {tt : TT} {B : Addr → L2.St → Hp → (Hp → Prop) → Prop}
theorem scG_core (bodyK : Addr → Addr → Env → Sem PySem.Fin) (hc : X.calm = true) (hN : X.N.Nodup) (hi : PI X tg iter wi) (ok : BlkOk X.N X.env.scope scope own)
    (hg : ∀ s H fp, PG (blkC X s H scope fp) tg g) (ht : ∀ s H fp, PTs (blkC X s H scope fp) ifs tt) (hs : ∀ x, foldedSetIterable iter X.env x = pure x)
    (hden : ∀ (it D : Addr) (env : Env), compTurn (.SetComp elt (⟨tg, iter, ifs, 0⟩ :: rest) scope pos) 0 (.ref it) (.ref D) env = oneTurn (.compLoop (.SetComp elt (⟨tg, iter, ifs, 0⟩ :: rest) scope pos) 0 (.ref it) (.ref D) env) iter.pos tg ifs (.ref it) env (bodyK it D env))
    (hb : ∀ (s0 : Shared) (H0 : Hp) (fp : List Addr) (it D : Addr) pins' s τ H (N : Hp → Prop), Inv (blkC X s0 H0 scope fp) pins' τ H s → B D τ H N →
      wpAny (model X.prog X.w) X.A (bodyK it D (blkC X s0 H0 scope fp).env) (fun r s' => r = .again (.compLoop (.SetComp elt (⟨tg, iter, ifs, 0⟩ :: rest) scope pos) 0 (.ref it) (.ref D) (blkC X s0 H0 scope fp).env) ∧ ∃ τ' H', Inv (blkC X s0 H0 scope fp) pins' τ' H' s' ∧ Slots τ τ' (own.map (·.2)) ∧ N H') (blkC X s0 H0 scope fp).xe s) :
    PE X (.SetComp elt (⟨tg, iter, ifs, 0⟩ :: rest) scope pos) (tScG X.prog X.w wi g tt B (own.map (·.2))) := by
  refine ⟨fun pins s σ H Q I h => ?_⟩
  show wpAny _ _ (comprehension (.SetComp elt (⟨tg, iter, ifs, 0⟩ :: rest) scope pos) scope X.env _ (newSet (.type "set")) false (eval iter X.env) none) _ _ _
  have free : ∀ y ∈ scope.names, y.2 = .free → ∃ c, X.env.cells.lookup y.1 = some c := fun y hy e => (ok.free y hy e).elim (fun k => I.ok.has _ (.inl k)) fun k => I.ok.has _ (.inr k)
  refine wpAny_comprehension_free (use := none) rfl hs (closure_ok free) ok.kind (fun y hy e => by rw [ok.uniq y hy, e]) (thn (hi.run pins s σ H _ I h) fun xv s1 hx => thn hx fun itv s2 ⟨it, fp, tn, J, H2, eit, I2, T, t2, f2, q⟩ => PpSet.newSet_ok (newEnv_comp ?_))
  subst eit
  have fresh : H2 s2.heap.objs.size = none := I2.hok.fresh (Nat.le_refl _)
  obtain ⟨W, ⟨m0, w0⟩, turn⟩ := q _ fresh
  have old : ∀ b ∈ fp, b < s2.heap.objs.size := fun b hb => let ⟨o, e, _⟩ := T.obj _ _ t2 b hb; Heap.lt_size e
  -- with the new set
  obtain ⟨D, eD⟩ : ∃ D, s2.heap.objs.size = D := ⟨_, rfl⟩
  obtain ⟨s3, e3⟩ : ∃ s3 : Shared, s3 = { s2 with heap := s2.heap.push (emptyS X.w) } := ⟨_, rfl⟩
  have h3 : s3.heap = s2.heap.push (emptyS X.w) := by rw [e3]
  obtain ⟨H3, eH⟩ : ∃ H3, H3 = upd H2 s2.heap.objs.size (SetX X.prog X.w s2.heap.objs.size (fun _ => false) 0) := ⟨_, rfl⟩
  have I3 : Inv X pins σ H3 s3 := by
    rw [eH, e3]
    exact I2.laid (t' := s2.toks) (fun b o e => Heap.get?_push_of_some _ e) (Nat.le_refl _) (setX_new setG_new)
  have f3 : ∀ b ∈ fp, FpOk X pins H3 b ∧ b < s3.heap.objs.size := fun b hb => by
    have lt := old b hb
    refine ⟨⟨?_, (f2 b hb).2⟩, by rw [h3, Heap.size_push] <;> exact Nat.lt_succ_of_lt lt⟩
    rw [eH, upd_ne (Nat.ne_of_lt lt)] <;> exact (f2 b hb).1
  have t3 : tn 0 s3.heap := T.keep _ _ _ t2 fun b _ o e => by rw [h3] <;> exact Heap.get?_push_of_some _ e
  rw [← eH] at w0
  rw [eD] at turn
  show codeAny _ _ (.compStart (.SetComp elt (⟨tg, iter, ifs, 0⟩ :: rest) scope pos) 0 (.ref it) (.ref s2.heap.objs.size) _) (compPost _ _ _ _ _ (.ref s2.heap.objs.size) _) _
  rw [eD]
  have I4 := block_start I3 ok hN f3
  have goal : codeAny (model X.prog X.w) X.A (.compStart (.SetComp elt (⟨tg, iter, ifs, 0⟩ :: rest) scope pos) 0 (.ref it) (.ref D) (blkC X s3 H3 scope fp).env) (compPost (model X.prog X.w) X.A X.xe none (EP X pins σ Q) (.ref D) s3.heap.objs.size) { s3 with heap := pushCells (s3.heap.push { cls := .type "dict", data := .dict #[] }) scope.names } := by
    have t4 : tn 0 ({ s3 with heap := pushCells (s3.heap.push { cls := .type "dict", data := .dict #[] }) scope.names } : Shared).heap := T.keep _ _ _ t3 fun b _ o e => pushCells_keeps _ _ _ _ (Heap.get?_push_of_some _ e)
    revert I4 t4
    generalize ({ s3 with heap := pushCells (s3.heap.push { cls := .type "dict", data := .dict #[] }) scope.names } : Shared) = s4
    intro I4 t4
    have stat : ∀ {H' : Hp}, (∀ b ∈ fp, H' b = none) → ∀ b ∈ fp, FpOk (blkC X s3 H3 scope fp) [] H' b := fun hn b hb =>
      ⟨hn b hb, (I4.ok.exf b hb).1, I4.ok.exfs b hb, .inl hb, fun x c e => (I4.ok.exf b hb).2 x c e, fun p hp => nomatch (show p ∈ ([] : List (Addr × Obj)) from hp)⟩
    have loop := loop_any (Y := blkC X s3 H3 scope fp) (e := .SetComp elt (⟨tg, iter, ifs, 0⟩ :: rest) scope pos) (ci := 0) (it := it) (acc := .ref D) (ip := iter.pos) (body := bodyK it D (blkC X s3 H3 scope fp).env) (R := compPost (model X.prog X.w) X.A X.xe none (EP X pins σ Q) (.ref D) s3.heap.objs.size) (σ := σ) (vs := own.map (·.2)) (pins := []) (B D)
      (by show (compTurn _ 0 (.ref it) (.ref D) _).onRaise _ = _; rw [hden]) rfl rfl hc T (hg s3 H3 fp) (ht s3 H3 fp) (fun _ _ z => z) (fun pins' s τ H N _ I' b => hb s3 H3 fp it D pins' s τ H N I' b) stat W (fun H => Q (.ref D) H) turn (fun s' H' I' qq => ?_) m0 s4 H3 w0 I4 t4 (fun b hb => (f3 b hb).1.1)
    · exact PpSet.codeAny_compStart_set loop (T.self X.A 0 _ _ _ t4 loop)
    · have J' : Inv X pins σ H' s' := I3.call' (ch := fp) I'.os I'.base I'.hok I'.bare fun b hb => let z := (f3 b hb).1.2; ⟨z.2.2.1, z.1, z.2.2.2.1, z.2.2.2.2⟩
      obtain ⟨m, hm, _⟩ := I'.loc
      have f := I3.fpOk (H' := H') (Nat.le_refl _) I'.free
      exact ⟨m, hm, fun z sb => ⟨.ref D, H', J'.turned (t' := s'.toks) (fun b o hb e => (sb.2 b hb).trans e) f.1 f.2.1 f.2.2.2.1 f.2.2.2.2.1 f.2.2.2.2.2, rfl, qq⟩⟩
  subst e3
  exact goal
/-- one clause -/
theorem pe_sc1 {te : TE} (hc : X.calm = true) (hN : X.N.Nodup) (hi : PI X tg iter wi) (ok : BlkOk X.N X.env.scope scope own) (hg : ∀ s H fp, PG (blkC X s H scope fp) tg g) (ht : ∀ s H fp, PTs (blkC X s H scope fp) ifs tt) (he : ∀ s H fp, PE (blkC X s H scope fp) elt te)
    (hs : ∀ x, foldedSetIterable iter X.env x = pure x := by intro _; rfl) : PE X (.SetComp elt [⟨tg, iter, ifs, 0⟩] scope pos) (tScG X.prog X.w wi g tt (fun D => bAdd X.prog X.w D te) (own.map (·.2))) :=
  scG_core (B := fun D => bAdd X.prog X.w D te) _ hc hN hi ok hg ht hs (fun it D env => turn_set1 elt tg iter ifs scope pos (.ref it) (.ref D) env) fun s0 H0 fp it D pins' s τ H N I b => body_add (Y := blkC X s0 H0 scope fp) (he s0 H0 fp) pins' s τ H N I b
end
end Ev
set_option maxHeartbeats 4000000
namespace Ev
open PySem PySem.Spec PyProof.Rows L2
theorem start_in {prog : Program} {w : World} {A : Around} {R : Result → Shared → Prop} {s : Shared} {env : Env} {elt t0 i0 t1 i1 : Expr} {ifs0 ifs1 : List Expr} {scope : Scope} {pos : Pos} {it acc : Value}
    (h0 : codeAny (model prog w) A (.compLoop (.SetComp elt [⟨t0, i0, ifs0, 0⟩, ⟨t1, i1, ifs1, 0⟩] scope pos) 1 it acc env) R s)
    (h : wpAny (model prog w) A (pyIter it) (fun j s' => codeAny (model prog w) A (.compLoop (.SetComp elt [⟨t0, i0, ifs0, 0⟩, ⟨t1, i1, ifs1, 0⟩] scope pos) 1 j acc env) R s') (notedBy (model prog w) A env fun x s' => R (.error x) s') s) :
    codeAny (model prog w) A (.compStart (.SetComp elt [⟨t0, i0, ifs0, 0⟩, ⟨t1, i1, ifs1, 0⟩] scope pos) 1 it acc env) R s := by
  refine codeAny_of_tree ?_
  show wpAny _ _ ((compStart _ 1 it acc env).onRaise (fun x => do noteFrame x env; standAt theWindowsPlace)) _ _ s
  refine wpAny_notedAt ?_; unfold compStart
  show wpAny _ _ (ask >>= _) _ _ s
  refine wpAny_bind (wpAny_askSetting (wpAny_ite ?_)); split
  · first | exact wpAny_bind (wpAny_pure (wpAny_pure ⟨rfl, h0⟩)) | exact wpAny_pure ⟨rfl, h0⟩
  · have go : ∀ {W : PySem.Fin → Shared → Prop}, (∀ j s', codeAny (model prog w) A (.compLoop (.SetComp elt [⟨t0, i0, ifs0, 0⟩, ⟨t1, i1, ifs1, 0⟩] scope pos) 1 j acc env) R s' → W (.again (.compLoop (.SetComp elt [⟨t0, i0, ifs0, 0⟩, ⟨t1, i1, ifs1, 0⟩] scope pos) 1 j acc env)) s') → wpAny (model prog w) A (pyIter it >>= fun j => again (.compLoop (.SetComp elt [⟨t0, i0, ifs0, 0⟩, ⟨t1, i1, ifs1, 0⟩] scope pos) 1 j acc env)) W (notedBy (model prog w) A env fun x s' => R (.error x) s') s := fun k => wpAny_bind (wpAny_mono h (fun j s' z => wpAny_pure (k j s' z)) fun _ _ x => x)
    refine wpAny_bind (wpAny_rule ?_)
    show wpAny _ _ (standAt i1.pos >>= _) _ _ s
    exact wpAny_bind (wpAny_standAt (go fun j s' z => ⟨rfl, z⟩))
section
variable {X : Cx} {elt tg iter tg1 iter1 : Expr} {ifs ifs1 : List Expr} {scope : Scope} {own : List (Str × Nat)} {vs1 : List Nat} {pos : Pos} {wi wi1 : TI} {g g1 : TG} {tt tt1 : TT} {te : TE}
theorem body_in (hc : X.calm = true) (hv : ∀ i ∈ vs1, i ∈ own.map (·.2)) (hi1 : ∀ s H fp, PI (blkC X s H scope fp) tg1 iter1 wi1) (hg1 : ∀ s H fp, PG (blkC X s H scope fp) tg1 g1) (ht1 : ∀ s H fp, PTs (blkC X s H scope fp) ifs1 tt1) (he : ∀ s H fp, PE (blkC X s H scope fp) elt te) (hs1 : ∀ env x, foldedSetIterable iter1 env x = pure x)
    (s0 : Shared) (H0 : Hp) (fp : List Addr) (it D : Addr) pins' s τ H (N : Hp → Prop) (I : Inv (blkC X s0 H0 scope fp) pins' τ H s) (b : bIn X.prog X.w wi1 g1 tt1 te vs1 D τ H N) :
    wpAny (model X.prog X.w) X.A (eval iter1 (blkC X s0 H0 scope fp).env >>= fun x => standAt iter1.pos >>= fun _ => foldedSetIterable iter1 (blkC X s0 H0 scope fp).env x >>= fun x => holding [x] (pyIter x) >>= fun j => runOwn (.compStart (.SetComp elt [⟨tg, iter, ifs, 0⟩, ⟨tg1, iter1, ifs1, 0⟩] scope pos) 1 j (.ref D) (blkC X s0 H0 scope fp).env) (blkC X s0 H0 scope fp).env >>= fun _ => again (.compLoop (.SetComp elt [⟨tg, iter, ifs, 0⟩, ⟨tg1, iter1, ifs1, 0⟩] scope pos) 0 (.ref it) (.ref D) (blkC X s0 H0 scope fp).env))
      (fun r s' => r = .again (.compLoop (.SetComp elt [⟨tg, iter, ifs, 0⟩, ⟨tg1, iter1, ifs1, 0⟩] scope pos) 0 (.ref it) (.ref D) (blkC X s0 H0 scope fp).env) ∧ ∃ τ' H', Inv (blkC X s0 H0 scope fp) pins' τ' H' s' ∧ Slots τ τ' (own.map (·.2)) ∧ N H') (blkC X s0 H0 scope fp).xe s := by
  refine wpAny_bind (thn ((hi1 s0 H0 fp).run pins' s τ H _ I b) fun x s1 hx => wpAny_bind (wpAny_standAt (wpAny_bind (wpAny_of_eq (hs1 _ x) (wpAny_bind (wpAny_holding (thn hx fun j s2 h2 => ?_)))))))
  obtain ⟨it1, fp1, tn1, J1, H2, ej, I2, T1, t2, f2, W1, ⟨m1, w1⟩, turn1⟩ := h2
  subst ej
  have loop := loop_any (Y := blkC X s0 H0 scope fp) (e := .SetComp elt [⟨tg, iter, ifs, 0⟩, ⟨tg1, iter1, ifs1, 0⟩] scope pos) (ci := 1) (it := it1) (acc := .ref D) (ip := iter1.pos) (R := fun r s' => match r with | .ok _ => ∃ τ' H', Inv (blkC X s0 H0 scope fp) pins' τ' H' s' ∧ Slots τ τ' (own.map (·.2)) ∧ N H' | .error _ => False) (σ := τ) (vs := vs1) (pins := pins') (bAdd X.prog X.w D te)
    (by show (compTurn _ 1 (.ref it1) (.ref D) _).onRaise _ = _; rw [turn_set2i]) rfl rfl hc T1 (hg1 s0 H0 fp) (ht1 s0 H0 fp) (fun _ _ z => z) (fun pins' s τ H N _ I' b => body_add (Y := blkC X s0 H0 scope fp) (he s0 H0 fp) pins' s τ H N I' b) (fun hn b hb => ⟨hn b hb, (f2 b hb).2⟩) W1 N turn1 (fun s' H' I' nx => ⟨wipe τ vs1, H', I', ⟨wipe_length τ vs1, fun i v e => ?_⟩, nx⟩) m1 s2 H2 w1 (I2.weak (wipe_length _ _) fun i v e => (wipe_some e).1) t2 (fun b hb => (f2 b hb).1)
  · refine wpAny_bind (wpAny_runOwn ?_)
    rw [Around.mark_none]
    refine codeAny_mono (start_in loop (T1.self X.A 0 _ _ _ t2 loop)) fun r s' hr => ?_
    cases r with
    | ok f => first | exact wpAny_pure ⟨rfl, hr⟩ | exact wpAny_bind (wpAny_pure (wpAny_pure ⟨rfl, hr⟩))
    | error x => exact hr.elim
  · obtain ⟨e1, e2⟩ := wipe_some e
    rw [wipe_out fun z => e2 (hv i z)] <;> exact e1
/-- two clauses -/
theorem pe_sc2 (hc : X.calm = true) (hN : X.N.Nodup) (hi : PI X tg iter wi) (ok : BlkOk X.N X.env.scope scope own) (hv : ∀ i ∈ vs1, i ∈ own.map (·.2)) (hg : ∀ s H fp, PG (blkC X s H scope fp) tg g) (ht : ∀ s H fp, PTs (blkC X s H scope fp) ifs tt)
    (hi1 : ∀ s H fp, PI (blkC X s H scope fp) tg1 iter1 wi1) (hg1 : ∀ s H fp, PG (blkC X s H scope fp) tg1 g1) (ht1 : ∀ s H fp, PTs (blkC X s H scope fp) ifs1 tt1) (he : ∀ s H fp, PE (blkC X s H scope fp) elt te)
    (hs : ∀ x, foldedSetIterable iter X.env x = pure x := by intro _; rfl) (hs1 : ∀ env x, foldedSetIterable iter1 env x = pure x := by intro _ _; rfl) :
    PE X (.SetComp elt [⟨tg, iter, ifs, 0⟩, ⟨tg1, iter1, ifs1, 0⟩] scope pos) (tScG X.prog X.w wi g tt (bIn X.prog X.w wi1 g1 tt1 te vs1) (own.map (·.2))) :=
  scG_core (B := bIn X.prog X.w wi1 g1 tt1 te vs1) _ hc hN hi ok hg ht hs (fun it D env => turn_set2o elt tg iter tg1 iter1 ifs ifs1 scope pos (.ref it) (.ref D) env) (body_in hc hv hi1 hg1 ht1 he hs1)
end
end Ev
set_option maxHeartbeats 4000000
namespace Ev
open PySem PySem.Spec PyProof.Rows L2
/-! sorted, any number: texts, and the members of a set -/
abbrev ltC (x y : Str) : Prop := x.cps.toList < y.cps.toList
def ltSv (v u : Value) : Bool := decide (ltC (strOf v) (strOf u))
theorem swo_str : SrtO.Swo ltSv := by
  refine ⟨fun x y h => decide_eq_false fun z => ?_, fun x y z h1 h2 => decide_eq_false fun h => ?_⟩
  · exact List.lt_irrefl _ (List.lt_trans (of_decide_eq_true h : ltC (strOf x) (strOf y)) z)
  · have a : ¬ ltC (strOf y) (strOf x) := of_decide_eq_false h1
    have b : ¬ ltC (strOf z) (strOf y) := of_decide_eq_false h2
    exact absurd h (List.not_lt.mpr (List.le_trans (List.not_lt.mp a) (List.not_lt.mp b)))
section
variable {prog : Program} {w : World} {A : Around} {E : Value → Shared → Prop} {s : Shared}
theorem str_cmp {vs : List Value} (hI : ∀ v ∈ vs, ∃ x t, v = Value.str x t) : SrtO.Cmp prog w A s oneType' (fun p => p.1 ∈ vs) (SrtO.lt2 ltSv) := fun p q hm hm' => by
  obtain ⟨a, t, e⟩ := hI _ hm
  obtain ⟨b, u, e'⟩ := hI _ hm'
  show wpAny (model prog w) A (keyLt' oneType' p.1 q.1) (fun r s' => s' = s ∧ r = ltSv p.1 q.1) (fun _ _ => False) s
  rw [e, e']
  exact PySem.W.kas_lt_str ⟨rfl, rfl⟩
theorem strs_sortable {a : Addr} {vs : List Value} (hI : ∀ v ∈ vs, ∃ x t, v = Value.str x t) (h2 : 2 ≤ vs.length) : SrtO.SortableO prog w A s a vs ltSv := fun h' _ => by
  refine ⟨oneType', fun Q E hq => ?_, str_cmp hI⟩
  have hS := strsAre_map vs hI
  revert hS h2
  rcases vs with _ | ⟨v, _ | ⟨u, r⟩⟩
  · intro h2; exact absurd h2 (by decide)
  · intro h2; exact absurd h2 (by simp)
  · intro h2 hS; rw [keyKind_strs hS]; exact wpAny_pure hq
theorem ints_sortable2 {a : Addr} {vs : List Value} (hI : ∀ v ∈ vs, ∃ i t, v = Value.int i t) (h2 : 2 ≤ vs.length) : SrtO.SortableO prog w A s a vs SrtO.ltIv := SrtO.ints_sortable (SrtO.ints_iv hI) h2
/-- sorted of a set: its members by ltv, at a new place -/
theorem sorted_setG {K : Type} [DecidableEq K] {κ : KeyKind prog w K} {a : Addr} {S : K → Bool} {n : Nat} {ltv : Value → Value → Bool} {Q : Value → Shared → Prop} (O : SrtO.Swo ltv) (R : SetG κ s.heap a S n) (hh : A.handled = none)
    (so : ∀ (vs : List Value), (∀ v ∈ vs, ∃ k, κ.is k v = true ∧ S k = true) → 2 ≤ vs.length → ∀ (A' : Around) (z : Shared) (d : Addr), SrtO.SortableO prog w A' z d vs ltv)
    (q : ∀ (z : Shared) (p : Addr) (out : List Value) (c : Nat), (∀ b o, s.heap.get? b = some o → z.heap.get? b = some o) → z.gens = s.gens → z.os = s.os → s.heap.objs.size ≤ p → z.heap.get? p = some (seqObj "list" out.toArray c) → SrtO.Srtd ltv out →
      (∀ v ∈ out, ∃ k, κ.is k v = true ∧ S k = true) → (∀ k, S k = true → ∃ v ∈ out, κ.is k v = true) → out.Pairwise (fun u v => ∀ k, κ.is k u = true → κ.is k v = true → False) → out.length = n → Q (.ref p) z) :
    wpAny (model prog w) A (call (.builtin "sorted") [.ref a]) Q E s := by
  obtain ⟨o, es, ep, t, ho, ⟨xs, hd⟩, ⟨hel, nd⟩, hm, ⟨hb, hf, hn⟩, hr, hl⟩ := R
  refine Calls.call_function_entry kind_sorted plain_sorted entry_sorted (args_sorted1 _) ?_; unfold Builtin.«sorted»
  refine wpAny_bind (m := checkCount "sorted" 1 1 _) (wpAny_pure (wpAny_bind (collect_set (A := A.in1) hh ⟨o, ho, xs.1, hd⟩ hf hb hr hl fun s1 vs k1 hz g1 o1 pm => ?_)))
  have len : vs.length = n := by rw [pm.length_eq, List.length_map, Array.length_toList] <;> exact hn
  have small : vs.length ≤ sizeLine := by rw [len, ← hn] <;> exact fits_of_scanBound hb
  have mem : ∀ v ∈ vs, ∃ k, κ.is k v = true ∧ S k = true := fun v hv => by
    obtain ⟨e, he, ev⟩ := List.mem_map.mp (pm.mem_iff.mp hv)
    obtain ⟨⟨k, hk, _⟩, _⟩ := hel e he
    exact ⟨k, by rw [← ev] <;> exact hk, (hm k).mpr ⟨e, he, hk⟩⟩
  have all : ∀ k, S k = true → ∃ v ∈ vs, κ.is k v = true := fun k hk => let ⟨e, he, z⟩ := (hm k).mp hk; ⟨e.2, pm.mem_iff.mpr (List.mem_map.mpr ⟨e, he, rfl⟩), z⟩
  have apart : vs.Pairwise (fun u v => ∀ k, κ.is k u = true → κ.is k v = true → False) := List.Perm.pairwise pm.symm (List.pairwise_map.mpr nd) fun {u v} z k h1 h2 => z k h2 h1
  refine wpAny_bind (wpAny_newList ?_ small)
  have hoL : (s1.heap.push (seqObj "list" vs.toArray 0)).get? s1.heap.objs.size = some (seqObj "list" vs.toArray 0) := Heap.get?_push_size _ rfl
  refine wpAny_bind (wpAny_holding (wpAny_call_entry slot_list_sort ⟨_, hoL, rfl⟩ entry_list_sort (SrtO.list_sort_ord O hoL small (fun h2 => so vs mem h2 _ _ _) fun out h1 h2 => ⟨_, rfl, ?_⟩) (args_list_sort _)))
  obtain ⟨c, hc⟩ := sortedHeap_at (vs := vs) (out := out.toArray) hoL
  have p2 : out.Perm vs := h2.perm
  refine wpAny_pure ⟨_, rfl, q _ s1.heap.objs.size out c (fun b u e => ?_) g1 o1 hz hc h1 (fun v hv => mem v (p2.mem_iff.mp hv)) (fun k hk => let ⟨v, hv, z⟩ := all k hk; ⟨v, p2.mem_iff.mpr hv, z⟩) (List.Perm.pairwise p2.symm apart fun {u v} z k h1 h2 => z k h2 h1) (by rw [p2.length_eq] <;> exact len)⟩
  have e1 := k1 b u e
  have lt := Heap.lt_size e1
  show (sortedHeap (s1.heap.push (seqObj "list" vs.toArray 0)) s1.heap.objs.size vs out.toArray).get? b = some u
  rw [sortedHeap_old (Nat.ne_of_lt lt) (by rw [size_push'] <;> exact Nat.lt_succ_of_lt lt)]; exact Heap.get?_push_of_some _ e1
end
section
variable {X : Cx}
/-- sorted(xs), texts, any number of them -/
def rSortedTx (K : PySem.W.Frag) : List V → Hp → VK → Prop := fun vs H Q => ∃ (a : Addr) (ss : List Str), vs = [V.ref a] ∧ SqL K H a (ss.map V.str) ∧ ∀ (zs : List Str) (p : Addr), zs.Perm ss → zs.Pairwise (fun x y => ¬ ltC y x) → H p = none → Q (.ref p) (upd H p (.lst (zs.map V.str)))
theorem vals_strs : ∀ {out : List Value}, (∀ v ∈ out, ∃ x t, v = Value.str x t) → Vals ((out.map strOf).map V.str) out
  | [], _ => .nil
  | v :: out, h => by
    obtain ⟨x, t, e⟩ := h v List.mem_cons_self
    subst e
    exact .cons ⟨t, rfl⟩ (vals_strs fun u hu => h u (List.mem_cons_of_mem _ hu))
theorem strs_vals : ∀ {ss : List Str} {us : List Value}, Vals (ss.map V.str) us → (∀ v ∈ us, ∃ x t, v = Value.str x t) ∧ us.map strOf = ss
  | [], _, .nil => ⟨fun v h => absurd h (by simp), rfl⟩
  | z :: ss, _, .cons r t => by
    obtain ⟨tk, rfl⟩ := r
    obtain ⟨h1, h2⟩ := strs_vals t
    exact ⟨fun v hv => (List.mem_cons.mp hv).elim (fun e => ⟨z, tk, e⟩) (h1 v), congrArg (z :: ·) h2⟩
theorem cr_sortedTx : CallR X (.builtin "sorted") (rSortedTx X.K) := fun pins s σ H vs us Q I r h => by
  obtain ⟨a, ss, rfl, hs, q⟩ := h
  obtain ⟨its, rv, hl, hz⟩ := I.list hs
  rw [Vals.ref1 r]
  obtain ⟨hI, es⟩ := strs_vals rv
  have lz : its.length ≤ sizeLine := by rw [← rv.length] <;> exact hz
  refine SrtO.sorted_ord swo_str hl.isList lz (fun h2 h₁ a' _ _ => strs_sortable hI h2) fun out h1 h2 => ?_
  obtain ⟨ep, he⟩ := PyProof.Rows.sortedAll_at s.heap its out.toArray
  have hO : ∀ v ∈ out, ∃ x t, v = Value.str x t := fun v hv => hI v (h2.perm.mem_iff.mp hv)
  have lo : ((out.map strOf).map V.str).length ≤ sizeLine := by rw [List.length_map, List.length_map, h2.perm.length_eq] <;> exact lz
  refine ⟨.ref _, upd H (s.heap.objs.size + 1) (.lst ((out.map strOf).map V.str)), I.laid (t' := s.toks) (fun _ _ => PyProof.Rows.sortedAll_old) (Nat.le_succ _) ⟨lo, out, ep, vals_strs hO, he⟩, rfl, q _ _ ?_ ?_ (I.hok.fresh (Nat.le_succ _))⟩
  · rw [← es] <;> exact h2.perm.map strOf
  · exact List.pairwise_map.mpr (h1.imp fun {x y} h => of_decide_eq_false h)
/-- sorted(s), s a set of texts: ascending -/
def rSortedSx (P : Program) (w : World) : List V → Hp → VK → Prop := fun vs H Q => ∃ (a : Addr) (S : Key → Bool) (n : Nat), vs = [V.ref a] ∧ H a = some (SetX P w a S n) ∧ (∀ k, S k = true → ∃ z, k = Sum.inr z) ∧
  ∀ (zs : List Str) (p : Addr), zs.Pairwise ltC → (∀ z, z ∈ zs ↔ S (Sum.inr z) = true) → zs.length = n → H p = none → Q (.ref p) (upd H p (.lst (zs.map V.str)))
theorem ltC_str {x y : Str} (h : ¬ ltC y x) (ne : x ≠ y) : ltC x y := by
  rcases Decidable.em (ltC x y) with z | z
  · exact z
  · refine absurd ?_ ne
    have e : x.cps.toList = y.cps.toList := List.le_antisymm (List.not_lt.mp h) (List.not_lt.mp z)
    cases x; cases y; exact congrArg Str.mk (Array.toList_inj.mp e)
theorem cr_sortedSx (hc : X.calm = true) : CallR X (.builtin "sorted") (rSortedSx X.prog X.w) := fun pins s σ H vs us Q I r h => by
  obtain ⟨a, S, n, rfl, ha, hS, q⟩ := h
  rw [Vals.ref1 r]
  have isS : ∀ v, (∃ k, (mixKind X.prog X.w).is k v = true ∧ S k = true) → ∃ x t, v = Value.str x t ∧ S (.inr x) = true := fun v ⟨k, h1, h2⟩ => by
    obtain ⟨z, rfl⟩ := hS k h2
    rcases keyIs_shape (show keyIs (.inr z) v = true from h1) with ⟨i, t, e1, e2⟩ | ⟨x, t, e1, e2⟩
    · cases e1
    · cases e1; exact ⟨z, t, e2, h2⟩
  refine sorted_setG swo_str (setX_get I ha) (I.ok.hd hc) (fun vs mem h2 A' z d => strs_sortable (fun v hv => let ⟨x, t, e, _⟩ := isS v (mem v hv); ⟨x, t, e⟩) h2) fun z p out c k g o hp hg hs mem all ap hl => ?_
  have hO : ∀ v ∈ out, ∃ x t, v = Value.str x t ∧ S (.inr x) = true := fun v hv => isS v (mem v hv)
  have hV := vals_strs fun v hv => let ⟨x, t, e, _⟩ := hO v hv; ⟨x, t, e⟩
  have lo : ((out.map strOf).map V.str).length ≤ sizeLine := by
    obtain ⟨o, es, ep, t, ho, _, _, _, ⟨hb, hf, hn⟩, _⟩ := setX_get I ha
    rw [List.length_map, List.length_map, hl, ← hn] <;> exact fits_of_scanBound hb
  have hn : H p = none := I.hok.fresh hp
  have J : Inv X pins σ (upd H p (.lst ((out.map strOf).map V.str))) z := I.call' (ch := []) o (Un.laid k hp hn) (I.hok.laid k hp ⟨lo, out, c, hV, hg⟩) (by rw [g] <;> exact I.bare) (fun _ z => nomatch z)
  refine ⟨.ref p, _, J, rfl, q _ p ?_ (fun y => ⟨fun hy => ?_, fun hy => ?_⟩) (by rw [List.length_map] <;> exact hl) hn⟩
  · refine List.pairwise_map.mpr (List.Pairwise.imp_of_mem (fun {u v} hu hv w => ?_) (hs.and ap))
    obtain ⟨x, t, rfl, _⟩ := hO u hu
    obtain ⟨y, t', rfl, _⟩ := hO v hv
    refine ltC_str (of_decide_eq_false w.1) fun e => w.2 (.inr x) (mixKind_str _ _ x t) ?_
    have e : x = y := e
    rw [e] <;> exact mixKind_str _ _ y t'
  · obtain ⟨v, hv, rfl⟩ := List.mem_map.mp hy
    obtain ⟨x, t, rfl, z⟩ := hO v hv
    exact z
  · obtain ⟨v, hv, z⟩ := all _ hy
    obtain ⟨x, t, rfl, _⟩ := hO v hv
    refine List.mem_map.mpr ⟨_, hv, ?_⟩
    have := (mixKind X.prog X.w).inj _ _ _ z (mixKind_str X.prog X.w x t)
    exact (Sum.inr.inj this).symm
/-- len(s) of a set -/
def rLenSx (P : Program) (w : World) : List V → Hp → VK → Prop := fun vs H Q => ∃ (a : Addr) (S : Key → Bool) (n : Nat), vs = [V.ref a] ∧ H a = some (SetX P w a S n) ∧ Q (.int (n : Nat)) H
theorem cr_lenSx : CallR X (.builtin "len") (rLenSx X.prog X.w) := fun pins s σ H vs us Q I r h => by
  obtain ⟨a, S, n, rfl, ha, q⟩ := h
  rw [Vals.ref1 r]
  obtain ⟨o, es, ep, t, ho, ⟨xs, hd⟩, _, _, ⟨hb, hf, hn⟩, _⟩ := setX_get I ha
  subst hn
  have lz : es.size ≤ 16777216 := fits_of_scanBound hb
  exact call_len_set ho xs hd hf (by omega) ⟨.int (es.size : Nat), H, I.tok _, ⟨_, rfl⟩, q⟩
end
end Ev
set_option maxHeartbeats 4000000
namespace Ev
open PySem PySem.Spec PyProof.Rows L2 PySem.W
/-! sorted, lists that read as data; < of data -/
/-- a value, and what it reads as -/
abbrev DV := V × PyData
section
variable {X : Cx}
theorem each_dp {pins : List (Addr × Obj)} {σ : L2.St} {H : Hp} {s : Shared} (I : Inv X pins σ H s) : ∀ {bs : List DV} {us : List Value}, Vals (bs.map (·.1)) us → (∀ b ∈ bs, Dp X.K H b.1 b.2) →
    EachIs (fun v (b : DV) => RelV b.1 v) us bs ∧ EachIs (fun v (b : DV) => ∃ as, Reads s.heap v b.2 as) us bs
  | [], _, .nil, _ => ⟨.nil, .nil⟩
  | b :: bs, _, .cons r t, h => by
    obtain ⟨e1, e2⟩ := each_dp I t fun c hc => h c (List.mem_cons_of_mem _ hc)
    exact ⟨.cons r e1, .cons (Dp.reads I b.2 _ _ (h b List.mem_cons_self) r) e2⟩
theorem each_vals : ∀ {bs : List DV} {us : List Value}, EachIs (fun v (b : DV) => RelV b.1 v) us bs → Vals (bs.map (·.1)) us
  | [], _, .nil => .nil
  | _ :: _, _, .cons r t => .cons r (each_vals t)
def leD (a b : DV) : Bool := dataLe false (fun b : DV => b.2) a b
def rSortedD (K : PySem.W.Frag) : List V → Hp → VK → Prop := fun vs H Q => ∃ (a : Addr) (bs : List DV), vs = [V.ref a] ∧ SqL K H a (bs.map (·.1)) ∧ (∀ b ∈ bs, Dp K H b.1 b.2) ∧ AllAlike (bs.map (·.2)) ∧ Sortable (bs.map (·.2)) ∧ (∀ b ∈ bs, b.2.depth ≤ 60) ∧
  ∀ p, H p = none → Q (.ref p) (upd H p (.lst ((bs.mergeSort leD).map (·.1))))
theorem cr_sortedD (hu : X.A.units + 64 < cLine) : CallR X (.builtin "sorted") (rSortedD X.K) := fun pins s σ H vs us Q I r h => by
  obtain ⟨a, bs, rfl, hs, hd, hal, hk, hdep, q⟩ := h
  obtain ⟨its, rv, hl, hz⟩ := I.list hs
  rw [Vals.ref1 r]
  obtain ⟨e1, e2⟩ := each_dp I rv hd
  have lz : bs.length ≤ sizeLine := by rw [List.length_map] at hz; exact hz
  refine sorted_data (R := fun v (b : DV) => RelV b.1 v) (enc := fun b : DV => b.2) hl.isList e1 e2 hal hk lz (fun b hb => by have := hdep b hb; omega) fun out h1 h2 => ?_
  obtain ⟨ep, he⟩ := PyProof.Rows.sortedAll_at s.heap its out.toArray
  have lo : ((bs.mergeSort leD).map (·.1)).length ≤ sizeLine := by rw [List.length_map, List.length_mergeSort]; exact lz
  exact ⟨.ref _, upd H (s.heap.objs.size + 1) (.lst ((bs.mergeSort leD).map (·.1))), I.laid (t' := s.toks) (fun _ _ => PyProof.Rows.sortedAll_old) (Nat.le_succ _) ⟨lo, out, ep, each_vals h2, he⟩, rfl, q _ (I.hok.fresh (Nat.le_succ _))⟩
/-- x < y of data -/
def rLtD (K : PySem.W.Frag) : R2 := fun x y H Q => ∃ d e, Dp K H x d ∧ Dp K H y e ∧ alike d e = true ∧ d ≠ .none ∧ min d.depth e.depth ≤ 60 ∧ Q (.bl (dataLt d e)) H
theorem op_ltD (hu : X.A.units + 64 < cLine) : OpR X (compareOp .Lt) (rLtD X.K) := by
  intro pins s σ H x y v u Q I rx ry h
  obtain ⟨d, e, hd, he, al, nn, dp, q⟩ := h
  obtain ⟨as, r1⟩ := Dp.reads I d x v hd rx
  obtain ⟨bs, r2⟩ := Dp.reads I e y u he ry
  exact lt_data r1 r2 al nn (by omega) ⟨.bl _, H, I, rfl, q⟩
end
end Ev
set_option maxHeartbeats 4000000
namespace LawK
open PySem PySem.Spec PyProof.Rows L2 Ev PySem.W
theorem dataLt_sii (x y : Str) (i j k l : Int) : dataLt (.tuple [.str x, .int i, .int j]) (.tuple [.str y, .int k, .int l]) = decide (x.cps.toList < y.cps.toList ∨ x = y ∧ (i < k ∨ i = k ∧ j < l)) := by
  rw [dataLt_tuple, dataLt_cons (by simp [alike]), dataLt_cons (by simp [alike]), dataLt_cons (by simp [alike])]
  have e0 : PyProof.Rows.lexLt itemOrd (keyToksAll []) (keyToksAll []) = false := lex_irrefl _
  rw [e0, dataLt_str, dataLt_int, dataLt_int]
  have e1 : PyData.eqv (.str x) (.str y) = decide (x = y) := by
    simp only [PyData.eqv]
    first | rfl | exact Bool.eq_iff_iff.mpr (by simp)
  have e2 : ∀ a b : Int, PyData.eqv (.int a) (.int b) = decide (a = b) := fun a b => by
    simp only [PyData.eqv]
    first | rfl | exact Bool.eq_iff_iff.mpr (by simp)
  rw [e1, e2, e2]
  by_cases hx : x = y
  · subst hx
    have nl : ¬ x.cps.toList < x.cps.toList := lirr _
    by_cases h1 : i = k
    · subst h1
      by_cases h2 : j = l
      · subst h2; simp [nl]
      · simp [nl, h2]
    · simp [nl, h1]
  · simp [hx]
abbrev cod (z : Str) : LN := z.cps.toList
theorem cod_inj {a b : Str} (h : cod a = cod b) : a = b := by rw [← S_eta a, ← S_eta b]; exact congrArg SX.S h
def row (ts : List Str) (i : Nat) : List Pl := (List.range (tx ts i).length).map fun j => (i, j)
def plN (ts : List Str) (n : Nat) : List Pl := (List.range n).flatMap (row ts)
def pl (ts : List Str) : List Pl := plN ts ts.length
theorem plN_succ (ts : List Str) (n : Nat) : plN ts (n + 1) = plN ts n ++ row ts n := by
  unfold plN
  rw [List.range_succ, List.flatMap_append]
  simp
theorem pl_mem {ts : List Str} {p : Pl} : p ∈ pl ts ↔ InT ts p := by
  unfold pl plN
  rw [List.mem_flatMap]
  constructor
  · rintro ⟨i, hi, h⟩
    obtain ⟨j, hj, rfl⟩ := List.mem_map.mp h
    exact ⟨List.mem_range.mp hi, List.mem_range.mp hj⟩
  · rintro ⟨h1, h2⟩
    exact ⟨p.1, List.mem_range.mpr h1, List.mem_map.mpr ⟨p.2, List.mem_range.mpr h2, rfl⟩⟩
theorem tx_len {ts : List Str} (h : ∀ t ∈ ts, t.length ≤ 200) (i : Nat) : (tx ts i).length ≤ 200 := by
  rcases Nat.lt_or_ge i ts.length with g | g
  · exact h _ (tx_mem g)
  · unfold tx
    rw [List.getD_eq_getElem?_getD, List.getElem?_eq_none (by omega)]
    exact Nat.zero_le _
theorem plN_len {ts : List Str} (h : ∀ t ∈ ts, t.length ≤ 200) (n : Nat) : (plN ts n).length ≤ 200 * n := by
  induction n with
  | zero => exact Nat.le_refl _
  | succ n ih =>
    rw [plN_succ, List.length_append]
    have : (row ts n).length = (tx ts n).length := by unfold row; rw [List.length_map, List.length_range]
    have := tx_len h n
    omega
/-- the ending from a place on -/
def sfx (ts : List Str) (p : Pl) : Str := cutS (tx ts p.1) (some ((p.2 : Nat) : Int)) none
theorem sfx_cod (ts : List Str) (p : Pl) : cod (sfx ts p) = (cod (tx ts p.1)).drop p.2 := cutS_from (Int.natCast_nonneg _)
theorem sfx_len (ts : List Str) (p : Pl) : (sfx ts p).length = (tx ts p.1).length - p.2 := by rw [len_S, len_S, ← List.length_drop]; exact congrArg List.length (sfx_cod ts p)
def enc (ts : List Str) (p : Pl) : PyData := .tuple [.str (sfx ts p), .int (p.1 : Nat), .int (p.2 : Nat)]
def leE (d e : PyData) : Bool := !dataLt e d
def leP (ts : List Str) (p q : Pl) : Bool := leE (enc ts p) (enc ts q)
theorem leP_eq (ts : List Str) (p q : Pl) : leP ts p q = true ↔ ¬ (cod (sfx ts q) < cod (sfx ts p) ∨ sfx ts q = sfx ts p ∧ ((q.1 : Int) < p.1 ∨ (q.1 : Int) = p.1 ∧ (q.2 : Int) < p.2)) := by
  unfold leP leE enc
  rw [dataLt_sii, Bool.not_eq_true', decide_eq_false_iff_not]
theorem leP_trans (ts : List Str) (a b c : Pl) (h : leP ts a b = true) (k : leP ts b c = true) : leP ts a c = true := by
  rw [leP_eq] at *
  rintro (e | ⟨e, f⟩)
  · exact lle (fun z => h (.inl z)) (fun z => k (.inl z)) e
  · have e1 : cod (sfx ts a) = cod (sfx ts b) := by
      rcases ltri (cod (sfx ts a)) (cod (sfx ts b)) with z | z | z
      · exact absurd (.inl (by rw [e]; exact z)) k
      · exact z
      · exact absurd (.inl z) h
    have e2 := cod_inj e1
    have n1 : ¬ ((b.1 : Int) < a.1 ∨ (b.1 : Int) = a.1 ∧ (b.2 : Int) < a.2) := fun z => h (.inr ⟨e2.symm, z⟩)
    have n2 : ¬ ((c.1 : Int) < b.1 ∨ (c.1 : Int) = b.1 ∧ (c.2 : Int) < b.2) := fun z => k (.inr ⟨e.trans e2, z⟩)
    omega
theorem leP_total (ts : List Str) (a b : Pl) : (leP ts a b || leP ts b a) = true := by
  rw [Bool.or_eq_true, leP_eq, leP_eq]
  refine Classical.byContradiction fun c => ?_
  rw [not_or, Classical.not_not, Classical.not_not] at c
  obtain ⟨x | ⟨x, f⟩, y | ⟨y, g⟩⟩ := c
  · exact lirr _ (ltr x y)
  · rw [y] at x; exact lirr _ x
  · rw [x] at y; exact lirr _ y
  · omega
/-- all places, by their endings -/
def ord (ts : List Str) : List Pl := (pl ts).mergeSort (leP ts)
theorem ord_perm (ts : List Str) : (ord ts).Perm (pl ts) := List.mergeSort_perm _ _
theorem ord_mem {ts : List Str} {p : Pl} : p ∈ ord ts ↔ InT ts p := by rw [← pl_mem]; exact (ord_perm ts).mem_iff
/-- the codes of the i-th ending -/
def sOf (ts : List Str) (i : Nat) : LN := cod (sfx ts ((ord ts).getD i (0, 0)))
theorem ordD {ts : List Str} {i : Nat} (h : i < (ord ts).length) : (ord ts)[i]? = some ((ord ts).getD i (0, 0)) ∧ InT ts ((ord ts).getD i (0, 0)) := by
  have e : (ord ts).getD i (0, 0) = (ord ts)[i] := by rw [List.getD_eq_getElem?_getD, List.getElem?_eq_getElem h]; rfl
  rw [e]
  exact ⟨List.getElem?_eq_getElem h, ord_mem.mp (List.getElem_mem h)⟩
theorem ord_srt (ts : List Str) : Srt (sOf ts) (ord ts).length := by
  intro i j hij hj e
  have p : (ord ts).Pairwise fun a b => leP ts a b = true := List.pairwise_mergeSort (leP_trans ts) (leP_total ts) (pl ts)
  have q := List.pairwise_iff_getElem.mp p i j (by omega) hj hij
  rw [leP_eq] at q
  unfold sOf at e
  rw [List.getD_eq_getElem?_getD, List.getD_eq_getElem?_getD, List.getElem?_eq_getElem hj, List.getElem?_eq_getElem (show i < (ord ts).length by omega)] at e
  exact q (.inl e)
/-! ### lists of pairs in the heap -/
def PsL (H : Hp) (a : Addr) (ps : List Pl) : Prop := ∃ vs, H a = some (.lst vs) ∧ All2 (PAt H) vs ps
theorem PsL.same {H H' : Hp} {a : Addr} {ps : List Pl} (k : Same H H') (h : PsL H a ps) : PsL H' a ps := let ⟨vs, e, q⟩ := h; ⟨vs, k _ _ e, q.imp fun _ _ r => r.same k⟩
/-- an ending and its place -/
def RAt (ts : List Str) (H : Hp) (v : V) (p : Pl) : Prop := ∃ b, v = .ref b ∧ H b = some (.tup [.str (sfx ts p), .int (p.1 : Nat), .int (p.2 : Nat)])
theorem RAt.same {ts : List Str} {H H' : Hp} {v : V} {p : Pl} (k : Same H H') (h : RAt ts H v p) : RAt ts H' v p := let ⟨b, e, q⟩ := h; ⟨b, e, k _ _ q⟩
theorem All2.zs {α β : Type} {R : α → β → Prop} {xs : List α} {ys : List β} (h : All2 R xs ys) : ∃ zs : List (α × β), xs = zs.map (·.1) ∧ ys = zs.map (·.2) ∧ ∀ z ∈ zs, R z.1 z.2 := by
  induction h with
  | nil => exact ⟨[], rfl, rfl, fun z h => absurd h (by simp)⟩
  | @cons x y xs ys r _ ih =>
    obtain ⟨zs, e1, e2, h⟩ := ih
    refine ⟨(x, y) :: zs, by rw [e1]; rfl, by rw [e2]; rfl, fun z hz => ?_⟩
    rcases List.mem_cons.mp hz with e | e
    · rw [e]; exact r
    · exact h z e
theorem All2.ofZ {α β : Type} {R : α → β → Prop} : ∀ {zs : List (α × β)}, (∀ z ∈ zs, R z.1 z.2) → All2 R (zs.map (·.1)) (zs.map (·.2))
  | [], _ => .nil
  | z :: zs, h => .cons (h z List.mem_cons_self) (All2.ofZ fun y hy => h y (List.mem_cons_of_mem _ hy))
theorem enc_depth (ts : List Str) (p : Pl) : (enc ts p).depth ≤ 60 := by
  unfold enc
  simp [PyData.depth, PyData.depthAll]
theorem enc_alike (ts : List Str) (p q : Pl) : alike (enc ts p) (enc ts q) = true := by
  unfold enc
  simp [alike, alikeAll]
theorem enc_dp {ts : List Str} {K : PySem.W.Frag} {H : Hp} {v : V} {p : Pl} (h : RAt ts H v p) : Dp K H v (enc ts p) := by
  obtain ⟨b, rfl, e⟩ := h
  exact .tup (SqT.of e) (.cons (.str _) (.cons (.int _) (.cons (.int _) .nil)))
/-- sorted of a list of rows -/
theorem sorted_rows {ts : List Str} {K : PySem.W.Frag} {H : Hp} {a : Addr} {vs : List V} {ps : List Pl} {Q : VK} (ha : H a = some (.lst vs)) (h : All2 (RAt ts H) vs ps)
    (q : ∀ p vs', H p = none → All2 (RAt ts H) vs' (ps.mergeSort (leP ts)) → Q (.ref p) (upd H p (.lst vs'))) : rSortedD K [.ref a] H Q := by
  obtain ⟨zs, rfl, rfl, hz⟩ := h.zs
  have em : ∀ z : V × Pl, z ∈ zs → z ∈ zs := fun _ h => h
  refine ⟨a, zs.map (fun z => (z.1, enc ts z.2)), rfl, ?_, ?_, ?_, ?_, ?_, fun p np => ?_⟩
  · rw [List.map_map]; exact sq_of ha
  · intro b hb
    obtain ⟨z, hz', rfl⟩ := List.mem_map.mp hb
    exact enc_dp (hz z hz')
  · rw [List.map_map]
    exact AllAlike.of (enc := fun z : V × Pl => enc ts z.2) fun b b' => enc_alike ts _ _
  · rw [List.map_map]
    exact Sortable.tuples (enc := fun z : V × Pl => enc ts z.2) fun b => ⟨_, _, rfl⟩
  · intro b hb
    obtain ⟨z, hz', rfl⟩ := List.mem_map.mp hb
    exact enc_depth ts z.2
  · have e1 : (zs.map fun z => ((z.1, enc ts z.2) : DV)).mergeSort leD = (zs.mergeSort fun z w => leP ts z.2 w.2).map fun z => (z.1, enc ts z.2) := (List.map_mergeSort (r := fun z w : V × Pl => leP ts z.2 w.2) (s := leD) (f := fun z : V × Pl => ((z.1, enc ts z.2) : DV)) (l := zs) fun x _ y _ => rfl).symm
    have e2 : (zs.map (·.2)).mergeSort (leP ts) = (zs.mergeSort fun z w => leP ts z.2 w.2).map (·.2) := (List.map_mergeSort (r := fun z w : V × Pl => leP ts z.2 w.2) (s := leP ts) (f := fun z : V × Pl => z.2) (l := zs) fun x _ y _ => rfl).symm
    rw [e2] at q
    rw [e1, List.map_map]
    exact q p _ np (All2.ofZ fun z hz' => hz z ((List.mergeSort_perm _ _).mem_iff.mp hz'))
end LawK
set_option maxHeartbeats 4000000
namespace LawK
open PySem PySem.Spec PyProof.Rows L2 Ev

theorem walk_en {K : PySem.W.Frag} {a : Addr} {xs : List V} : Walk (Iten K a) xs.length (fun H => SqT K H a xs) (YPair (fun i => some (.int (i : Nat))) (fun i => xs[i]?)) := by
  refine ⟨fun i _ hi q => ⟨xs, xs[i], q, by simp [hi]⟩, fun _ q => ⟨xs, q, Nat.le_refl _⟩, fun i H v H' _ q y => ?_⟩
  obtain ⟨T, x, h1, h2, h3, h4⟩ := y
  exact ⟨T, .int (i : Nat), x, h1, h2, h3, rfl, h4 xs q⟩
def spAllPlaces (C : Addr) : Sp := fun vs H Q _ => ∃ (s : Addr) (ts : List Str), vs = [.ref s] ∧ LibAt H C s ts ∧ ∀ a H', Same H H' → H a = none → PsL H' a (pl ts) → Q (.ref a) H'
def spInOrder (C : Addr) : Sp := fun vs H Q _ => ∃ (s f : Addr) (ts : List Str) (ps : List Pl), vs = [.ref s, .ref f] ∧ LibAt H C s ts ∧ PsL H f ps ∧ ps.length ≤ 2000 ∧ (∀ p ∈ ps, InT ts p) ∧ ∀ a H', Same H H' → H a = none → PsL H' a (ps.mergeSort (leP ts)) → Q (.ref a) H'
def spEndings (C : Addr) : Sp := fun vs H Q _ => ∃ (s : Addr) (ts : List Str), vs = [.ref s] ∧ LibAt H C s ts ∧ ∀ a H', Same H H' → H a = none → PsL H' a (ord ts) → Q (.ref a) H'
def spEnding (C : Addr) : Sp := fun vs H Q _ => ∃ (s : Addr) (ts : List Str) (v : V) (p : Pl), vs = [.ref s, v] ∧ LibAt H C s ts ∧ PAt H v p ∧ InT ts p ∧ Q (.str (sfx ts p)) H
/-- the law's texts -/
structure TsAt (H : Hp) (a : Addr) (ts : List Str) : Prop where
  at_ : H a = some (.tup (ts.map V.str))
  few : ts.length ≤ 8
  sg : ∀ t ∈ ts, sgB t = true
  len : ∀ t ∈ ts, t.length ≤ 200
theorem TsAt.same {H H' : Hp} {a : Addr} {ts : List Str} (k : Same H H') (h : TsAt H a ts) : TsAt H' a ts := ⟨k _ _ h.at_, h.few, h.sg, h.len⟩
def spLOrder : Sp := fun vs H Q _ => ∃ (a : Addr) (ts : List Str), vs = [.ref a] ∧ TsAt H a ts ∧ ∀ b H', Same H H' → H b = none → PsL H' b (ord ts) → Q (.ref b) H'
def spLPlaces : Sp := fun vs H Q _ => ∃ (a : Addr) (ts : List Str), vs = [.ref a] ∧ TsAt H a ts ∧ ∀ b H', Same H H' → H b = none → PsL H' b (pl ts) → Q (.ref b) H'
def spLEnding : Sp := fun vs H Q _ => ∃ (a : Addr) (ts : List Str) (v : V) (p : Pl), vs = [.ref a, v] ∧ TsAt H a ts ∧ PAt H v p ∧ InT ts p ∧ Q (.str (sfx ts p)) H
theorem add_pair {H : Hp} {D b : Addr} {us : List V} {ps : List Pl} {i j : Nat} {y : V} (nb : H b = none) (hD : H D = some (.lst us)) (hu : All2 (PAt H) us ps) (hy : y = .int (j : Nat)) : All2 (PAt (upd (upd H b (.tup [.int (i : Nat), y])) D (.lst (us ++ [.ref b])))) (us ++ [.ref b]) (ps ++ [(i, j)]) := by
  have nDb : b ≠ D := fun e => by rw [e, hD] at nb; cases nb
  subst hy
  refine All2.snoc (hu.imp fun _ _ ⟨c, e, r⟩ => ⟨c, e, ?_⟩) ⟨b, rfl, ?_⟩
  · rw [upd_ne nDb, upd_same]
  · have ncD : c ≠ D := fun e => by rw [e, hD] at r; cases r
    rw [upd_ne ncD]
    exact (Same.new nb) _ _ r
theorem row_take (ts : List Str) (i j : Nat) (h : j < (tx ts i).length) : (List.range (j + 1)).map (fun k => ((i, k) : Pl)) = (List.range j).map (fun k => (i, k)) ++ [(i, j)] := by
  rw [List.range_succ, List.map_append]
  rfl
theorem All2.app {α β : Type} {R : α → β → Prop} {xs zs : List α} {ys us : List β} (h : All2 R xs ys) (k : All2 R zs us) : All2 R (xs ++ zs) (ys ++ us) := by
  induction h with
  | nil => exact k
  | cons r _ ih => exact .cons r ih
theorem All2.of_at {α β : Type} {R : α → β → Prop} {xs : List α} {ys : List β} (h : All2 R xs ys) {i : Nat} {y : β} (e : ys[i]? = some y) : ∃ x, xs[i]? = some x ∧ R x y := by
  induction h generalizing i with
  | nil => simp at e
  | cons r _ ih => cases i with
    | zero => cases e; exact ⟨_, rfl, r⟩
    | succ i => exact ih e
section
variable {P : Program} {w : World} {K : PySem.W.Frag} {mg : Str → Option Value} {base : Heap}
variable {C fI : Addr} {fdI : FuncData}
abbrev sPAllPlaces : Stmt := topS 14
theorem scPAllPlaces : FnScope ["library", "number", "text", "at"] ["library"] (defScope sPAllPlaces) := ⟨rfl, rfl, rfl, by decide +kernel, rfl, by decide +kernel, by decide +kernel⟩
theorem ok_PAllPlaces {f : Addr} {fd : FuncData} (F : Fun K "all_places" "all_places" sPAllPlaces f fd) (L : LibC K mg C fI fdI)  (T : Glob mg) : FnOk P w K mg base CX0 1 f fd ["library"] (spAllPlaces C) := by
  refine F.ok scPAllPlaces (fun vs H Q E h => ?_) (fun cdv A outer s H vs Q E hr h => ?_)
  · obtain ⟨s, ts, rfl, _⟩ := h
    rfl
  · refine ⟨_, (pss_one (ps_ret (pe_lc2 (own := [("number", 1), ("text", 2), ("at", 3)]) (vs1 := [3]) (g := (gTup K 2 (gCons (gName 1) (gCons (gName 2) gNil)))) (g1 := gName 3) (by rfl) scPAllPlaces.nd (pi_enumT (by rfl) T.enumerate (pa_cons (pe_fld (pv 0) rfl) pa_nil)) (blkOk_by (N := ["library", "number", "text", "at"]) (sc := defScope sPAllPlaces) (by decide +kernel)) (by decide) (fun _ _ _ _ _ => pg_tup (by rfl) (pgs_cons (pg_name (i := 1) scPAllPlaces.nd rfl (.inl rfl)) (pgs_cons (pg_name (i := 2) scPAllPlaces.nd rfl (.inl rfl)) pgs_nil))) (fun _ _ _ _ _ => pts_nil) (fun _ _ _ _ _ => (pi_range1 (by rfl) T.range (pa_cons (pe_callB call_lenZ (by rfl) T.len PySem.boot_len (pa_cons (pv 2) pa_nil)) pa_nil))) (fun _ _ _ _ _ => pg_name (i := 3) scPAllPlaces.nd rfl (.inl rfl)) (fun _ _ _ _ _ => pts_nil) (fun _ _ _ _ _ => (pe_tup (pa_cons (pv 1) (pa_cons (pv 3) pa_nil))))))), ?_⟩
    obtain ⟨p, ts, rfl, hl, q⟩ := h
    have hl0 := hl
    obtain ⟨⟨dx, a, h1, h2⟩, few, sg1, len1⟩ := hl
    refine ⟨.ref p, rfl, p, C, dx, _, .ref a, rfl, h1, L.cl, L.nt, lk1, a, _, rfl, SqT.of h2, fun D nD => wk walk_en (fun i H' => Same H H' ∧ ∃ vs, H' D = some (.lst vs) ∧ All2 (PAt H') vs (plN ts i)) ⟨Same.new nD, [], upd_same, .nil⟩ (fun i H' _ w => SqT.of (w.1 _ _ h2)) ?_ ?_⟩
    · rintro i x H1 H2 hi ⟨k1, vs, hD, hv⟩ ⟨T, x1, x2, rfl, nT, rfl, e1, e2⟩
      rw [List.length_map] at hi
      cases e1
      obtain rfl : V.str (tx ts i) = x2 := Option.some.inj ((tx_at hi).symm.trans e2)
      have k2 : Same H1 (upd H1 T (.tup [.int (i : Nat), .str (tx ts i)])) := Same.new nT
      have hT : upd H1 T (.tup [.int (i : Nat), .str (tx ts i)]) T = some (.tup [.int (i : Nat), .str (tx ts i)]) := upd_same
      revert k2 hT
      generalize upd H1 T (.tup [.int (i : Nat), .str (tx ts i)]) = H2
      intro k2 hT
      have ln1 : (tx ts i).length ≤ 200 := tx_len len1 i
      refine ⟨T, _, rfl, SqT.of hT, rfl, _, _, rfl, _, _, rfl, rfl, rfl, _, rfl, _, rfl, len5 (by omega), _, rfl, by omega, by omega, wk walk_range (fun j H' => Same H H' ∧ ∃ vs, H' D = some (.lst vs) ∧ All2 (PAt H') vs (plN ts i ++ (List.range j).map (fun k => (i, k)))) ⟨k1.trans k2, vs, k2 _ _ hD, by simpa using hv.imp fun _ _ r => r.same k2⟩ (fun _ _ _ _ => trivial) ?_ ?_⟩
      · rintro j y H3 H4 hj ⟨k3, us, hD3, hu⟩ ⟨rfl, rfl⟩
        have hj2 : j < (tx ts i).length := by omega
        refine ⟨rfl, _, rfl, _, rfl, by show 2 ≤ sizeLine; decide, fun b nb => ⟨us, ?_, ?_, sameAt (k3.trans (Same.new nb)) nD, us ++ [.ref b], upd_same, ?_⟩⟩
        · exact (Same.new nb) _ _ hD3
        · have z1 := hu.len
          have z2 := plN_len len1 i
          rw [List.length_append, List.length_map, List.length_range] at z1
          have h3 : sizeLine = 16777216 := sizeLine_eq
          omega
        · rw [row_take ts i j hj2, ← List.append_assoc]
          exact add_pair nb hD3 hu (by show V.int (0 + (j : Int)) = V.int (j : Nat); rw [show (0 + (j : Int)) = (j : Nat) by omega])
      · rintro H3 ⟨k3, us, hD3, hu⟩
        refine ⟨k3, us, hD3, ?_⟩
        rw [plN_succ]
        have e : row ts i = (List.range ((((tx ts i).length : Nat) : Int) - 0).toNat).map (fun k => (i, k)) := by
          unfold row
          rw [show ((((tx ts i).length : Nat) : Int) - 0).toNat = (tx ts i).length by omega]
        rw [e]
        exact hu
    · rintro H1 ⟨k1, vs, hD, hv⟩
      rw [List.length_map] at hv
      exact q D H1 k1 nD ⟨vs, hD, hv⟩
end
end LawK
set_option maxHeartbeats 4000000
namespace LawK
open PySem PySem.Spec PyProof.Rows L2 Ev

/-- the sign at some depth, where the piece is as long -/
def soV : Option Nat → V
  | none => .str ""
  | some c => .str (sn c)
/-- one step: found so far, looking at n -/
def rwS (cs : List (Option Nat)) (p : Prt) (f : List Pl) (n : Nat) : List Pl :=
  match cs[n]? with
  | some (some c) => if lets p c = true then (if f ≠ [] ∧ cs[n - 1]? = some (some c) then f.dropLast ++ [((f.getLastD (0, 0)).1, n + 1)] else f ++ [(n, n + 1)]) else f
  | _ => f
def rwN (cs : List (Option Nat)) (p : Prt) (lo : Nat) : Nat → List Pl
  | 0 => []
  | i + 1 => rwS cs p (rwN cs p lo i) (lo + i)
def spRw : Sp := fun vs H Q _ => ∃ (S : Addr) (lo m : Nat) (v : V) (p : Prt) (cs : List (Option Nat)), vs = [.ref S, .int (lo : Nat), .int ((lo + m : Nat) : Int), v] ∧ H S = some (.lst (cs.map soV)) ∧ lo + m ≤ cs.length ∧ cs.length ≤ 2000 ∧ PrtAt H v p ∧
  ∀ D H', H D = none → Same H H' → PsL H' D (rwN cs p lo m) → Q (.ref D) H'
theorem All2.unsnoc {α β : Type} {R : α → β → Prop} {x : α} {y : β} : ∀ {xs : List α} {ys : List β}, All2 R (xs ++ [x]) (ys ++ [y]) → All2 R xs ys ∧ R x y
  | [], [], h => by cases h with | cons r t => exact ⟨.nil, r⟩
  | [], b :: ys, h => by
    have := h.len
    simp at this
  | a :: xs, [], h => by
    have := h.len
    simp at this
  | a :: xs, b :: ys, h => by
    cases h with
    | cons r t =>
      obtain ⟨t1, t2⟩ := All2.unsnoc t
      exact ⟨.cons r t1, t2⟩
theorem snoc_of {α : Type} {xs : List α} (h : xs ≠ []) : ∃ ys y, xs = ys ++ [y] := (List.eq_nil_or_concat xs).elim (fun e => absurd e h) fun ⟨ys, y, e⟩ => ⟨ys, y, by rw [e, List.concat_eq_append]⟩
theorem PAt.put {H : Hp} {D : Addr} {us ws : List V} (hD : H D = some (.lst us)) {v : V} {p : Pl} (h : PAt H v p) : PAt (upd H D (.lst ws)) v p := by
  obtain ⟨b, e, hb⟩ := h
  refine ⟨b, e, ?_⟩
  rw [upd_ne (fun z => ?_)]
  · exact hb
  · rw [z, hD] at hb
    cases hb
theorem n_e (c : Nat) : ¬ V.str (sn c) = V.str "" := fun e => by
  have h := congrArg (fun s : Str => s.cps.size) (V.str.inj e)
  exact absurd h (by show ¬ (1 = 0); decide)
theorem sn_eq {c d : Nat} : V.str (sn c) = V.str (sn d) ↔ c = d := ⟨fun e => of_decide_eq_true (by rw [← sn_inj]; exact decide_eq_true e), fun e => by rw [e]⟩
theorem soV_eq {o : Option Nat} {c : Nat} : soV o = V.str (sn c) ↔ o = some c := by
  cases o with
  | none => exact ⟨fun e => absurd e.symm (n_e c), fun e => by cases e⟩
  | some d => exact ⟨fun e => by rw [sn_eq.mp e], fun e => by rw [Option.some.inj e]; rfl⟩
section
variable {P : Program} {w : World} {K : PySem.W.Frag} {mg : Str → Option Value} {base : Heap}

abbrev sQRanges : Stmt := topS 27
theorem scQRanges : FnScope ["signs", "low", "high", "part", "found", "number", "sign"] ["signs", "low", "high", "part"] (defScope sQRanges) := ⟨rfl, rfl, rfl, by decide +kernel, rfl, by decide +kernel, by decide +kernel⟩
theorem ok_QRanges {f : Addr} {fd : FuncData} (F : Fun K "_ranges_within" "_ranges_within" sQRanges f fd)  {fPMayBe : Addr} {fdPMayBe : FuncData} (DPMayBe : Dk P w K mg base "may_be" sPMayBe ["part", "sign"] 1 spMay fPMayBe fdPMayBe) (T : Glob mg) : FnOk P w K mg base CX0 2 f fd ["signs", "low", "high", "part"] spRw := by
  refine F.ok scQRanges (fun vs H Q E h => ?_) (fun cdv A outer s H vs Q E hr h => ?_)
  · obtain ⟨S, lo, m, v, p, cs, rfl, _⟩ := h
    rfl
  · refine ⟨_, (pss_cons (ps_set (i := 4) scQRanges.nd rfl (.inl rfl) (pe_lst pa_nil))
      (pss_cons (ps_for PassesOwn.never rfl (pi_range2 (by rfl) T.range (pa_cons (pv 1) (pa_cons (pv 2) pa_nil))) (pg_name (i := 5) scQRanges.nd rfl (.inl rfl))
      (pss_cons (ps_set (i := 6) scQRanges.nd rfl (.inl rfl) (pe_ix ix_list (pv 0) (pv 5) (fun _ _ => rfl)))
        (pss_cons (ps_if (PW.pt (pw_or (pt_cmpR op_eq (pv 6) pe_str (nomark _)) (pw_or1 (pt_not (pt_val (pe_call DPMayBe.ok (hr.mono (by decide)) (by rfl) DPMayBe.g DPMayBe.F.kp DPMayBe.b .nil pass0 (pa_cons (pv 3) (pa_cons (pv 6) pa_nil))))))))
        (pss_one ps_continue)
        pss_nil)
        (pss_one (ps_if (PW.pt (pw_and (pt_truth (pv 4) (by intro _; rfl)) (pw_and1 (pt_cmpR op_eq (pe_ix ix_list (pv 0) (pe_op op_sub (pv 5) pe_int) (fun _ _ => rfl)) (pv 6) (nomark _)))))
        (pss_one (ps_asg (pe_tup (pa_cons (pe_ix ix_tup (pe_ix ix_list (pv 4) (pe_un un_neg pe_int) (fun _ _ => rfl)) pe_int (fun _ _ => rfl)) (pa_cons (pe_op op_add (pv 5) pe_int) pa_nil))) (pg_sub (pv 4) (pe_un un_neg pe_int) set_list)))
        (pss_one (ps_expr (pe_bm PySem.F.plainAttrs_list PySem.F.slot_list_append PySem.F.type_list_append mt_append (pv 4) (pa_cons (pe_tup (pa_cons (pv 5) (pa_cons (pe_op op_add (pv 5) pe_int) pa_nil))) pa_nil)))))))))
      (pss_one (ps_ret (pv 4))))), ?_⟩
    obtain ⟨S, lo, m, v, p, cs, rfl, hS, lm, few, hp, q⟩ := h
    have sz : sizeLine = 16777216 := sizeLine_eq
    refine ⟨Nat.zero_le _, fun D nD => ⟨.int (lo : Nat), rfl, .int ((lo + m : Nat) : Int), rfl, (lo : Int), ((lo + m : Nat) : Int), rfl, ⟨by omega, by omega, by omega, by omega⟩, ?_⟩⟩
    rw [show (((lo + m : Nat) : Int) - (lo : Int)).toNat = m by omega]
    refine for_range (fun i σ H' => ∃ (us : List V) (u5 u6 : Option V), σ = [some (.ref S), some (.int (lo : Nat)), some (.int ((lo + m : Nat) : Int)), some v, some (.ref D), u5, u6] ∧ Same H H' ∧ H' D = some (.lst us) ∧ All2 (PAt H') us (rwN cs p lo i) ∧ us.length ≤ i) ⟨[], none, none, rfl, Same.new nD, upd_same, .nil, Nat.le_refl _⟩ ?_ ?_
    · rintro i σ H2 hi ⟨us, u5, u6, rfl, k2, hD, hus, lus⟩
      dsimp only [tSeq, tAsg, gName]
      have hS2 := k2 _ _ hS
      have hlt : lo + i < cs.length := by omega
      obtain ⟨o, ho⟩ : ∃ o, cs[lo + i]? = some o := ⟨_, List.getElem?_eq_getElem hlt⟩
      have ea : atI (cs.map soV) ((lo : Int) + (i : Int)) = some (soV o) := by
        rw [show (lo : Int) + (i : Int) = ((lo + i : Nat) : Int) by omega]
        exact atI_nat (by rw [List.getElem?_map, ho]; rfl)
      have stay : (∀ c, o = some c → lets p c = false) → rwN cs p lo (i + 1) = rwN cs p lo i := fun h => by
        show rwS cs p _ (lo + i) = _
        unfold rwS
        rw [ho]
        cases o with
        | none => rfl
        | some c =>
          dsimp only
          rw [h c rfl]
          rfl
      refine ⟨.ref S, rfl, .int ((lo : Int) + i), rfl, S, _, _, _, rfl, rfl, sq_of hS2, ea, ?_⟩
      refine (?_ : ∀ Q : Bool → Hp → Prop, Q (match o with | none => true | some c => !lets p c) H2 → tOr _ _ _ H2 Q) _ ?_
      · intro Q hQ
        cases o with
        | none => exact ⟨.str "", rfl, rfl, _, rfl, iteT hQ⟩
        | some c =>
          refine ⟨.str (sn c), rfl, rfl, _, rfl, ite2 (fun e => absurd (of_decide_eq_true e) (n_e c)) fun _ => ?_⟩
          exact ⟨v, rfl, .str (sn c), rfl, v, p, c, rfl, hp.same k2, _, rfl, hQ⟩
      cases o with
      | none => exact ite2 (fun _ => ⟨us, _, _, rfl, k2, hD, by rw [stay fun c e => by cases e]; exact hus, by omega⟩) fun e => absurd rfl e
      | some c =>
        refine ite2 (fun e1 => ?_) fun e1 => ?_
        · have e1 : (!lets p c) = true := e1
          have hl : lets p c = false := by simpa using e1
          exact ⟨us, _, _, rfl, k2, hD, by rw [stay fun d e => by cases e; exact hl]; exact hus, by omega⟩
        · have e1 : ¬ (!lets p c) = true := e1
          have hl : lets p c = true := by simpa using e1
          dsimp only [tNext, tDrop]
          have go : rwN cs p lo (i + 1) = if rwN cs p lo i ≠ [] ∧ cs[lo + i - 1]? = some (some c) then (rwN cs p lo i).dropLast ++ [(((rwN cs p lo i).getLastD (0, 0)).1, lo + i + 1)] else rwN cs p lo i ++ [(lo + i, lo + i + 1)] := by
            show rwS cs p _ (lo + i) = _
            unfold rwS
            rw [ho]
            dsimp only
            rw [if_pos hl]
          have e2 : (lo : Int) + (i : Int) + 1 = ((lo + i + 1 : Nat) : Int) := by omega
          refine (?_ : ∀ Q : Bool → Hp → Prop, Q (decide (rwN cs p lo i ≠ [] ∧ cs[lo + i - 1]? = some (some c))) H2 → tAnd _ _ _ H2 Q) _ ?_
          · intro Q hQ
            refine ⟨.ref D, rfl, _, .inl ⟨us, sq_of hD, rfl⟩, ?_⟩
            cases hus' : us with
            | nil =>
              refine iteF ?_
              have : rwN cs p lo i = [] := List.length_eq_zero_iff.mp (by rw [← hus.len, hus']; rfl)
              rw [decide_eq_false (fun h => h.1 this)] at hQ
              exact hQ
            | cons u0 us0 =>
              have ne : rwN cs p lo i ≠ [] := fun e => by
                have := hus.len
                rw [e, hus'] at this
                cases this
              have i0 : i ≠ 0 := fun e => ne (by rw [e]; rfl)
              obtain ⟨o', ho'⟩ : ∃ o', cs[lo + i - 1]? = some o' := ⟨_, List.getElem?_eq_getElem (by omega)⟩
              refine iteT ⟨.ref S, rfl, .int ((lo : Int) + i), rfl, _, _, rfl, rfl, S, _, _, soV o', rfl, rfl, sq_of hS2, ?_, .str (sn c), rfl, ?_, ?_⟩
              · rw [show (lo : Int) + (i : Int) - 1 = ((lo + i - 1 : Nat) : Int) by omega]
                exact atI_nat (by rw [List.getElem?_map, ho']; rfl)
              · cases o' <;> rfl
              · refine ⟨_, rfl, ?_⟩
                rw [show decide (soV o' = V.str (sn c)) = decide (rwN cs p lo i ≠ [] ∧ cs[lo + i - 1]? = some (some c)) from decide_eq_decide.mpr ⟨fun e => ⟨ne, by rw [ho', soV_eq.mp e]⟩, fun h => soV_eq.mpr (Option.some.inj (by rw [← ho']; exact h.2))⟩]
                exact hQ
          refine ite2 (fun e => ?_) fun e => ?_
          · have e := of_decide_eq_true e
            rw [if_pos e] at go
            obtain ⟨f0, qq, hf⟩ := snoc_of e.1
            have nu : us ≠ [] := fun z => by
              have := hus.len
              rw [z, hf, List.length_append] at this
              cases this
            obtain ⟨us0, u, hu⟩ := snoc_of nu
            subst hu
            rw [hf] at hus go
            rw [List.dropLast_concat, List.getLastD_concat] at go
            obtain ⟨hu0, b, rfl, hb⟩ := All2.unsnoc hus
            have la : atI (us0 ++ [V.ref b]) (-1) = some (.ref b) := atI_last _ _
            refine ⟨.ref D, rfl, _, rfl, D, _, -1, .ref b, rfl, rfl, sq_of hD, la, b, _, 0, .int (qq.1 : Nat), rfl, rfl, SqT.of hb, rfl, .int ((lo : Int) + i), rfl, _, _, rfl, rfl, by show 2 ≤ sizeLine; decide, fun t nt => ?_⟩
            dsimp only
            rw [e2]
            have kt := Same.new (H := H2) (o := .tup [.int (qq.1 : Nat), .int ((lo + i + 1 : Nat) : Int)]) nt
            have ht : PAt (upd H2 t (.tup [.int (qq.1 : Nat), .int ((lo + i + 1 : Nat) : Int)])) (.ref t) (qq.1, lo + i + 1) := ⟨t, rfl, upd_same⟩
            have hD3 := kt _ _ hD
            have hu3 := hu0.imp fun _ _ r => PAt.same kt r
            have k3 := k2.trans kt
            revert hD3 ht hu3 k3 kt
            generalize upd H2 t (.tup [.int (qq.1 : Nat), .int ((lo + i + 1 : Nat) : Int)]) = H3
            intro kt ht hD3 hu3 k3
            refine ⟨.ref D, rfl, _, rfl, D, _, -1, us0.length, rfl, rfl, hD3, ?_, ?_⟩
            · unfold ixN
              rw [if_neg (by decide), if_pos (by rw [List.length_append, List.length_singleton]; omega), List.length_append, List.length_singleton]
              exact congrArg some (by omega)
            · refine ⟨us0 ++ [.ref t], _, _, rfl, sameAt k3 nD, ?_, ?_, ?_⟩
              · rw [upd_same, List.set_append_right _ _ (Nat.le_refl _), Nat.sub_self]
                rfl
              · rw [go]
                exact (hu3.snoc ht).imp fun _ _ r => PAt.put hD3 r
              · rw [List.length_append, List.length_singleton] at lus ⊢
                omega
          · have e : ¬ (rwN cs p lo i ≠ [] ∧ cs[lo + i - 1]? = some (some c)) := fun h => e (decide_eq_true h)
            rw [if_neg e] at go
            refine ⟨.ref D, rfl, .inl ⟨rfl, _, sq_of hD⟩, .int ((lo : Int) + i), rfl, .int ((lo : Int) + i), rfl, _, _, rfl, rfl, by show 2 ≤ sizeLine; decide, fun t nt => ?_⟩
            dsimp only
            rw [e2, show (lo : Int) + (i : Int) = ((lo + i : Nat) : Int) by omega]
            have kt := Same.new (H := H2) (o := .tup [.int ((lo + i : Nat) : Int), .int ((lo + i + 1 : Nat) : Int)]) nt
            have ht : PAt (upd H2 t (.tup [.int ((lo + i : Nat) : Int), .int ((lo + i + 1 : Nat) : Int)])) (.ref t) (lo + i, lo + i + 1) := ⟨t, rfl, upd_same⟩
            have hD3 := kt _ _ hD
            have hu3 := hus.imp fun _ _ r => PAt.same kt r
            have k3 := k2.trans kt
            revert hD3 ht hu3 k3 kt
            generalize upd H2 t (.tup [.int ((lo + i : Nat) : Int), .int ((lo + i + 1 : Nat) : Int)]) = H3
            intro kt ht hD3 hu3 k3
            refine ⟨D, us, .ref t, rfl, rfl, hD3, by omega, us ++ [.ref t], _, _, rfl, sameAt k3 nD, upd_same, ?_, ?_⟩
            · rw [go]
              exact (hu3.snoc ht).imp fun _ _ r => PAt.put hD3 r
            · rw [List.length_append, List.length_singleton]
              omega
    · rintro σ H2 ⟨us, u5, u6, rfl, k2, hD, hus, lus⟩
      exact ⟨.ref D, rfl, q D H2 nD k2 ⟨us, hD, hus⟩⟩

end
end LawK
set_option maxHeartbeats 4000000
namespace LawK
open PySem PySem.Spec PyProof.Rows L2 Ev

theorem take_snoc {α : Type} {xs : List α} {i : Nat} {x : α} (h : xs[i]? = some x) : xs.take (i + 1) = xs.take i ++ [x] := by rw [List.take_succ, h]; rfl
theorem add_row {ts : List Str} {H : Hp} {D b : Addr} {us : List V} {ps : List Pl} {p : Pl} {z : Str} (hz : z = sfx ts p) (nb : H b = none) (hD : H D = some (.lst us)) (hu : All2 (RAt ts H) us ps) : All2 (RAt ts (upd (upd H b (.tup [.str z, .int (p.1 : Nat), .int (p.2 : Nat)])) D (.lst (us ++ [.ref b])))) (us ++ [.ref b]) (ps ++ [p]) := by
  have nDb : b ≠ D := fun e => by rw [e, hD] at nb; cases nb
  subst hz
  refine All2.snoc (hu.imp fun _ _ ⟨c, e, r⟩ => ⟨c, e, ?_⟩) ⟨b, rfl, ?_⟩
  · rw [upd_ne nDb, upd_same]
  · have ncD : c ≠ D := fun e => by rw [e, hD] at r; cases r
    rw [upd_ne ncD]
    exact (Same.new nb) _ _ r
theorem all_at {α β : Type} {R : α → β → Prop} {xs : List α} {ys : List β} (h : All2 R xs ys) {i : Nat} {x : α} (e : xs[i]? = some x) : ∃ y, ys[i]? = some y ∧ R x y := h.at e
/-- from rows in order to their places -/
def tRows (K : PySem.W.Frag) (ts : List Str) (H0 : Hp) (D : Addr) (qs : List Pl) (i : Nat) (H' : Hp) : Prop := Same H0 H' ∧ ∃ us, H' D = some (.lst us) ∧ All2 (PAt H') us (qs.take i)
section
variable {P : Program} {w : World} {K : PySem.W.Frag} {mg : Str → Option Value} {base : Heap}
variable {C fI : Addr} {fdI : FuncData}
abbrev sPInOrder : Stmt := topS 16
theorem scPInOrder : FnScope ["library", "found", "rows", "text", "at", "_"] ["library", "found"] (defScope sPInOrder) := ⟨rfl, rfl, rfl, by decide +kernel, rfl, by decide +kernel, by decide +kernel⟩
theorem ok_PInOrder {f : Addr} {fd : FuncData} (F : Fun K "in_order" "in_order" sPInOrder f fd) (L : LibC K mg C fI fdI)  (T : Glob mg) : FnOk P w K mg base CX0 1 f fd ["library", "found"] (spInOrder C) := by
  refine F.ok scPInOrder (fun vs H Q E h => ?_) (fun cdv A outer s H vs Q E hr h => ?_)
  · obtain ⟨s, f, ts, ps, rfl, _⟩ := h
    rfl
  · refine ⟨_, (pss_cons (ps_setLc (i := 2) (own := [("text", 3), ("at", 4)]) (g := (gTup K 2 (gCons (gName 3) (gCons (gName 4) gNil)))) (by rfl) scPInOrder.nd rfl rfl (sw_true rfl rfl rfl (by decide +kernel)) (pi_list (pv 1)) (blkOk_by (N := ["library", "found", "rows", "text", "at", "_"]) (sc := defScope sPInOrder) (by decide +kernel)) (fun _ _ _ _ _ => pg_tup (by rfl) (pgs_cons (pg_name (i := 3) scPInOrder.nd rfl (.inl rfl)) (pgs_cons (pg_name (i := 4) scPInOrder.nd rfl (.inl rfl)) pgs_nil))) (fun _ _ _ _ _ => pts_nil) (fun _ _ _ _ _ => (pe_tup (pa_cons (pe_slice sl_str (pe_ix (r := rIxT K) (ta := tFld K (tVar 0) "texts") ix_tup (pe_fld (pv 0) rfl) (pv 3) (fun _ _ => rfl)) (po_some (pv 4)) po_none) (pa_cons (pv 3) (pa_cons (pv 4) pa_nil))))))
      (pss_one (ps_ret (pe_lc (own := [("_", 5), ("text", 3), ("at", 4)]) (g := (gTup K 3 (gCons (gName 5) (gCons (gName 3) (gCons (gName 4) gNil))))) (by rfl) scPInOrder.nd (pi_list (pe_callB (cr_sortedD hr.units) (by rfl) T.sorted (by decide +kernel) (pa_cons (pv 2) pa_nil))) (blkOk_by (N := ["library", "found", "rows", "text", "at", "_"]) (sc := defScope sPInOrder) (by decide +kernel)) (fun _ _ _ _ _ => pg_tup (by rfl) (pgs_cons (pg_name (i := 5) scPInOrder.nd rfl (.inl rfl)) (pgs_cons (pg_name (i := 3) scPInOrder.nd rfl (.inl rfl)) (pgs_cons (pg_name (i := 4) scPInOrder.nd rfl (.inl rfl)) pgs_nil)))) (fun _ _ _ _ _ => pts_nil) (fun _ _ _ _ _ => (pe_tup (pa_cons (pv 3) (pa_cons (pv 4) pa_nil)))))))), ?_⟩
    obtain ⟨s, f, ts, ps, rfl, hl, ⟨vs, hf, hv⟩, few, hin, q⟩ := h
    obtain ⟨⟨dx, a, h1, h2⟩, few1, sg1, len1⟩ := hl
    refine ⟨.ref f, rfl, f, rfl, ⟨_, sq_of hf⟩, fun D nD => lc_list (xs := vs) (fun i H' => Same H H' ∧ ∃ us, H' D = some (.lst us) ∧ All2 (RAt ts H') us (ps.take i)) ⟨Same.new nD, [], upd_same, .nil⟩ (fun i H' _ w => sq_of (w.1 _ _ hf)) ?_ ?_⟩
    · rintro i x H2 hx ⟨k2, us, hD, hu⟩
      obtain ⟨p, ep, b, rfl, eb⟩ := hv.at hx
      have ip := hin p (List.mem_of_getElem? ep)
      have eb2 := k2 _ _ eb
      refine ⟨b, _, rfl, SqT.of eb2, rfl, _, _, rfl, _, _, rfl, rfl, rfl, .ref s, rfl, s, C, dx, _, .ref a, rfl, k2 _ _ h1, L.cl, L.nt, lk1, _, rfl, a, _, _, _, rfl, rfl, SqT.of (k2 _ _ h2), atI_nat (tx_at ip.text), _, rfl, _, rfl, _, rfl, len5 (Nat.le_trans (tx_len len1 _) (by decide)), _, rfl, _, rfl, by show 3 ≤ sizeLine; decide, fun c nc => ⟨us, (Same.new nc) _ _ hD, ?_, sameAt (k2.trans (Same.new nc)) nD, us ++ [.ref c], upd_same, ?_⟩⟩
      · have z1 := hu.len
        rw [List.length_take] at z1
        have h3 : sizeLine = 16777216 := sizeLine_eq
        omega
      · rw [take_snoc ep]
        exact add_row rfl nc hD hu
    · rintro H2 ⟨k2, us, hD, hu⟩
      rw [hv.len, List.take_length] at hu
      refine ⟨.ref D, rfl, ?_⟩
      dsimp only [tNil]
      refine sorted_rows hD hu fun A ws nA hw => ?_
      have kA : Same H (upd H2 A (.lst ws)) := k2.trans (Same.new nA)
      have hw := hw.imp fun _ _ r => r.same (Same.new (o := .lst ws) nA)
      have hA : upd H2 A (.lst ws) A = some (.lst ws) := upd_same
      clear nD hD
      revert kA hw hA
      generalize upd H2 A (.lst ws) = HX
      intro kA hw hA
      have lq : (ps.mergeSort (leP ts)).length ≤ 2000 := by rw [List.length_mergeSort]; exact few
      revert q lq hw
      generalize ps.mergeSort (leP ts) = qs
      intro q hw lq
      refine ⟨A, rfl, ⟨_, sq_of hA⟩, fun D nD => lc_list (xs := ws) (fun i H' => Same HX H' ∧ ∃ us, H' D = some (.lst us) ∧ All2 (PAt H') us (qs.take i)) ⟨Same.new nD, [], upd_same, .nil⟩ (fun i H' _ w => sq_of (w.1 _ _ hA)) ?_ ?_⟩
      · rintro i x H2 hx ⟨k2, us, hD, hu⟩
        obtain ⟨p, ep, b, rfl, eb⟩ := hw.at hx
        have eb2 := k2 _ _ eb
        refine ⟨b, _, rfl, SqT.of eb2, rfl, _, _, rfl, _, _, rfl, _, _, rfl, rfl, rfl, _, rfl, _, rfl, by show 2 ≤ sizeLine; decide, fun c nc => ⟨us, (Same.new nc) _ _ hD, ?_, sameAt (k2.trans (Same.new nc)) nD, us ++ [.ref c], upd_same, ?_⟩⟩
        · have z1 := hu.len
          rw [List.length_take] at z1
          have h3 : sizeLine = 16777216 := sizeLine_eq
          have h4 : i < qs.length := (List.getElem?_eq_some_iff.mp ep).1
          omega
        · rw [take_snoc ep]
          exact add_pair nc hD hu rfl
      · rintro H2 ⟨k2, us, hD, hu⟩
        rw [hw.len, List.take_length] at hu
        exact q D H2 (kA.trans k2) (Same.free kA nD) ⟨us, hD, hu⟩
end
end LawK
set_option maxHeartbeats 4000000
namespace LawK
open PySem PySem.Spec PyProof.Rows L2 Ev
section
variable {P : Program} {w : World} {K : PySem.W.Frag} {mg : Str → Option Value} {base : Heap}
variable {C fI : Addr} {fdI : FuncData}
abbrev sPEndings : Stmt := topS 17
theorem scPEndings : FnScope ["library"] ["library"] (defScope sPEndings) := ⟨rfl, rfl, rfl, by decide +kernel, rfl, by decide +kernel, by decide +kernel⟩
theorem ok_PEndings {f : Addr} {fd : FuncData} (F : Fun K "endings" "endings" sPEndings f fd)  {fPAllPlaces : Addr} {fdPAllPlaces : FuncData} (DPAllPlaces : Dk P w K mg base "all_places" sPAllPlaces ["library"] 1 (spAllPlaces C) fPAllPlaces fdPAllPlaces) {fPInOrder : Addr} {fdPInOrder : FuncData} (DPInOrder : Dk P w K mg base "in_order" sPInOrder ["library", "found"] 1 (spInOrder C) fPInOrder fdPInOrder) (T : Glob mg) : FnOk P w K mg base CX0 2 f fd ["library"] (spEndings C) := by
  refine F.ok scPEndings (fun vs H Q E h => ?_) (fun cdv A outer s H vs Q E hr h => ?_)
  · obtain ⟨s, ts, rfl, _⟩ := h
    rfl
  · refine ⟨_, (pss_one (ps_ret (pe_call DPInOrder.ok (hr.mono (by decide)) (by rfl) DPInOrder.g DPInOrder.F.kp DPInOrder.b .nil pass0 (pa_cons (pv 0) (pa_cons (pe_call DPAllPlaces.ok (hr.mono (by decide)) (by rfl) DPAllPlaces.g DPAllPlaces.F.kp DPAllPlaces.b .nil pass0 (pa_cons (pv 0) pa_nil)) pa_nil))))), ?_⟩
    obtain ⟨s, ts, rfl, hl, q⟩ := h
    refine ⟨.ref s, rfl, .ref s, rfl, s, ts, rfl, hl, fun a H1 k1 na hp => ?_⟩
    refine ⟨s, a, ts, pl ts, rfl, hl.same k1, hp, ?_, fun p h => pl_mem.mp h, fun b H2 k2 nb h2 => q b H2 (k1.trans k2) (Same.free k1 nb) h2⟩
    have := plN_len hl.len ts.length
    have := hl.few
    show (plN ts ts.length).length ≤ 2000
    omega
end
end LawK
set_option maxHeartbeats 4000000
namespace LawK
open PySem PySem.Spec PyProof.Rows L2 Ev

/-- the sign d signs behind a place -/
def sgn (ts : List Str) (d : Nat) (q : Pl) : Option Nat := (tx ts q.1).cps.toList[q.2 + d]?
theorem cut_sgn {z : Str} {k : Nat} : V.str (cutS z (some (k : Int)) (some ((k : Int) + 1))) = soV z.cps.toList[k]? := by
  have h := cutS_of (z := z) (i := (k : Int)) (j := (k : Int) + 1) (by omega) (by omega)
  rw [show ((k : Int)).toNat = k by omega, show ((k : Int) + 1 - (k : Int)).toNat = 1 by omega] at h
  have e : cutS z (some (k : Int)) (some ((k : Int) + 1)) = ⟨(cutS z (some (k : Int)) (some ((k : Int) + 1))).cps.toList.toArray⟩ := rfl
  rw [e, h]
  cases hk : z.cps.toList[k]? with
  | none =>
    rw [List.drop_eq_nil_of_le (by simpa using hk)]
    rfl
  | some c =>
    have hl := (List.getElem?_eq_some_iff.mp hk).1
    rw [List.drop_eq_getElem_cons hl, List.take_succ_cons, List.take_zero, (List.getElem?_eq_some_iff.mp hk).2]
    rfl
/-- the ranges found after d parts -/
def rgs (ts : List Str) (ps : List Prt) : Nat → List Pl
  | 0 => [(0, (ord ts).length)]
  | d + 1 => (rgs ts ps d).flatMap fun r => rwN ((ord ts).map (sgn ts d)) (ps.getD d .any) r.1 (r.2 - r.1)
def manyR (ts : List Str) (ps : List Prt) : Nat → Nat
  | 0 => 1
  | d + 1 => manyR ts ps d + (rgs ts ps (d + 1)).length
def spSearched (C : Addr) : Sp := fun vs H Q _ => ∃ (s : Addr) (ts : List Str) (a : Addr) (us : List V) (ps : List Prt), vs = [.ref s, .ref a] ∧ LibAt H C s ts ∧ H a = some (.tup us) ∧ PatV H us ps ∧ 1 ≤ ps.length ∧ ps.length ≤ 30 ∧
  ∀ T R H', Same H H' → H' T = some (.tup [.ref R, .int (manyR ts ps ps.length : Nat)]) → PsL H' R (rgs ts ps ps.length) → Q (.ref T) H'
/-- each range lies within the order -/
theorem rwS_in {cs : List (Option Nat)} {p : Prt} {f : List Pl} {n : Nat} (h : ∀ q ∈ f, q.1 ≤ q.2 ∧ q.2 ≤ n) : ∀ q ∈ rwS cs p f n, q.1 ≤ q.2 ∧ q.2 ≤ n + 1 := by
  have h' : ∀ q ∈ f, q.1 ≤ q.2 ∧ q.2 ≤ n + 1 := fun q hq => ⟨(h q hq).1, Nat.le_succ_of_le (h q hq).2⟩
  unfold rwS
  split
  · split
    · split
      · rename_i hc
        obtain ⟨f0, qq, rfl⟩ := snoc_of hc.1
        intro q hq
        rw [List.dropLast_concat, List.getLastD_concat] at hq
        rcases List.mem_append.mp hq with m | m
        · exact h' q (List.mem_append_left _ m)
        · rw [List.mem_singleton.mp m]
          have := h qq (List.mem_append_right _ (List.mem_singleton.mpr rfl))
          exact ⟨by show qq.1 ≤ n + 1; omega, Nat.le_refl _⟩
      · intro q hq
        rcases List.mem_append.mp hq with m | m
        · exact h' q m
        · rw [List.mem_singleton.mp m]
          exact ⟨by show n ≤ n + 1; omega, Nat.le_refl _⟩
    · exact h'
  · exact h'
theorem rwN_in {cs : List (Option Nat)} {p : Prt} {lo : Nat} : ∀ i, ∀ q ∈ rwN cs p lo i, q.1 ≤ q.2 ∧ q.2 ≤ lo + i
  | 0, q, h => by cases h
  | i + 1, q, h => rwS_in (rwN_in i) q h
theorem rgs_in (ts : List Str) (ps : List Prt) : ∀ d, ∀ q ∈ rgs ts ps d, q.1 ≤ q.2 ∧ q.2 ≤ (ord ts).length
  | 0, q, h => by rw [List.mem_singleton.mp h]; exact ⟨Nat.zero_le _, Nat.le_refl _⟩
  | d + 1, q, h => by
    obtain ⟨r, hr, hq⟩ := List.mem_flatMap.mp h
    have := rgs_in ts ps d r hr
    have := rwN_in _ q hq
    omega
/-- ranges one behind another, from a to b -/
inductive Asc : Nat → List Pl → Nat → Prop
  | nil {a b : Nat} (h : a ≤ b) : Asc a [] b
  | cons {a b : Nat} {q : Pl} {qs : List Pl} (h1 : a ≤ q.1) (h2 : q.1 ≤ q.2) (t : Asc q.2 qs b) : Asc a (q :: qs) b
theorem Asc.le {a b : Nat} {f : List Pl} (h : Asc a f b) : a ≤ b := by
  induction h with
  | nil h => exact h
  | cons h1 h2 _ ih => omega
theorem Asc.mono {a b c : Nat} {f : List Pl} (h : Asc a f b) (l : b ≤ c) : Asc a f c := by
  induction h with
  | nil h => exact .nil (by omega)
  | cons h1 h2 _ ih => exact .cons h1 h2 (ih l)
theorem Asc.less {a b c : Nat} {f : List Pl} (h : Asc a f b) (l : c ≤ a) : Asc c f b := by
  cases h with
  | nil h => exact .nil (by omega)
  | cons h1 h2 t => exact .cons (by omega) h2 t
theorem Asc.app {a b c : Nat} {f g : List Pl} (h : Asc a f b) (k : Asc b g c) : Asc a (f ++ g) c := by
  induction h with
  | nil h => exact k.less h
  | cons h1 h2 _ ih => exact .cons h1 h2 (ih k)
theorem Asc.last {b : Nat} {q : Pl} : ∀ {a : Nat} {f : List Pl}, Asc a (f ++ [q]) b → Asc a f q.1 ∧ q.1 ≤ q.2 ∧ q.2 ≤ b
  | a, [], h => by
    cases h with
    | cons h1 h2 t => exact ⟨.nil h1, h2, t.le⟩
  | a, r :: f, h => by
    cases h with
    | cons h1 h2 t =>
      obtain ⟨t1, t2, t3⟩ := Asc.last t
      exact ⟨.cons h1 h2 t1, t2, t3⟩
theorem rwS_asc {cs : List (Option Nat)} {p : Prt} {f : List Pl} {lo n : Nat} (h : Asc lo f n) : Asc lo (rwS cs p f n) (n + 1) := by
  unfold rwS
  split
  · split
    · split
      · rename_i hc
        obtain ⟨f0, qq, rfl⟩ := snoc_of hc.1
        rw [List.dropLast_concat, List.getLastD_concat]
        obtain ⟨t1, t2, t3⟩ := h.last
        exact t1.app (.cons (Nat.le_refl _) (by show qq.1 ≤ n + 1; omega) (.nil (Nat.le_refl _)))
      · exact h.app (.cons (Nat.le_refl _) (Nat.le_succ n) (.nil (Nat.le_refl _)))
    · exact h.mono (Nat.le_succ n)
  · exact h.mono (Nat.le_succ n)
theorem rwN_asc {cs : List (Option Nat)} {p : Prt} {lo : Nat} : ∀ i, Asc lo (rwN cs p lo i) (lo + i)
  | 0 => .nil (Nat.le_refl _)
  | i + 1 => rwS_asc (rwN_asc i)
theorem rwN_len {cs : List (Option Nat)} {p : Prt} {lo : Nat} : ∀ i, (rwN cs p lo i).length ≤ i
  | 0 => Nat.le_refl _
  | i + 1 => by
    have := rwN_len (cs := cs) (p := p) (lo := lo) i
    show (rwS cs p (rwN cs p lo i) (lo + i)).length ≤ i + 1
    unfold rwS
    split
    · split
      · split
        · rw [List.length_append, List.length_dropLast, List.length_singleton]
          omega
        · rw [List.length_append, List.length_singleton]
          omega
      · omega
    · omega
theorem Asc.flat {g : Pl → List Pl} {a b : Nat} {f : List Pl} (h : Asc a f b) (k : ∀ r ∈ f, Asc r.1 (g r) r.2) : Asc a (f.flatMap g) b := by
  induction h with
  | nil h => exact .nil h
  | cons h1 h2 t ih =>
    rw [List.flatMap_cons]
    exact ((k _ List.mem_cons_self).less h1).app (ih fun r hr => k r (List.mem_cons_of_mem _ hr))
theorem Asc.few {g : Pl → List Pl} {a b : Nat} {f : List Pl} (h : Asc a f b) (k : ∀ r ∈ f, (g r).length ≤ r.2 - r.1) : (f.flatMap g).length ≤ b - a := by
  induction h with
  | nil h => exact Nat.zero_le _
  | cons h1 h2 t ih =>
    rw [List.flatMap_cons, List.length_append]
    have := k _ List.mem_cons_self
    have := ih fun r hr => k r (List.mem_cons_of_mem _ hr)
    have := t.le
    omega
theorem rgs_asc (ts : List Str) (ps : List Prt) : ∀ d, Asc 0 (rgs ts ps d) (ord ts).length
  | 0 => .cons (Nat.le_refl _) (Nat.zero_le _) (.nil (Nat.le_refl _))
  | d + 1 => (rgs_asc ts ps d).flat fun r hr => by
    have := rwN_asc (cs := (ord ts).map (sgn ts d)) (p := ps.getD d .any) (lo := r.1) (r.2 - r.1)
    rw [show r.1 + (r.2 - r.1) = r.2 by have := rgs_in ts ps d r hr; omega] at this
    exact this
theorem rgs_few (ts : List Str) (ps : List Prt) (d : Nat) : (rgs ts ps (d + 1)).length ≤ (ord ts).length := by
  have := (rgs_asc ts ps d).few (g := fun r => rwN ((ord ts).map (sgn ts d)) (ps.getD d .any) r.1 (r.2 - r.1)) fun r _ => rwN_len _
  exact Nat.le_trans this (Nat.sub_le _ _)
section
variable {P : Program} {w : World} {K : PySem.W.Frag} {mg : Str → Option Value} {base : Heap}
end
end LawK
set_option maxHeartbeats 4000000
/-! Words that a pattern lets, and the ranges of endings that begin with them. -/
namespace LawK
open PySem PySem.Spec PyProof.Rows L2 Ev
def fit : List Prt → LN → Bool
  | [], [] => true
  | p :: ps, c :: w => lets p c && fit ps w
  | _, _ => false
theorem fit_len : ∀ {ps : List Prt} {w : LN}, fit ps w = true → w.length = ps.length
  | [], [], _ => rfl
  | p :: ps, c :: w, h => by
    have h' : (lets p c && fit ps w) = true := h
    rw [Bool.and_eq_true] at h'
    rw [List.length_cons, List.length_cons, fit_len h'.2]
  | [], c :: w, h => Bool.noConfusion h
  | p :: ps, [], h => Bool.noConfusion h
theorem fit_snoc : ∀ {ps : List Prt} {p : Prt} {w : LN} {c : Nat}, fit (ps ++ [p]) (w ++ [c]) = (fit ps w && lets p c)
  | [], p, [], c => by
    show (lets p c && true) = (true && lets p c)
    rw [Bool.and_true, Bool.true_and]
  | q :: ps, p, b :: w, c => by
    show (lets q b && fit (ps ++ [p]) (w ++ [c])) = ((lets q b && fit ps w) && lets p c)
    rw [fit_snoc, Bool.and_assoc]
  | [], p, b :: w, c => by
    have : fit ([] : List Prt) (w ++ [c]) = false := by cases w <;> rfl
    show (lets p b && fit ([] : List Prt) (w ++ [c])) = (false && lets p c)
    rw [this, Bool.and_false, Bool.false_and]
  | q :: ps, p, [], c => by
    have : fit (ps ++ [p]) [] = false := by cases ps <;> rfl
    show (lets q c && fit (ps ++ [p]) []) = (false && lets p c)
    rw [this, Bool.and_false, Bool.false_and]
/-- the numbers of the endings that begin with a word -/
structure Run (s : Nat → LN) (n : Nat) (w : LN) (q : Pl) : Prop where
  lo : q.1 < q.2
  hi : q.2 ≤ n
  of : ∀ i, i < n → (w <+: s i ↔ q.1 ≤ i ∧ i < q.2)
theorem Run.uniq {s : Nat → LN} {n : Nat} {w : LN} {q r : Pl} (h : Run s n w q) (k : Run s n w r) : q = r := by
  obtain ⟨a, b⟩ := q
  obtain ⟨c, d⟩ := r
  have h1 : a < b := h.lo
  have h2 : b ≤ n := h.hi
  have k1 : c < d := k.lo
  have k2 : d ≤ n := k.hi
  have e1 := (k.of a (by omega)).mp ((h.of a (by omega)).mpr ⟨Nat.le_refl _, h1⟩)
  have e2 := (h.of c (by omega)).mp ((k.of c (by omega)).mpr ⟨Nat.le_refl _, k1⟩)
  have e3 := (k.of (b - 1) (by omega)).mp ((h.of (b - 1) (by omega)).mpr ⟨by show a ≤ b - 1; omega, by show b - 1 < b; omega⟩)
  have e4 := (h.of (d - 1) (by omega)).mp ((k.of (d - 1) (by omega)).mpr ⟨by show c ≤ d - 1; omega, by show d - 1 < d; omega⟩)
  have : a = c := by have := e1.1; have := e2.1; dsimp only at *; omega
  have : b = d := by have := e3.2; have := e4.2; dsimp only at *; omega
  subst_vars
  rfl
theorem pre_same {w v x : LN} (h : w <+: x) (k : v <+: x) (l : w.length = v.length) : w = v := by
  rw [List.prefix_iff_eq_take.mp h, List.prefix_iff_eq_take.mp k, l]
theorem Run.word {s : Nat → LN} {n : Nat} {w v : LN} {q : Pl} (h : Run s n w q) (k : Run s n v q) (l : w.length = v.length) : w = v := by
  have a : q.1 < n := Nat.lt_of_lt_of_le h.lo h.hi
  exact pre_same ((h.of _ a).mpr ⟨Nat.le_refl _, h.lo⟩) ((k.of _ a).mpr ⟨Nat.le_refl _, h.lo⟩) l
theorem pre_snoc {w x : LN} {c : Nat} (h : w <+: x) : x[w.length]? = some c ↔ w ++ [c] <+: x := by
  obtain ⟨t, rfl⟩ := h
  rw [List.getElem?_append_right (Nat.le_refl _), Nat.sub_self, List.prefix_append_right_inj]
  cases t with
  | nil => exact ⟨fun e => by simp at e, fun e => by simp at e⟩
  | cons b t => exact ⟨fun e => by simp at e; subst e; exact ⟨t, rfl⟩, fun ⟨u, e⟩ => by simp at e; simp [e.1]⟩
/-! ### the stretches of one sign -/
structure Rn (cs : List (Option Nat)) (lo hi c : Nat) (q : Pl) : Prop where
  a : lo ≤ q.1
  b : q.1 < q.2
  d : q.2 ≤ hi
  of : ∀ k, lo ≤ k → k < hi → (cs[k]? = some (some c) ↔ q.1 ≤ k ∧ k < q.2)
def Grp (cs : List (Option Nat)) (lo hi : Nat) : Prop := ∀ i j k c, lo ≤ i → i ≤ j → j ≤ k → k < hi → cs[i]? = some (some c) → cs[k]? = some (some c) → cs[j]? = some (some c)
theorem Grp.less {cs : List (Option Nat)} {lo hi m : Nat} (h : Grp cs lo hi) (l : m ≤ hi) : Grp cs lo m := fun i j k c a b d e => h i j k c a b d (by omega)
theorem Rn.up {cs : List (Option Nat)} {lo n c : Nat} {q : Pl} (h : Rn cs lo n c q) (ne : ¬ cs[n]? = some (some c)) : Rn cs lo (n + 1) c q := by
  refine ⟨h.a, h.b, Nat.le_succ_of_le h.d, fun k l1 l2 => ?_⟩
  rcases Nat.lt_or_ge k n with g | g
  · exact h.of k l1 g
  · have e : k = n := by omega
    subst e
    exact ⟨fun z => absurd z ne, fun z => absurd h.d (by have := z.2; omega)⟩
theorem Rn.same {cs : List (Option Nat)} {lo n c : Nat} {q r : Pl} (h : Rn cs lo n c q) (k : Rn cs lo n c r) : q.1 = r.1 ∧ q.2 = r.2 := by
  have := h.a; have := h.b; have := h.d; have := k.a; have := k.b; have := k.d
  have e1 := (k.of q.1 (by omega) (by omega)).mp ((h.of q.1 (by omega) (by omega)).mpr ⟨by omega, by omega⟩)
  have e2 := (h.of r.1 (by omega) (by omega)).mp ((k.of r.1 (by omega) (by omega)).mpr ⟨by omega, by omega⟩)
  have e3 := (k.of (q.2 - 1) (by omega) (by omega)).mp ((h.of (q.2 - 1) (by omega) (by omega)).mpr ⟨by omega, by omega⟩)
  have e4 := (h.of (r.2 - 1) (by omega) (by omega)).mp ((k.of (r.2 - 1) (by omega) (by omega)).mpr ⟨by omega, by omega⟩)
  omega
theorem Rn.sign {cs : List (Option Nat)} {lo n c d : Nat} {q : Pl} (h : Rn cs lo n c q) (k : Rn cs lo n d q) : c = d := by
  have := h.a; have := h.b; have := h.d
  have e1 := (h.of q.1 (by omega) (by omega)).mpr ⟨by omega, by omega⟩
  have e2 := (k.of q.1 (by omega) (by omega)).mpr ⟨by omega, by omega⟩
  rw [e1] at e2
  exact Option.some.inj (Option.some.inj e2)
theorem Asc.in_ {a b : Nat} {f : List Pl} (h : Asc a f b) : ∀ r ∈ f, a ≤ r.1 ∧ r.1 ≤ r.2 ∧ r.2 ≤ b := by
  induction h with
  | nil h => intro r hr; cases hr
  | cons h1 h2 t ih =>
    intro r hr
    rcases List.mem_cons.mp hr with e | m
    · subst e
      exact ⟨h1, h2, t.le⟩
    · have := ih r m
      omega
theorem rwS_runs {cs : List (Option Nat)} {p : Prt} {lo n : Nat} {f : List Pl} (hn : lo ≤ n) (G : Grp cs lo (n + 1)) (A : Asc lo f n) (h1 : ∀ q ∈ f, ∃ c, lets p c = true ∧ Rn cs lo n c q)
    (h2 : ∀ k c, lo ≤ k → k < n → cs[k]? = some (some c) → lets p c = true → ∃ q ∈ f, Rn cs lo n c q) :
    (∀ q ∈ rwS cs p f n, ∃ c, lets p c = true ∧ Rn cs lo (n + 1) c q) ∧ (∀ k c, lo ≤ k → k < n + 1 → cs[k]? = some (some c) → lets p c = true → ∃ q ∈ rwS cs p f n, Rn cs lo (n + 1) c q) := by
  have keep : ∀ c0, cs[n]? = some (some c0) → lets p c0 = false → (∀ q ∈ f, ∃ c, lets p c = true ∧ Rn cs lo (n + 1) c q) ∧ (∀ k c, lo ≤ k → k < n + 1 → cs[k]? = some (some c) → lets p c = true → ∃ q ∈ f, Rn cs lo (n + 1) c q) := fun c0 e nl => by
    refine ⟨fun q hq => ?_, fun k c l1 l2 e1 e2 => ?_⟩
    · obtain ⟨c, hc, r⟩ := h1 q hq
      exact ⟨c, hc, r.up fun z => by rw [e] at z; rw [← Option.some.inj (Option.some.inj z), nl] at hc; cases hc⟩
    · have ne : ¬ cs[n]? = some (some c) := fun z => by rw [e] at z; rw [← Option.some.inj (Option.some.inj z), nl] at e2; cases e2
      have l3 : k < n := by
        rcases Nat.lt_or_ge k n with g | g
        · exact g
        · exact absurd (show cs[n]? = some (some c) by rw [show n = k by omega]; exact e1) ne
      obtain ⟨q, hq, r⟩ := h2 k c l1 l3 e1 e2
      exact ⟨q, hq, r.up ne⟩
  unfold rwS
  split
  · rename_i c0 e
    split
    · rename_i hl
      split
      · rename_i hc
        obtain ⟨f0, qq, rfl⟩ := snoc_of hc.1
        rw [List.dropLast_concat, List.getLastD_concat]
        obtain ⟨t1, t2, t3⟩ := A.last
        have ln : lo < n := by
          obtain ⟨c, _, r⟩ := h1 qq (List.mem_append_right _ (List.mem_singleton.mpr rfl))
          have := r.a; have := r.b; have := r.d
          omega
        obtain ⟨q', hq', r'⟩ := h2 (n - 1) c0 (by omega) (by omega) hc.2 hl
        have eq2 : q'.2 = n := by
          have := (r'.of (n - 1) (by omega) (by omega)).mp hc.2
          have := r'.d
          omega
        have eqq : q' = qq := by
          rcases List.mem_append.mp hq' with m | m
          · have := (t1.in_ q' m).2.2
            obtain ⟨c, _, r⟩ := h1 qq (List.mem_append_right _ (List.mem_singleton.mpr rfl))
            have := r.b; have := r.d
            omega
          · exact List.mem_singleton.mp m
        subst eqq
        have nw : Rn cs lo (n + 1) c0 (q'.1, n + 1) := by
          refine ⟨r'.a, by show q'.1 < n + 1; have := r'.b; omega, Nat.le_refl _, fun k l1 l2 => ?_⟩
          rcases Nat.lt_or_ge k n with g | g
          · rw [r'.of k l1 g]
            show q'.1 ≤ k ∧ k < q'.2 ↔ q'.1 ≤ k ∧ k < n + 1
            omega
          · have ek : k = n := by omega
            subst ek
            exact ⟨fun _ => ⟨by show q'.1 ≤ k; have := r'.b; omega, Nat.lt_succ_self _⟩, fun _ => e⟩
        have old : ∀ q ∈ f0, ∀ c, Rn cs lo n c q → Rn cs lo (n + 1) c q := fun q hq c r => r.up fun z => by
          rw [e] at z
          have ec := Option.some.inj (Option.some.inj z)
          subst ec
          have := r.same r'
          have := (t1.in_ q hq).2.2
          have := r'.b; have := r.b
          omega
        refine ⟨fun q hq => ?_, fun k c l1 l2 e1 e2 => ?_⟩
        · rcases List.mem_append.mp hq with m | m
          · obtain ⟨c, hc2, r⟩ := h1 q (List.mem_append_left _ m)
            exact ⟨c, hc2, old q m c r⟩
          · rw [List.mem_singleton.mp m]
            exact ⟨c0, hl, nw⟩
        · rcases Decidable.em (c = c0) with ec | ec
          · subst ec
            exact ⟨_, List.mem_append_right _ (List.mem_singleton.mpr rfl), nw⟩
          · have l3 : k < n := by
              rcases Nat.lt_or_ge k n with g | g
              · exact g
              · rw [show k = n by omega, e] at e1
                exact absurd (Option.some.inj (Option.some.inj e1)).symm ec
            obtain ⟨q, hq, r⟩ := h2 k c l1 l3 e1 e2
            rcases List.mem_append.mp hq with m | m
            · exact ⟨q, List.mem_append_left _ m, old q m c r⟩
            · rw [List.mem_singleton.mp m] at r
              exact absurd (r.sign r') ec
      · rename_i hc
        have no : ∀ k, lo ≤ k → k < n → ¬ cs[k]? = some (some c0) := fun k l1 l2 z => by
          obtain ⟨q, hq, _⟩ := h2 k c0 l1 l2 z hl
          exact hc ⟨(fun ef => by rw [ef] at hq; cases hq), G k (n - 1) n c0 l1 (by omega) (by omega) (Nat.lt_succ_self _) z e⟩
        have nw : Rn cs lo (n + 1) c0 (n, n + 1) := by
          refine ⟨hn, Nat.lt_succ_self _, Nat.le_refl _, fun k l1 l2 => ?_⟩
          rcases Nat.lt_or_ge k n with g | g
          · exact ⟨fun z => absurd z (no k l1 g), fun z => absurd z.1 (by show ¬ n ≤ k; omega)⟩
          · have ek : k = n := by omega
            subst ek
            exact ⟨fun _ => ⟨Nat.le_refl _, Nat.lt_succ_self _⟩, fun _ => e⟩
        have old : ∀ q c, Rn cs lo n c q → Rn cs lo (n + 1) c q := fun q c r => r.up fun z => by
          rw [e] at z
          have ec := Option.some.inj (Option.some.inj z)
          subst ec
          have := r.a; have := r.b; have := r.d
          exact no q.1 (by omega) (by omega) ((r.of q.1 (by omega) (by omega)).mpr ⟨by omega, by omega⟩)
        refine ⟨fun q hq => ?_, fun k c l1 l2 e1 e2 => ?_⟩
        · rcases List.mem_append.mp hq with m | m
          · obtain ⟨c, hc2, r⟩ := h1 q m
            exact ⟨c, hc2, old q c r⟩
          · rw [List.mem_singleton.mp m]
            exact ⟨c0, hl, nw⟩
        · rcases Nat.lt_or_ge k n with g | g
          · obtain ⟨q, hq, r⟩ := h2 k c l1 g e1 e2
            exact ⟨q, List.mem_append_left _ hq, old q c r⟩
          · rw [show k = n by omega, e] at e1
            rw [← Option.some.inj (Option.some.inj e1)]
            exact ⟨_, List.mem_append_right _ (List.mem_singleton.mpr rfl), nw⟩
    · rename_i hl
      exact keep c0 e (by simpa using hl)
  · rename_i hx
    have ne : ∀ c, ¬ cs[n]? = some (some c) := fun c z => hx c z
    refine ⟨fun q hq => ?_, fun k c l1 l2 e1 e2 => ?_⟩
    · obtain ⟨c, hc, r⟩ := h1 q hq
      exact ⟨c, hc, r.up (ne c)⟩
    · have l3 : k < n := by
        rcases Nat.lt_or_ge k n with g | g
        · exact g
        · exact absurd (show cs[n]? = some (some c) by rw [show n = k by omega]; exact e1) (ne c)
      obtain ⟨q, hq, r⟩ := h2 k c l1 l3 e1 e2
      exact ⟨q, hq, r.up (ne c)⟩
theorem rwN_runs {cs : List (Option Nat)} {p : Prt} {lo : Nat} : ∀ i, Grp cs lo (lo + i) → (∀ q ∈ rwN cs p lo i, ∃ c, lets p c = true ∧ Rn cs lo (lo + i) c q) ∧
    (∀ k c, lo ≤ k → k < lo + i → cs[k]? = some (some c) → lets p c = true → ∃ q ∈ rwN cs p lo i, Rn cs lo (lo + i) c q)
  | 0, _ => ⟨(fun q h => by cases h), fun k c l1 l2 => absurd l2 (by omega)⟩
  | i + 1, G => by
    obtain ⟨a, b⟩ := rwN_runs (cs := cs) (p := p) (lo := lo) i (G.less (by omega))
    exact rwS_runs (Nat.le_add_right _ _) G (rwN_asc i) a b
/-! ### the ranges are those of the words -/
theorem sgn_pre {ts : List Str} {w : LN} {i c : Nat} (hi : i < (ord ts).length) (h : w <+: sOf ts i) : ((ord ts).map (sgn ts w.length))[i]? = some (some c) ↔ w ++ [c] <+: sOf ts i := by
  rw [List.getElem?_map, (ordD hi).1]
  show some (sgn ts w.length ((ord ts).getD i (0, 0))) = some (some c) ↔ _
  rw [Option.some_inj]
  have e : sgn ts w.length ((ord ts).getD i (0, 0)) = (sOf ts i)[w.length]? := by
    unfold sgn sOf
    rw [sfx_cod, List.getElem?_drop]
  rw [e]
  exact pre_snoc h
theorem run_grp {ts : List Str} {w : LN} {r : Pl} (h : Run (sOf ts) (ord ts).length w r) : Grp ((ord ts).map (sgn ts w.length)) r.1 r.2 := by
  have hi := h.hi
  have pre : ∀ i, r.1 ≤ i → i < r.2 → w <+: sOf ts i := fun i a b => (h.of i (by omega)).mpr ⟨a, b⟩
  intro i j k c a b d e h1 h2
  have g1 := (sgn_pre (by omega) (pre i a (by omega))).mp h1
  have g2 := (sgn_pre (by omega) (pre k (by omega) e)).mp h2
  refine (sgn_pre (by omega) (pre j (by omega) (by omega))).mpr ?_
  rcases Nat.eq_or_lt_of_le b with eb | lb
  · rw [← eb]; exact g1
  rcases Nat.eq_or_lt_of_le d with ed | ld
  · rw [ed]; exact g2
  exact between (lle (pre_le g1) (ord_srt ts i j lb (by omega))) (ord_srt ts j k ld (by omega)) g2
theorem rn_run {ts : List Str} {w : LN} {r q : Pl} {c : Nat} (h : Run (sOf ts) (ord ts).length w r) (k : Rn ((ord ts).map (sgn ts w.length)) r.1 r.2 c q) : Run (sOf ts) (ord ts).length (w ++ [c]) q := by
  refine ⟨k.b, Nat.le_trans k.d h.hi, fun i hi => ?_⟩
  rcases Decidable.em (r.1 ≤ i ∧ i < r.2) with g | g
  · rw [← sgn_pre hi ((h.of i hi).mpr g)]
    exact k.of i g.1 g.2
  · refine ⟨fun z => absurd ((h.of i hi).mp ((List.prefix_append w [c]).trans z)) g, fun z => absurd ?_ g⟩
    have := k.a; have := k.d
    omega
theorem prt_snoc {ps : List Prt} {d : Nat} (h : d < ps.length) : ps.take (d + 1) = ps.take d ++ [ps.getD d .any] := by
  rw [List.take_succ, List.getD_eq_getElem?_getD, List.getElem?_eq_getElem h]
  rfl
theorem rgs_runs (ts : List Str) (ps : List Prt) : ∀ d, d ≤ ps.length → (∀ q ∈ rgs ts ps d, q.1 < q.2 → ∃ w, fit (ps.take d) w = true ∧ Run (sOf ts) (ord ts).length w q) ∧
    (∀ w i, fit (ps.take d) w = true → i < (ord ts).length → w <+: sOf ts i → ∃ q ∈ rgs ts ps d, Run (sOf ts) (ord ts).length w q) ∧ (1 ≤ d → ∀ q ∈ rgs ts ps d, q.1 < q.2)
  | 0, _ => by
    refine ⟨fun q hq l => ?_, fun w i hf hi _ => ?_, fun l => absurd l (by omega)⟩
    · rw [List.mem_singleton.mp hq] at l ⊢
      exact ⟨[], rfl, l, Nat.le_refl _, fun i hi => ⟨fun _ => ⟨Nat.zero_le _, hi⟩, fun _ => List.nil_prefix⟩⟩
    · have : w = [] := List.length_eq_zero_iff.mp (fit_len hf)
      subst this
      exact ⟨_, List.mem_singleton.mpr rfl, by show 0 < (ord ts).length; omega, Nat.le_refl _, fun j hj => ⟨fun _ => ⟨Nat.zero_le _, hj⟩, fun _ => List.nil_prefix⟩⟩
  | d + 1, hd => by
    obtain ⟨a, b, _⟩ := rgs_runs ts ps d (by omega)
    have e := prt_snoc (ps := ps) (d := d) (by omega)
    have fwd : ∀ q ∈ rgs ts ps (d + 1), ∃ w, fit (ps.take (d + 1)) w = true ∧ Run (sOf ts) (ord ts).length w q := fun q hq => by
      obtain ⟨r, hr, hq2⟩ := List.mem_flatMap.mp hq
      have lr : r.1 < r.2 := by
        rcases Nat.lt_or_ge r.1 r.2 with g | g
        · exact g
        · rw [show r.2 - r.1 = 0 by omega] at hq2
          cases hq2
      obtain ⟨w, hf, hw⟩ := a r hr lr
      have lw : w.length = d := by rw [fit_len hf, List.length_take]; omega
      have er : r.1 + (r.2 - r.1) = r.2 := by omega
      have g := run_grp hw
      rw [lw] at g
      obtain ⟨c, hc, rn⟩ := (rwN_runs (p := ps.getD d .any) (r.2 - r.1) (by rw [er]; exact g)).1 q hq2
      rw [er] at rn
      rw [← lw] at rn
      refine ⟨w ++ [c], ?_, rn_run hw rn⟩
      rw [e, fit_snoc, hf, hc]
      rfl
    refine ⟨fun q hq _ => fwd q hq, fun w i hf hi hp => ?_, fun _ q hq => let ⟨w, _, r⟩ := fwd q hq; r.lo⟩
    rw [e] at hf
    have lw := fit_len hf
    rw [List.length_append, List.length_singleton] at lw
    obtain ⟨v, c, rfl⟩ := snoc_of (show w ≠ [] from fun z => by rw [z] at lw; simp at lw)
    rw [fit_snoc, Bool.and_eq_true] at hf
    have pv : v <+: sOf ts i := (List.prefix_append v [c]).trans hp
    obtain ⟨r, hr, hw⟩ := b v i hf.1 hi pv
    have lv : v.length = d := by rw [fit_len hf.1, List.length_take]; omega
    have := hw.lo
    have er : r.1 + (r.2 - r.1) = r.2 := by omega
    have g := run_grp hw
    rw [lv] at g
    have ir := (hw.of i hi).mp pv
    obtain ⟨q, hq, rn⟩ := (rwN_runs (p := ps.getD d .any) (r.2 - r.1) (by rw [er]; exact g)).2 i c ir.1 (by rw [er]; exact ir.2) (by rw [← lv]; exact (sgn_pre hi pv).mpr hp) hf.2
    rw [er] at rn
    rw [← lv] at rn
    exact ⟨q, List.mem_flatMap.mpr ⟨r, hr, hq⟩, rn_run hw rn⟩
theorem Asc.pw {a b : Nat} {f : List Pl} (h : Asc a f b) (k : ∀ q ∈ f, q.1 < q.2) : f.Pairwise fun q r => q.1 < r.1 := by
  induction h with
  | nil h => exact .nil
  | cons h1 h2 t ih =>
    refine List.pairwise_cons.mpr ⟨fun r hr => ?_, ih fun q hq => k q (List.mem_cons_of_mem _ hq)⟩
    have := t.in_ r hr
    have := k _ List.mem_cons_self
    omega
/-- all words that fit, and begin some ending -/
structure Bgn (ts : List Str) (ps : List Prt) (W : List LN) : Prop where
  nd : W.Nodup
  of : ∀ w, w ∈ W ↔ fit ps w = true ∧ ∃ i, i < (ord ts).length ∧ w <+: sOf ts i
theorem bgn_perm {ts : List Str} {ps : List Prt} {d : Nat} (h1 : 1 ≤ d) (h2 : d ≤ ps.length) {W : List LN} (h : Bgn ts (ps.take d) W) {fs : List Pl} (hf : All2 (Run (sOf ts) (ord ts).length) W fs) : fs.Perm (rgs ts ps d) := by
  obtain ⟨a, b, c⟩ := rgs_runs ts ps d h2
  obtain ⟨zs, rfl, rfl, hz⟩ := hf.zs
  have nd1 : (zs.map (·.2)).Nodup := by
    have nd := h.nd
    unfold List.Nodup at nd ⊢
    rw [List.pairwise_map] at nd ⊢
    refine nd.imp_of_mem fun {x y} hx hy ne e => ne ?_
    have rx := hz x hx
    have ry := hz y hy
    rw [← e] at ry
    exact rx.word ry (by rw [fit_len ((h.of x.1).mp (List.mem_map.mpr ⟨x, hx, rfl⟩)).1, fit_len ((h.of y.1).mp (List.mem_map.mpr ⟨y, hy, rfl⟩)).1])
  have nd2 : (rgs ts ps d).Nodup := ((rgs_asc ts ps d).pw (c h1)).imp fun {x y} l e => by rw [e] at l; exact Nat.lt_irrefl _ l
  refine (List.perm_ext_iff_of_nodup nd1 nd2).mpr fun q => ⟨fun hq => ?_, fun hq => ?_⟩
  · obtain ⟨x, hx, rfl⟩ := List.mem_map.mp hq
    obtain ⟨hf, i, hi, hp⟩ := (h.of x.1).mp (List.mem_map.mpr ⟨x, hx, rfl⟩)
    obtain ⟨q, hq, r⟩ := b x.1 i hf hi hp
    rw [(hz x hx).uniq r]
    exact hq
  · obtain ⟨w, hf, r⟩ := a q hq (c h1 q hq)
    have lt := r.lo
    have hi : q.1 < (ord ts).length := Nat.lt_of_lt_of_le r.lo r.hi
    obtain ⟨x, hx, e⟩ := List.mem_map.mp ((h.of w).mpr ⟨hf, q.1, hi, (r.of q.1 hi).mpr ⟨Nat.le_refl _, lt⟩⟩)
    have rx := hz x hx
    rw [e] at rx
    exact List.mem_map.mpr ⟨x, hx, rx.uniq r⟩
theorem bgn_run {ts : List Str} {ps : List Prt} {d : Nat} (h2 : d ≤ ps.length) {w : LN} {i : Nat} (hf : fit (ps.take d) w = true) (hi : i < (ord ts).length) (hp : w <+: sOf ts i) : ∃ q, Run (sOf ts) (ord ts).length w q :=
  let ⟨q, _, r⟩ := (rgs_runs ts ps d h2).2.1 w i hf hi hp; ⟨q, r⟩
theorem all_runs {ts : List Str} {ps : List Prt} {d : Nat} (h2 : d ≤ ps.length) : ∀ {W : List LN}, (∀ w ∈ W, fit (ps.take d) w = true ∧ ∃ i, i < (ord ts).length ∧ w <+: sOf ts i) → ∃ fs, All2 (Run (sOf ts) (ord ts).length) W fs
  | [], _ => ⟨[], .nil⟩
  | w :: W, h => by
    obtain ⟨hf, i, hi, hp⟩ := h w List.mem_cons_self
    obtain ⟨q, r⟩ := bgn_run h2 hf hi hp
    obtain ⟨fs, t⟩ := all_runs h2 fun v hv => h v (List.mem_cons_of_mem _ hv)
    exact ⟨q :: fs, .cons r t⟩
theorem bgn_len {ts : List Str} {ps : List Prt} {d : Nat} (h1 : 1 ≤ d) (h2 : d ≤ ps.length) {W : List LN} (h : Bgn ts (ps.take d) W) : W.length = (rgs ts ps d).length := by
  obtain ⟨fs, t⟩ := all_runs h2 fun w hw => (h.of w).mp hw
  rw [← (bgn_perm h1 h2 h t).length_eq, t.len]
end LawK
set_option maxHeartbeats 4000000
/-! sorted of pairs of numbers; words that begin endings; sums. -/
namespace LawK
open PySem PySem.Spec PyProof.Rows L2 Ev PySem.W
def encQ (p : Pl) : PyData := .tuple [.int (p.1 : Nat), .int (p.2 : Nat)]
theorem dataLt_two (i j k l : Int) : dataLt (.tuple [.int i, .int j]) (.tuple [.int k, .int l]) = decide (i < k ∨ i = k ∧ j < l) := by
  rw [dataLt_tuple, dataLt_cons (by simp [alike]), dataLt_cons (by simp [alike])]
  have e0 : PyProof.Rows.lexLt itemOrd (keyToksAll []) (keyToksAll []) = false := lex_irrefl _
  have e2 : ∀ a b : Int, PyData.eqv (.int a) (.int b) = decide (a = b) := fun a b => by
    simp only [PyData.eqv]
    first | rfl | exact Bool.eq_iff_iff.mpr (by simp)
  rw [e0, dataLt_int, dataLt_int, e2, e2]
  by_cases h1 : i = k
  · subst h1
    by_cases h2 : j = l
    · subst h2; simp
    · simp [h2]
  · simp [h1]
def leQ (p q : Pl) : Bool := leE (encQ p) (encQ q)
theorem leQ_eq (p q : Pl) : leQ p q = true ↔ ¬ (q.1 < p.1 ∨ q.1 = p.1 ∧ q.2 < p.2) := by
  unfold leQ leE encQ
  rw [dataLt_two, Bool.not_eq_true', decide_eq_false_iff_not]
  constructor
  · intro h z
    exact h (by omega)
  · intro h z
    exact h (by omega)
theorem leQ_trans (a b c : Pl) (h : leQ a b = true) (k : leQ b c = true) : leQ a c = true := by
  rw [leQ_eq] at *
  omega
theorem leQ_total (a b : Pl) : (leQ a b || leQ b a) = true := by
  rw [Bool.or_eq_true, leQ_eq, leQ_eq]
  omega
/-- sorted of pairs that are, in some order, one behind another -/
theorem sort_asc {fs rs : List Pl} (h : fs.Perm rs) (k : rs.Pairwise fun q r => q.1 < r.1) : fs.mergeSort leQ = rs := by
  refine List.Perm.eq_of_pairwise (le := fun a b => leQ a b = true) (fun a b _ _ h1 h2 => ?_) (List.pairwise_mergeSort leQ_trans leQ_total fs) (k.imp fun {a b} l => (leQ_eq a b).mpr (by omega)) ((List.mergeSort_perm _ _).trans h)
  rw [leQ_eq] at h1 h2
  exact Prod.ext (by omega) (by omega)
theorem encQ_dp {K : PySem.W.Frag} {H : Hp} {v : V} {p : Pl} (h : PAt H v p) : Dp K H v (encQ p) := by
  obtain ⟨b, rfl, e⟩ := h
  exact .tup (SqT.of e) (.cons (.int _) (.cons (.int _) .nil))
theorem encQ_depth (p : Pl) : (encQ p).depth ≤ 60 := by
  unfold encQ
  simp [PyData.depth, PyData.depthAll]
theorem encQ_alike (p q : Pl) : alike (encQ p) (encQ q) = true := by
  unfold encQ
  simp [alike, alikeAll]
/-- sorted of a list of pairs -/
theorem sorted_two {K : PySem.W.Frag} {H : Hp} {a : Addr} {fs rs : List Pl} {Q : VK} (ha : PsL H a fs) (h : fs.Perm rs) (k : rs.Pairwise fun q r => q.1 < r.1)
    (q : ∀ p H', H p = none → Same H H' → PsL H' p rs → Q (.ref p) H') : rSortedD K [.ref a] H Q := by
  obtain ⟨vs, ha, hv⟩ := ha
  obtain ⟨zs, rfl, rfl, hz⟩ := hv.zs
  refine ⟨a, zs.map (fun z => (z.1, encQ z.2)), rfl, ?_, ?_, ?_, ?_, ?_, fun p np => ?_⟩
  · rw [List.map_map]; exact sq_of ha
  · intro b hb
    obtain ⟨z, hz', rfl⟩ := List.mem_map.mp hb
    exact encQ_dp (hz z hz')
  · rw [List.map_map]
    exact AllAlike.of (enc := fun z : V × Pl => encQ z.2) fun b b' => encQ_alike _ _
  · rw [List.map_map]
    exact Sortable.tuples (enc := fun z : V × Pl => encQ z.2) fun b => ⟨_, _, rfl⟩
  · intro b hb
    obtain ⟨z, hz', rfl⟩ := List.mem_map.mp hb
    exact encQ_depth z.2
  · have e1 : (zs.map fun z => ((z.1, encQ z.2) : DV)).mergeSort leD = (zs.mergeSort fun z w => leQ z.2 w.2).map fun z => (z.1, encQ z.2) := (List.map_mergeSort (r := fun z w : V × Pl => leQ z.2 w.2) (s := leD) (f := fun z : V × Pl => ((z.1, encQ z.2) : DV)) (l := zs) fun x _ y _ => rfl).symm
    have e2 : (zs.map (·.2)).mergeSort leQ = (zs.mergeSort fun z w => leQ z.2 w.2).map (·.2) := (List.map_mergeSort (r := fun z w : V × Pl => leQ z.2 w.2) (s := leQ) (f := fun z : V × Pl => z.2) (l := zs) fun x _ y _ => rfl).symm
    rw [sort_asc h k] at e2
    rw [e1, List.map_map]
    refine q p _ np (Same.new np) ⟨_, upd_same, ?_⟩
    rw [e2]
    exact All2.ofZ fun z hz' => (hz z ((List.mergeSort_perm _ _).mem_iff.mp hz')).same (Same.new np)
/-! ### words of the texts -/
/-- the pieces of one length that fit, of the first n texts, and of the next one up to j -/
def Fnd (ts : List Str) (ps : List Prt) (n j : Nat) (w : LN) : Prop := fit ps w = true ∧ ∃ k a, (k < n ∨ k = n ∧ a < j) ∧ k < ts.length ∧ a + ps.length ≤ (tx ts k).length ∧ w = ((cod (tx ts k)).drop a).take ps.length
theorem fnd_bgn {ts : List Str} {ps : List Prt} (h1 : 1 ≤ ps.length) {W : List LN} (nd : W.Nodup) (of : ∀ w, w ∈ W ↔ Fnd ts ps ts.length 0 w) : Bgn ts ps W := by
  refine ⟨nd, fun w => (of w).trans ⟨fun ⟨hf, k, a, _, hk, ha, e⟩ => ⟨hf, ?_⟩, fun ⟨hf, i, hi, hp⟩ => ⟨hf, ?_⟩⟩⟩
  · obtain ⟨i, hi, ei⟩ := List.mem_iff_getElem.mp (ord_mem.mpr (show InT ts (k, a) from ⟨hk, by show a < (tx ts k).length; omega⟩))
    refine ⟨i, hi, ?_⟩
    unfold sOf
    rw [List.getD_eq_getElem?_getD, List.getElem?_eq_getElem hi]
    show w <+: cod (sfx ts (ord ts)[i])
    rw [ei, sfx_cod, e]
    exact List.take_prefix _ _
  · obtain ⟨_, hk, ha⟩ := ordD hi
    refine ⟨((ord ts).getD i (0, 0)).1, ((ord ts).getD i (0, 0)).2, .inl hk, hk, ?_, ?_⟩
    · have := hp.length_le
      unfold sOf at this
      rw [fit_len hf] at this
      have e : (cod (sfx ts ((ord ts).getD i (0, 0)))).length = (sfx ts ((ord ts).getD i (0, 0))).length := (len_S _).symm
      rw [e, sfx_len] at this
      omega
    · have := List.prefix_iff_eq_take.mp hp
      unfold sOf at this
      rw [sfx_cod, fit_len hf] at this
      exact this
theorem manyR_sum (ts : List Str) (ps : List Prt) : ∀ d, manyR ts ps d = 1 + ((List.range d).map fun k => (rgs ts ps (k + 1)).length).sum
  | 0 => rfl
  | d + 1 => by
    show manyR ts ps d + (rgs ts ps (d + 1)).length = _
    rw [manyR_sum ts ps d, List.range_succ, List.map_append, List.sum_append]
    simp
    omega
theorem rgs_take (ts : List Str) (ps : List Prt) {d : Nat} : ∀ k, k ≤ d → rgs ts (ps.take d) k = rgs ts ps k
  | 0, _ => rfl
  | k + 1, h => by
    show (rgs ts (ps.take d) k).flatMap _ = (rgs ts ps k).flatMap _
    rw [rgs_take ts ps k (by omega)]
    have e : (ps.take d).getD k .any = ps.getD k .any := by
      rw [List.getD_eq_getElem?_getD, List.getD_eq_getElem?_getD, List.getElem?_take, if_pos (by omega)]
    rw [e]
theorem begun_len {ts : List Str} {ps : List Prt} (h1 : 1 ≤ ps.length) {W : List LN} (h : Bgn ts ps W) {d : Nat} {qs : List Prt} (e : ps = qs.take d) (hd : d ≤ qs.length) : W.length = (rgs ts qs d).length := by
  subst e
  have ld : (qs.take d).length = d := by rw [List.length_take]; omega
  refine bgn_len (by omega) hd h
end LawK
set_option maxHeartbeats 4000000
/-! repr of data of any shape. -/
namespace Ev
open PySem PySem.Spec PyProof.Rows L2
mutual
/-- the datum d is told by v: lists and tuples of any length -/
inductive Dg (H : Hp) : V → PyData → Prop
  | non : Dg H .non .none
  | bl (b : Bool) : Dg H (.bl b) (.bool b)
  | int (i : Int) : Dg H (.int i) (.int i)
  | str (x : Str) : Dg H (.str x) (.str x)
  | lst {a : Addr} {vs : List V} {es : List PyData} (e : H a = some (.lst vs)) (n : a ≠ sysModules) (h : Dgs H vs es) : Dg H (.ref a) (.list es)
  | tup {a : Addr} {vs : List V} {es : List PyData} (e : H a = some (.tup vs)) (h : Dgs H vs es) : Dg H (.ref a) (.tuple es)
inductive Dgs (H : Hp) : List V → List PyData → Prop
  | nil : Dgs H [] []
  | cons {v : V} {vs : List V} {d : PyData} {es : List PyData} (h : Dg H v d) (t : Dgs H vs es) : Dgs H (v :: vs) (d :: es)
end
section
variable {X : Cx} {pins : List (Addr × Obj)} {σ : L2.St} {H : Hp} {s : Shared}
mutual
theorem Dg.reads (I : L2.Inv X pins σ H s) {v : V} {d : PyData} (h : Dg H v d) {u : Value} (r : RelV v u) : ∃ as, Reads s.heap u d as ∧ sysModules ∉ as := by
  cases h with
  | non => cases r; exact ⟨_, .none, by simp⟩
  | bl b => cases r; exact ⟨_, .bool b, by simp⟩
  | int i => obtain ⟨t, rfl⟩ := r; exact ⟨_, .int i t, by simp⟩
  | str x => obtain ⟨t, rfl⟩ := r; exact ⟨_, .str x t, by simp⟩
  | lst e n h =>
    cases r
    obtain ⟨its, m, rv, ho⟩ := lst_at I e
    obtain ⟨as, q, nq⟩ := Dgs.reads I h rv
    exact ⟨_, .list ho rfl rfl q, by simp [Ne.symm n, nq]⟩
  | tup e h =>
    cases r
    obtain ⟨its, o, m, rv, ho, hc, hd⟩ := tup_at I e
    obtain ⟨as, q, nq⟩ := Dgs.reads I h rv
    exact ⟨_, .tuple ho hc hd q, nq⟩
theorem Dgs.reads (I : L2.Inv X pins σ H s) {vs : List V} {es : List PyData} (h : Dgs H vs es) {us : List Value} (r : Vals vs us) : ∃ as, ReadsAll s.heap us es as ∧ sysModules ∉ as := by
  cases h with
  | nil => cases r; exact ⟨_, .nil, by simp⟩
  | cons h t =>
    cases r with
    | cons r1 rr =>
      obtain ⟨as, q, nq⟩ := Dg.reads I h r1
      obtain ⟨bs, q2, nq2⟩ := Dgs.reads I t rr
      exact ⟨_, .cons q q2, by simp [nq, nq2]⟩
end
end
/-- repr(x), x a list or tuple of data -/
def rReprG : List V → Hp → VK → Prop := fun xs H Q => ∃ (a : Addr) (d : PyData), xs = [.ref a] ∧ Dg H (.ref a) d ∧ d.showable = true ∧ d.depth ≤ 100 ∧ d.shown.length ≤ 1000000 ∧ Q (.str d.shown) H
theorem call_reprG {X : Cx} {k : Nat} (hg : X.A.guards = some []) (hr : Room k X.A) : CallR X (.builtin "repr") rReprG := by
  intro pins s σ H xs us Q I r h
  obtain ⟨a, d, rfl, hd, hs, hdp, hz, q⟩ := h
  obtain ⟨u, rfl, ru⟩ := vals1 r
  cases ru
  obtain ⟨as, rd, ns⟩ := hd.reads I rfl
  have deep : X.A.units + (d.depth + 1) < cLine := by have := hr.un; omega
  exact repr_of_reads' rd hs (fun _ => ns) hg deep (fun _ _ e => e) (fun h' u tk k => ⟨.str d.shown, H, I.kept k, ⟨_, rfl⟩, q⟩) (Nat.le_trans hz (by decide))
/-- what may be shown: no number of more than twelve figures -/
theorem show_int {i : Int} (h1 : -999999999999 ≤ i) (h2 : i ≤ 999999999999) : (PyData.int i).showable = true ∧ (PyData.int i).leavesShort 13 = true := by
  refine ⟨?_, ?_⟩
  · have := Nat.log2_lt (n := i.natAbs) (k := 1920)
    simp only [PyData.showable, decide_eq_true_eq]
    by_cases h0 : i.natAbs = 0
    · rw [h0]; decide
    · refine (Nat.log2_lt h0).mpr (Nat.lt_of_lt_of_le (show i.natAbs < 2 ^ 40 from ?_) (Nat.pow_le_pow_right (by decide) (by decide)))
      have : (2 : Nat) ^ 40 = 1099511627776 := by decide
      omega
  · simp only [PyData.leavesShort, decide_eq_true_eq]
    exact PyData.shown_int_le2 h1 h2
end Ev
set_option maxHeartbeats 4000000
namespace Ev
open PySem PySem.Spec PyProof.Rows L2
/-! repr of data without dicts -/
def rReprD (K : PySem.W.Frag) : List V → Hp → VK → Prop := fun xs H Q => ∃ (a : Addr) (d : PyData), xs = [.ref a] ∧ Dp K H (.ref a) d ∧ d.showable = true ∧ d.depth ≤ 100 ∧ d.hasDict = false ∧ d.shown.length ≤ 16000000 ∧ Q (.str d.shown) H
theorem call_reprD {X : Cx} {k : Nat} (hg : X.A.guards = some []) (hr : Room k X.A) : CallR X (.builtin "repr") (rReprD X.K) := by
  intro pins s σ H xs us Q I r h
  obtain ⟨a, d, rfl, hd, hs, dp, nd, hz, q⟩ := h
  obtain ⟨u, rfl, ru⟩ := vals1 r
  cases ru
  obtain ⟨as, rd⟩ := Dp.reads I d _ _ hd rfl
  have room : X.A.units + (d.depth + 1) < cLine := by have := hr.un; omega
  have big : d.shown.length ≤ 16777216 := by omega
  exact repr_of_reads' rd hs (fun z => by rw [nd] at z; cases z) hg room (fun _ _ e => e) (fun h' u tk k => ⟨.str d.shown, H, I.kept k, ⟨_, rfl⟩, q⟩) big
end Ev
set_option maxHeartbeats 4000000
/-! The law's own def, called by the caller of claims alone: what runs around it is known (no repr is under way). -/
namespace Ev
open PySem PySem.Spec PyProof.Rows L2
/-- the def at f keeps sp, called where A runs around it -/
structure FnAt (A : Around) (P : Program) (w : World) (K : PySem.W.Frag) (mg : Str → Option Value) (base : Heap) (CX : CXT) (f : Addr) (fd : FuncData) (ps : List Str) (sp : Sp) : Prop where
  len : ∀ vs H Q E, sp vs H Q E → vs.length = ps.length
  run : ∀ (outer : List Env) (s : Shared) (H : Hp) (args : Args) (us : List Value) (vs : List V) (Q : VK) (E : XK), Env0 P w K mg base A outer s H → BindsTo s fd args (ps.zip us) → Vals vs us → sp vs H Q E →
    codeAny (model P w) A (.call (.ref f) args) (CR CX outer P w H s Q E) s
section
variable {A : Around} {CX : CXT} {P : Program} {w : World} {K : PySem.W.Frag} {mg : Str → Option Value} {base : Heap} {k : Nat}
theorem fun_at {x qual : Str} {st : Stmt} {f : Addr} {fd : FuncData} {N ps : List Str} {sp : Sp} (F : Fun K x qual st f fd) (S : FnScope N ps (defScope st)) (hr : Room (k + 1) A) (len : ∀ vs H Q E, sp vs H Q E → vs.length = ps.length)
    (hbody : ∀ (cdv : Value) (outer : List Env) (s : Shared) (H : Hp) (vs : List V) (Q : VK) (E : XK), Room k (A.deeper (envOfC qual (defScope st) s.heap.objs.size f cdv)) → sp vs H Q E →
      ∃ t, PSs (cxOf CX P w K mg base N qual (defScope st) f cdv A outer s H E).nox (defBody st) t ∧ t { nx := fun _ H' => Q .non H', rt := Q } (start N vs) H) : FnAt A P w K mg base CX f fd ps sp := by
  obtain ⟨oc, od, kV, doc, pm, an, cdv, ct, osl, rfl, lk, hcd⟩ := F.ex
  refine ⟨len, fun outer s H args us vs Q E e0 hb r hsp => ?_⟩
  have lim : s.heap.NoLimit := e0.mod.nolimit.keeps fun b o e => (e0.bs b o e).1
  have KX : K.In s.heap := e0.mod.kin.keeps fun b o e => (e0.bs b o e).1
  have kinds : ∀ y ∈ ps.zip us, (defScope st).names.lookup y.1 = some .local ∨ ((defScope st).names.lookup y.1 = some .cell ∧ ((cellsFrom (s.heap.objs.size + 1) (defScope st).names []).lookup y.1).isSome = true) := by
    rintro ⟨n, v⟩ hy
    exact (S.par n (List.of_mem_zip hy).1).imp id fun q => ⟨q, PySem.W.cellsFrom_some _ _ _ (.inl q)⟩
  refine codeAny_call_function hr.depth (KX _ _ lk) rfl S.co S.gen rfl (PySem.W.codeRec_of KX hcd) (hb _ _ _ _ (wpAny_newFunctionEnv_cells S.kind kinds fun env he s1 x => ?_))
  subst he
  obtain ⟨t, ht, hq⟩ := hbody cdv outer s H vs Q E (hr.deeper _) hsp
  have I := inv_start (CX := CX) (P := P) (w := w) (mg := mg) (base := base) (E := E) S hr.hd e0 (len _ _ _ _ hsp) r x
  refine ⟨lim.keeps x.toInCall.keep, codeAny_func (wpAny_mono (ht.nox.run [] s1 (start N vs) H _ I hq) (fun fl s' hs => ?_) fun e s' hs => hs)⟩
  cases fl with
  | ret u =>
    obtain ⟨v, σ', H', J, rv, q⟩ := hs
    exact ⟨v, H', J.os, J.bare, J.base, J.hok, rv, q⟩
  | next =>
    obtain ⟨σ', H', J, q⟩ := hs
    exact ⟨V.non, H', J.os, J.bare, J.base, J.hok, rfl, q⟩
  | brk => exact hs.elim fun _ z => z.elim fun _ y => y.2.elim
  | cont => exact hs.elim fun _ z => z.elim fun _ y => y.2.elim
end
section
variable {P : Program} {w : World} {K : PySem.W.Frag} {mg mb : Str → Option Value} {fa a : Addr} {fd : FuncData} {x : Str} {sp : Sp} {s₁ : Shared} {vs : List Value} {ns : List Int}
/-- from one abstract heap: nothing is tracked but, perhaps, the script -/
theorem law_at0 {H : Hp} (KX : K.In s₁.heap) (hns : s₁.heap.Ns mainGlobals mg) (hb : s₁.heap.Ns builtinsNs mb) (hbb : ∀ y : Str, y ≠ "__name__" → mb y = bootBuiltins y) (hlim : s₁.heap.NoLimit) (hg : s₁.gens = #[])
    (ha : s₁.heap.get? a = some { cls := .type "list", data := .seq vs.toArray }) (F : ∀ base : Heap, K.In base → base.Ns mainGlobals mg → FnAt callerA P w K mg base CX0 fa fd [x] sp)
    (hbind : ∀ (s : Shared) (u : Value), BindsTo s fd ⟨[u], []⟩ [(x, u)]) (hO : Only H) (hok : HOk P w H s₁.heap) (hA : ∀ b, H b ≠ none → b = a) (hK : H a ≠ none → K.lookup a = none)
    (hsp : sp [.ref a] H (fun v _ => v = .bl true) fun _ _ _ => False) :
    codeAny (model P w) callerA (.call (.ref fa) ⟨[.ref a], []⟩) (fun r s' => r = .ok (.ret (.bool true)) ∧ OldK s₁.heap s'.heap ∧ s'.os = s₁.os ∧ AllBare s'.gens) s₁ := by
  have off : ∀ {b : Addr} {o : Obj}, s₁.heap.get? b = some o → o ≠ { cls := .type "list", data := .seq vs.toArray } → H b = none := fun {b o} e n => by
    refine Classical.byContradiction fun z => n ?_
    have eb := hA b z
    rw [eb, ha] at e
    exact (Option.some.inj e).symm
  have nsK : ∀ {b : Addr} {m : Str → Option Value}, s₁.heap.Ns b m → (hidT s₁.heap H).Ns b m := fun {b m} ⟨o, es, ep, e, d, r⟩ => ⟨o, es, ep, hidT_get e (off e fun z => by rw [z] at d; cases d), d, r⟩
  have hKb : K.In (hidT s₁.heap H) := fun b o e => hidT_get (KX b o e) (Classical.byContradiction fun z => by
    have eb := hA b z
    rw [eb] at e z
    rw [hK z] at e
    cases e)
  have hM : Mod K mg (hidT s₁.heap H) := ⟨hKb, nsK hns, ⟨mb, nsK hb, hbb⟩, hlim.elim fun mc z => ⟨mc, nsK z.1, z.2⟩⟩
  have e0 : Env0 P w K mg (hidT s₁.heap H) callerA [] s₁ H := ⟨rfl, hM, fun b o e => of_hidT e, Nat.le_of_eq (hidT_size _ _), trivial, fun b hb => absurd (show b ∈ ([] : List Addr) from hb) (by simp), hok, .of_eq hg⟩
  refine codeAny_mono ((F _ hKb (nsK hns)).run [] s₁ H ⟨[.ref a], []⟩ [.ref a] [.ref a] _ _ e0 (hbind s₁ (.ref a)) (.cons rfl .nil) hsp) fun r s' h => ?_
  rcases r with e | fl
  · exact False.elim h
  cases fl with
  | next => exact False.elim h
  | brk => exact False.elim h
  | cont => exact False.elim h
  | ret u =>
    obtain ⟨v, H', os, bare, un, hok', r', rfl⟩ := h
    obtain rfl : u = Value.bool true := r'
    refine ⟨rfl, OldK.of_keep fun b o e => ?_, os, bare⟩
    rcases hO b with z | ⟨ob, xs, z⟩
    · exact un.keep b o e z (fun y => absurd (show b ∈ ([] : List Addr) from y) (by simp)) (by simp)
    · have e1 := (hok b _ z).1
      rw [e] at e1
      cases e1
      exact (hok' b _ (un.frzs b _ _ z)).1
theorem law_at (KX : K.In s₁.heap) (hns : s₁.heap.Ns mainGlobals mg) (hb : s₁.heap.Ns builtinsNs mb) (hbb : ∀ y : Str, y ≠ "__name__" → mb y = bootBuiltins y) (hlim : s₁.heap.NoLimit) (hg : s₁.gens = #[])
    (ha : s₁.heap.get? a = some { cls := .type "list", data := .seq vs.toArray }) (hi : IntsAre vs ns) (hl : ns.length ≤ sizeLine)
    (F : ∀ base : Heap, K.In base → base.Ns mainGlobals mg → FnAt callerA P w K mg base CX0 fa fd [x] sp) (hbind : ∀ (s : Shared) (u : Value), BindsTo s fd ⟨[u], []⟩ [(x, u)])
    (hsp : ∀ H : Hp, Only H → SqL K H a (ns.map V.int) → sp [.ref a] H (fun v _ => v = .bl true) fun _ _ _ => False) :
    codeAny (model P w) callerA (.call (.ref fa) ⟨[.ref a], []⟩) (fun r s' => r = .ok (.ret (.bool true)) ∧ OldK s₁.heap s'.heap ∧ s'.os = s₁.os ∧ AllBare s'.gens) s₁ := by
  have rv := vals_ints hi
  cases hk : K.lookup a with
  | some o =>
    have e := KX a o hk
    rw [ha] at e
    cases e
    have hO : Only (fun _ => none) := fun _ => .inl rfl
    exact law_at0 KX hns hb hbb hlim hg ha F hbind hO (fun b u z => by cases z) (fun b z => absurd rfl z) (fun z => absurd rfl z)
      (hsp _ hO (.inr ⟨_, vs.toArray, _, hk, rfl, rfl, rfl, by rw [List.size_toArray, hi.length]; exact hl, by simpa using rv⟩))
  | none =>
    have same : upd (fun _ => none) a (.frz { cls := .type "list", data := .seq vs.toArray } (.lst (ns.map V.int))) a = some (.frz { cls := .type "list", data := .seq vs.toArray } (.lst (ns.map V.int))) := upd_same
    have hO : Only (upd (fun _ => none) a (.frz { cls := .type "list", data := .seq vs.toArray } (.lst (ns.map V.int)))) := fun b => by
      by_cases h : b = a
      · exact .inr ⟨_, _, by rw [h]; exact same⟩
      · exact .inl (by rw [upd_ne h])
    refine law_at0 KX hns hb hbb hlim hg ha F hbind hO (fun b u z => ?_) (fun b z => ?_) (fun _ => hk) (hsp _ hO (.inl (.inr ⟨_, same⟩)))
    · by_cases h : b = a
      · subst h
        rw [same] at z
        cases z
        exact ⟨ha, by rw [List.length_map]; exact hl, vs, _, rv, ha⟩
      · rw [upd_ne h] at z
        cases z
    · exact Classical.byContradiction fun h => z (by rw [upd_ne h])
end
/-- the end of a law's row -/
theorem walk_at {l : PySem.W.OpenLaw} {n : Nat} {q : Program} {loose : List Str} {XP : (Str → Option Value) → Heap → Prop} {YP : World → Heap → Prop} {d : DefRec} {K : Params → PySem.W.Frag} {sp : PySem.W.Frag → Sp} {x : Str}
    (hn : l.most = some n) (hn2 : n ≤ sizeLine) (hdf : d.params.defaults = []) (hY : ∀ (w : World) (h : Heap), YP w h → (K w.params).In h)
    (F : ∀ (w : World) (mg : Str → Option Value) (fa : Addr) (h : Heap), (K w.params).In h → h.Ns mainGlobals mg → mg d.name = some (.ref fa) →
      ∃ fd : FuncData, (∀ (s : Shared) (u : Value), BindsTo s fd ⟨[u], []⟩ [(x, u)]) ∧ ∀ base : Heap, (K w.params).In base → base.Ns mainGlobals mg → FnAt callerA l.prog w (K w.params) mg base CX0 fa fd [x] (sp (K w.params)))
    (hsp : ∀ (K : PySem.W.Frag) (H : Hp) (a : Addr) (ns : List Int), ns.length ≤ n → Only H → SqL K H a (ns.map V.int) → sp K [.ref a] H (fun v _ => v = .bl true) fun _ _ _ => False) :
    PySem.W.WalkO q loose XP YP l.row.toRowW d [] (fun f vs => PySem.call f vs) :=
  Att.attach_call hn hdf fun w s₀ s₁ mg mb fa o pm cd doc a vs ns G Y ho hd hcd hmg hobj hints hlen hg => by
    obtain ⟨fd, hb, hF⟩ := F w mg fa _ (hY w _ Y) G.T.g hmg
    exact law_at (hY w _ Y) G.T.g G.T.b G.T.builtins G.T.nolimit hg hobj hints (Nat.le_trans hlen hn2) hF hb fun H hO hS => hsp _ H a ns hlen hO hS
/-- C() of an own error class without an __init__ of its own -/
theorem pe_excP {X : Cx} {x : Str} {C : Addr} {p pos : Pos} {bmB : List Value} {B newId initId : String} (F : ExcBaseFacts B newId initId bmB) (q : PySem.W.excIn X.K C bmB newId = true) (kC : PySem.W.keepIn X.K (.ref C) = true) (hg : Gl X x) (hm : X.mg x = some (.ref C))
    (hdb : (x == ("__debug__" : Str)) = false := by decide) : PE X (.Call (.Name x p) [] [] pos) (fun _ H Q => ∀ a, H a = none → Q (.ref a) (upd H a (exo a C none))) := by
  refine ⟨fun pins s σ H Q I h => ?_⟩
  refine wpAny_Call_Name_kw (ld_glob I hg hm ?_ hdb)
  refine PySem.W.callWith_K0 I.kIn kC ?_
  show wpAny _ _ (call (.ref C) []) _ _ _
  obtain ⟨bm, N, nm, qn, bs, hdct, sn, sub, ab, col, dd, k0, k1, k2, k3, k5, mN, hC, hN, hni, T⟩ := exc_obj I.kIn q
  refine wpAny_call_exc_subT F T hC hN hni (fun h' a hm => ?_) (by show 0 ≤ sizeLine; decide)
  have hn : H a = none := I.hok.gone hm.new
  obtain ⟨t, ht, _, _⟩ := hm.there
  exact ⟨.ref a, upd H a (exo a C none), I.laidN hm.keeps hm.new hn (exo_ok ht), rfl, h a hn⟩
end Ev
set_option maxHeartbeats 4000000
/-! repr of data nested deep: tuples, lists, dicts of one. -/
namespace Ev
open PySem PySem.Spec PyProof.Rows L2
inductive Nd (H : Hp) : Nat → V → PyData → Prop
  | non : Nd H 0 .non .none
  | str (z : Str) (h : z = Str.ofString "a") : Nd H 0 (.str z) (.str z)
  | neg : Nd H 0 (.int (-1)) (.int (-1))
  | dic {a : Addr} (e : H a = some (.dK [])) : Nd H 0 (.ref a) (.dict [])
  | tup {a : Addr} {x : V} {d : PyData} {n : Nat} (e : H a = some (.tup [x])) (h : Nd H n x d) : Nd H (n + 1) (.ref a) (.tuple [d])
  | lst {a : Addr} {x : V} {d : PyData} {n : Nat} (e : H a = some (.lst [x])) (m : a ≠ sysModules) (h : Nd H n x d) : Nd H (n + 1) (.ref a) (.list [d])
  | dik {a : Addr} {x : V} {d : PyData} {n : Nat} (e : H a = some (.dK [(.inl 0, x)])) (h : Nd H n x d) : Nd H (n + 1) (.ref a) (.dict [(.int 0, d)])
theorem Nd.same {H H' : Hp} {n : Nat} {v : V} {d : PyData} (k : ∀ b o, H b = some o → H' b = some o) (h : Nd H n v d) : Nd H' n v d := by
  induction h with
  | non => exact .non
  | str z h => exact .str z h
  | neg => exact .neg
  | dic e => exact .dic (k _ _ e)
  | tup e _ ih => exact .tup (k _ _ e) ih
  | lst e m _ ih => exact .lst (k _ _ e) m ih
  | dik e _ ih => exact .dik (k _ _ e) ih
section
variable {X : Cx} {pins : List (Addr × Obj)} {σ : L2.St} {H : Hp} {s : Shared}
theorem Nd.reads (I : L2.Inv X pins σ H s) {n : Nat} {v : V} {d : PyData} (h : Nd H n v d) : ∀ {u : Value}, RelV v u → ∃ as, Reads s.heap u d as ∧ sysModules ∉ as := by
  induction h with
  | non => intro u r; cases r; exact ⟨_, .none, by simp⟩
  | str z h => intro u r; obtain ⟨t, rfl⟩ := r; exact ⟨_, .str z t, by simp⟩
  | neg => intro u r; obtain ⟨t, rfl⟩ := r; exact ⟨_, .int _ t, by simp⟩
  | @dic a e => intro u r; exact (Dt.dic e).reads I r
  | @tup a x d n e hx ih =>
    intro u r
    cases r
    obtain ⟨its, o, m, rv, ho, hc, hd⟩ := tup_at I e
    cases rv with
    | cons r1 rr =>
      cases rr
      obtain ⟨as, q, nq⟩ := ih r1
      exact ⟨_, .tuple ho hc hd (.cons q .nil), by simp [nq]⟩
  | @lst a x d n e m hx ih =>
    intro u r
    cases r
    obtain ⟨its, c, rv, ho⟩ := lst_at I e
    cases rv with
    | cons r1 rr =>
      cases rr
      obtain ⟨as, q, nq⟩ := ih r1
      exact ⟨_, .list ho rfl rfl (.cons q .nil), by simp [Ne.symm m, nq]⟩
  | @dik a x d n e hx ih =>
    intro u r
    cases r
    obtain ⟨_, hs, vs, kv, o, es, ep, ho, hxd, hd, hk, hp, _⟩ := (show ObjOk X.prog X.w H s.heap a (.dK [(.inl 0, x)]) from I.hok a _ e)
    cases kv with
    | @cons p q0 ps qs h1 h2 =>
      cases h2
      obtain ⟨k0, u⟩ := q0
      obtain ⟨h1, h3⟩ := h1
      have h1 : (Sum.inl 0 : Key) = k0 := h1
      subst h1
      have h3 : RelV x u := h3
      generalize hes : es.toList = l at hp
      cases hp with
      | @cons en q es' qs' gk gv g2 =>
        cases g2
        obtain ⟨as, rd, nq⟩ := ih h3
        obtain ⟨t, et⟩ : ∃ t, en.key = .int 0 t := by
          have rk := relV_key (show keyIs (.inl 0) en.key = true from gk)
          exact rk
        refine ⟨a :: ([] ++ []) ++ (as ++ []), .dict (as := [] ++ []) (bs := as ++ []) ho hxd.1 hd ?_ ?_, ?_⟩
        · rw [hes]
          show ReadsAll _ [en.key] [PyData.int 0] _
          rw [et]
          exact .cons (.int 0 t) .nil
        · rw [hes]
          show ReadsAll _ [en.val] [d] _
          rw [show en.val = u from gv]
          exact .cons rd .nil
        · have : a ≠ sysModules := by simpa using hs
          simp [Ne.symm this, nq]
end
/-- the signs that the text of a pair of numbers has -/
def pcode (c : Nat) : Bool := decide (c = 40) || decide (c = 41) || decide (c = 44) || decide (c = 32) || (decide (48 ≤ c) && decide (c ≤ 57))
def BadTx (z : Str) : Prop := ∃ c ∈ z.cps.toList, pcode c = false
theorem bad_app1 {x y : Str} (h : BadTx x) : BadTx (x ++ y) := let ⟨c, m, p⟩ := h; ⟨c, by rw [show (x ++ y).cps.toList = x.cps.toList ++ y.cps.toList from TL.tl_append x y]; exact List.mem_append_left _ m, p⟩
theorem bad_app2 {x y : Str} (h : BadTx y) : BadTx (x ++ y) := let ⟨c, m, p⟩ := h; ⟨c, by rw [show (x ++ y).cps.toList = x.cps.toList ++ y.cps.toList from TL.tl_append x y]; exact List.mem_append_right _ m, p⟩
theorem len_app (x y : Str) : (x ++ y).length = x.length + y.length := strLen_append x y
theorem Nd.facts {H : Hp} {n : Nat} {v : V} {d : PyData} (h : Nd H n v d) : d.showable = true ∧ d.depth ≤ n + 1 ∧ d.shown.length ≤ 10 + 6 * n ∧ BadTx d.shown := by
  induction h with
  | non => exact ⟨by simp [PyData.showable], by simp [PyData.depth], by simp only [PyData.shown]; decide, 78, by simp only [PyData.shown]; decide +kernel, by decide⟩
  | str z h =>
    subst h
    exact ⟨by simp [PyData.showable], by simp [PyData.depth], by simp only [PyData.shown]; decide +kernel, 39, by simp only [PyData.shown]; decide +kernel, by decide⟩
  | neg => exact ⟨by simp only [PyData.showable]; decide +kernel, by simp [PyData.depth], by simp only [PyData.shown]; decide +kernel, 45, by simp only [PyData.shown]; decide +kernel, by decide⟩
  | dic e => exact ⟨by simp [PyData.showable, PyData.showableKv], by simp [PyData.depth, PyData.depthKv], by simp only [PyData.shown, PyData.shownKv]; decide +kernel, 123, by simp only [PyData.shown, PyData.shownKv]; decide +kernel, by decide⟩
  | @tup a x d n e _ ih =>
    obtain ⟨i1, i2, i3, i4⟩ := ih
    have es : (PyData.tuple [d]).shown = ("(" : Str) ++ d.shown ++ (",)" : Str) := by simp [PyData.shown, PyData.shownAll, tupleText, Str.join]
    refine ⟨by simp [PyData.showable, PyData.showableAll, i1], by simp only [PyData.depth, PyData.depthAll]; omega, ?_, ?_⟩
    · rw [es, len_app, len_app, show ("(" : Str).length = 1 by decide +kernel, show (",)" : Str).length = 2 by decide +kernel]
      omega
    · rw [es]
      exact bad_app1 (bad_app2 i4)
  | @lst a x d n e m _ ih =>
    obtain ⟨i1, i2, i3, i4⟩ := ih
    have es : (PyData.list [d]).shown = ("[" : Str) ++ ("" : Str) ++ d.shown ++ ("]" : Str) := by simp [PyData.shown, PyData.shownAll, listText, textFrom]
    refine ⟨by simp [PyData.showable, PyData.showableAll, i1], by simp only [PyData.depth, PyData.depthAll]; omega, ?_, ?_⟩
    · rw [es, len_app, len_app, len_app, show ("[" : Str).length = 1 by decide +kernel, show ("]" : Str).length = 1 by decide +kernel, show ("" : Str).length = 0 by decide +kernel]
      omega
    · rw [es]
      exact bad_app1 (bad_app2 i4)
  | @dik a x d n e _ ih =>
    obtain ⟨i1, i2, i3, i4⟩ := ih
    have es : (PyData.dict [(.int 0, d)]).shown = ("{" : Str) ++ ((PyData.int 0).shown ++ (": " : Str) ++ d.shown) ++ ("}" : Str) := by simp [PyData.shown, PyData.shownKv, dictText, Str.join]
    have s0 : (PyData.int 0).showable = true := by simp only [PyData.showable]; decide +kernel
    refine ⟨by simp [PyData.showable, PyData.showableKv, i1, s0], by simp only [PyData.depth, PyData.depthKv]; omega, ?_, ?_⟩
    · rw [es, len_app, len_app, len_app, len_app, show ("{" : Str).length = 1 by decide +kernel, show ("}" : Str).length = 1 by decide +kernel, show (": " : Str).length = 2 by decide +kernel, show (PyData.int 0).shown.length = 1 by simp only [PyData.shown]; decide +kernel]
      omega
    · rw [es]
      exact bad_app1 (bad_app2 (bad_app2 i4))
/-- repr(x), x nested data -/
def rReprN : List V → Hp → VK → Prop := fun xs H Q => ∃ (a : Addr) (n : Nat) (d : PyData), xs = [.ref a] ∧ Nd H n (.ref a) d ∧ n ≤ 60 ∧ Q (.str d.shown) H
theorem call_reprN {X : Cx} {k : Nat} (hg : X.A.guards = some []) (hr : Room k X.A) : CallR X (.builtin "repr") rReprN := by
  intro pins s σ H xs us Q I r h
  obtain ⟨v, n, d, rfl, hd, hn, q⟩ := h
  obtain ⟨u, rfl, ru⟩ := vals1 r
  cases ru
  obtain ⟨f1, f2, f3, f4⟩ := hd.facts
  obtain ⟨as, rd, ns⟩ := hd.reads I rfl
  have deep : X.A.units + (d.depth + 1) < cLine := by have := hr.un; omega
  have sz := sizeLine_eq
  exact repr_of_reads' rd f1 (fun _ => ns) hg deep (fun _ _ e => e) (fun h' u tk k => ⟨.str d.shown, H, I.kept k, ⟨_, rfl⟩, q⟩) (by omega)
end Ev
set_option maxHeartbeats 4000000
/-! A helper def that calls repr: it is called where no repr is under way. -/
namespace Ev
open PySem PySem.Spec PyProof.Rows L2
/-- the def at f keeps sp, called where no repr is under way -/
structure FnG (P : Program) (w : World) (K : PySem.W.Frag) (mg : Str → Option Value) (base : Heap) (CX : CXT) (k : Nat) (f : Addr) (fd : FuncData) (ps : List Str) (sp : Sp) : Prop where
  ok : ∀ A : Around, Room k A → A.guards = some [] → FnAt A P w K mg base CX f fd ps sp
theorem fun_g {P : Program} {w : World} {K : PySem.W.Frag} {mg : Str → Option Value} {base : Heap} {CX : CXT} {k : Nat} {x qual : Str} {st : Stmt} {f : Addr} {fd : FuncData} {N ps : List Str} {sp : Sp} (F : Fun K x qual st f fd) (S : FnScope N ps (defScope st)) (len : ∀ vs H Q E, sp vs H Q E → vs.length = ps.length)
    (hbody : ∀ (cdv : Value) (A : Around) (outer : List Env) (s : Shared) (H : Hp) (vs : List V) (Q : VK) (E : XK), Room k (A.deeper (envOfC qual (defScope st) s.heap.objs.size f cdv)) → (A.deeper (envOfC qual (defScope st) s.heap.objs.size f cdv)).guards = some [] → sp vs H Q E →
      ∃ t, PSs (cxOf CX P w K mg base N qual (defScope st) f cdv A outer s H E).nox (defBody st) t ∧ t { nx := fun _ H' => Q .non H', rt := Q } (start N vs) H) : FnG P w K mg base CX (k + 1) f fd ps sp :=
  ⟨fun A hr hg => fun_at F S hr len fun cdv outer s H vs Q E hr' h => hbody cdv A outer s H vs Q E hr' (by show A.guards = some []; exact hg) h⟩
section
variable {X : Cx} {CX : CXT} {k : Nat} {f C : Addr} {fd : FuncData} {ps : List Str} {sp : Sp} {dvs : List V} {ds : List Value} {E : XK} {x m : Str} {p pos apos : Pos} {e o : Expr} {es : List Expr} {ta : TE} {t : TA}
theorem run_fnG {pins : List (Addr × Obj)} {σ : L2.St} {H : Hp} {s : Shared} {Q : VK} {us : List Value} {vs : List V} (F : FnG X.prog X.w X.K X.mg X.base CX k f fd ps sp) (hr : Room k X.A) (hg : X.A.guards = some []) (hb : Binds X.K fd ps []) (hx : Passes CX X E)
    (I : Inv X pins σ H s) (r : Vals vs us) (h : sp vs H Q E) : wpAny (model X.prog X.w) X.A (call (.ref f) us) (EP X pins σ Q) X.xe s := by
  have FA := F.ok X.A hr hg
  have hl : us.length = ps.length := by rw [← r.length]; exact FA.len _ _ _ _ h
  have hb' := hb s us I.kIn (by rw [List.append_nil]; exact hl)
  rw [List.append_nil] at hb'
  refine wpAny_call (codeAny_mono (FA.run X.stack s H ⟨us, []⟩ us vs Q E I.env0 hb' r h) fun r s' hq => ?_)
  cases r with
  | error e => exact hx pins σ H s e s' I hq
  | ok fl =>
    cases fl with
    | ret u => exact I.after hq
    | next => exact False.elim hq
    | brk => exact False.elim hq
    | cont => exact False.elim hq
theorem pe_callG (F : FnG X.prog X.w X.K X.mg X.base CX k f fd ps sp) (hr : Room k X.A) (hgu : X.A.guards = some []) (hg : Gl X x) (hm : X.mg x = some (.ref f)) (hk : PySem.W.keepIn X.K (.ref f) = true) (hb : Binds X.K fd ps []) (hx : Passes CX X E)
    (ha : PA X (e :: es) t) (hdb : (x == ("__debug__" : Str)) = false := by decide) (he : starEach (e :: es) X.env = (false, eval e X.env) :: starEach es X.env := by rfl) (hpl : (backTo pos (starEach es X.env)).any (·.1) = false := by rfl) :
    PE X (.Call (.Name x p) (e :: es) [] pos) (tCall sp [] E t) := by
  refine ⟨fun pins s σ H Q I h => ?_⟩
  refine wpAny_Call_Name_kw (ld_glob I hg hm ?_ hdb)
  refine PySem.W.callWith_K (h₀ := X.base) I.ok.mod.kin hk (thn (ha.run pos pins s σ H _ I h) fun us s1 ⟨vs, H1, I1, r, q⟩ => ⟨I1.kIn, ?_⟩) he hpl
  have q' : sp (vs ++ []) H1 Q E := q
  rw [List.append_nil] at q'
  exact run_fnG F hr hgu hb hx I1 r q'
end
end Ev
set_option maxHeartbeats 4000000
namespace LawK
open PySem PySem.Spec PyProof.Rows L2 Ev

def spIs (K : PySem.W.Frag) : Sp := fun vs H Q _ => ∃ (a b : Addr) (d : PyData), vs = [.ref a, .ref b] ∧ Dp K H (.ref a) d ∧ Dp K H (.ref b) d ∧ d.showable = true ∧ d.depth ≤ 100 ∧ d.hasDict = false ∧ d.shown.length ≤ 16000000 ∧ Q (.bl true) H
def spOrd : Sp := fun vs H Q _ => ∃ (a : Addr) (ts : List Str), vs = [.ref a] ∧ TsAt H a ts ∧ ∀ D H', Same H H' → H D = none → PsL H' D (ord ts) → Q (.ref D) H'
/-- the range of the endings that begin with a word that some ending begins with -/
def spRange : Sp := fun vs H Q _ => ∃ (a b : Addr) (ts : List Str) (w : Str), vs = [.ref a, .ref b, .str w] ∧ TsAt H a ts ∧ PsL H b (ord ts) ∧ (∃ r, Run (sOf ts) (ord ts).length (cod w) r) ∧ w.length ≤ 200 ∧ ∀ r v H', Same H H' → PAt H' v r → Run (sOf ts) (ord ts).length (cod w) r → Q v H'
/-- the numbers of a range, below a number -/
def btw (r : Pl) (i : Nat) : List Nat := (List.range (min i r.2 - r.1)).map fun k => r.1 + k
theorem btw_0 (r : Pl) : btw r 0 = [] := by
  unfold btw
  rw [show min 0 r.2 - r.1 = 0 by omega]
  rfl
theorem btw_in {r : Pl} {i : Nat} (h : r.1 ≤ i ∧ i < r.2) : btw r (i + 1) = btw r i ++ [i] := by
  unfold btw
  rw [show min (i + 1) r.2 - r.1 = (i - r.1) + 1 by omega, show min i r.2 - r.1 = i - r.1 by omega, List.range_succ, List.map_append]
  simp
  omega
theorem btw_out {r : Pl} {i : Nat} (h : ¬ (r.1 ≤ i ∧ i < r.2)) : btw r (i + 1) = btw r i := by
  unfold btw
  rw [show min (i + 1) r.2 - r.1 = min i r.2 - r.1 by omega]
theorem btw_end {r : Pl} {n : Nat} (h1 : r.1 < r.2) (h2 : r.2 ≤ n) : (btw r n).length = r.2 - r.1 ∧ atI ((btw r n).map fun k => V.int (k : Nat)) 0 = some (.int (r.1 : Nat)) ∧ atI ((btw r n).map fun k => V.int (k : Nat)) (-1) = some (.int ((r.2 - 1 : Nat) : Nat)) := by
  have l : (btw r n).length = r.2 - r.1 := by
    unfold btw
    rw [List.length_map, List.length_range]
    omega
  have at_ : ∀ k, k < r.2 - r.1 → ((btw r n).map fun k => V.int (k : Nat))[k]? = some (.int ((r.1 + k : Nat) : Nat)) := fun k hk => by
    unfold btw
    rw [List.map_map, List.getElem?_map, List.getElem?_range (by omega)]
    rfl
  refine ⟨l, ?_, ?_⟩
  · exact atI_nat (j := 0) (at_ 0 (by omega))
  · have e : btw r n = btw r (r.2 - 1) ++ [r.2 - 1] := by
      rw [← btw_in (r := r) (i := r.2 - 1) (by omega)]
      unfold btw
      rw [show min n r.2 - r.1 = min (r.2 - 1 + 1) r.2 - r.1 by omega]
    rw [e, List.map_append]
    exact atI_last _ _
theorem cut_word {ts : List Str} {p : Pl} {w : Str} : decide (cutS (tx ts p.1) (some (p.2 : Nat)) (some (((p.2 : Nat) : Int) + (w.length : Int))) = w) = decide (cod w <+: cod (sfx ts p)) := by
  refine decide_eq_decide.mpr ?_
  have h := cutS_of (z := tx ts p.1) (i := (p.2 : Nat)) (j := ((p.2 : Nat) : Int) + (w.length : Int)) (by omega) (by omega)
  rw [show ((p.2 : Nat) : Int).toNat = p.2 by omega, show (((p.2 : Nat) : Int) + (w.length : Int) - ((p.2 : Nat) : Int)).toNat = w.length by omega] at h
  rw [sfx_cod, List.prefix_iff_eq_take]
  have el : (cod w).length = w.length := (len_S w).symm
  rw [el]
  constructor
  · intro e
    rw [← h]
    exact congrArg cod e.symm
  · intro e
    exact cod_inj (h.trans e.symm)
theorem ord_few {ts : List Str} (few : ts.length ≤ 8) (len : ∀ t ∈ ts, t.length ≤ 200) : (ord ts).length ≤ 1600 := by
  rw [(ord_perm ts).length_eq]
  have := plN_len len ts.length
  show (plN ts ts.length).length ≤ 1600
  omega
theorem RAt.put {ts : List Str} {H : Hp} {D : Addr} {us ws : List V} (hD : H D = some (.lst us)) {v : V} {p : Pl} (h : RAt ts H v p) : RAt ts (upd H D (.lst ws)) v p := by
  obtain ⟨b, e, hb⟩ := h
  refine ⟨b, e, ?_⟩
  rw [upd_ne fun z => by rw [z, hD] at hb; cases hb]
  exact hb
section
variable {P : Program} {w : World} {K : PySem.W.Frag} {mg : Str → Option Value} {base : Heap}
abbrev sIs : Stmt := topS 32
theorem scIs : FnScope ["told", "due"] ["told", "due"] (defScope sIs) := ⟨rfl, rfl, rfl, by decide +kernel, rfl, by decide +kernel, by decide +kernel⟩
theorem ok_Is {f : Addr} {fd : FuncData} (F : Fun K "_law_is" "_law_is" sIs f fd)   (T : Glob mg) : FnG P w K mg base CX0 1 f fd ["told", "due"] (spIs K) := by
  refine fun_g F scIs (fun vs H Q E h => ?_) (fun cdv A outer s H vs Q E hr hgu h => ?_)
  · obtain ⟨a, b, d, rfl, _⟩ := h
    rfl
  · refine ⟨_, (pss_one (ps_ret (pe_cmpR op_eq (pe_callB (call_reprD hgu hr) (by rfl) T.repr PyProof.Rows.boot_repr (pa_cons (pv 0) pa_nil)) (pe_callB (call_reprD hgu hr) (by rfl) T.repr PyProof.Rows.boot_repr (pa_cons (pv 1) pa_nil)) (nomark _)))), ?_⟩
    obtain ⟨a, b, d, rfl, h1, h2, s1, s2, s3, s4, q⟩ := h
    refine ⟨.ref a, rfl, a, d, rfl, h1, s1, s2, s3, s4, .ref b, rfl, b, d, rfl, h2, s1, s2, s3, s4, rfl, ?_⟩
    rw [decide_eq_true rfl]
    exact q
abbrev sPlaces : Stmt := topS 34
theorem scPlaces : FnScope ["texts", "found", "number", "text", "at", "ending"] ["texts"] (defScope sPlaces) := ⟨rfl, rfl, rfl, by decide +kernel, rfl, by decide +kernel, by decide +kernel⟩
theorem ok_Places {f : Addr} {fd : FuncData} (F : Fun K "_law_places" "_law_places" sPlaces f fd)   (T : Glob mg) : FnOk P w K mg base CX0 1 f fd ["texts"] spOrd := by
  refine F.ok scPlaces (fun vs H Q E h => ?_) (fun cdv A outer s H vs Q E hr h => ?_)
  · obtain ⟨a, ts, rfl, _⟩ := h
    rfl
  · refine ⟨_, (pss_cons (ps_set (i := 1) scPlaces.nd rfl (.inl rfl) (pe_lst pa_nil))
      (pss_cons (ps_for PassesOwn.never rfl (pi_enumT (by rfl) T.enumerate (pa_cons (pv 0) pa_nil)) (pg_tup (by rfl) (pgs_cons (pg_name (i := 2) scPlaces.nd rfl (.inr rfl)) (pgs_cons (pg_name (i := 3) scPlaces.nd rfl (.inr rfl)) pgs_nil)))
      (pss_one (ps_expr (pe_bm PySem.F.plainAttrs_list PySem.F.slot_list_extend PySem.F.type_list_extend mt_extend (pv 1) (pa_cons (pe_lc (own := [("at", 4)]) (g := gName 4) (by rfl) scPlaces.nd (pi_range1 (by rfl) T.range (pa_cons (pe_callB call_lenZ (by rfl) T.len PySem.boot_len (pa_cons (pv 3) pa_nil)) pa_nil)) (blkOk_by (N := ["texts", "found", "number", "text", "at", "ending"]) (sc := defScope sPlaces) (by decide +kernel)) (fun _ _ _ _ _ => pg_name (i := 4) scPlaces.nd rfl (.inl rfl)) (fun _ _ _ _ _ => pts_nil) (fun _ _ _ _ _ => (pe_tup (pa_cons (pe_slice sl_str (pv 3) (po_some (pv 4)) po_none) (pa_cons (pv 2) (pa_cons (pv 4) pa_nil)))))) pa_nil)))))
      (pss_one (ps_ret (pe_lc (own := [("ending", 5), ("number", 2), ("at", 4)]) (g := (gTup K 3 (gCons (gName 5) (gCons (gName 2) (gCons (gName 4) gNil))))) (by rfl) scPlaces.nd (pi_list (pe_callB (cr_sortedD hr.units) (by rfl) T.sorted (by decide +kernel) (pa_cons (pv 1) pa_nil))) (blkOk_by (N := ["texts", "found", "number", "text", "at", "ending"]) (sc := defScope sPlaces) (by decide +kernel)) (fun _ _ _ _ _ => pg_tup (by rfl) (pgs_cons (pg_name (i := 5) scPlaces.nd rfl (.inl rfl)) (pgs_cons (pg_name (i := 2) scPlaces.nd rfl (.inl rfl)) (pgs_cons (pg_name (i := 4) scPlaces.nd rfl (.inl rfl)) pgs_nil)))) (fun _ _ _ _ _ => pts_nil) (fun _ _ _ _ _ => (pe_tup (pa_cons (pv 2) (pa_cons (pv 4) pa_nil))))))))), ?_⟩
    obtain ⟨a, ts, rfl, ha, q⟩ := h
    refine ⟨by show 0 ≤ sizeLine; decide, fun D nD => ?_⟩
    have h2 := (Same.new (o := .lst []) nD) _ _ ha.at_
    have few := ha.few
    have len1 := ha.len
    refine ⟨.ref a, rfl, a, _, rfl, SqT.of h2, for_enT (fun i σ H' => ∃ (u2 u3 : Option V), σ = [some (.ref a), some (.ref D), u2, u3, none, none] ∧ Same H H' ∧ ∃ us, H' D = some (.lst us) ∧ All2 (RAt ts H') us (plN ts i)) ⟨none, none, rfl, Same.new nD, [], upd_same, .nil⟩ (fun i σ H' g => by obtain ⟨_, _, _, k, _⟩ := g; exact SqT.of (k _ _ ha.at_)) ?_ ?_⟩
    · rintro i u σ H5 hu ⟨u2, u3, rfl, k5, us, hD, hus⟩ t nt
      have hi : i < ts.length := by
        have := (List.getElem?_eq_some_iff.mp hu).1
        rw [List.length_map] at this
        exact this
      obtain rfl : V.str (tx ts i) = u := Option.some.inj ((tx_at hi).symm.trans hu)
      have kt := Same.new (H := H5) (o := .tup [.int (i : Nat), .str (tx ts i)]) nt
      have hT : upd H5 t (.tup [.int (i : Nat), .str (tx ts i)]) t = some (.tup [.int (i : Nat), .str (tx ts i)]) := upd_same
      have k6 := k5.trans kt
      have hD6 := kt _ _ hD
      have hus6 := hus.imp fun _ _ r => RAt.same kt r
      clear hus hD k5
      revert hT k6 hD6 hus6 kt
      generalize upd H5 t (.tup [.int (i : Nat), .str (tx ts i)]) = H6
      intro kt hT k6 hD6 hus6
      clear kt
      have ln1 : (tx ts i).length ≤ 200 := tx_len len1 i
      refine ⟨t, [.int (i : Nat), .str (tx ts i)], rfl, SqT.of hT, rfl, .int (i : Nat), [.str (tx ts i)], rfl, .str (tx ts i), [], rfl, rfl, ?_⟩
      refine ⟨.ref D, rfl, .inl ⟨rfl, _, sq_of hD6⟩, .str (tx ts i), rfl, _, rfl, len5 (by omega), _, rfl, by omega, by omega, fun G nG => lc_range (fun j H' => Same H6 H' ∧ ∃ ws, H' G = some (.lst ws) ∧ All2 (RAt ts H') ws ((List.range j).map fun k => (i, k))) ⟨Same.new nG, [], upd_same, .nil⟩ ?_ ?_⟩
      · rintro j H7 hj ⟨k7, ws, hG, hws⟩
        have hj2 : j < (tx ts i).length := by omega
        refine ⟨rfl, .str (tx ts i), rfl, _, rfl, _, rfl, _, rfl, len5 (by omega), _, rfl, _, rfl, by show 3 ≤ sizeLine; decide, fun b nb => ⟨ws, (Same.new nb) _ _ hG, ?_, sameAt (k7.trans (Same.new nb)) nG, ws ++ [.ref b], upd_same, ?_⟩⟩
        · have z1 := hws.len
          rw [List.length_map, List.length_range] at z1
          have h3 : sizeLine = 16777216 := sizeLine_eq
          omega
        · rw [row_take ts i j hj2]
          have ej : (0 + (j : Int)) = ((j : Nat) : Int) := by omega
          rw [ej]
          exact add_row (p := (i, j)) rfl nb hG hws
      · rintro H7 ⟨k7, ws, hG, hws⟩
        have hD7 := k7 _ _ hD6
        have hus7 := hus6.imp fun _ _ r => RAt.same k7 r
        have lu := hus7.len
        have lw := hws.len
        have lp := plN_len len1 i
        rw [List.length_map, List.length_range] at lw
        refine ⟨D, G, us, ws, rfl, rfl, hD7, hG, ?_, ?_⟩
        · have h3 : sizeLine = 16777216 := sizeLine_eq
          omega
        · refine ⟨_, _, rfl, sameAt (k6.trans k7) nD, us ++ ws, upd_same, ?_⟩
          rw [plN_succ]
          have e : row ts i = (List.range ((((tx ts i).length : Nat) : Int) - 0).toNat).map (fun k => (i, k)) := by
            unfold row
            rw [show ((((tx ts i).length : Nat) : Int) - 0).toNat = (tx ts i).length by omega]
          rw [e]
          exact (hus7.app hws).imp fun _ _ r => r.put hD7
    · rintro σ H1 ⟨u2, u3, rfl, k1, us, hD, hus⟩
      rw [List.length_map] at hus
      refine ⟨.ref D, rfl, ?_⟩
      dsimp only [tNil]
      refine sorted_rows hD hus fun A ws nA hw => ?_
      have kA : Same H (upd H1 A (.lst ws)) := k1.trans (Same.new nA)
      have hw := hw.imp fun _ _ r => r.same (Same.new (o := .lst ws) nA)
      have hA : upd H1 A (.lst ws) A = some (.lst ws) := upd_same
      clear hD h2 hus nD
      revert kA hw hA
      generalize upd H1 A (.lst ws) = HX
      intro kA hw hA
      have lq : ((plN ts ts.length).mergeSort (leP ts)).length ≤ 2000 := by
        rw [List.length_mergeSort]
        have := plN_len len1 ts.length
        omega
      have eo : (plN ts ts.length).mergeSort (leP ts) = ord ts := rfl
      rw [eo] at lq hw
      revert q lq hw
      generalize ord ts = qs
      intro q hw lq
      refine ⟨A, rfl, ⟨_, sq_of hA⟩, fun D nD => lc_list (xs := ws) (fun i H' => Same HX H' ∧ ∃ us, H' D = some (.lst us) ∧ All2 (PAt H') us (qs.take i)) ⟨Same.new nD, [], upd_same, .nil⟩ (fun i H' _ w => sq_of (w.1 _ _ hA)) ?_ ?_⟩
      · rintro i x H2 hx ⟨k2, us, hD, hu⟩
        obtain ⟨p, ep, b, rfl, eb⟩ := hw.at hx
        have eb2 := k2 _ _ eb
        refine ⟨b, _, rfl, SqT.of eb2, rfl, _, _, rfl, _, _, rfl, _, _, rfl, rfl, rfl, _, rfl, _, rfl, by show 2 ≤ sizeLine; decide, fun c nc => ⟨us, (Same.new nc) _ _ hD, ?_, sameAt (k2.trans (Same.new nc)) nD, us ++ [.ref c], upd_same, ?_⟩⟩
        · have z1 := hu.len
          rw [List.length_take] at z1
          have h3 : sizeLine = 16777216 := sizeLine_eq
          omega
        · rw [take_snoc ep]
          exact add_pair nc hD hu rfl
      · rintro H2 ⟨k2, us, hD, hu⟩
        rw [hw.len, List.take_length] at hu
        exact q D H2 (kA.trans k2) (Same.free kA nD) ⟨us, hD, hu⟩
abbrev sRange : Stmt := topS 39
theorem scRange : FnScope ["texts", "order", "word", "numbers", "number", "place"] ["texts", "order", "word"] (defScope sRange) := ⟨rfl, rfl, rfl, by decide +kernel, rfl, by decide +kernel, by decide +kernel⟩
theorem ok_Range {f : Addr} {fd : FuncData} (F : Fun K "_law_range" "_law_range" sRange f fd)   (T : Glob mg) : FnOk P w K mg base CX0 1 f fd ["texts", "order", "word"] spRange := by
  refine F.ok scRange (fun vs H Q E h => ?_) (fun cdv A outer s H vs Q E hr h => ?_)
  · obtain ⟨a, b, ts, w, rfl, _⟩ := h
    rfl
  · refine ⟨_, (pss_cons (ps_setLc (i := 3) (own := [("number", 4), ("place", 5)]) (g := (gTup K 2 (gCons (gName 4) (gCons (gName 5) gNil)))) (by rfl) scRange.nd rfl rfl (sw_true rfl rfl rfl (by decide +kernel)) (pi_enum (by rfl) T.enumerate (pa_cons (pv 1) pa_nil)) (blkOk_by (N := ["texts", "order", "word", "numbers", "number", "place"]) (sc := defScope sRange) (by decide +kernel)) (fun _ _ _ _ _ => pg_tup (by rfl) (pgs_cons (pg_name (i := 4) scRange.nd rfl (.inl rfl)) (pgs_cons (pg_name (i := 5) scRange.nd rfl (.inl rfl)) pgs_nil))) (fun _ _ _ _ _ => (pts_one (pt_cmpR op_eq (pe_slice sl_str (pe_ix (r := rIxT K) ix_tup (pv 0) (pe_ix (r := rIxT K) ix_tup (pv 5) pe_int (fun _ _ => rfl)) (fun _ _ => rfl)) (po_some (pe_ix (r := rIxT K) ix_tup (pv 5) pe_int (fun _ _ => rfl))) (po_some (pe_op op_add (pe_ix (r := rIxT K) ix_tup (pv 5) pe_int (fun _ _ => rfl)) (pe_callB call_lenZ (by rfl) T.len PySem.boot_len (pa_cons (pv 2) pa_nil))))) (pv 2) (nomark _)))) (fun _ _ _ _ _ => (pv 4)))
      (pss_one (ps_ret (pe_tup (pa_cons (pe_ix ix_list (pv 3) pe_int (fun _ _ => rfl)) (pa_cons (pe_op op_add (pe_ix ix_list (pv 3) (pe_un un_neg pe_int) (fun _ _ => rfl)) pe_int) pa_nil)))))), ?_⟩
    obtain ⟨a, b, ts, w, rfl, ha, ⟨us, hb, hus⟩, ⟨r, run⟩, lw, q⟩ := h
    have lo := hus.len
    refine ⟨.ref b, rfl, b, us, rfl, sq_of hb, fun G nG => wk walk_enum (fun i H' => Same H H' ∧ H' G = some (.lst ((btw r i).map fun k => V.int (k : Nat)))) ⟨Same.new nG, by rw [upd_same, btw_0]; rfl⟩ (fun i H' _ g => sq_of (g.1 _ _ hb)) ?_ ?_⟩
    · rintro i x H1 H2 hi ⟨k1, hG⟩ ⟨T, x1, x2, rfl, nT, rfl, e1, e2⟩
      cases e1
      obtain ⟨p, ep, c, rfl, hc⟩ := hus.at e2
      have ip := ord_mem.mp (List.mem_of_getElem? ep)
      have kT := Same.new (H := H1) (o := .tup [.int (i : Nat), .ref c]) nT
      have hT : upd H1 T (.tup [.int (i : Nat), .ref c]) T = some (.tup [.int (i : Nat), .ref c]) := upd_same
      have hG2 := kT _ _ hG
      have k2 := k1.trans kT
      clear hG k1
      revert hT hG2 k2 kT
      generalize upd H1 T (.tup [.int (i : Nat), .ref c]) = H2
      intro kT hT hG2 k2
      clear kT
      have hc2 := k2 _ _ hc
      have hi : i < (ord ts).length := (List.getElem?_eq_some_iff.mp ep).1
      have et : decide (cod w <+: cod (sfx ts p)) = decide (r.1 ≤ i ∧ i < r.2) := by
        refine decide_eq_decide.mpr ?_
        rw [← run.of i hi]
        unfold sOf
        rw [List.getD_eq_getElem?_getD, ep]
        rfl
      refine ⟨T, _, rfl, SqT.of hT, rfl, _, _, rfl, _, _, rfl, rfl, rfl, .ref a, rfl, .ref c, rfl, c, _, 0, _, rfl, rfl, SqT.of hc2, rfl, a, _, _, _, rfl, rfl, SqT.of (k2 _ _ ha.at_), atI_nat (tx_at ip.text), .ref c, rfl, c, _, 1, _, rfl, rfl, SqT.of hc2, rfl, _, rfl, .ref c, rfl, c, _, 1, _, rfl, rfl, SqT.of hc2, rfl, .str w, rfl, _, rfl, len5 (by omega), _, _, rfl, rfl, _, rfl, _, rfl, len5 (Nat.le_trans (tx_len ha.len _) (by decide)), .str w, rfl, rfl, ?_⟩
      rw [dec_str, cut_word, et]
      refine ⟨_, rfl, ?_⟩
      refine ite2 (fun e => ?_) (fun e => ?_)
      · have e := of_decide_eq_true e
        refine ⟨_, rfl, _, hG2, ?_, sameAt k2 nG, ?_⟩
        · rw [List.length_map]
          unfold btw
          rw [List.length_map, List.length_range, sizeLine_eq]
          have := ord_few ha.few ha.len
          omega
        · rw [upd_same, btw_in e, List.map_append]
          rfl
      · rw [btw_out fun z => e (decide_eq_true z)]
        exact ⟨k2, hG2⟩
    · rintro H2 ⟨k2, hG⟩
      rw [lo] at hG
      obtain ⟨l1, l2, l3⟩ := btw_end run.lo run.hi
      have h1 := run.lo
      refine ⟨.ref G, rfl, G, _, 0, _, rfl, rfl, sq_of hG, l2, .ref G, rfl, _, rfl, G, _, -1, _, rfl, rfl, sq_of hG, l3, _, _, rfl, rfl, by show 2 ≤ sizeLine; decide, fun t nt => ?_⟩
      refine q r _ _ (k2.trans (Same.new nt)) ⟨t, rfl, ?_⟩ run
      rw [upd_same]
      have e : ((r.2 - 1 : Nat) : Int) + 1 = (r.2 : Nat) := by omega
      show some (HO.tup [V.int (r.1 : Nat), V.int (((r.2 - 1 : Nat) : Int) + 1)]) = _
      rw [e]
end
end LawK
set_option maxHeartbeats 4000000
namespace Ev
open PySem PySem.Spec PyProof.Rows L2
/-! list(d.keys()) -/
def tListKeys (te : TE) : TE := fun σ H Q => te σ H fun x H1 => ∃ (d : Addr) (kvs : List (Key × V)), x = .ref d ∧ H1 d = some (.dK kvs) ∧ ∀ q, H1 q = none → Q (.ref q) (upd H1 q (.lst (kvs.map fun kv => kV kv.1)))
section
variable {X : Cx} {e : Expr} {te : TE} {p apos cpos pos : Pos}
theorem pe_listKeys (hc : X.calm = true) (he : PE X e te) (hg : Gl X "list") (hm : X.mg "list" = none) (hbase : attributeBase e "keys" X.env (eval e X.env) = eval e X.env := by rfl) (hline : (apos.endLine == cpos.line) = true := by rfl)
    (hs : starEach [.Call (.Attribute e "keys" apos) [] [] cpos] X.env = (false, eval (.Call (.Attribute e "keys" apos) [] [] cpos) X.env) :: starEach [] X.env := by rfl) : PE X (.Call (.Name "list" p) [.Call (.Attribute e "keys" apos) [] [] cpos] [] pos) (tListKeys te) := by
  refine ⟨fun pins s σ H Q I hq => wpAny_Call_Name_kw (ld_blt I hg hm boot_list (PyProof.Rows.callWith_type1 ?_ hs rfl))⟩
  rw [hs]; refine Calls.spliced_cons ?_
  refine wpAny_Call_method (T := "dict") (id := "dict.keys") hbase rfl hline F.plainAttrs_dict F.slot_dict_keys F.type_dict_keys (thn (he.run pins s σ H _ I hq) fun u s1 ⟨x, H1, I1, rx, d, kvs, ex, hd, q⟩ => ?_)
  subst ex
  obtain rfl : u = Value.ref d := rx
  obtain ⟨hz, lo, vs, kv, hdo⟩ := I1.hok d _ hd
  obtain ⟨ep, hat⟩ := hdo.dictAt
  have lk : kvs.length = vs.length := Paired.length kv
  have I2 : Inv X pins σ H1 { s1 with heap := s1.heap.push { cls := .type "dict_keys", data := .fields #[.ref d] } } := I1.kept (t' := s1.toks) fun b ob w => Heap.get?_push_of_some _ w
  refine ⟨hdo.typeIs, hdo.mapOf.noDict, ?_⟩
  show wpAny _ _ (callWith cpos (.builtin "dict.keys") [.ref d] [] []) _ X.xe s1
  refine method_meetsIn F.slot_dict_keys F.entry_dict_keys rfl (PySem.evalArgs_none ⟨rfl, hdo.typeIs, F.args_dict_keys_1 _, _, PySem.W.kdl_meets_keys (mixKind X.prog X.w) d lo, ⟨⟨vs, hdo⟩, Calls.spliced_nil ?_⟩⟩)
  refine PySem.W.kdl_call (PySem.W.kdl_keys (knd := mixKind X.prog X.w) (kvs := vs) (ep := ep)) (I1.ok.hd hc) ⟨⟨_, Heap.get?_push_size _ rfl, rfl, rfl⟩, hat.push _⟩ (by omega) fun h' tk acc c' hk hS hacc => ?_
  have ek : (kvs.map fun kv => kV kv.1) = (vs.map (·.1)).map kV := by rw [← KV.keys kv, List.map_map] <;> rfl
  have la : acc.toList.length = vs.length := by rw [Array.length_toList] <;> exact hacc.1
  have rel : Vals (kvs.map fun kv => kV kv.1) acc.toList := by
    rw [ek]
    refine vals_of_at (by rw [List.length_map, List.length_map, la]) fun j x u h1 h2 => ?_
    obtain ⟨k, y, hky, hi⟩ := hacc.2 j u (by rw [← Array.getElem?_toList] <;> exact h2)
    rw [List.getElem?_map, List.getElem?_map, hky] at h1
    cases h1; exact keyIs_rel hi
  exact ⟨.ref _, upd H1 _ (.lst (kvs.map fun kv => kV kv.1)), I2.laid hk (Nat.le_refl _) ⟨by rw [List.length_map] <;> exact hz, acc.toList, c', rel, by rw [Array.toArray_toList] <;> exact hS⟩, rfl, q _ (I2.hok.fresh (Nat.le_refl _))⟩
end
end Ev
set_option maxHeartbeats 4000000
namespace Ev
open PySem PySem.Spec PyProof.Rows L2
/-! sorted(d), d a dict whose keys are texts -/
def keyZ : Key → Str
  | .inr z => z
  | .inl _ => ""
section
variable {X : Cx}
def rSortedK : List V → Hp → VK → Prop := fun vs H Q => ∃ (d : Addr) (kvs : List (Key × V)), vs = [V.ref d] ∧ H d = some (.dK kvs) ∧ (∀ kv ∈ kvs, ∃ z, kv.1 = Sum.inr z) ∧
  ∀ (zs : List Str) (p : Addr), zs.Perm (kvs.map fun kv => keyZ kv.1) → zs.Pairwise (fun x y => ¬ ltC y x) → H p = none → Q (.ref p) (upd H p (.lst (zs.map V.str)))
theorem cr_sortedK (hc : X.calm = true) : CallR X (.builtin "sorted") rSortedK := fun pins s σ H vs us Q I r h => by
  obtain ⟨d, kvs, rfl, hd, hk, q⟩ := h
  rw [Vals.ref1 r]
  obtain ⟨hz, lo, ws, kv, hdo⟩ := I.hok d _ hd
  obtain ⟨ep, hat⟩ := hdo.dictAt
  have lk : kvs.length = ws.length := Paired.length kv
  have ek : (kvs.map fun kv => kv.1) = (ws.map (·.1)) := KV.keys kv
  refine Calls.call_function_entry kind_sorted plain_sorted entry_sorted (args_sorted1 _) ?_; unfold Builtin.«sorted»
  refine wpAny_bind (m := checkCount "sorted" 1 1 _) (wpAny_pure (wpAny_bind (PySem.W.kdu_collect (A := X.A.in1) (PySem.W.kdl_dict (knd := mixKind X.prog X.w) (kvs := ws) (ep := ep) lo) (I.ok.hd hc) hat (by omega) fun h' tk acc k1 hacc => ?_)))
  have la : acc.toList.length = ws.length := by rw [Array.length_toList]; exact hacc.1
  have small : acc.toList.length ≤ sizeLine := by omega
  have mem : ∀ j v, acc.toList[j]? = some v → ∃ z t, v = Value.str z t ∧ (kvs.map fun kv => keyZ kv.1)[j]? = some z := fun j v hv => by
    obtain ⟨k, y, hky, hi⟩ := hacc.2 j v (by rw [← Array.getElem?_toList]; exact hv)
    have e1 : (ws.map (·.1))[j]? = some k := by rw [List.getElem?_map, hky]; rfl
    rw [← ek, List.getElem?_map] at e1
    cases hj : kvs[j]? with
    | none => rw [hj] at e1; cases e1
    | some x =>
      rw [hj] at e1
      have e2 : x.1 = k := Option.some.inj e1
      obtain ⟨z, hz2⟩ := hk x (List.mem_of_getElem? hj)
      subst e2
      rw [hz2] at hi
      rcases keyIs_shape (show keyIs (.inr z) v = true from hi) with ⟨i, t, e1, e2⟩ | ⟨x2, t, e1, e2⟩
      · cases e1
      · cases e1
        refine ⟨z, t, e2, ?_⟩
        rw [List.getElem?_map, hj]
        show some (keyZ x.1) = some z
        rw [hz2]
        rfl
  have isS : ∀ v ∈ acc.toList, ∃ x t, v = Value.str x t := fun v hv => by
    obtain ⟨j, hj⟩ := List.mem_iff_getElem?.mp hv
    obtain ⟨z, t, e, _⟩ := mem j v hj
    exact ⟨z, t, e⟩
  have es : acc.toList.map strOf = kvs.map fun kv => keyZ kv.1 := by
    refine List.ext_getElem? fun j => ?_
    rw [List.getElem?_map]
    cases hj : acc.toList[j]? with
    | some v =>
      obtain ⟨z, t, e, h2⟩ := mem j v hj
      rw [h2, e]
      rfl
    | none =>
      rw [List.getElem?_eq_none_iff] at hj
      rw [List.getElem?_eq_none (by rw [List.length_map]; omega)]
      rfl
  refine wpAny_bind (wpAny_newList ?_ small)
  have hoL : (h'.push (seqObj "list" acc.toList.toArray 0)).get? h'.objs.size = some (seqObj "list" acc.toList.toArray 0) := Heap.get?_push_size _ rfl
  refine wpAny_bind (wpAny_holding (wpAny_call_entry slot_list_sort ⟨_, hoL, rfl⟩ entry_list_sort (SrtO.list_sort_ord swo_str hoL small (fun h2 => strs_sortable isS h2) fun out h1 h2 => ⟨_, rfl, ?_⟩) (args_list_sort _)))
  obtain ⟨c, hc2⟩ := sortedHeap_at (vs := acc.toList) (out := out.toArray) hoL
  have hn : H h'.objs.size = none := (I.hok.kept k1).fresh (Nat.le_refl _)
  have hg : s.heap.get? h'.objs.size = none := by
    cases e : s.heap.get? h'.objs.size with
    | none => rfl
    | some o => exact absurd (Heap.lt_size (k1 _ o e)) (Nat.lt_irrefl _)
  have kk : ∀ b u, s.heap.get? b = some u → (sortedHeap (h'.push (seqObj "list" acc.toList.toArray 0)) h'.objs.size acc.toList out.toArray).get? b = some u := fun b u e => by
    have e1 := k1 b u e
    have lt := Heap.lt_size e1
    rw [sortedHeap_old (Nat.ne_of_lt lt) (by rw [size_push']; exact Nat.lt_succ_of_lt lt)]
    exact Heap.get?_push_of_some _ e1
  have hO : ∀ v ∈ out, ∃ x t, v = Value.str x t := fun v hv => isS v (h2.perm.mem_iff.mp hv)
  have lo2 : ((out.map strOf).map V.str).length ≤ sizeLine := by rw [List.length_map, List.length_map, h2.perm.length_eq]; exact small
  refine wpAny_pure ⟨_, rfl, ⟨.ref h'.objs.size, upd H h'.objs.size (.lst ((out.map strOf).map V.str)), I.laidN (t' := tk) kk hg hn ⟨lo2, out, c, vals_strs hO, hc2⟩, rfl, q _ _ ?_ ?_ hn⟩⟩
  · rw [← es]; exact h2.perm.map strOf
  · exact List.pairwise_map.mpr (h1.imp fun {x y} h => of_decide_eq_false h)
end
end Ev
set_option maxHeartbeats 4000000
namespace LawK
open PySem PySem.Spec PyProof.Rows L2 Ev

/-- the unlike pieces that fit, in order -/
def spBegun : Sp := fun vs H Q _ => ∃ (a b : Addr) (ts : List Str) (us : List V) (ps : List Prt), vs = [.ref a, .ref b] ∧ TsAt H a ts ∧ H b = some (.tup us) ∧ PatV H us ps ∧ 1 ≤ ps.length ∧ ps.length ≤ 30 ∧
  ∀ (zs : List Str) D H', Same H H' → H D = none → H' D = some (.lst (zs.map V.str)) → Bgn ts ps (zs.map cod) → zs.length ≤ 1600 → (∀ z ∈ zs, z.length ≤ 30) → Q (.ref D) H'
def lb (ps : List Prt) (w : LN) : List Bool := List.zipWith lets ps w
theorem lb_all : ∀ {ps : List Prt} {w : LN}, w.length = ps.length → (lb ps w).all id = fit ps w
  | [], [], _ => rfl
  | p :: ps, c :: w, h => by
    show (lets p c && (lb ps w).all id) = (lets p c && fit ps w)
    rw [lb_all (by simpa using h)]
  | [], c :: w, h => by simp at h
  | p :: ps, [], h => by simp at h
theorem lb_len {ps : List Prt} {w : LN} (h : w.length = ps.length) : (lb ps w).length = ps.length := by
  unfold lb
  rw [List.length_zipWith]
  omega
theorem lb_at {ps : List Prt} {w : LN} {i : Nat} {p : Prt} {c : Nat} (h1 : ps[i]? = some p) (h2 : w[i]? = some c) : (lb ps w)[i]? = some (lets p c) := by
  unfold lb
  rw [List.getElem?_zipWith, h1, h2]
theorem fnd_next {ts : List Str} {ps : List Prt} {n j : Nat} {w : LN} : Fnd ts ps n (j + 1) w ↔ Fnd ts ps n j w ∨ (fit ps w = true ∧ n < ts.length ∧ j + ps.length ≤ (tx ts n).length ∧ w = ((cod (tx ts n)).drop j).take ps.length) := by
  constructor
  · rintro ⟨hf, k, a, hk, h1, h2, e⟩
    rcases hk with hk | ⟨rfl, hk⟩
    · exact .inl ⟨hf, k, a, .inl hk, h1, h2, e⟩
    · rcases Nat.lt_or_ge a j with g | g
      · exact .inl ⟨hf, k, a, .inr ⟨rfl, g⟩, h1, h2, e⟩
      · have : a = j := by omega
        subst this
        exact .inr ⟨hf, h1, h2, e⟩
  · rintro (⟨hf, k, a, hk, h⟩ | ⟨hf, h1, h2, e⟩)
    · exact ⟨hf, k, a, hk.imp id fun ⟨x, y⟩ => ⟨x, by omega⟩, h⟩
    · exact ⟨hf, n, j, .inr ⟨rfl, Nat.lt_succ_self _⟩, h1, h2, e⟩
theorem fnd_row {ts : List Str} {ps : List Prt} {n j : Nat} {w : LN} (h : (tx ts n).length < j + ps.length) : Fnd ts ps (n + 1) 0 w ↔ Fnd ts ps n j w := by
  constructor
  · rintro ⟨hf, k, a, hk, h1, h2, e⟩
    refine ⟨hf, k, a, ?_, h1, h2, e⟩
    rcases hk with hk | ⟨_, hk⟩
    · rcases Nat.lt_or_ge k n with g | g
      · exact .inl g
      · have : k = n := by omega
        subst this
        exact .inr ⟨rfl, by omega⟩
    · exact absurd hk (Nat.not_lt_zero _)
  · rintro ⟨hf, k, a, hk, h1, h2, e⟩
    exact ⟨hf, k, a, .inl (by rcases hk with hk | ⟨rfl, hk⟩ <;> omega), h1, h2, e⟩
/-- a dict of words -/
def wd (zs : List Str) : List (Key × V) := zs.map fun z => (.inr z, .bl true)
theorem wd_put (zs : List Str) (z : Str) : putK (wd zs) (.inr z) (.bl true) = if z ∈ zs then wd zs else wd (zs ++ [z]) := by
  have e : ((wd zs).any fun kv => decide (kv.1 = (.inr z : Key))) = decide (z ∈ zs) := by
    unfold wd
    rw [List.any_map, Bool.eq_iff_iff, List.any_eq_true, decide_eq_true_iff]
    constructor
    · rintro ⟨x, hx, h⟩
      have : x = z := Sum.inr.inj (of_decide_eq_true h)
      rw [← this]; exact hx
    · intro h
      exact ⟨z, h, decide_eq_true rfl⟩
  unfold putK
  rw [e]
  by_cases h : z ∈ zs
  · rw [if_pos (decide_eq_true h), if_pos h]
    refine (List.map_congr_left fun kv hk => ?_).trans (List.map_id _)
    obtain ⟨x, _, rfl⟩ := List.mem_map.mp hk
    split <;> rfl
  · rw [if_neg fun z => h (of_decide_eq_true z), if_neg h]
    unfold wd
    rw [List.map_append]
    rfl
theorem piece_cod {z : Str} {a m : Nat} : cod (cutS z (some (a : Nat)) (some (((a : Nat) : Int) + (m : Nat)))) = ((cod z).drop a).take m := by
  have h := cutS_of (z := z) (i := (a : Nat)) (j := ((a : Nat) : Int) + (m : Nat)) (by omega) (by omega)
  rw [show ((a : Nat) : Int).toNat = a by omega, show (((a : Nat) : Int) + (m : Nat) - ((a : Nat) : Int)).toNat = m by omega] at h
  exact h
section
variable {P : Program} {w : World} {K : PySem.W.Frag} {mg : Str → Option Value} {base : Heap}
abbrev sBegun : Stmt := topS 38
theorem scBegun : FnScope ["texts", "pattern", "found", "text", "at", "piece", "part", "sign"] ["texts", "pattern"] (defScope sBegun) := ⟨rfl, rfl, rfl, by decide +kernel, rfl, by decide +kernel, by decide +kernel⟩
theorem ok_Begun {f : Addr} {fd : FuncData} (F : Fun K "_law_begun" "_law_begun" sBegun f fd)  {fLets : Addr} {fdLets : FuncData} (DLets : Dk P w K mg base "_law_lets" sLets ["part", "sign"] 1 spMay fLets fdLets) (T : Glob mg) : FnOk P w K mg base CX0 2 f fd ["texts", "pattern"] spBegun := by
  refine F.ok scBegun (fun vs H Q E h => ?_) (fun cdv A outer s H vs Q E hr h => ?_)
  · obtain ⟨a, b, ts, us, ps, rfl, _⟩ := h
    rfl
  · refine ⟨_, (pss_cons (ps_set (i := 2) scBegun.nd rfl (.inl rfl) pe_dnewK)
      (pss_cons (ps_for PassesOwn.never rfl (pi_tup (pv 0)) (pg_name (i := 3) scBegun.nd rfl (.inl rfl))
      (pss_one (ps_for PassesOwn.never rfl (pi_range1 (by rfl) T.range (pa_cons (pe_op op_add (pe_op op_sub (pe_callB call_lenZ (by rfl) T.len PySem.boot_len (pa_cons (pv 3) pa_nil)) (pe_callB call_len_seq (by rfl) T.len PySem.boot_len (pa_cons (pv 1) pa_nil))) pe_int) pa_nil)) (pg_name (i := 4) scBegun.nd rfl (.inl rfl))
        (pss_cons (ps_set (i := 5) scBegun.nd rfl (.inl rfl) (pe_slice sl_str (pv 3) (po_some (pv 4)) (po_some (pe_op op_add (pv 4) (pe_callB call_len_seq (by rfl) T.len PySem.boot_len (pa_cons (pv 1) pa_nil))))))
          (pss_one (ps_if (pt_val (pe_callB (cr_all rfl) (by rfl) T.all (by decide +kernel) (pa_cons (pe_lc (own := [("part", 6), ("sign", 7)]) (g := (gTup K 2 (gCons (gName 6) (gCons (gName 7) gNil)))) (by rfl) scBegun.nd (pi_zipS (by rfl) T.zip (pa_cons (pv 1) (pa_cons (pv 5) pa_nil))) (blkOk_by (N := ["texts", "pattern", "found", "text", "at", "piece", "part", "sign"]) (sc := defScope sBegun) (by decide +kernel)) (fun _ _ _ _ _ => pg_tup (by rfl) (pgs_cons (pg_name (i := 6) scBegun.nd rfl (.inl rfl)) (pgs_cons (pg_name (i := 7) scBegun.nd rfl (.inl rfl)) pgs_nil))) (fun _ _ _ _ _ => pts_nil) (fun _ _ _ _ _ => (pe_call DLets.ok (hr.mono (by decide)) (by rfl) DLets.g DLets.F.kp DLets.b .nil pass0 (pa_cons (pv 6) (pa_cons (pv 7) pa_nil))))) pa_nil)))
          (pss_one (ps_asg pe_bl (pg_sub (pv 2) (pv 5) (set_dict (Nat.lt_of_le_of_lt (Nat.add_le_add_left (by decide) _) hr.units)))))
          pss_nil))))))
      (pss_one (ps_ret (pe_callB (cr_sortedK rfl) (by rfl) T.sorted (by decide +kernel) (pa_cons (pv 2) pa_nil)))))), ?_⟩
    obtain ⟨a, b, ts, us, ps, rfl, ha, hb, hv, l1, l30, q⟩ := h
    have lv := hv.len
    intro d nd
    refine ⟨.ref a, rfl, a, rfl, ⟨_, SqT.of ((Same.new nd) _ _ ha.at_)⟩, for_tup (xs := ts.map V.str) (fun n σ H' => ∃ (u3 u4 u5 : Option V) (zs : List Str), σ = [some (.ref a), some (.ref b), some (.ref d), u3, u4, u5, none, none] ∧ Same H H' ∧ H' d = some (.dK (wd zs)) ∧ zs.Nodup ∧ zs.length ≤ 200 * n ∧ ∀ z, z ∈ zs ↔ Fnd ts ps n 0 (cod z)) ⟨none, none, none, [], rfl, Same.new nd, upd_same, List.nodup_nil, Nat.zero_le _, fun z => ⟨fun m => absurd m List.not_mem_nil, fun ⟨_, k, x, hk, _⟩ => absurd hk (by omega)⟩⟩ (fun i σ H' _ g => by obtain ⟨_, _, _, _, _, k, _⟩ := g; exact SqT.of (k _ _ ha.at_)) ?_ ?_⟩
    · rintro n u σ H1 hu ⟨u3, u4, u5, zs, rfl, k1, hd, nz, lz, mz⟩
      have hn : n < ts.length := by
        have := (List.getElem?_eq_some_iff.mp hu).1
        rw [List.length_map] at this
        exact this
      obtain rfl : V.str (tx ts n) = u := Option.some.inj ((tx_at hn).symm.trans hu)
      have ln1 : (tx ts n).length ≤ 200 := tx_len ha.len n
      have lu : us.length = ps.length := lv
      refine ⟨.str (tx ts n), rfl, _, rfl, len5 (by omega), .ref b, rfl, b, us, rfl, .inr (SqT.of (k1 _ _ hb)), _, _, rfl, rfl, _, _, rfl, rfl, _, rfl, by omega, by omega, for_range (fun j σ H' => ∃ (u4 u5 : Option V) (zs : List Str), σ = [some (.ref a), some (.ref b), some (.ref d), some (.str (tx ts n)), u4, u5, none, none] ∧ Same H H' ∧ H' d = some (.dK (wd zs)) ∧ zs.Nodup ∧ zs.length ≤ 200 * n + j ∧ ∀ z, z ∈ zs ↔ Fnd ts ps n j (cod z)) ⟨u4, u5, zs, rfl, k1, hd, nz, lz, mz⟩ ?_ ?_⟩
      · clear mz nz lz hd zs k1 u4 u5
        rintro j σ H1 hj ⟨u4, u5, zs, rfl, k1, hd, nz, lz, mz⟩
        have hj2 : j + ps.length ≤ (tx ts n).length := by omega
        have hb1 := k1 _ _ hb
        have ej : (0 + (j : Int)) = ((j : Nat) : Int) := by omega
        rw [ej]
        refine ⟨.str (tx ts n), rfl, _, rfl, _, rfl, _, rfl, .ref b, rfl, b, us, rfl, .inr (SqT.of hb1), _, _, rfl, rfl, _, rfl, _, rfl, len5 (by omega), ?_⟩
        rw [lu]
        have ep := piece_cod (z := tx ts n) (a := j) (m := ps.length)
        revert ep
        generalize cutS (tx ts n) (some (j : Nat)) (some (((j : Nat) : Int) + (ps.length : Nat))) = pz
        intro ep
        have lp : pz.length = ps.length := by
          rw [len_S]
          show (cod pz).length = _
          rw [ep, List.length_take, List.length_drop]
          have : (cod (tx ts n)).length = (tx ts n).length := (len_S _).symm
          omega
        refine ⟨.ref b, rfl, .str pz, rfl, .tup b, .txt pz, us, _, rfl, SqT.of hb1, rfl, fun G nG => wk (walk_zipS (n := ps.length) ?_) (fun i H' => Same H1 H' ∧ H' G = some (.lst (((lb ps (cod pz)).take i).map V.bl))) ⟨Same.new nG, upd_same⟩ (fun i H' _ g => ⟨SqT.of (g.1 _ _ hb1), rfl⟩) ?_ ?_⟩
        · rw [List.length_map, lu]
          have : pz.cps.toList.length = pz.length := (len_S _).symm
          omega
        · rintro i x H2 H3 hi ⟨k2, hG⟩ ⟨T, x1, x2, rfl, nT, rfl, e1, e2⟩
          have e1 : us[i]? = some x1 := e1
          have e2 : (pz.cps.toList.map fun c => V.str (sn c))[i]? = some x2 := e2
          obtain ⟨p, hp, hup, ok⟩ := hv.get e1
          rw [List.getElem?_map] at e2
          cases hc : pz.cps.toList[i]? with
          | none => rw [hc] at e2; cases e2
          | some c =>
            rw [hc] at e2
            obtain rfl : V.str (sn c) = x2 := Option.some.inj e2
            have kT := Same.new (H := H2) (o := .tup [x1, .str (sn c)]) nT
            have hT : upd H2 T (.tup [x1, .str (sn c)]) T = some (.tup [x1, .str (sn c)]) := upd_same
            have hG2 := kT _ _ hG
            have k3 := k2.trans kT
            have hup3 := hup.same (k1.trans k3)
            have el := lb_at hp (show (cod pz)[i]? = some c from hc)
            refine ⟨T, _, rfl, SqT.of hT, rfl, _, _, rfl, _, _, rfl, rfl, rfl, x1, rfl, _, rfl, x1, p, c, rfl, hup3, _, hG2, ?_, sameAt k3 nG, ?_⟩
            · rw [List.length_map, List.length_take, lb_len (by rw [← lp]; exact (len_S _).symm), sizeLine_eq]
              omega
            · rw [upd_same, take_snoc el, List.map_append]
              rfl
        · rintro H2 ⟨k2, hG⟩
          have lc : (cod pz).length = ps.length := by rw [← lp]; exact (len_S _).symm
          rw [List.take_of_length_le (by rw [lb_len lc]; exact Nat.le_refl _)] at hG
          refine ⟨G, lb ps (cod pz), rfl, sq_of hG, _, rfl, ?_⟩
          rw [lb_all lc]
          have hd2 := k2 _ _ hd
          have kH := k1.trans k2
          refine ite2 (fun e => ?_) (fun e => ?_)
          · have few := ha.few
            have lz2 : zs.length < 2000 := by omega
            have nw : Fnd ts ps n (j + 1) (cod pz) := fnd_next.mpr (.inr ⟨e, hn, hj2, ep⟩)
            refine ⟨.ref d, rfl, .str pz, rfl, d, _, rfl, .inl ⟨wd zs, .inr pz, hd2, rfl, ?_, rfl⟩, ?_⟩
            · unfold wd
              rw [List.length_map, sizeLine_eq]
              omega
            · rw [wd_put]
              by_cases hz : pz ∈ zs
              · rw [if_pos hz]
                refine ⟨_, _, zs, rfl, sameAt kH nd, upd_same, nz, by omega, fun z => (mz z).trans (fnd_next.trans ⟨fun h => ?_, .inl⟩).symm⟩
                rcases h with h | ⟨_, _, _, h⟩
                · exact h
                · rw [← ep] at h
                  rw [cod_inj h]
                  exact (mz pz).mp hz
              · rw [if_neg hz]
                refine ⟨_, _, zs ++ [pz], rfl, sameAt kH nd, upd_same, ?_, ?_, fun z => ?_⟩
                · exact List.nodup_append.mpr ⟨nz, List.pairwise_singleton _ _, fun x hx y hy => by rw [List.mem_singleton.mp hy]; exact fun e => hz (e ▸ hx)⟩
                · rw [List.length_append, List.length_singleton]
                  omega
                · rw [List.mem_append, List.mem_singleton, mz z, fnd_next]
                  refine or_congr Iff.rfl ⟨fun h => by rw [h]; exact ⟨e, hn, hj2, ep⟩, fun ⟨_, _, _, h⟩ => cod_inj (h.trans ep.symm)⟩
          · refine ⟨_, _, zs, rfl, kH, hd2, nz, by omega, fun z => (mz z).trans (fnd_next.trans ⟨fun h => ?_, .inl⟩).symm⟩
            rcases h with h | ⟨h1, _, _, h⟩
            · exact h
            · rw [← ep] at h
              rw [h] at h1
              exact absurd h1 e
      · rintro σ H1 ⟨u4, u5, zs, rfl, k1, hd, nz, lz, mz⟩
        refine ⟨_, _, _, zs, rfl, k1, hd, nz, ?_, fun z => (mz z).trans (fnd_row ?_).symm⟩
        · omega
        · omega
    · rintro σ H1 ⟨u3, u4, u5, zs, rfl, k1, hd, nz, lz, mz⟩
      rw [List.length_map] at lz mz
      refine ⟨.ref d, rfl, d, wd zs, rfl, hd, fun kv hk => ?_, fun ws p pm pw np => ?_⟩
      · obtain ⟨z, _, rfl⟩ := List.mem_map.mp hk
        exact ⟨z, rfl⟩
      · have ez : ((wd zs).map fun kv => keyZ kv.1) = zs := by
          unfold wd
          rw [List.map_map]
          exact List.map_id _
        rw [ez] at pm
        have few := ha.few
        refine q ws p _ (k1.trans (Same.new np)) (k1.free np) upd_same (fnd_bgn l1 ?_ fun w => ?_) (by rw [pm.length_eq]; omega) fun z hz => ?_
        · exact (pm.nodup_iff.mpr nz |> fun h => List.pairwise_map.mpr (h.imp fun {x y} ne e => ne (cod_inj e)))
        · constructor
          · intro hw
            obtain ⟨z, hz, rfl⟩ := List.mem_map.mp hw
            exact (mz z).mp (pm.mem_iff.mp hz)
          · intro hw
            have hz : (⟨w.toArray⟩ : Str) ∈ zs := (mz _).mpr hw
            exact List.mem_map.mpr ⟨_, pm.mem_iff.mpr hz, rfl⟩
        · obtain ⟨hf, _⟩ := (mz z).mp (pm.mem_iff.mp hz)
          have := fit_len hf
          have e : (cod z).length = z.length := (len_S _).symm
          omega
end
end LawK
set_option maxHeartbeats 4000000
namespace LawK
open PySem PySem.Spec PyProof.Rows L2 Ev

def spTexts : Sp := fun vs H Q _ => ∃ (p : Addr) (m : Int), vs = [.ref p, .int m] ∧ 0 ≤ m ∧ m ≤ 200 ∧ ∃ l, HandL H p l ∧
  ∀ a (ts : List Str) H', H' a = some (.tup (ts.map V.str)) → ts.length ≤ 8 → (∀ t ∈ ts, sgB t = true) → (∀ t ∈ ts, (t.length : Int) ≤ m) → HandL H' p l → But p l H H' → Q (.ref a) H'
theorem one_sum (cs : List Nat) : ((cs.map fun c => SX.S [c]).map (·.length)).sum = cs.length := by
  induction cs with
  | nil => rfl
  | cons c cs ih =>
    simp only [List.map_cons, List.sum_cons, List.length_cons, ih]
    have : (SX.S [c]).length = 1 := rfl
    omega
abbrev lits : List V := [.str "ab", .str "ab", .str "abc", .str "a", .str "ab~ ", .str "xyz?[{\\"]
theorem lits_at {v : Int} (h0 : 0 ≤ v) (h1 : v < 6) : ∃ z : Str, sgB z = true ∧ 0 < z.length ∧ z.length ≤ 100 ∧ atI lits v = some (.str z) := by
  have e : v = 0 ∨ v = 1 ∨ v = 2 ∨ v = 3 ∨ v = 4 ∨ v = 5 := by omega
  rcases e with rfl | rfl | rfl | rfl | rfl | rfl
  · exact ⟨"ab", by decide +kernel, by decide +kernel, by decide +kernel, rfl⟩
  · exact ⟨"ab", by decide +kernel, by decide +kernel, by decide +kernel, rfl⟩
  · exact ⟨"abc", by decide +kernel, by decide +kernel, by decide +kernel, rfl⟩
  · exact ⟨"a", by decide +kernel, by decide +kernel, by decide +kernel, rfl⟩
  · exact ⟨"ab~ ", by decide +kernel, by decide +kernel, by decide +kernel, rfl⟩
  · exact ⟨"xyz?[{\\", by decide +kernel, by decide +kernel, by decide +kernel, rfl⟩
section
variable {P : Program} {w : World} {K : PySem.W.Frag} {mg : Str → Option Value} {base : Heap}
abbrev sTexts : Stmt := topS 33
theorem scTexts : FnScope ["pool", "most", "signs", "found", "turn", "text", "kind", "at"] ["pool", "most"] (defScope sTexts) := ⟨rfl, rfl, rfl, by decide +kernel, rfl, by decide +kernel, by decide +kernel⟩
theorem ok_Texts {f : Addr} {fd : FuncData} (F : Fun K "_law_texts" "_law_texts" sTexts f fd)  {fDraw : Addr} {fdDraw : FuncData} (DDraw : Dk P w K mg base "_law_draw" sDraw ["pool", "many"] 1 spDraw fDraw fdDraw) (T : Glob mg) : FnOk P w K mg base CX0 2 f fd ["pool", "most"] spTexts := by
  refine F.ok scTexts (fun vs H Q E h => ?_) (fun cdv A outer s H vs Q E hr h => ?_)
  · obtain ⟨p, m, rfl, _⟩ := h
    rfl
  · refine ⟨_, (pss_cons (ps_set (i := 2) scTexts.nd rfl (.inr rfl) (pe_ix ix_list (pe_lst (pa_cons pe_str (pa_cons pe_str (pa_cons pe_str (pa_cons pe_str (pa_cons pe_str (pa_cons pe_str pa_nil))))))) (pe_call DDraw.ok (hr.mono (by decide)) (by rfl) DDraw.g DDraw.F.kp DDraw.b .nil pass0 (pa_cons (pv 0) (pa_cons pe_int pa_nil))) (fun _ _ => rfl)))
      (pss_cons (ps_set (i := 3) scTexts.nd rfl (.inl rfl) (pe_lst pa_nil))
      (pss_cons (ps_for PassesOwn.never rfl (pi_range1 (by rfl) T.range (pa_cons (pe_call DDraw.ok (hr.mono (by decide)) (by rfl) DDraw.g DDraw.F.kp DDraw.b .nil pass0 (pa_cons (pv 0) (pa_cons pe_int pa_nil))) pa_nil)) (pg_name (i := 4) scTexts.nd rfl (.inl rfl))
      (pss_cons (ps_set (i := 5) scTexts.nd rfl (.inl rfl) (pe_join pe_str (pe_lc (own := [("at", 7)]) (g := gName 7) (by rfl) scTexts.nd (pi_range1 (by rfl) T.range (pa_cons (pe_call DDraw.ok (hr.mono (by decide)) (by rfl) DDraw.g DDraw.F.kp DDraw.b .nil pass0 (pa_cons (pv 0) (pa_cons (pe_op op_add (pv 1) pe_int) pa_nil))) pa_nil)) (blkOk_by (N := ["pool", "most", "signs", "found", "turn", "text", "kind", "at"]) (sc := defScope sTexts) (by decide +kernel)) (fun _ _ _ _ _ => pg_name (i := 7) scTexts.nd rfl (.inl rfl)) (fun _ _ _ _ _ => pts_nil) (fun _ _ _ _ _ => (pe_ix ix_str (pv 2) (pe_call DDraw.ok (hr.mono (by decide)) (by rfl) DDraw.g DDraw.F.kp DDraw.b .nil pass0 (pa_cons (pv 0) (pa_cons (pe_callB call_lenZ (by rfl) T.len PySem.boot_len (pa_cons (pv 2) pa_nil)) pa_nil))) (fun _ _ => rfl))))))
        (pss_cons (ps_set (i := 6) scTexts.nd rfl (.inl rfl) (pe_call DDraw.ok (hr.mono (by decide)) (by rfl) DDraw.g DDraw.F.kp DDraw.b .nil pass0 (pa_cons (pv 0) (pa_cons pe_int pa_nil))))
        (pss_cons (ps_if (PW.pt (pw_and (pt_cmpR op_eq (pv 6) pe_int (nomark _)) (pw_and1 (pt_cmpR op_gt (pe_callB call_len_seq (by rfl) T.len PySem.boot_len (pa_cons (pv 3) pa_nil)) pe_int (nomark _)))))
        (pss_one (ps_set (i := 5) scTexts.nd rfl (.inl rfl) (pe_op op_add_str (pe_slice sl_str (pe_ix ix_list (pv 3) (pe_un un_neg pe_int) (fun _ _ => rfl)) po_none (po_some (pe_call DDraw.ok (hr.mono (by decide)) (by rfl) DDraw.g DDraw.F.kp DDraw.b .nil pass0 (pa_cons (pv 0) (pa_cons (pe_op op_add (pv 1) pe_int) pa_nil))))) (pe_slice sl_str (pv 5) po_none (po_some (pe_call DDraw.ok (hr.mono (by decide)) (by rfl) DDraw.g DDraw.F.kp DDraw.b .nil pass0 (pa_cons (pv 0) (pa_cons pe_int pa_nil))))))))
        pss_nil)
        (pss_cons (ps_if (pt_cmpR op_eq (pv 6) pe_int (nomark _))
        (pss_one (ps_set (i := 5) scTexts.nd rfl (.inl rfl) (pe_slice sl_str (pe_op op_mulS (pe_slice sl_str (pv 5) po_none (po_some (pe_op op_add pe_int (pe_call DDraw.ok (hr.mono (by decide)) (by rfl) DDraw.g DDraw.F.kp DDraw.b .nil pass0 (pa_cons (pv 0) (pa_cons pe_int pa_nil)))))) (pv 1)) po_none (po_some (pe_call DDraw.ok (hr.mono (by decide)) (by rfl) DDraw.g DDraw.F.kp DDraw.b .nil pass0 (pa_cons (pv 0) (pa_cons (pe_op op_add (pv 1) pe_int) pa_nil)))))))
        pss_nil)
        (pss_one (ps_expr (pe_bm PySem.F.plainAttrs_list PySem.F.slot_list_append PySem.F.type_list_append mt_append (pv 3) (pa_cons (pe_slice sl_str (pv 5) po_none (po_some (pv 1))) pa_nil)))))))))
      (pss_one (ps_ret (pe_callTy call_tuple_of (by rfl) T.tuple (by decide +kernel) (pa_cons (pv 3) pa_nil))))))), ?_⟩
    obtain ⟨p, m, rfl, m0, m1, lh, hH, q⟩ := h
    refine ⟨by show 6 ≤ sizeLine; decide, fun o no => ?_⟩
    have h1 := hH.same (Same.new (o := .lst lits) no)
    have b1 := But.same (p := p) (l := lh) (Same.new (H := H) (o := .lst lits) no)
    have hO : upd H o (.lst lits) o = some (.lst lits) := upd_same
    have nop := hH.ne no
    revert h1 b1 hO
    generalize upd H o (.lst lits) = H1
    intro h1 b1 hO
    refine ⟨.ref p, rfl, p, 6, rfl, by decide, by decide, lh, h1, fun v H2 v0 v1 h2 b2 => ?_⟩
    obtain ⟨z, sz, z0, z1, ez⟩ := lits_at v0 v1
    refine ⟨o, _, v, _, rfl, rfl, sq_of (b2 _ _ nop hO), ez, ?_⟩
    refine ⟨by show 0 ≤ sizeLine; decide, fun f nf => ?_⟩
    have nfp := h2.ne nf
    have b12 := b1.trans b2
    refine ⟨.ref p, rfl, p, 4, rfl, by decide, by decide, lh, h2.same (Same.new nf), fun n H3 n0 n1 h3 b3 => ?_⟩
    have hf3 : H3 f = some (.lst (([] : List Str).map V.str)) := b3 _ _ nfp upd_same
    have b3' : But p lh H2 H3 := (But.same (Same.new nf)).trans b3
    clear b3
    refine ⟨n, rfl, by omega, by omega, for_range (fun i σ H' => ∃ (u4 u5 u6 : Option V) (ts : List Str), σ = [some (.ref p), some (.int m), some (.str z), some (.ref f), u4, u5, u6, none] ∧ H' f = some (.lst (ts.map V.str)) ∧ ts.length = i ∧ (∀ t ∈ ts, sgB t = true ∧ (t.length : Int) ≤ m) ∧ Hn p lh H2 H') ⟨none, none, none, [], rfl, hf3, rfl, fun t ht => absurd ht List.not_mem_nil, h3, b3'⟩ ?_ ?_⟩
    · rintro i σ H4 hi ⟨u4, u5, u6, ts, rfl, hf, hl, ht, hn⟩
      have i8 : i < 4 := by omega
      refine ⟨⟨_, rfl⟩, .ref p, rfl, .int m, rfl, _, _, rfl, rfl, p, m + 1, rfl, by omega, by omega, lh, hn.at_, fun k H5 k0 k1 h5 b5 => ?_⟩
      have hf5 := b5 _ _ nfp hf
      have hn5 := hn.go h5 b5
      refine ⟨k, rfl, by omega, by omega, fun D nD => lc_range (fun j H' => ∃ cs : List Nat, H' D = some (.lst (cs.map fun c => V.str (SX.S [c]))) ∧ cs.length = j ∧ (∀ c ∈ cs, sgC c = true) ∧ Hn p lh H5 H') ⟨[], upd_same, rfl, fun c hc => absurd hc List.not_mem_nil, (Hn.refl h5).new nD⟩ ?_ ?_⟩
      · rintro j H6 hj ⟨cs, hD, hc, hs, hn6⟩
        have nDp := h5.ne nD
        refine ⟨rfl, .str z, rfl, .ref p, rfl, .str z, rfl, z, rfl, len6 z1, p, (z.length : Int), rfl, by omega, by omega, lh, hn6.at_, fun x H7 x0 x1 h7 b7 => ?_⟩
        obtain ⟨c, ec, sc⟩ := sg_at sz x0 x1
        refine ⟨z, x, c, rfl, rfl, len6 z1, ec, _, b7 _ _ nDp hD, ?_, cs ++ [c], ?_, ?_, ?_, (hn6.go h7 b7).at h5 nD⟩
        · rw [List.length_map, sizeLine_eq]
          omega
        · rw [upd_same, List.map_append]
          rfl
        · rw [List.length_append, hc]
          rfl
        · intro d hd
          rcases List.mem_append.mp hd with g | g
          · exact hs d g
          · rw [List.mem_singleton.mp g]
            exact sc
      · rintro H6 ⟨cs, hD, hc, hs, hn6⟩
        have e1 : (cs.map fun c => V.str (SX.S [c])) = (cs.map fun c => SX.S [c]).map V.str := by rw [List.map_map]; rfl
        have sj : sgB (SX.S cs) = true := by rw [sgB_S]; exact List.all_eq_true.mpr hs
        have lj : (SX.S cs).length = cs.length := rfl
        refine ⟨_, D, cs.map (fun c => SX.S [c]), rfl, rfl, .inl (sq_of (e1 ▸ hD)), ?_, ?_⟩
        · have := one_sum cs
          rw [List.length_map]
          have : (Str.ofString "").length = 0 := by decide +kernel
          rw [this]
          omega
        · rw [join1]
          have l4 : ((SX.S cs).length : Int) ≤ m := by omega
          have hf6 := hn6.but _ _ nfp hf5
          have hn7 := hn5.trans hn6
          clear hD hs e1 lj hc hf5 hf h5 b5 hn5 hn6 nD
          revert sj l4 hf6 hn7
          generalize SX.S cs = y
          intro sj l4 hf6 hn7
          refine ⟨.ref p, rfl, p, 5, rfl, by decide, by decide, lh, hn7.at_, fun kd H8 d0 d1 h8 b8 => ?_⟩
          have hf8 := b8 _ _ nfp hf6
          have hn8 := hn7.go h8 b8
          clear hf6 hn7
          have put : ∀ {H9 : Hp} {y : Str}, Hn p lh H2 H9 → H9 f = some (.lst (ts.map V.str)) → sgB y = true → (y.length : Int) ≤ m → Hn p lh H2 (upd H9 f (.lst (ts.map V.str ++ [V.str y]))) ∧ upd H9 f (.lst (ts.map V.str ++ [V.str y])) f = some (.lst ((ts ++ [y]).map V.str)) ∧ (ts ++ [y]).length = i + 1 ∧ ∀ t ∈ ts ++ [y], sgB t = true ∧ (t.length : Int) ≤ m := fun {H9 y} g1 g2 g3 g4 => by
            refine ⟨g1.at h2 nf, by rw [upd_same, List.map_append]; rfl, by rw [List.length_append, hl]; rfl, fun t hm => ?_⟩
            rcases List.mem_append.mp hm with e | e
            · exact ht t e
            · rw [List.mem_singleton.mp e]
              exact ⟨g3, g4⟩
          have lts : (ts.map V.str).length < sizeLine := by
            rw [List.length_map, hl, sizeLine_eq]
            omega
          dsimp only [tNext, tDrop, tSeq, gName]
          refine (?_ : ∀ Q : Bool → Hp → Prop, (∀ b, (b = true → kd = 0 ∧ 0 < i) → Q b H8) → tAnd _ _ _ H8 Q) _ ?_
          · intro Q0 kk
            refine ⟨.int kd, rfl, rfl, _, rfl, ite2 (fun e => ?_) (fun e => kk _ (fun w => Bool.noConfusion w))⟩
            rw [dec_int] at e
            refine ⟨.ref f, rfl, f, _, rfl, .inl (sq_of hf8), _, _, rfl, rfl, _, rfl, kk _ fun w => ⟨of_decide_eq_true e, ?_⟩⟩
            have w := of_decide_eq_true w
            rw [List.length_map, hl] at w
            omega
          · intro b hb
            cases b with
            | true =>
              obtain ⟨kd0, i0⟩ := hb rfl
              refine iteT ?_
              obtain ⟨ts0, t0, e0⟩ := snoc_of (show ts ≠ [] from fun z => by rw [z] at hl; simp at hl; omega)
              have t0m : t0 ∈ ts := by rw [e0]; exact List.mem_append_right _ (List.mem_singleton.mpr rfl)
              obtain ⟨st0, lt0⟩ := ht t0 t0m
              have ea : atI (ts.map V.str) (-1) = some (.str t0) := by
                rw [e0, List.map_append]
                exact atI_last _ _
              refine ⟨.ref f, rfl, _, rfl, f, _, -1, _, rfl, rfl, sq_of hf8, ea, .ref p, rfl, .int m, rfl, _, _, rfl, rfl, p, m + 1, rfl, by omega, by omega, lh, hn8.at_, fun x H9 x0 x1 h9 b9 => ⟨x, rfl, t0, rfl, len5 (by omega), .str y, rfl, .ref p, rfl, p, 4, rfl, by decide, by decide, lh, h9, fun u H10 y0 y1 h10 b10 => ?_⟩⟩
              have c1 := cut_hi (z := t0) (lo := none) (u := x) x0
              have c2 := cut_hi (z := y) (lo := none) (u := u) y0
              refine ⟨u, rfl, y, rfl, len5 (by omega), _, _, rfl, rfl, by rw [sizeLine_eq]; omega, ?_⟩
              have s1 := sgB_app (sgB_cut st0 none (some x)) (sgB_cut sj none (some u))
              have l1 := app_len (cutS t0 none (some x)) (cutS y none (some u))
              have hf10 := b10 _ _ nfp (b9 _ _ nfp hf8)
              have hn10 := (hn8.go h9 b9).go h10 b10
              revert s1 l1
              generalize cutS t0 none (some x) ++ cutS y none (some u) = yy
              intro s1 l1
              dsimp only [tNext, tDrop, tSeq, gName]
              refine ⟨.int kd, rfl, rfl, _, rfl, ite2 (fun e => ?_) (fun _ => ?_)⟩
              · rw [dec_int, kd0] at e
                exact absurd (of_decide_eq_true e) (by decide)
              · have c3 := cut_hi (z := yy) (lo := none) (u := m) m0
                obtain ⟨g1, g2, g3, g4⟩ := put hn10 hf10 (sgB_cut s1 none (some m)) c3
                exact ⟨.ref f, rfl, .inl ⟨rfl, _, sq_of hf10⟩, .str yy, rfl, .int m, rfl, m, rfl, yy, rfl, len5 (by omega), f, _, _, rfl, rfl, hf10, lts, _, _, _, _, rfl, g2, g3, g4, g1⟩
            | false =>
              refine iteF ?_
              dsimp only [tNext, tDrop, tSeq, gName]
              refine ⟨.int kd, rfl, rfl, _, rfl, ite2 (fun e => ?_) (fun _ => ?_)⟩
              · refine ⟨.str y, rfl, .ref p, rfl, p, 3, rfl, by decide, by decide, lh, hn8.at_, fun u H9 y0 y1 h9 b9 => ?_⟩
                have c1 := cut_hi (z := y) (lo := none) (u := 1 + u) (by omega)
                have s1 := sgB_cut sj none (some (1 + u))
                refine ⟨_, _, rfl, rfl, 1 + u, rfl, y, rfl, len5 (by omega), .int m, rfl, ?_⟩
                revert c1 s1
                generalize cutS y none (some (1 + u)) = one
                intro c1 s1
                obtain ⟨l2, s2⟩ := mul_facts one m
                have lm : (Txt.mul one m).length ≤ 5000 := by
                  have : one.length * m.toNat ≤ 4 * 200 := Nat.mul_le_mul (by omega) (by omega)
                  omega
                refine ⟨one, m, rfl, rfl, by omega, by omega, by omega, .ref p, rfl, .int m, rfl, _, _, rfl, rfl, p, m + 1, rfl, by omega, by omega, lh, h9, fun x H10 x0 x1 h10 b10 => ⟨x, rfl, _, rfl, len5 lm, ?_⟩⟩
                have hf10 := b10 _ _ nfp (b9 _ _ nfp hf8)
                have hn10 := (hn8.go h9 b9).go h10 b10
                have c2 := cut_hi (z := Txt.mul one m) (lo := none) (u := x) x0
                have s3 := sgB_cut (s2 s1) none (some x)
                revert c2 s3
                generalize cutS (Txt.mul one m) none (some x) = yy
                intro c2 s3
                have c3 := cut_hi (z := yy) (lo := none) (u := m) m0
                obtain ⟨g1, g2, g3, g4⟩ := put hn10 hf10 (sgB_cut s3 none (some m)) c3
                exact ⟨.ref f, rfl, .inl ⟨rfl, _, sq_of hf10⟩, .str yy, rfl, .int m, rfl, m, rfl, yy, rfl, len5 (by omega), f, _, _, rfl, rfl, hf10, lts, _, _, _, _, rfl, g2, g3, g4, g1⟩
              · have c3 := cut_hi (z := y) (lo := none) (u := m) m0
                obtain ⟨g1, g2, g3, g4⟩ := put hn8 hf8 (sgB_cut sj none (some m)) c3
                exact ⟨.ref f, rfl, .inl ⟨rfl, _, sq_of hf8⟩, .str y, rfl, .int m, rfl, m, rfl, y, rfl, len5 (by omega), f, _, _, rfl, rfl, hf8, lts, _, _, _, _, rfl, g2, g3, g4, g1⟩
    · rintro σ H4 ⟨u4, u5, u6, ts, rfl, hf, hl, ht, hn⟩
      refine ⟨.ref f, rfl, f, _, rfl, .inl ⟨sq_of hf, fun a na => ?_⟩⟩
      exact q a ts _ upd_same (by omega) (fun t hm => (ht t hm).1) (fun t hm => (ht t hm).2) (hn.at_.same (Same.new na)) ((b12.trans hn.but).and (Same.new na))
end
end LawK
set_option maxHeartbeats 4000000
/-! set(xs), xs a list of numbers and texts -/
namespace Ev
open PySem PySem.Spec PyProof.Rows L2
section
variable {P : Program} {w : World} {A : Around} {E : Value → Shared → Prop} {s : Shared}
theorem setG_like {K : Type} [DecidableEq K] {κ : KeyKind P w K} {h : Heap} {a : Addr} {S T : K → Bool} {n : Nat} (R : SetG κ h a S n) (e : ∀ k, S k = T k) : SetG κ h a T n := by
  have : S = T := funext e
  rw [← this]; exact R
theorem setG_upd {K : Type} [DecidableEq K] {κ : KeyKind P w K} {I : Addr} {fp wr : List Addr} {G : Array GenState → Array GenState → Prop} {n : Nat} {Pv : Nat → Value → Prop} {St : Nat → Shared → Prop} {R : Result → Shared → Prop}
    (W : WalksS P w A.in1 I fp wr G n Pv St) (D : Addr) (out : D ∉ fp) (ks : List K) (hn : n = ks.length) (hb : ks.length + 1 < scanBound) (hval : ∀ i v, Pv i v → ∃ k, ks[i]? = some k ∧ κ.is k v = true ∧ v.scannable = true) :
    ∀ (d i : Nat) (s : Shared), n - i = d → i ≤ n → St i s → (∃ c, c ≤ i ∧ SetG κ s.heap D (fun j => decide (j ∈ ks.take i)) c) →
      (∀ s' c, Moved (D :: wr) G s s' → c ≤ n → SetG κ s'.heap D (fun j => decide (j ∈ ks)) c → R (.ok (.ret .none)) s') →
      codeAny (model P w) A (.builtin "set.update.loop" ⟨[.ref D, .ref I], []⟩) R s := by
  have outw : D ∉ wr := fun h => out (W.sub _ h)
  have more : ∀ b ∈ wr, b ∈ D :: wr := fun b => List.mem_cons_of_mem _
  intro d
  induction d with
  | zero =>
    intro i s hd hi hst ⟨c, hc, hS⟩ hR
    have hin : i = n := by omega
    subst hin
    refine codeAny_builtin F.entry_set_update_loop ?_; rw [Around.under_plainId F.plain_set_update_loop _]
    refine wpAny_bind (m := pyNext (.ref I)) (W.done s _ _ hst fun s' hm => (?_ : wpAny _ A.in1 (ret Value.none) _ _ s'))
    have hS := setG_like hS (T := fun j => decide (j ∈ ks)) fun j => by rw [List.take_of_length_le (by omega)]
    exact wpAny_pure (hR s' c (hm.mono more) hc (hS.keep fun o e => hm.heap D o outw e))
  | succ d ih =>
    intro i s hd hi hst ⟨c, hc, hS⟩ hR
    have hlt : i < n := by omega
    refine codeAny_builtin F.entry_set_update_loop ?_; rw [Around.under_plainId F.plain_set_update_loop _]
    refine wpAny_bind (m := pyNext (.ref I)) (W.item i s _ _ hlt hst fun v s' hP hst' hm => ?_)
    obtain ⟨k, hk, hv, sc⟩ := hval i v hP
    have hS' := hS.keep (h' := s'.heap) fun o e => hm.heap D o outw e
    refine (?_ : wpAny _ A.in1 (holding [v] (setAdd D v) >>= _) _ _ s')
    unfold setAdd
    refine wpAny_bind (wpAny_holding (wpAny_holding (wpAny_bind (κ.pyHash hv (setG_hashed (s := { s' with toks := s'.toks + 1 }) hv sc hS' (by omega) fun z sb hS2 => ?_)))))
    have hS3 := setG_like hS2 (T := fun j => decide (j ∈ ks.take (i + 1))) fun j => by
      rw [List.take_add_one, hk]
      simp [List.mem_append]
    have hc3 : (if decide (k ∈ ks.take i) = true then c else c + 1) ≤ i + 1 := by split <;> omega
    refine wpAny_pure ⟨plainId_quiet F.plain_set_update_loop _, ih (i + 1) _ (by omega) hlt (W.frame _ s' _ _ hst' (Nat.le_succ _) fun b hb o e => (sb.2 b fun z => out (by rw [← z]; exact hb)).trans e) ⟨_, hc3, hS3⟩ fun s2 c2 hm2 hc2 hSf => hR s2 c2 ?_ hc2 hSf⟩
    exact Moved.trans W.gtrans ((hm.mono more).then_heap (Nat.le_succ _) fun b o hb e => (sb.2 b fun z => hb (by rw [z]; exact List.mem_cons_self)).trans e) hm2

theorem setG_call {K : Type} [DecidableEq K] {κ : KeyKind P w K} {l : Addr} {items : Array Value} (ks : List K) {Q : Value → Shared → Prop} (hh : A.handled = none) (hl : s.heap.IsList l items) (len : items.size = ks.length) (hb : ks.length + 1 < scanBound)
    (hval : ∀ (i : Nat) (v : Value), items[i]? = some v → ∃ k, ks[i]? = some k ∧ κ.is k v = true ∧ v.scannable = true)
    (h : ∀ (h' : Heap) (tk c : Nat) (S : K → Bool), SetG κ h' s.heap.objs.size S c → (∀ j, S j = true ↔ j ∈ ks) → c ≤ ks.length → (∀ b o, s.heap.get? b = some o → h'.get? b = some o) → Q (.ref s.heap.objs.size) { s with heap := h', toks := tk }) :
    wpAny (model P w) A (call (.type "set") [.ref l]) Q E s := by
  obtain ⟨c, tl, hmro⟩ := F.called_set.mro
  have hmade := F.called_set.made
  have hsub := F.called_set.sub
  refine wpAny_call (codeAny_of_tree (?_ : wpAny _ _ (callAny (.type "set") _) _ _ _))
  refine wpAny_pure ⟨Code.quiet_builtin _ (by decide +kernel), codeAny_builtin F.entry_type_call ?_⟩; rw [Around.under_plain (weight_type_call_type "set" [.ref l] []) rfl]
  have h1 := F.called_set.notType; have h2 := F.called_set.canCreate
  have hct := F.typeCall_set_1 (.ref l)
  (repeat (any_goals (first | assumption | wp_step)))
  have hS : (s.heap.push (emptyS w)).get? s.heap.objs.size = some (emptyS w) := Heap.get?_push_size _ rfl
  have hT : Shared.TypeIs { s with heap := s.heap.push (emptyS w) } (.ref s.heap.objs.size) "set" := ⟨_, hS, rfl⟩
  refine codeAny_mono (code_set_led1 (.ref l) (E := E) (Q₁ := fun obj s₁ => obj = .ref s.heap.objs.size ∧ s₁ = { s with heap := s.heap.push (emptyS w) }) ⟨rfl, rfl⟩) fun r s₁ hr => ?_
  cases r with
  | error e => exact hr
  | ok fl =>
    cases fl with
    | ret obj =>
      obtain ⟨rfl, rfl⟩ := hr
      have hli := F.called_set.init.lookup; have hbi := F.called_set.init.bind (.ref s.heap.objs.size)
      (repeat (any_goals (first | assumption | wp_step)))
      refine codeAny_mono (codeAny_call_builtin (R := wants (fun r s₂ => r = .none ∧ ∃ h' tk c, s₂ = { s with heap := h', toks := tk } ∧ SetG κ h' s.heap.objs.size (fun j => decide (j ∈ ks)) c ∧ c ≤ ks.length ∧
          ∀ b o, s.heap.get? b = some o → h'.get? b = some o) E) F.called_set.init.plain F.entry_set_init (check_set_init_1 hT ?_)) fun r₂ s₂ hr₂ => ?_
      · obtain ⟨ol, hol, hcl, nl, hdl⟩ := hl
        obtain ⟨ocls, odict, odata, oslots⟩ := ol
        simp only at hcl hdl
        subst hcl hdl
        have hol' : (s.heap.push (emptyS w)).get? l = some { cls := .type "list", dict := odict, data := .seq items nl, slots := oslots } := Heap.get?_push_of_some _ hol
        have hsls := F.sub_list_set; have hslf := F.sub_list_frozenset
        have hne : (Value.type "list" == Value.type "dict") = false := by decide
        have hl1 : (s.heap.push (emptyS w)).IsList l items := ⟨_, hol', rfl, nl, rfl⟩
        unfold Builtin.«set.__init__»; unfold noKeywords Builtin.Frozenset.updateFrom
        generalize hPI : pyIter = PI
        wp_walk
        subst hPI
        refine wpAny_pyIter_list hl1 (wpAny_bind (wpAny_runValue ?_))
        have hlS : l < s.heap.objs.size := Heap.lt_size hol
        have hh3 : A.in1.in1.in1.handled = none := by simp [hh]
        have hz1 : (s.heap.push (emptyS w)).objs.size = s.heap.objs.size + 1 := Heap.size_push ..
        have hneI : l ≠ (s.heap.push (emptyS w)).objs.size := Nat.ne_of_lt (by rw [hz1]; exact Nat.lt_succ_of_lt hlS)
        have out : s.heap.objs.size ∉ [(s.heap.push (emptyS w)).objs.size, l] := by
          simp only [List.mem_cons, List.mem_singleton, List.not_mem_nil, or_false, not_or]; exact ⟨Nat.ne_of_lt (by rw [hz1]; exact Nat.lt_succ_self _), Nat.ne_of_gt hlS⟩
        refine setG_upd (κ := κ) ((Walks.list hh3 _ l hneI items).toS) s.heap.objs.size out ks len hb hval (items.size - 0) 0 _ (by omega) (Nat.zero_le _) ⟨⟨_, Heap.get?_push_size _ rfl, rfl, rfl⟩, hl1.push _⟩ ?first ?last
        case first => exact ⟨0, Nat.le_refl 0, setG_like (setG_new.keep fun o e => Heap.get?_push_of_some _ e) fun j => by simp⟩
        case last =>
          intro s' c' hm hc' hS'
          obtain ⟨h', g2, d', tk', os'⟩ := s'
          obtain rfl : g2 = s.gens := hm.gens
          obtain rfl : d' = s.drawn := hm.drawn
          obtain rfl : os' = s.os := hm.os
          rw [len] at hc'
          refine wpAny_pure (?_ : wpAny _ _ (ret Value.none) _ _ _)
          refine wpAny_pure ⟨rfl, h', tk', c', rfl, hS', hc', fun b o e => ?_⟩
          have hb0 : b < s.heap.objs.size := Heap.lt_size e
          refine hm.heap b o ?_ (Heap.get?_push_of_some _ (Heap.get?_push_of_some _ e))
          simp only [List.mem_cons, List.mem_singleton, List.not_mem_nil, or_false, not_or]; exact ⟨Nat.ne_of_lt hb0, Nat.ne_of_lt (by rw [hz1]; exact Nat.lt_succ_of_lt hb0)⟩
      · cases r₂ with
        | error e => exact hr₂
        | ok fl₂ =>
          cases fl₂ with
          | ret r =>
            obtain ⟨rfl, h', tk, c', rfl, hS', hc', hk'⟩ := hr₂
            (repeat (any_goals (first | assumption | wp_step)))
            exact h _ _ _ _ hS' (fun j => decide_eq_true_iff) hc' hk'
          | _ => exact hr₂.elim
    | _ => exact hr.elim
end
section
variable {X : Cx}
/-- set(xs) of a list of keys -/
def rSetOfK (K : PySem.W.Frag) (P : Program) (w : World) : List V → Hp → VK → Prop := fun xs H Q => ∃ (l : Addr) (ks : List Key), xs = [V.ref l] ∧ SqL K H l (ks.map kV) ∧ ks.length ≤ 2000 ∧ ∀ a c S, H a = none → (∀ j, S j = true ↔ j ∈ ks) → c ≤ ks.length → Q (.ref a) (upd H a (SetX P w a S c))
theorem cr_setOfK (hc : X.calm = true) : CallR X (.type "set") (rSetOfK X.K X.prog X.w) := fun pins s σ H xs us Q I r h => by
  obtain ⟨l, ks, rfl, hl, few, q⟩ := h
  rw [Vals.ref1 r]
  obtain ⟨its, rv, pl, hz⟩ := I.list hl
  have hn : H s.heap.objs.size = none := I.hok.fresh (Nat.le_refl _)
  have el : its.length = ks.length := by rw [← rv.length, List.length_map]
  refine setG_call (κ := mixKind X.prog X.w) ks (I.ok.hd hc) pl.isList (by rw [List.size_toArray]; exact el) (by have : scanBound = 4096 := rfl; omega) (fun i v hv => ?_) fun h' tk c S R hS hc' k => ?_
  · have hv : its[i]? = some v := by simpa using hv
    have hi : i < ks.length := by rw [← el]; exact (List.getElem?_eq_some_iff.mp hv).1
    obtain ⟨u, hu, rk⟩ := Vals.get (i := i) (x := kV ks[i]) rv (by rw [List.getElem?_map, List.getElem?_eq_getElem hi]; rfl)
    rw [hv] at hu
    obtain rfl := Option.some.inj hu
    exact ⟨ks[i], List.getElem?_eq_getElem hi, kV_is rk, key_scan rk⟩
  · exact ⟨.ref s.heap.objs.size, upd H s.heap.objs.size (SetX X.prog X.w s.heap.objs.size S c), I.laid (t' := tk) k (Nat.le_refl _) (setX_new R), rfl, q _ c S hn hS hc'⟩
end
end Ev
set_option maxHeartbeats 4000000
namespace LawK
open PySem PySem.Spec PyProof.Rows L2 Ev

/-- a part as it is drawn: a gap (none), or another -/
def PgAt (H : Hp) (v : V) : Option Prt → Prop
  | none => ∃ (a : Addr) (x y : V), v = .ref a ∧ H a = some (.tup [.str "gap", x, y])
  | some p => PrtAt H v p ∧ p.Ok
theorem PgAt.same {H H' : Hp} (k : Same H H') {v : V} : ∀ {o : Option Prt}, PgAt H v o → PgAt H' v o
  | none, ⟨a, x, y, e, h⟩ => ⟨a, x, y, e, k _ _ h⟩
  | some p, ⟨h, ok⟩ => ⟨h.same k, ok⟩
theorem PgAt.but {H H' : Hp} {p l : Addr} (h0 : HandL H p l) (b : But p l H H') {v : V} : ∀ {o : Option Prt}, PgAt H v o → PgAt H' v o
  | none, ⟨a, x, y, e, h⟩ => ⟨a, x, y, e, b _ _ (tup_ne h0 h) h⟩
  | some p, ⟨⟨a, e, h⟩, ok⟩ => ⟨⟨a, e, b _ _ (tup_ne h0 h) h⟩, ok⟩
theorem one_signs : ∀ (zs : List Str), (∀ z ∈ zs, ∃ c, z = SX.S [c] ∧ sgC c = true) → ∃ cs : List Nat, zs = cs.map (fun c => SX.S [c]) ∧ ∀ c ∈ cs, sgC c = true
  | [], _ => ⟨[], rfl, fun c h => absurd h List.not_mem_nil⟩
  | z :: zs, h => by
    obtain ⟨c, rfl, hc⟩ := h z List.mem_cons_self
    obtain ⟨cs, rfl, hs⟩ := one_signs zs fun z hz => h z (List.mem_cons_of_mem _ hz)
    refine ⟨c :: cs, rfl, fun d hd => ?_⟩
    rcases List.mem_cons.mp hd with e | e
    · rw [e]; exact hc
    · exact hs d e
theorem one_lt {c d : Nat} (h : ltC (SX.S [c]) (SX.S [d])) : c < d := by
  have h : [c] < [d] := h
  rcases List.cons_lt_cons_iff.mp h with e | ⟨_, e⟩
  · exact e
  · exact absurd e (List.not_lt_nil _)
def spPrt : Sp := fun vs H Q _ => ∃ (p : Addr) (z : Str) (b : Bool), vs = [.ref p, .str z, .bl b] ∧ sgB z = true ∧ 0 < z.length ∧ z.length ≤ 100 ∧ ∃ l, HandL H p l ∧
  ∀ v (o : Option Prt) H', PgAt H' v o → (b = true → o ≠ none) → HandL H' p l → But p l H H' → Q v H'
section
variable {P : Program} {w : World} {K : PySem.W.Frag} {mg : Str → Option Value} {base : Heap}
abbrev sPart : Stmt := topS 35
theorem scPart : FnScope ["pool", "signs", "is_end", "kind", "least", "turn"] ["pool", "signs", "is_end"] (defScope sPart) := ⟨rfl, rfl, rfl, by decide +kernel, rfl, by decide +kernel, by decide +kernel⟩
theorem ok_Part {f : Addr} {fd : FuncData} (F : Fun K "_law_part" "_law_part" sPart f fd)  {fDraw : Addr} {fdDraw : FuncData} (DDraw : Dk P w K mg base "_law_draw" sDraw ["pool", "many"] 1 spDraw fDraw fdDraw) (T : Glob mg) : FnOk P w K mg base CX0 2 f fd ["pool", "signs", "is_end"] spPrt := by
  refine F.ok scPart (fun vs H Q E h => ?_) (fun cdv A outer s H vs Q E hr h => ?_)
  · obtain ⟨p, z, b, rfl, _⟩ := h
    rfl
  · refine ⟨_, (pss_cons (ps_set (i := 3) scPart.nd rfl (.inl rfl) (pe_call DDraw.ok (hr.mono (by decide)) (by rfl) DDraw.g DDraw.F.kp DDraw.b .nil pass0 (pa_cons (pv 0) (pa_cons pe_int pa_nil))))
      (pss_cons (ps_if (PW.pt (pw_and (pt_cmpR op_eq (pv 3) pe_int (nomark _)) (pw_and1 (pt_not (pt_val (pv 2))))))
      (pss_cons (ps_set (i := 4) scPart.nd rfl (.inl rfl) (pe_ix ix_list (pe_lst (pa_cons pe_int (pa_cons pe_int (pa_cons (pe_call DDraw.ok (hr.mono (by decide)) (by rfl) DDraw.g DDraw.F.kp DDraw.b .nil pass0 (pa_cons (pv 0) (pa_cons pe_int pa_nil))) pa_nil)))) (pe_call DDraw.ok (hr.mono (by decide)) (by rfl) DDraw.g DDraw.F.kp DDraw.b .nil pass0 (pa_cons (pv 0) (pa_cons pe_int pa_nil))) (fun _ _ => rfl)))
        (pss_one (ps_ret (pe_tup (pa_cons pe_str (pa_cons (pv 4) (pa_cons (pe_callB (call_min2 rfl) (by rfl) T.min (by decide +kernel) (pa_cons pe_int (pa_cons (pe_op op_add (pv 4) (pe_call DDraw.ok (hr.mono (by decide)) (by rfl) DDraw.g DDraw.F.kp DDraw.b .nil pass0 (pa_cons (pv 0) (pa_cons pe_int pa_nil)))) pa_nil))) pa_nil)))))))
      pss_nil)
      (pss_cons (ps_if (pt_cmpR op_eq (pv 3) pe_int (nomark _))
      (pss_one (ps_ret (pe_tup (pa_cons pe_str pa_nil))))
      pss_nil)
      (pss_cons (ps_if (pt_cmpR op_eq (pv 3) pe_int (nomark _))
      (pss_one (ps_ret (pe_tup (pa_cons pe_str (pa_cons (pe_join pe_str (pe_callB (cr_sortedSx rfl) (by rfl) T.sorted (by decide +kernel) (pa_cons (pe_callTy (cr_setOfK rfl) (by rfl) T.set (by decide +kernel) (pa_cons (pe_lc (own := [("turn", 5)]) (g := gName 5) (by rfl) scPart.nd (pi_range1 (by rfl) T.range (pa_cons (pe_op op_add pe_int (pe_call DDraw.ok (hr.mono (by decide)) (by rfl) DDraw.g DDraw.F.kp DDraw.b .nil pass0 (pa_cons (pv 0) (pa_cons pe_int pa_nil)))) pa_nil)) (blkOk_by (N := ["pool", "signs", "is_end", "kind", "least", "turn"]) (sc := defScope sPart) (by decide +kernel)) (fun _ _ _ _ _ => pg_name (i := 5) scPart.nd rfl (.inl rfl)) (fun _ _ _ _ _ => pts_nil) (fun _ _ _ _ _ => (pe_ix ix_str (pv 1) (pe_call DDraw.ok (hr.mono (by decide)) (by rfl) DDraw.g DDraw.F.kp DDraw.b .nil pass0 (pa_cons (pv 0) (pa_cons (pe_callB call_lenZ (by rfl) T.len PySem.boot_len (pa_cons (pv 1) pa_nil)) pa_nil))) (fun _ _ => rfl)))) pa_nil)) pa_nil))) pa_nil)))))
      pss_nil)
      (pss_one (ps_ret (pe_tup (pa_cons pe_str (pa_cons (pe_ix ix_str (pv 1) (pe_call DDraw.ok (hr.mono (by decide)) (by rfl) DDraw.g DDraw.F.kp DDraw.b .nil pass0 (pa_cons (pv 0) (pa_cons (pe_callB call_lenZ (by rfl) T.len PySem.boot_len (pa_cons (pv 1) pa_nil)) pa_nil))) (fun _ _ => rfl)) pa_nil))))))))), ?_⟩
    obtain ⟨p, z, b, rfl, sz, z0, z1, lh, hH, q⟩ := h
    refine ⟨.ref p, rfl, p, 8, rfl, by decide, by decide, lh, hH, fun kd H1 d0 d1 h1 b1 => ?_⟩
    dsimp only [tNext, tDrop, tSeq, gName]
    refine (?_ : ∀ Q : Bool → Hp → Prop, (∀ c, (c = true → b = false) → Q c H1) → tAnd _ _ _ H1 Q) _ ?_
    · intro Q0 kk
      refine ⟨.int kd, rfl, rfl, _, rfl, ite2 (fun e => ?_) (fun e => kk _ (fun w => Bool.noConfusion w))⟩
      exact ⟨.bl b, rfl, _, rfl, kk _ fun w => by simpa using w⟩
    · intro c hc
      cases c with
      | true =>
        have b0 := hc rfl
        refine iteT ?_
        refine ⟨.ref p, rfl, p, 6, rfl, by decide, by decide, lh, h1, fun x H2 x0 x1 h2 b2 => ⟨by show 3 ≤ sizeLine; decide, fun o no => ?_⟩⟩
        have k2 := Same.new (H := H2) (o := .lst [.int 0, .int 1, .int x]) no
        have hO : upd H2 o (.lst [.int 0, .int 1, .int x]) o = some (.lst [.int 0, .int 1, .int x]) := upd_same
        have nop := h2.ne no
        have h2' := h2.same k2
        have b2' := (b1.trans b2).and k2
        revert hO h2' b2'
        generalize upd H2 o (.lst [.int 0, .int 1, .int x]) = H3
        intro hO h2' b2'
        refine ⟨.ref p, rfl, p, 3, rfl, by decide, by decide, lh, h2', fun y H4 y0 y1 h4 b4 => ?_⟩
        obtain ⟨k, ek⟩ : ∃ k, atI [V.int 0, .int 1, .int x] y = some (.int k) := atI_int (xs := [0, 1, x]) y0 y1
        refine ⟨o, _, y, _, rfl, rfl, sq_of (b4 _ _ nop hO), ek, ?_⟩
        refine ⟨.int k, rfl, .int k, rfl, .ref p, rfl, p, 5, rfl, by decide, by decide, lh, h4, fun u H5 u0 u1 h5 b5 => ⟨_, _, rfl, rfl, _, _, rfl, by show 3 ≤ sizeLine; decide, fun t nt => ?_⟩⟩
        exact q _ none _ ⟨t, _, _, rfl, upd_same⟩ (fun w => by rw [b0] at w; cases w) (h5.same (Same.new nt)) (((b2'.trans b4).trans b5).and (Same.new nt))
      | false =>
        refine iteF ?_
        dsimp only [tNext, tDrop, tSeq, gName]
        refine ⟨.int kd, rfl, rfl, _, rfl, ite2 (fun e => ?_) (fun _ => ?_)⟩
        · refine ⟨by show 1 ≤ sizeLine; decide, fun t nt => ?_⟩
          exact q _ (some .any) _ ⟨⟨t, rfl, upd_same⟩, ⟨(fun _ e => by cases e), (fun _ e => by cases e)⟩⟩ (fun _ e => by cases e) (h1.same (Same.new nt)) (b1.and (Same.new nt))
        · dsimp only [tNext, tDrop, tSeq, gName]
          refine ⟨.int kd, rfl, rfl, _, rfl, ite2 (fun e => ?_) (fun _ => ?_)⟩
          · refine ⟨⟨_, rfl⟩, .ref p, rfl, p, 3, rfl, by decide, by decide, lh, h1, fun n H2 n0 n1 h2 b2 => ⟨_, _, rfl, rfl, 1 + n, rfl, by omega, by omega, fun D nD => lc_range (fun j H' => ∃ cs : List Nat, H' D = some (.lst (cs.map fun c => V.str (SX.S [c]))) ∧ cs.length = j ∧ (∀ c ∈ cs, sgC c = true) ∧ Hn p lh H2 H') ⟨[], upd_same, rfl, fun c hc => absurd hc List.not_mem_nil, (Hn.refl h2).new nD⟩ ?_ ?_⟩⟩
            · rintro j H6 hj ⟨cs, hD, hc, hs, hn6⟩
              have nDp := h2.ne nD
              refine ⟨rfl, .str z, rfl, .ref p, rfl, .str z, rfl, z, rfl, len6 z1, p, (z.length : Int), rfl, by omega, by omega, lh, hn6.at_, fun x H7 x0 x1 h7 b7 => ?_⟩
              obtain ⟨c, ec, sc⟩ := sg_at sz x0 x1
              refine ⟨z, x, c, rfl, rfl, len6 z1, ec, _, b7 _ _ nDp hD, ?_, cs ++ [c], ?_, ?_, ?_, (hn6.go h7 b7).at h2 nD⟩
              · rw [List.length_map, sizeLine_eq]
                omega
              · rw [upd_same, List.map_append]
                rfl
              · rw [List.length_append, hc]
                rfl
              · intro d hd
                rcases List.mem_append.mp hd with g | g
                · exact hs d g
                · rw [List.mem_singleton.mp g]
                  exact sc
            · rintro H6 ⟨cs, hD, hc, hs, hn6⟩
              have e1 : (cs.map fun c => V.str (SX.S [c])) = (cs.map fun c => (Sum.inr (SX.S [c]) : Key)).map kV := by rw [List.map_map]; rfl
              have lc : cs.length ≤ 3 := by omega
              have lc1 : 1 ≤ cs.length := by omega
              refine ⟨D, cs.map fun c => (Sum.inr (SX.S [c]) : Key), rfl, sq_of (e1 ▸ hD), by rw [List.length_map]; omega, fun A c S nA hS hcl => ?_⟩
              have mem : ∀ k, S k = true → ∃ c ∈ cs, k = Sum.inr (SX.S [c]) := fun k hk => by
                obtain ⟨c, hc, e⟩ := List.mem_map.mp ((hS k).mp hk)
                exact ⟨c, hc, e.symm⟩
              refine ⟨A, S, c, rfl, upd_same, fun k hk => let ⟨c, _, e⟩ := mem k hk; ⟨_, e⟩, fun zs B pw mz lz nB => ?_⟩
              obtain ⟨ds, rfl, hds⟩ := one_signs zs fun y hy => by
                obtain ⟨c, hc, e⟩ := mem _ ((mz y).mp hy)
                exact ⟨c, Sum.inr.inj e, hs c hc⟩
              rw [List.length_map] at lz
              rw [List.length_map] at hcl
              have ld : ds.length ≤ 3 := by omega
              have ld1 : 0 < ds.length := by
                cases cs with
                | nil => exact absurd lc1 (by simp)
                | cons c0 cs =>
                  have := (mz (SX.S [c0])).mpr ((hS _).mpr List.mem_cons_self)
                  obtain ⟨d, hd, _⟩ := List.mem_map.mp this
                  exact List.length_pos_of_mem hd
              have n2 : Hn p lh H1 (upd (upd H6 A (SetX P w A S c)) B (.lst ((ds.map fun c => SX.S [c]).map V.str))) := (((⟨h2, b2⟩ : Hn p lh H1 H2).trans hn6).new nA).new nB
              refine ⟨_, B, ds.map (fun c => SX.S [c]), rfl, rfl, .inl (sq_of upd_same), ?_, ?_⟩
              · have := one_sum ds
                rw [List.length_map]
                have : (Str.ofString "").length = 0 := by decide +kernel
                rw [this]
                omega
              · rw [join1]
                refine ⟨by show 2 ≤ sizeLine; decide, fun t nt => ?_⟩
                refine q _ (some (.lot ds)) _ ⟨⟨t, rfl, upd_same⟩, ⟨(fun _ e => by cases e), fun cs e => ?_⟩⟩ (fun _ e => by cases e) (n2.new nt).at_ (b1.trans (n2.new nt).but)
                cases e
                refine ⟨?_, ld1, by omega, ?_⟩
                · have : sgB (SX.S ds) = true := by rw [sgB_S]; exact List.all_eq_true.mpr hds
                  exact this
                · rw [List.pairwise_map] at pw
                  exact pw.imp fun {x y} h => one_lt h
          · dsimp only [tNext, tDrop, tSeq, gName]
            refine ⟨.str z, rfl, .ref p, rfl, .str z, rfl, z, rfl, len6 z1, p, (z.length : Int), rfl, by omega, by omega, lh, h1, fun x H2 x0 x1 h2 b2 => ?_⟩
            obtain ⟨c, ec, sc⟩ := sg_at sz x0 x1
            refine ⟨z, x, c, rfl, rfl, len6 z1, ec, by show 2 ≤ sizeLine; decide, fun t nt => ?_⟩
            refine q _ (some (.sg c)) _ ⟨⟨t, rfl, upd_same⟩, ⟨fun d e => ?_, (fun _ e => by cases e)⟩⟩ (fun _ e => by cases e) (h2.same (Same.new nt)) ((b1.trans b2).and (Same.new nt))
            cases e
            have : sgB (SX.S [c]) = true := by rw [sgB_S]; exact List.all_eq_true.mpr fun d hd => by rw [List.mem_singleton.mp hd]; exact sc
            exact this
end
end LawK
set_option maxHeartbeats 4000000
namespace LawK
open PySem PySem.Spec PyProof.Rows L2 Ev

def spPattern : Sp := fun vs H Q _ => ∃ (p : Addr) (z : Str) (m : Int), vs = [.ref p, .str z, .int m] ∧ sgB z = true ∧ 0 < z.length ∧ z.length ≤ 100 ∧ 1 ≤ m ∧ m ≤ 20 ∧ ∃ l, HandL H p l ∧
  ∀ a us (os : List (Option Prt)) H', H' a = some (.tup us) → All2 (PgAt H') us os → os.length ≤ 20 → (∃ o os', os = some o :: os') → HandL H' p l → But p l H H' → Q (.ref a) H'
theorem PgAt.put {H : Hp} {D : Addr} {us ws : List V} (hD : H D = some (.lst us)) {v : V} : ∀ {o : Option Prt}, PgAt H v o → PgAt (upd H D (.lst ws)) v o
  | none, ⟨a, x, y, e, h⟩ => ⟨a, x, y, e, by rw [upd_ne fun z => by rw [z, hD] at h; cases h]; exact h⟩
  | some p, ⟨⟨a, e, h⟩, ok⟩ => ⟨⟨a, e, by rw [upd_ne fun z => by rw [z, hD] at h; cases h]; exact h⟩, ok⟩
section
variable {P : Program} {w : World} {K : PySem.W.Frag} {mg : Str → Option Value} {base : Heap}
abbrev sPattern : Stmt := topS 36
theorem scPattern : FnScope ["pool", "signs", "most", "many", "found", "at", "is_end"] ["pool", "signs", "most"] (defScope sPattern) := ⟨rfl, rfl, rfl, by decide +kernel, rfl, by decide +kernel, by decide +kernel⟩
theorem ok_Pattern {f : Addr} {fd : FuncData} (F : Fun K "_law_pattern" "_law_pattern" sPattern f fd)  {fDraw : Addr} {fdDraw : FuncData} (DDraw : Dk P w K mg base "_law_draw" sDraw ["pool", "many"] 1 spDraw fDraw fdDraw) {fPart : Addr} {fdPart : FuncData} (DPart : Dk P w K mg base "_law_part" sPart ["pool", "signs", "is_end"] 2 spPrt fPart fdPart) (T : Glob mg) : FnOk P w K mg base CX0 3 f fd ["pool", "signs", "most"] spPattern := by
  refine F.ok scPattern (fun vs H Q E h => ?_) (fun cdv A outer s H vs Q E hr h => ?_)
  · obtain ⟨p, z, m, rfl, _⟩ := h
    rfl
  · refine ⟨_, (pss_cons (ps_set (i := 3) scPattern.nd rfl (.inl rfl) (pe_op op_add pe_int (pe_call DDraw.ok (hr.mono (by decide)) (by rfl) DDraw.g DDraw.F.kp DDraw.b .nil pass0 (pa_cons (pv 0) (pa_cons (pv 2) pa_nil)))))
      (pss_cons (ps_set (i := 4) scPattern.nd rfl (.inl rfl) (pe_lst pa_nil))
      (pss_cons (ps_for PassesOwn.never rfl (pi_range1 (by rfl) T.range (pa_cons (pv 3) pa_nil)) (pg_name (i := 5) scPattern.nd rfl (.inl rfl))
      (pss_cons (ps_set (i := 6) scPattern.nd rfl (.inl rfl) (pe_or (pe_cmpR op_in_seq (pv 5) (pe_tup (pa_cons pe_int (pa_cons (pe_op op_sub (pv 3) pe_int) pa_nil))) rfl) (pe_one (pe_cmpR op_eq (pe_ix ix_tup (pe_ix ix_list (pv 4) (pe_un un_neg pe_int) (fun _ _ => rfl)) pe_int (fun _ _ => rfl)) pe_str (nomark _)))))
        (pss_one (ps_expr (pe_bm PySem.F.plainAttrs_list PySem.F.slot_list_append PySem.F.type_list_append mt_append (pv 4) (pa_cons (pe_call DPart.ok (hr.mono (by decide)) (by rfl) DPart.g DPart.F.kp DPart.b .nil pass0 (pa_cons (pv 0) (pa_cons (pv 1) (pa_cons (pv 6) pa_nil)))) pa_nil))))))
      (pss_one (ps_ret (pe_callTy call_tuple_of (by rfl) T.tuple (by decide +kernel) (pa_cons (pv 4) pa_nil))))))), ?_⟩
    obtain ⟨p, z, m, rfl, sz, z0, z1, m0, m1, lh, hH, q⟩ := h
    refine ⟨.ref p, rfl, .int m, rfl, p, m, rfl, by omega, by omega, lh, hH, fun x H1 x0 x1 h1 b1 => ⟨_, _, rfl, rfl, ?_⟩⟩
    dsimp only [tNext, tDrop, tSeq, gName]
    refine ⟨by show 0 ≤ sizeLine; decide, fun f nf => ?_⟩
    have nfp := h1.ne nf
    refine ⟨.int (1 + x), rfl, _, rfl, by omega, by omega, for_range (fun i σ H' => ∃ (u5 u6 : Option V) (us : List V) (os : List (Option Prt)), σ = [some (.ref p), some (.str z), some (.int m), some (.int (1 + x)), some (.ref f), u5, u6] ∧ H' f = some (.lst us) ∧ All2 (PgAt H') us os ∧ os.length = i ∧ (∀ o, os[0]? = some o → o ≠ none) ∧ Hn p lh H1 H') ⟨none, none, [], [], rfl, upd_same, .nil, rfl, (fun o e => by cases e), (Hn.refl h1).new nf⟩ ?_ ?_⟩
    · rintro i σ H2 hi ⟨u5, u6, us, os, rfl, hf, ho, hl, h0, hn⟩
      have i20 : i ≤ 20 := by omega
      dsimp only [tSeq, tAsg, gName]
      refine (?_ : ∀ Q : V → Hp → Prop, (∀ b H3, Same H2 H3 → (i = 0 → b = true) → Q (.bl b) H3) → tOrV _ _ _ H2 Q) _ ?_
      · intro Q0 kk
        refine ⟨.int (0 + (i : Int)), rfl, .int (1 + x), rfl, _, _, rfl, rfl, by show 2 ≤ sizeLine; decide, fun t nt => ⟨t, _, rfl, .inr (SqT.of upd_same), rfl, rfl, ?_⟩⟩
        have kt := Same.new (H := H2) (o := .tup [.int 0, .int (1 + x - 1)]) nt
        have hf3 := kt _ _ hf
        have ho3 := ho.imp fun _ _ r => PgAt.same kt r
        refine ⟨_, rfl, ite2 (fun e => kk _ _ kt fun _ => rfl) (fun e => ?_)⟩
        have i0 : i ≠ 0 := fun z => by
          subst z
          exact e rfl
        obtain ⟨os0, o, eo⟩ := snoc_of (show os ≠ [] from fun z => by rw [z] at hl; exact i0 hl.symm)
        have lu := ho.len
        obtain ⟨us0, u, eu⟩ := snoc_of (show us ≠ [] from fun z => by rw [z, eo] at lu; simp at lu)
        rw [eo, eu] at ho3
        have hu := ho3.unsnoc.2
        have ea : atI us (-1) = some u := by rw [eu]; exact atI_last _ _
        obtain ⟨a, xs, y, rfl, ha, e0, sy⟩ : ∃ (a : Addr) (xs : List V) (y : V), u = .ref a ∧ upd H2 t (.tup [.int 0, .int (1 + x - 1)]) a = some (.tup xs) ∧ atI xs 0 = some y ∧ scal y (.str "gap") = true := by
          cases o with
          | none =>
            obtain ⟨a, x1, x2, e, h⟩ := hu
            exact ⟨a, _, _, e, h, rfl, rfl⟩
          | some q =>
            obtain ⟨⟨a, e, h⟩, _⟩ := hu
            cases q with
            | any => exact ⟨a, _, _, e, h, rfl, rfl⟩
            | sg c => exact ⟨a, _, _, e, h, rfl, rfl⟩
            | lot cs => exact ⟨a, _, _, e, h, rfl, rfl⟩
        refine ⟨.ref f, rfl, _, rfl, f, _, -1, _, rfl, rfl, sq_of hf3, ea, a, _, 0, _, rfl, rfl, SqT.of ha, e0, sy, kk _ _ kt fun z => absurd z i0⟩
      · intro b H3 k3 hb
        have hf3 := k3 _ _ hf
        have hn3 := hn.same k3
        have ho3 := ho.imp fun _ _ r => PgAt.same k3 r
        refine ⟨.ref f, rfl, .inl ⟨rfl, _, sq_of hf3⟩, .ref p, rfl, .str z, rfl, .bl b, rfl, p, z, b, rfl, sz, z0, z1, lh, hn3.at_, fun v o H4 hv hbo h4 b4 => ?_⟩
        have hf4 := b4 _ _ nfp hf3
        have ho4 := ho3.imp fun _ _ r => PgAt.but hn3.at_ b4 r
        have lu := ho.len
        refine ⟨f, us, _, rfl, rfl, hf4, by rw [sizeLine_eq]; omega, _, _, us ++ [v], os ++ [o], rfl, upd_same, (All2.snoc ho4 hv).imp fun _ _ r => r.put hf4, by rw [List.length_append, hl]; rfl, fun o' e => ?_, (hn3.go h4 b4).at h1 nf⟩
        rcases Nat.eq_zero_or_pos i with i0 | i0
        · have : os = [] := List.length_eq_zero_iff.mp (hl.trans i0)
          rw [this] at e
          rw [← Option.some.inj e]
          exact hbo (hb i0)
        · rw [List.getElem?_append_left (by omega)] at e
          exact h0 o' e
    · rintro σ H2 ⟨u5, u6, us, os, rfl, hf, ho, hl, h0, hn⟩
      refine ⟨.ref f, rfl, f, _, rfl, .inl ⟨sq_of hf, fun a na => ?_⟩⟩
      refine q a us os _ upd_same (ho.imp fun _ _ r => r.same (Same.new na)) (by omega) ?_ (hn.at_.same (Same.new na)) ((b1.trans hn.but).and (Same.new na))
      cases os with
      | nil => simp at hl; omega
      | cons o os =>
        cases o with
        | none => exact absurd rfl (h0 none rfl)
        | some o => exact ⟨o, os, rfl⟩
end
end LawK
set_option maxHeartbeats 4000000
namespace LawK
open PySem PySem.Spec PyProof.Rows L2 Ev
section
variable {P : Program} {w : World} {K : PySem.W.Frag} {mg : Str → Option Value} {base : Heap}
variable {C fI : Addr} {fdI : FuncData}

abbrev sPSearched : Stmt := topS 28
theorem scPSearched : FnScope ["library", "pattern", "order", "ranges", "many", "depth", "part", "signs", "text", "at", "low", "high", "within"] ["library", "pattern"] (defScope sPSearched) := ⟨rfl, rfl, rfl, by decide +kernel, rfl, by decide +kernel, by decide +kernel⟩
theorem ok_PSearched {f : Addr} {fd : FuncData} (F : Fun K "searched" "searched" sPSearched f fd) (L : LibC K mg C fI fdI) {fPEndings : Addr} {fdPEndings : FuncData} (DPEndings : Dk P w K mg base "endings" sPEndings ["library"] 2 (spEndings C) fPEndings fdPEndings) {fPIsPattern : Addr} {fdPIsPattern : FuncData} (DPIsPattern : Dk P w K mg base "is_pattern" sPIsPattern ["thing"] 5 spIsPat fPIsPattern fdPIsPattern) {fQRanges : Addr} {fdQRanges : FuncData} (DQRanges : Dk P w K mg base "_ranges_within" sQRanges ["signs", "low", "high", "part"] 2 spRw fQRanges fdQRanges) (T : Glob mg) : FnOk P w K mg base CX0 6 f fd ["library", "pattern"] (spSearched C) := by
  refine F.ok scPSearched (fun vs H Q E h => ?_) (fun cdv A outer s H vs Q E hr h => ?_)
  · obtain ⟨s, ts, a, us, ps, rfl, _⟩ := h
    rfl
  · refine ⟨_, (pss_cons (ps_if (pt_not (pt_val (pe_call DPIsPattern.ok (hr.mono (by decide)) (by rfl) DPIsPattern.g DPIsPattern.F.kp DPIsPattern.b .nil pass0 (pa_cons (pv 1) pa_nil))))
      (pss_one ps_dead)
      pss_nil)
      (pss_cons (ps_if (pt_val (pe_callB (cr_any rfl) (by rfl) T.any (by decide +kernel) (pa_cons (pe_lc (own := [("part", 6)]) (g := gName 6) (by rfl) scPSearched.nd (pi_tup (pv 1)) (blkOk_by (N := ["library", "pattern", "order", "ranges", "many", "depth", "part", "signs", "text", "at", "low", "high", "within"]) (sc := defScope sPSearched) (by decide +kernel)) (fun _ _ _ _ _ => pg_name (i := 6) scPSearched.nd rfl (.inl rfl)) (fun _ _ _ _ _ => pts_nil) (fun _ _ _ _ _ => (pe_cmpR op_eq (pe_ix (r := rIxT K) (ta := tVar 6) ix_tup (pv 6) pe_int (fun _ _ => rfl)) pe_str (nomark _)))) pa_nil)))
      (pss_one ps_dead)
      pss_nil)
      (pss_cons (ps_set (i := 2) scPSearched.nd rfl (.inl rfl) (pe_call DPEndings.ok (hr.mono (by decide)) (by rfl) DPEndings.g DPEndings.F.kp DPEndings.b .nil pass0 (pa_cons (pv 0) pa_nil)))
      (pss_cons (ps_set (i := 3) scPSearched.nd rfl (.inl rfl) (pe_lst (pa_cons (pe_tup (pa_cons pe_int (pa_cons (pe_callB call_len_seq (by rfl) T.len PySem.boot_len (pa_cons (pv 2) pa_nil)) pa_nil))) pa_nil)))
      (pss_cons (ps_set (i := 4) scPSearched.nd rfl (.inl rfl) pe_int)
      (pss_cons (ps_for PassesOwn.never rfl (pi_enumT (by rfl) T.enumerate (pa_cons (pv 1) pa_nil)) (pg_tup (by rfl) (pgs_cons (pg_name (i := 5) scPSearched.nd rfl (.inr rfl)) (pgs_cons (pg_name (i := 6) scPSearched.nd rfl (.inr rfl)) pgs_nil)))
      (pss_cons (ps_set (i := 7) scPSearched.nd rfl (.inr rfl) (pe_lc (own := [("text", 8), ("at", 9)]) (g := (gTup K 2 (gCons (gName 8) (gCons (gName 9) gNil)))) (by rfl) scPSearched.nd (pi_list (pv 2)) (blkOk_by (N := ["library", "pattern", "order", "ranges", "many", "depth", "part", "signs", "text", "at", "low", "high", "within"]) (sc := defScope sPSearched) (by decide +kernel)) (fun _ _ _ _ _ => pg_tup (by rfl) (pgs_cons (pg_name (i := 8) scPSearched.nd rfl (.inl rfl)) (pgs_cons (pg_name (i := 9) scPSearched.nd rfl (.inl rfl)) pgs_nil))) (fun _ _ _ _ _ => pts_nil) (fun _ _ _ _ _ => (pe_slice sl_str (pe_ix (r := rIxT K) (ta := tFld K (tVar 0) "texts") ix_tup (pe_fld (pv 0) rfl) (pv 8) (fun _ _ => rfl)) (po_some (pe_op op_add (pv 9) (pv 5))) (po_some (pe_op op_add (pe_op op_add (pv 9) (pv 5)) pe_int))))))
        (pss_cons (ps_setLc2 (i := 3) (own := [("low", 10), ("high", 11), ("within", 12)]) (vs1 := [12]) (g := (gTup K 2 (gCons (gName 10) (gCons (gName 11) gNil)))) (g1 := gName 12) (by rfl) scPSearched.nd rfl rfl (sw_true rfl rfl rfl (by decide +kernel)) (pi_list (pv 3)) (blkOk_by (N := ["library", "pattern", "order", "ranges", "many", "depth", "part", "signs", "text", "at", "low", "high", "within"]) (sc := defScope sPSearched) (by decide +kernel)) (by decide) (fun _ _ _ _ _ => pg_tup (by rfl) (pgs_cons (pg_name (i := 10) scPSearched.nd rfl (.inl rfl)) (pgs_cons (pg_name (i := 11) scPSearched.nd rfl (.inl rfl)) pgs_nil))) (fun _ _ _ _ _ => pts_nil) (fun _ _ _ _ _ => (show L2.PI _ _ _ (iList K (tCall spRw [] E0 (tCons (tVar 7) (tCons (tVar 10) (tCons (tVar 11) (tCons (tVar 6) tNil)))))) from pi_list (pe_call DQRanges.ok (hr.mono (by decide)) (by rfl) DQRanges.g DQRanges.F.kp DQRanges.b .nil pass0 (pa_cons (pv 7) (pa_cons (pv 10) (pa_cons (pv 11) (pa_cons (pv 6) pa_nil))))))) (fun _ _ _ _ _ => pg_name (i := 12) scPSearched.nd rfl (.inl rfl)) (fun _ _ _ _ _ => pts_nil) (fun _ _ _ _ _ => (pv 12)))
        (pss_one (ps_aug (i := 4) scPSearched.nd rfl (.inl rfl) (pe_callB call_len_seq (by rfl) T.len PySem.boot_len (pa_cons (pv 3) pa_nil)) ip_add)))))
      (pss_one (ps_ret (pe_tup (pa_cons (pv 3) (pa_cons (pv 4) pa_nil))))))))))), ?_⟩
    obtain ⟨s, ts, a, us, ps, rfl, hl, ha, hv, l1, l30, q⟩ := h
    have sz : sizeLine = 16777216 := sizeLine_eq
    have lv := hv.len
    refine ⟨.ref a, rfl, a, us, ps, rfl, ha, hv, l1, l30, fun H1 k1 => ⟨_, rfl, iteF ?_⟩⟩
    have ha1 := k1 _ _ ha
    refine ⟨.ref a, rfl, a, rfl, ⟨_, SqT.of ha1⟩, fun G nG => lc_tup (K := K) (xs := us) (fun i H' => Same H1 H' ∧ H' G = some (.lst (List.replicate i (V.bl false)))) ⟨Same.new nG, upd_same⟩ (fun i H' _ g => SqT.of (g.1 _ _ ha1)) ?_ ?_⟩
    · rintro i u H3 hu ⟨k3, hG⟩
      obtain ⟨p, _, ⟨b, rfl, hb⟩, ok⟩ := hv.get hu
      have li := (List.getElem?_eq_some_iff.mp hu).1
      refine ⟨rfl, .ref b, rfl, b, p.v, 0, _, rfl, rfl, SqT.of (k3 _ _ (k1 _ _ hb)), (by cases p <;> rfl : atI p.v 0 = some (p.v.headD .non)), by cases p <;> rfl, _, hG, ?_, sameAt k3 nG, ?_⟩
      · rw [List.length_replicate]
        omega
      · rw [upd_same, List.replicate_succ']
        have : decide (p.v.headD .non = V.str "gap") = false := decide_eq_false (by cases p with
          | any => exact fun e => absurd (V.str.inj e) (by decide +kernel)
          | sg c => exact fun e => absurd (V.str.inj e) (by decide +kernel)
          | lot cs => exact fun e => absurd (V.str.inj e) (by decide +kernel))
        rw [this]
    rintro H2 ⟨k2, hG⟩
    refine ⟨G, List.replicate us.length false, rfl, sq_of (by rw [hG, List.map_replicate]), _, rfl, ?_⟩
    rw [show (List.replicate us.length false).any id = false from List.any_eq_false.mpr fun b hb => by rw [(List.mem_replicate.mp hb).2]; exact Bool.false_ne_true]
    refine iteF ?_
    have k12 := k1.trans k2
    clear hG nG k2 ha1
    dsimp only [tNext, tDrop]
    refine ⟨.ref s, rfl, s, ts, rfl, hl.same k12, fun O H3 k3 _ ⟨os, hO, hos⟩ => ?_⟩
    have kH := k12.trans k3
    have lo : os.length = (ord ts).length := hos.len
    dsimp only [tAsg, gName]
    refine ⟨.ref O, rfl, O, os, rfl, .inl (sq_of hO), by show 2 ≤ sizeLine; decide, fun t nt => ⟨by show 1 ≤ sizeLine; decide, fun R nR => ?_⟩⟩
    have kt := Same.new (H := H3) (o := .tup [.int 0, .int (os.length : Nat)]) nt
    have kR := kt.trans (Same.new (o := .lst [V.ref t]) nR)
    have hR : PsL (upd (upd H3 t (.tup [.int 0, .int (os.length : Nat)])) R (.lst [V.ref t])) R (rgs ts ps 0) := ⟨_, upd_same, .cons ⟨t, rfl, by rw [← lo]; exact Same.new nR _ _ upd_same⟩ .nil⟩
    have hO4 := kR _ _ hO
    have hos4 := hos.imp fun _ _ r => PAt.same kR r
    have k4 := kH.trans kR
    clear kt
    revert hR hO4 hos4 k4 kR
    generalize upd (upd H3 t (.tup [.int 0, .int (os.length : Nat)])) R (.lst [V.ref t]) = H4
    intro kR hR hO4 hos4 k4
    obtain ⟨⟨dx, a0, h1, h2⟩, few0, sg0, len0⟩ := hl
    have ha4 := k4 _ _ ha
    have lsz : (ord ts).length ≤ 2000 := by
      rw [(ord_perm ts).length_eq]
      have := plN_len len0 ts.length
      show (plN ts ts.length).length ≤ 2000
      omega
    clear kR
    refine ⟨.ref a, rfl, a, us, rfl, SqT.of ha4, for_enT (fun d σ H' => ∃ (R : Addr) (u5 u6 u7 : Option V), σ = [some (.ref s), some (.ref a), some (.ref O), some (.ref R), some (.int (manyR ts ps d : Nat)), u5, u6, u7, none, none, none, none, none] ∧ Same H4 H' ∧ PsL H' R (rgs ts ps d)) ⟨R, none, none, none, rfl, Same.refl H4, hR⟩ (fun i σ H' g => by obtain ⟨_, _, _, _, _, k, _⟩ := g; exact SqT.of (k _ _ ha4)) ?_ ?_⟩
    · rintro d u σ H5 hu ⟨R, u5, u6, u7, rfl, k5, rs, hR, hrs⟩ t nt
      obtain ⟨p, hp, hup, ok⟩ := hv.get hu
      have kt := Same.new (H := H5) (o := .tup [.int (d : Nat), u]) nt
      have hT : upd H5 t (.tup [.int (d : Nat), u]) t = some (.tup [.int (d : Nat), u]) := upd_same
      have k6 := k5.trans kt
      have hR6 := kt _ _ hR
      have hrs6 := hrs.imp fun _ _ r => PAt.same kt r
      clear hR hrs k5
      revert hT k6 hR6 hrs6 kt
      generalize upd H5 t (.tup [.int (d : Nat), u]) = H6
      intro kt hT k6 hR6 hrs6
      clear kt
      have k06 := k4.trans k6
      refine ⟨t, [.int (d : Nat), u], rfl, SqT.of hT, rfl, .int (d : Nat), [u], rfl, u, [], rfl, rfl, ?_⟩
      dsimp only [tSeq, tAsg, gName]
      refine ⟨.ref O, rfl, O, rfl, ⟨_, sq_of (k6 _ _ hO4)⟩, fun S nS => lc_list (K := K) (xs := os) (fun i H' => Same H6 H' ∧ H' S = some (.lst ((((ord ts).take i).map (sgn ts d)).map soV))) ⟨Same.new nS, upd_same⟩ (fun i H' _ w => sq_of (w.1 _ _ (k6 _ _ hO4))) ?_ ?_⟩
      · rintro i x H7 hx ⟨k7, hS⟩
        obtain ⟨q', ep, b, rfl, eb⟩ := hos4.at hx
        have ip := ord_mem.mp (List.mem_of_getElem? ep)
        have k07 := k06.trans k7
        refine ⟨b, _, rfl, SqT.of ((k6.trans k7) _ _ eb), rfl, _, _, rfl, _, _, rfl, rfl, rfl, .ref s, rfl, s, C, dx, _, .ref a0, rfl, k07 _ _ h1, L.cl, L.nt, lk1, _, rfl, a0, _, _, _, rfl, rfl, SqT.of (k07 _ _ h2), atI_nat (tx_at ip.text), .int (q'.2 : Nat), rfl, .int (d : Nat), rfl, _, _, rfl, rfl, _, rfl, .int (q'.2 : Nat), rfl, .int (d : Nat), rfl, _, _, rfl, rfl, _, _, rfl, rfl, _, rfl, _, rfl, len5 (Nat.le_trans (tx_len len0 _) (by decide)), _, hS, ?_, sameAt k7 nS, ?_⟩
        · rw [List.length_map, List.length_map, List.length_take]
          omega
        · rw [upd_same, take_snoc ep, List.map_append, List.map_append]
          have := cut_sgn (z := tx ts q'.1) (k := q'.2 + d)
          rw [show ((q'.2 + d : Nat) : Int) = (q'.2 : Int) + (d : Int) by omega] at this
          exact congrArg (fun v => some (HO.lst (_ ++ [v]))) this
      · rintro H7 ⟨k7, hS⟩
        rw [lo, List.take_length] at hS
        have hR7 := k7 _ _ hR6
        have hrs7 := hrs6.imp fun _ _ r => PAt.same k7 r
        have hup7 := hup.same (k06.trans k7)
        have lr := hrs6.len
        have hpD : ps.getD d .any = p := by rw [List.getD_eq_getElem?_getD, hp]; rfl
        obtain ⟨g, eg⟩ : ∃ g : Pl → List Pl, g = fun r => rwN ((ord ts).map (sgn ts d)) p r.1 (r.2 - r.1) := ⟨_, rfl⟩
        have few1 : ∀ j, (((rgs ts ps d).take j).flatMap g).length ≤ 2000 := fun j => by
          have h := rgs_few ts ps d
          have e : rgs ts ps (d + 1) = (rgs ts ps d).flatMap g := by
            show (rgs ts ps d).flatMap _ = _
            rw [eg, hpD]
          rw [e] at h
          have h3 : (rgs ts ps d).flatMap g = ((rgs ts ps d).take j).flatMap g ++ ((rgs ts ps d).drop j).flatMap g := by rw [← List.flatMap_append, List.take_append_drop]
          rw [h3, List.length_append] at h
          omega
        refine ⟨.ref R, rfl, R, rfl, ⟨_, sq_of hR7⟩, fun D nD => wk walk_list (fun j H' => Same H7 H' ∧ PsL H' D (((rgs ts ps d).take j).flatMap g)) ⟨Same.new nD, [], upd_same, .nil⟩ (fun i H' _ w => sq_of (w.1 _ _ hR7)) ?_ ?_⟩
        · rintro j x H8 H9 hj ⟨k8, vs8, hD, hv8⟩ ⟨rfl, hx⟩
          obtain ⟨r, er, b, rfl, eb⟩ := hrs7.at hx
          obtain ⟨r1, r2⟩ := rgs_in ts ps d r (List.mem_of_getElem? er)
          have gr : rwN ((ord ts).map (sgn ts d)) p r.1 (r.2 - r.1) = g r := by rw [eg]
          have fj := few1 (j + 1)
          rw [take_snoc er, List.flatMap_append, List.flatMap_singleton, List.length_append] at fj
          refine ⟨b, _, rfl, SqT.of (k8 _ _ eb), rfl, _, _, rfl, _, _, rfl, rfl, rfl, .ref S, rfl, .int (r.1 : Nat), rfl, .int (r.2 : Nat), rfl, u, rfl, S, r.1, r.2 - r.1, u, p, (ord ts).map (sgn ts d), ?_, k8 _ _ hS, ?_, ?_, hup7.same k8, fun F H10 nF k10 ⟨ws, hF, hws⟩ => ?_⟩
          · rw [show r.1 + (r.2 - r.1) = r.2 by omega]
            rfl
          · rw [List.length_map]
            omega
          · rw [List.length_map]
            exact lsz
          · rw [gr] at hws
            have lw := hws.len
            refine ⟨F, rfl, ⟨_, sq_of hF⟩, wk walk_list (fun l H' => Same H7 H' ∧ H' F = some (.lst ws) ∧ All2 (PAt H') ws (g r) ∧ PsL H' D (((rgs ts ps d).take j).flatMap g ++ (g r).take l)) ⟨k8.trans k10, hF, hws, vs8, k10 _ _ hD, by simpa using hv8.imp fun _ _ r => PAt.same k10 r⟩ (fun i H' _ w => sq_of w.2.1) ?_ ?_⟩
            · rintro l y H11 H12 hl ⟨k11, hF11, hw11, vs11, hD11, hv11⟩ ⟨rfl, hy⟩
              obtain ⟨q2, eq2, kq⟩ := hw11.at hy
              refine ⟨rfl, y, rfl, vs11, hD11, ?_, sameAt k11 nD, ?_, hw11.imp fun _ _ r => PAt.put hD11 r, vs11 ++ [y], upd_same, ?_⟩
              · have := hv11.len
                rw [List.length_append, List.length_take] at this
                omega
              · rw [upd_ne (Ne.symm (ne_of_none hD nF))]
                exact hF11
              · rw [take_snoc eq2, ← List.append_assoc]
                exact (hv11.snoc kq).imp fun _ _ r => PAt.put hD11 r
            · rintro H11 ⟨k11, hF11, hw11, vs11, hD11, hv11⟩
              rw [lw, List.take_length] at hv11
              refine ⟨k11, vs11, hD11, ?_⟩
              rw [take_snoc er, List.flatMap_append, List.flatMap_singleton]
              exact hv11
        · rintro H8 ⟨k8, vs8, hD, hv8⟩
          rw [lr, List.take_length] at hv8
          have e : rgs ts ps (d + 1) = (rgs ts ps d).flatMap g := by
            show (rgs ts ps d).flatMap _ = _
            rw [eg, hpD]
          rw [← e] at hv8
          have lv8 := hv8.len
          refine ⟨_, rfl, .ref D, rfl, D, vs8, rfl, .inl (sq_of hD), _, _, rfl, rfl, D, some (.int (d : Nat)), some u, some (.ref S), ?_, k6.trans (k7.trans k8), vs8, hD, hv8⟩
          have em : ((manyR ts ps d : Nat) : Int) + ((vs8.length : Nat) : Int) = ((manyR ts ps (d + 1) : Nat) : Int) := by
            show _ = ((manyR ts ps d + (rgs ts ps (d + 1)).length : Nat) : Int)
            omega
          rw [← em]
          rfl
    · rintro σ H5 ⟨R, u5, u6, u7, rfl, k5, rs, hR, hrs⟩
      rw [lv] at hrs ⊢
      refine ⟨.ref R, rfl, .int (manyR ts ps ps.length : Nat), rfl, by show 2 ≤ sizeLine; decide, fun T nT => ?_⟩
      have kT := Same.new (H := H5) (o := .tup [.ref R, .int (manyR ts ps ps.length : Nat)]) nT
      exact q T R _ (k4.trans (k5.trans kT)) upd_same ⟨rs, kT _ _ hR, hrs.imp fun _ _ r => PAt.same kT r⟩

end
end LawK
set_option maxHeartbeats 4000000
/-! Objects of an own class, made where the making may raise; == by an own __eq__, with anything. -/
namespace Ev
open PySem PySem.Spec PyProof.Rows L2
section
variable {X : Cx} {CX : CXT} {k : Nat} {f C : Addr} {fd : FuncData} {ps : List Str} {sp : Sp} {x : Str} {p pos : Pos} {e : Expr} {es : List Expr} {t : TA}
theorem run_mkAt {pins : List (Addr × Obj)} {σ : L2.St} {H : Hp} {s : Shared} {Q : VK} {us : List Value} {vs : List V} {E : XK} (M : Mk X.K C f) (F : FnOk X.prog X.w X.K X.mg X.base CX k f fd ps sp) (hr : Room (k + 1) X.A) (hb : Binds X.K fd ps []) (hx : PassesAt CX X σ E) (I : Inv X pins σ H s) (r : Vals vs us)
    (h : ∀ a dx, H a = none → H dx = none → dx ≠ a → sp (.ref a :: vs) (upd (upd H dx (.own a)) a (.ins C dx [])) (fun v H2 => v = .non ∧ Q (.ref a) H2) E) :
    wpAny (model X.prog X.w) X.A (call (.ref C) us) (EP X pins σ Q) X.xe s := by
  have q := h (s.heap.objs.size + 1) s.heap.objs.size (I.hok.fresh (Nat.le_succ _)) (I.hok.fresh (Nat.le_refl _)) (Nat.ne_of_lt (Nat.lt_succ_self _))
  have J := Inv.made (C := C) I
  have rv : Vals (V.ref (s.heap.objs.size + 1) :: vs) (Value.ref (s.heap.objs.size + 1) :: us) := .cons rfl r
  have len := F.len _ _ _ _ q
  have lu : (Value.ref (s.heap.objs.size + 1) :: us ++ []).length = ps.length := by
    rw [List.append_nil, ← rv.length]
    exact len
  have bnd := hb _ (Value.ref (s.heap.objs.size + 1) :: us) J.kIn lu
  rw [List.append_nil] at bnd
  have go := F.run _ X.stack _ _ ⟨Value.ref (s.heap.objs.size + 1) :: us, []⟩ (Value.ref (s.heap.objs.size + 1) :: us) _ _ E (hr.make C us []) (J.env0.make C us []) bnd rv q
  refine wpAny_call (make_map (f := f) I.kIn M.makes M.init (beq_iff_eq.mp M.fn) (codeAny_mono go ?_))
  intro res s' got
  match res, got with
  | .error er, got => exact hx pins _ _ er s' J got
  | .ok (.ret u), got =>
    obtain ⟨v, H', I3, ru, rfl, q3⟩ := J.after got
    exact ⟨ru, ⟨V.ref (s.heap.objs.size + 1), H', I3, rfl, q3⟩⟩
  | .ok .next, got => exact got.elim
  | .ok .brk, got => exact got.elim
  | .ok .cont, got => exact got.elim
def tMkS (C : Addr) (sp : Sp) (E : L2.St → XK) (t : TA) : TE := fun σ H Q => t σ H fun vs H1 => ∀ a dx, H1 a = none → H1 dx = none → dx ≠ a →
  sp (.ref a :: vs) (upd (upd H1 dx (.own a)) a (.ins C dx [])) (fun v H2 => v = .non ∧ Q (.ref a) H2) (E σ)
theorem pe_mkS {E : L2.St → XK} (M : Mk X.K C f) (F : FnOk X.prog X.w X.K X.mg X.base CX k f fd ps sp) (hr : Room (k + 1) X.A) (hg : Gl X x) (hm : X.mg x = some (.ref C)) (hb : Binds X.K fd ps []) (hx : ∀ σ, PassesAt CX X σ (E σ)) (ha : PA X (e :: es) t)
    (hdb : (x == ("__debug__" : Str)) = false := by decide) (he : starEach (e :: es) X.env = (false, eval e X.env) :: starEach es X.env := by rfl) (hpl : (backTo pos (starEach es X.env)).any (·.1) = false := by rfl) :
    PE X (.Call (.Name x p) (e :: es) [] pos) (tMkS C sp E t) := by
  constructor
  intro pins s σ H Q I h
  refine wpAny_Call_Name_kw (ld_glob I hg hm ?_ hdb)
  refine PySem.W.callWith_K (h₀ := X.base) I.ok.mod.kin M.kp (thn (ha.run pos pins s σ H _ I h) ?_) he hpl
  rintro us s1 ⟨vs, H1, I1, r, q⟩
  exact ⟨I1.kIn, run_mkAt M F hr hb (hx σ) I1 r q⟩
theorem passL_at (σ : L2.St) : PassesAt (L2.CX X.prog X.w) X σ E0 := fun pins H s e s' I h => passL pins σ H s e s' I h
/-- x == y, x an object of the class at C -/
def rEqO (C : Addr) (K : PySem.W.Frag) (sp : Sp) (E : XK) : R2 := fun x y H Q => ∃ a dx fs t, x = .ref a ∧ H a = some (.ins C dx fs) ∧ TyX K H y t ∧ PySem.W.notFirst K C t = true ∧ sp [x, y] H (fun v H' => (∃ b, v = .bl b) ∧ Q v H') E
theorem op_eqO {E : XK} (F : FnOk X.prog X.w X.K X.mg X.base CX k f fd ps sp) (hs : PySem.W.findIn X.K (.ref C) "__eq__" = some (some (.ref f))) (hf : PySem.W.isFn X.K (.ref f) = true) (hb : Binds X.K fd ps []) (hx : Passes CX X E) (hr : Room k X.A) : OpR X (compareOp .Eq) (rEqO C X.K sp E) := by
  intro pins s σ H x y v u Q I rx ry h
  obtain ⟨a, dx, fs, t, rfl, ha, ty, nf, q⟩ := h
  cases rx
  obtain ⟨mA, J, _⟩ := ins_get I.hok ha
  obtain ⟨od, J, _⟩ := J.look
  obtain ⟨m, hF⟩ := I.fr
  obtain ⟨P, Z, hp, _⟩ := kit_of I ry ty
  show wpAny (model X.prog X.w) X.A (richCompare .Eq _ u) (EP X pins σ Q) X.xe s
  refine PySem.W.cmp_K (op := .Eq) (tb := t) hr.units0 hF I.ok.mod.kin J (Z.ty _ _ I.kIn hp) nf hs hf ?_
  have len := F.len _ _ _ _ q
  have rv : Vals [V.ref a, y] [Value.ref a, u] := .cons rfl (.cons ry .nil)
  have bnd := hb s [Value.ref a, u] I.kIn (by simpa using len)
  have go := F.run X.A X.stack s H ⟨[Value.ref a, u], []⟩ [Value.ref a, u] [V.ref a, y] _ E hr I.env0 (by simpa using bnd) rv q
  refine wpAny_call (codeAny_mono go ?_)
  intro res s' got
  match res, got with
  | .error er, got => exact hx pins σ H s er s' I got
  | .ok (.ret w), got =>
    obtain ⟨z, H', I', rz, ⟨b, rfl⟩, q'⟩ := I.after got
    cases rz
    exact ⟨.bl b, H', I', rfl, q'⟩
  | .ok .next, got => exact got.elim
  | .ok .brk, got => exact got.elim
  | .ok .cont, got => exact got.elim
end
end Ev
set_option maxHeartbeats 4000000
namespace LawK
open PySem PySem.Spec PyProof.Rows L2 Ev

theorem lib_new {H3 H4 : Hp} {C b s dx : Addr} {ts : List Str} (ht : TsAt H3 b ts) (ns : H3 s = none) (ndx : H3 dx = none) (ndxs : dx ≠ s)
    (ha : H4 s = some (.ins C dx [("texts", .ref b)])) (ho : ∀ c u, c ≠ s → upd (upd H3 dx (.own s)) s (.ins C dx []) c = some u → H4 c = some u) : Same H3 H4 ∧ LibAt H4 C s ts := by
  have ka := Same.new (o := .own s) ndx
  have ns2 : upd H3 dx (.own s) s = none := by
    rw [upd_ne (Ne.symm ndxs)]
    exact ns
  have kb := ka.trans (Same.new (o := .ins C dx []) ns2)
  have k4 : Same H3 H4 := fun c u hc => ho c u (ne_of_none (ka _ _ hc) ns2) (kb _ _ hc)
  exact ⟨k4, ⟨dx, b, ha, k4 _ _ ht.at_⟩, ht.few, ht.sg, ht.len⟩
theorem lib_in {H3 : Hp} {C b s dx : Addr} {ts : List Str} (ht : TsAt H3 b ts) (ns : H3 s = none) (ndx : H3 dx = none) (ndxs : dx ≠ s) : upd (upd H3 dx (.own s)) s (.ins C dx []) b = some (.tup (ts.map V.str)) := by
  have ka := Same.new (o := .own s) ndx
  have ns2 : upd H3 dx (.own s) s = none := by
    rw [upd_ne (Ne.symm ndxs)]
    exact ns
  exact (ka.trans (Same.new (o := .ins C dx []) ns2)) _ _ ht.at_
theorem LibAt.but {H H' : Hp} {C s p l : Addr} {ts : List Str} (h : LibAt H C s ts) (hp : HandL H p l) (b : But p l H H') : LibAt H' C s ts := by
  obtain ⟨⟨dx, a, h1, h2⟩, h3, h4, h5⟩ := h
  exact ⟨⟨dx, a, b _ _ (hand_ne hp h1 fun _ z => by cases z) h1, b _ _ (tup_ne hp h2) h2⟩, h3, h4, h5⟩
def rLenQ (K : PySem.W.Frag) : List V → Hp → VK → Prop := fun xs H Q => ∃ (p : Addr) (ys : List V), xs = [V.ref p] ∧ (SqL K H p ys ∨ SqT K H p ys) ∧ Q (.int (ys.length : Nat)) H
structure DkG (P : Program) (w : World) (K : PySem.W.Frag) (mg : Str → Option Value) (base : Heap) (x : Str) (st : Stmt) (ps : List Str) (k : Nat) (sp : Sp) (f : Addr) (fd : FuncData) : Prop where
  F : Fun K x x st f fd
  b : Binds K fd ps []
  g : mg x = some (.ref f)
  ok : FnG P w K mg base CX0 k f fd ps sp
def spLaw (K : PySem.W.Frag) : Sp := fun vs H Q _ => ∃ (a : Addr) (ns : List Int), vs = [.ref a] ∧ SqL K H a (ns.map V.int) ∧ ∀ H', Q (.bl true) H'
/-! ### the data that are compared -/
theorem int_wt {k : Nat} (h : k ≤ 100000) : (PyData.int (k : Nat)).showable = true ∧ (PyData.int (k : Nat)).leavesShort 13 = true ∧ (PyData.int (k : Nat)).weight ≤ 20 := by
  obtain ⟨a, b⟩ := show_int (i := (k : Nat)) (by omega) (by omega)
  refine ⟨a, b, ?_⟩
  simp only [PyData.weight]
  split
  · omega
  · rename_i ne
    have h0 : ((k : Nat) : Int).natAbs ≠ 0 := by
      intro z
      have z2 : ((k : Nat) : Int) = 0 := by omega
      rw [z2] at ne
      exact ne rfl
    have := (Nat.log2_lt h0).mpr (show ((k : Nat) : Int).natAbs < 2 ^ 19 from by
      have : (2 : Nat) ^ 19 = 524288 := by decide
      omega)
    omega
theorem pairs_data : ∀ fs : List Pl, (∀ p ∈ fs, p.1 ≤ 100000 ∧ p.2 ≤ 100000) → PyData.showableAll (fs.map encQ) = true ∧ PyData.depthAll (fs.map encQ) ≤ 1 ∧ PyData.leavesShortAll 13 (fs.map encQ) = true ∧ PyData.weightAll (fs.map encQ) ≤ 43 * fs.length ∧ PyData.hasDictAll (fs.map encQ) = false
  | [], _ => ⟨rfl, Nat.zero_le _, rfl, Nat.zero_le _, rfl⟩
  | p :: fs, h => by
    obtain ⟨h1, h2, h3, h4, h5⟩ := pairs_data fs fun q hq => h q (List.mem_cons_of_mem _ hq)
    obtain ⟨b1, b2⟩ := h p List.mem_cons_self
    obtain ⟨x1, x2, x3⟩ := int_wt b1
    obtain ⟨y1, y2, y3⟩ := int_wt b2
    refine ⟨?_, ?_, ?_, ?_, ?_⟩
    · simp only [List.map_cons, encQ, PyData.showableAll, PyData.showable, Bool.and_true] at x1 y1 h1 ⊢
      simp only [x1, y1, h1, Bool.and_self]
    · simp only [List.map_cons, encQ, PyData.depthAll, PyData.depth]
      have : max (max 0 (max 0 0) + 1) (PyData.depthAll (List.map (fun p : Pl => PyData.tuple [.int (p.1 : Nat), .int (p.2 : Nat)]) fs)) ≤ 1 := Nat.max_le.mpr ⟨by decide, h2⟩
      exact this
    · simp only [List.map_cons, encQ, PyData.leavesShortAll, PyData.leavesShort, Bool.and_true] at x2 y2 h3 ⊢
      simp only [x2, y2, h3, Bool.and_self]
    · simp only [List.map_cons, encQ, PyData.weightAll, List.length_cons] at h4 ⊢
      have e : (PyData.tuple [.int (p.1 : Nat), .int (p.2 : Nat)]).weight = (PyData.int (p.1 : Nat)).weight + 1 + ((PyData.int (p.2 : Nat)).weight + 1 + 0) := by
        simp only [PyData.weight, PyData.weightAll]
      omega
    · simp only [List.map_cons, encQ, PyData.hasDictAll, PyData.hasDict, Bool.or_false] at h5 ⊢
      exact h5
def encR (fs : List Pl) (m : Nat) : PyData := .tuple [.list (fs.map encQ), .int (m : Nat)]
theorem encR_data {fs : List Pl} {m : Nat} (h : ∀ p ∈ fs, p.1 ≤ 100000 ∧ p.2 ≤ 100000) (lf : fs.length ≤ 2000) (hm : m ≤ 100000) : (encR fs m).showable = true ∧ (encR fs m).depth ≤ 100 ∧ (encR fs m).hasDict = false ∧ (encR fs m).shown.length ≤ 16000000 := by
  obtain ⟨h1, h2, h3, h4, h5⟩ := pairs_data fs h
  obtain ⟨x1, x2, x3⟩ := int_wt hm
  have ls : (encR fs m).leavesShort 13 = true := by
    simp only [encR, PyData.leavesShort, PyData.leavesShortAll, Bool.and_true] at x2 ⊢
    simp only [h3, x2, Bool.and_self]
  have wt : (encR fs m).weight ≤ 43 * fs.length + 1 + 21 := by
    have e : (encR fs m).weight = PyData.weightAll (fs.map encQ) + 1 + ((PyData.int (m : Nat)).weight + 1 + 0) := by
      simp only [encR, PyData.weight, PyData.weightAll]
    omega
  refine ⟨?_, ?_, ?_, ?_⟩
  · simp only [encR, PyData.showable, PyData.showableAll, Bool.and_true] at x1 ⊢
    simp only [h1, x1, Bool.and_self]
  · simp only [encR, PyData.depth, PyData.depthAll]
    have : max (PyData.depthAll (fs.map encQ) + 1) (max 0 0) ≤ 2 := Nat.max_le.mpr ⟨by omega, by decide⟩
    omega
  · simp only [encR, PyData.hasDict, PyData.hasDictAll, h5, Bool.or_false]
  · have := PyData.shown_le 13 (by decide) (encR fs m) ls
    omega
theorem encR_dp {K : PySem.W.Frag} {H : Hp} {T R : Addr} {fs : List Pl} {m : Nat} (hT : H T = some (.tup [.ref R, .int (m : Nat)])) (hR : PsL H R fs) : Dp K H (.ref T) (encR fs m) := by
  obtain ⟨vs, e, h⟩ := hR
  have all : DpAll K H vs (fs.map encQ) := by
    clear e
    induction h with
    | nil => exact .nil
    | cons r _ ih => exact .cons (encQ_dp r) ih
  exact .tup (SqT.of hT) (.cons (.lst (sq_of e) all) (.cons (.int _) .nil))
/-- the parts that are no gaps -/
def noGap (os : List (Option Prt)) : List Prt := os.filterMap id
theorem noGap_len (os : List (Option Prt)) : (noGap os).length ≤ os.length := List.length_filterMap_le _ _
theorem patV_of {H : Hp} {us : List V} {ps : List Prt} (h : All2 (fun v p => PrtAt H v p ∧ p.Ok) us ps) : PatV H us ps := by
  refine ⟨h.len, fun i v p e1 e2 => ?_, fun p hp => ?_⟩
  · obtain ⟨p', e, r⟩ := h.at e1
    rw [e2] at e
    rw [Option.some.inj e]
    exact r.1
  · obtain ⟨i, e⟩ := List.mem_iff_getElem?.mp hp
    obtain ⟨v, _, r⟩ := h.of_at e
    exact r.2
theorem noGap_snoc {os : List (Option Prt)} {i : Nat} {o : Option Prt} (h : os[i]? = some o) : noGap (os.take (i + 1)) = noGap (os.take i) ++ o.toList := by
  unfold noGap
  rw [take_snoc h, List.filterMap_append]
  cases o <;> rfl
theorem PsL.but {H H' : Hp} {p l O : Addr} {fs : List Pl} (h0 : HandL H p l) (ne : O ≠ p ∧ O ≠ l) (b : But p l H H') (h : PsL H O fs) : PsL H' O fs := by
  obtain ⟨vs, e, r⟩ := h
  refine ⟨vs, b _ _ ne e, r.imp fun _ _ ⟨c, ec, hc⟩ => ⟨c, ec, b _ _ (tup_ne h0 hc) hc⟩⟩
theorem TsAt.but {H H' : Hp} {p l a : Addr} {ts : List Str} (h0 : HandL H p l) (b : But p l H H') (h : TsAt H a ts) : TsAt H' a ts := ⟨b _ _ (tup_ne h0 h.at_) h.at_, h.few, h.sg, h.len⟩
theorem PrtAt.put {H : Hp} {D : Addr} {us ws : List V} (hD : H D = some (.lst us)) {v : V} {p : Prt} (h : PrtAt H v p) : PrtAt (upd H D (.lst ws)) v p := by
  obtain ⟨b, e, hb⟩ := h
  refine ⟨b, e, ?_⟩
  rw [upd_ne fun z => by rw [z, hD] at hb; cases hb]
  exact hb
theorem head_gap (p : Prt) : (!decide (p.v.headD .non = V.str "gap")) = true := by
  have : decide (p.v.headD .non = V.str "gap") = false := decide_eq_false (by cases p with
    | any => exact fun e => absurd (V.str.inj e) (by decide +kernel)
    | sg c => exact fun e => absurd (V.str.inj e) (by decide +kernel)
    | lot cs => exact fun e => absurd (V.str.inj e) (by decide +kernel))
  rw [this]
  rfl
theorem PatV.but {H H' : Hp} {p l : Addr} {us : List V} {ps : List Prt} (h : PatV H us ps) (h0 : HandL H p l) (b : But p l H H') : PatV H' us ps := ⟨h.len, fun i v q e1 e2 => let ⟨c, ec, hc⟩ := h.at_ i v q e1 e2; ⟨c, ec, b _ _ (tup_ne h0 hc) hc⟩, h.ok⟩
theorem sgB_one {c : Nat} (h : sgC c = true) : sgB (sn c) = true := by
  have : sgB (SX.S [c]) = true := by rw [sgB_S]; exact List.all_eq_true.mpr fun d hd => by rw [List.mem_singleton.mp hd]; exact h
  exact this
theorem sum_cast (f : Nat → Nat) : ∀ l : List Nat, (l.map fun d => ((f d : Nat) : Int)).sum = (((l.map f).sum : Nat) : Int)
  | [] => rfl
  | x :: l => by
    simp only [List.map_cons, List.sum_cons]
    rw [sum_cast f l]
    omega
theorem many_int {ts : List Str} {ps : List Prt} {n : Nat} : (1 : Int) + ((List.range n).map fun d => (((rgs ts ps (d + 1)).length : Nat) : Int)).sum = ((manyR ts ps n : Nat) : Int) := by
  rw [sum_cast (fun d => (rgs ts ps (d + 1)).length), manyR_sum]
  omega
theorem many_few (ts : List Str) (ps : List Prt) : ∀ n, manyR ts ps n ≤ 1 + n * (ord ts).length
  | 0 => Nat.le_refl 1 |> fun h => by show 1 ≤ _; omega
  | n + 1 => by
    show manyR ts ps n + (rgs ts ps (n + 1)).length ≤ _
    have := many_few ts ps n
    have := rgs_few ts ps n
    have e : (n + 1) * (ord ts).length = n * (ord ts).length + (ord ts).length := by rw [Nat.add_mul, Nat.one_mul]
    omega
theorem rgs_len (ts : List Str) (ps : List Prt) {n : Nat} (h : 1 ≤ n) : (rgs ts ps n).length ≤ (ord ts).length := by
  cases n with
  | zero => omega
  | succ n => exact rgs_few ts ps n
theorem PatV.take {H : Hp} {us : List V} {ps : List Prt} (h : PatV H us ps) (n : Nat) : PatV H (us.take n) (ps.take n) := by
  refine ⟨by rw [List.length_take, List.length_take, h.len], fun i v p e1 e2 => ?_, fun p hp => h.ok p (List.mem_of_mem_take hp)⟩
  rw [List.getElem?_take] at e1 e2
  split at e1
  · rename_i l
    rw [if_pos l] at e2
    exact h.at_ i v p e1 e2
  · cases e1
abbrev sLaw : Stmt := topS 40
theorem scLaw : FnScope ["script", "pool", "turn", "texts", "library", "order", "pattern", "number", "at", "found", "many", "part", "sign", "word", "size"] ["script"] (defScope sLaw) := ⟨rfl, rfl, rfl, by decide +kernel, rfl, by decide +kernel, by decide +kernel⟩
section
variable {P : Program} {w : World} {K : PySem.W.Frag} {mg : Str → Option Value} {base : Heap}
variable {C fI : Addr} {fdI : FuncData}

theorem ok_law {f : Addr} {fd : FuncData} (F : Fun K "law" "law" sLaw f fd) {fPSearched : Addr} {fdPSearched : FuncData} (DPSearched : Dk P w K mg base "searched" sPSearched ["library", "pattern"] 6 (spSearched C) fPSearched fdPSearched) {fPool : Addr} {fdPool : FuncData} (DPool : Dk P w K mg base "_law_pool" sPool ["script"] 1 (spPool K) fPool fdPool) {fDraw : Addr} {fdDraw : FuncData} (DDraw : Dk P w K mg base "_law_draw" sDraw ["pool", "many"] 1 spDraw fDraw fdDraw) {fIs : Addr} {fdIs : FuncData} (DIs : DkG P w K mg base "_law_is" sIs ["told", "due"] 1 (spIs K) fIs fdIs) {fTexts : Addr} {fdTexts : FuncData} (DTexts : Dk P w K mg base "_law_texts" sTexts ["pool", "most"] 2 spTexts fTexts fdTexts) {fPlaces : Addr} {fdPlaces : FuncData} (DPlaces : Dk P w K mg base "_law_places" sPlaces ["texts"] 1 spOrd fPlaces fdPlaces) {fPattern : Addr} {fdPattern : FuncData} (DPattern : Dk P w K mg base "_law_pattern" sPattern ["pool", "signs", "most"] 3 spPattern fPattern fdPattern) {fBegun : Addr} {fdBegun : FuncData} (DBegun : Dk P w K mg base "_law_begun" sBegun ["texts", "pattern"] 2 spBegun fBegun fdBegun) {fRange : Addr} {fdRange : FuncData} (DRange : Dk P w K mg base "_law_range" sRange ["texts", "order", "word"] 1 spRange fRange fdRange) (L : LibC K mg C fI fdI) (GI : FnOk P w K mg base (L2.CX P w) 4 fI fdI ["self", "texts"] (spLInit C))
    (T : Glob mg) : FnAt callerA P w K mg base CX0 f fd ["script"] (spLaw K) := by
  refine fun_at (k := 12) F scLaw ⟨rfl, by decide, by decide⟩ (fun vs H Q E h => ?_) (fun cdv outer s H vs Q E hr h => ?_)
  · obtain ⟨a, ns, rfl, _⟩ := h
    rfl
  · refine ⟨_, (pss_cons (ps_set (i := 1) scLaw.nd rfl (.inl rfl) (pe_call DPool.ok (hr.mono (by decide)) (by rfl) DPool.g DPool.F.kp DPool.b .nil pass0 (pa_cons (pv 0) pa_nil)))
      (pss_cons (ps_for PassesOwn.never rfl (pi_range1 (by rfl) T.range (pa_cons pe_int pa_nil)) (pg_name (i := 2) scLaw.nd rfl (.inl rfl))
      (pss_cons (ps_set (i := 3) scLaw.nd rfl (.inr rfl) (pe_call DTexts.ok (hr.mono (by decide)) (by rfl) DTexts.g DTexts.F.kp DTexts.b .nil pass0 (pa_cons (pv 1) (pa_cons pe_int pa_nil))))
        (pss_cons (ps_asg (pe_tup (pa_cons (pe_mkS (E := fun _ => E0) L.mak GI (hr.mono (by decide)) (by rfl) L.g L.bI (fun σ => passL_at σ) (pa_cons (pv 3) pa_nil)) (pa_cons (pe_call DPlaces.ok (hr.mono (by decide)) (by rfl) DPlaces.g DPlaces.F.kp DPlaces.b .nil pass0 (pa_cons (pv 3) pa_nil)) pa_nil))) (pg_tup (by rfl) (pgs_cons (pg_name (i := 4) scLaw.nd rfl (.inl rfl)) (pgs_cons (pg_name (i := 5) scLaw.nd rfl (.inr rfl)) pgs_nil))))
        (pss_cons (ps_set (i := 6) scLaw.nd rfl (.inr rfl) (pe_callTy call_tuple_of (by rfl) T.tuple (by decide +kernel) (pa_cons (pe_lc (own := [("part", 11)]) (g := gName 11) (by rfl) scLaw.nd (pi_tup (pe_call DPattern.ok (hr.mono (by decide)) (by rfl) DPattern.g DPattern.F.kp DPattern.b .nil pass0 (pa_cons (pv 1) (pa_cons (pe_ifExp (pt_cmpR op_gt (pe_call DDraw.ok (hr.mono (by decide)) (by rfl) DDraw.g DDraw.F.kp DDraw.b .nil pass0 (pa_cons (pv 1) (pa_cons pe_int pa_nil))) pe_int (nomark _)) pe_str pe_str) (pa_cons pe_int pa_nil))))) (blkOk_by (N := ["script", "pool", "turn", "texts", "library", "order", "pattern", "number", "at", "found", "many", "part", "sign", "word", "size"]) (sc := defScope sLaw) (by decide +kernel)) (fun _ _ _ _ _ => pg_name (i := 11) scLaw.nd rfl (.inl rfl)) (fun _ _ _ _ _ => (pts_one (pt_cmpR op_ne (pe_ix (r := rIxT K) ix_tup (pv 11) pe_int (fun _ _ => rfl)) pe_str (nomark _)))) (fun _ _ _ _ _ => (pv 11))) pa_nil)))
        (pss_cons (ps_if (PW.pt (pw_and (pt_cmpR op_eq (pe_call DDraw.ok (hr.mono (by decide)) (by rfl) DDraw.g DDraw.F.kp DDraw.b .nil pass0 (pa_cons (pv 1) (pa_cons pe_int pa_nil))) pe_int (nomark _)) (pw_and1 (pt_cmpR op_gt (pe_callB call_len_seq (by rfl) T.len PySem.boot_len (pa_cons (pv 5) pa_nil)) pe_int (nomark _)))))
        (pss_cons (ps_asg (pe_ix ix_list (pv 5) (pe_call DDraw.ok (hr.mono (by decide)) (by rfl) DDraw.g DDraw.F.kp DDraw.b .nil pass0 (pa_cons (pv 1) (pa_cons (pe_callB call_len_seq (by rfl) T.len PySem.boot_len (pa_cons (pv 5) pa_nil)) pa_nil))) (fun _ _ => rfl)) (pg_tup (by rfl) (pgs_cons (pg_name (i := 7) scLaw.nd rfl (.inl rfl)) (pgs_cons (pg_name (i := 8) scLaw.nd rfl (.inl rfl)) pgs_nil))))
          (pss_one (ps_set (i := 6) scLaw.nd rfl (.inr rfl) (pe_callTy call_tuple_of (by rfl) T.tuple (by decide +kernel) (pa_cons (pe_lc (own := [("sign", 12)]) (g := gName 12) (by rfl) scLaw.nd (pi_str (pe_slice sl_str (pe_ix ix_tup (pv 3) (pv 7) (fun _ _ => rfl)) (po_some (pv 8)) (po_some (pe_op op_add (pe_op op_add (pv 8) pe_int) (pe_call DDraw.ok (hr.mono (by decide)) (by rfl) DDraw.g DDraw.F.kp DDraw.b .nil pass0 (pa_cons (pv 1) (pa_cons pe_int pa_nil))))))) (blkOk_by (N := ["script", "pool", "turn", "texts", "library", "order", "pattern", "number", "at", "found", "many", "part", "sign", "word", "size"]) (sc := defScope sLaw) (by decide +kernel)) (fun _ _ _ _ _ => pg_name (i := 12) scLaw.nd rfl (.inl rfl)) (fun _ _ _ _ _ => pts_nil) (fun _ _ _ _ _ => (pe_tup (pa_cons pe_str (pa_cons (pv 12) pa_nil))))) pa_nil)))))
        pss_nil)
        (pss_cons (ps_setLc (i := 9) (own := [("word", 13)]) (g := gName 13) (by rfl) scLaw.nd rfl rfl (sw_true rfl rfl rfl (by decide +kernel)) (pi_list (pe_call DBegun.ok (hr.mono (by decide)) (by rfl) DBegun.g DBegun.F.kp DBegun.b .nil pass0 (pa_cons (pv 3) (pa_cons (pv 6) pa_nil)))) (blkOk_by (N := ["script", "pool", "turn", "texts", "library", "order", "pattern", "number", "at", "found", "many", "part", "sign", "word", "size"]) (sc := defScope sLaw) (by decide +kernel)) (fun _ _ _ _ _ => pg_name (i := 13) scLaw.nd rfl (.inl rfl)) (fun _ _ _ _ _ => pts_nil) (fun _ _ _ _ _ => (pe_call DRange.ok (hr.mono (by decide)) (by rfl) DRange.g DRange.F.kp DRange.b .nil pass0 (pa_cons (pv 3) (pa_cons (pv 5) (pa_cons (pv 13) pa_nil))))))
        (pss_cons (ps_set (i := 10) scLaw.nd rfl (.inl rfl) (pe_op op_add pe_int (pe_callB (cr_sum rfl) (by rfl) T.sum (by decide +kernel) (pa_cons (pe_lc (own := [("size", 14)]) (g := gName 14) (by rfl) scLaw.nd (pi_range2 (by rfl) T.range (pa_cons pe_int (pa_cons (pe_op op_add (pe_callB call_len_seq (by rfl) T.len PySem.boot_len (pa_cons (pv 6) pa_nil)) pe_int) pa_nil))) (blkOk_by (N := ["script", "pool", "turn", "texts", "library", "order", "pattern", "number", "at", "found", "many", "part", "sign", "word", "size"]) (sc := defScope sLaw) (by decide +kernel)) (fun _ _ _ _ _ => pg_name (i := 14) scLaw.nd rfl (.inl rfl)) (fun _ _ _ _ _ => pts_nil) (fun _ _ _ _ _ => (pe_callB (r := rLenQ K) call_len_seq (by rfl) T.len PySem.boot_len (pa_cons (pe_call DBegun.ok (hr.mono (by decide)) (by rfl) DBegun.g DBegun.F.kp DBegun.b .nil pass0 (pa_cons (pv 3) (pa_cons (pe_slice sl_tupM (pv 6) po_none (po_some (pv 14))) pa_nil))) pa_nil)))) pa_nil))))
        (pss_one (ps_if (pt_not (pt_val (pe_callG DIs.ok (hr.mono (by decide)) rfl (by rfl) DIs.g DIs.F.kp DIs.b pass0 (pa_cons (pe_call DPSearched.ok (hr.mono (by decide)) (by rfl) DPSearched.g DPSearched.F.kp DPSearched.b .nil pass0 (pa_cons (pv 4) (pa_cons (pv 6) pa_nil))) (pa_cons (pe_tup (pa_cons (pe_callB (cr_sortedD hr.units) (by rfl) T.sorted (by decide +kernel) (pa_cons (pv 9) pa_nil)) (pa_cons (pv 10) pa_nil))) pa_nil)))))
        (pss_one (ps_ret pe_bl))
        pss_nil)))))))))
      (pss_one (ps_ret pe_bl)))), ?_⟩
    obtain ⟨a, ns, rfl, hS, q⟩ := h
    refine ⟨.ref a, rfl, a, ns, rfl, hS, fun p l H1 np nl h1 k1 => ?_⟩
    dsimp only [tSeq, gName]
    refine ⟨4, rfl, by omega, by omega, for_range (fun i σ H' => ∃ (u2 u3 u4 u5 u6 u7 u8 u9 u10 : Option V), σ = [some (.ref a), some (.ref p), u2, u3, u4, u5, u6, u7, u8, u9, u10, none, none, none, none] ∧ HandL H' p l) ⟨none, none, none, none, none, none, none, none, none, rfl, h1⟩ ?_ ?_⟩
    · rintro i σ H2 hi ⟨u2, u3, u4, u5, u6, u7, u8, u9, u10, rfl, h2⟩
      refine ⟨.ref p, rfl, p, 24, rfl, by decide, by decide, l, h2, fun ta ts H3 hta few sg len h3 b3 => ?_⟩
      have ht : TsAt H3 ta ts := ⟨hta, few, sg, fun t h => by have := len t h; omega⟩
      clear b3 hta
      dsimp only [tSeq, tAsg, gName]
      refine ⟨.ref ta, rfl, fun s dx ns' ndx ndxs => ?_⟩
      refine ⟨s, dx, ta, ts, rfl, upd_same, lib_in ht ns' ndx ndxs, ht.few, ht.sg, ht.len, fun H5 ha5 ho5 => ⟨rfl, ?_⟩⟩
      obtain ⟨k5, hL⟩ := lib_new ht ns' ndx ndxs ha5 ho5
      have ht := ht.same k5
      have h3 := h3.same k5
      clear ha5 ho5 ns' ndx ndxs
      refine ⟨.ref ta, rfl, ta, ts, rfl, ht, fun O H6 k6 nO hO => ⟨by show 2 ≤ sizeLine; decide, fun t nt => ⟨t, _, rfl, SqT.of upd_same, rfl, _, _, rfl, _, _, rfl, rfl, ?_⟩⟩⟩
      have nOp := h3.ne nO
      have kt := Same.new (H := H6) (o := .tup [.ref s, .ref O]) nt
      have k57 := k6.trans kt
      have ht := ht.same k57
      have hL := hL.same k57
      have h3 := h3.same k57
      have hO := hO.same kt
      clear k5 k6 k57 nO
      revert ht hL h3 hO
      generalize upd H6 t (.tup [.ref s, .ref O]) = H7
      intro ht hL h7 hO
      clear kt nt
      dsimp only [tSeq, tAsg, gName]
      refine ⟨.ref p, rfl, ?_⟩
      refine (?_ : ∀ R : V → Hp → Prop, (∀ z H8, sgB z = true → 0 < z.length → z.length ≤ 100 → HandL H8 p l → But p l H7 H8 → R (.str z) H8) → tIf _ _ _ _ H7 R) _ ?_
      · intro R kk
        refine ⟨.ref p, rfl, p, 3, rfl, by decide, by decide, l, h7, fun x H8 x0 x1 h8 b8 => ⟨_, _, rfl, rfl, _, rfl, ite2 (fun e => ?_) (fun e => ?_)⟩⟩
        · exact kk _ H8 (by decide +kernel) (by decide +kernel) (by decide +kernel) h8 b8
        · exact kk _ H8 (by decide +kernel) (by decide +kernel) (by decide +kernel) h8 b8
      intro z H8 sz z0 z1 h8 b8
      refine ⟨p, z, 6, rfl, sz, z0, z1, by decide, by decide, l, h8, fun pa us os H9 hpa hos los ⟨o0, os', eo⟩ h9 b9 => ⟨pa, rfl, ⟨_, SqT.of hpa⟩, fun D nD => lc_tup (K := K) (xs := us) (fun i H' => Same H9 H' ∧ ∃ ws, H' D = some (.lst ws) ∧ All2 (fun v p => PrtAt H' v p ∧ p.Ok) ws (noGap (os.take i))) ⟨Same.new nD, [], upd_same, .nil⟩ (fun i H' _ w => SqT.of (w.1 _ _ hpa)) ?_ ?_⟩⟩
      · rintro j x H10 hx ⟨k10, ws, hD, hws⟩
        obtain ⟨o, ho, hg⟩ := hos.at hx
        have hg := hg.same k10
        have lw := hws.len
        have ln := noGap_len (os.take j)
        rw [List.length_take] at ln
        cases o with
        | none =>
          obtain ⟨b, x1, x2, rfl, hb⟩ := hg
          refine ⟨rfl, .ref b, rfl, b, _, 0, _, rfl, rfl, SqT.of hb, rfl, rfl, _, rfl, ite2 (fun e => ?_) (fun _ => ⟨k10, ws, hD, ?_⟩)⟩
          · rw [decide_eq_true rfl] at e
            exact Bool.noConfusion e
          · rw [noGap_snoc ho]
            show All2 _ ws (noGap (os.take j) ++ [])
            rw [List.append_nil]
            exact hws
        | some pt =>
          obtain ⟨⟨b, rfl, hb⟩, ok⟩ := hg
          refine ⟨rfl, .ref b, rfl, b, pt.v, 0, _, rfl, rfl, SqT.of hb, (by cases pt <;> rfl : atI pt.v 0 = some (pt.v.headD .non)), by cases pt <;> rfl, _, rfl, ite2 (fun _ => ?_) (fun e => absurd (head_gap pt) e)⟩
          refine ⟨.ref b, rfl, ws, hD, by rw [sizeLine_eq]; omega, sameAt k10 nD, ws ++ [.ref b], upd_same, ?_⟩
          rw [noGap_snoc ho]
          exact ((All2.snoc hws (⟨⟨b, rfl, hb⟩, ok⟩ : PrtAt H10 (.ref b) pt ∧ pt.Ok))).imp fun _ _ r => ⟨r.1.put hD, r.2⟩
      rintro H10 ⟨k10, ws, hD, hws⟩
      rw [hos.len, List.take_length] at hws
      refine ⟨D, ws, rfl, .inl ⟨sq_of hD, fun pb nb => ?_⟩⟩
      have kb := k10.trans (Same.new (o := .tup ws) nb)
      have b79 := b8.trans b9
      have hp11 : upd H10 pb (.tup ws) pb = some (.tup ws) := upd_same
      have hv11 := patV_of (hws.imp fun _ _ r => (⟨r.1.same (Same.new (o := .tup ws) nb), r.2⟩ : PrtAt (upd H10 pb (.tup ws)) _ _ ∧ _))
      have l1 : 1 ≤ (noGap os).length := by
        rw [eo]
        exact Nat.succ_le_succ (Nat.zero_le _)
      have l30 : (noGap os).length ≤ 30 := Nat.le_trans (noGap_len os) (by omega)
      have ht := (ht.but h7 b79).same kb
      have hL := (hL.but h7 b79).same kb
      have hO := (hO.but h7 nOp b79).same kb
      have h11 := h9.same kb
      clear hws hos eo nD hD k10 b79 b8 b9 hpa h8 h9 h7
      revert ht hL hO h11 hp11 hv11 l1 l30 kb
      generalize upd H10 pb (.tup ws) = H11
      generalize noGap os = ps
      intro kb hp11 hv11 l1 l30 ht hL hO h11
      clear kb nb
      dsimp only [tSeq, tAsg, gName]
      refine (?_ : ∀ (N : L2.St → Hp → Prop) R B T', (∀ (P : Addr) (ws : List V) (ps : List Prt) (u7 u8 : Option V) (H12 : Hp), H12 P = some (.tup ws) → PatV H12 ws ps → 1 ≤ ps.length → ps.length ≤ 30 → HandL H12 p l → TsAt H12 ta ts → LibAt H12 C s ts → PsL H12 O (ord ts) → N [some (.ref a), some (.ref p), some (.int (0 + (i : Int))), some (.ref ta), some (.ref s), some (.ref O), some (.ref P), u7, u8, u9, u10, none, none, none, none] H12) → tIfS _ _ _ { nx := N, rt := R, bk := B, ct := T' } _ H11) _ _ _ _ ?_
      · intro N R B T' kk
        have lo : (ord ts).length ≤ 1600 := ord_few ht.few ht.len
        refine (?_ : ∀ Q : Bool → Hp → Prop, (∀ b H12, HandL H12 p l → But p l H11 H12 → (b = true → 0 < (ord ts).length) → Q b H12) → tAnd _ _ _ H11 Q) _ ?_
        · intro Q0 k0
          refine ⟨.ref p, rfl, p, 3, rfl, by decide, by decide, l, h11, fun x H12 x0 x1 h12 b12 => ⟨rfl, _, rfl, ite2 (fun e => ?_) (fun e => k0 _ _ h12 b12 (fun w => Bool.noConfusion w))⟩⟩
          obtain ⟨vs, e1, e2⟩ := hO.but h11 nOp b12
          refine ⟨.ref O, rfl, O, vs, rfl, .inl (sq_of e1), _, _, rfl, rfl, _, rfl, k0 _ _ h12 b12 fun w => ?_⟩
          have w := of_decide_eq_true w
          rw [← e2.len]
          omega
        · intro b H12 h12 b12 hb
          have ht := ht.but h11 b12
          have hL := hL.but h11 b12
          have hO := hO.but h11 nOp b12
          cases b with
          | true =>
            have pos := hb rfl
            obtain ⟨vs, e1, e2⟩ := hO
            have lv := e2.len
            refine iteT ⟨.ref O, rfl, .ref p, rfl, .ref O, rfl, O, vs, rfl, .inl (sq_of e1), p, (vs.length : Nat), rfl, by omega, by omega, l, h12, fun x H13 x0 x1 h13 b13 => ?_⟩
            have ht := ht.but h12 b13
            have hL := hL.but h12 b13
            have hO : PsL H13 O (ord ts) := PsL.but h12 nOp b13 ⟨vs, e1, e2⟩
            obtain ⟨j, rfl⟩ := Int.eq_ofNat_of_zero_le x0
            have hj : j < vs.length := by omega
            obtain ⟨pl0, ep, c, ec, hc⟩ := e2.at (List.getElem?_eq_getElem hj)
            have hc13 := b13 _ _ (tup_ne h12 hc) hc
            have ip := ord_mem.mp (List.mem_of_getElem? ep)
            refine ⟨O, vs, j, _, rfl, rfl, sq_of (b13 _ _ nOp e1), atI_nat (List.getElem?_eq_getElem hj), c, _, ec, SqT.of hc13, rfl, _, _, rfl, _, _, rfl, rfl, ?_⟩
            refine ⟨.ref ta, rfl, _, rfl, ta, _, _, _, rfl, rfl, SqT.of ht.at_, atI_nat (tx_at ip.text), .int (pl0.2 : Nat), rfl, _, rfl, .int (pl0.2 : Nat), rfl, _, _, rfl, rfl, .ref p, rfl, p, 6, rfl, by decide, by decide, l, h13, fun y H14 y0 y1 h14 b14 => ⟨_, _, rfl, rfl, _, rfl, _, rfl, len5 (Nat.le_trans (tx_len ht.len _) (by decide)), _, rfl, ?_⟩⟩
            have ey : ((pl0.2 : Nat) : Int) + 1 + y = ((pl0.2 : Nat) : Int) + ((1 + y).toNat : Nat) := by omega
            rw [ey]
            have ez := piece_cod (z := tx ts pl0.1) (a := pl0.2) (m := (1 + y).toNat)
            have sz := sgB_cut (ht.sg _ (tx_mem ip.text)) (some ((pl0.2 : Nat) : Int)) (some (((pl0.2 : Nat) : Int) + ((1 + y).toNat : Nat)))
            revert ez sz
            generalize cutS (tx ts pl0.1) (some ((pl0.2 : Nat) : Int)) (some (((pl0.2 : Nat) : Int) + ((1 + y).toNat : Nat))) = z
            intro ez sz
            have lz : 1 ≤ (cod z).length ∧ (cod z).length ≤ 6 := by
              rw [ez, List.length_take, List.length_drop]
              have := ip.at_
              have : (cod (tx ts pl0.1)).length = (tx ts pl0.1).length := (len_S _).symm
              omega
            have ht := ht.but h13 b14
            have hL := hL.but h13 b14
            have hO := hO.but h13 nOp b14
            intro D nD
            refine wk walk_str (fun i H' => Same H14 H' ∧ ∃ ws, H' D = some (.lst ws) ∧ All2 (fun v p => PrtAt H' v p ∧ p.Ok) ws (((cod z).take i).map Prt.sg)) ⟨Same.new nD, [], upd_same, .nil⟩ (fun _ _ _ _ => trivial) ?_ ?_
            · rintro k x H15 H16 hk ⟨k15, ws, hD, hws⟩ ⟨rfl, c, hc, rfl⟩
              have ec : (cod z)[k]? = some c := by rw [Array.getElem?_toList]; exact hc
              have lw := hws.len
              rw [List.length_map, List.length_take] at lw
              refine ⟨rfl, .str (sn c), rfl, by show 2 ≤ sizeLine; decide, fun b nb => ⟨ws, (Same.new nb) _ _ hD, by rw [sizeLine_eq]; omega, sameAt (k15.trans (Same.new nb)) nD, ws ++ [.ref b], upd_same, ?_⟩⟩
              rw [take_snoc ec, List.map_append]
              have hb : upd H16 b (.tup (Prt.sg c).v) b = some (.tup (Prt.sg c).v) := upd_same
              have hD2 := (Same.new (o := .tup (Prt.sg c).v) nb) _ _ hD
              have ok : (Prt.sg c).Ok := ⟨(fun d e => by cases e; exact sgB_one (sgB_mem sz (List.mem_of_getElem? ec))), (fun _ e => by cases e)⟩
              have hs2 : All2 (fun v q => PrtAt (upd H16 b (.tup (Prt.sg c).v)) v q ∧ q.Ok) (ws ++ [.ref b]) (((cod z).take k).map Prt.sg ++ [Prt.sg c]) := All2.snoc (hws.imp fun v q r => ⟨r.1.same (Same.new nb), r.2⟩) ⟨⟨b, rfl, hb⟩, ok⟩
              exact hs2.imp fun v q r => ⟨r.1.put hD2, r.2⟩
            · rintro H15 ⟨k15, ws, hD, hws⟩
              have es : z.cps.size = (cod z).length := rfl
              rw [es, List.take_length] at hws
              refine ⟨D, ws, rfl, .inl ⟨sq_of hD, fun pb2 nb2 => ?_⟩⟩
              have kb2 := k15.trans (Same.new (o := .tup ws) nb2)
              refine kk pb2 ws _ _ _ _ upd_same (patV_of (hws.imp fun _ _ r => ⟨r.1.same (Same.new (o := .tup ws) nb2), r.2⟩)) (by rw [List.length_map]; exact lz.1) (by rw [List.length_map]; omega) (h14.same kb2) (ht.same kb2) (hL.same kb2) (hO.same kb2)
          | false =>
            refine iteF ?_
            exact kk pb ws ps _ _ H12 (b12 _ _ (tup_ne h11 hp11) hp11) (hv11.but h11 b12) l1 l30 h12 ht hL hO
      · clear hp11 hv11 l1 l30 h11 hO hL ht
        intro P ws ps u7 u8 H12 hP hv l1 l30 h12 ht hL hO
        have lo : (ord ts).length ≤ 1600 := ord_few ht.few ht.len
        have ep : ps.take ps.length = ps := List.take_length
        refine ⟨.ref ta, rfl, .ref P, rfl, ta, P, ts, ws, ps, rfl, ht, hP, hv, l1, l30, fun zs B H13 k13 nB hB bg fz hz => ⟨B, rfl, ⟨_, sq_of hB⟩, fun D nD => lc_list (xs := zs.map V.str) (fun i H' => Same H13 H' ∧ ∃ vs fs, H' D = some (.lst vs) ∧ All2 (PAt H') vs fs ∧ All2 (Run (sOf ts) (ord ts).length) ((zs.map cod).take i) fs) ⟨Same.new nD, [], [], upd_same, .nil, .nil⟩ (fun i H' _ w => sq_of (w.1 _ _ hB)) ?_ ?_⟩⟩
        · rintro j x H14 hx ⟨k14, vs, fs, hD, hvs, hfs⟩
          rw [List.getElem?_map] at hx
          cases hzj : zs[j]? with
          | none => rw [hzj] at hx; cases hx
          | some z =>
            rw [hzj] at hx
            obtain rfl : V.str z = x := Option.some.inj hx
            have hw : (zs.map cod)[j]? = some (cod z) := by rw [List.getElem?_map, hzj]; rfl
            obtain ⟨hf, n, hn, hp⟩ := (bg.of (cod z)).mp (List.mem_of_getElem? hw)
            have k1214 := k13.trans k14
            have lv := hvs.len
            have lf := hfs.len
            rw [List.length_take, List.length_map] at lf
            refine ⟨rfl, .ref ta, rfl, .ref O, rfl, .str z, rfl, ta, O, ts, z, rfl, ht.same k1214, hO.same k1214, bgn_run (ps := ps) (d := ps.length) (Nat.le_refl _) (by rw [ep]; exact hf) hn hp, Nat.le_trans (hz z (List.mem_of_getElem? hzj)) (by decide), fun r v H15 k15 rv run => ⟨vs, k15 _ _ hD, by rw [sizeLine_eq]; omega, sameAt (k14.trans k15) nD, vs ++ [v], fs ++ [r], upd_same, ?_, ?_⟩⟩
            · exact (All2.snoc (hvs.imp fun _ _ q => PAt.same k15 q) rv).imp fun _ _ q => PAt.put (k15 _ _ hD) q
            · rw [take_snoc hw]
              exact hfs.snoc run
        rintro H14 ⟨k14, vs, fs, hD, hvs, hfs⟩
        have hfs : All2 (Run (sOf ts) (ord ts).length) (zs.map cod) fs := by
          have e : (zs.map cod).take (zs.map V.str).length = zs.map cod := by rw [List.length_map]; exact List.take_of_length_le (by rw [List.length_map]; exact Nat.le_refl _)
          rw [e] at hfs
          exact hfs
        have perm := bgn_perm (ps := ps) (d := ps.length) l1 (Nat.le_refl _) (by rw [ep]; exact bg) hfs
        have pw := (rgs_asc ts ps ps.length).pw ((rgs_runs ts ps ps.length (Nat.le_refl _)).2.2 l1)
        have k1214 := k13.trans k14
        have hP := k1214 _ _ hP
        have hv := hv.same k1214
        have h12 := h12.same k1214
        have ht := ht.same k1214
        have hL := hL.same k1214
        have hF : PsL H14 D fs := ⟨vs, hD, hvs⟩
        clear hvs hD k14 k13 nB hB k1214 hO nD
        have lw := hv.len
        dsimp only [tSeq, tAsg, gName]
        refine ⟨.ref P, rfl, P, ws, rfl, .inr (SqT.of hP), _, _, rfl, rfl, 1, _, rfl, ⟨by decide, by decide, by omega, by omega⟩, fun G nG => lc_range (fun k H' => Same H14 H' ∧ H' G = some (.lst (((List.range k).map fun d => (((rgs ts ps (d + 1)).length : Nat) : Int)).map V.int))) ⟨Same.new nG, upd_same⟩ ?_ ?_⟩
        · rintro k H15 hk ⟨k15, hG⟩
          have hk2 : k < ps.length := by omega
          refine ⟨rfl, .ref ta, rfl, .ref P, rfl, .int (1 + (k : Int)), rfl, 1 + (k : Int), rfl, P, ws, rfl, k15 _ _ hP, fun P2 H16 k16 hP2 => ?_⟩
          rw [cutV_to (by omega), show (1 + (k : Int)).toNat = k + 1 by omega] at hP2
          have k1416 := k15.trans k16
          refine ⟨ta, P2, ts, ws.take (k + 1), ps.take (k + 1), rfl, ht.same k1416, hP2, (hv.same k1416).take _, by rw [List.length_take]; omega, by rw [List.length_take]; omega, fun zs2 B2 H17 k17 nB2 hB2 bg2 fz2 hz2 => ⟨B2, _, rfl, .inl (sq_of hB2), _, k17 _ _ (k16 _ _ hG), ?_, sameAt (k1416.trans k17) nG, ?_⟩⟩
          · rw [List.length_map, List.length_map, List.length_range, sizeLine_eq]
            omega
          · have el : (zs2.map V.str).length = (rgs ts ps (k + 1)).length := by
              rw [List.length_map, ← bgn_len (ps := ps) (d := k + 1) (by omega) (by omega) bg2, List.length_map]
            rw [upd_same, el, List.range_succ, List.map_append, List.map_append]
            rfl
        · rintro H15 ⟨k15, hG⟩
          have en : (((ws.length : Nat) : Int) + 1 - 1).toNat = ps.length := by omega
          rw [en] at hG
          refine ⟨G, _, rfl, sq_of hG, _, _, rfl, rfl, ?_⟩
          dsimp only [gName]
          rw [many_int]
          have hF := hF.same k15
          have hm : manyR ts ps ps.length ≤ 100000 := by
            have := many_few ts ps ps.length
            have : ps.length * (ord ts).length ≤ 30 * 1600 := Nat.mul_le_mul l30 lo
            omega
          have hd := encR_data (fs := rgs ts ps ps.length) (m := manyR ts ps ps.length) (fun q hq => by have := rgs_in ts ps ps.length q hq; omega) (by have := rgs_len ts ps l1; omega) hm
          refine ⟨.ref s, rfl, .ref P, rfl, s, ts, P, ws, ps, rfl, hL.same k15, k15 _ _ hP, hv.same k15, l1, l30, fun T R H16 k16 hT hR => ⟨.ref D, rfl, ?_⟩⟩
          dsimp only [tNil]
          refine sorted_two (hF.same k16) perm pw fun F2 H17 nF k17 hF2 => ⟨_, rfl, by show 2 ≤ sizeLine; decide, fun t nt => ?_⟩
          have kt := Same.new (H := H17) (o := .tup [.ref F2, .int ((manyR ts ps ps.length : Nat) : Int)]) nt
          refine ⟨T, t, encR (rgs ts ps ps.length) (manyR ts ps ps.length), rfl, encR_dp ((k17.trans kt) _ _ hT) (hR.same (k17.trans kt)), encR_dp upd_same (hF2.same kt), hd.1, hd.2.1, hd.2.2.1, hd.2.2.2, _, rfl, iteF ?_⟩
          exact ⟨_, _, _, _, _, _, _, _, _, rfl, h12.same (((k15.trans k16).trans k17).trans kt)⟩
    · rintro σ H2 ⟨u2, u3, u4, u5, u6, u7, u8, u9, u10, rfl, h2⟩
      exact q H2
end
end LawK
set_option maxHeartbeats 8000000
namespace LawK
open PySem PySem.Spec PyProof.Rows L2 Ev
structure Df (K : PySem.W.Frag) (mg : Str → Option Value) (x : Str) (st : Stmt) (ps : List Str) (f : Addr) (fd : FuncData) : Prop where
  F : Fun K x x st f fd
  b : Binds K fd ps []
  g : mg x = some (.ref f)
section
variable {P : Program} {w : World} {K : PySem.W.Frag} {mg : Str → Option Value} {h : Heap} {x : Str}
theorem df_mk {st : Stmt} {ps : List Str} {oc kV dc pm cd ct : Value} {od an : Option Addr} {sl : Array (Option Value)} {fa : Addr} (X : K.In h) (G : h.Ns mainGlobals mg)
    (hb : ∀ (kV doc pm : Value) (an : Option Addr) (cdv ct : Value) (us : List Value), us.length = ps.length → bindArgs (PySem.W.fnOf x x (defArgs st) (defBody st) (defScope st) .none kV doc pm an cdv ct) ⟨us, []⟩ = pure (ps.zip us))
    (a : PySem.W.nsIn K mainGlobals x = some (some (.ref fa))) (l : K.lookup fa = some ⟨oc, od, .func (PySem.W.fnOf x x (defArgs st) (defBody st) (defScope st) .none kV dc pm an cd ct), sl⟩)
    (ck : (PySem.W.codeIn K cd x && PySem.W.keepIn K (.ref fa)) = true) : ∃ fd, Df K mg x st ps fa fd := by
  obtain ⟨c1, c2⟩ := Bool.and_eq_true_iff.mp ck
  have F1 := fun_mk (st := st) l c1 c2
  exact ⟨_, F1, F1.binds (ps := ps) hb, PySem.W.mg_of X G a⟩
end
def chkL (K : PySem.W.Frag) (C fI : Addr) : Bool := PySem.W.makesIn K C && (PySem.W.isFn K (.ref fI) && (PySem.W.keepIn K (.ref C) && (PySem.W.plainGet K C Str.empty && (PySem.W.hasDictIn K C && (PySem.W.plainOver K C &&
  (decide (PySem.W.findIn K (.ref C) "__setattr__" = some (some (.builtin "object.__setattr__"))) && decide (PySem.W.findIn K (.ref C) "texts" = some none)))))))
theorem lib_mk {K : PySem.W.Frag} {mg : Str → Option Value} {h : Heap} {oc1 kV1 dc1 pm1 cd1 ct1 : Value} {od1 an1 : Option Addr} {sl1 : Array (Option Value)} {C fI : Addr} (X : K.In h) (G : h.Ns mainGlobals mg)
    (aC : PySem.W.nsIn K mainGlobals "Library" = some (some (.ref C))) (iC : PySem.W.findIn K (.ref C) "__init__" = some (some (.ref fI)))
    (lI : K.lookup fI = some ⟨oc1, od1, .func (PySem.W.fnOf "__init__" "Library.__init__" (defArgs sLInit) (defBody sLInit) (defScope sLInit) .none kV1 dc1 pm1 an1 cd1 ct1), sl1⟩)
    (c1 : (PySem.W.codeIn K cd1 "Library.__init__" && PySem.W.keepIn K (.ref fI)) = true) (ck : chkL K C fI = true) : ∃ fI fdI, LibC K mg C fI fdI := by
  obtain ⟨i1, i2⟩ := Bool.and_eq_true_iff.mp c1
  have FI := fun_mk (st := sLInit) lI i1 i2
  obtain ⟨h1, ck⟩ := Bool.and_eq_true_iff.mp ck
  obtain ⟨h2, ck⟩ := Bool.and_eq_true_iff.mp ck
  obtain ⟨h3, ck⟩ := Bool.and_eq_true_iff.mp ck
  obtain ⟨h4, ck⟩ := Bool.and_eq_true_iff.mp ck
  obtain ⟨h5, ck⟩ := Bool.and_eq_true_iff.mp ck
  obtain ⟨h6, ck⟩ := Bool.and_eq_true_iff.mp ck
  obtain ⟨h7, h8⟩ := Bool.and_eq_true_iff.mp ck
  have h8' := of_decide_eq_true h8
  exact ⟨_, _, ⟨h1, iC, h2, h3⟩, ⟨h4, h5, h6, of_decide_eq_true h7⟩, h8',
    FI, FI.binds (ps := ["self", "texts"]) (fun _ _ _ _ _ _ us hl => match us, hl with | [_, _], _ => rfl), PySem.W.mg_of X G aC⟩
theorem end_mk {P : Program} {w : World} {K : PySem.W.Frag} {mg : Str → Option Value} {h : Heap} {fa f  C  fPNumber fPSigns fPWord fPSign fPAllPlaces fPInOrder fPEndings fQIsLot fQIsPart fPIsPattern fPMayBe fQRanges fPSearched fPool fDraw fIs fTexts fPlaces fPart fPattern fLets fBegun fRange : Addr} {oc kV dc pm cd ct : Value} {od an : Option Addr} {sl : Array (Option Value)} (X : K.In h) (G : h.Ns mainGlobals mg) (hfa : mg "law" = some (.ref fa))
    (aL : PySem.W.nsIn K mainGlobals "law" = some (some (.ref f))) (lL : K.lookup f = some ⟨oc, od, .func (PySem.W.fnOf "law" "law" (defArgs sLaw) (defBody sLaw) (defScope sLaw) .none kV dc pm an cd ct), sl⟩) (ck : (PySem.W.codeIn K cd "law" && PySem.W.keepIn K (.ref f)) = true)
    {tMOST_TEXTS : Tok} (aMOST_TEXTS : PySem.W.nsIn K mainGlobals "MOST_TEXTS" = some (some (.int 8 tMOST_TEXTS)))
    {tMOST_SIGNS : Tok} (aMOST_SIGNS : PySem.W.nsIn K mainGlobals "MOST_SIGNS" = some (some (.int 2000 tMOST_SIGNS)))
    {tMOST_IN_LOT : Tok} (aMOST_IN_LOT : PySem.W.nsIn K mainGlobals "MOST_IN_LOT" = some (some (.int 20 tMOST_IN_LOT)))
    {tMOST_GAP : Tok} (aMOST_GAP : PySem.W.nsIn K mainGlobals "MOST_GAP" = some (some (.int 20 tMOST_GAP)))
    {tMOST_PARTS : Tok} (aMOST_PARTS : PySem.W.nsIn K mainGlobals "MOST_PARTS" = some (some (.int 30 tMOST_PARTS)))
    (DPNumber : ∃ fd, Df K mg "is_number" sPNumber ["thing"] fPNumber fd)
    (DPSigns : ∃ fd, Df K mg "is_signs" sPSigns ["thing"] fPSigns fd)
    (DPWord : ∃ fd, Df K mg "is_word" sPWord ["thing"] fPWord fd)
    (DPSign : ∃ fd, Df K mg "is_sign" sPSign ["thing"] fPSign fd)
    (DPAllPlaces : ∃ fd, Df K mg "all_places" sPAllPlaces ["library"] fPAllPlaces fd)
    (DPInOrder : ∃ fd, Df K mg "in_order" sPInOrder ["library", "found"] fPInOrder fd)
    (DPEndings : ∃ fd, Df K mg "endings" sPEndings ["library"] fPEndings fd)
    (DQIsLot : ∃ fd, Df K mg "_is_lot" sQIsLot ["thing"] fQIsLot fd)
    (DQIsPart : ∃ fd, Df K mg "_is_part" sQIsPart ["thing"] fQIsPart fd)
    (DPIsPattern : ∃ fd, Df K mg "is_pattern" sPIsPattern ["thing"] fPIsPattern fd)
    (DPMayBe : ∃ fd, Df K mg "may_be" sPMayBe ["part", "sign"] fPMayBe fd)
    (DQRanges : ∃ fd, Df K mg "_ranges_within" sQRanges ["signs", "low", "high", "part"] fQRanges fd)
    (DPSearched : ∃ fd, Df K mg "searched" sPSearched ["library", "pattern"] fPSearched fd)
    (DPool : ∃ fd, Df K mg "_law_pool" sPool ["script"] fPool fd)
    (DDraw : ∃ fd, Df K mg "_law_draw" sDraw ["pool", "many"] fDraw fd)
    (DIs : ∃ fd, Df K mg "_law_is" sIs ["told", "due"] fIs fd)
    (DTexts : ∃ fd, Df K mg "_law_texts" sTexts ["pool", "most"] fTexts fd)
    (DPlaces : ∃ fd, Df K mg "_law_places" sPlaces ["texts"] fPlaces fd)
    (DPart : ∃ fd, Df K mg "_law_part" sPart ["pool", "signs", "is_end"] fPart fd)
    (DPattern : ∃ fd, Df K mg "_law_pattern" sPattern ["pool", "signs", "most"] fPattern fd)
    (DLets : ∃ fd, Df K mg "_law_lets" sLets ["part", "sign"] fLets fd)
    (DBegun : ∃ fd, Df K mg "_law_begun" sBegun ["texts", "pattern"] fBegun fd)
    (DRange : ∃ fd, Df K mg "_law_range" sRange ["texts", "order", "word"] fRange fd)
     (LL : ∃ fI fdI, LibC K mg C fI fdI) (T : Glob mg) :
    ∃ fd : FuncData, (∀ (s : Shared) (u : Value), BindsTo s fd ⟨[u], []⟩ [("script", u)]) ∧ ∀ base : Heap, K.In base → base.Ns mainGlobals mg → FnAt callerA P w K mg base CX0 fa fd ["script"] (spLaw K) := by
  have e := hfa.symm.trans (PySem.W.mg_of X G aL)
  cases e
  obtain ⟨fI, fdI, L⟩ := LL
  obtain ⟨fdPNumber, DPNumber⟩ := DPNumber
  obtain ⟨fdPSigns, DPSigns⟩ := DPSigns
  obtain ⟨fdPWord, DPWord⟩ := DPWord
  obtain ⟨fdPSign, DPSign⟩ := DPSign
  obtain ⟨fdPAllPlaces, DPAllPlaces⟩ := DPAllPlaces
  obtain ⟨fdPInOrder, DPInOrder⟩ := DPInOrder
  obtain ⟨fdPEndings, DPEndings⟩ := DPEndings
  obtain ⟨fdQIsLot, DQIsLot⟩ := DQIsLot
  obtain ⟨fdQIsPart, DQIsPart⟩ := DQIsPart
  obtain ⟨fdPIsPattern, DPIsPattern⟩ := DPIsPattern
  obtain ⟨fdPMayBe, DPMayBe⟩ := DPMayBe
  obtain ⟨fdQRanges, DQRanges⟩ := DQRanges
  obtain ⟨fdPSearched, DPSearched⟩ := DPSearched
  obtain ⟨fdPool, DPool⟩ := DPool
  obtain ⟨fdDraw, DDraw⟩ := DDraw
  obtain ⟨fdIs, DIs⟩ := DIs
  obtain ⟨fdTexts, DTexts⟩ := DTexts
  obtain ⟨fdPlaces, DPlaces⟩ := DPlaces
  obtain ⟨fdPart, DPart⟩ := DPart
  obtain ⟨fdPattern, DPattern⟩ := DPattern
  obtain ⟨fdLets, DLets⟩ := DLets
  obtain ⟨fdBegun, DBegun⟩ := DBegun
  obtain ⟨fdRange, DRange⟩ := DRange
  obtain ⟨c1, c2⟩ := Bool.and_eq_true_iff.mp ck
  have F1 := fun_mk (st := sLaw) lL c1 c2
  refine ⟨PySem.W.fnOf "law" "law" (defArgs sLaw) (defBody sLaw) (defScope sLaw) .none kV dc pm an cd ct, fun s u => .of_eq rfl, fun base _ _ => ?_⟩
  have TPSigns : Dk P w K mg base "is_signs" sPSigns ["thing"] 1 spSg fPSigns fdPSigns := ⟨DPSigns.F, DPSigns.b, DPSigns.g, ok_PSigns DPSigns.F   (T := T)⟩
  have GI : FnOk P w K mg base (L2.CX P w) 4 fI fdI ["self", "texts"] (spLInit C) := ok_LInit L (PySem.W.mg_of X G aMOST_TEXTS) (PySem.W.mg_of X G aMOST_SIGNS) TPSigns T
  have TPAllPlaces : Dk P w K mg base "all_places" sPAllPlaces ["library"] 1 (spAllPlaces C) fPAllPlaces fdPAllPlaces := ⟨DPAllPlaces.F, DPAllPlaces.b, DPAllPlaces.g, ok_PAllPlaces DPAllPlaces.F (L := L)  (T := T)⟩
  have TPInOrder : Dk P w K mg base "in_order" sPInOrder ["library", "found"] 1 (spInOrder C) fPInOrder fdPInOrder := ⟨DPInOrder.F, DPInOrder.b, DPInOrder.g, ok_PInOrder DPInOrder.F (L := L)  (T := T)⟩
  have TPEndings : Dk P w K mg base "endings" sPEndings ["library"] 2 (spEndings C) fPEndings fdPEndings := ⟨DPEndings.F, DPEndings.b, DPEndings.g, ok_PEndings DPEndings.F  (DPAllPlaces := TPAllPlaces) (DPInOrder := TPInOrder) (T := T)⟩
  have TPNumber : Dk P w K mg base "is_number" sPNumber ["thing"] 1 spNum fPNumber fdPNumber := ⟨DPNumber.F, DPNumber.b, DPNumber.g, ok_PNumber DPNumber.F   (T := T)⟩
  have TPSign : Dk P w K mg base "is_sign" sPSign ["thing"] 2 spSign fPSign fdPSign := ⟨DPSign.F, DPSign.b, DPSign.g, ok_PSign DPSign.F  (DPSigns := TPSigns) (T := T)⟩
  have TPWord : Dk P w K mg base "is_word" sPWord ["thing"] 2 spWd fPWord fdPWord := ⟨DPWord.F, DPWord.b, DPWord.g, ok_PWord DPWord.F  (DPSigns := TPSigns) (T := T)⟩
  have TQIsLot : Dk P w K mg base "_is_lot" sQIsLot ["thing"] 3 spIsLot fQIsLot fdQIsLot := ⟨DQIsLot.F, DQIsLot.b, DQIsLot.g, ok_QIsLot DQIsLot.F (gL := PySem.W.mg_of X G aMOST_IN_LOT) (DPWord := TPWord) (T := T)⟩
  have TQIsPart : Dk P w K mg base "_is_part" sQIsPart ["thing"] 4 spIsPart fQIsPart fdQIsPart := ⟨DQIsPart.F, DQIsPart.b, DQIsPart.g, ok_QIsPart DQIsPart.F (gG := PySem.W.mg_of X G aMOST_GAP) (DPNumber := TPNumber) (DPSign := TPSign) (DQIsLot := TQIsLot) (T := T)⟩
  have TPIsPattern : Dk P w K mg base "is_pattern" sPIsPattern ["thing"] 5 spIsPat fPIsPattern fdPIsPattern := ⟨DPIsPattern.F, DPIsPattern.b, DPIsPattern.g, ok_PIsPattern DPIsPattern.F (gP := PySem.W.mg_of X G aMOST_PARTS) (DQIsPart := TQIsPart) (T := T)⟩
  have TPMayBe : Dk P w K mg base "may_be" sPMayBe ["part", "sign"] 1 spMay fPMayBe fdPMayBe := ⟨DPMayBe.F, DPMayBe.b, DPMayBe.g, ok_PMayBe DPMayBe.F   (T := T)⟩
  have TQRanges : Dk P w K mg base "_ranges_within" sQRanges ["signs", "low", "high", "part"] 2 spRw fQRanges fdQRanges := ⟨DQRanges.F, DQRanges.b, DQRanges.g, ok_QRanges DQRanges.F  (DPMayBe := TPMayBe) (T := T)⟩
  have TPSearched : Dk P w K mg base "searched" sPSearched ["library", "pattern"] 6 (spSearched C) fPSearched fdPSearched := ⟨DPSearched.F, DPSearched.b, DPSearched.g, ok_PSearched DPSearched.F (L := L) (DPEndings := TPEndings) (DPIsPattern := TPIsPattern) (DQRanges := TQRanges) (T := T)⟩
  have TPool : Dk P w K mg base "_law_pool" sPool ["script"] 1 (spPool K) fPool fdPool := ⟨DPool.F, DPool.b, DPool.g, ok_Pool DPool.F   (T := T)⟩
  have TDraw : Dk P w K mg base "_law_draw" sDraw ["pool", "many"] 1 spDraw fDraw fdDraw := ⟨DDraw.F, DDraw.b, DDraw.g, ok_Draw DDraw.F   (T := T)⟩
  have TIs : DkG P w K mg base "_law_is" sIs ["told", "due"] 1 (spIs K) fIs fdIs := ⟨DIs.F, DIs.b, DIs.g, ok_Is DIs.F (T := T)⟩
  have TTexts : Dk P w K mg base "_law_texts" sTexts ["pool", "most"] 2 spTexts fTexts fdTexts := ⟨DTexts.F, DTexts.b, DTexts.g, ok_Texts DTexts.F  (DDraw := TDraw) (T := T)⟩
  have TPlaces : Dk P w K mg base "_law_places" sPlaces ["texts"] 1 spOrd fPlaces fdPlaces := ⟨DPlaces.F, DPlaces.b, DPlaces.g, ok_Places DPlaces.F   (T := T)⟩
  have TPart : Dk P w K mg base "_law_part" sPart ["pool", "signs", "is_end"] 2 spPrt fPart fdPart := ⟨DPart.F, DPart.b, DPart.g, ok_Part DPart.F  (DDraw := TDraw) (T := T)⟩
  have TPattern : Dk P w K mg base "_law_pattern" sPattern ["pool", "signs", "most"] 3 spPattern fPattern fdPattern := ⟨DPattern.F, DPattern.b, DPattern.g, ok_Pattern DPattern.F  (DDraw := TDraw) (DPart := TPart) (T := T)⟩
  have TLets : Dk P w K mg base "_law_lets" sLets ["part", "sign"] 1 spMay fLets fdLets := ⟨DLets.F, DLets.b, DLets.g, ok_Lets DLets.F   (T := T)⟩
  have TBegun : Dk P w K mg base "_law_begun" sBegun ["texts", "pattern"] 2 spBegun fBegun fdBegun := ⟨DBegun.F, DBegun.b, DBegun.g, ok_Begun DBegun.F  (DLets := TLets) (T := T)⟩
  have TRange : Dk P w K mg base "_law_range" sRange ["texts", "order", "word"] 1 spRange fRange fdRange := ⟨DRange.F, DRange.b, DRange.g, ok_Range DRange.F   (T := T)⟩
  exact ok_law F1 (DPSearched := TPSearched) (DPool := TPool) (DDraw := TDraw) (DIs := TIs) (DTexts := TTexts) (DPlaces := TPlaces) (DPattern := TPattern) (DBegun := TBegun) (DRange := TRange) (L := L) (GI := GI) (T := T)
end LawK
open PySem PySem.W PyProof.Rows L2
set_option maxRecDepth 100000 in
set_option maxHeartbeats 0 in
theorem PySem.Challenge.cw_everypiece_k47_whole_patterns_searched_b_holds : PySem.Challenge.rw_everypiece_k47_whole_patterns_searched_b.Holds := by
  w_on; o_law; k_head; (case hw => w_witness2)
  k_fill
  refine Ev.walk_at (l := PySem.Challenge.rw_everypiece_k47_whole_patterns_searched_b) (n := 63) (x := "script") (sp := LawK.spLaw) rfl (by decide) rfl (fun w h Y => PySem.W.kIn_of Y) ?F (fun K H a ns hl _ hS => ⟨a, ns, rfl, hS, fun _ => rfl⟩)
  case F =>
    intro w mg fa h KX G hmg
    have hfa : mg "law" = some (.ref fa) := hmg
    clear hmg
    refine LawK.say KX (fun K => LawK.Sh0 (PySem.W.OpenLaw.prog PySem.Challenge.rw_everypiece_k47_whole_patterns_searched_b) K mg) (by
      refine' LawK.sh0_mk KX G ?kq1a ?kq1b ?kq1c ?kq1d ?kq1e
      (case kq1a => k_is); (case kq1b => k_is); (case kq1c => k_is); (case kq1d => decide +kernel); (case kq1e => k_is)) ?_
    intro S
    refine LawK.say KX (fun K => ∃ fd, LawK.Df K mg "is_number" LawK.sPNumber ["thing"] 95 fd) (by
      refine' LawK.df_mk KX G (fun _ _ _ _ _ _ us hl => match us, hl with | [_], _ => rfl) ?kq2a ?kq2l ?kq2c
      (case kq2a => k_is); (case kq2l => k_is); (case kq2c => kernel_rfl)) ?_
    intro DPNumber
    refine LawK.say KX (fun K => ∃ fd, LawK.Df K mg "is_signs" LawK.sPSigns ["thing"] 102 fd) (by
      refine' LawK.df_mk KX G (fun _ _ _ _ _ _ us hl => match us, hl with | [_], _ => rfl) ?kq3a ?kq3l ?kq3c
      (case kq3a => k_is); (case kq3l => k_is); (case kq3c => kernel_rfl)) ?_
    intro DPSigns
    refine LawK.say KX (fun K => ∃ fd, LawK.Df K mg "is_word" LawK.sPWord ["thing"] 109 fd) (by
      refine' LawK.df_mk KX G (fun _ _ _ _ _ _ us hl => match us, hl with | [_], _ => rfl) ?kq4a ?kq4l ?kq4c
      (case kq4a => k_is); (case kq4l => k_is); (case kq4c => kernel_rfl)) ?_
    intro DPWord
    refine LawK.say KX (fun K => ∃ fd, LawK.Df K mg "is_sign" LawK.sPSign ["thing"] 116 fd) (by
      refine' LawK.df_mk KX G (fun _ _ _ _ _ _ us hl => match us, hl with | [_], _ => rfl) ?kq5a ?kq5l ?kq5c
      (case kq5a => k_is); (case kq5l => k_is); (case kq5c => kernel_rfl)) ?_
    intro DPSign
    refine LawK.say KX (fun K => ∃ fd, LawK.Df K mg "all_places" LawK.sPAllPlaces ["library"] 147 fd) (by
      refine' LawK.df_mk KX G (fun _ _ _ _ _ _ us hl => match us, hl with | [_], _ => rfl) ?kq6a ?kq6l ?kq6c
      (case kq6a => k_is); (case kq6l => k_is); (case kq6c => kernel_rfl)) ?_
    intro DPAllPlaces
    refine LawK.say KX (fun K => ∃ fd, LawK.Df K mg "in_order" LawK.sPInOrder ["library", "found"] 152 fd) (by
      refine' LawK.df_mk KX G (fun _ _ _ _ _ _ us hl => match us, hl with | [_, _], _ => rfl) ?kq7a ?kq7l ?kq7c
      (case kq7a => k_is); (case kq7l => k_is); (case kq7c => kernel_rfl)) ?_
    intro DPInOrder
    refine LawK.say KX (fun K => ∃ fd, LawK.Df K mg "endings" LawK.sPEndings ["library"] 159 fd) (by
      refine' LawK.df_mk KX G (fun _ _ _ _ _ _ us hl => match us, hl with | [_], _ => rfl) ?kq8a ?kq8l ?kq8c
      (case kq8a => k_is); (case kq8l => k_is); (case kq8c => kernel_rfl)) ?_
    intro DPEndings
    refine LawK.say KX (fun K => ∃ fd, LawK.Df K mg "_is_lot" LawK.sQIsLot ["thing"] 164 fd) (by
      refine' LawK.df_mk KX G (fun _ _ _ _ _ _ us hl => match us, hl with | [_], _ => rfl) ?kq9a ?kq9l ?kq9c
      (case kq9a => k_is); (case kq9l => k_is); (case kq9c => kernel_rfl)) ?_
    intro DQIsLot
    refine LawK.say KX (fun K => ∃ fd, LawK.Df K mg "_is_part" LawK.sQIsPart ["thing"] 171 fd) (by
      refine' LawK.df_mk KX G (fun _ _ _ _ _ _ us hl => match us, hl with | [_], _ => rfl) ?kq10a ?kq10l ?kq10c
      (case kq10a => k_is); (case kq10l => k_is); (case kq10c => kernel_rfl)) ?_
    intro DQIsPart
    refine LawK.say KX (fun K => ∃ fd, LawK.Df K mg "is_pattern" LawK.sPIsPattern ["thing"] 176 fd) (by
      refine' LawK.df_mk KX G (fun _ _ _ _ _ _ us hl => match us, hl with | [_], _ => rfl) ?kq11a ?kq11l ?kq11c
      (case kq11a => k_is); (case kq11l => k_is); (case kq11c => kernel_rfl)) ?_
    intro DPIsPattern
    refine LawK.say KX (fun K => ∃ fd, LawK.Df K mg "may_be" LawK.sPMayBe ["part", "sign"] 183 fd) (by
      refine' LawK.df_mk KX G (fun _ _ _ _ _ _ us hl => match us, hl with | [_, _], _ => rfl) ?kq12a ?kq12l ?kq12c
      (case kq12a => k_is); (case kq12l => k_is); (case kq12c => kernel_rfl)) ?_
    intro DPMayBe
    refine LawK.say KX (fun K => ∃ fd, LawK.Df K mg "_ranges_within" LawK.sQRanges ["signs", "low", "high", "part"] 190 fd) (by
      refine' LawK.df_mk KX G (fun _ _ _ _ _ _ us hl => match us, hl with | [_, _, _, _], _ => rfl) ?kq13a ?kq13l ?kq13c
      (case kq13a => k_is); (case kq13l => k_is); (case kq13c => kernel_rfl)) ?_
    intro DQRanges
    refine LawK.say KX (fun K => ∃ fd, LawK.Df K mg "searched" LawK.sPSearched ["library", "pattern"] 195 fd) (by
      refine' LawK.df_mk KX G (fun _ _ _ _ _ _ us hl => match us, hl with | [_, _], _ => rfl) ?kq14a ?kq14l ?kq14c
      (case kq14a => k_is); (case kq14l => k_is); (case kq14c => kernel_rfl)) ?_
    intro DPSearched
    refine LawK.say KX (fun K => ∃ fd, LawK.Df K mg "_law_pool" LawK.sPool ["script"] 200 fd) (by
      refine' LawK.df_mk KX G (fun _ _ _ _ _ _ us hl => match us, hl with | [_], _ => rfl) ?kq15a ?kq15l ?kq15c
      (case kq15a => k_is); (case kq15l => k_is); (case kq15c => kernel_rfl)) ?_
    intro DPool
    refine LawK.say KX (fun K => ∃ fd, LawK.Df K mg "_law_draw" LawK.sDraw ["pool", "many"] 207 fd) (by
      refine' LawK.df_mk KX G (fun _ _ _ _ _ _ us hl => match us, hl with | [_, _], _ => rfl) ?kq16a ?kq16l ?kq16c
      (case kq16a => k_is); (case kq16l => k_is); (case kq16c => kernel_rfl)) ?_
    intro DDraw
    refine LawK.say KX (fun K => ∃ fd, LawK.Df K mg "_law_is" LawK.sIs ["told", "due"] 214 fd) (by
      refine' LawK.df_mk KX G (fun _ _ _ _ _ _ us hl => match us, hl with | [_, _], _ => rfl) ?kq17a ?kq17l ?kq17c
      (case kq17a => k_is); (case kq17l => k_is); (case kq17c => kernel_rfl)) ?_
    intro DIs
    refine LawK.say KX (fun K => ∃ fd, LawK.Df K mg "_law_texts" LawK.sTexts ["pool", "most"] 219 fd) (by
      refine' LawK.df_mk KX G (fun _ _ _ _ _ _ us hl => match us, hl with | [_, _], _ => rfl) ?kq18a ?kq18l ?kq18c
      (case kq18a => k_is); (case kq18l => k_is); (case kq18c => kernel_rfl)) ?_
    intro DTexts
    refine LawK.say KX (fun K => ∃ fd, LawK.Df K mg "_law_places" LawK.sPlaces ["texts"] 224 fd) (by
      refine' LawK.df_mk KX G (fun _ _ _ _ _ _ us hl => match us, hl with | [_], _ => rfl) ?kq19a ?kq19l ?kq19c
      (case kq19a => k_is); (case kq19l => k_is); (case kq19c => kernel_rfl)) ?_
    intro DPlaces
    refine LawK.say KX (fun K => ∃ fd, LawK.Df K mg "_law_part" LawK.sPart ["pool", "signs", "is_end"] 229 fd) (by
      refine' LawK.df_mk KX G (fun _ _ _ _ _ _ us hl => match us, hl with | [_, _, _], _ => rfl) ?kq20a ?kq20l ?kq20c
      (case kq20a => k_is); (case kq20l => k_is); (case kq20c => kernel_rfl)) ?_
    intro DPart
    refine LawK.say KX (fun K => ∃ fd, LawK.Df K mg "_law_pattern" LawK.sPattern ["pool", "signs", "most"] 236 fd) (by
      refine' LawK.df_mk KX G (fun _ _ _ _ _ _ us hl => match us, hl with | [_, _, _], _ => rfl) ?kq21a ?kq21l ?kq21c
      (case kq21a => k_is); (case kq21l => k_is); (case kq21c => kernel_rfl)) ?_
    intro DPattern
    refine LawK.say KX (fun K => ∃ fd, LawK.Df K mg "_law_lets" LawK.sLets ["part", "sign"] 243 fd) (by
      refine' LawK.df_mk KX G (fun _ _ _ _ _ _ us hl => match us, hl with | [_, _], _ => rfl) ?kq22a ?kq22l ?kq22c
      (case kq22a => k_is); (case kq22l => k_is); (case kq22c => kernel_rfl)) ?_
    intro DLets
    refine LawK.say KX (fun K => ∃ fd, LawK.Df K mg "_law_begun" LawK.sBegun ["texts", "pattern"] 248 fd) (by
      refine' LawK.df_mk KX G (fun _ _ _ _ _ _ us hl => match us, hl with | [_, _], _ => rfl) ?kq23a ?kq23l ?kq23c
      (case kq23a => k_is); (case kq23l => k_is); (case kq23c => kernel_rfl)) ?_
    intro DBegun
    refine LawK.say KX (fun K => ∃ fd, LawK.Df K mg "_law_range" LawK.sRange ["texts", "order", "word"] 253 fd) (by
      refine' LawK.df_mk KX G (fun _ _ _ _ _ _ us hl => match us, hl with | [_, _, _], _ => rfl) ?kq24a ?kq24l ?kq24c
      (case kq24a => k_is); (case kq24l => k_is); (case kq24c => kernel_rfl)) ?_
    intro DRange
    refine LawK.say KX (fun K => ∃ fI fdI, LawK.LibC K mg 138 fI fdI) (by
      refine' LawK.lib_mk KX G ?kq25a ?kq25b ?kq25d ?kq25f ?kq25i
      (case kq25a => k_is); (case kq25b => k_is); (case kq25d => k_is); (case kq25f => kernel_rfl); (case kq25i => kernel_rfl)) ?_
    intro LL
    have GL : LawK.Glob mg := ⟨mg_none_of KX G (by k_is), mg_none_of KX G (by k_is), mg_none_of KX G (by k_is), mg_none_of KX G (by k_is), mg_none_of KX G (by k_is), mg_none_of KX G (by k_is), mg_none_of KX G (by k_is), mg_none_of KX G (by k_is), mg_none_of KX G (by k_is), mg_none_of KX G (by k_is), mg_none_of KX G (by k_is), mg_none_of KX G (by k_is), mg_none_of KX G (by k_is), mg_none_of KX G (by k_is), mg_none_of KX G (by k_is), mg_none_of KX G (by k_is), mg_none_of KX G (by k_is), mg_none_of KX G (by k_is), mg_none_of KX G (by k_is), mg_none_of KX G (by k_is), mg_none_of KX G (by k_is)⟩
    refine' LawK.end_mk KX G hfa ?kq26a ?kq26l ?kq26c ?kq26b ?kq26d ?kq26e ?kq26f ?kq26g DPNumber DPSigns DPWord DPSign DPAllPlaces DPInOrder DPEndings DQIsLot DQIsPart DPIsPattern DPMayBe DQRanges DPSearched DPool DDraw DIs DTexts DPlaces DPart DPattern DLets DBegun DRange  LL GL
    (case kq26a => k_is); (case kq26l => k_is); (case kq26c => kernel_rfl); (case kq26b => k_is); (case kq26d => k_is); (case kq26e => k_is); (case kq26f => k_is); (case kq26g => k_is)
