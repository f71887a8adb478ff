import PyProof.Rows.All
import Wide.All
import OpenK.AllK
import Wide.FinOn
import HandS.ForMost
import HandS.ForExc
import PyProof.ReprRoads
import PyProof.ReprLen
import HandS.Dict
import HandS.ExcInit
import PyProof.StrBlock2
import HandS.IsInst
import HandS.Codes
import HandS.StrMore
import HandS.TupMul
import HandS.Style
import HandS.TupAny
import HandS.Zip
import KE.GoesEnum
import KE.KExcSuper
import KE.KExcMake
import HandS.ExcValue
import HandS.ExcIs
import KE.KExcIs
import HandS.ExcField
import HandS.TryMany
import HandS.TryOnly
import PyProof.StrLoop
import PyProof.StrWalks
import HandS.Walk
import HandS.Steps
import HandS.Base
import HandS.Call
import HandS.List
import HandS.Comp
import HandS.Set
import HandS.SetKeys
import HandS.SetBool
import HandS.SortOrd
import HandS.SortInts
import PyProof.Rows.SortStr
import HandS.SetFor
import KE.KIntText
import HandS.StrSplit
import HandS.Text
import HandS.Deep
import PyProof.Rows.StrRev
import HandS.OwnEq
import KE.SortData
import KE.DataCmp
import PySem.Challenge.RW_everypiece_k45_whole_patterns_as_texts
set_option Elab.async false
set_option linter.all false
set_option maxRecDepth 100000
set_option maxHeartbeats 4000000
/-! repr of nested data that the law has made. -/
namespace Ev
open PySem PySem.Spec PyProof.Rows L2

/-- a display of a list; its place is not the table of modules -/
def tLstN (t : TA) : TE := fun σ H Q => t σ H fun xs H1 => xs.length ≤ sizeLine ∧ ∀ p, H1 p = none → p ≠ sysModules → Q (.ref p) (upd H1 p (.lst xs))
theorem pe_lstN {X : Cx} {es : List Expr} {pos : Pos} {t : TA} (h : PA X es t) : PE X (.List es pos) (tLstN t) := by
  refine ⟨fun pins s σ H Q I hq => ?_⟩
  refine wpAny_List_spliced (thn (h.run pos pins s σ H _ I hq) fun us s1 hh => ?_)
  obtain ⟨xs, H1, I1, r, z, q⟩ := hh
  have hf : H1 s1.heap.objs.size = none := I1.hok.fresh (Nat.le_refl _)
  refine ⟨by rw [← r.length]; exact z, .ref s1.heap.objs.size, upd H1 s1.heap.objs.size (.lst xs), I1.laid (t' := s1.toks) (o := .lst xs) (fun b u e => Heap.get?_push_of_some _ e) (Nat.le_refl _) ⟨z, us, 0, r, Heap.get?_push_size _ rfl⟩, rfl, q _ hf (Ne.symm (Nat.ne_of_lt I1.big))⟩

/-- the datum d is told by v -/
inductive Dt (H : Hp) : V → PyData → Prop
  | non : Dt H .non .none
  | bl (b : Bool) : Dt H (.bl b) (.bool b)
  | int (i : Int) : Dt H (.int i) (.int i)
  | str (x : Str) : Dt H (.str x) (.str x)
  | dic {a : Addr} : H a = some (.dK []) → Dt H (.ref a) (.dict [])
  | l0 {a : Addr} : H a = some (.lst []) → a ≠ sysModules → Dt H (.ref a) (.list [])
  | l1 {a : Addr} {x : V} {d : PyData} : H a = some (.lst [x]) → a ≠ sysModules → Dt H x d → Dt H (.ref a) (.list [d])
  | l2 {a : Addr} {x y : V} {d e : PyData} : H a = some (.lst [x, y]) → a ≠ sysModules → Dt H x d → Dt H y e → Dt H (.ref a) (.list [d, e])
  | t0 {a : Addr} : H a = some (.tup []) → Dt H (.ref a) (.tuple [])
  | t1 {a : Addr} {x : V} {d : PyData} : H a = some (.tup [x]) → Dt H x d → Dt H (.ref a) (.tuple [d])
  | t2 {a : Addr} {x y : V} {d e : PyData} : H a = some (.tup [x, y]) → Dt H x d → Dt H y e → Dt H (.ref a) (.tuple [d, e])
theorem Dt.keep {H H' : Hp} {v : V} {d : PyData} (h : Dt H v d) (k : ∀ b o, H b = some o → H' b = some o) : Dt H' v d := by
  induction h with
  | non => exact .non
  | bl b => exact .bl b
  | int i => exact .int i
  | str x => exact .str x
  | dic e => exact .dic (k _ _ e)
  | l0 e n => exact .l0 (k _ _ e) n
  | l1 e n _ ih => exact .l1 (k _ _ e) n ih
  | l2 e n _ _ i1 i2 => exact .l2 (k _ _ e) n i1 i2
  | t0 e => exact .t0 (k _ _ e)
  | t1 e _ ih => exact .t1 (k _ _ e) ih
  | t2 e _ _ i1 i2 => exact .t2 (k _ _ e) i1 i2
section
variable {X : Cx} {pins : List (Addr × Obj)} {σ : L2.St} {H : Hp} {s : Shared}
theorem lst_at (I : L2.Inv X pins σ H s) {a : Addr} {xs : List V} (h : H a = some (.lst xs)) : ∃ (its : List Value) (n : Nat), Vals xs its ∧ s.heap.get? a = some { cls := .type "list", data := .seq its.toArray n } := by
  obtain ⟨_, its, n, r, e⟩ := (show ObjOk X.prog X.w H s.heap a (.lst xs) from I.hok a _ h)
  exact ⟨its, n, r, e⟩
theorem tup_at (I : L2.Inv X pins σ H s) {a : Addr} {xs : List V} (h : H a = some (.tup xs)) : ∃ (its : List Value) (o : Obj) (n : Nat), Vals xs its ∧ s.heap.get? a = some o ∧ o.cls = .type "tuple" ∧ o.data = .seq its.toArray n := by
  obtain ⟨_, its, r, o, e, c, n, d⟩ := (show ObjOk X.prog X.w H s.heap a (.tup xs) from I.hok a _ h)
  exact ⟨its, o, n, r, e, c, d⟩
theorem Dt.reads (I : L2.Inv X pins σ H s) {v : V} {d : PyData} (h : Dt H v d) : ∀ {u : Value}, RelV v u → ∃ as, Reads s.heap u d as ∧ sysModules ∉ as := by
  induction h with
  | non => intro u r; cases r; exact ⟨_, .none, by simp⟩
  | bl b => intro u r; cases r; exact ⟨_, .bool b, by simp⟩
  | int i => intro u r; obtain ⟨t, rfl⟩ := r; exact ⟨_, .int i t, by simp⟩
  | str x => intro u r; obtain ⟨t, rfl⟩ := r; exact ⟨_, .str x t, by simp⟩
  | @dic a e =>
    intro u r
    cases r
    obtain ⟨_, hs, vs, kv, o, es, ep, ho, hx, hd, hk, hp, _⟩ := (show ObjOk X.prog X.w H s.heap a (.dK []) from I.hok a _ e)
    cases kv
    have he : es.toList = [] := by
      generalize es.toList = l at hp
      cases hp
      rfl
    refine ⟨a :: [] ++ [], .dict (as := []) (bs := []) ho hx.1 hd ?_ ?_, ?_⟩
    · rw [he]; exact .nil
    · rw [he]; exact .nil
    · have : a ≠ sysModules := by simpa using hs
      simp [Ne.symm this]
  | @l0 a e n =>
    intro u r
    cases r
    obtain ⟨its, m, rv, ho⟩ := lst_at I e
    cases rv
    exact ⟨_, .list ho rfl rfl .nil, by simp [Ne.symm n]⟩
  | @l1 a x d e n hx ih =>
    intro u r
    cases r
    obtain ⟨its, m, rv, ho⟩ := lst_at I e
    cases rv with
    | cons r1 rr =>
      cases rr
      obtain ⟨as, q, nq⟩ := ih r1
      exact ⟨_, .list ho rfl rfl (.cons q .nil), by simp [Ne.symm n, nq]⟩
  | @l2 a x y d e2 e n hx hy ih1 ih2 =>
    intro u r
    cases r
    obtain ⟨its, m, rv, ho⟩ := lst_at I e
    cases rv with
    | cons r1 rr =>
      cases rr with
      | cons r2 rr =>
        cases rr
        obtain ⟨as, q, nq⟩ := ih1 r1
        obtain ⟨bs, q2, nq2⟩ := ih2 r2
        exact ⟨_, .list ho rfl rfl (.cons q (.cons q2 .nil)), by simp [Ne.symm n, nq, nq2]⟩
  | @t0 a e =>
    intro u r
    cases r
    obtain ⟨its, o, m, rv, ho, hc, hd⟩ := tup_at I e
    cases rv
    exact ⟨_, .tuple ho hc hd .nil, by simp⟩
  | @t1 a x d e hx ih =>
    intro u r
    cases r
    obtain ⟨its, o, m, rv, ho, hc, hd⟩ := tup_at I e
    cases rv with
    | cons r1 rr =>
      cases rr
      obtain ⟨as, q, nq⟩ := ih r1
      exact ⟨_, .tuple ho hc hd (.cons q .nil), by simp [nq]⟩
  | @t2 a x y d e2 e hx hy ih1 ih2 =>
    intro u r
    cases r
    obtain ⟨its, o, m, rv, ho, hc, hd⟩ := tup_at I e
    cases rv with
    | cons r1 rr =>
      cases rr with
      | cons r2 rr =>
        cases rr
        obtain ⟨as, q, nq⟩ := ih1 r1
        obtain ⟨bs, q2, nq2⟩ := ih2 r2
        exact ⟨_, .tuple ho hc hd (.cons q (.cons q2 .nil)), by simp [nq, nq2]⟩
end
/-- repr(x), x a datum of small depth and size -/
def rRepr : List V → Hp → VK → Prop := fun xs H Q => ∃ (x : V) (d : PyData), xs = [x] ∧ Dt H x d ∧ d.showable = true ∧ d.depth ≤ 100 ∧ d.shown.length ≤ 100000 ∧ Q (.str d.shown) H
theorem call_repr {X : Cx} {k : Nat} (hg : X.A.guards = some []) (hr : Room k X.A) : CallR X (.builtin "repr") rRepr := by
  intro pins s σ H xs us Q I r h
  obtain ⟨x, d, rfl, hd, hs, hdp, hz, q⟩ := h
  obtain ⟨u, rfl, ru⟩ := vals1 r
  have hz' : d.shown.length ≤ sizeLine := Nat.le_trans hz (by decide)
  obtain ⟨as, rd, ns⟩ := hd.reads I ru
  have hu : X.A.units + (d.depth + 1) < cLine := by have := hr.un; omega
  have viaRef : ∀ a, u = .ref a → wpAny (model X.prog X.w) X.A (call (.builtin "repr") [u]) (EP X pins σ Q) X.xe s := fun a e => by
    subst e
    exact repr_of_reads' rd hs (fun _ => ns) hg hu (fun _ _ e => e) (fun h' u tk k => ⟨.str d.shown, H, I.kept k, ⟨_, rfl⟩, q⟩) hz'
  cases hd with
  | non => cases ru; exact PySem.P.repr_of_none ⟨.str _, H, I.tok _, ⟨_, rfl⟩, by simpa only [PyData.shown] using q⟩
  | bl b => cases ru; exact PySem.P.repr_of_bool ⟨.str _, H, I.tok _, ⟨_, rfl⟩, by simpa only [PyData.shown] using q⟩
  | int i => obtain ⟨t, rfl⟩ := ru; exact PySem.P.repr_of_int (by simpa [PyData.showable] using hs) ⟨.str _, H, I.tok _, ⟨_, rfl⟩, by simpa only [PyData.shown] using q⟩
  | str x => obtain ⟨t, rfl⟩ := ru; exact PySem.P.repr_of_str ⟨.str _, H, I.tok _, ⟨_, rfl⟩, by simpa only [PyData.shown] using q⟩ (by simpa only [PyData.shown] using hz')
  | dic e => exact viaRef _ ru
  | l0 e n => exact viaRef _ ru
  | l1 e n h1 => exact viaRef _ ru
  | l2 e n h1 h2 => exact viaRef _ ru
  | t0 e => exact viaRef _ ru
  | t1 e h1 => exact viaRef _ ru
  | t2 e h1 h2 => exact viaRef _ ru
/-- what is told of a datum: it may be shown, so deep, so long -/
def Small (d : PyData) (n m : Nat) : Prop := d.showable = true ∧ d.depth ≤ n ∧ d.shown.length ≤ m
theorem int_len {k : Int} (hk : 0 ≤ k ∧ k < 100) : (PyData.shown (.int k)).length ≤ 3 := by
  have e : (toString k).length ≤ 2 + 1 := int_text_length_le10 (by decide) (by omega)
  simp only [PyData.shown]
  rw [PySem.ofString_length]
  exact e
theorem int_show {k : Int} (hk : 0 ≤ k ∧ k < 100) : k.natAbs.log2 < 1920 := by
  have := Nat.log2_le_self k.natAbs
  omega
theorem small_tup {d : PyData} {n m : Nat} {k : Int} (h : Small d n m) (hk : 0 ≤ k ∧ k < 100) : Small (.tuple [d, .int k]) (n + 1) (m + 10) := by
  obtain ⟨h1, h2, h3⟩ := h
  refine ⟨by simp [PyData.showable, PyData.showableAll, h1, int_show hk], by simp only [PyData.depth, PyData.depthAll]; omega, ?_⟩
  have e := tupleText_len_le (PyData.shownAll [d, .int k])
  have e2 := int_len hk
  simp only [PyData.shownAll, List.map_cons, List.map_nil, List.sum_cons, List.sum_nil, List.length_cons, List.length_nil] at e
  show (tupleText (PyData.shownAll [d, .int k])).length ≤ m + 10
  simp only [PyData.shownAll]
  omega
theorem small_lst {d : PyData} {n m : Nat} {k : Int} (h : Small d n m) (hk : 0 ≤ k ∧ k < 100) : Small (.list [.int k, d]) (n + 1) (m + 10) := by
  obtain ⟨h1, h2, h3⟩ := h
  refine ⟨by simp [PyData.showable, PyData.showableAll, h1, int_show hk], by simp only [PyData.depth, PyData.depthAll]; omega, ?_⟩
  have e := listText_len_le (PyData.shownAll [.int k, d])
  have e2 := int_len hk
  simp only [PyData.shownAll, List.map_cons, List.map_nil, List.sum_cons, List.sum_nil, List.length_cons, List.length_nil] at e
  show (listText (PyData.shownAll [.int k, d])).length ≤ m + 10
  simp only [PyData.shownAll]
  omega
theorem Small.mono {d : PyData} {n m n' m' : Nat} (h : Small d n m) (h1 : n ≤ n') (h2 : m ≤ m') : Small d n' m' := ⟨h.1, Nat.le_trans h.2.1 h1, Nat.le_trans h.2.2 h2⟩
end Ev
set_option maxHeartbeats 4000000
namespace LawK
open PySem PySem.Spec PyProof.Rows L2 Ev

def topS (i : Nat) : Stmt := PySem.Challenge.pw_everypiece_k45_whole_patterns_as_texts.main.body.getD i (.Pass ⟨0, 0, 0, 0⟩)
abbrev sPool : Stmt := topS 28
theorem scPool : FnScope ["script", "seed", "cell"] ["script"] (defScope sPool) := ⟨rfl, rfl, rfl, by decide +kernel, rfl, by decide +kernel, by decide +kernel⟩
abbrev sDraw : Stmt := topS 29
theorem scDraw : FnScope ["pool", "many", "cells", "digit", "mixed"] ["pool", "many"] (defScope sDraw) := ⟨rfl, rfl, rfl, by decide +kernel, rfl, by decide +kernel, by decide +kernel⟩
/-! ### the pool of a law: a seed, how often it was asked, what is left of the great numbers -/
def HandL (H : Hp) (p l : Addr) : Prop := ∃ (cells : List Int) (s n : Int), H p = some (.lst [.int s, .int n, .ref l]) ∧ H l = some (.lst (cells.map V.int)) ∧ l ≠ p
/-- nothing but the pool at p and its list at l has changed -/
def But (p l : Addr) (H H' : Hp) : Prop := ∀ b o, b ≠ p ∧ b ≠ l → H b = some o → H' b = some o
theorem But.refl (p l : Addr) (H : Hp) : But p l H H := fun _ _ _ h => h
theorem But.trans {p l : Addr} {H H1 H2 : Hp} (a : But p l H H1) (b : But p l H1 H2) : But p l H H2 := fun c o n h => b c o n (a c o n h)
theorem But.same {p l : Addr} {H H' : Hp} (a : Same H H') : But p l H H' := fun c o _ e => a c o e
def spDraw : Sp := fun vs H Q _ => ∃ (p : Addr) (m : Int), vs = [.ref p, .int m] ∧ 0 < m ∧ m < 1000000 ∧ ∃ l, HandL H p l ∧ ∀ v H', 0 ≤ v → v < m → HandL H' p l → But p l H H' → Q (.int v) H'
def spPool (K : PySem.W.Frag) : Sp := fun vs H Q _ => ∃ (a : Addr) (ns : List Int), vs = [.ref a] ∧ SqL K H a (ns.map V.int) ∧ ∀ p l H', H p = none → H l = none → HandL H' p l → Same H H' → Q (.ref p) H'
structure Glob (mg : Str → Option Value) : Prop where
  abs : mg "abs" = none
  any : mg "any" = none
  repr : mg "repr" = none
  reversed : mg "reversed" = none
  len : mg "len" = none
  int : mg "int" = none
  list : mg "list" = none
  range : mg "range" = none
  isinstance : mg "isinstance" = none
  bool : mg "bool" = none
  str : mg "str" = none
  tuple : mg "tuple" = none
  sum : mg "sum" = none
  ord : mg "ord" = none
  zip : mg "zip" = none
  max : mg "max" = none
  min : mg "min" = none
  all : mg "all" = none
  enumerate : mg "enumerate" = none
  sorted : mg "sorted" = none
  set : mg "set" = none
theorem sq_of {K : PySem.W.Frag} {H : Hp} {a : Addr} {xs : List V} (h : H a = some (.lst xs)) : SqL K H a xs := .inl (.inl h)
theorem atI_in {α : Type} {xs : List α} {i : Int} (h0 : 0 ≤ i) (h1 : i < xs.length) : ∃ v, atI xs i = some v ∧ v ∈ xs := by
  obtain ⟨j, rfl⟩ := Int.eq_ofNat_of_zero_le h0
  have hj : j < xs.length := by omega
  exact ⟨xs[j], atI_nat (by rw [List.getElem?_eq_getElem hj]), List.getElem_mem hj⟩
theorem atI_int {xs : List Int} {i : Int} (h0 : 0 ≤ i) (h1 : i < xs.length) : ∃ c : Int, atI (xs.map V.int) i = some (.int c) := by
  obtain ⟨v, e, hm⟩ := atI_in (xs := xs.map V.int) h0 (by rw [List.length_map]; exact h1)
  obtain ⟨c, _, rfl⟩ := List.mem_map.mp hm
  exact ⟨c, e⟩
theorem Same.new {H : Hp} {q : Addr} {o : HO} (h : H q = none) : Same H (upd H q o) := fun b u e => by
  rw [upd_ne (ne_of_none e h)]
  exact e
theorem sameAt {H H' : Hp} {q : Addr} {o : HO} (k : Same H H') (h : H q = none) : Same H (upd H' q o) := fun b u e => by
  rw [upd_ne (ne_of_none e h)]
  exact k b u e
theorem Same.free {H H' : Hp} (k : Same H H') {a : Addr} (h : H' a = none) : H a = none := by
  cases e : H a with
  | none => rfl
  | some o =>
    rw [k _ _ e] at h
    cases h
theorem cells_cut {ns : List Int} {h : Option Int} : ∃ ms : List Int, cutV (ns.map V.int) none h = ms.map V.int ∧ ms.length ≤ ns.length := by
  refine ⟨(ns.drop (HT.sIx (ns.map V.int).length 0 none)).take (HT.sIx (ns.map V.int).length (ns.map V.int).length h - HT.sIx (ns.map V.int).length 0 none), ?_, ?_⟩
  · show ((ns.map V.int).drop _).take _ = _
    rw [← List.map_drop, ← List.map_take]
  · rw [List.length_take, List.length_drop]
    omega
theorem PSs.imp {X : Cx} {st : List Stmt} {t u : TS} (h : PSs X st u) (k : ∀ D σ H, t D σ H → u D σ H) : PSs X st t := ⟨fun pins s σ H D I q => h.run pins s σ H D I (k D σ H q)⟩
theorem PE.imp {X : Cx} {e : Expr} {t u : TE} (h : PE X e u) (k : ∀ σ H Q, t σ H Q → u σ H Q) : PE X e t := ⟨fun pins s σ H Q I q => h.run pins s σ H Q I (k σ H Q q)⟩
theorem PS.imp {X : Cx} {st : Stmt} {t u : TS} (h : PS X st u) (k : ∀ D σ H, t D σ H → u D σ H) : PS X st t := ⟨fun pins s σ H D I q => h.run pins s σ H D I (k D σ H q)⟩
theorem sqSame {K : PySem.W.Frag} {H H' : Hp} {a : Addr} {xs : List V} (h : SqL K H a xs) (k : Same H H') : SqL K H' a xs := by
  rcases h with (h | ⟨o, h⟩) | h
  · exact .inl (.inl (k _ _ h))
  · exact .inl (.inr ⟨o, k _ _ h⟩)
  · exact .inr h
theorem boot_ty_int : bootBuiltins "int" = some (.type "int") := by decide +kernel
section
variable {P : Program} {w : World} {K : PySem.W.Frag} {mg : Str → Option Value} {base : Heap}

theorem ok_Pool {f : Addr} {fd : FuncData} (F : Fun K "_law_pool" "_law_pool" sPool f fd) (T : Glob mg) : FnOk P w K mg base CX0 1 f fd ["script"] (spPool K) := by
  refine F.ok scPool (fun vs H Q E h => ?_) (fun cdv A outer s H vs Q E hr h => ?_)
  · obtain ⟨a, ns, rfl, _⟩ := h
    rfl
  · obtain ⟨a, ns, rfl, hS, q⟩ := h
    refine ⟨_, (pss_cons (ps_set (i := 1) scPool.nd rfl (.inl rfl) (pe_op op_add (pe_op op_add (pe_op op_mod (pe_callTy call_int1 (by rfl) T.int boot_ty_int (pa_cons (pe_callB (cr_sum rfl) (by rfl) T.sum (by decide +kernel) (pa_cons (pe_slice sl_list (pv 0) po_none (po_some pe_int)) pa_nil)) pa_nil)) pe_int) (pe_callB call_len_seq (by rfl) T.len PySem.boot_len (pa_cons (pv 0) pa_nil))) pe_int))
      (pss_cons (ps_for PassesOwn.never rfl (pi_list (pe_slice sl_list (pv 0) po_none (po_some pe_int))) (pg_name (i := 2) scPool.nd rfl (.inl rfl))
      (pss_one (ps_set (i := 1) scPool.nd rfl (.inl rfl) (pe_op op_mod (pe_callTy call_int1 (by rfl) T.int boot_ty_int (pa_cons (pe_op op_add (pe_op op_add (pe_op op_mul (pv 1) pe_int) (pe_op op_mod (pe_callTy call_int1 (by rfl) T.int boot_ty_int (pa_cons (pv 2) pa_nil)) pe_int)) pe_int) pa_nil)) pe_int))))
      (pss_one (ps_ret (pe_lst (pa_cons (pv 1) (pa_cons pe_int (pa_cons (pe_lc (own := [("cell", 2)]) (g := gName 2) (by rfl) scPool.nd (pi_list (pe_slice sl_list (pv 0) po_none (po_some pe_int))) (blkOk_by (N := ["script", "seed", "cell"]) (sc := defScope sPool) (by decide +kernel)) (fun _ _ _ _ _ => pg_name (i := 2) scPool.nd rfl (.inl rfl)) (fun _ _ _ _ _ => (pts_one (pt_cmpR op_ge (pe_callB call_abs (by rfl) T.abs (by decide +kernel) (pa_cons (pv 2) pa_nil)) (pe_op op_pow pe_int pe_int) (nomark _)))) (fun _ _ _ _ _ => (pe_callB call_abs (by rfl) T.abs (by decide +kernel) (pa_cons (pv 2) pa_nil)))) pa_nil)))))))), ?_⟩
    obtain ⟨m1, e1, _⟩ := cells_cut (ns := ns) (h := some 1)
    obtain ⟨ms, ec, lm⟩ := cells_cut (ns := ns) (h := some 63)
    have lc : (cutV (ns.map V.int) none (some (63 : Int))).length ≤ 63 := by
      show (((ns.map V.int).drop _).take _).length ≤ 63
      rw [List.length_take]
      have : HT.sIx (ns.map V.int).length (ns.map V.int).length (some (63 : Int)) ≤ 63 := Nat.min_le_left _ _
      omega
    rw [ec, List.length_map] at lc
    refine ⟨.ref a, rfl, _, rfl, a, _, rfl, hS, fun c nc => ?_⟩
    rw [e1]
    have k1 := Same.new (o := .lst (m1.map V.int)) nc
    have h1 : upd H c (.lst (m1.map V.int)) c = some (.lst (m1.map V.int)) := upd_same
    revert k1 h1
    generalize upd H c (.lst (m1.map V.int)) = H1
    intro k1 h1
    have hS1 := sqSame hS k1
    refine ⟨c, m1, rfl, sq_of h1, .inl ⟨_, rfl, _, _, rfl, rfl, (by show (0 : Int) < 1000003; decide), ?_⟩⟩
    refine ⟨.ref a, rfl, a, _, rfl, .inl hS1, _, _, rfl, rfl, _, _, rfl, rfl, ?_⟩
    refine ⟨.ref a, rfl, _, rfl, a, _, rfl, hS1, fun c2 nc2 => ?_⟩
    rw [ec]
    have k2 := Same.new (o := .lst (ms.map V.int)) nc2
    have h2 : upd H1 c2 (.lst (ms.map V.int)) c2 = some (.lst (ms.map V.int)) := upd_same
    revert k2 h2
    generalize upd H1 c2 (.lst (ms.map V.int)) = H2
    intro k2 h2
    have hS2 := sqSame hS1 k2
    refine ⟨c2, rfl, ⟨_, sq_of h2⟩, for_list (K := K) (xs := ms.map V.int) (fun i σ H' => ∃ (s : Int) (u : Option V), σ = [some (.ref a), some (.int s), u] ∧ H' = H2) ⟨_, _, rfl, rfl⟩ (fun i σ H' _ ⟨_, _, _, w⟩ => by rw [w]; exact sq_of h2) ?_ ?_⟩
    · rintro i x σ H3 hx ⟨s, u, rfl, rfl⟩
      rw [List.getElem?_map] at hx
      obtain ⟨y, hy, rfl⟩ := Option.map_eq_some_iff.mp hx
      refine ⟨.int s, rfl, _, _, rfl, rfl, .inr ⟨by decide, by decide⟩, .int y, rfl, .inl ⟨_, rfl, _, _, rfl, rfl, (by show (0 : Int) < 2147483629; decide), _, _, rfl, rfl, _, _, rfl, rfl, .inl ⟨_, rfl, _, _, rfl, rfl, (by show (0 : Int) < 2147483647; decide), ?_⟩⟩⟩
      exact ⟨_, _, rfl, rfl⟩
    · rintro σ H3 ⟨s, u, rfl, rfl⟩
      refine ⟨.int s, rfl, .ref a, rfl, _, rfl, a, _, rfl, hS2, fun c3 nc3 => ?_⟩
      rw [ec]
      have k3 := Same.new (o := .lst (ms.map V.int)) nc3
      have h3 : upd H3 c3 (.lst (ms.map V.int)) c3 = some (.lst (ms.map V.int)) := upd_same
      revert k3 h3
      generalize upd H3 c3 (.lst (ms.map V.int)) = H4
      intro k3 h3
      refine ⟨c3, rfl, ⟨_, sq_of h3⟩, fun l nl => lc_list (xs := ms.map V.int) (fun i H' => Same H4 H' ∧ ∃ zs : List Int, H' l = some (.lst (zs.map V.int)) ∧ zs.length ≤ i) ⟨Same.new nl, [], upd_same, Nat.le_refl _⟩ (fun i H' _ w => sq_of (w.1 _ _ h3)) ?_ ?_⟩
      · rintro i x H5 hx ⟨k5, zs, hl, lz⟩
        rw [List.getElem?_map] at hx
        obtain ⟨y, hy, rfl⟩ := Option.map_eq_some_iff.mp hx
        have li := (List.getElem?_eq_some_iff.mp hy).1
        refine ⟨rfl, .int y, rfl, y, rfl, _, _, rfl, rfl, ⟨by decide, by decide, by decide⟩, _, _, rfl, rfl, _, rfl, ite2 (fun c => ?_) fun c => ?_⟩
        · refine ⟨.int y, rfl, y, rfl, _, hl, ?_, sameAt k5 nl, zs ++ [if y < 0 then -y else y], ?_, by rw [List.length_append, List.length_singleton]; omega⟩
          · rw [List.length_map, sizeLine_eq]
            omega
          · rw [upd_same, List.map_append]
            rfl
        · exact ⟨k5, zs, hl, by omega⟩
      · rintro H5 ⟨k5, zs, hl, lz⟩
        refine ⟨by show 3 ≤ sizeLine; decide, fun p np => ?_⟩
        have nlp : l ≠ p := ne_of_none hl np
        have kH5 : Same H H5 := k1.trans (k2.trans (k3.trans k5))
        have nH : H l = none := Same.free (k1.trans (k2.trans k3)) nl
        exact q p l _ (Same.free kH5 np) nH ⟨zs, s, 0, upd_same, by rw [upd_ne nlp]; exact hl, nlp⟩ (sameAt kH5 (Same.free kH5 np))
theorem ok_Draw {f : Addr} {fd : FuncData} (F : Fun K "_law_draw" "_law_draw" sDraw f fd) (T : Glob mg) : FnOk P w K mg base CX0 1 f fd ["pool", "many"] spDraw := by
  refine F.ok scDraw (fun vs H Q E h => ?_) (fun cdv A outer s H vs Q E hr h => ?_)
  · obtain ⟨p, m, rfl, _⟩ := h
    rfl
  · obtain ⟨p, m, rfl, m0, m1, l, ⟨cells, s0, n, hp, hl, npl⟩, q⟩ := h
    refine ⟨_, (pss_cons (ps_asg (pe_op op_add (pe_ix ix_list (pv 0) pe_int (fun _ _ => rfl)) pe_int) (pg_sub (pv 0) pe_int set_list))
      (pss_cons (ps_set (i := 2) scDraw.nd rfl (.inl rfl) (pe_ix ix_list (pv 0) pe_int (fun _ _ => rfl)))
      (pss_cons (ps_if (pt_cmpR op_gt (pe_callB call_len_seq (by rfl) T.len PySem.boot_len (pa_cons (pv 2) pa_nil)) pe_int (nomark _))
      (pss_cons (ps_set (i := 3) scDraw.nd rfl (.inl rfl) (pe_op op_mod (pe_callTy call_int1 (by rfl) T.int boot_ty_int (pa_cons (pe_ix ix_list (pv 2) pe_int (fun _ _ => rfl)) pa_nil)) (pv 1)))
        (pss_cons (ps_asg (pe_op op_fdiv (pe_callTy call_int1 (by rfl) T.int boot_ty_int (pa_cons (pe_ix ix_list (pv 2) pe_int (fun _ _ => rfl)) pa_nil)) (pv 1)) (pg_sub (pv 2) pe_int set_list))
        (pss_cons (ps_if (pt_cmpR op_eq (pe_ix ix_list (pv 2) pe_int (fun _ _ => rfl)) pe_int (nomark _))
        (pss_one (ps_expr (pe_bm PySem.F.plainAttrs_list PySem.F.slot_list_pop PySem.F.type_list_pop mt_popAt (pv 2) (pa_cons pe_int pa_nil))))
        pss_nil)
        (pss_one (ps_ret (pv 3))))))
      pss_nil)
      (pss_cons (ps_set (i := 4) scDraw.nd rfl (.inl rfl) (pe_op op_mod (pe_callTy call_int1 (by rfl) T.int boot_ty_int (pa_cons (pe_op op_mul (pe_op op_add (pe_ix ix_list (pv 0) pe_int (fun _ _ => rfl)) (pe_op op_mul pe_int (pe_ix ix_list (pv 0) pe_int (fun _ _ => rfl)))) pe_int) pa_nil)) pe_int))
      (pss_cons (ps_set (i := 4) scDraw.nd rfl (.inl rfl) (pe_op op_mod (pe_callTy call_int1 (by rfl) T.int boot_ty_int (pa_cons (pe_op op_mul (pv 4) (pe_op op_add (pe_op op_fdiv (pv 4) pe_int) pe_int)) pa_nil)) pe_int))
      (pss_cons (ps_set (i := 4) scDraw.nd rfl (.inl rfl) (pe_op op_mod (pe_callTy call_int1 (by rfl) T.int boot_ty_int (pa_cons (pe_op op_mul (pv 4) (pe_op op_add (pe_op op_fdiv (pv 4) pe_int) pe_int)) pa_nil)) pe_int))
      (pss_one (ps_ret (pe_op op_mod (pe_callTy call_int1 (by rfl) T.int boot_ty_int (pa_cons (pe_op op_fdiv (pv 4) pe_int) pa_nil)) (pv 1)))))))))), ?_⟩
    refine ⟨.ref p, rfl, p, _, 1, _, rfl, rfl, sq_of hp, rfl, _, _, rfl, rfl, .ref p, rfl, p, _, 1, 1, rfl, rfl, hp, rfl, ?_⟩
    dsimp only
    have hp2 : upd H p (.lst (List.set [.int s0, .int n, .ref l] 1 (.int (n + 1)))) p = some (.lst [.int s0, .int (n + 1), .ref l]) := upd_same
    have hl2 : upd H p (.lst (List.set [.int s0, .int n, .ref l] 1 (.int (n + 1)))) l = some (.lst (cells.map V.int)) := by rw [upd_ne npl]; exact hl
    have b2 : But p l H (upd H p (.lst (List.set [.int s0, .int n, .ref l] 1 (.int (n + 1))))) := fun b u n e => by rw [upd_ne n.1]; exact e
    generalize upd H p (.lst (List.set [.int s0, .int n, .ref l] 1 (.int (n + 1)))) = H2 at hp2 hl2 b2 ⊢
    refine ⟨.ref p, rfl, p, _, 2, _, rfl, rfl, sq_of hp2, rfl, ?_⟩
    refine ⟨.ref l, rfl, l, _, rfl, .inl (sq_of hl2), _, _, rfl, rfl, _, rfl, ite2 (fun e => ?_) (fun e => ?_)⟩
    · have pos : 0 < cells.length := by
        have e := of_decide_eq_true e
        rw [List.length_map] at e
        omega
      obtain ⟨c, cs, rfl⟩ : ∃ c cs, cells = c :: cs := by
        cases cells with
        | nil => cases pos
        | cons c cs => exact ⟨c, cs, rfl⟩
      have ix0 : ∀ d : Int, ixN ((d :: cs).map V.int).length 0 = some 0 := fun d => by
        rw [List.length_map, List.length_cons]
        simp [ixN]
      have sx0 : ∀ d : Int, seqIndex? 0 ((d :: cs).map V.int).length = some 0 := fun d => by
        rw [List.length_map, List.length_cons]
        simp [seqIndex?]
      refine ⟨.ref l, rfl, l, _, 0, .int c, rfl, rfl, sq_of hl2, atI_nat (j := 0) rfl, .inl ⟨c, rfl, .int m, rfl, _, _, rfl, rfl, m0, ?_⟩⟩
      refine ⟨.ref l, rfl, l, _, 0, .int c, rfl, rfl, sq_of hl2, atI_nat (j := 0) rfl, .inl ⟨c, rfl, .int m, rfl, _, _, rfl, rfl, ⟨m0, by omega⟩, ?_⟩⟩
      refine ⟨.ref l, rfl, l, _, 0, 0, rfl, rfl, hl2, ix0 c, ?_⟩
      dsimp only
      have hp3 : upd H2 l (.lst (List.set ((c :: cs).map V.int) 0 (.int (c / m)))) p = some (.lst [.int s0, .int (n + 1), .ref l]) := by rw [upd_ne (Ne.symm npl)]; exact hp2
      have hl3 : upd H2 l (.lst (List.set ((c :: cs).map V.int) 0 (.int (c / m)))) l = some (.lst ((c / m :: cs).map V.int)) := upd_same
      have b3 : But p l H (upd H2 l (.lst (List.set ((c :: cs).map V.int) 0 (.int (c / m))))) := b2.trans fun b u n e => by rw [upd_ne n.2]; exact e
      generalize upd H2 l (.lst (List.set ((c :: cs).map V.int) 0 (.int (c / m)))) = H3 at hp3 hl3 b3 ⊢
      refine ⟨.ref l, rfl, l, _, 0, .int (c / m), rfl, rfl, sq_of hl3, atI_nat (j := 0) rfl, rfl, _, rfl, ite2 (fun e2 => ?_) fun e2 => ?_⟩
      · refine ⟨.ref l, rfl, .inl ⟨rfl, _, sq_of hl3⟩, l, _, 0, 0, .int (c / m), rfl, rfl, hl3, by decide, by decide, sx0 (c / m), rfl, ?_⟩
        refine ⟨_, rfl, ?_⟩
        exact q _ _ (Int.emod_nonneg _ (by omega)) (Int.emod_lt_of_pos _ m0) ⟨cs, s0, n + 1, by rw [upd_ne (Ne.symm npl)]; exact hp3, upd_same, npl⟩ (b3.trans fun b u n e => by rw [upd_ne n.2]; exact e)
      · dsimp only [tNext, tDrop]
        refine ⟨_, rfl, ?_⟩
        exact q _ _ (Int.emod_nonneg _ (by omega)) (Int.emod_lt_of_pos _ m0) ⟨_, s0, n + 1, hp3, hl3, npl⟩ b3
    · dsimp only [tNext, tDrop]
      refine ⟨.ref p, rfl, p, _, 0, _, rfl, rfl, sq_of hp2, rfl, .ref p, rfl, p, _, 1, _, rfl, rfl, sq_of hp2, rfl, 7919, n + 1, rfl, rfl, .inl ⟨by decide, by decide⟩, _, _, rfl, rfl, _, _, rfl, rfl, .inr ⟨by decide, by decide⟩, .inl ⟨_, rfl, _, _, rfl, rfl, (by show (0 : Int) < 2147483647; decide), ?_⟩⟩
      dsimp only
      have a2 : 0 ≤ ((s0 + 7919 * (n + 1)) * 48271) % 2147483647 := Int.emod_nonneg _ (by decide)
      have a3 : ((s0 + 7919 * (n + 1)) * 48271) % 2147483647 < 2147483647 := Int.emod_lt_of_pos _ (by decide)
      generalize ((s0 + 7919 * (n + 1)) * 48271) % 2147483647 = y at a2 a3 ⊢
      refine ⟨.int y, rfl, .int y, rfl, _, _, rfl, rfl, ⟨by decide, by decide⟩, _, _, rfl, rfl, _, _, rfl, rfl, .inl ⟨by omega, by omega⟩, .inl ⟨_, rfl, _, _, rfl, rfl, (by show (0 : Int) < 2147483647; decide), ?_⟩⟩
      dsimp only
      have a4 : 0 ≤ (y * (y / 1009 + 69621)) % 2147483647 := Int.emod_nonneg _ (by decide)
      have a5 : (y * (y / 1009 + 69621)) % 2147483647 < 2147483647 := Int.emod_lt_of_pos _ (by decide)
      generalize (y * (y / 1009 + 69621)) % 2147483647 = z at a4 a5 ⊢
      refine ⟨.int z, rfl, .int z, rfl, _, _, rfl, rfl, ⟨by decide, by decide⟩, _, _, rfl, rfl, _, _, rfl, rfl, .inl ⟨by omega, by omega⟩, .inl ⟨_, rfl, _, _, rfl, rfl, (by show (0 : Int) < 2147483399; decide), ?_⟩⟩
      refine ⟨_, rfl, _, _, rfl, rfl, ⟨by decide, by decide⟩, .inl ⟨_, rfl, .int m, rfl, _, _, rfl, rfl, m0, ?_⟩⟩
      exact q _ _ (Int.emod_nonneg _ (by omega)) (Int.emod_lt_of_pos _ m0) ⟨cells, s0, n + 1, hp2, hl2, npl⟩ b2
end
end LawK
set_option maxHeartbeats 4000000
/-! Texts: how long, so many times, which signs; kinds of values. -/
namespace Ev
open PySem PySem.Spec PyProof.Rows L2
def rLenZ : List V → Hp → VK → Prop := fun xs H Q => ∃ z : Str, xs = [.str z] ∧ z.length ≤ sizeLine ∧ Q (.int z.length) H
theorem call_lenZ {X : Cx} : CallR X (.builtin "len") rLenZ := fun pins s σ H xs us Q I r h =>
  call_len pins s σ H xs us Q I r (let ⟨z, e, hz, q⟩ := h; ⟨.str z, z.length, e, ⟨hz, rfl⟩, q⟩)
def rMulS : R2 := fun x y H Q => ∃ (z : Str) (n : Int), x = .str z ∧ y = .int n ∧ 0 ≤ n ∧ n ≤ 3000 ∧ z.length ≤ 1000 ∧ Q (.str (Txt.mul z n)) H
theorem mul_ok {z : Str} {n : Int} (h0 : 0 ≤ n) (h1 : n ≤ 3000) (h2 : z.length ≤ 1000) : MulOk z n := by
  refine ⟨by simp; omega, fun a _ => ?_, fun _ _ => ?_⟩
  · have e : (1000 : Int) ≤ (2 ^ 63 - 1) / n := by
      refine Int.le_ediv_of_mul_le (by omega) ?_
      have : (2 : Int) ^ 63 - 1 = 9223372036854775807 := by decide
      omega
    omega
  · have e : z.length * n.toNat ≤ 1000 * 3000 := Nat.mul_le_mul h2 (by omega)
    have h3 : sizeLine = 16777216 := sizeLine_eq
    show decide (z.length * n.toNat > sizeLine) = false
    exact decide_eq_false (by omega)
theorem op_mulS {X : Cx} : OpR X (binaryOp .Mult) rMulS := by
  intro pins s σ H x y v u Q I rx ry h
  obtain ⟨z, n, rfl, rfl, h0, h1, h2, q⟩ := h
  obtain ⟨t, rfl⟩ := rx
  obtain ⟨t', rfl⟩ := ry
  exact SB.mul (mul_ok h0 h1 h2) fun t' k => ⟨.str _, H, I.tok _, ⟨_, rfl⟩, q⟩
/-- every sign of the text is one from the blank to the tilde -/
def sgC (c : Nat) : Bool := decide (32 ≤ c) && decide (c ≤ 126)
def sgB (z : Str) : Bool := z.cps.toList.all sgC
theorem prn128 : ∀ c : Fin 128, Unicode.isPrintable c.val = sgC c.val := by decide +kernel
theorem sgC_of (c : Nat) : (decide (c < 128) && Unicode.isPrintable c) = sgC c := by
  by_cases h : c < 128
  · rw [decide_eq_true h, Bool.true_and]
    exact prn128 ⟨c, h⟩
  · rw [decide_eq_false h, Bool.false_and]
    unfold sgC
    rw [decide_eq_false (show ¬ c ≤ 126 by omega), Bool.and_false]
theorem sgB_of (z : Str) : (Txt.isascii z && Txt.isprintable z) = sgB z := by
  unfold Txt.isascii Txt.isprintable sgB
  rw [← Array.all_toList, ← Array.all_toList]
  generalize z.cps.toList = l
  induction l with
  | nil => rfl
  | cons c l ih =>
    rw [List.all_cons, List.all_cons, List.all_cons, ← sgC_of, ← ih]
    cases decide (c < 128) <;> cases Unicode.isPrintable c <;> cases l.all (fun c => decide (c < 128)) <;> rfl
/-! ### kinds -/
inductive Kn | non | bl | int | str | lst | tup | dic
  deriving DecidableEq
def Kn.name : Kn → String
  | .non => "NoneType"
  | .bl => "bool"
  | .int => "int"
  | .str => "str"
  | .lst => "list"
  | .tup => "tuple"
  | .dic => "dict"
def kitB : Kn → Kn → Bool
  | .bl, .int => true
  | a, b => decide (a = b)
inductive Kd (H : Hp) : V → Kn → Prop
  | non : Kd H .non .non
  | bl (b : Bool) : Kd H (.bl b) .bl
  | int (i : Int) : Kd H (.int i) .int
  | str (z : Str) : Kd H (.str z) .str
  | lst {a : Addr} {xs : List V} (e : H a = some (.lst xs)) : Kd H (.ref a) .lst
  | tup {a : Addr} {xs : List V} (e : H a = some (.tup xs)) : Kd H (.ref a) .tup
  | dic {a : Addr} {kvs : List (Key × V)} (e : H a = some (.dK kvs)) : Kd H (.ref a) .dic
theorem Kd.tyx {K : PySem.W.Frag} {H : Hp} {x : V} {k : Kn} (h : Kd H x k) : TyX K H x (.type k.name) := by
  cases h with
  | non => exact .base .non
  | bl b => exact .base (.bl b)
  | int i => exact .base (.int i)
  | str z => exact .base (.str z)
  | lst e => exact .base (.lst e)
  | tup e => exact .base (.tup e)
  | dic e => exact .base (.dK e)
theorem Kd.same {H H' : Hp} (s : ∀ b o, H b = some o → H' b = some o) {x : V} {k : Kn} (h : Kd H x k) : Kd H' x k := by
  cases h with
  | non => exact .non
  | bl b => exact .bl b
  | int i => exact .int i
  | str z => exact .str z
  | lst e => exact .lst (s _ _ e)
  | tup e => exact .tup (s _ _ e)
  | dic e => exact .dic (s _ _ e)
theorem kit_kn {K : PySem.W.Frag} : ∀ a b : Kn, PySem.W.kitOne K (.type a.name) (.type b.name) = some (kitB a b) := by
  intro a b
  cases a <;> cases b <;> exact kit_ty (by decide +kernel)
theorem rd_isi {K : PySem.W.Frag} {H : Hp} {x : V} {k : Kn} {Q : VK} (T : Kn) (h : Kd H x k) (q : Q (.bl (kitB k T)) H) : rIsi K [x, .ty T.name] H Q :=
  ⟨x, .ty T.name, .type k.name, .type T.name, kitB k T, rfl, .ty _, h.tyx, kit_kn k T, q⟩
/-- for c in s -/
theorem for_strZ {z : Str} {g : TG} {tb : TS} {D : Ends} {σ : L2.St} {H : Hp} (Pv : Nat → L2.St → Hp → Prop) (h0 : Pv 0 σ H)
    (hs : ∀ i c σ H, z.cps[i]? = some c → Pv i σ H → g (.str ⟨#[c]⟩) σ H fun σ2 H2 => tb { D with nx := Pv (i + 1), ct := Pv (i + 1), bk := D.nx } σ2 H2) (hd : ∀ σ H, Pv z.cps.size σ H → D.nx σ H) :
    ∃ W : Nat → Nat → L2.St → Hp → Prop, (∃ m, W 0 m σ H) ∧ ∀ i m σ H, W i m σ H →
      ((Its z).stop i H ∧ D.nx σ H) ∨ ((Its z).go i H ∧ ∃ N : L2.St → Hp → Prop, (∀ σ' H', N σ' H' → ∃ m', m' < m ∧ W (i + 1) m' σ' H') ∧ ∀ x H', (Its z).yld i H x H' → g x σ H' fun σ2 H2 => tb { D with nx := N, ct := N, bk := D.nx } σ2 H2) := by
  refine ⟨fun i m σ H => m = z.cps.size - i ∧ i ≤ z.cps.size ∧ Pv i σ H, ⟨z.cps.size, by simp, Nat.zero_le _, h0⟩, ?_⟩
  rintro i m σ H ⟨rfl, hi, p⟩
  by_cases hlt : i < z.cps.size
  · refine .inr ⟨hlt, Pv (i + 1), fun σ' H' p' => ⟨z.cps.size - (i + 1), by omega, rfl, hlt, p'⟩, fun x H' y => ?_⟩
    obtain ⟨e, c, hc, ex⟩ := y
    subst e ex
    exact hs i c σ _ hc p
  · have e : i = z.cps.size := by omega
    subst e
    exact .inl ⟨Nat.le_refl _, hd σ H p⟩
def sgV : V → Bool
  | .str z => sgB z
  | _ => false
def wordV : V → Bool
  | .str z => sgB z && decide ((0 : Int) < (z.length : Int))
  | _ => false
/-- no text is too long -/
def Vs (x : V) : Prop := ∀ z, x = .str z → z.length ≤ 5000
theorem len5 {n : Nat} (h : n ≤ 5000) : n ≤ sizeLine := by
  have h3 : sizeLine = 16777216 := sizeLine_eq
  omega
def spSg : Sp := fun vs H Q _ => ∃ x k, vs = [x] ∧ Kd H x k ∧ Vs x ∧ Q (.bl (sgV x)) H
def spWd : Sp := fun vs H Q _ => ∃ x k, vs = [x] ∧ Kd H x k ∧ Vs x ∧ Q (.bl (wordV x)) H
def spInt : Sp := fun vs H Q _ => ∃ x k, vs = [x] ∧ Kd H x k ∧ Q (.bl (decide (k = .int))) H
def numV : V → Bool
  | .int i => decide (0 ≤ i)
  | _ => false
def spNum : Sp := fun vs H Q _ => ∃ x k, vs = [x] ∧ Kd H x k ∧ Q (.bl (numV x)) H
def inV2 (a b : Int) : V → Bool
  | .int i => decide (a ≤ i) && decide (i ≤ b)
  | _ => false
def spIn : Sp := fun vs H Q _ => ∃ x k a b, vs = [x, .int a, .int b] ∧ Kd H x k ∧ Q (.bl (inV2 a b x)) H
theorem sgB_at {z : Str} {i c : Nat} (h : z.cps[i]? = some c) (n : sgC c = false) : sgB z = false := by
  unfold sgB
  rw [List.all_eq_false]
  refine ⟨c, ?_, by simp [n]⟩
  rw [← Array.getElem?_toList] at h
  exact List.mem_of_getElem? h
theorem sgB_all {z : Str} (h : ∀ i c : Nat, z.cps[i]? = some c → sgC c = true) : sgB z = true := by
  unfold sgB
  rw [List.all_eq_true]
  intro c hc
  obtain ⟨i, hi, e⟩ := List.mem_iff_getElem.mp hc
  refine h i c ?_
  rw [← Array.getElem?_toList, List.getElem?_eq_getElem hi, e]
end Ev
set_option maxHeartbeats 4000000
/-! Things that are judged: what they are, as far as it is asked. -/
namespace Ev
open PySem PySem.Spec PyProof.Rows L2
def dsm0 : PyData → Bool
  | .str z => decide (z.length ≤ 100) && PyData.strOk z
  | _ => true
/-- no text in it is long -/
def dsm : PyData → Bool
  | .list ds => ds.all dsm0
  | .tuple ds => ds.all dsm0
  | d => dsm0 d
theorem Dt.kd {H : Hp} {v : V} {d : PyData} (h : Dt H v d) : ∃ k, Kd H v k := by
  cases h with
  | non => exact ⟨_, .non⟩
  | bl b => exact ⟨_, .bl b⟩
  | int i => exact ⟨_, .int i⟩
  | str x => exact ⟨_, .str x⟩
  | dic e => exact ⟨_, .dic e⟩
  | l0 e n => exact ⟨_, .lst e⟩
  | l1 e n _ => exact ⟨_, .lst e⟩
  | l2 e n _ _ => exact ⟨_, .lst e⟩
  | t0 e => exact ⟨_, .tup e⟩
  | t1 e _ => exact ⟨_, .tup e⟩
  | t2 e _ _ => exact ⟨_, .tup e⟩
theorem Dt.vs {H : Hp} {v : V} {d : PyData} (h : Dt H v d) (s : dsm0 d = true) : Vs v := by
  cases h with
  | str x =>
    intro z e
    cases e
    have q : x.length ≤ 100 := of_decide_eq_true (Bool.and_eq_true_iff.mp s).1
    exact Nat.le_trans q (by decide)
  | non => exact fun z e => by cases e
  | bl b => exact fun z e => by cases e
  | int i => exact fun z e => by cases e
  | dic e => exact fun z e => by cases e
  | l0 e n => exact fun z e => by cases e
  | l1 e n _ => exact fun z e => by cases e
  | l2 e n _ _ => exact fun z e => by cases e
  | t0 e => exact fun z e => by cases e
  | t1 e _ => exact fun z e => by cases e
  | t2 e _ _ => exact fun z e => by cases e
/-- a thing; some xs: a tuple of xs -/
inductive Tg (H : Hp) : V → Option (List V) → Prop
  | no {x : V} {k : Kn} (h : Kd H x k) (n : k ≠ .tup) (s : Vs x) : Tg H x none
  | tup {a : Addr} {xs : List V} (e : H a = some (.tup xs)) (n : xs.length ≤ 30) (h : ∀ y ∈ xs, (∃ k, Kd H y k) ∧ Vs y) : Tg H (.ref a) (some xs)
theorem Tg.kd {H : Hp} {x : V} {o : Option (List V)} (h : Tg H x o) : ∃ k, Kd H x k ∧ (k = .tup ↔ o.isSome = true) := by
  cases h with
  | no h n s => exact ⟨_, h, fun e => absurd e n, fun e => by cases e⟩
  | tup e n h => exact ⟨_, .tup e, fun _ => rfl, fun _ => rfl⟩
theorem Tg.vs {H : Hp} {x : V} {o : Option (List V)} (h : Tg H x o) : Vs x := by
  cases h with
  | no h n s => exact s
  | tup e n h => exact fun z e => by cases e
theorem Tg.same {H H' : Hp} (s : ∀ b o, H b = some o → H' b = some o) {x : V} {o : Option (List V)} (h : Tg H x o) : Tg H' x o := by
  cases h with
  | no h n z => exact .no (h.same s) n z
  | tup e n h => exact .tup (s _ _ e) n fun y hy => ⟨let ⟨k, q⟩ := (h y hy).1; ⟨k, q.same s⟩, (h y hy).2⟩
theorem Dt.tg {H : Hp} {v : V} {d : PyData} (h : Dt H v d) (s : dsm d = true) : ∃ o, Tg H v o := by
  cases h with
  | non => exact ⟨_, .no .non (by decide) fun z e => by cases e⟩
  | bl b => exact ⟨_, .no (.bl b) (by decide) fun z e => by cases e⟩
  | int i => exact ⟨_, .no (.int i) (by decide) fun z e => by cases e⟩
  | str x => exact ⟨_, .no (.str x) (by decide) (Dt.vs (.str (H := H) x) s)⟩
  | dic e => exact ⟨_, .no (.dic e) (by decide) fun z e => by cases e⟩
  | l0 e n => exact ⟨_, .no (.lst e) (by decide) fun z e => by cases e⟩
  | l1 e n _ => exact ⟨_, .no (.lst e) (by decide) fun z e => by cases e⟩
  | l2 e n _ _ => exact ⟨_, .no (.lst e) (by decide) fun z e => by cases e⟩
  | t0 e => exact ⟨_, .tup e (by decide) fun y hy => absurd hy (by simp)⟩
  | @t1 a x d e hx =>
    have s1 : dsm0 d = true := List.all_eq_true.mp s d (by simp)
    exact ⟨_, .tup e (by simp) fun y hy => by
      obtain rfl := List.mem_singleton.mp hy
      exact ⟨hx.kd, hx.vs s1⟩⟩
  | @t2 a x z d1 d2 e hx hz =>
    have s1 : dsm0 d1 = true := List.all_eq_true.mp s d1 (by simp)
    have s2 : dsm0 d2 = true := List.all_eq_true.mp s d2 (by simp)
    refine ⟨_, .tup e (by simp) fun y hy => ?_⟩
    rcases List.mem_cons.mp hy with g | g
    · rw [g]
      exact ⟨hx.kd, hx.vs s1⟩
    · rw [List.mem_singleton.mp g]
      exact ⟨hz.kd, hz.vs s2⟩
def slen : V → Nat
  | .str z => z.length
  | _ => 0
/-- what is wrong with a thing that is to be texts -/
def badOf : Option (List V) → V
  | none => .int (-1)
  | some xs => if xs.length > 8 then .int (-1) else match xs.findIdx? (fun y => !sgV y) with
    | some k => .int (k : Int)
    | none => if (xs.map slen).sum > 2000 then .str (Str.ofString "long") else .non
/-- whether a thing is a place of these texts -/
def placeV (ts : List Str) : Option (List V) → Bool
  | some [x, y] => inV2 0 ((ts.length : Int) - 1) x && (match x with
    | .int i => inV2 0 (((ts.getD i.toNat Str.empty).length : Int) - 1) y
    | _ => false)
  | _ => false
end Ev
set_option maxHeartbeats 4000000
namespace Ev
open PySem PySem.Spec PyProof.Rows L2
theorem bad1 {xs : List V} (h : xs.length > 8) : badOf (some xs) = .int (-1) := if_pos h
theorem bad2 {xs : List V} {i : Nat} {y : V} (h : ¬ xs.length > 8) (hy : xs[i]? = some y) (b : sgV y = false) (g : ∀ (j : Nat) c, j < i → xs[j]? = some c → sgV c = true) : badOf (some xs) = .int (i : Int) := by
  obtain ⟨hi, ey⟩ := List.getElem?_eq_some_iff.mp hy
  have e : xs.findIdx? (fun y => !sgV y) = some i := by
    rw [List.findIdx?_eq_some_iff_getElem]
    refine ⟨hi, by rw [ey, b]; rfl, fun j hj => ?_⟩
    rw [g j xs[j] hj (List.getElem?_eq_getElem (by omega))]
    simp
  show (if xs.length > 8 then V.int (-1) else match xs.findIdx? (fun y => !sgV y) with
    | some k => V.int (k : Int)
    | none => if (xs.map slen).sum > 2000 then V.str (Str.ofString "long") else V.non) = _
  rw [if_neg h, e]
theorem good_none {xs : List V} (g : ∀ c ∈ xs, sgV c = true) : xs.findIdx? (fun y => !sgV y) = none := by
  rw [List.findIdx?_eq_none_iff]
  intro c hc
  rw [g c hc]
  rfl
theorem bad3 {xs : List V} (h : ¬ xs.length > 8) (g : ∀ c ∈ xs, sgV c = true) (s : (xs.map slen).sum > 2000) : badOf (some xs) = .str (Str.ofString "long") := by
  show (if xs.length > 8 then V.int (-1) else match xs.findIdx? (fun y => !sgV y) with
    | some k => V.int (k : Int)
    | none => if (xs.map slen).sum > 2000 then V.str (Str.ofString "long") else V.non) = _
  rw [if_neg h, good_none g]
  exact if_pos s
theorem bad4 {xs : List V} (h : ¬ xs.length > 8) (g : ∀ c ∈ xs, sgV c = true) (s : ¬ (xs.map slen).sum > 2000) : badOf (some xs) = .non := by
  show (if xs.length > 8 then V.int (-1) else match xs.findIdx? (fun y => !sgV y) with
    | some k => V.int (k : Int)
    | none => if (xs.map slen).sum > 2000 then V.str (Str.ofString "long") else V.non) = _
  rw [if_neg h, good_none g]
  exact if_neg s
/-- what is right: at most eight texts of signs -/
theorem bad_non {o : Option (List V)} (h : badOf o = .non) : ∃ xs, o = some xs ∧ xs.length ≤ 8 ∧ (∀ c ∈ xs, sgV c = true) ∧ (xs.map slen).sum ≤ 2000 := by
  cases o with
  | none => cases h
  | some xs =>
    by_cases h1 : xs.length > 8
    · rw [bad1 h1] at h
      cases h
    · cases e : xs.findIdx? (fun y => !sgV y) with
      | some k =>
        have h' : (if xs.length > 8 then V.int (-1) else match xs.findIdx? (fun y => !sgV y) with
          | some k => V.int (k : Int)
          | none => if (xs.map slen).sum > 2000 then V.str (Str.ofString "long") else V.non) = V.non := h
        rw [if_neg h1, e] at h'
        cases h'
      | none =>
        have g : ∀ c ∈ xs, sgV c = true := fun c hc => by
          have := List.findIdx?_eq_none_iff.mp e c hc
          simpa using this
        refine ⟨xs, rfl, by omega, g, ?_⟩
        by_cases s : (xs.map slen).sum > 2000
        · rw [bad3 h1 g s] at h
          cases h
        · omega
theorem sg_str {y : V} (h : sgV y = true) : ∃ z, y = .str z := by
  cases y with
  | str z => exact ⟨z, rfl⟩
  | non => cases h
  | bl b => cases h
  | int i => cases h
  | byt b => cases h
  | flt b => cases h
  | ref a => cases h
  | ty n => cases h
theorem bad_strs {xs : List V} (g : ∀ c ∈ xs, sgV c = true) : ∃ ts : List Str, xs = ts.map V.str ∧ ∀ t ∈ ts, sgB t = true := by
  induction xs with
  | nil => exact ⟨[], rfl, fun t h => absurd h (by simp)⟩
  | cons y xs ih =>
    obtain ⟨z, rfl⟩ := sg_str (g y (by simp))
    obtain ⟨ts, rfl, h⟩ := ih fun c hc => g c (List.mem_cons_of_mem _ hc)
    refine ⟨z :: ts, rfl, fun t ht => ?_⟩
    rcases List.mem_cons.mp ht with e | e
    · rw [e]
      exact g (.str z) (by simp)
    · exact h t e
theorem sum_cast (ns : List Nat) : (ns.map fun n : Nat => (n : Int)).sum = ((ns.sum : Nat) : Int) := by
  induction ns with
  | nil => rfl
  | cons n ns ih =>
    rw [List.map_cons, List.sum_cons, List.sum_cons, ih]
    simp
/-- the lengths of the texts of a tuple -/
theorem lc_lens {K : PySem.W.Frag} {a : Addr} {ts : List Str} {i : Nat} {σ : L2.St} {H1 : Hp} {D : Addr} {Qd : Hp → Prop} (hi : i < σ.length) (ha : H1 a = some (.tup (ts.map V.str))) (nD : H1 D = none) (hlen : ∀ t ∈ ts, t.length ≤ 5000) (hn : ts.length ≤ 1000)
    (hd : ∀ H, H D = some (.lst ((ts.map fun t => (t.length : Int)).map V.int)) → Same H1 H → Qd H) :
    ∃ W : Nat → Nat → Hp → Prop, (∃ m, W 0 m (upd H1 D (.lst []))) ∧ ∀ j m H, W j m H →
      ((Itt K a).stop j H ∧ Qd H) ∨ ((Itt K a).go j H ∧ ∃ Nx : Hp → Prop, (∀ H', Nx H' → ∃ m', m' < m ∧ W (j + 1) m' H') ∧ ∀ x H', (Itt K a).yld j H x H' → gName i x (wipe σ [i]) H' fun σ2 H2 => wipe σ2 [i] = wipe σ [i] ∧ tYes σ2 H2 fun b H3 =>
        if b = true then tCB rLenZ (tCons (tVar i) tNil) σ2 H3 fun y H4 => ∃ acc, H4 D = some (.lst acc) ∧ acc.length < sizeLine ∧ Nx (upd H4 D (.lst (acc ++ [y]))) else Nx H3) := by
  have sAt : ∀ {H' : Hp} {o : HO}, Same H1 H' → Same H1 (upd H' D o) := fun {H' o} k b u e => by
    rw [upd_ne (ne_of_none e nD)]
    exact k b u e
  refine lc_tup (K := K) (xs := ts.map V.str) (fun j H => H D = some (.lst (((ts.take j).map fun t => (t.length : Int)).map V.int)) ∧ Same H1 H) ⟨upd_same, sAt (Same.refl _)⟩ (fun j H _ p => SqT.of (p.2 _ _ ha)) (fun j x H hx p => ?_) (fun H p => ?_)
  · rw [List.getElem?_map] at hx
    cases e : ts[j]? with
    | none => rw [e] at hx; cases hx
    | some t =>
      rw [e] at hx
      obtain rfl : V.str t = x := Option.some.inj hx
      have hm := List.mem_of_getElem? e
      obtain ⟨hD, hs⟩ := p
      have hw : ((wipe σ [i]).set i (some (V.str t)))[i]? = some (some (V.str t)) := by
        rw [List.getElem?_set_self]
        show i < (σ.set i none).length
        rw [List.length_set]
        exact hi
      refine ⟨?_, .str t, hw, t, rfl, len5 (hlen t hm), _, hD, ?_, ?_, sAt hs⟩
      · show ((σ.set i none).set i (some (V.str t))).set i none = σ.set i none
        rw [List.set_set, List.set_set]
      · have h3 : sizeLine = 16777216 := sizeLine_eq
        rw [List.length_map, List.length_map, List.length_take]
        omega
      · rw [upd_same]
        have et : ts.take (j + 1) = ts.take j ++ [t] := by
          rw [List.take_add_one, e]
          rfl
        rw [et, List.map_append, List.map_append]
        rfl
  · obtain ⟨hD, hs⟩ := p
    rw [List.length_map, List.take_length] at hD
    exact hd H hD hs
theorem lens_sum (ts : List Str) : (ts.map fun t => (t.length : Int)).sum = ((((ts.map V.str).map slen).sum : Nat) : Int) := by
  rw [List.map_map, ← sum_cast, List.map_map]
  rfl
end Ev
set_option maxHeartbeats 4000000
namespace Ev
open PySem PySem.Spec PyProof.Rows L2
theorem joinL1 : ∀ cs : List Nat, TL.joinL [] (cs.map fun c => [c]) = cs
  | [] => rfl
  | [c] => rfl
  | c :: d :: r => by
    have e := joinL1 (d :: r)
    show [c] ++ ([] ++ TL.joinL [] ((d :: r).map fun c => [c])) = c :: d :: r
    rw [e]
    rfl
theorem join1 (cs : List Nat) : Txt.join (Str.ofString "") (cs.map fun c => SX.S [c]) = SX.S cs := by
  have e := SX.join_S [] (cs.map fun c => [c])
  rw [List.map_map, joinL1] at e
  exact e
theorem sgB_S (cs : List Nat) : sgB (SX.S cs) = cs.all sgC := rfl
theorem S_eta (z : Str) : SX.S z.cps.toList = z := SX.S_tl z
theorem len_S (z : Str) : z.length = z.cps.toList.length := by simp [Str.length]
theorem sgB_mem {z : Str} (h : sgB z = true) {c : Nat} (hc : c ∈ z.cps.toList) : sgC c = true := List.all_eq_true.mp h c hc
theorem sgB_of_mem {z : Str} (h : ∀ c ∈ z.cps.toList, sgC c = true) : sgB z = true := List.all_eq_true.mpr h
theorem sgB_cut {z : Str} (h : sgB z = true) (lo hi : Option Int) : sgB (cutS z lo hi) = true := by
  refine sgB_of_mem fun c hc => sgB_mem h ?_
  have hc' : c ∈ (z.cps.toList.drop (HT.sIx z.length 0 lo)).take (HT.sIx z.length z.length hi - HT.sIx z.length 0 lo) := by
    simpa [cutS] using hc
  exact List.mem_of_mem_drop (List.mem_of_mem_take hc')
theorem cut_len {z : Str} (lo hi : Option Int) : (cutS z lo hi).length ≤ z.length := by
  rw [len_S, len_S]
  have e : (cutS z lo hi).cps.toList = (z.cps.toList.drop (HT.sIx z.length 0 lo)).take (HT.sIx z.length z.length hi - HT.sIx z.length 0 lo) := by simp [cutS]
  rw [e, List.length_take, List.length_drop]
  omega
theorem cut_len2 {z : Str} (lo hi : Option Int) : (cutS z lo hi).length ≤ HT.sIx z.length z.length hi - HT.sIx z.length 0 lo := by
  rw [len_S]
  have e : (cutS z lo hi).cps.toList = (z.cps.toList.drop (HT.sIx z.length 0 lo)).take (HT.sIx z.length z.length hi - HT.sIx z.length 0 lo) := by simp [cutS]
  rw [e, List.length_take]
  omega
theorem sgB_app {a b : Str} (h1 : sgB a = true) (h2 : sgB b = true) : sgB (a ++ b) = true := by
  refine sgB_of_mem fun c hc => ?_
  have e : (a ++ b).cps.toList = a.cps.toList ++ b.cps.toList := TL.tl_append a b
  rw [e] at hc
  rcases List.mem_append.mp hc with h | h
  · exact sgB_mem h1 h
  · exact sgB_mem h2 h
theorem app_len (a b : Str) : (a ++ b).length = a.length + b.length := by
  have e : (a ++ b).cps.toList = a.cps.toList ++ b.cps.toList := TL.tl_append a b
  rw [len_S, e, List.length_append, ← len_S, ← len_S]
theorem rep_all (x : Array Nat) : ∀ (n : Nat) (acc : Array Nat), ((List.replicate n x).foldl (· ++ ·) acc).size = acc.size + n * x.size ∧ ∀ c ∈ ((List.replicate n x).foldl (· ++ ·) acc).toList, c ∈ acc.toList ∨ c ∈ x.toList
  | 0, acc => ⟨by simp, fun c h => .inl h⟩
  | n + 1, acc => by
    obtain ⟨h1, h2⟩ := rep_all x n (acc ++ x)
    rw [List.replicate_succ, List.foldl_cons]
    refine ⟨by rw [h1, Array.size_append, Nat.succ_mul]; omega, fun c hc => ?_⟩
    rcases h2 c hc with h | h
    · rw [Array.toList_append] at h
      exact List.mem_append.mp h
    · exact .inr h
theorem mul_facts (z : Str) (n : Int) : (Txt.mul z n).length ≤ z.length * n.toNat ∧ (sgB z = true → sgB (Txt.mul z n) = true) := by
  unfold Txt.mul
  by_cases h1 : n < 1
  · rw [if_pos h1]
    exact ⟨Nat.zero_le _, fun _ => rfl⟩
  · rw [if_neg h1]
    by_cases h2 : (n == 1 || z.length == 0) = true
    · rw [if_pos h2]
      exact ⟨Nat.le_mul_of_pos_right _ (by omega), fun h => h⟩
    · rw [if_neg h2]
      obtain ⟨r1, r2⟩ := rep_all z.cps n.toNat #[]
      refine ⟨?_, fun h => sgB_of_mem fun c hc => ?_⟩
      · show Array.size _ ≤ _
        rw [r1, Nat.mul_comm]
        show 0 + _ ≤ _
        rw [Nat.zero_add]
        exact Nat.le_refl _
      · rcases r2 c hc with q | q
        · cases q
        · exact sgB_mem h q
theorem cut_hi {z : Str} {lo : Option Int} {u : Int} (h : 0 ≤ u) : ((cutS z lo (some u)).length : Int) ≤ u := by
  have e := cut_len2 (z := z) lo (some u)
  have e2 : HT.sIx z.length z.length (some u) ≤ u.toNat := by
    show (if u < 0 then (u + (z.length : Int)).toNat else min u.toNat z.length) ≤ u.toNat
    rw [if_neg (by omega)]
    exact Nat.min_le_left _ _
  omega
theorem cut_lohi {z : Str} {b e : Int} (h : 0 ≤ b) (h2 : b ≤ e) : ((cutS z (some b) (some e)).length : Int) ≤ e - b := by
  have q := cut_len2 (z := z) (some b) (some e)
  have e1 : HT.sIx z.length z.length (some e) = min e.toNat z.length := by
    show (if e < 0 then (e + (z.length : Int)).toNat else min e.toNat z.length) = _
    rw [if_neg (by omega)]
  have e2 : HT.sIx z.length 0 (some b) = min b.toNat z.length := by
    show (if b < 0 then (b + (z.length : Int)).toNat else min b.toNat z.length) = _
    rw [if_neg (by omega)]
  rw [e1, e2] at q
  omega
end Ev
set_option maxHeartbeats 4000000
/-! Tuples put together and cut, the heap only growing. -/
namespace Ev
open PySem PySem.Spec PyProof.Rows L2
def rCatM : R2 := fun x y H Q => ∃ a b xs ys, x = .ref a ∧ y = .ref b ∧ H a = some (.tup xs) ∧ H b = some (.tup ys) ∧ xs.length + ys.length ≤ 1000 ∧ ∀ p H', Same H H' → H' p = some (.tup (xs ++ ys)) → Q (.ref p) H'
theorem sameNew {H : Hp} {q : Addr} {o : HO} (h : H q = none) : Same H (upd H q o) := fun b u e => by
  rw [upd_ne (ne_of_none e h)]
  exact e
theorem op_catM {X : Cx} : OpR X (binaryOp .Add) rCatM := fun pins s σ H x y v u Q I rx ry h =>
  op_catA pins s σ H x y v u Q I rx ry (by
    obtain ⟨a, b, xs, ys, ex, ey, ha, hb, hz, q⟩ := h
    refine ⟨a, b, xs, ys, ex, ey, SqT.of ha, SqT.of hb, ?_, fun e => ?_, fun _ e => ?_, fun _ _ p np => ?_⟩
    · have h3 : sizeLine = 16777216 := sizeLine_eq
      omega
    · refine q b H (Same.refl H) ?_
      rw [e, List.nil_append]
      exact hb
    · refine q a H (Same.refl H) ?_
      rw [e, List.append_nil]
      exact ha
    · exact q p _ (sameNew np) upd_same)
def rSlM : V → Option Int → Option Int → Hp → VK → Prop := fun x lo hi H Q => ∃ a xs, x = .ref a ∧ H a = some (.tup xs) ∧ ∀ p H', Same H H' → H' p = some (.tup (cutV xs lo hi)) → Q (.ref p) H'
theorem sl_tupM {X : Cx} : SlR X rSlM := fun pins s σ H x v vl vu lo hi sl Q I rx hs pl pu h =>
  sl_tupA pins s σ H x v vl vu lo hi sl Q I rx hs pl pu (by
    obtain ⟨a, xs, ex, ha, q⟩ := h
    refine ⟨a, xs, ex, SqT.of ha, fun e => ?_, fun _ p np => q p _ (sameNew np) upd_same⟩
    refine q a H (Same.refl H) ?_
    have ec : cutV xs lo hi = xs := by
      unfold cutV
      rw [e.1, e.2, List.drop_zero, Nat.sub_zero, List.take_length]
    rw [ec]
    exact ha)
theorem cutV_mem {xs : List V} {lo hi : Option Int} {y : V} (h : y ∈ cutV xs lo hi) : y ∈ xs := List.mem_of_mem_drop (List.mem_of_mem_take h)
/-- the place that is one -/
theorem place_true {ts : List Str} {o : Option (List V)} (h : placeV ts o = true) : ∃ (i j : Int), o = some [.int i, .int j] ∧ 0 ≤ i ∧ i < ts.length ∧ 0 ≤ j ∧ j < ((ts.getD i.toNat Str.empty).length : Int) := by
  unfold placeV at h
  split at h
  · rename_i x y
    obtain ⟨h1, h2⟩ := Bool.and_eq_true_iff.mp h
    cases x with
    | int i =>
      obtain ⟨a1, a2⟩ := Bool.and_eq_true_iff.mp (show (decide (0 ≤ i) && decide (i ≤ (ts.length : Int) - 1)) = true from h1)
      have a1 := of_decide_eq_true a1
      have a2 := of_decide_eq_true a2
      cases y with
      | int j =>
        obtain ⟨b1, b2⟩ := Bool.and_eq_true_iff.mp (show (decide (0 ≤ j) && decide (j ≤ ((ts.getD i.toNat Str.empty).length : Int) - 1)) = true from h2)
        have b1 := of_decide_eq_true b1
        have b2 := of_decide_eq_true b2
        exact ⟨i, j, rfl, a1, by omega, b1, by omega⟩
      | non => cases h2
      | bl b => cases h2
      | str b => cases h2
      | byt b => cases h2
      | flt b => cases h2
      | ref b => cases h2
      | ty b => cases h2
    | non => cases h1
    | bl b => cases h1
    | str b => cases h1
    | byt b => cases h1
    | flt b => cases h1
    | ref b => cases h1
    | ty b => cases h1
  · cases h
theorem text_at {ts : List Str} {i : Int} (h0 : 0 ≤ i) (h1 : i < ts.length) : atI (ts.map V.str) i = some (.str (ts.getD i.toNat Str.empty)) ∧ ts.getD i.toNat Str.empty ∈ ts := by
  have hi : i.toNat < ts.length := by omega
  constructor
  · have e1 : i = ((i.toNat : Nat) : Int) := by omega
    rw [e1]
    refine atI_nat ?_
    rw [List.getElem?_map, List.getD_eq_getElem?_getD, Int.toNat_natCast, List.getElem?_eq_getElem hi]
    rfl
  · rw [List.getD_eq_getElem?_getD, List.getElem?_eq_getElem hi]
    exact List.getElem_mem hi
end Ev
set_option maxHeartbeats 4000000
namespace Ev
open PySem PySem.Spec PyProof.Rows L2
/-- x is True, x is False, x any value of a kind -/
def rIsT : R2 := fun x y H Q => ∃ (b : Bool) (k : Kn), y = .bl b ∧ Kd H x k ∧ Q (.bl (decide (x = .bl b))) H
theorem op_isT {X : Cx} : OpR X (compareOp .Is) rIsT := by
  intro pins s σ H x y v u Q I rx ry h
  obtain ⟨b, k, rfl, hk, q⟩ := h
  cases (show u = Value.bool b from ry)
  cases hk with
  | bl a =>
    refine op_isBl pins s σ H _ (.bl b) v _ Q I rx rfl ⟨a, b, rfl, rfl, ?_⟩
    have e : decide (V.bl a = V.bl b) = decide (a = b) := by
      by_cases z : a = b
      · subst z
        simp
      · rw [decide_eq_false z, decide_eq_false fun w => z (V.bl.inj w)]
    rw [e] at q
    exact q
  | non =>
    cases rx
    exact wpAny_is_other rfl (fun z => by cases z) ⟨.bl false, H, I, rfl, by simpa using q⟩
  | int i =>
    obtain ⟨t, rfl⟩ := rx
    exact wpAny_is_other rfl (fun z => by cases z) ⟨.bl false, H, I, rfl, by simpa using q⟩
  | str i =>
    obtain ⟨t, rfl⟩ := rx
    exact wpAny_is_other rfl (fun z => by cases z) ⟨.bl false, H, I, rfl, by simpa using q⟩
  | lst e =>
    cases rx
    exact wpAny_is_other rfl (fun z => by cases z) ⟨.bl false, H, I, rfl, by simpa using q⟩
  | tup e =>
    cases rx
    exact wpAny_is_other rfl (fun z => by cases z) ⟨.bl false, H, I, rfl, by simpa using q⟩
  | dic e =>
    cases rx
    exact wpAny_is_other rfl (fun z => by cases z) ⟨.bl false, H, I, rfl, by simpa using q⟩
end Ev
set_option maxHeartbeats 4000000
namespace LawK
open PySem PySem.Spec PyProof.Rows L2 Ev
theorem HandL.same {H H' : Hp} {p l : Addr} (k : Same H H') (h : HandL H p l) : HandL H' p l := by
  obtain ⟨cells, s, n, h1, h2, h3⟩ := h
  exact ⟨cells, s, n, k _ _ h1, k _ _ h2, h3⟩
theorem But.and {p l : Addr} {H H1 H2 : Hp} (a : But p l H H1) (k : Same H1 H2) : But p l H H2 := fun b o n e => k b o (a b o n e)
theorem hand_ne {H : Hp} {p l' a : Addr} {o : HO} (h : HandL H p l') (e : H a = some o) (n : ∀ xs, o ≠ .lst xs) : a ≠ p ∧ a ≠ l' := by
  obtain ⟨cells, s, m, h1, h2, _⟩ := h
  refine ⟨fun z => ?_, fun z => ?_⟩
  · rw [z, h1] at e
    exact n _ (Option.some.inj e).symm
  · rw [z, h2] at e
    exact n _ (Option.some.inj e).symm
structure Hn (p l : Addr) (H H' : Hp) : Prop where
  at_ : HandL H' p l
  but : But p l H H'
theorem HandL.ne {H : Hp} {p l q : Addr} (h : HandL H p l) (n : H q = none) : q ≠ p ∧ q ≠ l := by
  obtain ⟨cells, s, m, h1, h2, _⟩ := h
  exact ⟨fun z => (by rw [z, h1] at n; cases n), fun z => (by rw [z, h2] at n; cases n)⟩
theorem Hn.new {p l q : Addr} {H H' : Hp} {o : HO} (h : Hn p l H H') (n : H' q = none) : Hn p l H (upd H' q o) := ⟨h.at_.same (Same.new n), h.but.and (Same.new n)⟩
theorem Hn.trans {p l : Addr} {H H1 H2 : Hp} (a : Hn p l H H1) (b : Hn p l H1 H2) : Hn p l H H2 := ⟨b.at_, a.but.trans b.but⟩
theorem Hn.refl {p l : Addr} {H : Hp} (h : HandL H p l) : Hn p l H H := ⟨h, But.refl p l H⟩
theorem Hn.go {p l : Addr} {H H1 H2 : Hp} (a : Hn p l H H1) (h : HandL H2 p l) (b : But p l H1 H2) : Hn p l H H2 := ⟨h, a.but.trans b⟩
theorem Hn.same {p l : Addr} {H H1 H2 : Hp} (a : Hn p l H H1) (k : Same H1 H2) : Hn p l H H2 := ⟨a.at_.same k, a.but.and k⟩
/-- an object that is new since H, at q, changes -/
theorem Hn.at {p l q : Addr} {H H' : Hp} {o : HO} (h : Hn p l H H') (h0 : HandL H p l) (n : H q = none) : Hn p l H (upd H' q o) := by
  obtain ⟨n1, n2⟩ := h0.ne n
  refine ⟨?_, fun b u nb e => ?_⟩
  · obtain ⟨cells, s, m, h1, h2, h3⟩ := h.at_
    exact ⟨cells, s, m, by rw [upd_ne (Ne.symm n1)]; exact h1, by rw [upd_ne (Ne.symm n2)]; exact h2, h3⟩
  · rw [upd_ne (ne_of_none e n)]
    exact h.but b u nb e
structure Dk (P : Program) (w : World) (K : PySem.W.Frag) (mg : Str → Option Value) (base : Heap) (x : Str) (st : Stmt) (ps : List Str) (k : Nat) (sp : Sp) (f : Addr) (fd : FuncData) : Prop where
  F : Fun K x x st f fd
  b : Binds K fd ps []
  g : mg x = some (.ref f)
  ok : FnOk P w K mg base CX0 k f fd ps sp
theorem len6 {z : Str} {n : Nat} (h : z.length ≤ n) (hn : n ≤ 5000 := by decide) : z.length ≤ sizeLine := len5 (Nat.le_trans h hn)
theorem sg_at {z : Str} {v : Int} (hz : sgB z = true) (h0 : 0 ≤ v) (h1 : v < (z.length : Int)) : ∃ c, atI z.cps.toList v = some c ∧ sgC c = true := by
  obtain ⟨c, e, hm⟩ := atI_in (xs := z.cps.toList) h0 (by rw [← len_S]; exact h1)
  exact ⟨c, e, sgB_mem hz hm⟩
theorem str_ok {ts : List Str} (hts : ∀ t ∈ ts, t.length ≤ 5000) {H : Hp} {y : V} (h : y ∈ ts.map V.str) : (∃ k, Kd H y k) ∧ Vs y := by
  obtain ⟨z, hz, rfl⟩ := List.mem_map.mp h
  refine ⟨⟨_, .str z⟩, fun w e => ?_⟩
  cases e
  exact hts z hz
theorem lit_ok {z : Str} (h : z.length ≤ 5000) {H : Hp} : (∃ k, Kd H (.str z) k) ∧ Vs (.str z) := ⟨⟨_, .str z⟩, fun w e => by
  cases e
  exact h⟩
theorem int_ok {i : Int} {H : Hp} : (∃ k, Kd H (.int i) k) ∧ Vs (.int i) := ⟨⟨_, .int i⟩, fun w e => by cases e⟩
theorem tup_ne {H : Hp} {p l a : Addr} {xs : List V} (h : HandL H p l) (e : H a = some (.tup xs)) : a ≠ p ∧ a ≠ l := hand_ne h e fun _ z => by cases z
theorem Kd.but {H H' : Hp} {p l : Addr} {x : V} {k : Kn} (h : Kd H x k) (h0 : HandL H p l) (h1 : HandL H' p l) (b : But p l H H') : Kd H' x k := by
  cases h with
  | non => exact .non
  | bl b => exact .bl b
  | int i => exact .int i
  | str z => exact .str z
  | @lst a xs e =>
    obtain ⟨cells, s, m, h2, h3, _⟩ := h1
    by_cases z : a = p
    · rw [z]
      exact .lst h2
    · by_cases z2 : a = l
      · rw [z2]
        exact .lst h3
      · exact .lst (b _ _ ⟨z, z2⟩ e)
  | tup e => exact .tup (b _ _ (tup_ne h0 e) e)
  | dic e => exact .dic (b _ _ (hand_ne h0 e fun _ z => by cases z) e)
theorem Tg.but {H H' : Hp} {p l : Addr} {x : V} {o : Option (List V)} (h : Tg H x o) (h0 : HandL H p l) (h1 : HandL H' p l) (b : But p l H H') : Tg H' x o := by
  cases h with
  | no h n s => exact .no (Kd.but h h0 h1 b) n s
  | tup e n h => exact .tup (b _ _ (tup_ne h0 e) e) n fun y hy => ⟨let ⟨k, q⟩ := (h y hy).1; ⟨k, Kd.but q h0 h1 b⟩, (h y hy).2⟩
/-- what a thing's texts may be -/
inductive All2 {α β : Type} (R : α → β → Prop) : List α → List β → Prop
  | nil : All2 R [] []
  | cons {x : α} {y : β} {xs : List α} {ys : List β} (h : R x y) (t : All2 R xs ys) : All2 R (x :: xs) (y :: ys)
theorem All2.imp {α β : Type} {R S : α → β → Prop} {xs : List α} {ys : List β} (f : ∀ x y, R x y → S x y) (h : All2 R xs ys) : All2 S xs ys := by
  induction h with
  | nil => exact .nil
  | cons h _ ih => exact .cons (f _ _ h) ih
theorem All2.len {α β : Type} {R : α → β → Prop} {xs : List α} {ys : List β} (h : All2 R xs ys) : xs.length = ys.length := by
  induction h with
  | nil => rfl
  | cons _ _ ih => exact congrArg (· + 1) ih
theorem All2.at {α β : Type} {R : α → β → Prop} {xs : List α} {ys : List β} (h : All2 R xs ys) : ∀ {i : Nat} {x : α}, xs[i]? = some x → ∃ y, ys[i]? = some y ∧ R x y := by
  induction h with
  | nil => intro i x e; simp at e
  | cons r _ ih =>
    intro i x e
    cases i with
    | zero => cases e; exact ⟨_, rfl, r⟩
    | succ i => exact ih e
theorem All2.snoc {α β : Type} {R : α → β → Prop} {xs : List α} {ys : List β} {x : α} {y : β} (h : All2 R xs ys) (r : R x y) : All2 R (xs ++ [x]) (ys ++ [y]) := by
  induction h with
  | nil => exact .cons r .nil
  | cons r1 _ ih => exact .cons r1 ih
theorem sne {a b : Str} (h : a ≠ b) {A B : Prop} (k : B) : if decide (V.str a = V.str b) = true then A else B := by
  rw [decide_eq_false (fun z => h (V.str.inj z))]
  exact iteF k
theorem seq {a : Str} {A B : Prop} (k : A) : if decide (V.str a = V.str a) = true then A else B := by
  rw [decide_eq_true rfl]
  exact iteT k
end LawK
set_option maxHeartbeats 8000000
/-! enumerate over a tuple, as a walk. -/
namespace Ev
open PySem PySem.Spec PyProof.Rows L2
abbrev enObj (it : Addr) : Obj := { cls := .type "enumerate", data := .fields #[.none, .bool false, .ref it, rawInt 0, .none, .none] }
theorem enum_new1 {v : Value} {o : Obj} {Hh : Heap → Prop} (B : Begins v o Hh) :
    Meets (Builtin.«enumerate.__new__» ⟨[.type "enumerate", v], []⟩)
      (fun _ R s => Hh s.heap ∧ R (.ok (.ret (.ref (s.heap.push o).objs.size))) { s with heap := (s.heap.push o).push (enObj s.heap.objs.size) }) := by
  refine .of_wp fun prog w A R s hh => ?_
  obtain ⟨hp, g, d, tk, os⟩ := s
  obtain ⟨hv, hR⟩ := hh
  have hs := sub_enumerate
  have qi : ∀ {B' : Around} {E : Value → Shared → Prop} {Q : Value → Shared → Prop}, Q (.ref hp.objs.size) ⟨hp.push o, g, d, tk, os⟩ →
      wpAny (model prog w) B' (pyIter v) Q E ⟨hp, g, d, tk, os⟩ := fun q => B.iter prog w _ _ ⟨hp, g, d, tk, os⟩ _ hv q
  wp_walk using qi
  apply wpAny_stack_any
  intro st
  apply wpAny_pure
  split
  · rename_i c _ _ _ _ _
    cases (c == Value.type "enumerate") <;> (wp_walk using qi; exact ⟨_, rfl, hR⟩)
  · wp_walk using qi
    exact ⟨_, rfl, hR⟩
theorem enum_call {prog : Program} {w : World} {A : Around} {E : Value → Shared → Prop} {s : Shared} {v : Value} {o : Obj} {Hh : Heap → Prop} {Q : Value → Shared → Prop} (B : Begins v o Hh) (hv : Hh s.heap)
    (h : ∀ h', IsEnum h' (s.heap.objs.size + 1) s.heap.objs.size 0 .none → h'.get? s.heap.objs.size = some o → (∀ b u, s.heap.get? b = some u → h'.get? b = some u) →
      Q (.ref (s.heap.objs.size + 1)) { s with heap := h' }) : wpAny (model prog w) A (call (.type "enumerate") [v]) Q E s := by
  have m := enum_new1 B
  refine callType_new F.called_enumerate (by decide) (F.typeCall_enumerate_1 _) (F.newCall_enumerate_1 _) (fun obj => F.args_object_init_2 obj _) F.entry_enumerate_new m ⟨hv, ?_⟩
  have hsz : (s.heap.push o).objs.size = s.heap.objs.size + 1 := Heap.size_push ..
  show _ ∧ _
  rw [hsz]
  have hat : ((s.heap.push o).push (enObj s.heap.objs.size)).get? (s.heap.objs.size + 1) = some (enObj s.heap.objs.size) := by
    have z := Heap.get?_push_size (s.heap.push o) (o := enObj s.heap.objs.size) rfl
    rw [hsz] at z
    exact z
  exact ⟨⟨_, hat, rfl⟩, h _ hat (Heap.get?_push_of_some _ (Heap.get?_push_size _ B.free)) fun b u x => Heap.get?_push_of_some _ (Heap.get?_push_of_some _ x)⟩
/-- the tuple at a as it stands at each turn, each item in a new pair -/
def Iten (K : PySem.W.Frag) (a : Addr) : It :=
  ⟨fun i H => ∃ (xs : List V) (x : V), SqT K H a xs ∧ xs[i]? = some x,
   fun i H v H' => ∃ T x, v = .ref T ∧ H T = none ∧ H' = upd H T (.tup [.int (i : Nat), x]) ∧ ∀ xs, SqT K H a xs → xs[i]? = some x,
   fun i H => ∃ xs : List V, SqT K H a xs ∧ xs.length ≤ i⟩
theorem turn_en {P : Program} {w : World} {K : PySem.W.Frag} {elts : List Expr} {kk : Nat} {tpos : Pos} (a e it : Addr) :
    Turn P w K (.Tuple elts kk tpos) (Iten K a) [e, it] e (fun i h => (∃ old, IsEnum h e it ((i : Nat) : Int) old) ∧ h.IsTupleIter it a i ∧ e ≠ it ∧ a ≠ it ∧ a ≠ e) where
  mem := List.mem_cons_self
  obj := by
    rintro i h ⟨⟨old, he⟩, ⟨o, ho, hc, hd⟩, _⟩ b hb
    rcases List.mem_cons.mp hb with rfl | hb
    · exact ⟨_, he, fun v q => by cases q⟩
    · obtain rfl := List.mem_singleton.mp hb
      exact ⟨o, ho, fun v q => by rw [hd] at q; cases q⟩
  keep := by
    rintro i h h' ⟨⟨old, he⟩, hi, hn⟩ k
    exact ⟨⟨old, k e (by simp) _ he⟩, hi.at fun o q => k it (by simp) o q, hn⟩
  item := by
    intro X hP hw hK hc i pins s σ H E I hf st hg
    subst hP hw hK
    obtain ⟨⟨old, he⟩, hit, hne, hai, hae⟩ := st
    obtain ⟨xs, x, hq, hx⟩ := hg
    obtain ⟨its, rv, p, hz⟩ := I.tuple hq
    obtain ⟨u, hu, ru⟩ := rv.get hx
    have hel : e < s.heap.objs.size := Heap.lt_size he
    have hil : it < s.heap.objs.size := by
      obtain ⟨_, q, _⟩ := hit
      exact Heap.lt_size q
    have hlt : i < its.toArray.size := by
      rw [List.size_toArray]
      exact (List.getElem?_eq_some_iff.mp hu).1
    have D := Draws.tuple (prog := X.prog) (w := X.w) (A := X.A.in1) (I.ok.hd hc) it a hai its.toArray
    refine wpAny_pyNext_enum_itemD D he ⟨hit, (show s.heap.IsTuple a its.toArray from p)⟩ hlt hne (by simp [hne, Ne.symm hae]) fun y h' tk hy ho hst hT hsz hk => ?_
    have ey : y = u := by
      have z : its.toArray[i]? = some y := hy
      rw [List.getElem?_toArray, hu] at z
      exact (Option.some.inj z).symm
    subst ey
    refine ⟨_, rfl, ?_⟩
    refine wpAny_letOwnedTupleGo_enum (s := ⟨h', s.gens, s.drawn, tk + 1, s.os⟩) ho ?_
    intro h2 he2 sb
    have at2 : h2.get? s.heap.objs.size = some { cls := .type "tuple", data := .seq #[.int i tk, y] } := by
      rw [sb.2 _ (Nat.ne_of_gt hel)]
      exact hT
    have cell : ObjOk X.prog X.w (upd H s.heap.objs.size (.tup [.int (i : Nat), x])) h2 s.heap.objs.size (.tup [.int (i : Nat), x]) := by
      refine ⟨by show 2 ≤ sizeLine; decide, [.int i tk, y], .cons ⟨_, rfl⟩ (.cons ru .nil), ⟨_, at2, rfl, _, rfl⟩⟩
    have far : ∀ b ob, b ∉ [e, it] → s.heap.get? b = some ob → h2.get? b = some ob := fun b ob hb q => by
      have n1 : b ≠ e := fun z => hb (by simp [z])
      have n2 : b ≠ it := fun z => hb (by simp [z])
      rw [sb.2 b n1]
      exact hk b ob n1 n2 q
    have J := I.turnedNew (ch := [e, it]) (t' := tk + 1) far hf (Nat.le_refl _) cell
    refine ⟨.ref s.heap.objs.size, _, J, rfl, ⟨_, x, rfl, I.hok.fresh (Nat.le_refl _), rfl, fun ys hy => by rw [I.tuple_inj hy hq]; exact hx⟩, ⟨⟨y, ?_⟩, ?_, hne, hai, hae⟩, fun b hb => ?_⟩
    · have e1 : ((i + 1 : Nat) : Int) = (i : Int) + 1 := by omega
      rw [e1]
      exact he2
    · exact hst.1.at fun o q => by
        rw [sb.2 it (Ne.symm hne)]
        exact q
    · have lt : b < s.heap.objs.size := by
        rcases List.mem_cons.mp hb with rfl | hb
        · exact hel
        · obtain rfl := List.mem_singleton.mp hb
          exact hil
      rw [upd_ne (Nat.ne_of_lt lt)]
      exact (hf b hb).1
  done := by
    intro X hP hw hK hc i pins s σ H E I hf st hg
    subst hP hw hK
    obtain ⟨⟨old, he⟩, hit, hne, hai, hae⟩ := st
    obtain ⟨xs, hq, hx⟩ := hg
    obtain ⟨its, rv, p, hz⟩ := I.tuple hq
    obtain ⟨f0, f1, f2, f3, f4, f5⟩ := hf it (by simp)
    have hl := rv.length
    have none_i : its.toArray[i]? = none := by
      rw [List.getElem?_toArray, List.getElem?_eq_none_iff]
      omega
    have D : Draws X.prog X.w X.A.in1 it [it, a] i (fun j v => its.toArray[j]? = some v) (fun j h => (h.IsTupleIter it a j ∧ h.IsTuple a its.toArray) ∧ i ≤ j) :=
      { live := fun _ _ st => let ⟨o, ho, _⟩ := st.1.1; ⟨o, ho⟩
        frame := fun _ _ _ st hk => ⟨⟨st.1.1.at fun o e => hk it (by simp) o e, st.1.2.at fun o e => hk a (by simp) o e⟩, st.2⟩
        item := fun j _ _ _ hj st _ => absurd st.2 (by omega)
        done := fun s Q E st hE => wpAny_nextOf_tuple_end (I.ok.hd hc) st.1.1 st.1.2 none_i hE }
    refine wpAny_pyNext_enum_endD D he ⟨⟨hit, (show s.heap.IsTuple a its.toArray from p)⟩, Nat.le_refl _⟩ fun h' eb => ⟨rfl, ?_⟩
    exact I.turned (t' := s.toks) (fun b o hb q => eb b o hb q) f0 f1 f3 f4 f5
  self := fun A i s Q E st h => by
    obtain ⟨⟨_, he⟩, _⟩ := st
    exact wpAny_pyIter_enum he h
def iEnumT (K : PySem.W.Frag) (ta : TA) : TI := fun σ H R => ta σ H fun vs H1 => ∃ a xs, vs = [.ref a] ∧ SqT K H1 a xs ∧ R (Iten K a) H1
theorem pi_enumT {X : Cx} {e : Expr} {ta : TA} {p pos tpos : Pos} {elts : List Expr} {kk : Nat} (hg : Gl X "enumerate") (hm : X.mg "enumerate" = none) (ha : PA X [e] ta) (hs : starEach [e] X.env = [(false, eval e X.env)] := by rfl) :
    PI X (.Tuple elts kk tpos) (.Call (.Name "enumerate" p) [e] [] pos) (iEnumT X.K ta) := by
  constructor
  intro pins s σ H R I h
  refine Call_ (ld_blt I hg hm boot_enumerate (PyProof.Rows.callWith_type1 (thn (ha.run pos pins s σ H _ I h) ?_) hs rfl))
  rintro us s1 ⟨vs, H1, I1, r1, a, xs, rfl, hq, q⟩
  obtain ⟨u, rfl, ru⟩ := vals1 r1
  cases ru
  obtain ⟨its, rv, p', hz⟩ := I1.tuple hq
  have hal : a < s1.heap.objs.size := by
    obtain ⟨o, ho, _⟩ := p'
    exact Heap.lt_size ho
  refine enum_call (begins_tuple a its.toArray) (show s1.heap.IsTuple a its.toArray from p') fun h' he hit hk => wpAny_pyIter_enum he ?_
  have I2 : Inv X pins σ H1 { s1 with heap := h' } := I1.kept (t' := s1.toks) hk
  refine ⟨s1.heap.objs.size + 1, [s1.heap.objs.size + 1, s1.heap.objs.size], _, _, H1, rfl, I2, turn_en a (s1.heap.objs.size + 1) s1.heap.objs.size, ⟨⟨.none, he⟩, ⟨_, hit, rfl, rfl⟩, Nat.succ_ne_self _, Nat.ne_of_lt hal, Nat.ne_of_lt (Nat.lt_succ_of_lt hal)⟩, fun b hb => ?_, q⟩
  have hle : s1.heap.objs.size ≤ b := by
    rcases List.mem_cons.mp hb with rfl | hb
    · exact Nat.le_succ _
    · obtain rfl := List.mem_singleton.mp hb
      exact Nat.le_refl _
  exact I1.fpOk hle (I1.hok.fresh hle)
/-- for i, x in enumerate(t) -/
theorem for_enT {K : PySem.W.Frag} {a : Addr} {xs : List V} {g : TG} {tb : TS} {D : Ends} {σ : L2.St} {H : Hp} (Pv : Nat → L2.St → Hp → Prop) (h0 : Pv 0 σ H) (hl : ∀ i σ H, Pv i σ H → SqT K H a xs)
    (hs : ∀ (i : Nat) x σ H, xs[i]? = some x → Pv i σ H → ∀ T, H T = none → g (.ref T) σ (upd H T (.tup [.int (i : Nat), x])) fun σ2 H2 => tb { D with nx := Pv (i + 1), ct := Pv (i + 1), bk := D.nx } σ2 H2) (hd : ∀ σ H, Pv xs.length σ H → D.nx σ H) :
    ∃ W : Nat → Nat → L2.St → Hp → Prop, (∃ m, W 0 m σ H) ∧ ∀ i m σ H, W i m σ H →
      ((Iten K a).stop i H ∧ D.nx σ H) ∨ ((Iten K a).go i H ∧ ∃ N : L2.St → Hp → Prop, (∀ σ' H', N σ' H' → ∃ m', m' < m ∧ W (i + 1) m' σ' H') ∧ ∀ x H', (Iten K a).yld i H x H' → g x σ H' fun σ2 H2 => tb { D with nx := N, ct := N, bk := D.nx } σ2 H2) := by
  refine ⟨fun i m σ H => m = xs.length - i ∧ i ≤ xs.length ∧ Pv i σ H, ⟨xs.length, by simp, Nat.zero_le _, h0⟩, ?_⟩
  rintro i m σ H ⟨rfl, hi, p⟩
  have q := hl i σ H p
  by_cases hlt : i < xs.length
  · refine .inr ⟨⟨xs, xs[i], q, List.getElem?_eq_getElem hlt⟩, Pv (i + 1), fun σ' H' p' => ⟨xs.length - (i + 1), by omega, rfl, hlt, p'⟩, fun v H' y => ?_⟩
    obtain ⟨T, x, rfl, nT, rfl, hx⟩ := y
    exact hs i x σ H (hx xs q) p T nT
  · have e : i = xs.length := by omega
    subst e
    exact .inl ⟨⟨xs, q, Nat.le_refl _⟩, hd σ H p⟩
end Ev
set_option maxHeartbeats 4000000
/-! Own errors whose __init__ says super().__init__() and nothing else. -/
namespace Ev
open PySem PySem.W PySem.Calls PyProof.Rows L2

abbrev supArgs (p : Pos) : Arguments := { posonlyargs := [], args := [{ arg := "self", annotation := none, pos := p }], vararg := none, kwonlyargs := [], kw_defaults := [], kwarg := none, defaults := [] }
abbrev supBody (p0 p1 p2 p3 p4 : Pos) : List Stmt := [.Expr (.Call (.Attribute (.Call (.Name "super" p0) [] [] p1) "__init__" p2) [] [] p3) p4]

abbrev supScope : Scope := { kind := .function, names := [(PySem.Str.ofString "self", .local), (PySem.Str.ofString "__class__", .free), (PySem.Str.ofString "super", .globalImplicit)], isGenerator := false, isCoroutine := false, more := [] }
theorem sup_l1 : supScope.names.lookup ("self" : Str) = some .local := by decide +kernel
theorem sup_l2 : supScope.names.lookup ("super" : Str) = some .globalImplicit := by decide +kernel
theorem sup_l3 : supScope.names.lookup ("__class__" : Str) = some .free := by decide +kernel
/-- what the written part tells of such a class at C, whose __init__ stands at fI -/
structure SupC (P : Program) (K : Frag) (mg : Str → Option Value) (C fI : Addr) : Prop where
  oex : OexC K C
  ini : findIn K (.ref C) "__init__" = some (some (.ref fI))
  tyI : typeIn K (.ref fI) = some (.type "function")
  fn : ∃ (oc : Value) (od : Option Addr) (qual : Str) (kV doc pm ct : Value) (an : Option Addr) (cda cc : Addr) (osl : Array (Option Value)) (p p0 p1 p2 p3 p4 : Pos) (ccl : Value) (cdd : Option Addr) (vs : Array Value) (ccs : Array (Option Value)) (file : Str) (tf : Tok) (cl : Value) (cld : Option Addr) (csl : Array (Option Value)),
    K.lookup fI = some ⟨oc, od, .func (ksFn "__init__" qual (supArgs p) (supBody p0 p1 p2 p3 p4) supScope .none kV doc pm an (.ref cda) ct cc), osl⟩ ∧ codeIn K (.ref cda) qual = true ∧
    K.lookup cda = some ⟨ccl, cdd, .fields vs, ccs⟩ ∧ vs[2]? = some (.str file tf) ∧ ((P.main.file : Str) == file) = true ∧ K.lookup cc = some ⟨cl, cld, .cell (some (.ref C)), csl⟩ ∧
    (p2.endLine == p3.line) = true
  gs : mg "super" = none
  top : (P.main.scope.names.lookup ("super" : Str)).isSome = false
  third : nsIn K cStatics "thirdparty.any" = some none
  sup : ks_superIn K C C "__init__" = some (some (.builtin "ValueError.__init__"))
  ve : subIn K (.ref C) (.type "ValueError") = some true
  me : mroIn K C (.ref C) = some true

theorem sup_eval {env : Env} {p0 p1 p2 p3 : Pos} (h : (p2.endLine == p3.line) = true) : eval (.Call (.Attribute (.Call (.Name "super" p0) [] [] p1) "__init__" p2) [] [] p3) env = (do
      let ov ← attributeBase (.Call (.Name "super" p0) [] [] p1) "__init__" env (eval (.Call (.Name "super" p0) [] [] p1) env)
      standAt p2.atName
      let (f, first) ← holding [ov] (getMethod ov "__init__" (do return (← importBound (.Call (.Name "super" p0) [] [] p1) env).getD true))
      callWith p3 f first (backTo p3 (starEach [] env)) []) := by
  have e : methodCallPos true (.Call (.Name "super" p0) [] [] p1) env p2 p3 = pure p3 := by
    unfold methodCallPos
    rw [h]
    rfl
  show (do
    let ov ← attributeBase (.Call (.Name "super" p0) [] [] p1) "__init__" env (eval (.Call (.Name "super" p0) [] [] p1) env)
    standAt p2.atName
    let (f, first) ← holding [ov] (getMethod ov "__init__" (do return (← importBound (.Call (.Name "super" p0) [] [] p1) env).getD true))
    let callPos ← methodCallPos true (.Call (.Name "super" p0) [] [] p1) env p2 p3
    callWith callPos f first (backTo p3 (starEach [] env)) []) = _
  rw [e]
  rfl
theorem boot_super : bootBuiltins "super" = some (.type "super") := by first | boot_by_name | rfl | kernel_rfl

section
variable {P : Program} {w : World} {A : Around} {E : Value → Shared → Prop} {K : Frag} {mg mb : Str → Option Value} {C fI x t0 : Addr} {h : Heap} {g : Array GenState} {d : Drawn} {tk : Nat} {os : OsState}

/-- the wrapper that super().__init__ gives, called: the args are laid anew -/
theorem bound_init {u : Addr} {Q : Value → Shared → Prop} (T : OexC K C) (X : K.In h) (hu : h.get? u = some (kxs_mw "ValueError.__init__" x)) (hx : h.get? x = some (PySem.HandSPX.excO C t0))
    (hq : ∀ h' t1, (∀ b o, b ≠ x → h.get? b = some o → h'.get? b = some o) → h'.get? x = some (PySem.HandSPX.excO C t1) → Q .none ⟨h', g, d, tk, os⟩) :
    wpAny (model P w) A (call (.ref u) []) Q E ⟨h, g, d, tk, os⟩ := by
  obtain ⟨nm, q, N, bs, bm, sn, sub, ab, col, dd, k0, k1, k2, k3, k5, hC, hbm⟩ := T.cls
  refine wpAny_call (codeAny_of_tree ?_)
  show wpAny _ A.in1 (callAny (.ref u) ⟨[], []⟩) _ _ _
  simp only [callAny]
  refine wpAny_bind (wpAny_load hu ?_)
  simp only [kxs_mw, show (Value.type "method-wrapper" == Value.type "method" || Value.type "method-wrapper" == Value.type "builtin_function_or_method" || Value.type "method-wrapper" == Value.type "method-wrapper") = true by decide, if_true]
  refine KFB.if_so (by decide) ?_
  refine wpAny_bind (check_bound_init F.excBase_ValueError.toExcCallFacts (X _ _ hC) hx rfl ?_)
  refine wpAny_bind (wpAny_pure (wpAny_pure ?_))
  refine ⟨plainId_quiet F.excBase_ValueError.init.plain _, codeAny_builtin F.excBase_ValueError.initEntry ?_⟩
  exact exc_init_tree (cls := .ref C) (t0 := t0) (dv := none) (c2 := .none) (c3 := .none) (b4 := .bool false) hx (by rw [sizeLine_eq]; exact Nat.zero_le _) fun h' k e _ => hq h' h.objs.size k e

theorem sup_init {R : Result → Shared → Prop} {s : Shared} (T : SupC P K mg C fI) (hroom : A.depth < recursionLimit) (X : K.In s.heap) (hlim : s.heap.NoLimit) (G : s.heap.Ns mainGlobals mg) (B : s.heap.Ns builtinsNs mb)
    (hbb : ∀ y : Str, y ≠ "__name__" → mb y = bootBuiltins y) (hx : s.heap.get? x = some (PySem.HandSPX.excO C t0))
    (hq : ∀ h' t' t1, (∀ b o, b ≠ x → s.heap.get? b = some o → h'.get? b = some o) → h'.get? x = some (PySem.HandSPX.excO C t1) → R (.ok (.ret .none)) { s with heap := h', toks := t' }) :
    codeAny (model P w) A (.call (.ref fI) ⟨[.ref x], []⟩) R s := by
  obtain ⟨oc, od, qual, kV, doc, pm, ct, an, cda, cc, osl, p, p0, p1, p2, p3, p4, ccl, cdd, vs, ccs, file, tf, cl, cld, csl, ho, hcd, hcode, hvs, hfile, hcell, hline⟩ := T.fn
  refine ks_codeAny_call_defAt (fd := ksFn "__init__" qual (supArgs p) (supBody p0 p1 p2 p3 p4) supScope .none kV doc pm an (.ref cda) ct cc) (body := supBody p0 p1 p2 p3 p4) (binds := [("self", .ref x)]) hroom (X _ _ ho) rfl hlim (codeRec_of X hcd) rfl
    (BindsTo.of_eq rfl) (by show ∀ y ∈ supScope.names, y.2 ≠ .cell; decide) (fun y hy => ?_) (fun h₁ hns k₁ => ?_)
  · obtain rfl : y = (("self" : Str), Value.ref x) := List.mem_singleton.mp hy
    exact sup_l1
  obtain ⟨hp, g, d, tk, os⟩ := s
  have X₁ : K.In h₁ := X.keeps k₁
  have hx₁ : h₁.get? x = some (PySem.HandSPX.excO C t0) := k₁ _ _ hx
  have G₁ : h₁.Ns mainGlobals mg := G.keeps k₁
  have B₁ : h₁.Ns builtinsNs mb := B.keeps k₁
  obtain ⟨nm, q, N, bs, bm, sn, sub, ab, col, dd, q0, q1, q2, q3, q5, hC, hbm⟩ := T.oex.cls
  show _root_.PySem.wpAt _ _ _ (execs (supBody p0 p1 p2 p3 p4) (ksEnv qual supScope hp.objs.size fI (.ref cda) cc)) _ _ _
  refine ks_wpAt_execs_cons (ks_wpAt_Expr_any (ks_wpAt_MethodCall ?_ (sup_eval hline)))
  refine ks_wpAt_super_base (env := ksEnv qual supScope hp.objs.size fI (.ref cda) cc) sup_l2 sup_l3 (by decide) rfl (X₁ _ _ ho) rfl rfl rfl (X₁ _ _ hcode) rfl hvs hfile T.top ?_
  refine ks_loadName_global rfl sup_l2 (loadGlobal_builtin (env := ksEnv qual supScope hp.objs.size fI (.ref cda) cc) G₁ T.gs B₁ ((hbb _ (by decide +kernel)).trans boot_super) ⟨rfl, ?_⟩)
  refine wpAny_loadName_free rfl sup_l3 rfl ⟨_, X₁ _ _ hcell, rfl⟩ ?_
  refine wpAny_loadName_local rfl sup_l1 hns (v := .ref x) (by show List.lookup ("self" : Str) [(("self" : Str), Value.ref x)] = some (Value.ref x); simp [List.lookup]) ?_
  refine ks_wpAny_isType_cls (X₁ _ _ hC) rfl ⟨rfl, ?_⟩
  have I : InstAt h₁ x (PySem.HandSPX.excO C t0) C none := ⟨hx₁, rfl, rfl, trivial⟩
  refine ks_wpAny_call_super (X₁ _ _ hC) rfl I.at_ I.cls (fun c e => by cases e) (looks_mroIn X₁ T.me) (fun h' e k => ?_)
  have X₂ : K.In h' := X₁.keeps k
  have hx₂ : h'.get? x = some (PySem.HandSPX.excO C t0) := k _ _ hx₁
  have I₂ : InstAt h' x (PySem.HandSPX.excO C t0) C none := ⟨hx₂, rfl, rfl, trivial⟩
  have hsu := T.sup
  unfold ks_superIn at hsu
  have hcl : clsIn K C = some { name := nm, bases := bs, mro := .ref C :: bm, ns := N, qualname := q, hasDict := true, slotNames := sn, subclasses := sub, abstract := ab, collection := col, hasDel := false } := by unfold clsIn; rw [hC] <;> rfl
  rw [hcl] at hsu
  refine kxs_getMethod kxs_ValueError e (looks_opaque X₂ T.third) (l₀ := .ref C :: bm) ?_ rfl X₂ hsu (I₂.type.andThen (looks_subIn X₂ T.ve)) (ks_ne X₂ I₂ hcl) (by decide) ?_
  · exact fun A Q E s k q => wpAny_bind ((looks_clsIn X₂ hcl) A _ E s k (wpAny_pure q))
  have hne : h'.objs.size ≠ x := Nat.ne_of_gt (Heap.lt_size hx₂)
  have k2 : ∀ b o, h'.get? b = some o → (h'.push (kxs_mw "ValueError.__init__" x)).get? b = some o := fun b o z => Heap.get?_push_of_some _ z
  have hmw : (h'.push (kxs_mw "ValueError.__init__" x)).get? h'.objs.size = some (kxs_mw "ValueError.__init__" x) := Heap.get?_push_at rfl rfl
  refine kxs_callWith (i := "ValueError.__init__") (x := x) rfl (evalArgs_empty ⟨hmw, ?_⟩)
  refine bound_init T.oex (X₂.keeps k2) hmw (k2 _ _ hx₂) fun h3 t1 k3 hx3 => ?_
  exact wpAt_of_wpAny (wpAny_execs_nil (hq h3 _ t1 (fun b o hb z => k3 b o hb (k2 b o (k b o (k₁ b o z)))) hx3))
end
end Ev
set_option maxHeartbeats 4000000
/-! Rules for own errors as values: made, asked by isinstance, their fields read. -/
namespace Ev
open PySem PySem.Spec PyProof.Rows L2

section
variable {X : Cx} {x : Str} {C fI : Addr} {p pos : Pos}
theorem make_room {k : Nat} {A : Around} (hr : Room k A) {us : List Value} : (A.under (.builtin "type.__call__" ⟨.ref C :: us, []⟩)).depth < recursionLimit := by
  rw [make_depth]
  have := hr.dp
  omega
/-- C() of a class whose __init__ is super().__init__(): what stands behind it -/
theorem run_exc0 {pins : List (Addr × Obj)} {s : Shared} {σ : L2.St} {H : Hp} {k : Nat} {Q : Value → Shared → Prop} (T : SupC X.prog X.K X.mg C fI) (hr : Room k X.A) (I : Inv X pins σ H s)
    (h : ∀ h' tk a t1, s.heap.objs.size ≤ a → (∀ b o, s.heap.get? b = some o → h'.get? b = some o) → h'.get? a = some (PySem.HandSPX.excO C t1) → Q (.ref a) { s with heap := h', toks := tk }) :
    wpAny (model X.prog X.w) X.A (call (.ref C) []) Q X.xe s := by
  obtain ⟨nm, q, N, bs, bm, sn, sub, ab, col, dd, k0, k1, k2, k3, k5, hC, hbm⟩ := T.oex.cls
  obtain ⟨mb, hb1, hb2⟩ := I.mod.blt
  have kX := I.kIn
  have lim := I.nolimit
  have g1 := I.mod.glob.keeps I.bk
  have b1 := hb1.keeps I.bk
  obtain ⟨hp, g, dr, tk, os⟩ := s
  have kk : ∀ b o, hp.get? b = some o → ((hp.push (PySem.W.kdv_tup [])).push (PySem.HandSPX.excO C hp.objs.size)).get? b = some o := fun b o e => Heap.get?_push_of_some _ (Heap.get?_push_of_some _ e)
  have hget : ((hp.push (PySem.W.kdv_tup [])).push (PySem.HandSPX.excO C hp.objs.size)).get? (hp.objs.size + 1) = some (PySem.HandSPX.excO C hp.objs.size) := by heap_get
  refine wpAny_call (PySem.HandSPX.call_own F.excBase_ValueError (fun Y => PySem.HandSPX.refsVE_contains Y bm hbm) (kX _ _ hC) (PySem.W.looks_findIn kX T.ini) (fun self => PySem.W.bind_fn kX self T.tyI) (by rw [sizeLine_eq]; exact Nat.zero_le _)
    (sup_init (s := ⟨(hp.push (PySem.W.kdv_tup [])).push (PySem.HandSPX.excO C hp.objs.size), g, dr, tk, os⟩) T (make_room hr) (kX.keeps kk) (lim.keeps kk) (g1.keeps kk) (b1.keeps kk) hb2 hget fun h' t' t1 k' hx => ⟨rfl, ?_⟩))
  exact h h' t' (hp.objs.size + 1) t1 (Nat.le_succ _) (fun b o e => k' b o (Nat.ne_of_lt (Nat.lt_succ_of_lt (Heap.lt_size e))) (kk b o e)) hx
def tExc0 (C : Addr) : TE := fun _ H Q => ∀ a, H a = none → Q (.ref a) (upd H a (exo a C none))
theorem pe_exc0 {k : Nat} (T : SupC X.prog X.K X.mg C fI) (hr : Room k X.A) (hg : Gl X x) (hm : X.mg x = some (.ref C)) (hdb : (x == ("__debug__" : Str)) = false := by decide) : PE X (.Call (.Name x p) [] [] pos) (tExc0 C) := by
  refine ⟨fun pins s σ H Q I h => ?_⟩
  refine wpAny_Call_Name_kw (ld_glob I hg hm ?_ hdb)
  refine PySem.W.callWith_K0 I.kIn T.oex.kC ?_
  show wpAny _ _ (call (.ref C) []) _ _ _
  refine run_exc0 T hr I fun h' tk a t1 ha k e => ?_
  exact ⟨.ref a, upd H a (exo a C none), I.laid k ha (exo_ok e), rfl, h a (I.hok.fresh ha)⟩
/-- raised at once -/
theorem pmk_exc0 {k : Nat} (T : SupC X.prog X.K X.mg C fI) (hr : Room k X.A) (hg : Gl X x) (hm : X.mg x = some (.ref C)) (hdb : (x == ("__debug__" : Str)) = false := by decide) : PMk X (.Call (.Name x p) [] [] pos) (fun _ H Q => Q (.ref C) none H) := by
  intro pins s σ H Q I h
  refine wpAny_Call_Name_kw (ld_glob I hg hm ?_ hdb)
  refine PySem.W.callWith_K0 I.kIn T.oex.kC ?_
  show wpAny _ _ (call (.ref C) []) _ _ _
  refine run_exc0 T hr I fun h' tk a t1 ha k e => ?_
  refine ⟨a, _, _, s, H, .ref C, none, rfl, I, k, ?_, e, ⟨rfl, rfl⟩, rfl, rfl, I.hok.fresh ha, rfl, I.bare, raises_own T.oex.exC T.oex.tyC, h⟩
  exact Heap.get?_none_of_le ha
end

/-! ### __init__(self, f): self.f = f -/
structure Ini1 (st : Stmt) (f : Str) : Prop where
  body : ∃ q1 q2 q3 q4, defBody st = [.Assign [.Attribute (.Name "self" q1) f q2] (.Name f q3) q4]
  sc : FnScope ["self", f] ["self", f] (defScope st)
  l0 : (defScope st).names.lookup ("self" : Str) = some .local
  l1 : (defScope st).names.lookup f = some .local
  d1 : (f == ("__debug__" : Str)) = false
  d2 : (f == ("__classdict__" : Str)) = false
def spIni1 (C : Addr) (f : Str) : Sp := fun vs H Q _ => ∃ (a : Addr) (v : V), vs = [.ref a, v] ∧ H a = some (exo a C none) ∧ ∀ dx, H dx = none → dx ≠ a → Q .non (upd (upd H dx (exd dx [(f, v)])) a (exo a C (some dx)))
section
variable {P : Program} {w : World} {K : PySem.W.Frag} {mg : Str → Option Value} {base : Heap} {C : Addr}
theorem ok_ini1 {qual f : Str} {st : Stmt} {fI : Addr} {fd : FuncData} (F : Fun K "__init__" qual st fI fd) (S : Ini1 st f) (T : OexC K C) (hno : PySem.W.findIn K (.ref C) f = some none) : FnOk P w K mg base CX0 1 fI fd ["self", f] (spIni1 C f) := by
  refine F.ok S.sc (fun vs H Q E h => ?_) (fun cdv A outer s H vs Q E hr h => ?_)
  · obtain ⟨a, v, rfl, _⟩ := h
    rfl
  · obtain ⟨a, v, rfl, ha, q⟩ := h
    obtain ⟨q1, q2, q3, q4, hb⟩ := S.body
    rw [hb]
    refine ⟨_, pss_one (ps_ost (pv 0 rfl (.inl S.l0)) (pv 1 rfl (.inl S.l1) S.d1 S.d2)), ?_⟩
    exact ⟨v, rfl, .ref a, rfl, a, C, rfl, T, hno, .inl ⟨ha, fun dx n ne => q dx n ne⟩⟩
end
theorem upd3 {H : Hp} {a d : Addr} {o1 o2 o3 : HO} (h : d ≠ a) : upd (upd (upd H a o1) d o2) a o3 = upd (upd H d o2) a o3 := by
  funext b
  by_cases e : b = a
  · rw [e, upd_same, upd_same]
  · rw [upd_ne e, upd_ne e]
    by_cases e2 : b = d
    · rw [e2, upd_same, upd_same]
    · rw [upd_ne e2, upd_ne e2, upd_ne e]
def tExc1 (C : Addr) (f : Str) (ta : TA) : TE := fun σ H Q => ta σ H fun vs H1 => ∃ v, vs = [v] ∧ ∀ a d, H1 a = none → H1 d = none → d ≠ a → Q (.ref a) (upd (upd H1 d (exd d [(f, v)])) a (exo a C (some d)))
section
variable {X : Cx} {x f : Str} {C fI : Addr} {p pos : Pos} {e : Expr} {ta : TA} {fd : FuncData}
theorem pe_exc1 {k : Nat} (T : OexC X.K C) (iC : PySem.W.findIn X.K (.ref C) "__init__" = some (some (.ref fI))) (tI : PySem.W.typeIn X.K (.ref fI) = some (.type "function")) (F1 : FnOk X.prog X.w X.K X.mg X.base CX0 1 fI fd ["self", f] (spIni1 C f)) (hr : Room (k + 2) X.A)
    (hb : Binds X.K fd ["self", f] []) (hg : Gl X x) (hm : X.mg x = some (.ref C)) (ha : PA X [e] ta) (hdb : (x == ("__debug__" : Str)) = false := by decide) (he : starEach (e :: []) X.env = (false, eval e X.env) :: starEach [] X.env := by rfl)
    (hpl : (backTo pos (starEach [] X.env)).any (·.1) = false := by rfl) : PE X (.Call (.Name x p) [e] [] pos) (tExc1 C f ta) := by
  refine ⟨fun pins s σ H Q I h => ?_⟩
  obtain ⟨nm, q, N, bs, bm, sn, sub, ab, col, dd, k0, k1, k2, k3, k5, hC, hbm⟩ := T.cls
  refine wpAny_Call_Name_kw (ld_glob I hg hm ?_ hdb)
  refine PySem.W.callWith_K (h₀ := X.base) I.ok.mod.kin T.kC (thn (ha.run pos pins s σ H _ I h) fun us s1 ⟨vs, H1, I1, r1, v, ev, q1⟩ => ⟨I1.kIn, ?_⟩) he hpl
  subst ev
  show wpAny _ _ (call (.ref C) us) _ _ _
  obtain ⟨hp, g, dr, tk, os⟩ := s1
  have hsz : hp.objs.size ≤ hp.objs.size + 1 := Nat.le_succ _
  have hn : H1 (hp.objs.size + 1) = none := I1.hok.fresh hsz
  have kk : ∀ b o, hp.get? b = some o → ((hp.push (PySem.W.kdv_tup us)).push (PySem.HandSPX.excO C hp.objs.size)).get? b = some o := fun b o e => Heap.get?_push_of_some _ (Heap.get?_push_of_some _ e)
  have hget : ((hp.push (PySem.W.kdv_tup us)).push (PySem.HandSPX.excO C hp.objs.size)).get? (hp.objs.size + 1) = some (PySem.HandSPX.excO C hp.objs.size) := by heap_get
  have I2 : Inv X pins σ (upd H1 (hp.objs.size + 1) (exo (hp.objs.size + 1) C none)) ⟨(hp.push (PySem.W.kdv_tup us)).push (PySem.HandSPX.excO C hp.objs.size), g, dr, tk, os⟩ :=
    I1.laid (t' := tk) (a := hp.objs.size + 1) (o := exo (hp.objs.size + 1) C none) (h' := (hp.push (PySem.W.kdv_tup us)).push (PySem.HandSPX.excO C hp.objs.size)) kk hsz (exo_ok hget)
  have r2 : Vals [V.ref (hp.objs.size + 1), v] (Value.ref (hp.objs.size + 1) :: us) := .cons rfl r1
  have hl1 : us.length = 1 := by rw [← Paired.length r1] <;> rfl
  have hl : (Value.ref (hp.objs.size + 1) :: us ++ []).length = (["self", f] : List Str).length := by
    rw [List.append_nil, List.length_cons, hl1] <;> rfl
  have hus : us.length ≤ sizeLine := by
    rw [hl1, sizeLine_eq]
    omega
  have b2 := hb _ (Value.ref (hp.objs.size + 1) :: us) I2.kIn hl
  rw [List.append_nil] at b2
  have hq : spIni1 C f [V.ref (hp.objs.size + 1), v] (upd H1 (hp.objs.size + 1) (exo (hp.objs.size + 1) C none)) (fun z H2 => z = .non ∧ Q (.ref (hp.objs.size + 1)) H2) E0 := by
    refine ⟨_, v, rfl, upd_same, fun dx n ne => ⟨rfl, ?_⟩⟩
    rw [upd_ne ne] at n
    rw [upd3 ne]
    exact q1 _ dx hn n ne
  refine wpAny_call (PySem.HandSPX.call_own F.excBase_ValueError (fun Y => PySem.HandSPX.refsVE_contains Y bm hbm) (I1.kIn _ _ hC) (PySem.W.looks_findIn I1.kIn iC) (fun self => PySem.W.bind_fn I1.kIn self tI) hus
    (codeAny_mono (F1.run _ X.stack _ _ ⟨Value.ref (hp.objs.size + 1) :: us, []⟩ (Value.ref (hp.objs.size + 1) :: us) _ _ E0 ((hr.mono (by omega : 1 + 1 ≤ k + 2)).make C us []) (I2.env0.make C us []) b2 r2 hq) fun r s' hq' => ?_))
  cases r with
  | error er => exact False.elim hq'
  | ok fl =>
    cases fl with
    | ret u =>
      obtain ⟨z, H', I3, rz, ez, q3⟩ := I2.after hq'
      subst ez
      exact ⟨rz, ⟨V.ref (hp.objs.size + 1), H', I3, rfl, q3⟩⟩
    | next => exact False.elim hq'
    | brk => exact False.elim hq'
    | cont => exact False.elim hq'
end

/-! ### isinstance -/
/-- at a stands an own error of the class at C -/
def ErrAt (H : Hp) (a C : Addr) : Prop := H a = some (exo a C none) ∨ ∃ d fs, H a = some (exo a C (some d)) ∧ H d = some (exd d fs)
theorem err_inst {X : Cx} {pins : List (Addr × Obj)} {σ : L2.St} {H : Hp} {s : Shared} {a C : Addr} (I : Inv X pins σ H s) (h : ErrAt H a C) : ∃ ox od, PySem.W.InstAt s.heap a ox C od := by
  rcases h with h | ⟨d, fs, h, hd⟩
  · obtain ⟨t1, e⟩ := exo_at I.hok h
    exact ⟨_, none, e, rfl, rfl, trivial⟩
  · obtain ⟨t1, e⟩ := exo_at I.hok h
    obtain ⟨mA, ⟨o, es, ep, ho, _⟩, _⟩ := exd_at I.hok hd
    exact ⟨_, some o, e, rfl, rfl, ho⟩
/-- isinstance(e, c), e an own error -/
def rIsX (K : PySem.W.Frag) : List V → Hp → VK → Prop := fun xs H Q => ∃ (a C : Addr) (c : V) (cv : Value) (b : Bool), xs = [.ref a, c] ∧ ErrAt H a C ∧ ExcC K C ∧ ClsV c cv ∧ PySem.W.kitOne K (.ref C) cv = some b ∧ Q (.bl b) H
theorem call_isX {X : Cx} : CallR X (.builtin "isinstance") (rIsX X.K) := by
  intro pins s σ H xs us Q I r h
  obtain ⟨a, C, c, cv, b, rfl, ea, T, k, e, q⟩ := h
  obtain ⟨u1, u2, rfl, r1, r2⟩ := vals2 r
  have e2 := k.eq r2
  subst e2
  obtain rfl : u1 = Value.ref a := r1
  obtain ⟨ox, od, J⟩ := err_inst I ea
  have hcl : (PySem.W.clsIn X.K C).isSome = true := by
    obtain ⟨cd, hc, _⟩ := PySem.W.any_some T.hd
    rw [hc]
    rfl
  exact PySem.W.kia_one (PySem.W.kitx_exc hcl T.hg T.hk T.hs T.ha T.hn T.ht T.hm) I.kIn J e (fun z => nomatch z) fun tk => ⟨.bl b, H, I.tok tk, rfl, q⟩
/-- e.n, e an own error -/
def tErrF (K : PySem.W.Frag) (n : Str) (te : TE) : TE := fun σ H Q => te σ H fun x H1 => ∃ (a C d : Addr) (fs : List (Str × V)) (v : V), x = .ref a ∧ H1 a = some (exo a C (some d)) ∧ H1 d = some (exd d fs) ∧ fs.lookup n = some v ∧ XfC K C ∧ PySem.W.findIn K (.ref C) n = some none ∧ Q v H1
theorem pe_errF {X : Cx} {e : Expr} {te : TE} {pos : Pos} {n : Str} (he : PE X e te) (hb : attributeBase e n X.env (eval e X.env) = eval e X.env := by rfl) : PE X (.Attribute e n pos) (tErrF X.K n te) := by
  refine ⟨fun pins s σ H Q I h => ?_⟩
  refine attr_of hb (thn (he.run pins s σ H _ I h) fun u s1 hh => ?_)
  obtain ⟨x, H1, I1, rx, a, C, d, fs, v, ex, ea, ed, l, T, hno, q⟩ := hh
  subst ex
  obtain rfl : u = Value.ref a := rx
  obtain ⟨t1, e1⟩ := exo_at I1.hok ea
  obtain ⟨mA, hns, hr⟩ := exd_at I1.hok ed
  obtain ⟨od, ho, hl⟩ := lookIn_ns hns
  obtain ⟨u, hu, ru⟩ := RelO.some_of (v := v) (o := mA n) (by rw [← l]; exact hr n)
  have J : PySem.W.InstAt s1.heap a _ C (some od) := ⟨e1, rfl, rfl, ho⟩
  exact HandSPX.exc_get I1.kIn J T.ga T.gg T.exC (PySem.W.findObj_own T.hdC hno rfl (by rw [hl, hu])) (handed_of ru) ⟨v, H1, I1.tok _, ru, q⟩
end Ev
set_option maxHeartbeats 4000000
/-! try with several clauses «except X as n», the name the same in all of them. -/
namespace Ev
open PySem PySem.Spec PyProof.Rows L2
/-- behind a suite the name's slot (i) is empty -/
def offS (i : Nat) (D : Ends) : Ends := { nx := fun σ' H' => D.nx (σ'.set i none) H', rt := D.rt, bk := fun σ' H' => D.bk (σ'.set i none) H', ct := fun σ' H' => D.ct (σ'.set i none) H' }
def wManyAs (K : PySem.W.Frag) (i : Nat) (Wout : WX) (D : Ends) : List (Value × (Addr → Value → Option Addr → TS)) → WX
  | [] => Wout
  | (c, ts) :: r => fun cls d σ H => ∃ b, PySem.W.exmOne K cls c = some b ∧ (b = true → ∀ a, H a = none → ts a cls d (offS i D) (σ.set i (some (.ref a))) H) ∧ (b = false → wManyAs K i Wout D r cls d σ H)
inductive HdsAs (X : Cx) (n : Str) : List ExceptHandler → List (Value × (Addr → Value → Option Addr → TS)) → Prop
  | nil : HdsAs X n [] []
  | cons {x : Str} {c : Value} {ts : Addr → Value → Option Addr → TS} {b₀ : Stmt} {suite : List Stmt} {np pos' : Pos} {hds : List ExceptHandler} {l : List (Value × (Addr → Value → Option Addr → TS))} (hc : Names X x c)
      (hsu : ∀ (a : Addr) (oe : Obj) (cls : Value) (d : Option Addr) (pn : List (Addr × Obj)), Zc cls d oe → (∃ vs, oe.data = .fields vs) → PSs (X.suite a ((a, oe) :: pn)) (b₀ :: suite) (ts a cls d)) (r : HdsAs X n hds l) :
      HdsAs X n (.ExceptHandler (some (.Name x np)) (some n) (b₀ :: suite) pos' :: hds) ((c, ts) :: l)
section
variable {X : Cx} {body : List Stmt} {h₀ : ExceptHandler} {hds : List ExceptHandler} {l : List (Value × (Addr → Value → Option Addr → TS))} {pos : Pos} {tb : WX → TS} {Wout : WX} {n : Str} {i : Nat}
theorem ps_try_manyAs (hs : X.stack = X.env :: X.outer) (hf : X.env.frame = some X.env.locals) (hN : X.N.Nodup) (hi : X.N[i]? = some n) (hln : X.env.kindOf n = some .local) (tk : Takes X Wout)
    (hb : ∀ (W : WX) (pn : List (Addr × Obj)) (xe : Value → Shared → Prop), Takes (X.tr pn xe) W → PassesOwn (model X.prog X.w) X.A X.env xe → PSs (X.tr pn xe) body (tb W))
    (hh : HdsAs X n (h₀ :: hds) l) : PS X (.Try body (h₀ :: hds) [] [] pos) (fun D σ H => tb (wManyAs X.K i Wout D l) D σ H) := by
  refine ⟨fun pins s σ H D I h => ?_⟩
  have ok := I.ok
  have hfr : X.A.frames = some (X.env :: X.outer) := by rw [ok.frames, hs]
  have hloc : Loc X.env.scope n := .inl hln
  refine wpAny_Try_except (wpAny_mono ((hb (wManyAs X.K i Wout D l) (X.pn ++ pins) (fun e s₁ => wpAny (model X.prog X.w) X.A (noteFrame e X.env) (fun _ s₂ => wpAny (model X.prog X.w) X.A (setFlight e none) (fun _ s₃ =>
    wpAny (model X.prog X.w) X.A (handleBy e X.env (h₀ :: hds)) (SP X pins D) X.xe s₃) X.xe s₂) X.xe s₁) (fun u s' xx => ?_) PassesOwn.looking).run [] s σ H D (I.toTry _) h) (fun f s1 hsp => ?_) (fun e s1 he => he))
  · obtain ⟨a, B, sI, pins', σ', H', cls, d, rfl, J', nb, up, sky, na, os, ag, w⟩ := xx
    have J : L2.Inv X pins σ' H' sI := J'.ofTry ok
    have sky' : Sky B (X.env :: X.outer) a (Zc cls d) X.env.locals s'.heap := by rw [← hs]; exact sky
    refine Sky.land Zc.steady hfr hf sky' fun h3 fl3 up3 => ?_
    have J3 : L2.Inv X pins σ' H' { s' with heap := h3 } := J.landed nb fl3.1 (up.trans up3) os ag
    obtain ⟨oe3, vs3, he3, hz3, hd3⟩ := fl3.there
    have nfr : a ∉ frs (X.env :: X.outer) := fun hm => by
      obtain ⟨_, o', e', hnf⟩ := fl3.2.2.1.mem hm
      rw [he3] at e'; cases e'
      exact hnf _ hd3
    have nL : a ≠ X.env.locals := fun z => nfr (List.mem_filterMap.mpr ⟨X.env, List.mem_cons_self, by rw [hf, z]⟩)
    have nF : a ∉ X.fs := fun hm => by
      obtain ⟨e, he, q⟩ := List.mem_filterMap.mp hm
      exact nfr (List.mem_filterMap.mpr ⟨e, List.mem_cons_of_mem _ he, q⟩)
    have S3 := J3.suite he3 hd3 na nL nF
    have LT : PySem.W.Looks (model X.prog X.w) h3 (typeOf (.ref a)) cls := fun A Q E s k q => wpAny_typeOf_ref (k _ _ he3) (by rw [hz3.1]; exact q)
    have go : ∀ {hds' : List ExceptHandler} {l' : List (Value × (Addr → Value → Option Addr → TS))}, HdsAs X n hds' l' → wManyAs X.K i Wout D l' cls d σ' H' →
        wpAny (model X.prog X.w) X.A (handleBy (.ref a) X.env hds') (SP X pins D) X.xe { s' with heap := h3 } := by
      intro hds' l' hk
      induction hk with
      | nil =>
        intro w
        refine wpAny_handleBy_nil ?_
        obtain ⟨k1, k2, k3, oe, vs, T, oT, ts', he, hz, hd, h1, hr⟩ := id fl3
        unfold PySem.passOn
        refine wpAny_bind (wpAny_field he hd h1 ?_)
        rw [if_neg (show ¬ ((Value.ref T == Value.none) = true) from by simp)]
        have fin : wpAny (model X.prog X.w) X.A (setFlight (.ref a) X.env.frame) (fun _ s4 => wpAny (model X.prog X.w) X.A (throw (.ref a) : Sem Flow) (SP X pins D) X.xe s4) X.xe { s' with heap := h3 } := by
          rw [hf]
          refine HandSPX.setFlight_upZ fl3 fun h4 hh4 up4 => wpAny_throw (tk _ _ ?_)
          exact ⟨a, B, sI, pins, σ', H', cls, d, rfl, J, nb, (up.trans up3).trans up4, .inr (.inr (by rw [hs]; exact hh4)), na, os, ag, w⟩
        first
          | exact wpAny_bind (wpAny_pure (wpAny_bind fin))
          | exact wpAny_bind fin
      | @cons x c ts b₀ suite np pos' hds2 l2 hc hsu r ih =>
        intro w
        obtain ⟨b, hb1, hyes, hno⟩ := w
        refine wpAny_handleBy_cons (codeAny_handlers_test ?_) (by intro q; cases q)
        have LM := PySem.W.exm_one (M := model X.prog X.w) (J3.kIn) LT hb1
        have test : ∀ {Q : Value → Shared → Prop} {E : Value → Shared → Prop}, Q c { s' with heap := h3 } → wpAny (model X.prog X.w) (X.A.mark (some (.ref a))) (eval (.Name x np) X.env) Q E { s' with heap := h3 } := fun {Q E} q => by
          obtain ⟨hg, hdbg, hm | ⟨hm, hv, hnn⟩⟩ := hc
          · exact ld_glob (X := X.suite a ((a, oe3) :: (X.pn ++ pins))) S3 hg hm q hdbg
          · exact ld_blt (X := X.suite a ((a, oe3) :: (X.pn ++ pins))) S3 hg hm hv q hnn hdbg
        refine test (LM.here ?_)
        cases b with
        | true =>
          refine codeAny_handlers_suite_as (HandSPX.lands_againZ fl3 fun h4 fl4 up4 => ?_)
          have J4 : L2.Inv X pins σ' H' { s' with heap := h4 } := J.landed nb fl4.1 ((up.trans up3).trans up4) os ag
          obtain ⟨oe4, vs4, he4, hz4, hd4⟩ := fl4.there
          refine store_ok (X := X.suite a ((a, oe4) :: (X.pn ++ pins))) (v := .ref a) (J4.suite he4 hd4 na nL nF) hN hi hloc rfl (fun s5 S5 => ?_) (.inr hln)
          refine wpAny_mono ((hsu a oe4 cls d (X.pn ++ pins) hz4 ⟨_, hd4⟩).run [] s5 _ H' _ S5 (hyes rfl a na)) (fun f s6 hsp => ?_) (fun _ _ z => False.elim z)
          cases f with
          | next =>
            obtain ⟨σ6, H6, S6, q6⟩ := hsp
            exact gone_ok (S6.unsuite ok) hN hi hln fun s7 J7 => ⟨_, _, J7, q6⟩
          | brk =>
            obtain ⟨σ6, H6, S6, q6⟩ := hsp
            exact gone_ok (S6.unsuite ok) hN hi hln fun s7 J7 => ⟨_, _, J7, q6⟩
          | cont =>
            obtain ⟨σ6, H6, S6, q6⟩ := hsp
            exact gone_ok (S6.unsuite ok) hN hi hln fun s7 J7 => ⟨_, _, J7, q6⟩
          | ret u =>
            obtain ⟨v6, σ6, H6, S6, r6, q6⟩ := hsp
            exact gone_ok (S6.unsuite ok) hN hi hln fun s7 J7 => ⟨_, _, _, J7, r6, q6⟩
        | false => exact ih (hno rfl)
    exact go hh w
  · cases f with
    | next =>
      obtain ⟨σ', H', J', q⟩ := hsp
      exact wpAny_execs_nil ⟨σ', H', J'.ofTry ok, q⟩
    | brk =>
      obtain ⟨σ', H', J', q⟩ := hsp
      exact ⟨σ', H', J'.ofTry ok, q⟩
    | cont =>
      obtain ⟨σ', H', J', q⟩ := hsp
      exact ⟨σ', H', J'.ofTry ok, q⟩
    | ret u =>
      obtain ⟨v, σ', H', J', r, q⟩ := hsp
      exact ⟨v, σ', H', J'.ofTry ok, r, q⟩
end
end Ev
set_option maxHeartbeats 8000000
namespace LawK
open PySem PySem.Spec PyProof.Rows L2 Ev
abbrev veT : List Value := [.type "ValueError", .type "Exception", .type "BaseException", .type "object"]
/-- an own error class at C, over the one at PE -/
structure ErC (K : PySem.W.Frag) (PE C : Addr) : Prop where
  oex : OexC K C
  isx : ExcC K C
  xf : XfC K C
  mro : ∃ cd, PySem.W.clsIn K C = some cd ∧ cd.mro = .ref C :: .ref PE :: veT
  isT : PySem.W.typeIn K (.ref C) = some (.type "type")
section
variable {K : PySem.W.Frag} {PE C D : Addr}
theorem ErC.sub (T : ErC K PE C) (b : Value) : PySem.W.subIn K (.ref C) b = some ((Value.ref C :: .ref PE :: veT).contains b) := by
  obtain ⟨cd, h1, h2⟩ := T.mro
  show (PySem.W.clsIn K C).bind _ = _
  rw [h1, Option.bind_some, h2]
  rfl
theorem kit_at (TD : ErC K PE D) (T : ErC K PE C) (n : D ≠ PE) : PySem.W.kitOne K (.ref C) (.ref D) = some (decide (C = D)) := by
  unfold PySem.W.kitOne
  by_cases e : C = D
  · subst e
    rw [if_pos (by simp), decide_eq_true rfl]
  · rw [if_neg (by simpa using e), decide_eq_false e]
    obtain ⟨cd, h1, h2⟩ := TD.mro
    show (if ((PySem.W.clsIn K D).isSome && PySem.W.typeIn K (.ref D) == some (.type "type")) = true then PySem.W.subIn K (.ref C) (.ref D) else none) = some false
    rw [if_pos (by rw [h1, TD.isT]; rfl), T.sub]
    have e2 : D ≠ C := fun z => e z.symm
    simp [veT, e2, n]
end
/-- an error class without a field -/
structure Cls0 (P : Program) (K : PySem.W.Frag) (mg : Str → Option Value) (PE : Addr) (x : Str) (C : Addr) : Prop where
  er : ErC K PE C
  ne : C ≠ PE
  sup : ∃ fI, SupC P K mg C fI
  g : mg x = some (.ref C)
/-- an error class with the field f -/
structure Cls1 (K : PySem.W.Frag) (mg : Str → Option Value) (PE : Addr) (x f : Str) (C : Addr) : Prop where
  er : ErC K PE C
  ne : C ≠ PE
  g : mg x = some (.ref C)
  ini : ∃ (fI : Addr) (fd : FuncData) (st : Stmt) (qual : Str), Fun K "__init__" qual st fI fd ∧ Ini1 st f ∧ Binds K fd ["self", f] [] ∧ PySem.W.findIn K (.ref C) "__init__" = some (some (.ref fI)) ∧ PySem.W.typeIn K (.ref fI) = some (.type "function")
  hno : PySem.W.findIn K (.ref C) f = some none
section
variable {X : Cx} {x f : Str} {PE C : Addr} {p pos : Pos} {e : Expr} {ta : TA} {k : Nat}
theorem pe_c0 (T : Cls0 X.prog X.K X.mg PE x C) (hr : Room k X.A) (hg : Gl X x := by rfl) (hdb : (x == ("__debug__" : Str)) = false := by decide) : L2.PE X (.Call (.Name x p) [] [] pos) (tExc0 C) := by
  obtain ⟨fI, S⟩ := T.sup
  exact pe_exc0 S hr hg T.g hdb
theorem pe_c1 (T : Cls1 X.K X.mg PE x f C) (hr : Room (k + 2) X.A) (ha : PA X [e] ta) (hg : Gl X x := by rfl) (hdb : (x == ("__debug__" : Str)) = false := by decide) (he : starEach (e :: []) X.env = (false, eval e X.env) :: starEach [] X.env := by rfl)
    (hpl : (backTo pos (starEach [] X.env)).any (·.1) = false := by rfl) : L2.PE X (.Call (.Name x p) [e] [] pos) (tExc1 C f ta) := by
  obtain ⟨fI, fd, st, qual, F1, S1, b1, iC, tI⟩ := T.ini
  exact pe_exc1 T.er.oex iC tI (ok_ini1 F1 S1 T.er.oex T.hno) hr b1 hg T.g ha hdb he hpl
def tMk1 (C : Addr) (f : Str) (ta : TA) : L2.St → Hp → XK → Prop := fun σ H Q => ta σ H fun vs H1 => ∃ v, vs = [v] ∧ ∀ d, H1 d = none → Q (.ref C) (some d) (upd H1 d (.xd [(f, v)]))
theorem del_upd {H : Hp} {a d : Addr} {o1 o2 o3 u : HO} (ha : H a = none) (hd : d ≠ a) : upd (del (upd (upd (upd H a o1) d o2) a o3) a) d u = upd H d u := by
  funext b
  by_cases e : b = d
  · rw [e, upd_same, upd_same]
  · rw [upd_ne e, upd_ne e]
    by_cases e2 : b = a
    · rw [e2, del_same, ha]
    · rw [del_ne e2, upd_ne e2, upd_ne e, upd_ne e2]
theorem pmk_c1 (T : Cls1 X.K X.mg PE x f C) (hr : Room (k + 2) X.A) (ha : PA X [e] ta) (hg : Gl X x := by rfl) (hdb : (x == ("__debug__" : Str)) = false := by decide) (he : starEach (e :: []) X.env = (false, eval e X.env) :: starEach [] X.env := by rfl)
    (hpl : (backTo pos (starEach [] X.env)).any (·.1) = false := by rfl) (hm : ∀ {σ : L2.St} {H : Hp} {Q1 Q2 : List V → Hp → Prop}, (∀ vs H1, Q1 vs H1 → Q2 vs H1) → ta σ H Q1 → ta σ H Q2) : PMk X (.Call (.Name x p) [e] [] pos) (tMk1 C f ta) := by
  obtain ⟨fI, fd, st, qual, F1, S1, b1, iC, tI⟩ := T.ini
  intro pins s σ H Q I h
  refine pmk_oex (CX := CX0) (k := 1) (sp := spIni1 C f) (ds := []) (dvs := []) T.er.oex iC tI (ok_ini1 F1 S1 T.er.oex T.hno) (hr.mono (by omega)) b1 .nil (fun _ _ _ _ _ _ _ z => z.elim) hg T.g ha hdb he hpl pins s σ H Q I (hm (fun vs H1 q => ?_) h)
  obtain ⟨v, rfl, q⟩ := q
  refine ⟨by show 1 ≤ 1000; decide, fun a na => ⟨a, v, rfl, upd_same, fun dx n ne => ⟨rfl, dx, _, upd_same, by rw [upd_ne ne, upd_same], ?_, ?_⟩⟩⟩
  · rw [upd_ne ne] at n
    exact n
  · rw [del_upd na ne]
    rw [upd_ne ne] at n
    exact q dx n
end
structure BaseX (K : PySem.W.Frag) (PE : Addr) : Prop where
  sub : PySem.W.subIn K (.ref PE) (.type "BaseException") = some true
  hd : PySem.W.hasDictIn K PE = true
  isT : PySem.W.typeIn K (.ref PE) = some (.type "type")
section
variable {K : PySem.W.Frag} {PE : Addr}
theorem exm_at {C D : Addr} (TD : ErC K PE D) (T : ErC K PE C) (n : D ≠ PE) : PySem.W.exmOne K (.ref C) (.ref D) = some (decide (C = D)) := by
  refine PySem.W.exm_ref TD.isx.hs TD.isx.hd TD.isT ?_
  rw [T.sub]
  by_cases e : C = D
  · subst e
    simp
  · have e2 : D ≠ C := fun z => e z.symm
    rw [decide_eq_false e]
    simp [veT, e2, n]
theorem exm_base {C : Addr} (B : BaseX K PE) (T : ErC K PE C) : PySem.W.exmOne K (.ref C) (.ref PE) = some true := by
  refine PySem.W.exm_ref B.sub B.hd B.isT ?_
  rw [T.sub]
  simp [veT]
theorem tCons1 {i j : Nat} {σ : L2.St} {H : Hp} {Q1 Q2 : List V → Hp → Prop} (h : ∀ vs H1, Q1 vs H1 → Q2 vs H1) : tCons (tVar i) tNil σ H Q1 → tCons (tVar i) tNil σ H Q2 := fun ⟨v, e, q⟩ => ⟨v, e, h _ _ q⟩
end
def chkE (K : PySem.W.Frag) (C : Addr) : Bool := xfB K C && (decide (PySem.W.typeIn K (.ref C) = some (.type "type")) && (PySem.W.keepIn K (.ref C) && (decide (PySem.W.findIn K (.ref C) "__class__" = some (some (.builtin "object.__class__"))) && decide (PySem.W.mroIn K C (.type "object") = some true))))
def chkC (K : PySem.W.Frag) (PE C : Addr) : Bool := chkE K C && (decide (PySem.W.findIn K (.ref C) "__setattr__" = some (some (.builtin "object.__setattr__"))) && decide (C ≠ PE))
structure Sh (K : PySem.W.Frag) : Prop where
  hn : PySem.W.specialIn K (.builtin "object.__class__") "__get__" = some (some (.builtin "getset_descriptor.__get__"))
  ht : PySem.W.takesIn K (.builtin "object.__class__") = some true
structure Sh0 (P : Program) (K : PySem.W.Frag) (mg : Str → Option Value) : Prop extends Sh K where
  gs : mg "super" = none
  top : (P.main.scope.names.lookup ("super" : Str)).isSome = false
  third : PySem.W.nsIn K cStatics "thirdparty.any" = some none
structure CkE (K : PySem.W.Frag) (C : Addr) : Prop where
  xf : XfC K C
  isT : PySem.W.typeIn K (.ref C) = some (.type "type")
  kp : PySem.W.keepIn K (.ref C) = true
  ha : PySem.W.findIn K (.ref C) "__class__" = some (some (.builtin "object.__class__"))
  hm : PySem.W.mroIn K C (.type "object") = some true
theorem chkE_ok {K : PySem.W.Frag} {C : Addr} (h : chkE K C = true) : CkE K C := by
  obtain ⟨h1, h⟩ := Bool.and_eq_true_iff.mp h
  obtain ⟨h2, h⟩ := Bool.and_eq_true_iff.mp h
  obtain ⟨h3, h⟩ := Bool.and_eq_true_iff.mp h
  obtain ⟨h4, h5⟩ := Bool.and_eq_true_iff.mp h
  exact ⟨xfB_ok h1, of_decide_eq_true h2, h3, of_decide_eq_true h4, of_decide_eq_true h5⟩
theorem CkE.isx {K : PySem.W.Frag} {C : Addr} (T : CkE K C) (S : Sh K) : ExcC K C := ⟨T.xf.ga, T.xf.gg, T.xf.exC, T.xf.hdC, T.ha, S.hn, S.ht, T.hm⟩
section
variable {P : Program} {w : World} {K : PySem.W.Frag} {mg : Str → Option Value} {h : Heap} {PE C fI : Addr} {x f qual : Str} {nm q : Str} {N : Addr} {bs : List Value} {sn : List Str} {sub : List Value} {ab : Bool} {col : Option Bool} {dd : Option Addr} {k0 k1 k2 k3 k5 : Option Value}
theorem mro_of {bm : List Value} {id : String} (lC : K.lookup C = some (excClassObj nm q C N bs bm true sn sub ab col dd k0 k1 k2 k3 k5 id)) : ∃ cd, PySem.W.clsIn K C = some cd ∧ cd.mro = .ref C :: bm := by
  have e : PySem.W.clsIn K C = some { name := nm, bases := bs, mro := .ref C :: bm, ns := N, qualname := q, hasDict := true, slotNames := sn, subclasses := sub, abstract := ab, collection := col, hasDel := false } := by
    unfold PySem.W.clsIn
    rw [lC]
  exact ⟨_, e, rfl⟩
theorem er_mk (S : Sh K) (lC : K.lookup C = some (excClassObj nm q C N bs (.ref PE :: veT) true sn sub ab col dd k0 k1 k2 k3 k5 "ValueError.__new__")) (ck : chkC K PE C = true) : ErC K PE C ∧ C ≠ PE := by
  obtain ⟨c1, c2⟩ := Bool.and_eq_true_iff.mp ck
  obtain ⟨c2, c3⟩ := Bool.and_eq_true_iff.mp c2
  have T := chkE_ok c1
  exact ⟨⟨⟨⟨nm, q, N, bs, _, sn, sub, ab, col, dd, k0, k1, k2, k3, k5, lC, (show PySem.HandSPX.refsVE veT = true by decide +kernel)⟩, of_decide_eq_true c2, T.xf.exC, T.isT, T.kp⟩, T.isx S, T.xf, mro_of lC, T.isT⟩, of_decide_eq_true c3⟩
theorem say {K : PySem.W.Frag} {h : Heap} (X : K.In h) (T : PySem.W.Frag → Prop) {g : Prop} (a : T K) (k : T K → g) : g := k a
def chk1 (K : PySem.W.Frag) (PE C fI : Addr) (f : Str) (cd : Value) (qual : Str) : Bool := chkC K PE C && (decide (PySem.W.typeIn K (.ref fI) = some (.type "function")) && (PySem.W.codeIn K cd qual && (PySem.W.keepIn K (.ref fI) && decide (PySem.W.findIn K (.ref C) f = some none))))
theorem cls1_mk {st : Stmt} {oc kV dc pm cd ct : Value} {od an : Option Addr} {sl : Array (Option Value)} (X : K.In h) (G : h.Ns mainGlobals mg) (S : Sh K)
    (i1 : Ini1 st f) (hb : ∀ (kV doc pm : Value) (an : Option Addr) (cdv ct : Value) (us : List Value), us.length = 2 → bindArgs (PySem.W.fnOf "__init__" qual (defArgs st) (defBody st) (defScope st) .none kV doc pm an cdv ct) ⟨us, []⟩ = pure ((["self", f] : List Str).zip us))
    (aC : PySem.W.nsIn K mainGlobals x = some (some (.ref C))) (lC : K.lookup C = some (excClassObj nm q C N bs (.ref PE :: veT) true sn sub ab col dd k0 k1 k2 k3 k5 "ValueError.__new__"))
    (iC : PySem.W.findIn K (.ref C) "__init__" = some (some (.ref fI))) (lI : K.lookup fI = some ⟨oc, od, .func (PySem.W.fnOf "__init__" qual (defArgs st) (defBody st) (defScope st) .none kV dc pm an cd ct), sl⟩)
    (ck : chk1 K PE C fI f cd qual = true) : Cls1 K mg PE x f C := by
  obtain ⟨c1, c2⟩ := Bool.and_eq_true_iff.mp ck
  obtain ⟨c2, c3⟩ := Bool.and_eq_true_iff.mp c2
  obtain ⟨c3, c4⟩ := Bool.and_eq_true_iff.mp c3
  obtain ⟨c4, c5⟩ := Bool.and_eq_true_iff.mp c4
  obtain ⟨e, n⟩ := er_mk S lC c1
  have F1 := fun_mk (st := st) lI c3 c4
  exact ⟨e, n, PySem.W.mg_of X G aC, ⟨fI, _, st, qual, F1, i1, F1.binds (ps := ["self", f]) hb, iC, of_decide_eq_true c2⟩, of_decide_eq_true c5⟩
def chk0 (K : PySem.W.Frag) (PE C fI : Addr) (cd : Value) (qual : Str) : Bool := chkC K PE C && (decide (PySem.W.typeIn K (.ref fI) = some (.type "function")) && (PySem.W.codeIn K cd qual && (decide (PySem.W.ks_superIn K C C "__init__" = some (some (.builtin "ValueError.__init__"))) && (decide (PySem.W.subIn K (.ref C) (.type "ValueError") = some true) && decide (PySem.W.mroIn K C (.ref C) = some true)))))
theorem cls0_mk {oc kV dc pm ct : Value} {od an : Option Addr} {cda cc : Addr} {osl : Array (Option Value)} {p p0 p1 p2 p3 p4 : Pos} {ccl : Value} {cdd : Option Addr} {vs : Array Value} {ccs : Array (Option Value)} {file : Str} {tf : Tok} {cl : Value} {cld : Option Addr} {csl : Array (Option Value)}
    (X : K.In h) (G : h.Ns mainGlobals mg) (S : Sh0 P K mg)
    (aC : PySem.W.nsIn K mainGlobals x = some (some (.ref C))) (lC : K.lookup C = some (excClassObj nm q C N bs (.ref PE :: veT) true sn sub ab col dd k0 k1 k2 k3 k5 "ValueError.__new__"))
    (iC : PySem.W.findIn K (.ref C) "__init__" = some (some (.ref fI)))
    (lI : K.lookup fI = some ⟨oc, od, .func (PySem.W.ksFn "__init__" qual (supArgs p) (supBody p0 p1 p2 p3 p4) supScope .none kV dc pm an (.ref cda) ct cc), osl⟩)
    (lD : K.lookup cda = some ⟨ccl, cdd, .fields vs, ccs⟩) (lc : K.lookup cc = some ⟨cl, cld, .cell (some (.ref C)), csl⟩)
    (v2 : vs[2]? = some (.str file tf)) (vf : ((P.main.file : Str) == file) = true) (pl : (p2.endLine == p3.line) = true)
    (ck : chk0 K PE C fI (.ref cda) qual = true) : Cls0 P K mg PE x C := by
  obtain ⟨c1, c2⟩ := Bool.and_eq_true_iff.mp ck
  obtain ⟨c2, c3⟩ := Bool.and_eq_true_iff.mp c2
  obtain ⟨c3, c4⟩ := Bool.and_eq_true_iff.mp c3
  obtain ⟨c4, c5⟩ := Bool.and_eq_true_iff.mp c4
  obtain ⟨c5, c6⟩ := Bool.and_eq_true_iff.mp c5
  obtain ⟨e, n⟩ := er_mk S.toSh lC c1
  exact ⟨e, n, ⟨fI, e.oex, iC, of_decide_eq_true c2, ⟨oc, od, qual, kV, dc, pm, ct, an, cda, cc, osl, p, p0, p1, p2, p3, p4, ccl, cdd, vs, ccs, file, tf, cl, cld, csl, lI, c3, lD, v2, vf, lc, pl⟩, S.gs, S.top, S.third, of_decide_eq_true c4, of_decide_eq_true c5, of_decide_eq_true c6⟩, PySem.W.mg_of X G aC⟩
theorem sh0_mk (X : K.In h) (G : h.Ns mainGlobals mg) (hn : PySem.W.specialIn K (.builtin "object.__class__") "__get__" = some (some (.builtin "getset_descriptor.__get__"))) (ht : PySem.W.takesIn K (.builtin "object.__class__") = some true)
    (gs : PySem.W.nsIn K mainGlobals "super" = some none) (top : (P.main.scope.names.lookup ("super" : Str)).isSome = false) (third : PySem.W.nsIn K cStatics "thirdparty.any" = some none) : Sh0 P K mg := ⟨⟨hn, ht⟩, PySem.W.mg_none_of X G gs, top, third⟩
end
end LawK
set_option maxHeartbeats 4000000
namespace LawK
open PySem PySem.Spec PyProof.Rows L2 Ev

theorem dec_int {a b : Int} : decide (V.int a = V.int b) = decide (a = b) := by
  by_cases h : a = b
  · rw [h, decide_eq_true rfl, decide_eq_true rfl]
  · rw [decide_eq_false h, decide_eq_false (fun e => h (V.int.inj e))]
theorem dec_str {a b : Str} : decide (V.str a = V.str b) = decide (a = b) := by
  by_cases h : a = b
  · rw [h, decide_eq_true rfl, decide_eq_true rfl]
  · rw [decide_eq_false h, decide_eq_false (fun e => h (V.str.inj e))]
/-- what is never reached -/
theorem ps_dead {X : Cx} {st : Stmt} : PS X st (fun _ _ _ => False) := ⟨fun pins s σ H D I q => q.elim⟩
section
variable {P : Program} {w : World} {K : PySem.W.Frag} {mg : Str → Option Value} {base : Heap}
abbrev sPSigns : Stmt := topS 6
theorem scPSigns : FnScope ["thing"] ["thing"] (defScope sPSigns) := ⟨rfl, rfl, rfl, by decide +kernel, rfl, by decide +kernel, by decide +kernel⟩
theorem ok_PSigns {f : Addr} {fd : FuncData} (F : Fun K "is_signs" "is_signs" sPSigns f fd)  (T : Glob mg) : FnOk P w K mg base CX0 1 f fd ["thing"] spSg := by
  refine F.ok scPSigns (fun vs H Q E h => ?_) (fun cdv A outer s H vs Q E hr h => ?_)
  · obtain ⟨x, k, rfl, _⟩ := h
    rfl
  · refine ⟨_, (pss_one (ps_ret (pe_and (pe_callB call_isi (by rfl) T.isinstance PyProof.Rows.boot_isinstance (pa_cons (pv 0) (pa_cons (pe_bltn (v := .ty "str") (by rfl) T.str (by decide +kernel) rfl) pa_nil))) (pe_and (pe_bm0 PySem.F.plainAttrs_str PySem.F.slot_str_isascii PySem.F.type_str_isascii mt_isascii (pv 0)) (pe_one (pe_bm0 PySem.F.plainAttrs_str PySem.F.slot_str_isprintable PySem.F.type_str_isprintable mt_isprintable (pv 0))))))), ?_⟩
    obtain ⟨x, k, rfl, hk, hz, q⟩ := h
    refine ⟨x, rfl, x, .ty "str", .type (Kn.name k), .type "str", kitB k .str, rfl, .ty _, Kd.tyx hk, kit_kn k .str, _, rfl, ?_⟩
    cases hk with
    | str z =>
      refine iteT ⟨.str z, rfl, rfl, z, rfl, rfl, trivial, _, rfl, ite2 (fun e => ⟨.str z, rfl, rfl, z, rfl, rfl, trivial, ?_⟩) (fun e => ?_)⟩
      · have q' : Q (.bl (sgB z)) H := q
        rw [← sgB_of, e, Bool.true_and] at q'
        exact q'
      · have e' : Txt.isascii z = false := by simpa using e
        have q' : Q (.bl (sgB z)) H := q
        rw [← sgB_of, e', Bool.false_and] at q'
        exact q'
    | non => exact iteF q
    | bl b => exact iteF q
    | int i => exact iteF q
    | lst e => exact iteF q
    | tup e => exact iteF q
    | dic e => exact iteF q
abbrev sPNumber : Stmt := topS 5
theorem scPNumber : FnScope ["thing"] ["thing"] (defScope sPNumber) := ⟨rfl, rfl, rfl, by decide +kernel, rfl, by decide +kernel, by decide +kernel⟩
theorem ok_PNumber {f : Addr} {fd : FuncData} (F : Fun K "is_number" "is_number" sPNumber f fd)   (T : Glob mg) : FnOk P w K mg base CX0 1 f fd ["thing"] spNum := by
  refine F.ok scPNumber (fun vs H Q E h => ?_) (fun cdv A outer s H vs Q E hr h => ?_)
  · obtain ⟨x, k, rfl, _⟩ := h
    rfl
  · refine ⟨_, (pss_one (ps_ret (pe_and (pe_callB call_isi (by rfl) T.isinstance PyProof.Rows.boot_isinstance (pa_cons (pv 0) (pa_cons (pe_bltn (v := .ty "int") (by rfl) T.int (by decide +kernel) rfl) pa_nil))) (pe_and (pe_not (pe_callB call_isi (by rfl) T.isinstance PyProof.Rows.boot_isinstance (pa_cons (pv 0) (pa_cons (pe_bltn (v := .ty "bool") (by rfl) T.bool (by decide +kernel) rfl) pa_nil)))) (pe_one (pe_cmpR op_ge (pv 0) pe_int (nomark _))))))), ?_⟩
    obtain ⟨x, k, rfl, hk, q⟩ := h
    refine ⟨x, rfl, x, .ty "int", .type (Kn.name k), .type "int", kitB k .int, rfl, .ty _, Kd.tyx hk, kit_kn k .int, _, rfl, ?_⟩
    cases hk with
    | int i => exact iteT ⟨.int i, rfl, .int i, .ty "bool", .type (Kn.name .int), .type "bool", kitB .int .bl, rfl, .ty _, Kd.tyx (.int i), kit_kn .int .bl, _, rfl, _, rfl, iteT ⟨.int i, rfl, _, _, rfl, rfl, q⟩⟩
    | bl b => exact iteT ⟨.bl b, rfl, .bl b, .ty "bool", .type (Kn.name .bl), .type "bool", kitB .bl .bl, rfl, .ty _, Kd.tyx (.bl b), kit_kn .bl .bl, _, rfl, _, rfl, iteF q⟩
    | str z => exact iteF q
    | non => exact iteF q
    | lst e => exact iteF q
    | tup e => exact iteF q
    | dic e => exact iteF q
abbrev sPWord : Stmt := topS 7
theorem scPWord : FnScope ["thing"] ["thing"] (defScope sPWord) := ⟨rfl, rfl, rfl, by decide +kernel, rfl, by decide +kernel, by decide +kernel⟩
theorem ok_PWord {f : Addr} {fd : FuncData} (F : Fun K "is_word" "is_word" sPWord f fd)  {fPSigns : Addr} {fdPSigns : FuncData} (DPSigns : Dk P w K mg base "is_signs" sPSigns ["thing"] 1 spSg fPSigns fdPSigns) (T : Glob mg) : FnOk P w K mg base CX0 2 f fd ["thing"] spWd := by
  refine F.ok scPWord (fun vs H Q E h => ?_) (fun cdv A outer s H vs Q E hr h => ?_)
  · obtain ⟨x, k, rfl, _⟩ := h
    rfl
  · refine ⟨_, (pss_one (ps_ret (pe_and (pe_call DPSigns.ok (hr.mono (by decide)) (by rfl) DPSigns.g DPSigns.F.kp DPSigns.b .nil pass0 (pa_cons (pv 0) pa_nil)) (pe_one (pe_cmpR op_gt (pe_callB call_lenZ (by rfl) T.len PySem.boot_len (pa_cons (pv 0) pa_nil)) pe_int (nomark _)))))), ?_⟩
    obtain ⟨x, k, rfl, hk, hz, q⟩ := h
    refine ⟨x, rfl, x, k, rfl, hk, hz, _, rfl, ite2 (fun e => ?_) (fun e => ?_)⟩
    · cases hk with
      | str z =>
        refine ⟨.str z, rfl, z, rfl, len5 (hz z rfl), _, _, rfl, rfl, ?_⟩
        have e' : sgB z = true := e
        have q' : Q (.bl (sgB z && decide ((0 : Int) < (z.length : Int)))) H := q
        rw [e', Bool.true_and] at q'
        exact q'
      | non => exact Bool.noConfusion e
      | bl b => exact Bool.noConfusion e
      | int i => exact Bool.noConfusion e
      | lst e2 => exact Bool.noConfusion e
      | tup e2 => exact Bool.noConfusion e
      | dic e2 => exact Bool.noConfusion e
    · have e' : sgV x = false := by simpa using e
      cases hk with
      | str z =>
        have e2 : sgB z = false := e'
        have q' : Q (.bl (sgB z && decide ((0 : Int) < (z.length : Int)))) H := q
        rw [e2, Bool.false_and] at q'
        exact q'
      | non => exact q
      | bl b => exact q
      | int i => exact q
      | lst e2 => exact q
      | tup e2 => exact q
      | dic e2 => exact q
end
end LawK
set_option maxHeartbeats 4000000
/-! zip of any two things whose iterators can be asked: tuples and texts. -/
namespace Ev
open PySem PySem.Spec PyProof.Rows L2
section
variable {prog : Program} {w : World}
/-- how the iterator at it goes on: n items, the i-th told by G, its state at turn i by S, which hangs on the objects of fp alone -/
structure NextBy (prog : Program) (w : World) (it : Addr) (fp : List Addr) (n : Nat) (G : Nat → Value → Prop) (S : Nat → Heap → Prop) : Prop where
  mem : it ∈ fp
  keep : ∀ i h h', S i h → (∀ b ∈ fp, ∀ o, h.get? b = some o → h'.get? b = some o) → S i h'
  nxt : ∀ (A : Around) i (s : Shared) (Q : Value → Shared → Prop) (E : Value → Shared → Prop), i < n → S i s.heap →
    (∀ v h' tk, G i v → S (i + 1) h' → Heap.SameBut it s.heap h' → Q v { s with heap := h', toks := tk }) → wpAny (model prog w) A (Builtin.SmallTypes.nextOf (.ref it)) Q E s
  fin : ∀ (A : Around) i (s : Shared) (Q : Value → Shared → Prop) (E : Value → Shared → Prop), A.handled = none → n ≤ i → S i s.heap → (∀ h' e, Heap.ExtBut it s.heap h' → (∃ o, h'.get? e = some o ∧ o.cls = .type "StopIteration") → E (.ref e) { s with heap := h' }) → wpAny (model prog w) A (Builtin.SmallTypes.nextOf (.ref it)) Q E s
theorem nb_tup {it l : Addr} (ne : l ≠ it) (xs : Array Value) : NextBy prog w it [it, l] xs.size (fun i v => xs[i]? = some v) (fun i h => h.IsTupleIter it l i ∧ h.IsTuple l xs) where
  mem := List.mem_cons_self
  keep := fun i h h' st k => ⟨st.1.at fun o e => k it (by simp) o e, st.2.at fun o e => k l (by simp) o e⟩
  nxt := fun A i s Q E hi st q => RZ.nextOf_tuple_item st.1 st.2 (x := xs[i]) (by simp [hi]) fun h' a b => q _ h' s.toks (by simp [hi]) ⟨a, st.2.extBut b.extBut ne⟩ b
  fin := fun A i s Q E hh hi st q => RZ.nextOf_tuple_end hh st.1 st.2 (Array.getElem?_eq_none hi) q
theorem nb_list {it l : Addr} (ne : l ≠ it) (xs : Array Value) : NextBy prog w it [it, l] xs.size (fun i v => xs[i]? = some v) (fun i h => h.IsListIter it l i ∧ h.IsList l xs) where
  mem := List.mem_cons_self
  keep := fun i h h' st k => ⟨st.1.at fun o e => k it (by simp) o e, st.2.at fun o e => k l (by simp) o e⟩
  nxt := fun A i s Q E hi st q => wpAny_nextOf_list_item st.1 st.2 (x := xs[i]) (by simp [hi]) fun h' a b => q _ h' s.toks (by simp [hi]) ⟨a, st.2.extBut b.extBut ne⟩ b
  fin := fun A i s Q E hh hi st q => wpAny_nextOf_list_end hh st.1 st.2 (Array.getElem?_eq_none hi) q
theorem next_ascii {A : Around} {E : Value → Shared → Prop} {s : Shared} {it : Addr} {x : Str} {t : Tok} {i c : Nat} {Q : Value → Shared → Prop} (st : s.heap.IsStrIter it "str_ascii_iterator" x t i) (hx : x.cps[i]? = some c)
    (q : ∀ h', h'.IsStrIter it "str_ascii_iterator" x t (i + 1) → Heap.SameBut it s.heap h' → Q (.str ⟨#[c]⟩ s.toks) { s with heap := h', toks := s.toks + 1 }) : wpAny (model prog w) A (Builtin.SmallTypes.nextOf (.ref it)) Q E s := by
  obtain ⟨o, e1, e2, e3⟩ := id st
  unfold Builtin.SmallTypes.nextOf; refine wpAny_bind (wpAny_callSpecial?_slot (name := "__next__") st.typeIs F.slot_str_ascii_iterator_next (wpAny_call_entry F.slot_str_ascii_iterator_next st.typeIs F.entry_str_ascii_iterator_next ?_ (F.args_str_ascii_iterator_next_1 _)))
  show wpAny _ _ (field (.ref it) 0 >>= fun _ => _) _ _ s; apply wpAny_bind; refine wpAny_field e1 e3 (x := .str x t) rfl ?_
  show wpAny _ _ (field (.ref it) 1 >>= fun _ => _) _ _ s; apply wpAny_bind; refine wpAny_field e1 e3 (x := .int i 0) rfl ?_
  simp only [Int.toNat_natCast]; rw [hx]; apply wpAny_bind; refine wpAny_setField e1 e3 (by simp) ?_
  apply wpAny_bind; refine wpAny_mkStr (wpAny_pure ⟨_, rfl, wpAny_pure (q _ ⟨_, Heap.get?_update_self _ e1 (Obj.isFreed_of_fields (Obj.data_mapFields e3 _)), (Obj.cls_mapFields ..).trans e2, ?_⟩ (Heap.SameBut.update ..))⟩) (by show 1 ≤ sizeLine; decide)
  rw [Obj.data_mapFields e3] <;> simp [rawInt]
theorem last_ascii {A : Around} {E : Value → Shared → Prop} {s : Shared} {it : Addr} {x : Str} {t : Tok} {i : Nat} {Q : Value → Shared → Prop} (hh : A.handled = none) (st : s.heap.IsStrIter it "str_ascii_iterator" x t i) (hx : x.cps[i]? = none)
    (q : ∀ h' e, Heap.ExtBut it s.heap h' → (∃ o, h'.get? e = some o ∧ o.cls = .type "StopIteration") → E (.ref e) { s with heap := h' }) : wpAny (model prog w) A (Builtin.SmallTypes.nextOf (.ref it)) Q E s := by
  obtain ⟨o, e1, e2, e3⟩ := id st
  unfold Builtin.SmallTypes.nextOf; refine wpAny_bind (wpAny_callSpecial?_slot (name := "__next__") st.typeIs F.slot_str_ascii_iterator_next (wpAny_call_entry F.slot_str_ascii_iterator_next st.typeIs F.entry_str_ascii_iterator_next ?_ (F.args_str_ascii_iterator_next_1 _)))
  show wpAny _ _ (field (.ref it) 0 >>= fun _ => _) _ _ s; apply wpAny_bind; refine wpAny_field e1 e3 (x := .str x t) rfl ?_
  show wpAny _ _ (field (.ref it) 1 >>= fun _ => _) _ _ s; apply wpAny_bind; refine wpAny_field e1 e3 (x := .int i 0) rfl ?_
  simp only [Int.toNat_natCast]; rw [hx]; apply wpAny_bind; apply wpAny_rule; apply wpAny_bind; refine wpAny_setField e1 e3 (by simp) ?_
  apply wpAny_bind; apply wpAny_letGo; show wpAny _ _ (newExc (.type "StopIteration") [] >>= fun _ => _) _ _ _; apply wpAny_bind; simp only [newExc, newTuple]
  apply wpAny_bind; refine wpAny_newObj_type ?_ (by size_fits); refine wpAny_bind (m := firstArgMember _ _) (wpAny_of_eq (a := .none) (by first | rfl | (simp only [firstArgMember]; rfl)) ?_)
  refine wpAny_newObj_type ?_ (by size_fits); simp only [raiseNew]; apply wpAny_bind; apply wpAny_handled; first | rw [show A.in1.handled = none from hh] | rw [hh]
  refine wpAny_bind (wpAny_pure (wpAny_throw ?_)); exact q _ _ (((Heap.SameBut.update ..).extBut.push _).push _) ⟨_, Heap.get?_push_size _ rfl, rfl⟩
theorem nb_ascii {it : Addr} (x : Str) (t : Tok) : NextBy prog w it [it] x.cps.size (SignAt x) (fun i h => h.IsStrIter it "str_ascii_iterator" x t i) where
  mem := List.mem_cons_self
  keep := fun i h h' st k => let ⟨o, e, r⟩ := st; ⟨o, k it (by simp) o e, r⟩
  nxt := fun A i s Q E hi st q => next_ascii st (c := x.cps[i]) (by simp [hi]) fun h' a b => q _ h' _ ⟨_, _, by simp [hi], rfl⟩ a b
  fin := fun A i s Q E hh hi st q => last_ascii hh st (Array.getElem?_eq_none hi) q
theorem next_wide {A : Around} {E : Value → Shared → Prop} {s : Shared} {it : Addr} {x : Str} {t : Tok} {i c : Nat} {Q : Value → Shared → Prop} (st : s.heap.IsStrIter it "str_iterator" x t i) (hx : x.cps[i]? = some c)
    (q : ∀ h', h'.IsStrIter it "str_iterator" x t (i + 1) → Heap.SameBut it s.heap h' → Q (.str ⟨#[c]⟩ s.toks) { s with heap := h', toks := s.toks + 1 }) : wpAny (model prog w) A (Builtin.SmallTypes.nextOf (.ref it)) Q E s := by
  obtain ⟨o, e1, e2, e3⟩ := id st
  unfold Builtin.SmallTypes.nextOf; refine wpAny_bind (wpAny_callSpecial?_slot (name := "__next__") st.typeIs F.slot_str_iterator_next (wpAny_call_entry F.slot_str_iterator_next st.typeIs F.entry_str_iterator_next ?_ (F.args_str_iterator_next_1 _)))
  show wpAny _ _ (field (.ref it) 0 >>= fun _ => _) _ _ s; apply wpAny_bind; refine wpAny_field e1 e3 (x := .str x t) rfl ?_
  show wpAny _ _ (field (.ref it) 1 >>= fun _ => _) _ _ s; apply wpAny_bind; refine wpAny_field e1 e3 (x := .int i 0) rfl ?_
  simp only [Int.toNat_natCast]; rw [hx]; apply wpAny_bind; refine wpAny_setField e1 e3 (by simp) ?_
  apply wpAny_bind; refine wpAny_mkStr (wpAny_pure ⟨_, rfl, wpAny_pure (q _ ⟨_, Heap.get?_update_self _ e1 (Obj.isFreed_of_fields (Obj.data_mapFields e3 _)), (Obj.cls_mapFields ..).trans e2, ?_⟩ (Heap.SameBut.update ..))⟩) (by show 1 ≤ sizeLine; decide)
  rw [Obj.data_mapFields e3] <;> simp [rawInt]
theorem last_wide {A : Around} {E : Value → Shared → Prop} {s : Shared} {it : Addr} {x : Str} {t : Tok} {i : Nat} {Q : Value → Shared → Prop} (hh : A.handled = none) (st : s.heap.IsStrIter it "str_iterator" x t i) (hx : x.cps[i]? = none)
    (q : ∀ h' e, Heap.ExtBut it s.heap h' → (∃ o, h'.get? e = some o ∧ o.cls = .type "StopIteration") → E (.ref e) { s with heap := h' }) : wpAny (model prog w) A (Builtin.SmallTypes.nextOf (.ref it)) Q E s := by
  obtain ⟨o, e1, e2, e3⟩ := id st
  unfold Builtin.SmallTypes.nextOf; refine wpAny_bind (wpAny_callSpecial?_slot (name := "__next__") st.typeIs F.slot_str_iterator_next (wpAny_call_entry F.slot_str_iterator_next st.typeIs F.entry_str_iterator_next ?_ (F.args_str_iterator_next_1 _)))
  show wpAny _ _ (field (.ref it) 0 >>= fun _ => _) _ _ s; apply wpAny_bind; refine wpAny_field e1 e3 (x := .str x t) rfl ?_
  show wpAny _ _ (field (.ref it) 1 >>= fun _ => _) _ _ s; apply wpAny_bind; refine wpAny_field e1 e3 (x := .int i 0) rfl ?_
  simp only [Int.toNat_natCast]; rw [hx]; apply wpAny_bind; apply wpAny_rule; apply wpAny_bind; refine wpAny_setField e1 e3 (by simp) ?_
  apply wpAny_bind; apply wpAny_letGo; show wpAny _ _ (newExc (.type "StopIteration") [] >>= fun _ => _) _ _ _; apply wpAny_bind; simp only [newExc, newTuple]
  apply wpAny_bind; refine wpAny_newObj_type ?_ (by size_fits); refine wpAny_bind (m := firstArgMember _ _) (wpAny_of_eq (a := .none) (by first | rfl | (simp only [firstArgMember]; rfl)) ?_)
  refine wpAny_newObj_type ?_ (by size_fits); simp only [raiseNew]; apply wpAny_bind; apply wpAny_handled; first | rw [show A.in1.handled = none from hh] | rw [hh]
  refine wpAny_bind (wpAny_pure (wpAny_throw ?_)); exact q _ _ (((Heap.SameBut.update ..).extBut.push _).push _) ⟨_, Heap.get?_push_size _ rfl, rfl⟩
theorem nb_wide {it : Addr} (x : Str) (t : Tok) : NextBy prog w it [it] x.cps.size (SignAt x) (fun i h => h.IsStrIter it "str_iterator" x t i) where
  mem := List.mem_cons_self
  keep := fun i h h' st k => let ⟨o, e, r⟩ := st; ⟨o, k it (by simp) o e, r⟩
  nxt := fun A i s Q E hi st q => next_wide st (c := x.cps[i]) (by simp [hi]) fun h' a b => q _ h' _ ⟨_, _, by simp [hi], rfl⟩ a b
  fin := fun A i s Q E hh hi st q => last_wide hh st (Array.getElem?_eq_none hi) q
structure ZA (z TI TO i1 i2 : Addr) (f1 f2 : List Addr) : Prop where
  a : TI ≠ z
  b : TO ≠ z
  c : TI ≠ TO
  z1 : z ∉ f1
  z2 : z ∉ f2
  t1 : TI ∉ f1
  t2 : TI ∉ f2
  o1 : TO ∉ f1
  o2 : TO ∉ f2
  x1 : i1 ∉ f2
  x2 : i2 ∉ f1
variable {A : Around} {E : Value → Shared → Prop} {s : Shared} {z TI TO i1 i2 : Addr} {f1 f2 : List Addr} {n1 n2 : Nat} {G1 G2 : Nat → Value → Prop} {S1 S2 : Nat → Heap → Prop}
theorem NextBy.off {it : Addr} {fp : List Addr} {n : Nat} {G : Nat → Value → Prop} {S : Nat → Heap → Prop} (N : NextBy prog w it fp n G S) {i : Nat} {h h' : Heap} {q : Addr} (st : S i h) (k : Heap.SameBut q h h') (n : q ∉ fp) : S i h' :=
  N.keep i h h' st fun b hb o e => k.extBut b o (fun z => n (by rw [← z]; exact hb)) e
theorem zs_item (N1 : NextBy prog w i1 f1 n1 G1 S1) (N2 : NextBy prog w i2 f2 n2 G2 S2) (D : ZA z TI TO i1 i2 f1 f2) {a b : Value} {k : Nat} {Q : Value → Shared → Prop}
    (hz : IsZip s.heap z TI TO .none) (hI : IsPair s.heap TI (.ref i1) (.ref i2)) (hO : IsPair s.heap TO a b) (h1 : S1 k s.heap) (h2 : S2 k s.heap) (l1 : k < n1) (l2 : k < n2)
    (q : ∀ h' tk x y, G1 k x → G2 k y → IsZip h' z TI TO (rawInt s.heap.objs.size) → IsPair h' TO x y → S1 (k + 1) h' → S2 (k + 1) h' → IsPair h' s.heap.objs.size x y → h'.objs.size = s.heap.objs.size + 1 → (∀ c o, c ≠ z → c ≠ TO → c ≠ i1 → c ≠ i2 → s.heap.get? c = some o → h'.get? c = some o) → Q (.ref s.heap.objs.size) { s with heap := h', toks := tk }) : wpAny (model prog w) A (Builtin.«zip.__next__» ⟨[.ref z], []⟩) (fun fin s' => ∃ v, fin = .done (.ret v) ∧ Q v s') E s := by
  have i1z : i1 ≠ z := fun e => D.z1 (by rw [← e]; exact N1.mem)
  have i2z : i2 ≠ z := fun e => D.z2 (by rw [← e]; exact N2.mem)
  have Oi1 : TO ≠ i1 := fun e => D.o1 (by rw [e]; exact N1.mem)
  have Oi2 : TO ≠ i2 := fun e => D.o2 (by rw [e]; exact N2.mem)
  have i12 : i1 ≠ i2 := fun e => D.x1 (by rw [e]; exact N2.mem)
  show wpAny _ _ (field (.ref z) 2 >>= fun _ => _) _ _ _; apply wpAny_bind; refine wpAny_field hz rfl (x := .bool false) rfl ?_
  show wpAny _ _ (field (.ref z) 3 >>= fun _ => _) _ _ _; apply wpAny_bind; refine wpAny_field hz rfl (x := .ref TI) rfl ?_
  apply wpAny_bind; refine wpAny_seqItems hI rfl ?_; show wpAny _ _ (Builtin.SmallTypes.ownedTupleIsFree (.ref z) >>= fun _ => _) _ _ _
  apply wpAny_bind; unfold Builtin.SmallTypes.ownedTupleIsFree; apply wpAny_bind; refine wpAny_field hz rfl (x := .none) rfl (wpAny_pure ?_); simp only [if_true]
  apply wpAny_bind; apply wpAny_rule; apply wpAny_bind; refine wpAny_field hz rfl (x := .ref TO) rfl ?_
  apply wpAny_bind; refine wpAny_setField_rec hz (by simp) fun ha za sa => ?_
  have za : IsZip ha z TI TO .ellipsis := za
  apply wpAny_bind; simp only [List.zipIdx_cons, List.zipIdx_nil, List.forIn_cons, List.forIn_nil]
  apply wpAny_bind; apply wpAny_bind; apply wpAny_onRaise; show wpAny _ _ (Builtin.SmallTypes.nextOf (.ref i1) >>= fun _ => _) _ _ _
  apply wpAny_bind; refine N1.nxt _ k _ _ _ l1 (N1.off h1 sa D.z1) fun x hb tb gx st1 sb => wpAny_pure ?_
  have Ob : IsPair hb TO a b := sb.extBut _ _ Oi1 (sa.extBut _ _ D.b hO)
  apply wpAny_bind; refine wpAny_seqItems Ob rfl ?_; apply wpAny_bind; refine wpAny_updateSeq_pair Ob fun hc Oc sc => ?_
  have Oc : IsPair hc TO x b := Oc
  apply wpAny_bind; refine wpAny_letGo (wpAny_pure ?_); apply wpAny_bind; apply wpAny_bind; apply wpAny_onRaise; show wpAny _ _ (Builtin.SmallTypes.nextOf (.ref i2) >>= fun _ => _) _ _ _
  apply wpAny_bind; refine N2.nxt _ k _ _ _ l2 (N2.off (N2.off (N2.off h2 sa D.z2) sb D.x1) sc D.o2) fun y hd td gy st2 sd => wpAny_pure ?_
  have Od : IsPair hd TO x b := sd.extBut _ _ Oi2 Oc
  apply wpAny_bind; refine wpAny_seqItems Od rfl ?_; apply wpAny_bind; refine wpAny_updateSeq_pair Od fun he Oe se => ?_
  have Oe : IsPair he TO x y := Oe
  apply wpAny_bind; refine wpAny_letGo (wpAny_pure (wpAny_pure ?_)); apply wpAny_bind; refine wpAny_seqItems Oe rfl ?_; apply wpAny_bind; refine wpAny_newTuple ?_
  have sz : he.objs.size = s.heap.objs.size := by rw [se.1, sd.1, sc.1, sb.1, sa.1]
  have ze : IsZip he z TI TO .ellipsis := se.extBut _ _ D.b.symm (sd.extBut _ _ i2z.symm (sc.extBut _ _ D.b.symm (sb.extBut _ _ i1z.symm za)))
  have kp : ∀ c o, c ≠ z → c ≠ TO → c ≠ i1 → c ≠ i2 → s.heap.get? c = some o → he.get? c = some o := fun c o c1 c2 c3 c4 e => se.extBut _ _ c2 (sd.extBut _ _ c4 (sc.extBut _ _ c2 (sb.extBut _ _ c3 (sa.extBut _ _ c1 e))))
  have t1 := N1.off (N1.off (N1.off st1 sc D.o1) sd D.x2) se D.o1
  have t2 := N2.off st2 se D.o2
  have zl : z < he.objs.size := Heap.lt_size ze
  show wpAny _ _ (Builtin.SmallTypes.ownedTupleHandOut (.ref z) (.ref he.objs.size) >>= fun _ => _) _ _ _; apply wpAny_bind; unfold Builtin.SmallTypes.ownedTupleHandOut
  have zf : IsZip (he.push { cls := .type "tuple", data := .seq #[x, y] }) z TI TO .ellipsis := Heap.get?_push_of_some _ ze
  apply wpAny_bind; refine wpAny_setField_rec zf (by simp) fun hg zg sg => ?_
  have zg : IsZip hg z TI TO (rawInt he.objs.size) := zg
  refine wpAny_setField_rec zg (by simp) fun hh zh sh => ?_
  have zh : IsZip hh z TI TO (rawInt he.objs.size) := zh
  have up : ∀ c o, c ≠ z → he.get? c = some o → hh.get? c = some o := fun c o c1 e => sh.extBut _ _ c1 (sg.extBut _ _ c1 (Heap.get?_push_of_some _ e))
  have Th : IsPair hh he.objs.size x y := sh.extBut _ _ (Nat.ne_of_gt zl) (sg.extBut _ _ (Nat.ne_of_gt zl) (Heap.get?_push_size _ rfl))
  have zs : hh.objs.size = he.objs.size + 1 := by rw [sh.1, sg.1, Heap.size_push]
  rw [sz] at zh Th zs
  refine wpAny_pure ⟨_, rfl, ?_⟩
  show Q (.ref he.objs.size) _; rw [sz]
  exact q hh td x y gx gy zh (up _ _ D.b Oe) (N1.keep _ _ _ t1 fun c hc o e => up c o (fun w => D.z1 (by rw [← w]; exact hc)) e) (N2.keep _ _ _ t2 fun c hc o e => up c o (fun w => D.z2 (by rw [← w]; exact hc)) e) Th zs fun c o c1 c2 c3 c4 e => up c o c1 (kp c o c1 c2 c3 c4 e)
theorem zs_end (hh : A.handled = none) (N1 : NextBy prog w i1 f1 n1 G1 S1) (N2 : NextBy prog w i2 f2 n2 G2 S2) (D : ZA z TI TO i1 i2 f1 f2) {a b : Value} {k : Nat} {Q : PySem.Fin → Shared → Prop}
    (hz : IsZip s.heap z TI TO .none) (hI : IsPair s.heap TI (.ref i1) (.ref i2)) (hO : IsPair s.heap TO a b) (h1 : S1 k s.heap) (h2 : S2 k s.heap) (l : n1 ≤ k ∨ k < n1 ∧ n2 ≤ k)
    (q : ∀ h' tk e, (∀ c o, c ≠ z → c ≠ TO → c ≠ i1 → c ≠ i2 → s.heap.get? c = some o → h'.get? c = some o) → (∃ o, h'.get? e = some o ∧ o.cls = .type "StopIteration") → E (.ref e) { s with heap := h', toks := tk }) : wpAny (model prog w) A (Builtin.«zip.__next__» ⟨[.ref z], []⟩) Q E s := by
  have i1z : i1 ≠ z := fun e => D.z1 (by rw [← e]; exact N1.mem)
  have i2z : i2 ≠ z := fun e => D.z2 (by rw [← e]; exact N2.mem)
  have Oi1 : TO ≠ i1 := fun e => D.o1 (by rw [e]; exact N1.mem)
  show wpAny _ _ (field (.ref z) 2 >>= fun _ => _) _ _ _; apply wpAny_bind; refine wpAny_field hz rfl (x := .bool false) rfl ?_
  show wpAny _ _ (field (.ref z) 3 >>= fun _ => _) _ _ _; apply wpAny_bind; refine wpAny_field hz rfl (x := .ref TI) rfl ?_
  apply wpAny_bind; refine wpAny_seqItems hI rfl ?_; show wpAny _ _ (Builtin.SmallTypes.ownedTupleIsFree (.ref z) >>= fun _ => _) _ _ _
  apply wpAny_bind; unfold Builtin.SmallTypes.ownedTupleIsFree; apply wpAny_bind; refine wpAny_field hz rfl (x := .none) rfl (wpAny_pure ?_); simp only [if_true]
  apply wpAny_bind; apply wpAny_rule; apply wpAny_bind; refine wpAny_field hz rfl (x := .ref TO) rfl ?_
  apply wpAny_bind; refine wpAny_setField_rec hz (by simp) fun ha za sa => ?_
  have za : IsZip ha z TI TO .ellipsis := za
  apply wpAny_bind; simp only [List.zipIdx_cons, List.zipIdx_nil, List.forIn_cons, List.forIn_nil]
  apply wpAny_bind; apply wpAny_bind; apply wpAny_onRaise; show wpAny _ _ (Builtin.SmallTypes.nextOf (.ref i1) >>= fun _ => _) _ _ _
  have a1 := N1.off h1 sa D.z1
  rcases l with l | ⟨l1, l2⟩
  · apply wpAny_bind; refine N1.fin _ k _ _ _ hh l a1 fun hb e sb ⟨oe, ge, ce⟩ => ?_
    have zb : IsZip hb z TI TO .ellipsis := sb _ _ i1z.symm za
    have ez : e ≠ z := fun x => by subst x; rw [zb] at ge; cases ge; simp at ce
    refine wpAny_setField_rec zb (by simp) fun hc _ sc => q hc _ e (fun c o c1 _ c3 _ x => sc.extBut _ _ c1 (sb _ _ c3 (sa.extBut _ _ c1 x))) ⟨oe, sc.extBut _ _ ez ge, ce⟩
  · apply wpAny_bind; refine N1.nxt _ k _ _ _ l1 a1 fun x hb tb gx st1 sb => wpAny_pure ?_
    have Ob : IsPair hb TO a b := sb.extBut _ _ Oi1 (sa.extBut _ _ D.b hO)
    apply wpAny_bind; refine wpAny_seqItems Ob rfl ?_; apply wpAny_bind; refine wpAny_updateSeq_pair Ob fun hc Oc sc => ?_
    apply wpAny_bind; refine wpAny_letGo (wpAny_pure ?_); apply wpAny_bind; apply wpAny_bind; apply wpAny_onRaise; show wpAny _ _ (Builtin.SmallTypes.nextOf (.ref i2) >>= fun _ => _) _ _ _
    have a2 := N2.off (N2.off (N2.off h2 sa D.z2) sb D.x1) sc D.o2
    apply wpAny_bind; refine N2.fin _ k _ _ _ hh l2 a2 fun hd e sd ⟨oe, ge, ce⟩ => ?_
    have zd : IsZip hd z TI TO .ellipsis := sd _ _ i2z.symm (sc.extBut _ _ D.b.symm (sb.extBut _ _ i1z.symm za))
    have ez : e ≠ z := fun x => by subst x; rw [zd] at ge; cases ge; simp at ce
    refine wpAny_setField_rec zd (by simp) fun hf _ sf => q hf _ e (fun c o c1 c2 c3 c4 x => sf.extBut _ _ c1 (sd _ _ c4 (sc.extBut _ _ c2 (sb.extBut _ _ c3 (sa.extBut _ _ c1 x))))) ⟨oe, sf.extBut _ _ ez ge, ce⟩
theorem zs_next (N1 : NextBy prog w i1 f1 n1 G1 S1) (N2 : NextBy prog w i2 f2 n2 G2 S2) (D : ZA z TI TO i1 i2 f1 f2) {a b : Value} {k : Nat} {Q : Option Value → Shared → Prop}
    (hz : IsZip s.heap z TI TO .none) (hI : IsPair s.heap TI (.ref i1) (.ref i2)) (hO : IsPair s.heap TO a b) (h1 : S1 k s.heap) (h2 : S2 k s.heap) (l1 : k < n1) (l2 : k < n2)
    (q : ∀ h' tk x y, G1 k x → G2 k y → IsZip h' z TI TO (rawInt s.heap.objs.size) → IsPair h' TO x y → S1 (k + 1) h' → S2 (k + 1) h' → IsPair h' s.heap.objs.size x y → h'.objs.size = s.heap.objs.size + 1 →
      (∀ c o, c ≠ z → c ≠ TO → c ≠ i1 → c ≠ i2 → s.heap.get? c = some o → h'.get? c = some o) → Q (some (.ref s.heap.objs.size)) { s with heap := h', toks := tk }) : wpAny (model prog w) A (pyNext (.ref z)) Q E s := by
  have ty : s.TypeIs (.ref z) "zip" := ⟨_, hz, rfl⟩
  unfold pyNext; apply wpAny_bind; apply wpAny_attempt
  exact wpAny_callSpecial?_slot (name := "__next__") ty F.slot_zip_next (wpAny_call_entry F.slot_zip_next ty F.entry_zip_next (zs_item N1 N2 D hz hI hO h1 h2 l1 l2 fun h' tk x y g1 g2 b1 b2 b3 b4 b5 b6 b7 => wpAny_pure (q h' tk x y g1 g2 b1 b2 b3 b4 b5 b6 b7)) (F.args_zip_next_1 _))
theorem zs_done (hh : A.handled = none) (N1 : NextBy prog w i1 f1 n1 G1 S1) (N2 : NextBy prog w i2 f2 n2 G2 S2) (D : ZA z TI TO i1 i2 f1 f2) {a b : Value} {k : Nat} {Q : Option Value → Shared → Prop}
    (hz : IsZip s.heap z TI TO .none) (hI : IsPair s.heap TI (.ref i1) (.ref i2)) (hO : IsPair s.heap TO a b) (h1 : S1 k s.heap) (h2 : S2 k s.heap) (l : n1 ≤ k ∨ k < n1 ∧ n2 ≤ k)
    (q : ∀ h' tk, (∀ c o, c ≠ z → c ≠ TO → c ≠ i1 → c ≠ i2 → s.heap.get? c = some o → h'.get? c = some o) → Q none { s with heap := h', toks := tk }) : wpAny (model prog w) A (pyNext (.ref z)) Q E s := by
  have ty : s.TypeIs (.ref z) "zip" := ⟨_, hz, rfl⟩
  unfold pyNext; apply wpAny_bind; apply wpAny_attempt
  refine wpAny_callSpecial?_slot (name := "__next__") ty F.slot_zip_next (wpAny_call_entry F.slot_zip_next ty F.entry_zip_next (zs_end (A := A.in1) hh N1 N2 D hz hI hO h1 h2 l fun h' tk e hk he => ?_) (F.args_zip_next_1 _))
  obtain ⟨o, ge, ce⟩ := he
  apply wpAny_bind; refine wpAny_isInstance (T := "StopIteration") (b := true) ⟨o, ge, ce⟩ isSubtype_stop (wpAny_pure (q _ tk hk))
end
/-- iter(v) makes the object o, while Pre stands -/
structure IterBy (v : Value) (o : Obj) (Pre : Heap → Prop) : Prop where
  keep : ∀ {h : Heap} {o' : Obj}, Pre h → Pre (h.push o')
  it : ∀ {prog : Program} {w : World} {A : Around} {E : Value → Shared → Prop} {s : Shared} {Q : Value → Shared → Prop}, Pre s.heap → Q (.ref s.heap.objs.size) { s with heap := s.heap.push o } → wpAny (model prog w) A (pyIter v) Q E s
theorem ib_tup (l : Addr) (xs : Array Value) : IterBy (.ref l) { cls := .type "tuple_iterator", data := .fields #[.ref l, .int 0 0] } (fun h => h.IsTuple l xs) := ⟨fun h => h.push _, fun h q => wpAny_pyIter_tuple h q⟩
theorem ib_list (l : Addr) (xs : Array Value) : IterBy (.ref l) { cls := .type "list_iterator", data := .fields #[.ref l, .int 0 0] } (fun h => h.IsList l xs) := ⟨fun h => h.push _, fun h q => wpAny_pyIter_list h q⟩
theorem ib_ascii (x : Str) (t : Tok) (ha : x.cps.all (· < 128) = true) : IterBy (.str x t) { cls := .type "str_ascii_iterator", data := .fields #[.str x t, .int 0 0] } (fun _ => True) := ⟨fun h => h, fun h q => wpAny_pyIter_ascii ha q⟩
theorem ib_wide (x : Str) (t : Tok) (ha : x.cps.all (· < 128) = false) : IterBy (.str x t) { cls := .type "str_iterator", data := .fields #[.str x t, .int 0 0] } (fun _ => True) := ⟨fun h => h, fun h q => wpAny_pyIter_wide ha q⟩
abbrev zh1 (h : Heap) (o1 : Obj) : Heap := h.push o1
abbrev zh2 (h : Heap) (o1 o2 : Obj) : Heap := (zh1 h o1).push o2
abbrev zh3 (h : Heap) (o1 o2 : Obj) : Heap := (zh2 h o1 o2).push { cls := .type "tuple", data := .seq #[.ref h.objs.size, .ref (zh1 h o1).objs.size] }
abbrev zh4 (h : Heap) (o1 o2 : Obj) : Heap := (zh3 h o1 o2).push { cls := .type "tuple", data := .seq #[.none, .none] }
abbrev zh5 (h : Heap) (o1 o2 : Obj) : Heap := (zh4 h o1 o2).push { cls := .type "zip", data := .fields #[.none, .bool false, .bool false, .ref (zh2 h o1 o2).objs.size, .ref (zh3 h o1 o2).objs.size] }
theorem zs_new (v1 v2 : Value) (o1 o2 : Obj) (P1 P2 : Heap → Prop) (B1 : IterBy v1 o1 P1) (B2 : IterBy v2 o2 P2) :
    Meets (Builtin.«zip.__new__» ⟨[.type "zip", v1, v2], []⟩) (fun _ R s => P1 s.heap ∧ P2 s.heap ∧ R (.ok (.ret (.ref (zh4 s.heap o1 o2).objs.size))) { s with heap := zh5 s.heap o1 o2 }) :=
  .of_wp fun prog w A R s h => by
    obtain ⟨hp, g, d, tk, os⟩ := s; obtain ⟨p1, p2, h⟩ := h
    have hsub := sub_zip
    have q1 : P1 (Shared.heap ⟨hp, g, d, tk, os⟩) := p1
    have q2 : P2 (Shared.heap ⟨hp.push o1, g, d, tk, os⟩) := B2.keep p2
    wp_walk using B1.it q1, B2.it q2
    exact ⟨_, rfl, h⟩
end Ev
set_option maxHeartbeats 4000000
/-! for .. in zip(x, y), each a tuple or a text -/
namespace Ev
open PySem PySem.Spec PyProof.Rows L2
inductive Src
  | tup (a : Addr)
  | lst (a : Addr)
  | txt (z : Str)
def Src.v : Src → V
  | .tup a => .ref a
  | .lst a => .ref a
  | .txt z => .str z
def Src.items (K : PySem.W.Frag) (H : Hp) : Src → List V → Prop
  | .tup a, xs => SqT K H a xs
  | .lst a, xs => SqL K H a xs
  | .txt z, xs => xs = z.cps.toList.map fun c => V.str ⟨#[c]⟩
/-- a source whose iterator has been made -/
inductive Sk
  | tup (a : Addr)
  | lst (a : Addr)
  | txt (z : Str) (t : Tok) (wd : Bool)
def Sk.src : Sk → Src
  | .tup a => .tup a
  | .lst a => .lst a
  | .txt z _ _ => .txt z
def Sk.st (it : Addr) : Sk → Nat → Heap → Prop
  | .tup a => fun i h => h.IsTupleIter it a i
  | .lst a => fun i h => h.IsListIter it a i
  | .txt z t wd => fun i h => h.IsStrIter it (if wd = true then "str_iterator" else "str_ascii_iterator") z t i
def Sk.at : Sk → List Addr
  | .tup a => [a]
  | .lst a => [a]
  | .txt _ _ _ => []
theorem Sk.st_at {it : Addr} {k : Sk} {i : Nat} {h h' : Heap} (st : k.st it i h) (e : ∀ o, h.get? it = some o → h'.get? it = some o) : k.st it i h' := by
  cases k with
  | tup a => exact Heap.IsTupleIter.at st e
  | lst a => exact Heap.IsListIter.at st e
  | txt z t wd =>
    obtain ⟨o, g, r⟩ := st
    exact ⟨o, e o g, r⟩
theorem Sk.st_obj {it : Addr} {k : Sk} {i : Nat} {h : Heap} (st : k.st it i h) : ∃ o, h.get? it = some o ∧ ∀ v, o.data ≠ .cell v := by
  cases k with
  | tup a =>
    obtain ⟨o, e, _, d⟩ := st
    exact ⟨o, e, fun v q => by rw [d] at q; cases q⟩
  | lst a =>
    obtain ⟨o, e, _, d⟩ := st
    exact ⟨o, e, fun v q => by rw [d] at q; cases q⟩
  | txt z t wd =>
    obtain ⟨o, e, _, d⟩ := st
    exact ⟨o, e, fun v q => by rw [d] at q; cases q⟩
theorem items_inj {X : Cx} {pins : List (Addr × Obj)} {σ : L2.St} {H : Hp} {s : Shared} (I : L2.Inv X pins σ H s) {k : Src} {xs ys : List V} (h : k.items X.K H xs) (g : k.items X.K H ys) : xs = ys := by
  cases k with
  | tup a => exact I.tuple_inj h g
  | lst a => exact I.list_inj h g
  | txt z => exact Eq.trans h (Eq.symm g)
theorem sk_next {X : Cx} {pins : List (Addr × Obj)} {σ : L2.St} {H : Hp} {s : Shared} (I : L2.Inv X pins σ H s) (k : Sk) (it : Addr) {xs : List V} (hx : k.src.items X.K H xs) (ne : ∀ a ∈ k.at, a ≠ it) :
    ∃ (fp : List Addr) (n : Nat) (G : Nat → Value → Prop) (S : Nat → Heap → Prop), NextBy X.prog X.w it fp n G S ∧ (∀ i, k.st it i s.heap → S i s.heap) ∧ (∀ i h, S i h → k.st it i h) ∧ (∀ b ∈ fp, b = it ∨ b ∈ k.at) ∧ n = xs.length ∧
      ∀ i v x, G i v → xs[i]? = some x → RelV x v := by
  cases k with
  | tup a =>
    have hx : SqT X.K H a xs := hx
    obtain ⟨its, rv, p, _⟩ := I.tuple hx
    refine ⟨_, _, _, _, nb_tup (ne a List.mem_cons_self) its.toArray, fun i st => ⟨st, p⟩, fun i h st => st.1, fun b hb => ?_, by rw [List.size_toArray, rv.length], fun i v x g e => ?_⟩
    · rcases List.mem_cons.mp hb with e | hb
      · exact .inl e
      · exact .inr hb
    · obtain ⟨u, hu, ru⟩ := rv.get e
      have g : its.toArray[i]? = some v := g
      rw [List.getElem?_toArray, hu] at g
      rw [← Option.some.inj g]
      exact ru
  | lst a =>
    have hx : SqL X.K H a xs := hx
    obtain ⟨its, rv, p, _⟩ := I.list hx
    refine ⟨_, _, _, _, nb_list (ne a List.mem_cons_self) its.toArray, fun i st => ⟨st, p.isList⟩, fun i h st => st.1, fun b hb => ?_, by rw [List.size_toArray, rv.length], fun i v x g e => ?_⟩
    · rcases List.mem_cons.mp hb with e | hb
      · exact .inl e
      · exact .inr hb
    · obtain ⟨u, hu, ru⟩ := rv.get e
      have g : its.toArray[i]? = some v := g
      rw [List.getElem?_toArray, hu] at g
      rw [← Option.some.inj g]
      exact ru
  | txt z t wd =>
    have hx : xs = z.cps.toList.map fun c => V.str ⟨#[c]⟩ := hx
    have rel : ∀ i v x, SignAt z i v → xs[i]? = some x → RelV x v := fun i v x g e => by
      obtain ⟨c, u, hc, rfl⟩ := g
      rw [hx, List.getElem?_map, Array.getElem?_toList, hc] at e
      rw [← Option.some.inj e]
      exact ⟨u, rfl⟩
    have ln : z.cps.size = xs.length := by rw [hx, List.length_map, Array.length_toList]
    cases wd with
    | false => exact ⟨_, _, _, _, nb_ascii z t, fun i st => st, fun i h st => st, fun b hb => .inl (List.mem_singleton.mp hb), ln, rel⟩
    | true => exact ⟨_, _, _, _, nb_wide z t, fun i st => st, fun i h st => st, fun b hb => .inl (List.mem_singleton.mp hb), ln, rel⟩
def ItzS (K : PySem.W.Frag) (k1 k2 : Src) : It where
  go := fun i H => ∃ (xs ys : List V) (x y : V), k1.items K H xs ∧ k2.items K H ys ∧ xs[i]? = some x ∧ ys[i]? = some y
  yld := fun i H v H' => ∃ T x y, v = .ref T ∧ H T = none ∧ H' = upd H T (.tup [x, y]) ∧ (∀ xs, k1.items K H xs → xs[i]? = some x) ∧ ∀ ys, k2.items K H ys → ys[i]? = some y
  stop := fun i H => ∃ xs ys : List V, k1.items K H xs ∧ k2.items K H ys ∧ (xs.length ≤ i ∨ ys.length ≤ i)
structure ZB (z TI TO i1 i2 : Addr) (k1 k2 : Sk) : Prop where
  nd : [z, TI, TO, i1, i2].Nodup
  off : ∀ b ∈ [z, TI, TO, i1, i2], b ∉ k1.at ∧ b ∉ k2.at
theorem ZB.za {z TI TO i1 i2 : Addr} {k1 k2 : Sk} (D : ZB z TI TO i1 i2 k1 k2) {f1 f2 : List Addr} (h1 : ∀ b ∈ f1, b = i1 ∨ b ∈ k1.at) (h2 : ∀ b ∈ f2, b = i2 ∨ b ∈ k2.at) : ZA z TI TO i1 i2 f1 f2 := by
  obtain ⟨nd, off⟩ := D
  have n := nd
  simp only [List.nodup_cons, List.mem_cons, List.not_mem_nil, or_false, not_or, List.nodup_nil, and_true, not_false_eq_true] at n
  obtain ⟨⟨a1, a2, a3, a4⟩, ⟨b1, b2, b3⟩, ⟨c1, c2⟩, d1⟩ := n
  have o1 : ∀ b ∈ [z, TI, TO, i1, i2], b ≠ i1 → b ∉ f1 := fun b hb ne m => (h1 b m).elim ne (off b hb).1
  have o2 : ∀ b ∈ [z, TI, TO, i1, i2], b ≠ i2 → b ∉ f2 := fun b hb ne m => (h2 b m).elim ne (off b hb).2
  exact ⟨Ne.symm a1, Ne.symm a2, b1, o1 z (by simp) a3, o2 z (by simp) a4, o1 TI (by simp) b2, o2 TI (by simp) b3, o1 TO (by simp) c1, o2 TO (by simp) c2, o2 i1 (by simp) d1, o1 i2 (by simp) (Ne.symm d1)⟩
def zTn (z TI TO i1 i2 : Addr) (k1 k2 : Sk) (i : Nat) (h : Heap) : Prop := IsZip h z TI TO .none ∧ IsPair h TI (.ref i1) (.ref i2) ∧ (∃ x y, IsPair h TO x y) ∧ k1.st i1 i h ∧ k2.st i2 i h
theorem zTn.lt {z TI TO i1 i2 : Addr} {k1 k2 : Sk} {i : Nat} {h : Heap} (st : zTn z TI TO i1 i2 k1 k2 i h) : ∀ b ∈ [z, TI, TO, i1, i2], b < h.objs.size := fun b hb => by
  obtain ⟨hz, hI, ⟨x, y, hO⟩, s1, s2⟩ := st
  obtain ⟨o1, e1, _⟩ := Sk.st_obj s1
  obtain ⟨o2, e2, _⟩ := Sk.st_obj s2
  simp only [List.mem_cons, List.not_mem_nil, or_false] at hb
  rcases hb with e | e | e | e | e <;> rw [e]
  · exact Heap.lt_size hz
  · exact Heap.lt_size hI
  · exact Heap.lt_size hO
  · exact Heap.lt_size e1
  · exact Heap.lt_size e2
theorem turn_zipS {P : Program} {w : World} {K : PySem.W.Frag} {elts : List Expr} {kk : Nat} {tpos : Pos} {z TI TO i1 i2 : Addr} {k1 k2 : Sk} (D : ZB z TI TO i1 i2 k1 k2) :
    Turn P w K (.Tuple elts kk tpos) (ItzS K k1.src k2.src) [z, TI, TO, i1, i2] z (zTn z TI TO i1 i2 k1 k2) where
  mem := List.mem_cons_self
  self := fun _ _ _ _ _ st h => wpAny_pyIter_zip st.1 h
  keep := fun i h h' st k => by
    obtain ⟨hz, hI, ⟨x, y, hO⟩, s1, s2⟩ := st
    exact ⟨k z (by simp) _ hz, k TI (by simp) _ hI, ⟨x, y, k TO (by simp) _ hO⟩, Sk.st_at s1 fun o e => k i1 (by simp) o e, Sk.st_at s2 fun o e => k i2 (by simp) o e⟩
  obj := fun i h st c hc => by
    obtain ⟨hz, hI, ⟨x, y, hO⟩, s1, s2⟩ := st
    simp only [List.mem_cons, List.not_mem_nil, or_false] at hc
    rcases hc with e | e | e | e | e <;> rw [e]
    · exact ⟨_, hz, fun v q => nomatch q⟩
    · exact ⟨_, hI, fun v q => nomatch q⟩
    · exact ⟨_, hO, fun v q => nomatch q⟩
    · exact Sk.st_obj s1
    · exact Sk.st_obj s2
  done := by
    intro X hP hw hK hc i pins s σ H E I hf st hg; subst hP hw hK
    obtain ⟨hz, hI, ⟨x0, y0, hO⟩, s1, s2⟩ := st
    obtain ⟨xs, ys, qx, qy, en⟩ := hg
    obtain ⟨f1, n1, G1, S1, N1, a1, b1, c1, e1, r1⟩ := sk_next I k1 i1 qx (fun a ha e => (D.off i1 (by simp)).1 (by rw [← e]; exact ha))
    obtain ⟨f2, n2, G2, S2, N2, a2, b2, c2, e2, r2⟩ := sk_next I k2 i2 qy (fun a ha e => (D.off i2 (by simp)).2 (by rw [← e]; exact ha))
    have l : n1 ≤ i ∨ i < n1 ∧ n2 ≤ i := by omega
    exact zs_done (I.ok.hd hc) N1 N2 (D.za c1 c2) hz hI hO (a1 i s1) (a2 i s2) l fun h' tk hk => ⟨rfl, I.turnedL (t' := tk) (ch := [z, TI, TO, i1, i2]) (fun c o hb q =>
      hk c o (fun e => hb (by simp [e])) (fun e => hb (by simp [e])) (fun e => hb (by simp [e])) (fun e => hb (by simp [e])) q) hf⟩
  item := by
    intro X hP hw hK hc i pins s σ H E I hf st hg; subst hP hw hK
    have lts := zTn.lt st
    obtain ⟨hz, hI, ⟨x0, y0, hO⟩, s1, s2⟩ := st
    obtain ⟨xs, ys, x, y, qx, qy, ex, ey⟩ := hg
    obtain ⟨f1, n1, G1, S1, N1, a1, b1, c1, e1, r1⟩ := sk_next I k1 i1 qx (fun a ha e => (D.off i1 (by simp)).1 (by rw [← e]; exact ha))
    obtain ⟨f2, n2, G2, S2, N2, a2, b2, c2, e2, r2⟩ := sk_next I k2 i2 qy (fun a ha e => (D.off i2 (by simp)).2 (by rw [← e]; exact ha))
    have lx := (List.getElem?_eq_some_iff.mp ex).1
    have ly := (List.getElem?_eq_some_iff.mp ey).1
    have Z := D.za c1 c2
    refine zs_next N1 N2 Z hz hI hO (a1 i s1) (a2 i s2) (by omega) (by omega) fun h' tk u u2 g1 g2 z' O' t1 t2 T' hs hk => ?_
    have ru := r1 i u x g1 ex
    have ru2 := r2 i u2 y g2 ey
    refine ⟨_, rfl, wpAny_letOwnedTupleGo_zip (s := { s with heap := h', toks := tk }) z' fun h'' z'' sb => ?_⟩
    have zl := lts z (by simp)
    have T2 : h''.get? s.heap.objs.size = some { cls := .type "tuple", data := .seq #[u, u2] } := (sb.2 _ (Nat.ne_of_gt zl)).trans T'
    have new : ObjOk X.prog X.w (upd H s.heap.objs.size (.tup [x, y])) h'' s.heap.objs.size (.tup [x, y]) := ⟨by show 2 ≤ sizeLine; decide, [u, u2], .cons ru (.cons ru2 .nil), ⟨_, T2, rfl, _, rfl⟩⟩
    have I1 : L2.Inv X pins σ (upd H s.heap.objs.size (.tup [x, y])) { s with heap := h'', toks := tk } :=
      I.turnedNew (t' := tk) (ch := [z, TI, TO, i1, i2]) (fun c o hb q => (sb.2 c (fun e => hb (by simp [e]))).trans (hk c o (fun e => hb (by simp [e])) (fun e => hb (by simp [e])) (fun e => hb (by simp [e])) (fun e => hb (by simp [e])) q)) hf (Nat.le_refl _) new
    refine ⟨.ref s.heap.objs.size, _, I1, rfl, ⟨_, x, y, rfl, I.hok.fresh (Nat.le_refl _), rfl, fun l hl => by rw [items_inj I hl qx]; exact ex, fun l hl => by rw [items_inj I hl qy]; exact ey⟩, ?_, fun c hcm => ?_⟩
    · have TI' : IsPair h' TI (.ref i1) (.ref i2) := hk _ _ Z.a Z.c (fun e => Z.t1 (by rw [e]; exact N1.mem)) (fun e => Z.t2 (by rw [e]; exact N2.mem)) hI
      exact ⟨z'', (sb.2 _ Z.a).trans TI', ⟨u, u2, (sb.2 _ Z.b).trans O'⟩, Sk.st_at (b1 _ _ t1) fun o e => (sb.2 _ fun e' => Z.z1 (by rw [← e']; exact N1.mem)).trans e, Sk.st_at (b2 _ _ t2) fun o e => (sb.2 _ fun e' => Z.z2 (by rw [← e']; exact N2.mem)).trans e⟩
    · rw [upd_ne (Nat.ne_of_lt (lts c hcm))]
      exact (hf c hcm).1
end Ev
set_option maxHeartbeats 4000000
/-! for .. in zip(x, y), each a tuple or a text: the rule -/
namespace Ev
open PySem PySem.Spec PyProof.Rows L2
theorem zb_nd (n : Nat) : [n + 4, n + 2, n + 3, n, n + 1].Nodup := by
  simp only [List.nodup_cons, List.mem_cons, List.not_mem_nil, or_false, not_or, List.nodup_nil, and_true, not_false_eq_true]
  omega
theorem zb_le (n b : Nat) (hb : b ∈ [n + 4, n + 2, n + 3, n, n + 1]) : n ≤ b := by
  simp only [List.mem_cons, List.not_mem_nil, or_false] at hb
  omega
theorem call_zs {prog : Program} {w : World} {A : Around} {E : Value → Shared → Prop} {s : Shared} {v1 v2 : Value} {o1 o2 : Obj} {P1 P2 : Heap → Prop} {Q : Value → Shared → Prop} (B1 : IterBy v1 o1 P1) (B2 : IterBy v2 o2 P2)
    (f1 : o1.isFreed = false) (f2 : o2.isFreed = false) (p1 : P1 s.heap) (p2 : P2 s.heap) (h : ∀ h', IsZip h' (s.heap.objs.size + 4) (s.heap.objs.size + 2) (s.heap.objs.size + 3) .none → IsPair h' (s.heap.objs.size + 2) (.ref s.heap.objs.size) (.ref (s.heap.objs.size + 1)) →
      IsPair h' (s.heap.objs.size + 3) .none .none → h'.get? s.heap.objs.size = some o1 → h'.get? (s.heap.objs.size + 1) = some o2 → (∀ c o, s.heap.get? c = some o → h'.get? c = some o) → Q (.ref (s.heap.objs.size + 4)) { s with heap := h' }) : wpAny (model prog w) A (call (.type "zip") [v1, v2]) Q E s := by
  refine callType_new F.called_zip (by decide) (F.typeCall_zip_2 _ _) (F.newCall_zip_2 _ _) (fun obj => F.args_object_init_3 obj _ _) F.entry_zip_new (zs_new v1 v2 o1 o2 P1 P2 B1 B2) ⟨p1, p2, ?_⟩
  have n1 : (zh1 s.heap o1).objs.size = s.heap.objs.size + 1 := Heap.size_push ..
  have n2 : (zh2 s.heap o1 o2).objs.size = s.heap.objs.size + 2 := by rw [Heap.size_push, n1]
  have n3 : (zh3 s.heap o1 o2).objs.size = s.heap.objs.size + 3 := by rw [Heap.size_push, n2]
  have n4 : (zh4 s.heap o1 o2).objs.size = s.heap.objs.size + 4 := by rw [Heap.size_push, n3]
  have g5 : (zh5 s.heap o1 o2).get? (zh4 s.heap o1 o2).objs.size = some _ := Heap.get?_push_size _ rfl
  have g4 : (zh5 s.heap o1 o2).get? (zh3 s.heap o1 o2).objs.size = some _ := Heap.get?_push_of_some _ (Heap.get?_push_size _ rfl)
  have g3 : (zh5 s.heap o1 o2).get? (zh2 s.heap o1 o2).objs.size = some _ := (fun e => Heap.get?_push_of_some _ (Heap.get?_push_of_some _ e)) (Heap.get?_push_size _ rfl)
  have g2 : (zh5 s.heap o1 o2).get? (zh1 s.heap o1).objs.size = some o2 := (fun e => Heap.get?_push_of_some _ (Heap.get?_push_of_some _ (Heap.get?_push_of_some _ e))) (Heap.get?_push_size _ f2)
  have g1 : (zh5 s.heap o1 o2).get? s.heap.objs.size = some o1 := (fun e => Heap.get?_push_of_some _ (Heap.get?_push_of_some _ (Heap.get?_push_of_some _ (Heap.get?_push_of_some _ e)))) (Heap.get?_push_size _ f1)
  show _ ∧ _
  rw [n2, n3, n4] at g5
  rw [n1, n2] at g3
  rw [n3] at g4; rw [n1] at g2; rw [n4]
  refine ⟨⟨_, g5, rfl⟩, h _ g5 g3 g4 g1 g2 fun c o x => ?_⟩
  exact (fun e => Heap.get?_push_of_some _ (Heap.get?_push_of_some _ (Heap.get?_push_of_some _ e))) (Heap.get?_push_of_some _ (Heap.get?_push_of_some _ x))
/-- a source, asked for its iterator -/
theorem src_iter {X : Cx} {pins : List (Addr × Obj)} {σ : L2.St} {H : Hp} {s : Shared} (I : L2.Inv X pins σ H s) (k : Src) {xs : List V} (hx : k.items X.K H xs) {v : Value} (r : RelV k.v v) :
    ∃ (q : Sk) (o : Obj) (Pre : Heap → Prop), q.src = k ∧ IterBy v o Pre ∧ o.isFreed = false ∧ Pre s.heap ∧ (∀ it h, h.get? it = some o → q.st it 0 h) ∧ ∀ a ∈ q.at, a < s.heap.objs.size := by
  cases k with
  | tup a =>
    have hx : SqT X.K H a xs := hx
    obtain ⟨its, rv, p, _⟩ := I.tuple hx
    cases r
    refine ⟨.tup a, _, _, rfl, ib_tup a its.toArray, rfl, p, fun it h e => ⟨_, e, rfl, rfl⟩, fun b hb => ?_⟩
    obtain ⟨o, e, _⟩ := id p
    rw [List.mem_singleton.mp hb]
    exact Heap.lt_size e
  | lst a =>
    have hx : SqL X.K H a xs := hx
    obtain ⟨its, rv, p, _⟩ := I.list hx
    cases r
    refine ⟨.lst a, _, _, rfl, ib_list a its.toArray, rfl, p.isList, fun it h e => ⟨_, e, rfl, rfl⟩, fun b hb => ?_⟩
    obtain ⟨o, e, _⟩ := id p.isList
    rw [List.mem_singleton.mp hb]
    exact Heap.lt_size e
  | txt z =>
    obtain ⟨t, rfl⟩ := r
    cases ha : z.cps.all (· < 128) with
    | true => exact ⟨.txt z t false, _, _, rfl, ib_ascii z t ha, rfl, trivial, fun it h e => ⟨_, e, rfl, rfl⟩, fun b hb => nomatch hb⟩
    | false => exact ⟨.txt z t true, _, _, rfl, ib_wide z t ha, rfl, trivial, fun it h e => ⟨_, e, rfl, rfl⟩, fun b hb => nomatch hb⟩
def iZipS (K : PySem.W.Frag) (ta : TA) : TI := fun σ H R => ta σ H fun vs H1 => ∃ (k1 k2 : Src) (xs ys : List V), vs = [k1.v, k2.v] ∧ k1.items K H1 xs ∧ k2.items K H1 ys ∧ R (ItzS K k1 k2) H1
theorem pi_zipS {X : Cx} {e e2 : Expr} {ta : TA} {p pos tpos : Pos} {elts : List Expr} {kk : Nat} (hg : Gl X "zip") (hm : X.mg "zip" = none) (ha : PA X [e, e2] ta) (hs : starEach [e, e2] X.env = (false, eval e X.env) :: starEach [e2] X.env := by rfl) (hpl : (backTo pos (starEach [e2] X.env)).any (·.1) = false := by rfl) :
    PI X (.Tuple elts kk tpos) (.Call (.Name "zip" p) [e, e2] [] pos) (iZipS X.K ta) := by
  refine ⟨fun pins s σ H R I h => Call_ (ld_blt I hg hm PyProof.Rows.boot_zip (PyProof.Rows.callWith_type1 (thn (ha.run pos pins s σ H _ I h) fun us s1 ⟨vs, H1, I1, r1, q1⟩ => ?_) hs hpl))⟩
  obtain ⟨k1, k2, xs, ys, ex, hx, hy, q⟩ := q1
  subst ex
  cases r1 with
  | cons r rr =>
    cases rr with
    | cons r' rr =>
      cases rr
      obtain ⟨c1, o1, P1, e1, B1, f1, p1, g1, l1⟩ := src_iter I1 k1 hx r
      obtain ⟨c2, o2, P2, e2', B2, f2, p2, g2, l2⟩ := src_iter I1 k2 hy r'
      refine call_zs B1 B2 f1 f2 p1 p2 fun h' hz hI hO t1 t2 hk => wpAny_pyIter_zip hz ?_
      have I2 : L2.Inv X pins σ H1 { s1 with heap := h' } := I1.kept (t' := s1.toks) hk
      have D : ZB (s1.heap.objs.size + 4) (s1.heap.objs.size + 2) (s1.heap.objs.size + 3) s1.heap.objs.size (s1.heap.objs.size + 1) c1 c2 := by
        exact ⟨zb_nd _, fun b hb => ⟨fun m => absurd (l1 b m) (Nat.not_lt.mpr (zb_le _ b hb)), fun m => absurd (l2 b m) (Nat.not_lt.mpr (zb_le _ b hb))⟩⟩
      subst e1 e2'
      refine ⟨_, [s1.heap.objs.size + 4, s1.heap.objs.size + 2, s1.heap.objs.size + 3, s1.heap.objs.size, s1.heap.objs.size + 1], _, _, H1, rfl, I2, turn_zipS D, ⟨hz, hI, ⟨_, _, hO⟩, g1 _ _ t1, g2 _ _ t2⟩, fun c hc => ?_, q⟩
      have hle : s1.heap.objs.size ≤ c := zb_le _ c hc
      have no := I1.hok.fresh hle
      exact I1.fpOk hle no
theorem walk_zipS {K : PySem.W.Frag} {k1 k2 : Src} {xs ys : List V} {n : Nat} (hn : n = min xs.length ys.length) :
    Walk (ItzS K k1 k2) n (fun H => k1.items K H xs ∧ k2.items K H ys) (YPair (fun i => xs[i]?) (fun i => ys[i]?)) := by
  rw [hn]
  have go : ∀ i H, i < min xs.length ys.length → k1.items K H xs ∧ k2.items K H ys → (ItzS K k1 k2).go i H := fun i H hi q => by
    have hx : xs[i]? = some (xs[i]'(Nat.lt_of_lt_of_le hi (Nat.min_le_left _ _))) := List.getElem?_eq_getElem _
    have hy : ys[i]? = some (ys[i]'(Nat.lt_of_lt_of_le hi (Nat.min_le_right _ _))) := List.getElem?_eq_getElem _
    exact ⟨xs, ys, _, _, q.1, q.2, hx, hy⟩
  refine ⟨fun i H hi q => go i H hi q, fun _ q => ⟨xs, ys, q.1, q.2, by omega⟩, fun i H v H' _ q y => ?_⟩
  obtain ⟨T, x, z, e1, e2, e3, fx, fy⟩ := y
  exact ⟨T, x, z, e1, e2, e3, fx xs q.1, fy ys q.2⟩
end Ev
set_option maxHeartbeats 4000000
namespace LawK
open PySem PySem.Spec PyProof.Rows L2 Ev
def signV : V → Bool
  | .str z => sgB z && decide ((z.length : Int) = 1)
  | _ => false
def spSign : Sp := fun vs H Q _ => ∃ x k, vs = [x] ∧ Kd H x k ∧ Vs x ∧ Q (.bl (signV x)) H
/-! ### parts of a pattern of the law -/
inductive Prt
  | any
  | sg (c : Nat)
  | lot (cs : List Nat)
  | gap (a b : Nat)
abbrev sn (c : Nat) : Str := ⟨#[c]⟩
def Prt.v : Prt → List V
  | .any => [.str "any"]
  | .sg c => [.str "sign", .str (sn c)]
  | .lot cs => [.str "lot", .str ⟨cs.toArray⟩]
  | .gap a b => [.str "gap", .int (a : Nat), .int (b : Nat)]
def Prt.gapB : Prt → Bool
  | .gap _ _ => true
  | _ => false
structure Prt.Ok (p : Prt) : Prop where
  sg : ∀ c, p = .sg c → sgB (sn c) = true
  lot : ∀ cs, p = .lot cs → sgB ⟨cs.toArray⟩ = true ∧ 0 < cs.length ∧ cs.length ≤ 20 ∧ cs.Pairwise (· < ·)
  gap : ∀ a b, p = .gap a b → a ≤ b ∧ b ≤ 20
def PrtAt (H : Hp) (v : V) (p : Prt) : Prop := ∃ a, v = .ref a ∧ H a = some (.tup p.v)
theorem PrtAt.same {H H' : Hp} {v : V} {p : Prt} (k : Same H H') (h : PrtAt H v p) : PrtAt H' v p := let ⟨a, e, q⟩ := h; ⟨a, e, k _ _ q⟩
def lets : Prt → Nat → Bool
  | .any, _ => true
  | .sg d, c => decide (c = d)
  | .lot cs, c => decide (c ∈ cs)
  | .gap _ _, _ => false
def spMay : Sp := fun vs H Q _ => ∃ (v : V) (p : Prt) (c : Nat), vs = [v, .str (sn c)] ∧ PrtAt H v p ∧ p.gapB = false ∧ Q (.bl (lets p c)) H
theorem n_ga : ¬ V.str "gap" = V.str "any" := fun e => absurd (V.str.inj e) (by decide +kernel)
theorem n_gs : ¬ V.str "gap" = V.str "sign" := fun e => absurd (V.str.inj e) (by decide +kernel)
theorem n_gl : ¬ V.str "gap" = V.str "lot" := fun e => absurd (V.str.inj e) (by decide +kernel)
theorem n_sa : ¬ V.str "sign" = V.str "any" := fun e => absurd (V.str.inj e) (by decide +kernel)
theorem n_la : ¬ V.str "lot" = V.str "any" := fun e => absurd (V.str.inj e) (by decide +kernel)
theorem n_as : ¬ V.str "any" = V.str "sign" := fun e => absurd (V.str.inj e) (by decide +kernel)
theorem n_ls : ¬ V.str "lot" = V.str "sign" := fun e => absurd (V.str.inj e) (by decide +kernel)
theorem sn_inj {c d : Nat} : decide (V.str (sn c) = V.str (sn d)) = decide (c = d) := decide_eq_decide.mpr ⟨fun e => by have := V.str.inj e; injection this with h; exact (Array.toList_inj.mpr h |> fun q => by simpa using q), fun e => by rw [e]⟩
section
variable {P : Program} {w : World} {K : PySem.W.Frag} {mg : Str → Option Value} {base : Heap}
abbrev sPSign : Stmt := topS 8
theorem scPSign : FnScope ["thing"] ["thing"] (defScope sPSign) := ⟨rfl, rfl, rfl, by decide +kernel, rfl, by decide +kernel, by decide +kernel⟩
theorem ok_PSign {f : Addr} {fd : FuncData} (F : Fun K "is_sign" "is_sign" sPSign f fd)  {fPSigns : Addr} {fdPSigns : FuncData} (DPSigns : Dk P w K mg base "is_signs" sPSigns ["thing"] 1 spSg fPSigns fdPSigns) (T : Glob mg) : FnOk P w K mg base CX0 2 f fd ["thing"] spSign := by
  refine F.ok scPSign (fun vs H Q E h => ?_) (fun cdv A outer s H vs Q E hr h => ?_)
  · obtain ⟨x, k, rfl, _⟩ := h
    rfl
  · refine ⟨_, (pss_one (ps_ret (pe_and (pe_call DPSigns.ok (hr.mono (by decide)) (by rfl) DPSigns.g DPSigns.F.kp DPSigns.b .nil pass0 (pa_cons (pv 0) pa_nil)) (pe_one (pe_cmpR op_eq (pe_callB call_len (by rfl) T.len PySem.boot_len (pa_cons (pv 0) pa_nil)) pe_int (nomark _)))))), ?_⟩
    obtain ⟨x, k, rfl, hk, hz, q⟩ := h
    refine ⟨x, rfl, x, k, rfl, hk, hz, _, rfl, ite2 (fun e => ?_) (fun e => ?_)⟩
    · cases hk with
      | str z =>
        refine ⟨.str z, rfl, .str z, z.length, rfl, ⟨len5 (hz z rfl), rfl⟩, rfl, ?_⟩
        have e' : sgB z = true := e
        have q' : Q (.bl (sgB z && decide ((z.length : Int) = 1))) H := q
        rw [e', Bool.true_and] at q'
        rw [dec_int]
        exact q'
      | non => exact Bool.noConfusion e
      | bl b => exact Bool.noConfusion e
      | int i => exact Bool.noConfusion e
      | lst e2 => exact Bool.noConfusion e
      | tup e2 => exact Bool.noConfusion e
      | dic e2 => exact Bool.noConfusion e
    · have e' : sgV x = false := by simpa using e
      cases hk with
      | str z =>
        have e2 : sgB z = false := e'
        have q' : Q (.bl (sgB z && decide ((z.length : Int) = 1))) H := q
        rw [e2, Bool.false_and] at q'
        exact q'
      | non => exact q
      | bl b => exact q
      | int i => exact q
      | lst e2 => exact q
      | tup e2 => exact q
      | dic e2 => exact q
end
end LawK
set_option maxHeartbeats 4000000
/-! Slices by natural bounds. -/
namespace Ev
open PySem PySem.Spec PyProof.Rows L2
theorem sIx_int {n d : Nat} {i : Int} (h : 0 ≤ i) : HT.sIx n d (some i) = min i.toNat n := by
  show (if i < 0 then (i + (n : Int)).toNat else min i.toNat n) = _
  rw [if_neg (by omega)]
theorem cutV_to {xs : List V} {i : Int} (h : 0 ≤ i) : cutV xs none (some i) = xs.take i.toNat := by
  unfold cutV
  rw [sIx_int h]
  show (xs.drop 0).take (min i.toNat xs.length - 0) = _
  rw [List.drop_zero, Nat.sub_zero, ← List.take_eq_take_min]
theorem cutV_from {xs : List V} {i : Int} (h : 0 ≤ i) : cutV xs (some i) none = xs.drop i.toNat := by
  unfold cutV
  rw [sIx_int h]
  show (xs.drop (min i.toNat xs.length)).take (xs.length - min i.toNat xs.length) = _
  rw [List.take_of_length_le (by rw [List.length_drop]; exact Nat.le_refl _)]
  by_cases g : i.toNat ≤ xs.length
  · rw [Nat.min_eq_left g]
  · rw [Nat.min_eq_right (by omega), List.drop_length, List.drop_of_length_le (by omega)]
theorem cutV_set {xs : List V} {i : Int} {z : V} (h : 0 ≤ i) (h2 : i < xs.length) : cutV xs none (some i) ++ [z] ++ cutV xs (some (i + 1)) none = xs.set i.toNat z := by
  rw [cutV_to h, cutV_from (by omega)]
  have e : (i + 1).toNat = i.toNat + 1 := by omega
  rw [e, List.set_eq_take_append_cons_drop, if_pos (by omega)]
  simp
theorem cutS_to {z : Str} {i : Int} (h : 0 ≤ i) : (cutS z none (some i)).cps.toList = z.cps.toList.take i.toNat := by
  have e : (cutS z none (some i)).cps.toList = (z.cps.toList.drop 0).take (HT.sIx z.length z.length (some i) - 0) := by simp [cutS, HT.sIx]
  rw [e, sIx_int h, List.drop_zero, Nat.sub_zero, len_S, ← List.take_eq_take_min]
theorem cutS_from {z : Str} {i : Int} (h : 0 ≤ i) : (cutS z (some i) none).cps.toList = z.cps.toList.drop i.toNat := by
  have e : (cutS z (some i) none).cps.toList = (z.cps.toList.drop (HT.sIx z.length 0 (some i))).take (z.length - HT.sIx z.length 0 (some i)) := by simp [cutS, HT.sIx]
  rw [e, sIx_int h, len_S]
  rw [List.take_of_length_le (by rw [List.length_drop]; exact Nat.le_refl _)]
  by_cases g : i.toNat ≤ z.cps.toList.length
  · rw [Nat.min_eq_left g]
  · rw [Nat.min_eq_right (by omega), List.drop_length, List.drop_of_length_le (by omega)]
theorem cutS_of {z : Str} {i j : Int} (h : 0 ≤ i) (h2 : i ≤ j) : (cutS z (some i) (some j)).cps.toList = (z.cps.toList.drop i.toNat).take (j - i).toNat := by
  have e : (cutS z (some i) (some j)).cps.toList = (z.cps.toList.drop (HT.sIx z.length 0 (some i))).take (HT.sIx z.length z.length (some j) - HT.sIx z.length 0 (some i)) := by simp [cutS]
  rw [e, sIx_int h, sIx_int (by omega), len_S]
  apply List.ext_getElem?
  intro k
  rw [List.getElem?_take, List.getElem?_take, List.getElem?_drop, List.getElem?_drop]
  by_cases g : i.toNat ≤ z.cps.toList.length
  · rw [Nat.min_eq_left g]
    by_cases a : k < (j - i).toNat
    · rw [if_pos a]
      by_cases b : k < min j.toNat z.cps.toList.length - i.toNat
      · rw [if_pos b]
      · rw [if_neg b]
        exact (List.getElem?_eq_none (by omega)).symm
    · rw [if_neg a, if_neg (by omega)]
  · rw [List.getElem?_eq_none (show z.cps.toList.length ≤ i.toNat + k by omega), if_neg (by omega)]
    split <;> rfl
end Ev
set_option maxHeartbeats 4000000
namespace LawK
open PySem PySem.Spec PyProof.Rows L2 Ev

structure LotOk (cs : List Nat) : Prop where
  sg : sgB ⟨cs.toArray⟩ = true
  pos : 0 < cs.length
  few : cs.length ≤ 20
  asc : cs.Pairwise (· < ·)
theorem snoc_of {α : Type} {l : List α} (h : l ≠ []) : ∃ l' x, l = l' ++ [x] := ⟨l.dropLast, l.getLast h, (List.dropLast_concat_getLast h).symm⟩
def spIsLot : Sp := fun vs H Q _ => ∃ (cs : List Nat), vs = [.str ⟨cs.toArray⟩] ∧ LotOk cs ∧ ∀ H', Same H H' → Q (.bl true) H'
def spIsPart : Sp := fun vs H Q _ => ∃ (v : V) (p : Prt), vs = [v] ∧ PrtAt H v p ∧ p.Ok ∧ ∀ H', Same H H' → Q (.bl true) H'
/-- a pattern of the law: its parts -/
structure PatV (H : Hp) (vs : List V) (ps : List Prt) : Prop where
  len : vs.length = ps.length
  at_ : ∀ (i : Nat) v p, vs[i]? = some v → ps[i]? = some p → PrtAt H v p
  ok : ∀ p ∈ ps, p.Ok
theorem PatV.same {H H' : Hp} {vs : List V} {ps : List Prt} (k : Same H H') (h : PatV H vs ps) : PatV H' vs ps := ⟨h.len, fun i v p e1 e2 => (h.at_ i v p e1 e2).same k, h.ok⟩
theorem PatV.get {H : Hp} {vs : List V} {ps : List Prt} (h : PatV H vs ps) {i : Nat} {v : V} (e : vs[i]? = some v) : ∃ p, ps[i]? = some p ∧ PrtAt H v p ∧ p.Ok := by
  have hi := (List.getElem?_eq_some_iff.mp e).1
  have hp : i < ps.length := by rw [← h.len]; exact hi
  exact ⟨ps[i], List.getElem?_eq_getElem hp, h.at_ i v _ e (List.getElem?_eq_getElem hp), h.ok _ (List.getElem_mem hp)⟩
/-- where gaps may stand -/
structure PatOk (ps : List Prt) : Prop where
  l1 : 1 ≤ ps.length
  l30 : ps.length ≤ 30
  first : (ps.map Prt.gapB)[0]? = some false
  last : (ps.map Prt.gapB)[ps.length - 1]? = some false
  apart : ∀ i : Nat, (ps.map Prt.gapB)[i]? = some true → (ps.map Prt.gapB)[i + 1]? = some true → False
theorem head_gap (p : Prt) : decide (p.v.headD .non = V.str "gap") = p.gapB := by
  cases p with
  | any => exact decide_eq_false fun e => absurd (V.str.inj e) (by decide +kernel)
  | sg c => exact decide_eq_false fun e => absurd (V.str.inj e) (by decide +kernel)
  | lot cs => exact decide_eq_false fun e => absurd (V.str.inj e) (by decide +kernel)
  | gap a b => exact decide_eq_true rfl
def spIsPat : Sp := fun vs H Q _ => ∃ (a : Addr) (us : List V) (ps : List Prt), vs = [.ref a] ∧ H a = some (.tup us) ∧ PatV H us ps ∧ PatOk ps ∧ ∀ H', Same H H' → Q (.bl true) H'
end LawK
set_option maxHeartbeats 4000000
namespace Ev
open PySem PySem.Spec PyProof.Rows L2
/-! sets of keys of one kind whose table can be walked -/
section
variable {P : Program} {w : World} {K : Type} [DecidableEq K]
/-- no two of them are one key -/
def Apart (κ : KeyKind P w K) (l : List (Int × Value)) : Prop := l.Pairwise fun e f => ∀ k, κ.is k e.2 = true → κ.is k f.2 = true → False
/-- the set at a, S its members, n their number; its table rises and can be walked -/
def SetG (κ : KeyKind P w K) (h : Heap) (a : Addr) (S : K → Bool) (n : Nat) : Prop :=
  ∃ o es ep t, h.get? a = some o ∧ (o.ExactSet ∧ o.data = .set es ep t) ∧ (ElemsOf κ es.toList ∧ Apart κ es.toList) ∧ (∀ k, S k = true ↔ ∃ e ∈ es.toList, κ.is k e.2 = true) ∧ (es.size < scanBound ∧ t.fits es.size = true ∧ es.size = n) ∧ (Ris t.place.toList ∧ (w.params.followText "set-order" = true ∨ t.led = true))
variable {κ : KeyKind P w K} {h h' : Heap} {a : Addr} {S : K → Bool} {n : Nat}
theorem SetG.keep (R : SetG κ h a S n) (k : ∀ o, h.get? a = some o → h'.get? a = some o) : SetG κ h' a S n := let ⟨o, es, ep, t, ho, r⟩ := R; ⟨o, es, ep, t, k o ho, r⟩
theorem SetG.of (R : SetG κ h a S n) : h.SetOf κ a S n := let ⟨o, es, ep, t, ho, x, g, m, b, _⟩ := R; ⟨o, es, ep, t, ho, x.1, x.2, g.1, m, b⟩
theorem Apart.perm {l m : List (Int × Value)} (p : l.Perm m) (x : Apart κ l) : Apart κ m := List.Perm.pairwise p x fun {e f} q k h1 h2 => q k h2 h1
variable {A : Around} {E : Value → Shared → Prop} {s : Shared}
theorem setG_tail {g : Bool → Sem Unit} (gg : ∀ (b : Bool) (z : Shared) (W : Unit → Shared → Prop), W () z → wpAny (model P w) A (g b) W E z)
    {o : Obj} {es fs : Array (Int × Value)} {ep : Nat} {t u : SetTable} (ho : s.heap.get? a = some o) (xs : o.ExactSet) (hd : o.data = .set es ep t) (g1 : ElemsOf κ fs.toList) (n1 : Apart κ fs.toList) (m1 : ∀ k, S k = true ↔ ∃ e ∈ fs.toList, κ.is k e.2 = true)
    (b1 : fs.size < scanBound) (f1 : u.fits fs.size = true) (r1 : Ris u.place.toList) (l1 : w.params.followText "set-order" = true ∨ u.led = true) {wd : Bool} {R : Option Bool → Shared → Prop}
    (fin : ∀ z, Heap.SameBut a s.heap z → SetG κ z a S fs.size → R (some true) { s with heap := z }) :
    wpAny (model P w) A (storeSet a fs u >>= fun _ => if (!wd && u.tooFull) = true then (g (relayAll u fs (SetTable.grown fs.size)).2.2 >>= fun _ => storeSet a (relayAll u fs (SetTable.grown fs.size)).1 (relayAll u fs (SetTable.grown fs.size)).2.1 >>= fun _ => pure (some true)) else pure (some true)) R E s := by
  have put : ∀ {z : Heap} {o : Obj} {es : Array (Int × Value)} {ep : Nat} {t : SetTable} (fs : Array (Int × Value)) (u : SetTable), z.get? a = some o → o.data = .set es ep t → (z.update a (Obj.putSet fs u)).get? a = some { o with data := .set fs (ep + 1) u } := fun {z o es ep t} fs u e d => by
    have q := Heap.get?_update_self (Obj.putSet fs u) e (by rw [putSet_of fs u d] <;> rfl); rw [putSet_of fs u d] at q; exact q
  refine wpAny_bind (wpAny_storeSet_of ho hd ?_ (fits_of_scanBound b1))
  have o1 := put fs u ho hd
  have s1 := Heap.SameBut.update s.heap a (Obj.putSet fs u)
  split
  · have p2 := relayAll_perm u fs (SetTable.grown fs.size); have f2 := relayAll_fits u fs (SetTable.grown fs.size)
    have r2 := relayAll_ris u fs (SetTable.grown fs.size); have l2 := relayAll_led u fs (SetTable.grown fs.size)
    revert p2 f2 r2 l2
    generalize relayAll u fs (SetTable.grown fs.size) = Z
    obtain ⟨gs, v, gv⟩ := Z
    intro p2 f2 r2 l2; dsimp only at p2 f2 r2 l2 ⊢
    have sz : gs.size = fs.size := by have := p2.length_eq; rw [Array.length_toList, Array.length_toList] at this; exact this
    refine wpAny_bind (gg _ _ _ (wpAny_bind (wpAny_storeSet_of o1 rfl ?_ (fits_of_scanBound (by rw [sz] <;> exact b1)))))
    refine wpAny_pure (fin _ (s1.trans (Heap.SameBut.update _ a _)) ⟨_, gs, _, v, put gs v o1 rfl, ⟨xs, rfl⟩, ⟨fun e q => g1 e (p2.mem_iff.mp q), Apart.perm p2.symm n1⟩, fun k => (m1 k).trans ⟨fun ⟨e, q, z⟩ => ⟨e, p2.mem_iff.mpr q, z⟩, fun ⟨e, q, z⟩ => ⟨e, p2.mem_iff.mp q, z⟩⟩, ⟨by rw [sz] <;> exact b1, f2, sz⟩, r2, l1.imp id fun z => l2.trans z⟩)
  · exact wpAny_pure (fin _ s1 ⟨_, fs, _, u, o1, ⟨xs, rfl⟩, ⟨g1, n1⟩, m1, ⟨b1, f1, rfl⟩, r1, l1⟩)
theorem setG_hashed {k : K} {v : Value} {Q : Bool → Shared → Prop} (hv : κ.is k v = true) (sc : v.scannable = true) (R : SetG κ s.heap a S n) (room : n + 1 < scanBound)
    (q : ∀ z, Heap.SameBut a s.heap z → SetG κ z a (fun j => S j || decide (j = k)) (if S k = true then n else n + 1) → Q (!S k) { s with heap := z }) :
    wpAny (model P w) A (setAddHashed a v (κ.hash k)) Q E s := by
  obtain ⟨o, es, ep, t, ho, ⟨xs, hd⟩, ⟨hel, nd⟩, hm, ⟨hb, hf, hn⟩, hr, hl⟩ := R
  unfold setAddHashed; unfold setAddHashedIn
  refine wpAny_holding (wpAny_bind (wpAny_setState_of ho hd hf ?_)); dsimp only
  rw [byScan_of sc hb hel]; simp only [↓reduceIte]
  unfold setAddByScan
  refine wpAny_bind (wpAny_bind (wpAny_rule (wpAny_bind (wpAny_setScan_of hv ho hd hf hel ?_))))
  cases hfi : List.findIdx? (fun e => κ.is k e.2) es.toList with
  | some j =>
    dsimp only
    obtain ⟨hj, pj, _⟩ := List.findIdx?_eq_some_iff_getElem.mp hfi
    have hk : S k = true := (hm k).mpr ⟨es.toList[j], List.getElem_mem hj, pj⟩
    have q1 := q s.heap (Heap.SameBut.refl a s.heap) ⟨o, es, ep, t, ho, ⟨xs, hd⟩, ⟨hel, nd⟩, fun i => by
      rw [Bool.or_eq_true, decide_eq_true_eq, ← hm i]; exact ⟨fun z => z.elim id fun e => by rw [e] <;> exact hk, .inl⟩, ⟨hb, hf, by rw [if_pos hk] <;> exact hn⟩, hr, hl⟩
    rw [hk] at q1; exact wpAny_pure (wpAny_pure q1)
  | none =>
    dsimp only
    have nk : ∀ e ∈ es.toList, κ.is k e.2 = true → False := fun e he z => by
      have c := List.findIdx?_eq_none_iff.mp hfi e he; rw [z] at c; cases c
    have hk : S k = false := Bool.eq_false_iff.mpr fun z => let ⟨e, he, y⟩ := (hm k).mp z; nk e he y
    have gw : ∀ (b : Bool) {z : Shared} {W : Unit → Shared → Prop}, W () z → wpAny (model P w) A (match b with | true => rule "set.scan.the-table-gave-way" | false => pure ()) W E z := fun b {z W} y => by cases b <;> first | exact wpAny_pure y | exact wpAny_rule y
    have pm := layNew_perm t es (κ.hash k) v; have f1 := layNew_fits t es (κ.hash k) v
    have r1 := layNew_ris t es (κ.hash k) v hr; have l1 := layNew_led t es (κ.hash k) v
    revert pm f1 r1 l1
    generalize layNew t es (κ.hash k) v = Z
    obtain ⟨fs, u, wd, gv⟩ := Z
    intro pm f1 r1 l1; dsimp only at pm f1 r1 l1 ⊢
    rw [Array.toList_push] at pm
    have pc : fs.toList.Perm ((κ.hash k, v) :: es.toList) := pm.trans (List.perm_append_singleton _ _)
    have g1 : ElemsOf κ fs.toList := fun e he => by
      rcases List.mem_cons.mp (pc.mem_iff.mp he) with z | z
      · rw [z]; exact ⟨⟨k, hv, rfl⟩, sc⟩
      · exact hel e z
    have n1 : Apart κ fs.toList := Apart.perm pc.symm (List.pairwise_cons.mpr ⟨fun e he j x y => nk e he (by rw [← κ.inj v j k x hv] <;> exact y), nd⟩)
    have m1 : ∀ i, (S i || decide (i = k)) = true ↔ ∃ e ∈ fs.toList, κ.is i e.2 = true := fun i => by
      rw [Bool.or_eq_true, decide_eq_true_eq, hm i]
      constructor
      · rintro (⟨e, he, y⟩ | y)
        · exact ⟨e, pc.mem_iff.mpr (List.mem_cons_of_mem _ he), y⟩
        · exact ⟨_, pc.mem_iff.mpr List.mem_cons_self, by rw [y] <;> exact hv⟩
      · rintro ⟨e, he, y⟩
        rcases List.mem_cons.mp (pc.mem_iff.mp he) with z | z
        · rw [z] at y; exact .inr (κ.inj v i k y hv)
        · exact .inl ⟨e, z, y⟩
    have sz : fs.size = n + 1 := by have := pc.length_eq; rw [Array.length_toList, List.length_cons, Array.length_toList, hn] at this; exact this
    have b1 : fs.size < scanBound := by rw [sz] <;> exact room
    have ld : w.params.followText "set-order" = true ∨ u.led = true := hl.imp id fun z => l1.trans z
    have fin : ∀ z, Heap.SameBut a s.heap z → SetG κ z a (fun j => S j || decide (j = k)) fs.size → Q true { s with heap := z } := fun z sb r => by
      have q1 := q z sb; rw [hk] at q1; rw [sz] at r; exact q1 r
    have last : ∀ {u' : SetTable} {R : Option Bool → Shared → Prop} {g : Bool → Sem Unit}, (∀ (b : Bool) (z : Shared) (W : Unit → Shared → Prop), W () z → wpAny (model P w) A (g b) W E z) → u'.fits fs.size = true → Ris u'.place.toList → (w.params.followText "set-order" = true ∨ u'.led = true) → (∀ z, Heap.SameBut a s.heap z → SetG κ z a (fun j => S j || decide (j = k)) fs.size → R (some true) { s with heap := z }) → _ := fun {u' R g} gg a1 a2 a3 a4 => setG_tail (κ := κ) (wd := wd) (A := A) (E := E) (s := s) (R := R) gg ho xs hd g1 n1 m1 b1 a1 a2 a3 a4
    refine wpAny_bind (gw _ ?_)
    split
    · rw [hashByValue_scannable 8 sc]
      refine wpAny_bind (wpAny_pure (last ?_ ?_ ?_ ?_ ?_))
      · intro b z W y; cases b <;> first | exact wpAny_pure y | exact wpAny_rule y
      · first | (split <;> first | exact f1 | exact SetTable.fits_plain_off f1) | exact f1
      · first | (split <;> exact r1) | exact r1
      · first | (split <;> exact ld) | exact ld
      · intro z sb r; dsimp only; exact wpAny_pure (fin z sb r)
    · refine wpAny_bind (wpAny_pure ?_); simp only [↓reduceIte]
      refine last ?_ f1 r1 ld ?_
      · intro b z W y; cases b <;> first | exact wpAny_pure y | exact wpAny_rule y
      · intro z sb r; dsimp only; exact wpAny_pure (fin z sb r)
end
end Ev
set_option maxHeartbeats 4000000
namespace Ev
open PySem PySem.Spec PyProof.Rows L2
/-- one turn of a block's loop: the next thing, its store, the tests, then the body -/
def oneTurn (c : Code) (ip : Pos) (tg : Expr) (ifs : List Expr) (it : Value) (env : Env) (body : Sem PySem.Fin) : Sem PySem.Fin := standAt ip >>= fun _ => pyNext it >>= fun r => match r with
  | none => pure (.done .next)
  | some v => letOwnedTupleGo tg it v >>= fun _ => assign tg env v >>= fun _ => (forIn ifs true fun c r => if r = true then (do let ok ← isTrue c env (eval c env); pure (ForInStep.yield ok)) else pure (ForInStep.yield r)) >>= fun ok => if ok = true then body else again c
theorem turn_set1 (elt tg iter : Expr) (ifs : List Expr) (scope : Scope) (pos : Pos) (it acc : Value) (env : Env) :
    compTurn (.SetComp elt [⟨tg, iter, ifs, 0⟩] scope pos) 0 it acc env = oneTurn (.compLoop (.SetComp elt [⟨tg, iter, ifs, 0⟩] scope pos) 0 it acc env) iter.pos tg ifs it env ((eval elt env >>= fun v => standAt elt.pos >>= fun _ => call (.builtin "set.add") [acc, v] >>= fun _ => pure ()) >>= fun _ => again (.compLoop (.SetComp elt [⟨tg, iter, ifs, 0⟩] scope pos) 0 it acc env)) := by
  unfold oneTurn
  rfl
theorem turn_set2i (elt t0 i0 t1 i1 : Expr) (ifs0 ifs1 : List Expr) (scope : Scope) (pos : Pos) (it acc : Value) (env : Env) :
    compTurn (.SetComp elt [⟨t0, i0, ifs0, 0⟩, ⟨t1, i1, ifs1, 0⟩] scope pos) 1 it acc env = oneTurn (.compLoop (.SetComp elt [⟨t0, i0, ifs0, 0⟩, ⟨t1, i1, ifs1, 0⟩] scope pos) 1 it acc env) i1.pos t1 ifs1 it env ((eval elt env >>= fun v => standAt elt.pos >>= fun _ => call (.builtin "set.add") [acc, v] >>= fun _ => pure ()) >>= fun _ => again (.compLoop (.SetComp elt [⟨t0, i0, ifs0, 0⟩, ⟨t1, i1, ifs1, 0⟩] scope pos) 1 it acc env)) := by
  unfold oneTurn
  rfl
theorem turn_set2o (elt t0 i0 t1 i1 : Expr) (ifs0 ifs1 : List Expr) (scope : Scope) (pos : Pos) (it acc : Value) (env : Env) :
    compTurn (.SetComp elt [⟨t0, i0, ifs0, 0⟩, ⟨t1, i1, ifs1, 0⟩] scope pos) 0 it acc env = oneTurn (.compLoop (.SetComp elt [⟨t0, i0, ifs0, 0⟩, ⟨t1, i1, ifs1, 0⟩] scope pos) 0 it acc env) i0.pos t0 ifs0 it env
      (eval i1 env >>= fun x => standAt i1.pos >>= fun _ => foldedSetIterable i1 env x >>= fun x => holding [x] (pyIter x) >>= fun j => runOwn (.compStart (.SetComp elt [⟨t0, i0, ifs0, 0⟩, ⟨t1, i1, ifs1, 0⟩] scope pos) 1 j acc env) env >>= fun _ => again (.compLoop (.SetComp elt [⟨t0, i0, ifs0, 0⟩, ⟨t1, i1, ifs1, 0⟩] scope pos) 0 it acc env)) := by
  unfold oneTurn
  rfl
section
variable {Y : Cx} {e : Expr} {ci : Nat} {it : Addr} {acc : Value} {ip : Pos} {tg : Expr} {ifs : List Expr} {body : Sem PySem.Fin} {J : It} {fp : List Addr} {tn : Nat → Heap → Prop} {R : Result → Shared → Prop} {pins : List (Addr × Obj)} {σ : L2.St} {vs : List Nat} {g : TG} {tt : TT}
/-- what a body says of the slots: those that were wiped may be anything -/
def Slots (σ τ : L2.St) (vs : List Nat) : Prop := τ.length = σ.length ∧ ∀ (j : Nat) v, (wipe σ vs)[j]? = some (some v) → τ[j]? = some (some v)
/-- a block's loop over what is walked: W at each turn, and the body's own word B -/
theorem loop_any (B : L2.St → Hp → (Hp → Prop) → Prop) (hden : (model Y.prog Y.w).den (.compLoop e ci (.ref it) acc Y.env) = (oneTurn (.compLoop e ci (.ref it) acc Y.env) ip tg ifs (.ref it) Y.env body).onRaise (fun x => do noteFrame x Y.env; theTreesLotGoes x))
    (hu : Y.A.under (.compLoop e ci (.ref it) acc Y.env) = Y.A) (hq : (Code.compLoop e ci (.ref it) acc Y.env).quiet = true) (hc : Y.calm = true) (T : Turn Y.prog Y.w Y.K tg J fp it tn) (pg : PG Y tg g) (pt : PTs Y ifs tt) (hA : ∀ x s, ¬ Y.xe x s)
    (hb : ∀ (pins' : List (Addr × Obj)) s τ H (N : Hp → Prop), (∀ p ∈ pins, p ∈ pins') → Inv Y pins' τ H s → B τ H N → wpAny (model Y.prog Y.w) Y.A body (fun r s' => r = .again (.compLoop e ci (.ref it) acc Y.env) ∧ ∃ τ' H', Inv Y pins' τ' H' s' ∧ Slots τ τ' vs ∧ N H') Y.xe s)
    (fok : ∀ {H : Hp}, (∀ b ∈ fp, H b = none) → ∀ b ∈ fp, FpOk Y pins H b) (W : Nat → Nat → Hp → Prop) (F : Hp → Prop)
    (turn : ∀ i m H, W i m H → (J.stop i H ∧ F H) ∨ (J.go i H ∧ ∃ N : Hp → Prop, (∀ H', N H' → ∃ m', m' < m ∧ W (i + 1) m' H') ∧ ∀ x H', J.yld i H x H' → g x (wipe σ vs) H' fun σ2 H2 => wipe σ2 vs = wipe σ vs ∧ tt σ2 H2 fun b H3 => if b = true then B σ2 H3 N else N H3))
    (fin : ∀ s' H', Inv Y pins (wipe σ vs) H' s' → F H' → R (.ok .next) s') (m0 : Nat) (s : Shared) (H : Hp) (w0 : W 0 m0 H) (I : Inv Y pins (wipe σ vs) H s) (t0 : tn 0 s.heap) (n0 : ∀ b ∈ fp, H b = none) :
    codeAny (model Y.prog Y.w) Y.A (.compLoop e ci (.ref it) acc Y.env) R s := by
  have th : ∀ {α : Type} {t : Sem α} {Q Q' : α → Shared → Prop} {E : Value → Shared → Prop} {s : Shared}, wpAny (model Y.prog Y.w) Y.A t Q Y.xe s → (∀ a s, Q a s → Q' a s) → wpAny (model Y.prog Y.w) Y.A t Q' E s := fun h q => wpAny_mono h q fun x s z => (hA x s z).elim
  refine codeAny_loop hq (fun m s' => ∃ i H', W i m H' ∧ Inv Y pins (wipe σ vs) H' s' ∧ tn i s'.heap ∧ ∀ b ∈ fp, H' b = none) (fun m s1 hI => ?_) m0 ⟨0, H, w0, I, t0, n0⟩
  obtain ⟨i, H1, w1, I1, t1, n1⟩ := hI
  rw [hden, hu]
  refine wpAny_noted ?_
  unfold oneTurn
  refine wpAny_bind (wpAny_standAt (wpAny_bind ?_))
  rcases turn i m H1 w1 with ⟨stop, f1⟩ | ⟨go, N, hN, step⟩
  · refine thnF (T.done Y rfl rfl rfl hc i pins s1 _ H1 (fun _ _ => False) I1 (fok n1) t1 stop) fun r s2 ⟨er, I2⟩ => ?_
    subst er
    exact wpAny_pure (fin s2 H1 I2 f1)
  · refine thnF (T.item Y rfl rfl rfl hc i pins s1 _ H1 (fun _ _ => False) I1 (fok n1) t1 go) fun r s2 ⟨u, er, h2⟩ => ?_
    subst er
    refine wpAny_bind (thnF h2 fun _ s3 ⟨x, H3, I3, r3, y3, t3, n3⟩ => wpAny_bind ?_)
    have J3 := I3.pinned (fok n3) (T.obj _ _ t3)
    refine th (pg.run _ s3 _ H3 x u _ J3 r3 (step x H3 y3)) fun _ s4 ⟨τ, H4, I4, e4, q4⟩ => wpAny_bind ?_
    refine th (pt.run _ s4 τ H4 _ I4 q4) fun b s5 ⟨H5, I5, q5⟩ => ?_
    have back : ∀ {τ' : L2.St} {s' : Shared} {H' : Hp}, Inv Y (pins ++ pinsAt fp s3.heap) τ' H' s' → Slots τ τ' vs → N H' → ∃ m', m' < m ∧ ∃ i H', W i m' H' ∧ Inv Y pins (wipe σ vs) H' s' ∧ tn i s'.heap ∧ ∀ b ∈ fp, H' b = none := fun {τ' s' H'} I' sl nx => by
      obtain ⟨m', lm, w'⟩ := hN H' nx
      have pin : ∀ b ∈ fp, ∀ o, s3.heap.get? b = some o → s'.heap.get? b = some o ∧ H' b = none := fun b hb o eo => let z := I'.pin (b, o) (List.mem_append_right _ (List.mem_append_right _ (mem_pinsAt hb eo))); ⟨z.1, z.2.1⟩
      refine ⟨m', lm, i + 1, H', w', I'.unpinned.weak ?_ (fun j v ev => sl.2 j v (by rw [e4] <;> exact ev)), T.keep _ _ _ t3 fun b hb o eo => (pin b hb o eo).1, fun b hb => ?_⟩
      · rw [sl.1, ← wipe_length τ vs, e4] <;> rfl
      · obtain ⟨o, eo, _⟩ := T.obj _ _ t3 b hb
        exact (pin b hb o eo).2
    cases b with
    | false =>
      simp only [Bool.false_eq_true, if_false] at q5 ⊢
      exact wpAny_pure ⟨rfl, back I5 ⟨rfl, fun j v ev => (wipe_some ev).1⟩ q5⟩
    | true =>
      simp only [if_true] at q5 ⊢
      exact th (hb _ s5 τ H5 N (fun p hp => List.mem_append_left _ hp) I5 q5) fun r s6 ⟨er, τ', H6, I6, sl, q6⟩ => by subst er; exact ⟨rfl, back I6 sl q6⟩
end
end Ev
set_option maxHeartbeats 4000000
namespace Ev
open PySem PySem.Spec PyProof.Rows L2
theorem setG_add {P : Program} {w : World} {K : Type} [DecidableEq K] {κ : KeyKind P w K} {A : Around} {E : Value → Shared → Prop} {s : Shared} {a : Addr} {S : K → Bool} {n : Nat} {k : K} {v : Value} {Q : Value → Shared → Prop} (hv : κ.is k v = true) (sc : v.scannable = true) (R : SetG κ s.heap a S n) (room : n + 1 < scanBound)
    (q : ∀ z, Heap.SameBut a s.heap z → SetG κ z a (fun j => S j || decide (j = k)) (if S k = true then n else n + 1) → Q .none { s with heap := z, toks := s.toks + 1 }) : wpAny (model P w) A (call (.builtin "set.add") [.ref a, v]) Q E s := by
  refine wpAny_call_entry F.slot_set_add R.of.typeIs F.entry_set_add ?_ (F.args_set_add_2 _ _)
  unfold Builtin.«set.add»; unfold Builtin.Frozenset.oneOther
  simp only [List.isEmpty_nil, bind_assoc]; unfold Builtin.Frozenset.addrOf; unfold setAdd
  refine wpAny_bind (wpAny_pure ?_); try dsimp only
  refine wpAny_bind (wpAny_pure ?_); try dsimp only
  refine wpAny_bind (wpAny_holding (wpAny_bind (κ.pyHash hv (setG_hashed (s := { s with toks := s.toks + 1 }) hv sc R room fun z sb r => ?_))))
  show wpAny _ _ (ret Value.none) _ _ _; exact wpAny_pure ⟨_, rfl, q z sb r⟩
/-- the set of keys at a, that can be walked -/
def SetX (P : Program) (w : World) (a : Addr) (S : Key → Bool) (n : Nat) : HO := .ext fun h => SetG (mixKind P w) h a S n
theorem setX_new {P : Program} {w : World} {H : Hp} {h : Heap} {a : Addr} {S : Key → Bool} {n : Nat} (R : SetG (mixKind P w) h a S n) : ObjOk P w H h a (SetX P w a S n) := by
  have ⟨o, _, _, _, ho, _⟩ := R
  exact ⟨R, ⟨o, ho⟩, fun h1 h2 p k => SetG.keep p k⟩
/-- the set with one more -/
def put1 (P : Program) (w : World) (D : Addr) (S : Key → Bool) (n : Nat) (k : Key) : HO := SetX P w D (fun j => S j || decide (j = k)) (if S k = true then n else n + 1)
section
variable {X : Cx} {pins : List (Addr × Obj)} {σ : L2.St} {H : Hp} {s : Shared}
theorem setX_get {a : Addr} {S : Key → Bool} {n : Nat} (I : Inv X pins σ H s) (ha : H a = some (SetX X.prog X.w a S n)) : SetG (mixKind X.prog X.w) s.heap a S n := (I.hok a _ ha).1
/-- set.add of a key -/
theorem addX_ok {E : Value → Shared → Prop} {D : Addr} {S : Key → Bool} {n : Nat} {k : Key} {v : Value} {Q : Value → Shared → Prop} (I : Inv X pins σ H s) (r : RelV (kV k) v) (hD : H D = some (SetX X.prog X.w D S n)) (room : n + 1 < scanBound)
    (h : ∀ s', Inv X pins σ (upd H D (put1 X.prog X.w D S n k)) s' → Q .none s') : wpAny (model X.prog X.w) X.A (call (.builtin "set.add") [.ref D, v]) Q E s := by
  refine setG_add (kV_is r) (key_scan r) (setX_get I hD) room fun z sb new => ?_
  have ⟨o, _, _, _, ho, _⟩ := new
  exact h _ (I.write (e := D) (t' := s.toks + 1) (by rw [hD] <;> trivial) (.inl rfl) (fun b u hb hu => (sb.2 b hb).trans hu) ⟨o, ho⟩ (setX_new new))
end
/-- what a body asks that puts one key more into D -/
def bAdd (P : Program) (w : World) (D : Addr) (te : TE) : L2.St → Hp → (Hp → Prop) → Prop := fun τ H N => te τ H fun y H4 => ∃ (k : Key) (S : Key → Bool) (n : Nat), y = kV k ∧ H4 D = some (SetX P w D S n) ∧ n + 1 < scanBound ∧ N (upd H4 D (put1 P w D S n k))
theorem body_add {Y : Cx} {elt : Expr} {te : TE} {c : Code} {D : Addr} {vs : List Nat} (pe : PE Y elt te) (pins' : List (Addr × Obj)) (s : Shared) (τ : L2.St) (H : Hp) (N : Hp → Prop) (I : Inv Y pins' τ H s) (h : bAdd Y.prog Y.w D te τ H N) :
    wpAny (model Y.prog Y.w) Y.A ((eval elt Y.env >>= fun v => standAt elt.pos >>= fun _ => call (.builtin "set.add") [.ref D, v] >>= fun _ => pure ()) >>= fun _ => again c) (fun r s' => r = .again c ∧ ∃ τ' H', Inv Y pins' τ' H' s' ∧ Slots τ τ' vs ∧ N H') Y.xe s := by
  refine wpAny_bind (wpAny_bind (thn (pe.run pins' s τ H _ I h) fun v s1 ⟨y, H1, I1, r1, k, S, n, ey, hD, room, nx⟩ => wpAny_bind (wpAny_standAt (wpAny_bind ?_))))
  subst ey
  exact addX_ok I1 r1 hD room fun s2 I2 => wpAny_pure (wpAny_pure ⟨rfl, τ, _, I2, ⟨rfl, fun j v e => (wipe_some e).1⟩, nx⟩)
/-- over anything that is walked -/
theorem wk {J : It} {n : Nat} {G : Hp → Prop} {Y : Nat → Hp → V → Hp → Prop} (w : Walk J n G Y) {F : Hp → Prop} {H0 : Hp} {T : V → Hp → (Hp → Prop) → Prop} (Pv : Nat → Hp → Prop) (h0 : Pv 0 H0) (hG : ∀ i H, i ≤ n → Pv i H → G H)
    (hs : ∀ i x H H', i < n → Pv i H → Y i H x H' → T x H' (Pv (i + 1))) (hd : ∀ H, Pv n H → F H) :
    ∃ W : Nat → Nat → Hp → Prop, (∃ m, W 0 m H0) ∧ ∀ i m H, W i m H → (J.stop i H ∧ F H) ∨ (J.go i H ∧ ∃ N : Hp → Prop, (∀ H', N H' → ∃ m', m' < m ∧ W (i + 1) m' H') ∧ ∀ x H', J.yld i H x H' → T x H' N) := by
  refine ⟨fun i m H => i ≤ n ∧ m + i = n ∧ Pv i H, ⟨n, Nat.zero_le _, rfl, h0⟩, fun i m H ⟨hi, em, p⟩ => ?_⟩
  rcases Nat.lt_or_ge i n with hlt | hge
  · exact .inr ⟨w.goes i H hlt (hG i H hi p), Pv (i + 1), fun H' p' => ⟨m - 1, by omega, hlt, by omega, p'⟩, fun x H' y => hs i x H H' hlt p (w.yields i H x H' hlt (hG i H hi p) y)⟩
  · obtain rfl : i = n := Nat.le_antisymm hi hge
    exact .inl ⟨w.stops H (hG i H hi p), hd H p⟩
end Ev
set_option maxHeartbeats 4000000
namespace Ev
open PySem PySem.Spec PyProof.Rows L2
/-- an empty set, new at the heap's end -/
abbrev emptyS (w : World) : Obj := { cls := .type "set", dict := none, data := .set #[] 0 (.fresh 0 0 (!w.params.followText "set-order")) }
theorem setG_new {P : Program} {w : World} {K : Type} [DecidableEq K] {κ : KeyKind P w K} {h : Heap} : SetG κ (h.push (emptyS w)) h.objs.size (fun _ => false) 0 := by
  refine ⟨_, #[], 0, _, Heap.get?_push_size _ rfl, ⟨⟨rfl, rfl, rfl⟩, rfl⟩, ⟨fun e he => by simp at he, List.Pairwise.nil⟩, fun k => by simp, ⟨by decide, by rfl, rfl⟩, List.Pairwise.nil, ?_⟩
  show _ ∨ (!w.params.followText "set-order") = true
  cases w.params.followText "set-order" with
  | true => exact .inl rfl
  | false => exact .inr rfl
/-- {.. for tg in iter if ..}, B: what each turn's body asks, D the new set -/
def tScG (P : Program) (w : World) (wi : TI) (g : TG) (tt : TT) (B : Addr → L2.St → Hp → (Hp → Prop) → Prop) (vs : List Nat) : TE := fun σ H Q => wi σ H fun J H1 => ∀ D, H1 D = none → ∃ W : Nat → Nat → Hp → Prop, (∃ m, W 0 m (upd H1 D (SetX P w D (fun _ => false) 0))) ∧ ∀ i m H, W i m H → (J.stop i H ∧ Q (.ref D) H) ∨ (J.go i H ∧ ∃ N : Hp → Prop, (∀ H', N H' → ∃ m', m' < m ∧ W (i + 1) m' H') ∧ ∀ x H', J.yld i H x H' → g x (wipe σ vs) H' fun σ2 H2 => wipe σ2 vs = wipe σ vs ∧ tt σ2 H2 fun b H3 => if b = true then B D σ2 H3 N else N H3)
/-- what an inner clause asks -/
def bIn (P : Program) (w : World) (wi1 : TI) (g1 : TG) (tt1 : TT) (te : TE) (vs1 : List Nat) (D : Addr) : L2.St → Hp → (Hp → Prop) → Prop := fun τ H N => wi1 τ H fun J1 H4 => ∃ W1 : Nat → Nat → Hp → Prop, (∃ m, W1 0 m H4) ∧ ∀ j k H, W1 j k H → (J1.stop j H ∧ N H) ∨ (J1.go j H ∧ ∃ N1 : Hp → Prop, (∀ H', N1 H' → ∃ k', k' < k ∧ W1 (j + 1) k' H') ∧ ∀ x H', J1.yld j H x H' → g1 x (wipe τ vs1) H' fun σ3 H5 => wipe σ3 vs1 = wipe τ vs1 ∧ tt1 σ3 H5 fun b H6 => if b = true then bAdd P w D te σ3 H6 N1 else N1 H6)
/-- the block that a comprehension runs in -/
abbrev blkC (X : Cx) (s : Shared) (H : Hp) (scope : Scope) (fp : List Addr) : Cx := X.blk s H scope (compEnvC scope (cellsFrom (s.heap.objs.size + 1) scope.names (cloFrom X.env.cells scope.names [])) s.heap.objs.size X.env) fp
section
variable {X : Cx} {elt tg iter : Expr} {ifs : List Expr} {rest : List Comprehension} {scope : Scope} {own : List (Str × Nat)} {pos pos' : Pos} {wi : TI} {g : TG} {tt : TT} {B : Addr → L2.St → Hp → (Hp → Prop) → Prop}
theorem scG_core (bodyK : Addr → Addr → Env → Sem PySem.Fin) (hc : X.calm = true) (hN : X.N.Nodup) (hi : PI X tg iter wi) (ok : BlkOk X.N X.env.scope scope own)
    (hg : ∀ s H fp, PG (blkC X s H scope fp) tg g) (ht : ∀ s H fp, PTs (blkC X s H scope fp) ifs tt) (hs : ∀ x, foldedSetIterable iter X.env x = pure x)
    (hden : ∀ (it D : Addr) (env : Env), compTurn (.SetComp elt (⟨tg, iter, ifs, 0⟩ :: rest) scope pos) 0 (.ref it) (.ref D) env = oneTurn (.compLoop (.SetComp elt (⟨tg, iter, ifs, 0⟩ :: rest) scope pos) 0 (.ref it) (.ref D) env) iter.pos tg ifs (.ref it) env (bodyK it D env))
    (hb : ∀ (s0 : Shared) (H0 : Hp) (fp : List Addr) (it D : Addr) pins' s τ H (N : Hp → Prop), Inv (blkC X s0 H0 scope fp) pins' τ H s → B D τ H N →
      wpAny (model X.prog X.w) X.A (bodyK it D (blkC X s0 H0 scope fp).env) (fun r s' => r = .again (.compLoop (.SetComp elt (⟨tg, iter, ifs, 0⟩ :: rest) scope pos) 0 (.ref it) (.ref D) (blkC X s0 H0 scope fp).env) ∧ ∃ τ' H', Inv (blkC X s0 H0 scope fp) pins' τ' H' s' ∧ Slots τ τ' (own.map (·.2)) ∧ N H') (blkC X s0 H0 scope fp).xe s) :
    PE X (.SetComp elt (⟨tg, iter, ifs, 0⟩ :: rest) scope pos) (tScG X.prog X.w wi g tt B (own.map (·.2))) := by
  refine ⟨fun pins s σ H Q I h => ?_⟩
  show wpAny _ _ (comprehension (.SetComp elt (⟨tg, iter, ifs, 0⟩ :: rest) scope pos) scope X.env _ (newSet (.type "set")) false (eval iter X.env) none) _ _ _
  have free : ∀ y ∈ scope.names, y.2 = .free → ∃ c, X.env.cells.lookup y.1 = some c := fun y hy e => (ok.free y hy e).elim (fun k => I.ok.has _ (.inl k)) fun k => I.ok.has _ (.inr k)
  refine wpAny_comprehension_free (use := none) rfl hs (closure_ok free) ok.kind (fun y hy e => by rw [ok.uniq y hy, e]) (thn (hi.run pins s σ H _ I h) fun xv s1 hx => thn hx fun itv s2 ⟨it, fp, tn, J, H2, eit, I2, T, t2, f2, q⟩ => PpSet.newSet_ok (newEnv_comp ?_))
  subst eit
  have fresh : H2 s2.heap.objs.size = none := I2.hok.fresh (Nat.le_refl _)
  obtain ⟨W, ⟨m0, w0⟩, turn⟩ := q _ fresh
  have old : ∀ b ∈ fp, b < s2.heap.objs.size := fun b hb => let ⟨o, e, _⟩ := T.obj _ _ t2 b hb; Heap.lt_size e
  -- with the new set
  obtain ⟨D, eD⟩ : ∃ D, s2.heap.objs.size = D := ⟨_, rfl⟩
  obtain ⟨s3, e3⟩ : ∃ s3 : Shared, s3 = { s2 with heap := s2.heap.push (emptyS X.w) } := ⟨_, rfl⟩
  have h3 : s3.heap = s2.heap.push (emptyS X.w) := by rw [e3]
  obtain ⟨H3, eH⟩ : ∃ H3, H3 = upd H2 s2.heap.objs.size (SetX X.prog X.w s2.heap.objs.size (fun _ => false) 0) := ⟨_, rfl⟩
  have I3 : Inv X pins σ H3 s3 := by
    rw [eH, e3]
    exact I2.laid (t' := s2.toks) (fun b o e => Heap.get?_push_of_some _ e) (Nat.le_refl _) (setX_new setG_new)
  have f3 : ∀ b ∈ fp, FpOk X pins H3 b ∧ b < s3.heap.objs.size := fun b hb => by
    have lt := old b hb
    refine ⟨⟨?_, (f2 b hb).2⟩, by rw [h3, Heap.size_push] <;> exact Nat.lt_succ_of_lt lt⟩
    rw [eH, upd_ne (Nat.ne_of_lt lt)] <;> exact (f2 b hb).1
  have t3 : tn 0 s3.heap := T.keep _ _ _ t2 fun b _ o e => by rw [h3] <;> exact Heap.get?_push_of_some _ e
  rw [← eH] at w0
  rw [eD] at turn
  show codeAny _ _ (.compStart (.SetComp elt (⟨tg, iter, ifs, 0⟩ :: rest) scope pos) 0 (.ref it) (.ref s2.heap.objs.size) _) (compPost _ _ _ _ _ (.ref s2.heap.objs.size) _) _
  rw [eD]
  have I4 := block_start I3 ok hN f3
  have goal : codeAny (model X.prog X.w) X.A (.compStart (.SetComp elt (⟨tg, iter, ifs, 0⟩ :: rest) scope pos) 0 (.ref it) (.ref D) (blkC X s3 H3 scope fp).env) (compPost (model X.prog X.w) X.A X.xe none (EP X pins σ Q) (.ref D) s3.heap.objs.size) { s3 with heap := pushCells (s3.heap.push { cls := .type "dict", data := .dict #[] }) scope.names } := by
    have t4 : tn 0 ({ s3 with heap := pushCells (s3.heap.push { cls := .type "dict", data := .dict #[] }) scope.names } : Shared).heap := T.keep _ _ _ t3 fun b _ o e => pushCells_keeps _ _ _ _ (Heap.get?_push_of_some _ e)
    revert I4 t4
    generalize ({ s3 with heap := pushCells (s3.heap.push { cls := .type "dict", data := .dict #[] }) scope.names } : Shared) = s4
    intro I4 t4
    have stat : ∀ {H' : Hp}, (∀ b ∈ fp, H' b = none) → ∀ b ∈ fp, FpOk (blkC X s3 H3 scope fp) [] H' b := fun hn b hb =>
      ⟨hn b hb, (I4.ok.exf b hb).1, I4.ok.exfs b hb, .inl hb, fun x c e => (I4.ok.exf b hb).2 x c e, fun p hp => nomatch (show p ∈ ([] : List (Addr × Obj)) from hp)⟩
    have loop := loop_any (Y := blkC X s3 H3 scope fp) (e := .SetComp elt (⟨tg, iter, ifs, 0⟩ :: rest) scope pos) (ci := 0) (it := it) (acc := .ref D) (ip := iter.pos) (body := bodyK it D (blkC X s3 H3 scope fp).env) (R := compPost (model X.prog X.w) X.A X.xe none (EP X pins σ Q) (.ref D) s3.heap.objs.size) (σ := σ) (vs := own.map (·.2)) (pins := []) (B D)
      (by show (compTurn _ 0 (.ref it) (.ref D) _).onRaise _ = _; rw [hden]) rfl rfl hc T (hg s3 H3 fp) (ht s3 H3 fp) (fun _ _ z => z) (fun pins' s τ H N _ I' b => hb s3 H3 fp it D pins' s τ H N I' b) stat W (fun H => Q (.ref D) H) turn (fun s' H' I' qq => ?_) m0 s4 H3 w0 I4 t4 (fun b hb => (f3 b hb).1.1)
    · exact PpSet.codeAny_compStart_set loop (T.self X.A 0 _ _ _ t4 loop)
    · have J' : Inv X pins σ H' s' := I3.call' (ch := fp) I'.os I'.base I'.hok I'.bare fun b hb => let z := (f3 b hb).1.2; ⟨z.2.2.1, z.1, z.2.2.2.1, z.2.2.2.2⟩
      obtain ⟨m, hm, _⟩ := I'.loc
      have f := I3.fpOk (H' := H') (Nat.le_refl _) I'.free
      exact ⟨m, hm, fun z sb => ⟨.ref D, H', J'.turned (t' := s'.toks) (fun b o hb e => (sb.2 b hb).trans e) f.1 f.2.1 f.2.2.2.1 f.2.2.2.2.1 f.2.2.2.2.2, rfl, qq⟩⟩
  subst e3
  exact goal
/-- one clause -/
theorem pe_sc1 {te : TE} (hc : X.calm = true) (hN : X.N.Nodup) (hi : PI X tg iter wi) (ok : BlkOk X.N X.env.scope scope own) (hg : ∀ s H fp, PG (blkC X s H scope fp) tg g) (ht : ∀ s H fp, PTs (blkC X s H scope fp) ifs tt) (he : ∀ s H fp, PE (blkC X s H scope fp) elt te)
    (hs : ∀ x, foldedSetIterable iter X.env x = pure x := by intro _; rfl) : PE X (.SetComp elt [⟨tg, iter, ifs, 0⟩] scope pos) (tScG X.prog X.w wi g tt (fun D => bAdd X.prog X.w D te) (own.map (·.2))) :=
  scG_core (B := fun D => bAdd X.prog X.w D te) _ hc hN hi ok hg ht hs (fun it D env => turn_set1 elt tg iter ifs scope pos (.ref it) (.ref D) env) fun s0 H0 fp it D pins' s τ H N I b => body_add (Y := blkC X s0 H0 scope fp) (he s0 H0 fp) pins' s τ H N I b
end
end Ev
set_option maxHeartbeats 4000000
namespace Ev
open PySem PySem.Spec PyProof.Rows L2
theorem start_in {prog : Program} {w : World} {A : Around} {R : Result → Shared → Prop} {s : Shared} {env : Env} {elt t0 i0 t1 i1 : Expr} {ifs0 ifs1 : List Expr} {scope : Scope} {pos : Pos} {it acc : Value}
    (h0 : codeAny (model prog w) A (.compLoop (.SetComp elt [⟨t0, i0, ifs0, 0⟩, ⟨t1, i1, ifs1, 0⟩] scope pos) 1 it acc env) R s)
    (h : wpAny (model prog w) A (pyIter it) (fun j s' => codeAny (model prog w) A (.compLoop (.SetComp elt [⟨t0, i0, ifs0, 0⟩, ⟨t1, i1, ifs1, 0⟩] scope pos) 1 j acc env) R s') (notedBy (model prog w) A env fun x s' => R (.error x) s') s) :
    codeAny (model prog w) A (.compStart (.SetComp elt [⟨t0, i0, ifs0, 0⟩, ⟨t1, i1, ifs1, 0⟩] scope pos) 1 it acc env) R s := by
  refine codeAny_of_tree ?_
  show wpAny _ _ ((compStart _ 1 it acc env).onRaise (fun x => do noteFrame x env; standAt theWindowsPlace)) _ _ s
  refine wpAny_notedAt ?_; unfold compStart
  show wpAny _ _ (ask >>= _) _ _ s
  refine wpAny_bind (wpAny_askSetting (wpAny_ite ?_)); split
  · first | exact wpAny_bind (wpAny_pure (wpAny_pure ⟨rfl, h0⟩)) | exact wpAny_pure ⟨rfl, h0⟩
  · have go : ∀ {W : PySem.Fin → Shared → Prop}, (∀ j s', codeAny (model prog w) A (.compLoop (.SetComp elt [⟨t0, i0, ifs0, 0⟩, ⟨t1, i1, ifs1, 0⟩] scope pos) 1 j acc env) R s' → W (.again (.compLoop (.SetComp elt [⟨t0, i0, ifs0, 0⟩, ⟨t1, i1, ifs1, 0⟩] scope pos) 1 j acc env)) s') → wpAny (model prog w) A (pyIter it >>= fun j => again (.compLoop (.SetComp elt [⟨t0, i0, ifs0, 0⟩, ⟨t1, i1, ifs1, 0⟩] scope pos) 1 j acc env)) W (notedBy (model prog w) A env fun x s' => R (.error x) s') s := fun k => wpAny_bind (wpAny_mono h (fun j s' z => wpAny_pure (k j s' z)) fun _ _ x => x)
    refine wpAny_bind (wpAny_rule ?_)
    show wpAny _ _ (standAt i1.pos >>= _) _ _ s
    exact wpAny_bind (wpAny_standAt (go fun j s' z => ⟨rfl, z⟩))
section
variable {X : Cx} {elt tg iter tg1 iter1 : Expr} {ifs ifs1 : List Expr} {scope : Scope} {own : List (Str × Nat)} {vs1 : List Nat} {pos : Pos} {wi wi1 : TI} {g g1 : TG} {tt tt1 : TT} {te : TE}
theorem body_in (hc : X.calm = true) (hv : ∀ i ∈ vs1, i ∈ own.map (·.2)) (hi1 : ∀ s H fp, PI (blkC X s H scope fp) tg1 iter1 wi1) (hg1 : ∀ s H fp, PG (blkC X s H scope fp) tg1 g1) (ht1 : ∀ s H fp, PTs (blkC X s H scope fp) ifs1 tt1) (he : ∀ s H fp, PE (blkC X s H scope fp) elt te) (hs1 : ∀ env x, foldedSetIterable iter1 env x = pure x)
    (s0 : Shared) (H0 : Hp) (fp : List Addr) (it D : Addr) pins' s τ H (N : Hp → Prop) (I : Inv (blkC X s0 H0 scope fp) pins' τ H s) (b : bIn X.prog X.w wi1 g1 tt1 te vs1 D τ H N) :
    wpAny (model X.prog X.w) X.A (eval iter1 (blkC X s0 H0 scope fp).env >>= fun x => standAt iter1.pos >>= fun _ => foldedSetIterable iter1 (blkC X s0 H0 scope fp).env x >>= fun x => holding [x] (pyIter x) >>= fun j => runOwn (.compStart (.SetComp elt [⟨tg, iter, ifs, 0⟩, ⟨tg1, iter1, ifs1, 0⟩] scope pos) 1 j (.ref D) (blkC X s0 H0 scope fp).env) (blkC X s0 H0 scope fp).env >>= fun _ => again (.compLoop (.SetComp elt [⟨tg, iter, ifs, 0⟩, ⟨tg1, iter1, ifs1, 0⟩] scope pos) 0 (.ref it) (.ref D) (blkC X s0 H0 scope fp).env))
      (fun r s' => r = .again (.compLoop (.SetComp elt [⟨tg, iter, ifs, 0⟩, ⟨tg1, iter1, ifs1, 0⟩] scope pos) 0 (.ref it) (.ref D) (blkC X s0 H0 scope fp).env) ∧ ∃ τ' H', Inv (blkC X s0 H0 scope fp) pins' τ' H' s' ∧ Slots τ τ' (own.map (·.2)) ∧ N H') (blkC X s0 H0 scope fp).xe s := by
  refine wpAny_bind (thn ((hi1 s0 H0 fp).run pins' s τ H _ I b) fun x s1 hx => wpAny_bind (wpAny_standAt (wpAny_bind (wpAny_of_eq (hs1 _ x) (wpAny_bind (wpAny_holding (thn hx fun j s2 h2 => ?_)))))))
  obtain ⟨it1, fp1, tn1, J1, H2, ej, I2, T1, t2, f2, W1, ⟨m1, w1⟩, turn1⟩ := h2
  subst ej
  have loop := loop_any (Y := blkC X s0 H0 scope fp) (e := .SetComp elt [⟨tg, iter, ifs, 0⟩, ⟨tg1, iter1, ifs1, 0⟩] scope pos) (ci := 1) (it := it1) (acc := .ref D) (ip := iter1.pos) (R := fun r s' => match r with | .ok _ => ∃ τ' H', Inv (blkC X s0 H0 scope fp) pins' τ' H' s' ∧ Slots τ τ' (own.map (·.2)) ∧ N H' | .error _ => False) (σ := τ) (vs := vs1) (pins := pins') (bAdd X.prog X.w D te)
    (by show (compTurn _ 1 (.ref it1) (.ref D) _).onRaise _ = _; rw [turn_set2i]) rfl rfl hc T1 (hg1 s0 H0 fp) (ht1 s0 H0 fp) (fun _ _ z => z) (fun pins' s τ H N _ I' b => body_add (Y := blkC X s0 H0 scope fp) (he s0 H0 fp) pins' s τ H N I' b) (fun hn b hb => ⟨hn b hb, (f2 b hb).2⟩) W1 N turn1 (fun s' H' I' nx => ⟨wipe τ vs1, H', I', ⟨wipe_length τ vs1, fun i v e => ?_⟩, nx⟩) m1 s2 H2 w1 (I2.weak (wipe_length _ _) fun i v e => (wipe_some e).1) t2 (fun b hb => (f2 b hb).1)
  · refine wpAny_bind (wpAny_runOwn ?_)
    rw [Around.mark_none]
    refine codeAny_mono (start_in loop (T1.self X.A 0 _ _ _ t2 loop)) fun r s' hr => ?_
    cases r with
    | ok f => first | exact wpAny_pure ⟨rfl, hr⟩ | exact wpAny_bind (wpAny_pure (wpAny_pure ⟨rfl, hr⟩))
    | error x => exact hr.elim
  · obtain ⟨e1, e2⟩ := wipe_some e
    rw [wipe_out fun z => e2 (hv i z)] <;> exact e1
/-- two clauses -/
theorem pe_sc2 (hc : X.calm = true) (hN : X.N.Nodup) (hi : PI X tg iter wi) (ok : BlkOk X.N X.env.scope scope own) (hv : ∀ i ∈ vs1, i ∈ own.map (·.2)) (hg : ∀ s H fp, PG (blkC X s H scope fp) tg g) (ht : ∀ s H fp, PTs (blkC X s H scope fp) ifs tt)
    (hi1 : ∀ s H fp, PI (blkC X s H scope fp) tg1 iter1 wi1) (hg1 : ∀ s H fp, PG (blkC X s H scope fp) tg1 g1) (ht1 : ∀ s H fp, PTs (blkC X s H scope fp) ifs1 tt1) (he : ∀ s H fp, PE (blkC X s H scope fp) elt te)
    (hs : ∀ x, foldedSetIterable iter X.env x = pure x := by intro _; rfl) (hs1 : ∀ env x, foldedSetIterable iter1 env x = pure x := by intro _ _; rfl) :
    PE X (.SetComp elt [⟨tg, iter, ifs, 0⟩, ⟨tg1, iter1, ifs1, 0⟩] scope pos) (tScG X.prog X.w wi g tt (bIn X.prog X.w wi1 g1 tt1 te vs1) (own.map (·.2))) :=
  scG_core (B := bIn X.prog X.w wi1 g1 tt1 te vs1) _ hc hN hi ok hg ht hs (fun it D env => turn_set2o elt tg iter tg1 iter1 ifs ifs1 scope pos (.ref it) (.ref D) env) (body_in hc hv hi1 hg1 ht1 he hs1)
end
end Ev
set_option maxHeartbeats 4000000
/-! set(xs), xs a list of numbers and texts -/
namespace Ev
open PySem PySem.Spec PyProof.Rows L2
section
variable {P : Program} {w : World} {A : Around} {E : Value → Shared → Prop} {s : Shared}
theorem setG_like {K : Type} [DecidableEq K] {κ : KeyKind P w K} {h : Heap} {a : Addr} {S T : K → Bool} {n : Nat} (R : SetG κ h a S n) (e : ∀ k, S k = T k) : SetG κ h a T n := by
  have : S = T := funext e
  rw [← this]; exact R
theorem setG_upd {K : Type} [DecidableEq K] {κ : KeyKind P w K} {I : Addr} {fp wr : List Addr} {G : Array GenState → Array GenState → Prop} {n : Nat} {Pv : Nat → Value → Prop} {St : Nat → Shared → Prop} {R : Result → Shared → Prop}
    (W : WalksS P w A.in1 I fp wr G n Pv St) (D : Addr) (out : D ∉ fp) (ks : List K) (hn : n = ks.length) (hb : ks.length + 1 < scanBound) (hval : ∀ i v, Pv i v → ∃ k, ks[i]? = some k ∧ κ.is k v = true ∧ v.scannable = true) :
    ∀ (d i : Nat) (s : Shared), n - i = d → i ≤ n → St i s → (∃ c, c ≤ i ∧ SetG κ s.heap D (fun j => decide (j ∈ ks.take i)) c) →
      (∀ s' c, Moved (D :: wr) G s s' → c ≤ n → SetG κ s'.heap D (fun j => decide (j ∈ ks)) c → R (.ok (.ret .none)) s') →
      codeAny (model P w) A (.builtin "set.update.loop" ⟨[.ref D, .ref I], []⟩) R s := by
  have outw : D ∉ wr := fun h => out (W.sub _ h)
  have more : ∀ b ∈ wr, b ∈ D :: wr := fun b => List.mem_cons_of_mem _
  intro d
  induction d with
  | zero =>
    intro i s hd hi hst ⟨c, hc, hS⟩ hR
    have hin : i = n := by omega
    subst hin
    refine codeAny_builtin F.entry_set_update_loop ?_; rw [Around.under_plainId F.plain_set_update_loop _]
    refine wpAny_bind (m := pyNext (.ref I)) (W.done s _ _ hst fun s' hm => (?_ : wpAny _ A.in1 (ret Value.none) _ _ s'))
    have hS := setG_like hS (T := fun j => decide (j ∈ ks)) fun j => by rw [List.take_of_length_le (by omega)]
    exact wpAny_pure (hR s' c (hm.mono more) hc (hS.keep fun o e => hm.heap D o outw e))
  | succ d ih =>
    intro i s hd hi hst ⟨c, hc, hS⟩ hR
    have hlt : i < n := by omega
    refine codeAny_builtin F.entry_set_update_loop ?_; rw [Around.under_plainId F.plain_set_update_loop _]
    refine wpAny_bind (m := pyNext (.ref I)) (W.item i s _ _ hlt hst fun v s' hP hst' hm => ?_)
    obtain ⟨k, hk, hv, sc⟩ := hval i v hP
    have hS' := hS.keep (h' := s'.heap) fun o e => hm.heap D o outw e
    refine (?_ : wpAny _ A.in1 (holding [v] (setAdd D v) >>= _) _ _ s')
    unfold setAdd
    refine wpAny_bind (wpAny_holding (wpAny_holding (wpAny_bind (κ.pyHash hv (setG_hashed (s := { s' with toks := s'.toks + 1 }) hv sc hS' (by omega) fun z sb hS2 => ?_)))))
    have hS3 := setG_like hS2 (T := fun j => decide (j ∈ ks.take (i + 1))) fun j => by
      rw [List.take_add_one, hk]
      simp [List.mem_append]
    have hc3 : (if decide (k ∈ ks.take i) = true then c else c + 1) ≤ i + 1 := by split <;> omega
    refine wpAny_pure ⟨plainId_quiet F.plain_set_update_loop _, ih (i + 1) _ (by omega) hlt (W.frame _ s' _ _ hst' (Nat.le_succ _) fun b hb o e => (sb.2 b fun z => out (by rw [← z]; exact hb)).trans e) ⟨_, hc3, hS3⟩ fun s2 c2 hm2 hc2 hSf => hR s2 c2 ?_ hc2 hSf⟩
    exact Moved.trans W.gtrans ((hm.mono more).then_heap (Nat.le_succ _) fun b o hb e => (sb.2 b fun z => hb (by rw [z]; exact List.mem_cons_self)).trans e) hm2

theorem setG_call {K : Type} [DecidableEq K] {κ : KeyKind P w K} {l : Addr} {items : Array Value} (ks : List K) {Q : Value → Shared → Prop} (hh : A.handled = none) (hl : s.heap.IsList l items) (len : items.size = ks.length) (hb : ks.length + 1 < scanBound)
    (hval : ∀ (i : Nat) (v : Value), items[i]? = some v → ∃ k, ks[i]? = some k ∧ κ.is k v = true ∧ v.scannable = true)
    (h : ∀ (h' : Heap) (tk c : Nat) (S : K → Bool), SetG κ h' s.heap.objs.size S c → (∀ j, S j = true ↔ j ∈ ks) → c ≤ ks.length → (∀ b o, s.heap.get? b = some o → h'.get? b = some o) → Q (.ref s.heap.objs.size) { s with heap := h', toks := tk }) :
    wpAny (model P w) A (call (.type "set") [.ref l]) Q E s := by
  obtain ⟨c, tl, hmro⟩ := F.called_set.mro
  have hmade := F.called_set.made
  have hsub := F.called_set.sub
  refine wpAny_call (codeAny_of_tree (?_ : wpAny _ _ (callAny (.type "set") _) _ _ _))
  refine wpAny_pure ⟨Code.quiet_builtin _ (by decide +kernel), codeAny_builtin F.entry_type_call ?_⟩; rw [Around.under_plain (weight_type_call_type "set" [.ref l] []) rfl]
  have h1 := F.called_set.notType; have h2 := F.called_set.canCreate
  have hct := F.typeCall_set_1 (.ref l)
  (repeat (any_goals (first | assumption | wp_step)))
  have hS : (s.heap.push (emptyS w)).get? s.heap.objs.size = some (emptyS w) := Heap.get?_push_size _ rfl
  have hT : Shared.TypeIs { s with heap := s.heap.push (emptyS w) } (.ref s.heap.objs.size) "set" := ⟨_, hS, rfl⟩
  refine codeAny_mono (code_set_led1 (.ref l) (E := E) (Q₁ := fun obj s₁ => obj = .ref s.heap.objs.size ∧ s₁ = { s with heap := s.heap.push (emptyS w) }) ⟨rfl, rfl⟩) fun r s₁ hr => ?_
  cases r with
  | error e => exact hr
  | ok fl =>
    cases fl with
    | ret obj =>
      obtain ⟨rfl, rfl⟩ := hr
      have hli := F.called_set.init.lookup; have hbi := F.called_set.init.bind (.ref s.heap.objs.size)
      (repeat (any_goals (first | assumption | wp_step)))
      refine codeAny_mono (codeAny_call_builtin (R := wants (fun r s₂ => r = .none ∧ ∃ h' tk c, s₂ = { s with heap := h', toks := tk } ∧ SetG κ h' s.heap.objs.size (fun j => decide (j ∈ ks)) c ∧ c ≤ ks.length ∧
          ∀ b o, s.heap.get? b = some o → h'.get? b = some o) E) F.called_set.init.plain F.entry_set_init (check_set_init_1 hT ?_)) fun r₂ s₂ hr₂ => ?_
      · obtain ⟨ol, hol, hcl, nl, hdl⟩ := hl
        obtain ⟨ocls, odict, odata, oslots⟩ := ol
        simp only at hcl hdl
        subst hcl hdl
        have hol' : (s.heap.push (emptyS w)).get? l = some { cls := .type "list", dict := odict, data := .seq items nl, slots := oslots } := Heap.get?_push_of_some _ hol
        have hsls := F.sub_list_set; have hslf := F.sub_list_frozenset
        have hne : (Value.type "list" == Value.type "dict") = false := by decide
        have hl1 : (s.heap.push (emptyS w)).IsList l items := ⟨_, hol', rfl, nl, rfl⟩
        unfold Builtin.«set.__init__»; unfold noKeywords Builtin.Frozenset.updateFrom
        generalize hPI : pyIter = PI
        wp_walk
        subst hPI
        refine wpAny_pyIter_list hl1 (wpAny_bind (wpAny_runValue ?_))
        have hlS : l < s.heap.objs.size := Heap.lt_size hol
        have hh3 : A.in1.in1.in1.handled = none := by simp [hh]
        have hz1 : (s.heap.push (emptyS w)).objs.size = s.heap.objs.size + 1 := Heap.size_push ..
        have hneI : l ≠ (s.heap.push (emptyS w)).objs.size := Nat.ne_of_lt (by rw [hz1]; exact Nat.lt_succ_of_lt hlS)
        have out : s.heap.objs.size ∉ [(s.heap.push (emptyS w)).objs.size, l] := by
          simp only [List.mem_cons, List.mem_singleton, List.not_mem_nil, or_false, not_or]; exact ⟨Nat.ne_of_lt (by rw [hz1]; exact Nat.lt_succ_self _), Nat.ne_of_gt hlS⟩
        refine setG_upd (κ := κ) ((Walks.list hh3 _ l hneI items).toS) s.heap.objs.size out ks len hb hval (items.size - 0) 0 _ (by omega) (Nat.zero_le _) ⟨⟨_, Heap.get?_push_size _ rfl, rfl, rfl⟩, hl1.push _⟩ ?first ?last
        case first => exact ⟨0, Nat.le_refl 0, setG_like (setG_new.keep fun o e => Heap.get?_push_of_some _ e) fun j => by simp⟩
        case last =>
          intro s' c' hm hc' hS'
          obtain ⟨h', g2, d', tk', os'⟩ := s'
          obtain rfl : g2 = s.gens := hm.gens
          obtain rfl : d' = s.drawn := hm.drawn
          obtain rfl : os' = s.os := hm.os
          rw [len] at hc'
          refine wpAny_pure (?_ : wpAny _ _ (ret Value.none) _ _ _)
          refine wpAny_pure ⟨rfl, h', tk', c', rfl, hS', hc', fun b o e => ?_⟩
          have hb0 : b < s.heap.objs.size := Heap.lt_size e
          refine hm.heap b o ?_ (Heap.get?_push_of_some _ (Heap.get?_push_of_some _ e))
          simp only [List.mem_cons, List.mem_singleton, List.not_mem_nil, or_false, not_or]; exact ⟨Nat.ne_of_lt hb0, Nat.ne_of_lt (by rw [hz1]; exact Nat.lt_succ_of_lt hb0)⟩
      · cases r₂ with
        | error e => exact hr₂
        | ok fl₂ =>
          cases fl₂ with
          | ret r =>
            obtain ⟨rfl, h', tk, c', rfl, hS', hc', hk'⟩ := hr₂
            (repeat (any_goals (first | assumption | wp_step)))
            exact h _ _ _ _ hS' (fun j => decide_eq_true_iff) hc' hk'
          | _ => exact hr₂.elim
    | _ => exact hr.elim
end
section
variable {X : Cx}
/-- set(xs) of a list of keys -/
def rSetOfK (K : PySem.W.Frag) (P : Program) (w : World) : List V → Hp → VK → Prop := fun xs H Q => ∃ (l : Addr) (ks : List Key), xs = [V.ref l] ∧ SqL K H l (ks.map kV) ∧ ks.length ≤ 2000 ∧ ∀ a c S, H a = none → (∀ j, S j = true ↔ j ∈ ks) → c ≤ ks.length → Q (.ref a) (upd H a (SetX P w a S c))
theorem cr_setOfK (hc : X.calm = true) : CallR X (.type "set") (rSetOfK X.K X.prog X.w) := fun pins s σ H xs us Q I r h => by
  obtain ⟨l, ks, rfl, hl, few, q⟩ := h
  rw [Vals.ref1 r]
  obtain ⟨its, rv, pl, hz⟩ := I.list hl
  have hn : H s.heap.objs.size = none := I.hok.fresh (Nat.le_refl _)
  have el : its.length = ks.length := by rw [← rv.length, List.length_map]
  refine setG_call (κ := mixKind X.prog X.w) ks (I.ok.hd hc) pl.isList (by rw [List.size_toArray]; exact el) (by have : scanBound = 4096 := rfl; omega) (fun i v hv => ?_) fun h' tk c S R hS hc' k => ?_
  · have hv : its[i]? = some v := by simpa using hv
    have hi : i < ks.length := by rw [← el]; exact (List.getElem?_eq_some_iff.mp hv).1
    obtain ⟨u, hu, rk⟩ := Vals.get (i := i) (x := kV ks[i]) rv (by rw [List.getElem?_map, List.getElem?_eq_getElem hi]; rfl)
    rw [hv] at hu
    obtain rfl := Option.some.inj hu
    exact ⟨ks[i], List.getElem?_eq_getElem hi, kV_is rk, key_scan rk⟩
  · exact ⟨.ref s.heap.objs.size, upd H s.heap.objs.size (SetX X.prog X.w s.heap.objs.size S c), I.laid (t' := tk) k (Nat.le_refl _) (setX_new R), rfl, q _ c S hn hS hc'⟩
end
end Ev
set_option maxHeartbeats 4000000
namespace Ev
open PySem PySem.Spec PyProof.Rows L2
/-! sorted, any number: texts, and the members of a set -/
abbrev ltC (x y : Str) : Prop := x.cps.toList < y.cps.toList
def ltSv (v u : Value) : Bool := decide (ltC (strOf v) (strOf u))
theorem swo_str : SrtO.Swo ltSv := by
  refine ⟨fun x y h => decide_eq_false fun z => ?_, fun x y z h1 h2 => decide_eq_false fun h => ?_⟩
  · exact List.lt_irrefl _ (List.lt_trans (of_decide_eq_true h : ltC (strOf x) (strOf y)) z)
  · have a : ¬ ltC (strOf y) (strOf x) := of_decide_eq_false h1
    have b : ¬ ltC (strOf z) (strOf y) := of_decide_eq_false h2
    exact absurd h (List.not_lt.mpr (List.le_trans (List.not_lt.mp a) (List.not_lt.mp b)))
section
variable {prog : Program} {w : World} {A : Around} {E : Value → Shared → Prop} {s : Shared}
theorem str_cmp {vs : List Value} (hI : ∀ v ∈ vs, ∃ x t, v = Value.str x t) : SrtO.Cmp prog w A s oneType' (fun p => p.1 ∈ vs) (SrtO.lt2 ltSv) := fun p q hm hm' => by
  obtain ⟨a, t, e⟩ := hI _ hm
  obtain ⟨b, u, e'⟩ := hI _ hm'
  show wpAny (model prog w) A (keyLt' oneType' p.1 q.1) (fun r s' => s' = s ∧ r = ltSv p.1 q.1) (fun _ _ => False) s
  rw [e, e']
  exact PySem.W.kas_lt_str ⟨rfl, rfl⟩
theorem strs_sortable {a : Addr} {vs : List Value} (hI : ∀ v ∈ vs, ∃ x t, v = Value.str x t) (h2 : 2 ≤ vs.length) : SrtO.SortableO prog w A s a vs ltSv := fun h' _ => by
  refine ⟨oneType', fun Q E hq => ?_, str_cmp hI⟩
  have hS := strsAre_map vs hI
  revert hS h2
  rcases vs with _ | ⟨v, _ | ⟨u, r⟩⟩
  · intro h2; exact absurd h2 (by decide)
  · intro h2; exact absurd h2 (by simp)
  · intro h2 hS; rw [keyKind_strs hS]; exact wpAny_pure hq
theorem ints_sortable2 {a : Addr} {vs : List Value} (hI : ∀ v ∈ vs, ∃ i t, v = Value.int i t) (h2 : 2 ≤ vs.length) : SrtO.SortableO prog w A s a vs SrtO.ltIv := SrtO.ints_sortable (SrtO.ints_iv hI) h2
/-- sorted of a set: its members by ltv, at a new place -/
theorem sorted_setG {K : Type} [DecidableEq K] {κ : KeyKind prog w K} {a : Addr} {S : K → Bool} {n : Nat} {ltv : Value → Value → Bool} {Q : Value → Shared → Prop} (O : SrtO.Swo ltv) (R : SetG κ s.heap a S n) (hh : A.handled = none)
    (so : ∀ (vs : List Value), (∀ v ∈ vs, ∃ k, κ.is k v = true ∧ S k = true) → 2 ≤ vs.length → ∀ (A' : Around) (z : Shared) (d : Addr), SrtO.SortableO prog w A' z d vs ltv)
    (q : ∀ (z : Shared) (p : Addr) (out : List Value) (c : Nat), (∀ b o, s.heap.get? b = some o → z.heap.get? b = some o) → z.gens = s.gens → z.os = s.os → s.heap.objs.size ≤ p → z.heap.get? p = some (seqObj "list" out.toArray c) → SrtO.Srtd ltv out →
      (∀ v ∈ out, ∃ k, κ.is k v = true ∧ S k = true) → (∀ k, S k = true → ∃ v ∈ out, κ.is k v = true) → out.Pairwise (fun u v => ∀ k, κ.is k u = true → κ.is k v = true → False) → out.length = n → Q (.ref p) z) :
    wpAny (model prog w) A (call (.builtin "sorted") [.ref a]) Q E s := by
  obtain ⟨o, es, ep, t, ho, ⟨xs, hd⟩, ⟨hel, nd⟩, hm, ⟨hb, hf, hn⟩, hr, hl⟩ := R
  refine Calls.call_function_entry kind_sorted plain_sorted entry_sorted (args_sorted1 _) ?_; unfold Builtin.«sorted»
  refine wpAny_bind (m := checkCount "sorted" 1 1 _) (wpAny_pure (wpAny_bind (collect_set (A := A.in1) hh ⟨o, ho, xs.1, hd⟩ hf hb hr hl fun s1 vs k1 hz g1 o1 pm => ?_)))
  have len : vs.length = n := by rw [pm.length_eq, List.length_map, Array.length_toList] <;> exact hn
  have small : vs.length ≤ sizeLine := by rw [len, ← hn] <;> exact fits_of_scanBound hb
  have mem : ∀ v ∈ vs, ∃ k, κ.is k v = true ∧ S k = true := fun v hv => by
    obtain ⟨e, he, ev⟩ := List.mem_map.mp (pm.mem_iff.mp hv)
    obtain ⟨⟨k, hk, _⟩, _⟩ := hel e he
    exact ⟨k, by rw [← ev] <;> exact hk, (hm k).mpr ⟨e, he, hk⟩⟩
  have all : ∀ k, S k = true → ∃ v ∈ vs, κ.is k v = true := fun k hk => let ⟨e, he, z⟩ := (hm k).mp hk; ⟨e.2, pm.mem_iff.mpr (List.mem_map.mpr ⟨e, he, rfl⟩), z⟩
  have apart : vs.Pairwise (fun u v => ∀ k, κ.is k u = true → κ.is k v = true → False) := List.Perm.pairwise pm.symm (List.pairwise_map.mpr nd) fun {u v} z k h1 h2 => z k h2 h1
  refine wpAny_bind (wpAny_newList ?_ small)
  have hoL : (s1.heap.push (seqObj "list" vs.toArray 0)).get? s1.heap.objs.size = some (seqObj "list" vs.toArray 0) := Heap.get?_push_size _ rfl
  refine wpAny_bind (wpAny_holding (wpAny_call_entry slot_list_sort ⟨_, hoL, rfl⟩ entry_list_sort (SrtO.list_sort_ord O hoL small (fun h2 => so vs mem h2 _ _ _) fun out h1 h2 => ⟨_, rfl, ?_⟩) (args_list_sort _)))
  obtain ⟨c, hc⟩ := sortedHeap_at (vs := vs) (out := out.toArray) hoL
  have p2 : out.Perm vs := h2.perm
  refine wpAny_pure ⟨_, rfl, q _ s1.heap.objs.size out c (fun b u e => ?_) g1 o1 hz hc h1 (fun v hv => mem v (p2.mem_iff.mp hv)) (fun k hk => let ⟨v, hv, z⟩ := all k hk; ⟨v, p2.mem_iff.mpr hv, z⟩) (List.Perm.pairwise p2.symm apart fun {u v} z k h1 h2 => z k h2 h1) (by rw [p2.length_eq] <;> exact len)⟩
  have e1 := k1 b u e
  have lt := Heap.lt_size e1
  show (sortedHeap (s1.heap.push (seqObj "list" vs.toArray 0)) s1.heap.objs.size vs out.toArray).get? b = some u
  rw [sortedHeap_old (Nat.ne_of_lt lt) (by rw [size_push'] <;> exact Nat.lt_succ_of_lt lt)]; exact Heap.get?_push_of_some _ e1
end
section
variable {X : Cx}
/-- sorted(xs), texts, any number of them -/
def rSortedTx (K : PySem.W.Frag) : List V → Hp → VK → Prop := fun vs H Q => ∃ (a : Addr) (ss : List Str), vs = [V.ref a] ∧ SqL K H a (ss.map V.str) ∧ ∀ (zs : List Str) (p : Addr), zs.Perm ss → zs.Pairwise (fun x y => ¬ ltC y x) → H p = none → Q (.ref p) (upd H p (.lst (zs.map V.str)))
theorem vals_strs : ∀ {out : List Value}, (∀ v ∈ out, ∃ x t, v = Value.str x t) → Vals ((out.map strOf).map V.str) out
  | [], _ => .nil
  | v :: out, h => by
    obtain ⟨x, t, e⟩ := h v List.mem_cons_self
    subst e
    exact .cons ⟨t, rfl⟩ (vals_strs fun u hu => h u (List.mem_cons_of_mem _ hu))
theorem strs_vals : ∀ {ss : List Str} {us : List Value}, Vals (ss.map V.str) us → (∀ v ∈ us, ∃ x t, v = Value.str x t) ∧ us.map strOf = ss
  | [], _, .nil => ⟨fun v h => absurd h (by simp), rfl⟩
  | z :: ss, _, .cons r t => by
    obtain ⟨tk, rfl⟩ := r
    obtain ⟨h1, h2⟩ := strs_vals t
    exact ⟨fun v hv => (List.mem_cons.mp hv).elim (fun e => ⟨z, tk, e⟩) (h1 v), congrArg (z :: ·) h2⟩
theorem cr_sortedTx : CallR X (.builtin "sorted") (rSortedTx X.K) := fun pins s σ H vs us Q I r h => by
  obtain ⟨a, ss, rfl, hs, q⟩ := h
  obtain ⟨its, rv, hl, hz⟩ := I.list hs
  rw [Vals.ref1 r]
  obtain ⟨hI, es⟩ := strs_vals rv
  have lz : its.length ≤ sizeLine := by rw [← rv.length] <;> exact hz
  refine SrtO.sorted_ord swo_str hl.isList lz (fun h2 h₁ a' _ _ => strs_sortable hI h2) fun out h1 h2 => ?_
  obtain ⟨ep, he⟩ := PyProof.Rows.sortedAll_at s.heap its out.toArray
  have hO : ∀ v ∈ out, ∃ x t, v = Value.str x t := fun v hv => hI v (h2.perm.mem_iff.mp hv)
  have lo : ((out.map strOf).map V.str).length ≤ sizeLine := by rw [List.length_map, List.length_map, h2.perm.length_eq] <;> exact lz
  refine ⟨.ref _, upd H (s.heap.objs.size + 1) (.lst ((out.map strOf).map V.str)), I.laid (t' := s.toks) (fun _ _ => PyProof.Rows.sortedAll_old) (Nat.le_succ _) ⟨lo, out, ep, vals_strs hO, he⟩, rfl, q _ _ ?_ ?_ (I.hok.fresh (Nat.le_succ _))⟩
  · rw [← es] <;> exact h2.perm.map strOf
  · exact List.pairwise_map.mpr (h1.imp fun {x y} h => of_decide_eq_false h)
/-- sorted(s), s a set of texts: ascending -/
def rSortedSx (P : Program) (w : World) : List V → Hp → VK → Prop := fun vs H Q => ∃ (a : Addr) (S : Key → Bool) (n : Nat), vs = [V.ref a] ∧ H a = some (SetX P w a S n) ∧ (∀ k, S k = true → ∃ z, k = Sum.inr z) ∧
  ∀ (zs : List Str) (p : Addr), zs.Pairwise ltC → (∀ z, z ∈ zs ↔ S (Sum.inr z) = true) → zs.length = n → H p = none → Q (.ref p) (upd H p (.lst (zs.map V.str)))
theorem ltC_str {x y : Str} (h : ¬ ltC y x) (ne : x ≠ y) : ltC x y := by
  rcases Decidable.em (ltC x y) with z | z
  · exact z
  · refine absurd ?_ ne
    have e : x.cps.toList = y.cps.toList := List.le_antisymm (List.not_lt.mp h) (List.not_lt.mp z)
    cases x; cases y; exact congrArg Str.mk (Array.toList_inj.mp e)
theorem cr_sortedSx (hc : X.calm = true) : CallR X (.builtin "sorted") (rSortedSx X.prog X.w) := fun pins s σ H vs us Q I r h => by
  obtain ⟨a, S, n, rfl, ha, hS, q⟩ := h
  rw [Vals.ref1 r]
  have isS : ∀ v, (∃ k, (mixKind X.prog X.w).is k v = true ∧ S k = true) → ∃ x t, v = Value.str x t ∧ S (.inr x) = true := fun v ⟨k, h1, h2⟩ => by
    obtain ⟨z, rfl⟩ := hS k h2
    rcases keyIs_shape (show keyIs (.inr z) v = true from h1) with ⟨i, t, e1, e2⟩ | ⟨x, t, e1, e2⟩
    · cases e1
    · cases e1; exact ⟨z, t, e2, h2⟩
  refine sorted_setG swo_str (setX_get I ha) (I.ok.hd hc) (fun vs mem h2 A' z d => strs_sortable (fun v hv => let ⟨x, t, e, _⟩ := isS v (mem v hv); ⟨x, t, e⟩) h2) fun z p out c k g o hp hg hs mem all ap hl => ?_
  have hO : ∀ v ∈ out, ∃ x t, v = Value.str x t ∧ S (.inr x) = true := fun v hv => isS v (mem v hv)
  have hV := vals_strs fun v hv => let ⟨x, t, e, _⟩ := hO v hv; ⟨x, t, e⟩
  have lo : ((out.map strOf).map V.str).length ≤ sizeLine := by
    obtain ⟨o, es, ep, t, ho, _, _, _, ⟨hb, hf, hn⟩, _⟩ := setX_get I ha
    rw [List.length_map, List.length_map, hl, ← hn] <;> exact fits_of_scanBound hb
  have hn : H p = none := I.hok.fresh hp
  have J : Inv X pins σ (upd H p (.lst ((out.map strOf).map V.str))) z := I.call' (ch := []) o (Un.laid k hp hn) (I.hok.laid k hp ⟨lo, out, c, hV, hg⟩) (by rw [g] <;> exact I.bare) (fun _ z => nomatch z)
  refine ⟨.ref p, _, J, rfl, q _ p ?_ (fun y => ⟨fun hy => ?_, fun hy => ?_⟩) (by rw [List.length_map] <;> exact hl) hn⟩
  · refine List.pairwise_map.mpr (List.Pairwise.imp_of_mem (fun {u v} hu hv w => ?_) (hs.and ap))
    obtain ⟨x, t, rfl, _⟩ := hO u hu
    obtain ⟨y, t', rfl, _⟩ := hO v hv
    refine ltC_str (of_decide_eq_false w.1) fun e => w.2 (.inr x) (mixKind_str _ _ x t) ?_
    have e : x = y := e
    rw [e] <;> exact mixKind_str _ _ y t'
  · obtain ⟨v, hv, rfl⟩ := List.mem_map.mp hy
    obtain ⟨x, t, rfl, z⟩ := hO v hv
    exact z
  · obtain ⟨v, hv, z⟩ := all _ hy
    obtain ⟨x, t, rfl, _⟩ := hO v hv
    refine List.mem_map.mpr ⟨_, hv, ?_⟩
    have := (mixKind X.prog X.w).inj _ _ _ z (mixKind_str X.prog X.w x t)
    exact (Sum.inr.inj this).symm
/-- len(s) of a set -/
def rLenSx (P : Program) (w : World) : List V → Hp → VK → Prop := fun vs H Q => ∃ (a : Addr) (S : Key → Bool) (n : Nat), vs = [V.ref a] ∧ H a = some (SetX P w a S n) ∧ Q (.int (n : Nat)) H
theorem cr_lenSx : CallR X (.builtin "len") (rLenSx X.prog X.w) := fun pins s σ H vs us Q I r h => by
  obtain ⟨a, S, n, rfl, ha, q⟩ := h
  rw [Vals.ref1 r]
  obtain ⟨o, es, ep, t, ho, ⟨xs, hd⟩, _, _, ⟨hb, hf, hn⟩, _⟩ := setX_get I ha
  subst hn
  have lz : es.size ≤ 16777216 := fits_of_scanBound hb
  exact call_len_set ho xs hd hf (by omega) ⟨.int (es.size : Nat), H, I.tok _, ⟨_, rfl⟩, q⟩
end
end Ev
set_option maxHeartbeats 4000000
namespace LawK
open PySem PySem.Spec PyProof.Rows L2 Ev

/-- a part as it is drawn -/
def PgAt (H : Hp) (v : V) (p : Prt) : Prop := PrtAt H v p ∧ p.Ok
theorem PgAt.same {H H' : Hp} (k : Same H H') {v : V} {o : Prt} (h : PgAt H v o) : PgAt H' v o := ⟨h.1.same k, h.2⟩
theorem PgAt.but {H H' : Hp} {p l : Addr} (h0 : HandL H p l) (b : But p l H H') {v : V} {o : Prt} (h : PgAt H v o) : PgAt H' v o := by
  obtain ⟨⟨a, e, h⟩, ok⟩ := h
  exact ⟨⟨a, e, b _ _ (tup_ne h0 h) h⟩, ok⟩
theorem one_signs : ∀ (zs : List Str), (∀ z ∈ zs, ∃ c, z = SX.S [c] ∧ sgC c = true) → ∃ cs : List Nat, zs = cs.map (fun c => SX.S [c]) ∧ ∀ c ∈ cs, sgC c = true
  | [], _ => ⟨[], rfl, fun c h => absurd h List.not_mem_nil⟩
  | z :: zs, h => by
    obtain ⟨c, rfl, hc⟩ := h z List.mem_cons_self
    obtain ⟨cs, rfl, hs⟩ := one_signs zs fun z hz => h z (List.mem_cons_of_mem _ hz)
    refine ⟨c :: cs, rfl, fun d hd => ?_⟩
    rcases List.mem_cons.mp hd with e | e
    · rw [e]; exact hc
    · exact hs d e
theorem one_lt {c d : Nat} (h : ltC (SX.S [c]) (SX.S [d])) : c < d := by
  have h : [c] < [d] := h
  rcases List.cons_lt_cons_iff.mp h with e | ⟨_, e⟩
  · exact e
  · exact absurd e (List.not_lt_nil _)
theorem All2.unsnoc {α β : Type} {R : α → β → Prop} {x : α} {y : β} : ∀ {xs : List α} {ys : List β}, All2 R (xs ++ [x]) (ys ++ [y]) → All2 R xs ys ∧ R x y
  | [], [], h => by cases h with | cons r t => exact ⟨.nil, r⟩
  | [], b :: ys, h => by
    have := h.len
    simp at this
  | a :: xs, [], h => by
    have := h.len
    simp at this
  | a :: xs, b :: ys, h => by
    cases h with
    | cons r t =>
      obtain ⟨t1, t2⟩ := All2.unsnoc t
      exact ⟨.cons r t1, t2⟩

theorem one_sum (cs : List Nat) : ((cs.map fun c => SX.S [c]).map (·.length)).sum = cs.length := by
  induction cs with
  | nil => rfl
  | cons c cs ih =>
    simp only [List.map_cons, List.sum_cons, List.length_cons, ih]
    have : (SX.S [c]).length = 1 := rfl
    omega
def spPrt : Sp := fun vs H Q _ => ∃ (p : Addr) (z : Str) (b : Bool), vs = [.ref p, .str z, .bl b] ∧ sgB z = true ∧ 0 < z.length ∧ z.length ≤ 100 ∧ ∃ l, HandL H p l ∧
  ∀ v (o : Prt) H', PgAt H' v o → (b = true → o.gapB = false) → HandL H' p l → But p l H H' → Q v H'
section
variable {P : Program} {w : World} {K : PySem.W.Frag} {mg : Str → Option Value} {base : Heap}
abbrev sPart : Stmt := topS 33
theorem scPart : FnScope ["pool", "signs", "is_end", "kind", "least", "turn"] ["pool", "signs", "is_end"] (defScope sPart) := ⟨rfl, rfl, rfl, by decide +kernel, rfl, by decide +kernel, by decide +kernel⟩
theorem ok_Part {f : Addr} {fd : FuncData} (F : Fun K "_law_part" "_law_part" sPart f fd)  {fDraw : Addr} {fdDraw : FuncData} (DDraw : Dk P w K mg base "_law_draw" sDraw ["pool", "many"] 1 spDraw fDraw fdDraw) (T : Glob mg) : FnOk P w K mg base CX0 2 f fd ["pool", "signs", "is_end"] spPrt := by
  refine F.ok scPart (fun vs H Q E h => ?_) (fun cdv A outer s H vs Q E hr h => ?_)
  · obtain ⟨p, z, b, rfl, _⟩ := h
    rfl
  · refine ⟨_, (pss_cons (ps_set (i := 3) scPart.nd rfl (.inl rfl) (pe_call DDraw.ok (hr.mono (by decide)) (by rfl) DDraw.g DDraw.F.kp DDraw.b .nil pass0 (pa_cons (pv 0) (pa_cons pe_int pa_nil))))
      (pss_cons (ps_if (PW.pt (pw_and (pt_cmpR op_eq (pv 3) pe_int (nomark _)) (pw_and1 (pt_not (pt_val (pv 2))))))
      (pss_cons (ps_set (i := 4) scPart.nd rfl (.inl rfl) (pe_ix ix_list (pe_lst (pa_cons pe_int (pa_cons pe_int (pa_cons (pe_call DDraw.ok (hr.mono (by decide)) (by rfl) DDraw.g DDraw.F.kp DDraw.b .nil pass0 (pa_cons (pv 0) (pa_cons pe_int pa_nil))) pa_nil)))) (pe_call DDraw.ok (hr.mono (by decide)) (by rfl) DDraw.g DDraw.F.kp DDraw.b .nil pass0 (pa_cons (pv 0) (pa_cons pe_int pa_nil))) (fun _ _ => rfl)))
        (pss_one (ps_ret (pe_tup (pa_cons pe_str (pa_cons (pv 4) (pa_cons (pe_callB (call_min2 rfl) (by rfl) T.min (by decide +kernel) (pa_cons pe_int (pa_cons (pe_op op_add (pv 4) (pe_call DDraw.ok (hr.mono (by decide)) (by rfl) DDraw.g DDraw.F.kp DDraw.b .nil pass0 (pa_cons (pv 0) (pa_cons pe_int pa_nil)))) pa_nil))) pa_nil)))))))
      pss_nil)
      (pss_cons (ps_if (pt_cmpR op_eq (pv 3) pe_int (nomark _))
      (pss_one (ps_ret (pe_tup (pa_cons pe_str pa_nil))))
      pss_nil)
      (pss_cons (ps_if (pt_cmpR op_eq (pv 3) pe_int (nomark _))
      (pss_one (ps_ret (pe_tup (pa_cons pe_str (pa_cons (pe_join pe_str (pe_callB (cr_sortedSx rfl) (by rfl) T.sorted (by decide +kernel) (pa_cons (pe_callTy (cr_setOfK rfl) (by rfl) T.set (by decide +kernel) (pa_cons (pe_lc (own := [("turn", 5)]) (g := gName 5) (by rfl) scPart.nd (pi_range1 (by rfl) T.range (pa_cons (pe_op op_add pe_int (pe_call DDraw.ok (hr.mono (by decide)) (by rfl) DDraw.g DDraw.F.kp DDraw.b .nil pass0 (pa_cons (pv 0) (pa_cons pe_int pa_nil)))) pa_nil)) (blkOk_by (N := ["pool", "signs", "is_end", "kind", "least", "turn"]) (sc := defScope sPart) (by decide +kernel)) (fun _ _ _ _ _ => pg_name (i := 5) scPart.nd rfl (.inl rfl)) (fun _ _ _ _ _ => pts_nil) (fun _ _ _ _ _ => (pe_ix ix_str (pv 1) (pe_call DDraw.ok (hr.mono (by decide)) (by rfl) DDraw.g DDraw.F.kp DDraw.b .nil pass0 (pa_cons (pv 0) (pa_cons (pe_callB call_lenZ (by rfl) T.len PySem.boot_len (pa_cons (pv 1) pa_nil)) pa_nil))) (fun _ _ => rfl)))) pa_nil)) pa_nil))) pa_nil)))))
      pss_nil)
      (pss_one (ps_ret (pe_tup (pa_cons pe_str (pa_cons (pe_ix ix_str (pv 1) (pe_call DDraw.ok (hr.mono (by decide)) (by rfl) DDraw.g DDraw.F.kp DDraw.b .nil pass0 (pa_cons (pv 0) (pa_cons (pe_callB call_lenZ (by rfl) T.len PySem.boot_len (pa_cons (pv 1) pa_nil)) pa_nil))) (fun _ _ => rfl)) pa_nil))))))))), ?_⟩
    obtain ⟨p, z, b, rfl, sz, z0, z1, lh, hH, q⟩ := h
    refine ⟨.ref p, rfl, p, 8, rfl, by decide, by decide, lh, hH, fun kd H1 d0 d1 h1 b1 => ?_⟩
    dsimp only [tNext, tDrop, tSeq, gName]
    refine (?_ : ∀ Q : Bool → Hp → Prop, (∀ c, (c = true → b = false) → Q c H1) → tAnd _ _ _ H1 Q) _ ?_
    · intro Q0 kk
      refine ⟨.int kd, rfl, rfl, _, rfl, ite2 (fun e => ?_) (fun e => kk _ (fun w => Bool.noConfusion w))⟩
      exact ⟨.bl b, rfl, _, rfl, kk _ fun w => by simpa using w⟩
    · intro c hc
      cases c with
      | true =>
        have b0 := hc rfl
        refine iteT ?_
        refine ⟨.ref p, rfl, p, 6, rfl, by decide, by decide, lh, h1, fun x H2 x0 x1 h2 b2 => ⟨by show 3 ≤ sizeLine; decide, fun o no => ?_⟩⟩
        have k2 := Same.new (H := H2) (o := .lst [.int 0, .int 1, .int x]) no
        have hO : upd H2 o (.lst [.int 0, .int 1, .int x]) o = some (.lst [.int 0, .int 1, .int x]) := upd_same
        have nop := h2.ne no
        have h2' := h2.same k2
        have b2' := (b1.trans b2).and k2
        revert hO h2' b2'
        generalize upd H2 o (.lst [.int 0, .int 1, .int x]) = H3
        intro hO h2' b2'
        refine ⟨.ref p, rfl, p, 3, rfl, by decide, by decide, lh, h2', fun y H4 y0 y1 h4 b4 => ?_⟩
        obtain ⟨k, ek, k0, k6⟩ : ∃ k, atI [V.int 0, .int 1, .int x] y = some (.int k) ∧ 0 ≤ k ∧ k ≤ 6 := by
          have e : y = 0 ∨ y = 1 ∨ y = 2 := by omega
          rcases e with rfl | rfl | rfl
          · exact ⟨0, rfl, by decide, by decide⟩
          · exact ⟨1, rfl, by decide, by decide⟩
          · exact ⟨x, rfl, x0, by omega⟩
        refine ⟨o, _, y, _, rfl, rfl, sq_of (b4 _ _ nop hO), ek, ?_⟩
        refine ⟨.int k, rfl, .int k, rfl, .ref p, rfl, p, 5, rfl, by decide, by decide, lh, h4, fun u H5 u0 u1 h5 b5 => ⟨_, _, rfl, rfl, _, _, rfl, by show 3 ≤ sizeLine; decide, fun t nt => ?_⟩⟩
        obtain ⟨ka, rfl⟩ := Int.eq_ofNat_of_zero_le k0
        obtain ⟨ua, rfl⟩ := Int.eq_ofNat_of_zero_le u0
        refine q _ (.gap ka (min 20 (ka + ua))) _ ⟨⟨t, rfl, upd_same.trans (congrArg some (congrArg HO.tup ?_))⟩, ⟨(fun _ e => by cases e), (fun _ e => by cases e), fun a b e => by cases e; omega⟩⟩ (fun w => by rw [b0] at w; cases w) (h5.same (Same.new nt)) (((b2'.trans b4).trans b5).and (Same.new nt))
        have em : (if (ka : Int) + (ua : Int) < 20 then (ka : Int) + (ua : Int) else 20) = ((min 20 (ka + ua) : Nat) : Int) := by
          split <;> omega
        show [V.str "gap", V.int (ka : Int), V.int (if (ka : Int) + (ua : Int) < 20 then (ka : Int) + (ua : Int) else 20)] = [V.str "gap", V.int (ka : Nat), V.int ((min 20 (ka + ua) : Nat) : Int)]
        rw [em]
      | false =>
        refine iteF ?_
        dsimp only [tNext, tDrop, tSeq, gName]
        refine ⟨.int kd, rfl, rfl, _, rfl, ite2 (fun e => ?_) (fun _ => ?_)⟩
        · refine ⟨by show 1 ≤ sizeLine; decide, fun t nt => ?_⟩
          exact q _ .any _ ⟨⟨t, rfl, upd_same⟩, ⟨(fun _ e => by cases e), (fun _ e => by cases e), (fun _ _ e => by cases e)⟩⟩ (fun _ => rfl) (h1.same (Same.new nt)) (b1.and (Same.new nt))
        · dsimp only [tNext, tDrop, tSeq, gName]
          refine ⟨.int kd, rfl, rfl, _, rfl, ite2 (fun e => ?_) (fun _ => ?_)⟩
          · refine ⟨⟨_, rfl⟩, .ref p, rfl, p, 3, rfl, by decide, by decide, lh, h1, fun n H2 n0 n1 h2 b2 => ⟨_, _, rfl, rfl, 1 + n, rfl, by omega, by omega, fun D nD => lc_range (fun j H' => ∃ cs : List Nat, H' D = some (.lst (cs.map fun c => V.str (SX.S [c]))) ∧ cs.length = j ∧ (∀ c ∈ cs, sgC c = true) ∧ Hn p lh H2 H') ⟨[], upd_same, rfl, fun c hc => absurd hc List.not_mem_nil, (Hn.refl h2).new nD⟩ ?_ ?_⟩⟩
            · rintro j H6 hj ⟨cs, hD, hc, hs, hn6⟩
              have nDp := h2.ne nD
              refine ⟨rfl, .str z, rfl, .ref p, rfl, .str z, rfl, z, rfl, len6 z1, p, (z.length : Int), rfl, by omega, by omega, lh, hn6.at_, fun x H7 x0 x1 h7 b7 => ?_⟩
              obtain ⟨c, ec, sc⟩ := sg_at sz x0 x1
              refine ⟨z, x, c, rfl, rfl, len6 z1, ec, _, b7 _ _ nDp hD, ?_, cs ++ [c], ?_, ?_, ?_, (hn6.go h7 b7).at h2 nD⟩
              · rw [List.length_map, sizeLine_eq]
                omega
              · rw [upd_same, List.map_append]
                rfl
              · rw [List.length_append, hc]
                rfl
              · intro d hd
                rcases List.mem_append.mp hd with g | g
                · exact hs d g
                · rw [List.mem_singleton.mp g]
                  exact sc
            · rintro H6 ⟨cs, hD, hc, hs, hn6⟩
              have e1 : (cs.map fun c => V.str (SX.S [c])) = (cs.map fun c => (Sum.inr (SX.S [c]) : Key)).map kV := by rw [List.map_map]; rfl
              have lc : cs.length ≤ 3 := by omega
              have lc1 : 1 ≤ cs.length := by omega
              refine ⟨D, cs.map fun c => (Sum.inr (SX.S [c]) : Key), rfl, sq_of (e1 ▸ hD), by rw [List.length_map]; omega, fun A c S nA hS hcl => ?_⟩
              have mem : ∀ k, S k = true → ∃ c ∈ cs, k = Sum.inr (SX.S [c]) := fun k hk => by
                obtain ⟨c, hc, e⟩ := List.mem_map.mp ((hS k).mp hk)
                exact ⟨c, hc, e.symm⟩
              refine ⟨A, S, c, rfl, upd_same, fun k hk => let ⟨c, _, e⟩ := mem k hk; ⟨_, e⟩, fun zs B pw mz lz nB => ?_⟩
              obtain ⟨ds, rfl, hds⟩ := one_signs zs fun y hy => by
                obtain ⟨c, hc, e⟩ := mem _ ((mz y).mp hy)
                exact ⟨c, Sum.inr.inj e, hs c hc⟩
              rw [List.length_map] at lz
              rw [List.length_map] at hcl
              have ld : ds.length ≤ 3 := by omega
              have ld1 : 0 < ds.length := by
                cases cs with
                | nil => exact absurd lc1 (by simp)
                | cons c0 cs =>
                  have := (mz (SX.S [c0])).mpr ((hS _).mpr List.mem_cons_self)
                  obtain ⟨d, hd, _⟩ := List.mem_map.mp this
                  exact List.length_pos_of_mem hd
              have n2 : Hn p lh H1 (upd (upd H6 A (SetX P w A S c)) B (.lst ((ds.map fun c => SX.S [c]).map V.str))) := (((⟨h2, b2⟩ : Hn p lh H1 H2).trans hn6).new nA).new nB
              refine ⟨_, B, ds.map (fun c => SX.S [c]), rfl, rfl, .inl (sq_of upd_same), ?_, ?_⟩
              · have := one_sum ds
                rw [List.length_map]
                have : (Str.ofString "").length = 0 := by decide +kernel
                rw [this]
                omega
              · rw [join1]
                refine ⟨by show 2 ≤ sizeLine; decide, fun t nt => ?_⟩
                refine q _ (.lot ds) _ ⟨⟨t, rfl, upd_same⟩, ⟨(fun _ e => by cases e), fun cs e => ?_, (fun _ _ e => by cases e)⟩⟩ (fun _ => rfl) (n2.new nt).at_ (b1.trans (n2.new nt).but)
                cases e
                refine ⟨?_, ld1, by omega, ?_⟩
                · have : sgB (SX.S ds) = true := by rw [sgB_S]; exact List.all_eq_true.mpr hds
                  exact this
                · rw [List.pairwise_map] at pw
                  exact pw.imp fun {x y} h => one_lt h
          · dsimp only [tNext, tDrop, tSeq, gName]
            refine ⟨.str z, rfl, .ref p, rfl, .str z, rfl, z, rfl, len6 z1, p, (z.length : Int), rfl, by omega, by omega, lh, h1, fun x H2 x0 x1 h2 b2 => ?_⟩
            obtain ⟨c, ec, sc⟩ := sg_at sz x0 x1
            refine ⟨z, x, c, rfl, rfl, len6 z1, ec, by show 2 ≤ sizeLine; decide, fun t nt => ?_⟩
            refine q _ (.sg c) _ ⟨⟨t, rfl, upd_same⟩, ⟨fun d e => ?_, (fun _ e => by cases e), (fun _ _ e => by cases e)⟩⟩ (fun _ => rfl) (h2.same (Same.new nt)) ((b1.trans b2).and (Same.new nt))
            cases e
            have : sgB (SX.S [c]) = true := by rw [sgB_S]; exact List.all_eq_true.mpr fun d hd => by rw [List.mem_singleton.mp hd]; exact sc
            exact this
end
end LawK
set_option maxHeartbeats 4000000
namespace LawK
open PySem PySem.Spec PyProof.Rows L2 Ev

def spPattern : Sp := fun vs H Q _ => ∃ (p : Addr) (z : Str) (m : Int), vs = [.ref p, .str z, .int m] ∧ sgB z = true ∧ 0 < z.length ∧ z.length ≤ 100 ∧ 1 ≤ m ∧ m ≤ 30 ∧ ∃ l, HandL H p l ∧
  ∀ a us (ps : List Prt) H', H' a = some (.tup us) → PatV H' us ps → PatOk ps → (ps.length : Int) ≤ m → HandL H' p l → But p l H H' → Q (.ref a) H'
theorem PgAt.put {H : Hp} {D : Addr} {us ws : List V} (hD : H D = some (.lst us)) {v : V} {o : Prt} (h : PgAt H v o) : PgAt (upd H D (.lst ws)) v o := by
  obtain ⟨⟨a, e, h⟩, ok⟩ := h
  exact ⟨⟨a, e, by rw [upd_ne fun z => by rw [z, hD] at h; cases h]; exact h⟩, ok⟩
/-- gaps so far -/
structure Gp (gs : List Bool) : Prop where
  first : ∀ b, gs[0]? = some b → b = false
  apart : ∀ i : Nat, gs[i]? = some true → gs[i + 1]? = some true → False
theorem Gp.nil : Gp [] := ⟨fun b e => (by cases e), fun i e => (by cases e)⟩
theorem Gp.snoc {gs : List Bool} (h : Gp gs) {b : Bool} (k : b = true → gs ≠ [] ∧ gs[gs.length - 1]? = some false) : Gp (gs ++ [b]) := by
  refine ⟨fun c e => ?_, fun i e1 e2 => ?_⟩
  · cases gs with
    | nil =>
      have e : some b = some c := e
      cases hb : b with
      | true => exact absurd rfl (k hb).1
      | false => rw [← Option.some.inj e, hb]
    | cons d gs => exact h.first c e
  · rcases Nat.lt_trichotomy (i + 1) gs.length with l | l | l
    · rw [List.getElem?_append_left (by omega)] at e1 e2
      exact h.apart i e1 e2
    · rw [List.getElem?_append_left (by omega)] at e1
      rw [List.getElem?_append_right (by omega), l, Nat.sub_self] at e2
      have hb : b = true := Option.some.inj e2
      have := (k hb).2
      rw [show gs.length - 1 = i by omega, e1] at this
      cases this
    · rw [List.getElem?_append_right (by omega), List.getElem?_eq_none (show [b].length ≤ i + 1 - gs.length by simp; omega)] at e2
      cases e2
theorem patV_of {H : Hp} {us : List V} {ps : List Prt} (h : All2 (PgAt H) us ps) : PatV H us ps := by
  refine ⟨h.len, fun i v p e1 e2 => ?_, fun p hp => ?_⟩
  · obtain ⟨p', e, r⟩ := h.at e1
    rw [e2] at e
    rw [Option.some.inj e]
    exact r.1
  · obtain ⟨i, e⟩ := List.mem_iff_getElem?.mp hp
    have li := (List.getElem?_eq_some_iff.mp e).1
    have lu : i < us.length := by rw [h.len]; exact li
    obtain ⟨p', e', r⟩ := h.at (List.getElem?_eq_getElem lu)
    rw [e] at e'
    rw [Option.some.inj e']
    exact r.2
section
variable {P : Program} {w : World} {K : PySem.W.Frag} {mg : Str → Option Value} {base : Heap}
abbrev sPattern : Stmt := topS 34
theorem scPattern : FnScope ["pool", "signs", "most", "many", "found", "at", "is_end"] ["pool", "signs", "most"] (defScope sPattern) := ⟨rfl, rfl, rfl, by decide +kernel, rfl, by decide +kernel, by decide +kernel⟩
theorem ok_Pattern {f : Addr} {fd : FuncData} (F : Fun K "_law_pattern" "_law_pattern" sPattern f fd)  {fDraw : Addr} {fdDraw : FuncData} (DDraw : Dk P w K mg base "_law_draw" sDraw ["pool", "many"] 1 spDraw fDraw fdDraw) {fPart : Addr} {fdPart : FuncData} (DPart : Dk P w K mg base "_law_part" sPart ["pool", "signs", "is_end"] 2 spPrt fPart fdPart) (T : Glob mg) : FnOk P w K mg base CX0 3 f fd ["pool", "signs", "most"] spPattern := by
  refine F.ok scPattern (fun vs H Q E h => ?_) (fun cdv A outer s H vs Q E hr h => ?_)
  · obtain ⟨p, z, m, rfl, _⟩ := h
    rfl
  · refine ⟨_, (pss_cons (ps_set (i := 3) scPattern.nd rfl (.inl rfl) (pe_op op_add pe_int (pe_call DDraw.ok (hr.mono (by decide)) (by rfl) DDraw.g DDraw.F.kp DDraw.b .nil pass0 (pa_cons (pv 0) (pa_cons (pv 2) pa_nil)))))
      (pss_cons (ps_set (i := 4) scPattern.nd rfl (.inl rfl) (pe_lst pa_nil))
      (pss_cons (ps_for PassesOwn.never rfl (pi_range1 (by rfl) T.range (pa_cons (pv 3) pa_nil)) (pg_name (i := 5) scPattern.nd rfl (.inl rfl))
      (pss_cons (ps_set (i := 6) scPattern.nd rfl (.inl rfl) (pe_or (pe_cmpR op_in_seq (pv 5) (pe_tup (pa_cons pe_int (pa_cons (pe_op op_sub (pv 3) pe_int) pa_nil))) rfl) (pe_one (pe_cmpR op_eq (pe_ix ix_tup (pe_ix ix_list (pv 4) (pe_un un_neg pe_int) (fun _ _ => rfl)) pe_int (fun _ _ => rfl)) pe_str (nomark _)))))
        (pss_one (ps_expr (pe_bm PySem.F.plainAttrs_list PySem.F.slot_list_append PySem.F.type_list_append mt_append (pv 4) (pa_cons (pe_call DPart.ok (hr.mono (by decide)) (by rfl) DPart.g DPart.F.kp DPart.b .nil pass0 (pa_cons (pv 0) (pa_cons (pv 1) (pa_cons (pv 6) pa_nil)))) pa_nil))))))
      (pss_one (ps_ret (pe_callTy call_tuple_of (by rfl) T.tuple (by decide +kernel) (pa_cons (pv 4) pa_nil))))))), ?_⟩
    obtain ⟨p, z, m, rfl, sz, z0, z1, m0, m1, lh, hH, q⟩ := h
    refine ⟨.ref p, rfl, .int m, rfl, p, m, rfl, by omega, by omega, lh, hH, fun x H1 x0 x1 h1 b1 => ⟨_, _, rfl, rfl, ?_⟩⟩
    dsimp only [tNext, tDrop, tSeq, gName]
    refine ⟨by show 0 ≤ sizeLine; decide, fun f nf => ?_⟩
    have nfp := h1.ne nf
    refine ⟨.int (1 + x), rfl, _, rfl, by omega, by omega, for_range (fun i σ H' => ∃ (u5 u6 : Option V) (us : List V) (os : List Prt), σ = [some (.ref p), some (.str z), some (.int m), some (.int (1 + x)), some (.ref f), u5, u6] ∧ H' f = some (.lst us) ∧ All2 (PgAt H') us os ∧ os.length = i ∧ Gp (os.map Prt.gapB) ∧ ((i : Int) = 1 + x → (os.map Prt.gapB)[os.length - 1]? = some false) ∧ Hn p lh H1 H') ⟨none, none, [], [], rfl, upd_same, .nil, rfl, Gp.nil, (fun e => by omega), (Hn.refl h1).new nf⟩ ?_ ?_⟩
    · rintro i σ H2 hi ⟨u5, u6, us, os, rfl, hf, ho, hl, hg, _, hn⟩
      have i20 : i ≤ 30 := by omega
      dsimp only [tSeq, tAsg, gName]
      refine (?_ : ∀ Q : V → Hp → Prop, (∀ b H3, Same H2 H3 → (i = 0 ∨ (i : Int) = x ∨ (os.map Prt.gapB)[os.length - 1]? = some true → b = true) → Q (.bl b) H3) → tOrV _ _ _ H2 Q) _ ?_
      · intro Q0 kk
        refine ⟨.int (0 + (i : Int)), rfl, .int (1 + x), rfl, _, _, rfl, rfl, by show 2 ≤ sizeLine; decide, fun t nt => ⟨t, _, rfl, .inr (SqT.of upd_same), rfl, rfl, ?_⟩⟩
        have kt := Same.new (H := H2) (o := .tup [.int 0, .int (1 + x - 1)]) nt
        have hf3 := kt _ _ hf
        have ho3 := ho.imp fun _ _ r => PgAt.same kt r
        refine ⟨_, rfl, ite2 (fun e => kk _ _ kt fun _ => rfl) (fun e => ?_)⟩
        have i0 : i ≠ 0 := fun z => by
          subst z
          exact e rfl
        have ix : (i : Int) ≠ x := fun z => by
          refine e ?_
          show inV (V.int (0 + (i : Int))) [V.int 0, V.int (1 + x - 1)] = true
          rw [show 0 + (i : Int) = 1 + x - 1 by omega]
          simp only [inV, List.any_cons, List.any_nil, Bool.or_false, Bool.or_eq_true]
          exact .inr (by simp [eqV])
        obtain ⟨os0, o, eo⟩ := snoc_of (show os ≠ [] from fun z => by rw [z] at hl; exact i0 hl.symm)
        have lu := ho.len
        obtain ⟨us0, u, eu⟩ := snoc_of (show us ≠ [] from fun z => by rw [z, eo] at lu; simp at lu)
        rw [eo, eu] at ho3
        have hu := ho3.unsnoc.2
        have ea : atI us (-1) = some u := by rw [eu]; exact atI_last _ _
        obtain ⟨⟨a, rfl, ha⟩, _⟩ := hu
        refine ⟨.ref f, rfl, _, rfl, f, _, -1, _, rfl, rfl, sq_of hf3, ea, a, _, 0, _, rfl, rfl, SqT.of ha, (by cases o <;> rfl : atI o.v 0 = some (o.v.headD .non)), by cases o <;> rfl, kk _ _ kt fun z => ?_⟩
        rcases z with z | z | z
        · exact absurd z i0
        · exact absurd z ix
        · rw [head_gap]
          rw [eo, List.map_append, List.length_append, List.getElem?_append_right (by simp)] at z
          simpa using z
      · intro b H3 k3 hb
        have hf3 := k3 _ _ hf
        have hn3 := hn.same k3
        have ho3 := ho.imp fun _ _ r => PgAt.same k3 r
        refine ⟨.ref f, rfl, .inl ⟨rfl, _, sq_of hf3⟩, .ref p, rfl, .str z, rfl, .bl b, rfl, p, z, b, rfl, sz, z0, z1, lh, hn3.at_, fun v o H4 hv hbo h4 b4 => ?_⟩
        have hf4 := b4 _ _ nfp hf3
        have ho4 := ho3.imp fun _ _ r => PgAt.but hn3.at_ b4 r
        have lu := ho.len
        refine ⟨f, us, _, rfl, rfl, hf4, by rw [sizeLine_eq]; omega, _, _, us ++ [v], os ++ [o], rfl, upd_same, (All2.snoc ho4 hv).imp fun _ _ r => r.put hf4, by rw [List.length_append, hl]; rfl, ?_, fun e => ?_, (hn3.go h4 b4).at h1 nf⟩
        · rw [List.map_append]
          refine hg.snoc fun g => ?_
          have nb : b ≠ true := fun z => by
            rw [hbo z] at g
            cases g
          have i0 : i ≠ 0 := fun z => nb (hb (.inl z))
          refine ⟨fun z => i0 (by rw [← hl]; simpa using congrArg List.length z), ?_⟩
          have lt : os.length - 1 < (os.map Prt.gapB).length := by rw [List.length_map]; omega
          rw [List.length_map]
          cases ec : (os.map Prt.gapB)[os.length - 1]? with
          | none => rw [List.getElem?_eq_none_iff] at ec; omega
          | some c =>
            cases c with
            | true => exact absurd (hb (.inr (.inr ec))) nb
            | false => rfl
        · rw [List.map_append, List.length_append, List.getElem?_append_right (by simp)]
          have := hbo (hb (.inr (.inl (by omega))))
          simpa using this
    · rintro σ H2 ⟨u5, u6, us, os, rfl, hf, ho, hl, hg, hla, hn⟩
      refine ⟨.ref f, rfl, f, _, rfl, .inl ⟨sq_of hf, fun a na => ?_⟩⟩
      have l1 : 1 ≤ os.length := by omega
      refine q a us os _ upd_same (patV_of (ho.imp fun _ _ r => r.same (Same.new na))) ⟨l1, by omega, ?_, hla (by omega), hg.apart⟩ (by omega) (hn.at_.same (Same.new na)) ((b1.trans hn.but).and (Same.new na))
      cases os with
      | nil => simp at l1
      | cons o os => exact congrArg some (hg.first _ rfl)
end
end LawK
set_option maxHeartbeats 4000000
/-! Where a text stands in another within bounds; a text so many times. -/
namespace Ev
open PySem PySem.Spec PyProof.Rows L2 PySem.Builtin.Str
theorem occ_size {x y : Str} {hi lim : Nat} : ∀ (l : List Nat) (a : Array Nat) (k : Nat), 0 < a.size → 0 < ((forIn (m := Id) l (a, k) (StrLaws.occBody x y hi lim)).run.fst).size := by
  intro l
  induction l with
  | nil => intro a k h; exact h
  | cons i r ih =>
    intro a k h
    simp only [List.forIn_cons, StrLaws.occBody]
    split
    · exact ih _ _ (by rw [Array.size_push]; omega)
    · exact ih _ _ h
theorem occ_some {x y : Str} {lo hi i : Nat} (h0 : lo ≤ i) (h1 : i + y.length ≤ hi) (h2 : subAt x y i = true) : occurrences x y lo hi 1 ≠ [] := by
  rw [StrLaws.occ_eq]
  have hm : i ∈ List.range' lo (hi + 1 - lo) := by
    rw [List.mem_range'_1]
    omega
  have hlo : ∀ j ∈ List.range' lo (hi + 1 - lo), lo ≤ j := fun j hj => (List.mem_range'_1.mp hj).1
  revert hm hlo
  generalize List.range' lo (hi + 1 - lo) = l
  suffices H : ∀ (l : List Nat), i ∈ l → (∀ j ∈ l, lo ≤ j) → 0 < ((forIn (m := Id) l ((#[] : Array Nat), lo) (StrLaws.occBody x y hi 1)).run.fst).size by
    intro hm hlo e
    have := H l hm hlo
    rw [← Array.length_toList, e] at this
    exact absurd this (by simp)
  intro l
  induction l with
  | nil => intro h; cases h
  | cons j r ih =>
    intro hm hlo
    simp only [List.forIn_cons, StrLaws.occBody]
    split
    · exact occ_size r _ _ (by rw [Array.size_push]; omega)
    · rename_i hn
      refine ih ?_ (fun j hj => hlo j (List.mem_cons_of_mem _ hj))
      rcases List.mem_cons.mp hm with e | e
      · subst e
        exact absurd ⟨⟨⟨by decide, hlo i (List.mem_cons_self ..)⟩, h1⟩, h2⟩ hn
      · exact e
theorem subAt_iff {x y : Str} {k : Nat} : subAt x y k = true ↔ (x.cps.toList.drop k).take y.length = y.cps.toList := by
  unfold subAt
  rw [beq_iff_eq, ← Array.toList_inj, Array.toList_extract, List.extract_eq_take_drop]
  have : k + y.length - k = y.length := by omega
  rw [this]
/-- the place of y in x ahead of j, or -1 -/
theorem findIn_of {x y : Str} {j : Int} (h : 0 ≤ j) : (∃ k : Nat, Txt.findIn x y 0 j = (k : Int) ∧ (k : Int) + (y.length : Int) ≤ j ∧ (x.cps.toList.drop k).take y.length = y.cps.toList) ∨
    (Txt.findIn x y 0 j = -1 ∧ ∀ k : Nat, (k : Int) + (y.length : Int) ≤ j → k + y.length ≤ x.length → (x.cps.toList.drop k).take y.length ≠ y.cps.toList) := by
  unfold Txt.findIn
  have e0 : fromIndex x.length 0 = 0 := rfl
  have e1 : toIndexW x.length j = min j.toNat x.length := by
    unfold toIndexW
    rw [if_neg (by omega), Int.max_eq_right h]
  rw [e0, e1]
  cases e : occurrences x y 0 (min j.toNat x.length) 1 with
  | nil =>
    refine .inr ⟨rfl, fun k h1 h2 h3 => ?_⟩
    exact occ_some (Nat.zero_le k) (by omega) (subAt_iff.mpr h3) e
  | cons k r =>
    have := StrLaws.occ_spec x y 0 (min j.toNat x.length) 1 k (by rw [e]; exact List.mem_cons_self ..)
    exact .inl ⟨k, rfl, by omega, subAt_iff.mp this.2⟩
theorem fold_rep (x : Array Nat) : ∀ (n : Nat) (acc : Array Nat), ((List.replicate n x).foldl (· ++ ·) acc).toList = acc.toList ++ (List.replicate n x.toList).flatten
  | 0, acc => by simp
  | n + 1, acc => by
    rw [List.replicate_succ, List.foldl_cons, fold_rep x n, Array.toList_append, List.replicate_succ, List.flatten_cons, List.append_assoc]
theorem mul_list {z : Str} {n : Int} (h : 0 ≤ n) : (Txt.mul z n).cps.toList = (List.replicate n.toNat z.cps.toList).flatten := by
  unfold Txt.mul
  by_cases h1 : n < 1
  · rw [if_pos h1]
    have : n.toNat = 0 := by omega
    rw [this]
    rfl
  · rw [if_neg h1]
    split
    · rename_i hc
      rw [Bool.or_eq_true, beq_iff_eq, beq_iff_eq] at hc
      rcases hc with e | e
      · rw [e]
        show _ = (List.replicate 1 _).flatten
        simp
      · have en : z.cps.toList = [] := List.eq_nil_of_length_eq_zero (by rw [← len_S]; exact e)
        rw [en]
        generalize n.toNat = m
        clear h h1
        induction m with
        | zero => rfl
        | succ m ih => rw [List.replicate_succ, List.flatten_cons, List.nil_append]; exact ih
    · show ((List.replicate n.toNat z.cps).foldl (· ++ ·) #[]).toList = _
      rw [fold_rep]
      rfl
theorem rep_at {l : List Nat} (hl : 0 < l.length) : ∀ (n i : Nat), i < n * l.length → ((List.replicate n l).flatten)[i]? = l[i % l.length]?
  | 0, i, h => by omega
  | n + 1, i, h => by
    rw [List.replicate_succ, List.flatten_cons]
    by_cases c : i < l.length
    · rw [List.getElem?_append_left c, Nat.mod_eq_of_lt c]
    · rw [List.getElem?_append_right (by omega), rep_at hl n (i - l.length) (by rw [Nat.succ_mul] at h; omega)]
      have e : i % l.length = (i - l.length) % l.length := Nat.mod_eq_sub_mod (by omega)
      rw [e]
theorem rep_len {l : List Nat} : ∀ (n : Nat), ((List.replicate n l).flatten).length = n * l.length
  | 0 => by simp
  | n + 1 => by rw [List.replicate_succ, List.flatten_cons, List.length_append, rep_len n, Nat.succ_mul]; omega
/-- a text so many times -/
def rMulL : R2 := fun x y H Q => ∃ (z : Str) (n : Int), x = .str z ∧ y = .int n ∧ 0 ≤ n ∧ n ≤ 3000 ∧ z.length ≤ 5000 ∧ Q (.str (Txt.mul z n)) H
theorem op_mulL {X : Cx} : OpR X (binaryOp .Mult) rMulL := by
  intro pins s σ H x y v u Q I rx ry h
  obtain ⟨z, n, rfl, rfl, h0, h1, h2, q⟩ := h
  obtain ⟨t, rfl⟩ := rx
  obtain ⟨t', rfl⟩ := ry
  exact SB.mul (mulOk_of 5000 3000 h2 h1 (by omega) (by decide) (by decide)) fun t' k => ⟨.str _, H, I.tok _, ⟨_, rfl⟩, q⟩
end Ev
set_option maxHeartbeats 4000000
namespace LawK
open PySem PySem.Spec PyProof.Rows L2 Ev
abbrev cod (z : Str) : List Nat := z.cps.toList
theorem cod_inj {x y : Str} (h : cod x = cod y) : x = y := by
  obtain ⟨a⟩ := x
  obtain ⟨b⟩ := y
  exact congrArg Str.mk (Array.toList_inj.mp h)
theorem cod_app (x y : Str) : cod (x ++ y) = cod x ++ cod y := Array.toList_append
theorem cod_S (l : List Nat) : cod (SX.S l) = l := rfl
theorem S_cod (z : Str) : SX.S (cod z) = z := cod_inj rfl
theorem cod_len (z : Str) : (cod z).length = z.length := Array.length_toList
theorem app_len (x y : Str) : (x ++ y).length = x.length + y.length := by
  have := congrArg List.length (cod_app x y)
  rw [List.length_append, cod_len, cod_len, cod_len] at this
  exact this
/-! the figures of a number -/
def numZ (i : Int) : Str := ((toString i : String) : Str)
theorem num_cod (n : Nat) : cod (numZ (n : Int)) = (Nat.toDigits 10 n).map Char.toNat := PySem.W.KIN.signs_num n
theorem num_dig (n : Nat) : ∀ c ∈ cod (numZ (n : Int)), 48 ≤ c ∧ c ≤ 57 := by
  intro c hc
  rw [num_cod] at hc
  obtain ⟨ch, hch, e⟩ := List.mem_map.mp hc
  have r := PyProof.Rows.digit_range (Nat.isDigit_of_mem_toDigits (by decide) (by decide) hch)
  rw [← e]
  exact r
theorem num_val (n : Nat) : PySem.NumText.digitsVal (cod (numZ (n : Int))) = n := by
  rw [num_cod]
  exact PySem.W.KIN.val_back n
theorem num_ne (n : Nat) : cod (numZ (n : Int)) ≠ [] := by
  rw [num_cod]
  intro e
  have h := toDigits_len_ge 10 n
  rw [List.map_eq_nil_iff.mp e] at h
  exact absurd h (by decide)
theorem num_len {n : Nat} (h : n < 10000) : (numZ (n : Int)).length ≤ 4 := toString_length_le (k := 4) (by omega) (by decide) (by show (n : Int) < 10 ^ 4; omega)
theorem num_sg (n : Nat) : sgB (numZ (n : Int)) = true := List.all_eq_true.mpr fun c hc => by
  have := num_dig n c hc
  unfold sgC
  rw [decide_eq_true (by omega), decide_eq_true (by omega)]
  rfl
theorem num_no (n : Nat) : 32 ∉ cod (numZ (n : Int)) := fun h => by
  have := num_dig n 32 h
  omega
/-- a text of figures -/
def dgB (z : Str) : Bool := decide ((z.length : Int) > 0) && (cod z).all fun c => decide (48 ≤ c) && decide (c ≤ 57)
def figN (z : Str) : Nat := PySem.NumText.digitsVal (cod z)
/-- the number that a text shows -/
def figV (z : Str) : V := if dgB z = true ∧ z.length ≤ 9 ∧ numZ (figN z : Nat) = z then .int (figN z : Nat) else .non
theorem dig128 : ∀ c : Fin 128, Unicode.isDigit c.val = (decide (48 ≤ c.val) && decide (c.val ≤ 57)) := by decide +kernel
theorem isdigit_sg {z : Str} (h : sgB z = true) : Txt.isdigit z = dgB z := by
  unfold Txt.isdigit dgB
  have e : (cod z).all Unicode.isDigit = (cod z).all fun c => decide (48 ≤ c) && decide (c ≤ 57) := by
    have h' : ∀ c ∈ cod z, sgC c = true := List.all_eq_true.mp h
    generalize cod z = l at h'
    induction l with
    | nil => rfl
    | cons c l ih =>
      rw [List.all_cons, List.all_cons, ih fun d hd => h' d (List.mem_cons_of_mem _ hd)]
      have := h' c List.mem_cons_self
      unfold sgC at this
      have lt : c < 128 := by
        have := of_decide_eq_true (Bool.and_eq_true_iff.mp this).2
        omega
      rw [dig128 ⟨c, lt⟩]
  have e2 : z.cps.all Unicode.isDigit = (cod z).all Unicode.isDigit := by rw [Array.all_toList]
  rw [e2, e]
  congr 1
  exact decide_eq_decide.mpr (by omega)
theorem fig_int {z : Str} (h : dgB z = true) (l : z.length ≤ 640) : PySem.intText? z = some ((figN z : Nat) : Int) := by
  obtain ⟨h1, h2⟩ := Bool.and_eq_true_iff.mp h
  have h1 := of_decide_eq_true h1
  refine PySem.intText_digits (fun c hc => ?_) (fun e => ?_) (by omega)
  · obtain ⟨a, b⟩ := Bool.and_eq_true_iff.mp (List.all_eq_true.mp h2 c hc)
    exact ⟨of_decide_eq_true a, of_decide_eq_true b⟩
  · have := cod_len z
    rw [show cod z = [] from e] at this
    have : (0 : Nat) = z.length := this
    omega
theorem fig_num {n : Nat} (h : n < 10000) : figV (numZ (n : Int)) = .int (n : Int) := by
  have l := num_len h
  have e : figN (numZ (n : Int)) = n := num_val n
  have d : dgB (numZ (n : Int)) = true := by
    unfold dgB
    have : 0 < (numZ (n : Int)).length := by
      rw [← cod_len]
      exact List.length_pos_iff.mpr (num_ne n)
    rw [decide_eq_true (by omega), Bool.true_and]
    refine List.all_eq_true.mpr fun c hc => ?_
    have := num_dig n c hc
    rw [decide_eq_true this.1, decide_eq_true this.2]
    rfl
  unfold figV
  rw [e, if_pos ⟨d, by omega, rfl⟩]
theorem fig_some {z : Str} (h : figV z ≠ .non) : ∃ n : Nat, figV z = .int (n : Int) ∧ numZ (n : Int) = z ∧ dgB z = true := by
  unfold figV at h ⊢
  by_cases c : dgB z = true ∧ z.length ≤ 9 ∧ numZ (figN z : Nat) = z
  · rw [if_pos c]
    exact ⟨_, rfl, c.2.2, c.1⟩
  · rw [if_neg c] at h
    exact absurd rfl h
end LawK
set_option maxHeartbeats 4000000
namespace LawK
open PySem PySem.Spec PyProof.Rows L2 Ev
/-! reading a pattern, sign by sign; a number tells how many signs have been read, or where it went wrong -/
def lastN (l : List Nat) : Nat := l.getLastD 0
theorem lastN_snoc (l : List Nat) (c : Nat) : lastN (l ++ [c]) = c := by
  unfold lastN
  rw [List.getLastD_concat]
def lotR : List Nat → List Nat → Option (List Nat) × Nat
  | _, [] => (none, 0)
  | acc, c :: r =>
    if c = 93 then (if acc = [] then (none, 0) else (some acc, 1))
    else if sgC c = false ∨ acc.length = 20 then (none, 0)
    else if c = 92 then
      if 93 ≤ lastN acc then (none, 0)
      else match r with
        | [] => (none, 1)
        | d :: r' => if (d = 93 ∨ d = 92) ∧ lastN acc < d then ((lotR (acc ++ [d]) r').1, (lotR (acc ++ [d]) r').2 + 2) else (none, 1)
    else if lastN acc < c then ((lotR (acc ++ [c]) r).1, (lotR (acc ++ [c]) r).2 + 1)
    else (none, 0)
theorem lotR_cons (acc : List Nat) (c : Nat) (r : List Nat) : lotR acc (c :: r) =
    if c = 93 then (if acc = [] then (none, 0) else (some acc, 1))
    else if sgC c = false ∨ acc.length = 20 then (none, 0)
    else if c = 92 then
      if 93 ≤ lastN acc then (none, 0)
      else match r with
        | [] => (none, 1)
        | d :: r' => if (d = 93 ∨ d = 92) ∧ lastN acc < d then ((lotR (acc ++ [d]) r').1, (lotR (acc ++ [d]) r').2 + 2) else (none, 1)
    else if lastN acc < c then ((lotR (acc ++ [c]) r).1, (lotR (acc ++ [c]) r).2 + 1)
    else (none, 0) := by
  rw [lotR.eq_def]
def fig (n : Nat) : List Nat := cod (numZ (n : Int))
def bds (l : Nat) : List (List Nat) := (List.range' l (21 - l)).map fig
def numR (bs : List (List Nat)) (cl : Nat) : List Nat → List Nat → Option (List Nat) × Nat
  | _, [] => (none, 0)
  | acc, c :: r =>
    if c = cl ∧ acc ∈ bs then (some acc, 1)
    else if bs.any (fun b => (acc ++ [c]).isPrefixOf b) = true then ((numR bs cl (acc ++ [c]) r).1, (numR bs cl (acc ++ [c]) r).2 + 1)
    else (none, 0)
def val (z : List Nat) : Nat := PySem.NumText.digitsVal z
def bndR (l cl : Nat) (r : List Nat) : Option Nat × Nat := ((numR (bds l) cl [] r).1.map val, (numR (bds l) cl [] r).2)
def gapR (r : List Nat) : Option Prt × Nat := match bndR 0 44 r with
  | (none, n) => (none, n)
  | (some a, n) => match bndR a 125 (r.drop n) with
    | (none, m) => (none, n + m)
    | (some b, m) => (some (.gap a b), n + m)
def mkS : List Nat := [63, 91, 123, 92]
def partR (many : Nat) (g : Bool) : List Nat → Option Prt × Nat
  | [] => (none, 0)
  | c :: r =>
    if sgC c = false ∨ many = 30 then (none, 0)
    else if c = 63 then (some .any, 1)
    else if c = 91 then ((lotR [] r).1.map .lot, (lotR [] r).2 + 1)
    else if c = 123 then (if many = 0 ∨ many = 29 ∨ g = true then (none, 0) else ((gapR r).1, (gapR r).2 + 1))
    else if c ≠ 92 then (some (.sg c), 1)
    else match r with
      | [] => (none, 1)
      | d :: _ => if d ∈ mkS then (some (.sg d), 2) else (none, 1)
theorem partR_cons (many : Nat) (g : Bool) (c : Nat) (r : List Nat) : partR many g (c :: r) =
    if sgC c = false ∨ many = 30 then (none, 0)
    else if c = 63 then (some .any, 1)
    else if c = 91 then ((lotR [] r).1.map .lot, (lotR [] r).2 + 1)
    else if c = 123 then (if many = 0 ∨ many = 29 ∨ g = true then (none, 0) else ((gapR r).1, (gapR r).2 + 1))
    else if c ≠ 92 then (some (.sg c), 1)
    else match r with
      | [] => (none, 1)
      | d :: _ => if d ∈ mkS then (some (.sg d), 2) else (none, 1) := rfl
def lastG (ps : List Prt) : Bool := (ps.map Prt.gapB).getLastD false
theorem lastG_snoc (ps : List Prt) (p : Prt) : lastG (ps ++ [p]) = p.gapB := by
  unfold lastG
  rw [List.map_append, List.map_cons, List.map_nil, List.getLastD_concat]
/-- all parts: and where it went wrong, -1 if nowhere -/
def toldF : Nat → List Prt → Nat → List Nat → Option (List Prt) × Int
  | _, ps, i, [] => if ps = [] ∨ lastG ps = true then (none, (i : Nat)) else (some ps, -1)
  | 0, _, _, _ :: _ => (none, 0)
  | f + 1, ps, i, c :: r => match partR ps.length (lastG ps) (c :: r) with
    | (none, n) => (none, ((i + n : Nat) : Int))
    | (some p, n) => toldF f (ps ++ [p]) (i + n) ((c :: r).drop n)
def toldR (t : List Nat) : Option (List Prt) × Int := toldF t.length [] 0 t
/-! parts as texts -/
def mkL (c : Nat) : List Nat := if c = 93 ∨ c = 92 then [92, c] else [c]
def mkC (c : Nat) : List Nat := if c ∈ mkS then [92, c] else [c]
def wrt : Prt → List Nat
  | .any => [63]
  | .sg c => mkC c
  | .lot cs => 91 :: (cs.flatMap mkL ++ [93])
  | .gap a b => 123 :: (fig a ++ 44 :: (fig b ++ [125]))
def wrts (ps : List Prt) : List Nat := ps.flatMap wrt
theorem lotR_wrt : ∀ (cs acc rest : List Nat), (acc ++ cs).Pairwise (· < ·) → (∀ c ∈ cs, sgC c = true) → (acc ++ cs).length ≤ 20 → acc ++ cs ≠ [] →
    lotR acc (cs.flatMap mkL ++ 93 :: rest) = (some (acc ++ cs), (cs.flatMap mkL).length + 1)
  | [], acc, rest, _, _, _, ne => by
    rw [List.append_nil] at ne ⊢
    show lotR acc (93 :: rest) = _
    unfold lotR
    rw [if_pos rfl, if_neg ne]
    rfl
  | c :: cs, acc, rest, asc, sg, few, ne => by
    have hc := sg c List.mem_cons_self
    have len : acc.length + (cs.length + 1) ≤ 20 := by
      rw [List.length_append, List.length_cons] at few
      exact few
    have cc : 32 ≤ c := of_decide_eq_true (Bool.and_eq_true_iff.mp hc).1
    have hl : lastN acc < c := by
      rcases List.eq_nil_or_concat acc with e | ⟨a', x, e⟩
      · rw [e]
        show 0 < c
        omega
      · rw [e, List.concat_eq_append, lastN_snoc]
        rw [e, List.concat_eq_append, List.append_assoc] at asc
        exact (List.pairwise_cons.mp (List.pairwise_append.mp asc).2.1).1 c List.mem_cons_self
    have e2 : acc ++ c :: cs = (acc ++ [c]) ++ cs := by rw [List.append_assoc]; rfl
    have ih := lotR_wrt cs (acc ++ [c]) rest (by rw [← e2]; exact asc) (fun d hd => sg d (List.mem_cons_of_mem _ hd)) (by rw [← e2]; exact few) (by rw [← e2]; exact ne)
    rw [List.flatMap_cons, e2]
    by_cases hm : c = 93 ∨ c = 92
    · have hk : mkL c = [92, c] := if_pos hm
      rw [hk]
      show lotR acc (92 :: c :: (cs.flatMap mkL ++ 93 :: rest)) = _
      rw [lotR_cons, if_neg (by decide), if_neg (by rintro (h | h); exact absurd h (by decide); omega), if_pos rfl, if_neg (by omega)]
      show (if (c = 93 ∨ c = 92) ∧ lastN acc < c then _ else _) = _
      rw [if_pos ⟨hm, hl⟩, ih]
      rw [List.length_append]
      show (_, _ + 1 + 2) = (_, 2 + _ + 1)
      congr 1
      omega
    · have hk : mkL c = [c] := if_neg hm
      rw [hk]
      show lotR acc (c :: (cs.flatMap mkL ++ 93 :: rest)) = _
      rw [lotR_cons, if_neg (fun e => hm (.inl e)), if_neg (by rintro (h | h); rw [hc] at h; cases h; omega), if_neg (fun e => hm (.inr e)), if_pos hl, ih]
      rw [List.length_append]
      show (_, _ + 1 + 1) = (_, 1 + _ + 1)
      congr 1
      omega
def chkN (bs : List (List Nat)) (cl : Nat) : List Nat → List Nat → Bool
  | acc, [] => decide (acc ∈ bs)
  | acc, c :: s => decide (c ≠ cl) && (bs.any (fun b => (acc ++ [c]).isPrefixOf b) && chkN bs cl (acc ++ [c]) s)
theorem numR_of {bs : List (List Nat)} {cl : Nat} : ∀ (s acc rest : List Nat), chkN bs cl acc s = true → numR bs cl acc (s ++ cl :: rest) = (some (acc ++ s), s.length + 1)
  | [], acc, rest, h => by
    have h : decide (acc ∈ bs) = true := h
    rw [List.append_nil]
    show numR bs cl acc (cl :: rest) = _
    rw [numR, if_pos ⟨rfl, of_decide_eq_true h⟩]
    rfl
  | c :: s, acc, rest, h => by
    obtain ⟨h1, h⟩ := Bool.and_eq_true_iff.mp h
    obtain ⟨h2, h3⟩ := Bool.and_eq_true_iff.mp h
    have ih := numR_of s (acc ++ [c]) rest h3
    show numR bs cl acc (c :: (s ++ cl :: rest)) = _
    rw [numR, if_neg (fun e => absurd e.1 (of_decide_eq_true h1)), if_pos h2, ih, List.append_assoc]
    rfl
theorem chk_all : (List.range 21).all (fun l => (List.range 21).all fun a => decide (a < l) || (chkN (bds l) 44 [] (fig a) && chkN (bds l) 125 [] (fig a))) = true := by decide +kernel
theorem val_fig (n : Nat) : val (fig n) = n := num_val n
theorem bndR_wrt {l a cl : Nat} (h : l ≤ a) (k : a ≤ 20) (hc : cl = 44 ∨ cl = 125) (rest : List Nat) : bndR l cl (fig a ++ cl :: rest) = (some a, (fig a).length + 1) := by
  have q := List.all_eq_true.mp (List.all_eq_true.mp chk_all l (List.mem_range.mpr (by omega))) a (List.mem_range.mpr (by omega))
  rw [decide_eq_false (by omega), Bool.false_or] at q
  obtain ⟨q1, q2⟩ := Bool.and_eq_true_iff.mp q
  have e : numR (bds l) cl [] (fig a ++ cl :: rest) = (some (fig a), (fig a).length + 1) := by
    rcases hc with rfl | rfl
    · exact numR_of (fig a) [] rest q1
    · exact numR_of (fig a) [] rest q2
  unfold bndR
  rw [e]
  show (some (val (fig a)), _) = _
  rw [val_fig]
theorem drop_len (s rest : List Nat) (c : Nat) : (s ++ c :: rest).drop (s.length + 1) = rest := by
  rw [List.drop_append, List.drop_eq_nil_of_le (by omega), List.nil_append]
  have : s.length + 1 - s.length = 1 := by omega
  rw [this]
  rfl
theorem gapR_wrt {a b : Nat} (h : a ≤ b) (k : b ≤ 20) (rest : List Nat) : gapR (fig a ++ 44 :: (fig b ++ 125 :: rest)) = (some (.gap a b), (fig a).length + 1 + ((fig b).length + 1)) := by
  unfold gapR
  rw [bndR_wrt (Nat.zero_le a) (by omega) (.inl rfl)]
  show (match bndR a 125 ((fig a ++ 44 :: (fig b ++ 125 :: rest)).drop ((fig a).length + 1)) with
    | (none, m) => (none, (fig a).length + 1 + m)
    | (some b, m) => (some (.gap a b), (fig a).length + 1 + m) : Option Prt × Nat) = _
  rw [drop_len, bndR_wrt h k (.inr rfl)]
theorem mkS_sg : ∀ c ∈ mkS, sgC c = true := by decide
theorem partR_wrt {p : Prt} (h : p.Ok) {many : Nat} {g : Bool} (hm : many ≠ 30) (hg : p.gapB = true → ¬ (many = 0 ∨ many = 29 ∨ g = true)) (rest : List Nat) :
    partR many g (wrt p ++ rest) = (some p, (wrt p).length) := by
  have np : ∀ {c : Nat}, sgC c = true → ¬ (sgC c = false ∨ many = 30) := fun hc e => e.elim (fun z => by rw [hc] at z; cases z) hm
  cases p with
  | any =>
    show partR many g (63 :: rest) = _
    rw [partR_cons, if_neg (np (by decide)), if_pos rfl]
    rfl
  | sg c =>
    have sc : sgC c = true := by
      have := h.sg c rfl
      exact List.all_eq_true.mp this c List.mem_cons_self
    by_cases m : c ∈ mkS
    · show partR many g (mkC c ++ rest) = (_, (mkC c).length)
      rw [show mkC c = [92, c] from if_pos m]
      show partR many g (92 :: c :: rest) = _
      rw [partR_cons, if_neg (np (by decide)), if_neg (by decide), if_neg (by decide), if_neg (by decide), if_neg (by decide)]
      show (if c ∈ mkS then _ else _) = _
      rw [if_pos m]
      rfl
    · show partR many g (mkC c ++ rest) = (_, (mkC c).length)
      rw [show mkC c = [c] from if_neg m]
      show partR many g (c :: rest) = _
      have m' : c ≠ 63 ∧ c ≠ 91 ∧ c ≠ 123 ∧ c ≠ 92 := by
        refine ⟨fun e => m ?_, fun e => m ?_, fun e => m ?_, fun e => m ?_⟩ <;> rw [e] <;> decide
      rw [partR_cons, if_neg (np sc), if_neg m'.1, if_neg m'.2.1, if_neg m'.2.2.1, if_pos m'.2.2.2]
      rfl
  | lot cs =>
    obtain ⟨s1, s2, s3, s4⟩ := h.lot cs rfl
    show partR many g (91 :: (cs.flatMap mkL ++ [93] ++ rest)) = (_, (cs.flatMap mkL ++ [93]).length + 1)
    rw [partR_cons, if_neg (np (by decide)), if_neg (by decide), if_pos rfl, List.append_assoc]
    rw [show ([93] ++ rest : List Nat) = 93 :: rest from rfl]
    rw [lotR_wrt cs [] rest s4 (fun c hc => List.all_eq_true.mp s1 c hc) s3 (fun e => by have : cs = [] := e; rw [this] at s2; exact absurd s2 (by decide))]
    rw [List.length_append]
    rfl
  | gap a b =>
    obtain ⟨g1, g2⟩ := h.gap a b rfl
    show partR many g (123 :: (fig a ++ 44 :: (fig b ++ [125]) ++ rest)) = (_, (fig a ++ 44 :: (fig b ++ [125])).length + 1)
    rw [partR_cons, if_neg (np (by decide)), if_neg (by decide), if_neg (by decide), if_pos rfl, if_neg (hg rfl)]
    have e : fig a ++ 44 :: (fig b ++ [125]) ++ rest = fig a ++ 44 :: (fig b ++ 125 :: rest) := by
      rw [List.append_assoc, List.cons_append, List.append_assoc]
      rfl
    rw [e, gapR_wrt g1 g2, List.length_append, List.length_cons, List.length_append]
    show (_, (fig a).length + 1 + ((fig b).length + 1) + 1) = (_, (fig a).length + ((fig b).length + 1 + 1) + 1)
    congr 1
    omega
theorem wrt_ne (p : Prt) : ∃ c s, wrt p = c :: s := by
  cases p with
  | any => exact ⟨_, _, rfl⟩
  | sg c =>
    by_cases m : c ∈ mkS
    · exact ⟨92, [c], if_pos m⟩
    · exact ⟨c, [], if_neg m⟩
  | lot cs => exact ⟨_, _, rfl⟩
  | gap a b => exact ⟨_, _, rfl⟩
theorem lastG_at (ps : List Prt) (h : ps ≠ []) : (ps.map Prt.gapB)[ps.length - 1]? = some (lastG ps) := by
  unfold lastG
  have e : ps.map Prt.gapB ≠ [] := fun e => h (List.map_eq_nil_iff.mp e)
  rw [List.getLastD_eq_getLast?, List.getLast?_eq_getElem?, List.length_map]
  have hp : 0 < ps.length := List.length_pos_iff.mpr h
  rw [List.getElem?_eq_getElem (by rw [List.length_map]; omega)]
  rfl
theorem gap_at (ps qs : List Prt) (p : Prt) : ((ps ++ p :: qs).map Prt.gapB)[ps.length]? = some p.gapB := by
  rw [List.map_append, List.map_cons, List.getElem?_append_right (by rw [List.length_map]; exact Nat.le_refl _), List.length_map, Nat.sub_self]
  rfl
theorem toldF_wrt : ∀ (qs ps : List Prt) (f i : Nat), PatOk (ps ++ qs) → (∀ p ∈ qs, p.Ok) → (wrts qs).length ≤ f → toldF f ps i (wrts qs) = (some (ps ++ qs), -1)
  | [], ps, f, i, ok, _, _ => by
    rw [List.append_nil] at ok ⊢
    have ne : ps ≠ [] := fun e => by have := ok.l1; rw [e] at this; exact absurd this (by decide)
    have hl := ok.last
    rw [lastG_at ps ne] at hl
    show toldF f ps i [] = _
    have n : ¬ (ps = [] ∨ lastG ps = true) := fun z => z.elim ne fun z => by rw [z] at hl; cases hl
    cases f with
    | zero => show (if ps = [] ∨ lastG ps = true then _ else _) = _; rw [if_neg n]
    | succ f => show (if ps = [] ∨ lastG ps = true then _ else _) = _; rw [if_neg n]
  | p :: qs, ps, f, i, ok, hok, hf => by
    obtain ⟨c, s, e⟩ := wrt_ne p
    have ew : wrts (p :: qs) = c :: (s ++ wrts qs) := by
      show wrt p ++ wrts qs = _
      rw [e]
      rfl
    have hlen : (wrts (p :: qs)).length = (wrt p).length + (wrts qs).length := List.length_append
    have hw : 0 < (wrt p).length := by rw [e]; exact Nat.succ_pos _
    obtain ⟨g, rfl⟩ : ∃ g, f = g + 1 := ⟨f - 1, by omega⟩
    have l30 := ok.l30
    rw [List.length_append, List.length_cons] at l30
    have hp := gap_at ps qs p
    have hr : partR ps.length (lastG ps) (c :: (s ++ wrts qs)) = (some p, (wrt p).length) := by
      rw [← ew]
      refine partR_wrt (hok p List.mem_cons_self) (by omega) (fun gp => ?_) (wrts qs)
      rw [gp] at hp
      rintro (z | z | z)
      · rw [z] at hp
        rw [ok.first] at hp
        cases hp
      · have hq : qs.length = 0 := by omega
        have hl := ok.last
        rw [List.length_append, List.length_cons, hq] at hl
        rw [show ps.length + (0 + 1) - 1 = ps.length by omega, hp] at hl
        cases hl
      · have ne : ps ≠ [] := fun e => by rw [e] at z; cases z
        have h1 := lastG_at ps ne
        have pp : 0 < ps.length := List.length_pos_iff.mpr ne
        rw [z] at h1
        refine ok.apart (ps.length - 1) ?_ ?_
        · rw [List.map_append, List.getElem?_append_left (by rw [List.length_map]; omega)]
          exact h1
        · rw [show ps.length - 1 + 1 = ps.length by omega]
          exact hp
    rw [ew]
    show (match partR ps.length (lastG ps) (c :: (s ++ wrts qs)) with
      | (none, n) => (none, ((i + n : Nat) : Int))
      | (some p, n) => toldF g (ps ++ [p]) (i + n) ((c :: (s ++ wrts qs)).drop n) : Option (List Prt) × Int) = _
    rw [hr]
    show toldF g (ps ++ [p]) (i + (wrt p).length) ((c :: (s ++ wrts qs)).drop (wrt p).length) = _
    rw [← ew, show (wrts (p :: qs)).drop (wrt p).length = wrts qs from by
      show (wrt p ++ wrts qs).drop (wrt p).length = _
      rw [List.drop_left]]
    have ih := toldF_wrt qs (ps ++ [p]) g (i + (wrt p).length) (by rw [List.append_assoc]; exact ok) (fun q hq => hok q (List.mem_cons_of_mem _ hq)) (by omega)
    rw [ih, List.append_assoc]
    rfl
theorem told_wrt {ps : List Prt} (ok : PatOk ps) (hok : ∀ p ∈ ps, p.Ok) : toldR (wrts ps) = (some ps, -1) := toldF_wrt ps [] _ 0 ok hok (Nat.le_refl _)
end LawK
set_option maxHeartbeats 4000000
namespace LawK
open PySem PySem.Spec PyProof.Rows L2 Ev

def ascB (cs : List Nat) : Bool := (cs.zip (cs.drop 1)).all fun p => decide (p.1 < p.2)
def lotV : V → Bool
  | .str z => wordV (.str z) && (!decide ((20 : Int) < (z.length : Int)) && ascB (cod z))
  | _ => false
def gapV (x y : V) : Bool := match x, y with
  | .int a, .int b => decide (0 ≤ a) && (decide (0 ≤ b) && (decide (a ≤ b) && decide (b ≤ 20)))
  | _, _ => false
/-- whether the parts of a tuple make a part of a pattern -/
def restB (z : Str) (r : List V) : Bool :=
  if z = Str.ofString "any" then decide (r.length = 0)
  else if z = Str.ofString "sign" then (match r with | [x] => signV x | _ => false)
  else if z = Str.ofString "lot" then (match r with | [x] => lotV x | _ => false)
  else if z = Str.ofString "gap" then (match r with | [x, y] => gapV x y | _ => false)
  else false
def partL : List V → Bool
  | .str z :: r => restB z r
  | _ => false
def partB : Option (List V) → Bool
  | none => false
  | some xs => partL xs
def spLotV : Sp := fun vs H Q _ => ∃ x k, vs = [x] ∧ Kd H x k ∧ Vs x ∧ ∀ H', Same H H' → Q (.bl (lotV x)) H'
def spPartT : Sp := fun vs H Q _ => ∃ (x : V) (o : Option (List V)), vs = [x] ∧ Tg H x o ∧ ∀ H', Same H H' → Q (.bl (partB o)) H'
/-- what a thing is, that may be a pattern: a tuple of some things -/
inductive PatT (H : Hp) : V → Option (List (Option (List V))) → Prop
  | no {x : V} {k : Kn} (h : Kd H x k) (n : k ≠ .tup) : PatT H x none
  | tup {a : Addr} {ws : List V} {os : List (Option (List V))} (e : H a = some (.tup ws)) (n : ws.length ≤ 1000) (h : All2 (Tg H) ws os) : PatT H (.ref a) (some os)
theorem PatT.same {H H' : Hp} (k : Same H H') {x : V} {o : Option (List (Option (List V)))} (h : PatT H x o) : PatT H' x o := by
  cases h with
  | no h n => exact .no (h.same k) n
  | tup e n h => exact .tup (k _ _ e) n (h.imp fun _ _ q => q.same k)
def gapO : Option (List V) → Bool
  | some (x :: _) => decide (x = V.str "gap")
  | _ => false
def adjB (gs : List Bool) : Bool := (gs.zip (gs.drop 1)).any fun p => p.1 && p.2
def patL (os : List (Option (List V))) : Bool := !decide ((os.length : Int) < 1) && (!decide (30 < (os.length : Int)) && (os.all partB && (!((os.map gapO).headD false) && (!((os.map gapO).getLastD false) && !adjB (os.map gapO)))))
def patO : Option (List (Option (List V))) → Bool
  | none => false
  | some os => patL os
def spPatT : Sp := fun vs H Q _ => ∃ x o, vs = [x] ∧ PatT H x o ∧ ∀ H', Same H H' → Q (.bl (patO o)) H'
theorem lt_one {a b : Nat} : ([a] : List Nat) < [b] ↔ a < b := by
  rw [List.cons_lt_cons_iff]
  exact ⟨fun h => h.elim id fun h => absurd h.2 (List.lt_irrefl []), .inl⟩
theorem kit_no {K : PySem.W.Frag} {k : Kn} (n : k ≠ .tup) : PySem.W.kitOne K (.type k.name) (.type "tuple") = some false := by
  have e : kitB k .tup = false := by cases k <;> first | rfl | exact absurd rfl n
  have z := kit_kn (K := K) k .tup
  rw [e] at z
  exact z
theorem at0 (x : V) (r : List V) : atI (x :: r) 0 = some x := atI_nat (j := 0) rfl
section
variable {P : Program} {w : World} {K : PySem.W.Frag} {mg : Str → Option Value} {base : Heap}
abbrev sQIsLot : Stmt := topS 15
theorem scQIsLot : FnScope ["thing", "one", "other"] ["thing"] (defScope sQIsLot) := ⟨rfl, rfl, rfl, by decide +kernel, rfl, by decide +kernel, by decide +kernel⟩
theorem ok_QIsLot {f : Addr} {fd : FuncData} (F : Fun K "_is_lot" "_is_lot" sQIsLot f fd)  {tL : Tok} (gL : mg "MOST_IN_LOT" = some (.int 20 tL)) {fPWord : Addr} {fdPWord : FuncData} (DPWord : Dk P w K mg base "is_word" sPWord ["thing"] 2 spWd fPWord fdPWord) (T : Glob mg) : FnOk P w K mg base CX0 3 f fd ["thing"] spLotV := by
  refine F.ok scQIsLot (fun vs H Q E h => ?_) (fun cdv A outer s H vs Q E hr h => ?_)
  · obtain ⟨x, k, rfl, _⟩ := h
    rfl
  · refine ⟨_, (pss_cons (ps_if (PW.pt (pw_or (pt_not (pt_val (pe_call DPWord.ok (hr.mono (by decide)) (by rfl) DPWord.g DPWord.F.kp DPWord.b .nil pass0 (pa_cons (pv 0) pa_nil)))) (pw_or1 (pt_cmpR op_gt (pe_callB call_lenZ (by rfl) T.len PySem.boot_len (pa_cons (pv 0) pa_nil)) (pe_glob (v := .int 20) (by rfl) gL ⟨_, rfl⟩) (nomark _)))))
      (pss_one (ps_ret pe_bl))
      pss_nil)
      (pss_one (ps_ret (pe_callB (cr_all rfl) (by rfl) T.all (by decide +kernel) (pa_cons (pe_lc (own := [("one", 1), ("other", 2)]) (g := (gTup K 2 (gCons (gName 1) (gCons (gName 2) gNil)))) (by rfl) scQIsLot.nd (pi_zipS (by rfl) T.zip (pa_cons (pv 0) (pa_cons (pe_slice sl_str (pv 0) (po_some pe_int) po_none) pa_nil))) (blkOk_by (N := ["thing", "one", "other"]) (sc := defScope sQIsLot) (by decide +kernel)) (fun _ _ _ _ _ => pg_tup (by rfl) (pgs_cons (pg_name (i := 1) scQIsLot.nd rfl (.inl rfl)) (pgs_cons (pg_name (i := 2) scQIsLot.nd rfl (.inl rfl)) pgs_nil))) (fun _ _ _ _ _ => pts_nil) (fun _ _ _ _ _ => (pe_cmpR op_lt_str (pv 1) (pv 2) (nomark _)))) pa_nil))))), ?_⟩
    obtain ⟨x, k, rfl, hk, hv, q⟩ := h
    refine ⟨x, rfl, x, k, rfl, hk, hv, _, rfl, ?_⟩
    cases hw : wordV x with
    | false =>
      refine iteT ?_
      have e : lotV x = false := by
        cases x with
        | str z => show (wordV (.str z) && _) = false; rw [hw]; rfl
        | _ => rfl
      rw [← e]
      exact q H (Same.refl H)
    | true =>
      refine iteF ?_
      obtain ⟨z, rfl⟩ : ∃ z, x = .str z := by
        cases x with
        | str z => exact ⟨z, rfl⟩
        | _ => cases hw
      have lz : z.length ≤ 5000 := hv z rfl
      have q : ∀ H', Same H H' → Q (.bl (!decide ((20 : Int) < (z.length : Int)) && ascB (cod z))) H' := fun H' k' => by
        have q1 := q H' k'
        have e : lotV (.str z) = (!decide ((20 : Int) < (z.length : Int)) && ascB (cod z)) := by
          show (wordV (.str z) && _) = _
          rw [hw, Bool.true_and]
        rw [e] at q1
        exact q1
      refine ⟨.str z, rfl, z, rfl, len5 lz, _, _, rfl, rfl, _, rfl, ite2 (fun e => ?_) (fun e => ?_)⟩
      · have q1 := q H (Same.refl H)
        rw [e] at q1
        exact q1
      have e' : decide ((20 : Int) < (z.length : Int)) = false := by simpa using e
      rw [e'] at q
      have q : ∀ H', Same H H' → Q (.bl (ascB (cod z))) H' := q
      generalize hcs : cod z = cs at q
      have ez : z = ⟨cs.toArray⟩ := by rw [← hcs]
      subst ez
      have ln : Str.length ⟨cs.toArray⟩ = cs.length := rfl
      have lc : cs.length ≤ 5000 := lz
      have hz' : (cutS ⟨cs.toArray⟩ (some 1) none).cps.toList = cs.drop 1 := cutS_from (z := ⟨cs.toArray⟩) (i := 1) (by decide)
      refine ⟨.str ⟨cs.toArray⟩, rfl, .str ⟨cs.toArray⟩, rfl, _, rfl, ⟨cs.toArray⟩, rfl, len5 lz, .txt ⟨cs.toArray⟩, .txt (cutS ⟨cs.toArray⟩ (some 1) none), cs.map fun c => V.str ⟨#[c]⟩, (cs.drop 1).map fun c => V.str ⟨#[c]⟩, rfl, rfl, by rw [← hz']; rfl, fun D nD => lc_it (walk_zipS (K := K) (k1 := .txt ⟨cs.toArray⟩) (k2 := .txt (cutS ⟨cs.toArray⟩ (some 1) none)) (xs := cs.map fun c => V.str ⟨#[c]⟩) (ys := (cs.drop 1).map fun c => V.str ⟨#[c]⟩) (n := cs.length - 1) (by rw [List.length_map, List.length_map, List.length_drop]; omega)) (fun i H' => Same H H' ∧ H' D = some (.lst ((((cs.zip (cs.drop 1)).take i).map fun p => decide (p.1 < p.2)).map V.bl))) ⟨Same.new nD, upd_same⟩ (fun i H' _ _ => ⟨rfl, by show _ = _; rw [hz']⟩) ?_ ?_⟩
      · rintro i v H3 H4 hi ⟨k3, hD⟩ ⟨t, y1, y2, rfl, nt, rfl, e1, e2⟩
        have kt := Same.new (H := H3) (o := .tup [y1, y2]) nt
        have h1 : i < cs.length := by omega
        have h2 : 1 + i < cs.length := by omega
        have e1 : (cs.map fun c => V.str ⟨#[c]⟩)[i]? = some y1 := e1
        have e2 : ((cs.drop 1).map fun c => V.str ⟨#[c]⟩)[i]? = some y2 := e2
        have f1 := List.getElem?_eq_getElem h1
        have f2 : (cs.drop 1)[i]? = some cs[1 + i] := by rw [List.getElem?_drop, List.getElem?_eq_getElem h2]
        rw [List.getElem?_map, f1] at e1
        rw [List.getElem?_map, f2] at e2
        have e1 := Option.some.inj e1
        have e2 := Option.some.inj e2
        have ez : (cs.zip (cs.drop 1))[i]? = some (cs[i], cs[1 + i]) := List.getElem?_zip_eq_some.mpr ⟨f1, f2⟩
        subst e1 e2
        refine ⟨t, _, rfl, SqT.of upd_same, rfl, _, _, rfl, _, [], rfl, rfl, rfl, _, rfl, _, rfl, sn cs[i], sn cs[1 + i], rfl, rfl, _, kt _ _ hD, ?_, sameAt (k3.trans kt) nD, ?_⟩
        · rw [List.length_map, List.length_map, List.length_take]
          have h3 : sizeLine = 16777216 := sizeLine_eq
          omega
        · rw [upd_same, List.take_succ, ez, Option.toList_some, List.map_append, List.map_append]
          rw [show decide ((sn cs[i]).cps.toList < (sn cs[1 + i]).cps.toList) = decide (cs[i] < cs[1 + i]) from decide_eq_decide.mpr lt_one]
          rfl
      · rintro H3 ⟨k3, hD⟩
        have lz : (cs.zip (cs.drop 1)).length = cs.length - 1 := by rw [List.length_zip, List.length_drop]; omega
        rw [← lz, List.take_length] at hD
        refine ⟨D, (cs.zip (cs.drop 1)).map fun p => decide (p.1 < p.2), rfl, sq_of hD, ?_⟩
        rw [List.all_map]
        exact q _ k3
abbrev sQIsPart : Stmt := topS 16
theorem scQIsPart : FnScope ["thing", "word"] ["thing"] (defScope sQIsPart) := ⟨rfl, rfl, rfl, by decide +kernel, rfl, by decide +kernel, by decide +kernel⟩
theorem ok_QIsPart {f : Addr} {fd : FuncData} (F : Fun K "_is_part" "_is_part" sQIsPart f fd)  {tG : Tok} (gG : mg "MOST_GAP" = some (.int 20 tG)) {fQIsLot : Addr} {fdQIsLot : FuncData} (DQIsLot : Dk P w K mg base "_is_lot" sQIsLot ["thing"] 3 spLotV fQIsLot fdQIsLot) {fPNumber : Addr} {fdPNumber : FuncData} (DPNumber : Dk P w K mg base "is_number" sPNumber ["thing"] 1 spNum fPNumber fdPNumber) {fPSign : Addr} {fdPSign : FuncData} (DPSign : Dk P w K mg base "is_sign" sPSign ["thing"] 2 spSign fPSign fdPSign) (T : Glob mg) : FnOk P w K mg base CX0 4 f fd ["thing"] spPartT := by
  refine F.ok scQIsPart (fun vs H Q E h => ?_) (fun cdv A outer s H vs Q E hr h => ?_)
  · obtain ⟨x, o, rfl, _⟩ := h
    rfl
  · refine ⟨_, (pss_cons (ps_if (PW.pt (pw_or (pt_not (pt_val (pe_callB call_isi (by rfl) T.isinstance PyProof.Rows.boot_isinstance (pa_cons (pv 0) (pa_cons (pe_bltn (v := .ty "tuple") (by rfl) T.tuple (by decide +kernel) rfl) pa_nil))))) (pw_or (pt_cmpR op_eq (pe_callB call_len_seq (by rfl) T.len PySem.boot_len (pa_cons (pv 0) pa_nil)) pe_int (nomark _)) (pw_or1 (pt_not (pt_val (pe_callB call_isi (by rfl) T.isinstance PyProof.Rows.boot_isinstance (pa_cons (pe_ix ix_tup (pv 0) pe_int (fun _ _ => rfl)) (pa_cons (pe_bltn (v := .ty "str") (by rfl) T.str (by decide +kernel) rfl) pa_nil)))))))))
      (pss_one (ps_ret pe_bl))
      pss_nil)
      (pss_cons (ps_set (i := 1) scQIsPart.nd rfl (.inl rfl) (pe_ix ix_tup (pv 0) pe_int (fun _ _ => rfl)))
      (pss_cons (ps_if (pt_cmpR op_eq (pv 1) pe_str (nomark _))
      (pss_one (ps_ret (pe_cmpR op_eq (pe_callB call_len_seq (by rfl) T.len PySem.boot_len (pa_cons (pv 0) pa_nil)) pe_int (nomark _))))
      pss_nil)
      (pss_cons (ps_if (pt_cmpR op_eq (pv 1) pe_str (nomark _))
      (pss_one (ps_ret (pe_and (pe_cmpR op_eq (pe_callB call_len_seq (by rfl) T.len PySem.boot_len (pa_cons (pv 0) pa_nil)) pe_int (nomark _)) (pe_one (pe_call DPSign.ok (hr.mono (by decide)) (by rfl) DPSign.g DPSign.F.kp DPSign.b .nil pass0 (pa_cons (pe_ix ix_tup (pv 0) pe_int (fun _ _ => rfl)) pa_nil))))))
      pss_nil)
      (pss_cons (ps_if (pt_cmpR op_eq (pv 1) pe_str (nomark _))
      (pss_one (ps_ret (pe_and (pe_cmpR op_eq (pe_callB call_len_seq (by rfl) T.len PySem.boot_len (pa_cons (pv 0) pa_nil)) pe_int (nomark _)) (pe_one (pe_call DQIsLot.ok (hr.mono (by decide)) (by rfl) DQIsLot.g DQIsLot.F.kp DQIsLot.b .nil pass0 (pa_cons (pe_ix ix_tup (pv 0) pe_int (fun _ _ => rfl)) pa_nil))))))
      pss_nil)
      (pss_cons (ps_if (PW.pt (pw_or (pt_cmpR op_ne (pv 1) pe_str (nomark _)) (pw_or (pt_cmpR op_ne (pe_callB call_len_seq (by rfl) T.len PySem.boot_len (pa_cons (pv 0) pa_nil)) pe_int (nomark _)) (pw_or (pt_not (pt_val (pe_call DPNumber.ok (hr.mono (by decide)) (by rfl) DPNumber.g DPNumber.F.kp DPNumber.b .nil pass0 (pa_cons (pe_ix ix_tup (pv 0) pe_int (fun _ _ => rfl)) pa_nil)))) (pw_or1 (pt_not (pt_val (pe_call DPNumber.ok (hr.mono (by decide)) (by rfl) DPNumber.g DPNumber.F.kp DPNumber.b .nil pass0 (pa_cons (pe_ix ix_tup (pv 0) pe_int (fun _ _ => rfl)) pa_nil)))))))))
      (pss_one (ps_ret pe_bl))
      pss_nil)
      (pss_one (ps_ret (pe_chain op_le op_le (pe_ix ix_tup (pv 0) pe_int (fun _ _ => rfl)) (pe_ix ix_tup (pv 0) pe_int (fun _ _ => rfl)) (pe_glob (v := .int 20) (by rfl) gG ⟨_, rfl⟩)))))))))), ?_⟩
    obtain ⟨x, o, rfl, tg, q⟩ := h
    cases tg with
    | @no _ k hk n s =>
      exact ⟨x, rfl, x, .ty "tuple", .type (Kn.name k), .type "tuple", false, rfl, .ty _, Kd.tyx hk, kit_no n, _, rfl, iteT (q _ (Same.refl H))⟩
    | @tup a xs ha n30 hx =>
      refine ⟨.ref a, rfl, .ref a, .ty "tuple", .type (Kn.name .tup), .type "tuple", kitB .tup .tup, rfl, .ty _, Kd.tyx (.tup ha), kit_kn .tup .tup, _, rfl, iteF ?_⟩
      refine ⟨.ref a, rfl, a, _, rfl, .inr (SqT.of ha), rfl, _, rfl, ?_⟩
      rw [dec_int]
      cases xs with
      | nil => exact iteT (q _ (Same.refl H))
      | cons x r =>
        have ln : (x :: r).length = r.length + 1 := rfl
        have e0 : decide (((x :: r).length : Int) = 0) = false := decide_eq_false (by rw [ln]; omega)
        rw [e0]
        refine iteF ?_
        obtain ⟨⟨k, hk⟩, hv⟩ := hx x List.mem_cons_self
        refine ⟨.ref a, rfl, a, _, 0, x, rfl, rfl, SqT.of ha, at0 x r, x, .ty "str", .type (Kn.name k), .type "str", kitB k .str, rfl, .ty _, Kd.tyx hk, kit_kn k .str, _, rfl, ?_⟩
        cases hk with
        | str z =>
          refine iteF ?_
          have q : ∀ H', Same H H' → Q (.bl (restB z r)) H' := q
          unfold restB at q
          refine ⟨.ref a, rfl, a, _, 0, .str z, rfl, rfl, SqT.of ha, at0 _ r, .str z, rfl, rfl, _, rfl, ?_⟩
          rw [dec_str]
          refine ite2 (fun e => ?_) (fun e => ?_)
          · rw [if_pos (of_decide_eq_true e)] at q
            refine ⟨.ref a, rfl, a, _, rfl, .inr (SqT.of ha), rfl, ?_⟩
            rw [dec_int, decide_eq_decide.mpr (show ((V.str z :: r).length : Int) = 1 ↔ r.length = 0 by rw [List.length_cons]; omega)]
            exact q _ (Same.refl H)
          rw [if_neg (fun y => e (decide_eq_true y))] at q
          refine ⟨.str z, rfl, rfl, _, rfl, ?_⟩
          rw [dec_str]
          refine ite2 (fun e => ?_) (fun e => ?_)
          · rw [if_pos (of_decide_eq_true e)] at q
            refine ⟨.ref a, rfl, a, _, rfl, .inr (SqT.of ha), rfl, _, rfl, ?_⟩
            rw [dec_int]
            match r, q, ha, hx with
            | [], q, _, _ => exact iteF (q _ (Same.refl H))
            | [y], q, ha, hx =>
              obtain ⟨⟨k2, hk2⟩, hv2⟩ := hx y (by simp)
              exact iteT ⟨.ref a, rfl, a, _, 1, y, rfl, rfl, SqT.of ha, rfl, y, k2, rfl, hk2, hv2, q _ (Same.refl H)⟩
            | y :: y2 :: r', q, _, _ =>
              rw [decide_eq_false (show ¬ ((V.str z :: y :: y2 :: r').length : Int) = 2 by rw [List.length_cons, List.length_cons, List.length_cons]; omega)]
              exact iteF (q _ (Same.refl H))
          rw [if_neg (fun y => e (decide_eq_true y))] at q
          refine ⟨.str z, rfl, rfl, _, rfl, ?_⟩
          rw [dec_str]
          refine ite2 (fun e => ?_) (fun e => ?_)
          · rw [if_pos (of_decide_eq_true e)] at q
            refine ⟨.ref a, rfl, a, _, rfl, .inr (SqT.of ha), rfl, _, rfl, ?_⟩
            rw [dec_int]
            match r, q, ha, hx with
            | [], q, _, _ => exact iteF (q _ (Same.refl H))
            | [y], q, ha, hx =>
              obtain ⟨⟨k2, hk2⟩, hv2⟩ := hx y (by simp)
              exact iteT ⟨.ref a, rfl, a, _, 1, y, rfl, rfl, SqT.of ha, rfl, y, k2, rfl, hk2, hv2, q⟩
            | y :: y2 :: r', q, _, _ =>
              rw [decide_eq_false (show ¬ ((V.str z :: y :: y2 :: r').length : Int) = 2 by rw [List.length_cons, List.length_cons, List.length_cons]; omega)]
              exact iteF (q _ (Same.refl H))
          rw [if_neg (fun y => e (decide_eq_true y))] at q
          refine ⟨.str z, rfl, rfl, _, rfl, ?_⟩
          rw [dec_str]
          refine ite2 (fun e => ?_) (fun e => ?_)
          · have e1 : ¬ z = Str.ofString "gap" := fun y => by rw [decide_eq_true y] at e; cases e
            rw [if_neg e1] at q
            exact q _ (Same.refl H)
          have e1 : z = Str.ofString "gap" := by simpa using e
          rw [if_pos e1] at q
          refine ⟨.ref a, rfl, a, _, rfl, .inr (SqT.of ha), rfl, _, rfl, ?_⟩
          rw [dec_int]
          match r, q, ha, hx with
          | [], q, _, _ => exact iteT (q _ (Same.refl H))
          | [y], q, _, _ => exact iteT (q _ (Same.refl H))
          | y :: y2 :: y3 :: r', q, _, _ =>
            rw [decide_eq_false (show ¬ ((V.str z :: y :: y2 :: y3 :: r').length : Int) = 3 by rw [List.length_cons, List.length_cons, List.length_cons, List.length_cons]; omega)]
            exact iteT (q _ (Same.refl H))
          | [y, y2], q, ha, hx =>
            obtain ⟨⟨k1, hk1⟩, hv1⟩ := hx y (by simp)
            obtain ⟨⟨k2, hk2⟩, hv2⟩ := hx y2 (by simp)
            have q : Q (.bl (gapV y y2)) H := q _ (Same.refl H)
            refine iteF ⟨.ref a, rfl, a, _, 1, y, rfl, rfl, SqT.of ha, rfl, y, k1, rfl, hk1, _, rfl, ite2 (fun e => ?_) (fun e => ?_)⟩
            · have e : numV y = false := by simpa using e
              have z : gapV y y2 = false := by
                cases y with
                | int i =>
                  cases y2 with
                  | int j => show (decide (0 ≤ i) && _) = false; rw [show decide (0 ≤ i) = false from e]; rfl
                  | _ => rfl
                | _ => rfl
              rw [z] at q
              exact q
            refine ⟨.ref a, rfl, a, _, 2, y2, rfl, rfl, SqT.of ha, rfl, y2, k2, rfl, hk2, _, rfl, ite2 (fun e2 => ?_) (fun e2 => ?_)⟩
            · have e2 : numV y2 = false := by simpa using e2
              have z : gapV y y2 = false := by
                cases y with
                | int i =>
                  cases y2 with
                  | int j => show (decide (0 ≤ i) && (decide (0 ≤ j) && _)) = false; rw [show decide (0 ≤ j) = false from e2]; simp
                  | _ => rfl
                | _ => rfl
              rw [z] at q
              exact q
            have n1 : numV y = true := by simpa using e
            have n2 : numV y2 = true := by simpa using e2
            cases y with
            | int i =>
              cases y2 with
              | int j =>
                have z : gapV (.int i) (.int j) = (decide (i ≤ j) && decide (j ≤ 20)) := by
                  show (decide (0 ≤ i) && (decide (0 ≤ j) && _)) = _
                  rw [show decide (0 ≤ i) = true from n1, show decide (0 ≤ j) = true from n2, Bool.true_and, Bool.true_and]
                rw [z] at q
                refine ⟨.ref a, rfl, a, _, 1, .int i, rfl, rfl, SqT.of ha, rfl, .ref a, rfl, a, _, 2, .int j, rfl, rfl, SqT.of ha, rfl, _, _, rfl, rfl, ?_⟩
                refine ⟨_, rfl, ite2 (fun e3 => ?_) (fun e3 => ?_)⟩
                · refine ⟨_, _, rfl, rfl, ?_⟩
                  have e3 : decide (i ≤ j) = true := e3
                  rw [e3, Bool.true_and] at q
                  exact q
                · have e3 : decide (i ≤ j) = false := by simpa using e3
                  rw [e3, Bool.false_and] at q
                  have e4 : V.bl (decide (i ≤ j)) = .bl false := by rw [e3]
                  first
                    | exact q
                    | (rw [e4]; exact q)
              | _ => cases n2
            | _ => cases n1
        | _ => exact iteT (q _ (Same.refl H))
abbrev sPIsPattern : Stmt := topS 17
theorem scPIsPattern : FnScope ["thing", "gaps", "part", "one", "other"] ["thing"] (defScope sPIsPattern) := ⟨rfl, rfl, rfl, by decide +kernel, rfl, by decide +kernel, by decide +kernel⟩
theorem ok_PIsPattern {f : Addr} {fd : FuncData} (F : Fun K "is_pattern" "is_pattern" sPIsPattern f fd) {tP : Tok} (gP : mg "MOST_PARTS" = some (.int 30 tP)) {fQIsPart : Addr} {fdQIsPart : FuncData} (DQIsPart : Dk P w K mg base "_is_part" sQIsPart ["thing"] 4 spPartT fQIsPart fdQIsPart) (T : Glob mg) : FnOk P w K mg base CX0 5 f fd ["thing"] spPatT := by
  refine F.ok scPIsPattern (fun vs H Q E h => ?_) (fun cdv A outer s H vs Q E hr h => ?_)
  · obtain ⟨x, o, rfl, _⟩ := h
    rfl
  · refine ⟨_, (pss_cons (ps_if (PW.pt (pw_or (pt_not (pt_val (pe_callB call_isi (by rfl) T.isinstance PyProof.Rows.boot_isinstance (pa_cons (pv 0) (pa_cons (pe_bltn (v := .ty "tuple") (by rfl) T.tuple (by decide +kernel) rfl) pa_nil))))) (pw_or (pt_cmpR op_lt (pe_callB call_len_seq (by rfl) T.len PySem.boot_len (pa_cons (pv 0) pa_nil)) pe_int (nomark _)) (pw_or1 (pt_cmpR op_gt (pe_callB call_len_seq (by rfl) T.len PySem.boot_len (pa_cons (pv 0) pa_nil)) (pe_glob (v := .int 30) (by rfl) gP ⟨_, rfl⟩) (nomark _))))))
      (pss_one (ps_ret pe_bl))
      pss_nil)
      (pss_cons (ps_if (pt_not (pt_val (pe_callB (cr_all rfl) (by rfl) T.all (by decide +kernel) (pa_cons (pe_lc (own := [("part", 2)]) (g := gName 2) (by rfl) scPIsPattern.nd (pi_tup (pv 0)) (blkOk_by (N := ["thing", "gaps", "part", "one", "other"]) (sc := defScope sPIsPattern) (by decide +kernel)) (fun _ _ _ _ _ => pg_name (i := 2) scPIsPattern.nd rfl (.inl rfl)) (fun _ _ _ _ _ => pts_nil) (fun _ _ _ _ _ => (pe_call DQIsPart.ok (hr.mono (by decide)) (by rfl) DQIsPart.g DQIsPart.F.kp DQIsPart.b .nil pass0 (pa_cons (pv 2) pa_nil)))) pa_nil))))
      (pss_one (ps_ret pe_bl))
      pss_nil)
      (pss_cons (ps_setLc (i := 1) (own := [("part", 2)]) (g := gName 2) (by rfl) scPIsPattern.nd rfl rfl (sw_true rfl rfl rfl (by decide +kernel)) (pi_tup (pv 0)) (blkOk_by (N := ["thing", "gaps", "part", "one", "other"]) (sc := defScope sPIsPattern) (by decide +kernel)) (fun _ _ _ _ _ => pg_name (i := 2) scPIsPattern.nd rfl (.inl rfl)) (fun _ _ _ _ _ => pts_nil) (fun _ _ _ _ _ => (pe_cmpR op_eq (pe_ix (r := rIxT K) ix_tup (pv 2) pe_int (fun _ _ => rfl)) pe_str (nomark _))))
      (pss_cons (ps_if (PW.pt (pw_or (pt_val (pe_ix ix_list (pv 1) pe_int (fun _ _ => rfl))) (pw_or1 (pt_val (pe_ix ix_list (pv 1) (pe_un un_neg pe_int) (fun _ _ => rfl))))))
      (pss_one (ps_ret pe_bl))
      pss_nil)
      (pss_one (ps_ret (pe_not (pe_callB (cr_any rfl) (by rfl) T.any (by decide +kernel) (pa_cons (pe_lc (own := [("one", 3), ("other", 4)]) (g := (gTup K 2 (gCons (gName 3) (gCons (gName 4) gNil)))) (by rfl) scPIsPattern.nd (RZ.pi_zipA (by rfl) T.zip (pa_cons (pv 1) (pa_cons (pe_slice sl_list (pv 1) (po_some pe_int) po_none) pa_nil))) (blkOk_by (N := ["thing", "gaps", "part", "one", "other"]) (sc := defScope sPIsPattern) (by decide +kernel)) (fun _ _ _ _ _ => pg_tup (by rfl) (pgs_cons (pg_name (i := 3) scPIsPattern.nd rfl (.inl rfl)) (pgs_cons (pg_name (i := 4) scPIsPattern.nd rfl (.inl rfl)) pgs_nil))) (fun _ _ _ _ _ => pts_nil) (fun _ _ _ _ _ => (pe_and (pv 3) (pe_one (pv 4))))) pa_nil))))))))), ?_⟩
    obtain ⟨x, o, rfl, pt, q⟩ := h
    cases pt with
    | @no _ k hk n =>
      exact ⟨x, rfl, x, .ty "tuple", .type (Kn.name k), .type "tuple", false, rfl, .ty _, Kd.tyx hk, kit_no n, _, rfl, iteT (q _ (Same.refl H))⟩
    | @tup a vs os ha few hv =>
      have lv := hv.len
      have q : ∀ H', Same H H' → Q (.bl (patL os)) H' := q
      refine ⟨.ref a, rfl, .ref a, .ty "tuple", .type (Kn.name .tup), .type "tuple", kitB .tup .tup, rfl, .ty _, Kd.tyx (.tup ha), kit_kn .tup .tup, _, rfl, iteF ?_⟩
      refine ⟨.ref a, rfl, a, _, rfl, .inr (SqT.of ha), _, _, rfl, rfl, _, rfl, ?_⟩
      unfold patL at q
      rw [lv]
      refine ite2 (fun e => ?_) (fun e => ?_)
      · rw [e] at q
        exact q _ (Same.refl H)
      rw [Bool.eq_false_iff.mpr e] at q
      refine ⟨.ref a, rfl, a, _, rfl, .inr (SqT.of ha), _, _, rfl, rfl, _, rfl, ?_⟩
      rw [lv]
      refine ite2 (fun e => ?_) (fun e => ?_)
      · rw [e] at q
        exact q _ (Same.refl H)
      rw [Bool.eq_false_iff.mpr e] at q
      have l1 : 1 ≤ os.length := by have := of_decide_eq_false (Bool.eq_false_iff.mpr ‹¬ decide ((os.length : Int) < 1) = true›); omega
      have q : ∀ H', Same H H' → Q (.bl (os.all partB && (!((os.map gapO).headD false) && (!((os.map gapO).getLastD false) && !adjB (os.map gapO))))) H' := q
      have sz : sizeLine = 16777216 := sizeLine_eq
      refine ⟨.ref a, rfl, a, rfl, ⟨_, SqT.of ha⟩, fun D nD => lc_tup (K := K) (xs := vs) (fun i H' => Same H H' ∧ H' D = some (.lst (((os.take i).map partB).map V.bl))) ⟨Same.new nD, upd_same⟩ (fun i H' _ g => SqT.of (g.1 _ _ ha)) ?_ ?_⟩
      · rintro i u H2 hu ⟨k2, hD⟩
        obtain ⟨o, ho, tg⟩ := hv.at hu
        have li := (List.getElem?_eq_some_iff.mp hu).1
        refine ⟨rfl, u, rfl, u, o, rfl, tg.same k2, fun H3 k3 => ⟨_, k3 _ _ hD, ?_, sameAt (k2.trans k3) nD, ?_⟩⟩
        · rw [List.length_map, List.length_map, List.length_take]
          omega
        · rw [upd_same, List.take_succ, ho, Option.toList_some, List.map_append, List.map_append]
          rfl
      rintro H2 ⟨k2, hD⟩
      rw [lv, List.take_length] at hD
      refine ⟨D, os.map partB, rfl, sq_of hD, _, rfl, ?_⟩
      rw [List.all_map, show os.all (id ∘ partB) = os.all partB from rfl]
      cases hall : os.all partB with
      | false =>
        rw [hall] at q
        exact iteT (q _ k2)
      | true =>
        rw [hall] at q
        have q : ∀ H', Same H H' → Q (.bl (!((os.map gapO).headD false) && (!((os.map gapO).getLastD false) && !adjB (os.map gapO)))) H' := q
        refine iteF ?_
        have ha2 := k2 _ _ ha
        refine ⟨.ref a, rfl, a, rfl, ⟨_, SqT.of ha2⟩, fun G nG => lc_tup (K := K) (xs := vs) (fun i H' => Same H2 H' ∧ H' G = some (.lst ((((os.map gapO).take i)).map V.bl))) ⟨Same.new nG, upd_same⟩ (fun i H' _ g => SqT.of (g.1 _ _ ha2)) ?_ ?_⟩
        · rintro i u H3 hu ⟨k3, hG⟩
          obtain ⟨o, ho, tg⟩ := hv.at hu
          have li := (List.getElem?_eq_some_iff.mp hu).1
          have pb : partB o = true := List.all_eq_true.mp hall o (List.mem_of_getElem? ho)
          cases tg with
          | no _ _ _ => cases pb
          | @tup b xs hb n30 hx =>
            cases xs with
            | nil => cases pb
            | cons x r =>
              have eg : (os.map gapO)[i]? = some (decide (x = V.str "gap")) := by rw [List.getElem?_map, ho]; rfl
              have sc : scal x (V.str "gap") = true := by
                cases x with
                | str z => rfl
                | _ => cases pb
              refine ⟨rfl, .ref b, rfl, b, _, 0, _, rfl, rfl, SqT.of (k3 _ _ (k2 _ _ hb)), at0 x r, sc, _, hG, ?_, sameAt k3 nG, ?_⟩
              · rw [List.length_map, List.length_take, List.length_map]
                omega
              · rw [upd_same, List.take_succ, eg, List.map_append]
                rfl
        rintro H3 ⟨k3, hG⟩
        have lg : (os.map gapO).length = os.length := List.length_map _
        rw [lv, List.take_of_length_le (by omega)] at hG
        generalize os.map gapO = gs at q hG lg
        have l1g : 1 ≤ gs.length := by omega
        obtain ⟨b0, gr, eg0⟩ : ∃ b0 gr, gs = b0 :: gr := by
          cases gs with
          | nil => exact absurd l1g (by decide)
          | cons b0 gr => exact ⟨_, _, rfl⟩
        have g0 : atI (gs.map V.bl) 0 = some (V.bl (gs.headD false)) := by rw [eg0]; exact atI_nat (j := 0) rfl
        have g1 : atI (gs.map V.bl) (-1) = some (V.bl (gs.getLastD false)) := by
          obtain ⟨gs0, b, e⟩ := snoc_of (show gs ≠ [] from fun z => by rw [z] at l1g; simp at l1g)
          rw [e, List.map_append, List.getLastD_concat]
          exact atI_last _ _
        refine ⟨.ref G, rfl, G, _, 0, .bl (gs.headD false), rfl, rfl, sq_of hG, g0, _, rfl, ?_⟩
        cases hf : gs.headD false with
        | true =>
          rw [hf] at q
          exact iteT (q _ (k2.trans k3))
        | false =>
        rw [hf] at q
        refine iteF ?_
        refine ⟨.ref G, rfl, _, rfl, G, _, -1, .bl (gs.getLastD false), rfl, rfl, sq_of hG, g1, _, rfl, ?_⟩
        cases hl : gs.getLastD false with
        | true =>
          rw [hl] at q
          exact iteT (q _ (k2.trans k3))
        | false =>
        rw [hl] at q
        refine iteF ?_
        have q : ∀ H', Same H H' → Q (.bl (!adjB gs)) H' := q
        refine ⟨.ref G, rfl, .ref G, rfl, _, rfl, G, _, rfl, sq_of hG, fun p np => ?_⟩
        have ecut : cutV (gs.map V.bl) (some 1) none = (gs.drop 1).map V.bl := by
          rw [cutV_from (by omega), List.map_drop]
          rfl
        rw [ecut]
        have kp := Same.new (H := H3) (o := .lst ((gs.drop 1).map V.bl)) np
        refine ⟨G, p, gs.map V.bl, (gs.drop 1).map V.bl, rfl, .inl ⟨sq_of (kp _ _ hG), sq_of upd_same, fun R nR => ?_⟩⟩
        have hp4 : upd H3 p (.lst ((gs.drop 1).map V.bl)) p = some (.lst ((gs.drop 1).map V.bl)) := upd_same
        have hG4 := kp _ _ hG
        have k4 := k3.trans kp
        revert hp4 hG4 k4 nR
        generalize upd H3 p (.lst ((gs.drop 1).map V.bl)) = H4
        intro nR hp4 hG4 k4
        have lz : (gs.zip (gs.drop 1)).length = min gs.length (gs.length - 1) := by rw [List.length_zip, List.length_drop]
        refine lc_it (walk_zip (K := K) (a := G) (b := p) (xs := gs.map V.bl) (ys := (gs.drop 1).map V.bl) (n := min gs.length (gs.length - 1)) (by rw [List.length_map, List.length_map, List.length_drop])) (fun i H' => Same H4 H' ∧ H' R = some (.lst ((((gs.zip (gs.drop 1)).take i).map fun p => p.1 && p.2).map V.bl))) ⟨Same.new nR, upd_same⟩ (fun i H' _ g => ⟨sq_of (g.1 _ _ hG4), sq_of (g.1 _ _ hp4)⟩) ?_ ?_
        · rintro i v H5 H6 hi ⟨k5, hR⟩ ⟨t, y1, y2, rfl, nt, rfl, e1, e2⟩
          have kt := Same.new (H := H5) (o := .tup [y1, y2]) nt
          have e1 : (gs.map V.bl)[i]? = some y1 := e1
          have e2 : ((gs.drop 1).map V.bl)[i]? = some y2 := e2
          rw [List.getElem?_map] at e1
          rw [List.getElem?_map] at e2
          obtain ⟨b1, f1, rfl⟩ := Option.map_eq_some_iff.mp e1
          obtain ⟨b2, f2, rfl⟩ := Option.map_eq_some_iff.mp e2
          have ez : (gs.zip (gs.drop 1))[i]? = some (b1, b2) := List.getElem?_zip_eq_some.mpr ⟨f1, f2⟩
          refine ⟨t, _, rfl, SqT.of upd_same, rfl, _, _, rfl, _, [], rfl, rfl, rfl, ?_⟩
          refine ⟨.bl b1, rfl, b1, rfl, ?_⟩
          have hR5 : (upd H5 t (.tup [V.bl b1, V.bl b2])) R = some (.lst ((((gs.zip (gs.drop 1)).take i).map fun p => p.1 && p.2).map V.bl)) := kt _ _ hR
          have fin : ∀ b, b = (b1 && b2) → ((((gs.zip (gs.drop 1)).take i).map fun p => p.1 && p.2).map V.bl) ++ [V.bl b] = ((((gs.zip (gs.drop 1)).take (i + 1)).map fun p => p.1 && p.2).map V.bl) := fun b eb => by
            rw [List.take_succ, ez, Option.toList_some, List.map_append, List.map_append, eb]
            rfl
          have ll : ((((gs.zip (gs.drop 1)).take i).map fun p => p.1 && p.2).map V.bl).length ≤ 1000 := by
            rw [List.length_map, List.length_map, List.length_take, lz]
            omega
          cases b1 with
          | false => exact iteF ⟨_, hR5, by omega, sameAt (k5.trans kt) nR, by rw [upd_same]; exact congrArg (fun z => some (HO.lst z)) (fin false rfl)⟩
          | true => exact iteT ⟨.bl b2, rfl, _, hR5, by omega, sameAt (k5.trans kt) nR, by rw [upd_same]; exact congrArg (fun z => some (HO.lst z)) (fin b2 rfl)⟩
        rintro H5 ⟨k5, hR⟩
        rw [← lz, List.take_length] at hR
        refine ⟨R, (gs.zip (gs.drop 1)).map fun p => p.1 && p.2, rfl, sq_of hR, _, rfl, ?_⟩
        rw [List.any_map, show (gs.zip (gs.drop 1)).any (id ∘ fun p => p.1 && p.2) = adjB gs from rfl]
        exact q _ ((k2.trans k4).trans k5)
end
end LawK
set_option maxHeartbeats 4000000
namespace Ev
open PySem PySem.Spec PyProof.Rows L2
/-- either way to walk -/
theorem PI.or {X : Cx} {tg e : Expr} {u v : TI} (h : PI X tg e u) (k : PI X tg e v) : PI X tg e (fun σ H R => u σ H R ∨ v σ H R) :=
  ⟨fun pins s σ H R I q => q.elim (fun z => h.run pins s σ H R I z) (fun z => k.run pins s σ H R I z)⟩
theorem for_enL {K : PySem.W.Frag} {a : Addr} {xs : List V} {g : TG} {tb : TS} {D : Ends} {σ : L2.St} {H : Hp} (Pv : Nat → L2.St → Hp → Prop) (h0 : Pv 0 σ H) (hl : ∀ i σ H, Pv i σ H → SqL K H a xs)
    (hs : ∀ (i : Nat) x σ H, xs[i]? = some x → Pv i σ H → ∀ T, H T = none → g (.ref T) σ (upd H T (.tup [.int (i : Nat), x])) fun σ2 H2 => tb { D with nx := Pv (i + 1), ct := Pv (i + 1), bk := D.nx } σ2 H2) (hd : ∀ σ H, Pv xs.length σ H → D.nx σ H) :
    ∃ W : Nat → Nat → L2.St → Hp → Prop, (∃ m, W 0 m σ H) ∧ ∀ i m σ H, W i m σ H →
      ((Ite K a).stop i H ∧ D.nx σ H) ∨ ((Ite K a).go i H ∧ ∃ N : L2.St → Hp → Prop, (∀ σ' H', N σ' H' → ∃ m', m' < m ∧ W (i + 1) m' σ' H') ∧ ∀ x H', (Ite K a).yld i H x H' → g x σ H' fun σ2 H2 => tb { D with nx := N, ct := N, bk := D.nx } σ2 H2) :=
  for_it walk_enum Pv h0 (fun i σ H _ p => hl i σ H p) (fun i x σ H H' _ p y => by
    obtain ⟨T, x1, x2, rfl, nT, rfl, e1, e2⟩ := y
    cases e1
    exact hs i x2 σ H e2 p T nT) hd
theorem kit_seq {K : PySem.W.Frag} (k : Kn) : PySem.W.kitAny K (.type k.name) [.type "list", .type "tuple"] = some (decide (k = .lst) || decide (k = .tup)) := by
  cases k <;> rfl
end Ev
set_option maxHeartbeats 4000000
namespace LawK
open PySem PySem.Spec PyProof.Rows L2 Ev

def spSgL : Sp := fun vs H Q _ => ∃ x k, vs = [x] ∧ Kd H x k ∧ Vs x ∧ ∀ H', Same H H' → Q (.bl (sgV x)) H'
def spDeep : Sp := fun vs H Q _ => vs = [] ∧ ∀ a v H', Same H H' → H a = none → H' a = some (.lst [v]) → Q (.ref a) H'
def spFlagD : Sp := fun vs H Q _ => ∃ (a b : Bool), vs = [.bl a, .bl b] ∧ Q (.bl (decide (a = b))) H
theorem walk_zipT2 {K : PySem.W.Frag} {a b : Addr} {xs ys : List V} {n : Nat} (hn : n = min xs.length ys.length) : Walk (RZ.ItzT K a b) n (fun H => SqT K H a xs ∧ SqT K H b ys) (YPair (fun i => xs[i]?) (fun i => ys[i]?)) := by
  subst hn
  refine ⟨fun i _ hi q => ?_, fun _ q => ⟨xs, ys, q.1, q.2, by omega⟩, fun i H v H' _ q y => ?_⟩
  · have h1 : i < xs.length := by omega
    have h2 : i < ys.length := by omega
    exact ⟨xs, ys, xs[i], ys[i], q.1, q.2, by simp [h1], by simp [h2]⟩
  · obtain ⟨T, x, z, h1, h2, h3, h4, h5⟩ := y
    exact ⟨T, x, z, h1, h2, h3, h4 xs q.1, h5 ys q.2⟩
theorem part_head {H : Hp} {v : V} {o : Option (List V)} (tg : Tg H v o) (pb : partB o = true) : ∃ b x r, v = .ref b ∧ H b = some (.tup (x :: r)) ∧ scal x (V.str "gap") = true ∧ gapO o = decide (x = V.str "gap") := by
  cases tg with
  | no _ _ _ => cases pb
  | @tup b xs hb n30 hx =>
    cases xs with
    | nil => cases pb
    | cons x r =>
      refine ⟨b, x, r, rfl, hb, ?_, rfl⟩
      cases x with
      | str z => rfl
      | _ => cases pb
theorem le_lo (c : Nat) : (!decide ((Str.mk #[c]).cps.toList < (Str.ofString " ").cps.toList)) = decide (32 ≤ c) := by
  rw [show (Str.ofString " ").cps.toList = [32] by decide +kernel]
  refine Bool.eq_iff_iff.mpr ?_
  rw [Bool.not_eq_true', decide_eq_false_iff_not, decide_eq_true_iff]
  show ¬ ([c] : List Nat) < [32] ↔ _
  rw [lt_one]
  omega
theorem le_hi (c : Nat) : (!decide ((Str.ofString "~").cps.toList < (Str.mk #[c]).cps.toList)) = decide (c ≤ 126) := by
  rw [show (Str.ofString "~").cps.toList = [126] by decide +kernel]
  refine Bool.eq_iff_iff.mpr ?_
  rw [Bool.not_eq_true', decide_eq_false_iff_not, decide_eq_true_iff]
  show ¬ ([126] : List Nat) < [c] ↔ _
  rw [lt_one]
  omega
section
variable {P : Program} {w : World} {K : PySem.W.Frag} {mg : Str → Option Value} {base : Heap}

abbrev sLNumber : Stmt := topS 35
theorem scLNumber : FnScope ["thing", "least", "most"] ["thing", "least", "most"] (defScope sLNumber) := ⟨rfl, rfl, rfl, by decide +kernel, rfl, by decide +kernel, by decide +kernel⟩
theorem ok_LNumber {f : Addr} {fd : FuncData} (F : Fun K "_law_is_number" "_law_is_number" sLNumber f fd)   (T : Glob mg) : FnOk P w K mg base CX0 1 f fd ["thing", "least", "most"] spIn := by
  refine F.ok scLNumber (fun vs H Q E h => ?_) (fun cdv A outer s H vs Q E hr h => ?_)
  · obtain ⟨x, k, a, b, rfl, _⟩ := h
    rfl
  · refine ⟨_, (pss_one (ps_ret (pe_and (pe_callB call_isi (by rfl) T.isinstance PyProof.Rows.boot_isinstance (pa_cons (pv 0) (pa_cons (pe_bltn (v := .ty "int") (by rfl) T.int (by decide +kernel) rfl) pa_nil))) (pe_and (pe_not (pe_callB call_isi (by rfl) T.isinstance PyProof.Rows.boot_isinstance (pa_cons (pv 0) (pa_cons (pe_bltn (v := .ty "bool") (by rfl) T.bool (by decide +kernel) rfl) pa_nil)))) (pe_one (pe_chain op_le op_le (pv 1) (pv 0) (pv 2))))))), ?_⟩
    obtain ⟨x, k, a, b, rfl, hk, q⟩ := h
    refine ⟨x, rfl, x, .ty "int", .type (Kn.name k), .type "int", kitB k .int, rfl, .ty _, Kd.tyx hk, kit_kn k .int, _, rfl, ?_⟩
    cases hk with
    | int i =>
      refine iteT ⟨.int i, rfl, .int i, .ty "bool", .type (Kn.name .int), .type "bool", kitB .int .bl, rfl, .ty _, Kd.tyx (.int i), kit_kn .int .bl, _, rfl, _, rfl, iteT ?_⟩
      refine ⟨.int a, rfl, .int i, rfl, _, _, rfl, rfl, ?_⟩
      refine ⟨_, rfl, ite2 (fun e => ?_) (fun e => ?_)⟩
      · refine ⟨.int b, rfl, _, _, rfl, rfl, ?_⟩
        have q' : Q (.bl (decide (a ≤ i) && decide (i ≤ b))) H := q
        have e : decide (a ≤ i) = true := e
        rw [e, Bool.true_and] at q'
        exact q'
      · have q' : Q (.bl (decide (a ≤ i) && decide (i ≤ b))) H := q
        have e : decide (a ≤ i) = false := by simpa using e
        rw [e, Bool.false_and] at q'
        have e2 : V.bl (decide (a ≤ i)) = .bl false := by rw [e]
        first
          | exact q'
          | (show Q (V.bl (decide (a ≤ i))) H; rw [e]; exact q')
    | bl c => exact iteT ⟨.bl c, rfl, .bl c, .ty "bool", .type (Kn.name .bl), .type "bool", kitB .bl .bl, rfl, .ty _, Kd.tyx (.bl c), kit_kn .bl .bl, _, rfl, _, rfl, iteF q⟩
    | str z => exact iteF q
    | non => exact iteF q
    | lst e => exact iteF q
    | tup e => exact iteF q
    | dic e => exact iteF q

abbrev sDeep : Stmt := topS 30
theorem scDeep : FnScope ["thing", "turn"] [] (defScope sDeep) := ⟨rfl, rfl, rfl, by decide +kernel, rfl, by decide +kernel, by decide +kernel⟩
theorem ok_Deep {f : Addr} {fd : FuncData} (F : Fun K "_law_deep" "_law_deep" sDeep f fd)   (T : Glob mg) : FnOk P w K mg base CX0 1 f fd [] spDeep := by
  refine F.ok scDeep (fun vs H Q E h => ?_) (fun cdv A outer s H vs Q E hr h => ?_)
  · obtain ⟨rfl, _⟩ := h
    rfl
  · refine ⟨_, (pss_cons (ps_set (i := 0) scDeep.nd rfl (.inl rfl) (pe_lst (pa_cons pe_non pa_nil)))
      (pss_cons (ps_for PassesOwn.never rfl (pi_range1 (by rfl) T.range (pa_cons pe_int pa_nil)) (pg_name (i := 1) scDeep.nd rfl (.inl rfl))
      (pss_one (ps_set (i := 0) scDeep.nd rfl (.inl rfl) (pe_lst (pa_cons (pv 0) pa_nil)))))
      (pss_one (ps_ret (pv 0))))), ?_⟩
    obtain ⟨rfl, q⟩ := h
    refine ⟨by show 1 ≤ sizeLine; decide, fun b nb => ?_⟩
    try dsimp only [tNext, tDrop, tSeq, tAsg, gName]
    refine ⟨35, rfl, by omega, by omega, for_range (fun i σ H' => ∃ (a : Addr) (v : V) (u1 : Option V), σ = [some (.ref a), u1] ∧ Same H H' ∧ H a = none ∧ H' a = some (.lst [v])) ⟨b, .non, none, rfl, Same.new nb, nb, upd_same⟩ ?_ ?_⟩
    · rintro i σ H2 hi ⟨a, v, u1, rfl, k2, na, ha⟩
      try dsimp only [tNext, tDrop, tSeq, tAsg, gName]
      refine ⟨_, rfl, by show 1 ≤ sizeLine; decide, fun c nc => ?_⟩
      exact ⟨c, _, _, rfl, k2.trans (Same.new nc), Same.free k2 nc, upd_same⟩
    · rintro σ H2 ⟨a, v, u1, rfl, k2, na, ha⟩
      exact ⟨_, rfl, q a v H2 k2 na ha⟩

abbrev sFlag : Stmt := topS 31
theorem scFlag : FnScope ["thing", "due"] ["thing", "due"] (defScope sFlag) := ⟨rfl, rfl, rfl, by decide +kernel, rfl, by decide +kernel, by decide +kernel⟩
theorem ok_Flag {f : Addr} {fd : FuncData} (F : Fun K "_law_flag" "_law_flag" sFlag f fd)   (T : Glob mg) : FnOk P w K mg base CX0 1 f fd ["thing", "due"] spFlagD := by
  refine F.ok scFlag (fun vs H Q E h => ?_) (fun cdv A outer s H vs Q E hr h => ?_)
  · obtain ⟨a, b, rfl, _⟩ := h
    rfl
  · refine ⟨_, (pss_one (ps_ret (pe_and (pe_callB call_isi (by rfl) T.isinstance PyProof.Rows.boot_isinstance (pa_cons (pv 0) (pa_cons (pe_bltn (v := .ty "bool") (by rfl) T.bool (by decide +kernel) rfl) pa_nil))) (pe_one (pe_cmpR op_eq (pv 0) (pv 1) (nomark _)))))), ?_⟩
    obtain ⟨a, b, rfl, q⟩ := h
    refine ⟨.bl a, rfl, .bl a, .ty "bool", .type (Kn.name .bl), .type "bool", kitB .bl .bl, rfl, .ty _, Kd.tyx (.bl a), kit_kn .bl .bl, _, rfl, iteT ?_⟩
    refine ⟨.bl a, rfl, .bl b, rfl, rfl, ?_⟩
    rw [show decide (V.bl a = V.bl b) = decide (a = b) from decide_eq_decide.mpr ⟨fun e => V.bl.inj e, fun e => by rw [e]⟩]
    exact q

abbrev sLSigns : Stmt := topS 36
theorem scLSigns : FnScope ["thing", "sign"] ["thing"] (defScope sLSigns) := ⟨rfl, rfl, rfl, by decide +kernel, rfl, by decide +kernel, by decide +kernel⟩
theorem ok_LSigns {f : Addr} {fd : FuncData} (F : Fun K "_law_is_signs" "_law_is_signs" sLSigns f fd)   (T : Glob mg) : FnOk P w K mg base CX0 1 f fd ["thing"] spSgL := by
  refine F.ok scLSigns (fun vs H Q E h => ?_) (fun cdv A outer s H vs Q E hr h => ?_)
  · obtain ⟨x, k, rfl, _⟩ := h
    rfl
  · refine ⟨_, (pss_one (ps_ret (pe_and (pe_callB call_isi (by rfl) T.isinstance PyProof.Rows.boot_isinstance (pa_cons (pv 0) (pa_cons (pe_bltn (v := .ty "str") (by rfl) T.str (by decide +kernel) rfl) pa_nil))) (pe_one (pe_callB (cr_all rfl) (by rfl) T.all (by decide +kernel) (pa_cons (pe_lc (own := [("sign", 1)]) (g := gName 1) (by rfl) scLSigns.nd (pi_str (pv 0)) (blkOk_by (N := ["thing", "sign"]) (sc := defScope sLSigns) (by decide +kernel)) (fun _ _ _ _ _ => pg_name (i := 1) scLSigns.nd rfl (.inl rfl)) (fun _ _ _ _ _ => pts_nil) (fun _ _ _ _ _ => (pe_chain op_le_str op_le_str pe_str (pv 1) pe_str))) pa_nil)))))), ?_⟩
    obtain ⟨x, k, rfl, hk, hz, q⟩ := h
    have sz : sizeLine = 16777216 := sizeLine_eq
    refine ⟨x, rfl, x, .ty "str", .type (Kn.name k), .type "str", kitB k .str, rfl, .ty _, Kd.tyx hk, kit_kn k .str, _, rfl, ?_⟩
    cases hk with
    | str z =>
      have lz := hz z rfl
      have q : ∀ H', Same H H' → Q (.bl (sgB z)) H' := q
      refine iteT ⟨.str z, rfl, z, rfl, fun D nD => lc_it walk_str (fun j H' => Same H H' ∧ H' D = some (.lst (((z.cps.toList.take j).map sgC).map V.bl))) ⟨Same.new nD, upd_same⟩ (fun _ _ _ _ => trivial) ?_ ?_⟩
      · rintro j v H1 H2 hj ⟨k1, hD⟩ ⟨rfl, c, ec, rfl⟩
        have ec2 : z.cps.toList[j]? = some c := by rw [Array.getElem?_toList]; exact ec
        have put : upd H2 D (.lst (((z.cps.toList.take j).map sgC).map V.bl ++ [V.bl (sgC c)])) D = some (.lst (((z.cps.toList.take (j + 1)).map sgC).map V.bl)) := by
          rw [upd_same, List.take_succ, ec2, Option.toList_some, List.map_append, List.map_append]
          rfl
        have few : (((z.cps.toList.take j).map sgC).map V.bl).length < sizeLine := by
          rw [List.length_map, List.length_map, List.length_take]
          have : z.cps.toList.length = z.length := rfl
          omega
        refine ⟨rfl, .str ⟨#[c]⟩, rfl, _, _, rfl, rfl, ?_⟩
        rw [le_lo]
        refine ⟨_, rfl, ite2 (fun e => ?_) (fun e => ?_)⟩
        · refine ⟨_, _, rfl, rfl, ?_⟩
          rw [le_hi]
          have es : sgC c = decide (c ≤ 126) := by unfold sgC; rw [e, Bool.true_and]
          rw [← es]
          exact ⟨_, hD, few, sameAt k1 nD, put⟩
        · have es : sgC c = false := by unfold sgC; rw [show decide (32 ≤ c) = false by simpa using e, Bool.false_and]
          rw [es] at put
          exact ⟨_, hD, few, sameAt k1 nD, put⟩
      · rintro H1 ⟨k1, hD⟩
        have hD : H1 D = some (.lst ((z.cps.toList.map sgC).map V.bl)) := by
          rw [hD, List.take_of_length_le (by rw [Array.length_toList]; exact Nat.le_refl _)]
        refine ⟨D, z.cps.toList.map sgC, rfl, sq_of hD, ?_⟩
        have e2 : (z.cps.toList.map sgC).all id = sgB z := by
          rw [List.all_map]
          rfl
        rw [e2]
        exact q H1 k1
    
    | int i => exact iteF (q H (Same.refl H))
    | bl c => exact iteF (q H (Same.refl H))
    | non => exact iteF (q H (Same.refl H))
    | lst e => exact iteF (q H (Same.refl H))
    | tup e => exact iteF (q H (Same.refl H))
    | dic e => exact iteF (q H (Same.refl H))

abbrev sLIsPart : Stmt := topS 37
theorem scLIsPart : FnScope ["thing", "one", "other"] ["thing"] (defScope sLIsPart) := ⟨rfl, rfl, rfl, by decide +kernel, rfl, by decide +kernel, by decide +kernel⟩
theorem ok_LIsPart {f : Addr} {fd : FuncData} (F : Fun K "_law_is_part" "_law_is_part" sLIsPart f fd)  {fLNumber : Addr} {fdLNumber : FuncData} (DLNumber : Dk P w K mg base "_law_is_number" sLNumber ["thing", "least", "most"] 1 spIn fLNumber fdLNumber) {fLSigns : Addr} {fdLSigns : FuncData} (DLSigns : Dk P w K mg base "_law_is_signs" sLSigns ["thing"] 1 spSgL fLSigns fdLSigns) (T : Glob mg) : FnOk P w K mg base CX0 2 f fd ["thing"] spPartT := by
  refine F.ok scLIsPart (fun vs H Q E h => ?_) (fun cdv A outer s H vs Q E hr h => ?_)
  · obtain ⟨x, o, rfl, _⟩ := h
    rfl
  · refine ⟨_, (pss_cons (ps_if (PW.pt (pw_or (pt_not (pt_val (pe_callB call_isi (by rfl) T.isinstance PyProof.Rows.boot_isinstance (pa_cons (pv 0) (pa_cons (pe_bltn (v := .ty "tuple") (by rfl) T.tuple (by decide +kernel) rfl) pa_nil))))) (pw_or (pt_cmpR op_eq (pe_callB call_len_seq (by rfl) T.len PySem.boot_len (pa_cons (pv 0) pa_nil)) pe_int (nomark _)) (pw_or1 (pt_not (pt_val (pe_callB call_isi (by rfl) T.isinstance PyProof.Rows.boot_isinstance (pa_cons (pe_ix ix_tup (pv 0) pe_int (fun _ _ => rfl)) (pa_cons (pe_bltn (v := .ty "str") (by rfl) T.str (by decide +kernel) rfl) pa_nil)))))))))
      (pss_one (ps_ret pe_bl))
      pss_nil)
      (pss_cons (ps_if (pt_cmpR op_eq (pe_ix ix_tup (pv 0) pe_int (fun _ _ => rfl)) pe_str (nomark _))
      (pss_one (ps_ret (pe_cmpR op_eq (pe_callB call_len_seq (by rfl) T.len PySem.boot_len (pa_cons (pv 0) pa_nil)) pe_int (nomark _))))
      pss_nil)
      (pss_cons (ps_if (pt_cmpR op_eq (pe_ix ix_tup (pv 0) pe_int (fun _ _ => rfl)) pe_str (nomark _))
      (pss_one (ps_ret (pe_and (pe_cmpR op_eq (pe_callB call_len_seq (by rfl) T.len PySem.boot_len (pa_cons (pv 0) pa_nil)) pe_int (nomark _)) (pe_and (pe_call DLSigns.ok (hr.mono (by decide)) (by rfl) DLSigns.g DLSigns.F.kp DLSigns.b .nil pass0 (pa_cons (pe_ix ix_tup (pv 0) pe_int (fun _ _ => rfl)) pa_nil)) (pe_one (pe_cmpR op_eq (pe_callB call_lenZ (by rfl) T.len PySem.boot_len (pa_cons (pe_ix ix_tup (pv 0) pe_int (fun _ _ => rfl)) pa_nil)) pe_int (nomark _)))))))
      pss_nil)
      (pss_cons (ps_if (pt_cmpR op_eq (pe_ix ix_tup (pv 0) pe_int (fun _ _ => rfl)) pe_str (nomark _))
      (pss_cons (ps_if (PW.pt (pw_or (pt_cmpR op_ne (pe_callB call_len_seq (by rfl) T.len PySem.boot_len (pa_cons (pv 0) pa_nil)) pe_int (nomark _)) (pw_or (pt_not (pt_val (pe_call DLSigns.ok (hr.mono (by decide)) (by rfl) DLSigns.g DLSigns.F.kp DLSigns.b .nil pass0 (pa_cons (pe_ix ix_tup (pv 0) pe_int (fun _ _ => rfl)) pa_nil)))) (pw_or1 (pt_not (pt_chain op_le op_le pe_int (pe_callB call_lenZ (by rfl) T.len PySem.boot_len (pa_cons (pe_ix ix_tup (pv 0) pe_int (fun _ _ => rfl)) pa_nil)) pe_int))))))
        (pss_one (ps_ret pe_bl))
        pss_nil)
        (pss_one (ps_ret (pe_callB (cr_all rfl) (by rfl) T.all (by decide +kernel) (pa_cons (pe_lc (own := [("one", 1), ("other", 2)]) (g := (gTup K 2 (gCons (gName 1) (gCons (gName 2) gNil)))) (by rfl) scLIsPart.nd (pi_zipS (by rfl) T.zip (pa_cons (pe_ix ix_tup (pv 0) pe_int (fun _ _ => rfl)) (pa_cons (pe_slice sl_str (pe_ix ix_tup (pv 0) pe_int (fun _ _ => rfl)) (po_some pe_int) po_none) pa_nil))) (blkOk_by (N := ["thing", "one", "other"]) (sc := defScope sLIsPart) (by decide +kernel)) (fun _ _ _ _ _ => pg_tup (by rfl) (pgs_cons (pg_name (i := 1) scLIsPart.nd rfl (.inl rfl)) (pgs_cons (pg_name (i := 2) scLIsPart.nd rfl (.inl rfl)) pgs_nil))) (fun _ _ _ _ _ => pts_nil) (fun _ _ _ _ _ => (pe_cmpR op_lt_str (pv 1) (pv 2) (nomark _)))) pa_nil)))))
      pss_nil)
      (pss_cons (ps_if (PW.pt (pw_or (pt_cmpR op_ne (pe_ix ix_tup (pv 0) pe_int (fun _ _ => rfl)) pe_str (nomark _)) (pw_or1 (pt_cmpR op_ne (pe_callB call_len_seq (by rfl) T.len PySem.boot_len (pa_cons (pv 0) pa_nil)) pe_int (nomark _)))))
      (pss_one (ps_ret pe_bl))
      pss_nil)
      (pss_one (ps_ret (pe_and (pe_call DLNumber.ok (hr.mono (by decide)) (by rfl) DLNumber.g DLNumber.F.kp DLNumber.b .nil pass0 (pa_cons (pe_ix ix_tup (pv 0) pe_int (fun _ _ => rfl)) (pa_cons pe_int (pa_cons pe_int pa_nil)))) (pe_one (pe_call DLNumber.ok (hr.mono (by decide)) (by rfl) DLNumber.g DLNumber.F.kp DLNumber.b .nil pass0 (pa_cons (pe_ix ix_tup (pv 0) pe_int (fun _ _ => rfl)) (pa_cons pe_int (pa_cons (pe_ix ix_tup (pv 0) pe_int (fun _ _ => rfl)) pa_nil))))))))))))), ?_⟩
    obtain ⟨x, o, rfl, tg, q⟩ := h
    cases tg with
    | @no _ k hk n s =>
      exact ⟨x, rfl, x, .ty "tuple", .type (Kn.name k), .type "tuple", false, rfl, .ty _, Kd.tyx hk, kit_no n, _, rfl, iteT (q _ (Same.refl H))⟩
    | @tup a xs ha n30 hx =>
      refine ⟨.ref a, rfl, .ref a, .ty "tuple", .type (Kn.name .tup), .type "tuple", kitB .tup .tup, rfl, .ty _, Kd.tyx (.tup ha), kit_kn .tup .tup, _, rfl, iteF ?_⟩
      refine ⟨.ref a, rfl, a, _, rfl, .inr (SqT.of ha), rfl, _, rfl, ?_⟩
      rw [dec_int]
      cases xs with
      | nil => exact iteT (q _ (Same.refl H))
      | cons x r =>
        have ln : (x :: r).length = r.length + 1 := rfl
        have e0 : decide (((x :: r).length : Int) = 0) = false := decide_eq_false (by rw [ln]; omega)
        rw [e0]
        refine iteF ?_
        obtain ⟨⟨k, hk⟩, hv⟩ := hx x List.mem_cons_self
        refine ⟨.ref a, rfl, a, _, 0, x, rfl, rfl, SqT.of ha, at0 x r, x, .ty "str", .type (Kn.name k), .type "str", kitB k .str, rfl, .ty _, Kd.tyx hk, kit_kn k .str, _, rfl, ?_⟩
        cases hk with
        | str z =>
          refine iteF ?_
          have q : ∀ H', Same H H' → Q (.bl (restB z r)) H' := q
          unfold restB at q
          refine ⟨.ref a, rfl, a, _, 0, .str z, rfl, rfl, SqT.of ha, at0 _ r, rfl, _, rfl, ?_⟩
          rw [dec_str]
          refine ite2 (fun e => ?_) (fun e => ?_)
          · rw [if_pos (of_decide_eq_true e)] at q
            refine ⟨.ref a, rfl, a, _, rfl, .inr (SqT.of ha), rfl, ?_⟩
            rw [dec_int, decide_eq_decide.mpr (show ((V.str z :: r).length : Int) = 1 ↔ r.length = 0 by rw [List.length_cons]; omega)]
            exact q _ (Same.refl H)
          rw [if_neg (fun y => e (decide_eq_true y))] at q
          refine ⟨.ref a, rfl, a, _, 0, .str z, rfl, rfl, SqT.of ha, at0 _ r, rfl, _, rfl, ?_⟩
          rw [dec_str]
          refine ite2 (fun e => ?_) (fun e => ?_)
          · rw [if_pos (of_decide_eq_true e)] at q
            refine ⟨.ref a, rfl, a, _, rfl, .inr (SqT.of ha), rfl, _, rfl, ?_⟩
            rw [dec_int]
            match r, q, ha, hx with
            | [], q, _, _ => exact iteF (q _ (Same.refl H))
            | [y], q, ha, hx =>
              obtain ⟨⟨k2, hk2⟩, hv2⟩ := hx y (by simp)
              refine iteT ⟨.ref a, rfl, a, _, 1, y, rfl, rfl, SqT.of ha, rfl, y, k2, rfl, hk2, hv2, fun H1 k1 => ⟨_, rfl, ?_⟩⟩
              have q : Q (.bl (signV y)) H1 := q _ k1
              cases hs : sgV y with
              | false =>
                have z0 : signV y = false := by
                  cases y with
                  | str z => show (sgB z && _) = false; rw [show sgB z = false from hs]; rfl
                  | _ => rfl
                rw [z0] at q
                exact iteF q
              | true =>
                refine iteT ?_
                cases y with
                | str z =>
                  have q : Q (.bl (sgB z && decide ((z.length : Int) = 1))) H1 := q
                  rw [show sgB z = true from hs, Bool.true_and] at q
                  refine ⟨.ref a, rfl, a, _, 1, .str z, rfl, rfl, SqT.of (k1 _ _ ha), rfl, z, rfl, len5 (hv2 z rfl), rfl, ?_⟩
                  rw [dec_int]
                  exact q
                | _ => cases hs
            | y :: y2 :: r', q, _, _ =>
              rw [decide_eq_false (show ¬ ((V.str z :: y :: y2 :: r').length : Int) = 2 by rw [List.length_cons, List.length_cons, List.length_cons]; omega)]
              exact iteF (q _ (Same.refl H))
          rw [if_neg (fun y => e (decide_eq_true y))] at q
          refine ⟨.ref a, rfl, a, _, 0, .str z, rfl, rfl, SqT.of ha, at0 _ r, rfl, _, rfl, ?_⟩
          rw [dec_str]
          refine ite2 (fun e => ?_) (fun e => ?_)
          · rw [if_pos (of_decide_eq_true e)] at q
            refine ⟨.ref a, rfl, a, _, rfl, .inr (SqT.of ha), rfl, _, rfl, ?_⟩
            rw [dec_int]
            match r, q, ha, hx with
            | [], q, _, _ => exact iteT (q _ (Same.refl H))
            | y :: y2 :: r', q, _, _ =>
              rw [decide_eq_false (show ¬ ((V.str z :: y :: y2 :: r').length : Int) = 2 by rw [List.length_cons, List.length_cons, List.length_cons]; omega)]
              exact iteT (q _ (Same.refl H))
            | [y], q, ha, hx =>
              obtain ⟨⟨k2, hk2⟩, hv2⟩ := hx y (by simp)
              refine iteF ⟨.ref a, rfl, a, _, 1, y, rfl, rfl, SqT.of ha, rfl, y, k2, rfl, hk2, hv2, fun H1 k1 => ⟨_, rfl, ?_⟩⟩
              have q : ∀ H', Same H H' → Q (.bl (lotV y)) H' := q
              cases hs : sgV y with
              | false =>
                have z0 : lotV y = false := by
                  cases y with
                  | str z => show (sgB z && _ && _) = false; rw [show sgB z = false from hs]; rfl
                  | _ => rfl
                rw [z0] at q
                exact iteT (q _ k1)
              | true =>
                refine iteF ?_
                cases y with
                | str z =>
                  have lz := hv2 z rfl
                  have q : ∀ H', Same H1 H' → Q (.bl (decide ((0 : Int) < (z.length : Int)) && (!decide ((20 : Int) < (z.length : Int)) && ascB (cod z)))) H' := fun H' k' => by
                    have q1 : Q (.bl (sgB z && decide ((0 : Int) < (z.length : Int)) && (!decide ((20 : Int) < (z.length : Int)) && ascB (cod z)))) H' := q H' (k1.trans k')
                    rw [show sgB z = true from hs, Bool.true_and] at q1
                    exact q1
                  have ha1 := k1 _ _ ha
                  have ix : atI [V.str (Str.ofString "lot"), V.str z] 1 = some (.str z) := rfl
                  have e2 := of_decide_eq_true e
                  refine ⟨.ref a, rfl, a, _, 1, .str z, rfl, rfl, SqT.of ha1, rfl, z, rfl, len5 lz, _, _, rfl, rfl, _, rfl, ite2 (fun e3 => ?_) (fun e3 => ?_)⟩
                  rotate_left
                  · have e3 : decide ((1 : Int) ≤ (z.length : Int)) = false := by simpa using e3
                    have z0 : decide ((0 : Int) < (z.length : Int)) = false := (decide_eq_decide.mpr (by omega)).trans e3
                    rw [z0] at q
                    refine ⟨false, rfl, iteT ?_⟩
                    exact q H1 (Same.refl H1)
                  have z0 : decide ((0 : Int) < (z.length : Int)) = true := (decide_eq_decide.mpr (by omega)).trans e3
                  rw [z0] at q
                  refine ⟨_, _, rfl, rfl, _, rfl, ite2 (fun e4 => ?_) (fun e4 => ?_)⟩
                  · have e4 : decide ((z.length : Int) ≤ 20) = false := by simpa using e4
                    have z1 : decide ((20 : Int) < (z.length : Int)) = true := decide_eq_true (by have := of_decide_eq_false e4; omega)
                    rw [z1] at q
                    exact q H1 (Same.refl H1)
                  have z1 : decide ((20 : Int) < (z.length : Int)) = false := decide_eq_false (by have := (show (z.length : Int) ≤ 20 by simpa using e4); omega)
                  rw [z1] at q
                  have q : ∀ H', Same H1 H' → Q (.bl (ascB (cod z))) H' := q
                  generalize hcs : cod z = cs at q
                  have ez : z = ⟨cs.toArray⟩ := by rw [← hcs]
                  subst ez
                  have ln : Str.length ⟨cs.toArray⟩ = cs.length := rfl
                  have lc : cs.length ≤ 5000 := lz
                  have hz' : (cutS ⟨cs.toArray⟩ (some 1) none).cps.toList = cs.drop 1 := cutS_from (z := ⟨cs.toArray⟩) (i := 1) (by decide)
                  refine ⟨.ref a, rfl, a, _, 1, .str ⟨cs.toArray⟩, rfl, rfl, SqT.of ha1, rfl, .ref a, rfl, a, _, 1, .str ⟨cs.toArray⟩, rfl, rfl, SqT.of ha1, rfl, _, rfl, ⟨cs.toArray⟩, rfl, len5 lz, .txt ⟨cs.toArray⟩, .txt (cutS ⟨cs.toArray⟩ (some 1) none), cs.map fun c => V.str ⟨#[c]⟩, (cs.drop 1).map fun c => V.str ⟨#[c]⟩, rfl, rfl, by rw [← hz']; rfl, fun D nD => lc_it (walk_zipS (K := K) (k1 := .txt ⟨cs.toArray⟩) (k2 := .txt (cutS ⟨cs.toArray⟩ (some 1) none)) (xs := cs.map fun c => V.str ⟨#[c]⟩) (ys := (cs.drop 1).map fun c => V.str ⟨#[c]⟩) (n := cs.length - 1) (by rw [List.length_map, List.length_map, List.length_drop]; omega)) (fun i H' => Same H1 H' ∧ H' D = some (.lst ((((cs.zip (cs.drop 1)).take i).map fun p => decide (p.1 < p.2)).map V.bl))) ⟨Same.new nD, upd_same⟩ (fun i H' _ _ => ⟨rfl, by show _ = _; rw [hz']⟩) ?_ ?_⟩
                  · rintro i v H3 H4 hi ⟨k3, hD⟩ ⟨t, y1, y2, rfl, nt, rfl, e1, e2⟩
                    have kt := Same.new (H := H3) (o := .tup [y1, y2]) nt
                    have h1 : i < cs.length := by omega
                    have h2 : 1 + i < cs.length := by omega
                    have e1 : (cs.map fun c => V.str ⟨#[c]⟩)[i]? = some y1 := e1
                    have e2 : ((cs.drop 1).map fun c => V.str ⟨#[c]⟩)[i]? = some y2 := e2
                    have f1 := List.getElem?_eq_getElem h1
                    have f2 : (cs.drop 1)[i]? = some cs[1 + i] := by rw [List.getElem?_drop, List.getElem?_eq_getElem h2]
                    rw [List.getElem?_map, f1] at e1
                    rw [List.getElem?_map, f2] at e2
                    have e1 := Option.some.inj e1
                    have e2 := Option.some.inj e2
                    have ez : (cs.zip (cs.drop 1))[i]? = some (cs[i], cs[1 + i]) := List.getElem?_zip_eq_some.mpr ⟨f1, f2⟩
                    subst e1 e2
                    refine ⟨t, _, rfl, SqT.of upd_same, rfl, _, _, rfl, _, [], rfl, rfl, rfl, _, rfl, _, rfl, sn cs[i], sn cs[1 + i], rfl, rfl, _, kt _ _ hD, ?_, sameAt (k3.trans kt) nD, ?_⟩
                    · rw [List.length_map, List.length_map, List.length_take]
                      have h3 : sizeLine = 16777216 := sizeLine_eq
                      omega
                    · rw [upd_same, List.take_succ, ez, Option.toList_some, List.map_append, List.map_append]
                      rw [show decide ((sn cs[i]).cps.toList < (sn cs[1 + i]).cps.toList) = decide (cs[i] < cs[1 + i]) from decide_eq_decide.mpr lt_one]
                      rfl
                  · rintro H3 ⟨k3, hD⟩
                    have lz : (cs.zip (cs.drop 1)).length = cs.length - 1 := by rw [List.length_zip, List.length_drop]; omega
                    rw [← lz, List.take_length] at hD
                    refine ⟨D, (cs.zip (cs.drop 1)).map fun p => decide (p.1 < p.2), rfl, sq_of hD, ?_⟩
                    rw [List.all_map]
                    exact q _ k3
                | _ => cases hs
          rw [if_neg (fun y => e (decide_eq_true y))] at q
          refine ⟨.ref a, rfl, a, _, 0, .str z, rfl, rfl, SqT.of ha, at0 _ r, rfl, _, rfl, ?_⟩
          rw [dec_str]
          refine ite2 (fun e => ?_) (fun e => ?_)
          · have e1 : ¬ z = Str.ofString "gap" := fun y => by rw [decide_eq_true y] at e; cases e
            rw [if_neg e1] at q
            exact q _ (Same.refl H)
          have e1 : z = Str.ofString "gap" := by simpa using e
          rw [if_pos e1] at q
          refine ⟨.ref a, rfl, a, _, rfl, .inr (SqT.of ha), rfl, _, rfl, ?_⟩
          rw [dec_int]
          match r, q, ha, hx with
          | [], q, _, _ => exact iteT (q _ (Same.refl H))
          | [y], q, _, _ => exact iteT (q _ (Same.refl H))
          | y :: y2 :: y3 :: r', q, _, _ =>
            rw [decide_eq_false (show ¬ ((V.str z :: y :: y2 :: y3 :: r').length : Int) = 3 by rw [List.length_cons, List.length_cons, List.length_cons, List.length_cons]; omega)]
            exact iteT (q _ (Same.refl H))
          | [y, y2], q, ha, hx =>
            obtain ⟨⟨k1, hk1⟩, hv1⟩ := hx y (by simp)
            obtain ⟨⟨k2, hk2⟩, hv2⟩ := hx y2 (by simp)
            have q : Q (.bl (gapV y y2)) H := q _ (Same.refl H)
            refine iteF ⟨.ref a, rfl, a, _, 2, y2, rfl, rfl, SqT.of ha, rfl, y2, k2, 0, 20, rfl, hk2, _, rfl, ?_⟩
            cases y2 with
            | int j =>
              cases h2 : inV2 0 20 (.int j) with
              | false =>
                have z0 : gapV y (.int j) = false := by
                  cases y with
                  | int i =>
                    have h2 : (decide (0 ≤ j) && decide (j ≤ 20)) = false := h2
                    show (decide (0 ≤ i) && (decide (0 ≤ j) && (decide (i ≤ j) && decide (j ≤ 20)))) = false
                    cases decide (0 ≤ i) <;> cases hj : decide (0 ≤ j) <;> cases decide (i ≤ j) <;> rw [hj] at h2 <;> simp_all
                  | _ => rfl
                rw [z0] at q
                exact iteF q
              | true =>
                refine iteT ⟨.ref a, rfl, a, _, 1, y, rfl, rfl, SqT.of ha, rfl, .ref a, rfl, a, _, 2, .int j, rfl, rfl, SqT.of ha, rfl, y, k1, 0, j, rfl, hk1, ?_⟩
                have h2 : (decide (0 ≤ j) && decide (j ≤ 20)) = true := h2
                obtain ⟨j0, j20⟩ := Bool.and_eq_true_iff.mp h2
                have e : gapV y (.int j) = inV2 0 j y := by
                  cases y with
                  | int i =>
                    show (decide (0 ≤ i) && (decide (0 ≤ j) && (decide (i ≤ j) && decide (j ≤ 20)))) = (decide (0 ≤ i) && decide (i ≤ j))
                    rw [j0, j20, Bool.true_and, Bool.and_true]
                  | _ => rfl
                rw [← e]
                exact q
            | _ =>
              cases y <;> exact iteF q
        | _ => exact iteT (q _ (Same.refl H))

abbrev sLIsPat : Stmt := topS 38
theorem scLIsPat : FnScope ["thing", "part", "one", "other"] ["thing"] (defScope sLIsPat) := ⟨rfl, rfl, rfl, by decide +kernel, rfl, by decide +kernel, by decide +kernel⟩
theorem ok_LIsPat {f : Addr} {fd : FuncData} (F : Fun K "_law_is_pattern" "_law_is_pattern" sLIsPat f fd)  {fLIsPart : Addr} {fdLIsPart : FuncData} (DLIsPart : Dk P w K mg base "_law_is_part" sLIsPart ["thing"] 2 spPartT fLIsPart fdLIsPart) (T : Glob mg) : FnOk P w K mg base CX0 3 f fd ["thing"] spPatT := by
  refine F.ok scLIsPat (fun vs H Q E h => ?_) (fun cdv A outer s H vs Q E hr h => ?_)
  · obtain ⟨x, o, rfl, _⟩ := h
    rfl
  · refine ⟨_, (pss_cons (ps_if (PW.pt (pw_or (pt_not (pt_val (pe_callB call_isi (by rfl) T.isinstance PyProof.Rows.boot_isinstance (pa_cons (pv 0) (pa_cons (pe_bltn (v := .ty "tuple") (by rfl) T.tuple (by decide +kernel) rfl) pa_nil))))) (pw_or (pt_not (pt_chain op_le op_le pe_int (pe_callB call_len_seq (by rfl) T.len PySem.boot_len (pa_cons (pv 0) pa_nil)) pe_int)) (pw_or1 (pt_not (pt_val (pe_callB (cr_all rfl) (by rfl) T.all (by decide +kernel) (pa_cons (pe_lc (own := [("part", 1)]) (g := gName 1) (by rfl) scLIsPat.nd (pi_tup (pv 0)) (blkOk_by (N := ["thing", "part", "one", "other"]) (sc := defScope sLIsPat) (by decide +kernel)) (fun _ _ _ _ _ => pg_name (i := 1) scLIsPat.nd rfl (.inl rfl)) (fun _ _ _ _ _ => pts_nil) (fun _ _ _ _ _ => (pe_call DLIsPart.ok (hr.mono (by decide)) (by rfl) DLIsPart.g DLIsPart.F.kp DLIsPart.b .nil pass0 (pa_cons (pv 1) pa_nil)))) pa_nil))))))))
      (pss_one (ps_ret pe_bl))
      pss_nil)
      (pss_cons (ps_if (PW.pt (pw_or (pt_cmpR op_eq (pe_ix ix_tup (pe_ix ix_tup (pv 0) pe_int (fun _ _ => rfl)) pe_int (fun _ _ => rfl)) pe_str (nomark _)) (pw_or1 (pt_cmpR op_eq (pe_ix ix_tup (pe_ix ix_tup (pv 0) (pe_un un_neg pe_int) (fun _ _ => rfl)) pe_int (fun _ _ => rfl)) pe_str (nomark _)))))
      (pss_one (ps_ret pe_bl))
      pss_nil)
      (pss_one (ps_ret (pe_not (pe_callB (cr_any rfl) (by rfl) T.any (by decide +kernel) (pa_cons (pe_lc (own := [("one", 2), ("other", 3)]) (g := (gTup K 2 (gCons (gName 2) (gCons (gName 3) gNil)))) (by rfl) scLIsPat.nd (RZ.pi_zipA (by rfl) T.zip (pa_cons (pv 0) (pa_cons (pe_slice sl_tupM (pv 0) (po_some pe_int) po_none) pa_nil))) (blkOk_by (N := ["thing", "part", "one", "other"]) (sc := defScope sLIsPat) (by decide +kernel)) (fun _ _ _ _ _ => pg_tup (by rfl) (pgs_cons (pg_name (i := 2) scLIsPat.nd rfl (.inl rfl)) (pgs_cons (pg_name (i := 3) scLIsPat.nd rfl (.inl rfl)) pgs_nil))) (fun _ _ _ _ _ => pts_nil) (fun _ _ _ _ _ => (pe_and (pe_cmpR op_eq (pe_ix (r := rIxT K) ix_tup (pv 2) pe_int (fun _ _ => rfl)) pe_str (nomark _)) (pe_one (pe_cmpR op_eq (pe_ix (r := rIxT K) ix_tup (pv 3) pe_int (fun _ _ => rfl)) pe_str (nomark _)))))) pa_nil))))))), ?_⟩
    obtain ⟨x, o, rfl, pt, q⟩ := h
    cases pt with
    | @no _ k hk n =>
      exact ⟨x, rfl, x, .ty "tuple", .type (Kn.name k), .type "tuple", false, rfl, .ty _, Kd.tyx hk, kit_no n, _, rfl, iteT (q _ (Same.refl H))⟩
    | @tup a vs os ha few hv =>
      have lv := hv.len
      have q : ∀ H', Same H H' → Q (.bl (patL os)) H' := q
      refine ⟨.ref a, rfl, .ref a, .ty "tuple", .type (Kn.name .tup), .type "tuple", kitB .tup .tup, rfl, .ty _, Kd.tyx (.tup ha), kit_kn .tup .tup, _, rfl, iteF ?_⟩
      unfold patL at q
      refine ⟨.ref a, rfl, a, _, rfl, .inr (SqT.of ha), _, _, rfl, rfl, _, rfl, ?_⟩
      rw [lv]
      refine ite2 (fun e => ?_) (fun e => ?_)
      rotate_left
      · have e : decide ((1 : Int) ≤ (os.length : Int)) = false := by simpa using e
        rw [show decide ((os.length : Int) < 1) = true from decide_eq_true (by have := of_decide_eq_false e; omega)] at q
        refine ⟨false, rfl, iteT ?_⟩
        exact q _ (Same.refl H)
      have l1 : 1 ≤ os.length := by have := of_decide_eq_true e; omega
      rw [show decide ((os.length : Int) < 1) = false from decide_eq_false (by omega)] at q
      refine ⟨_, _, rfl, rfl, _, rfl, ite2 (fun e4 => ?_) (fun e4 => ?_)⟩
      · have e4 : decide ((os.length : Int) ≤ 30) = false := by simpa using e4
        rw [show decide (30 < (os.length : Int)) = true from decide_eq_true (by have := of_decide_eq_false e4; omega)] at q
        exact q _ (Same.refl H)
      rw [show decide (30 < (os.length : Int)) = false from decide_eq_false (by have := (show (os.length : Int) ≤ 30 by simpa using e4); omega)] at q
      have q : ∀ H', Same H H' → Q (.bl (os.all partB && (!((os.map gapO).headD false) && (!((os.map gapO).getLastD false) && !adjB (os.map gapO))))) H' := q
      have sz : sizeLine = 16777216 := sizeLine_eq
      refine ⟨.ref a, rfl, a, rfl, ⟨_, SqT.of ha⟩, fun D nD => lc_tup (K := K) (xs := vs) (fun i H' => Same H H' ∧ H' D = some (.lst (((os.take i).map partB).map V.bl))) ⟨Same.new nD, upd_same⟩ (fun i H' _ g => SqT.of (g.1 _ _ ha)) ?_ ?_⟩
      · rintro i u H2 hu ⟨k2, hD⟩
        obtain ⟨o, ho, tg⟩ := hv.at hu
        have li := (List.getElem?_eq_some_iff.mp hu).1
        refine ⟨rfl, u, rfl, u, o, rfl, tg.same k2, fun H3 k3 => ⟨_, k3 _ _ hD, ?_, sameAt (k2.trans k3) nD, ?_⟩⟩
        · rw [List.length_map, List.length_map, List.length_take]
          omega
        · rw [upd_same, List.take_succ, ho, Option.toList_some, List.map_append, List.map_append]
          rfl
      rintro H2 ⟨k2, hD⟩
      rw [lv, List.take_length] at hD
      refine ⟨D, os.map partB, rfl, sq_of hD, _, rfl, ?_⟩
      rw [List.all_map, show os.all (id ∘ partB) = os.all partB from rfl]
      cases hall : os.all partB with
      | false =>
        rw [hall] at q
        exact iteT (q _ k2)
      | true =>
        rw [hall] at q
        have q : ∀ H', Same H H' → Q (.bl (!((os.map gapO).headD false) && (!((os.map gapO).getLastD false) && !adjB (os.map gapO)))) H' := q
        refine iteF ?_
        have ha2 := k2 _ _ ha
        have at_ : ∀ {i : Nat} {u : V}, vs[i]? = some u → ∃ b x r, u = .ref b ∧ (∀ H', Same H2 H' → SqT K H' b (x :: r)) ∧ scal x (V.str "gap") = true ∧ (os.map gapO)[i]? = some (decide (x = V.str "gap")) := fun hu => by
          obtain ⟨o, ho, tg⟩ := hv.at hu
          obtain ⟨b, x, r, e1, e2, e3, e4⟩ := part_head tg (List.all_eq_true.mp hall o (List.mem_of_getElem? ho))
          exact ⟨b, x, r, e1, fun H' k' => SqT.of (k' _ _ (k2 _ _ e2)), e3, by rw [List.getElem?_map, ho]; exact congrArg some e4⟩
        have lg : (os.map gapO).length = os.length := List.length_map _
        generalize os.map gapO = gs at q lg at_
        obtain ⟨v0, vr, e0⟩ : ∃ v0 vr, vs = v0 :: vr := by
          cases vs with
          | nil => have lv : 0 = os.length := lv; omega
          | cons v0 vr => exact ⟨_, _, rfl⟩
        obtain ⟨b0, x0, r0, f1, f2, f3, f4⟩ := at_ (i := 0) (u := v0) (by rw [e0]; rfl)
        have hf : gs.headD false = decide (x0 = V.str "gap") := by
          rw [List.headD_eq_head?_getD, List.head?_eq_getElem?, f4]
          rfl
        have g0 : atI vs 0 = some (V.ref b0) := by rw [e0, f1]; exact atI_nat (j := 0) rfl
        refine ⟨.ref a, rfl, a, _, 0, _, rfl, rfl, SqT.of ha2, g0, b0, _, 0, _, rfl, rfl, f2 _ (Same.refl H2), at0 x0 r0, f3, _, rfl, ite2 (fun e => ?_) (fun e => ?_)⟩
        · rw [hf, e] at q
          exact q _ k2
        rw [hf, Bool.eq_false_iff.mpr e] at q
        obtain ⟨vs0, vl, el⟩ := snoc_of (show vs ≠ [] from fun z => by rw [z] at e0; cases e0)
        obtain ⟨b1, x1, r1, f1', f2', f3', f4'⟩ := at_ (i := vs0.length) (u := vl) (by rw [el]; simp)
        have hl : gs.getLastD false = decide (x1 = V.str "gap") := by
          have : gs.length - 1 = vs0.length := by rw [lg, ← lv, el]; simp
          rw [List.getLastD_eq_getLast?, List.getLast?_eq_getElem?, this, f4']
          rfl
        have g1 : atI vs (-1) = some (V.ref b1) := by rw [el, f1']; exact atI_last _ _
        refine ⟨.ref a, rfl, _, rfl, a, _, -1, _, rfl, rfl, SqT.of ha2, g1, b1, _, 0, _, rfl, rfl, f2' _ (Same.refl H2), at0 x1 r1, f3', _, rfl, ite2 (fun e => ?_) (fun e => ?_)⟩
        · rw [hl, e] at q
          exact q _ k2
        rw [hl, Bool.eq_false_iff.mpr e] at q
        have q : ∀ H', Same H H' → Q (.bl (!adjB gs)) H' := q
        refine ⟨.ref a, rfl, .ref a, rfl, _, rfl, a, _, rfl, ha2, fun p H4 kp hp4 => ?_⟩
        have ecut : cutV vs (some 1) none = vs.drop 1 := cutV_from (by omega)
        rw [ecut] at hp4
        have ha4 := kp _ _ ha2
        refine ⟨a, p, vs, vs.drop 1, rfl, .inr ⟨SqT.of ha4, SqT.of hp4, fun R nR => ?_⟩⟩
        have k4 := k2.trans kp
        have lgv : vs.length = gs.length := by omega
        have lz : (gs.zip (gs.drop 1)).length = min gs.length (gs.length - 1) := by rw [List.length_zip, List.length_drop]
        refine lc_it (walk_zipT2 (K := K) (a := a) (b := p) (xs := vs) (ys := vs.drop 1) (n := min gs.length (gs.length - 1)) (by rw [List.length_drop, lgv])) (fun i H' => Same H4 H' ∧ H' R = some (.lst ((((gs.zip (gs.drop 1)).take i).map fun p => p.1 && p.2).map V.bl))) ⟨Same.new nR, upd_same⟩ (fun i H' _ g => ⟨SqT.of (g.1 _ _ ha4), SqT.of (g.1 _ _ hp4)⟩) ?_ ?_
        · rintro i v H5 H6 hi ⟨k5, hR⟩ ⟨t, y1, y2, rfl, nt, rfl, e1, e2⟩
          have kt := Same.new (H := H5) (o := .tup [y1, y2]) nt
          have e1 : vs[i]? = some y1 := e1
          have e2 : (vs.drop 1)[i]? = some y2 := e2
          rw [List.getElem?_drop] at e2
          obtain ⟨c1, x1, r1, rfl, m1, s1, f1⟩ := at_ e1
          obtain ⟨c2, x2, r2, rfl, m2, s2, f2⟩ := at_ e2
          have f2 : (gs.drop 1)[i]? = some (decide (x2 = V.str "gap")) := by rw [List.getElem?_drop]; exact f2
          have ez : (gs.zip (gs.drop 1))[i]? = some (decide (x1 = V.str "gap"), decide (x2 = V.str "gap")) := List.getElem?_zip_eq_some.mpr ⟨f1, f2⟩
          refine ⟨t, _, rfl, SqT.of upd_same, rfl, _, _, rfl, _, [], rfl, rfl, rfl, ?_⟩
          have kk := (kp.trans k5).trans kt
          have hR5 : (upd H5 t (.tup [V.ref c1, V.ref c2])) R = some (.lst ((((gs.zip (gs.drop 1)).take i).map fun p => p.1 && p.2).map V.bl)) := kt _ _ hR
          have fin : ∀ b, b = (decide (x1 = V.str "gap") && decide (x2 = V.str "gap")) → ((((gs.zip (gs.drop 1)).take i).map fun p => p.1 && p.2).map V.bl) ++ [V.bl b] = ((((gs.zip (gs.drop 1)).take (i + 1)).map fun p => p.1 && p.2).map V.bl) := fun b eb => by
            rw [List.take_succ, ez, Option.toList_some, List.map_append, List.map_append, eb]
            rfl
          have ll : ((((gs.zip (gs.drop 1)).take i).map fun p => p.1 && p.2).map V.bl).length ≤ 1000 := by
            rw [List.length_map, List.length_map, List.length_take, lz]
            omega
          refine ⟨.ref c1, rfl, c1, _, 0, _, rfl, rfl, m1 _ kk, at0 x1 r1, s1, _, rfl, ite2 (fun g1 => ?_) (fun g1 => ?_)⟩
          · refine ⟨.ref c2, rfl, c2, _, 0, _, rfl, rfl, m2 _ kk, at0 x2 r2, s2, ?_⟩
            exact ⟨_, hR5, by omega, sameAt (k5.trans kt) nR, by rw [upd_same]; exact congrArg (fun z => some (HO.lst z)) (fin _ (by rw [g1, Bool.true_and]))⟩
          · exact ⟨_, hR5, by omega, sameAt (k5.trans kt) nR, by rw [upd_same]; exact congrArg (fun z => some (HO.lst z)) (fin _ (by rw [Bool.eq_false_iff.mpr g1, Bool.false_and]))⟩
        rintro H5 ⟨k5, hR⟩
        rw [← lz, List.take_length] at hR
        refine ⟨R, (gs.zip (gs.drop 1)).map fun p => p.1 && p.2, rfl, sq_of hR, _, rfl, ?_⟩
        rw [List.any_map, show (gs.zip (gs.drop 1)).any (id ∘ fun p => p.1 && p.2) = adjB gs from rfl]
        exact q _ (k4.trans k5)

end
end LawK
namespace Ev
open PySem PySem.Spec PyProof PyProof.Rows L2
def tIfT (t u v : TT) : TT := fun σ H Q => t σ H fun c H1 => if c = true then u σ H1 Q else v σ H1 Q
theorem pt_ifT {X : Cx} {c a b : Expr} {tC tA tB : TT} {pos : Pos} (hc : PT X c tC) (ha : PT X a tA) (hb : PT X b tB) : PT X (.IfExp c a b pos) (tIfT tC tA tB) := by
  refine ⟨fun pins s σ H Q I h => ?_⟩
  show wpAny (model X.prog X.w) X.A (do
    if ← PySem.isTrue c X.env (eval c X.env) then PySem.isTrue a X.env (eval a X.env) else PySem.isTrue b X.env (eval b X.env)) _ X.xe s
  refine wpAny_bind (wpAny_mono (hc.run pins s σ H _ I h) (fun d s1 ⟨H1, I1, q1⟩ => ?_) fun _ _ x => x)
  cases d with
  | true => exact ha.run pins s1 σ H1 Q I1 q1
  | false => exact hb.run pins s1 σ H1 Q I1 q1
end Ev
set_option maxHeartbeats 4000000
namespace LawK
open PySem PySem.Spec PyProof.Rows L2 Ev

def mkM (ms cs : List Nat) : List Nat := cs.flatMap fun c => if c ∈ ms then [92, c] else [c]
def spMarked : Sp := fun vs H Q _ => ∃ (z m : Str), vs = [.str z, .str m] ∧ z.length ≤ 100 ∧ m.length ≤ 100 ∧ ∀ H', Same H H' → Q (.str (SX.S (mkM (cod m) (cod z)))) H'
def spPartText : Sp := fun vs H Q _ => ∃ (v : V) (p : Prt), vs = [v] ∧ PrtAt H v p ∧ p.Ok ∧ ∀ H', Same H H' → Q (.str (SX.S (wrt p))) H'
def spWritten : Sp := fun vs H Q _ => ∃ (a : Addr) (us : List V) (ps : List Prt), vs = [.ref a] ∧ H a = some (.tup us) ∧ PatV H us ps ∧ us.length ≤ 30 ∧ ∀ H', Same H H' → Q (.str (SX.S (wrts ps))) H'
def spPText (cP : Addr) : Sp := fun vs H Q E => ∃ x o, vs = [x] ∧ PatT H x o ∧ (∀ a us ps H', x = .ref a → patO o = true → Same H H' → H a = some (.tup us) → PatV H us ps → PatOk ps → Q (.str (SX.S (wrts ps))) H') ∧ (∀ H', patO o = false → Same H H' → E (.ref cP) none H')
theorem joinL0 : ∀ ls : List (List Nat), TL.joinL [] ls = ls.flatten
  | [] => rfl
  | [c] => by
    show c = c ++ []
    rw [List.append_nil]
  | c :: d :: r => by
    have e := joinL0 (d :: r)
    show c ++ ([] ++ TL.joinL [] (d :: r)) = c ++ (d :: r).flatten
    rw [e, List.nil_append]
theorem join_names (zs : List Str) : Txt.join (Str.ofString "") zs = SX.S (zs.map fun w => w.cps.toList).flatten := by
  have e := SX.join_S [] (zs.map fun w => w.cps.toList)
  rw [List.map_map, joinL0] at e
  have e2 : zs.map (SX.S ∘ fun w => w.cps.toList) = zs := by
    conv => rhs; rw [← List.map_id zs]
    exact List.map_congr_left fun w _ => S_eta w
  rw [e2] at e
  exact e
def Z0 (z : Str) (b : List Nat) : Prop := b[0]? = some 0 ∨ b = [] ∧ z.length = 0
theorem sl0 : (Str.ofString "").length = 0 := by decide +kernel
theorem sl1 : (Str.ofString "\\").length = 1 := by decide +kernel
theorem sl2 : cod (Str.ofString "\\") = [92] := by decide +kernel
theorem small_log {n : Nat} (h : n ≤ 20) : ((n : Nat) : Int).natAbs.log2 < 1920 := Nat.lt_of_le_of_lt (Nat.log2_le_self _) (by omega)
theorem n_al : ¬ V.str "any" = V.str "lot" := fun e => absurd (V.str.inj e) (by decide +kernel)
theorem n_ag : ¬ V.str "any" = V.str "gap" := fun e => absurd (V.str.inj e) (by decide +kernel)
theorem mkL_eq (cs : List Nat) : mkM [93, 92] cs = cs.flatMap mkL := by
  unfold mkM
  refine congrArg (fun f => cs.flatMap f) (funext fun c => ?_)
  unfold mkL
  by_cases h : c = 93 ∨ c = 92
  · rw [if_pos h, if_pos (by rcases h with h | h <;> rw [h] <;> decide)]
  · rw [if_neg h, if_neg (fun m => h (by simpa using m))]
def mk1 (ms : List Nat) (c : Nat) : Str := SX.S (if c ∈ ms then [92, c] else [c])
theorem mk1_len (ms : List Nat) (c : Nat) : (mk1 ms c).length ≤ 2 := by
  unfold mk1
  by_cases h : c ∈ ms
  · rw [if_pos h]; exact Nat.le_refl 2
  · rw [if_neg h]; exact Nat.le_succ 1
theorem sum_len2 {ms : List Nat} : ∀ cs : List Nat, ((cs.map (mk1 ms)).map (·.length)).sum ≤ 2 * cs.length
  | [] => Nat.le_refl 0
  | c :: cs => by
    have h1 := mk1_len ms c
    have h2 := sum_len2 (ms := ms) cs
    simp only [List.map_cons, List.sum_cons, List.length_cons]
    omega
theorem join_mk (ms cs : List Nat) : Txt.join (Str.ofString "") (cs.map (mk1 ms)) = SX.S (mkM ms cs) := by
  rw [join_names, List.map_map]
  rfl
section
variable {P : Program} {w : World} {K : PySem.W.Frag} {mg : Str → Option Value} {base : Heap}

abbrev sQMarked : Stmt := topS 18
theorem scQMarked : FnScope ["signs", "marked", "sign"] ["signs", "marked"] (defScope sQMarked) := ⟨rfl, rfl, rfl, by decide +kernel, rfl, by decide +kernel, by decide +kernel⟩
theorem ok_QMarked {f : Addr} {fd : FuncData} (F : Fun K "_marked" "_marked" sQMarked f fd)   (T : Glob mg) : FnOk P w K mg base CX0 1 f fd ["signs", "marked"] spMarked := by
  refine F.ok scQMarked (fun vs H Q E h => ?_) (fun cdv A outer s H vs Q E hr h => ?_)
  · obtain ⟨z, m, rfl, _⟩ := h
    rfl
  · refine ⟨_, (pss_one (ps_ret (pe_join pe_str (pe_lc (own := [("sign", 2)]) (g := gName 2) (by rfl) scQMarked.nd (pi_str (pv 0)) (blkOk_by (N := ["signs", "marked", "sign"]) (sc := defScope sQMarked) (by decide +kernel)) (fun _ _ _ _ _ => pg_name (i := 2) scQMarked.nd rfl (.inl rfl)) (fun _ _ _ _ _ => pts_nil) (fun _ _ _ _ _ => (pe_ifExp (pt_cmpR op_inS (pv 2) (pv 1) rfl) (pe_op op_add_str pe_str (pv 2)) (pv 2))))))), ?_⟩
    obtain ⟨z, m, rfl, lz, lm, q⟩ := h
    have sz : sizeLine = 16777216 := sizeLine_eq
    refine ⟨⟨_, rfl⟩, .str z, rfl, z, rfl, fun D nD => lc_it walk_str (fun j H' => Same H H' ∧ H' D = some (.lst (((z.cps.toList.take j).map (mk1 (cod m))).map V.str))) ⟨Same.new nD, upd_same⟩ (fun _ _ _ _ => trivial) ?_ ?_⟩
    · rintro j v H1 H2 hj ⟨k1, hD⟩ ⟨rfl, c, ec, rfl⟩
      have ec2 : z.cps.toList[j]? = some c := by rw [Array.getElem?_toList]; exact ec
      have put : upd H2 D (.lst (((z.cps.toList.take j).map (mk1 (cod m))).map V.str ++ [V.str (mk1 (cod m) c)])) D = some (.lst (((z.cps.toList.take (j + 1)).map (mk1 (cod m))).map V.str)) := by
        rw [upd_same, List.take_succ, ec2, Option.toList_some, List.map_append, List.map_append]
        rfl
      have few : (((z.cps.toList.take j).map (mk1 (cod m))).map V.str).length < sizeLine := by
        rw [List.length_map, List.length_map, List.length_take]
        have : z.cps.toList.length = z.length := rfl
        omega
      refine ⟨rfl, ?_⟩
      refine ⟨.str ⟨#[c]⟩, rfl, .str m, rfl, c, m, rfl, rfl, _, rfl, ite2 (fun e => ?_) (fun e => ?_)⟩
      · have em : mk1 (cod m) c = Str.ofString "\\" ++ ⟨#[c]⟩ := cod_inj (by rw [cod_app]; unfold mk1; rw [if_pos (show c ∈ cod m from of_decide_eq_true e), sl2]; rfl)
        rw [em] at put
        exact ⟨.str ⟨#[c]⟩, rfl, _, _, rfl, rfl, (by rw [sz, sl1]; show 1 + 1 ≤ _; decide), _, hD, few, sameAt k1 nD, put⟩
      · have em : mk1 (cod m) c = ⟨#[c]⟩ := by unfold mk1; rw [if_neg (fun h => e (decide_eq_true h))]
        rw [em] at put
        exact ⟨.str ⟨#[c]⟩, rfl, _, hD, few, sameAt k1 nD, put⟩
    · rintro H1 ⟨k1, hD⟩
      have lc : z.cps.toList.length = z.length := rfl
      have hD : H1 D = some (.lst ((z.cps.toList.map (mk1 (cod m))).map V.str)) := by
        rw [hD, List.take_of_length_le (by rw [Array.length_toList]; exact Nat.le_refl _)]
      refine ⟨_, D, z.cps.toList.map (mk1 (cod m)), rfl, rfl, .inl (sq_of hD), ?_, ?_⟩
      · have := sum_len2 (ms := cod m) z.cps.toList
        rw [List.length_map]
        rw [sl0]
        omega
      · rw [join_mk]
        exact q H1 k1

abbrev sQPartText : Stmt := topS 19
theorem scQPartText : FnScope ["part", "word"] ["part"] (defScope sQPartText) := ⟨rfl, rfl, rfl, by decide +kernel, rfl, by decide +kernel, by decide +kernel⟩
theorem ok_QPartText {f : Addr} {fd : FuncData} (F : Fun K "_part_text" "_part_text" sQPartText f fd) {t1 t2 : Tok} (gMS : mg "MARKED_SIGNS" = some (.str "?[{\\" t1)) (gML : mg "MARKED_IN_LOT" = some (.str "]\\" t2)) {fQMarked : Addr} {fdQMarked : FuncData} (DQMarked : Dk P w K mg base "_marked" sQMarked ["signs", "marked"] 1 spMarked fQMarked fdQMarked) (T : Glob mg) : FnOk P w K mg base CX0 2 f fd ["part"] spPartText := by
  refine F.ok scQPartText (fun vs H Q E h => ?_) (fun cdv A outer s H vs Q E hr h => ?_)
  · obtain ⟨v, p, rfl, _⟩ := h
    rfl
  · refine ⟨_, (pss_cons (ps_set (i := 1) scQPartText.nd rfl (.inl rfl) (pe_ix ix_tup (pv 0) pe_int (fun _ _ => rfl)))
      (pss_cons (ps_if (pt_cmpR op_eq (pv 1) pe_str (nomark _))
      (pss_one (ps_ret (pe_call DQMarked.ok (hr.mono (by decide)) (by rfl) DQMarked.g DQMarked.F.kp DQMarked.b .nil pass0 (pa_cons (pe_ix ix_tup (pv 0) pe_int (fun _ _ => rfl)) (pa_cons (pe_glob (v := .str "?[{\\") (by rfl) gMS ⟨_, rfl⟩) pa_nil)))))
      pss_nil)
      (pss_cons (ps_if (pt_cmpR op_eq (pv 1) pe_str (nomark _))
      (pss_one (ps_ret (pe_op op_add_str (pe_op op_add_str pe_str (pe_call DQMarked.ok (hr.mono (by decide)) (by rfl) DQMarked.g DQMarked.F.kp DQMarked.b .nil pass0 (pa_cons (pe_ix ix_tup (pv 0) pe_int (fun _ _ => rfl)) (pa_cons (pe_glob (v := .str "]\\") (by rfl) gML ⟨_, rfl⟩) pa_nil)))) pe_str)))
      pss_nil)
      (pss_cons (ps_if (pt_cmpR op_eq (pv 1) pe_str (nomark _))
      (pss_one (ps_ret (pe_op op_add_str (pe_op op_add_str (pe_op op_add_str (pe_op op_add_str pe_str (pe_callTy call_str_int (by rfl) T.str (by decide +kernel) (pa_cons (pe_ix ix_tup (pv 0) pe_int (fun _ _ => rfl)) pa_nil))) pe_str) (pe_callTy call_str_int (by rfl) T.str (by decide +kernel) (pa_cons (pe_ix ix_tup (pv 0) pe_int (fun _ _ => rfl)) pa_nil))) pe_str)))
      pss_nil)
      (pss_one (ps_ret pe_str)))))), ?_⟩
    obtain ⟨v, p, rfl, ⟨a, rfl, ha⟩, ok, q⟩ := h
    have sz : sizeLine = 16777216 := sizeLine_eq
    cases p with
    | any =>
      refine ⟨.ref a, rfl, a, _, 0, .str "any", rfl, rfl, SqT.of ha, rfl, ?_⟩
      refine ⟨.str "any", rfl, rfl, _, rfl, ite2 (fun e => absurd (of_decide_eq_true e) n_as) fun _ => ?_⟩
      refine ⟨.str "any", rfl, rfl, _, rfl, ite2 (fun e => absurd (of_decide_eq_true e) n_al) fun _ => ?_⟩
      refine ⟨.str "any", rfl, rfl, _, rfl, ite2 (fun e => absurd (of_decide_eq_true e) n_ag) fun _ => ?_⟩
      exact q H (Same.refl H)
    | sg c =>
      refine ⟨.ref a, rfl, a, _, 0, .str "sign", rfl, rfl, SqT.of ha, rfl, ?_⟩
      refine ⟨.str "sign", rfl, rfl, _, rfl, iteT ?_⟩
      refine ⟨.ref a, rfl, a, _, 1, .str (sn c), rfl, rfl, SqT.of ha, rfl, sn c, _, rfl, (by show 1 ≤ 100; decide), (by decide +kernel), fun H' k' => ?_⟩
      have e : SX.S (mkM (cod (Str.ofString "?[{\\")) (cod (sn c))) = SX.S (wrt (.sg c)) := by
        rw [show cod (Str.ofString "?[{\\") = mkS by decide +kernel]
        show SX.S (mkC c ++ []) = _
        rw [List.append_nil]
        rfl
      rw [e]
      exact q H' k'
    | lot cs =>
      obtain ⟨s1, s2, s3, s4⟩ := ok.lot cs rfl
      refine ⟨.ref a, rfl, a, _, 0, .str "lot", rfl, rfl, SqT.of ha, rfl, ?_⟩
      refine ⟨.str "lot", rfl, rfl, _, rfl, ite2 (fun e => absurd (of_decide_eq_true e) n_ls) fun _ => ?_⟩
      refine ⟨.str "lot", rfl, rfl, _, rfl, iteT ?_⟩
      have ml : (mkM [93, 92] cs).length ≤ 2 * cs.length := by
        have h1 := sum_len2 (ms := [93, 92]) cs
        have h2 := congrArg Str.length (join_mk [93, 92] cs)
        unfold mkM
        rw [List.length_flatMap]
        rw [List.map_map] at h1
        exact h1
      refine ⟨.ref a, rfl, a, _, 1, .str ⟨cs.toArray⟩, rfl, rfl, SqT.of ha, rfl, ⟨cs.toArray⟩, _, rfl, (by show cs.length ≤ 100; omega), (by decide +kernel), fun H' k' => ?_⟩
      rw [show cod (Str.ofString "]\\") = [93, 92] by decide +kernel]
      rw [show cod ⟨cs.toArray⟩ = cs from rfl]
      have e : Str.ofString "[" ++ SX.S (mkM [93, 92] cs) ++ Str.ofString "]" = SX.S (wrt (.lot cs)) := cod_inj (by
        rw [cod_app, cod_app]
        show cod (Str.ofString "[") ++ mkM [93, 92] cs ++ cod (Str.ofString "]") = _
        rw [show cod (Str.ofString "[") = [91] by decide +kernel, show cod (Str.ofString "]") = [93] by decide +kernel, mkL_eq]
        rfl)
      refine ⟨_, _, rfl, rfl, (by rw [sz]; show 1 + (mkM [93, 92] cs).length ≤ _; omega), _, _, rfl, rfl, ?_, ?_⟩
      · rw [app_len, sz]
        show 1 + (mkM [93, 92] cs).length + 1 ≤ _
        omega
      · rw [e]
        exact q H' k'
    | gap x y =>
      obtain ⟨g1, g2⟩ := ok.gap x y rfl
      refine ⟨.ref a, rfl, a, _, 0, .str "gap", rfl, rfl, SqT.of ha, rfl, ?_⟩
      refine ⟨.str "gap", rfl, rfl, _, rfl, ite2 (fun e => absurd (of_decide_eq_true e) n_gs) fun _ => ?_⟩
      refine ⟨.str "gap", rfl, rfl, _, rfl, ite2 (fun e => absurd (of_decide_eq_true e) n_gl) fun _ => ?_⟩
      refine ⟨.str "gap", rfl, rfl, _, rfl, iteT ?_⟩
      have l1 := num_len (n := x) (by omega)
      have l2 := num_len (n := y) (by omega)
      have c1 : (Str.ofString "{").length = 1 := by decide +kernel
      have c2 : (Str.ofString ",").length = 1 := by decide +kernel
      have c3 : (Str.ofString "}").length = 1 := by decide +kernel
      have e : Str.ofString "{" ++ numZ (x : Int) ++ Str.ofString "," ++ numZ (y : Int) ++ Str.ofString "}" = SX.S (wrt (.gap x y)) := cod_inj (by
        rw [cod_app, cod_app, cod_app, cod_app]
        rw [show cod (Str.ofString "{") = [123] by decide +kernel, show cod (Str.ofString ",") = [44] by decide +kernel, show cod (Str.ofString "}") = [125] by decide +kernel]
        show [123] ++ fig x ++ [44] ++ fig y ++ [125] = 123 :: (fig x ++ 44 :: (fig y ++ [125]))
        simp)
      refine ⟨.ref a, rfl, a, _, 1, .int (x : Nat), rfl, rfl, SqT.of ha, rfl, _, rfl, small_log (by omega), _, _, rfl, rfl, ?_, _, _, rfl, rfl, ?_, .ref a, rfl, a, _, 2, .int (y : Nat), rfl, rfl, SqT.of ha, rfl, _, rfl, small_log g2, _, _, rfl, rfl, ?_, _, _, rfl, rfl, ?_, ?_⟩
      · show _ + (numZ (x : Int)).length ≤ _
        rw [sz, c1]; omega
      · show (Str.ofString "{" ++ numZ (x : Int)).length + _ ≤ _
        rw [sz, app_len, c1, c2]; omega
      · show (Str.ofString "{" ++ numZ (x : Int) ++ Str.ofString ",").length + (numZ (y : Int)).length ≤ _
        rw [sz, app_len, app_len, c1, c2]; omega
      · show (Str.ofString "{" ++ numZ (x : Int) ++ Str.ofString "," ++ numZ (y : Int)).length + _ ≤ _
        rw [sz, app_len, app_len, app_len, c1, c2, c3]; omega
      · show Q (.str (Str.ofString "{" ++ numZ (x : Int) ++ Str.ofString "," ++ numZ (y : Int) ++ Str.ofString "}")) H
        rw [e]
        exact q H (Same.refl H)

end
end LawK
set_option maxHeartbeats 4000000
namespace LawK
open PySem PySem.Spec PyProof.Rows L2 Ev
theorem asc_pw : ∀ {cs : List Nat}, ascB cs = true → cs.Pairwise (· < ·)
  | [], _ => List.Pairwise.nil
  | [c], _ => List.pairwise_singleton _ _
  | c :: d :: r, h => by
    have h : (decide (c < d) && ascB (d :: r)) = true := h
    obtain ⟨h1, h2⟩ := Bool.and_eq_true_iff.mp h
    have h1 := of_decide_eq_true h1
    have ih := asc_pw h2
    refine List.pairwise_cons.mpr ⟨fun x hx => ?_, ih⟩
    rcases List.mem_cons.mp hx with e | e
    · rw [e]; exact h1
    · exact Nat.lt_trans h1 ((List.pairwise_cons.mp ih).1 x e)
theorem pw_asc : ∀ {cs : List Nat}, cs.Pairwise (· < ·) → ascB cs = true
  | [], _ => rfl
  | [c], _ => rfl
  | c :: d :: r, h => by
    obtain ⟨h1, h2⟩ := List.pairwise_cons.mp h
    show (decide (c < d) && ascB (d :: r)) = true
    rw [decide_eq_true (h1 d List.mem_cons_self), pw_asc h2]
    rfl
theorem one_of {y : Str} (h : (y.length : Int) = 1) : ∃ c, y = sn c := by
  have l : (cod y).length = 1 := by rw [cod_len]; omega
  obtain ⟨c, hc⟩ := List.length_eq_one_iff.mp l
  exact ⟨c, cod_inj hc⟩
theorem one_sign {r : List V} (h : (match r with | [x] => signV x | _ => false) = true) : ∃ y, r = [.str y] ∧ (sgB y && decide ((y.length : Int) = 1)) = true := by
  match r, h with
  | [x], h =>
    cases x with
    | str y => exact ⟨y, rfl, h⟩
    | _ => cases h
  | [], h => cases h
  | _ :: _ :: _, h => cases h
theorem one_lot {r : List V} (h : (match r with | [x] => lotV x | _ => false) = true) : ∃ y, r = [.str y] ∧ lotV (.str y) = true := by
  match r, h with
  | [x], h =>
    cases x with
    | str y => exact ⟨y, rfl, h⟩
    | _ => cases h
  | [], h => cases h
  | _ :: _ :: _, h => cases h
theorem one_gap {r : List V} (h : (match r with | [x, y] => gapV x y | _ => false) = true) : ∃ x y, r = [.int x, .int y] ∧ gapV (.int x) (.int y) = true := by
  match r, h with
  | [x, y], h =>
    cases x with
    | int a =>
      cases y with
      | int b => exact ⟨a, b, rfl, h⟩
      | _ => cases h
    | _ => cases h
  | [], h => cases h
  | [_], h => cases h
  | _ :: _ :: _ :: _, h => cases h
theorem tg_part {H : Hp} {v : V} {o : Option (List V)} (tg : Tg H v o) (pb : partB o = true) : ∃ p, PrtAt H v p ∧ p.Ok ∧ o = some p.v := by
  cases tg with
  | no _ _ _ => cases pb
  | @tup b xs hb n30 hx =>
    cases xs with
    | nil => cases pb
    | cons x r =>
      cases x with
      | str z =>
        have pb : restB z r = true := pb
        unfold restB at pb
        by_cases h1 : z = Str.ofString "any"
        · rw [if_pos h1] at pb
          have e := List.length_eq_zero_iff.mp (of_decide_eq_true pb)
          rw [h1, e] at hb ⊢
          exact ⟨.any, ⟨b, rfl, hb⟩, ⟨(fun c e => by cases e), (fun c e => by cases e), (fun a b e => by cases e)⟩, rfl⟩
        rw [if_neg h1] at pb
        by_cases h2 : z = Str.ofString "sign"
        · rw [if_pos h2] at pb
          obtain ⟨y, rfl, pb⟩ := one_sign pb
          · obtain ⟨p1, p2⟩ := Bool.and_eq_true_iff.mp pb
            obtain ⟨c, rfl⟩ := one_of (of_decide_eq_true p2)
            rw [h2] at hb ⊢
            exact ⟨.sg c, ⟨b, rfl, hb⟩, ⟨(fun d e => by cases e; exact p1), (fun c e => by cases e), (fun a b e => by cases e)⟩, rfl⟩
        rw [if_neg h2] at pb
        by_cases h3 : z = Str.ofString "lot"
        · rw [if_pos h3] at pb
          obtain ⟨y, rfl, pb⟩ := one_lot pb
          · have pb : (sgB y && decide ((0 : Int) < (y.length : Int)) && (!decide ((20 : Int) < (y.length : Int)) && ascB (cod y))) = true := pb
            obtain ⟨p12, p34⟩ := Bool.and_eq_true_iff.mp pb
            obtain ⟨p1, p2⟩ := Bool.and_eq_true_iff.mp p12
            obtain ⟨p3, p4⟩ := Bool.and_eq_true_iff.mp p34
            have p2 := of_decide_eq_true p2
            have p3 : ¬ (20 : Int) < (y.length : Int) := by simpa using p3
            have ey : y = ⟨(cod y).toArray⟩ := cod_inj rfl
            have ly := cod_len y
            rw [h3, ey] at hb ⊢
            exact ⟨.lot (cod y), ⟨b, rfl, hb⟩, ⟨(fun d e => by cases e), (fun cs e => by cases e; exact ⟨by rw [← ey]; exact p1, by omega, by omega, asc_pw p4⟩), (fun a b e => by cases e)⟩, rfl⟩
        rw [if_neg h3] at pb
        by_cases h4 : z = Str.ofString "gap"
        · rw [if_pos h4] at pb
          obtain ⟨x, y, rfl, pb⟩ := one_gap pb
          · have pb : (decide (0 ≤ x) && (decide (0 ≤ y) && (decide (x ≤ y) && decide (y ≤ 20)))) = true := pb
            obtain ⟨p1, pb⟩ := Bool.and_eq_true_iff.mp pb
            obtain ⟨p2, pb⟩ := Bool.and_eq_true_iff.mp pb
            obtain ⟨p3, p4⟩ := Bool.and_eq_true_iff.mp pb
            have p1 := of_decide_eq_true p1
            have p2 := of_decide_eq_true p2
            have p3 := of_decide_eq_true p3
            have p4 := of_decide_eq_true p4
            have e1 : x = ((x.toNat : Nat) : Int) := by omega
            have e2 : y = ((y.toNat : Nat) : Int) := by omega
            rw [h4, e1, e2] at hb ⊢
            exact ⟨.gap x.toNat y.toNat, ⟨b, rfl, hb⟩, ⟨(fun d e => by cases e), (fun cs e => by cases e), fun a b e => by cases e; omega⟩, rfl⟩
        rw [if_neg h4] at pb
        cases pb
      | _ => cases pb
theorem parts_of {H : Hp} : ∀ {ws : List V} {os : List (Option (List V))}, All2 (Tg H) ws os → os.all partB = true → ∃ ps : List Prt, All2 (PrtAt H) ws ps ∧ (∀ p ∈ ps, p.Ok) ∧ os = ps.map fun p => some p.v
  | _, _, .nil, _ => ⟨[], .nil, fun p h => absurd h List.not_mem_nil, rfl⟩
  | _, _, .cons r h, hp => by
    obtain ⟨h1, h2⟩ := Bool.and_eq_true_iff.mp (List.all_cons ▸ hp)
    obtain ⟨p, e1, e2, e3⟩ := tg_part r h1
    obtain ⟨ps, f1, f2, f3⟩ := parts_of h h2
    exact ⟨p :: ps, .cons e1 f1, fun q hq => (List.mem_cons.mp hq).elim (fun e => e ▸ e2) (f2 q), by rw [e3, f3]; rfl⟩
theorem PatV.of {H : Hp} {ws : List V} {ps : List Prt} (h : All2 (PrtAt H) ws ps) (ok : ∀ p ∈ ps, p.Ok) : PatV H ws ps :=
  ⟨h.len, fun i v p e1 e2 => by
    obtain ⟨q, e3, r⟩ := h.at e1
    rw [e2] at e3
    cases e3
    exact r, ok⟩
theorem gap_v (p : Prt) : gapO (some p.v) = p.gapB := by rw [← head_gap]; cases p <;> rfl
theorem adj_apart {gs : List Bool} (h : adjB gs = false) (i : Nat) (h1 : gs[i]? = some true) (h2 : gs[i + 1]? = some true) : False := by
  have ez : (gs.zip (gs.drop 1))[i]? = some (true, true) := List.getElem?_zip_eq_some.mpr ⟨h1, by rw [List.getElem?_drop, Nat.add_comm]; exact h2⟩
  have := List.any_eq_false.mp h (true, true) (List.mem_of_getElem? ez)
  exact this rfl
theorem apart_adj {gs : List Bool} (h : ∀ i : Nat, gs[i]? = some true → gs[i + 1]? = some true → False) : adjB gs = false := by
  refine List.any_eq_false.mpr fun p hp => ?_
  obtain ⟨i, hi⟩ := List.getElem?_of_mem hp
  obtain ⟨h1, h2⟩ := List.getElem?_zip_eq_some.mp hi
  rw [List.getElem?_drop, Nat.add_comm] at h2
  intro e
  obtain ⟨e1, e2⟩ := Bool.and_eq_true_iff.mp e
  rw [e1] at h1
  rw [e2] at h2
  exact h i h1 h2
theorem ends_of {gs : List Bool} (l : 1 ≤ gs.length) : gs[0]? = some (gs.headD false) ∧ gs[gs.length - 1]? = some (gs.getLastD false) := by
  have ne : gs ≠ [] := fun e => by rw [e] at l; exact absurd l (by decide)
  refine ⟨?_, ?_⟩
  · cases gs with
    | nil => exact absurd rfl ne
    | cons b r => rfl
  · rw [List.getLastD_eq_getLast?, List.getLast?_eq_getElem?, List.getElem?_eq_getElem (by omega)]
    rfl
theorem pat_of {H : Hp} {ws : List V} {os : List (Option (List V))} (h : All2 (Tg H) ws os) (pb : patL os = true) : ∃ ps, PatV H ws ps ∧ PatOk ps ∧ os = ps.map fun p => some p.v := by
  unfold patL at pb
  obtain ⟨p1, pb⟩ := Bool.and_eq_true_iff.mp pb
  obtain ⟨p2, pb⟩ := Bool.and_eq_true_iff.mp pb
  obtain ⟨p3, pb⟩ := Bool.and_eq_true_iff.mp pb
  obtain ⟨p4, pb⟩ := Bool.and_eq_true_iff.mp pb
  obtain ⟨p5, p6⟩ := Bool.and_eq_true_iff.mp pb
  have p1 : ¬ (os.length : Int) < 1 := by simpa using p1
  have p2 : ¬ 30 < (os.length : Int) := by simpa using p2
  obtain ⟨ps, h1, h2, rfl⟩ := parts_of h p3
  have eg : ((ps.map fun p => some p.v).map gapO) = ps.map Prt.gapB := by
    rw [List.map_map]
    exact List.map_congr_left fun p _ => gap_v p
  rw [eg] at p4 p5 p6
  rw [List.length_map] at p1 p2
  have lg : (ps.map Prt.gapB).length = ps.length := List.length_map _
  obtain ⟨e1, e2⟩ := ends_of (gs := ps.map Prt.gapB) (by omega)
  rw [lg] at e2
  refine ⟨ps, .of h1 h2, ⟨by omega, by omega, ?_, ?_, ?_⟩, rfl⟩
  · rw [e1, show (ps.map Prt.gapB).headD false = false by simpa using p4]
  · rw [e2, show (ps.map Prt.gapB).getLastD false = false by simpa using p5]
  · exact fun i => adj_apart (by simpa using p6) i
theorem part_of {p : Prt} (ok : p.Ok) : partB (some p.v) = true := by
  cases p with
  | any => rfl
  | sg c =>
    show (sgB (sn c) && decide (((sn c).length : Int) = 1)) = true
    rw [ok.sg c rfl]
    rfl
  | lot cs =>
    obtain ⟨s1, s2, s3, s4⟩ := ok.lot cs rfl
    show (sgB ⟨cs.toArray⟩ && decide ((0 : Int) < ((cs.length : Nat) : Int)) && (!decide ((20 : Int) < ((cs.length : Nat) : Int)) && ascB cs)) = true
    rw [s1, decide_eq_true (show (0 : Int) < ((cs.length : Nat) : Int) by omega), decide_eq_false (show ¬ (20 : Int) < ((cs.length : Nat) : Int) by omega), pw_asc s4]
    rfl
  | gap a b =>
    obtain ⟨g1, g2⟩ := ok.gap a b rfl
    show (decide ((0 : Int) ≤ (a : Nat)) && (decide ((0 : Int) ≤ (b : Nat)) && (decide (((a : Nat) : Int) ≤ (b : Nat)) && decide (((b : Nat) : Int) ≤ 20)))) = true
    rw [decide_eq_true (show (0 : Int) ≤ (a : Nat) by omega), decide_eq_true (show (0 : Int) ≤ (b : Nat) by omega), decide_eq_true (show ((a : Nat) : Int) ≤ (b : Nat) by omega), decide_eq_true (show ((b : Nat) : Int) ≤ 20 by omega)]
    rfl
theorem part_tg {H : Hp} {v : V} {p : Prt} (h : PrtAt H v p) (ok : p.Ok) : Tg H v (some p.v) := by
  obtain ⟨a, rfl, ha⟩ := h
  refine .tup ha (by cases p <;> simp [Prt.v]) fun y hy => ?_
  cases p with
  | any =>
    rw [List.mem_singleton.mp hy]
    exact lit_ok (by decide +kernel)
  | sg c =>
    rcases List.mem_cons.mp hy with e | e
    · rw [e]; exact lit_ok (by decide +kernel)
    · rw [List.mem_singleton.mp e]; exact lit_ok (by show 1 ≤ 5000; decide)
  | lot cs =>
    have l3 := (ok.lot cs rfl).2.2.1
    rcases List.mem_cons.mp hy with e | e
    · rw [e]; exact lit_ok (by decide +kernel)
    · rw [List.mem_singleton.mp e]; exact lit_ok (by show cs.length ≤ 5000; omega)
  | gap a b =>
    rcases List.mem_cons.mp hy with e | e
    · rw [e]; exact lit_ok (by decide +kernel)
    rcases List.mem_cons.mp e with e | e
    · rw [e]; exact int_ok
    · rw [List.mem_singleton.mp e]; exact int_ok
def osOf (ps : List Prt) : List (Option (List V)) := ps.map fun p => some p.v
theorem PatV.all2 {H : Hp} : ∀ {ws : List V} {ps : List Prt}, PatV H ws ps → All2 (Tg H) ws (osOf ps)
  | [], [], _ => .nil
  | [], p :: ps, h => by have := h.len; cases this
  | w :: ws, [], h => by have := h.len; cases this
  | w :: ws, p :: ps, h => .cons (part_tg (h.at_ 0 w p rfl rfl) (h.ok p List.mem_cons_self)) (PatV.all2 (ws := ws) (ps := ps) ⟨Nat.succ.inj h.len, fun i v q e1 e2 => h.at_ (i + 1) v q e1 e2, fun q hq => h.ok q (List.mem_cons_of_mem _ hq)⟩)
theorem pat_yes {ps : List Prt} (h : PatOk ps) (ok : ∀ p ∈ ps, p.Ok) : patL (osOf ps) = true := by
  have eg : ((osOf ps).map gapO) = ps.map Prt.gapB := by
    unfold osOf
    rw [List.map_map]
    exact List.map_congr_left fun p _ => gap_v p
  have lo : (osOf ps).length = ps.length := List.length_map _
  have l1 := h.l1
  have l2 := h.l30
  have lg : (ps.map Prt.gapB).length = ps.length := List.length_map _
  obtain ⟨e1, e2⟩ := ends_of (gs := ps.map Prt.gapB) (by omega)
  rw [lg, h.last] at e2
  rw [h.first] at e1
  unfold patL
  rw [eg, lo, ← Option.some.inj e1, ← Option.some.inj e2, apart_adj h.apart, decide_eq_false (show ¬ (ps.length : Int) < 1 by omega), decide_eq_false (show ¬ 30 < (ps.length : Int) by omega)]
  rw [show (osOf ps).all partB = true from List.all_eq_true.mpr fun o ho => by
    obtain ⟨p, hp, rfl⟩ := List.mem_map.mp ho
    exact part_of (ok p hp)]
  rfl
theorem PatV.pt {H : Hp} {a : Addr} {us : List V} {ps : List Prt} (ha : H a = some (.tup us)) (h : PatV H us ps) (n : us.length ≤ 1000) : PatT H (.ref a) (some (osOf ps)) := .tup ha n h.all2
end LawK
set_option maxHeartbeats 4000000
namespace LawK
open PySem PySem.Spec PyProof.Rows L2 Ev
section
variable {P : Program} {w : World} {K : PySem.W.Frag} {mg : Str → Option Value} {base : Heap}
variable {PE cP : Addr}

theorem fig_len {n : Nat} (h : n ≤ 20) : (fig n).length ≤ 4 := by
  show (cod (numZ (n : Int))).length ≤ 4
  rw [cod_len]
  exact num_len (by omega)
theorem mkL_len (cs : List Nat) : (cs.flatMap mkL).length ≤ 2 * cs.length := by
  have h1 := sum_len2 (ms := [93, 92]) cs
  rw [← mkL_eq]
  unfold mkM
  rw [List.length_flatMap]
  rw [List.map_map] at h1
  exact h1
theorem wrt_len {p : Prt} (ok : p.Ok) : (wrt p).length ≤ 50 := by
  cases p with
  | any => show 1 ≤ 50; decide
  | sg c =>
    show (mkC c).length ≤ 50
    unfold mkC
    by_cases m : c ∈ mkS
    · rw [if_pos m]; show 2 ≤ 50; decide
    · rw [if_neg m]; show 1 ≤ 50; decide
  | lot cs =>
    have h := (ok.lot cs rfl).2.2.1
    have := mkL_len cs
    show (cs.flatMap mkL ++ [93]).length + 1 ≤ 50
    rw [List.length_append]
    show _ + 1 + 1 ≤ 50
    omega
  | gap a b =>
    obtain ⟨g1, g2⟩ := ok.gap a b rfl
    have h1 := fig_len (n := a) (by omega)
    have h2 := fig_len (n := b) g2
    show (fig a ++ 44 :: (fig b ++ [125])).length + 1 ≤ 50
    rw [List.length_append, List.length_cons, List.length_append]
    show _ + (_ + 1 + 1) + 1 ≤ 50
    omega
theorem wrts_len : ∀ ps : List Prt, (∀ p ∈ ps, p.Ok) → (wrts ps).length ≤ 50 * ps.length
  | [], _ => Nat.le_refl 0
  | p :: ps, h => by
    have h1 := wrt_len (h p List.mem_cons_self)
    have h2 := wrts_len ps fun q hq => h q (List.mem_cons_of_mem _ hq)
    show (wrt p ++ wrts ps).length ≤ 50 * (ps.length + 1)
    rw [List.length_append]
    omega
theorem sum_wrt : ∀ ps : List Prt, (∀ p ∈ ps, p.Ok) → ((ps.map fun p => SX.S (wrt p)).map (·.length)).sum ≤ 50 * ps.length
  | [], _ => Nat.le_refl 0
  | p :: ps, h => by
    have h1 := wrt_len (h p List.mem_cons_self)
    have h2 := sum_wrt ps fun q hq => h q (List.mem_cons_of_mem _ hq)
    simp only [List.map_cons, List.sum_cons, List.length_cons]
    have : (SX.S (wrt p)).length = (wrt p).length := rfl
    omega
theorem join_wrt (ps : List Prt) : Txt.join (Str.ofString "") (ps.map fun p => SX.S (wrt p)) = SX.S (wrts ps) := by
  rw [join_names, List.map_map]
  rfl

abbrev sPPatText : Stmt := topS 20
theorem scPPatText : FnScope ["pattern", "part"] ["pattern"] (defScope sPPatText) := ⟨rfl, rfl, rfl, by decide +kernel, rfl, by decide +kernel, by decide +kernel⟩
theorem ok_PPatText {f : Addr} {fd : FuncData} (F : Fun K "pattern_text" "pattern_text" sPPatText f fd) (ENoPattern : Cls0 P K mg PE "NoPattern" cP) {fPIsPattern : Addr} {fdPIsPattern : FuncData} (DPIsPattern : Dk P w K mg base "is_pattern" sPIsPattern ["thing"] 5 spPatT fPIsPattern fdPIsPattern) {fQPartText : Addr} {fdQPartText : FuncData} (DQPartText : Dk P w K mg base "_part_text" sQPartText ["part"] 2 spPartText fQPartText fdQPartText) (T : Glob mg) : FnOk P w K mg base (L2.CX P w) 6 f fd ["pattern"] (spPText cP) := by
  obtain ⟨fW, SNoPattern⟩ := ENoPattern.sup
  refine F.okX scPPatText (fun vs H Q E h => ?_) (fun cdv A outer s H vs Q E hr h => ?_)
  · obtain ⟨x, o, rfl, _⟩ := h
    rfl
  · refine ⟨_, (pss_cons (ps_if (pt_not (pt_val (pe_call DPIsPattern.ok (hr.mono (by decide)) (by rfl) DPIsPattern.g DPIsPattern.F.kp DPIsPattern.b .nil pass0 (pa_cons (pv 0) pa_nil))))
      (pss_one (ps_raise rfl (takes_of rfl rfl rfl rfl) (pmk_exc0 SNoPattern hr (by rfl) ENoPattern.g)))
      pss_nil)
      (pss_one (ps_ret (pe_join pe_str (pe_lc (own := [("part", 1)]) (g := gName 1) (by rfl) scPPatText.nd (pi_tup (pv 0)) (blkOk_by (N := ["pattern", "part"]) (sc := defScope sPPatText) (by decide +kernel)) (fun _ _ _ _ _ => pg_name (i := 1) scPPatText.nd rfl (.inl rfl)) (fun _ _ _ _ _ => pts_nil) (fun _ _ _ _ _ => (pe_call DQPartText.ok (hr.mono (by decide)) (by rfl) DQPartText.g DQPartText.F.kp DQPartText.b .nil pass0 (pa_cons (pv 1) pa_nil)))))))), ?_⟩
    obtain ⟨x, o, rfl, pt, q1, q2⟩ := h
    refine ⟨x, rfl, x, o, rfl, pt, fun H1 k1 => ⟨_, rfl, ?_⟩⟩
    cases hb : patO o with
    | false => exact iteT (q2 H1 hb k1)
    | true =>
      refine iteF ?_
      cases pt with
      | no _ _ => cases hb
      | @tup a ws os ha n hv =>
        obtain ⟨ps, pv_, pok, eo⟩ := pat_of hv hb
        have q := fun H' k' => q1 a ws ps H' rfl hb k' ha pv_ pok
        have ha1 := k1 _ _ ha
        have lw : ws.length = ps.length := pv_.len
        have l30 := pok.l30
        have sz : sizeLine = 16777216 := sizeLine_eq
        refine ⟨⟨_, rfl⟩, .ref a, rfl, a, rfl, ⟨_, SqT.of ha1⟩, fun D nD => lc_tup (K := K) (xs := ws) (fun i H' => Same H1 H' ∧ H' D = some (.lst (((ps.take i).map fun p => SX.S (wrt p)).map V.str))) ⟨Same.new nD, upd_same⟩ (fun i H' _ g => SqT.of (g.1 _ _ ha1)) ?_ ?_⟩
        · rintro i u H2 hu ⟨k2, hD⟩
          obtain ⟨p, ep, hp, ok⟩ := pv_.get hu
          refine ⟨rfl, u, rfl, u, p, rfl, hp.same (k1.trans k2), ok, fun H3 k3 => ⟨_, k3 _ _ hD, ?_, sameAt (k2.trans k3) nD, ?_⟩⟩
          · rw [List.length_map, List.length_map, List.length_take]
            omega
          · rw [upd_same, List.take_succ, ep, Option.toList_some, List.map_append, List.map_append]
            rfl
        · rintro H2 ⟨k2, hD⟩
          rw [lw, List.take_length] at hD
          refine ⟨_, D, ps.map fun p => SX.S (wrt p), rfl, rfl, .inl (sq_of hD), ?_, ?_⟩
          · have := sum_wrt ps pv_.ok
            rw [List.length_map, sl0]
            omega
          · rw [join_wrt]
            exact q _ (k1.trans k2)

abbrev sLWritten : Stmt := topS 39
theorem scLWritten : FnScope ["pattern", "found", "part", "sign"] ["pattern"] (defScope sLWritten) := ⟨rfl, rfl, rfl, by decide +kernel, rfl, by decide +kernel, by decide +kernel⟩
theorem ok_LWritten {f : Addr} {fd : FuncData} (F : Fun K "_law_written" "_law_written" sLWritten f fd)   (T : Glob mg) : FnOk P w K mg base CX0 1 f fd ["pattern"] spWritten := by
  refine F.ok scLWritten (fun vs H Q E h => ?_) (fun cdv A outer s H vs Q E hr h => ?_)
  · obtain ⟨a, us, ps, rfl, _⟩ := h
    rfl
  · refine ⟨_, (pss_cons (ps_set (i := 1) scLWritten.nd rfl (.inl rfl) pe_str)
      (pss_cons (ps_for PassesOwn.never rfl (pi_tup (pv 0)) (pg_name (i := 2) scLWritten.nd rfl (.inl rfl))
      (pss_one (ps_if (pt_cmpR op_eq (pe_ix ix_tup (pv 2) pe_int (fun _ _ => rfl)) pe_str (nomark _))
        (pss_one (ps_set (i := 1) scLWritten.nd rfl (.inl rfl) (pe_op op_add_str (pe_op op_add_str (pv 1) (pe_ifExp (pt_cmpR op_inS (pe_ix ix_tup (pv 2) pe_int (fun _ _ => rfl)) pe_str rfl) pe_str pe_str)) (pe_ix ix_tup (pv 2) pe_int (fun _ _ => rfl)))))
        (pss_one (ps_if (pt_cmpR op_eq (pe_ix ix_tup (pv 2) pe_int (fun _ _ => rfl)) pe_str (nomark _))
          (pss_one (ps_set (i := 1) scLWritten.nd rfl (.inl rfl) (pe_op op_add_str (pv 1) pe_str)))
          (pss_one (ps_if (pt_cmpR op_eq (pe_ix ix_tup (pv 2) pe_int (fun _ _ => rfl)) pe_str (nomark _))
            (pss_one (ps_set (i := 1) scLWritten.nd rfl (.inl rfl) (pe_op op_add_str (pe_op op_add_str (pe_op op_add_str (pv 1) pe_str) (pe_join pe_str (pe_lc (own := [("sign", 3)]) (g := gName 3) (by rfl) scLWritten.nd (pi_str (pe_ix ix_tup (pv 2) pe_int (fun _ _ => rfl))) (blkOk_by (N := ["pattern", "found", "part", "sign"]) (sc := defScope sLWritten) (by decide +kernel)) (fun _ _ _ _ _ => pg_name (i := 3) scLWritten.nd rfl (.inl rfl)) (fun _ _ _ _ _ => pts_nil) (fun _ _ _ _ _ => (pe_op op_add_str (pe_ifExp (pt_cmpR op_inS (pv 3) pe_str rfl) pe_str pe_str) (pv 3)))))) pe_str)))
            (pss_one (ps_set (i := 1) scLWritten.nd rfl (.inl rfl) (pe_op op_add_str (pe_op op_add_str (pe_op op_add_str (pe_op op_add_str (pe_op op_add_str (pv 1) pe_str) (pe_callTy call_str_int (by rfl) T.str (by decide +kernel) (pa_cons (pe_ix ix_tup (pv 2) pe_int (fun _ _ => rfl)) pa_nil))) pe_str) (pe_callTy call_str_int (by rfl) T.str (by decide +kernel) (pa_cons (pe_ix ix_tup (pv 2) pe_int (fun _ _ => rfl)) pa_nil))) pe_str))))))))))
      (pss_one (ps_ret (pv 1))))), ?_⟩
    obtain ⟨a, us, ps, rfl, ha, hv, n30, q⟩ := h
    have sz : sizeLine = 16777216 := sizeLine_eq
    have lw : us.length = ps.length := hv.len
    refine ⟨.ref a, rfl, a, rfl, ⟨_, SqT.of ha⟩, for_tup (xs := us) (fun i σ H' => ∃ (u2 u3 : Option V), σ = [some (.ref a), some (.str (SX.S (wrts (ps.take i)))), u2, u3] ∧ Same H H') ⟨none, none, rfl, Same.refl H⟩ (fun i σ H' _ ⟨_, _, _, k'⟩ => SqT.of (k' _ _ ha)) ?_ ?_⟩
    · rintro i x σ H1 hx ⟨u2, u3, rfl, k1⟩
      obtain ⟨p, ep, ⟨b, rfl, hb⟩, ok⟩ := hv.get hx
      have hi := (List.getElem?_eq_some_iff.mp hx).1
      have hb1 := k1 _ _ hb
      have lF : (SX.S (wrts (ps.take i))).length ≤ 1500 := by
        have h1 := wrts_len (ps.take i) fun q hq => hv.ok q (List.mem_of_mem_take hq)
        have h2 : (ps.take i).length ≤ i := by rw [List.length_take]; omega
        show (wrts (ps.take i)).length ≤ 1500
        omega
      have sn1 : wrts (ps.take (i + 1)) = wrts (ps.take i) ++ wrt p := by
        rw [List.take_succ, ep, Option.toList_some]
        unfold wrts
        rw [List.flatMap_append, List.flatMap_cons, List.flatMap_nil, List.append_nil]
      generalize eF : SX.S (wrts (ps.take i)) = F at lF
      have cF : cod F = wrts (ps.take i) := by rw [← eF]
      rw [← cF] at sn1
      dsimp only [gName]
      cases p with
      | any =>
        refine ⟨.ref b, rfl, b, _, 0, .str "any", rfl, rfl, SqT.of hb1, rfl, rfl, _, rfl, ite2 (fun e => absurd (of_decide_eq_true e) n_as) fun _ => ?_⟩
        refine ⟨.ref b, rfl, b, _, 0, .str "any", rfl, rfl, SqT.of hb1, rfl, rfl, _, rfl, iteT ?_⟩
        refine ⟨.str F, rfl, _, _, rfl, rfl, ?_, some (.ref b), u3, ?_, k1⟩
        · show _ + _ ≤ _
          rw [sz, show (Str.ofString "?").length = 1 by decide +kernel]
          omega
        · have e : F ++ Str.ofString "?" = SX.S (wrts (ps.take (i + 1))) := cod_inj (by
            rw [cod_app, show cod (Str.ofString "?") = [63] by decide +kernel, sn1]
            rfl)
          rw [← e]
          rfl
      | sg c =>
        refine ⟨.ref b, rfl, b, _, 0, .str "sign", rfl, rfl, SqT.of hb1, rfl, rfl, _, rfl, iteT ?_⟩
        refine ⟨.str F, rfl, .ref b, rfl, b, _, 1, .str (sn c), rfl, rfl, SqT.of hb1, rfl, c, _, rfl, rfl, _, rfl, ?_⟩
        rw [show (Str.ofString "?[{\\").cps.toList = mkS from (by decide +kernel : cod (Str.ofString "?[{\\") = mkS)]
        refine ite2 (fun e => ?_) (fun e => ?_)
        · refine ⟨_, _, rfl, rfl, ?_, .ref b, rfl, b, _, 1, .str (sn c), rfl, rfl, SqT.of hb1, rfl, _, _, rfl, rfl, ?_, some (.ref b), u3, ?_, k1⟩
          · show _ + _ ≤ _
            rw [sz, sl1]
            omega
          · show (F ++ Str.ofString "\\").length + 1 ≤ _
            rw [sz, app_len, sl1]
            omega
          · have e : F ++ Str.ofString "\\" ++ sn c = SX.S (wrts (ps.take (i + 1))) := cod_inj (by
              rw [cod_app, cod_app, sl2, sn1]
              show cod F ++ [92] ++ [c] = cod F ++ mkC c
              unfold mkC
              rw [if_pos (of_decide_eq_true e), List.append_assoc]
              rfl)
            rw [← e]
            rfl
        · refine ⟨_, _, rfl, rfl, ?_, .ref b, rfl, b, _, 1, .str (sn c), rfl, rfl, SqT.of hb1, rfl, _, _, rfl, rfl, ?_, some (.ref b), u3, ?_, k1⟩
          · show _ + _ ≤ _
            rw [sz, sl0]
            omega
          · show (F ++ Str.ofString "").length + 1 ≤ _
            rw [sz, app_len, sl0]
            omega
          · have e : F ++ Str.ofString "" ++ sn c = SX.S (wrts (ps.take (i + 1))) := cod_inj (by
              rw [cod_app, cod_app, show cod (Str.ofString "") = [] by decide +kernel, List.append_nil, sn1]
              show cod F ++ [c] = cod F ++ mkC c
              unfold mkC
              rw [if_neg (fun h => e (decide_eq_true h))])
            rw [← e]
            rfl
      | lot cs =>
        obtain ⟨s1, s2, s3, s4⟩ := ok.lot cs rfl
        refine ⟨.ref b, rfl, b, _, 0, .str "lot", rfl, rfl, SqT.of hb1, rfl, rfl, _, rfl, ite2 (fun e => absurd (of_decide_eq_true e) n_ls) fun _ => ?_⟩
        refine ⟨.ref b, rfl, b, _, 0, .str "lot", rfl, rfl, SqT.of hb1, rfl, rfl, _, rfl, ite2 (fun e => absurd (of_decide_eq_true e) n_la) fun _ => ?_⟩
        refine ⟨.ref b, rfl, b, _, 0, .str "lot", rfl, rfl, SqT.of hb1, rfl, rfl, _, rfl, iteT ?_⟩
        have ml := mkL_len cs
        refine ⟨.str F, rfl, _, _, rfl, rfl, (by rw [sz, show (Str.ofString "[").length = 1 by decide +kernel]; omega), ?_⟩
        refine ⟨⟨_, rfl⟩, .ref b, rfl, b, _, 1, .str ⟨cs.toArray⟩, rfl, rfl, SqT.of hb1, rfl, ⟨cs.toArray⟩, rfl, fun D nD => lc_it walk_str (fun j H' => Same H1 H' ∧ H' D = some (.lst (((cs.take j).map (mk1 [93, 92])).map V.str))) ⟨Same.new nD, upd_same⟩ (fun _ _ _ _ => trivial) ?_ ?_⟩
        · rintro j v H2 H3 hj ⟨k2, hD⟩ ⟨rfl, c, ec, rfl⟩
          have ec2 : cs[j]? = some c := by rw [← List.getElem?_toArray]; exact ec
          have put : upd H3 D (.lst (((cs.take j).map (mk1 [93, 92])).map V.str ++ [V.str (mk1 [93, 92] c)])) D = some (.lst (((cs.take (j + 1)).map (mk1 [93, 92])).map V.str)) := by
            rw [upd_same, List.take_succ, ec2, Option.toList_some, List.map_append, List.map_append]
            rfl
          have few : (((cs.take j).map (mk1 [93, 92])).map V.str).length < sizeLine := by
            rw [List.length_map, List.length_map, List.length_take]
            omega
          refine ⟨rfl, ?_⟩
          refine ⟨.str ⟨#[c]⟩, rfl, c, _, rfl, rfl, _, rfl, ?_⟩
          rw [show (Str.ofString "]\\").cps.toList = [93, 92] from (by decide +kernel : cod (Str.ofString "]\\") = [93, 92])]
          refine ite2 (fun e => ?_) (fun e => ?_)
          · have em : mk1 [93, 92] c = Str.ofString "\\" ++ ⟨#[c]⟩ := cod_inj (by rw [cod_app]; unfold mk1; rw [if_pos (of_decide_eq_true e), sl2]; rfl)
            rw [em] at put
            exact ⟨.str ⟨#[c]⟩, rfl, _, _, rfl, rfl, (by rw [sz, sl1]; show 1 + 1 ≤ _; decide), _, hD, few, sameAt k2 nD, put⟩
          · have em : mk1 [93, 92] c = Str.ofString "" ++ ⟨#[c]⟩ := cod_inj (by rw [cod_app]; unfold mk1; rw [if_neg (fun h => e (decide_eq_true h)), show cod (Str.ofString "") = [] by decide +kernel]; rfl)
            rw [em] at put
            exact ⟨.str ⟨#[c]⟩, rfl, _, _, rfl, rfl, (by rw [sz, sl0]; show 0 + 1 ≤ _; decide), _, hD, few, sameAt k2 nD, put⟩
        · rintro H2 ⟨k2, hD⟩
          have hD : H2 D = some (.lst ((cs.map (mk1 [93, 92])).map V.str)) := by
            rw [hD, List.take_of_length_le (by show cs.length ≤ cs.toArray.size; simp)]
          refine ⟨_, D, cs.map (mk1 [93, 92]), rfl, rfl, .inl (sq_of hD), ?_, ?_⟩
          · have := sum_len2 (ms := [93, 92]) cs
            rw [List.length_map, sl0]
            omega
          rw [join_mk, mkL_eq]
          refine ⟨_, _, rfl, rfl, ?_, _, _, rfl, rfl, ?_, some (.ref b), u3, ?_, k1.trans k2⟩
          · show (F ++ Str.ofString "[").length + (cs.flatMap mkL).length ≤ _
            rw [sz, app_len, show (Str.ofString "[").length = 1 by decide +kernel]
            omega
          · rw [app_len, app_len, sz, show (Str.ofString "[").length = 1 by decide +kernel, show (Str.ofString "]").length = 1 by decide +kernel]
            show F.length + 1 + (cs.flatMap mkL).length + 1 ≤ _
            omega
          · have e : F ++ Str.ofString "[" ++ SX.S (cs.flatMap mkL) ++ Str.ofString "]" = SX.S (wrts (ps.take (i + 1))) := cod_inj (by
              rw [cod_app, cod_app, cod_app, show cod (Str.ofString "[") = [91] by decide +kernel, show cod (Str.ofString "]") = [93] by decide +kernel, sn1]
              show cod F ++ [91] ++ cs.flatMap mkL ++ [93] = cod F ++ (91 :: (cs.flatMap mkL ++ [93]))
              simp)
            rw [← e]
            rfl
      | gap x y =>
        obtain ⟨g1, g2⟩ := ok.gap x y rfl
        refine ⟨.ref b, rfl, b, _, 0, .str "gap", rfl, rfl, SqT.of hb1, rfl, rfl, _, rfl, ite2 (fun e => absurd (of_decide_eq_true e) n_gs) fun _ => ?_⟩
        refine ⟨.ref b, rfl, b, _, 0, .str "gap", rfl, rfl, SqT.of hb1, rfl, rfl, _, rfl, ite2 (fun e => absurd (of_decide_eq_true e) n_ga) fun _ => ?_⟩
        refine ⟨.ref b, rfl, b, _, 0, .str "gap", rfl, rfl, SqT.of hb1, rfl, rfl, _, rfl, ite2 (fun e => absurd (of_decide_eq_true e) n_gl) fun _ => ?_⟩
        have l1 := num_len (n := x) (by omega)
        have l2 := num_len (n := y) (by omega)
        have c1 : (Str.ofString "{").length = 1 := by decide +kernel
        have c2 : (Str.ofString ",").length = 1 := by decide +kernel
        have c3 : (Str.ofString "}").length = 1 := by decide +kernel
        have e : F ++ Str.ofString "{" ++ numZ (x : Int) ++ Str.ofString "," ++ numZ (y : Int) ++ Str.ofString "}" = SX.S (wrts (ps.take (i + 1))) := cod_inj (by
          rw [cod_app, cod_app, cod_app, cod_app, cod_app, sn1]
          rw [show cod (Str.ofString "{") = [123] by decide +kernel, show cod (Str.ofString ",") = [44] by decide +kernel, show cod (Str.ofString "}") = [125] by decide +kernel]
          show cod F ++ [123] ++ fig x ++ [44] ++ fig y ++ [125] = cod F ++ (123 :: (fig x ++ 44 :: (fig y ++ [125])))
          simp)
        refine ⟨.str F, rfl, _, _, rfl, rfl, ?_, .ref b, rfl, b, _, 1, .int (x : Nat), rfl, rfl, SqT.of hb1, rfl, _, rfl, small_log (by omega), _, _, rfl, rfl, ?_, _, _, rfl, rfl, ?_, .ref b, rfl, b, _, 2, .int (y : Nat), rfl, rfl, SqT.of hb1, rfl, _, rfl, small_log g2, _, _, rfl, rfl, ?_, _, _, rfl, rfl, ?_, some (.ref b), u3, ?_, k1⟩
        · show F.length + _ ≤ _
          rw [sz, c1]; omega
        · show (F ++ Str.ofString "{").length + (numZ (x : Int)).length ≤ _
          rw [sz, app_len, c1]; omega
        · show (F ++ Str.ofString "{" ++ numZ (x : Int)).length + _ ≤ _
          rw [sz, app_len, app_len, c1, c2]; omega
        · show (F ++ Str.ofString "{" ++ numZ (x : Int) ++ Str.ofString ",").length + (numZ (y : Int)).length ≤ _
          rw [sz, app_len, app_len, app_len, c1, c2]; omega
        · show (F ++ Str.ofString "{" ++ numZ (x : Int) ++ Str.ofString "," ++ numZ (y : Int)).length + _ ≤ _
          rw [sz, app_len, app_len, app_len, app_len, c1, c2, c3]; omega
        · rw [← e]
          rfl
    · rintro σ H1 ⟨u2, u3, rfl, k1⟩
      rw [lw, List.take_length]
      exact ⟨_, rfl, q H1 k1⟩

end
end LawK
set_option Elab.async false
set_option linter.all false
namespace Ev
open PySem PySem.Spec PyProof.Rows L2
/-- text += text -/
def ipS : TIp := fun x y H Q => ∃ i j, x = .str i ∧ y = .str j ∧ i.length + j.length ≤ sizeLine ∧ Q (.str (i ++ j)) H
theorem ip_add_str {X : Cx} : PIp X .Add ipS := fun pins s σ H x y v u Q I r1 r2 h => iop_add_str pins s σ H x y v u Q I r1 r2 h
end Ev
set_option maxHeartbeats 4000000
namespace LawK
open PySem PySem.Spec PyProof.Rows L2 Ev

def signR : List Nat → Option Prt × Nat
  | [] => (none, 0)
  | c :: r => if c ≠ 92 then (if sgC c = true then (some (.sg c), 1) else (none, 0)) else match r with
    | [] => (none, 1)
    | d :: _ => if d ∈ mkS then (some (.sg d), 2) else (none, 1)
/-- told, and how far; or refused, and where -/
def Rd (H : Hp) (cB : Addr) (i : Nat) (R : Option Prt × Nat) (Q : VK) (E : XK) : Prop :=
  (∀ t v p H', R.1 = some p → Same H H' → H' t = some (.tup [v, .int ((i + R.2 : Nat) : Int)]) → PrtAt H' v p → Q (.ref t) H') ∧
  (∀ d H', R.1 = none → Same H H' → H' d = none → E (.ref cB) (some d) (upd H' d (.xd [("place", .int ((i + R.2 : Nat) : Int))])))
def spRSign (cB : Addr) : Sp := fun vs H Q E => ∃ (z : Str) (i : Nat), vs = [.str z, .int (i : Nat)] ∧ i < z.length ∧ z.length ≤ 2000 ∧ Rd H cB i (signR ((cod z).drop i)) Q E
theorem at_sn {z : Str} {i : Nat} {c : Nat} (h : (cod z)[i]? = some c) : atI (z.cps.toList.map fun c => sn c) (i : Nat) = some (sn c) := atI_nat (by rw [List.getElem?_map, h]; rfl)
theorem cut_one {z : Str} {i c : Nat} (h : (cod z)[i]? = some c) : cutS z (some ((i : Nat) : Int)) (some ((i : Nat) + 1 : Int)) = sn c := cod_inj (by
  have hl := (List.getElem?_eq_some_iff.mp h).1
  show (cutS z _ _).cps.toList = _
  rw [cutS_of (by omega) (by omega), show ((i : Int) + 1 - (i : Int)).toNat = 1 by omega, show ((i : Nat) : Int).toNat = i by omega]
  show (List.drop i (cod z)).take 1 = [c]
  rw [List.drop_eq_getElem_cons hl]
  have := List.getElem?_eq_getElem hl
  rw [h] at this
  rw [← Option.some.inj this]
  rfl)
theorem cut_no {z : Str} {i : Nat} (h : z.length ≤ i) : cutS z (some ((i : Nat) : Int)) (some ((i : Nat) + 1 : Int)) = Str.ofString "" := cod_inj (by
  show (cutS z _ _).cps.toList = _
  rw [cutS_of (by omega) (by omega), show ((i : Nat) : Int).toNat = i by omega, List.drop_of_length_le (by rw [← len_S]; exact h), List.take_nil, show cod (Str.ofString "") = [] by decide +kernel])
theorem bs_sn : Str.ofString "\\" = sn 92 := by decide +kernel
theorem rb_sn : Str.ofString "]" = sn 93 := by decide +kernel
theorem sign_sn (c : Nat) : signV (.str (sn c)) = sgC c := by
  show (sgB (sn c) && decide (((sn c).length : Int) = 1)) = _
  have e : sgB (sn c) = sgC c := Bool.and_true _
  rw [e]
  exact Bool.and_true _
section
variable {P : Program} {w : World} {K : PySem.W.Frag} {mg : Str → Option Value} {base : Heap}
variable {PE cB : Addr}

abbrev sQReadSign : Stmt := topS 21
theorem scQReadSign : FnScope ["text", "at", "marked", "sign"] ["text", "at"] (defScope sQReadSign) := ⟨rfl, rfl, rfl, by decide +kernel, rfl, by decide +kernel, by decide +kernel⟩
theorem ok_QReadSign {f : Addr} {fd : FuncData} (F : Fun K "_read_sign" "_read_sign" sQReadSign f fd) {t1 : Tok} (gMS : mg "MARKED_SIGNS" = some (.str "?[{\\" t1)) (EBadPattern : Cls1 K mg PE "BadPattern" "place" cB) {fPSign : Addr} {fdPSign : FuncData} (DPSign : Dk P w K mg base "is_sign" sPSign ["thing"] 2 spSign fPSign fdPSign) (T : Glob mg) : FnOk P w K mg base (L2.CX P w) 3 f fd ["text", "at"] (spRSign cB) := by
  refine F.okX scQReadSign (fun vs H Q E h => ?_) (fun cdv A outer s H vs Q E hr h => ?_)
  · obtain ⟨z, i, rfl, _⟩ := h
    rfl
  · refine ⟨_, (pss_cons (ps_set (i := 2) scQReadSign.nd rfl (.inl rfl) (pe_cmpR op_eq (pe_ix ix_str (pv 0) (pv 1) (fun _ _ => rfl)) pe_str (nomark _)))
      (pss_cons (ps_if (pt_val (pv 2))
      (pss_one (ps_aug (i := 1) scQReadSign.nd rfl (.inl rfl) pe_int ip_add))
      pss_nil)
      (pss_cons (ps_set (i := 3) scQReadSign.nd rfl (.inl rfl) (pe_slice sl_str (pv 0) (po_some (pv 1)) (po_some (pe_op op_add (pv 1) pe_int))))
      (pss_cons (ps_if (PW.pt (pw_or (pt_not (pt_val (pe_call DPSign.ok (hr.mono (by decide)) (by rfl) DPSign.g DPSign.F.kp DPSign.b .nil pass0 (pa_cons (pv 3) pa_nil)))) (pw_or1 (PW.pt (pw_and (pt_val (pv 2)) (pw_and1 (pt_cmpR op_notInS (pv 3) (pe_glob (v := .str "?[{\\") (by rfl) gMS ⟨_, rfl⟩) rfl)))))))
      (pss_one (ps_raise rfl (takes_of rfl rfl rfl rfl) (pmk_c1 EBadPattern hr (pa_cons (pv 1) pa_nil) (hm := tCons1 (j := 0)))))
      pss_nil)
      (pss_one (ps_ret (pe_tup (pa_cons (pe_tup (pa_cons pe_str (pa_cons (pv 3) pa_nil))) (pa_cons (pe_op op_add (pv 1) pe_int) pa_nil))))))))), ?_⟩
    obtain ⟨z, i, rfl, hi, lz, rd, re⟩ := h
    have sz : sizeLine = 16777216 := sizeLine_eq
    have hl : i < (cod z).length := by rw [cod_len]; exact hi
    obtain ⟨c, hc⟩ : ∃ c, (cod z)[i]? = some c := ⟨_, List.getElem?_eq_getElem hl⟩
    have ed : (cod z).drop i = c :: (cod z).drop (i + 1) := by
      rw [List.drop_eq_getElem_cons hl]
      rw [List.getElem?_eq_getElem hl] at hc
      rw [Option.some.inj hc]
    rw [ed] at rd re
    refine ⟨.str z, rfl, .int (i : Nat), rfl, z, _, c, rfl, rfl, len5 (by omega), atI_nat hc, rfl, ?_⟩
    rw [show decide (V.str (sn c) = V.str (Str.ofString "\\")) = decide (c = 92) by rw [bs_sn, sn_inj]]
    by_cases h92 : c = 92
    · rw [decide_eq_true h92]
      subst h92
      refine ⟨.bl true, rfl, _, rfl, iteT ⟨.int (i : Nat), rfl, _, _, rfl, rfl, ?_⟩⟩
      have rd : ∀ t v p H', (signR (92 :: (cod z).drop (i + 1))).1 = some p → _ := rd
      have e1 : ((i : Nat) : Int) + 1 = ((i + 1 : Nat) : Int) := by omega
      dsimp only
      rw [e1]
      by_cases hn : i + 1 < (cod z).length
      · obtain ⟨d, hd⟩ : ∃ d, (cod z)[i + 1]? = some d := ⟨_, List.getElem?_eq_getElem hn⟩
        have ed2 : (cod z).drop (i + 1) = d :: (cod z).drop (i + 1 + 1) := by
          rw [List.drop_eq_getElem_cons hn]
          rw [List.getElem?_eq_getElem hn] at hd
          rw [Option.some.inj hd]
        rw [ed2] at rd re
        refine ⟨.str z, rfl, .int ((i + 1 : Nat) : Int), rfl, _, rfl, .int ((i + 1 : Nat) : Int), rfl, _, _, rfl, rfl, _, rfl, z, rfl, len5 (by omega), ?_⟩
        rw [cut_one hd]
        refine ⟨.str (sn d), rfl, .str (sn d), .str, rfl, .str _, (fun w e => by cases e; show 1 ≤ 5000; decide), _, rfl, ?_⟩
        rw [sign_sn]
        have nr : d ∉ mkS → signR (92 :: d :: (cod z).drop (i + 1 + 1)) = (none, 1) := fun m => by
          show (if d ∈ mkS then _ else _) = _
          rw [if_neg m]
        have raise : d ∉ mkS → ∀ H1, Same H H1 → ∀ dx, H1 dx = none → E (.ref cB) (some dx) (upd H1 dx (.xd [("place", .int ((i + 1 : Nat) : Int))])) := fun m H1 k1 dx nd => by
          have := re dx H1 (by rw [nr m]) k1 nd
          rw [nr m] at this
          exact this
        cases hs : sgC d with
        | false =>
          refine iteT ⟨.int ((i + 1 : Nat) : Int), rfl, _, rfl, fun dx nd => ?_⟩
          exact raise (fun m => by have := mkS_sg d m; rw [hs] at this; cases this) H (Same.refl H) dx nd
        | true =>
          refine iteF ⟨.bl true, rfl, _, rfl, iteT ⟨.str (sn d), rfl, d, _, rfl, rfl, _, rfl, ?_⟩⟩
          rw [show (Str.ofString "?[{\\").cps.toList = mkS from (by decide +kernel : cod (Str.ofString "?[{\\") = mkS)]
          by_cases m : d ∈ mkS
          · rw [decide_eq_true m]
            refine iteF ?_
            have er : signR (92 :: d :: (cod z).drop (i + 1 + 1)) = (some (.sg d), 2) := by
              show (if d ∈ mkS then _ else _) = _
              rw [if_pos m]
            rw [er] at rd
            refine ⟨.str (sn d), rfl, by show 2 ≤ sizeLine; rw [sz]; decide, fun t nt => ?_⟩
            have kt := Same.new (H := H) (o := .tup [.str "sign", .str (sn d)]) nt
            refine ⟨.int ((i + 1 : Nat) : Int), rfl, _, _, rfl, rfl, by show 2 ≤ sizeLine; rw [sz]; decide, fun u nu => ?_⟩
            have ku := Same.new (o := .tup [.ref t, .int (((i + 1 : Nat) : Int) + 1)]) nu
            exact rd u (.ref t) (.sg d) _ rfl (kt.trans ku) (by rw [upd_same]; rfl) ⟨t, rfl, ku _ _ upd_same⟩
          · rw [decide_eq_false m]
            exact iteT ⟨.int ((i + 1 : Nat) : Int), rfl, _, rfl, fun dx nd => raise m H (Same.refl H) dx nd⟩
      · have ed2 : (cod z).drop (i + 1) = [] := List.drop_of_length_le (by omega)
        rw [ed2] at re
        refine ⟨.str z, rfl, .int ((i + 1 : Nat) : Int), rfl, _, rfl, .int ((i + 1 : Nat) : Int), rfl, _, _, rfl, rfl, _, rfl, z, rfl, len5 (by omega), ?_⟩
        rw [cut_no (by rw [← cod_len]; omega)]
        refine ⟨.str (Str.ofString ""), rfl, .str (Str.ofString ""), .str, rfl, .str _, (fun w e => by cases e; decide +kernel), _, rfl, ?_⟩
        rw [show signV (.str (Str.ofString "")) = false by decide +kernel]
        exact iteT ⟨.int ((i + 1 : Nat) : Int), rfl, _, rfl, fun dx nd => re dx H rfl (Same.refl H) nd⟩
    · rw [decide_eq_false h92]
      refine ⟨.bl false, rfl, _, rfl, iteF ?_⟩
      refine ⟨.str z, rfl, .int (i : Nat), rfl, _, rfl, .int (i : Nat), rfl, _, _, rfl, rfl, _, rfl, z, rfl, len5 (by omega), ?_⟩
      rw [cut_one hc]
      refine ⟨.str (sn c), rfl, .str (sn c), .str, rfl, .str _, (fun w e => by cases e; show 1 ≤ 5000; decide), _, rfl, ?_⟩
      rw [sign_sn]
      have er : signR (c :: (cod z).drop (i + 1)) = if sgC c = true then (some (.sg c), 1) else (none, 0) := if_pos h92
      rw [er] at rd re
      cases hs : sgC c with
      | false =>
        rw [hs] at re
        exact iteT ⟨.int (i : Nat), rfl, _, rfl, fun dx nd => re dx H rfl (Same.refl H) nd⟩
      | true =>
        rw [hs] at rd
        refine iteF ⟨.bl false, rfl, _, rfl, iteF ?_⟩
        refine ⟨.str (sn c), rfl, by show 2 ≤ sizeLine; rw [sz]; decide, fun t nt => ?_⟩
        have kt := Same.new (H := H) (o := .tup [.str "sign", .str (sn c)]) nt
        refine ⟨.int (i : Nat), rfl, _, _, rfl, rfl, by show 2 ≤ sizeLine; rw [sz]; decide, fun u nu => ?_⟩
        have ku := Same.new (o := .tup [.ref t, .int (((i : Nat) : Int) + 1)]) nu
        exact rd u (.ref t) (.sg c) _ rfl (kt.trans ku) (by rw [upd_same]; rfl) ⟨t, rfl, ku _ _ upd_same⟩

end
end LawK
set_option maxHeartbeats 4000000
namespace LawK
open PySem PySem.Spec PyProof.Rows L2 Ev

def lotP (r : List Nat) : Option Prt × Nat := ((lotR [] r).1.map Prt.lot, (lotR [] r).2)
def spRLot (cB : Addr) : Sp := fun vs H Q E => ∃ (z : Str) (i : Nat), vs = [.str z, .int (i : Nat)] ∧ i ≤ z.length ∧ z.length ≤ 2000 ∧ Rd H cB i (lotP ((cod z).drop i)) Q E
theorem sg_pos {c : Nat} (h : sgC c = true) : 0 < c := by have := of_decide_eq_true (Bool.and_eq_true_iff.mp h).1; omega
theorem app_sn (acc : List Nat) (c : Nat) : SX.S (acc ++ [c]) = SX.S acc ++ sn c := cod_inj (by rw [cod_app])
def lastL (acc : List Nat) : List Nat := acc.drop (acc.length - 1)
theorem lastL_lt (acc : List Nat) {b : Nat} (h : 0 < b) : decide (lastL acc < [b]) = decide (lastN acc < b) := by
  rcases List.eq_nil_or_concat acc with e | ⟨a', x, e⟩
  · rw [e]
    show decide (([] : List Nat) < [b]) = decide (0 < b)
    rw [decide_eq_true h, decide_eq_true (List.nil_lt_cons b [])]
  · rw [e, List.concat_eq_append, lastN_snoc]
    have el : lastL (a' ++ [x]) = [x] := by
      unfold lastL
      rw [List.length_append, show a'.length + [x].length - 1 = a'.length from rfl, List.drop_left]
    rw [el]
    exact decide_eq_decide.mpr lt_one
theorem cut_last (acc : List Nat) : (cutS (SX.S acc) (some (-1)) none).cps.toList = lastL acc := by
  have e : (cutS (SX.S acc) (some (-1)) none).cps.toList = (acc.drop (HT.sIx acc.length 0 (some (-1)))).take (acc.length - HT.sIx acc.length 0 (some (-1))) := by simp [cutS]; rfl
  have e2 : HT.sIx acc.length 0 (some (-1)) = acc.length - 1 := by
    unfold HT.sIx
    simp
    omega
  rw [e, e2, List.take_of_length_le (by rw [List.length_drop]; exact Nat.le_refl _)]
  rfl
section
variable {P : Program} {w : World} {K : PySem.W.Frag} {mg : Str → Option Value} {base : Heap}
variable {PE cB : Addr}

abbrev sQReadLot : Stmt := topS 22
theorem scQReadLot : FnScope ["text", "at", "signs", "marked", "sign"] ["text", "at"] (defScope sQReadLot) := ⟨rfl, rfl, rfl, by decide +kernel, rfl, by decide +kernel, by decide +kernel⟩
theorem ok_QReadLot {f : Addr} {fd : FuncData} (F : Fun K "_read_lot" "_read_lot" sQReadLot f fd) {t2 : Tok} (gML : mg "MARKED_IN_LOT" = some (.str "]\\" t2)) {tL : Tok} (gL : mg "MOST_IN_LOT" = some (.int 20 tL)) (EBadPattern : Cls1 K mg PE "BadPattern" "place" cB) {fPSign : Addr} {fdPSign : FuncData} (DPSign : Dk P w K mg base "is_sign" sPSign ["thing"] 2 spSign fPSign fdPSign) (T : Glob mg) : FnOk P w K mg base (L2.CX P w) 3 f fd ["text", "at"] (spRLot cB) := by
  refine F.okX scQReadLot (fun vs H Q E h => ?_) (fun cdv A outer s H vs Q E hr h => ?_)
  · obtain ⟨z, i, rfl, _⟩ := h
    rfl
  · refine ⟨_, (pss_cons (ps_set (i := 2) scQReadLot.nd rfl (.inl rfl) pe_str)
      (pss_cons (ps_while (passes_of rfl) (PW.pt (pw_or (pt_cmpR op_ne (pe_slice sl_str (pv 0) (po_some (pv 1)) (po_some (pe_op op_add (pv 1) pe_int))) pe_str (nomark _)) (pw_or1 (pt_cmpR op_eq (pv 2) pe_str (nomark _)))))
      (pss_cons (ps_set (i := 3) scQReadLot.nd rfl (.inl rfl) (pe_and (pe_cmpR op_eq (pe_slice sl_str (pv 0) (po_some (pv 1)) (po_some (pe_op op_add (pv 1) pe_int))) pe_str (nomark _)) (pe_and (pe_cmpR op_lt (pe_callB call_lenZ (by rfl) T.len PySem.boot_len (pa_cons (pv 2) pa_nil)) (pe_glob (v := .int 20) (by rfl) gL ⟨_, rfl⟩) (nomark _)) (pe_one (pe_cmpR op_lt_str (pe_slice sl_str (pv 2) (po_some (pe_un un_neg pe_int)) po_none) pe_str (nomark _))))))
        (pss_cons (ps_if (pt_val (pv 3))
        (pss_one (ps_aug (i := 1) scQReadLot.nd rfl (.inl rfl) pe_int ip_add))
        pss_nil)
        (pss_cons (ps_set (i := 4) scQReadLot.nd rfl (.inl rfl) (pe_slice sl_str (pv 0) (po_some (pv 1)) (po_some (pe_op op_add (pv 1) pe_int))))
        (pss_cons (ps_if (PW.pt (pw_or (pt_not (pt_val (pe_call DPSign.ok (hr.mono (by decide)) (by rfl) DPSign.g DPSign.F.kp DPSign.b .nil pass0 (pa_cons (pv 4) pa_nil)))) (pw_or1 (pt_cmpR op_ne (pv 3) (pe_cmpR op_inS (pv 4) (pe_glob (v := .str "]\\") (by rfl) gML ⟨_, rfl⟩) rfl) (nomark _)))))
        (pss_one (ps_raise rfl (takes_of rfl rfl rfl rfl) (pmk_c1 EBadPattern hr (pa_cons (pv 1) pa_nil) (hm := tCons1 (j := 0)))))
        pss_nil)
        (pss_cons (ps_if (PW.pt (pw_or (pt_cmpR op_eq (pe_callB call_lenZ (by rfl) T.len PySem.boot_len (pa_cons (pv 2) pa_nil)) (pe_glob (v := .int 20) (by rfl) gL ⟨_, rfl⟩) (nomark _)) (pw_or1 (pt_cmpR op_le_str (pv 4) (pe_slice sl_str (pv 2) (po_some (pe_un un_neg pe_int)) po_none) (nomark _)))))
        (pss_one (ps_raise rfl (takes_of rfl rfl rfl rfl) (pmk_c1 EBadPattern hr (pa_cons (pv 1) pa_nil) (hm := tCons1 (j := 0)))))
        pss_nil)
        (pss_cons (ps_aug (i := 2) scQReadLot.nd rfl (.inl rfl) (pv 4) ip_add_str)
        (pss_one (ps_aug (i := 1) scQReadLot.nd rfl (.inl rfl) pe_int ip_add)))))))))
      (pss_one (ps_ret (pe_tup (pa_cons (pe_tup (pa_cons pe_str (pa_cons (pv 2) pa_nil))) (pa_cons (pe_op op_add (pv 1) pe_int) pa_nil))))))), ?_⟩
    obtain ⟨z, i, rfl, hi, lz, rd, re⟩ := h
    have sz : sizeLine = 16777216 := sizeLine_eq
    have lcz := cod_len z
    refine ⟨fun m σ H' => ∃ (acc : List Nat) (j : Nat) (u3 u4 : Option V), m = z.length - j ∧ j ≤ z.length ∧ i ≤ j ∧ acc.length ≤ 20 ∧ σ = [some (.str z), some (.int (j : Nat)), some (.str (SX.S acc)), u3, u4] ∧ H = H' ∧ lotR [] ((cod z).drop i) = ((lotR acc ((cod z).drop j)).1, (lotR acc ((cod z).drop j)).2 + (j - i)), ⟨_, [], i, none, none, rfl, hi, Nat.le_refl i, by decide, rfl, rfl, by rw [Nat.sub_self]; rfl⟩, ?_⟩
    rintro m σ H' ⟨acc, j, u3, u4, rfl, hj, hij, la, rfl, rfl, inv⟩
    have raise : ∀ n, lotR acc ((cod z).drop j) = (none, n) → ∀ dx, H dx = none → E (.ref cB) (some dx) (upd H dx (.xd [("place", .int ((j + n : Nat) : Int))])) := fun n e dx nd => by
      have el : lotP ((cod z).drop i) = (none, n + (j - i)) := by
        unfold lotP
        rw [inv, e]
        rfl
      have := re dx H (by rw [el]) (Same.refl H) nd
      rw [el] at this
      have en : i + (n + (j - i)) = j + n := by omega
      have this : E (.ref cB) (some dx) (upd H dx (.xd [("place", .int ((i + (n + (j - i)) : Nat) : Int))])) := this
      rw [en] at this
      exact this
    have e1 : ((j : Nat) : Int) + 1 = ((j + 1 : Nat) : Int) := by omega
    by_cases hn : j < (cod z).length
    rotate_left
    · have ed : (cod z).drop j = [] := List.drop_of_length_le (by omega)
      rw [ed] at raise inv
      refine ⟨.str z, rfl, .int (j : Nat), rfl, _, rfl, .int (j : Nat), rfl, _, _, rfl, rfl, _, rfl, z, rfl, len5 (by omega), ?_⟩
      rw [cut_no (by rw [← cod_len]; omega)]
      refine ⟨rfl, _, rfl, ite2 (fun e => ?_) (fun e => absurd (show (!decide (V.str (Str.ofString "") = V.str (Str.ofString "]"))) = true by decide +kernel) e)⟩
      refine ⟨_, fun σ' H' w => w, ?_⟩
      refine ⟨.str z, rfl, .int (j : Nat), rfl, _, rfl, .int (j : Nat), rfl, _, _, rfl, rfl, _, rfl, z, rfl, len5 (by omega), ?_⟩
      rw [cut_no (by rw [← cod_len]; omega)]
      refine ⟨rfl, _, rfl, ?_⟩
      rw [show decide (V.str (Str.ofString "") = V.str (Str.ofString "\\")) = false by decide +kernel]
      refine iteF ?_
      refine ⟨.bl false, rfl, _, rfl, iteF ?_⟩
      refine ⟨.str z, rfl, .int (j : Nat), rfl, _, rfl, .int (j : Nat), rfl, _, _, rfl, rfl, _, rfl, z, rfl, len5 (by omega), ?_⟩
      rw [cut_no (by rw [← cod_len]; omega)]
      refine ⟨.str (Str.ofString ""), rfl, .str (Str.ofString ""), .str, rfl, .str _, (fun w e => by cases e; decide +kernel), _, rfl, ?_⟩
      rw [show signV (.str (Str.ofString "")) = false by decide +kernel]
      exact iteT ⟨.int (j : Nat), rfl, _, rfl, fun dx nd => raise 0 rfl dx nd⟩
    obtain ⟨c, hc⟩ : ∃ c, (cod z)[j]? = some c := ⟨_, List.getElem?_eq_getElem hn⟩
    have ed : (cod z).drop j = c :: (cod z).drop (j + 1) := by
      rw [List.drop_eq_getElem_cons hn]
      rw [List.getElem?_eq_getElem hn] at hc
      rw [Option.some.inj hc]
    rw [ed] at raise inv
    have dS : decide (V.str (SX.S acc) = V.str (Str.ofString "")) = decide (acc = []) := by
      rw [dec_str]
      refine decide_eq_decide.mpr ⟨fun e => ?_, fun e => ?_⟩
      · have := congrArg cod e
        rw [show cod (Str.ofString "") = [] by decide +kernel] at this
        exact this
      · rw [e]
        exact cod_inj (by rw [show cod (Str.ofString "") = [] by decide +kernel])
    by_cases hB : c = 93 ∧ acc ≠ []
    · obtain ⟨rfl, ne⟩ := hB
      have el : lotR acc (93 :: (cod z).drop (j + 1)) = (some acc, 1) := by
        rw [lotR_cons, if_pos rfl, if_neg ne]
      have er : lotP ((cod z).drop i) = (some (.lot acc), 1 + (j - i)) := by
        unfold lotP
        rw [inv, el]
        rfl
      refine ⟨.str z, rfl, .int (j : Nat), rfl, _, rfl, .int (j : Nat), rfl, _, _, rfl, rfl, _, rfl, z, rfl, len5 (by omega), ?_⟩
      rw [cut_one hc]
      refine ⟨rfl, _, rfl, ?_⟩
      rw [show (!decide (V.str (sn 93) = V.str (Str.ofString "]"))) = false by decide +kernel]
      refine iteF ⟨.str (SX.S acc), rfl, rfl, _, rfl, ?_⟩
      rw [dS, decide_eq_false ne]
      refine iteF ?_
      refine ⟨.str (SX.S acc), rfl, by show 2 ≤ sizeLine; rw [sz]; decide, fun t nt => ?_⟩
      have kt := Same.new (H := H) (o := .tup [.str "lot", .str (SX.S acc)]) nt
      refine ⟨.int (j : Nat), rfl, _, _, rfl, rfl, by show 2 ≤ sizeLine; rw [sz]; decide, fun u nu => ?_⟩
      have ku := Same.new (o := .tup [.ref t, .int (((j : Nat) : Int) + 1)]) nu
      rw [er] at rd
      refine rd u (.ref t) (.lot acc) _ rfl (kt.trans ku) (by rw [upd_same]; show _ = some (HO.tup [V.ref t, V.int ((i + (1 + (j - i)) : Nat) : Int)]); rw [show i + (1 + (j - i)) = j + 1 by omega]; rfl) ⟨t, rfl, ku _ _ upd_same⟩
    refine (?_ : ∀ Qk : Bool → Hp → Prop, Qk true H → tOr _ _ _ H Qk) _ ?_
    · intro Qk kk
      refine ⟨.str z, rfl, .int (j : Nat), rfl, _, rfl, .int (j : Nat), rfl, _, _, rfl, rfl, _, rfl, z, rfl, len5 (by omega), ?_⟩
      rw [cut_one hc]
      refine ⟨rfl, _, rfl, ite2 (fun e => kk) (fun e => ?_)⟩
      have h93 : c = 93 := by
        have e : (!decide (V.str (sn c) = V.str (Str.ofString "]"))) = false := by simpa using e
        have e : decide (V.str (sn c) = V.str (Str.ofString "]")) = true := by simpa using e
        rw [rb_sn, sn_inj] at e
        exact of_decide_eq_true e
      refine ⟨.str (SX.S acc), rfl, rfl, _, rfl, ?_⟩
      rw [dS, decide_eq_true (Classical.byContradiction fun ne => hB ⟨h93, ne⟩)]
      exact kk
    refine ⟨_, fun σ' H' w => w, ?_⟩
    obtain ⟨mk, emk⟩ : ∃ mk : Bool, mk = (decide (c = 92) && (decide (acc.length < 20) && decide (lastN acc < 93))) := ⟨_, rfl⟩
    refine (?_ : ∀ R : V → Hp → Prop, R (.bl mk) H → tAndV _ _ _ H R) _ ?_
    · intro R kk
      refine ⟨.str z, rfl, .int (j : Nat), rfl, _, rfl, .int (j : Nat), rfl, _, _, rfl, rfl, _, rfl, z, rfl, len5 (by omega), ?_⟩
      rw [cut_one hc]
      refine ⟨rfl, _, rfl, ?_⟩
      rw [show decide (V.str (sn c) = V.str (Str.ofString "\\")) = decide (c = 92) by rw [bs_sn, sn_inj]]
      cases h : decide (c = 92) with
      | false =>
        rw [h] at emk
        rw [emk] at kk
        exact iteF kk
      | true =>
        rw [h, Bool.true_and] at emk
        refine iteT ⟨.str (SX.S acc), rfl, _, rfl, len5 (by show acc.length ≤ 5000; omega), _, _, rfl, rfl, _, rfl, ?_⟩
        rw [show decide (((SX.S acc).length : Int) < 20) = decide (acc.length < 20) from decide_eq_decide.mpr (by show ((acc.length : Nat) : Int) < 20 ↔ _; omega)]
        cases h2 : decide (acc.length < 20) with
        | false =>
          rw [h2] at emk
          rw [emk] at kk
          exact iteF kk
        | true =>
          rw [h2, Bool.true_and] at emk
          refine iteT ⟨.str (SX.S acc), rfl, _, rfl, _, rfl, SX.S acc, rfl, len5 (by show acc.length ≤ 5000; omega), _, _, rfl, rfl, ?_⟩
          rw [cut_last, show (Str.ofString "]").cps.toList = [93] from (by decide +kernel : cod (Str.ofString "]") = [93]), lastL_lt acc (by decide), ← emk]
          exact kk
    dsimp only [gName]
    cases mk with
    | false =>
      refine ⟨.bl false, rfl, _, rfl, iteF ?_⟩
      refine ⟨.str z, rfl, .int (j : Nat), rfl, _, rfl, .int (j : Nat), rfl, _, _, rfl, rfl, _, rfl, z, rfl, len5 (by omega), ?_⟩
      rw [cut_one hc]
      refine ⟨.str (sn c), rfl, .str (sn c), .str, rfl, .str _, (fun w e => by cases e; show 1 ≤ 5000; decide), _, rfl, ?_⟩
      rw [sign_sn]
      cases hs : sgC c with
      | false =>
        refine iteT ⟨.int (j : Nat), rfl, _, rfl, fun dx nd => raise 0 ?_ dx nd⟩
        rw [lotR_cons, if_neg (fun e => by rw [e] at hs; exact absurd hs (by decide)), if_pos (.inl hs)]
      | true =>
        refine iteF ⟨.bl false, rfl, .str (sn c), rfl, c, _, rfl, rfl, rfl, _, rfl, ?_⟩
        rw [show (Str.ofString "]\\").cps.toList = [93, 92] from (by decide +kernel : cod (Str.ofString "]\\") = [93, 92])]
        by_cases hm : c ∈ [93, 92]
        · rw [decide_eq_true hm]
          refine iteT ⟨.int (j : Nat), rfl, _, rfl, fun dx nd => raise 0 ?_ dx nd⟩
          rw [lotR_cons]
          by_cases h93 : c = 93
          · rw [if_pos h93, if_pos (Classical.byContradiction fun ne => hB ⟨h93, ne⟩)]
          have h92 : c = 92 := by simpa [h93] using hm
          rw [if_neg h93]
          by_cases l20 : acc.length = 20
          · rw [if_pos (.inr l20)]
          rw [if_neg (by rintro (h | h); rw [hs] at h; cases h; exact l20 h), if_pos h92]
          rw [h92, decide_eq_true rfl, Bool.true_and, decide_eq_true (by omega), Bool.true_and] at emk
          rw [if_pos (by have := of_decide_eq_false emk.symm; omega)]
        rw [decide_eq_false hm]
        have h93 : c ≠ 93 := fun e => hm (by rw [e]; decide)
        have h92 : c ≠ 92 := fun e => hm (by rw [e]; decide)
        have np : acc.length ≠ 20 → ¬ (sgC c = false ∨ acc.length = 20) := fun h e => e.elim (fun z => by rw [hs] at z; cases z) h
        refine iteF ⟨.str (SX.S acc), rfl, _, rfl, len5 (by show acc.length ≤ 5000; omega), rfl, _, rfl, ?_⟩
        rw [show decide (V.int ((SX.S acc).length : Int) = V.int 20) = decide (acc.length = 20) by rw [dec_int]; exact decide_eq_decide.mpr (by show ((acc.length : Nat) : Int) = 20 ↔ _; omega)]
        refine ite2 (fun l20 => ?_) (fun l20 => ?_)
        · refine ⟨.int (j : Nat), rfl, _, rfl, fun dx nd => raise 0 ?_ dx nd⟩
          rw [lotR_cons, if_neg h93, if_pos (.inr (of_decide_eq_true l20))]
        have l20 : ¬ acc.length = 20 := fun h => l20 (decide_eq_true h)
        refine ⟨.str (sn c), rfl, .str (SX.S acc), rfl, _, rfl, _, rfl, SX.S acc, rfl, len5 (by show acc.length ≤ 5000; omega), _, _, rfl, rfl, _, rfl, ?_⟩
        rw [cut_last, show (sn c).cps.toList = [c] from rfl, lastL_lt acc (sg_pos hs)]
        by_cases lt : lastN acc < c
        rotate_left
        · rw [decide_eq_false lt]
          refine iteT ⟨.int (j : Nat), rfl, _, rfl, fun dx nd => raise 0 ?_ dx nd⟩
          rw [lotR_cons, if_neg h93, if_neg (np l20), if_neg h92, if_neg lt]
        rw [decide_eq_true lt]
        refine iteF ⟨.str (SX.S acc), rfl, .str (sn c), rfl, _, _, rfl, rfl, (by rw [sz]; show acc.length + 1 ≤ _; omega), ?_⟩
        refine ⟨.int (j : Nat), rfl, _, _, rfl, rfl, z.length - (j + 1), by omega, acc ++ [c], j + 1, some (.bl false), some (.str (sn c)), rfl, by omega, by omega, (by rw [List.length_append]; show acc.length + 1 ≤ 20; omega), (by rw [app_sn]; rfl), rfl, ?_⟩
        rw [inv, lotR_cons, if_neg h93, if_neg (np l20), if_neg h92, if_pos lt]
        show (_, _ + 1 + (j - i)) = (_, _ + (j + 1 - i))
        rw [show j + 1 - i = 1 + (j - i) by omega, Nat.add_assoc]
      
    | true =>
      obtain ⟨m1, m2⟩ := Bool.and_eq_true_iff.mp emk.symm
      obtain ⟨m2, m3⟩ := Bool.and_eq_true_iff.mp m2
      have m1 := of_decide_eq_true m1
      have m2 := of_decide_eq_true m2
      have m3 := of_decide_eq_true m3
      subst m1
      refine ⟨.bl true, rfl, _, rfl, iteT ⟨.int (j : Nat), rfl, _, _, rfl, rfl, ?_⟩⟩
      dsimp only
      rw [e1]
      by_cases hn2 : j + 1 < (cod z).length
      rotate_left
      · have ed2 : (cod z).drop (j + 1) = [] := List.drop_of_length_le (by omega)
        rw [ed2] at raise
        refine ⟨.str z, rfl, .int ((j + 1 : Nat) : Int), rfl, _, rfl, .int ((j + 1 : Nat) : Int), rfl, _, _, rfl, rfl, _, rfl, z, rfl, len5 (by omega), ?_⟩
        rw [cut_no (by rw [← cod_len]; omega)]
        refine ⟨.str (Str.ofString ""), rfl, .str (Str.ofString ""), .str, rfl, .str _, (fun w e => by cases e; decide +kernel), _, rfl, ?_⟩
        rw [show signV (.str (Str.ofString "")) = false by decide +kernel]
        refine iteT ⟨.int ((j + 1 : Nat) : Int), rfl, _, rfl, fun dx nd => raise 1 ?_ dx nd⟩
        rw [lotR_cons, if_neg (by decide), if_neg (by rintro (h | h); exact absurd h (by decide); omega), if_pos rfl, if_neg (by omega)]
      · obtain ⟨d, hd⟩ : ∃ d, (cod z)[j + 1]? = some d := ⟨_, List.getElem?_eq_getElem hn2⟩
        have ed2 : (cod z).drop (j + 1) = d :: (cod z).drop (j + 1 + 1) := by
          rw [List.drop_eq_getElem_cons hn2]
          rw [List.getElem?_eq_getElem hn2] at hd
          rw [Option.some.inj hd]
        rw [ed2] at raise inv
        have lotR_mark : lotR acc (92 :: d :: (cod z).drop (j + 1 + 1)) = if (d = 93 ∨ d = 92) ∧ lastN acc < d then ((lotR (acc ++ [d]) ((cod z).drop (j + 1 + 1))).1, (lotR (acc ++ [d]) ((cod z).drop (j + 1 + 1))).2 + 2) else (none, 1) := by
          rw [lotR_cons, if_neg (by decide), if_neg (by rintro (h | h); exact absurd h (by decide); omega), if_pos rfl, if_neg (by omega)]
        refine ⟨.str z, rfl, .int ((j + 1 : Nat) : Int), rfl, _, rfl, .int ((j + 1 : Nat) : Int), rfl, _, _, rfl, rfl, _, rfl, z, rfl, len5 (by omega), ?_⟩
        rw [cut_one hd]
        refine ⟨.str (sn d), rfl, .str (sn d), .str, rfl, .str _, (fun w e => by cases e; show 1 ≤ 5000; decide), _, rfl, ?_⟩
        rw [sign_sn]
        cases hs : sgC d with
        | false =>
          refine iteT ⟨.int ((j + 1 : Nat) : Int), rfl, _, rfl, fun dx nd => raise 1 ?_ dx nd⟩
          rw [lotR_mark, if_neg (fun e => by rcases e.1 with h | h <;> rw [h] at hs <;> exact absurd hs (by decide))]
        | true =>
          refine iteF ⟨.bl true, rfl, .str (sn d), rfl, d, _, rfl, rfl, rfl, _, rfl, ?_⟩
          rw [show (Str.ofString "]\\").cps.toList = [93, 92] from (by decide +kernel : cod (Str.ofString "]\\") = [93, 92])]
          by_cases hm : d ∈ [93, 92]
          rotate_left
          · rw [decide_eq_false hm]
            refine iteT ⟨.int ((j + 1 : Nat) : Int), rfl, _, rfl, fun dx nd => raise 1 ?_ dx nd⟩
            rw [lotR_mark, if_neg (fun e => hm (by rcases e.1 with h | h <;> rw [h] <;> decide))]
          rw [decide_eq_true hm]
          have hm' : d = 93 ∨ d = 92 := by simpa using hm
          refine iteF ⟨.str (SX.S acc), rfl, _, rfl, len5 (by show acc.length ≤ 5000; omega), rfl, _, rfl, ?_⟩
          rw [show decide (V.int ((SX.S acc).length : Int) = V.int 20) = decide (acc.length = 20) by rw [dec_int]; exact decide_eq_decide.mpr (by show ((acc.length : Nat) : Int) = 20 ↔ _; omega)]
          refine ite2 (fun l20 => ?_) (fun l20 => ?_)
          · exact absurd (of_decide_eq_true l20) (by omega)
          have l20 : ¬ acc.length = 20 := fun h => l20 (decide_eq_true h)
          refine ⟨.str (sn d), rfl, .str (SX.S acc), rfl, _, rfl, _, rfl, SX.S acc, rfl, len5 (by show acc.length ≤ 5000; omega), _, _, rfl, rfl, _, rfl, ?_⟩
          rw [cut_last, show (sn d).cps.toList = [d] from rfl, lastL_lt acc (sg_pos hs)]
          by_cases lt : lastN acc < d
          rotate_left
          · rw [decide_eq_false lt]
            refine iteT ⟨.int ((j + 1 : Nat) : Int), rfl, _, rfl, fun dx nd => raise 1 ?_ dx nd⟩
            rw [lotR_mark, if_neg (fun e => lt e.2)]
          rw [decide_eq_true lt]
          refine iteF ⟨.str (SX.S acc), rfl, .str (sn d), rfl, _, _, rfl, rfl, (by rw [sz]; show acc.length + 1 ≤ _; omega), ?_⟩
          refine ⟨.int ((j + 1 : Nat) : Int), rfl, _, _, rfl, rfl, z.length - ((j + 1) + 1), by omega, acc ++ [d], (j + 1) + 1, some (.bl true), some (.str (sn d)), rfl, by omega, by omega, (by rw [List.length_append]; show acc.length + 1 ≤ 20; omega), (by rw [app_sn]; rfl), rfl, ?_⟩
          rw [inv, lotR_mark, if_pos ⟨hm', lt⟩]
          exact Prod.ext rfl (by show _ + 2 + (j - i) = _ + (j + 1 + 1 - i); omega)
        

end
end LawK
set_option maxHeartbeats 4000000
/-! A text read from its end. -/
namespace Ev
open PySem PySem.Spec PyProof.Rows L2
def revC (z : Str) : List Nat := (List.range z.length).map fun k => z.cps.getD (z.length - 1 - k) 0
def revZ (z : Str) : Str := SX.S (revC z)
theorem rev_pick (z : Str) : (Builtin.Str.strSliceIndices none none (-1) z.length).filterMap (z.cps[·]?) = revC z := by
  rw [picked_rev, filterMap_get, List.map_map]
  · rfl
  · intro i hi
    obtain ⟨k, hk, rfl⟩ := List.mem_map.mp hi
    have hk' := List.mem_range.mp hk
    show z.length - 1 - k < z.length
    omega
theorem revC_len (z : Str) : (revC z).length = z.length := by
  unfold revC
  rw [List.length_map, List.length_range]
theorem revZ_len (z : Str) : (revZ z).length = z.length := (SX.S_len _).trans (revC_len z)
theorem revC_mem {z : Str} {c : Nat} (h : c ∈ revC z) : c ∈ z.cps.toList := by
  obtain ⟨k, hk, rfl⟩ := List.mem_map.mp h
  have hk' := List.mem_range.mp hk
  have hi : z.length - 1 - k < z.cps.size := by
    show z.length - 1 - k < z.length
    omega
  have e : z.cps.getD (z.length - 1 - k) 0 = z.cps[z.length - 1 - k] := by simp [Array.getD, hi]
  rw [e]
  exact Array.getElem_mem_toList hi
theorem sgB_rev {z : Str} (h : sgB z = true) : sgB (revZ z) = true := List.all_eq_true.mpr fun c hc => sgB_mem h (revC_mem hc)
def tRevS (te : TE) : TE := fun σ H Q => te σ H fun x H1 => ∃ z : Str, x = .str z ∧ z.length ≤ sizeLine ∧ Q (.str (revZ z)) H1
theorem pe_revS {X : Cx} {e : Expr} {te : TE} {k : Nat} {p1 p2 p3 pos : Pos} (he : PE X e te) :
    PE X (.Subscript e (.Slice none none (some (.UnaryOp .USub (.Constant (.int 1) k p1) p2)) p3) pos) (tRevS te) := by
  constructor
  intro pins s σ H Q I h
  apply Subscript_
  refine thn (he.run pins s σ H _ I h) ?_
  rintro v s1 ⟨x, H1, I1, r1, z, rfl, hz, q⟩
  obtain ⟨t, rfl⟩ := r1
  have hst : PO X (some (.UnaryOp .USub (.Constant (.int 1) k p1) p2)) _ := po_some (pe_un un_neg pe_int)
  apply wpAny_Slice
  refine thn (po_none.run pins s1 σ H1 (fun o H2 => o = none ∧ H2 = H1) I1 ⟨rfl, rfl⟩) ?_
  rintro vl s2 ⟨l, H2, I2, pl, rfl, rfl⟩
  refine thn (po_none.run pins s2 σ _ (fun o H3 => o = none ∧ H3 = H2) I2 ⟨rfl, rfl⟩) ?_
  rintro vu s3 ⟨u, H3, I3, pu, rfl, rfl⟩
  refine thn (hst.run pins s3 σ _ (fun o H4 => o = some (-1) ∧ H4 = H3) I3 ⟨1, rfl, -1, rfl, rfl, rfl⟩) ?_
  rintro vs s4 ⟨o, H4, I4, pz, rfl, rfl⟩
  have I5 := I4.kept (t' := s4.toks) (h' := s4.heap.push { cls := .type "slice", data := .fields #[vl, vu, vs] }) fun b ob g => Heap.get?_push_of_some _ g
  obtain ⟨l', rfl, el⟩ := IsPart.raw pl
  obtain ⟨u', rfl, eu⟩ := IsPart.raw pu
  obtain ⟨w', rfl, ew⟩ := IsPart.raw pz
  refine tail_any (ops := [.str z t, .ref s4.heap.objs.size]) (typeIs_str _ _ _) F.slot_str_getitem.lookup ?_ (by with_unfolding_all rfl)
  have e1 : ((w'.map (·.1)).getD 1 == 1) = false := by rw [ew]; rfl
  have e0 : ((w'.map (·.1)).getD 1 == 0) = false := by rw [ew]; rfl
  refine wpAny_getItem_str_slice (l := l') (u := u') (st := w') (Heap.IsSliceOf.new ..) e0 ?_
  have em : sliceMade z t l' u' w' = Made.str (revZ z) := by
    unfold sliceMade
    rw [e1, Bool.false_and, if_neg (by decide)]
    have e2 : slicePicked z l' u' w' = Builtin.Str.strSliceIndices none none (-1) z.length := by
      unfold slicePicked
      rw [el, eu, ew]
      rfl
    rw [e2, rev_pick]
    rfl
  rw [em]
  refine ⟨?_, .str (revZ z), H4, I5.tok _, ⟨_, rfl⟩, q⟩
  rw [revZ_len]
  exact hz
end Ev
set_option maxHeartbeats 4000000
/-! Objects of an own class, made where the making may raise; == by an own __eq__, with anything. -/
namespace Ev
open PySem PySem.Spec PyProof.Rows L2
section
variable {X : Cx} {CX : CXT} {k : Nat} {f C : Addr} {fd : FuncData} {ps : List Str} {sp : Sp} {x : Str} {p pos : Pos} {e : Expr} {es : List Expr} {t : TA}
theorem run_mkAt {pins : List (Addr × Obj)} {σ : L2.St} {H : Hp} {s : Shared} {Q : VK} {us : List Value} {vs : List V} {E : XK} (M : Mk X.K C f) (F : FnOk X.prog X.w X.K X.mg X.base CX k f fd ps sp) (hr : Room (k + 1) X.A) (hb : Binds X.K fd ps []) (hx : PassesAt CX X σ E) (I : Inv X pins σ H s) (r : Vals vs us)
    (h : ∀ a dx, H a = none → H dx = none → dx ≠ a → sp (.ref a :: vs) (upd (upd H dx (.own a)) a (.ins C dx [])) (fun v H2 => v = .non ∧ Q (.ref a) H2) E) :
    wpAny (model X.prog X.w) X.A (call (.ref C) us) (EP X pins σ Q) X.xe s := by
  have q := h (s.heap.objs.size + 1) s.heap.objs.size (I.hok.fresh (Nat.le_succ _)) (I.hok.fresh (Nat.le_refl _)) (Nat.ne_of_lt (Nat.lt_succ_self _))
  have J := Inv.made (C := C) I
  have rv : Vals (V.ref (s.heap.objs.size + 1) :: vs) (Value.ref (s.heap.objs.size + 1) :: us) := .cons rfl r
  have len := F.len _ _ _ _ q
  have lu : (Value.ref (s.heap.objs.size + 1) :: us ++ []).length = ps.length := by
    rw [List.append_nil, ← rv.length]
    exact len
  have bnd := hb _ (Value.ref (s.heap.objs.size + 1) :: us) J.kIn lu
  rw [List.append_nil] at bnd
  have go := F.run _ X.stack _ _ ⟨Value.ref (s.heap.objs.size + 1) :: us, []⟩ (Value.ref (s.heap.objs.size + 1) :: us) _ _ E (hr.make C us []) (J.env0.make C us []) bnd rv q
  refine wpAny_call (make_map (f := f) I.kIn M.makes M.init (beq_iff_eq.mp M.fn) (codeAny_mono go ?_))
  intro res s' got
  match res, got with
  | .error er, got => exact hx pins _ _ er s' J got
  | .ok (.ret u), got =>
    obtain ⟨v, H', I3, ru, rfl, q3⟩ := J.after got
    exact ⟨ru, ⟨V.ref (s.heap.objs.size + 1), H', I3, rfl, q3⟩⟩
  | .ok .next, got => exact got.elim
  | .ok .brk, got => exact got.elim
  | .ok .cont, got => exact got.elim
def tMkS (C : Addr) (sp : Sp) (E : L2.St → XK) (t : TA) : TE := fun σ H Q => t σ H fun vs H1 => ∀ a dx, H1 a = none → H1 dx = none → dx ≠ a →
  sp (.ref a :: vs) (upd (upd H1 dx (.own a)) a (.ins C dx [])) (fun v H2 => v = .non ∧ Q (.ref a) H2) (E σ)
theorem pe_mkS {E : L2.St → XK} (M : Mk X.K C f) (F : FnOk X.prog X.w X.K X.mg X.base CX k f fd ps sp) (hr : Room (k + 1) X.A) (hg : Gl X x) (hm : X.mg x = some (.ref C)) (hb : Binds X.K fd ps []) (hx : ∀ σ, PassesAt CX X σ (E σ)) (ha : PA X (e :: es) t)
    (hdb : (x == ("__debug__" : Str)) = false := by decide) (he : starEach (e :: es) X.env = (false, eval e X.env) :: starEach es X.env := by rfl) (hpl : (backTo pos (starEach es X.env)).any (·.1) = false := by rfl) :
    PE X (.Call (.Name x p) (e :: es) [] pos) (tMkS C sp E t) := by
  constructor
  intro pins s σ H Q I h
  refine wpAny_Call_Name_kw (ld_glob I hg hm ?_ hdb)
  refine PySem.W.callWith_K (h₀ := X.base) I.ok.mod.kin M.kp (thn (ha.run pos pins s σ H _ I h) ?_) he hpl
  rintro us s1 ⟨vs, H1, I1, r, q⟩
  exact ⟨I1.kIn, run_mkAt M F hr hb (hx σ) I1 r q⟩
theorem passL_at (σ : L2.St) : PassesAt (L2.CX X.prog X.w) X σ E0 := fun pins H s e s' I h => passL pins σ H s e s' I h
/-- x == y, x an object of the class at C -/
def rEqO (C : Addr) (K : PySem.W.Frag) (sp : Sp) (E : XK) : R2 := fun x y H Q => ∃ a dx fs t, x = .ref a ∧ H a = some (.ins C dx fs) ∧ TyX K H y t ∧ PySem.W.notFirst K C t = true ∧ sp [x, y] H (fun v H' => (∃ b, v = .bl b) ∧ Q v H') E
theorem op_eqO {E : XK} (F : FnOk X.prog X.w X.K X.mg X.base CX k f fd ps sp) (hs : PySem.W.findIn X.K (.ref C) "__eq__" = some (some (.ref f))) (hf : PySem.W.isFn X.K (.ref f) = true) (hb : Binds X.K fd ps []) (hx : Passes CX X E) (hr : Room k X.A) : OpR X (compareOp .Eq) (rEqO C X.K sp E) := by
  intro pins s σ H x y v u Q I rx ry h
  obtain ⟨a, dx, fs, t, rfl, ha, ty, nf, q⟩ := h
  cases rx
  obtain ⟨mA, J, _⟩ := ins_get I.hok ha
  obtain ⟨od, J, _⟩ := J.look
  obtain ⟨m, hF⟩ := I.fr
  obtain ⟨P, Z, hp, _⟩ := kit_of I ry ty
  show wpAny (model X.prog X.w) X.A (richCompare .Eq _ u) (EP X pins σ Q) X.xe s
  refine PySem.W.cmp_K (op := .Eq) (tb := t) hr.units0 hF I.ok.mod.kin J (Z.ty _ _ I.kIn hp) nf hs hf ?_
  have len := F.len _ _ _ _ q
  have rv : Vals [V.ref a, y] [Value.ref a, u] := .cons rfl (.cons ry .nil)
  have bnd := hb s [Value.ref a, u] I.kIn (by simpa using len)
  have go := F.run X.A X.stack s H ⟨[Value.ref a, u], []⟩ [Value.ref a, u] [V.ref a, y] _ E hr I.env0 (by simpa using bnd) rv q
  refine wpAny_call (codeAny_mono go ?_)
  intro res s' got
  match res, got with
  | .error er, got => exact hx pins σ H s er s' I got
  | .ok (.ret w), got =>
    obtain ⟨z, H', I', rz, ⟨b, rfl⟩, q'⟩ := I.after got
    cases rz
    exact ⟨.bl b, H', I', rfl, q'⟩
  | .ok .next, got => exact got.elim
  | .ok .brk, got => exact got.elim
  | .ok .cont, got => exact got.elim
end
end Ev
set_option maxHeartbeats 4000000
/-! Tuples of texts as data. -/
namespace Ev
open PySem PySem.Spec PyProof.Rows L2
theorem dp_strs {K : PySem.W.Frag} {H : Hp} : ∀ ts : List Str, DpAll K H (ts.map V.str) (ts.map PyData.str)
  | [] => .nil
  | t :: ts => .cons (.str t) (dp_strs ts)
theorem eqv_strs : ∀ ts us : List Str, PyData.eqvAll (ts.map PyData.str) (us.map PyData.str) = decide (ts = us)
  | [], [] => by rw [decide_eq_true rfl]; rfl
  | [], u :: us => by rw [decide_eq_false (by simp)]; rfl
  | t :: ts, [] => by rw [decide_eq_false (by simp)]; rfl
  | t :: ts, u :: us => by
    show (PyData.eqv (.str t) (.str u) && PyData.eqvAll (ts.map PyData.str) (us.map PyData.str)) = _
    rw [eqv_strs ts us]
    show ((t == u) && _) = _
    by_cases e : t = u
    · subst e
      by_cases e2 : ts = us
      · subst e2
        simp
      · simp [e2]
    · have : (t == u) = false := by simpa using e
      rw [this, Bool.false_and, decide_eq_false fun z => e (by injection z)]
theorem strOk_sg {t : Str} (h : sgB t = true) : PyData.strOk t = true := by
  have g : ∀ c ∈ t.cps.toList, c ≤ 126 := fun c hc => by
    have := sgB_mem h hc
    unfold sgC at this
    exact of_decide_eq_true (Bool.and_eq_true_iff.mp this).2
  show t.cps.all (· < 0x110000) = true
  rw [← Array.all_toList, List.all_eq_true]
  intro c hc
  have := g c hc
  exact decide_eq_true (by omega)
theorem shaped_strs {ts : List Str} (h : ∀ t ∈ ts, sgB t = true) : SeqAt.shaped (.tuple (ts.map PyData.str)) = true := by
  have h1 : ∀ us : List Str, (∀ t ∈ us, sgB t = true) → PyData.canLayAll0 (us.map PyData.str) = true := fun us hu => by
    induction us with
    | nil => rfl
    | cons u us ih =>
      show (PyData.strOk u && PyData.canLayAll0 (us.map PyData.str)) = true
      rw [strOk_sg (hu u (by simp)), ih fun t ht => hu t (List.mem_cons_of_mem _ ht)]
      rfl
  have h2 : ∀ us : List Str, PyData.depthAll (us.map PyData.str) ≤ 1 := fun us => by
    induction us with
    | nil => exact Nat.zero_le _
    | cons u us ih =>
      simp only [List.map_cons, PyData.depthAll, PyData.depth]
      omega
  unfold SeqAt.shaped
  have a : (PyData.tuple (ts.map PyData.str)).canLay0 = true := h1 ts h
  have b : (PyData.tuple (ts.map PyData.str)).depth ≤ 64 := by
    have := h2 ts
    simp only [PyData.depth]
    omega
  rw [a, decide_eq_true b]
  rfl
end Ev
set_option maxHeartbeats 4000000
namespace LawK
open PySem PySem.Spec PyProof.Rows L2 Ev

def rSt1 : V → List V → Hp → VK → Prop := fun x xs H Q => ∃ a b, x = .str a ∧ xs = [.str b] ∧ Q (.bl (Txt.startswith a b)) H
theorem mt_st1 {X : Cx} : MtR X "str.startswith" rSt1 := mt_startswith
def rAddS : R2 := fun x y H Q => ∃ i j, x = .str i ∧ y = .str j ∧ i.length + j.length ≤ sizeLine ∧ Q (.str (i ++ j)) H
theorem op_addS {X : Cx} : OpR X (binaryOp .Add) rAddS := op_add_str
theorem starts_pre (x y : Str) : Txt.startswith x y = (cod y).isPrefixOf (cod x) := by
  unfold Txt.startswith
  refine Bool.eq_iff_iff.mpr ?_
  rw [Bool.and_eq_true_iff, decide_eq_true_iff, List.isPrefixOf_iff_prefix, subAt_iff, List.drop_zero]
  constructor
  · rintro ⟨_, e⟩
    have e : (cod x).take y.length = cod y := e
    rw [← e]
    exact List.take_prefix _ _
  · intro p
    have l := p.length_le
    rw [cod_len, cod_len] at l
    refine ⟨by omega, ?_⟩
    rw [← cod_len y]
    exact (List.prefix_iff_eq_take.mp p).symm
theorem shn_all : ∀ l, l ≤ 20 → SeqAt.shaped (.list (((List.range' l (21 - l)).map fun n : Nat => numZ (n : Int)).map PyData.str)) = true := fun l h => by
  have q : (List.range 21).all (fun l => SeqAt.shaped (.list (((List.range' l (21 - l)).map fun n : Nat => numZ (n : Int)).map PyData.str))) = true := by decide +kernel
  exact List.all_eq_true.mp q l (List.mem_range.mpr (by omega))
theorem sh_str {z : Str} (h : PyData.strOk z = true) : SeqAt.shaped (.str z) = true := by
  show (PyData.strOk z && decide (PyData.depth (.str z) ≤ 64)) = true
  rw [h]
  rfl
theorem dp_strs {K : PySem.W.Frag} {H : Hp} : ∀ zs : List Str, DpAll K H (zs.map V.str) (zs.map PyData.str)
  | [] => .nil
  | z :: zs => .cons (.str z) (dp_strs zs)
theorem room1 {k : Nat} {A : Around} (r : Room k A) : A.units + 65 < cLine := by have := r.un; omega
def RdN (H : Hp) (cB : Addr) (i : Nat) (R : Option Nat × Nat) (Q : VK) (E : XK) : Prop :=
  (∀ t a H', R.1 = some a → Same H H' → H' t = some (.tup [.int (a : Nat), .int ((i + R.2 : Nat) : Int)]) → Q (.ref t) H') ∧
  (∀ d H', R.1 = none → Same H H' → H' d = none → E (.ref cB) (some d) (upd H' d (.xd [("place", .int ((i + R.2 : Nat) : Int))])))
def spRBound (cB : Addr) : Sp := fun vs H Q E => ∃ (z : Str) (i l cl : Nat), vs = [.str z, .int (i : Nat), .int (l : Nat), .str (sn cl)] ∧ i ≤ z.length ∧ z.length ≤ 2000 ∧ l ≤ 20 ∧ (cl = 44 ∨ cl = 125) ∧ RdN H cB i (bndR l cl ((cod z).drop i)) Q E
section
variable {P : Program} {w : World} {K : PySem.W.Frag} {mg : Str → Option Value} {base : Heap}
variable {PE cB : Addr}

abbrev sQReadBound : Stmt := topS 23
theorem scQReadBound : FnScope ["text", "at", "least", "close", "bounds", "figures", "number", "bound"] ["text", "at", "least", "close"] (defScope sQReadBound) := ⟨rfl, rfl, rfl, by decide +kernel, rfl, by decide +kernel, by decide +kernel⟩
theorem ok_QReadBound {f : Addr} {fd : FuncData} (F : Fun K "_read_bound" "_read_bound" sQReadBound f fd) {tG : Tok} (gG : mg "MOST_GAP" = some (.int 20 tG)) (EBadPattern : Cls1 K mg PE "BadPattern" "place" cB)  (T : Glob mg) : FnOk P w K mg base (L2.CX P w) 3 f fd ["text", "at", "least", "close"] (spRBound cB) := by
  refine F.okX scQReadBound (fun vs H Q E h => ?_) (fun cdv A outer s H vs Q E hr h => ?_)
  · obtain ⟨z, i, l, cl, rfl, _⟩ := h
    rfl
  · refine ⟨_, (pss_cons (ps_setLc (i := 4) (own := [("number", 6)]) (g := gName 6) (by rfl) scQReadBound.nd rfl rfl (sw_true rfl rfl rfl (by decide +kernel)) (pi_range2 (by rfl) T.range (pa_cons (pv 2) (pa_cons (pe_op op_add (pe_glob (v := .int 20) (by rfl) gG ⟨_, rfl⟩) pe_int) pa_nil))) (blkOk_by (N := ["text", "at", "least", "close", "bounds", "figures", "number", "bound"]) (sc := defScope sQReadBound) (by decide +kernel)) (fun _ _ _ _ _ => pg_name (i := 6) scQReadBound.nd rfl (.inl rfl)) (fun _ _ _ _ _ => pts_nil) (fun _ _ _ _ _ => (pe_callTy call_str_int (by rfl) T.str (by decide +kernel) (pa_cons (pv 6) pa_nil))))
      (pss_cons (ps_set (i := 5) scQReadBound.nd rfl (.inr rfl) pe_str)
      (pss_cons (ps_while (passes_of rfl) (PW.pt (pw_and (pt_cmpR op_lt (pv 1) (pe_callB call_lenZ (by rfl) T.len PySem.boot_len (pa_cons (pv 0) pa_nil)) (nomark _)) (pw_and1 (pt_val (pe_callB (cr_any rfl) (by rfl) T.any (by decide +kernel) (pa_cons (pe_lc (own := [("bound", 7)]) (g := gName 7) (by rfl) scQReadBound.nd (pi_list (pv 4)) (blkOk_by (N := ["text", "at", "least", "close", "bounds", "figures", "number", "bound"]) (sc := defScope sQReadBound) (by decide +kernel)) (fun _ _ _ _ _ => pg_name (i := 7) scQReadBound.nd rfl (.inl rfl)) (fun _ _ _ _ _ => pts_nil) (fun _ _ _ _ _ => (show L2.PE _ _ (tBM K "str" rSt1 (tVar 7) (tCons (tOp rAddS (tVar 5) (tOp rIxS (tVar 0) (tVar 1))) tNil)) from pe_bm PySem.F.plainAttrs_str PySem.F.slot_str_startswith PySem.F.type_str_startswith mt_st1 (pv 7) (pa_cons (pe_op op_addS (pv 5) (pe_ix ix_str (pv 0) (pv 1) (fun _ _ => rfl))) pa_nil)))) pa_nil))))))
      (pss_cons (ps_aug (i := 5) scQReadBound.nd rfl (.inr rfl) (pe_ix ix_str (pv 0) (pv 1) (fun _ _ => rfl)) ip_add_str)
        (pss_one (ps_aug (i := 1) scQReadBound.nd rfl (.inr rfl) pe_int ip_add))))
      (pss_cons (ps_if (PW.pt (pw_or (pt_cmpR (op_notInD (room1 hr)) (pv 5) (pv 4) rfl) (pw_or1 (pt_cmpR op_ne (pe_slice sl_str (pv 0) (po_some (pv 1)) (po_some (pe_op op_add (pv 1) pe_int))) (pv 3) (nomark _)))))
      (pss_one (ps_raise rfl (takes_of rfl rfl rfl rfl) (pmk_c1 EBadPattern hr (pa_cons (pv 1) pa_nil) (hm := tCons1 (j := 0)))))
      pss_nil)
      (pss_one (ps_ret (pe_tup (pa_cons (pe_callTy call_int_str (by rfl) T.int (by decide +kernel) (pa_cons (pv 5) pa_nil)) (pa_cons (pe_op op_add (pv 1) pe_int) pa_nil))))))))), ?_⟩
    obtain ⟨z, i, l, cl, rfl, hi, lz, hl, hcl, rd, re⟩ := h
    have sz : sizeLine = 16777216 := sizeLine_eq
    have lcz := cod_len z
    refine ⟨.int (l : Nat), rfl, _, _, rfl, rfl, ((l : Nat) : Int), 21, rfl, ⟨by omega, by omega, by omega, by omega⟩, fun D nD => lc_range (fun k H' => Same H H' ∧ H' D = some (.lst (((List.range' l k).map fun n : Nat => numZ (n : Int)).map V.str))) ⟨Same.new nD, upd_same⟩ ?_ ?_⟩
    · rintro k H1 hk ⟨k1, hD⟩
      refine ⟨rfl, .int (((l : Nat) : Int) + (k : Nat)), rfl, _, rfl, ?_, _, hD, ?_, sameAt k1 nD, ?_⟩
      · rw [show (((l : Nat) : Int) + (k : Nat)) = ((l + k : Nat) : Int) by omega]
        exact small_log (by omega)
      · rw [List.length_map, List.length_map, List.length_range']
        omega
      · rw [upd_same, List.range'_1_concat, List.map_append, List.map_append]
        rfl
    rintro H0 ⟨k0, hD0⟩
    have e21 : ((21 : Int) - ((l : Nat) : Int)).toNat = 21 - l := by omega
    rw [e21] at hD0
    have hbs : bds l = ((List.range' l (21 - l)).map fun n : Nat => numZ (n : Int)).map cod := by
      unfold bds
      rw [List.map_map]
      rfl
    generalize ebz : (List.range' l (21 - l)).map (fun n : Nat => numZ (n : Int)) = bz at hD0 hbs
    have lbz : bz.length ≤ 21 := by rw [← ebz, List.length_map, List.length_range']; omega
    have dig : ∀ b ∈ bds l, b ≠ [] ∧ b.length ≤ 4 ∧ ∀ c ∈ b, 48 ≤ c ∧ c ≤ 57 := fun b hb => by
      obtain ⟨n, hn, rfl⟩ := List.mem_map.mp hb
      have hn' := List.mem_range'_1.mp hn
      exact ⟨num_ne n, fig_len (by omega), num_dig n⟩
    have nm := shn_all l (by omega)
    rw [ebz] at nm
    dsimp only [gName]
    refine ⟨fun m σ H' => ∃ (acc : List Nat) (j : Nat) (u6 u7 : Option V), m = z.length - j ∧ j ≤ z.length ∧ i ≤ j ∧ σ = [some (.str z), some (.int (j : Nat)), some (.int (l : Nat)), some (.str (sn cl)), some (.ref D), some (.str (SX.S acc)), u6, u7] ∧ Same H H' ∧ H' D = some (.lst (bz.map V.str)) ∧ (acc = [] ∨ ∃ b ∈ bds l, acc <+: b) ∧ numR (bds l) cl [] ((cod z).drop i) = ((numR (bds l) cl acc ((cod z).drop j)).1, (numR (bds l) cl acc ((cod z).drop j)).2 + (j - i)), ⟨_, [], i, _, _, rfl, hi, Nat.le_refl i, rfl, k0, hD0, .inl rfl, by rw [Nat.sub_self]; rfl⟩, ?_⟩
    rintro m σ H1 ⟨acc, j, u6, u7, rfl, hj, hij, rfl, k1, hD1, hacc, inv⟩
    have dacc : ∀ c ∈ acc, 48 ≤ c ∧ c ≤ 57 := fun c hc => by
      rcases hacc with e | ⟨b, hb, pb⟩
      · rw [e] at hc; cases hc
      · exact (dig b hb).2.2 c (pb.subset hc)
    have lacc : acc.length ≤ 4 := by
      rcases hacc with e | ⟨b, hb, pb⟩
      · rw [e]; decide
      · exact Nat.le_trans pb.length_le (dig b hb).2.1
    have sgacc : sgB (SX.S acc) = true := List.all_eq_true.mpr fun c hc => by
      have := dacc c hc
      unfold sgC
      rw [decide_eq_true (by omega), decide_eq_true (by omega)]
      rfl
    have e1 : ((j : Nat) : Int) + 1 = ((j + 1 : Nat) : Int) := by omega
    have raise : ∀ H2, Same H H2 → numR (bds l) cl acc ((cod z).drop j) = (none, 0) → ∀ dx, H2 dx = none → E (.ref cB) (some dx) (upd H2 dx (.xd [("place", .int (j : Nat))])) := fun H2 k2 e dx nd => by
      have el : bndR l cl ((cod z).drop i) = (none, 0 + (j - i)) := by
        unfold bndR
        rw [inv, e]
        rfl
      have := re dx H2 (by rw [el]) k2 nd
      rw [el] at this
      have this : E (.ref cB) (some dx) (upd H2 dx (.xd [("place", .int ((i + (0 + (j - i)) : Nat) : Int))])) := this
      rw [show i + (0 + (j - i)) = j by omega] at this
      exact this
    have inb : (bz.map PyData.str).any (fun y => PyData.eqv y (.str (SX.S acc))) = decide (acc ∈ bds l) := by
      rw [hbs, List.any_map]
      refine Bool.eq_iff_iff.mpr ?_
      rw [List.any_eq_true, decide_eq_true_iff, List.mem_map]
      constructor
      · rintro ⟨y, hy, e⟩
        have e : (y == SX.S acc) = true := e
        exact ⟨y, hy, by rw [eq_of_beq e]⟩
      · rintro ⟨y, hy, e⟩
        refine ⟨y, hy, ?_⟩
        show (y == SX.S acc) = true
        rw [show y = SX.S acc from cod_inj e]
        exact beq_self_eq_true _
    have shA : SeqAt.shaped (.str (SX.S acc)) = true := sh_str (strOk_sg sgacc)
    have dpa : ∀ H2, H2 D = some (.lst (bz.map V.str)) → Dp K H2 (.ref D) (.list (bz.map PyData.str)) := fun H2 h2 => .lst (sq_of h2) (dp_strs bz)
    refine (?_ : ∀ Qk : Bool → Hp → Prop, (∀ H2, Same H1 H2 → (∃ c, (cod z)[j]? = some c ∧ (bds l).any (fun b => (acc ++ [c]).isPrefixOf b) = true) → Qk true H2) → (∀ H2, Same H1 H2 → (∀ c, (cod z)[j]? = some c → (bds l).any (fun b => (acc ++ [c]).isPrefixOf b) = false) → Qk false H2) → tAnd _ _ _ H1 Qk) _ ?_ ?_
    · intro Qk kt kf
      refine ⟨.int (j : Nat), rfl, .str z, rfl, z, rfl, len5 (by omega), _, _, rfl, rfl, _, rfl, ite2 (fun e => ?_) (fun e => ?_)⟩
      rotate_left
      · refine kf H1 (Same.refl H1) fun c hc => ?_
        have := (List.getElem?_eq_some_iff.mp hc).1
        exact absurd (decide_eq_true (by omega)) e
      have hn : j < (cod z).length := by have := of_decide_eq_true e; omega
      obtain ⟨c, hc⟩ : ∃ c, (cod z)[j]? = some c := ⟨_, List.getElem?_eq_getElem hn⟩
      refine ⟨.ref D, rfl, D, rfl, ⟨_, sq_of hD1⟩, fun G nG => lc_list (K := K) (xs := bz.map V.str) (fun k H' => Same H1 H' ∧ H' G = some (.lst (((bz.take k).map fun b => (acc ++ [c]).isPrefixOf (cod b)).map V.bl))) ⟨Same.new nG, upd_same⟩ (fun k H' _ g => sq_of (g.1 _ _ hD1)) ?_ ?_⟩
      · rintro k x H2 hx ⟨k2, hG⟩
        rw [List.getElem?_map] at hx
        obtain ⟨b, hb, rfl⟩ := Option.map_eq_some_iff.mp hx
        have hk := (List.getElem?_eq_some_iff.mp hb).1
        refine ⟨rfl, .str b, rfl, rfl, .str (SX.S acc), rfl, .str z, rfl, .int (j : Nat), rfl, z, _, c, rfl, rfl, len5 (by omega), atI_nat hc, SX.S acc, sn c, rfl, rfl, (by rw [sz]; show acc.length + 1 ≤ _; omega), b, _, rfl, rfl, _, hG, ?_, sameAt k2 nG, ?_⟩
        · rw [List.length_map, List.length_map, List.length_take]
          omega
        · rw [upd_same, List.take_succ, hb, Option.toList_some, List.map_append, List.map_append, starts_pre, cod_app]
          rfl
      · rintro H2 ⟨k2, hG⟩
        rw [List.length_map, List.take_length] at hG
        refine ⟨G, bz.map fun b => (acc ++ [c]).isPrefixOf (cod b), rfl, sq_of hG, _, rfl, ?_⟩
        have ea : (bz.map fun b => (acc ++ [c]).isPrefixOf (cod b)).any id = (bds l).any (fun b => (acc ++ [c]).isPrefixOf b) := by
          rw [hbs, List.any_map, List.any_map]
          rfl
        rw [ea]
        cases hany : (bds l).any (fun b => (acc ++ [c]).isPrefixOf b) with
        | true => exact kt H2 k2 ⟨c, hc, hany⟩
        | false => exact kf H2 k2 fun c' hc' => by rw [hc] at hc'; cases hc'; exact hany
    · rintro H2 k2 ⟨c, hc, hany⟩
      have hn := (List.getElem?_eq_some_iff.mp hc).1
      have ed : (cod z).drop j = c :: (cod z).drop (j + 1) := by
        rw [List.drop_eq_getElem_cons hn]
        rw [List.getElem?_eq_getElem hn] at hc
        rw [Option.some.inj hc]
      obtain ⟨b, hb, pb⟩ := List.any_eq_true.mp hany
      have pb : acc ++ [c] <+: b := List.isPrefixOf_iff_prefix.mp pb
      have dc := (dig b hb).2.2 c (pb.subset (by simp))
      have ncl : ¬ (c = cl ∧ acc ∈ bds l) := fun e => by rcases hcl with h | h <;> rw [e.1, h] at dc <;> omega
      refine iteT ⟨_, fun σ' H' w => w, ?_⟩
      refine ⟨.str (SX.S acc), rfl, .str z, rfl, .int (j : Nat), rfl, z, _, c, rfl, rfl, len5 (by omega), atI_nat hc, SX.S acc, sn c, rfl, rfl, (by rw [sz]; show acc.length + 1 ≤ _; omega), ?_⟩
      refine ⟨.int (j : Nat), rfl, _, _, rfl, rfl, z.length - (j + 1), by omega, acc ++ [c], j + 1, u6, u7, rfl, by omega, by omega, (by rw [app_sn]; rfl), k1.trans k2, k2 _ _ hD1, .inr ⟨b, hb, pb⟩, ?_⟩
      rw [inv, ed, numR, if_neg ncl, if_pos hany]
      exact Prod.ext rfl (by show _ + 1 + (j - i) = _ + (j + 1 - i); omega)
    · intro H2 k2 hno
      refine iteF ?_
      have hD2 := k2 _ _ hD1
      have k02 := k1.trans k2
      have no0 : ¬ (∃ c, (cod z)[j]? = some c ∧ c = cl ∧ acc ∈ bds l) → numR (bds l) cl acc ((cod z).drop j) = (none, 0) := fun hx => by
        by_cases hn : j < (cod z).length
        · have hc := List.getElem?_eq_getElem hn
          rw [List.drop_eq_getElem_cons hn, numR, if_neg (fun e => hx ⟨_, hc, e.1, e.2⟩), if_neg (by rw [hno _ hc]; exact Bool.false_ne_true)]
        · rw [List.drop_of_length_le (by omega)]
          rfl
      refine ⟨.str (SX.S acc), rfl, .ref D, rfl, .str (SX.S acc), bz.map PyData.str, .str _, dpa H2 hD2, shA, nm, _, rfl, ?_⟩
      rw [inb]
      by_cases hin : acc ∈ bds l
      rotate_left
      · rw [decide_eq_false hin]
        exact iteT ⟨.int (j : Nat), rfl, _, rfl, fun dx nd => raise H2 k02 (no0 fun ⟨_, _, _, e⟩ => hin e) dx nd⟩
      rw [decide_eq_true hin]
      refine iteF ?_
      refine ⟨.str z, rfl, .int (j : Nat), rfl, _, rfl, .int (j : Nat), rfl, _, _, rfl, rfl, _, rfl, z, rfl, len5 (by omega), ?_⟩
      by_cases hn : j < (cod z).length
      rotate_left
      · rw [cut_no (by rw [← cod_len]; omega)]
        refine ⟨.str (sn cl), rfl, rfl, _, rfl, ?_⟩
        rw [show decide (V.str (Str.ofString "") = V.str (sn cl)) = false from decide_eq_false fun e => by have := congrArg cod (V.str.inj e); rw [show cod (Str.ofString "") = [] by decide +kernel] at this; cases this]
        exact iteT ⟨.int (j : Nat), rfl, _, rfl, fun dx nd => raise H2 k02 (no0 fun ⟨_, hc, _⟩ => hn (List.getElem?_eq_some_iff.mp hc).1) dx nd⟩
      obtain ⟨c, hc⟩ : ∃ c, (cod z)[j]? = some c := ⟨_, List.getElem?_eq_getElem hn⟩
      have ed : (cod z).drop j = c :: (cod z).drop (j + 1) := by
        rw [List.drop_eq_getElem_cons hn]
        rw [List.getElem?_eq_getElem hn] at hc
        rw [Option.some.inj hc]
      rw [cut_one hc]
      refine ⟨.str (sn cl), rfl, rfl, _, rfl, ?_⟩
      rw [sn_inj]
      by_cases hcc : c = cl
      rotate_left
      · rw [decide_eq_false hcc]
        exact iteT ⟨.int (j : Nat), rfl, _, rfl, fun dx nd => raise H2 k02 (no0 fun ⟨c', hc', e, _⟩ => by rw [hc] at hc'; cases hc'; exact hcc e) dx nd⟩
      rw [decide_eq_true hcc]
      refine iteF ?_
      have er : bndR l cl ((cod z).drop i) = (some (val acc), 1 + (j - i)) := by
        unfold bndR
        rw [inv, ed, numR, if_pos ⟨hcc, hin⟩]
        rfl
      rw [er] at rd
      have dgA : dgB (SX.S acc) = true := by
        unfold dgB
        have l0 : 0 < acc.length := List.length_pos_iff.mpr (dig acc hin).1
        rw [decide_eq_true (show (((SX.S acc).length : Nat) : Int) > 0 by show ((acc.length : Nat) : Int) > 0; omega), Bool.true_and]
        exact List.all_eq_true.mpr fun c hc => by
          have := dacc c hc
          rw [decide_eq_true this.1, decide_eq_true this.2]
          rfl
      refine ⟨.str (SX.S acc), rfl, SX.S acc, _, rfl, fig_int dgA (by show acc.length ≤ 640; omega), (by show acc.length ≤ 640; omega), ?_⟩
      refine ⟨.int (j : Nat), rfl, _, _, rfl, rfl, by show 2 ≤ sizeLine; rw [sz]; decide, fun u nu => ?_⟩
      have ku := Same.new (o := .tup [.int ((figN (SX.S acc) : Nat) : Int), .int (((j : Nat) : Int) + 1)]) nu
      exact rd u (val acc) _ rfl (k02.trans ku) (by rw [upd_same]; show _ = some (HO.tup [V.int ((val acc : Nat) : Int), V.int ((i + (1 + (j - i)) : Nat) : Int)]); rw [show i + (1 + (j - i)) = j + 1 by omega]; rfl)

end
end LawK
set_option maxHeartbeats 4000000
namespace LawK
open PySem PySem.Spec PyProof.Rows L2 Ev

/-- a def that may raise -/
structure DkE (P : Program) (w : World) (K : PySem.W.Frag) (mg : Str → Option Value) (base : Heap) (x : Str) (st : Stmt) (ps : List Str) (k : Nat) (sp : Sp) (f : Addr) (fd : FuncData) : Prop where
  F : Fun K x x st f fd
  b : Binds K fd ps []
  g : mg x = some (.ref f)
  ok : FnOk P w K mg base (L2.CX P w) k f fd ps sp
def partP : List Nat → Option Prt × Nat
  | [] => (none, 0)
  | c :: r =>
    if c = 63 then (some .any, 1)
    else if c = 91 then ((lotP r).1, (lotP r).2 + 1)
    else if c = 123 then ((gapR r).1, (gapR r).2 + 1)
    else signR (c :: r)
theorem partP_cons (c : Nat) (r : List Nat) : partP (c :: r) =
    if c = 63 then (some .any, 1)
    else if c = 91 then ((lotP r).1, (lotP r).2 + 1)
    else if c = 123 then ((gapR r).1, (gapR r).2 + 1)
    else signR (c :: r) := rfl
theorem part_eq (many : Nat) (g : Bool) (c : Nat) (r : List Nat) : partR many g (c :: r) = if many = 30 ∨ (c = 123 ∧ (many = 0 ∨ many = 29 ∨ g = true)) then (none, 0) else partP (c :: r) := by
  rw [partR_cons, partP_cons]
  by_cases h30 : many = 30
  · rw [if_pos (.inr h30), if_pos (.inl h30)]
  have np : sgC c = true → ¬ (sgC c = false ∨ many = 30) := fun h e => e.elim (fun z => by rw [h] at z; cases z) h30
  by_cases hg : c = 123 ∧ (many = 0 ∨ many = 29 ∨ g = true)
  · rw [if_neg (np (by rw [hg.1]; decide)), if_neg (by rw [hg.1]; decide), if_neg (by rw [hg.1]; decide), if_pos hg.1, if_pos hg.2, if_pos (.inr hg)]
  have ng : ¬ (many = 30 ∨ c = 123 ∧ (many = 0 ∨ many = 29 ∨ g = true)) := fun h => h.elim h30 hg
  by_cases sg : sgC c = true
  · rw [if_neg (np sg), if_neg ng]
    by_cases h1 : c = 63
    · rw [if_pos h1, if_pos h1]
    rw [if_neg h1, if_neg h1]
    by_cases h2 : c = 91
    · rw [if_pos h2, if_pos h2]
      rfl
    rw [if_neg h2, if_neg h2]
    by_cases h3 : c = 123
    · rw [if_pos h3, if_pos h3, if_neg (fun h => hg ⟨h3, h⟩)]
    rw [if_neg h3, if_neg h3]
    unfold signR
    by_cases h4 : c = 92
    · subst h4
      cases r <;> rfl
    · rw [if_pos h4]
      show _ = if c ≠ 92 then (if sgC c = true then (some (Prt.sg c), 1) else (none, 0)) else _
      rw [if_pos h4, if_pos sg]
  · have sf : sgC c = false := by simpa using sg
    have n : ∀ d, sgC d = true → c ≠ d := fun d hd e => sg (by rw [e]; exact hd)
    rw [if_pos (.inl sf), if_neg ng, if_neg (n 63 (by decide)), if_neg (n 91 (by decide)), if_neg (n 123 (by decide))]
    show _ = if c ≠ 92 then (if sgC c = true then (some (Prt.sg c), 1) else (none, 0)) else _
    rw [if_pos (n 92 (by decide)), if_neg sg]
theorem numR_mem {bs : List (List Nat)} {cl : Nat} : ∀ (r acc : List Nat) {s : List Nat}, (numR bs cl acc r).1 = some s → s ∈ bs ∧ (numR bs cl acc r).2 ≤ r.length
  | [], acc, s, h => by cases h
  | c :: r, acc, s, h => by
    rw [numR] at h ⊢
    by_cases h1 : c = cl ∧ acc ∈ bs
    · rw [if_pos h1] at h ⊢
      cases h
      exact ⟨h1.2, by show 1 ≤ r.length + 1; omega⟩
    rw [if_neg h1] at h ⊢
    by_cases h2 : bs.any (fun b => (acc ++ [c]).isPrefixOf b) = true
    · rw [if_pos h2] at h ⊢
      have ih := numR_mem r (acc ++ [c]) h
      exact ⟨ih.1, by show _ + 1 ≤ r.length + 1; exact Nat.succ_le_succ ih.2⟩
    · rw [if_neg h2] at h
      cases h
theorem bndR_of {l cl : Nat} {r : List Nat} {a : Nat} (hl : l ≤ 20) (h : (bndR l cl r).1 = some a) : l ≤ a ∧ a ≤ 20 ∧ (bndR l cl r).2 ≤ r.length := by
  unfold bndR at h ⊢
  obtain ⟨s, hs, rfl⟩ := Option.map_eq_some_iff.mp h
  obtain ⟨m, le⟩ := numR_mem r [] hs
  obtain ⟨n, hn, rfl⟩ := List.mem_map.mp m
  have hn' := List.mem_range'_1.mp hn
  rw [val_fig]
  exact ⟨by omega, by omega, le⟩
def spRPart (cB : Addr) : Sp := fun vs H Q E => ∃ (z : Str) (i : Nat), vs = [.str z, .int (i : Nat)] ∧ i < z.length ∧ z.length ≤ 2000 ∧ Rd H cB i (partP ((cod z).drop i)) Q E
def spMayGap : Sp := fun vs H Q _ => ∃ (a : Addr) (us : List V) (ps : List Prt), vs = [.ref a] ∧ H a = some (.lst us) ∧ All2 (PrtAt H) us ps ∧ us.length ≤ 30 ∧ Q (.bl (decide (0 < ps.length) && (decide (ps.length < 29) && !lastG ps))) H
def spRPat (cB : Addr) : Sp := fun vs H Q E => ∃ x k, vs = [x] ∧ Kd H x k ∧ (∀ z, x = .str z → z.length ≤ 2000) ∧
  (∀ z t us ps H', x = .str z → toldR (cod z) = (some ps, -1) → Same H H' → H' t = some (.tup us) → All2 (PrtAt H') us ps → Q (.ref t) H') ∧
  (∀ z n d H', x = .str z → toldR (cod z) = (none, n) → Same H H' → H' d = none → E (.ref cB) (some d) (upd H' d (.xd [("place", .int n)]))) ∧
  (∀ d H', (∀ z, x ≠ .str z) → Same H H' → H' d = none → E (.ref cB) (some d) (upd H' d (.xd [("place", .int (-1))])))
section
variable {P : Program} {w : World} {K : PySem.W.Frag} {mg : Str → Option Value} {base : Heap}
variable {PE cB : Addr}

abbrev sQReadPart : Stmt := topS 24
theorem scQReadPart : FnScope ["text", "at", "sign", "least", "most"] ["text", "at"] (defScope sQReadPart) := ⟨rfl, rfl, rfl, by decide +kernel, rfl, by decide +kernel, by decide +kernel⟩
theorem ok_QReadPart {f : Addr} {fd : FuncData} (F : Fun K "_read_part" "_read_part" sQReadPart f fd) {fQReadLot : Addr} {fdQReadLot : FuncData} (DQReadLot : DkE P w K mg base "_read_lot" sQReadLot ["text", "at"] 3 (spRLot cB) fQReadLot fdQReadLot) {fQReadSign : Addr} {fdQReadSign : FuncData} (DQReadSign : DkE P w K mg base "_read_sign" sQReadSign ["text", "at"] 3 (spRSign cB) fQReadSign fdQReadSign) {fQReadBound : Addr} {fdQReadBound : FuncData} (DQReadBound : DkE P w K mg base "_read_bound" sQReadBound ["text", "at", "least", "close"] 3 (spRBound cB) fQReadBound fdQReadBound)   (T : Glob mg) : FnOk P w K mg base (L2.CX P w) 4 f fd ["text", "at"] (spRPart cB) := by
  refine F.okX scQReadPart (fun vs H Q E h => ?_) (fun cdv A outer s H vs Q E hr h => ?_)
  · obtain ⟨z, i, rfl, _⟩ := h
    rfl
  · refine ⟨_, (pss_cons (ps_set (i := 2) scQReadPart.nd rfl (.inl rfl) (pe_ix ix_str (pv 0) (pv 1) (fun _ _ => rfl)))
      (pss_cons (ps_if (pt_cmpR op_eq (pv 2) pe_str (nomark _))
      (pss_one (ps_ret (pe_tup (pa_cons (pe_tup (pa_cons pe_str pa_nil)) (pa_cons (pe_op op_add (pv 1) pe_int) pa_nil)))))
      pss_nil)
      (pss_cons (ps_if (pt_cmpR op_eq (pv 2) pe_str (nomark _))
      (pss_one (ps_ret (pe_callS DQReadLot.ok (hr.mono (by decide)) rfl DQReadLot.g DQReadLot.F.kp DQReadLot.b (fun σ => passAt (takes_of rfl rfl rfl rfl) σ) (pa_cons (pv 0) (pa_cons (pe_op op_add (pv 1) pe_int) pa_nil)))))
      pss_nil)
      (pss_cons (ps_if (pt_cmpR op_ne (pv 2) pe_str (nomark _))
      (pss_one (ps_ret (pe_callS DQReadSign.ok (hr.mono (by decide)) rfl DQReadSign.g DQReadSign.F.kp DQReadSign.b (fun σ => passAt (takes_of rfl rfl rfl rfl) σ) (pa_cons (pv 0) (pa_cons (pv 1) pa_nil)))))
      pss_nil)
      (pss_cons (ps_asg (pe_callS DQReadBound.ok (hr.mono (by decide)) rfl DQReadBound.g DQReadBound.F.kp DQReadBound.b (fun σ => passAt (takes_of rfl rfl rfl rfl) σ) (pa_cons (pv 0) (pa_cons (pe_op op_add (pv 1) pe_int) (pa_cons pe_int (pa_cons pe_str pa_nil))))) (pg_tup (by rfl) (pgs_cons (pg_name (i := 3) scQReadPart.nd rfl (.inl rfl)) (pgs_cons (pg_name (i := 1) scQReadPart.nd rfl (.inl rfl)) pgs_nil))))
      (pss_cons (ps_asg (pe_callS DQReadBound.ok (hr.mono (by decide)) rfl DQReadBound.g DQReadBound.F.kp DQReadBound.b (fun σ => passAt (takes_of rfl rfl rfl rfl) σ) (pa_cons (pv 0) (pa_cons (pv 1) (pa_cons (pv 3) (pa_cons pe_str pa_nil))))) (pg_tup (by rfl) (pgs_cons (pg_name (i := 4) scQReadPart.nd rfl (.inl rfl)) (pgs_cons (pg_name (i := 1) scQReadPart.nd rfl (.inl rfl)) pgs_nil))))
      (pss_one (ps_ret (pe_tup (pa_cons (pe_tup (pa_cons pe_str (pa_cons (pv 3) (pa_cons (pv 4) pa_nil)))) (pa_cons (pv 1) pa_nil))))))))))), ?_⟩
    obtain ⟨z, i, rfl, hi, lz, rd, re⟩ := h
    have sz : sizeLine = 16777216 := sizeLine_eq
    have lcz := cod_len z
    have hl : i < (cod z).length := by omega
    obtain ⟨c, hc⟩ : ∃ c, (cod z)[i]? = some c := ⟨_, List.getElem?_eq_getElem hl⟩
    have ed : (cod z).drop i = c :: (cod z).drop (i + 1) := by
      rw [List.drop_eq_getElem_cons hl]
      rw [List.getElem?_eq_getElem hl] at hc
      rw [Option.some.inj hc]
    have e1 : ((i : Nat) : Int) + 1 = ((i + 1 : Nat) : Int) := by omega
    rw [ed, partP_cons] at rd re
    refine ⟨.str z, rfl, .int (i : Nat), rfl, z, _, c, rfl, rfl, len5 (by omega), atI_nat hc, ?_⟩
    refine ⟨.str (sn c), rfl, rfl, _, rfl, ?_⟩
    rw [show decide (V.str (sn c) = V.str (Str.ofString "?")) = decide (c = 63) by rw [show Str.ofString "?" = sn 63 by decide +kernel, sn_inj]]
    refine ite2 (fun e => ?_) (fun e => ?_)
    · rw [if_pos (of_decide_eq_true e)] at rd
      refine ⟨by show 1 ≤ sizeLine; rw [sz]; decide, fun t nt => ?_⟩
      have kt := Same.new (H := H) (o := .tup [.str "any"]) nt
      refine ⟨.int (i : Nat), rfl, _, _, rfl, rfl, by show 2 ≤ sizeLine; rw [sz]; decide, fun u nu => ?_⟩
      have ku := Same.new (o := .tup [.ref t, .int (((i : Nat) : Int) + 1)]) nu
      exact rd u (.ref t) .any _ rfl (kt.trans ku) (by rw [upd_same]; rfl) ⟨t, rfl, ku _ _ upd_same⟩
    rw [if_neg (fun h => e (decide_eq_true h))] at rd re
    refine ⟨.str (sn c), rfl, rfl, _, rfl, ?_⟩
    rw [show decide (V.str (sn c) = V.str (Str.ofString "[")) = decide (c = 91) by rw [show Str.ofString "[" = sn 91 by decide +kernel, sn_inj]]
    refine ite2 (fun e => ?_) (fun e => ?_)
    · rw [if_pos (of_decide_eq_true e)] at rd re
      refine ⟨.str z, rfl, .int (i : Nat), rfl, _, _, rfl, rfl, z, i + 1, rfl, by omega, lz, fun t v p H' h1 k1 ht hv => ?_, fun dx H' h1 k1 nd => ?_⟩
      · exact rd t v p H' h1 k1 (by rw [ht]; show _ = some (HO.tup [v, V.int ((i + ((lotP ((cod z).drop (i + 1))).2 + 1) : Nat) : Int)]); rw [show i + ((lotP ((cod z).drop (i + 1))).2 + 1) = i + 1 + (lotP ((cod z).drop (i + 1))).2 by omega]) hv
      · have := re dx H' h1 k1 nd
        have this : E (.ref cB) (some dx) (upd H' dx (.xd [("place", .int ((i + ((lotP ((cod z).drop (i + 1))).2 + 1) : Nat) : Int))])) := this
        rw [show i + ((lotP ((cod z).drop (i + 1))).2 + 1) = i + 1 + (lotP ((cod z).drop (i + 1))).2 by omega] at this
        exact this
    rw [if_neg (fun h => e (decide_eq_true h))] at rd re
    refine ⟨.str (sn c), rfl, rfl, _, rfl, ?_⟩
    rw [show (!decide (V.str (sn c) = V.str (Str.ofString "{"))) = !decide (c = 123) by rw [show Str.ofString "{" = sn 123 by decide +kernel, sn_inj]]
    by_cases h123 : c = 123
    rotate_left
    · rw [decide_eq_false h123]
      rw [if_neg h123] at rd re
      refine iteT ⟨.str z, rfl, .int (i : Nat), rfl, z, i, rfl, hi, lz, ?_⟩
      rw [ed]
      exact ⟨rd, re⟩
    rw [decide_eq_true h123]
    rw [if_pos h123] at rd re
    refine iteF ⟨.str z, rfl, .int (i : Nat), rfl, _, _, rfl, rfl, z, i + 1, 0, 44, rfl, by omega, lz, by decide, .inl rfl, fun t a H1 h1 k1 ht => ?_, fun dx H' h1 k1 nd => ?_⟩
    rotate_left
    · have eg : gapR ((cod z).drop (i + 1)) = (none, (bndR 0 44 ((cod z).drop (i + 1))).2) := by
        unfold gapR
        rcases hb : bndR 0 44 ((cod z).drop (i + 1)) with ⟨o, n⟩
        rw [hb] at h1
        have h1 : o = none := h1
        rw [h1]
      rw [eg] at re
      have := re dx H' rfl k1 nd
      have this : E (.ref cB) (some dx) (upd H' dx (.xd [("place", .int ((i + ((bndR 0 44 ((cod z).drop (i + 1))).2 + 1) : Nat) : Int))])) := this
      rw [show i + ((bndR 0 44 ((cod z).drop (i + 1))).2 + 1) = i + 1 + (bndR 0 44 ((cod z).drop (i + 1))).2 by omega] at this
      exact this
    obtain ⟨a0, a20, an⟩ := bndR_of (by decide) h1
    rw [List.length_drop] at an
    refine ⟨t, _, rfl, SqT.of ht, rfl, _, _, rfl, _, [], rfl, rfl, ?_⟩
    have eg1 : ∀ o m, bndR a 125 ((cod z).drop (i + 1 + (bndR 0 44 ((cod z).drop (i + 1))).2)) = (o, m) → gapR ((cod z).drop (i + 1)) = (o.map (Prt.gap a), (bndR 0 44 ((cod z).drop (i + 1))).2 + m) := fun o m e => by
      unfold gapR
      rcases hb : bndR 0 44 ((cod z).drop (i + 1)) with ⟨o', n⟩
      rw [hb] at h1 e
      have h1 : o' = some a := h1
      rw [h1]
      show (match bndR a 125 (((cod z).drop (i + 1)).drop n) with
        | (none, m) => (none, n + m)
        | (some b, m) => (some (.gap a b), n + m) : Option Prt × Nat) = _
      rw [List.drop_drop, e]
      cases o <;> rfl
    generalize (bndR 0 44 ((cod z).drop (i + 1))).2 = n at *
    rcases hb2 : bndR a 125 ((cod z).drop (i + 1 + n)) with ⟨o2, m⟩
    have eg := eg1 _ _ hb2
    rw [eg] at rd re
    refine ⟨.str z, rfl, .int ((i + 1 + n : Nat) : Int), rfl, .int (a : Nat), rfl, z, i + 1 + n, a, 125, rfl, by omega, lz, a20, .inr rfl, ?_, ?_⟩
    · rw [hb2]
      intro u b H2 h2 k2 hu
      have h2 : o2 = some b := h2
      rw [h2] at rd
      refine ⟨u, _, rfl, SqT.of hu, rfl, _, _, rfl, _, [], rfl, rfl, ?_⟩
      refine ⟨.int (a : Nat), rfl, .int (b : Nat), rfl, by show 3 ≤ sizeLine; rw [sz]; decide, fun t2 nt2 => ?_⟩
      have kt := Same.new (H := H2) (o := .tup [.str "gap", .int (a : Nat), .int (b : Nat)]) nt2
      refine ⟨_, rfl, by show 2 ≤ sizeLine; rw [sz]; decide, fun w2 nw => ?_⟩
      have kw := Same.new (o := .tup [.ref t2, .int ((i + 1 + n + m : Nat) : Int)]) nw
      exact rd w2 (.ref t2) (.gap a b) _ rfl ((k1.trans k2).trans (kt.trans kw)) (by rw [upd_same]; show _ = some (HO.tup [V.ref t2, V.int ((i + (n + m + 1) : Nat) : Int)]); rw [show i + (n + m + 1) = i + 1 + n + m by omega]) ⟨t2, rfl, kw _ _ upd_same⟩
    · rw [hb2]
      intro dx H2 h2 k2 nd
      have h2 : o2 = none := h2
      rw [h2] at re
      have := re dx H2 rfl (k1.trans k2) nd
      have this : E (.ref cB) (some dx) (upd H2 dx (.xd [("place", .int ((i + (n + m + 1) : Nat) : Int))])) := this
      rw [show i + (n + m + 1) = i + 1 + n + m by omega] at this
      exact this

abbrev sQMayGap : Stmt := topS 25
theorem scQMayGap : FnScope ["parts"] ["parts"] (defScope sQMayGap) := ⟨rfl, rfl, rfl, by decide +kernel, rfl, by decide +kernel, by decide +kernel⟩
theorem ok_QMayGap {f : Addr} {fd : FuncData} (F : Fun K "_may_have_gap" "_may_have_gap" sQMayGap f fd) {tP : Tok} (gP : mg "MOST_PARTS" = some (.int 30 tP))   (T : Glob mg) : FnOk P w K mg base CX0 1 f fd ["parts"] spMayGap := by
  refine F.ok scQMayGap (fun vs H Q E h => ?_) (fun cdv A outer s H vs Q E hr h => ?_)
  · obtain ⟨a, us, ps, rfl, _⟩ := h
    rfl
  · refine ⟨_, (pss_one (ps_ret (pe_and (pe_chain op_lt op_lt pe_int (pe_callB call_len_seq (by rfl) T.len PySem.boot_len (pa_cons (pv 0) pa_nil)) (pe_op op_sub (pe_glob (v := .int 30) (by rfl) gP ⟨_, rfl⟩) pe_int)) (pe_one (pe_cmpR op_ne (pe_ix ix_tup (pe_ix ix_list (pv 0) (pe_un un_neg pe_int) (fun _ _ => rfl)) pe_int (fun _ _ => rfl)) pe_str (nomark _)))))), ?_⟩
    obtain ⟨a, us, ps, rfl, ha, hps, l30, q⟩ := h
    have lu : us.length = ps.length := hps.len
    refine ⟨.ref a, rfl, a, _, rfl, .inl (sq_of ha), _, _, rfl, rfl, ?_⟩
    rw [lu]
    rw [show decide (0 < ps.length) = decide ((0 : Int) < (ps.length : Int)) from decide_eq_decide.mpr (by omega)] at q
    refine ⟨_, rfl, ite2 (fun e => ?_) (fun e => ?_)⟩
    rotate_left
    · have e : decide ((0 : Int) < (ps.length : Int)) = false := by simpa using e
      rw [e] at q
      exact ⟨false, rfl, q⟩
    rw [show decide (ps.length < 29) = decide ((ps.length : Int) < 30 - 1) from decide_eq_decide.mpr (by omega)] at q
    have e' : decide ((0 : Int) < (ps.length : Int)) = true := e
    rw [e', Bool.true_and] at q
    refine ⟨_, _, rfl, rfl, _, _, rfl, rfl, _, rfl, ite2 (fun e2 => ?_) (fun e2 => ?_)⟩
    rotate_left
    · have e2 : decide ((ps.length : Int) < 30 - 1) = false := by simpa using e2
      rw [e2] at q
      exact q
    have e2' : decide ((ps.length : Int) < 30 - 1) = true := e2
    rw [e2', Bool.true_and] at q
    have ne : us ≠ [] := fun z => by
      rw [z] at lu
      have lu : 0 = ps.length := lu
      have := of_decide_eq_true e'
      omega
    obtain ⟨us0, v, rfl⟩ := snoc_of ne
    obtain ⟨ps0, p, rfl⟩ := snoc_of (show ps ≠ [] from fun z => by rw [z] at e'; cases e')
    obtain ⟨hp0, b, rfl, hb⟩ := hps.unsnoc
    refine ⟨.ref a, rfl, _, rfl, a, _, -1, .ref b, rfl, rfl, sq_of ha, atI_last _ _, b, _, 0, _, rfl, rfl, SqT.of hb, (by cases p <;> rfl : atI p.v 0 = some (p.v.headD .non)), by cases p <;> rfl, ?_⟩
    rw [head_gap]
    rw [lastG_snoc] at q
    exact q

end
end LawK
set_option maxHeartbeats 4000000
namespace LawK
open PySem PySem.Spec PyProof.Rows L2 Ev
theorem lotR_of : ∀ (n : Nat) (r acc : List Nat) {s : List Nat}, r.length ≤ n → (lotR acc r).1 = some s → (∀ c ∈ acc, sgC c = true) → acc.length ≤ 20 → (lotR acc r).2 ≤ r.length ∧ (∀ c ∈ s, sgC c = true) ∧ s.length ≤ 20
  | _, [], acc, s, _, h, _, _ => by cases h
  | 0, c :: r, acc, s, hn, h, _, _ => by exact absurd hn (by simp)
  | n + 1, c :: r, acc, s, hn, h, hs, hl => by
    have hn : r.length ≤ n := Nat.le_of_succ_le_succ hn
    rw [lotR_cons] at h ⊢
    by_cases h1 : c = 93
    · rw [if_pos h1] at h ⊢
      by_cases h2 : acc = []
      · rw [if_pos h2] at h
        cases h
      · rw [if_neg h2] at h ⊢
        cases h
        exact ⟨by show 1 ≤ r.length + 1; omega, hs, hl⟩
    rw [if_neg h1] at h ⊢
    by_cases h2 : sgC c = false ∨ acc.length = 20
    · rw [if_pos h2] at h
      cases h
    rw [if_neg h2] at h ⊢
    have l20 : acc.length < 20 := by have : acc.length ≠ 20 := fun e => h2 (.inr e); omega
    have snoc : ∀ d, sgC d = true → (∀ c ∈ acc ++ [d], sgC c = true) ∧ (acc ++ [d]).length ≤ 20 := fun d hd => ⟨fun x hx => (List.mem_append.mp hx).elim (hs x) (fun e => by rw [List.mem_singleton.mp e]; exact hd), by rw [List.length_append]; show acc.length + 1 ≤ 20; omega⟩
    by_cases h3 : c = 92
    · rw [if_pos h3] at h ⊢
      by_cases h4 : 93 ≤ lastN acc
      · rw [if_pos h4] at h
        cases h
      rw [if_neg h4] at h ⊢
      cases r with
      | nil => cases h
      | cons d r' =>
        have h : (if (d = 93 ∨ d = 92) ∧ lastN acc < d then ((lotR (acc ++ [d]) r').1, (lotR (acc ++ [d]) r').2 + 2) else (none, 1)).1 = some s := h
        show (if (d = 93 ∨ d = 92) ∧ lastN acc < d then ((lotR (acc ++ [d]) r').1, (lotR (acc ++ [d]) r').2 + 2) else (none, 1)).2 ≤ _ ∧ _
        by_cases h5 : (d = 93 ∨ d = 92) ∧ lastN acc < d
        · rw [if_pos h5] at h ⊢
          have sd : sgC d = true := by rcases h5.1 with e | e <;> rw [e] <;> decide
          have ih := lotR_of n r' (acc ++ [d]) (by have : (d :: r').length = r'.length + 1 := rfl; omega) h (snoc d sd).1 (snoc d sd).2
          exact ⟨by show _ + 2 ≤ r'.length + 1 + 1; have := ih.1; omega, ih.2⟩
        · rw [if_neg h5] at h
          cases h
    rw [if_neg h3] at h ⊢
    by_cases h4 : lastN acc < c
    · rw [if_pos h4] at h ⊢
      have sc : sgC c = true := by
        cases e : sgC c with
        | true => rfl
        | false => exact absurd (.inl e) h2
      have ih := lotR_of n r (acc ++ [c]) hn h (snoc c sc).1 (snoc c sc).2
      exact ⟨by show _ + 1 ≤ r.length + 1; have := ih.1; omega, ih.2⟩
    · rw [if_neg h4] at h
      cases h
/-- a part that has been read: its signs are signs -/
def Prt.Sg : Prt → Prop
  | .any => True
  | .sg c => sgC c = true
  | .lot cs => (∀ c ∈ cs, sgC c = true) ∧ cs.length ≤ 20
  | .gap a b => a ≤ 20 ∧ b ≤ 20
theorem gapR_of {r : List Nat} {p : Prt} (h : (gapR r).1 = some p) : (gapR r).2 ≤ r.length ∧ p.Sg := by
  unfold gapR at h ⊢
  rcases hb : bndR 0 44 r with ⟨o, n⟩
  rw [hb] at h
  cases o with
  | none => cases h
  | some a =>
    obtain ⟨_, a20, an⟩ := bndR_of (l := 0) (cl := 44) (r := r) (a := a) (by decide) (by rw [hb])
    rw [hb] at an
    have an : n ≤ r.length := an
    have h : (match bndR a 125 (r.drop n) with
      | (none, m) => (none, n + m)
      | (some b, m) => (some (.gap a b), n + m) : Option Prt × Nat).1 = some p := h
    show (match bndR a 125 (r.drop n) with
      | (none, m) => (none, n + m)
      | (some b, m) => (some (.gap a b), n + m) : Option Prt × Nat).2 ≤ _ ∧ _
    rcases hb2 : bndR a 125 (r.drop n) with ⟨o2, m⟩
    rw [hb2] at h
    cases o2 with
    | none => cases h
    | some b =>
      obtain ⟨_, b20, bn⟩ := bndR_of (l := a) (cl := 125) (r := r.drop n) (a := b) a20 (by rw [hb2])
      rw [hb2, List.length_drop] at bn
      have bn : m ≤ r.length - n := bn
      cases h
      exact ⟨by show n + m ≤ r.length; omega, a20, b20⟩
theorem signR_cons (c : Nat) (r : List Nat) : signR (c :: r) = if c ≠ 92 then (if sgC c = true then (some (.sg c), 1) else (none, 0)) else match r with
    | [] => (none, 1)
    | d :: _ => if d ∈ mkS then (some (.sg d), 2) else (none, 1) := rfl
theorem signR_of {r : List Nat} {p : Prt} (h : (signR r).1 = some p) : 1 ≤ (signR r).2 ∧ (signR r).2 ≤ r.length ∧ p.Sg := by
  cases r with
  | nil => cases h
  | cons c r =>
    rw [signR_cons] at h ⊢
    by_cases h1 : c ≠ 92
    · rw [if_pos h1] at h ⊢
      by_cases h2 : sgC c = true
      · rw [if_pos h2] at h ⊢
        cases h
        exact ⟨Nat.le_refl 1, by show 1 ≤ r.length + 1; omega, h2⟩
      · rw [if_neg h2] at h
        cases h
    · rw [if_neg h1] at h ⊢
      cases r with
      | nil => cases h
      | cons d r' =>
        have h : (if d ∈ mkS then (some (Prt.sg d), 2) else (none, 1)).1 = some p := h
        show 1 ≤ (if d ∈ mkS then (some (Prt.sg d), 2) else (none, 1)).2 ∧ (if d ∈ mkS then (some (Prt.sg d), 2) else (none, 1)).2 ≤ _ ∧ _
        by_cases h2 : d ∈ mkS
        · rw [if_pos h2] at h ⊢
          cases h
          exact ⟨by show 1 ≤ 2; decide, by show 2 ≤ r'.length + 1 + 1; omega, mkS_sg d h2⟩
        · rw [if_neg h2] at h
          cases h
theorem partP_of {r : List Nat} {p : Prt} (h : (partP r).1 = some p) : 1 ≤ (partP r).2 ∧ (partP r).2 ≤ r.length ∧ p.Sg := by
  cases r with
  | nil => cases h
  | cons c r =>
    rw [partP_cons] at h ⊢
    by_cases h1 : c = 63
    · rw [if_pos h1] at h ⊢
      cases h
      exact ⟨Nat.le_refl 1, by show 1 ≤ r.length + 1; omega, trivial⟩
    rw [if_neg h1] at h ⊢
    by_cases h2 : c = 91
    · rw [if_pos h2] at h ⊢
      have h : (lotR [] r).1.map Prt.lot = some p := h
      obtain ⟨s, hs, rfl⟩ := Option.map_eq_some_iff.mp h
      have q := lotR_of r.length r [] (Nat.le_refl _) hs (fun c h => absurd h List.not_mem_nil) (by decide)
      exact ⟨by show 1 ≤ _ + 1; omega, by show (lotR [] r).2 + 1 ≤ r.length + 1; have := q.1; omega, q.2⟩
    rw [if_neg h2] at h ⊢
    by_cases h3 : c = 123
    · rw [if_pos h3] at h ⊢
      have q := gapR_of h
      exact ⟨by show 1 ≤ _ + 1; omega, by show (gapR r).2 + 1 ≤ r.length + 1; have := q.1; omega, q.2⟩
    rw [if_neg h3] at h ⊢
    exact signR_of h
theorem toldF_cons (f : Nat) (ps : List Prt) (i c : Nat) (r : List Nat) : toldF (f + 1) ps i (c :: r) = match partR ps.length (lastG ps) (c :: r) with
    | (none, n) => (none, ((i + n : Nat) : Int))
    | (some p, n) => toldF f (ps ++ [p]) (i + n) ((c :: r).drop n) := rfl
theorem toldF_nil (f : Nat) (ps : List Prt) (i : Nat) : toldF f ps i [] = if ps = [] ∨ lastG ps = true then (none, ((i : Nat) : Int)) else (some ps, -1) := by
  cases f <;> rfl
theorem PrtAt.put {H : Hp} {D : Addr} {us ws : List V} {v : V} {p : Prt} (h : PrtAt H v p) (hD : H D = some (.lst us)) : PrtAt (upd H D (.lst ws)) v p := by
  obtain ⟨a, e, h⟩ := h
  exact ⟨a, e, by rw [upd_ne fun z => by rw [z, hD] at h; cases h]; exact h⟩
section
variable {P : Program} {w : World} {K : PySem.W.Frag} {mg : Str → Option Value} {base : Heap}
variable {PE cB : Addr}

abbrev sPReadPat : Stmt := topS 26
theorem scPReadPat : FnScope ["text", "parts", "at", "part"] ["text"] (defScope sPReadPat) := ⟨rfl, rfl, rfl, by decide +kernel, rfl, by decide +kernel, by decide +kernel⟩
theorem ok_PReadPat {f : Addr} {fd : FuncData} (F : Fun K "read_pattern" "read_pattern" sPReadPat f fd) {tP : Tok} (gP : mg "MOST_PARTS" = some (.int 30 tP)) (EBadPattern : Cls1 K mg PE "BadPattern" "place" cB){fQReadPart : Addr} {fdQReadPart : FuncData} (DQReadPart : DkE P w K mg base "_read_part" sQReadPart ["text", "at"] 4 (spRPart cB) fQReadPart fdQReadPart)  {fQMayGap : Addr} {fdQMayGap : FuncData} (DQMayGap : Dk P w K mg base "_may_have_gap" sQMayGap ["parts"] 1 spMayGap fQMayGap fdQMayGap) (T : Glob mg) : FnOk P w K mg base (L2.CX P w) 5 f fd ["text"] (spRPat cB) := by
  refine F.okX scPReadPat (fun vs H Q E h => ?_) (fun cdv A outer s H vs Q E hr h => ?_)
  · obtain ⟨x, k, rfl, _⟩ := h
    rfl
  · refine ⟨_, (pss_cons (ps_if (pt_not (pt_val (pe_callB call_isi (by rfl) T.isinstance PyProof.Rows.boot_isinstance (pa_cons (pv 0) (pa_cons (pe_bltn (v := .ty "str") (by rfl) T.str (by decide +kernel) rfl) pa_nil)))))
      (pss_one (ps_raise rfl (takes_of rfl rfl rfl rfl) (pmk_c1 EBadPattern hr (pa_cons (pe_un un_neg pe_int) pa_nil) (hm := fun h ⟨x, e, q⟩ => ⟨x, e, h _ _ q⟩))))
      pss_nil)
      (pss_cons (ps_set (i := 1) scPReadPat.nd rfl (.inl rfl) (pe_lst pa_nil))
      (pss_cons (ps_set (i := 2) scPReadPat.nd rfl (.inl rfl) pe_int)
      (pss_cons (ps_while (passes_of rfl) (pt_cmpR op_lt (pv 2) (pe_callB call_lenZ (by rfl) T.len PySem.boot_len (pa_cons (pv 0) pa_nil)) (nomark _))
      (pss_cons (ps_if (PW.pt (pw_or (pt_cmpR op_eq (pe_callB call_len_seq (by rfl) T.len PySem.boot_len (pa_cons (pv 1) pa_nil)) (pe_glob (v := .int 30) (by rfl) gP ⟨_, rfl⟩) (nomark _)) (pw_or1 (PW.pt (pw_and (pt_cmpR op_eq (pe_ix ix_str (pv 0) (pv 2) (fun _ _ => rfl)) pe_str (nomark _)) (pw_and1 (pt_not (pt_val (pe_call DQMayGap.ok (hr.mono (by decide)) (by rfl) DQMayGap.g DQMayGap.F.kp DQMayGap.b .nil pass0 (pa_cons (pv 1) pa_nil))))))))))
        (pss_one (ps_raise rfl (takes_of rfl rfl rfl rfl) (pmk_c1 EBadPattern hr (pa_cons (pv 2) pa_nil) (hm := tCons1 (j := 0)))))
        pss_nil)
        (pss_cons (ps_asg (pe_callS DQReadPart.ok (hr.mono (by decide)) rfl DQReadPart.g DQReadPart.F.kp DQReadPart.b (fun σ => passAt (takes_of rfl rfl rfl rfl) σ) (pa_cons (pv 0) (pa_cons (pv 2) pa_nil))) (pg_tup (by rfl) (pgs_cons (pg_name (i := 3) scPReadPat.nd rfl (.inl rfl)) (pgs_cons (pg_name (i := 2) scPReadPat.nd rfl (.inl rfl)) pgs_nil))))
        (pss_one (ps_expr (pe_bm PySem.F.plainAttrs_list PySem.F.slot_list_append PySem.F.type_list_append mt_append (pv 1) (pa_cons (pv 3) pa_nil)))))))
      (pss_cons (ps_if (PW.pt (pw_or (pt_cmpR op_eq (pe_callB call_len_seq (by rfl) T.len PySem.boot_len (pa_cons (pv 1) pa_nil)) pe_int (nomark _)) (pw_or1 (pt_cmpR op_eq (pe_ix ix_tup (pe_ix ix_list (pv 1) (pe_un un_neg pe_int) (fun _ _ => rfl)) pe_int (fun _ _ => rfl)) pe_str (nomark _)))))
      (pss_one (ps_raise rfl (takes_of rfl rfl rfl rfl) (pmk_c1 EBadPattern hr (pa_cons (pe_callB call_lenZ (by rfl) T.len PySem.boot_len (pa_cons (pv 0) pa_nil)) pa_nil) (hm := fun h ⟨v, e, z, e2, l, q⟩ => ⟨v, e, z, e2, l, h _ _ q⟩))))
      pss_nil)
      (pss_one (ps_ret (pe_callTy call_tuple_of (by rfl) T.tuple (by decide +kernel) (pa_cons (pv 1) pa_nil))))))))), ?_⟩
    obtain ⟨x, k, rfl, hk, hz, q1, q2, q3⟩ := h
    have sz : sizeLine = 16777216 := sizeLine_eq
    refine ⟨x, rfl, x, .ty "str", .type (Kn.name k), .type "str", kitB k .str, rfl, .ty _, Kd.tyx hk, kit_kn k .str, _, rfl, ?_⟩
    have no : (∀ z, x ≠ .str z) → ∀ d, H d = none → E (.ref cB) (some d) (upd H d (.xd [("place", .int (-1))])) := fun n d nd => q3 d H n (Same.refl H) nd
    cases hk with
    | str z =>
      have lz := hz z rfl
      have lcz := cod_len z
      have q1 := fun t us ps H' => q1 z t us ps H' rfl
      have q2 := fun n d H' => q2 z n d H' rfl
      refine iteF ⟨by show 0 ≤ sizeLine; omega, fun D nD => ?_⟩
      dsimp only [tNext, tSeq, tAsg, gName]
      refine ⟨fun m σ H' => ∃ (ps : List Prt) (us : List V) (j f : Nat) (u3 : Option V), m = z.length - j ∧ j ≤ z.length ∧ σ = [some (.str z), some (.ref D), some (.int (j : Nat)), u3] ∧ Same H H' ∧ H' D = some (.lst us) ∧ All2 (PrtAt H') us ps ∧ ps.length ≤ 30 ∧ ((cod z).drop j).length ≤ f ∧ toldF f ps j ((cod z).drop j) = toldR (cod z), ⟨_, [], [], 0, (cod z).length, none, rfl, Nat.zero_le _, rfl, Same.new nD, upd_same, .nil, by decide, Nat.le_refl _, rfl⟩, ?_⟩
      rintro m σ H1 ⟨ps, us, j, f, u3, rfl, hj, rfl, k1, hD, hps, l30, lf, inv⟩
      have lu : us.length = ps.length := hps.len
      refine ⟨.int (j : Nat), rfl, .str z, rfl, z, rfl, len5 (by omega), _, _, rfl, rfl, _, rfl, ite2 (fun e => ?_) (fun e => ?_)⟩
      · have hn : j < (cod z).length := by have := of_decide_eq_true e; omega
        obtain ⟨c, hc⟩ : ∃ c, (cod z)[j]? = some c := ⟨_, List.getElem?_eq_getElem hn⟩
        have ed : (cod z).drop j = c :: (cod z).drop (j + 1) := by
          rw [List.drop_eq_getElem_cons hn]
          rw [List.getElem?_eq_getElem hn] at hc
          rw [Option.some.inj hc]
        rw [ed] at inv lf
        obtain ⟨f, rfl⟩ : ∃ g, f = g + 1 := ⟨f - 1, by have : (c :: (cod z).drop (j + 1)).length = ((cod z).drop (j + 1)).length + 1 := rfl; omega⟩
        rw [toldF_cons, part_eq] at inv
        refine ⟨_, fun σ' H' w => w, ?_⟩
        refine (?_ : ∀ Qk : Bool → Hp → Prop, Qk (decide (ps.length = 30 ∨ c = 123 ∧ (ps.length = 0 ∨ ps.length = 29 ∨ lastG ps = true))) H1 → tOr _ _ _ H1 Qk) _ ?_
        · intro Qk kk
          refine ⟨.ref D, rfl, D, _, rfl, .inl (sq_of hD), rfl, _, rfl, ?_⟩
          rw [dec_int, lu]
          refine ite2 (fun e => ?_) (fun e => ?_)
          · have h30 : ps.length = 30 := by have := of_decide_eq_true e; omega
            rw [decide_eq_true (.inl h30)] at kk
            exact kk
          have h30 : ps.length ≠ 30 := fun h => e (decide_eq_true (by omega))
          refine ⟨.str z, rfl, .int (j : Nat), rfl, z, _, c, rfl, rfl, len5 (by omega), atI_nat hc, rfl, _, rfl, ?_⟩
          rw [show decide (V.str (sn c) = V.str (Str.ofString "{")) = decide (c = 123) by rw [show Str.ofString "{" = sn 123 by decide +kernel, sn_inj]]
          refine ite2 (fun e => ?_) (fun e => ?_)
          rotate_left
          · have h123 : c ≠ 123 := fun h => e (decide_eq_true h)
            rw [decide_eq_false (fun h => h.elim h30 fun h => h123 h.1)] at kk
            exact kk
          have h123 := of_decide_eq_true e
          refine ⟨.ref D, rfl, D, us, ps, rfl, hD, hps, by omega, _, rfl, ?_⟩
          show Qk (!(decide (0 < ps.length) && (decide (ps.length < 29) && !lastG ps))) H1
          have eb : (!(decide (0 < ps.length) && (decide (ps.length < 29) && !lastG ps))) = decide (ps.length = 30 ∨ c = 123 ∧ (ps.length = 0 ∨ ps.length = 29 ∨ lastG ps = true)) := by
            refine Bool.eq_iff_iff.mpr ?_
            rw [decide_eq_true_iff]
            cases hg : lastG ps with
            | true => simp [h123]
            | false =>
              by_cases a1 : 0 < ps.length
              · by_cases a2 : ps.length < 29
                · rw [decide_eq_true a1, decide_eq_true a2]
                  refine ⟨fun h => absurd h (by decide), fun h => ?_⟩
                  rcases h with h | ⟨_, h | h | h⟩
                  · omega
                  · omega
                  · omega
                  · cases h
                · rw [decide_eq_false a2, Bool.false_and, Bool.and_false]
                  exact ⟨fun _ => .inr ⟨h123, .inr (.inl (by omega))⟩, fun _ => rfl⟩
              · rw [decide_eq_false a1, Bool.false_and]
                exact ⟨fun _ => .inr ⟨h123, .inl (by omega)⟩, fun _ => rfl⟩
          rw [eb]
          exact kk
        refine ite2 (fun e => ?_) (fun e => ?_)
        · rw [if_pos (of_decide_eq_true e)] at inv
          refine ⟨.int (j : Nat), rfl, _, rfl, fun d nd => ?_⟩
          exact q2 (j : Nat) d H1 inv.symm k1 nd
        rw [if_neg (fun h => e (decide_eq_true h))] at inv
        refine ⟨.str z, rfl, .int (j : Nat), rfl, z, j, rfl, by omega, lz, ?_, ?_⟩
        · rw [ed]
          intro t v p H2 hp k2 ht hv
          obtain ⟨n1, n2, _⟩ := partP_of hp
          rcases hP : partP (c :: (cod z).drop (j + 1)) with ⟨o, n⟩
          rw [hP] at hp inv ht n1 n2
          have hp : o = some p := hp
          rw [hp] at inv
          have n1 : 1 ≤ n := n1
          have n2 : n ≤ ((cod z).drop (j + 1)).length + 1 := n2
          rw [List.length_drop] at n2
          have hD2 := k2 _ _ hD
          refine ⟨t, _, rfl, SqT.of ht, rfl, _, _, rfl, _, [], rfl, rfl, ?_⟩
          refine ⟨.ref D, rfl, .inl ⟨rfl, _, sq_of hD2⟩, _, rfl, D, us, _, rfl, rfl, hD2, by omega, ?_⟩
          have l30' : ps.length ≠ 30 := fun h => e (decide_eq_true (.inl h))
          refine ⟨z.length - (j + n), by omega, ps ++ [p], us ++ [v], j + n, f, some v, rfl, by omega, rfl, sameAt (k1.trans k2) nD, upd_same, ((hps.imp fun _ _ q => (q.same k2).put hD2).snoc (hv.put hD2)), by rw [List.length_append]; show ps.length + 1 ≤ 30; omega, ?_, ?_⟩
          · rw [List.length_drop]
            have lf : ((cod z).drop (j + 1)).length + 1 ≤ f + 1 := lf
            rw [List.length_drop] at lf
            omega
          · have inv : toldF f (ps ++ [p]) (j + n) ((c :: (cod z).drop (j + 1)).drop n) = toldR (cod z) := inv
            rw [← ed, List.drop_drop] at inv
            exact inv
        · rw [ed]
          intro d H2 hp k2 nd
          rcases hP : partP (c :: (cod z).drop (j + 1)) with ⟨o, n⟩
          rw [hP] at hp inv
          have hp : o = none := hp
          rw [hp] at inv
          exact q2 ((j + n : Nat) : Int) d H2 inv.symm (k1.trans k2) nd
      · have ej : j = z.length := by have : ¬ ((j : Nat) : Int) < (z.length : Int) := fun h => e (decide_eq_true h); omega
        rw [List.drop_of_length_le (by omega), toldF_nil] at inv
        dsimp only
        refine (?_ : ∀ Qk : Bool → Hp → Prop, Qk (decide (ps = [] ∨ lastG ps = true)) H1 → tOr _ _ _ H1 Qk) _ ?_
        · intro Qk kk
          refine ⟨.ref D, rfl, D, _, rfl, .inl (sq_of hD), rfl, _, rfl, ?_⟩
          rw [dec_int, lu]
          refine ite2 (fun e => ?_) (fun e => ?_)
          · have h0 : ps = [] := List.length_eq_zero_iff.mp (by have := of_decide_eq_true e; omega)
            rw [decide_eq_true (.inl h0)] at kk
            exact kk
          have ne : ps ≠ [] := fun h => e (by rw [h]; rfl)
          have neu : us ≠ [] := fun h => by rw [h] at lu; exact ne (List.length_eq_zero_iff.mp lu.symm)
          obtain ⟨us0, v, rfl⟩ := snoc_of neu
          obtain ⟨ps0, p, rfl⟩ := snoc_of ne
          obtain ⟨hp0, b, rfl, hb⟩ := hps.unsnoc
          refine ⟨.ref D, rfl, _, rfl, D, _, -1, .ref b, rfl, rfl, sq_of hD, atI_last _ _, b, _, 0, _, rfl, rfl, SqT.of hb, (by cases p <;> rfl : atI p.v 0 = some (p.v.headD .non)), by cases p <;> rfl, _, rfl, ?_⟩
          rw [head_gap]
          rw [lastG_snoc, show decide (ps0 ++ [p] = [] ∨ p.gapB = true) = p.gapB from by
            cases hg : p.gapB with
            | true => exact decide_eq_true (.inr rfl)
            | false => exact decide_eq_false (fun h => h.elim ne fun h => by cases h)] at kk
          exact kk
        refine ite2 (fun e => ?_) (fun e => ?_)
        · rw [if_pos (of_decide_eq_true e)] at inv
          refine ⟨.str z, rfl, z, rfl, len5 (by omega), _, rfl, fun d nd => ?_⟩
          exact q2 (j : Nat) d H1 inv.symm k1 nd |> fun w => by rw [ej] at w; exact w
        · rw [if_neg (fun h => e (decide_eq_true h))] at inv
          refine ⟨.ref D, rfl, D, us, rfl, .inl ⟨sq_of hD, fun t nt => ?_⟩⟩
          have kt := Same.new (H := H1) (o := .tup us) nt
          exact q1 t us ps _ inv.symm (k1.trans kt) upd_same (hps.imp fun _ _ q => q.same kt)
    | _ => exact iteT ⟨_, rfl, _, rfl, fun d nd => no (fun z e => by cases e) d nd⟩

end
end LawK
set_option maxHeartbeats 4000000
namespace LawK
open PySem PySem.Spec PyProof.Rows L2 Ev

def OPrt (H : Hp) (v : V) : Option Prt → Prop
  | none => v = .non
  | some p => PrtAt H v p
def Ld (H : Hp) (i : Nat) (R : Option Prt × Nat) (Q : VK) : Prop := ∀ t v H', Same H H' → H' t = some (.tup [v, .int ((i + R.2 : Nat) : Int)]) → OPrt H' v R.1 → Q (.ref t) H'
def spLLot : Sp := fun vs H Q _ => ∃ (z : Str) (i : Nat), vs = [.str z, .int (i : Nat)] ∧ i < z.length ∧ z.length ≤ 2000 ∧ Ld H i ((lotP ((cod z).drop (i + 1))).1, (lotP ((cod z).drop (i + 1))).2 + 1) Q
theorem last_one {acc : List Nat} (h : acc ≠ []) : ∃ x, lastL acc = [x] ∧ acc.getLast? = some x := by
  obtain ⟨a', x, rfl⟩ := snoc_of h
  refine ⟨x, ?_, by rw [List.getLast?_concat]⟩
  unfold lastL
  rw [List.length_append, show a'.length + [x].length - 1 = a'.length from rfl, List.drop_left]
section
variable {P : Program} {w : World} {K : PySem.W.Frag} {mg : Str → Option Value} {base : Heap}

abbrev sLLot : Stmt := topS 40
theorem scLLot : FnScope ["text", "at", "found", "here", "sign", "last"] ["text", "at"] (defScope sLLot) := ⟨rfl, rfl, rfl, by decide +kernel, rfl, by decide +kernel, by decide +kernel⟩
theorem ok_LLot {f : Addr} {fd : FuncData} (F : Fun K "_law_lot" "_law_lot" sLLot f fd)   (T : Glob mg) : FnOk P w K mg base CX0 1 f fd ["text", "at"] spLLot := by
  refine F.ok scLLot (fun vs H Q E h => ?_) (fun cdv A outer s H vs Q E hr h => ?_)
  · obtain ⟨z, i, rfl, _⟩ := h
    rfl
  · refine ⟨_, (pss_cons (ps_set (i := 2) scLLot.nd rfl (.inl rfl) pe_str)
      (pss_cons (ps_set (i := 3) scLLot.nd rfl (.inl rfl) (pe_op op_add (pv 1) pe_int))
      (pss_cons (ps_while PassesOwn.never (pt_cmpR op_lt (pv 3) (pe_callB call_lenZ (by rfl) T.len PySem.boot_len (pa_cons (pv 0) pa_nil)) (nomark _))
      (pss_cons (ps_set (i := 4) scLLot.nd rfl (.inl rfl) (pe_ix ix_str (pv 0) (pv 3) (fun _ _ => rfl)))
        (pss_cons (ps_set (i := 5) scLLot.nd rfl (.inl rfl) (pe_ifExp (pt_cmpR op_ne (pv 2) pe_str (nomark _)) (pe_ix ix_str (pv 2) (pe_un un_neg pe_int) (fun _ _ => rfl)) pe_str))
        (pss_cons (ps_if (pt_cmpR op_eq (pv 4) pe_str (nomark _))
        (pss_one (ps_ret (pe_ifExp (pt_cmpR op_ne (pv 2) pe_str (nomark _)) (pe_tup (pa_cons (pe_tup (pa_cons pe_str (pa_cons (pv 2) pa_nil))) (pa_cons (pe_op op_add (pv 3) pe_int) pa_nil))) (pe_tup (pa_cons pe_non (pa_cons (pv 3) pa_nil))))))
        pss_nil)
        (pss_cons (ps_if (PW.pt (pw_or (pt_not (pt_chain op_le_str op_le_str pe_str (pv 4) pe_str)) (pw_or1 (pt_cmpR op_eq (pe_callB call_lenZ (by rfl) T.len PySem.boot_len (pa_cons (pv 2) pa_nil)) pe_int (nomark _)))))
        (pss_one (ps_ret (pe_tup (pa_cons pe_non (pa_cons (pv 3) pa_nil)))))
        pss_nil)
        (pss_cons (ps_if (pt_cmpR op_eq (pv 4) pe_str (nomark _))
        (pss_cons (ps_if (pt_cmpR op_ge_str (pv 5) pe_str (nomark _))
          (pss_one (ps_ret (pe_tup (pa_cons pe_non (pa_cons (pv 3) pa_nil)))))
          pss_nil)
          (pss_cons (ps_set (i := 3) scLLot.nd rfl (.inl rfl) (pe_op op_add (pv 3) pe_int))
          (pss_cons (ps_if (PW.pt (pw_or (pt_cmpR op_eq (pv 3) (pe_callB call_lenZ (by rfl) T.len PySem.boot_len (pa_cons (pv 0) pa_nil)) (nomark _)) (pw_or (pt_cmpR op_notInS (pe_ix ix_str (pv 0) (pv 3) (fun _ _ => rfl)) pe_str rfl) (pw_or1 (pt_cmpR op_le_str (pe_ix ix_str (pv 0) (pv 3) (fun _ _ => rfl)) (pv 5) (nomark _))))))
          (pss_one (ps_ret (pe_tup (pa_cons pe_non (pa_cons (pv 3) pa_nil)))))
          pss_nil)
          (pss_one (ps_set (i := 4) scLLot.nd rfl (.inl rfl) (pe_ix ix_str (pv 0) (pv 3) (fun _ _ => rfl)))))))
        (pss_one (ps_if (pt_cmpR op_le_str (pv 4) (pv 5) (nomark _))
          (pss_one (ps_ret (pe_tup (pa_cons pe_non (pa_cons (pv 3) pa_nil)))))
          pss_nil)))
        (pss_cons (ps_set (i := 2) scLLot.nd rfl (.inl rfl) (pe_op op_add_str (pv 2) (pv 4)))
        (pss_one (ps_set (i := 3) scLLot.nd rfl (.inl rfl) (pe_op op_add (pv 3) pe_int))))))))))
      (pss_one (ps_ret (pe_tup (pa_cons pe_non (pa_cons (pv 3) pa_nil)))))))), ?_⟩
    obtain ⟨z, i, rfl, hi, lz, q⟩ := h
    have sz : sizeLine = 16777216 := sizeLine_eq
    have lcz := cod_len z
    refine ⟨.int (i : Nat), rfl, _, _, rfl, rfl, ?_⟩
    dsimp only [tNext, tSeq, tAsg, gName]
    refine ⟨fun m σ H' => ∃ (acc : List Nat) (j : Nat) (u4 u5 : Option V), m = z.length - j ∧ j ≤ z.length ∧ i + 1 ≤ j ∧ acc.length ≤ 20 ∧ σ = [some (.str z), some (.int (i : Nat)), some (.str (SX.S acc)), some (.int (j : Nat)), u4, u5] ∧ H = H' ∧ lotR [] ((cod z).drop (i + 1)) = ((lotR acc ((cod z).drop j)).1, (lotR acc ((cod z).drop j)).2 + (j - (i + 1))), ⟨_, [], i + 1, none, none, rfl, by omega, Nat.le_refl _, by decide, rfl, rfl, by rw [Nat.sub_self]; rfl⟩, ?_⟩
    rintro m σ H' ⟨acc, j, u4, u5, rfl, hj, hij, la, rfl, rfl, inv⟩
    have e1 : ((j : Nat) : Int) + 1 = ((j + 1 : Nat) : Int) := by omega
    have stop : ∀ n, lotR acc ((cod z).drop j) = (none, n) → ∀ t, H t = none → Q (.ref t) (upd H t (.tup [.non, .int ((j + n : Nat) : Int)])) := fun n e t nt => by
      have el : lotP ((cod z).drop (i + 1)) = (none, n + (j - (i + 1))) := by
        unfold lotP
        rw [inv, e]
        rfl
      rw [el] at q
      refine q t .non _ (Same.new nt) ?_ rfl
      rw [upd_same]
      show _ = some (HO.tup [V.non, V.int ((i + (n + (j - (i + 1)) + 1) : Nat) : Int)])
      rw [show i + (n + (j - (i + 1)) + 1) = j + n by omega]
    have dS : (!decide (V.str (SX.S acc) = V.str (Str.ofString ""))) = !decide (acc = []) := by
      rw [dec_str]
      congr 1
      refine decide_eq_decide.mpr ⟨fun e => ?_, fun e => ?_⟩
      · have := congrArg cod e
        rw [show cod (Str.ofString "") = [] by decide +kernel] at this
        exact this
      · rw [e]
        exact cod_inj (by rw [show cod (Str.ofString "") = [] by decide +kernel])
    refine ⟨.int (j : Nat), rfl, .str z, rfl, z, rfl, len5 (by omega), _, _, rfl, rfl, _, rfl, ite2 (fun e => ?_) (fun e => ?_)⟩
    rotate_left
    · have ej : j = z.length := by have : ¬ ((j : Nat) : Int) < (z.length : Int) := fun h => e (decide_eq_true h); omega
      refine ⟨.int (j : Nat), rfl, by show 2 ≤ sizeLine; rw [sz]; decide, fun t nt => ?_⟩
      exact stop 0 (by rw [List.drop_of_length_le (by omega)]; rfl) t nt
    have hn : j < (cod z).length := by have := of_decide_eq_true e; omega
    obtain ⟨c, hc⟩ : ∃ c, (cod z)[j]? = some c := ⟨_, List.getElem?_eq_getElem hn⟩
    have ed : (cod z).drop j = c :: (cod z).drop (j + 1) := by
      rw [List.drop_eq_getElem_cons hn]
      rw [List.getElem?_eq_getElem hn] at hc
      rw [Option.some.inj hc]
    rw [ed] at stop inv
    refine ⟨_, fun σ' H' w => w, ?_⟩
    refine ⟨.str z, rfl, .int (j : Nat), rfl, z, _, c, rfl, rfl, len5 (by omega), atI_nat hc, ?_⟩
    dsimp only [gName, tSeq, tAsg]
    refine (?_ : ∀ R : V → Hp → Prop, R (.str (SX.S (lastL acc))) H → tIf _ _ _ _ H R) _ ?_
    · intro R kk
      refine ⟨.str (SX.S acc), rfl, rfl, _, rfl, ?_⟩
      rw [dS]
      by_cases ne : acc = []
      · rw [decide_eq_true ne]
        refine iteF ?_
        have e : SX.S (lastL acc) = Str.ofString "" := by rw [ne]; exact cod_inj (by rw [show cod (Str.ofString "") = [] by decide +kernel]; rfl)
        rw [e] at kk
        exact kk
      · rw [decide_eq_false ne]
        obtain ⟨x, el, ex⟩ := last_one ne
        rw [el] at kk
        obtain ⟨a', x', ea⟩ := snoc_of ne
        have ex' : x' = x := by rw [ea, List.getLast?_concat] at ex; exact Option.some.inj ex
        refine iteT ⟨.str (SX.S acc), rfl, _, rfl, SX.S acc, -1, x, rfl, rfl, len5 (by show acc.length ≤ 5000; omega), ?_, kk⟩
        show atI acc (-1) = some x
        rw [ea, ex']
        exact atI_last _ _
    refine ⟨.str (sn c), rfl, rfl, _, rfl, ?_⟩
    rw [show decide (V.str (sn c) = V.str (Str.ofString "]")) = decide (c = 93) by rw [rb_sn, sn_inj]]
    refine ite2 (fun e93 => ?_) (fun e93 => ?_)
    · have h93 := of_decide_eq_true e93
      subst h93
      refine ⟨.str (SX.S acc), rfl, rfl, _, rfl, ?_⟩
      rw [dS]
      by_cases ne : acc = []
      · rw [decide_eq_true ne]
        refine iteF ⟨.int (j : Nat), rfl, by show 2 ≤ sizeLine; rw [sz]; decide, fun t nt => ?_⟩
        exact stop 0 (by rw [lotR_cons, if_pos rfl, if_pos ne]) t nt
      · rw [decide_eq_false ne]
        have er : lotP ((cod z).drop (i + 1)) = (some (.lot acc), 1 + (j - (i + 1))) := by
          unfold lotP
          rw [inv, lotR_cons, if_pos rfl, if_neg ne]
          rfl
        rw [er] at q
        refine iteT ⟨.str (SX.S acc), rfl, by show 2 ≤ sizeLine; rw [sz]; decide, fun t nt => ?_⟩
        have kt := Same.new (H := H) (o := .tup [.str "lot", .str (SX.S acc)]) nt
        refine ⟨.int (j : Nat), rfl, _, _, rfl, rfl, by show 2 ≤ sizeLine; rw [sz]; decide, fun u nu => ?_⟩
        have ku := Same.new (o := .tup [.ref t, .int (((j : Nat) : Int) + 1)]) nu
        exact q u (.ref t) _ (kt.trans ku) (by rw [upd_same]; show _ = some (HO.tup [V.ref t, V.int ((i + (1 + (j - (i + 1)) + 1) : Nat) : Int)]); rw [show i + (1 + (j - (i + 1)) + 1) = j + 1 by omega]; rfl) ⟨t, rfl, ku _ _ upd_same⟩
    have h93 : c ≠ 93 := fun h => e93 (decide_eq_true h)
    dsimp only [tNext, tDrop, tSeq, gName]
    refine (?_ : ∀ Qk : Bool → Hp → Prop, Qk (decide (sgC c = false ∨ acc.length = 20)) H → tOr _ _ _ H Qk) _ ?_
    · intro Qk kk
      have eL : decide (((SX.S acc).length : Int) = 20) = decide (acc.length = 20) := decide_eq_decide.mpr (by show ((acc.length : Nat) : Int) = 20 ↔ _; omega)
      refine ⟨.str (sn c), rfl, _, _, rfl, rfl, ?_⟩
      rw [le_lo]
      have rest : (sgC c = true → Qk (decide (acc.length = 20)) H) := fun hs => by
        rw [show decide (sgC c = false ∨ acc.length = 20) = decide (acc.length = 20) from decide_eq_decide.mpr ⟨fun h => h.elim (fun z => by rw [hs] at z; cases z) id, .inr⟩] at kk
        exact kk
      have bad : sgC c = false → Qk true H := fun hs => by
        rw [decide_eq_true (.inl hs)] at kk
        exact kk
      refine ⟨_, rfl, ite2 (fun e => ?_) (fun e => ?_)⟩
      · refine ⟨_, _, rfl, rfl, ?_⟩
        rw [le_hi]
        have es : sgC c = decide (c ≤ 126) := by unfold sgC; rw [e, Bool.true_and]
        rw [← es]
        refine ⟨_, rfl, ?_⟩
        cases hs : sgC c with
        | false => exact bad hs
        | true =>
          refine ⟨.str (SX.S acc), rfl, _, rfl, len5 (by show acc.length ≤ 5000; omega), rfl, _, rfl, ?_⟩
          rw [dec_int, eL]
          exact rest hs
      · have es : sgC c = false := by unfold sgC; rw [show decide (32 ≤ c) = false by simpa using e, Bool.false_and]
        exact ⟨false, rfl, bad es⟩
    refine ite2 (fun e2 => ?_) (fun e2 => ?_)
    · refine ⟨.int (j : Nat), rfl, by show 2 ≤ sizeLine; rw [sz]; decide, fun t nt => ?_⟩
      exact stop 0 (by rw [lotR_cons, if_neg h93, if_pos (of_decide_eq_true e2)]) t nt
    have n2 : ¬ (sgC c = false ∨ acc.length = 20) := fun h => e2 (decide_eq_true h)
    have l20 : acc.length ≠ 20 := fun h => n2 (.inr h)
    have sc : sgC c = true := by
      cases h : sgC c with
      | true => rfl
      | false => exact absurd (.inl h) n2
    refine ⟨.str (sn c), rfl, rfl, _, rfl, ?_⟩
    rw [show decide (V.str (sn c) = V.str (Str.ofString "\\")) = decide (c = 92) by rw [bs_sn, sn_inj]]
    refine ite2 (fun e92 => ?_) (fun e92 => ?_)
    · have h92 := of_decide_eq_true e92
      subst h92
      refine ⟨.str (SX.S (lastL acc)), rfl, _, _, rfl, rfl, _, rfl, ?_⟩
      rw [show (SX.S (lastL acc)).cps.toList = lastL acc from rfl, show (Str.ofString "]").cps.toList = [93] from (by decide +kernel : cod (Str.ofString "]") = [93]), lastL_lt acc (by decide)]
      by_cases l93 : lastN acc < 93
      rotate_left
      · rw [decide_eq_false l93]
        refine iteT ⟨.int (j : Nat), rfl, by show 2 ≤ sizeLine; rw [sz]; decide, fun t nt => ?_⟩
        exact stop 0 (by rw [lotR_cons, if_neg h93, if_neg n2, if_pos rfl, if_pos (by omega)]) t nt
      rw [decide_eq_true l93]
      refine iteF ⟨.int (j : Nat), rfl, _, _, rfl, rfl, ?_⟩
      dsimp only [gName]
      rw [e1]
      by_cases hn2 : j + 1 < (cod z).length
      rotate_left
      · have ed2 : (cod z).drop (j + 1) = [] := List.drop_of_length_le (by omega)
        rw [ed2] at stop
        refine ⟨.int ((j + 1 : Nat) : Int), rfl, .str z, rfl, z, rfl, len5 (by omega), rfl, _, rfl, ?_⟩
        rw [dec_int, decide_eq_true (show ((j + 1 : Nat) : Int) = (z.length : Int) by omega)]
        refine iteT ⟨.int ((j + 1 : Nat) : Int), rfl, by show 2 ≤ sizeLine; rw [sz]; decide, fun t nt => ?_⟩
        exact stop 1 (by rw [lotR_cons, if_neg h93, if_neg n2, if_pos rfl, if_neg (by omega)]) t nt
      obtain ⟨d, hd⟩ : ∃ d, (cod z)[j + 1]? = some d := ⟨_, List.getElem?_eq_getElem hn2⟩
      have ed2 : (cod z).drop (j + 1) = d :: (cod z).drop (j + 1 + 1) := by
        rw [List.drop_eq_getElem_cons hn2]
        rw [List.getElem?_eq_getElem hn2] at hd
        rw [Option.some.inj hd]
      rw [ed2] at stop inv
      have mark : lotR acc (92 :: d :: (cod z).drop (j + 1 + 1)) = if (d = 93 ∨ d = 92) ∧ lastN acc < d then ((lotR (acc ++ [d]) ((cod z).drop (j + 1 + 1))).1, (lotR (acc ++ [d]) ((cod z).drop (j + 1 + 1))).2 + 2) else (none, 1) := by
        rw [lotR_cons, if_neg h93, if_neg n2, if_pos rfl, if_neg (by omega)]
      refine (?_ : ∀ Qk : Bool → Hp → Prop, Qk (!decide ((d = 93 ∨ d = 92) ∧ lastN acc < d)) H → tOr _ _ _ H Qk) _ ?_
      · intro Qk kk
        refine ⟨.int ((j + 1 : Nat) : Int), rfl, .str z, rfl, z, rfl, len5 (by omega), rfl, _, rfl, ?_⟩
        rw [dec_int, decide_eq_false (show ¬ ((j + 1 : Nat) : Int) = (z.length : Int) by omega)]
        refine iteF ⟨.str z, rfl, .int ((j + 1 : Nat) : Int), rfl, z, _, d, rfl, rfl, len5 (by omega), atI_nat hd, d, _, rfl, rfl, _, rfl, ?_⟩
        rw [show (Str.ofString "]\\").cps.toList = [93, 92] from (by decide +kernel : cod (Str.ofString "]\\") = [93, 92])]
        by_cases hm : d ∈ [93, 92]
        rotate_left
        · rw [decide_eq_false hm]
          rw [decide_eq_false (fun e => hm (by rcases e.1 with h | h <;> rw [h] <;> decide))] at kk
          exact iteT kk
        rw [decide_eq_true hm]
        refine iteF ⟨.str z, rfl, .int ((j + 1 : Nat) : Int), rfl, z, _, d, rfl, rfl, len5 (by omega), atI_nat hd, .str (SX.S (lastL acc)), rfl, _, _, rfl, rfl, _, rfl, ?_⟩
        have d0 : 0 < d := by rcases (show d = 93 ∨ d = 92 by simpa using hm) with h | h <;> rw [h] <;> decide
        rw [show (SX.S (lastL acc)).cps.toList = lastL acc from rfl, show (Str.mk #[d]).cps.toList = [d] from rfl, lastL_lt acc d0]
        rw [show decide ((d = 93 ∨ d = 92) ∧ lastN acc < d) = decide (lastN acc < d) from decide_eq_decide.mpr ⟨fun h => h.2, fun h => ⟨by simpa using hm, h⟩⟩] at kk
        exact kk
      by_cases hd2 : (d = 93 ∨ d = 92) ∧ lastN acc < d
      rotate_left
      · rw [decide_eq_false hd2]
        refine iteT ⟨.int ((j + 1 : Nat) : Int), rfl, by show 2 ≤ sizeLine; rw [sz]; decide, fun t nt => ?_⟩
        exact stop 1 (by rw [mark, if_neg hd2]) t nt
      rw [decide_eq_true hd2]
      refine iteF ⟨.str z, rfl, .int ((j + 1 : Nat) : Int), rfl, z, _, d, rfl, rfl, len5 (by omega), atI_nat hd, ?_⟩
      refine ⟨.str (SX.S acc), rfl, .str (sn d), rfl, _, _, rfl, rfl, (by rw [sz]; show acc.length + 1 ≤ _; omega), .int ((j + 1 : Nat) : Int), rfl, _, _, rfl, rfl, z.length - ((j + 1) + 1), by omega, acc ++ [d], (j + 1) + 1, some (.str (sn d)), some (.str (SX.S (lastL acc))), rfl, by omega, by omega, (by rw [List.length_append]; show acc.length + 1 ≤ 20; omega), (by rw [app_sn]; rfl), rfl, ?_⟩
      rw [inv, mark, if_pos hd2]
      exact Prod.ext rfl (by show _ + 2 + (j - (i + 1)) = _ + (j + 1 + 1 - (i + 1)); omega)
    · have h92 : c ≠ 92 := fun h => e92 (decide_eq_true h)
      refine ⟨.str (sn c), rfl, .str (SX.S (lastL acc)), rfl, _, _, rfl, rfl, _, rfl, ?_⟩
      rw [show (SX.S (lastL acc)).cps.toList = lastL acc from rfl, show (sn c).cps.toList = [c] from rfl, lastL_lt acc (sg_pos sc)]
      by_cases lt : lastN acc < c
      rotate_left
      · rw [decide_eq_false lt]
        refine iteT ⟨.int (j : Nat), rfl, by show 2 ≤ sizeLine; rw [sz]; decide, fun t nt => ?_⟩
        exact stop 0 (by rw [lotR_cons, if_neg h93, if_neg n2, if_neg h92, if_neg lt]) t nt
      rw [decide_eq_true lt]
      refine iteF ⟨.str (SX.S acc), rfl, .str (sn c), rfl, _, _, rfl, rfl, (by rw [sz]; show acc.length + 1 ≤ _; omega), .int (j : Nat), rfl, _, _, rfl, rfl, z.length - (j + 1), by omega, acc ++ [c], j + 1, some (.str (sn c)), some (.str (SX.S (lastL acc))), rfl, by omega, by omega, (by rw [List.length_append]; show acc.length + 1 ≤ 20; omega), (by rw [app_sn]; rfl), rfl, ?_⟩
      rw [inv, lotR_cons, if_neg h93, if_neg n2, if_neg h92, if_pos lt]
      exact Prod.ext rfl (by show _ + 1 + (j - (i + 1)) = _ + (j + 1 - (i + 1)); omega)

end
end LawK
set_option maxHeartbeats 4000000
namespace LawK
open PySem PySem.Spec PyProof.Rows L2 Ev

def ONum (v : V) : Option Nat → Prop
  | none => v = .non
  | some a => v = .int (a : Nat)
def spNumerals : Sp := fun vs H Q _ => ∃ l : Nat, vs = [.int (l : Nat)] ∧ l ≤ 20 ∧ ∀ D H', Same H H' → H D = none → H' D = some (.lst (((List.range' l (21 - l)).map fun n : Nat => numZ (n : Int)).map V.str)) → Q (.ref D) H'
def spNumeral : Sp := fun vs H Q _ => ∃ (z : Str) (i l cl : Nat), vs = [.str z, .int (i : Nat), .int (l : Nat), .str (sn cl)] ∧ i ≤ z.length ∧ z.length ≤ 2000 ∧ l ≤ 20 ∧ (cl = 44 ∨ cl = 125) ∧
  ∀ t v H', Same H H' → H' t = some (.tup [v, .int ((i + (bndR l cl ((cod z).drop i)).2 : Nat) : Int)]) → ONum v (bndR l cl ((cod z).drop i)).1 → Q (.ref t) H'
def spLGap : Sp := fun vs H Q _ => ∃ (z : Str) (i : Nat), vs = [.str z, .int (i : Nat)] ∧ i < z.length ∧ z.length ≤ 2000 ∧ Ld H i ((gapR ((cod z).drop (i + 1))).1, (gapR ((cod z).drop (i + 1))).2 + 1) Q
section
variable {P : Program} {w : World} {K : PySem.W.Frag} {mg : Str → Option Value} {base : Heap}

abbrev sLNumerals : Stmt := topS 41
theorem scLNumerals : FnScope ["least", "number"] ["least"] (defScope sLNumerals) := ⟨rfl, rfl, rfl, by decide +kernel, rfl, by decide +kernel, by decide +kernel⟩
theorem ok_LNumerals {f : Addr} {fd : FuncData} (F : Fun K "_law_numerals" "_law_numerals" sLNumerals f fd)   (T : Glob mg) : FnOk P w K mg base CX0 1 f fd ["least"] spNumerals := by
  refine F.ok scLNumerals (fun vs H Q E h => ?_) (fun cdv A outer s H vs Q E hr h => ?_)
  · obtain ⟨l, rfl, _⟩ := h
    rfl
  · refine ⟨_, (pss_one (ps_ret (pe_lc (own := [("number", 1)]) (g := gName 1) (by rfl) scLNumerals.nd (pi_range2 (by rfl) T.range (pa_cons (pv 0) (pa_cons pe_int pa_nil))) (blkOk_by (N := ["least", "number"]) (sc := defScope sLNumerals) (by decide +kernel)) (fun _ _ _ _ _ => pg_name (i := 1) scLNumerals.nd rfl (.inl rfl)) (fun _ _ _ _ _ => pts_nil) (fun _ _ _ _ _ => (pe_callTy call_str_int (by rfl) T.str (by decide +kernel) (pa_cons (pv 1) pa_nil)))))), ?_⟩
    obtain ⟨l, rfl, hl, q⟩ := h
    have sz : sizeLine = 16777216 := sizeLine_eq
    refine ⟨.int (l : Nat), rfl, ((l : Nat) : Int), 21, rfl, ⟨by omega, by omega, by omega, by omega⟩, fun D nD => lc_range (fun k H' => Same H H' ∧ H' D = some (.lst (((List.range' l k).map fun n : Nat => numZ (n : Int)).map V.str))) ⟨Same.new nD, upd_same⟩ ?_ ?_⟩
    · rintro k H1 hk ⟨k1, hD⟩
      refine ⟨rfl, .int (((l : Nat) : Int) + (k : Nat)), rfl, _, rfl, ?_, _, hD, ?_, sameAt k1 nD, ?_⟩
      · rw [show (((l : Nat) : Int) + (k : Nat)) = ((l + k : Nat) : Int) by omega]
        exact small_log (by omega)
      · rw [List.length_map, List.length_map, List.length_range']
        omega
      · rw [upd_same, List.range'_1_concat, List.map_append, List.map_append]
        rfl
    rintro H0 ⟨k0, hD0⟩
    rw [show ((21 : Int) - ((l : Nat) : Int)).toNat = 21 - l by omega] at hD0
    exact q D H0 k0 nD hD0

abbrev sLNumeral : Stmt := topS 42
theorem scLNumeral : FnScope ["text", "at", "least", "close", "some", "here", "word", "numeral"] ["text", "at", "least", "close"] (defScope sLNumeral) := ⟨rfl, rfl, rfl, by decide +kernel, rfl, by decide +kernel, by decide +kernel⟩
theorem ok_LNumeral {f : Addr} {fd : FuncData} (F : Fun K "_law_numeral" "_law_numeral" sLNumeral f fd)  {fLNumerals : Addr} {fdLNumerals : FuncData} (DLNumerals : Dk P w K mg base "_law_numerals" sLNumerals ["least"] 1 spNumerals fLNumerals fdLNumerals) (T : Glob mg) : FnOk P w K mg base CX0 2 f fd ["text", "at", "least", "close"] spNumeral := by
  refine F.ok scLNumeral (fun vs H Q E h => ?_) (fun cdv A outer s H vs Q E hr h => ?_)
  · obtain ⟨z, i, l, cl, rfl, _⟩ := h
    rfl
  · refine ⟨_, (pss_cons (ps_set (i := 4) scLNumeral.nd rfl (.inl rfl) (pe_call DLNumerals.ok (hr.mono (by decide)) (by rfl) DLNumerals.g DLNumerals.F.kp DLNumerals.b .nil pass0 (pa_cons (pv 2) pa_nil)))
      (pss_cons (ps_set (i := 5) scLNumeral.nd rfl (.inr rfl) (pv 1))
      (pss_cons (ps_while PassesOwn.never (pt_cmpR op_lt (pv 5) (pe_callB call_lenZ (by rfl) T.len PySem.boot_len (pa_cons (pv 0) pa_nil)) (nomark _))
      (pss_cons (ps_set (i := 6) scLNumeral.nd rfl (.inr rfl) (pe_slice sl_str (pv 0) (po_some (pv 1)) (po_some (pv 5))))
        (pss_cons (ps_if (PW.pt (pw_and (pt_cmpR op_eq (pe_ix ix_str (pv 0) (pv 5) (fun _ _ => rfl)) (pv 3) (nomark _)) (pw_and1 (pt_cmpR (op_inD (room1 hr)) (pv 6) (pv 4) rfl))))
        (pss_one (ps_ret (pe_tup (pa_cons (pe_callTy call_int_str (by rfl) T.int (by decide +kernel) (pa_cons (pv 6) pa_nil)) (pa_cons (pe_op op_add (pv 5) pe_int) pa_nil)))))
        pss_nil)
        (pss_cons (ps_if (pt_not (pt_val (pe_callB (cr_any rfl) (by rfl) T.any (by decide +kernel) (pa_cons (pe_lc (own := [("numeral", 7)]) (g := gName 7) (by rfl) scLNumeral.nd (pi_list (pv 4)) (blkOk_by (N := ["text", "at", "least", "close", "some", "here", "word", "numeral"]) (sc := defScope sLNumeral) (by decide +kernel)) (fun _ _ _ _ _ => pg_name (i := 7) scLNumeral.nd rfl (.inl rfl)) (fun _ _ _ _ _ => pts_nil) (fun _ _ _ _ _ => (pe_cmpR op_eq (pe_slice sl_str (pv 7) po_none (po_some (pe_op op_add (pe_callB call_lenZ (by rfl) T.len PySem.boot_len (pa_cons (pv 6) pa_nil)) pe_int))) (pe_op op_add_str (pv 6) (pe_ix ix_str (pv 0) (pv 5) (fun _ _ => rfl))) (nomark _)))) pa_nil))))
        (pss_one (ps_ret (pe_tup (pa_cons pe_non (pa_cons (pv 5) pa_nil)))))
        pss_nil)
        (pss_one (ps_set (i := 5) scLNumeral.nd rfl (.inr rfl) (pe_op op_add (pv 5) pe_int)))))))
      (pss_one (ps_ret (pe_tup (pa_cons pe_non (pa_cons (pv 5) pa_nil)))))))), ?_⟩
    obtain ⟨z, i, l, cl, rfl, hi, lz, hl, hcl, q⟩ := h
    have sz : sizeLine = 16777216 := sizeLine_eq
    have lcz := cod_len z
    refine ⟨.int (l : Nat), rfl, l, rfl, hl, fun D H0 k0 nD hD0 => ?_⟩
    have hbs : bds l = ((List.range' l (21 - l)).map fun n : Nat => numZ (n : Int)).map cod := by
      unfold bds
      rw [List.map_map]
      rfl
    have nm := shn_all l (by omega)
    generalize ebz : (List.range' l (21 - l)).map (fun n : Nat => numZ (n : Int)) = bz at hD0 hbs nm
    have lbz : bz.length ≤ 21 := by rw [← ebz, List.length_map, List.length_range']; omega
    have dig : ∀ b ∈ bds l, b ≠ [] ∧ b.length ≤ 4 ∧ ∀ c ∈ b, 48 ≤ c ∧ c ≤ 57 := fun b hb => by
      obtain ⟨n, hn, rfl⟩ := List.mem_map.mp hb
      have hn' := List.mem_range'_1.mp hn
      exact ⟨num_ne n, fig_len (by omega), num_dig n⟩
    dsimp only [tNext, tSeq, tAsg, gName]
    refine ⟨.int (i : Nat), rfl, ?_⟩
    dsimp only [tNext, tSeq, tAsg, gName]
    refine ⟨fun m σ H' => ∃ (acc : List Nat) (j : Nat) (u6 u7 : Option V), m = z.length - j ∧ j ≤ z.length ∧ i ≤ j ∧ acc = ((cod z).drop i).take (j - i) ∧ σ = [some (.str z), some (.int (i : Nat)), some (.int (l : Nat)), some (.str (sn cl)), some (.ref D), some (.int (j : Nat)), u6, u7] ∧ Same H H' ∧ H' D = some (.lst (bz.map V.str)) ∧ (acc = [] ∨ ∃ b ∈ bds l, acc <+: b) ∧ numR (bds l) cl [] ((cod z).drop i) = ((numR (bds l) cl acc ((cod z).drop j)).1, (numR (bds l) cl acc ((cod z).drop j)).2 + (j - i)), ⟨_, [], i, _, _, rfl, hi, Nat.le_refl i, by rw [Nat.sub_self]; rfl, rfl, k0, hD0, .inl rfl, by rw [Nat.sub_self]; rfl⟩, ?_⟩
    rintro m σ H1 ⟨acc, j, u6, u7, rfl, hj, hij, eacc, rfl, k1, hD1, hacc, inv⟩
    have dacc : ∀ c ∈ acc, 48 ≤ c ∧ c ≤ 57 := fun c hc => by
      rcases hacc with e | ⟨b, hb, pb⟩
      · rw [e] at hc; cases hc
      · exact (dig b hb).2.2 c (pb.subset hc)
    have lacc : acc.length ≤ 4 := by
      rcases hacc with e | ⟨b, hb, pb⟩
      · rw [e]; decide
      · exact Nat.le_trans pb.length_le (dig b hb).2.1
    have sgacc : sgB (SX.S acc) = true := List.all_eq_true.mpr fun c hc => by
      have := dacc c hc
      unfold sgC
      rw [decide_eq_true (by omega), decide_eq_true (by omega)]
      rfl
    have stop : ∀ H2, Same H H2 → numR (bds l) cl acc ((cod z).drop j) = (none, 0) → ∀ t, H2 t = none → Q (.ref t) (upd H2 t (.tup [.non, .int (j : Nat)])) := fun H2 k2 e t nt => by
      have el : bndR l cl ((cod z).drop i) = (none, 0 + (j - i)) := by
        unfold bndR
        rw [inv, e]
        rfl
      rw [el] at q
      refine q t .non _ (k2.trans (Same.new nt)) ?_ rfl
      rw [upd_same]
      show _ = some (HO.tup [V.non, V.int ((i + (0 + (j - i)) : Nat) : Int)])
      rw [show i + (0 + (j - i)) = j by omega]
    have inb : (bz.map PyData.str).any (fun y => PyData.eqv y (.str (SX.S acc))) = decide (acc ∈ bds l) := by
      rw [hbs, List.any_map]
      refine Bool.eq_iff_iff.mpr ?_
      rw [List.any_eq_true, decide_eq_true_iff, List.mem_map]
      constructor
      · rintro ⟨y, hy, e⟩
        have e : (y == SX.S acc) = true := e
        exact ⟨y, hy, by rw [eq_of_beq e]⟩
      · rintro ⟨y, hy, e⟩
        refine ⟨y, hy, ?_⟩
        show (y == SX.S acc) = true
        rw [show y = SX.S acc from cod_inj e]
        exact beq_self_eq_true _
    have shA : SeqAt.shaped (.str (SX.S acc)) = true := sh_str (strOk_sg sgacc)
    have dpa : ∀ H2, H2 D = some (.lst (bz.map V.str)) → Dp K H2 (.ref D) (.list (bz.map PyData.str)) := fun H2 h2 => .lst (sq_of h2) (dp_strs bz)
    refine ⟨.int (j : Nat), rfl, .str z, rfl, z, rfl, len5 (by omega), _, _, rfl, rfl, _, rfl, ite2 (fun e => ?_) (fun e => ?_)⟩
    rotate_left
    · have ej : j = z.length := by have : ¬ ((j : Nat) : Int) < (z.length : Int) := fun h => e (decide_eq_true h); omega
      refine ⟨.int (j : Nat), rfl, by show 2 ≤ sizeLine; rw [sz]; decide, fun t nt => ?_⟩
      exact stop H1 k1 (by rw [List.drop_of_length_le (by omega)]; rfl) t nt
    have hn : j < (cod z).length := by have := of_decide_eq_true e; omega
    obtain ⟨c, hc⟩ : ∃ c, (cod z)[j]? = some c := ⟨_, List.getElem?_eq_getElem hn⟩
    have ed : (cod z).drop j = c :: (cod z).drop (j + 1) := by
      rw [List.drop_eq_getElem_cons hn]
      rw [List.getElem?_eq_getElem hn] at hc
      rw [Option.some.inj hc]
    refine ⟨_, fun σ' H' w => w, ?_⟩
    have eW : cutS z (some ((i : Nat) : Int)) (some ((j : Nat) : Int)) = SX.S acc := cod_inj (by
      show (cutS z _ _).cps.toList = acc
      rw [cutS_of (by omega) (by omega), eacc, show ((i : Nat) : Int).toNat = i by omega, show (((j : Nat) : Int) - ((i : Nat) : Int)).toNat = j - i by omega])
    refine ⟨.str z, rfl, .int (i : Nat), rfl, _, rfl, .int (j : Nat), rfl, _, rfl, z, rfl, len5 (by omega), ?_⟩
    rw [eW]
    dsimp only [tNext, tSeq, tAsg, gName]
    refine (?_ : ∀ Qk : Bool → Hp → Prop, Qk (decide (c = cl ∧ acc ∈ bds l)) H1 → tAnd _ _ _ H1 Qk) _ ?_
    · intro Qk kk
      refine ⟨.str z, rfl, .int (j : Nat), rfl, z, _, c, rfl, rfl, len5 (by omega), atI_nat hc, .str (sn cl), rfl, rfl, _, rfl, ?_⟩
      rw [sn_inj]
      refine ite2 (fun e => ?_) (fun e => ?_)
      · refine ⟨.str (SX.S acc), rfl, .ref D, rfl, .str (SX.S acc), bz.map PyData.str, .str _, dpa H1 hD1, shA, nm, _, rfl, ?_⟩
        rw [inb]
        rw [show decide (c = cl ∧ acc ∈ bds l) = decide (acc ∈ bds l) from decide_eq_decide.mpr ⟨fun h => h.2, fun h => ⟨of_decide_eq_true e, h⟩⟩] at kk
        exact kk
      · rw [decide_eq_false (fun h => e (decide_eq_true h.1))] at kk
        exact kk
    refine ite2 (fun e => ?_) (fun e => ?_)
    · obtain ⟨hcc, hin⟩ := of_decide_eq_true e
      have er : bndR l cl ((cod z).drop i) = (some (val acc), 1 + (j - i)) := by
        unfold bndR
        rw [inv, ed, numR, if_pos ⟨hcc, hin⟩]
        rfl
      rw [er] at q
      have dgA : dgB (SX.S acc) = true := by
        unfold dgB
        have l0 : 0 < acc.length := List.length_pos_iff.mpr (dig acc hin).1
        rw [decide_eq_true (show (((SX.S acc).length : Nat) : Int) > 0 by show ((acc.length : Nat) : Int) > 0; omega), Bool.true_and]
        exact List.all_eq_true.mpr fun c hc => by
          have := dacc c hc
          rw [decide_eq_true this.1, decide_eq_true this.2]
          rfl
      refine ⟨.str (SX.S acc), rfl, SX.S acc, _, rfl, fig_int dgA (by show acc.length ≤ 640; omega), (by show acc.length ≤ 640; omega), ?_⟩
      refine ⟨.int (j : Nat), rfl, _, _, rfl, rfl, by show 2 ≤ sizeLine; rw [sz]; decide, fun u nu => ?_⟩
      have ku := Same.new (o := .tup [.int ((figN (SX.S acc) : Nat) : Int), .int (((j : Nat) : Int) + 1)]) nu
      exact q u (.int (val acc : Nat)) _ (k1.trans ku) (by rw [upd_same]; show _ = some (HO.tup [V.int ((val acc : Nat) : Int), V.int ((i + (1 + (j - i)) : Nat) : Int)]); rw [show i + (1 + (j - i)) = j + 1 by omega]; rfl) rfl
    have nc : ¬ (c = cl ∧ acc ∈ bds l) := fun h => e (decide_eq_true h)
    dsimp only [tNext, tSeq, tAsg, gName]
    refine ⟨.ref D, rfl, D, rfl, ⟨_, sq_of hD1⟩, fun G nG => lc_list (K := K) (xs := bz.map V.str) (fun k H' => Same H1 H' ∧ H' G = some (.lst (((bz.take k).map fun b => (acc ++ [c]).isPrefixOf (cod b)).map V.bl))) ⟨Same.new nG, upd_same⟩ (fun k H' _ g => sq_of (g.1 _ _ hD1)) ?_ ?_⟩
    · rintro k x H2 hx ⟨k2, hG⟩
      rw [List.getElem?_map] at hx
      obtain ⟨b, hb, rfl⟩ := Option.map_eq_some_iff.mp hx
      have hk := (List.getElem?_eq_some_iff.mp hb).1
      have lb : b.length ≤ 4 := by
        rw [← cod_len]
        exact (dig (cod b) (by rw [hbs]; exact List.mem_map_of_mem (List.mem_of_getElem? hb))).2.1
      refine ⟨rfl, .str b, rfl, .str (SX.S acc), rfl, SX.S acc, rfl, len5 (by show acc.length ≤ 5000; omega), _, _, rfl, rfl, _, rfl, b, rfl, len5 (by omega), .str (SX.S acc), rfl, .str z, rfl, .int (j : Nat), rfl, z, _, c, rfl, rfl, len5 (by omega), atI_nat hc, SX.S acc, sn c, rfl, rfl, (by rw [sz]; show acc.length + 1 ≤ _; omega), rfl, _, hG, ?_, sameAt k2 nG, ?_⟩
      · rw [List.length_map, List.length_map, List.length_take]
        omega
      · have ec : decide (V.str (cutS b none (some (((SX.S acc).length : Int) + 1))) = V.str (SX.S acc ++ sn c)) = (acc ++ [c]).isPrefixOf (cod b) := by
          rw [dec_str]
          refine Bool.eq_iff_iff.mpr ?_
          rw [decide_eq_true_iff, List.isPrefixOf_iff_prefix, List.prefix_iff_eq_take]
          have e2 : cod (cutS b none (some (((SX.S acc).length : Int) + 1))) = (cod b).take (acc ++ [c]).length := by
            show (cutS b _ _).cps.toList = _
            rw [cutS_to (by omega), List.length_append]
            rfl
          constructor
          · intro h
            have := congrArg cod h
            rw [e2, cod_app] at this
            exact this.symm
          · intro h
            exact cod_inj (by rw [e2, cod_app]; exact h.symm)
        rw [upd_same, List.take_succ, hb, Option.toList_some, List.map_append, List.map_append, ec]
        rfl
    rintro H2 ⟨k2, hG⟩
    rw [List.length_map, List.take_length] at hG
    refine ⟨G, bz.map fun b => (acc ++ [c]).isPrefixOf (cod b), rfl, sq_of hG, _, rfl, ?_⟩
    have ea : (bz.map fun b => (acc ++ [c]).isPrefixOf (cod b)).any id = (bds l).any (fun b => (acc ++ [c]).isPrefixOf b) := by
      rw [hbs, List.any_map, List.any_map]
      rfl
    rw [ea]
    cases hany : (bds l).any (fun b => (acc ++ [c]).isPrefixOf b) with
    | false =>
      refine iteT ⟨.int (j : Nat), rfl, by show 2 ≤ sizeLine; rw [sz]; decide, fun t nt => ?_⟩
      exact stop H2 (k1.trans k2) (by rw [ed, numR, if_neg nc, if_neg (by rw [hany]; exact Bool.false_ne_true)]) t nt
    | true =>
      obtain ⟨b, hb, pb⟩ := List.any_eq_true.mp hany
      have pb : acc ++ [c] <+: b := List.isPrefixOf_iff_prefix.mp pb
      refine iteF ⟨.int (j : Nat), rfl, _, _, rfl, rfl, z.length - (j + 1), by omega, acc ++ [c], j + 1, some (.str (SX.S acc)), u7, rfl, by omega, by omega, ?_, rfl, k1.trans k2, k2 _ _ hD1, .inr ⟨b, hb, pb⟩, ?_⟩
      · rw [show j + 1 - i = (j - i) + 1 by omega, List.take_succ, ← eacc, List.getElem?_drop, show i + (j - i) = j by omega, hc]
        rfl
      · rw [inv, ed, numR, if_neg nc, if_pos hany]
        exact Prod.ext rfl (by show _ + 1 + (j - i) = _ + (j + 1 - i); omega)

end
end LawK
set_option maxHeartbeats 4000000
namespace LawK
open PySem PySem.Spec PyProof.Rows L2 Ev

def spLOne : Sp := fun vs H Q _ => ∃ (z : Str) (i many : Nat) (g : Bool), vs = [.str z, .int (i : Nat), .int (many : Nat), .bl g] ∧ i < z.length ∧ z.length ≤ 2000 ∧ Ld H i (partR many g ((cod z).drop i)) Q
def spLTold : Sp := fun vs H Q _ => ∃ (z : Str), vs = [.str z] ∧ z.length ≤ 2000 ∧
  (∀ t u us ps H', toldR (cod z) = (some ps, -1) → Same H H' → H' t = some (.tup [.ref u, .int (-1)]) → H' u = some (.tup us) → All2 (PrtAt H') us ps → Q (.ref t) H') ∧
  (∀ t n H', toldR (cod z) = (none, n) → Same H H' → H' t = some (.tup [.non, .int n]) → Q (.ref t) H')
section
variable {P : Program} {w : World} {K : PySem.W.Frag} {mg : Str → Option Value} {base : Heap}

abbrev sLGap : Stmt := topS 43
theorem scLGap : FnScope ["text", "at", "least", "here", "most"] ["text", "at"] (defScope sLGap) := ⟨rfl, rfl, rfl, by decide +kernel, rfl, by decide +kernel, by decide +kernel⟩
theorem ok_LGap {f : Addr} {fd : FuncData} (F : Fun K "_law_gap" "_law_gap" sLGap f fd)  {fLNumeral : Addr} {fdLNumeral : FuncData} (DLNumeral : Dk P w K mg base "_law_numeral" sLNumeral ["text", "at", "least", "close"] 2 spNumeral fLNumeral fdLNumeral) (T : Glob mg) : FnOk P w K mg base CX0 3 f fd ["text", "at"] spLGap := by
  refine F.ok scLGap (fun vs H Q E h => ?_) (fun cdv A outer s H vs Q E hr h => ?_)
  · obtain ⟨z, i, rfl, _⟩ := h
    rfl
  · refine ⟨_, (pss_cons (ps_asg (pe_call DLNumeral.ok (hr.mono (by decide)) (by rfl) DLNumeral.g DLNumeral.F.kp DLNumeral.b .nil pass0 (pa_cons (pv 0) (pa_cons (pe_op op_add (pv 1) pe_int) (pa_cons pe_int (pa_cons pe_str pa_nil))))) (pg_tup (by rfl) (pgs_cons (pg_name (i := 2) scLGap.nd rfl (.inl rfl)) (pgs_cons (pg_name (i := 3) scLGap.nd rfl (.inl rfl)) pgs_nil))))
      (pss_cons (ps_if (pt_cmpR op_isN (pv 2) pe_non (nomark _))
      (pss_one (ps_ret (pe_tup (pa_cons pe_non (pa_cons (pv 3) pa_nil)))))
      pss_nil)
      (pss_cons (ps_asg (pe_call DLNumeral.ok (hr.mono (by decide)) (by rfl) DLNumeral.g DLNumeral.F.kp DLNumeral.b .nil pass0 (pa_cons (pv 0) (pa_cons (pv 3) (pa_cons (pv 2) (pa_cons pe_str pa_nil))))) (pg_tup (by rfl) (pgs_cons (pg_name (i := 4) scLGap.nd rfl (.inl rfl)) (pgs_cons (pg_name (i := 3) scLGap.nd rfl (.inl rfl)) pgs_nil))))
      (pss_one (ps_ret (pe_ifExp (pt_cmpR op_notN (pv 4) pe_non (nomark _)) (pe_tup (pa_cons (pe_tup (pa_cons pe_str (pa_cons (pv 2) (pa_cons (pv 4) pa_nil)))) (pa_cons (pv 3) pa_nil))) (pe_tup (pa_cons pe_non (pa_cons (pv 3) pa_nil))))))))), ?_⟩
    obtain ⟨z, i, rfl, hi, lz, q⟩ := h
    have sz : sizeLine = 16777216 := sizeLine_eq
    have lcz := cod_len z
    have e1 : ((i : Nat) : Int) + 1 = ((i + 1 : Nat) : Int) := by omega
    refine ⟨.str z, rfl, .int (i : Nat), rfl, _, _, rfl, rfl, z, i + 1, 0, 44, rfl, by omega, lz, by decide, .inl rfl, fun t v H1 k1 ht hv => ?_⟩
    rcases hb : bndR 0 44 ((cod z).drop (i + 1)) with ⟨o, n⟩
    rw [hb] at ht hv
    refine ⟨t, _, rfl, SqT.of ht, rfl, _, _, rfl, _, [], rfl, rfl, ?_⟩
    cases o with
    | none =>
      have hv : v = .non := hv
      subst hv
      refine ⟨.non, rfl, rfl, _, rfl, ite2 (fun _ => ?_) (fun e => absurd (decide_eq_true rfl) e)⟩
      refine ⟨_, rfl, by show 2 ≤ sizeLine; rw [sz]; decide, fun u nu => ?_⟩
      have eg : gapR ((cod z).drop (i + 1)) = (none, n) := by
        unfold gapR
        rw [hb]
      rw [eg] at q
      exact q u .non _ (k1.trans (Same.new nu)) (by rw [upd_same]; show _ = some (HO.tup [V.non, V.int ((i + (n + 1) : Nat) : Int)]); rw [show i + (n + 1) = i + 1 + n by omega]) rfl
    | some a =>
      have hv : v = .int (a : Nat) := hv
      subst hv
      obtain ⟨a0, a20, an⟩ := bndR_of (l := 0) (cl := 44) (r := (cod z).drop (i + 1)) (a := a) (by decide) (by rw [hb])
      rw [hb, List.length_drop] at an
      have an : n ≤ (cod z).length - (i + 1) := an
      have eg1 : gapR ((cod z).drop (i + 1)) = match bndR a 125 ((cod z).drop (i + 1 + n)) with
        | (none, m) => (none, n + m)
        | (some b, m) => (some (.gap a b), n + m) := by
        unfold gapR
        rw [hb]
        show (match bndR a 125 (((cod z).drop (i + 1)).drop n) with
          | (none, m) => (none, n + m)
          | (some b, m) => (some (.gap a b), n + m) : Option Prt × Nat) = _
        rw [List.drop_drop]
      refine ⟨.int (a : Nat), rfl, rfl, _, rfl, ite2 (fun e => ?_) (fun _ => ?_)⟩
      · have := of_decide_eq_true e
        cases this
      refine ⟨.str z, rfl, .int ((i + 1 + n : Nat) : Int), rfl, .int (a : Nat), rfl, z, i + 1 + n, a, 125, rfl, by omega, lz, a20, .inr rfl, fun t2 v2 H2 k2 ht2 hv2 => ?_⟩
      rcases hb2 : bndR a 125 ((cod z).drop (i + 1 + n)) with ⟨o2, m⟩
      rw [hb2] at ht2 hv2 eg1
      refine ⟨t2, _, rfl, SqT.of ht2, rfl, _, _, rfl, _, [], rfl, rfl, ?_⟩
      cases o2 with
      | none =>
        have hv2 : v2 = .non := hv2
        subst hv2
        have eg1 : gapR ((cod z).drop (i + 1)) = (none, n + m) := eg1
        rw [eg1] at q
        refine ⟨.non, rfl, rfl, _, rfl, ite2 (fun e => ?_) (fun _ => ?_)⟩
        · rw [decide_eq_true rfl] at e
          cases e
        refine ⟨_, rfl, by show 2 ≤ sizeLine; rw [sz]; decide, fun u nu => ?_⟩
        exact q u .non _ ((k1.trans k2).trans (Same.new nu)) (by rw [upd_same]; show _ = some (HO.tup [V.non, V.int ((i + (n + m + 1) : Nat) : Int)]); rw [show i + (n + m + 1) = i + 1 + n + m by omega]) rfl
      | some b =>
        have hv2 : v2 = .int (b : Nat) := hv2
        subst hv2
        have eg1 : gapR ((cod z).drop (i + 1)) = (some (.gap a b), n + m) := eg1
        rw [eg1] at q
        refine ⟨.int (b : Nat), rfl, rfl, _, rfl, ite2 (fun _ => ?_) (fun e => ?_)⟩
        rotate_left
        · exact absurd (show (!decide (V.int ((b : Nat) : Int) = V.non)) = true by rw [decide_eq_false (fun h => by cases h)]; rfl) e
        refine ⟨.int (a : Nat), rfl, .int (b : Nat), rfl, by show 3 ≤ sizeLine; rw [sz]; decide, fun u nu => ?_⟩
        have ku := Same.new (H := H2) (o := .tup [.str "gap", .int (a : Nat), .int (b : Nat)]) nu
        refine ⟨_, rfl, by show 2 ≤ sizeLine; rw [sz]; decide, fun w nw => ?_⟩
        have kw := Same.new (o := .tup [.ref u, .int ((i + 1 + n + m : Nat) : Int)]) nw
        exact q w (.ref u) _ ((k1.trans k2).trans (ku.trans kw)) (by rw [upd_same]; show _ = some (HO.tup [V.ref u, V.int ((i + (n + m + 1) : Nat) : Int)]); rw [show i + (n + m + 1) = i + 1 + n + m by omega]) ⟨u, rfl, kw _ _ upd_same⟩

abbrev sLOne : Stmt := topS 44
theorem scLOne : FnScope ["text", "at", "many", "is_behind_gap", "sign"] ["text", "at", "many", "is_behind_gap"] (defScope sLOne) := ⟨rfl, rfl, rfl, by decide +kernel, rfl, by decide +kernel, by decide +kernel⟩
theorem ok_LOne {f : Addr} {fd : FuncData} (F : Fun K "_law_one" "_law_one" sLOne f fd)  {fLLot : Addr} {fdLLot : FuncData} (DLLot : Dk P w K mg base "_law_lot" sLLot ["text", "at"] 1 spLLot fLLot fdLLot) {fLGap : Addr} {fdLGap : FuncData} (DLGap : Dk P w K mg base "_law_gap" sLGap ["text", "at"] 3 spLGap fLGap fdLGap) (T : Glob mg) : FnOk P w K mg base CX0 4 f fd ["text", "at", "many", "is_behind_gap"] spLOne := by
  refine F.ok scLOne (fun vs H Q E h => ?_) (fun cdv A outer s H vs Q E hr h => ?_)
  · obtain ⟨z, i, many, g, rfl, _⟩ := h
    rfl
  · refine ⟨_, (pss_cons (ps_set (i := 4) scLOne.nd rfl (.inl rfl) (pe_ix ix_str (pv 0) (pv 1) (fun _ _ => rfl)))
      (pss_cons (ps_if (PW.pt (pw_or (pt_not (pt_chain op_le_str op_le_str pe_str (pv 4) pe_str)) (pw_or1 (pt_cmpR op_eq (pv 2) pe_int (nomark _)))))
      (pss_one (ps_ret (pe_tup (pa_cons pe_non (pa_cons (pv 1) pa_nil)))))
      pss_nil)
      (pss_cons (ps_if (pt_cmpR op_eq (pv 4) pe_str (nomark _))
      (pss_one (ps_ret (pe_tup (pa_cons (pe_tup (pa_cons pe_str pa_nil)) (pa_cons (pe_op op_add (pv 1) pe_int) pa_nil)))))
      pss_nil)
      (pss_cons (ps_if (pt_cmpR op_eq (pv 4) pe_str (nomark _))
      (pss_one (ps_ret (pe_call DLLot.ok (hr.mono (by decide)) (by rfl) DLLot.g DLLot.F.kp DLLot.b .nil pass0 (pa_cons (pv 0) (pa_cons (pv 1) pa_nil)))))
      pss_nil)
      (pss_cons (ps_if (pt_cmpR op_eq (pv 4) pe_str (nomark _))
      (pss_one (ps_ret (pe_ifExp (PW.pt (pw_or (pt_cmpR op_eq (pv 2) pe_int (nomark _)) (pw_or (pt_cmpR op_eq (pv 2) pe_int (nomark _)) (pw_or1 (pt_val (pv 3)))))) (pe_tup (pa_cons pe_non (pa_cons (pv 1) pa_nil))) (pe_call DLGap.ok (hr.mono (by decide)) (by rfl) DLGap.g DLGap.F.kp DLGap.b .nil pass0 (pa_cons (pv 0) (pa_cons (pv 1) pa_nil))))))
      pss_nil)
      (pss_cons (ps_if (pt_cmpR op_ne (pv 4) pe_str (nomark _))
      (pss_one (ps_ret (pe_tup (pa_cons (pe_tup (pa_cons pe_str (pa_cons (pv 4) pa_nil))) (pa_cons (pe_op op_add (pv 1) pe_int) pa_nil)))))
      pss_nil)
      (pss_cons (ps_if (PW.pt (pw_or (pt_cmpR op_eq (pe_op op_add (pv 1) pe_int) (pe_callB call_lenZ (by rfl) T.len PySem.boot_len (pa_cons (pv 0) pa_nil)) (nomark _)) (pw_or1 (pt_cmpR op_notInS (pe_ix ix_str (pv 0) (pe_op op_add (pv 1) pe_int) (fun _ _ => rfl)) pe_str rfl))))
      (pss_one (ps_ret (pe_tup (pa_cons pe_non (pa_cons (pe_op op_add (pv 1) pe_int) pa_nil)))))
      pss_nil)
      (pss_one (ps_ret (pe_tup (pa_cons (pe_tup (pa_cons pe_str (pa_cons (pe_ix ix_str (pv 0) (pe_op op_add (pv 1) pe_int) (fun _ _ => rfl)) pa_nil))) (pa_cons (pe_op op_add (pv 1) pe_int) pa_nil)))))))))))), ?_⟩
    obtain ⟨z, i, many, g, rfl, hi, lz, q⟩ := h
    have sz : sizeLine = 16777216 := sizeLine_eq
    have lcz := cod_len z
    have hl : i < (cod z).length := by omega
    obtain ⟨c, hc⟩ : ∃ c, (cod z)[i]? = some c := ⟨_, List.getElem?_eq_getElem hl⟩
    have ed : (cod z).drop i = c :: (cod z).drop (i + 1) := by
      rw [List.drop_eq_getElem_cons hl]
      rw [List.getElem?_eq_getElem hl] at hc
      rw [Option.some.inj hc]
    have e1 : ((i : Nat) : Int) + 1 = ((i + 1 : Nat) : Int) := by omega
    rw [ed, partR_cons] at q
    refine ⟨.str z, rfl, .int (i : Nat), rfl, z, _, c, rfl, rfl, len5 (by omega), atI_nat hc, ?_⟩
    dsimp only [tNext, tDrop, tSeq, gName]
    refine (?_ : ∀ Qk : Bool → Hp → Prop, Qk (decide (sgC c = false ∨ many = 30)) H → tOr _ _ _ H Qk) _ ?_
    · intro Qk kk
      refine ⟨.str (sn c), rfl, _, _, rfl, rfl, ?_⟩
      rw [le_lo]
      have rest : (sgC c = true → Qk (decide (many = 30)) H) := fun hs => by
        rw [show decide (sgC c = false ∨ many = 30) = decide (many = 30) from decide_eq_decide.mpr ⟨fun h => h.elim (fun z => by rw [hs] at z; cases z) id, .inr⟩] at kk
        exact kk
      have bad : sgC c = false → Qk true H := fun hs => by
        rw [decide_eq_true (.inl hs)] at kk
        exact kk
      refine ⟨_, rfl, ite2 (fun e => ?_) (fun e => ?_)⟩
      · refine ⟨_, _, rfl, rfl, ?_⟩
        rw [le_hi]
        have es : sgC c = decide (c ≤ 126) := by unfold sgC; rw [e, Bool.true_and]
        rw [← es]
        refine ⟨_, rfl, ?_⟩
        cases hs : sgC c with
        | false => exact bad hs
        | true =>
          refine ⟨.int (many : Nat), rfl, rfl, _, rfl, ?_⟩
          rw [dec_int, show decide (((many : Nat) : Int) = 30) = decide (many = 30) from decide_eq_decide.mpr (by omega)]
          exact rest hs
      · have es : sgC c = false := by unfold sgC; rw [show decide (32 ≤ c) = false by simpa using e, Bool.false_and]
        exact ⟨false, rfl, bad es⟩
    refine ite2 (fun e2 => ?_) (fun e2 => ?_)
    · rw [if_pos (of_decide_eq_true e2)] at q
      refine ⟨.int (i : Nat), rfl, by show 2 ≤ sizeLine; rw [sz]; decide, fun t nt => ?_⟩
      exact q t .non _ (Same.new nt) (by rw [upd_same]; rfl) rfl
    have n2 : ¬ (sgC c = false ∨ many = 30) := fun h => e2 (decide_eq_true h)
    rw [if_neg n2] at q
    refine ⟨.str (sn c), rfl, rfl, _, rfl, ?_⟩
    rw [show decide (V.str (sn c) = V.str (Str.ofString "?")) = decide (c = 63) by rw [show Str.ofString "?" = sn 63 by decide +kernel, sn_inj]]
    refine ite2 (fun e => ?_) (fun e => ?_)
    · rw [if_pos (of_decide_eq_true e)] at q
      refine ⟨by show 1 ≤ sizeLine; rw [sz]; decide, fun t nt => ?_⟩
      have kt := Same.new (H := H) (o := .tup [.str "any"]) nt
      refine ⟨.int (i : Nat), rfl, _, _, rfl, rfl, by show 2 ≤ sizeLine; rw [sz]; decide, fun u nu => ?_⟩
      have ku := Same.new (o := .tup [.ref t, .int (((i : Nat) : Int) + 1)]) nu
      exact q u (.ref t) _ (kt.trans ku) (by rw [upd_same]; rfl) ⟨t, rfl, ku _ _ upd_same⟩
    rw [if_neg (fun h => e (decide_eq_true h))] at q
    refine ⟨.str (sn c), rfl, rfl, _, rfl, ?_⟩
    rw [show decide (V.str (sn c) = V.str (Str.ofString "[")) = decide (c = 91) by rw [show Str.ofString "[" = sn 91 by decide +kernel, sn_inj]]
    refine ite2 (fun e => ?_) (fun e => ?_)
    · rw [if_pos (of_decide_eq_true e)] at q
      exact ⟨.str z, rfl, .int (i : Nat), rfl, z, i, rfl, hi, lz, q⟩
    rw [if_neg (fun h => e (decide_eq_true h))] at q
    refine ⟨.str (sn c), rfl, rfl, _, rfl, ?_⟩
    rw [show decide (V.str (sn c) = V.str (Str.ofString "{")) = decide (c = 123) by rw [show Str.ofString "{" = sn 123 by decide +kernel, sn_inj]]
    refine ite2 (fun e => ?_) (fun e => ?_)
    · rw [if_pos (of_decide_eq_true e)] at q
      have yes : many = 0 ∨ many = 29 ∨ g = true → ∀ t, H t = none → Q (.ref t) (upd H t (.tup [.non, .int (i : Nat)])) := fun h t nt => by
        rw [if_pos h] at q
        exact q t .non _ (Same.new nt) (by rw [upd_same]; rfl) rfl
      refine ⟨.int (many : Nat), rfl, rfl, _, rfl, ite2 (fun a1 => ?_) (fun a1 => ?_)⟩
      · exact ⟨.int (i : Nat), rfl, by show 2 ≤ sizeLine; rw [sz]; decide, fun t nt => yes (.inl (by have := V.int.inj (of_decide_eq_true a1); omega)) t nt⟩
      refine ⟨.int (many : Nat), rfl, rfl, _, rfl, ite2 (fun a2 => ?_) (fun a2 => ?_)⟩
      · exact ⟨.int (i : Nat), rfl, by show 2 ≤ sizeLine; rw [sz]; decide, fun t nt => yes (.inr (.inl (by have := V.int.inj (of_decide_eq_true a2); omega))) t nt⟩
      refine ⟨.bl g, rfl, _, rfl, ?_⟩
      cases g with
      | true => exact iteT ⟨.int (i : Nat), rfl, by show 2 ≤ sizeLine; rw [sz]; decide, fun t nt => yes (.inr (.inr rfl)) t nt⟩
      | false =>
        rw [if_neg (by rintro (h | h | h); exact a1 (decide_eq_true (by rw [h]; rfl)); exact a2 (decide_eq_true (by rw [h]; rfl)); cases h)] at q
        exact iteF ⟨.str z, rfl, .int (i : Nat), rfl, z, i, rfl, hi, lz, q⟩
    rw [if_neg (fun h => e (decide_eq_true h))] at q
    refine ⟨.str (sn c), rfl, rfl, _, rfl, ?_⟩
    rw [show (!decide (V.str (sn c) = V.str (Str.ofString "\\"))) = !decide (c = 92) by rw [bs_sn, sn_inj]]
    by_cases h92 : c = 92
    rotate_left
    · rw [decide_eq_false h92]
      rw [if_pos h92] at q
      refine iteT ⟨.str (sn c), rfl, by show 2 ≤ sizeLine; rw [sz]; decide, fun t nt => ?_⟩
      have kt := Same.new (H := H) (o := .tup [.str "sign", .str (sn c)]) nt
      refine ⟨.int (i : Nat), rfl, _, _, rfl, rfl, by show 2 ≤ sizeLine; rw [sz]; decide, fun u nu => ?_⟩
      have ku := Same.new (o := .tup [.ref t, .int (((i : Nat) : Int) + 1)]) nu
      exact q u (.ref t) _ (kt.trans ku) (by rw [upd_same]; rfl) ⟨t, rfl, ku _ _ upd_same⟩
    subst h92
    rw [decide_eq_true rfl]
    rw [if_neg (fun h => h rfl)] at q
    refine iteF ?_
    by_cases hn : i + 1 < (cod z).length
    rotate_left
    · rw [List.drop_of_length_le (by omega)] at q
      refine ⟨.int (i : Nat), rfl, _, _, rfl, rfl, .str z, rfl, z, rfl, len5 (by omega), rfl, _, rfl, ?_⟩
      rw [dec_int, e1, decide_eq_true (show ((i + 1 : Nat) : Int) = (z.length : Int) by omega)]
      refine iteT ⟨.int (i : Nat), rfl, _, _, rfl, rfl, by show 2 ≤ sizeLine; rw [sz]; decide, fun t nt => ?_⟩
      exact q t .non _ (Same.new nt) (by rw [upd_same]; rfl) rfl
    obtain ⟨d, hd⟩ : ∃ d, (cod z)[i + 1]? = some d := ⟨_, List.getElem?_eq_getElem hn⟩
    have ed2 : (cod z).drop (i + 1) = d :: (cod z).drop (i + 1 + 1) := by
      rw [List.drop_eq_getElem_cons hn]
      rw [List.getElem?_eq_getElem hn] at hd
      rw [Option.some.inj hd]
    rw [ed2] at q
    have q : Ld H i (if d ∈ mkS then (some (.sg d), 2) else (none, 1)) Q := q
    refine ⟨.int (i : Nat), rfl, _, _, rfl, rfl, .str z, rfl, z, rfl, len5 (by omega), rfl, _, rfl, ?_⟩
    rw [dec_int, e1, decide_eq_false (show ¬ ((i + 1 : Nat) : Int) = (z.length : Int) by omega)]
    refine iteF ⟨.str z, rfl, .int (i : Nat), rfl, _, _, rfl, rfl, z, _, d, rfl, rfl, len5 (by omega), by rw [e1]; exact atI_nat hd, d, _, rfl, rfl, _, rfl, ?_⟩
    rw [show (Str.ofString "?[{\\").cps.toList = mkS from (by decide +kernel : cod (Str.ofString "?[{\\") = mkS)]
    by_cases hm : d ∈ mkS
    rotate_left
    · rw [decide_eq_false hm]
      rw [if_neg hm] at q
      refine iteT ⟨.int (i : Nat), rfl, _, _, rfl, rfl, by show 2 ≤ sizeLine; rw [sz]; decide, fun t nt => ?_⟩
      exact q t .non _ (Same.new nt) (by rw [upd_same]; rfl) rfl
    rw [decide_eq_true hm]
    rw [if_pos hm] at q
    refine iteF ⟨.str z, rfl, .int (i : Nat), rfl, _, _, rfl, rfl, z, _, d, rfl, rfl, len5 (by omega), by rw [e1]; exact atI_nat hd, by show 2 ≤ sizeLine; rw [sz]; decide, fun t nt => ?_⟩
    have kt := Same.new (H := H) (o := .tup [.str "sign", .str (sn d)]) nt
    refine ⟨.int (i : Nat), rfl, _, _, rfl, rfl, by show 2 ≤ sizeLine; rw [sz]; decide, fun u nu => ?_⟩
    have ku := Same.new (o := .tup [.ref t, .int (((i : Nat) : Int) + 2)]) nu
    exact q u (.ref t) _ (kt.trans ku) (by rw [upd_same]; rfl) ⟨t, rfl, ku _ _ upd_same⟩

abbrev sLTold : Stmt := topS 45
theorem scLTold : FnScope ["text", "found", "here", "part"] ["text"] (defScope sLTold) := ⟨rfl, rfl, rfl, by decide +kernel, rfl, by decide +kernel, by decide +kernel⟩
theorem ok_LTold {f : Addr} {fd : FuncData} (F : Fun K "_law_told" "_law_told" sLTold f fd)  {fLOne : Addr} {fdLOne : FuncData} (DLOne : Dk P w K mg base "_law_one" sLOne ["text", "at", "many", "is_behind_gap"] 4 spLOne fLOne fdLOne) (T : Glob mg) : FnOk P w K mg base CX0 5 f fd ["text"] spLTold := by
  refine F.ok scLTold (fun vs H Q E h => ?_) (fun cdv A outer s H vs Q E hr h => ?_)
  · obtain ⟨z, rfl, _⟩ := h
    rfl
  · refine ⟨_, (pss_cons (ps_par (i := 1) (j := 2) (by rfl) scLTold.nd rfl rfl (by decide) rfl rfl (pa_cons (pe_lst pa_nil) (pa_cons pe_int pa_nil)) (by rfl))
      (pss_cons (ps_while PassesOwn.never (pt_cmpR op_lt (pv 2) (pe_callB call_lenZ (by rfl) T.len PySem.boot_len (pa_cons (pv 0) pa_nil)) (nomark _))
      (pss_cons (ps_asg (pe_call DLOne.ok (hr.mono (by decide)) (by rfl) DLOne.g DLOne.F.kp DLOne.b .nil pass0 (pa_cons (pv 0) (pa_cons (pv 2) (pa_cons (pe_callB call_len_seq (by rfl) T.len PySem.boot_len (pa_cons (pv 1) pa_nil)) (pa_cons (pe_and (pe_cmpR op_gt (pe_callB call_len_seq (by rfl) T.len PySem.boot_len (pa_cons (pv 1) pa_nil)) pe_int (nomark _)) (pe_one (pe_cmpR op_eq (pe_ix ix_tup (pe_ix ix_list (pv 1) (pe_un un_neg pe_int) (fun _ _ => rfl)) pe_int (fun _ _ => rfl)) pe_str (nomark _)))) pa_nil))))) (pg_tup (by rfl) (pgs_cons (pg_name (i := 3) scLTold.nd rfl (.inl rfl)) (pgs_cons (pg_name (i := 2) scLTold.nd rfl (.inl rfl)) pgs_nil))))
        (pss_cons (ps_if (pt_cmpR op_isN (pv 3) pe_non (nomark _))
        (pss_one (ps_ret (pe_tup (pa_cons pe_non (pa_cons (pv 2) pa_nil)))))
        pss_nil)
        (pss_one (ps_expr (pe_bm PySem.F.plainAttrs_list PySem.F.slot_list_append PySem.F.type_list_append mt_append (pv 1) (pa_cons (pv 3) pa_nil)))))))
      (pss_cons (ps_if (PW.pt (pw_or (pt_cmpR op_eq (pe_callB call_len_seq (by rfl) T.len PySem.boot_len (pa_cons (pv 1) pa_nil)) pe_int (nomark _)) (pw_or1 (pt_cmpR op_eq (pe_ix ix_tup (pe_ix ix_list (pv 1) (pe_un un_neg pe_int) (fun _ _ => rfl)) pe_int (fun _ _ => rfl)) pe_str (nomark _)))))
      (pss_one (ps_ret (pe_tup (pa_cons pe_non (pa_cons (pe_callB call_lenZ (by rfl) T.len PySem.boot_len (pa_cons (pv 0) pa_nil)) pa_nil)))))
      pss_nil)
      (pss_one (ps_ret (pe_tup (pa_cons (pe_callTy call_tuple_of (by rfl) T.tuple (by decide +kernel) (pa_cons (pv 1) pa_nil)) (pa_cons (pe_un un_neg pe_int) pa_nil)))))))), ?_⟩
    obtain ⟨z, rfl, lz, q1, q2⟩ := h
    have sz : sizeLine = 16777216 := sizeLine_eq
    have lcz := cod_len z
    refine ⟨by show 0 ≤ sizeLine; omega, fun D nD => ?_⟩
    refine ⟨_, _, rfl, ?_⟩
    dsimp only [tNext, tSeq, tAsg, gName]
    refine ⟨fun m σ H' => ∃ (ps : List Prt) (us : List V) (j f : Nat) (u3 : Option V), m = z.length - j ∧ j ≤ z.length ∧ σ = [some (.str z), some (.ref D), some (.int (j : Nat)), u3] ∧ Same H H' ∧ H' D = some (.lst us) ∧ All2 (PrtAt H') us ps ∧ ps.length ≤ 30 ∧ ((cod z).drop j).length ≤ f ∧ toldF f ps j ((cod z).drop j) = toldR (cod z), ⟨_, [], [], 0, (cod z).length, none, rfl, Nat.zero_le _, rfl, Same.new nD, upd_same, .nil, by decide, Nat.le_refl _, rfl⟩, ?_⟩
    rintro m σ H1 ⟨ps, us, j, f, u3, rfl, hj, rfl, k1, hD, hps, l30, lf, inv⟩
    have lu : us.length = ps.length := hps.len
    refine ⟨.int (j : Nat), rfl, .str z, rfl, z, rfl, len5 (by omega), _, _, rfl, rfl, _, rfl, ite2 (fun e => ?_) (fun e => ?_)⟩
    · have hn : j < (cod z).length := by have := of_decide_eq_true e; omega
      obtain ⟨c, hc⟩ : ∃ c, (cod z)[j]? = some c := ⟨_, List.getElem?_eq_getElem hn⟩
      have ed : (cod z).drop j = c :: (cod z).drop (j + 1) := by
        rw [List.drop_eq_getElem_cons hn]
        rw [List.getElem?_eq_getElem hn] at hc
        rw [Option.some.inj hc]
      rw [ed] at inv lf
      obtain ⟨f, rfl⟩ : ∃ g, f = g + 1 := ⟨f - 1, by have : (c :: (cod z).drop (j + 1)).length = ((cod z).drop (j + 1)).length + 1 := rfl; omega⟩
      rw [toldF_cons] at inv
      refine ⟨_, fun σ' H' w => w, ?_⟩
      refine ⟨.str z, rfl, .int (j : Nat), rfl, .ref D, rfl, D, _, rfl, .inl (sq_of hD), ?_⟩
      refine (?_ : ∀ R : V → Hp → Prop, R (.bl (lastG ps)) H1 → tAndV _ _ _ H1 R) _ ?_
      · intro R kk
        refine ⟨.ref D, rfl, D, _, rfl, .inl (sq_of hD), _, _, rfl, rfl, _, rfl, ?_⟩
        rw [lu]
        refine ite2 (fun e => ?_) (fun e => ?_)
        rotate_left
        · have h0 : ps = [] := List.length_eq_zero_iff.mp (by have : ¬ (0 : Int) < ((ps.length : Nat) : Int) := fun h => e (decide_eq_true h); omega)
          rw [h0] at kk
          exact kk
        have ne : ps ≠ [] := fun h => by have e := of_decide_eq_true e; rw [h] at e; exact absurd e (by decide)
        have neu : us ≠ [] := fun h => by rw [h] at lu; exact ne (List.length_eq_zero_iff.mp lu.symm)
        obtain ⟨us0, v, rfl⟩ := snoc_of neu
        obtain ⟨ps0, p, rfl⟩ := snoc_of ne
        obtain ⟨hp0, b, rfl, hb⟩ := hps.unsnoc
        refine ⟨.ref D, rfl, _, rfl, D, _, -1, .ref b, rfl, rfl, sq_of hD, atI_last _ _, b, _, 0, _, rfl, rfl, SqT.of hb, (by cases p <;> rfl : atI p.v 0 = some (p.v.headD .non)), by cases p <;> rfl, ?_⟩
        rw [head_gap]
        rw [lastG_snoc] at kk
        exact kk
      refine ⟨z, j, ps.length, lastG ps, by rw [lu]; rfl, by omega, lz, ?_⟩
      rw [ed]
      intro t v H2 k2 ht hv
      have hD2 := k2 _ _ hD
      rcases hP : partR ps.length (lastG ps) (c :: (cod z).drop (j + 1)) with ⟨o, n⟩
      rw [hP] at ht hv inv
      refine ⟨t, _, rfl, SqT.of ht, rfl, _, _, rfl, _, [], rfl, rfl, ?_⟩
      cases o with
      | none =>
        have hv : v = .non := hv
        subst hv
        refine ⟨.non, rfl, rfl, _, rfl, ite2 (fun _ => ?_) (fun e => absurd (decide_eq_true rfl) e)⟩
        refine ⟨_, rfl, by show 2 ≤ sizeLine; rw [sz]; decide, fun u nu => ?_⟩
        exact q2 u ((j + n : Nat) : Int) _ inv.symm ((k1.trans k2).trans (Same.new nu)) upd_same
      | some p =>
        have hv : PrtAt H2 v p := hv
        have l30' : ps.length ≠ 30 := fun h => by
          rw [part_eq, if_pos (.inl h)] at hP
          cases hP
        have hP2 : (partP (c :: (cod z).drop (j + 1))) = (some p, n) := by
          rw [part_eq] at hP
          by_cases hx : ps.length = 30 ∨ c = 123 ∧ (ps.length = 0 ∨ ps.length = 29 ∨ lastG ps = true)
          · rw [if_pos hx] at hP
            cases hP
          · rw [if_neg hx] at hP
            exact hP
        obtain ⟨n1, n2, _⟩ := partP_of (r := c :: (cod z).drop (j + 1)) (p := p) (by rw [hP2])
        rw [hP2] at n1 n2
        have n1 : 1 ≤ n := n1
        have n2 : n ≤ ((cod z).drop (j + 1)).length + 1 := n2
        rw [List.length_drop] at n2
        refine ⟨v, rfl, rfl, _, rfl, ite2 (fun e => ?_) (fun _ => ?_)⟩
        · obtain ⟨a, rfl, _⟩ := hv
          have := of_decide_eq_true e
          cases this
        refine ⟨.ref D, rfl, .inl ⟨rfl, _, sq_of hD2⟩, _, rfl, D, us, _, rfl, rfl, hD2, by omega, ?_⟩
        refine ⟨z.length - (j + n), by omega, ps ++ [p], us ++ [v], j + n, f, some v, rfl, by omega, rfl, sameAt (k1.trans k2) nD, upd_same, ((hps.imp fun _ _ q => (q.same k2).put hD2).snoc (hv.put hD2)), by rw [List.length_append]; show ps.length + 1 ≤ 30; omega, ?_, ?_⟩
        · rw [List.length_drop]
          have lf : ((cod z).drop (j + 1)).length + 1 ≤ f + 1 := lf
          rw [List.length_drop] at lf
          omega
        · have inv : toldF f (ps ++ [p]) (j + n) ((c :: (cod z).drop (j + 1)).drop n) = toldR (cod z) := inv
          rw [← ed, List.drop_drop] at inv
          exact inv
    · have ej : j = z.length := by have : ¬ ((j : Nat) : Int) < (z.length : Int) := fun h => e (decide_eq_true h); omega
      rw [List.drop_of_length_le (by omega), toldF_nil] at inv
      dsimp only
      refine (?_ : ∀ Qk : Bool → Hp → Prop, Qk (decide (ps = [] ∨ lastG ps = true)) H1 → tOr _ _ _ H1 Qk) _ ?_
      · intro Qk kk
        refine ⟨.ref D, rfl, D, _, rfl, .inl (sq_of hD), rfl, _, rfl, ?_⟩
        rw [dec_int, lu]
        refine ite2 (fun e => ?_) (fun e => ?_)
        · have h0 : ps = [] := List.length_eq_zero_iff.mp (by have := of_decide_eq_true e; omega)
          rw [decide_eq_true (.inl h0)] at kk
          exact kk
        have ne : ps ≠ [] := fun h => e (by rw [h]; rfl)
        have neu : us ≠ [] := fun h => by rw [h] at lu; exact ne (List.length_eq_zero_iff.mp lu.symm)
        obtain ⟨us0, v, rfl⟩ := snoc_of neu
        obtain ⟨ps0, p, rfl⟩ := snoc_of ne
        obtain ⟨hp0, b, rfl, hb⟩ := hps.unsnoc
        refine ⟨.ref D, rfl, _, rfl, D, _, -1, .ref b, rfl, rfl, sq_of hD, atI_last _ _, b, _, 0, _, rfl, rfl, SqT.of hb, (by cases p <;> rfl : atI p.v 0 = some (p.v.headD .non)), by cases p <;> rfl, _, rfl, ?_⟩
        rw [head_gap]
        rw [lastG_snoc, show decide (ps0 ++ [p] = [] ∨ p.gapB = true) = p.gapB from by
          cases hg : p.gapB with
          | true => exact decide_eq_true (.inr rfl)
          | false => exact decide_eq_false (fun h => h.elim ne fun h => by cases h)] at kk
        exact kk
      refine ite2 (fun e => ?_) (fun e => ?_)
      · rw [if_pos (of_decide_eq_true e)] at inv
        refine ⟨.str z, rfl, z, rfl, len5 (by omega), by show 2 ≤ sizeLine; rw [sz]; decide, fun t nt => ?_⟩
        exact q2 t (j : Nat) _ inv.symm (k1.trans (Same.new nt)) (by rw [upd_same, ej])
      · rw [if_neg (fun h => e (decide_eq_true h))] at inv
        refine ⟨.ref D, rfl, D, us, rfl, .inl ⟨sq_of hD, fun u nu => ?_⟩⟩
        have ku := Same.new (H := H1) (o := .tup us) nu
        refine ⟨_, rfl, by show 2 ≤ sizeLine; rw [sz]; decide, fun t nt => ?_⟩
        have kt := Same.new (H := upd H1 u (.tup us)) (o := .tup [.ref u, .int (-1)]) nt
        exact q1 t u us ps _ inv.symm (k1.trans (ku.trans kt)) upd_same (kt _ _ upd_same) (hps.imp fun _ _ q => q.same (ku.trans kt))

end
end LawK
set_option maxHeartbeats 4000000
/-! repr of data of any shape. -/
namespace Ev
open PySem PySem.Spec PyProof.Rows L2
mutual
/-- the datum d is told by v: lists and tuples of any length -/
inductive Dg (H : Hp) : V → PyData → Prop
  | non : Dg H .non .none
  | bl (b : Bool) : Dg H (.bl b) (.bool b)
  | int (i : Int) : Dg H (.int i) (.int i)
  | str (x : Str) : Dg H (.str x) (.str x)
  | lst {a : Addr} {vs : List V} {es : List PyData} (e : H a = some (.lst vs)) (n : a ≠ sysModules) (h : Dgs H vs es) : Dg H (.ref a) (.list es)
  | tup {a : Addr} {vs : List V} {es : List PyData} (e : H a = some (.tup vs)) (h : Dgs H vs es) : Dg H (.ref a) (.tuple es)
inductive Dgs (H : Hp) : List V → List PyData → Prop
  | nil : Dgs H [] []
  | cons {v : V} {vs : List V} {d : PyData} {es : List PyData} (h : Dg H v d) (t : Dgs H vs es) : Dgs H (v :: vs) (d :: es)
end
section
variable {X : Cx} {pins : List (Addr × Obj)} {σ : L2.St} {H : Hp} {s : Shared}
mutual
theorem Dg.reads (I : L2.Inv X pins σ H s) {v : V} {d : PyData} (h : Dg H v d) {u : Value} (r : RelV v u) : ∃ as, Reads s.heap u d as ∧ sysModules ∉ as := by
  cases h with
  | non => cases r; exact ⟨_, .none, by simp⟩
  | bl b => cases r; exact ⟨_, .bool b, by simp⟩
  | int i => obtain ⟨t, rfl⟩ := r; exact ⟨_, .int i t, by simp⟩
  | str x => obtain ⟨t, rfl⟩ := r; exact ⟨_, .str x t, by simp⟩
  | lst e n h =>
    cases r
    obtain ⟨its, m, rv, ho⟩ := lst_at I e
    obtain ⟨as, q, nq⟩ := Dgs.reads I h rv
    exact ⟨_, .list ho rfl rfl q, by simp [Ne.symm n, nq]⟩
  | tup e h =>
    cases r
    obtain ⟨its, o, m, rv, ho, hc, hd⟩ := tup_at I e
    obtain ⟨as, q, nq⟩ := Dgs.reads I h rv
    exact ⟨_, .tuple ho hc hd q, nq⟩
theorem Dgs.reads (I : L2.Inv X pins σ H s) {vs : List V} {es : List PyData} (h : Dgs H vs es) {us : List Value} (r : Vals vs us) : ∃ as, ReadsAll s.heap us es as ∧ sysModules ∉ as := by
  cases h with
  | nil => cases r; exact ⟨_, .nil, by simp⟩
  | cons h t =>
    cases r with
    | cons r1 rr =>
      obtain ⟨as, q, nq⟩ := Dg.reads I h r1
      obtain ⟨bs, q2, nq2⟩ := Dgs.reads I t rr
      exact ⟨_, .cons q q2, by simp [nq, nq2]⟩
end
end
/-- repr(x), x a list or tuple of data -/
def rReprG : List V → Hp → VK → Prop := fun xs H Q => ∃ (a : Addr) (d : PyData), xs = [.ref a] ∧ Dg H (.ref a) d ∧ d.showable = true ∧ d.depth ≤ 100 ∧ d.shown.length ≤ 1000000 ∧ Q (.str d.shown) H
theorem call_reprG {X : Cx} {k : Nat} (hg : X.A.guards = some []) (hr : Room k X.A) : CallR X (.builtin "repr") rReprG := by
  intro pins s σ H xs us Q I r h
  obtain ⟨a, d, rfl, hd, hs, hdp, hz, q⟩ := h
  obtain ⟨u, rfl, ru⟩ := vals1 r
  cases ru
  obtain ⟨as, rd, ns⟩ := hd.reads I rfl
  have deep : X.A.units + (d.depth + 1) < cLine := by have := hr.un; omega
  exact repr_of_reads' rd hs (fun _ => ns) hg deep (fun _ _ e => e) (fun h' u tk k => ⟨.str d.shown, H, I.kept k, ⟨_, rfl⟩, q⟩) (Nat.le_trans hz (by decide))
/-- what may be shown: no number of more than twelve figures -/
theorem show_int {i : Int} (h1 : -999999999999 ≤ i) (h2 : i ≤ 999999999999) : (PyData.int i).showable = true ∧ (PyData.int i).leavesShort 13 = true := by
  refine ⟨?_, ?_⟩
  · have := Nat.log2_lt (n := i.natAbs) (k := 1920)
    simp only [PyData.showable, decide_eq_true_eq]
    by_cases h0 : i.natAbs = 0
    · rw [h0]; decide
    · refine (Nat.log2_lt h0).mpr (Nat.lt_of_lt_of_le (show i.natAbs < 2 ^ 40 from ?_) (Nat.pow_le_pow_right (by decide) (by decide)))
      have : (2 : Nat) ^ 40 = 1099511627776 := by decide
      omega
  · simp only [PyData.leavesShort, decide_eq_true_eq]
    exact PyData.shown_int_le2 h1 h2
end Ev
set_option maxHeartbeats 4000000
namespace Ev
open PySem PySem.Spec PyProof.Rows L2 PySem.W
/-! sorted, lists that read as data; < of data -/
/-- a value, and what it reads as -/
abbrev DV := V × PyData
section
variable {X : Cx}
theorem each_dp {pins : List (Addr × Obj)} {σ : L2.St} {H : Hp} {s : Shared} (I : Inv X pins σ H s) : ∀ {bs : List DV} {us : List Value}, Vals (bs.map (·.1)) us → (∀ b ∈ bs, Dp X.K H b.1 b.2) →
    EachIs (fun v (b : DV) => RelV b.1 v) us bs ∧ EachIs (fun v (b : DV) => ∃ as, Reads s.heap v b.2 as) us bs
  | [], _, .nil, _ => ⟨.nil, .nil⟩
  | b :: bs, _, .cons r t, h => by
    obtain ⟨e1, e2⟩ := each_dp I t fun c hc => h c (List.mem_cons_of_mem _ hc)
    exact ⟨.cons r e1, .cons (Dp.reads I b.2 _ _ (h b List.mem_cons_self) r) e2⟩
theorem each_vals : ∀ {bs : List DV} {us : List Value}, EachIs (fun v (b : DV) => RelV b.1 v) us bs → Vals (bs.map (·.1)) us
  | [], _, .nil => .nil
  | _ :: _, _, .cons r t => .cons r (each_vals t)
def leD (a b : DV) : Bool := dataLe false (fun b : DV => b.2) a b
def rSortedD (K : PySem.W.Frag) : List V → Hp → VK → Prop := fun vs H Q => ∃ (a : Addr) (bs : List DV), vs = [V.ref a] ∧ SqL K H a (bs.map (·.1)) ∧ (∀ b ∈ bs, Dp K H b.1 b.2) ∧ AllAlike (bs.map (·.2)) ∧ Sortable (bs.map (·.2)) ∧ (∀ b ∈ bs, b.2.depth ≤ 60) ∧
  ∀ p, H p = none → Q (.ref p) (upd H p (.lst ((bs.mergeSort leD).map (·.1))))
theorem cr_sortedD (hu : X.A.units + 64 < cLine) : CallR X (.builtin "sorted") (rSortedD X.K) := fun pins s σ H vs us Q I r h => by
  obtain ⟨a, bs, rfl, hs, hd, hal, hk, hdep, q⟩ := h
  obtain ⟨its, rv, hl, hz⟩ := I.list hs
  rw [Vals.ref1 r]
  obtain ⟨e1, e2⟩ := each_dp I rv hd
  have lz : bs.length ≤ sizeLine := by rw [List.length_map] at hz; exact hz
  refine sorted_data (R := fun v (b : DV) => RelV b.1 v) (enc := fun b : DV => b.2) hl.isList e1 e2 hal hk lz (fun b hb => by have := hdep b hb; omega) fun out h1 h2 => ?_
  obtain ⟨ep, he⟩ := PyProof.Rows.sortedAll_at s.heap its out.toArray
  have lo : ((bs.mergeSort leD).map (·.1)).length ≤ sizeLine := by rw [List.length_map, List.length_mergeSort]; exact lz
  exact ⟨.ref _, upd H (s.heap.objs.size + 1) (.lst ((bs.mergeSort leD).map (·.1))), I.laid (t' := s.toks) (fun _ _ => PyProof.Rows.sortedAll_old) (Nat.le_succ _) ⟨lo, out, ep, each_vals h2, he⟩, rfl, q _ (I.hok.fresh (Nat.le_succ _))⟩
/-- x < y of data -/
def rLtD (K : PySem.W.Frag) : R2 := fun x y H Q => ∃ d e, Dp K H x d ∧ Dp K H y e ∧ alike d e = true ∧ d ≠ .none ∧ min d.depth e.depth ≤ 60 ∧ Q (.bl (dataLt d e)) H
theorem op_ltD (hu : X.A.units + 64 < cLine) : OpR X (compareOp .Lt) (rLtD X.K) := by
  intro pins s σ H x y v u Q I rx ry h
  obtain ⟨d, e, hd, he, al, nn, dp, q⟩ := h
  obtain ⟨as, r1⟩ := Dp.reads I d x v hd rx
  obtain ⟨bs, r2⟩ := Dp.reads I e y u he ry
  exact lt_data r1 r2 al nn (by omega) ⟨.bl _, H, I, rfl, q⟩
end
end Ev
set_option maxHeartbeats 4000000
namespace Ev
open PySem PySem.Spec PyProof.Rows L2
/-! repr of data without dicts -/
def rReprD (K : PySem.W.Frag) : List V → Hp → VK → Prop := fun xs H Q => ∃ (a : Addr) (d : PyData), xs = [.ref a] ∧ Dp K H (.ref a) d ∧ d.showable = true ∧ d.depth ≤ 100 ∧ d.hasDict = false ∧ d.shown.length ≤ 16000000 ∧ Q (.str d.shown) H
theorem call_reprD {X : Cx} {k : Nat} (hg : X.A.guards = some []) (hr : Room k X.A) : CallR X (.builtin "repr") (rReprD X.K) := by
  intro pins s σ H xs us Q I r h
  obtain ⟨a, d, rfl, hd, hs, dp, nd, hz, q⟩ := h
  obtain ⟨u, rfl, ru⟩ := vals1 r
  cases ru
  obtain ⟨as, rd⟩ := Dp.reads I d _ _ hd rfl
  have room : X.A.units + (d.depth + 1) < cLine := by have := hr.un; omega
  have big : d.shown.length ≤ 16777216 := by omega
  exact repr_of_reads' rd hs (fun z => by rw [nd] at z; cases z) hg room (fun _ _ e => e) (fun h' u tk k => ⟨.str d.shown, H, I.kept k, ⟨_, rfl⟩, q⟩) big
end Ev
set_option maxHeartbeats 4000000
/-! The law's own def, called by the caller of claims alone: what runs around it is known (no repr is under way). -/
namespace Ev
open PySem PySem.Spec PyProof.Rows L2
/-- the def at f keeps sp, called where A runs around it -/
structure FnAt (A : Around) (P : Program) (w : World) (K : PySem.W.Frag) (mg : Str → Option Value) (base : Heap) (CX : CXT) (f : Addr) (fd : FuncData) (ps : List Str) (sp : Sp) : Prop where
  len : ∀ vs H Q E, sp vs H Q E → vs.length = ps.length
  run : ∀ (outer : List Env) (s : Shared) (H : Hp) (args : Args) (us : List Value) (vs : List V) (Q : VK) (E : XK), Env0 P w K mg base A outer s H → BindsTo s fd args (ps.zip us) → Vals vs us → sp vs H Q E →
    codeAny (model P w) A (.call (.ref f) args) (CR CX outer P w H s Q E) s
section
variable {A : Around} {CX : CXT} {P : Program} {w : World} {K : PySem.W.Frag} {mg : Str → Option Value} {base : Heap} {k : Nat}
theorem fun_at {x qual : Str} {st : Stmt} {f : Addr} {fd : FuncData} {N ps : List Str} {sp : Sp} (F : Fun K x qual st f fd) (S : FnScope N ps (defScope st)) (hr : Room (k + 1) A) (len : ∀ vs H Q E, sp vs H Q E → vs.length = ps.length)
    (hbody : ∀ (cdv : Value) (outer : List Env) (s : Shared) (H : Hp) (vs : List V) (Q : VK) (E : XK), Room k (A.deeper (envOfC qual (defScope st) s.heap.objs.size f cdv)) → sp vs H Q E →
      ∃ t, PSs (cxOf CX P w K mg base N qual (defScope st) f cdv A outer s H E).nox (defBody st) t ∧ t { nx := fun _ H' => Q .non H', rt := Q } (start N vs) H) : FnAt A P w K mg base CX f fd ps sp := by
  obtain ⟨oc, od, kV, doc, pm, an, cdv, ct, osl, rfl, lk, hcd⟩ := F.ex
  refine ⟨len, fun outer s H args us vs Q E e0 hb r hsp => ?_⟩
  have lim : s.heap.NoLimit := e0.mod.nolimit.keeps fun b o e => (e0.bs b o e).1
  have KX : K.In s.heap := e0.mod.kin.keeps fun b o e => (e0.bs b o e).1
  have kinds : ∀ y ∈ ps.zip us, (defScope st).names.lookup y.1 = some .local ∨ ((defScope st).names.lookup y.1 = some .cell ∧ ((cellsFrom (s.heap.objs.size + 1) (defScope st).names []).lookup y.1).isSome = true) := by
    rintro ⟨n, v⟩ hy
    exact (S.par n (List.of_mem_zip hy).1).imp id fun q => ⟨q, PySem.W.cellsFrom_some _ _ _ (.inl q)⟩
  refine codeAny_call_function hr.depth (KX _ _ lk) rfl S.co S.gen rfl (PySem.W.codeRec_of KX hcd) (hb _ _ _ _ (wpAny_newFunctionEnv_cells S.kind kinds fun env he s1 x => ?_))
  subst he
  obtain ⟨t, ht, hq⟩ := hbody cdv outer s H vs Q E (hr.deeper _) hsp
  have I := inv_start (CX := CX) (P := P) (w := w) (mg := mg) (base := base) (E := E) S hr.hd e0 (len _ _ _ _ hsp) r x
  refine ⟨lim.keeps x.toInCall.keep, codeAny_func (wpAny_mono (ht.nox.run [] s1 (start N vs) H _ I hq) (fun fl s' hs => ?_) fun e s' hs => hs)⟩
  cases fl with
  | ret u =>
    obtain ⟨v, σ', H', J, rv, q⟩ := hs
    exact ⟨v, H', J.os, J.bare, J.base, J.hok, rv, q⟩
  | next =>
    obtain ⟨σ', H', J, q⟩ := hs
    exact ⟨V.non, H', J.os, J.bare, J.base, J.hok, rfl, q⟩
  | brk => exact hs.elim fun _ z => z.elim fun _ y => y.2.elim
  | cont => exact hs.elim fun _ z => z.elim fun _ y => y.2.elim
end
section
variable {P : Program} {w : World} {K : PySem.W.Frag} {mg mb : Str → Option Value} {fa a : Addr} {fd : FuncData} {x : Str} {sp : Sp} {s₁ : Shared} {vs : List Value} {ns : List Int}
/-- from one abstract heap: nothing is tracked but, perhaps, the script -/
theorem law_at0 {H : Hp} (KX : K.In s₁.heap) (hns : s₁.heap.Ns mainGlobals mg) (hb : s₁.heap.Ns builtinsNs mb) (hbb : ∀ y : Str, y ≠ "__name__" → mb y = bootBuiltins y) (hlim : s₁.heap.NoLimit) (hg : s₁.gens = #[])
    (ha : s₁.heap.get? a = some { cls := .type "list", data := .seq vs.toArray }) (F : ∀ base : Heap, K.In base → base.Ns mainGlobals mg → FnAt callerA P w K mg base CX0 fa fd [x] sp)
    (hbind : ∀ (s : Shared) (u : Value), BindsTo s fd ⟨[u], []⟩ [(x, u)]) (hO : Only H) (hok : HOk P w H s₁.heap) (hA : ∀ b, H b ≠ none → b = a) (hK : H a ≠ none → K.lookup a = none)
    (hsp : sp [.ref a] H (fun v _ => v = .bl true) fun _ _ _ => False) :
    codeAny (model P w) callerA (.call (.ref fa) ⟨[.ref a], []⟩) (fun r s' => r = .ok (.ret (.bool true)) ∧ OldK s₁.heap s'.heap ∧ s'.os = s₁.os ∧ AllBare s'.gens) s₁ := by
  have off : ∀ {b : Addr} {o : Obj}, s₁.heap.get? b = some o → o ≠ { cls := .type "list", data := .seq vs.toArray } → H b = none := fun {b o} e n => by
    refine Classical.byContradiction fun z => n ?_
    have eb := hA b z
    rw [eb, ha] at e
    exact (Option.some.inj e).symm
  have nsK : ∀ {b : Addr} {m : Str → Option Value}, s₁.heap.Ns b m → (hidT s₁.heap H).Ns b m := fun {b m} ⟨o, es, ep, e, d, r⟩ => ⟨o, es, ep, hidT_get e (off e fun z => by rw [z] at d; cases d), d, r⟩
  have hKb : K.In (hidT s₁.heap H) := fun b o e => hidT_get (KX b o e) (Classical.byContradiction fun z => by
    have eb := hA b z
    rw [eb] at e z
    rw [hK z] at e
    cases e)
  have hM : Mod K mg (hidT s₁.heap H) := ⟨hKb, nsK hns, ⟨mb, nsK hb, hbb⟩, hlim.elim fun mc z => ⟨mc, nsK z.1, z.2⟩⟩
  have e0 : Env0 P w K mg (hidT s₁.heap H) callerA [] s₁ H := ⟨rfl, hM, fun b o e => of_hidT e, Nat.le_of_eq (hidT_size _ _), trivial, fun b hb => absurd (show b ∈ ([] : List Addr) from hb) (by simp), hok, .of_eq hg⟩
  refine codeAny_mono ((F _ hKb (nsK hns)).run [] s₁ H ⟨[.ref a], []⟩ [.ref a] [.ref a] _ _ e0 (hbind s₁ (.ref a)) (.cons rfl .nil) hsp) fun r s' h => ?_
  rcases r with e | fl
  · exact False.elim h
  cases fl with
  | next => exact False.elim h
  | brk => exact False.elim h
  | cont => exact False.elim h
  | ret u =>
    obtain ⟨v, H', os, bare, un, hok', r', rfl⟩ := h
    obtain rfl : u = Value.bool true := r'
    refine ⟨rfl, OldK.of_keep fun b o e => ?_, os, bare⟩
    rcases hO b with z | ⟨ob, xs, z⟩
    · exact un.keep b o e z (fun y => absurd (show b ∈ ([] : List Addr) from y) (by simp)) (by simp)
    · have e1 := (hok b _ z).1
      rw [e] at e1
      cases e1
      exact (hok' b _ (un.frzs b _ _ z)).1
theorem law_at (KX : K.In s₁.heap) (hns : s₁.heap.Ns mainGlobals mg) (hb : s₁.heap.Ns builtinsNs mb) (hbb : ∀ y : Str, y ≠ "__name__" → mb y = bootBuiltins y) (hlim : s₁.heap.NoLimit) (hg : s₁.gens = #[])
    (ha : s₁.heap.get? a = some { cls := .type "list", data := .seq vs.toArray }) (hi : IntsAre vs ns) (hl : ns.length ≤ sizeLine)
    (F : ∀ base : Heap, K.In base → base.Ns mainGlobals mg → FnAt callerA P w K mg base CX0 fa fd [x] sp) (hbind : ∀ (s : Shared) (u : Value), BindsTo s fd ⟨[u], []⟩ [(x, u)])
    (hsp : ∀ H : Hp, Only H → SqL K H a (ns.map V.int) → sp [.ref a] H (fun v _ => v = .bl true) fun _ _ _ => False) :
    codeAny (model P w) callerA (.call (.ref fa) ⟨[.ref a], []⟩) (fun r s' => r = .ok (.ret (.bool true)) ∧ OldK s₁.heap s'.heap ∧ s'.os = s₁.os ∧ AllBare s'.gens) s₁ := by
  have rv := vals_ints hi
  cases hk : K.lookup a with
  | some o =>
    have e := KX a o hk
    rw [ha] at e
    cases e
    have hO : Only (fun _ => none) := fun _ => .inl rfl
    exact law_at0 KX hns hb hbb hlim hg ha F hbind hO (fun b u z => by cases z) (fun b z => absurd rfl z) (fun z => absurd rfl z)
      (hsp _ hO (.inr ⟨_, vs.toArray, _, hk, rfl, rfl, rfl, by rw [List.size_toArray, hi.length]; exact hl, by simpa using rv⟩))
  | none =>
    have same : upd (fun _ => none) a (.frz { cls := .type "list", data := .seq vs.toArray } (.lst (ns.map V.int))) a = some (.frz { cls := .type "list", data := .seq vs.toArray } (.lst (ns.map V.int))) := upd_same
    have hO : Only (upd (fun _ => none) a (.frz { cls := .type "list", data := .seq vs.toArray } (.lst (ns.map V.int)))) := fun b => by
      by_cases h : b = a
      · exact .inr ⟨_, _, by rw [h]; exact same⟩
      · exact .inl (by rw [upd_ne h])
    refine law_at0 KX hns hb hbb hlim hg ha F hbind hO (fun b u z => ?_) (fun b z => ?_) (fun _ => hk) (hsp _ hO (.inl (.inr ⟨_, same⟩)))
    · by_cases h : b = a
      · subst h
        rw [same] at z
        cases z
        exact ⟨ha, by rw [List.length_map]; exact hl, vs, _, rv, ha⟩
      · rw [upd_ne h] at z
        cases z
    · exact Classical.byContradiction fun h => z (by rw [upd_ne h])
end
/-- the end of a law's row -/
theorem walk_at {l : PySem.W.OpenLaw} {n : Nat} {q : Program} {loose : List Str} {XP : (Str → Option Value) → Heap → Prop} {YP : World → Heap → Prop} {d : DefRec} {K : Params → PySem.W.Frag} {sp : PySem.W.Frag → Sp} {x : Str}
    (hn : l.most = some n) (hn2 : n ≤ sizeLine) (hdf : d.params.defaults = []) (hY : ∀ (w : World) (h : Heap), YP w h → (K w.params).In h)
    (F : ∀ (w : World) (mg : Str → Option Value) (fa : Addr) (h : Heap), (K w.params).In h → h.Ns mainGlobals mg → mg d.name = some (.ref fa) →
      ∃ fd : FuncData, (∀ (s : Shared) (u : Value), BindsTo s fd ⟨[u], []⟩ [(x, u)]) ∧ ∀ base : Heap, (K w.params).In base → base.Ns mainGlobals mg → FnAt callerA l.prog w (K w.params) mg base CX0 fa fd [x] (sp (K w.params)))
    (hsp : ∀ (K : PySem.W.Frag) (H : Hp) (a : Addr) (ns : List Int), ns.length ≤ n → Only H → SqL K H a (ns.map V.int) → sp K [.ref a] H (fun v _ => v = .bl true) fun _ _ _ => False) :
    PySem.W.WalkO q loose XP YP l.row.toRowW d [] (fun f vs => PySem.call f vs) :=
  Att.attach_call hn hdf fun w s₀ s₁ mg mb fa o pm cd doc a vs ns G Y ho hd hcd hmg hobj hints hlen hg => by
    obtain ⟨fd, hb, hF⟩ := F w mg fa _ (hY w _ Y) G.T.g hmg
    exact law_at (hY w _ Y) G.T.g G.T.b G.T.builtins G.T.nolimit hg hobj hints (Nat.le_trans hlen hn2) hF hb fun H hO hS => hsp _ H a ns hlen hO hS
/-- C() of an own error class without an __init__ of its own -/
theorem pe_excP {X : Cx} {x : Str} {C : Addr} {p pos : Pos} {bmB : List Value} {B newId initId : String} (F : ExcBaseFacts B newId initId bmB) (q : PySem.W.excIn X.K C bmB newId = true) (kC : PySem.W.keepIn X.K (.ref C) = true) (hg : Gl X x) (hm : X.mg x = some (.ref C))
    (hdb : (x == ("__debug__" : Str)) = false := by decide) : PE X (.Call (.Name x p) [] [] pos) (fun _ H Q => ∀ a, H a = none → Q (.ref a) (upd H a (exo a C none))) := by
  refine ⟨fun pins s σ H Q I h => ?_⟩
  refine wpAny_Call_Name_kw (ld_glob I hg hm ?_ hdb)
  refine PySem.W.callWith_K0 I.kIn kC ?_
  show wpAny _ _ (call (.ref C) []) _ _ _
  obtain ⟨bm, N, nm, qn, bs, hdct, sn, sub, ab, col, dd, k0, k1, k2, k3, k5, mN, hC, hN, hni, T⟩ := exc_obj I.kIn q
  refine wpAny_call_exc_subT F T hC hN hni (fun h' a hm => ?_) (by show 0 ≤ sizeLine; decide)
  have hn : H a = none := I.hok.gone hm.new
  obtain ⟨t, ht, _, _⟩ := hm.there
  exact ⟨.ref a, upd H a (exo a C none), I.laidN hm.keeps hm.new hn (exo_ok ht), rfl, h a hn⟩
end Ev
set_option maxHeartbeats 4000000
/-! repr of data nested deep: tuples, lists, dicts of one. -/
namespace Ev
open PySem PySem.Spec PyProof.Rows L2
inductive Nd (H : Hp) : Nat → V → PyData → Prop
  | non : Nd H 0 .non .none
  | str (z : Str) (h : z = Str.ofString "a") : Nd H 0 (.str z) (.str z)
  | neg : Nd H 0 (.int (-1)) (.int (-1))
  | dic {a : Addr} (e : H a = some (.dK [])) : Nd H 0 (.ref a) (.dict [])
  | tup {a : Addr} {x : V} {d : PyData} {n : Nat} (e : H a = some (.tup [x])) (h : Nd H n x d) : Nd H (n + 1) (.ref a) (.tuple [d])
  | lst {a : Addr} {x : V} {d : PyData} {n : Nat} (e : H a = some (.lst [x])) (m : a ≠ sysModules) (h : Nd H n x d) : Nd H (n + 1) (.ref a) (.list [d])
  | dik {a : Addr} {x : V} {d : PyData} {n : Nat} (e : H a = some (.dK [(.inl 0, x)])) (h : Nd H n x d) : Nd H (n + 1) (.ref a) (.dict [(.int 0, d)])
theorem Nd.same {H H' : Hp} {n : Nat} {v : V} {d : PyData} (k : ∀ b o, H b = some o → H' b = some o) (h : Nd H n v d) : Nd H' n v d := by
  induction h with
  | non => exact .non
  | str z h => exact .str z h
  | neg => exact .neg
  | dic e => exact .dic (k _ _ e)
  | tup e _ ih => exact .tup (k _ _ e) ih
  | lst e m _ ih => exact .lst (k _ _ e) m ih
  | dik e _ ih => exact .dik (k _ _ e) ih
section
variable {X : Cx} {pins : List (Addr × Obj)} {σ : L2.St} {H : Hp} {s : Shared}
theorem Nd.reads (I : L2.Inv X pins σ H s) {n : Nat} {v : V} {d : PyData} (h : Nd H n v d) : ∀ {u : Value}, RelV v u → ∃ as, Reads s.heap u d as ∧ sysModules ∉ as := by
  induction h with
  | non => intro u r; cases r; exact ⟨_, .none, by simp⟩
  | str z h => intro u r; obtain ⟨t, rfl⟩ := r; exact ⟨_, .str z t, by simp⟩
  | neg => intro u r; obtain ⟨t, rfl⟩ := r; exact ⟨_, .int _ t, by simp⟩
  | @dic a e => intro u r; exact (Dt.dic e).reads I r
  | @tup a x d n e hx ih =>
    intro u r
    cases r
    obtain ⟨its, o, m, rv, ho, hc, hd⟩ := tup_at I e
    cases rv with
    | cons r1 rr =>
      cases rr
      obtain ⟨as, q, nq⟩ := ih r1
      exact ⟨_, .tuple ho hc hd (.cons q .nil), by simp [nq]⟩
  | @lst a x d n e m hx ih =>
    intro u r
    cases r
    obtain ⟨its, c, rv, ho⟩ := lst_at I e
    cases rv with
    | cons r1 rr =>
      cases rr
      obtain ⟨as, q, nq⟩ := ih r1
      exact ⟨_, .list ho rfl rfl (.cons q .nil), by simp [Ne.symm m, nq]⟩
  | @dik a x d n e hx ih =>
    intro u r
    cases r
    obtain ⟨_, hs, vs, kv, o, es, ep, ho, hxd, hd, hk, hp, _⟩ := (show ObjOk X.prog X.w H s.heap a (.dK [(.inl 0, x)]) from I.hok a _ e)
    cases kv with
    | @cons p q0 ps qs h1 h2 =>
      cases h2
      obtain ⟨k0, u⟩ := q0
      obtain ⟨h1, h3⟩ := h1
      have h1 : (Sum.inl 0 : Key) = k0 := h1
      subst h1
      have h3 : RelV x u := h3
      generalize hes : es.toList = l at hp
      cases hp with
      | @cons en q es' qs' gk gv g2 =>
        cases g2
        obtain ⟨as, rd, nq⟩ := ih h3
        obtain ⟨t, et⟩ : ∃ t, en.key = .int 0 t := by
          have rk := relV_key (show keyIs (.inl 0) en.key = true from gk)
          exact rk
        refine ⟨a :: ([] ++ []) ++ (as ++ []), .dict (as := [] ++ []) (bs := as ++ []) ho hxd.1 hd ?_ ?_, ?_⟩
        · rw [hes]
          show ReadsAll _ [en.key] [PyData.int 0] _
          rw [et]
          exact .cons (.int 0 t) .nil
        · rw [hes]
          show ReadsAll _ [en.val] [d] _
          rw [show en.val = u from gv]
          exact .cons rd .nil
        · have : a ≠ sysModules := by simpa using hs
          simp [Ne.symm this, nq]
end
/-- the signs that the text of a pair of numbers has -/
def pcode (c : Nat) : Bool := decide (c = 40) || decide (c = 41) || decide (c = 44) || decide (c = 32) || (decide (48 ≤ c) && decide (c ≤ 57))
def BadTx (z : Str) : Prop := ∃ c ∈ z.cps.toList, pcode c = false
theorem bad_app1 {x y : Str} (h : BadTx x) : BadTx (x ++ y) := let ⟨c, m, p⟩ := h; ⟨c, by rw [show (x ++ y).cps.toList = x.cps.toList ++ y.cps.toList from TL.tl_append x y]; exact List.mem_append_left _ m, p⟩
theorem bad_app2 {x y : Str} (h : BadTx y) : BadTx (x ++ y) := let ⟨c, m, p⟩ := h; ⟨c, by rw [show (x ++ y).cps.toList = x.cps.toList ++ y.cps.toList from TL.tl_append x y]; exact List.mem_append_right _ m, p⟩
theorem len_app (x y : Str) : (x ++ y).length = x.length + y.length := strLen_append x y
theorem Nd.facts {H : Hp} {n : Nat} {v : V} {d : PyData} (h : Nd H n v d) : d.showable = true ∧ d.depth ≤ n + 1 ∧ d.shown.length ≤ 10 + 6 * n ∧ BadTx d.shown := by
  induction h with
  | non => exact ⟨by simp [PyData.showable], by simp [PyData.depth], by simp only [PyData.shown]; decide, 78, by simp only [PyData.shown]; decide +kernel, by decide⟩
  | str z h =>
    subst h
    exact ⟨by simp [PyData.showable], by simp [PyData.depth], by simp only [PyData.shown]; decide +kernel, 39, by simp only [PyData.shown]; decide +kernel, by decide⟩
  | neg => exact ⟨by simp only [PyData.showable]; decide +kernel, by simp [PyData.depth], by simp only [PyData.shown]; decide +kernel, 45, by simp only [PyData.shown]; decide +kernel, by decide⟩
  | dic e => exact ⟨by simp [PyData.showable, PyData.showableKv], by simp [PyData.depth, PyData.depthKv], by simp only [PyData.shown, PyData.shownKv]; decide +kernel, 123, by simp only [PyData.shown, PyData.shownKv]; decide +kernel, by decide⟩
  | @tup a x d n e _ ih =>
    obtain ⟨i1, i2, i3, i4⟩ := ih
    have es : (PyData.tuple [d]).shown = ("(" : Str) ++ d.shown ++ (",)" : Str) := by simp [PyData.shown, PyData.shownAll, tupleText, Str.join]
    refine ⟨by simp [PyData.showable, PyData.showableAll, i1], by simp only [PyData.depth, PyData.depthAll]; omega, ?_, ?_⟩
    · rw [es, len_app, len_app, show ("(" : Str).length = 1 by decide +kernel, show (",)" : Str).length = 2 by decide +kernel]
      omega
    · rw [es]
      exact bad_app1 (bad_app2 i4)
  | @lst a x d n e m _ ih =>
    obtain ⟨i1, i2, i3, i4⟩ := ih
    have es : (PyData.list [d]).shown = ("[" : Str) ++ ("" : Str) ++ d.shown ++ ("]" : Str) := by simp [PyData.shown, PyData.shownAll, listText, textFrom]
    refine ⟨by simp [PyData.showable, PyData.showableAll, i1], by simp only [PyData.depth, PyData.depthAll]; omega, ?_, ?_⟩
    · rw [es, len_app, len_app, len_app, show ("[" : Str).length = 1 by decide +kernel, show ("]" : Str).length = 1 by decide +kernel, show ("" : Str).length = 0 by decide +kernel]
      omega
    · rw [es]
      exact bad_app1 (bad_app2 i4)
  | @dik a x d n e _ ih =>
    obtain ⟨i1, i2, i3, i4⟩ := ih
    have es : (PyData.dict [(.int 0, d)]).shown = ("{" : Str) ++ ((PyData.int 0).shown ++ (": " : Str) ++ d.shown) ++ ("}" : Str) := by simp [PyData.shown, PyData.shownKv, dictText, Str.join]
    have s0 : (PyData.int 0).showable = true := by simp only [PyData.showable]; decide +kernel
    refine ⟨by simp [PyData.showable, PyData.showableKv, i1, s0], by simp only [PyData.depth, PyData.depthKv]; omega, ?_, ?_⟩
    · rw [es, len_app, len_app, len_app, len_app, show ("{" : Str).length = 1 by decide +kernel, show ("}" : Str).length = 1 by decide +kernel, show (": " : Str).length = 2 by decide +kernel, show (PyData.int 0).shown.length = 1 by simp only [PyData.shown]; decide +kernel]
      omega
    · rw [es]
      exact bad_app1 (bad_app2 (bad_app2 i4))
/-- repr(x), x nested data -/
def rReprN : List V → Hp → VK → Prop := fun xs H Q => ∃ (a : Addr) (n : Nat) (d : PyData), xs = [.ref a] ∧ Nd H n (.ref a) d ∧ n ≤ 60 ∧ Q (.str d.shown) H
theorem call_reprN {X : Cx} {k : Nat} (hg : X.A.guards = some []) (hr : Room k X.A) : CallR X (.builtin "repr") rReprN := by
  intro pins s σ H xs us Q I r h
  obtain ⟨v, n, d, rfl, hd, hn, q⟩ := h
  obtain ⟨u, rfl, ru⟩ := vals1 r
  cases ru
  obtain ⟨f1, f2, f3, f4⟩ := hd.facts
  obtain ⟨as, rd, ns⟩ := hd.reads I rfl
  have deep : X.A.units + (d.depth + 1) < cLine := by have := hr.un; omega
  have sz := sizeLine_eq
  exact repr_of_reads' rd f1 (fun _ => ns) hg deep (fun _ _ e => e) (fun h' u tk k => ⟨.str d.shown, H, I.kept k, ⟨_, rfl⟩, q⟩) (by omega)
end Ev
set_option maxHeartbeats 4000000
/-! A helper def that calls repr: it is called where no repr is under way. -/
namespace Ev
open PySem PySem.Spec PyProof.Rows L2
/-- the def at f keeps sp, called where no repr is under way -/
structure FnG (P : Program) (w : World) (K : PySem.W.Frag) (mg : Str → Option Value) (base : Heap) (CX : CXT) (k : Nat) (f : Addr) (fd : FuncData) (ps : List Str) (sp : Sp) : Prop where
  ok : ∀ A : Around, Room k A → A.guards = some [] → FnAt A P w K mg base CX f fd ps sp
theorem fun_g {P : Program} {w : World} {K : PySem.W.Frag} {mg : Str → Option Value} {base : Heap} {CX : CXT} {k : Nat} {x qual : Str} {st : Stmt} {f : Addr} {fd : FuncData} {N ps : List Str} {sp : Sp} (F : Fun K x qual st f fd) (S : FnScope N ps (defScope st)) (len : ∀ vs H Q E, sp vs H Q E → vs.length = ps.length)
    (hbody : ∀ (cdv : Value) (A : Around) (outer : List Env) (s : Shared) (H : Hp) (vs : List V) (Q : VK) (E : XK), Room k (A.deeper (envOfC qual (defScope st) s.heap.objs.size f cdv)) → (A.deeper (envOfC qual (defScope st) s.heap.objs.size f cdv)).guards = some [] → sp vs H Q E →
      ∃ t, PSs (cxOf CX P w K mg base N qual (defScope st) f cdv A outer s H E).nox (defBody st) t ∧ t { nx := fun _ H' => Q .non H', rt := Q } (start N vs) H) : FnG P w K mg base CX (k + 1) f fd ps sp :=
  ⟨fun A hr hg => fun_at F S hr len fun cdv outer s H vs Q E hr' h => hbody cdv A outer s H vs Q E hr' (by show A.guards = some []; exact hg) h⟩
section
variable {X : Cx} {CX : CXT} {k : Nat} {f C : Addr} {fd : FuncData} {ps : List Str} {sp : Sp} {dvs : List V} {ds : List Value} {E : XK} {x m : Str} {p pos apos : Pos} {e o : Expr} {es : List Expr} {ta : TE} {t : TA}
theorem run_fnG {pins : List (Addr × Obj)} {σ : L2.St} {H : Hp} {s : Shared} {Q : VK} {us : List Value} {vs : List V} (F : FnG X.prog X.w X.K X.mg X.base CX k f fd ps sp) (hr : Room k X.A) (hg : X.A.guards = some []) (hb : Binds X.K fd ps []) (hx : Passes CX X E)
    (I : Inv X pins σ H s) (r : Vals vs us) (h : sp vs H Q E) : wpAny (model X.prog X.w) X.A (call (.ref f) us) (EP X pins σ Q) X.xe s := by
  have FA := F.ok X.A hr hg
  have hl : us.length = ps.length := by rw [← r.length]; exact FA.len _ _ _ _ h
  have hb' := hb s us I.kIn (by rw [List.append_nil]; exact hl)
  rw [List.append_nil] at hb'
  refine wpAny_call (codeAny_mono (FA.run X.stack s H ⟨us, []⟩ us vs Q E I.env0 hb' r h) fun r s' hq => ?_)
  cases r with
  | error e => exact hx pins σ H s e s' I hq
  | ok fl =>
    cases fl with
    | ret u => exact I.after hq
    | next => exact False.elim hq
    | brk => exact False.elim hq
    | cont => exact False.elim hq
theorem pe_callG (F : FnG X.prog X.w X.K X.mg X.base CX k f fd ps sp) (hr : Room k X.A) (hgu : X.A.guards = some []) (hg : Gl X x) (hm : X.mg x = some (.ref f)) (hk : PySem.W.keepIn X.K (.ref f) = true) (hb : Binds X.K fd ps []) (hx : Passes CX X E)
    (ha : PA X (e :: es) t) (hdb : (x == ("__debug__" : Str)) = false := by decide) (he : starEach (e :: es) X.env = (false, eval e X.env) :: starEach es X.env := by rfl) (hpl : (backTo pos (starEach es X.env)).any (·.1) = false := by rfl) :
    PE X (.Call (.Name x p) (e :: es) [] pos) (tCall sp [] E t) := by
  refine ⟨fun pins s σ H Q I h => ?_⟩
  refine wpAny_Call_Name_kw (ld_glob I hg hm ?_ hdb)
  refine PySem.W.callWith_K (h₀ := X.base) I.ok.mod.kin hk (thn (ha.run pos pins s σ H _ I h) fun us s1 ⟨vs, H1, I1, r, q⟩ => ⟨I1.kIn, ?_⟩) he hpl
  have q' : sp (vs ++ []) H1 Q E := q
  rw [List.append_nil] at q'
  exact run_fnG F hr hgu hb hx I1 r q'
end
end Ev
set_option maxHeartbeats 4000000
/-! isinstance(e, C), e an error with a field that the handler holds. -/
namespace LawK
open PySem PySem.Spec PyProof.Rows L2 Ev
def rIsEd (K : PySem.W.Frag) (D a : Addr) (cls : Value) (d : Option Addr) : List V → Hp → VK → Prop := fun xs H Q => ∃ (c : V) (cv : Value) (b : Bool) (dd : Addr) (fs : List (Str × V)), xs = [.ref a, c] ∧ cls = .ref D ∧ d = some dd ∧ H dd = some (.xd fs) ∧ ClsV c cv ∧ PySem.W.kitOne K (.ref D) cv = some b ∧ Q (.bl b) H
theorem call_isEd {X : Cx} {a D : Addr} {oe : Obj} {cls : Value} {d : Option Addr} {pn : List (Addr × Obj)} (T : ExcC X.K D) (hz : Zc cls d oe) (hf : ∃ vs, oe.data = .fields vs) : CallR (X.suite a ((a, oe) :: pn)) (.builtin "isinstance") (rIsEd X.K D a cls d) := by
  intro pins s σ H xs us Q I r h
  obtain ⟨c, cv, b, dd, fs, rfl, ec, ed, ea, k, e, q⟩ := h
  obtain ⟨u1, u2, rfl, r1, r2⟩ := vals2 r
  have e2 := k.eq r2
  subst e2
  obtain rfl : u1 = Value.ref a := r1
  subst ec
  subst ed
  obtain ⟨hget, _⟩ := I.pin (a, oe) (List.mem_append_left _ List.mem_cons_self)
  obtain ⟨vs, hd⟩ := hf
  have hx : ObjOk X.prog X.w H s.heap dd (.xd fs) := I.hok dd _ ea
  obtain ⟨mA, hns, hr⟩ := hx
  obtain ⟨od, ho, hl⟩ := lookIn_ns hns
  have J : PySem.W.InstAt s.heap a oe D (some od) := by
    obtain ⟨oc, od2, oda, osl⟩ := oe
    obtain ⟨h1, h2⟩ := hz
    dsimp only at h1 h2 hd
    subst h1 h2 hd
    exact ⟨hget, rfl, rfl, ho⟩
  have hcl : (PySem.W.clsIn X.K D).isSome = true := by
    obtain ⟨cd, hc, _⟩ := PySem.W.any_some T.hd
    rw [hc]
    rfl
  exact PySem.W.kia_one (PySem.W.kitx_exc hcl T.hg T.hk T.hs T.ha T.hn T.ht T.hm) I.kIn J e (fun z => nomatch z) fun tk => ⟨.bl b, H, I.kept (t' := tk) fun _ _ z => z, rfl, q⟩
section
variable {K : PySem.W.Frag} {PE C : Addr}
theorem kit_baseX (B : BaseX K PE) (hc : (PySem.W.clsIn K PE).isSome = true) (T : ErC K PE C) : PySem.W.kitOne K (.ref C) (.ref PE) = some true := by
  unfold PySem.W.kitOne
  by_cases e : C = PE
  · subst e
    rw [if_pos (by simp)]
  · rw [if_neg (by simpa using e)]
    show (if ((PySem.W.clsIn K PE).isSome && PySem.W.typeIn K (.ref PE) == some (.type "type")) = true then PySem.W.subIn K (.ref C) (.ref PE) else none) = some true
    rw [if_pos (by rw [hc, B.isT]; rfl), T.sub]
    simp [veT]
theorem kit_ve (T : ErC K PE C) : PySem.W.kitOne K (.ref C) (.type "ValueError") = some true := by
  have h : PySem.W.kitMeta "ValueError" = true := by decide +kernel
  unfold PySem.W.kitOne
  rw [if_neg (by simp)]
  show (if PySem.W.kitMeta "ValueError" = true then PySem.W.subIn K (.ref C) (.type "ValueError") else none) = some true
  rw [if_pos h, T.sub]
  simp [veT]
end
end LawK
namespace LawK
open PySem PySem.Spec PyProof.Rows L2 Ev
def chkB (K : PySem.W.Frag) (PE : Addr) : Bool := decide (PySem.W.subIn K (.ref PE) (.type "BaseException") = some true) && (PySem.W.hasDictIn K PE && (decide (PySem.W.typeIn K (.ref PE) = some (.type "type")) && (PySem.W.clsIn K PE).isSome))
theorem baseX_mk {K : PySem.W.Frag} {PE : Addr} (h : chkB K PE = true) : BaseX K PE ∧ (PySem.W.clsIn K PE).isSome = true := by
  obtain ⟨h1, h⟩ := Bool.and_eq_true_iff.mp h
  obtain ⟨h2, h⟩ := Bool.and_eq_true_iff.mp h
  obtain ⟨h3, h4⟩ := Bool.and_eq_true_iff.mp h
  exact ⟨⟨of_decide_eq_true h1, h2, of_decide_eq_true h3⟩, h4⟩
end LawK
set_option maxHeartbeats 4000000
/-! isinstance(e, C), e an error without a field that the handler holds. -/
namespace LawK
open PySem PySem.Spec PyProof.Rows L2 Ev
def rIsE0 (K : PySem.W.Frag) (D a : Addr) (cls : Value) (d : Option Addr) : List V → Hp → VK → Prop := fun xs H Q => ∃ (c : V) (cv : Value) (b : Bool), xs = [.ref a, c] ∧ cls = .ref D ∧ d = none ∧ ClsV c cv ∧ PySem.W.kitOne K (.ref D) cv = some b ∧ Q (.bl b) H
theorem call_isE0 {X : Cx} {a D : Addr} {oe : Obj} {cls : Value} {d : Option Addr} {pn : List (Addr × Obj)} (T : ExcC X.K D) (hz : Zc cls d oe) (hf : ∃ vs, oe.data = .fields vs) : CallR (X.suite a ((a, oe) :: pn)) (.builtin "isinstance") (rIsE0 X.K D a cls d) := by
  intro pins s σ H xs us Q I r h
  obtain ⟨c, cv, b, rfl, ec, ed, k, e, q⟩ := h
  obtain ⟨u1, u2, rfl, r1, r2⟩ := vals2 r
  have e2 := k.eq r2
  subst e2
  obtain rfl : u1 = Value.ref a := r1
  subst ec
  subst ed
  obtain ⟨hget, _⟩ := I.pin (a, oe) (List.mem_append_left _ List.mem_cons_self)
  obtain ⟨vs, hd⟩ := hf
  have J : PySem.W.InstAt s.heap a oe D none := by
    obtain ⟨oc, od2, oda, osl⟩ := oe
    obtain ⟨h1, h2⟩ := hz
    dsimp only at h1 h2 hd
    subst h1 h2 hd
    exact ⟨hget, rfl, rfl, trivial⟩
  have hcl : (PySem.W.clsIn X.K D).isSome = true := by
    obtain ⟨cd, hc, _⟩ := PySem.W.any_some T.hd
    rw [hc]
    rfl
  exact PySem.W.kia_one (PySem.W.kitx_exc hcl T.hg T.hk T.hs T.ha T.hn T.ht T.hm) I.kIn J e (fun z => nomatch z) fun tk => ⟨.bl b, H, I.kept (t' := tk) fun _ _ z => z, rfl, q⟩
/-- isinstance of a caught error without a field, whichever its class -/
def rIsEG (K : PySem.W.Frag) (a : Addr) (cls : Value) (d : Option Addr) : List V → Hp → VK → Prop := fun xs H Q => ∃ D, ExcC K D ∧ rIsE0 K D a cls d xs H Q
theorem call_isEG {X : Cx} {a : Addr} {oe : Obj} {cls : Value} {d : Option Addr} {pn : List (Addr × Obj)} (hz : Zc cls d oe) (hf : ∃ vs, oe.data = .fields vs) : CallR (X.suite a ((a, oe) :: pn)) (.builtin "isinstance") (rIsEG X.K a cls d) := by
  intro pins s σ H xs us Q I r h
  obtain ⟨D, T, h⟩ := h
  exact call_isE0 T hz hf pins s σ H xs us Q I r h
end LawK
set_option maxHeartbeats 4000000
namespace LawK
open PySem PySem.Spec PyProof.Rows L2 Ev

def spIs (K : PySem.W.Frag) : Sp := fun vs H Q _ => ∃ (a b : Addr) (d : PyData), vs = [.ref a, .ref b] ∧ Dp K H (.ref a) d ∧ Dp K H (.ref b) d ∧ d.showable = true ∧ d.depth ≤ 100 ∧ d.hasDict = false ∧ d.shown.length ≤ 16000000 ∧ Q (.bl true) H
def spLRead : Sp := fun vs H Q _ => ∃ x k, vs = [x] ∧ Kd H x k ∧ (∀ z, x = .str z → z.length ≤ 2000) ∧
  (∀ z t u us ps H', x = .str z → toldR (cod z) = (some ps, -1) → Same H H' → H' t = some (.tup [.ref u, .int (-1)]) → H' u = some (.tup us) → All2 (PrtAt H') us ps → Q (.ref t) H') ∧
  (∀ z t n H', x = .str z → toldR (cod z) = (none, n) → Same H H' → H' t = some (.tup [.non, .int n]) → Q (.ref t) H') ∧
  (∀ t H', (∀ z, x ≠ .str z) → Same H H' → H' t = some (.tup [.non, .int (-1)]) → Q (.ref t) H')
def spLWord : Sp := fun vs H Q _ => ∃ x o, vs = [x] ∧ PatT H x o ∧ ∀ H', Same H H' → Q (.str (if patO o = true then Str.ofString "let" else Str.ofString "pattern")) H'
section
variable {P : Program} {w : World} {K : PySem.W.Frag} {mg : Str → Option Value} {base : Heap}

abbrev sIs : Stmt := topS 32
theorem scIs : FnScope ["told", "due"] ["told", "due"] (defScope sIs) := ⟨rfl, rfl, rfl, by decide +kernel, rfl, by decide +kernel, by decide +kernel⟩
theorem ok_Is {f : Addr} {fd : FuncData} (F : Fun K "_law_is" "_law_is" sIs f fd)   (T : Glob mg) : FnG P w K mg base CX0 1 f fd ["told", "due"] (spIs K) := by
  refine fun_g F scIs (fun vs H Q E h => ?_) (fun cdv A outer s H vs Q E hr hgu h => ?_)
  · obtain ⟨a, b, d, rfl, _⟩ := h
    rfl
  · refine ⟨_, (pss_one (ps_ret (pe_cmpR op_eq (pe_callB (call_reprD hgu hr) (by rfl) T.repr PyProof.Rows.boot_repr (pa_cons (pv 0) pa_nil)) (pe_callB (call_reprD hgu hr) (by rfl) T.repr PyProof.Rows.boot_repr (pa_cons (pv 1) pa_nil)) (nomark _)))), ?_⟩
    obtain ⟨a, b, d, rfl, h1, h2, s1, s2, s3, s4, q⟩ := h
    refine ⟨.ref a, rfl, a, d, rfl, h1, s1, s2, s3, s4, .ref b, rfl, b, d, rfl, h2, s1, s2, s3, s4, rfl, ?_⟩
    rw [decide_eq_true rfl]
    exact q

abbrev sLRead : Stmt := topS 46
theorem scLRead : FnScope ["text", "found", "e"] ["text"] (defScope sLRead) := ⟨rfl, rfl, rfl, by decide +kernel, rfl, by decide +kernel, by decide +kernel⟩
theorem ok_LRead {PE cB : Addr} {f fR : Addr} {fd fdR : FuncData} (F : Fun K "_law_read" "_law_read" sLRead f fd) (EB : Cls1 K mg PE "BadPattern" "place" cB) (BX : BaseX K PE) (hcP : (PySem.W.clsIn K PE).isSome = true) (gPE : mg "PieceError" = some (.ref PE)) (gVE : mg "ValueError" = none)
    (DR : DkE P w K mg base "read_pattern" sPReadPat ["text"] 5 (spRPat cB) fR fdR) (T : Glob mg) :
    FnOk P w K mg base CX0 7 f fd ["text"] spLRead := by
  refine F.ok scLRead (fun vs H Q E h => ?_) (fun cdv A outer s H vs Q E hr h => ?_)
  · obtain ⟨x, k, rfl, _⟩ := h
    rfl
  · obtain ⟨x, k, rfl, hk, hz, q1, q2, q3⟩ := h
    have sz : sizeLine = 16777216 := sizeLine_eq
    refine ⟨_, pss_cons (ps_set (i := 1) scLRead.nd rfl (.inl rfl) (pe_tup (pa_cons pe_non (pa_cons (pe_un un_neg pe_int) pa_nil)))) (pss_cons (ps_try_as (i := 2) (tb := fun W => tAsg (tTup (tCons (tCallS (spRPat cB) (fun σ => WE W σ) (tCons (tVar 0) tNil)) (tCons (tUn (rU fun i => V.int (-i)) (tC (V.int 1))) tNil))) (gName 1)) (Wout := fun _ _ _ _ => False) rfl rfl scLRead.nd rfl rfl ⟨rfl, by decide, .inl EB.g⟩ takes0
        (fun W pn xe tk _ => pss_one (ps_set (i := 1) scLRead.nd rfl (.inl rfl) (pe_tup (pa_cons (pe_callS (E := fun σ => WE W σ) DR.ok (hr.mono (by decide)) rfl DR.g DR.F.kp DR.b (fun σ => passAt tk σ) (pa_cons (pv 0) pa_nil)) (pa_cons (pe_un un_neg pe_int) pa_nil)))))
        (fun a oe cls d pn hz hf => pss_one (ps_set (i := 1) scLRead.nd rfl (.inl rfl) (pe_ifExp (PW.pt (pw_and (pt_val (pe_callB (call_isEd EB.er.isx hz hf) (by rfl) T.isinstance PyProof.Rows.boot_isinstance (pa_cons (pv 2) (pa_cons (pe_glob (v := .ref PE) (by rfl) gPE rfl) pa_nil)))) (pw_and1 (pt_val (pe_callB (call_isEd EB.er.isx hz hf) (by rfl) T.isinstance PyProof.Rows.boot_isinstance (pa_cons (pv 2) (pa_cons (pe_bltn (v := .ty "ValueError") (by rfl) gVE (by decide +kernel) rfl) pa_nil))))))) (pe_tup (pa_cons pe_non (pa_cons (pe_xf EB.er.xf EB.hno hz hf (pv 2)) pa_nil))) (pe_tup (pa_cons pe_non (pa_cons (pe_un un_neg pe_int) pa_nil)))))))
      (pss_one (ps_ret (pv 1)))), ?_⟩
    refine ⟨_, rfl, by show 2 ≤ sizeLine; rw [sz]; decide, fun t0 nt0 => ?_⟩
    dsimp only [tNext, tDrop, tAsg, gName, tSeq]
    have k0 := Same.new (H := H) (o := .tup [V.non, V.int (-9)]) nt0
    refine ⟨x, rfl, x, k, rfl, hk.same k0, hz, fun z t us ps H1 ex et k1 ht hp => ?_, fun z n d H1 ex et k1 nd => ?_, fun d H1 nx k1 nd => ?_⟩
    · refine ⟨_, rfl, by show 2 ≤ sizeLine; rw [sz]; decide, fun u nu => ?_⟩
      have ku := Same.new (H := H1) (o := .tup [V.ref t, V.int (-1)]) nu
      exact ⟨_, rfl, q1 z u t us ps _ ex et (k0.trans (k1.trans ku)) upd_same (ku _ _ ht) (hp.imp fun _ _ q => q.same ku)⟩
    · refine ⟨true, (exm_at EB.er EB.er EB.ne).trans (congrArg some (decide_eq_true rfl)), (fun _ a1 na1 => ?_), fun z => Bool.noConfusion z⟩
      have kd := Same.new (o := .xd [("place", .int n)]) nd
      have hd : upd H1 d (.xd [("place", .int n)]) d = some (.xd [("place", .int n)]) := upd_same
      revert kd hd
      generalize upd H1 d (.xd [("place", .int n)]) = H2
      intro kd hd
      refine ⟨.ref a1, rfl, .ref PE, .ref PE, true, d, _, rfl, rfl, rfl, hd, .own PE, kit_baseX BX hcP EB.er, _, rfl, iteT ⟨.ref a1, rfl, .ty "ValueError", .type "ValueError", true, d, _, rfl, rfl, rfl, hd, .ty _, kit_ve EB.er, _, rfl, ?_⟩⟩
      refine iteT ⟨.ref a1, rfl, rfl, rfl, d, _, .int n, rfl, hd, (by simp [List.lookup]), ?_⟩
      refine ⟨by show 2 ≤ sizeLine; rw [sz]; decide, fun u nu => ?_⟩
      exact ⟨_, rfl, q2 z u n _ ex et (k0.trans (k1.trans (kd.trans (Same.new nu)))) upd_same⟩
    · refine ⟨true, (exm_at EB.er EB.er EB.ne).trans (congrArg some (decide_eq_true rfl)), (fun _ a1 na1 => ?_), fun z => Bool.noConfusion z⟩
      have kd := Same.new (o := .xd [("place", .int (-1))]) nd
      have hd : upd H1 d (.xd [("place", .int (-1))]) d = some (.xd [("place", .int (-1))]) := upd_same
      revert kd hd
      generalize upd H1 d (.xd [("place", .int (-1))]) = H2
      intro kd hd
      refine ⟨.ref a1, rfl, .ref PE, .ref PE, true, d, _, rfl, rfl, rfl, hd, .own PE, kit_baseX BX hcP EB.er, _, rfl, iteT ⟨.ref a1, rfl, .ty "ValueError", .type "ValueError", true, d, _, rfl, rfl, rfl, hd, .ty _, kit_ve EB.er, _, rfl, ?_⟩⟩
      refine iteT ⟨.ref a1, rfl, rfl, rfl, d, _, .int (-1), rfl, hd, (by simp [List.lookup]), ?_⟩
      refine ⟨by show 2 ≤ sizeLine; rw [sz]; decide, fun u nu => ?_⟩
      exact ⟨_, rfl, q3 u _ nx (k0.trans (k1.trans (kd.trans (Same.new nu)))) upd_same⟩

abbrev sLWord : Stmt := topS 47
theorem scLWord : FnScope ["thing", "word", "e"] ["thing"] (defScope sLWord) := ⟨rfl, rfl, rfl, by decide +kernel, rfl, by decide +kernel, by decide +kernel⟩
theorem ok_LWord {PE cP : Addr} {f fR : Addr} {fd fdR : FuncData} (F : Fun K "_law_word" "_law_word" sLWord f fd) (EP : Cls0 P K mg PE "NoPattern" cP) (BX : BaseX K PE) (hcP : (PySem.W.clsIn K PE).isSome = true) (gPE : mg "PieceError" = some (.ref PE)) (gVE : mg "ValueError" = none)
    (DR : DkE P w K mg base "pattern_text" sPPatText ["pattern"] 6 (spPText cP) fR fdR) (T : Glob mg) :
    FnOk P w K mg base CX0 8 f fd ["thing"] spLWord := by
  refine F.ok scLWord (fun vs H Q E h => ?_) (fun cdv A outer s H vs Q E hr h => ?_)
  · obtain ⟨x, o, rfl, _⟩ := h
    rfl
  · obtain ⟨x, o, rfl, pt, q⟩ := h
    refine ⟨_, pss_cons (ps_set (i := 1) scLWord.nd rfl (.inl rfl) pe_str) (pss_cons (ps_try_as (i := 2) (tb := fun W => tDrop (tCallS (spPText cP) (fun σ => WE W σ) (tCons (tVar 0) tNil))) (Wout := fun _ _ _ _ => False) rfl rfl scLWord.nd rfl rfl ⟨rfl, by decide, .inl EP.g⟩ takes0
        (fun W pn xe tk _ => pss_one (ps_expr (pe_callS (E := fun σ => WE W σ) DR.ok (hr.mono (by decide)) rfl DR.g DR.F.kp DR.b (fun σ => passAt tk σ) (pa_cons (pv 0) pa_nil))))
        (fun a oe cls d pn hz hf => pss_one (ps_set (i := 1) scLWord.nd rfl (.inl rfl) (pe_ifExp (PW.pt (pw_and (pt_val (pe_callB (call_isEG hz hf) (by rfl) T.isinstance PyProof.Rows.boot_isinstance (pa_cons (pv 2) (pa_cons (pe_glob (v := .ref PE) (by rfl) gPE rfl) pa_nil)))) (pw_and1 (pt_val (pe_callB (call_isEG hz hf) (by rfl) T.isinstance PyProof.Rows.boot_isinstance (pa_cons (pv 2) (pa_cons (pe_bltn (v := .ty "ValueError") (by rfl) gVE (by decide +kernel) rfl) pa_nil))))))) pe_str pe_str))))
      (pss_one (ps_ret (pv 1)))), ?_⟩
    dsimp only [tNext, tDrop, tAsg, gName, tSeq]
    refine ⟨x, rfl, x, o, rfl, pt, fun a us ps H1 ex po k1 ha pv_ pok => ?_, fun H1 po k1 => ?_⟩
    · rw [if_pos po] at q
      exact ⟨_, rfl, q H1 k1⟩
    · rw [if_neg (by rw [po]; exact Bool.false_ne_true)] at q
      refine ⟨true, (exm_at EP.er EP.er EP.ne).trans (congrArg some (decide_eq_true rfl)), (fun _ a1 na1 => ?_), fun z => Bool.noConfusion z⟩
      refine ⟨.ref a1, rfl, cP, EP.er.isx, .ref PE, .ref PE, true, rfl, rfl, rfl, .own PE, kit_baseX BX hcP EP.er, _, rfl, iteT ⟨.ref a1, rfl, cP, EP.er.isx, .ty "ValueError", .type "ValueError", true, rfl, rfl, rfl, .ty _, kit_ve EP.er, _, rfl, ?_⟩⟩
      refine iteT ?_
      exact ⟨_, rfl, q H1 k1⟩

end
end LawK
set_option maxHeartbeats 4000000
namespace LawK
open PySem PySem.Spec PyProof.Rows L2 Ev

def spBent : Sp := fun vs H Q _ => ∃ (p a : Addr) (us : List V), vs = [.ref p, .ref a] ∧ H a = some (.tup us) ∧ (∀ y ∈ us, ∃ o, Tg H y o) ∧ 1 ≤ us.length ∧ us.length ≤ 30 ∧ ∃ l, HandL H p l ∧
  ∀ x o H', PatT H' x o → HandL H' p l → But p l H H' → Q x H'
def spSpoilt : Sp := fun vs H Q _ => ∃ (p : Addr) (z : Str), vs = [.ref p, .str z] ∧ z.length ≤ 1900 ∧ ∃ l, HandL H p l ∧ ∀ (y : Str) H', y.length ≤ z.length + 1 → HandL H' p l → But p l H H' → Q (.str y) H'
theorem all_tg {H : Hp} : ∀ {ws : List V}, (∀ y ∈ ws, ∃ o, Tg H y o) → ∃ os, All2 (Tg H) ws os
  | [], _ => ⟨[], .nil⟩
  | w :: ws, h => by
    obtain ⟨o, ho⟩ := h w List.mem_cons_self
    obtain ⟨os, hos⟩ := all_tg fun y hy => h y (List.mem_cons_of_mem _ hy)
    exact ⟨o :: os, .cons ho hos⟩
theorem pat_tup {H : Hp} {a : Addr} {ws : List V} (h : H a = some (.tup ws)) (n : ws.length ≤ 1000) (t : ∀ y ∈ ws, ∃ o, Tg H y o) : ∃ o, PatT H (.ref a) o := by
  obtain ⟨os, hos⟩ := all_tg t
  exact ⟨_, .tup h n hos⟩
theorem PatT.but {H H' : Hp} {p l : Addr} {x : V} {o : Option (List (Option (List V)))} (h : PatT H x o) (h0 : HandL H p l) (h1 : HandL H' p l) (b : But p l H H') : PatT H' x o := by
  cases h with
  | no h n => exact .no (Kd.but h h0 h1 b) n
  | tup e n h => exact .tup (b _ _ (tup_ne h0 e) e) n (h.imp fun _ _ q => Tg.but q h0 h1 b)
theorem tgs_same {H H' : Hp} (k : Same H H') {ws : List V} (h : ∀ y ∈ ws, ∃ o, Tg H y o) : ∀ y ∈ ws, ∃ o, Tg H' y o := fun y hy => let ⟨o, q⟩ := h y hy; ⟨o, q.same k⟩
theorem tgs_but {H H' : Hp} {p l : Addr} (h0 : HandL H p l) (h1 : HandL H' p l) (b : But p l H H') {ws : List V} (h : ∀ y ∈ ws, ∃ o, Tg H y o) : ∀ y ∈ ws, ∃ o, Tg H' y o := fun y hy => let ⟨o, q⟩ := h y hy; ⟨o, Tg.but q h0 h1 b⟩
theorem tgs_cons {H H' : Hp} (k : Same H H') {x : V} {ws : List V} (t : ∃ o, Tg H' x o) (h : ∀ y ∈ ws, ∃ o, Tg H y o) : ∀ y ∈ x :: ws, ∃ o, Tg H' y o := fun y hy => (List.mem_cons.mp hy).elim (fun e => e ▸ t) fun hy => tgs_same k h y hy
theorem tg_tup {H : Hp} {a : Addr} {xs : List V} (e : H a = some (.tup xs)) (n : xs.length ≤ 30) (h : ∀ y ∈ xs, (∃ k, Kd H y k) ∧ Vs y) : ∃ o, Tg H (.ref a) o := ⟨_, .tup e n h⟩
theorem sc_cons {H : Hp} {x : V} {xs : List V} (a : (∃ k, Kd H x k) ∧ Vs x) (h : ∀ y ∈ xs, (∃ k, Kd H y k) ∧ Vs y) : ∀ y ∈ x :: xs, (∃ k, Kd H y k) ∧ Vs y := fun y hy => (List.mem_cons.mp hy).elim (fun e => e ▸ a) (h y)
theorem sc_nil {H : Hp} : ∀ y ∈ ([] : List V), (∃ k, Kd H y k) ∧ Vs y := fun y hy => absurd hy List.not_mem_nil
theorem sc_bl {H : Hp} (b : Bool) : (∃ k, Kd H (.bl b) k) ∧ Vs (.bl b) := ⟨⟨_, .bl b⟩, fun w e => by cases e⟩
structure Bt (H0 H : Hp) (p l a : Addr) (us : List V) (y : V) (xs : List V) : Prop where
  hand : HandL H p l
  but : But p l H0 H
  at_ : H a = some (.tup us)
  tus : ∀ z ∈ us, ∃ o, Tg H z o
  ty : ∃ o, Tg H y o
  pa : ∀ x ∈ xs, ∃ o, PatT H x o
theorem Bt.same {H0 H H' : Hp} {p l a : Addr} {us : List V} {y : V} {xs : List V} (B : Bt H0 H p l a us y xs) (k : Same H H') : Bt H0 H' p l a us y xs :=
  ⟨B.hand.same k, B.but.and k, k _ _ B.at_, tgs_same k B.tus, (let ⟨o, q⟩ := B.ty; ⟨o, q.same k⟩), fun x hx => let ⟨o, q⟩ := B.pa x hx; ⟨o, q.same k⟩⟩
theorem Bt.put {H0 H : Hp} {p l a : Addr} {us : List V} {y x : V} {xs : List V} (B : Bt H0 H p l a us y xs) (t : ∃ o, PatT H x o) : Bt H0 H p l a us y (x :: xs) :=
  ⟨B.hand, B.but, B.at_, B.tus, B.ty, fun z hz => (List.mem_cons.mp hz).elim (fun e => e ▸ t) (B.pa z)⟩
theorem rep_mem {H : Hp} {us : List V} (h : ∀ z ∈ us, ∃ o, Tg H z o) {n : Nat} {z : V} (hz : z ∈ (List.replicate n us).flatten) : ∃ o, Tg H z o := by
  obtain ⟨w, hw, hz⟩ := List.mem_flatten.mp hz
  rw [(List.mem_replicate.mp hw).2] at hz
  exact h z hz
theorem cut_to {us : List V} {k : Int} (h : 0 ≤ k) (h2 : k ≤ 1000) : (cutV us none (some k)).length ≤ 1000 := by
  rw [cutV_to h, List.length_take]
  omega
theorem cut_to_len (z : Str) {k : Int} (h : 0 ≤ k) : (cutS z none (some k)).length = min k.toNat z.length := by
  rw [len_S, cutS_to h, List.length_take, ← len_S]
theorem cut_from_len (z : Str) {k : Int} (h : 0 ≤ k) : (cutS z (some k) none).length = z.length - k.toNat := by
  rw [len_S, cutS_from h, List.length_drop, ← len_S]
theorem cut_le (us : List V) (i j : Option Int) : (cutV us i j).length ≤ us.length := by
  unfold cutV
  rw [List.length_take, List.length_drop]
  omega
section
variable {P : Program} {w : World} {K : PySem.W.Frag} {mg : Str → Option Value} {base : Heap}

abbrev sLBent : Stmt := topS 48
theorem scLBent : FnScope ["pool", "pattern", "odd", "part", "at", "some"] ["pool", "pattern"] (defScope sLBent) := ⟨rfl, rfl, rfl, by decide +kernel, rfl, by decide +kernel, by decide +kernel⟩
theorem ok_LBent {f : Addr} {fd : FuncData} (F : Fun K "_law_bent" "_law_bent" sLBent f fd) {fDeep : Addr} {fdDeep : FuncData} (DDeep : Dk P w K mg base "_law_deep" sDeep [] 1 spDeep fDeep fdDeep) {fDraw : Addr} {fdDraw : FuncData} (DDraw : Dk P w K mg base "_law_draw" sDraw ["pool", "many"] 1 spDraw fDraw fdDraw) (T : Glob mg) : FnOk P w K mg base CX0 2 f fd ["pool", "pattern"] spBent := by
  refine F.ok scLBent (fun vs H Q E h => ?_) (fun cdv A outer s H vs Q E hr h => ?_)
  · obtain ⟨p, a, us, rfl, _⟩ := h
    rfl
  · refine ⟨_, (pss_cons (ps_set (i := 2) scLBent.nd rfl (.inl rfl) (pe_lst (pa_cons (pe_tup (pa_cons pe_str (pa_cons pe_int (pa_cons pe_int pa_nil)))) (pa_cons (pe_tup (pa_cons pe_str (pa_cons pe_int (pa_cons pe_int pa_nil)))) (pa_cons (pe_tup (pa_cons pe_str (pa_cons pe_bl (pa_cons pe_int pa_nil)))) (pa_cons (pe_tup (pa_cons pe_str (pa_cons pe_str pa_nil))) (pa_cons (pe_tup (pa_cons pe_str (pa_cons pe_str pa_nil))) (pa_cons (pe_tup (pa_cons pe_str (pa_cons pe_str pa_nil))) (pa_cons (pe_tup (pa_cons pe_str (pa_cons pe_str pa_nil))) (pa_cons (pe_tup (pa_cons pe_str (pa_cons pe_str pa_nil))) (pa_cons (pe_tup (pa_cons pe_str (pa_cons pe_int pa_nil))) pa_nil)))))))))))
      (pss_cons (ps_set (i := 2) scLBent.nd rfl (.inl rfl) (pe_op op_cat (pv 2) (pe_lst (pa_cons (pe_tup (pa_cons pe_str (pa_cons pe_str pa_nil))) (pa_cons (pe_lst (pa_cons pe_str pa_nil)) (pa_cons pe_non (pa_cons (pe_tup (pa_cons pe_str pa_nil)) (pa_cons (pe_call0 DDeep.ok (hr.mono (by decide)) (by rfl) DDeep.g DDeep.F.kp DDeep.b .nil pass0) (pa_cons (pe_tup pa_nil) (pa_cons (pe_tup (pa_cons pe_str (pa_cons pe_int (pa_cons pe_int pa_nil)))) (pa_cons (pe_tup (pa_cons pe_str (pa_cons pe_str pa_nil))) (pa_cons (pe_tup (pa_cons pe_str (pa_cons pe_int pa_nil))) pa_nil))))))))))))
      (pss_cons (ps_set (i := 3) scLBent.nd rfl (.inl rfl) (pe_ix ix_list (pv 2) (pe_call DDraw.ok (hr.mono (by decide)) (by rfl) DDraw.g DDraw.F.kp DDraw.b .nil pass0 (pa_cons (pv 0) (pa_cons pe_int pa_nil))) (fun _ _ => rfl)))
      (pss_cons (ps_set (i := 4) scLBent.nd rfl (.inl rfl) (pe_call DDraw.ok (hr.mono (by decide)) (by rfl) DDraw.g DDraw.F.kp DDraw.b .nil pass0 (pa_cons (pv 0) (pa_cons (pe_op op_add (pe_callB call_len_seq (by rfl) T.len PySem.boot_len (pa_cons (pv 1) pa_nil)) pe_int) pa_nil))))
      (pss_cons (ps_set (i := 5) scLBent.nd rfl (.inl rfl) (pe_op op_cat (pe_op op_rep (pe_lst (pa_cons (pe_op op_catM (pe_op op_catM (pe_slice sl_tupM (pv 1) po_none (po_some (pv 4))) (pe_tup (pa_cons (pv 3) pa_nil))) (pe_slice sl_tupM (pv 1) (po_some (pe_op op_add (pv 4) pe_int)) po_none)) pa_nil)) pe_int) (pe_lst (pa_cons (pe_op op_catM (pv 1) (pe_tup (pa_cons (pe_tup (pa_cons pe_str (pa_cons pe_int (pa_cons pe_int pa_nil)))) pa_nil))) (pa_cons (pe_op op_catM (pe_tup (pa_cons (pe_tup (pa_cons pe_str (pa_cons pe_int (pa_cons pe_int pa_nil)))) pa_nil)) (pv 1)) (pa_cons (pe_callTy call_list_of (by rfl) T.list (by decide +kernel) (pa_cons (pv 1) pa_nil)) (pa_cons (pe_tup pa_nil) (pa_cons pe_non pa_nil))))))))
      (pss_one (ps_ret (pe_ix ix_list (pe_op op_cat (pv 5) (pe_lst (pa_cons (pe_slice sl_tupM (pe_op op_repT (pv 1) pe_int) po_none (po_some pe_int)) (pa_cons (pe_slice sl_tupM (pe_op op_repT (pv 1) pe_int) po_none (po_some pe_int)) (pa_cons (pe_op op_catM (pe_op op_catM (pe_slice sl_tupM (pv 1) po_none (po_some (pv 4))) (pe_tup (pa_cons (pv 3) pa_nil))) (pe_slice sl_tupM (pv 1) (po_some (pv 4)) po_none)) pa_nil))))) (pe_call DDraw.ok (hr.mono (by decide)) (by rfl) DDraw.g DDraw.F.kp DDraw.b .nil pass0 (pa_cons (pv 0) (pa_cons pe_int pa_nil))) (fun _ _ => rfl))))))))), ?_⟩
    obtain ⟨p, a, us, rfl, ha, tus, u1, u30, l, hH, q⟩ := h
    have sz : sizeLine = 16777216 := sizeLine_eq
    have b0 : But p l H H := But.refl p l H
    have A0 : ∀ y ∈ ([] : List V), ∃ o, Tg H y o := fun y hy => absurd hy List.not_mem_nil
    refine ⟨by show 3 ≤ sizeLine; rw [sz]; decide, fun t1 nt1 => ?_⟩
    have kt1 := Same.new (H := H) (o := .tup [.str (Str.ofString "gap"), .int 3, .int 2]) nt1
    have et1 : upd H t1 (.tup [.str (Str.ofString "gap"), .int 3, .int 2]) t1 = some (.tup [.str (Str.ofString "gap"), .int 3, .int 2]) := upd_same
    have ht1 := hH.same kt1
    have bt1 := b0.and kt1
    have A1 := tgs_cons kt1 (tg_tup et1 (by simp) (sc_cons (lit_ok (by decide +kernel)) (sc_cons int_ok (sc_cons int_ok sc_nil)))) A0
    revert kt1 et1 ht1 bt1 A1 
    generalize upd H t1 (.tup [.str (Str.ofString "gap"), .int 3, .int 2]) = G1
    intro kt1 et1 ht1 bt1 A1 
    refine ⟨by show 3 ≤ sizeLine; rw [sz]; decide, fun t2 nt2 => ?_⟩
    have kt2 := Same.new (H := G1) (o := .tup [.str (Str.ofString "gap"), .int 0, .int 21]) nt2
    have et2 : upd G1 t2 (.tup [.str (Str.ofString "gap"), .int 0, .int 21]) t2 = some (.tup [.str (Str.ofString "gap"), .int 0, .int 21]) := upd_same
    have ht2 := ht1.same kt2
    have bt2 := bt1.and kt2
    have A2 := tgs_cons kt2 (tg_tup et2 (by simp) (sc_cons (lit_ok (by decide +kernel)) (sc_cons int_ok (sc_cons int_ok sc_nil)))) A1
    revert kt2 et2 ht2 bt2 A2 
    generalize upd G1 t2 (.tup [.str (Str.ofString "gap"), .int 0, .int 21]) = G2
    intro kt2 et2 ht2 bt2 A2 
    refine ⟨by show 3 ≤ sizeLine; rw [sz]; decide, fun t3 nt3 => ?_⟩
    have kt3 := Same.new (H := G2) (o := .tup [.str (Str.ofString "gap"), .bl true, .int 2]) nt3
    have et3 : upd G2 t3 (.tup [.str (Str.ofString "gap"), .bl true, .int 2]) t3 = some (.tup [.str (Str.ofString "gap"), .bl true, .int 2]) := upd_same
    have ht3 := ht2.same kt3
    have bt3 := bt2.and kt3
    have A3 := tgs_cons kt3 (tg_tup et3 (by simp) (sc_cons (lit_ok (by decide +kernel)) (sc_cons (sc_bl _) (sc_cons int_ok sc_nil)))) A2
    revert kt3 et3 ht3 bt3 A3 
    generalize upd G2 t3 (.tup [.str (Str.ofString "gap"), .bl true, .int 2]) = G3
    intro kt3 et3 ht3 bt3 A3 
    refine ⟨by show 2 ≤ sizeLine; rw [sz]; decide, fun t4 nt4 => ?_⟩
    have kt4 := Same.new (H := G3) (o := .tup [.str (Str.ofString "lot"), .str (Str.ofString "")]) nt4
    have et4 : upd G3 t4 (.tup [.str (Str.ofString "lot"), .str (Str.ofString "")]) t4 = some (.tup [.str (Str.ofString "lot"), .str (Str.ofString "")]) := upd_same
    have ht4 := ht3.same kt4
    have bt4 := bt3.and kt4
    have A4 := tgs_cons kt4 (tg_tup et4 (by simp) (sc_cons (lit_ok (by decide +kernel)) (sc_cons (lit_ok (by decide +kernel)) sc_nil))) A3
    revert kt4 et4 ht4 bt4 A4 
    generalize upd G3 t4 (.tup [.str (Str.ofString "lot"), .str (Str.ofString "")]) = G4
    intro kt4 et4 ht4 bt4 A4 
    refine ⟨by show 2 ≤ sizeLine; rw [sz]; decide, fun t5 nt5 => ?_⟩
    have kt5 := Same.new (H := G4) (o := .tup [.str (Str.ofString "lot"), .str (Str.ofString "ba")]) nt5
    have et5 : upd G4 t5 (.tup [.str (Str.ofString "lot"), .str (Str.ofString "ba")]) t5 = some (.tup [.str (Str.ofString "lot"), .str (Str.ofString "ba")]) := upd_same
    have ht5 := ht4.same kt5
    have bt5 := bt4.and kt5
    have A5 := tgs_cons kt5 (tg_tup et5 (by simp) (sc_cons (lit_ok (by decide +kernel)) (sc_cons (lit_ok (by decide +kernel)) sc_nil))) A4
    revert kt5 et5 ht5 bt5 A5 
    generalize upd G4 t5 (.tup [.str (Str.ofString "lot"), .str (Str.ofString "ba")]) = G5
    intro kt5 et5 ht5 bt5 A5 
    refine ⟨by show 2 ≤ sizeLine; rw [sz]; decide, fun t6 nt6 => ?_⟩
    have kt6 := Same.new (H := G5) (o := .tup [.str (Str.ofString "lot"), .str (Str.ofString "aa")]) nt6
    have et6 : upd G5 t6 (.tup [.str (Str.ofString "lot"), .str (Str.ofString "aa")]) t6 = some (.tup [.str (Str.ofString "lot"), .str (Str.ofString "aa")]) := upd_same
    have ht6 := ht5.same kt6
    have bt6 := bt5.and kt6
    have A6 := tgs_cons kt6 (tg_tup et6 (by simp) (sc_cons (lit_ok (by decide +kernel)) (sc_cons (lit_ok (by decide +kernel)) sc_nil))) A5
    revert kt6 et6 ht6 bt6 A6 
    generalize upd G5 t6 (.tup [.str (Str.ofString "lot"), .str (Str.ofString "aa")]) = G6
    intro kt6 et6 ht6 bt6 A6 
    refine ⟨by show 2 ≤ sizeLine; rw [sz]; decide, fun t7 nt7 => ?_⟩
    have kt7 := Same.new (H := G6) (o := .tup [.str (Str.ofString "sign"), .str (Str.ofString "ab")]) nt7
    have et7 : upd G6 t7 (.tup [.str (Str.ofString "sign"), .str (Str.ofString "ab")]) t7 = some (.tup [.str (Str.ofString "sign"), .str (Str.ofString "ab")]) := upd_same
    have ht7 := ht6.same kt7
    have bt7 := bt6.and kt7
    have A7 := tgs_cons kt7 (tg_tup et7 (by simp) (sc_cons (lit_ok (by decide +kernel)) (sc_cons (lit_ok (by decide +kernel)) sc_nil))) A6
    revert kt7 et7 ht7 bt7 A7 
    generalize upd G6 t7 (.tup [.str (Str.ofString "sign"), .str (Str.ofString "ab")]) = G7
    intro kt7 et7 ht7 bt7 A7 
    refine ⟨by show 2 ≤ sizeLine; rw [sz]; decide, fun t8 nt8 => ?_⟩
    have kt8 := Same.new (H := G7) (o := .tup [.str (Str.ofString "sign"), .str (Str.ofString "")]) nt8
    have et8 : upd G7 t8 (.tup [.str (Str.ofString "sign"), .str (Str.ofString "")]) t8 = some (.tup [.str (Str.ofString "sign"), .str (Str.ofString "")]) := upd_same
    have ht8 := ht7.same kt8
    have bt8 := bt7.and kt8
    have A8 := tgs_cons kt8 (tg_tup et8 (by simp) (sc_cons (lit_ok (by decide +kernel)) (sc_cons (lit_ok (by decide +kernel)) sc_nil))) A7
    revert kt8 et8 ht8 bt8 A8 
    generalize upd G7 t8 (.tup [.str (Str.ofString "sign"), .str (Str.ofString "")]) = G8
    intro kt8 et8 ht8 bt8 A8 
    refine ⟨by show 2 ≤ sizeLine; rw [sz]; decide, fun t9 nt9 => ?_⟩
    have kt9 := Same.new (H := G8) (o := .tup [.str (Str.ofString "any"), .int 1]) nt9
    have et9 : upd G8 t9 (.tup [.str (Str.ofString "any"), .int 1]) t9 = some (.tup [.str (Str.ofString "any"), .int 1]) := upd_same
    have ht9 := ht8.same kt9
    have bt9 := bt8.and kt9
    have A9 := tgs_cons kt9 (tg_tup et9 (by simp) (sc_cons (lit_ok (by decide +kernel)) (sc_cons int_ok sc_nil))) A8
    revert kt9 et9 ht9 bt9 A9 
    generalize upd G8 t9 (.tup [.str (Str.ofString "any"), .int 1]) = G9
    intro kt9 et9 ht9 bt9 A9 
    refine ⟨by show 9 ≤ sizeLine; rw [sz]; decide, fun t10 nt10 => ?_⟩
    have kt10 := Same.new (H := G9) (o := .lst ([.ref t1, .ref t2, .ref t3, .ref t4, .ref t5, .ref t6, .ref t7, .ref t8, .ref t9] : List V)) nt10
    have et10 : upd G9 t10 (.lst ([.ref t1, .ref t2, .ref t3, .ref t4, .ref t5, .ref t6, .ref t7, .ref t8, .ref t9] : List V)) t10 = some (.lst ([.ref t1, .ref t2, .ref t3, .ref t4, .ref t5, .ref t6, .ref t7, .ref t8, .ref t9] : List V)) := upd_same
    have ht10 := ht9.same kt10
    have bt10 := bt9.and kt10
    have net10 := ht9.ne nt10
    have A10 := tgs_same kt10 A9
    revert kt10 et10 ht10 bt10 A10
    generalize upd G9 t10 (.lst ([.ref t1, .ref t2, .ref t3, .ref t4, .ref t5, .ref t6, .ref t7, .ref t8, .ref t9] : List V)) = G10
    intro kt10 et10 ht10 bt10 A10
    refine ⟨.ref t10, rfl, ?_⟩
    refine ⟨by show 2 ≤ sizeLine; rw [sz]; decide, fun t11 nt11 => ?_⟩
    have kt11 := Same.new (H := G10) (o := .tup [.str (Str.ofString "sign"), .str (Str.ofString "\n")]) nt11
    have et11 : upd G10 t11 (.tup [.str (Str.ofString "sign"), .str (Str.ofString "\n")]) t11 = some (.tup [.str (Str.ofString "sign"), .str (Str.ofString "\n")]) := upd_same
    have ht11 := ht10.same kt11
    have bt11 := bt10.and kt11
    have A11 := tgs_cons kt11 (tg_tup et11 (by simp) (sc_cons (lit_ok (by decide +kernel)) (sc_cons (lit_ok (by decide +kernel)) sc_nil))) A10
    have et10 := kt11 _ _ et10
    revert kt11 et11 ht11 bt11 A11 et10
    generalize upd G10 t11 (.tup [.str (Str.ofString "sign"), .str (Str.ofString "\n")]) = G11
    intro kt11 et11 ht11 bt11 A11 et10
    refine ⟨by show 1 ≤ sizeLine; rw [sz]; decide, fun t12 nt12 => ?_⟩
    have kt12 := Same.new (H := G11) (o := .lst [.str (Str.ofString "any")]) nt12
    have et12 : upd G11 t12 (.lst [.str (Str.ofString "any")]) t12 = some (.lst [.str (Str.ofString "any")]) := upd_same
    have ht12 := ht11.same kt12
    have bt12 := bt11.and kt12
    have A12 := tgs_cons kt12 (⟨_, .no (.lst et12) (by decide) (fun w e => by cases e)⟩) A11
    have et10 := kt12 _ _ et10
    revert kt12 et12 ht12 bt12 A12 et10
    generalize upd G11 t12 (.lst [.str (Str.ofString "any")]) = G12
    intro kt12 et12 ht12 bt12 A12 et10
    have A13 := tgs_cons (Same.refl G12) (⟨_, .no .non (by decide) (fun w e => by cases e)⟩ : ∃ o, Tg G12 .non o) A12
    refine ⟨by show 1 ≤ sizeLine; rw [sz]; decide, fun t14 nt14 => ?_⟩
    have kt14 := Same.new (H := G12) (o := .tup [.str (Str.ofString "Any")]) nt14
    have et14 : upd G12 t14 (.tup [.str (Str.ofString "Any")]) t14 = some (.tup [.str (Str.ofString "Any")]) := upd_same
    have ht14 := ht12.same kt14
    have bt14 := bt12.and kt14
    have A14 := tgs_cons kt14 (tg_tup et14 (by simp) (sc_cons (lit_ok (by decide +kernel)) sc_nil)) A13
    have et10 := kt14 _ _ et10
    revert kt14 et14 ht14 bt14 A14 et10
    generalize upd G12 t14 (.tup [.str (Str.ofString "Any")]) = G14
    intro kt14 et14 ht14 bt14 A14 et10
    refine ⟨rfl, fun t15 vt15 G15 kt15 nt15 et15 => ?_⟩
    have ht15 := ht14.same kt15
    have bt15 := bt14.and kt15
    have A15 := tgs_cons kt15 (⟨_, .no (.lst et15) (by decide) (fun w e => by cases e)⟩ : ∃ o, Tg G15 (.ref t15) o) A14
    have et10 := kt15 _ _ et10
    refine ⟨by show 0 ≤ sizeLine; rw [sz]; decide, fun t16 nt16 => ?_⟩
    have kt16 := Same.new (H := G15) (o := .tup []) nt16
    have et16 : upd G15 t16 (.tup []) t16 = some (.tup []) := upd_same
    have ht16 := ht15.same kt16
    have bt16 := bt15.and kt16
    have A16 := tgs_cons kt16 (tg_tup et16 (by simp) sc_nil) A15
    have et10 := kt16 _ _ et10
    revert kt16 et16 ht16 bt16 A16 et10
    generalize upd G15 t16 (.tup []) = G16
    intro kt16 et16 ht16 bt16 A16 et10
    refine ⟨by show 3 ≤ sizeLine; rw [sz]; decide, fun t17 nt17 => ?_⟩
    have kt17 := Same.new (H := G16) (o := .tup [.str (Str.ofString "gap"), .int 0, .int 0]) nt17
    have et17 : upd G16 t17 (.tup [.str (Str.ofString "gap"), .int 0, .int 0]) t17 = some (.tup [.str (Str.ofString "gap"), .int 0, .int 0]) := upd_same
    have ht17 := ht16.same kt17
    have bt17 := bt16.and kt17
    have A17 := tgs_cons kt17 (tg_tup et17 (by simp) (sc_cons (lit_ok (by decide +kernel)) (sc_cons int_ok (sc_cons int_ok sc_nil)))) A16
    have et10 := kt17 _ _ et10
    revert kt17 et17 ht17 bt17 A17 et10
    generalize upd G16 t17 (.tup [.str (Str.ofString "gap"), .int 0, .int 0]) = G17
    intro kt17 et17 ht17 bt17 A17 et10
    refine ⟨by show 2 ≤ sizeLine; rw [sz]; decide, fun t18 nt18 => ?_⟩
    have kt18 := Same.new (H := G17) (o := .tup [.str (Str.ofString "lot"), .str (Str.ofString "abcdefghijklmnopqrstu")]) nt18
    have et18 : upd G17 t18 (.tup [.str (Str.ofString "lot"), .str (Str.ofString "abcdefghijklmnopqrstu")]) t18 = some (.tup [.str (Str.ofString "lot"), .str (Str.ofString "abcdefghijklmnopqrstu")]) := upd_same
    have ht18 := ht17.same kt18
    have bt18 := bt17.and kt18
    have A18 := tgs_cons kt18 (tg_tup et18 (by simp) (sc_cons (lit_ok (by decide +kernel)) (sc_cons (lit_ok (by decide +kernel)) sc_nil))) A17
    have et10 := kt18 _ _ et10
    revert kt18 et18 ht18 bt18 A18 et10
    generalize upd G17 t18 (.tup [.str (Str.ofString "lot"), .str (Str.ofString "abcdefghijklmnopqrstu")]) = G18
    intro kt18 et18 ht18 bt18 A18 et10
    refine ⟨by show 2 ≤ sizeLine; rw [sz]; decide, fun t19 nt19 => ?_⟩
    have kt19 := Same.new (H := G18) (o := .tup [.str (Str.ofString "sign"), .int 1]) nt19
    have et19 : upd G18 t19 (.tup [.str (Str.ofString "sign"), .int 1]) t19 = some (.tup [.str (Str.ofString "sign"), .int 1]) := upd_same
    have ht19 := ht18.same kt19
    have bt19 := bt18.and kt19
    have A19 := tgs_cons kt19 (tg_tup et19 (by simp) (sc_cons (lit_ok (by decide +kernel)) (sc_cons int_ok sc_nil))) A18
    have et10 := kt19 _ _ et10
    revert kt19 et19 ht19 bt19 A19 et10
    generalize upd G18 t19 (.tup [.str (Str.ofString "sign"), .int 1]) = G19
    intro kt19 et19 ht19 bt19 A19 et10
    refine ⟨by show 9 ≤ sizeLine; rw [sz]; decide, fun t20 nt20 => ?_⟩
    have kt20 := Same.new (H := G19) (o := .lst ([.ref t11, .ref t12, .non, .ref t14, .ref t15, .ref t16, .ref t17, .ref t18, .ref t19] : List V)) nt20
    have et20 : upd G19 t20 (.lst ([.ref t11, .ref t12, .non, .ref t14, .ref t15, .ref t16, .ref t17, .ref t18, .ref t19] : List V)) t20 = some (.lst ([.ref t11, .ref t12, .non, .ref t14, .ref t15, .ref t16, .ref t17, .ref t18, .ref t19] : List V)) := upd_same
    have ht20 := ht19.same kt20
    have bt20 := bt19.and kt20
    have net20 := ht19.ne nt20
    have A20 := tgs_same kt20 A19
    have et10 := kt20 _ _ et10
    revert kt20 et20 ht20 bt20 A20 et10
    generalize upd G19 t20 (.lst ([.ref t11, .ref t12, .non, .ref t14, .ref t15, .ref t16, .ref t17, .ref t18, .ref t19] : List V)) = G20
    intro kt20 et20 ht20 bt20 A20 et10
    refine ⟨t10, t20, _, _, rfl, rfl, et10, et20, (by show 9 + 9 ≤ sizeLine; rw [sz]; decide), fun t21 nt21 => ?_⟩
    have kt21 := Same.new (H := G20) (o := .lst (([.ref t1, .ref t2, .ref t3, .ref t4, .ref t5, .ref t6, .ref t7, .ref t8, .ref t9] : List V) ++ ([.ref t11, .ref t12, .non, .ref t14, .ref t15, .ref t16, .ref t17, .ref t18, .ref t19] : List V))) nt21
    have et21 : upd G20 t21 (.lst (([.ref t1, .ref t2, .ref t3, .ref t4, .ref t5, .ref t6, .ref t7, .ref t8, .ref t9] : List V) ++ ([.ref t11, .ref t12, .non, .ref t14, .ref t15, .ref t16, .ref t17, .ref t18, .ref t19] : List V))) t21 = some (.lst (([.ref t1, .ref t2, .ref t3, .ref t4, .ref t5, .ref t6, .ref t7, .ref t8, .ref t9] : List V) ++ ([.ref t11, .ref t12, .non, .ref t14, .ref t15, .ref t16, .ref t17, .ref t18, .ref t19] : List V))) := upd_same
    have ht21 := ht20.same kt21
    have bt21 := bt20.and kt21
    have net21 := ht20.ne nt21
    have A21 := tgs_same kt21 A20
    have et10 := kt21 _ _ et10
    revert kt21 et21 ht21 bt21 A21 et10
    generalize upd G20 t21 (.lst (([.ref t1, .ref t2, .ref t3, .ref t4, .ref t5, .ref t6, .ref t7, .ref t8, .ref t9] : List V) ++ ([.ref t11, .ref t12, .non, .ref t14, .ref t15, .ref t16, .ref t17, .ref t18, .ref t19] : List V))) = G21
    intro kt21 et21 ht21 bt21 A21 et10
    refine ⟨.ref t21, rfl, .ref p, rfl, p, 18, rfl, by decide, by decide, l, ht21, fun v HF v0 v1 hF bF => ?_⟩
    obtain ⟨y, ey, my⟩ := atI_in (xs := ([.ref t1, .ref t2, .ref t3, .ref t4, .ref t5, .ref t6, .ref t7, .ref t8, .ref t9] : List V) ++ ([.ref t11, .ref t12, .non, .ref t14, .ref t15, .ref t16, .ref t17, .ref t18, .ref t19] : List V)) v0 v1
    refine ⟨t21, _, v, y, rfl, rfl, sq_of (bF _ _ net21 et21), ey, ?_⟩
    have ty : ∃ o, Tg HF y o := tgs_but ht21 hF bF A21 y (List.mem_reverse.mpr my)
    have haF : HF a = some (.tup us) := bF _ _ (tup_ne ht21 (bt21 _ _ (tup_ne hH ha) ha)) (bt21 _ _ (tup_ne hH ha) ha)
    refine ⟨.ref p, rfl, .ref a, rfl, a, us, rfl, .inr (SqT.of haF), _, _, rfl, rfl, p, _, rfl, by omega, by omega, l, hF, fun k HK c0 c1 hK bK => ?_⟩
    have B : Bt H HK p l a us y [] := ⟨hK, (bt21.trans bF).trans bK, bK _ _ (tup_ne hF haF) haF, tgs_but hH hK ((bt21.trans bF).trans bK) tus, (let ⟨o, q⟩ := ty; ⟨o, Tg.but q hF hK bK⟩), fun x hx => absurd hx List.not_mem_nil⟩
    clear ty hF bF
    refine ⟨.ref a, rfl, .int k, rfl, _, rfl, a, us, rfl, B.at_, fun s1 Js1 ks1 es1 => ?_⟩
    have B := B.same ks1
    refine ⟨y, rfl, (by show 1 ≤ sizeLine; rw [sz]; decide), fun s2 ns2 => ?_⟩
    have ks2 := Same.new (H := Js1) (o := .tup [y]) ns2
    have es2 : upd Js1 s2 (.tup [y]) s2 = some (.tup [y]) := upd_same
    have B := B.same ks2
    have es1 := ks2 _ _ es1
    revert ks2 es2 B es1
    generalize upd Js1 s2 (.tup [y]) = Js2
    intro ks2 es2 B es1
    refine ⟨s1, s2, _, _, rfl, rfl, es1, es2, (by have := cut_le us none (some k); show _ + 1 ≤ 1000; omega), fun s3 Js3 ks3 es3 => ?_⟩
    have B := B.same ks3
    have es1 := ks3 _ _ es1
    have es2 := ks3 _ _ es2
    refine ⟨.ref a, rfl, .int k, rfl, _, _, rfl, rfl, _, rfl, a, us, rfl, B.at_, fun s4 Js4 ks4 es4 => ?_⟩
    have B := B.same ks4
    have es1 := ks4 _ _ es1
    have es2 := ks4 _ _ es2
    have es3 := ks4 _ _ es3
    have c1' := cut_le us none (some k)
    have c2' := cut_le us (some (k + 1)) none
    refine ⟨s3, s4, _, _, rfl, rfl, es3, es4, (by rw [List.length_append]; show _ + 1 + _ ≤ 1000; omega), fun s5 Js5 ks5 es5 => ?_⟩
    have B := B.same ks5
    have es1 := ks5 _ _ es1
    have es2 := ks5 _ _ es2
    have es3 := ks5 _ _ es3
    have es4 := ks5 _ _ es4
    have B := B.put (pat_tup es5 (by rw [List.length_append, List.length_append]; show _ + 1 + _ ≤ 1000; omega) fun z hz => (List.mem_append.mp hz).elim (fun hz => (List.mem_append.mp hz).elim (fun hz => B.tus z (cutV_mem hz)) fun hz => List.mem_singleton.mp hz ▸ B.ty) fun hz => B.tus z (cutV_mem hz))
    refine ⟨(by show 1 ≤ sizeLine; rw [sz]; decide), fun s6 ns6 => ?_⟩
    have ks6 := Same.new (H := Js5) (o := .lst [.ref s5]) ns6
    have es6 : upd Js5 s6 (.lst [.ref s5]) s6 = some (.lst [.ref s5]) := upd_same
    have B := B.same ks6
    revert ks6 es6 B
    generalize upd Js5 s6 (.lst [.ref s5]) = Js6
    intro ks6 es6 B
    refine ⟨s6, 3, _, rfl, rfl, es6, by decide, by decide, (by show 1 * 3 ≤ sizeLine; rw [sz]; decide), fun s7 ns7 => ?_⟩
    have ks7 := Same.new (H := Js6) (o := .lst (List.replicate (Int.toNat 3) [V.ref s5]).flatten) ns7
    have es7 : upd Js6 s7 (.lst (List.replicate (Int.toNat 3) [V.ref s5]).flatten) s7 = some (.lst (List.replicate (Int.toNat 3) [V.ref s5]).flatten) := upd_same
    have B := B.same ks7
    have es6 := ks7 _ _ es6
    revert ks7 es7 B es6
    generalize upd Js6 s7 (.lst (List.replicate (Int.toNat 3) [V.ref s5]).flatten) = Js7
    intro ks7 es7 B es6
    have es7 : Js7 s7 = some (.lst [.ref s5, .ref s5, .ref s5]) := es7
    refine ⟨.ref a, rfl, ?_⟩
    refine ⟨(by show 3 ≤ sizeLine; rw [sz]; decide), fun s8 ns8 => ?_⟩
    have ks8 := Same.new (H := Js7) (o := .tup [.str (Str.ofString "gap"), .int 0, .int 1]) ns8
    have es8 : upd Js7 s8 (.tup [.str (Str.ofString "gap"), .int 0, .int 1]) s8 = some (.tup [.str (Str.ofString "gap"), .int 0, .int 1]) := upd_same
    have B := B.same ks8
    have es7 := ks8 _ _ es7
    revert ks8 es8 B es7
    generalize upd Js7 s8 (.tup [.str (Str.ofString "gap"), .int 0, .int 1]) = Js8
    intro ks8 es8 B es7
    have tgs8 := tg_tup es8 (by simp) (sc_cons (lit_ok (by decide +kernel)) (sc_cons int_ok (sc_cons int_ok sc_nil)))
    refine ⟨(by show 1 ≤ sizeLine; rw [sz]; decide), fun s9 ns9 => ?_⟩
    have ks9 := Same.new (H := Js8) (o := .tup [.ref s8]) ns9
    have es9 : upd Js8 s9 (.tup [.ref s8]) s9 = some (.tup [.ref s8]) := upd_same
    have B := B.same ks9
    have es7 := ks9 _ _ es7
    have es8 := ks9 _ _ es8
    revert ks9 es9 B es7 es8
    generalize upd Js8 s9 (.tup [.ref s8]) = Js9
    intro ks9 es9 B es7 es8
    have tgs8 := tg_tup es8 (by simp) (sc_cons (lit_ok (by decide +kernel)) (sc_cons int_ok (sc_cons int_ok sc_nil)))
    refine ⟨a, s9, _, _, rfl, rfl, B.at_, es9, (by show _ + 1 ≤ 1000; omega), fun s10 Js10 ks10 es10 => ?_⟩
    have B := B.same ks10
    have es7 := ks10 _ _ es7
    have es8 := ks10 _ _ es8
    have es9 := ks10 _ _ es9
    have tgx := tg_tup es8 (by simp) (sc_cons (lit_ok (by decide +kernel)) (sc_cons int_ok (sc_cons int_ok sc_nil)))
    have B := B.put (pat_tup es10 (by rw [List.length_append]; show _ + 1 ≤ 1000; omega) fun z hz => (List.mem_append.mp hz).elim (fun hz => B.tus z hz) fun hz => List.mem_singleton.mp hz ▸ tgx)
    refine ⟨(by show 3 ≤ sizeLine; rw [sz]; decide), fun s11 ns11 => ?_⟩
    have ks11 := Same.new (H := Js10) (o := .tup [.str (Str.ofString "gap"), .int 0, .int 1]) ns11
    have es11 : upd Js10 s11 (.tup [.str (Str.ofString "gap"), .int 0, .int 1]) s11 = some (.tup [.str (Str.ofString "gap"), .int 0, .int 1]) := upd_same
    have B := B.same ks11
    have es7 := ks11 _ _ es7
    revert ks11 es11 B es7
    generalize upd Js10 s11 (.tup [.str (Str.ofString "gap"), .int 0, .int 1]) = Js11
    intro ks11 es11 B es7
    have tgs11 := tg_tup es11 (by simp) (sc_cons (lit_ok (by decide +kernel)) (sc_cons int_ok (sc_cons int_ok sc_nil)))
    refine ⟨(by show 1 ≤ sizeLine; rw [sz]; decide), fun s12 ns12 => ?_⟩
    have ks12 := Same.new (H := Js11) (o := .tup [.ref s11]) ns12
    have es12 : upd Js11 s12 (.tup [.ref s11]) s12 = some (.tup [.ref s11]) := upd_same
    have B := B.same ks12
    have es7 := ks12 _ _ es7
    have es11 := ks12 _ _ es11
    revert ks12 es12 B es7 es11
    generalize upd Js11 s12 (.tup [.ref s11]) = Js12
    intro ks12 es12 B es7 es11
    have tgs11 := tg_tup es11 (by simp) (sc_cons (lit_ok (by decide +kernel)) (sc_cons int_ok (sc_cons int_ok sc_nil)))
    refine ⟨.ref a, rfl, ?_⟩
    refine ⟨s12, a, _, _, rfl, rfl, es12, B.at_, (by show 1 + _ ≤ 1000; omega), fun s13 Js13 ks13 es13 => ?_⟩
    have B := B.same ks13
    have es7 := ks13 _ _ es7
    have es11 := ks13 _ _ es11
    have es12 := ks13 _ _ es12
    have tgx := tg_tup es11 (by simp) (sc_cons (lit_ok (by decide +kernel)) (sc_cons int_ok (sc_cons int_ok sc_nil)))
    have B := B.put (pat_tup es13 (by rw [List.length_append]; show 1 + _ ≤ 1000; omega) fun z hz => (List.mem_append.mp hz).elim (fun hz => List.mem_singleton.mp hz ▸ tgx) fun hz => B.tus z hz)
    refine ⟨.ref a, rfl, ?_⟩
    refine ⟨a, us, rfl, .inr (SqT.of B.at_), fun s14 ns14 => ?_⟩
    have ks14 := Same.new (H := Js13) (o := .lst us) ns14
    have es14 : upd Js13 s14 (.lst us) s14 = some (.lst us) := upd_same
    have B := B.same ks14
    have es7 := ks14 _ _ es7
    revert ks14 es14 B es7
    generalize upd Js13 s14 (.lst us) = Js14
    intro ks14 es14 B es7
    have B := B.put (⟨_, .no (.lst es14) (by decide)⟩ : ∃ o, PatT Js14 (.ref s14) o)
    refine ⟨(by show 0 ≤ sizeLine; rw [sz]; decide), fun s15 ns15 => ?_⟩
    have ks15 := Same.new (H := Js14) (o := .tup []) ns15
    have es15 : upd Js14 s15 (.tup []) s15 = some (.tup []) := upd_same
    have B := B.same ks15
    have es7 := ks15 _ _ es7
    revert ks15 es15 B es7
    generalize upd Js14 s15 (.tup []) = Js15
    intro ks15 es15 B es7
    have B := B.put (pat_tup es15 (by decide) fun z hz => absurd hz List.not_mem_nil)
    have B := B.put (⟨_, .no .non (by decide)⟩ : ∃ o, PatT Js15 .non o)
    refine ⟨(by show 5 ≤ sizeLine; rw [sz]; decide), fun s16 ns16 => ?_⟩
    have ks16 := Same.new (H := Js15) (o := .lst ([.ref s10, .ref s13, .ref s14, .ref s15, .non] : List V)) ns16
    have es16 : upd Js15 s16 (.lst ([.ref s10, .ref s13, .ref s14, .ref s15, .non] : List V)) s16 = some (.lst ([.ref s10, .ref s13, .ref s14, .ref s15, .non] : List V)) := upd_same
    have B := B.same ks16
    have es7 := ks16 _ _ es7
    revert ks16 es16 B es7
    generalize upd Js15 s16 (.lst ([.ref s10, .ref s13, .ref s14, .ref s15, .non] : List V)) = Js16
    intro ks16 es16 B es7
    refine ⟨s7, s16, _, _, rfl, rfl, es7, es16, (by show 3 + 5 ≤ sizeLine; rw [sz]; decide), fun s17 ns17 => ?_⟩
    have ks17 := Same.new (H := Js16) (o := .lst (([.ref s5, .ref s5, .ref s5] : List V) ++ ([.ref s10, .ref s13, .ref s14, .ref s15, .non] : List V))) ns17
    have es17 : upd Js16 s17 (.lst (([.ref s5, .ref s5, .ref s5] : List V) ++ ([.ref s10, .ref s13, .ref s14, .ref s15, .non] : List V))) s17 = some (.lst (([.ref s5, .ref s5, .ref s5] : List V) ++ ([.ref s10, .ref s13, .ref s14, .ref s15, .non] : List V))) := upd_same
    have B := B.same ks17
    have es7 := ks17 _ _ es7
    have es16 := ks17 _ _ es16
    revert ks17 es17 B es7 es16
    generalize upd Js16 s17 (.lst (([.ref s5, .ref s5, .ref s5] : List V) ++ ([.ref s10, .ref s13, .ref s14, .ref s15, .non] : List V))) = Js17
    intro ks17 es17 B es7 es16
    refine ⟨.ref s17, rfl, ?_⟩
    refine ⟨.ref a, rfl, a, 30, us, rfl, rfl, SqT.of B.at_, (fun z => by rw [z] at u1; exact absurd u1 (by decide)), by decide, by decide, by omega, fun s18 ns18 => ?_⟩
    have ks18 := Same.new (H := Js17) (o := .tup (List.replicate (Int.toNat 30) us).flatten) ns18
    have es18 : upd Js17 s18 (.tup (List.replicate (Int.toNat 30) us).flatten) s18 = some (.tup (List.replicate (Int.toNat 30) us).flatten) := upd_same
    have B := B.same ks18
    have es17 := ks18 _ _ es17
    revert ks18 es18 B es17
    generalize upd Js17 s18 (.tup (List.replicate (Int.toNat 30) us).flatten) = Js18
    intro ks18 es18 B es17
    refine ⟨_, rfl, s18, _, rfl, es18, fun s19 Js19 ks19 es19 => ?_⟩
    have B := B.same ks19
    have es17 := ks19 _ _ es17
    have es18 := ks19 _ _ es18
    have B := B.put (pat_tup es19 (cut_to (by decide) (by decide)) fun z hz => rep_mem B.tus (cutV_mem hz))
    refine ⟨.ref a, rfl, a, 30, us, rfl, rfl, SqT.of B.at_, (fun z => by rw [z] at u1; exact absurd u1 (by decide)), by decide, by decide, by omega, fun s20 ns20 => ?_⟩
    have ks20 := Same.new (H := Js19) (o := .tup (List.replicate (Int.toNat 30) us).flatten) ns20
    have es20 : upd Js19 s20 (.tup (List.replicate (Int.toNat 30) us).flatten) s20 = some (.tup (List.replicate (Int.toNat 30) us).flatten) := upd_same
    have B := B.same ks20
    have es17 := ks20 _ _ es17
    revert ks20 es20 B es17
    generalize upd Js19 s20 (.tup (List.replicate (Int.toNat 30) us).flatten) = Js20
    intro ks20 es20 B es17
    refine ⟨_, rfl, s20, _, rfl, es20, fun s21 Js21 ks21 es21 => ?_⟩
    have B := B.same ks21
    have es17 := ks21 _ _ es17
    have es20 := ks21 _ _ es20
    have B := B.put (pat_tup es21 (cut_to (by decide) (by decide)) fun z hz => rep_mem B.tus (cutV_mem hz))
    refine ⟨.ref a, rfl, .int k, rfl, _, rfl, a, us, rfl, B.at_, fun s22 Js22 ks22 es22 => ?_⟩
    have B := B.same ks22
    have es17 := ks22 _ _ es17
    refine ⟨y, rfl, (by show 1 ≤ sizeLine; rw [sz]; decide), fun s23 ns23 => ?_⟩
    have ks23 := Same.new (H := Js22) (o := .tup [y]) ns23
    have es23 : upd Js22 s23 (.tup [y]) s23 = some (.tup [y]) := upd_same
    have B := B.same ks23
    have es17 := ks23 _ _ es17
    have es22 := ks23 _ _ es22
    revert ks23 es23 B es17 es22
    generalize upd Js22 s23 (.tup [y]) = Js23
    intro ks23 es23 B es17 es22
    refine ⟨s22, s23, _, _, rfl, rfl, es22, es23, (by have := cut_le us none (some k); show _ + 1 ≤ 1000; omega), fun s24 Js24 ks24 es24 => ?_⟩
    have B := B.same ks24
    have es17 := ks24 _ _ es17
    have es22 := ks24 _ _ es22
    have es23 := ks24 _ _ es23
    refine ⟨.ref a, rfl, .int k, rfl, _, rfl, a, us, rfl, B.at_, fun s25 Js25 ks25 es25 => ?_⟩
    have B := B.same ks25
    have es17 := ks25 _ _ es17
    have es22 := ks25 _ _ es22
    have es23 := ks25 _ _ es23
    have es24 := ks25 _ _ es24
    have c1' := cut_le us none (some k)
    have c2' := cut_le us (some k) none
    refine ⟨s24, s25, _, _, rfl, rfl, es24, es25, (by rw [List.length_append]; show _ + 1 + _ ≤ 1000; omega), fun s26 Js26 ks26 es26 => ?_⟩
    have B := B.same ks26
    have es17 := ks26 _ _ es17
    have es22 := ks26 _ _ es22
    have es23 := ks26 _ _ es23
    have es24 := ks26 _ _ es24
    have es25 := ks26 _ _ es25
    have B := B.put (pat_tup es26 (by rw [List.length_append, List.length_append]; show _ + 1 + _ ≤ 1000; omega) fun z hz => (List.mem_append.mp hz).elim (fun hz => (List.mem_append.mp hz).elim (fun hz => B.tus z (cutV_mem hz)) fun hz => List.mem_singleton.mp hz ▸ B.ty) fun hz => B.tus z (cutV_mem hz))
    refine ⟨(by show 3 ≤ sizeLine; rw [sz]; decide), fun s27 ns27 => ?_⟩
    have ks27 := Same.new (H := Js26) (o := .lst ([.ref s19, .ref s21, .ref s26] : List V)) ns27
    have es27 : upd Js26 s27 (.lst ([.ref s19, .ref s21, .ref s26] : List V)) s27 = some (.lst ([.ref s19, .ref s21, .ref s26] : List V)) := upd_same
    have B := B.same ks27
    have es17 := ks27 _ _ es17
    revert ks27 es27 B es17
    generalize upd Js26 s27 (.lst ([.ref s19, .ref s21, .ref s26] : List V)) = Js27
    intro ks27 es27 B es17
    refine ⟨s17, s27, _, _, rfl, rfl, es17, es27, (by show 8 + 3 ≤ sizeLine; rw [sz]; decide), fun s28 ns28 => ?_⟩
    have ks28 := Same.new (H := Js27) (o := .lst (([.ref s5, .ref s5, .ref s5] : List V) ++ ([.ref s10, .ref s13, .ref s14, .ref s15, .non] : List V) ++ ([.ref s19, .ref s21, .ref s26] : List V))) ns28
    have es28 : upd Js27 s28 (.lst (([.ref s5, .ref s5, .ref s5] : List V) ++ ([.ref s10, .ref s13, .ref s14, .ref s15, .non] : List V) ++ ([.ref s19, .ref s21, .ref s26] : List V))) s28 = some (.lst (([.ref s5, .ref s5, .ref s5] : List V) ++ ([.ref s10, .ref s13, .ref s14, .ref s15, .non] : List V) ++ ([.ref s19, .ref s21, .ref s26] : List V))) := upd_same
    have ne6 := B.hand.ne ns28
    have B := B.same ks28
    have es17 := ks28 _ _ es17
    have es27 := ks28 _ _ es27
    revert ks28 es28 B es17 es27
    generalize upd Js27 s28 (.lst (([.ref s5, .ref s5, .ref s5] : List V) ++ ([.ref s10, .ref s13, .ref s14, .ref s15, .non] : List V) ++ ([.ref s19, .ref s21, .ref s26] : List V))) = Js28
    intro ks28 es28 B es17 es27
    refine ⟨.ref p, rfl, p, 11, rfl, by decide, by decide, l, B.hand, fun v2 H2 w0 w1 h2 b2 => ?_⟩
    obtain ⟨x, ex, mx⟩ := atI_in (xs := ([.ref s5, .ref s5, .ref s5] : List V) ++ ([.ref s10, .ref s13, .ref s14, .ref s15, .non] : List V) ++ ([.ref s19, .ref s21, .ref s26] : List V)) w0 w1
    have pd : ∃ o, PatT Js28 x o := B.pa x (by simp at mx ⊢; rcases mx with h | h | h | h | h | h | h | h | h <;> simp [h])
    obtain ⟨o, ho⟩ := pd
    exact ⟨s28, _, v2, x, rfl, rfl, sq_of (b2 _ _ ne6 es28), ex, q x o H2 (PatT.but ho B.hand h2 b2) h2 (B.but.trans b2)⟩

abbrev sLSpoilt : Stmt := topS 49
theorem scLSpoilt : FnScope ["pool", "text", "at", "sign"] ["pool", "text"] (defScope sLSpoilt) := ⟨rfl, rfl, rfl, by decide +kernel, rfl, by decide +kernel, by decide +kernel⟩
theorem ok_LSpoilt {f : Addr} {fd : FuncData} (F : Fun K "_law_spoilt" "_law_spoilt" sLSpoilt f fd)  {fDraw : Addr} {fdDraw : FuncData} (DDraw : Dk P w K mg base "_law_draw" sDraw ["pool", "many"] 1 spDraw fDraw fdDraw) (T : Glob mg) : FnOk P w K mg base CX0 2 f fd ["pool", "text"] spSpoilt := by
  refine F.ok scLSpoilt (fun vs H Q E h => ?_) (fun cdv A outer s H vs Q E hr h => ?_)
  · obtain ⟨p, z, rfl, _⟩ := h
    rfl
  · refine ⟨_, (pss_cons (ps_set (i := 2) scLSpoilt.nd rfl (.inl rfl) (pe_call DDraw.ok (hr.mono (by decide)) (by rfl) DDraw.g DDraw.F.kp DDraw.b .nil pass0 (pa_cons (pv 0) (pa_cons (pe_op op_add (pe_callB call_lenZ (by rfl) T.len PySem.boot_len (pa_cons (pv 1) pa_nil)) pe_int) pa_nil))))
      (pss_cons (ps_set (i := 3) scLSpoilt.nd rfl (.inl rfl) (pe_ix ix_str pe_str (pe_call DDraw.ok (hr.mono (by decide)) (by rfl) DDraw.g DDraw.F.kp DDraw.b .nil pass0 (pa_cons (pv 0) (pa_cons pe_int pa_nil))) (fun _ _ => rfl)))
      (pss_one (ps_ret (pe_ix ix_list (pe_lst (pa_cons (pe_slice sl_str (pv 1) po_none (po_some (pv 2))) (pa_cons (pe_op op_add_str (pe_op op_add_str (pe_slice sl_str (pv 1) po_none (po_some (pv 2))) (pv 3)) (pe_slice sl_str (pv 1) (po_some (pv 2)) po_none)) (pa_cons (pe_op op_add_str (pe_op op_add_str (pe_slice sl_str (pv 1) po_none (po_some (pv 2))) (pv 3)) (pe_slice sl_str (pv 1) (po_some (pe_op op_add (pv 2) pe_int)) po_none)) (pa_cons (pe_op op_add_str (pe_slice sl_str (pv 1) po_none (po_some (pv 2))) (pe_slice sl_str (pv 1) (po_some (pe_op op_add (pv 2) pe_int)) po_none)) (pa_cons (pe_slice sl_str (pv 1) (po_some (pv 2)) po_none) pa_nil)))))) (pe_call DDraw.ok (hr.mono (by decide)) (by rfl) DDraw.g DDraw.F.kp DDraw.b .nil pass0 (pa_cons (pv 0) (pa_cons pe_int pa_nil))) (fun _ _ => rfl)))))), ?_⟩
    obtain ⟨p, z, rfl, lz, l, hH, q⟩ := h
    have sz : sizeLine = 16777216 := sizeLine_eq
    refine ⟨.ref p, rfl, .str z, rfl, z, rfl, len5 (by omega), _, _, rfl, rfl, p, _, rfl, by omega, by omega, l, hH, fun k HK c0 c1 hK bK => ?_⟩
    dsimp only [tNext, tSeq, tAsg, gName]
    refine ⟨.ref p, rfl, p, 14, rfl, by decide, by decide, l, hK, fun v H2 v0 v1 h2 b2 => ?_⟩
    have l14 : (Str.ofString "?[]{},\\ab09~ \n").cps.toList.length = 14 := by decide +kernel
    obtain ⟨c, ec, _⟩ := atI_in (xs := (Str.ofString "?[]{},\\ab09~ \n").cps.toList) v0 (by rw [l14]; exact v1)
    refine ⟨_, _, c, rfl, rfl, (by rw [sz]; decide +kernel), ec, ?_⟩
    dsimp only [tNext, tSeq, tAsg, gName]
    have lt := cut_to_len z c0
    have lf := cut_from_len z c0
    have c0' : (0 : Int) ≤ k + 1 := by omega
    have lf1 := cut_from_len z c0'
    have l1 : (sn c).length = 1 := rfl
    have app := fun (x y : Str) => app_len x y
    refine ⟨.str z, rfl, .int k, rfl, _, rfl, z, rfl, len5 (by omega), ?_⟩
    refine ⟨.str z, rfl, .int k, rfl, _, rfl, z, rfl, len5 (by omega), .str (sn c), rfl, _, _, rfl, rfl, (by rw [sz]; omega), .str z, rfl, .int k, rfl, _, rfl, z, rfl, len5 (by omega), _, _, rfl, rfl, (by rw [sz, app]; omega), ?_⟩
    refine ⟨.str z, rfl, .int k, rfl, _, rfl, z, rfl, len5 (by omega), .str (sn c), rfl, _, _, rfl, rfl, (by rw [sz]; omega), .str z, rfl, .int k, rfl, _, _, rfl, rfl, _, rfl, z, rfl, len5 (by omega), _, _, rfl, rfl, (by rw [sz, app]; omega), ?_⟩
    refine ⟨.str z, rfl, .int k, rfl, _, rfl, z, rfl, len5 (by omega), .str z, rfl, .int k, rfl, _, _, rfl, rfl, _, rfl, z, rfl, len5 (by omega), _, _, rfl, rfl, (by rw [sz]; omega), ?_⟩
    refine ⟨.str z, rfl, .int k, rfl, _, rfl, z, rfl, len5 (by omega), by show 5 ≤ sizeLine; rw [sz]; decide, fun d nd => ?_⟩
    have kd := Same.new (H := H2) (o := .lst [.str (cutS z none (some k)), .str (cutS z none (some k) ++ sn c ++ cutS z (some k) none), .str (cutS z none (some k) ++ sn c ++ cutS z (some (k + 1)) none), .str (cutS z none (some k) ++ cutS z (some (k + 1)) none), .str (cutS z (some k) none)]) nd
    have ed : upd H2 d (.lst [.str (cutS z none (some k)), .str (cutS z none (some k) ++ sn c ++ cutS z (some k) none), .str (cutS z none (some k) ++ sn c ++ cutS z (some (k + 1)) none), .str (cutS z none (some k) ++ cutS z (some (k + 1)) none), .str (cutS z (some k) none)]) d = some (.lst [.str (cutS z none (some k)), .str (cutS z none (some k) ++ sn c ++ cutS z (some k) none), .str (cutS z none (some k) ++ sn c ++ cutS z (some (k + 1)) none), .str (cutS z none (some k) ++ cutS z (some (k + 1)) none), .str (cutS z (some k) none)]) := upd_same
    have ne := h2.ne nd
    refine ⟨.ref p, rfl, p, 5, rfl, by decide, by decide, l, h2.same kd, fun v2 H3 w0 w1 h3 b3 => ?_⟩
    obtain ⟨x, ex, mx⟩ := atI_in (xs := ([.str (cutS z none (some k)), .str (cutS z none (some k) ++ sn c ++ cutS z (some k) none), .str (cutS z none (some k) ++ sn c ++ cutS z (some (k + 1)) none), .str (cutS z none (some k) ++ cutS z (some (k + 1)) none), .str (cutS z (some k) none)] : List V)) w0 w1
    have fx : ∃ y : Str, x = .str y ∧ y.length ≤ z.length + 1 := by
      rcases List.mem_cons.mp mx with e | mx
      · exact ⟨_, e, by omega⟩
      rcases List.mem_cons.mp mx with e | mx
      · exact ⟨_, e, by rw [app, app]; omega⟩
      rcases List.mem_cons.mp mx with e | mx
      · exact ⟨_, e, by rw [app, app]; omega⟩
      rcases List.mem_cons.mp mx with e | mx
      · exact ⟨_, e, by rw [app]; omega⟩
      · exact ⟨_, List.mem_singleton.mp mx, by omega⟩
    obtain ⟨y, rfl, ly⟩ := fx
    exact ⟨d, _, v2, _, rfl, rfl, sq_of (b3 _ _ ne ed), ex, q y H3 ly h3 (((bK.trans b2).and kd).trans b3)⟩

end
end LawK
set_option maxHeartbeats 4000000
/-! data that are shown shortly: put together of parts. -/
namespace Ev
open PySem PySem.Spec PyProof.Rows L2
theorem intG_wt {k : Nat} (h : k ≤ 100000) : (PyData.int (k : Nat)).showable = true ∧ (PyData.int (k : Nat)).leavesShort 13 = true ∧ (PyData.int (k : Nat)).weight ≤ 20 := by
  obtain ⟨a, b⟩ := show_int (i := (k : Nat)) (by omega) (by omega)
  refine ⟨a, b, ?_⟩
  simp only [PyData.weight]
  split
  · omega
  · rename_i ne
    have h0 : ((k : Nat) : Int).natAbs ≠ 0 := by
      intro z
      have z2 : ((k : Nat) : Int) = 0 := by omega
      rw [z2] at ne
      exact ne rfl
    have := (Nat.log2_lt h0).mpr (show ((k : Nat) : Int).natAbs < 2 ^ 19 from by
      have : (2 : Nat) ^ 19 = 524288 := by decide
      omega)
    omega

/-- k: depth, w: weight -/
structure Gd (d : PyData) (k w : Nat) : Prop where
  sh : d.showable = true
  dp : d.depth ≤ k
  ls : d.leavesShort 13 = true
  wt : d.weight ≤ w
  hd : d.hasDict = false
structure GdA (ds : List PyData) (k w : Nat) : Prop where
  sh : PyData.showableAll ds = true
  dp : PyData.depthAll ds ≤ k
  ls : PyData.leavesShortAll 13 ds = true
  wt : PyData.weightAll ds ≤ w
  hd : PyData.hasDictAll ds = false
theorem Gd.int {n : Nat} (h : n ≤ 100000) (k : Nat) : Gd (.int (n : Nat)) k 20 := by
  obtain ⟨a, b, c⟩ := intG_wt h
  exact ⟨a, by simp only [PyData.depth]; exact Nat.zero_le _, b, c, by simp only [PyData.hasDict]⟩
theorem Gd.none (k w : Nat) (h : 1 ≤ w) : Gd .none k w := ⟨rfl, Nat.zero_le _, rfl, by simp only [PyData.weight]; omega, rfl⟩
theorem Gd.str {z : Str} (c : ∀ x ∈ z.cps.toList, x < 1000) (k : Nat) : Gd (.str z) k (z.length + 2) := by
  refine ⟨by simp only [PyData.showable], by simp only [PyData.depth]; exact Nat.zero_le _, ?_, ?_, by simp only [PyData.hasDict]⟩
  · simp only [PyData.leavesShort]
    exact List.all_eq_true.mpr fun x hx => decide_eq_true (Nat.lt_trans (c x hx) (by decide))
  · simp only [PyData.weight]
    have : z.cps.size = z.length := rfl
    omega
theorem GdA.nil (k w : Nat) : GdA [] k w := ⟨rfl, Nat.zero_le _, rfl, Nat.zero_le _, rfl⟩
theorem GdA.cons {d : PyData} {ds : List PyData} {k w1 w2 w : Nat} (a : Gd d k w1) (b : GdA ds k w2) (h : w1 + 1 + w2 ≤ w) : GdA (d :: ds) k w := by
  refine ⟨by simp only [PyData.showableAll, a.sh, b.sh, Bool.and_self], ?_, by simp only [PyData.leavesShortAll, a.ls, b.ls, Bool.and_self], ?_, by simp only [PyData.hasDictAll, a.hd, b.hd, Bool.or_self]⟩
  · simp only [PyData.depthAll]
    exact Nat.max_le.mpr ⟨a.dp, b.dp⟩
  · simp only [PyData.weightAll]
    have := a.wt
    have := b.wt
    omega
theorem GdA.map {α : Type} {f : α → PyData} {k w : Nat} : ∀ (l : List α), (∀ x ∈ l, Gd (f x) k w) → GdA (l.map f) k ((w + 1) * l.length)
  | [], _ => GdA.nil _ _
  | x :: l, h => GdA.cons (h x List.mem_cons_self) (GdA.map l fun y hy => h y (List.mem_cons_of_mem _ hy)) (by rw [List.length_cons, Nat.mul_succ]; omega)
theorem GdA.mono {ds : List PyData} {k w v : Nat} (a : GdA ds k w) (h : w ≤ v) : GdA ds k v := ⟨a.sh, a.dp, a.ls, Nat.le_trans a.wt h, a.hd⟩
theorem Gd.mono {d : PyData} {k w v : Nat} (a : Gd d k w) (h : w ≤ v) : Gd d k v := ⟨a.sh, a.dp, a.ls, Nat.le_trans a.wt h, a.hd⟩
theorem Gd.deep {d : PyData} {k j w : Nat} (a : Gd d k w) (h : k ≤ j) : Gd d j w := ⟨a.sh, Nat.le_trans a.dp h, a.ls, a.wt, a.hd⟩
theorem Gd.tup {ds : List PyData} {k w v : Nat} (a : GdA ds k w) (h : w + 1 ≤ v) : Gd (.tuple ds) (k + 1) v := by
  refine ⟨by simpa only [PyData.showable] using a.sh, by simp only [PyData.depth]; have := a.dp; omega, by simpa only [PyData.leavesShort] using a.ls, ?_, by simpa only [PyData.hasDict] using a.hd⟩
  simp only [PyData.weight]
  have := a.wt
  omega
theorem Gd.lst {ds : List PyData} {k w v : Nat} (a : GdA ds k w) (h : w + 1 ≤ v) : Gd (.list ds) (k + 1) v := by
  refine ⟨by simpa only [PyData.showable] using a.sh, by simp only [PyData.depth]; have := a.dp; omega, by simpa only [PyData.leavesShort] using a.ls, ?_, by simpa only [PyData.hasDict] using a.hd⟩
  simp only [PyData.weight]
  have := a.wt
  omega
theorem Gd.fin {d : PyData} {k w : Nat} (a : Gd d k w) (hk : k ≤ 100) (hw : w ≤ 1000000) : d.showable = true ∧ d.depth ≤ 100 ∧ d.hasDict = false ∧ d.shown.length ≤ 16000000 := by
  refine ⟨a.sh, Nat.le_trans a.dp hk, a.hd, ?_⟩
  have := PyData.shown_le 13 (by decide) _ a.ls
  have := a.wt
  omega
end Ev
set_option maxHeartbeats 4000000
namespace LawK
open PySem PySem.Spec PyProof.Rows L2 Ev
structure DkG (P : Program) (w : World) (K : PySem.W.Frag) (mg : Str → Option Value) (base : Heap) (x : Str) (st : Stmt) (ps : List Str) (k : Nat) (sp : Sp) (f : Addr) (fd : FuncData) : Prop where
  F : Fun K x x st f fd
  b : Binds K fd ps []
  g : mg x = some (.ref f)
  ok : FnG P w K mg base CX0 k f fd ps sp
def spLaw (K : PySem.W.Frag) : Sp := fun vs H Q _ => ∃ (a : Addr) (ns : List Int), vs = [.ref a] ∧ SqL K H a (ns.map V.int) ∧ ∀ H', Q (.bl true) H'
/-- a def that may raise, where it does not -/
def sp0 (sp : Sp) : Sp := fun vs H Q _ => sp vs H Q E0
theorem FnOk.drop {P : Program} {w : World} {K : PySem.W.Frag} {mg : Str → Option Value} {base : Heap} {k : Nat} {f : Addr} {fd : FuncData} {ps : List Str} {sp : Sp} (F : FnOk P w K mg base (L2.CX P w) k f fd ps sp) : FnOk P w K mg base CX0 k f fd ps (sp0 sp) :=
  ⟨fun vs H Q E h => F.len vs H Q E0 h, fun A outer s H args us vs Q E hr he hb hv hs => codeAny_mono (F.run A outer s H args us vs Q E0 hr he hb hv hs) fun r s' h => by
    cases r with
    | error e =>
      obtain ⟨_, _, _, _, _, _, _, _, _, _, _, _, hE⟩ := h
      exact hE.elim
    | ok fl =>
      cases fl with
      | ret u => exact h
      | next => exact h
      | brk => exact h
      | cont => exact h⟩
/-! how far the readers read -/
theorem lotR_le : ∀ (n : Nat) (r acc : List Nat), r.length ≤ n → (lotR acc r).2 ≤ r.length
  | _, [], acc, _ => Nat.le_refl 0
  | 0, c :: r, acc, hn => by exact absurd hn (by simp)
  | n + 1, c :: r, acc, hn => by
    have hn : r.length ≤ n := Nat.le_of_succ_le_succ hn
    rw [lotR_cons]
    split
    · split
      · exact Nat.zero_le _
      · show 1 ≤ r.length + 1; omega
    split
    · exact Nat.zero_le _
    split
    · split
      · exact Nat.zero_le _
      · cases r with
        | nil => exact Nat.le_refl 1
        | cons d r' =>
          show (if (d = 93 ∨ d = 92) ∧ lastN acc < d then ((lotR (acc ++ [d]) r').1, (lotR (acc ++ [d]) r').2 + 2) else (none, 1)).2 ≤ _
          split
          · have := lotR_le n r' (acc ++ [d]) (by have : (d :: r').length = r'.length + 1 := rfl; omega)
            show _ + 2 ≤ r'.length + 1 + 1; omega
          · show 1 ≤ r'.length + 1 + 1; omega
    split
    · have := lotR_le n r (acc ++ [c]) hn
      show _ + 1 ≤ r.length + 1; omega
    · exact Nat.zero_le _
theorem numR_le {bs : List (List Nat)} {cl : Nat} : ∀ (r acc : List Nat), (numR bs cl acc r).2 ≤ r.length
  | [], acc => Nat.le_refl 0
  | c :: r, acc => by
    rw [numR]
    split
    · show 1 ≤ r.length + 1; omega
    split
    · have := numR_le (bs := bs) (cl := cl) r (acc ++ [c])
      show _ + 1 ≤ r.length + 1; omega
    · exact Nat.zero_le _
theorem gapR_le (r : List Nat) : (gapR r).2 ≤ r.length := by
  unfold gapR
  have h1 : (bndR 0 44 r).2 ≤ r.length := numR_le r []
  rcases hb : bndR 0 44 r with ⟨o, n⟩
  rw [hb] at h1
  cases o with
  | none => exact h1
  | some a =>
    have h2 : (bndR a 125 (r.drop n)).2 ≤ (r.drop n).length := numR_le _ []
    rw [List.length_drop] at h2
    rcases hb2 : bndR a 125 (r.drop n) with ⟨o2, m⟩
    rw [hb2] at h2
    have h1 : n ≤ r.length := h1
    have h2 : m ≤ r.length - n := h2
    show (match bndR a 125 (r.drop n) with
      | (none, m) => (none, n + m)
      | (some b, m) => (some (.gap a b), n + m) : Option Prt × Nat).2 ≤ _
    rw [hb2]
    cases o2 with
    | none => show n + m ≤ _; omega
    | some b => show n + m ≤ _; omega
theorem partR_le (many : Nat) (g : Bool) (r : List Nat) : (partR many g r).2 ≤ r.length := by
  cases r with
  | nil => exact Nat.le_refl 0
  | cons c r =>
    rw [partR_cons]
    split
    · exact Nat.zero_le _
    split
    · show 1 ≤ r.length + 1; omega
    split
    · have := lotR_le r.length r [] (Nat.le_refl _)
      show _ + 1 ≤ r.length + 1; omega
    split
    · split
      · exact Nat.zero_le _
      · have := gapR_le r
        show _ + 1 ≤ r.length + 1; omega
    split
    · show 1 ≤ r.length + 1; omega
    · cases r with
      | nil => exact Nat.le_refl 1
      | cons d r' =>
        show (if d ∈ mkS then (some (Prt.sg d), 2) else (none, 1)).2 ≤ _
        split
        · show 2 ≤ r'.length + 1 + 1; omega
        · show 1 ≤ r'.length + 1 + 1; omega
/-- what is told of a text -/
def ToldOk (t : List Nat) : Option (List Prt) × Int → Prop
  | (none, n) => ∃ m : Nat, n = (m : Int) ∧ m ≤ t.length
  | (some ps, n) => n = -1 ∧ ps.length ≤ 30 ∧ ∀ p ∈ ps, p.Sg
theorem toldF_ok (t : List Nat) : ∀ (f : Nat) (ps : List Prt) (i : Nat), (t.drop i).length ≤ f → i ≤ t.length → ps.length ≤ 30 → (∀ p ∈ ps, p.Sg) → ToldOk t (toldF f ps i (t.drop i)) := by
  intro f
  induction f with
  | zero =>
    intro ps i hf hi hl hs
    rw [List.eq_nil_of_length_eq_zero (Nat.le_zero.mp hf), toldF_nil]
    split
    · exact ⟨i, rfl, hi⟩
    · exact ⟨rfl, hl, hs⟩
  | succ f ih =>
    intro ps i hf hi hl hs
    cases hd : t.drop i with
    | nil =>
      rw [toldF_nil]
      split
      · exact ⟨i, rfl, hi⟩
      · exact ⟨rfl, hl, hs⟩
    | cons c r =>
      rw [toldF_cons]
      have le := partR_le ps.length (lastG ps) (c :: r)
      rw [← hd, List.length_drop] at le
      rcases hP : partR ps.length (lastG ps) (t.drop i) with ⟨o, n⟩
      rw [hP] at le
      have le : n ≤ t.length - i := le
      rw [hd] at hP
      rw [hP]
      cases o with
      | none => exact ⟨i + n, rfl, by omega⟩
      | some p =>
        show ToldOk t (toldF f (ps ++ [p]) (i + n) ((c :: r).drop n))
        have hP2 : partP (c :: r) = (some p, n) ∧ ps.length ≠ 30 := by
          rw [part_eq] at hP
          by_cases hx : ps.length = 30 ∨ c = 123 ∧ (ps.length = 0 ∨ ps.length = 29 ∨ lastG ps = true)
          · rw [if_pos hx] at hP
            cases hP
          · rw [if_neg hx] at hP
            exact ⟨hP, fun h => hx (.inl h)⟩
        obtain ⟨n1, n2, sg⟩ := partP_of (r := c :: r) (p := p) (by rw [hP2.1])
        rw [hP2.1] at n1
        have n1 : 1 ≤ n := n1
        rw [← hd, List.drop_drop]
        have hl2 := hP2.2
        rw [List.length_drop] at hf
        refine ih _ _ (by rw [List.length_drop]; omega) (by omega) (by rw [List.length_append]; show ps.length + 1 ≤ 30; omega) fun q hq => ?_
        rcases List.mem_append.mp hq with h | h
        · exact hs q h
        · rw [List.mem_singleton.mp h]; exact sg
theorem told_ok (t : List Nat) : ToldOk t (toldR t) := by
  have := toldF_ok t t.length [] 0 (by rw [List.drop_zero]; exact Nat.le_refl _) (Nat.zero_le _) (by decide) (fun p h => absurd h List.not_mem_nil)
  rw [List.drop_zero] at this
  exact this
/-! patterns as data -/
def encP : Prt → PyData
  | .any => .tuple [.str (Str.ofString "any")]
  | .sg c => .tuple [.str (Str.ofString "sign"), .str (sn c)]
  | .lot cs => .tuple [.str (Str.ofString "lot"), .str (SX.S cs)]
  | .gap a b => .tuple [.str (Str.ofString "gap"), .int (a : Nat), .int (b : Nat)]
theorem encP_dp {K : PySem.W.Frag} {H : Hp} {v : V} {p : Prt} (h : PrtAt H v p) : Dp K H v (encP p) := by
  obtain ⟨a, rfl, h⟩ := h
  cases p with
  | any => exact .tup (SqT.of h) (.cons (.str _) .nil)
  | sg c => exact .tup (SqT.of h) (.cons (.str _) (.cons (.str _) .nil))
  | lot cs => exact .tup (SqT.of h) (.cons (.str _) (.cons (.str _) .nil))
  | gap a b => exact .tup (SqT.of h) (.cons (.str _) (.cons (.int _) (.cons (.int _) .nil)))
theorem encs_dp {K : PySem.W.Frag} {H : Hp} : ∀ {us : List V} {ps : List Prt}, All2 (PrtAt H) us ps → DpAll K H us (ps.map encP)
  | _, _, .nil => .nil
  | _, _, .cons r h => .cons (encP_dp r) (encs_dp h)
theorem pat_dp {K : PySem.W.Frag} {H : Hp} {a : Addr} {us : List V} {ps : List Prt} (h : H a = some (.tup us)) (hp : All2 (PrtAt H) us ps) : Dp K H (.ref a) (.tuple (ps.map encP)) := .tup (SqT.of h) (encs_dp hp)
theorem sg_lt {c : Nat} (h : sgC c = true) : c < 1000 := by
  have := of_decide_eq_true (Bool.and_eq_true_iff.mp h).2
  omega
theorem encP_gd {p : Prt} (h : p.Sg) : Gd (encP p) 1 100 := by
  have w : ∀ s : String, (Str.ofString s).cps.toList.all (fun c => decide (c < 1000)) = true → (Str.ofString s).length ≤ 10 → Gd (.str (Str.ofString s)) 0 12 := fun s hs hl => (Gd.str (fun c hc => of_decide_eq_true (List.all_eq_true.mp hs c hc)) 0).mono (by omega)
  cases p with
  | any => exact .tup (.cons (w "any" (by decide +kernel) (by decide +kernel)) (.nil 0 0) (w := 13) (by decide)) (by decide)
  | sg c => exact .tup (.cons (w "sign" (by decide +kernel) (by decide +kernel)) (.cons (Gd.str (z := sn c) (fun x hx => by rw [List.mem_singleton.mp hx]; exact sg_lt h) 0) (.nil 0 0) (w := 4) (by show 1 + 2 + 1 + 0 ≤ 4; decide)) (w := 17) (by decide)) (by decide)
  | lot cs =>
    have hl : (SX.S cs).length ≤ 20 := h.2
    exact .tup (.cons (w "lot" (by decide +kernel) (by decide +kernel)) (.cons (Gd.str (z := SX.S cs) (fun x hx => sg_lt (h.1 x hx)) 0) (.nil 0 0) (w := 23) (by omega)) (w := 36) (by decide)) (by decide)
  | gap a b => exact .tup (.cons (w "gap" (by decide +kernel) (by decide +kernel)) (.cons (Gd.int (by have := h.1; omega) 0) (.cons (Gd.int (by have := h.2; omega) 0) (.nil 0 0) (w := 21) (by decide)) (w := 42) (by decide)) (w := 55) (by decide)) (by decide)
theorem pat_gd {ps : List Prt} (l : ps.length ≤ 30) (h : ∀ p ∈ ps, p.Sg) : Gd (.tuple (ps.map encP)) 2 4000 := .tup (GdA.map ps fun p hp => encP_gd (h p hp)) (by omega)
theorem neg1_gd (k : Nat) : Gd (.int (-1)) k 20 := ⟨rfl, Nat.zero_le _, rfl, by decide, rfl⟩
theorem ok_sg {p : Prt} (h : p.Ok) : p.Sg := by
  cases p with
  | any => trivial
  | sg c => exact List.all_eq_true.mp (h.sg c rfl) c List.mem_cons_self
  | lot cs =>
    obtain ⟨s1, s2, s3, s4⟩ := h.lot cs rfl
    exact ⟨fun c hc => List.all_eq_true.mp s1 c hc, s3⟩
  | gap a b =>
    obtain ⟨g1, g2⟩ := h.gap a b rfl
    exact ⟨by omega, g2⟩
theorem hd_ne {a b : String} {r s : List V} (h : V.str (Str.ofString a) :: r = V.str (Str.ofString b) :: s) (n : Str.ofString a ≠ Str.ofString b) {C : Prop} : C := absurd (V.str.inj (List.cons.inj h).1) n
theorem Prt.v_inj {p q : Prt} (h : p.v = q.v) : p = q := by
  cases p with
  | any => cases q with
    | any => rfl
    | sg d => exact hd_ne (a := "any") (b := "sign") h (by decide +kernel)
    | lot ds => exact hd_ne (a := "any") (b := "lot") h (by decide +kernel)
    | gap x y => exact hd_ne (a := "any") (b := "gap") h (by decide +kernel)
  | sg c => cases q with
    | any => exact hd_ne (a := "sign") (b := "any") h (by decide +kernel)
    | sg d =>
      have e := congrArg cod (V.str.inj (List.cons.inj (List.cons.inj h).2).1)
      have e : [c] = [d] := e
      cases e
      rfl
    | lot ds => exact hd_ne (a := "sign") (b := "lot") h (by decide +kernel)
    | gap x y => exact hd_ne (a := "sign") (b := "gap") h (by decide +kernel)
  | lot cs => cases q with
    | any => exact hd_ne (a := "lot") (b := "any") h (by decide +kernel)
    | sg d => exact hd_ne (a := "lot") (b := "sign") h (by decide +kernel)
    | lot ds =>
      have e := congrArg cod (V.str.inj (List.cons.inj (List.cons.inj h).2).1)
      have e : cs = ds := e
      rw [e]
    | gap x y => exact hd_ne (a := "lot") (b := "gap") h (by decide +kernel)
  | gap a b => cases q with
    | any => exact hd_ne (a := "gap") (b := "any") h (by decide +kernel)
    | sg d => exact hd_ne (a := "gap") (b := "sign") h (by decide +kernel)
    | lot ds => exact hd_ne (a := "gap") (b := "lot") h (by decide +kernel)
    | gap x y =>
      have e1 := V.int.inj (List.cons.inj (List.cons.inj h).2).1
      have e2 := V.int.inj (List.cons.inj (List.cons.inj (List.cons.inj h).2).2).1
      have e1 : a = x := by omega
      have e2 : b = y := by omega
      rw [e1, e2]
theorem patv_one {H : Hp} {us : List V} {ps qs : List Prt} (h : PatV H us ps) (k : PatV H us qs) : ps = qs := by
  refine List.ext_getElem? fun i => ?_
  by_cases hi : i < us.length
  · have hu := List.getElem?_eq_getElem hi
    obtain ⟨p, e1, ⟨a, ea, ha⟩, _⟩ := h.get hu
    obtain ⟨q, e2, ⟨b, eb, hb⟩, _⟩ := k.get hu
    rw [ea] at eb
    cases eb
    rw [ha] at hb
    rw [e1, e2, Prt.v_inj (HO.tup.inj (Option.some.inj hb))]
  · have l1 := h.len
    have l2 := k.len
    rw [List.getElem?_eq_none (by omega), List.getElem?_eq_none (by omega)]
theorem PatV.at2 {H : Hp} : ∀ {ws : List V} {ps : List Prt}, PatV H ws ps → All2 (PrtAt H) ws ps
  | [], [], _ => .nil
  | [], p :: ps, h => by have := h.len; cases this
  | w :: ws, [], h => by have := h.len; cases this
  | w :: ws, p :: ps, h => .cons (h.at_ 0 w p rfl rfl) (PatV.at2 (ws := ws) (ps := ps) ⟨Nat.succ.inj h.len, fun i v q e1 e2 => h.at_ (i + 1) v q e1 e2, fun q hq => h.ok q (List.mem_cons_of_mem _ hq)⟩)
theorem PatV.tgs {H : Hp} {ws : List V} {ps : List Prt} (h : PatV H ws ps) : ∀ y ∈ ws, ∃ o, Tg H y o := fun y hy => by
  obtain ⟨i, hi⟩ := List.getElem?_of_mem hy
  obtain ⟨p, _, hp, ok⟩ := h.get hi
  exact ⟨_, part_tg hp ok⟩
theorem is_rt {K : PySem.W.Frag} {σ : L2.St} {H : Hp} {j : Nat} {y : Str} {R : VK} (hσ : σ[j]? = some (some (.str y))) (ly : y.length ≤ 2000) (kk : ∀ H', Same H H' → R (.bl true) H') :
    tCall (spIs K) [] E0 (tCons (tCall spLRead [] E0 (tCons (tVar j) tNil)) (tCons (tCall spLTold [] E0 (tCons (tVar j) tNil)) tNil)) σ H R := by
  have lc := cod_len y
  have ok := told_ok (cod y)
  refine ⟨.str y, hσ, .str y, .str, rfl, .str _, (fun w e => by cases e; exact ly), fun z t u us ps H1 ez et k1 ht hu hp => ?_, fun z t n H1 ez et k1 ht => ?_, fun t H1 nx _ _ => (nx y rfl).elim⟩
  · cases ez
    rw [et] at ok
    obtain ⟨_, l30, sg⟩ := ok
    refine ⟨.str y, hσ, y, rfl, ly, fun t2 u2 us2 ps2 H2 et2 k2 ht2 hu2 hp2 => ?_, fun t2 n H2 et2 _ _ => by rw [et] at et2; cases et2⟩
    rw [et] at et2
    cases et2
    have g : Gd (.tuple [.tuple (ps.map encP), .int (-1)]) 3 4100 := .tup (.cons (pat_gd l30 sg) (.cons (neg1_gd 2) (.nil 2 0) (w := 21) (by decide)) (w := 4022) (by decide)) (by decide)
    obtain ⟨s1, s2, s3, s4⟩ := g.fin (by decide) (by decide)
    exact ⟨t, t2, _, rfl, .tup (SqT.of (k2 _ _ ht)) (.cons (pat_dp (k2 _ _ hu) (hp.imp fun _ _ q => q.same k2)) (.cons (.int _) .nil)), .tup (SqT.of ht2) (.cons (pat_dp hu2 hp2) (.cons (.int _) .nil)), s1, s2, s3, s4, kk _ (k1.trans k2)⟩
  · cases ez
    rw [et] at ok
    obtain ⟨m, rfl, lm⟩ := ok
    refine ⟨.str y, hσ, y, rfl, ly, (fun t2 u2 us2 ps2 H2 et2 _ _ _ _ => by rw [et] at et2; cases et2), fun t2 n H2 et2 k2 ht2 => ?_⟩
    rw [et] at et2
    cases et2
    have g : Gd (.tuple [.none, .int (m : Nat)]) 1 100 := .tup (.cons (Gd.none 0 1 (by decide)) (.cons (Gd.int (by omega) 0) (.nil 0 0) (w := 21) (by decide)) (w := 23) (by decide)) (by decide)
    obtain ⟨s1, s2, s3, s4⟩ := g.fin (by decide) (by decide)
    exact ⟨t, t2, _, rfl, .tup (SqT.of (k2 _ _ ht)) (.cons .non (.cons (.int _) .nil)), .tup (SqT.of ht2) (.cons .non (.cons (.int _) .nil)), s1, s2, s3, s4, kk _ (k1.trans k2)⟩
abbrev sLaw : Stmt := topS 50
theorem scLaw : FnScope ["script", "pool", "signs", "turn", "pattern", "text", "thing", "again", "drawn", "at"] ["script"] (defScope sLaw) := ⟨rfl, rfl, rfl, by decide +kernel, rfl, by decide +kernel, by decide +kernel⟩
section
variable {P : Program} {w : World} {K : PySem.W.Frag} {mg : Str → Option Value} {base : Heap}

theorem ok_law {PE cB cP : Addr} {f : Addr} {fd : FuncData} (F : Fun K "law" "law" sLaw f fd) {fPIsPattern : Addr} {fdPIsPattern : FuncData} (DPIsPattern : Dk P w K mg base "is_pattern" sPIsPattern ["thing"] 5 spPatT fPIsPattern fdPIsPattern) {fPPatText : Addr} {fdPPatText : FuncData} (DPPatText : Dk P w K mg base "pattern_text" sPPatText ["pattern"] 6 (sp0 (spPText cP)) fPPatText fdPPatText) {fPReadPat : Addr} {fdPReadPat : FuncData} (DPReadPat : Dk P w K mg base "read_pattern" sPReadPat ["text"] 5 (sp0 (spRPat cB)) fPReadPat fdPReadPat) {fPool : Addr} {fdPool : FuncData} (DPool : Dk P w K mg base "_law_pool" sPool ["script"] 1 (spPool K) fPool fdPool) {fDraw : Addr} {fdDraw : FuncData} (DDraw : Dk P w K mg base "_law_draw" sDraw ["pool", "many"] 1 spDraw fDraw fdDraw) {fFlag : Addr} {fdFlag : FuncData} (DFlag : Dk P w K mg base "_law_flag" sFlag ["thing", "due"] 1 spFlagD fFlag fdFlag) {fIs : Addr} {fdIs : FuncData} (DIs : DkG P w K mg base "_law_is" sIs ["told", "due"] 1 (spIs K) fIs fdIs) {fPattern : Addr} {fdPattern : FuncData} (DPattern : Dk P w K mg base "_law_pattern" sPattern ["pool", "signs", "most"] 3 spPattern fPattern fdPattern) {fLIsPat : Addr} {fdLIsPat : FuncData} (DLIsPat : Dk P w K mg base "_law_is_pattern" sLIsPat ["thing"] 3 spPatT fLIsPat fdLIsPat) {fLWritten : Addr} {fdLWritten : FuncData} (DLWritten : Dk P w K mg base "_law_written" sLWritten ["pattern"] 1 spWritten fLWritten fdLWritten) {fLTold : Addr} {fdLTold : FuncData} (DLTold : Dk P w K mg base "_law_told" sLTold ["text"] 5 spLTold fLTold fdLTold) {fLRead : Addr} {fdLRead : FuncData} (DLRead : Dk P w K mg base "_law_read" sLRead ["text"] 7 spLRead fLRead fdLRead) {fLWord : Addr} {fdLWord : FuncData} (DLWord : Dk P w K mg base "_law_word" sLWord ["thing"] 8 spLWord fLWord fdLWord) {fLBent : Addr} {fdLBent : FuncData} (DLBent : Dk P w K mg base "_law_bent" sLBent ["pool", "pattern"] 2 spBent fLBent fdLBent) {fLSpoilt : Addr} {fdLSpoilt : FuncData} (DLSpoilt : Dk P w K mg base "_law_spoilt" sLSpoilt ["pool", "text"] 2 spSpoilt fLSpoilt fdLSpoilt)
    (T : Glob mg) : FnAt callerA P w K mg base CX0 f fd ["script"] (spLaw K) := by
  refine fun_at (k := 12) F scLaw ⟨rfl, by decide, by decide⟩ (fun vs H Q E h => ?_) (fun cdv outer s H vs Q E hr h => ?_)
  · obtain ⟨a, ns, rfl, _⟩ := h
    rfl
  · refine ⟨_, (pss_cons (ps_set (i := 1) scLaw.nd rfl (.inr rfl) (pe_call DPool.ok (hr.mono (by decide)) (by rfl) DPool.g DPool.F.kp DPool.b .nil pass0 (pa_cons (pv 0) pa_nil)))
      (pss_cons (ps_set (i := 2) scLaw.nd rfl (.inl rfl) pe_str)
      (pss_cons (ps_for PassesOwn.never rfl (pi_range1 (by rfl) T.range (pa_cons pe_int pa_nil)) (pg_name (i := 3) scLaw.nd rfl (.inl rfl))
      (pss_cons (ps_set (i := 4) scLaw.nd rfl (.inl rfl) (pe_call DPattern.ok (hr.mono (by decide)) (by rfl) DPattern.g DPattern.F.kp DPattern.b .nil pass0 (pa_cons (pv 1) (pa_cons (pv 2) (pa_cons (pe_ifExp (pt_cmpR op_eq (pe_call DDraw.ok (hr.mono (by decide)) (by rfl) DDraw.g DDraw.F.kp DDraw.b .nil pass0 (pa_cons (pv 1) (pa_cons pe_int pa_nil))) pe_int (nomark _)) pe_int pe_int) pa_nil)))))
        (pss_cons (ps_set (i := 5) scLaw.nd rfl (.inl rfl) (pe_call DLWritten.ok (hr.mono (by decide)) (by rfl) DLWritten.g DLWritten.F.kp DLWritten.b .nil pass0 (pa_cons (pv 4) pa_nil)))
        (pss_cons (ps_if (PW.pt (pw_or (pt_not (pt_val (pe_call DFlag.ok (hr.mono (by decide)) (by rfl) DFlag.g DFlag.F.kp DFlag.b .nil pass0 (pa_cons (pe_call DPIsPattern.ok (hr.mono (by decide)) (by rfl) DPIsPattern.g DPIsPattern.F.kp DPIsPattern.b .nil pass0 (pa_cons (pv 4) pa_nil)) (pa_cons pe_bl pa_nil))))) (pw_or (pt_cmpR op_ne (pe_call DPPatText.ok (hr.mono (by decide)) (by rfl) DPPatText.g DPPatText.F.kp DPPatText.b .nil pass0 (pa_cons (pv 4) pa_nil)) (pv 5) (nomark _)) (pw_or1 (pt_not (pt_val (pe_callG DIs.ok (hr.mono (by decide)) rfl (by rfl) DIs.g DIs.F.kp DIs.b pass0 (pa_cons (pe_call DPReadPat.ok (hr.mono (by decide)) (by rfl) DPReadPat.g DPReadPat.F.kp DPReadPat.b .nil pass0 (pa_cons (pv 5) pa_nil)) (pa_cons (pv 4) pa_nil)))))))))
        (pss_one (ps_ret pe_bl))
        pss_nil)
        (pss_cons (ps_set (i := 6) scLaw.nd rfl (.inl rfl) (pe_call DLBent.ok (hr.mono (by decide)) (by rfl) DLBent.g DLBent.F.kp DLBent.b .nil pass0 (pa_cons (pv 1) (pa_cons (pv 4) pa_nil))))
        (pss_cons (ps_if (PW.pt (pw_or (pt_not (pt_val (pe_call DFlag.ok (hr.mono (by decide)) (by rfl) DFlag.g DFlag.F.kp DFlag.b .nil pass0 (pa_cons (pe_call DPIsPattern.ok (hr.mono (by decide)) (by rfl) DPIsPattern.g DPIsPattern.F.kp DPIsPattern.b .nil pass0 (pa_cons (pv 6) pa_nil)) (pa_cons (pe_call DLIsPat.ok (hr.mono (by decide)) (by rfl) DLIsPat.g DLIsPat.F.kp DLIsPat.b .nil pass0 (pa_cons (pv 6) pa_nil)) pa_nil))))) (pw_or1 (pt_cmpR op_ne (pe_call DLWord.ok (hr.mono (by decide)) (by rfl) DLWord.g DLWord.F.kp DLWord.b .nil pass0 (pa_cons (pv 6) pa_nil)) (pe_ix ix_list (pe_lst (pa_cons pe_str (pa_cons pe_str pa_nil))) (pe_callTy call_int1 (by rfl) T.int (by decide +kernel) (pa_cons (pe_call DLIsPat.ok (hr.mono (by decide)) (by rfl) DLIsPat.g DLIsPat.F.kp DLIsPat.b .nil pass0 (pa_cons (pv 6) pa_nil)) pa_nil)) (fun _ _ => rfl)) (nomark _)))))
        (pss_one (ps_ret pe_bl))
        pss_nil)
        (pss_cons (ps_for PassesOwn.never rfl (pi_range1 (by rfl) T.range (pa_cons pe_int pa_nil)) (pg_name (i := 7) scLaw.nd rfl (.inl rfl))
        (pss_cons (ps_set (i := 5) scLaw.nd rfl (.inl rfl) (pe_call DLSpoilt.ok (hr.mono (by decide)) (by rfl) DLSpoilt.g DLSpoilt.F.kp DLSpoilt.b .nil pass0 (pa_cons (pv 1) (pa_cons (pv 5) pa_nil))))
          (pss_one (ps_if (pt_not (pt_val (pe_callG DIs.ok (hr.mono (by decide)) rfl (by rfl) DIs.g DIs.F.kp DIs.b pass0 (pa_cons (pe_call DLRead.ok (hr.mono (by decide)) (by rfl) DLRead.g DLRead.F.kp DLRead.b .nil pass0 (pa_cons (pv 5) pa_nil)) (pa_cons (pe_call DLTold.ok (hr.mono (by decide)) (by rfl) DLTold.g DLTold.F.kp DLTold.b .nil pass0 (pa_cons (pv 5) pa_nil)) pa_nil)))))
          (pss_one (ps_ret pe_bl))
          pss_nil))))
        (pss_cons (ps_set (i := 8) scLaw.nd rfl (.inl rfl) (pe_join pe_str (pe_lc (own := [("at", 9)]) (g := gName 9) (by rfl) scLaw.nd (pi_range1 (by rfl) T.range (pa_cons (pe_call DDraw.ok (hr.mono (by decide)) (by rfl) DDraw.g DDraw.F.kp DDraw.b .nil pass0 (pa_cons (pv 1) (pa_cons pe_int pa_nil))) pa_nil)) (blkOk_by (N := ["script", "pool", "signs", "turn", "pattern", "text", "thing", "again", "drawn", "at"]) (sc := defScope sLaw) (by decide +kernel)) (fun _ _ _ _ _ => pg_name (i := 9) scLaw.nd rfl (.inl rfl)) (fun _ _ _ _ _ => pts_nil) (fun _ _ _ _ _ => (pe_ix ix_str pe_str (pe_call DDraw.ok (hr.mono (by decide)) (by rfl) DDraw.g DDraw.F.kp DDraw.b .nil pass0 (pa_cons (pv 1) (pa_cons pe_int pa_nil))) (fun _ _ => rfl))))))
        (pss_one (ps_if (pt_not (pt_val (pe_callG DIs.ok (hr.mono (by decide)) rfl (by rfl) DIs.g DIs.F.kp DIs.b pass0 (pa_cons (pe_call DLRead.ok (hr.mono (by decide)) (by rfl) DLRead.g DLRead.F.kp DLRead.b .nil pass0 (pa_cons (pv 8) pa_nil)) (pa_cons (pe_call DLTold.ok (hr.mono (by decide)) (by rfl) DLTold.g DLTold.F.kp DLTold.b .nil pass0 (pa_cons (pv 8) pa_nil)) pa_nil)))))
        (pss_one (ps_ret pe_bl))
        pss_nil))))))))))
      (pss_one (ps_ret (pe_callG DIs.ok (hr.mono (by decide)) rfl (by rfl) DIs.g DIs.F.kp DIs.b pass0 (pa_cons (pe_call DLRead.ok (hr.mono (by decide)) (by rfl) DLRead.g DLRead.F.kp DLRead.b .nil pass0 (pa_cons (pe_ix ix_list (pe_lst (pa_cons pe_non (pa_cons pe_int (pa_cons (pe_lst (pa_cons pe_str pa_nil)) (pa_cons (pe_tup (pa_cons pe_str pa_nil)) (pa_cons pe_dnewK (pa_cons pe_bl pa_nil))))))) (pe_call DDraw.ok (hr.mono (by decide)) (by rfl) DDraw.g DDraw.F.kp DDraw.b .nil pass0 (pa_cons (pv 1) (pa_cons pe_int pa_nil))) (fun _ _ => rfl)) pa_nil)) (pa_cons (pe_tup (pa_cons pe_non (pa_cons (pe_un un_neg pe_int) pa_nil))) pa_nil)))))))), ?_⟩
    obtain ⟨a0, ns, rfl, hs, q⟩ := h
    have sz : sizeLine = 16777216 := sizeLine_eq
    refine ⟨.ref a0, rfl, a0, ns, rfl, hs, fun p l H1 np nl h1 k1 => ?_⟩
    dsimp only [tNext, tSeq, tAsg, gName]
    refine ⟨3, rfl, by omega, by omega, for_range (fun i σ H' => ∃ (u3 u4 u5 u6 u7 u8 u9 : Option V), σ = [some (.ref a0), some (.ref p), some (.str (Str.ofString "ab?[]{}\\,0~ ")), u3, u4, u5, u6, u7, u8, u9] ∧ HandL H' p l) ⟨_, _, _, _, _, _, _, rfl, h1⟩ ?_ ?_⟩
    rotate_left
    · rintro σ H2 ⟨u3, u4, u5, u6, u7, u8, u9, rfl, h2⟩
      dsimp only [tNext, tDrop, tSeq, tAsg, gName]
      refine ⟨by show 1 ≤ sizeLine; rw [sz]; decide, fun t1 n1 => ?_⟩
      have e1 : upd H2 t1 (.lst [.str (Str.ofString "a")]) t1 = some (.lst [.str (Str.ofString "a")]) := upd_same
      have h3 := h2.same (Same.new (o := .lst [.str (Str.ofString "a")]) n1)
      revert e1 h3
      generalize upd H2 t1 (.lst [.str (Str.ofString "a")]) = H3
      intro e1 h3
      refine ⟨by show 1 ≤ sizeLine; rw [sz]; decide, fun t2 n2 => ?_⟩
      have k2 := Same.new (H := H3) (o := .tup [.str (Str.ofString "a")]) n2
      have e2 : upd H3 t2 (.tup [.str (Str.ofString "a")]) t2 = some (.tup [.str (Str.ofString "a")]) := upd_same
      have e1 := k2 _ _ e1
      have h4 := h3.same k2
      revert e1 e2 h4
      generalize upd H3 t2 (.tup [.str (Str.ofString "a")]) = H4
      intro e2 e1 h4
      refine fun t3 n3 => ?_
      have k3 := Same.new (H := H4) (o := .dK []) n3
      have e3 : upd H4 t3 (.dK []) t3 = some (.dK []) := upd_same
      have e1 := k3 _ _ e1
      have e2 := k3 _ _ e2
      have h5 := h4.same k3
      revert e1 e2 e3 h5
      generalize upd H4 t3 (.dK []) = H5
      intro e3 e1 e2 h5
      refine ⟨by show 6 ≤ sizeLine; rw [sz]; decide, fun D nD => ?_⟩
      have kD := Same.new (H := H5) (o := .lst [.non, .int 0, .ref t1, .ref t2, .ref t3, .bl true]) nD
      have eD : upd H5 D (.lst [.non, .int 0, .ref t1, .ref t2, .ref t3, .bl true]) D = some (.lst [.non, .int 0, .ref t1, .ref t2, .ref t3, .bl true]) := upd_same
      have e1 := kD _ _ e1
      have e2 := kD _ _ e2
      have e3 := kD _ _ e3
      have neD := h5.ne nD
      have h6 := h5.same kD
      revert e1 e2 e3 eD h6
      generalize upd H5 D (.lst [.non, .int 0, .ref t1, .ref t2, .ref t3, .bl true]) = H6
      intro eD e1 e2 e3 h6
      have kx : ∀ y ∈ ([.non, .int 0, .ref t1, .ref t2, .ref t3, .bl true] : List V), (∃ k, Kd H6 y k) ∧ ∀ z, y ≠ .str z := fun y hy => by
        rcases List.mem_cons.mp hy with e | hy
        · rw [e]; exact ⟨⟨_, .non⟩, fun z h => by cases h⟩
        rcases List.mem_cons.mp hy with e | hy
        · rw [e]; exact ⟨⟨_, .int 0⟩, fun z h => by cases h⟩
        rcases List.mem_cons.mp hy with e | hy
        · rw [e]; exact ⟨⟨_, .lst e1⟩, fun z h => by cases h⟩
        rcases List.mem_cons.mp hy with e | hy
        · rw [e]; exact ⟨⟨_, .tup e2⟩, fun z h => by cases h⟩
        rcases List.mem_cons.mp hy with e | hy
        · rw [e]; exact ⟨⟨_, .dic e3⟩, fun z h => by cases h⟩
        · rw [List.mem_singleton.mp hy]; exact ⟨⟨_, .bl true⟩, fun z h => by cases h⟩
      refine ⟨.ref p, rfl, p, 6, rfl, by decide, by decide, l, h6, fun v H7 v0 v1 h7 b7 => ?_⟩
      obtain ⟨x, ex, mx⟩ := atI_in (xs := ([.non, .int 0, .ref t1, .ref t2, .ref t3, .bl true] : List V)) v0 v1
      obtain ⟨⟨k, hk⟩, nx⟩ := kx x mx
      refine ⟨D, _, v, x, rfl, rfl, sq_of (b7 _ _ neD eD), ex, x, k, rfl, Kd.but hk h6 h7 b7, (fun z e => (nx z e).elim), (fun z _ _ _ _ _ e => (nx z e).elim), (fun z _ _ _ e => (nx z e).elim), fun t H8 _ k8 ht => ?_⟩
      refine ⟨_, rfl, by show 2 ≤ sizeLine; rw [sz]; decide, fun t4 n4 => ?_⟩
      have k4 := Same.new (H := H8) (o := .tup [.non, .int (-1)]) n4
      have g : Gd (.tuple [.none, .int (-1)]) 1 100 := .tup (.cons (Gd.none 0 1 (by decide)) (.cons (neg1_gd 0) (.nil 0 0) (w := 21) (by decide)) (w := 23) (by decide)) (by decide)
      obtain ⟨s1, s2, s3, s4⟩ := g.fin (by decide) (by decide)
      exact ⟨t, t4, _, rfl, .tup (SqT.of (k4 _ _ ht)) (.cons .non (.cons (.int _) .nil)), .tup (SqT.of upd_same) (.cons .non (.cons (.int _) .nil)), s1, s2, s3, s4, q _⟩
    rintro i σ H2 hi ⟨u3, u4, u5, u6, u7, u8, u9, rfl, h2⟩
    dsimp only [tNext, tSeq, tAsg, gName]
    refine ⟨.ref p, rfl, _, rfl, ?_⟩
    refine (?_ : ∀ R : V → Hp → Prop, (∀ m H3, 1 ≤ m → m ≤ 30 → HandL H3 p l → R (.int m) H3) → tIf _ _ _ _ H2 R) _ ?_
    · intro R kk
      refine ⟨.ref p, rfl, p, 8, rfl, by decide, by decide, l, h2, fun v H3 v0 v1 h3 b3 => ⟨rfl, _, rfl, ite2 (fun _ => kk 30 H3 (by decide) (by decide) h3) (fun _ => kk 6 H3 (by decide) (by decide) h3)⟩⟩
    intro m H3 m1 m30 h3
    refine ⟨p, _, m, rfl, by decide +kernel, by decide +kernel, by decide +kernel, m1, m30, l, h3, fun a us ps H4 ha hv ok lm h4 b4 => ?_⟩
    have lu := hv.len
    have l1 := ok.l1
    have l30 := ok.l30
    refine ⟨.ref a, rfl, a, us, ps, rfl, ha, hv, by omega, fun H5 k5 => ?_⟩
    dsimp only [tNext, tSeq, tAsg, gName]
    have h5 := h4.same k5
    have ha5 := k5 _ _ ha
    have hv5 := hv.same k5
    have hok := hv.ok
    have lwr := wrts_len ps hv.ok
    have yes : patO (some (osOf ps)) = true := pat_yes ok hok
    clear b4 h4 h3 h2 ha hv k5
    refine (?_ : ∀ Qk : Bool → Hp → Prop, (∀ H6, Same H5 H6 → Qk false H6) → tOr _ _ _ H5 Qk) _ ?_
    · intro Qk kk
      refine ⟨.ref a, rfl, .ref a, some (osOf ps), rfl, PatV.pt ha5 hv5 (by omega), fun H6 k6 => ?_⟩
      refine ⟨patO (some (osOf ps)), true, rfl, _, rfl, ?_⟩
      rw [yes, decide_eq_true rfl]
      refine iteF ?_
      have ha6 := k6 _ _ ha5
      have hv6 := hv5.same k6
      refine ⟨.ref a, rfl, .ref a, some (osOf ps), rfl, PatV.pt ha6 hv6 (by omega), fun a' us' ps' H7 ea po k7 ha' hv' ok' => ?_, fun H7 po _ => by rw [yes] at po; cases po⟩
      cases ea
      rw [ha6] at ha'
      cases ha'
      rw [← patv_one hv6 hv']
      refine ⟨.str (SX.S (wrts ps)), rfl, rfl, _, rfl, ?_⟩
      rw [decide_eq_true rfl]
      refine iteF ?_
      have ha7 := k7 _ _ ha6
      have hv7 := hv6.same k7
      have told : toldR (cod (SX.S (wrts ps))) = (some ps, -1) := told_wrt ok hok
      refine ⟨.str (SX.S (wrts ps)), rfl, .str (SX.S (wrts ps)), .str, rfl, .str _, (fun w e => by cases e; show (wrts ps).length ≤ 2000; omega), fun z t us2 ps2 H8 ez et k8 ht hp => ?_, (fun z n d H8 ez et _ _ => by cases ez; rw [told] at et; cases et), fun d H8 nx _ _ => (nx _ rfl).elim⟩
      cases ez
      rw [told] at et
      cases et
      obtain ⟨s1, s2, s3, s4⟩ := (pat_gd l30 fun p hp => ok_sg (hok p hp)).fin (by decide) (by decide)
      exact ⟨.ref a, rfl, t, a, .tuple (ps.map encP), rfl, pat_dp ht hp, pat_dp (k8 _ _ ha7) (hv7.same k8).at2, s1, s2, s3, s4, _, rfl, kk H8 (k6.trans (k7.trans k8))⟩
    intro H6 k6
    have ha6 := k6 _ _ ha5
    have hv6 := hv5.same k6
    refine iteF ⟨.ref p, rfl, .ref a, rfl, p, a, us, rfl, ha6, hv6.tgs, by omega, by omega, l, h5.same k6, fun x o H7 pt h7 b7 => ?_⟩
    dsimp only [tNext, tDrop, tSeq, tAsg, gName]
    refine (?_ : ∀ Qk : Bool → Hp → Prop, (∀ H8, Same H7 H8 → Qk false H8) → tOr _ _ _ H7 Qk) _ ?_
    · intro Qk kk
      refine ⟨x, rfl, x, o, rfl, pt, fun H8 k8 => ⟨x, rfl, x, o, rfl, pt.same k8, fun H9 k9 => ⟨patO o, patO o, rfl, _, rfl, ?_⟩⟩⟩
      rw [decide_eq_true rfl]
      have k79 := k8.trans k9
      refine iteF ⟨x, rfl, x, o, rfl, pt.same k79, fun H10 k10 => ?_⟩
      refine ⟨by show 2 ≤ sizeLine; rw [sz]; decide, fun d nd => ?_⟩
      have kd := Same.new (H := H10) (o := .lst [.str (Str.ofString "pattern"), .str (Str.ofString "let")]) nd
      have ed : upd H10 d (.lst [.str (Str.ofString "pattern"), .str (Str.ofString "let")]) d = some (.lst [.str (Str.ofString "pattern"), .str (Str.ofString "let")]) := upd_same
      refine ⟨x, rfl, x, o, rfl, pt.same (k79.trans (k10.trans kd)), fun H11 k11 => .inr ⟨patO o, rfl, ?_⟩⟩
      have kall := k79.trans (k10.trans (kd.trans k11))
      cases hb : patO o with
      | true => exact ⟨d, _, 1, .str (Str.ofString "let"), rfl, rfl, sq_of (k11 _ _ ed), rfl, rfl, _, rfl, kk H11 kall⟩
      | false => exact ⟨d, _, 0, .str (Str.ofString "pattern"), rfl, rfl, sq_of (k11 _ _ ed), rfl, rfl, _, rfl, kk H11 kall⟩
    intro H8 k8
    have h8 := h7.same k8
    refine iteF ?_
    dsimp only [tNext, tDrop, tSeq, tAsg, gName]
    refine ⟨3, rfl, by omega, by omega, for_range (fun j σ H' => ∃ (y : Str) (w7 : Option V), σ = [some (.ref a0), some (.ref p), some (.str (Str.ofString "ab?[]{}\\,0~ ")), some (.int (0 + (i : Int))), some (.ref a), some (.str y), some x, w7, u8, u9] ∧ HandL H' p l ∧ y.length ≤ 1500 + j) ⟨SX.S (wrts ps), _, rfl, h8, by show (wrts ps).length ≤ 1500 + 0; omega⟩ ?_ ?_⟩
    · rintro j σ H9 hj ⟨y, w7, rfl, h9, ly⟩
      dsimp only [tNext, tDrop, tSeq, tAsg, gName]
      refine ⟨.ref p, rfl, .str y, rfl, p, y, rfl, by omega, l, h9, fun y2 H10 ly2 h10 b10 => ?_⟩
      refine is_rt (j := 5) (y := y2) rfl (by omega) fun H11 k11 => ⟨_, rfl, iteF ?_⟩
      exact ⟨y2, _, rfl, h10.same k11, by omega⟩
    rintro σ H9 ⟨y, w7, rfl, h9, ly⟩
    dsimp only [tNext, tDrop, tSeq, tAsg, gName]
    refine ⟨⟨_, rfl⟩, .ref p, rfl, p, 9, rfl, by decide, by decide, l, h9, fun v H10 v0 v1 h10 b10 => ?_⟩
    have l10 : (Str.ofString "?[]{},\\a1~").cps.toList.length = 10 := by decide +kernel
    refine ⟨v, rfl, by omega, by omega, fun D nD => lc_range (fun k H' => HandL H' p l ∧ ∃ cs : List Nat, H' D = some (.lst ((cs.map fun c => SX.S [c]).map V.str)) ∧ cs.length = k) ⟨h10.same (Same.new nD), [], upd_same, rfl⟩ ?_ ?_⟩
    · rintro k H11 hk ⟨h11, cs, hD, lc⟩
      have neD := h10.ne nD
      refine ⟨rfl, .ref p, rfl, p, 10, rfl, by decide, by decide, l, h11, fun w H12 w0 w1 h12 b12 => ?_⟩
      obtain ⟨c, ec, _⟩ := atI_in (xs := (Str.ofString "?[]{},\\a1~").cps.toList) w0 (by rw [l10]; exact w1)
      refine ⟨_, _, c, rfl, rfl, (by rw [sz]; decide +kernel), ec, _, b12 _ _ neD hD, ?_, ?_, cs ++ [c], ?_, ?_⟩
      · rw [List.length_map, List.length_map, lc, sz]
        omega
      · obtain ⟨cells, s0, n0, e1, e2, e3⟩ := h12
        exact ⟨cells, s0, n0, by rw [upd_ne (Ne.symm neD.1)]; exact e1, by rw [upd_ne (Ne.symm neD.2)]; exact e2, e3⟩
      · rw [upd_same, List.map_append, List.map_append]
        rfl
      · rw [List.length_append, lc]
        rfl
    rintro H11 ⟨h11, cs, hD, lc⟩
    have l8 : cs.length ≤ 9 := by omega
    refine ⟨_, D, cs.map fun c => SX.S [c], rfl, rfl, .inl (sq_of hD), ?_, ?_⟩
    · rw [one_sum, List.length_map, sl0]
      omega
    rw [join1]
    dsimp only [tNext, tDrop, tSeq, tAsg, gName]
    refine is_rt (j := 8) (y := SX.S cs) rfl (by show cs.length ≤ 2000; omega) fun H12 k12 => ⟨_, rfl, iteF ?_⟩
    exact ⟨_, _, _, _, _, _, _, rfl, h11.same k12⟩
end
end LawK
set_option maxHeartbeats 8000000
namespace LawK
open PySem PySem.Spec PyProof.Rows L2 Ev
structure Df (K : PySem.W.Frag) (mg : Str → Option Value) (x : Str) (st : Stmt) (ps : List Str) (f : Addr) (fd : FuncData) : Prop where
  F : Fun K x x st f fd
  b : Binds K fd ps []
  g : mg x = some (.ref f)
section
variable {P : Program} {w : World} {K : PySem.W.Frag} {mg : Str → Option Value} {h : Heap} {x : Str}
theorem df_mk {st : Stmt} {ps : List Str} {oc kV dc pm cd ct : Value} {od an : Option Addr} {sl : Array (Option Value)} {fa : Addr} (X : K.In h) (G : h.Ns mainGlobals mg)
    (hb : ∀ (kV doc pm : Value) (an : Option Addr) (cdv ct : Value) (us : List Value), us.length = ps.length → bindArgs (PySem.W.fnOf x x (defArgs st) (defBody st) (defScope st) .none kV doc pm an cdv ct) ⟨us, []⟩ = pure (ps.zip us))
    (a : PySem.W.nsIn K mainGlobals x = some (some (.ref fa))) (l : K.lookup fa = some ⟨oc, od, .func (PySem.W.fnOf x x (defArgs st) (defBody st) (defScope st) .none kV dc pm an cd ct), sl⟩)
    (ck : (PySem.W.codeIn K cd x && PySem.W.keepIn K (.ref fa)) = true) : ∃ fd, Df K mg x st ps fa fd := by
  obtain ⟨c1, c2⟩ := Bool.and_eq_true_iff.mp ck
  have F1 := fun_mk (st := st) l c1 c2
  exact ⟨_, F1, F1.binds (ps := ps) hb, PySem.W.mg_of X G a⟩
end
theorem end_mk {P : Program} {w : World} {K : PySem.W.Frag} {mg : Str → Option Value} {h : Heap} {fa f PE cEN cEB fPNumber fPSigns fPWord fPSign fQIsLot fQIsPart fPIsPattern fQMarked fQPartText fPPatText fQReadSign fQReadLot fQReadBound fQReadPart fQMayGap fPReadPat fPool fDraw fDeep fFlag fIs fPart fPattern fLNumber fLSigns fLIsPart fLIsPat fLWritten fLLot fLNumerals fLNumeral fLGap fLOne fLTold fLRead fLWord fLBent fLSpoilt : Addr} {oc kV dc pm cd ct : Value} {od an : Option Addr} {sl : Array (Option Value)} (X : K.In h) (G : h.Ns mainGlobals mg) (hfa : mg "law" = some (.ref fa))
    (aL : PySem.W.nsIn K mainGlobals "law" = some (some (.ref f))) (lL : K.lookup f = some ⟨oc, od, .func (PySem.W.fnOf "law" "law" (defArgs sLaw) (defBody sLaw) (defScope sLaw) .none kV dc pm an cd ct), sl⟩) (ck : (PySem.W.codeIn K cd "law" && PySem.W.keepIn K (.ref f)) = true)
    {tMOST_PARTS : Tok} (aMOST_PARTS : PySem.W.nsIn K mainGlobals "MOST_PARTS" = some (some (.int 30 tMOST_PARTS)))
    {tMOST_IN_LOT : Tok} (aMOST_IN_LOT : PySem.W.nsIn K mainGlobals "MOST_IN_LOT" = some (some (.int 20 tMOST_IN_LOT)))
    {tMOST_GAP : Tok} (aMOST_GAP : PySem.W.nsIn K mainGlobals "MOST_GAP" = some (some (.int 20 tMOST_GAP)))
    {tMARKED_SIGNS : Tok} (aMARKED_SIGNS : PySem.W.nsIn K mainGlobals "MARKED_SIGNS" = some (some (.str "?[{\\" tMARKED_SIGNS)))
    {tMARKED_IN_LOT : Tok} (aMARKED_IN_LOT : PySem.W.nsIn K mainGlobals "MARKED_IN_LOT" = some (some (.str "]\\" tMARKED_IN_LOT)))
    (DPNumber : ∃ fd, Df K mg "is_number" sPNumber ["thing"] fPNumber fd)
    (DPSigns : ∃ fd, Df K mg "is_signs" sPSigns ["thing"] fPSigns fd)
    (DPWord : ∃ fd, Df K mg "is_word" sPWord ["thing"] fPWord fd)
    (DPSign : ∃ fd, Df K mg "is_sign" sPSign ["thing"] fPSign fd)
    (DQIsLot : ∃ fd, Df K mg "_is_lot" sQIsLot ["thing"] fQIsLot fd)
    (DQIsPart : ∃ fd, Df K mg "_is_part" sQIsPart ["thing"] fQIsPart fd)
    (DPIsPattern : ∃ fd, Df K mg "is_pattern" sPIsPattern ["thing"] fPIsPattern fd)
    (DQMarked : ∃ fd, Df K mg "_marked" sQMarked ["signs", "marked"] fQMarked fd)
    (DQPartText : ∃ fd, Df K mg "_part_text" sQPartText ["part"] fQPartText fd)
    (DPPatText : ∃ fd, Df K mg "pattern_text" sPPatText ["pattern"] fPPatText fd)
    (DQReadSign : ∃ fd, Df K mg "_read_sign" sQReadSign ["text", "at"] fQReadSign fd)
    (DQReadLot : ∃ fd, Df K mg "_read_lot" sQReadLot ["text", "at"] fQReadLot fd)
    (DQReadBound : ∃ fd, Df K mg "_read_bound" sQReadBound ["text", "at", "least", "close"] fQReadBound fd)
    (DQReadPart : ∃ fd, Df K mg "_read_part" sQReadPart ["text", "at"] fQReadPart fd)
    (DQMayGap : ∃ fd, Df K mg "_may_have_gap" sQMayGap ["parts"] fQMayGap fd)
    (DPReadPat : ∃ fd, Df K mg "read_pattern" sPReadPat ["text"] fPReadPat fd)
    (DPool : ∃ fd, Df K mg "_law_pool" sPool ["script"] fPool fd)
    (DDraw : ∃ fd, Df K mg "_law_draw" sDraw ["pool", "many"] fDraw fd)
    (DDeep : ∃ fd, Df K mg "_law_deep" sDeep [] fDeep fd)
    (DFlag : ∃ fd, Df K mg "_law_flag" sFlag ["thing", "due"] fFlag fd)
    (DIs : ∃ fd, Df K mg "_law_is" sIs ["told", "due"] fIs fd)
    (DPart : ∃ fd, Df K mg "_law_part" sPart ["pool", "signs", "is_end"] fPart fd)
    (DPattern : ∃ fd, Df K mg "_law_pattern" sPattern ["pool", "signs", "most"] fPattern fd)
    (DLNumber : ∃ fd, Df K mg "_law_is_number" sLNumber ["thing", "least", "most"] fLNumber fd)
    (DLSigns : ∃ fd, Df K mg "_law_is_signs" sLSigns ["thing"] fLSigns fd)
    (DLIsPart : ∃ fd, Df K mg "_law_is_part" sLIsPart ["thing"] fLIsPart fd)
    (DLIsPat : ∃ fd, Df K mg "_law_is_pattern" sLIsPat ["thing"] fLIsPat fd)
    (DLWritten : ∃ fd, Df K mg "_law_written" sLWritten ["pattern"] fLWritten fd)
    (DLLot : ∃ fd, Df K mg "_law_lot" sLLot ["text", "at"] fLLot fd)
    (DLNumerals : ∃ fd, Df K mg "_law_numerals" sLNumerals ["least"] fLNumerals fd)
    (DLNumeral : ∃ fd, Df K mg "_law_numeral" sLNumeral ["text", "at", "least", "close"] fLNumeral fd)
    (DLGap : ∃ fd, Df K mg "_law_gap" sLGap ["text", "at"] fLGap fd)
    (DLOne : ∃ fd, Df K mg "_law_one" sLOne ["text", "at", "many", "is_behind_gap"] fLOne fd)
    (DLTold : ∃ fd, Df K mg "_law_told" sLTold ["text"] fLTold fd)
    (DLRead : ∃ fd, Df K mg "_law_read" sLRead ["text"] fLRead fd)
    (DLWord : ∃ fd, Df K mg "_law_word" sLWord ["thing"] fLWord fd)
    (DLBent : ∃ fd, Df K mg "_law_bent" sLBent ["pool", "pattern"] fLBent fd)
    (DLSpoilt : ∃ fd, Df K mg "_law_spoilt" sLSpoilt ["pool", "text"] fLSpoilt fd)
    (EN : Cls0 P K mg PE "NoPattern" cEN) (EB : Cls1 K mg PE "BadPattern" "place" cEB) (CB : chkB K PE = true) (aPE : PySem.W.nsIn K mainGlobals "PieceError" = some (some (.ref PE))) (gVE : mg "ValueError" = none) (T : Glob mg) :
    ∃ fd : FuncData, (∀ (s : Shared) (u : Value), BindsTo s fd ⟨[u], []⟩ [("script", u)]) ∧ ∀ base : Heap, K.In base → base.Ns mainGlobals mg → FnAt callerA P w K mg base CX0 fa fd ["script"] (spLaw K) := by
  have e := hfa.symm.trans (PySem.W.mg_of X G aL)
  cases e
  obtain ⟨fdPNumber, DPNumber⟩ := DPNumber
  obtain ⟨fdPSigns, DPSigns⟩ := DPSigns
  obtain ⟨fdPWord, DPWord⟩ := DPWord
  obtain ⟨fdPSign, DPSign⟩ := DPSign
  obtain ⟨fdQIsLot, DQIsLot⟩ := DQIsLot
  obtain ⟨fdQIsPart, DQIsPart⟩ := DQIsPart
  obtain ⟨fdPIsPattern, DPIsPattern⟩ := DPIsPattern
  obtain ⟨fdQMarked, DQMarked⟩ := DQMarked
  obtain ⟨fdQPartText, DQPartText⟩ := DQPartText
  obtain ⟨fdPPatText, DPPatText⟩ := DPPatText
  obtain ⟨fdQReadSign, DQReadSign⟩ := DQReadSign
  obtain ⟨fdQReadLot, DQReadLot⟩ := DQReadLot
  obtain ⟨fdQReadBound, DQReadBound⟩ := DQReadBound
  obtain ⟨fdQReadPart, DQReadPart⟩ := DQReadPart
  obtain ⟨fdQMayGap, DQMayGap⟩ := DQMayGap
  obtain ⟨fdPReadPat, DPReadPat⟩ := DPReadPat
  obtain ⟨fdPool, DPool⟩ := DPool
  obtain ⟨fdDraw, DDraw⟩ := DDraw
  obtain ⟨fdDeep, DDeep⟩ := DDeep
  obtain ⟨fdFlag, DFlag⟩ := DFlag
  obtain ⟨fdIs, DIs⟩ := DIs
  obtain ⟨fdPart, DPart⟩ := DPart
  obtain ⟨fdPattern, DPattern⟩ := DPattern
  obtain ⟨fdLNumber, DLNumber⟩ := DLNumber
  obtain ⟨fdLSigns, DLSigns⟩ := DLSigns
  obtain ⟨fdLIsPart, DLIsPart⟩ := DLIsPart
  obtain ⟨fdLIsPat, DLIsPat⟩ := DLIsPat
  obtain ⟨fdLWritten, DLWritten⟩ := DLWritten
  obtain ⟨fdLLot, DLLot⟩ := DLLot
  obtain ⟨fdLNumerals, DLNumerals⟩ := DLNumerals
  obtain ⟨fdLNumeral, DLNumeral⟩ := DLNumeral
  obtain ⟨fdLGap, DLGap⟩ := DLGap
  obtain ⟨fdLOne, DLOne⟩ := DLOne
  obtain ⟨fdLTold, DLTold⟩ := DLTold
  obtain ⟨fdLRead, DLRead⟩ := DLRead
  obtain ⟨fdLWord, DLWord⟩ := DLWord
  obtain ⟨fdLBent, DLBent⟩ := DLBent
  obtain ⟨fdLSpoilt, DLSpoilt⟩ := DLSpoilt
  obtain ⟨c1, c2⟩ := Bool.and_eq_true_iff.mp ck
  have F1 := fun_mk (st := sLaw) lL c1 c2
  have BX := baseX_mk CB
  refine ⟨PySem.W.fnOf "law" "law" (defArgs sLaw) (defBody sLaw) (defScope sLaw) .none kV dc pm an cd ct, fun s u => .of_eq rfl, fun base _ _ => ?_⟩
  have TPNumber : Dk P w K mg base "is_number" sPNumber ["thing"] 1 spNum fPNumber fdPNumber := ⟨DPNumber.F, DPNumber.b, DPNumber.g, ok_PNumber DPNumber.F   (T := T)⟩
  have TPSigns : Dk P w K mg base "is_signs" sPSigns ["thing"] 1 spSg fPSigns fdPSigns := ⟨DPSigns.F, DPSigns.b, DPSigns.g, ok_PSigns DPSigns.F   (T := T)⟩
  have TPSign : Dk P w K mg base "is_sign" sPSign ["thing"] 2 spSign fPSign fdPSign := ⟨DPSign.F, DPSign.b, DPSign.g, ok_PSign DPSign.F  (DPSigns := TPSigns) (T := T)⟩
  have TPWord : Dk P w K mg base "is_word" sPWord ["thing"] 2 spWd fPWord fdPWord := ⟨DPWord.F, DPWord.b, DPWord.g, ok_PWord DPWord.F  (DPSigns := TPSigns) (T := T)⟩
  have TQIsLot : Dk P w K mg base "_is_lot" sQIsLot ["thing"] 3 spLotV fQIsLot fdQIsLot := ⟨DQIsLot.F, DQIsLot.b, DQIsLot.g, ok_QIsLot DQIsLot.F (gL := PySem.W.mg_of X G aMOST_IN_LOT) (DPWord := TPWord) (T := T)⟩
  have TQIsPart : Dk P w K mg base "_is_part" sQIsPart ["thing"] 4 spPartT fQIsPart fdQIsPart := ⟨DQIsPart.F, DQIsPart.b, DQIsPart.g, ok_QIsPart DQIsPart.F (gG := PySem.W.mg_of X G aMOST_GAP) (DPNumber := TPNumber) (DPSign := TPSign) (DQIsLot := TQIsLot) (T := T)⟩
  have TPIsPattern : Dk P w K mg base "is_pattern" sPIsPattern ["thing"] 5 spPatT fPIsPattern fdPIsPattern := ⟨DPIsPattern.F, DPIsPattern.b, DPIsPattern.g, ok_PIsPattern DPIsPattern.F (gP := PySem.W.mg_of X G aMOST_PARTS) (DQIsPart := TQIsPart) (T := T)⟩
  have TQMarked : Dk P w K mg base "_marked" sQMarked ["signs", "marked"] 1 spMarked fQMarked fdQMarked := ⟨DQMarked.F, DQMarked.b, DQMarked.g, ok_QMarked DQMarked.F   (T := T)⟩
  have TQPartText : Dk P w K mg base "_part_text" sQPartText ["part"] 2 spPartText fQPartText fdQPartText := ⟨DQPartText.F, DQPartText.b, DQPartText.g, ok_QPartText DQPartText.F (gMS := PySem.W.mg_of X G aMARKED_SIGNS) (gML := PySem.W.mg_of X G aMARKED_IN_LOT) (DQMarked := TQMarked) (T := T)⟩
  have EPPatText : DkE P w K mg base "pattern_text" sPPatText ["pattern"] 6 (spPText cEN) fPPatText fdPPatText := ⟨DPPatText.F, DPPatText.b, DPPatText.g, ok_PPatText DPPatText.F (ENoPattern := EN) (DPIsPattern := TPIsPattern) (DQPartText := TQPartText) (T := T)⟩
  have TPPatText : Dk P w K mg base "pattern_text" sPPatText ["pattern"] 6 (sp0 (spPText cEN)) fPPatText fdPPatText := ⟨DPPatText.F, DPPatText.b, DPPatText.g, FnOk.drop EPPatText.ok⟩
  have EQReadSign : DkE P w K mg base "_read_sign" sQReadSign ["text", "at"] 3 (spRSign cEB) fQReadSign fdQReadSign := ⟨DQReadSign.F, DQReadSign.b, DQReadSign.g, ok_QReadSign DQReadSign.F (gMS := PySem.W.mg_of X G aMARKED_SIGNS) (EBadPattern := EB) (DPSign := TPSign) (T := T)⟩
  have EQReadLot : DkE P w K mg base "_read_lot" sQReadLot ["text", "at"] 3 (spRLot cEB) fQReadLot fdQReadLot := ⟨DQReadLot.F, DQReadLot.b, DQReadLot.g, ok_QReadLot DQReadLot.F (gML := PySem.W.mg_of X G aMARKED_IN_LOT) (gL := PySem.W.mg_of X G aMOST_IN_LOT) (EBadPattern := EB) (DPSign := TPSign) (T := T)⟩
  have EQReadBound : DkE P w K mg base "_read_bound" sQReadBound ["text", "at", "least", "close"] 3 (spRBound cEB) fQReadBound fdQReadBound := ⟨DQReadBound.F, DQReadBound.b, DQReadBound.g, ok_QReadBound DQReadBound.F (gG := PySem.W.mg_of X G aMOST_GAP) (EBadPattern := EB) (T := T)⟩
  have EQReadPart : DkE P w K mg base "_read_part" sQReadPart ["text", "at"] 4 (spRPart cEB) fQReadPart fdQReadPart := ⟨DQReadPart.F, DQReadPart.b, DQReadPart.g, ok_QReadPart DQReadPart.F (DQReadLot := EQReadLot) (DQReadSign := EQReadSign) (DQReadBound := EQReadBound) (T := T)⟩
  have TQMayGap : Dk P w K mg base "_may_have_gap" sQMayGap ["parts"] 1 spMayGap fQMayGap fdQMayGap := ⟨DQMayGap.F, DQMayGap.b, DQMayGap.g, ok_QMayGap DQMayGap.F (gP := PySem.W.mg_of X G aMOST_PARTS)  (T := T)⟩
  have EPReadPat : DkE P w K mg base "read_pattern" sPReadPat ["text"] 5 (spRPat cEB) fPReadPat fdPReadPat := ⟨DPReadPat.F, DPReadPat.b, DPReadPat.g, ok_PReadPat DPReadPat.F (gP := PySem.W.mg_of X G aMOST_PARTS) (EBadPattern := EB) (DQReadPart := EQReadPart) (DQMayGap := TQMayGap) (T := T)⟩
  have TPReadPat : Dk P w K mg base "read_pattern" sPReadPat ["text"] 5 (sp0 (spRPat cEB)) fPReadPat fdPReadPat := ⟨DPReadPat.F, DPReadPat.b, DPReadPat.g, FnOk.drop EPReadPat.ok⟩
  have TPool : Dk P w K mg base "_law_pool" sPool ["script"] 1 (spPool K) fPool fdPool := ⟨DPool.F, DPool.b, DPool.g, ok_Pool DPool.F   (T := T)⟩
  have TDraw : Dk P w K mg base "_law_draw" sDraw ["pool", "many"] 1 spDraw fDraw fdDraw := ⟨DDraw.F, DDraw.b, DDraw.g, ok_Draw DDraw.F   (T := T)⟩
  have TFlag : Dk P w K mg base "_law_flag" sFlag ["thing", "due"] 1 spFlagD fFlag fdFlag := ⟨DFlag.F, DFlag.b, DFlag.g, ok_Flag DFlag.F   (T := T)⟩
  have TIs : DkG P w K mg base "_law_is" sIs ["told", "due"] 1 (spIs K) fIs fdIs := ⟨DIs.F, DIs.b, DIs.g, ok_Is DIs.F (T := T)⟩
  have TPart : Dk P w K mg base "_law_part" sPart ["pool", "signs", "is_end"] 2 spPrt fPart fdPart := ⟨DPart.F, DPart.b, DPart.g, ok_Part DPart.F  (DDraw := TDraw) (T := T)⟩
  have TPattern : Dk P w K mg base "_law_pattern" sPattern ["pool", "signs", "most"] 3 spPattern fPattern fdPattern := ⟨DPattern.F, DPattern.b, DPattern.g, ok_Pattern DPattern.F  (DDraw := TDraw) (DPart := TPart) (T := T)⟩
  have TLNumber : Dk P w K mg base "_law_is_number" sLNumber ["thing", "least", "most"] 1 spIn fLNumber fdLNumber := ⟨DLNumber.F, DLNumber.b, DLNumber.g, ok_LNumber DLNumber.F   (T := T)⟩
  have TLSigns : Dk P w K mg base "_law_is_signs" sLSigns ["thing"] 1 spSgL fLSigns fdLSigns := ⟨DLSigns.F, DLSigns.b, DLSigns.g, ok_LSigns DLSigns.F   (T := T)⟩
  have TLIsPart : Dk P w K mg base "_law_is_part" sLIsPart ["thing"] 2 spPartT fLIsPart fdLIsPart := ⟨DLIsPart.F, DLIsPart.b, DLIsPart.g, ok_LIsPart DLIsPart.F  (DLNumber := TLNumber) (DLSigns := TLSigns) (T := T)⟩
  have TLIsPat : Dk P w K mg base "_law_is_pattern" sLIsPat ["thing"] 3 spPatT fLIsPat fdLIsPat := ⟨DLIsPat.F, DLIsPat.b, DLIsPat.g, ok_LIsPat DLIsPat.F  (DLIsPart := TLIsPart) (T := T)⟩
  have TLWritten : Dk P w K mg base "_law_written" sLWritten ["pattern"] 1 spWritten fLWritten fdLWritten := ⟨DLWritten.F, DLWritten.b, DLWritten.g, ok_LWritten DLWritten.F   (T := T)⟩
  have TLLot : Dk P w K mg base "_law_lot" sLLot ["text", "at"] 1 spLLot fLLot fdLLot := ⟨DLLot.F, DLLot.b, DLLot.g, ok_LLot DLLot.F   (T := T)⟩
  have TLNumerals : Dk P w K mg base "_law_numerals" sLNumerals ["least"] 1 spNumerals fLNumerals fdLNumerals := ⟨DLNumerals.F, DLNumerals.b, DLNumerals.g, ok_LNumerals DLNumerals.F   (T := T)⟩
  have TLNumeral : Dk P w K mg base "_law_numeral" sLNumeral ["text", "at", "least", "close"] 2 spNumeral fLNumeral fdLNumeral := ⟨DLNumeral.F, DLNumeral.b, DLNumeral.g, ok_LNumeral DLNumeral.F  (DLNumerals := TLNumerals) (T := T)⟩
  have TLGap : Dk P w K mg base "_law_gap" sLGap ["text", "at"] 3 spLGap fLGap fdLGap := ⟨DLGap.F, DLGap.b, DLGap.g, ok_LGap DLGap.F  (DLNumeral := TLNumeral) (T := T)⟩
  have TLOne : Dk P w K mg base "_law_one" sLOne ["text", "at", "many", "is_behind_gap"] 4 spLOne fLOne fdLOne := ⟨DLOne.F, DLOne.b, DLOne.g, ok_LOne DLOne.F  (DLLot := TLLot) (DLGap := TLGap) (T := T)⟩
  have TLTold : Dk P w K mg base "_law_told" sLTold ["text"] 5 spLTold fLTold fdLTold := ⟨DLTold.F, DLTold.b, DLTold.g, ok_LTold DLTold.F  (DLOne := TLOne) (T := T)⟩
  have TLRead : Dk P w K mg base "_law_read" sLRead ["text"] 7 spLRead fLRead fdLRead := ⟨DLRead.F, DLRead.b, DLRead.g, ok_LRead DLRead.F EB BX.1 BX.2 (PySem.W.mg_of X G aPE) gVE EPReadPat T⟩
  have TLWord : Dk P w K mg base "_law_word" sLWord ["thing"] 8 spLWord fLWord fdLWord := ⟨DLWord.F, DLWord.b, DLWord.g, ok_LWord DLWord.F EN BX.1 BX.2 (PySem.W.mg_of X G aPE) gVE EPPatText T⟩
  have TDeep : Dk P w K mg base "_law_deep" sDeep [] 1 spDeep fDeep fdDeep := ⟨DDeep.F, DDeep.b, DDeep.g, ok_Deep DDeep.F   (T := T)⟩
  have TLBent : Dk P w K mg base "_law_bent" sLBent ["pool", "pattern"] 2 spBent fLBent fdLBent := ⟨DLBent.F, DLBent.b, DLBent.g, ok_LBent DLBent.F  (DDraw := TDraw) (DDeep := TDeep) (T := T)⟩
  have TLSpoilt : Dk P w K mg base "_law_spoilt" sLSpoilt ["pool", "text"] 2 spSpoilt fLSpoilt fdLSpoilt := ⟨DLSpoilt.F, DLSpoilt.b, DLSpoilt.g, ok_LSpoilt DLSpoilt.F  (DDraw := TDraw) (T := T)⟩
  exact ok_law F1 (DPIsPattern := TPIsPattern) (DPPatText := TPPatText) (DPReadPat := TPReadPat) (DPool := TPool) (DDraw := TDraw) (DFlag := TFlag) (DIs := TIs) (DPattern := TPattern) (DLIsPat := TLIsPat) (DLWritten := TLWritten) (DLTold := TLTold) (DLRead := TLRead) (DLWord := TLWord) (DLBent := TLBent) (DLSpoilt := TLSpoilt) (PE := PE) (T := T)
end LawK
open PySem PySem.W PyProof.Rows L2
set_option maxRecDepth 100000 in
set_option maxHeartbeats 0 in
theorem PySem.Challenge.cw_everypiece_k45_whole_patterns_as_texts_holds : PySem.Challenge.rw_everypiece_k45_whole_patterns_as_texts.Holds := by
  w_on; o_law; k_head; (case hw => w_witness2)
  k_fill
  refine Ev.walk_at (l := PySem.Challenge.rw_everypiece_k45_whole_patterns_as_texts) (n := 63) (x := "script") (sp := LawK.spLaw) rfl (by decide) rfl (fun w h Y => PySem.W.kIn_of Y) ?F (fun K H a ns hl _ hS => ⟨a, ns, rfl, hS, fun _ => rfl⟩)
  case F =>
    intro w mg fa h KX G hmg
    have hfa : mg "law" = some (.ref fa) := hmg
    clear hmg
    refine LawK.say KX (fun K => LawK.Sh0 (PySem.W.OpenLaw.prog PySem.Challenge.rw_everypiece_k45_whole_patterns_as_texts) K mg) (by
      refine' LawK.sh0_mk KX G ?kq1a ?kq1b ?kq1c ?kq1d ?kq1e
      (case kq1a => k_is); (case kq1b => k_is); (case kq1c => k_is); (case kq1d => decide +kernel); (case kq1e => k_is)) ?_
    intro S
    refine LawK.say KX (fun K => LawK.Cls0 (PySem.W.OpenLaw.prog PySem.Challenge.rw_everypiece_k45_whole_patterns_as_texts) K mg 24 "NoPattern" 46) (by
      refine' LawK.cls0_mk (qual := "NoPattern.__init__") KX G S ?kq2a ?kq2l ?kq2i ?kq2f ?kq2d ?kq2e ?kq2v ?kq2w ?kq2p ?kq2c
      (case kq2a => k_is); (case kq2l => k_is); (case kq2i => k_is); (case kq2f => k_is); (case kq2d => k_is); (case kq2e => k_is); (case kq2v => rfl); (case kq2w => rfl); (case kq2p => rfl); (case kq2c => kernel_rfl)) ?_
    intro EN
    refine LawK.say KX (fun K => LawK.Cls1 K mg 24 "BadPattern" "place" 65) (by
      refine' LawK.cls1_mk (st := inClass (LawK.topS 3) 0) (qual := "BadPattern.__init__") KX G S.toSh ⟨⟨_, _, _, _, rfl⟩, ⟨rfl, rfl, rfl, by decide +kernel, rfl, by decide +kernel, by decide +kernel⟩, rfl, rfl, rfl, rfl⟩ (fun _ _ _ _ _ _ us hl => match us, hl with | [_, _], _ => rfl) ?kq3a ?kq3l ?kq3i ?kq3f ?kq3c
      (case kq3a => k_is); (case kq3l => k_is); (case kq3i => k_is); (case kq3f => k_is); (case kq3c => kernel_rfl)) ?_
    intro EB
    refine LawK.say KX (fun K => LawK.chkB K 24 = true) (by kernel_rfl) ?_
    intro CB
    refine LawK.say KX (fun K => ∃ fd, LawK.Df K mg "is_number" LawK.sPNumber ["thing"] 74 fd) (by
      refine' LawK.df_mk KX G (fun _ _ _ _ _ _ us hl => match us, hl with | [_], _ => rfl) ?kq5a ?kq5l ?kq5c
      (case kq5a => k_is); (case kq5l => k_is); (case kq5c => kernel_rfl)) ?_
    intro DPNumber
    refine LawK.say KX (fun K => ∃ fd, LawK.Df K mg "is_signs" LawK.sPSigns ["thing"] 81 fd) (by
      refine' LawK.df_mk KX G (fun _ _ _ _ _ _ us hl => match us, hl with | [_], _ => rfl) ?kq6a ?kq6l ?kq6c
      (case kq6a => k_is); (case kq6l => k_is); (case kq6c => kernel_rfl)) ?_
    intro DPSigns
    refine LawK.say KX (fun K => ∃ fd, LawK.Df K mg "is_word" LawK.sPWord ["thing"] 88 fd) (by
      refine' LawK.df_mk KX G (fun _ _ _ _ _ _ us hl => match us, hl with | [_], _ => rfl) ?kq7a ?kq7l ?kq7c
      (case kq7a => k_is); (case kq7l => k_is); (case kq7c => kernel_rfl)) ?_
    intro DPWord
    refine LawK.say KX (fun K => ∃ fd, LawK.Df K mg "is_sign" LawK.sPSign ["thing"] 95 fd) (by
      refine' LawK.df_mk KX G (fun _ _ _ _ _ _ us hl => match us, hl with | [_], _ => rfl) ?kq8a ?kq8l ?kq8c
      (case kq8a => k_is); (case kq8l => k_is); (case kq8c => kernel_rfl)) ?_
    intro DPSign
    refine LawK.say KX (fun K => ∃ fd, LawK.Df K mg "_is_lot" LawK.sQIsLot ["thing"] 100 fd) (by
      refine' LawK.df_mk KX G (fun _ _ _ _ _ _ us hl => match us, hl with | [_], _ => rfl) ?kq9a ?kq9l ?kq9c
      (case kq9a => k_is); (case kq9l => k_is); (case kq9c => kernel_rfl)) ?_
    intro DQIsLot
    refine LawK.say KX (fun K => ∃ fd, LawK.Df K mg "_is_part" LawK.sQIsPart ["thing"] 107 fd) (by
      refine' LawK.df_mk KX G (fun _ _ _ _ _ _ us hl => match us, hl with | [_], _ => rfl) ?kq10a ?kq10l ?kq10c
      (case kq10a => k_is); (case kq10l => k_is); (case kq10c => kernel_rfl)) ?_
    intro DQIsPart
    refine LawK.say KX (fun K => ∃ fd, LawK.Df K mg "is_pattern" LawK.sPIsPattern ["thing"] 112 fd) (by
      refine' LawK.df_mk KX G (fun _ _ _ _ _ _ us hl => match us, hl with | [_], _ => rfl) ?kq11a ?kq11l ?kq11c
      (case kq11a => k_is); (case kq11l => k_is); (case kq11c => kernel_rfl)) ?_
    intro DPIsPattern
    refine LawK.say KX (fun K => ∃ fd, LawK.Df K mg "_marked" LawK.sQMarked ["signs", "marked"] 117 fd) (by
      refine' LawK.df_mk KX G (fun _ _ _ _ _ _ us hl => match us, hl with | [_, _], _ => rfl) ?kq12a ?kq12l ?kq12c
      (case kq12a => k_is); (case kq12l => k_is); (case kq12c => kernel_rfl)) ?_
    intro DQMarked
    refine LawK.say KX (fun K => ∃ fd, LawK.Df K mg "_part_text" LawK.sQPartText ["part"] 124 fd) (by
      refine' LawK.df_mk KX G (fun _ _ _ _ _ _ us hl => match us, hl with | [_], _ => rfl) ?kq13a ?kq13l ?kq13c
      (case kq13a => k_is); (case kq13l => k_is); (case kq13c => kernel_rfl)) ?_
    intro DQPartText
    refine LawK.say KX (fun K => ∃ fd, LawK.Df K mg "pattern_text" LawK.sPPatText ["pattern"] 129 fd) (by
      refine' LawK.df_mk KX G (fun _ _ _ _ _ _ us hl => match us, hl with | [_], _ => rfl) ?kq14a ?kq14l ?kq14c
      (case kq14a => k_is); (case kq14l => k_is); (case kq14c => kernel_rfl)) ?_
    intro DPPatText
    refine LawK.say KX (fun K => ∃ fd, LawK.Df K mg "_read_sign" LawK.sQReadSign ["text", "at"] 136 fd) (by
      refine' LawK.df_mk KX G (fun _ _ _ _ _ _ us hl => match us, hl with | [_, _], _ => rfl) ?kq15a ?kq15l ?kq15c
      (case kq15a => k_is); (case kq15l => k_is); (case kq15c => kernel_rfl)) ?_
    intro DQReadSign
    refine LawK.say KX (fun K => ∃ fd, LawK.Df K mg "_read_lot" LawK.sQReadLot ["text", "at"] 143 fd) (by
      refine' LawK.df_mk KX G (fun _ _ _ _ _ _ us hl => match us, hl with | [_, _], _ => rfl) ?kq16a ?kq16l ?kq16c
      (case kq16a => k_is); (case kq16l => k_is); (case kq16c => kernel_rfl)) ?_
    intro DQReadLot
    refine LawK.say KX (fun K => ∃ fd, LawK.Df K mg "_read_bound" LawK.sQReadBound ["text", "at", "least", "close"] 148 fd) (by
      refine' LawK.df_mk KX G (fun _ _ _ _ _ _ us hl => match us, hl with | [_, _, _, _], _ => rfl) ?kq17a ?kq17l ?kq17c
      (case kq17a => k_is); (case kq17l => k_is); (case kq17c => kernel_rfl)) ?_
    intro DQReadBound
    refine LawK.say KX (fun K => ∃ fd, LawK.Df K mg "_read_part" LawK.sQReadPart ["text", "at"] 155 fd) (by
      refine' LawK.df_mk KX G (fun _ _ _ _ _ _ us hl => match us, hl with | [_, _], _ => rfl) ?kq18a ?kq18l ?kq18c
      (case kq18a => k_is); (case kq18l => k_is); (case kq18c => kernel_rfl)) ?_
    intro DQReadPart
    refine LawK.say KX (fun K => ∃ fd, LawK.Df K mg "_may_have_gap" LawK.sQMayGap ["parts"] 162 fd) (by
      refine' LawK.df_mk KX G (fun _ _ _ _ _ _ us hl => match us, hl with | [_], _ => rfl) ?kq19a ?kq19l ?kq19c
      (case kq19a => k_is); (case kq19l => k_is); (case kq19c => kernel_rfl)) ?_
    intro DQMayGap
    refine LawK.say KX (fun K => ∃ fd, LawK.Df K mg "read_pattern" LawK.sPReadPat ["text"] 169 fd) (by
      refine' LawK.df_mk KX G (fun _ _ _ _ _ _ us hl => match us, hl with | [_], _ => rfl) ?kq20a ?kq20l ?kq20c
      (case kq20a => k_is); (case kq20l => k_is); (case kq20c => kernel_rfl)) ?_
    intro DPReadPat
    refine LawK.say KX (fun K => ∃ fd, LawK.Df K mg "_law_pool" LawK.sPool ["script"] 174 fd) (by
      refine' LawK.df_mk KX G (fun _ _ _ _ _ _ us hl => match us, hl with | [_], _ => rfl) ?kq21a ?kq21l ?kq21c
      (case kq21a => k_is); (case kq21l => k_is); (case kq21c => kernel_rfl)) ?_
    intro DPool
    refine LawK.say KX (fun K => ∃ fd, LawK.Df K mg "_law_draw" LawK.sDraw ["pool", "many"] 181 fd) (by
      refine' LawK.df_mk KX G (fun _ _ _ _ _ _ us hl => match us, hl with | [_, _], _ => rfl) ?kq22a ?kq22l ?kq22c
      (case kq22a => k_is); (case kq22l => k_is); (case kq22c => kernel_rfl)) ?_
    intro DDraw
    refine LawK.say KX (fun K => ∃ fd, LawK.Df K mg "_law_deep" LawK.sDeep [] 188 fd) (by
      refine' LawK.df_mk KX G (fun _ _ _ _ _ _ us hl => match us, hl with | [], _ => rfl) ?kq23a ?kq23l ?kq23c
      (case kq23a => k_is); (case kq23l => k_is); (case kq23c => kernel_rfl)) ?_
    intro DDeep
    refine LawK.say KX (fun K => ∃ fd, LawK.Df K mg "_law_flag" LawK.sFlag ["thing", "due"] 195 fd) (by
      refine' LawK.df_mk KX G (fun _ _ _ _ _ _ us hl => match us, hl with | [_, _], _ => rfl) ?kq24a ?kq24l ?kq24c
      (case kq24a => k_is); (case kq24l => k_is); (case kq24c => kernel_rfl)) ?_
    intro DFlag
    refine LawK.say KX (fun K => ∃ fd, LawK.Df K mg "_law_is" LawK.sIs ["told", "due"] 202 fd) (by
      refine' LawK.df_mk KX G (fun _ _ _ _ _ _ us hl => match us, hl with | [_, _], _ => rfl) ?kq25a ?kq25l ?kq25c
      (case kq25a => k_is); (case kq25l => k_is); (case kq25c => kernel_rfl)) ?_
    intro DIs
    refine LawK.say KX (fun K => ∃ fd, LawK.Df K mg "_law_part" LawK.sPart ["pool", "signs", "is_end"] 207 fd) (by
      refine' LawK.df_mk KX G (fun _ _ _ _ _ _ us hl => match us, hl with | [_, _, _], _ => rfl) ?kq26a ?kq26l ?kq26c
      (case kq26a => k_is); (case kq26l => k_is); (case kq26c => kernel_rfl)) ?_
    intro DPart
    refine LawK.say KX (fun K => ∃ fd, LawK.Df K mg "_law_pattern" LawK.sPattern ["pool", "signs", "most"] 214 fd) (by
      refine' LawK.df_mk KX G (fun _ _ _ _ _ _ us hl => match us, hl with | [_, _, _], _ => rfl) ?kq27a ?kq27l ?kq27c
      (case kq27a => k_is); (case kq27l => k_is); (case kq27c => kernel_rfl)) ?_
    intro DPattern
    refine LawK.say KX (fun K => ∃ fd, LawK.Df K mg "_law_is_number" LawK.sLNumber ["thing", "least", "most"] 221 fd) (by
      refine' LawK.df_mk KX G (fun _ _ _ _ _ _ us hl => match us, hl with | [_, _, _], _ => rfl) ?kq28a ?kq28l ?kq28c
      (case kq28a => k_is); (case kq28l => k_is); (case kq28c => kernel_rfl)) ?_
    intro DLNumber
    refine LawK.say KX (fun K => ∃ fd, LawK.Df K mg "_law_is_signs" LawK.sLSigns ["thing"] 226 fd) (by
      refine' LawK.df_mk KX G (fun _ _ _ _ _ _ us hl => match us, hl with | [_], _ => rfl) ?kq29a ?kq29l ?kq29c
      (case kq29a => k_is); (case kq29l => k_is); (case kq29c => kernel_rfl)) ?_
    intro DLSigns
    refine LawK.say KX (fun K => ∃ fd, LawK.Df K mg "_law_is_part" LawK.sLIsPart ["thing"] 231 fd) (by
      refine' LawK.df_mk KX G (fun _ _ _ _ _ _ us hl => match us, hl with | [_], _ => rfl) ?kq30a ?kq30l ?kq30c
      (case kq30a => k_is); (case kq30l => k_is); (case kq30c => kernel_rfl)) ?_
    intro DLIsPart
    refine LawK.say KX (fun K => ∃ fd, LawK.Df K mg "_law_is_pattern" LawK.sLIsPat ["thing"] 236 fd) (by
      refine' LawK.df_mk KX G (fun _ _ _ _ _ _ us hl => match us, hl with | [_], _ => rfl) ?kq31a ?kq31l ?kq31c
      (case kq31a => k_is); (case kq31l => k_is); (case kq31c => kernel_rfl)) ?_
    intro DLIsPat
    refine LawK.say KX (fun K => ∃ fd, LawK.Df K mg "_law_written" LawK.sLWritten ["pattern"] 241 fd) (by
      refine' LawK.df_mk KX G (fun _ _ _ _ _ _ us hl => match us, hl with | [_], _ => rfl) ?kq32a ?kq32l ?kq32c
      (case kq32a => k_is); (case kq32l => k_is); (case kq32c => kernel_rfl)) ?_
    intro DLWritten
    refine LawK.say KX (fun K => ∃ fd, LawK.Df K mg "_law_lot" LawK.sLLot ["text", "at"] 248 fd) (by
      refine' LawK.df_mk KX G (fun _ _ _ _ _ _ us hl => match us, hl with | [_, _], _ => rfl) ?kq33a ?kq33l ?kq33c
      (case kq33a => k_is); (case kq33l => k_is); (case kq33c => kernel_rfl)) ?_
    intro DLLot
    refine LawK.say KX (fun K => ∃ fd, LawK.Df K mg "_law_numerals" LawK.sLNumerals ["least"] 253 fd) (by
      refine' LawK.df_mk KX G (fun _ _ _ _ _ _ us hl => match us, hl with | [_], _ => rfl) ?kq34a ?kq34l ?kq34c
      (case kq34a => k_is); (case kq34l => k_is); (case kq34c => kernel_rfl)) ?_
    intro DLNumerals
    refine LawK.say KX (fun K => ∃ fd, LawK.Df K mg "_law_numeral" LawK.sLNumeral ["text", "at", "least", "close"] 258 fd) (by
      refine' LawK.df_mk KX G (fun _ _ _ _ _ _ us hl => match us, hl with | [_, _, _, _], _ => rfl) ?kq35a ?kq35l ?kq35c
      (case kq35a => k_is); (case kq35l => k_is); (case kq35c => kernel_rfl)) ?_
    intro DLNumeral
    refine LawK.say KX (fun K => ∃ fd, LawK.Df K mg "_law_gap" LawK.sLGap ["text", "at"] 265 fd) (by
      refine' LawK.df_mk KX G (fun _ _ _ _ _ _ us hl => match us, hl with | [_, _], _ => rfl) ?kq36a ?kq36l ?kq36c
      (case kq36a => k_is); (case kq36l => k_is); (case kq36c => kernel_rfl)) ?_
    intro DLGap
    refine LawK.say KX (fun K => ∃ fd, LawK.Df K mg "_law_one" LawK.sLOne ["text", "at", "many", "is_behind_gap"] 272 fd) (by
      refine' LawK.df_mk KX G (fun _ _ _ _ _ _ us hl => match us, hl with | [_, _, _, _], _ => rfl) ?kq37a ?kq37l ?kq37c
      (case kq37a => k_is); (case kq37l => k_is); (case kq37c => kernel_rfl)) ?_
    intro DLOne
    refine LawK.say KX (fun K => ∃ fd, LawK.Df K mg "_law_told" LawK.sLTold ["text"] 279 fd) (by
      refine' LawK.df_mk KX G (fun _ _ _ _ _ _ us hl => match us, hl with | [_], _ => rfl) ?kq38a ?kq38l ?kq38c
      (case kq38a => k_is); (case kq38l => k_is); (case kq38c => kernel_rfl)) ?_
    intro DLTold
    refine LawK.say KX (fun K => ∃ fd, LawK.Df K mg "_law_read" LawK.sLRead ["text"] 286 fd) (by
      refine' LawK.df_mk KX G (fun _ _ _ _ _ _ us hl => match us, hl with | [_], _ => rfl) ?kq39a ?kq39l ?kq39c
      (case kq39a => k_is); (case kq39l => k_is); (case kq39c => kernel_rfl)) ?_
    intro DLRead
    refine LawK.say KX (fun K => ∃ fd, LawK.Df K mg "_law_word" LawK.sLWord ["thing"] 293 fd) (by
      refine' LawK.df_mk KX G (fun _ _ _ _ _ _ us hl => match us, hl with | [_], _ => rfl) ?kq40a ?kq40l ?kq40c
      (case kq40a => k_is); (case kq40l => k_is); (case kq40c => kernel_rfl)) ?_
    intro DLWord
    refine LawK.say KX (fun K => ∃ fd, LawK.Df K mg "_law_bent" LawK.sLBent ["pool", "pattern"] 300 fd) (by
      refine' LawK.df_mk KX G (fun _ _ _ _ _ _ us hl => match us, hl with | [_, _], _ => rfl) ?kq41a ?kq41l ?kq41c
      (case kq41a => k_is); (case kq41l => k_is); (case kq41c => kernel_rfl)) ?_
    intro DLBent
    refine LawK.say KX (fun K => ∃ fd, LawK.Df K mg "_law_spoilt" LawK.sLSpoilt ["pool", "text"] 307 fd) (by
      refine' LawK.df_mk KX G (fun _ _ _ _ _ _ us hl => match us, hl with | [_, _], _ => rfl) ?kq42a ?kq42l ?kq42c
      (case kq42a => k_is); (case kq42l => k_is); (case kq42c => kernel_rfl)) ?_
    intro DLSpoilt
    have GL : LawK.Glob mg := ⟨mg_none_of KX G (by k_is), mg_none_of KX G (by k_is), mg_none_of KX G (by k_is), mg_none_of KX G (by k_is), mg_none_of KX G (by k_is), mg_none_of KX G (by k_is), mg_none_of KX G (by k_is), mg_none_of KX G (by k_is), mg_none_of KX G (by k_is), mg_none_of KX G (by k_is), mg_none_of KX G (by k_is), mg_none_of KX G (by k_is), mg_none_of KX G (by k_is), mg_none_of KX G (by k_is), mg_none_of KX G (by k_is), mg_none_of KX G (by k_is), mg_none_of KX G (by k_is), mg_none_of KX G (by k_is), mg_none_of KX G (by k_is), mg_none_of KX G (by k_is), mg_none_of KX G (by k_is)⟩
    refine' LawK.end_mk KX G hfa ?kq43a ?kq43l ?kq43c ?kq43b ?kq43d ?kq43e ?kq43f ?kq43g DPNumber DPSigns DPWord DPSign DQIsLot DQIsPart DPIsPattern DQMarked DQPartText DPPatText DQReadSign DQReadLot DQReadBound DQReadPart DQMayGap DPReadPat DPool DDraw DDeep DFlag DIs DPart DPattern DLNumber DLSigns DLIsPart DLIsPat DLWritten DLLot DLNumerals DLNumeral DLGap DLOne DLTold DLRead DLWord DLBent DLSpoilt EN EB CB ?kq43p (mg_none_of KX G (by k_is)) GL
    (case kq43a => k_is); (case kq43l => k_is); (case kq43c => kernel_rfl); (case kq43b => k_is); (case kq43d => k_is); (case kq43e => k_is); (case kq43f => k_is); (case kq43g => k_is); (case kq43p => k_is)
