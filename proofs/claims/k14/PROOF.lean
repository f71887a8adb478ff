import PyProof.Rows.All
import Wide.All
import OpenK.AllK
import Wide.FinOn
import HandS.ForMost
import HandS.ForExc
import PyProof.ReprRoads
import PyProof.ReprLen
import HandS.Dict
import HandS.ExcInit
import PyProof.StrBlock2
import HandS.IsInst
import HandS.Codes
import HandS.StrMore
import HandS.TupMul
import HandS.Style
import HandS.TupAny
import HandS.Zip
import KE.GoesEnum
import KE.KExcSuper
import KE.KExcMake
import HandS.ExcValue
import HandS.ExcIs
import KE.KExcIs
import HandS.ExcField
import HandS.TryMany
import HandS.TryOnly
import HandS.Base
import HandS.Call
import HandS.List
import HandS.Comp
import HandS.Set
import HandS.SetKeys
import HandS.SetBool
import HandS.SortOrd
import HandS.SortInts
import PyProof.Rows.SortStr
import HandS.Walk
import KE.SortData
import KE.DataCmp
import HandS.More
import HandS.CallLocal
import PyProof.DictStraight
import HandS.OwnEq
import HandS.DictComp
import HandS.Small
import PyProof.ListStr
import PyProof.Rows.StrRev
import HandS.SetFor
import KE.DatumIndex
import PyProof.SliceMore
import KE.KDictKeyed
import HandS.Deep
import PySem.Challenge.RW_everypiece_k14_whole_fewest_moves
set_option Elab.async false
set_option linter.all false
set_option maxRecDepth 100000
set_option maxHeartbeats 4000000
namespace LawK
/-! ### the longest rise: how long one is that ends at a number, and the least ends -/
def mx (l : List Nat) : Nat := l.foldr max 0
theorem mx_le {l : List Nat} {n : Nat} : mx l ≤ n ↔ ∀ x ∈ l, x ≤ n := by
  induction l with
  | nil => exact ⟨fun _ x h => absurd h (by simp), fun _ => Nat.zero_le _⟩
  | cons y l ih =>
    show max y (mx l) ≤ n ↔ _
    constructor
    · intro h x hx
      rcases List.mem_cons.mp hx with rfl | hx
      · omega
      · exact ih.mp (by omega) x hx
    · intro h
      have h1 := h y List.mem_cons_self
      have h2 := ih.mpr fun x hx => h x (List.mem_cons_of_mem _ hx)
      omega
theorem le_mx {l : List Nat} {x : Nat} (h : x ∈ l) : x ≤ mx l := mx_le.mp (Nat.le_refl _) x h
theorem mx_mem {l : List Nat} (h : 0 < mx l) : mx l ∈ l := by
  induction l with
  | nil => exact absurd h (Nat.lt_irrefl _)
  | cons y l ih =>
    have e : mx (y :: l) = max y (mx l) := rfl
    rw [e] at h ⊢
    by_cases c : mx l ≤ y
    · rw [Nat.max_eq_left c]
      exact List.mem_cons_self
    · rw [Nat.max_eq_right (by omega)]
      exact List.mem_cons_of_mem _ (ih (by omega))
def fs (g : Nat → Int) : Nat → List Nat
  | 0 => []
  | n + 1 => fs g n ++ [1 + mx (((List.range n).filter fun k => decide (g k < g n)).map fun k => (fs g n).getD k 0)]
def fv (g : Nat → Int) (j : Nat) : Nat := (fs g (j + 1)).getD j 0
theorem fs_len (g : Nat → Int) : ∀ n, (fs g n).length = n
  | 0 => rfl
  | n + 1 => by
    show (fs g n ++ _).length = _
    rw [List.length_append, fs_len g n]
    rfl
theorem fs_get (g : Nat → Int) : ∀ {n j : Nat}, j < n → (fs g n).getD j 0 = fv g j
  | n + 1, j, h => by
    by_cases e : j = n
    · subst e
      rfl
    · have l : j < n := by omega
      have ih := fs_get g l
      show (fs g n ++ _).getD j 0 = _
      rw [List.getD_eq_getElem?_getD, List.getElem?_append_left (by rw [fs_len]; exact l), ← List.getD_eq_getElem?_getD]
      exact ih
theorem fv_eq (g : Nat → Int) (j : Nat) : fv g j = 1 + mx (((List.range j).filter fun k => decide (g k < g j)).map (fv g)) := by
  have e : fv g j = 1 + mx (((List.range j).filter fun k => decide (g k < g j)).map fun k => (fs g j).getD k 0) := by
    show (fs g j ++ [_]).getD j 0 = _
    rw [List.getD_eq_getElem?_getD, List.getElem?_append_right (by rw [fs_len]; exact Nat.le_refl _), fs_len, Nat.sub_self]
    rfl
  rw [e]
  congr 2
  refine List.map_congr_left fun k hk => ?_
  exact fs_get g (List.mem_range.mp (List.mem_filter.mp hk).1)
theorem fs_eq (g : Nat → Int) (n : Nat) : fs g n = (List.range n).map (fv g) := by
  induction n with
  | zero => rfl
  | succ n ih =>
    have e : fs g (n + 1) = fs g n ++ [fv g n] := by
      show fs g n ++ [_] = _
      have := fv_eq g n
      rw [this]
      congr 4
      refine List.map_congr_left fun k hk => ?_
      exact fs_get g (List.mem_range.mp (List.mem_filter.mp hk).1)
    rw [e, ih, List.range_succ, List.map_append]
    rfl
theorem fv_pos (g : Nat → Int) (j : Nat) : 0 < fv g j := by
  rw [fv_eq]
  omega
theorem fv_up {g : Nat → Int} {j k : Nat} (h : k < j) (l : g k < g j) : fv g k < fv g j := by
  rw [fv_eq g j]
  have := le_mx (List.mem_map.mpr ⟨k, List.mem_filter.mpr ⟨List.mem_range.mpr h, decide_eq_true l⟩, rfl⟩ : fv g k ∈ ((List.range j).filter fun k => decide (g k < g j)).map (fv g))
  omega
theorem fv_at {g : Nat → Int} {j m : Nat} (up : ∀ k, k < j → g k < g j → fv g k ≤ m) (ex : 0 < m → ∃ k, k < j ∧ g k < g j ∧ fv g k = m) : fv g j = m + 1 := by
  rw [fv_eq]
  have h1 : mx (((List.range j).filter fun k => decide (g k < g j)).map (fv g)) ≤ m := mx_le.mpr fun x hx => by
    obtain ⟨k, hk, rfl⟩ := List.mem_map.mp hx
    obtain ⟨hk, l⟩ := List.mem_filter.mp hk
    exact up k (List.mem_range.mp hk) (of_decide_eq_true l)
  have h2 : m ≤ mx (((List.range j).filter fun k => decide (g k < g j)).map (fv g)) := by
    by_cases z : 0 < m
    · obtain ⟨k, h, l, e⟩ := ex z
      rw [← e]
      exact le_mx (List.mem_map.mpr ⟨k, List.mem_filter.mpr ⟨List.mem_range.mpr h, decide_eq_true l⟩, rfl⟩)
    · omega
  omega
/-- how many of the ascending ends are less -/
def bel (L : List Int) (x : Int) : Nat := (L.filter fun y => decide (y < x)).length
theorem bel_le (L : List Int) (x : Int) : bel L x ≤ L.length := List.length_filter_le _ _
theorem bel_iff : ∀ {L : List Int}, L.Pairwise (· < ·) → ∀ (x : Int) {p : Nat} {y : Int}, L[p]? = some y → (y < x ↔ p < bel L x)
  | [], _, x, p, y, h => by simp at h
  | z :: L, hp, x, p, y, h => by
    obtain ⟨h1, h2⟩ := List.pairwise_cons.mp hp
    unfold bel
    by_cases c : z < x
    · rw [List.filter_cons, if_pos (decide_eq_true c), List.length_cons]
      cases p with
      | zero =>
        cases h
        exact ⟨fun _ => Nat.succ_pos _, fun _ => c⟩
      | succ p =>
        have := bel_iff h2 x (p := p) (y := y) (by simpa using h)
        rw [this]
        unfold bel
        omega
    · have nil : (L.filter fun y => decide (y < x)) = [] := by
        refine List.filter_eq_nil_iff.mpr fun y hy => ?_
        have := h1 y hy
        rw [decide_eq_true_eq]
        omega
      rw [List.filter_cons, if_neg (by rw [decide_eq_true_eq]; exact c), nil]
      refine ⟨fun l => ?_, fun l => absurd l (by simp)⟩
      cases p with
      | zero =>
        cases h
        exact absurd l c
      | succ p =>
        have h' : L[p]? = some y := by simpa using h
        have := h1 y (List.mem_of_getElem? h')
        omega
/-- what stands when i numbers have been laid -/
structure Laid (g : Nat → Int) (i : Nat) (least : List Int) (last : List Nat) (ahead : List (Option Nat)) : Prop where
  len : last.length = least.length
  la : ahead.length = i
  asc : least.Pairwise (· < ·)
  at_ : ∀ (m : Nat) (j : Nat), last[m]? = some j → j < i ∧ least[m]? = some (g j) ∧ fv g j = m + 1
  up : ∀ j, j < i → ∃ y, least[fv g j - 1]? = some y ∧ y ≤ g j
  ah : ∀ (j : Nat) (o : Option Nat), ahead[j]? = some o → match o with
    | none => fv g j = 1
    | some k => k < j ∧ g k < g j ∧ fv g k + 1 = fv g j
theorem Laid.nil (g : Nat → Int) : Laid g 0 [] [] [] := ⟨rfl, rfl, .nil, fun m j h => by simp at h, fun j h => absurd h (Nat.not_lt_zero _), fun j o h => by simp at h⟩
theorem Laid.fvi {g : Nat → Int} {i : Nat} {least : List Int} {last : List Nat} {ahead : List (Option Nat)} (h : Laid g i least last ahead) : fv g i = bel least (g i) + 1 := by
  refine fv_at (fun k hk l => ?_) (fun z => ?_)
  · obtain ⟨y, hy, le⟩ := h.up k hk
    have := (bel_iff h.asc (g i) hy).mp (by omega)
    have := fv_pos g k
    omega
  · have l := bel_le least (g i)
    have hm : bel least (g i) - 1 < last.length := by rw [h.len]; omega
    have e := List.getElem?_eq_getElem hm
    obtain ⟨h1, h2, h3⟩ := h.at_ _ _ e
    refine ⟨last[bel least (g i) - 1], h1, (bel_iff h.asc (g i) h2).mpr (by omega), by omega⟩
def spl {α : Type} (L : List α) (m : Nat) (x : α) : List α := L.take m ++ [x] ++ L.drop (m + 1)
theorem spl_get {α : Type} {L : List α} {m : Nat} {x : α} (h : m ≤ L.length) (p : Nat) : (spl L m x)[p]? = if p = m then some x else L[p]? := by
  unfold spl
  by_cases e : p = m
  · subst e
    rw [if_pos rfl, List.append_assoc, List.getElem?_append_right (by rw [List.length_take]; omega), List.length_take, Nat.min_eq_left h, Nat.sub_self]
    rfl
  · rw [if_neg e]
    by_cases l : p < m
    · rw [List.append_assoc, List.getElem?_append_left (by rw [List.length_take]; omega), List.getElem?_take_of_lt l]
    · rw [List.getElem?_append_right (by rw [List.length_append, List.length_take, List.length_singleton]; omega), List.length_append, List.length_take, List.length_singleton, Nat.min_eq_left h, List.getElem?_drop]
      congr 1
      omega
theorem spl_len {α : Type} {L : List α} {m : Nat} {x : α} (h : m ≤ L.length) : (spl L m x).length = max L.length (m + 1) := by
  unfold spl
  rw [List.length_append, List.length_append, List.length_take, List.length_drop, List.length_singleton]
  omega
theorem asc_iff {L : List Int} : L.Pairwise (· < ·) ↔ ∀ (p q : Nat) x y, p < q → L[p]? = some x → L[q]? = some y → x < y := by
  rw [List.pairwise_iff_getElem]
  constructor
  · intro h p q x y l hp hq
    obtain ⟨h1, e1⟩ := List.getElem?_eq_some_iff.mp hp
    obtain ⟨h2, e2⟩ := List.getElem?_eq_some_iff.mp hq
    rw [← e1, ← e2]
    exact h p q h1 h2 l
  · intro h p q h1 h2 l
    exact h p q _ _ l (List.getElem?_eq_getElem h1) (List.getElem?_eq_getElem h2)
/-- where the next number's rise comes from -/
def frm (last : List Nat) (m : Nat) : Option Nat := if 0 < m then last[m - 1]? else none
theorem Laid.step {g : Nat → Int} {i : Nat} {least : List Int} {last : List Nat} {ahead : List (Option Nat)} (h : Laid g i least last ahead) :
    Laid g (i + 1) (spl least (bel least (g i)) (g i)) (spl last (bel least (g i)) i) (ahead ++ [frm last (bel least (g i))]) := by
  have hf := h.fvi
  have hm := bel_le least (g i)
  have hm2 : bel least (g i) ≤ last.length := by rw [h.len]; exact hm
  have lo := fun {p : Nat} {y : Int} (e : least[p]? = some y) => bel_iff h.asc (g i) e
  have asc := asc_iff.mp h.asc
  generalize bel least (g i) = m at hf hm hm2 lo ⊢
  refine ⟨by rw [spl_len hm, spl_len hm2, h.len], by rw [List.length_append, h.la]; rfl, asc_iff.mpr fun p q x y l hp hq => ?_, fun p j hp => ?_, fun j hj => ?_, fun j o ho => ?_⟩
  · rw [spl_get hm] at hp hq
    by_cases e1 : p = m
    · rw [if_pos e1] at hp
      rw [if_neg (by omega)] at hq
      cases hp
      have hl : m < least.length := by
        have := (List.getElem?_eq_some_iff.mp hq).1
        omega
      have hy := List.getElem?_eq_getElem hl
      have h1 := lo hy
      have h2 := asc m q _ _ (by omega) hy hq
      omega
    · rw [if_neg e1] at hp
      by_cases e2 : q = m
      · rw [if_pos e2] at hq
        cases hq
        exact (lo hp).mpr (by omega)
      · rw [if_neg e2] at hq
        exact asc p q x y l hp hq
  · rw [spl_get hm2] at hp
    rw [spl_get hm]
    by_cases e : p = m
    · rw [if_pos e] at hp ⊢
      cases hp
      exact ⟨Nat.lt_succ_self _, rfl, by omega⟩
    · rw [if_neg e] at hp ⊢
      obtain ⟨h1, h2, h3⟩ := h.at_ p j hp
      exact ⟨by omega, h2, h3⟩
  · rw [spl_get hm]
    by_cases e : j = i
    · subst e
      exact ⟨g j, if_pos (by omega), Int.le_refl _⟩
    · obtain ⟨y, hy, le⟩ := h.up j (by omega)
      by_cases e2 : fv g j - 1 = m
      · rw [if_pos e2]
        rw [e2] at hy
        have := lo hy
        exact ⟨g i, rfl, by omega⟩
      · rw [if_neg e2]
        exact ⟨y, hy, le⟩
  · by_cases l : j < ahead.length
    · rw [List.getElem?_append_left l] at ho
      exact h.ah j o ho
    · rw [List.getElem?_append_right (by omega)] at ho
      have e : j = i := by
        have := (List.getElem?_eq_some_iff.mp ho).1
        rw [List.length_singleton] at this
        have := h.la
        omega
      subst e
      rw [h.la, Nat.sub_self] at ho
      have ho : frm last m = o := Option.some.inj ho
      subst ho
      unfold frm
      by_cases z : 0 < m
      · rw [if_pos z]
        have hl : m - 1 < last.length := by omega
        rw [List.getElem?_eq_getElem hl]
        obtain ⟨h1, h2, h3⟩ := h.at_ _ _ (List.getElem?_eq_getElem hl)
        exact ⟨h1, (lo h2).mpr (by omega), by omega⟩
      · rw [if_neg z]
        show fv g j = 1
        omega
/-- how long the longest rise is -/
def most (g : Nat → Int) (n : Nat) : Nat := mx ((List.range n).map (fv g))
theorem Laid.top {g : Nat → Int} {i : Nat} {least : List Int} {last : List Nat} {ahead : List (Option Nat)} (h : Laid g i least last ahead) : last.length = most g i := by
  unfold LawK.most
  refine Nat.le_antisymm ?_ (mx_le.mpr fun x hx => ?_)
  · by_cases z : 0 < last.length
    · have hl : last.length - 1 < last.length := by omega
      obtain ⟨h1, h2, h3⟩ := h.at_ _ _ (List.getElem?_eq_getElem hl)
      have : fv g last[last.length - 1] ≤ _ := le_mx (List.mem_map.mpr ⟨_, List.mem_range.mpr h1, rfl⟩)
      omega
    · omega
  · obtain ⟨j, hj, rfl⟩ := List.mem_map.mp hx
    obtain ⟨y, hy, -⟩ := h.up j (List.mem_range.mp hj)
    have := (List.getElem?_eq_some_iff.mp hy).1
    have := fv_pos g j
    rw [h.len]
    omega
/-- a rise: numbers of places, that ascend and whose numbers ascend -/
structure Rise (g : Nat → Int) (n : Nat) (ix : List Nat) : Prop where
  inn : ∀ j ∈ ix, j < n
  up : ix.Pairwise fun j k => j < k ∧ g j < g k
/-- the walk back from a place -/
structure Back (g : Nat → Int) (n : Nat) (found : List Nat) (o : Option Nat) (L : Nat) : Prop where
  rise : Rise g n found.reverse
  len : found.length + (match o with | none => 0 | some j => fv g j) = L
  lt : ∀ j, o = some j → j < n ∧ ∀ k ∈ found, j < k ∧ g j < g k
theorem Back.start {g : Nat → Int} {i : Nat} {least : List Int} {last : List Nat} {ahead : List (Option Nat)} (h : Laid g i least last ahead) : Back g i [] last.getLast? last.length := by
  refine ⟨⟨fun j hj => absurd hj (by simp), .nil⟩, ?_, fun j hj => ⟨?_, fun k hk => absurd hk (by simp)⟩⟩
  · rw [List.getLast?_eq_getElem?]
    by_cases z : 0 < last.length
    · have hl : last.length - 1 < last.length := by omega
      rw [List.getElem?_eq_getElem hl]
      obtain ⟨h1, h2, h3⟩ := h.at_ _ _ (List.getElem?_eq_getElem hl)
      show 0 + fv g _ = _
      omega
    · rw [List.getElem?_eq_none (by omega)]
      show 0 + 0 = _
      omega
  · rw [List.getLast?_eq_getElem?] at hj
    exact (h.at_ _ _ hj).1
theorem Back.next {g : Nat → Int} {i : Nat} {least : List Int} {last : List Nat} {ahead : List (Option Nat)} (h : Laid g i least last ahead) {found : List Nat} {j L : Nat} {o : Option Nat} (b : Back g i found (some j) L) (ho : ahead[j]? = some o) : Back g i (found ++ [j]) o L := by
  obtain ⟨hj, hk⟩ := b.lt j rfl
  have hl := b.len
  have ha := h.ah j o ho
  have hl : found.length + fv g j = L := hl
  refine ⟨⟨fun k hm => ?_, ?_⟩, ?_, fun k e => ?_⟩
  · rw [List.reverse_append] at hm
    rcases List.mem_append.mp hm with m | m
    · have e : k = j := by simpa using m
      rw [e]
      exact hj
    · exact b.rise.inn k m
  · rw [List.reverse_append]
    refine List.pairwise_append.mpr ⟨by simp, b.rise.up, fun x hx y hy => ?_⟩
    have : x = j := by simpa using hx
    rw [this]
    exact hk y (List.mem_reverse.mp hy)
  · rw [List.length_append, List.length_singleton]
    cases o with
    | none =>
      have ha : fv g j = 1 := ha
      show found.length + 1 + 0 = L
      omega
    | some k =>
      have ha : k < j ∧ g k < g j ∧ fv g k + 1 = fv g j := ha
      show found.length + 1 + fv g k = L
      omega
  · subst e
    obtain ⟨h1, h2, h3⟩ := ha
    refine ⟨by omega, fun q hq => ?_⟩
    rcases List.mem_append.mp hq with m | m
    · obtain ⟨a, b⟩ := hk q m
      exact ⟨by omega, by omega⟩
    · rw [List.mem_singleton.mp m]
      exact ⟨h1, h2⟩
end LawK
set_option maxHeartbeats 4000000
/-! repr of nested data that the law has made. -/
namespace Ev
open PySem PySem.Spec PyProof.Rows L2

/-- a display of a list; its place is not the table of modules -/
def tLstN (t : TA) : TE := fun σ H Q => t σ H fun xs H1 => xs.length ≤ sizeLine ∧ ∀ p, H1 p = none → p ≠ sysModules → Q (.ref p) (upd H1 p (.lst xs))
theorem pe_lstN {X : Cx} {es : List Expr} {pos : Pos} {t : TA} (h : PA X es t) : PE X (.List es pos) (tLstN t) := by
  refine ⟨fun pins s σ H Q I hq => ?_⟩
  refine wpAny_List_spliced (thn (h.run pos pins s σ H _ I hq) fun us s1 hh => ?_)
  obtain ⟨xs, H1, I1, r, z, q⟩ := hh
  have hf : H1 s1.heap.objs.size = none := I1.hok.fresh (Nat.le_refl _)
  refine ⟨by rw [← r.length]; exact z, .ref s1.heap.objs.size, upd H1 s1.heap.objs.size (.lst xs), I1.laid (t' := s1.toks) (o := .lst xs) (fun b u e => Heap.get?_push_of_some _ e) (Nat.le_refl _) ⟨z, us, 0, r, Heap.get?_push_size _ rfl⟩, rfl, q _ hf (Ne.symm (Nat.ne_of_lt I1.big))⟩

/-- the datum d is told by v -/
inductive Dt (H : Hp) : V → PyData → Prop
  | non : Dt H .non .none
  | bl (b : Bool) : Dt H (.bl b) (.bool b)
  | int (i : Int) : Dt H (.int i) (.int i)
  | str (x : Str) : Dt H (.str x) (.str x)
  | dic {a : Addr} : H a = some (.dK []) → Dt H (.ref a) (.dict [])
  | l0 {a : Addr} : H a = some (.lst []) → a ≠ sysModules → Dt H (.ref a) (.list [])
  | l1 {a : Addr} {x : V} {d : PyData} : H a = some (.lst [x]) → a ≠ sysModules → Dt H x d → Dt H (.ref a) (.list [d])
  | l2 {a : Addr} {x y : V} {d e : PyData} : H a = some (.lst [x, y]) → a ≠ sysModules → Dt H x d → Dt H y e → Dt H (.ref a) (.list [d, e])
  | t0 {a : Addr} : H a = some (.tup []) → Dt H (.ref a) (.tuple [])
  | t1 {a : Addr} {x : V} {d : PyData} : H a = some (.tup [x]) → Dt H x d → Dt H (.ref a) (.tuple [d])
  | t2 {a : Addr} {x y : V} {d e : PyData} : H a = some (.tup [x, y]) → Dt H x d → Dt H y e → Dt H (.ref a) (.tuple [d, e])
theorem Dt.keep {H H' : Hp} {v : V} {d : PyData} (h : Dt H v d) (k : ∀ b o, H b = some o → H' b = some o) : Dt H' v d := by
  induction h with
  | non => exact .non
  | bl b => exact .bl b
  | int i => exact .int i
  | str x => exact .str x
  | dic e => exact .dic (k _ _ e)
  | l0 e n => exact .l0 (k _ _ e) n
  | l1 e n _ ih => exact .l1 (k _ _ e) n ih
  | l2 e n _ _ i1 i2 => exact .l2 (k _ _ e) n i1 i2
  | t0 e => exact .t0 (k _ _ e)
  | t1 e _ ih => exact .t1 (k _ _ e) ih
  | t2 e _ _ i1 i2 => exact .t2 (k _ _ e) i1 i2
section
variable {X : Cx} {pins : List (Addr × Obj)} {σ : L2.St} {H : Hp} {s : Shared}
theorem lst_at (I : L2.Inv X pins σ H s) {a : Addr} {xs : List V} (h : H a = some (.lst xs)) : ∃ (its : List Value) (n : Nat), Vals xs its ∧ s.heap.get? a = some { cls := .type "list", data := .seq its.toArray n } := by
  obtain ⟨_, its, n, r, e⟩ := (show ObjOk X.prog X.w H s.heap a (.lst xs) from I.hok a _ h)
  exact ⟨its, n, r, e⟩
theorem tup_at (I : L2.Inv X pins σ H s) {a : Addr} {xs : List V} (h : H a = some (.tup xs)) : ∃ (its : List Value) (o : Obj) (n : Nat), Vals xs its ∧ s.heap.get? a = some o ∧ o.cls = .type "tuple" ∧ o.data = .seq its.toArray n := by
  obtain ⟨_, its, r, o, e, c, n, d⟩ := (show ObjOk X.prog X.w H s.heap a (.tup xs) from I.hok a _ h)
  exact ⟨its, o, n, r, e, c, d⟩
theorem Dt.reads (I : L2.Inv X pins σ H s) {v : V} {d : PyData} (h : Dt H v d) : ∀ {u : Value}, RelV v u → ∃ as, Reads s.heap u d as ∧ sysModules ∉ as := by
  induction h with
  | non => intro u r; cases r; exact ⟨_, .none, by simp⟩
  | bl b => intro u r; cases r; exact ⟨_, .bool b, by simp⟩
  | int i => intro u r; obtain ⟨t, rfl⟩ := r; exact ⟨_, .int i t, by simp⟩
  | str x => intro u r; obtain ⟨t, rfl⟩ := r; exact ⟨_, .str x t, by simp⟩
  | @dic a e =>
    intro u r
    cases r
    obtain ⟨_, hs, vs, kv, o, es, ep, ho, hx, hd, hk, hp, _⟩ := (show ObjOk X.prog X.w H s.heap a (.dK []) from I.hok a _ e)
    cases kv
    have he : es.toList = [] := by
      generalize es.toList = l at hp
      cases hp
      rfl
    refine ⟨a :: [] ++ [], .dict (as := []) (bs := []) ho hx.1 hd ?_ ?_, ?_⟩
    · rw [he]; exact .nil
    · rw [he]; exact .nil
    · have : a ≠ sysModules := by simpa using hs
      simp [Ne.symm this]
  | @l0 a e n =>
    intro u r
    cases r
    obtain ⟨its, m, rv, ho⟩ := lst_at I e
    cases rv
    exact ⟨_, .list ho rfl rfl .nil, by simp [Ne.symm n]⟩
  | @l1 a x d e n hx ih =>
    intro u r
    cases r
    obtain ⟨its, m, rv, ho⟩ := lst_at I e
    cases rv with
    | cons r1 rr =>
      cases rr
      obtain ⟨as, q, nq⟩ := ih r1
      exact ⟨_, .list ho rfl rfl (.cons q .nil), by simp [Ne.symm n, nq]⟩
  | @l2 a x y d e2 e n hx hy ih1 ih2 =>
    intro u r
    cases r
    obtain ⟨its, m, rv, ho⟩ := lst_at I e
    cases rv with
    | cons r1 rr =>
      cases rr with
      | cons r2 rr =>
        cases rr
        obtain ⟨as, q, nq⟩ := ih1 r1
        obtain ⟨bs, q2, nq2⟩ := ih2 r2
        exact ⟨_, .list ho rfl rfl (.cons q (.cons q2 .nil)), by simp [Ne.symm n, nq, nq2]⟩
  | @t0 a e =>
    intro u r
    cases r
    obtain ⟨its, o, m, rv, ho, hc, hd⟩ := tup_at I e
    cases rv
    exact ⟨_, .tuple ho hc hd .nil, by simp⟩
  | @t1 a x d e hx ih =>
    intro u r
    cases r
    obtain ⟨its, o, m, rv, ho, hc, hd⟩ := tup_at I e
    cases rv with
    | cons r1 rr =>
      cases rr
      obtain ⟨as, q, nq⟩ := ih r1
      exact ⟨_, .tuple ho hc hd (.cons q .nil), by simp [nq]⟩
  | @t2 a x y d e2 e hx hy ih1 ih2 =>
    intro u r
    cases r
    obtain ⟨its, o, m, rv, ho, hc, hd⟩ := tup_at I e
    cases rv with
    | cons r1 rr =>
      cases rr with
      | cons r2 rr =>
        cases rr
        obtain ⟨as, q, nq⟩ := ih1 r1
        obtain ⟨bs, q2, nq2⟩ := ih2 r2
        exact ⟨_, .tuple ho hc hd (.cons q (.cons q2 .nil)), by simp [nq, nq2]⟩
end
/-- repr(x), x a datum of small depth and size -/
def rRepr : List V → Hp → VK → Prop := fun xs H Q => ∃ (x : V) (d : PyData), xs = [x] ∧ Dt H x d ∧ d.showable = true ∧ d.depth ≤ 100 ∧ d.shown.length ≤ 100000 ∧ Q (.str d.shown) H
theorem call_repr {X : Cx} {k : Nat} (hg : X.A.guards = some []) (hr : Room k X.A) : CallR X (.builtin "repr") rRepr := by
  intro pins s σ H xs us Q I r h
  obtain ⟨x, d, rfl, hd, hs, hdp, hz, q⟩ := h
  obtain ⟨u, rfl, ru⟩ := vals1 r
  have hz' : d.shown.length ≤ sizeLine := Nat.le_trans hz (by decide)
  obtain ⟨as, rd, ns⟩ := hd.reads I ru
  have hu : X.A.units + (d.depth + 1) < cLine := by have := hr.un; omega
  have viaRef : ∀ a, u = .ref a → wpAny (model X.prog X.w) X.A (call (.builtin "repr") [u]) (EP X pins σ Q) X.xe s := fun a e => by
    subst e
    exact repr_of_reads' rd hs (fun _ => ns) hg hu (fun _ _ e => e) (fun h' u tk k => ⟨.str d.shown, H, I.kept k, ⟨_, rfl⟩, q⟩) hz'
  cases hd with
  | non => cases ru; exact PySem.P.repr_of_none ⟨.str _, H, I.tok _, ⟨_, rfl⟩, by simpa only [PyData.shown] using q⟩
  | bl b => cases ru; exact PySem.P.repr_of_bool ⟨.str _, H, I.tok _, ⟨_, rfl⟩, by simpa only [PyData.shown] using q⟩
  | int i => obtain ⟨t, rfl⟩ := ru; exact PySem.P.repr_of_int (by simpa [PyData.showable] using hs) ⟨.str _, H, I.tok _, ⟨_, rfl⟩, by simpa only [PyData.shown] using q⟩
  | str x => obtain ⟨t, rfl⟩ := ru; exact PySem.P.repr_of_str ⟨.str _, H, I.tok _, ⟨_, rfl⟩, by simpa only [PyData.shown] using q⟩ (by simpa only [PyData.shown] using hz')
  | dic e => exact viaRef _ ru
  | l0 e n => exact viaRef _ ru
  | l1 e n h1 => exact viaRef _ ru
  | l2 e n h1 h2 => exact viaRef _ ru
  | t0 e => exact viaRef _ ru
  | t1 e h1 => exact viaRef _ ru
  | t2 e h1 h2 => exact viaRef _ ru
/-- what is told of a datum: it may be shown, so deep, so long -/
def Small (d : PyData) (n m : Nat) : Prop := d.showable = true ∧ d.depth ≤ n ∧ d.shown.length ≤ m
theorem int_len {k : Int} (hk : 0 ≤ k ∧ k < 100) : (PyData.shown (.int k)).length ≤ 3 := by
  have e : (toString k).length ≤ 2 + 1 := int_text_length_le10 (by decide) (by omega)
  simp only [PyData.shown]
  rw [PySem.ofString_length]
  exact e
theorem int_show {k : Int} (hk : 0 ≤ k ∧ k < 100) : k.natAbs.log2 < 1920 := by
  have := Nat.log2_le_self k.natAbs
  omega
theorem small_tup {d : PyData} {n m : Nat} {k : Int} (h : Small d n m) (hk : 0 ≤ k ∧ k < 100) : Small (.tuple [d, .int k]) (n + 1) (m + 10) := by
  obtain ⟨h1, h2, h3⟩ := h
  refine ⟨by simp [PyData.showable, PyData.showableAll, h1, int_show hk], by simp only [PyData.depth, PyData.depthAll]; omega, ?_⟩
  have e := tupleText_len_le (PyData.shownAll [d, .int k])
  have e2 := int_len hk
  simp only [PyData.shownAll, List.map_cons, List.map_nil, List.sum_cons, List.sum_nil, List.length_cons, List.length_nil] at e
  show (tupleText (PyData.shownAll [d, .int k])).length ≤ m + 10
  simp only [PyData.shownAll]
  omega
theorem small_lst {d : PyData} {n m : Nat} {k : Int} (h : Small d n m) (hk : 0 ≤ k ∧ k < 100) : Small (.list [.int k, d]) (n + 1) (m + 10) := by
  obtain ⟨h1, h2, h3⟩ := h
  refine ⟨by simp [PyData.showable, PyData.showableAll, h1, int_show hk], by simp only [PyData.depth, PyData.depthAll]; omega, ?_⟩
  have e := listText_len_le (PyData.shownAll [.int k, d])
  have e2 := int_len hk
  simp only [PyData.shownAll, List.map_cons, List.map_nil, List.sum_cons, List.sum_nil, List.length_cons, List.length_nil] at e
  show (listText (PyData.shownAll [.int k, d])).length ≤ m + 10
  simp only [PyData.shownAll]
  omega
theorem Small.mono {d : PyData} {n m n' m' : Nat} (h : Small d n m) (h1 : n ≤ n') (h2 : m ≤ m') : Small d n' m' := ⟨h.1, Nat.le_trans h.2.1 h1, Nat.le_trans h.2.2 h2⟩
end Ev
set_option maxHeartbeats 4000000
namespace LawK
open PySem PySem.Spec PyProof.Rows L2 Ev

def topS (i : Nat) : Stmt := PySem.Challenge.pw_everypiece_k14_whole_fewest_moves.main.body.getD i (.Pass ⟨0, 0, 0, 0⟩)
abbrev sHand : Stmt := topS 43
theorem scHand : FnScope ["script", "cell"] ["script"] (defScope sHand) := ⟨rfl, rfl, rfl, by decide +kernel, rfl, by decide +kernel, by decide +kernel⟩
abbrev sDraw : Stmt := topS 44
theorem scDraw : FnScope ["hand", "many", "cell", "digit", "number"] ["hand", "many"] (defScope sDraw) := ⟨rfl, rfl, rfl, by decide +kernel, rfl, by decide +kernel, by decide +kernel⟩
/-! ### the hand of a law: what is left of the script, and a seed -/
def HandL (H : Hp) (p l : Addr) : Prop := ∃ (cells : List Int) (i r s n : Int), H p = some (.lst [.ref l, .int i, .int r, .int s, .int n]) ∧ H l = some (.lst (cells.map V.int)) ∧ l ≠ p ∧ 0 ≤ i ∧ 0 ≤ s ∧ s < 2147483647
/-- nothing but the hand at p has changed -/
def But (p : Addr) (H H' : Hp) : Prop := ∀ b o, b ≠ p → H b = some o → H' b = some o
theorem But.refl (p : Addr) (H : Hp) : But p H H := fun _ _ _ h => h
theorem But.trans {p : Addr} {H H1 H2 : Hp} (a : But p H H1) (b : But p H1 H2) : But p H H2 := fun c o n h => b c o n (a c o n h)
theorem But.new {p q : Addr} {H H1 : Hp} {o : HO} (a : But p H H1) (h : H1 q = none) : But p H (upd H1 q o) := fun c u n e => by
  have z := a c u n e
  rw [upd_ne (ne_of_none z h)]
  exact z
theorem But.same {p : Addr} {H H' : Hp} (a : Same H H') : But p H H' := fun c o _ e => a c o e
def spDraw : Sp := fun vs H Q _ => ∃ (p : Addr) (m : Int), vs = [.ref p, .int m] ∧ 0 < m ∧ m < 1000000 ∧ ∃ l, HandL H p l ∧ ∀ v H', 0 ≤ v → v < m → HandL H' p l → But p H H' → Q (.int v) H'
def spHand (K : PySem.W.Frag) : Sp := fun vs H Q _ => ∃ (a : Addr) (ns : List Int), vs = [.ref a] ∧ SqL K H a (ns.map V.int) ∧ ∀ p l H', H p = none → H l = none → HandL H' p l → Same H H' → Q (.ref p) H'
structure Glob (mg : Str → Option Value) : Prop where
  abs : mg "abs" = none
  any : mg "any" = none
  repr : mg "repr" = none
  reversed : mg "reversed" = none
  len : mg "len" = none
  int : mg "int" = none
  list : mg "list" = none
  range : mg "range" = none
  isinstance : mg "isinstance" = none
  bool : mg "bool" = none
  str : mg "str" = none
  tuple : mg "tuple" = none
  sum : mg "sum" = none
  ord : mg "ord" = none
  zip : mg "zip" = none
  max : mg "max" = none
  min : mg "min" = none
  all : mg "all" = none
  enumerate : mg "enumerate" = none
  sorted : mg "sorted" = none

theorem sq_of {K : PySem.W.Frag} {H : Hp} {a : Addr} {xs : List V} (h : H a = some (.lst xs)) : SqL K H a xs := .inl (.inl h)
theorem atI_in {α : Type} {xs : List α} {i : Int} (h0 : 0 ≤ i) (h1 : i < xs.length) : ∃ v, atI xs i = some v ∧ v ∈ xs := by
  obtain ⟨j, rfl⟩ := Int.eq_ofNat_of_zero_le h0
  have hj : j < xs.length := by omega
  exact ⟨xs[j], atI_nat (by rw [List.getElem?_eq_getElem hj]), List.getElem_mem hj⟩
theorem atI_int {xs : List Int} {i : Int} (h0 : 0 ≤ i) (h1 : i < xs.length) : ∃ c : Int, atI (xs.map V.int) i = some (.int c) := by
  obtain ⟨v, e, hm⟩ := atI_in (xs := xs.map V.int) h0 (by rw [List.length_map]; exact h1)
  obtain ⟨c, _, rfl⟩ := List.mem_map.mp hm
  exact ⟨c, e⟩
theorem sqSame {K : PySem.W.Frag} {H H' : Hp} {a : Addr} {xs : List V} (h : SqL K H a xs) (k : Same H H') : SqL K H' a xs := by
  rcases h with (h | ⟨o, h⟩) | h
  · exact .inl (.inl (k _ _ h))
  · exact .inl (.inr ⟨o, k _ _ h⟩)
  · exact .inr h
theorem Same.new {H : Hp} {q : Addr} {o : HO} (h : H q = none) : Same H (upd H q o) := fun b u e => by
  rw [upd_ne (ne_of_none e h)]
  exact e
theorem sameAt {H H' : Hp} {q : Addr} {o : HO} (k : Same H H') (h : H q = none) : Same H (upd H' q o) := fun b u e => by
  rw [upd_ne (ne_of_none e h)]
  exact k b u e
theorem Same.free {H H' : Hp} (k : Same H H') {a : Addr} (h : H' a = none) : H a = none := by
  cases e : H a with
  | none => rfl
  | some o =>
    rw [k _ _ e] at h
    cases h
theorem cells_cut {ns : List Int} {h : Option Int} : ∃ ms : List Int, cutV (ns.map V.int) none h = ms.map V.int ∧ ms.length ≤ ns.length := by
  refine ⟨(ns.drop (HT.sIx (ns.map V.int).length 0 none)).take (HT.sIx (ns.map V.int).length (ns.map V.int).length h - HT.sIx (ns.map V.int).length 0 none), ?_, ?_⟩
  · show ((ns.map V.int).drop _).take _ = _
    rw [← List.map_drop, ← List.map_take]
  · rw [List.length_take, List.length_drop]
    omega
theorem PSs.imp {X : Cx} {st : List Stmt} {t u : TS} (h : PSs X st u) (k : ∀ D σ H, t D σ H → u D σ H) : PSs X st t := ⟨fun pins s σ H D I q => h.run pins s σ H D I (k D σ H q)⟩
theorem PE.imp {X : Cx} {e : Expr} {t u : TE} (h : PE X e u) (k : ∀ σ H Q, t σ H Q → u σ H Q) : PE X e t := ⟨fun pins s σ H Q I q => h.run pins s σ H Q I (k σ H Q q)⟩
theorem PS.imp {X : Cx} {st : Stmt} {t u : TS} (h : PS X st u) (k : ∀ D σ H, t D σ H → u D σ H) : PS X st t := ⟨fun pins s σ H D I q => h.run pins s σ H D I (k D σ H q)⟩
def tTail : TS := fun D σ H => ∃ (p : Addr) (m : Int) (l : Addr) (cells : List Int) (i r s n : Int) (c f x : Option V), σ = [some (.ref p), some (.int m), c, f, x] ∧ 0 < m ∧ m < 1000000 ∧ H p = some (.lst [.ref l, .int i, .int r, .int s, .int n]) ∧ H l = some (.lst (cells.map V.int)) ∧ l ≠ p ∧ 0 ≤ i ∧ 0 ≤ s ∧ s < 2147483647 ∧
  ∀ v H', 0 ≤ v → v < m → HandL H' p l → But p H H' → D.rt (.int v) H'
theorem HandL.mk {H : Hp} {p l : Addr} {cells : List Int} {i r s n : Int} (hp : H p = some (.lst [.ref l, .int i, .int r, .int s, .int n])) (hl : H l = some (.lst (cells.map V.int))) (n0 : l ≠ p) (h1 : 0 ≤ i) (h2 : 0 ≤ s) (h3 : s < 2147483647) : HandL H p l := ⟨cells, i, r, s, n, hp, hl, n0, h1, h2, h3⟩
theorem but_upd {p : Addr} {H : Hp} {o : HO} : But p H (upd H p o) := fun b u n e => by
  rw [upd_ne n]
  exact e
theorem boot_ty_int : bootBuiltins "int" = some (.type "int") := by decide +kernel
section
variable {P : Program} {w : World} {K : PySem.W.Frag} {mg : Str → Option Value} {base : Heap}

theorem ok_Hand {f : Addr} {fd : FuncData} (F : Fun K "_law_hand" "_law_hand" sHand f fd) (T : Glob mg) : FnOk P w K mg base CX0 1 f fd ["script"] (spHand K) := by
  refine F.ok scHand (fun vs H Q E h => ?_) (fun cdv A outer s H vs Q E hr h => ?_)
  · obtain ⟨a, ns, rfl, _⟩ := h
    rfl
  · obtain ⟨a, ns, rfl, hS, q⟩ := h
    refine ⟨_, (pss_one (ps_ret (pe_lst (pa_cons (pe_lc (own := [("cell", 1)]) (g := gName 1) (by rfl) scHand.nd (pi_list (pe_slice sl_list (pv 0) po_none (po_some pe_int))) (blkOk_by (N := ["script", "cell"]) (sc := defScope sHand) (by decide +kernel)) (fun _ _ _ _ _ => pg_name (i := 1) scHand.nd rfl (.inl rfl)) (fun _ _ _ _ _ => pts_nil) (fun _ _ _ _ _ => (pe_callTy call_int1 (by rfl) T.int boot_ty_int (pa_cons (pv 1) pa_nil)))) (pa_cons pe_int (pa_cons pe_int (pa_cons (pe_op op_add pe_int (pe_callB call_len_seq (by rfl) T.len PySem.boot_len (pa_cons (pe_slice sl_list (pv 0) po_none (po_some pe_int)) pa_nil))) (pa_cons pe_int pa_nil)))))))), ?_⟩
    obtain ⟨ms, ec, lm⟩ := cells_cut (ns := ns) (h := some 63)
    have lc : (cutV (ns.map V.int) none (some (63 : Int))).length ≤ 63 := by
      show (((ns.map V.int).drop _).take _).length ≤ 63
      rw [List.length_take]
      have : HT.sIx (ns.map V.int).length (ns.map V.int).length (some (63 : Int)) ≤ 63 := Nat.min_le_left _ _
      omega
    refine ⟨.ref a, rfl, 63, rfl, a, _, rfl, hS, fun c nc => ?_⟩
    rw [ec]
    rw [ec, List.length_map] at lc
    have kc := Same.new (o := .lst (ms.map V.int)) nc
    have hc : upd H c (.lst (ms.map V.int)) c = some (.lst (ms.map V.int)) := upd_same
    revert kc hc
    generalize upd H c (.lst (ms.map V.int)) = H1
    intro kc hc
    refine ⟨c, rfl, ⟨_, sq_of hc⟩, fun l nl => lc_list (xs := ms.map V.int) (fun i H' => Same H1 H' ∧ ∃ zs : List Int, H' l = some (.lst (zs.map V.int)) ∧ zs.length = i) ⟨Same.new nl, [], upd_same, rfl⟩ (fun i H' _ w => sq_of (w.1 _ _ hc)) ?_ ?_⟩
    · rintro i x H2 hx ⟨k2, zs, hl, lz⟩
      rw [List.getElem?_map] at hx
      obtain ⟨y, hy, rfl⟩ := Option.map_eq_some_iff.mp hx
      have li := (List.getElem?_eq_some_iff.mp hy).1
      refine ⟨rfl, .int y, rfl, .inl ⟨y, rfl, _, hl, ?_, sameAt k2 nl, zs ++ [y], ?_, by rw [List.length_append, lz]; rfl⟩⟩
      · rw [List.length_map, lz, sizeLine_eq]
        omega
      · rw [upd_same, List.map_append]
        rfl
    · rintro H2 ⟨k2, zs, hl, lz⟩
      rw [List.length_map] at lz
      refine ⟨.ref a, rfl, 63, rfl, a, _, rfl, sqSame hS (kc.trans k2), fun d nd => ?_⟩
      rw [ec]
      have kd := Same.new (o := .lst (ms.map V.int)) nd
      have hd : upd H2 d (.lst (ms.map V.int)) d = some (.lst (ms.map V.int)) := upd_same
      revert kd hd
      generalize upd H2 d (.lst (ms.map V.int)) = H3
      intro kd hd
      refine ⟨d, _, rfl, .inl (sq_of hd), _, _, rfl, rfl, by show 5 ≤ sizeLine; decide, fun p hp => ?_⟩
      have hl3 := kd _ _ hl
      have nlp : l ≠ p := fun e => by
        rw [e] at hl3
        rw [hl3] at hp
        cases hp
      have kH3 : Same H H3 := (kc.trans k2).trans kd
      have ncl : H l = none := Same.free kc nl
      refine q p l _ (Same.free kH3 hp) ncl ⟨zs, 0, 0, 1 + (((ms.map V.int).length : Nat) : Int), 0, upd_same, by rw [upd_ne nlp]; exact hl3, nlp, by decide, by omega, ?_⟩ (sameAt kH3 (Same.free kH3 hp))
      rw [List.length_map]
      omega
theorem ok_Draw {f : Addr} {fd : FuncData} (F : Fun K "_law_draw" "_law_draw" sDraw f fd) (T : Glob mg) : FnOk P w K mg base CX0 1 f fd ["hand", "many"] spDraw := by
  refine F.ok scDraw (fun vs H Q E h => ?_) (fun cdv A outer s H vs Q E hr h => ?_)
  · obtain ⟨p, m, rfl, _⟩ := h
    rfl
  · obtain ⟨p, m, rfl, m0, m1, l, ⟨cells, i, r, s0, n, hp, hl, npl, hi, hs0, hs1⟩, q⟩ := h
    refine ⟨_, (pss_cons (ps_if (PW.pt (pw_and (pt_cmpR op_eq (pe_ix ix_list (pv 0) pe_int (fun _ _ => rfl)) pe_int (nomark _)) (pw_and1 (pt_cmpR op_lt (pe_ix ix_list (pv 0) pe_int (fun _ _ => rfl)) (pe_callB call_len_seq (by rfl) T.len PySem.boot_len (pa_cons (pe_ix ix_list (pv 0) pe_int (fun _ _ => rfl)) pa_nil)) (nomark _)))))
      (pss_cons (ps_set (i := 2) scDraw.nd rfl (.inl rfl) (pe_ix ix_list (pe_ix ix_list (pv 0) pe_int (fun _ _ => rfl)) (pe_ix ix_list (pv 0) pe_int (fun _ _ => rfl)) (fun _ _ => rfl)))
        (pss_cons (ps_asg (pe_op op_add (pe_ix ix_list (pv 0) pe_int (fun _ _ => rfl)) pe_int) (pg_sub (pv 0) pe_int set_list))
        (pss_cons (ps_asg (pe_op op_mod (pe_callTy call_int1 (by rfl) T.int boot_ty_int (pa_cons (pe_op op_add (pe_op op_add (pe_op op_mul (pe_ix ix_list (pv 0) pe_int (fun _ _ => rfl)) pe_int) (pe_op op_mul (pv 2) pe_int)) pe_int) pa_nil)) pe_int) (pg_sub (pv 0) pe_int set_list))
        (pss_one (ps_if (pt_cmpR op_ge (pv 2) (pe_op op_pow pe_int pe_int) (nomark _))
        (pss_one (ps_asg (pv 2) (pg_sub (pv 0) pe_int set_list)))
        pss_nil)))))
      pss_nil)
      (PSs.imp (t := tTail) (pss_cons (ps_if (pt_cmpR op_gt (pe_ix ix_list (pv 0) pe_int (fun _ _ => rfl)) pe_int (nomark _))
      (pss_cons (ps_set (i := 3) scDraw.nd rfl (.inl rfl) (pe_op op_mod (pe_callTy call_int1 (by rfl) T.int boot_ty_int (pa_cons (pe_ix ix_list (pv 0) pe_int (fun _ _ => rfl)) pa_nil)) (pv 1)))
        (pss_cons (ps_asg (pe_op op_fdiv (pe_ix ix_list (pv 0) pe_int (fun _ _ => rfl)) (pv 1)) (pg_sub (pv 0) pe_int set_list))
        (pss_one (ps_ret (pv 3)))))
      pss_nil)
      (pss_cons (ps_asg (pe_op op_add (pe_ix ix_list (pv 0) pe_int (fun _ _ => rfl)) pe_int) (pg_sub (pv 0) pe_int set_list))
      (pss_cons (ps_set (i := 4) scDraw.nd rfl (.inl rfl) (pe_op op_mod (pe_callTy call_int1 (by rfl) T.int boot_ty_int (pa_cons (pe_op op_mul (pe_callTy call_int1 (by rfl) T.int boot_ty_int (pa_cons (pe_op op_add (pe_ix ix_list (pv 0) pe_int (fun _ _ => rfl)) (pe_op op_mul pe_int (pe_ix ix_list (pv 0) pe_int (fun _ _ => rfl)))) pa_nil)) pe_int) pa_nil)) pe_int))
      (pss_cons (ps_set (i := 4) scDraw.nd rfl (.inl rfl) (pe_op op_mod (pe_callTy call_int1 (by rfl) T.int boot_ty_int (pa_cons (pe_op op_mul (pv 4) (pe_op op_add (pe_op op_fdiv (pv 4) pe_int) pe_int)) pa_nil)) pe_int))
      (pss_cons (ps_set (i := 4) scDraw.nd rfl (.inl rfl) (pe_op op_mod (pe_callTy call_int1 (by rfl) T.int boot_ty_int (pa_cons (pe_op op_mul (pv 4) (pe_op op_add (pe_op op_fdiv (pv 4) pe_int) pe_int)) pa_nil)) pe_int))
      (pss_one (ps_ret (pe_op op_mod (pe_callTy call_int1 (by rfl) T.int boot_ty_int (pa_cons (pe_op op_fdiv (pv 4) pe_int) pa_nil)) (pv 1))))))))) ?tail)), ?_⟩
    case tail =>
      rintro D σ H ⟨p, m, l, cells, i, r, s, n, c, f, x, rfl, m0, m1, hp, hl, npl, hi, hs0, hs1, q⟩
      refine ⟨.ref p, rfl, p, _, 2, _, rfl, rfl, sq_of hp, rfl, _, _, rfl, rfl, _, rfl, ite2 (fun e => ?_) (fun e => ?_)⟩
      · refine ⟨.ref p, rfl, p, _, 2, _, rfl, rfl, sq_of hp, rfl, .inl ⟨r, rfl, .int m, rfl, _, _, rfl, rfl, m0, ?_⟩⟩
        refine ⟨.ref p, rfl, p, _, 2, _, rfl, rfl, sq_of hp, rfl, .int m, rfl, _, _, rfl, rfl, ⟨m0, by omega⟩, ?_⟩
        refine ⟨.ref p, rfl, p, _, 2, 2, rfl, rfl, hp, rfl, ?_⟩
        refine ⟨_, rfl, ?_⟩
        refine q _ _ (Int.emod_nonneg _ (by omega)) (Int.emod_lt_of_pos _ m0) (.mk upd_same (by rw [upd_ne npl]; exact hl) npl hi hs0 hs1) but_upd
      · dsimp only [tNext, tDrop]
        refine ⟨.ref p, rfl, p, _, 4, _, rfl, rfl, sq_of hp, rfl, _, _, rfl, rfl, .ref p, rfl, p, _, 4, 4, rfl, rfl, hp, rfl, ?_⟩
        dsimp only
        have hp2 : upd H p (.lst (List.set [.ref l, .int i, .int r, .int s, .int n] 4 (.int (n + 1)))) p = some (.lst [.ref l, .int i, .int r, .int s, .int (n + 1)]) := upd_same
        have hl2 : upd H p (.lst (List.set [.ref l, .int i, .int r, .int s, .int n] 4 (.int (n + 1)))) l = some (.lst (cells.map V.int)) := by rw [upd_ne npl]; exact hl
        have b2 : But p H (upd H p (.lst (List.set [.ref l, .int i, .int r, .int s, .int n] 4 (.int (n + 1))))) := but_upd
        generalize upd H p (.lst (List.set [.ref l, .int i, .int r, .int s, .int n] 4 (.int (n + 1)))) = H2 at hp2 hl2 b2 ⊢
        refine ⟨.ref p, rfl, p, _, 3, _, rfl, rfl, sq_of hp2, rfl, .ref p, rfl, p, _, 4, _, rfl, rfl, sq_of hp2, rfl, 7919, n + 1, rfl, rfl, .inl ⟨by decide, by decide⟩, _, _, rfl, rfl, .inl ⟨_, rfl, _, _, rfl, rfl, .inr ⟨by decide, by decide⟩, .inl ⟨_, rfl, _, _, rfl, rfl, (by show (0 : Int) < 2147483647; decide), ?_⟩⟩⟩
        dsimp only
        have a2 : 0 ≤ ((s + 7919 * (n + 1)) * 48271) % 2147483647 := Int.emod_nonneg _ (by decide)
        have a3 : ((s + 7919 * (n + 1)) * 48271) % 2147483647 < 2147483647 := Int.emod_lt_of_pos _ (by decide)
        generalize ((s + 7919 * (n + 1)) * 48271) % 2147483647 = y at a2 a3 ⊢
        refine ⟨.int y, rfl, .int y, rfl, _, _, rfl, rfl, ⟨by decide, by decide⟩, _, _, rfl, rfl, _, _, rfl, rfl, .inl ⟨by omega, by omega⟩, .inl ⟨_, rfl, _, _, rfl, rfl, (by show (0 : Int) < 2147483647; decide), ?_⟩⟩
        dsimp only
        have a4 : 0 ≤ (y * (y / 1009 + 69621)) % 2147483647 := Int.emod_nonneg _ (by decide)
        have a5 : (y * (y / 1009 + 69621)) % 2147483647 < 2147483647 := Int.emod_lt_of_pos _ (by decide)
        generalize (y * (y / 1009 + 69621)) % 2147483647 = z at a4 a5 ⊢
        refine ⟨.int z, rfl, .int z, rfl, _, _, rfl, rfl, ⟨by decide, by decide⟩, _, _, rfl, rfl, _, _, rfl, rfl, .inl ⟨by omega, by omega⟩, .inl ⟨_, rfl, _, _, rfl, rfl, (by show (0 : Int) < 2147483399; decide), ?_⟩⟩
        refine ⟨_, rfl, _, _, rfl, rfl, ⟨by decide, by decide⟩, .inl ⟨_, rfl, .int m, rfl, _, _, rfl, rfl, m0, ?_⟩⟩
        exact q _ _ (Int.emod_nonneg _ (by omega)) (Int.emod_lt_of_pos _ m0) (.mk hp2 hl2 npl hi hs0 hs1) b2
    have fin : ∀ {H2 : Hp} {i r s n : Int} {c : Option V}, H2 p = some (.lst [.ref l, .int i, .int r, .int s, .int n]) → H2 l = some (.lst (cells.map V.int)) → 0 ≤ i → 0 ≤ s → s < 2147483647 → But p H H2 →
        tTail { nx := fun _ H' => Q .non H', rt := Q } [some (.ref p), some (.int m), c, none, none] H2 := fun {H2 i r s n c} h1 h2 h3 h4 h5 h6 =>
      ⟨p, m, l, cells, i, r, s, n, c, none, none, rfl, m0, m1, h1, h2, npl, h3, h4, h5, fun v H' g1 g2 g3 g4 => q v H' g1 g2 g3 (h6.trans g4)⟩
    refine ⟨.ref p, rfl, p, _, 2, _, rfl, rfl, sq_of hp, rfl, rfl, _, rfl, ite2 (fun e => ?_) (fun e => ?_)⟩
    · refine ⟨.ref p, rfl, p, _, 1, _, rfl, rfl, sq_of hp, rfl, .ref p, rfl, p, _, 0, _, rfl, rfl, sq_of hp, rfl, l, _, rfl, .inl (sq_of hl), _, _, rfl, rfl, _, rfl, ite2 (fun e2 => ?_) (fun e2 => ?_)⟩
      · have hlt : i < (cells.length : Int) := by
          have z := of_decide_eq_true e2
          rw [List.length_map] at z
          exact z
        obtain ⟨c, hc⟩ := atI_int hi hlt
        refine ⟨.ref p, rfl, p, _, 0, _, rfl, rfl, sq_of hp, rfl, .ref p, rfl, p, _, 1, _, rfl, rfl, sq_of hp, rfl, l, _, i, _, rfl, rfl, sq_of hl, hc, ?_⟩
        refine ⟨.ref p, rfl, p, _, 1, _, rfl, rfl, sq_of hp, rfl, _, _, rfl, rfl, .ref p, rfl, p, _, 1, 1, rfl, rfl, hp, rfl, ?_⟩
        dsimp only
        have hp2 : upd H p (.lst (List.set [.ref l, .int i, .int r, .int s0, .int n] 1 (.int (i + 1)))) p = some (.lst [.ref l, .int (i + 1), .int r, .int s0, .int n]) := upd_same
        have hl2 : upd H p (.lst (List.set [.ref l, .int i, .int r, .int s0, .int n] 1 (.int (i + 1)))) l = some (.lst (cells.map V.int)) := by rw [upd_ne npl]; exact hl
        have b2 : But p H (upd H p (.lst (List.set [.ref l, .int i, .int r, .int s0, .int n] 1 (.int (i + 1))))) := but_upd
        generalize upd H p (.lst (List.set [.ref l, .int i, .int r, .int s0, .int n] 1 (.int (i + 1)))) = H2 at hp2 hl2 b2 ⊢
        refine ⟨.ref p, rfl, p, _, 3, _, rfl, rfl, sq_of hp2, rfl, s0, 69621, rfl, rfl, .inl ⟨by omega, by omega⟩, .int c, rfl, _, _, rfl, rfl, .inr ⟨by decide, by decide⟩, _, _, rfl, rfl, _, _, rfl, rfl, .inl ⟨_, rfl, _, _, rfl, rfl, (by show (0 : Int) < 2147483629; decide), .ref p, rfl, p, _, 3, 3, rfl, rfl, hp2, rfl, ?_⟩⟩
        dsimp only
        have a0 : 0 ≤ (s0 * 69621 + c * 16 + 11) % 2147483629 := Int.emod_nonneg _ (by decide)
        have a1 : (s0 * 69621 + c * 16 + 11) % 2147483629 < 2147483629 := Int.emod_lt_of_pos _ (by decide)
        generalize (s0 * 69621 + c * 16 + 11) % 2147483629 = s2 at a0 a1 ⊢
        have hp3 : upd H2 p (.lst (List.set [.ref l, .int (i + 1), .int r, .int s0, .int n] 3 (.int s2))) p = some (.lst [.ref l, .int (i + 1), .int r, .int s2, .int n]) := upd_same
        have hl3 : upd H2 p (.lst (List.set [.ref l, .int (i + 1), .int r, .int s0, .int n] 3 (.int s2))) l = some (.lst (cells.map V.int)) := by rw [upd_ne npl]; exact hl2
        have b3 : But p H (upd H2 p (.lst (List.set [.ref l, .int (i + 1), .int r, .int s0, .int n] 3 (.int s2)))) := b2.trans but_upd
        generalize upd H2 p (.lst (List.set [.ref l, .int (i + 1), .int r, .int s0, .int n] 3 (.int s2))) = H3 at hp3 hl3 b3 ⊢
        refine ⟨.int c, rfl, _, _, rfl, rfl, ⟨by decide, by decide, by decide⟩, _, _, rfl, rfl, _, rfl, ite2 (fun _ => ?_) (fun _ => ?_)⟩
        · refine ⟨.int c, rfl, .ref p, rfl, p, _, 2, 2, rfl, rfl, hp3, rfl, ?_⟩
          exact fin upd_same (by rw [upd_ne npl]; exact hl3) (by omega) a0 (by omega) (b3.trans but_upd)
        · dsimp only [tNext, tDrop]
          exact fin hp3 hl3 (by omega) a0 (by omega) b3
      · dsimp only [tNext, tDrop]
        exact fin hp hl hi hs0 hs1 (But.refl _ _)
    · dsimp only [tNext, tDrop]
      exact fin hp hl hi hs0 hs1 (But.refl _ _)
end
end LawK
set_option maxHeartbeats 4000000
/-! Texts: how long, so many times, which signs; kinds of values. -/
namespace Ev
open PySem PySem.Spec PyProof.Rows L2
def rLenZ : List V → Hp → VK → Prop := fun xs H Q => ∃ z : Str, xs = [.str z] ∧ z.length ≤ sizeLine ∧ Q (.int z.length) H
theorem call_lenZ {X : Cx} : CallR X (.builtin "len") rLenZ := fun pins s σ H xs us Q I r h =>
  call_len pins s σ H xs us Q I r (let ⟨z, e, hz, q⟩ := h; ⟨.str z, z.length, e, ⟨hz, rfl⟩, q⟩)
def rMulS : R2 := fun x y H Q => ∃ (z : Str) (n : Int), x = .str z ∧ y = .int n ∧ 0 ≤ n ∧ n ≤ 3000 ∧ z.length ≤ 1000 ∧ Q (.str (Txt.mul z n)) H
theorem mul_ok {z : Str} {n : Int} (h0 : 0 ≤ n) (h1 : n ≤ 3000) (h2 : z.length ≤ 1000) : MulOk z n := by
  refine ⟨by simp; omega, fun a _ => ?_, fun _ _ => ?_⟩
  · have e : (1000 : Int) ≤ (2 ^ 63 - 1) / n := by
      refine Int.le_ediv_of_mul_le (by omega) ?_
      have : (2 : Int) ^ 63 - 1 = 9223372036854775807 := by decide
      omega
    omega
  · have e : z.length * n.toNat ≤ 1000 * 3000 := Nat.mul_le_mul h2 (by omega)
    have h3 : sizeLine = 16777216 := sizeLine_eq
    show decide (z.length * n.toNat > sizeLine) = false
    exact decide_eq_false (by omega)
theorem op_mulS {X : Cx} : OpR X (binaryOp .Mult) rMulS := by
  intro pins s σ H x y v u Q I rx ry h
  obtain ⟨z, n, rfl, rfl, h0, h1, h2, q⟩ := h
  obtain ⟨t, rfl⟩ := rx
  obtain ⟨t', rfl⟩ := ry
  exact SB.mul (mul_ok h0 h1 h2) fun t' k => ⟨.str _, H, I.tok _, ⟨_, rfl⟩, q⟩
/-- every sign of the text is one from the blank to the tilde -/
def sgC (c : Nat) : Bool := decide (32 ≤ c) && decide (c ≤ 126)
def sgB (z : Str) : Bool := z.cps.toList.all sgC
theorem prn128 : ∀ c : Fin 128, Unicode.isPrintable c.val = sgC c.val := by decide +kernel
theorem sgC_of (c : Nat) : (decide (c < 128) && Unicode.isPrintable c) = sgC c := by
  by_cases h : c < 128
  · rw [decide_eq_true h, Bool.true_and]
    exact prn128 ⟨c, h⟩
  · rw [decide_eq_false h, Bool.false_and]
    unfold sgC
    rw [decide_eq_false (show ¬ c ≤ 126 by omega), Bool.and_false]
theorem sgB_of (z : Str) : (Txt.isascii z && Txt.isprintable z) = sgB z := by
  unfold Txt.isascii Txt.isprintable sgB
  rw [← Array.all_toList, ← Array.all_toList]
  generalize z.cps.toList = l
  induction l with
  | nil => rfl
  | cons c l ih =>
    rw [List.all_cons, List.all_cons, List.all_cons, ← sgC_of, ← ih]
    cases decide (c < 128) <;> cases Unicode.isPrintable c <;> cases l.all (fun c => decide (c < 128)) <;> rfl
/-! ### kinds -/
inductive Kn | non | bl | int | str | lst | tup | dic
  deriving DecidableEq
def Kn.name : Kn → String
  | .non => "NoneType"
  | .bl => "bool"
  | .int => "int"
  | .str => "str"
  | .lst => "list"
  | .tup => "tuple"
  | .dic => "dict"
def kitB : Kn → Kn → Bool
  | .bl, .int => true
  | a, b => decide (a = b)
inductive Kd (H : Hp) : V → Kn → Prop
  | non : Kd H .non .non
  | bl (b : Bool) : Kd H (.bl b) .bl
  | int (i : Int) : Kd H (.int i) .int
  | str (z : Str) : Kd H (.str z) .str
  | lst {a : Addr} {xs : List V} (e : H a = some (.lst xs)) : Kd H (.ref a) .lst
  | tup {a : Addr} {xs : List V} (e : H a = some (.tup xs)) : Kd H (.ref a) .tup
  | dic {a : Addr} {kvs : List (Key × V)} (e : H a = some (.dK kvs)) : Kd H (.ref a) .dic
theorem Kd.tyx {K : PySem.W.Frag} {H : Hp} {x : V} {k : Kn} (h : Kd H x k) : TyX K H x (.type k.name) := by
  cases h with
  | non => exact .base .non
  | bl b => exact .base (.bl b)
  | int i => exact .base (.int i)
  | str z => exact .base (.str z)
  | lst e => exact .base (.lst e)
  | tup e => exact .base (.tup e)
  | dic e => exact .base (.dK e)
theorem Kd.same {H H' : Hp} (s : ∀ b o, H b = some o → H' b = some o) {x : V} {k : Kn} (h : Kd H x k) : Kd H' x k := by
  cases h with
  | non => exact .non
  | bl b => exact .bl b
  | int i => exact .int i
  | str z => exact .str z
  | lst e => exact .lst (s _ _ e)
  | tup e => exact .tup (s _ _ e)
  | dic e => exact .dic (s _ _ e)
theorem kit_kn {K : PySem.W.Frag} : ∀ a b : Kn, PySem.W.kitOne K (.type a.name) (.type b.name) = some (kitB a b) := by
  intro a b
  cases a <;> cases b <;> exact kit_ty (by decide +kernel)
theorem rd_isi {K : PySem.W.Frag} {H : Hp} {x : V} {k : Kn} {Q : VK} (T : Kn) (h : Kd H x k) (q : Q (.bl (kitB k T)) H) : rIsi K [x, .ty T.name] H Q :=
  ⟨x, .ty T.name, .type k.name, .type T.name, kitB k T, rfl, .ty _, h.tyx, kit_kn k T, q⟩
/-- for c in s -/
theorem for_strZ {z : Str} {g : TG} {tb : TS} {D : Ends} {σ : L2.St} {H : Hp} (Pv : Nat → L2.St → Hp → Prop) (h0 : Pv 0 σ H)
    (hs : ∀ i c σ H, z.cps[i]? = some c → Pv i σ H → g (.str ⟨#[c]⟩) σ H fun σ2 H2 => tb { D with nx := Pv (i + 1), ct := Pv (i + 1), bk := D.nx } σ2 H2) (hd : ∀ σ H, Pv z.cps.size σ H → D.nx σ H) :
    ∃ W : Nat → Nat → L2.St → Hp → Prop, (∃ m, W 0 m σ H) ∧ ∀ i m σ H, W i m σ H →
      ((Its z).stop i H ∧ D.nx σ H) ∨ ((Its z).go i H ∧ ∃ N : L2.St → Hp → Prop, (∀ σ' H', N σ' H' → ∃ m', m' < m ∧ W (i + 1) m' σ' H') ∧ ∀ x H', (Its z).yld i H x H' → g x σ H' fun σ2 H2 => tb { D with nx := N, ct := N, bk := D.nx } σ2 H2) := by
  refine ⟨fun i m σ H => m = z.cps.size - i ∧ i ≤ z.cps.size ∧ Pv i σ H, ⟨z.cps.size, by simp, Nat.zero_le _, h0⟩, ?_⟩
  rintro i m σ H ⟨rfl, hi, p⟩
  by_cases hlt : i < z.cps.size
  · refine .inr ⟨hlt, Pv (i + 1), fun σ' H' p' => ⟨z.cps.size - (i + 1), by omega, rfl, hlt, p'⟩, fun x H' y => ?_⟩
    obtain ⟨e, c, hc, ex⟩ := y
    subst e ex
    exact hs i c σ _ hc p
  · have e : i = z.cps.size := by omega
    subst e
    exact .inl ⟨Nat.le_refl _, hd σ H p⟩
def sgV : V → Bool
  | .str z => sgB z
  | _ => false
def wordV : V → Bool
  | .str z => sgB z && decide ((0 : Int) < (z.length : Int))
  | _ => false
/-- no text is too long -/
def Vs (x : V) : Prop := ∀ z, x = .str z → z.length ≤ 5000
theorem len5 {n : Nat} (h : n ≤ 5000) : n ≤ sizeLine := by
  have h3 : sizeLine = 16777216 := sizeLine_eq
  omega
def spSg : Sp := fun vs H Q _ => ∃ x k, vs = [x] ∧ Kd H x k ∧ Vs x ∧ Q (.bl (sgV x)) H
def spWd : Sp := fun vs H Q _ => ∃ x k, vs = [x] ∧ Kd H x k ∧ Vs x ∧ Q (.bl (wordV x)) H
def spInt : Sp := fun vs H Q _ => ∃ x k, vs = [x] ∧ Kd H x k ∧ Q (.bl (decide (k = .int))) H
def numV : V → Bool
  | .int i => decide (0 ≤ i)
  | _ => false
def spNum : Sp := fun vs H Q _ => ∃ x k, vs = [x] ∧ Kd H x k ∧ Q (.bl (numV x)) H
def inV2 (a b : Int) : V → Bool
  | .int i => decide (a ≤ i) && decide (i ≤ b)
  | _ => false
def spIn : Sp := fun vs H Q _ => ∃ x k a b, vs = [x, .int a, .int b] ∧ Kd H x k ∧ Q (.bl (inV2 a b x)) H
theorem sgB_at {z : Str} {i c : Nat} (h : z.cps[i]? = some c) (n : sgC c = false) : sgB z = false := by
  unfold sgB
  rw [List.all_eq_false]
  refine ⟨c, ?_, by simp [n]⟩
  rw [← Array.getElem?_toList] at h
  exact List.mem_of_getElem? h
theorem sgB_all {z : Str} (h : ∀ i c : Nat, z.cps[i]? = some c → sgC c = true) : sgB z = true := by
  unfold sgB
  rw [List.all_eq_true]
  intro c hc
  obtain ⟨i, hi, e⟩ := List.mem_iff_getElem.mp hc
  refine h i c ?_
  rw [← Array.getElem?_toList, List.getElem?_eq_getElem hi, e]
end Ev
set_option maxHeartbeats 4000000
/-! Things that are judged: what they are, as far as it is asked. -/
namespace Ev
open PySem PySem.Spec PyProof.Rows L2
def dsm0 : PyData → Bool
  | .str z => decide (z.length ≤ 100) && PyData.strOk z
  | _ => true
/-- no text in it is long -/
def dsm : PyData → Bool
  | .list ds => ds.all dsm0
  | .tuple ds => ds.all dsm0
  | d => dsm0 d
theorem Dt.kd {H : Hp} {v : V} {d : PyData} (h : Dt H v d) : ∃ k, Kd H v k := by
  cases h with
  | non => exact ⟨_, .non⟩
  | bl b => exact ⟨_, .bl b⟩
  | int i => exact ⟨_, .int i⟩
  | str x => exact ⟨_, .str x⟩
  | dic e => exact ⟨_, .dic e⟩
  | l0 e n => exact ⟨_, .lst e⟩
  | l1 e n _ => exact ⟨_, .lst e⟩
  | l2 e n _ _ => exact ⟨_, .lst e⟩
  | t0 e => exact ⟨_, .tup e⟩
  | t1 e _ => exact ⟨_, .tup e⟩
  | t2 e _ _ => exact ⟨_, .tup e⟩
theorem Dt.vs {H : Hp} {v : V} {d : PyData} (h : Dt H v d) (s : dsm0 d = true) : Vs v := by
  cases h with
  | str x =>
    intro z e
    cases e
    have q : x.length ≤ 100 := of_decide_eq_true (Bool.and_eq_true_iff.mp s).1
    exact Nat.le_trans q (by decide)
  | non => exact fun z e => by cases e
  | bl b => exact fun z e => by cases e
  | int i => exact fun z e => by cases e
  | dic e => exact fun z e => by cases e
  | l0 e n => exact fun z e => by cases e
  | l1 e n _ => exact fun z e => by cases e
  | l2 e n _ _ => exact fun z e => by cases e
  | t0 e => exact fun z e => by cases e
  | t1 e _ => exact fun z e => by cases e
  | t2 e _ _ => exact fun z e => by cases e
/-- a thing; some xs: a tuple of xs -/
inductive Tg (H : Hp) : V → Option (List V) → Prop
  | no {x : V} {k : Kn} (h : Kd H x k) (n : k ≠ .tup) (s : Vs x) : Tg H x none
  | tup {a : Addr} {xs : List V} (e : H a = some (.tup xs)) (n : xs.length ≤ 30) (h : ∀ y ∈ xs, (∃ k, Kd H y k) ∧ Vs y) : Tg H (.ref a) (some xs)
theorem Tg.kd {H : Hp} {x : V} {o : Option (List V)} (h : Tg H x o) : ∃ k, Kd H x k ∧ (k = .tup ↔ o.isSome = true) := by
  cases h with
  | no h n s => exact ⟨_, h, fun e => absurd e n, fun e => by cases e⟩
  | tup e n h => exact ⟨_, .tup e, fun _ => rfl, fun _ => rfl⟩
theorem Tg.vs {H : Hp} {x : V} {o : Option (List V)} (h : Tg H x o) : Vs x := by
  cases h with
  | no h n s => exact s
  | tup e n h => exact fun z e => by cases e
theorem Tg.same {H H' : Hp} (s : ∀ b o, H b = some o → H' b = some o) {x : V} {o : Option (List V)} (h : Tg H x o) : Tg H' x o := by
  cases h with
  | no h n z => exact .no (h.same s) n z
  | tup e n h => exact .tup (s _ _ e) n fun y hy => ⟨let ⟨k, q⟩ := (h y hy).1; ⟨k, q.same s⟩, (h y hy).2⟩
theorem Dt.tg {H : Hp} {v : V} {d : PyData} (h : Dt H v d) (s : dsm d = true) : ∃ o, Tg H v o := by
  cases h with
  | non => exact ⟨_, .no .non (by decide) fun z e => by cases e⟩
  | bl b => exact ⟨_, .no (.bl b) (by decide) fun z e => by cases e⟩
  | int i => exact ⟨_, .no (.int i) (by decide) fun z e => by cases e⟩
  | str x => exact ⟨_, .no (.str x) (by decide) (Dt.vs (.str (H := H) x) s)⟩
  | dic e => exact ⟨_, .no (.dic e) (by decide) fun z e => by cases e⟩
  | l0 e n => exact ⟨_, .no (.lst e) (by decide) fun z e => by cases e⟩
  | l1 e n _ => exact ⟨_, .no (.lst e) (by decide) fun z e => by cases e⟩
  | l2 e n _ _ => exact ⟨_, .no (.lst e) (by decide) fun z e => by cases e⟩
  | t0 e => exact ⟨_, .tup e (by decide) fun y hy => absurd hy (by simp)⟩
  | @t1 a x d e hx =>
    have s1 : dsm0 d = true := List.all_eq_true.mp s d (by simp)
    exact ⟨_, .tup e (by simp) fun y hy => by
      obtain rfl := List.mem_singleton.mp hy
      exact ⟨hx.kd, hx.vs s1⟩⟩
  | @t2 a x z d1 d2 e hx hz =>
    have s1 : dsm0 d1 = true := List.all_eq_true.mp s d1 (by simp)
    have s2 : dsm0 d2 = true := List.all_eq_true.mp s d2 (by simp)
    refine ⟨_, .tup e (by simp) fun y hy => ?_⟩
    rcases List.mem_cons.mp hy with g | g
    · rw [g]
      exact ⟨hx.kd, hx.vs s1⟩
    · rw [List.mem_singleton.mp g]
      exact ⟨hz.kd, hz.vs s2⟩
def slen : V → Nat
  | .str z => z.length
  | _ => 0
/-- what is wrong with a thing that is to be texts -/
def badOf : Option (List V) → V
  | none => .int (-1)
  | some xs => if xs.length > 8 then .int (-1) else match xs.findIdx? (fun y => !sgV y) with
    | some k => .int (k : Int)
    | none => if (xs.map slen).sum > 2000 then .str (Str.ofString "long") else .non
/-- whether a thing is a place of these texts -/
def placeV (ts : List Str) : Option (List V) → Bool
  | some [x, y] => inV2 0 ((ts.length : Int) - 1) x && (match x with
    | .int i => inV2 0 (((ts.getD i.toNat Str.empty).length : Int) - 1) y
    | _ => false)
  | _ => false
end Ev
set_option maxHeartbeats 4000000
namespace Ev
open PySem PySem.Spec PyProof.Rows L2
theorem bad1 {xs : List V} (h : xs.length > 8) : badOf (some xs) = .int (-1) := if_pos h
theorem bad2 {xs : List V} {i : Nat} {y : V} (h : ¬ xs.length > 8) (hy : xs[i]? = some y) (b : sgV y = false) (g : ∀ (j : Nat) c, j < i → xs[j]? = some c → sgV c = true) : badOf (some xs) = .int (i : Int) := by
  obtain ⟨hi, ey⟩ := List.getElem?_eq_some_iff.mp hy
  have e : xs.findIdx? (fun y => !sgV y) = some i := by
    rw [List.findIdx?_eq_some_iff_getElem]
    refine ⟨hi, by rw [ey, b]; rfl, fun j hj => ?_⟩
    rw [g j xs[j] hj (List.getElem?_eq_getElem (by omega))]
    simp
  show (if xs.length > 8 then V.int (-1) else match xs.findIdx? (fun y => !sgV y) with
    | some k => V.int (k : Int)
    | none => if (xs.map slen).sum > 2000 then V.str (Str.ofString "long") else V.non) = _
  rw [if_neg h, e]
theorem good_none {xs : List V} (g : ∀ c ∈ xs, sgV c = true) : xs.findIdx? (fun y => !sgV y) = none := by
  rw [List.findIdx?_eq_none_iff]
  intro c hc
  rw [g c hc]
  rfl
theorem bad3 {xs : List V} (h : ¬ xs.length > 8) (g : ∀ c ∈ xs, sgV c = true) (s : (xs.map slen).sum > 2000) : badOf (some xs) = .str (Str.ofString "long") := by
  show (if xs.length > 8 then V.int (-1) else match xs.findIdx? (fun y => !sgV y) with
    | some k => V.int (k : Int)
    | none => if (xs.map slen).sum > 2000 then V.str (Str.ofString "long") else V.non) = _
  rw [if_neg h, good_none g]
  exact if_pos s
theorem bad4 {xs : List V} (h : ¬ xs.length > 8) (g : ∀ c ∈ xs, sgV c = true) (s : ¬ (xs.map slen).sum > 2000) : badOf (some xs) = .non := by
  show (if xs.length > 8 then V.int (-1) else match xs.findIdx? (fun y => !sgV y) with
    | some k => V.int (k : Int)
    | none => if (xs.map slen).sum > 2000 then V.str (Str.ofString "long") else V.non) = _
  rw [if_neg h, good_none g]
  exact if_neg s
/-- what is right: at most eight texts of signs -/
theorem bad_non {o : Option (List V)} (h : badOf o = .non) : ∃ xs, o = some xs ∧ xs.length ≤ 8 ∧ (∀ c ∈ xs, sgV c = true) ∧ (xs.map slen).sum ≤ 2000 := by
  cases o with
  | none => cases h
  | some xs =>
    by_cases h1 : xs.length > 8
    · rw [bad1 h1] at h
      cases h
    · cases e : xs.findIdx? (fun y => !sgV y) with
      | some k =>
        have h' : (if xs.length > 8 then V.int (-1) else match xs.findIdx? (fun y => !sgV y) with
          | some k => V.int (k : Int)
          | none => if (xs.map slen).sum > 2000 then V.str (Str.ofString "long") else V.non) = V.non := h
        rw [if_neg h1, e] at h'
        cases h'
      | none =>
        have g : ∀ c ∈ xs, sgV c = true := fun c hc => by
          have := List.findIdx?_eq_none_iff.mp e c hc
          simpa using this
        refine ⟨xs, rfl, by omega, g, ?_⟩
        by_cases s : (xs.map slen).sum > 2000
        · rw [bad3 h1 g s] at h
          cases h
        · omega
theorem sg_str {y : V} (h : sgV y = true) : ∃ z, y = .str z := by
  cases y with
  | str z => exact ⟨z, rfl⟩
  | non => cases h
  | bl b => cases h
  | int i => cases h
  | byt b => cases h
  | flt b => cases h
  | ref a => cases h
  | ty n => cases h
theorem bad_strs {xs : List V} (g : ∀ c ∈ xs, sgV c = true) : ∃ ts : List Str, xs = ts.map V.str ∧ ∀ t ∈ ts, sgB t = true := by
  induction xs with
  | nil => exact ⟨[], rfl, fun t h => absurd h (by simp)⟩
  | cons y xs ih =>
    obtain ⟨z, rfl⟩ := sg_str (g y (by simp))
    obtain ⟨ts, rfl, h⟩ := ih fun c hc => g c (List.mem_cons_of_mem _ hc)
    refine ⟨z :: ts, rfl, fun t ht => ?_⟩
    rcases List.mem_cons.mp ht with e | e
    · rw [e]
      exact g (.str z) (by simp)
    · exact h t e
theorem sum_cast (ns : List Nat) : (ns.map fun n : Nat => (n : Int)).sum = ((ns.sum : Nat) : Int) := by
  induction ns with
  | nil => rfl
  | cons n ns ih =>
    rw [List.map_cons, List.sum_cons, List.sum_cons, ih]
    simp
/-- the lengths of the texts of a tuple -/
theorem lc_lens {K : PySem.W.Frag} {a : Addr} {ts : List Str} {i : Nat} {σ : L2.St} {H1 : Hp} {D : Addr} {Qd : Hp → Prop} (hi : i < σ.length) (ha : H1 a = some (.tup (ts.map V.str))) (nD : H1 D = none) (hlen : ∀ t ∈ ts, t.length ≤ 5000) (hn : ts.length ≤ 1000)
    (hd : ∀ H, H D = some (.lst ((ts.map fun t => (t.length : Int)).map V.int)) → Same H1 H → Qd H) :
    ∃ W : Nat → Nat → Hp → Prop, (∃ m, W 0 m (upd H1 D (.lst []))) ∧ ∀ j m H, W j m H →
      ((Itt K a).stop j H ∧ Qd H) ∨ ((Itt K a).go j H ∧ ∃ Nx : Hp → Prop, (∀ H', Nx H' → ∃ m', m' < m ∧ W (j + 1) m' H') ∧ ∀ x H', (Itt K a).yld j H x H' → gName i x (wipe σ [i]) H' fun σ2 H2 => wipe σ2 [i] = wipe σ [i] ∧ tYes σ2 H2 fun b H3 =>
        if b = true then tCB rLenZ (tCons (tVar i) tNil) σ2 H3 fun y H4 => ∃ acc, H4 D = some (.lst acc) ∧ acc.length < sizeLine ∧ Nx (upd H4 D (.lst (acc ++ [y]))) else Nx H3) := by
  have sAt : ∀ {H' : Hp} {o : HO}, Same H1 H' → Same H1 (upd H' D o) := fun {H' o} k b u e => by
    rw [upd_ne (ne_of_none e nD)]
    exact k b u e
  refine lc_tup (K := K) (xs := ts.map V.str) (fun j H => H D = some (.lst (((ts.take j).map fun t => (t.length : Int)).map V.int)) ∧ Same H1 H) ⟨upd_same, sAt (Same.refl _)⟩ (fun j H _ p => SqT.of (p.2 _ _ ha)) (fun j x H hx p => ?_) (fun H p => ?_)
  · rw [List.getElem?_map] at hx
    cases e : ts[j]? with
    | none => rw [e] at hx; cases hx
    | some t =>
      rw [e] at hx
      obtain rfl : V.str t = x := Option.some.inj hx
      have hm := List.mem_of_getElem? e
      obtain ⟨hD, hs⟩ := p
      have hw : ((wipe σ [i]).set i (some (V.str t)))[i]? = some (some (V.str t)) := by
        rw [List.getElem?_set_self]
        show i < (σ.set i none).length
        rw [List.length_set]
        exact hi
      refine ⟨?_, .str t, hw, t, rfl, len5 (hlen t hm), _, hD, ?_, ?_, sAt hs⟩
      · show ((σ.set i none).set i (some (V.str t))).set i none = σ.set i none
        rw [List.set_set, List.set_set]
      · have h3 : sizeLine = 16777216 := sizeLine_eq
        rw [List.length_map, List.length_map, List.length_take]
        omega
      · rw [upd_same]
        have et : ts.take (j + 1) = ts.take j ++ [t] := by
          rw [List.take_add_one, e]
          rfl
        rw [et, List.map_append, List.map_append]
        rfl
  · obtain ⟨hD, hs⟩ := p
    rw [List.length_map, List.take_length] at hD
    exact hd H hD hs
theorem lens_sum (ts : List Str) : (ts.map fun t => (t.length : Int)).sum = ((((ts.map V.str).map slen).sum : Nat) : Int) := by
  rw [List.map_map, ← sum_cast, List.map_map]
  rfl
end Ev
set_option maxHeartbeats 4000000
namespace Ev
open PySem PySem.Spec PyProof.Rows L2
theorem joinL1 : ∀ cs : List Nat, TL.joinL [] (cs.map fun c => [c]) = cs
  | [] => rfl
  | [c] => rfl
  | c :: d :: r => by
    have e := joinL1 (d :: r)
    show [c] ++ ([] ++ TL.joinL [] ((d :: r).map fun c => [c])) = c :: d :: r
    rw [e]
    rfl
theorem join1 (cs : List Nat) : Txt.join (Str.ofString "") (cs.map fun c => SX.S [c]) = SX.S cs := by
  have e := SX.join_S [] (cs.map fun c => [c])
  rw [List.map_map, joinL1] at e
  exact e
theorem sgB_S (cs : List Nat) : sgB (SX.S cs) = cs.all sgC := rfl
theorem S_eta (z : Str) : SX.S z.cps.toList = z := SX.S_tl z
theorem len_S (z : Str) : z.length = z.cps.toList.length := by simp [Str.length]
theorem sgB_mem {z : Str} (h : sgB z = true) {c : Nat} (hc : c ∈ z.cps.toList) : sgC c = true := List.all_eq_true.mp h c hc
theorem sgB_of_mem {z : Str} (h : ∀ c ∈ z.cps.toList, sgC c = true) : sgB z = true := List.all_eq_true.mpr h
theorem sgB_cut {z : Str} (h : sgB z = true) (lo hi : Option Int) : sgB (cutS z lo hi) = true := by
  refine sgB_of_mem fun c hc => sgB_mem h ?_
  have hc' : c ∈ (z.cps.toList.drop (HT.sIx z.length 0 lo)).take (HT.sIx z.length z.length hi - HT.sIx z.length 0 lo) := by
    simpa [cutS] using hc
  exact List.mem_of_mem_drop (List.mem_of_mem_take hc')
theorem cut_len {z : Str} (lo hi : Option Int) : (cutS z lo hi).length ≤ z.length := by
  rw [len_S, len_S]
  have e : (cutS z lo hi).cps.toList = (z.cps.toList.drop (HT.sIx z.length 0 lo)).take (HT.sIx z.length z.length hi - HT.sIx z.length 0 lo) := by simp [cutS]
  rw [e, List.length_take, List.length_drop]
  omega
theorem cut_len2 {z : Str} (lo hi : Option Int) : (cutS z lo hi).length ≤ HT.sIx z.length z.length hi - HT.sIx z.length 0 lo := by
  rw [len_S]
  have e : (cutS z lo hi).cps.toList = (z.cps.toList.drop (HT.sIx z.length 0 lo)).take (HT.sIx z.length z.length hi - HT.sIx z.length 0 lo) := by simp [cutS]
  rw [e, List.length_take]
  omega
theorem sgB_app {a b : Str} (h1 : sgB a = true) (h2 : sgB b = true) : sgB (a ++ b) = true := by
  refine sgB_of_mem fun c hc => ?_
  have e : (a ++ b).cps.toList = a.cps.toList ++ b.cps.toList := TL.tl_append a b
  rw [e] at hc
  rcases List.mem_append.mp hc with h | h
  · exact sgB_mem h1 h
  · exact sgB_mem h2 h
theorem app_len (a b : Str) : (a ++ b).length = a.length + b.length := by
  have e : (a ++ b).cps.toList = a.cps.toList ++ b.cps.toList := TL.tl_append a b
  rw [len_S, e, List.length_append, ← len_S, ← len_S]
theorem rep_all (x : Array Nat) : ∀ (n : Nat) (acc : Array Nat), ((List.replicate n x).foldl (· ++ ·) acc).size = acc.size + n * x.size ∧ ∀ c ∈ ((List.replicate n x).foldl (· ++ ·) acc).toList, c ∈ acc.toList ∨ c ∈ x.toList
  | 0, acc => ⟨by simp, fun c h => .inl h⟩
  | n + 1, acc => by
    obtain ⟨h1, h2⟩ := rep_all x n (acc ++ x)
    rw [List.replicate_succ, List.foldl_cons]
    refine ⟨by rw [h1, Array.size_append, Nat.succ_mul]; omega, fun c hc => ?_⟩
    rcases h2 c hc with h | h
    · rw [Array.toList_append] at h
      exact List.mem_append.mp h
    · exact .inr h
theorem mul_facts (z : Str) (n : Int) : (Txt.mul z n).length ≤ z.length * n.toNat ∧ (sgB z = true → sgB (Txt.mul z n) = true) := by
  unfold Txt.mul
  by_cases h1 : n < 1
  · rw [if_pos h1]
    exact ⟨Nat.zero_le _, fun _ => rfl⟩
  · rw [if_neg h1]
    by_cases h2 : (n == 1 || z.length == 0) = true
    · rw [if_pos h2]
      exact ⟨Nat.le_mul_of_pos_right _ (by omega), fun h => h⟩
    · rw [if_neg h2]
      obtain ⟨r1, r2⟩ := rep_all z.cps n.toNat #[]
      refine ⟨?_, fun h => sgB_of_mem fun c hc => ?_⟩
      · show Array.size _ ≤ _
        rw [r1, Nat.mul_comm]
        show 0 + _ ≤ _
        rw [Nat.zero_add]
        exact Nat.le_refl _
      · rcases r2 c hc with q | q
        · cases q
        · exact sgB_mem h q
theorem cut_hi {z : Str} {lo : Option Int} {u : Int} (h : 0 ≤ u) : ((cutS z lo (some u)).length : Int) ≤ u := by
  have e := cut_len2 (z := z) lo (some u)
  have e2 : HT.sIx z.length z.length (some u) ≤ u.toNat := by
    show (if u < 0 then (u + (z.length : Int)).toNat else min u.toNat z.length) ≤ u.toNat
    rw [if_neg (by omega)]
    exact Nat.min_le_left _ _
  omega
theorem cut_lohi {z : Str} {b e : Int} (h : 0 ≤ b) (h2 : b ≤ e) : ((cutS z (some b) (some e)).length : Int) ≤ e - b := by
  have q := cut_len2 (z := z) (some b) (some e)
  have e1 : HT.sIx z.length z.length (some e) = min e.toNat z.length := by
    show (if e < 0 then (e + (z.length : Int)).toNat else min e.toNat z.length) = _
    rw [if_neg (by omega)]
  have e2 : HT.sIx z.length 0 (some b) = min b.toNat z.length := by
    show (if b < 0 then (b + (z.length : Int)).toNat else min b.toNat z.length) = _
    rw [if_neg (by omega)]
  rw [e1, e2] at q
  omega
end Ev
set_option maxHeartbeats 4000000
/-! Tuples put together and cut, the heap only growing. -/
namespace Ev
open PySem PySem.Spec PyProof.Rows L2
def rCatM : R2 := fun x y H Q => ∃ a b xs ys, x = .ref a ∧ y = .ref b ∧ H a = some (.tup xs) ∧ H b = some (.tup ys) ∧ xs.length + ys.length ≤ 1000 ∧ ∀ p H', Same H H' → H' p = some (.tup (xs ++ ys)) → Q (.ref p) H'
theorem sameNew {H : Hp} {q : Addr} {o : HO} (h : H q = none) : Same H (upd H q o) := fun b u e => by
  rw [upd_ne (ne_of_none e h)]
  exact e
theorem op_catM {X : Cx} : OpR X (binaryOp .Add) rCatM := fun pins s σ H x y v u Q I rx ry h =>
  op_catA pins s σ H x y v u Q I rx ry (by
    obtain ⟨a, b, xs, ys, ex, ey, ha, hb, hz, q⟩ := h
    refine ⟨a, b, xs, ys, ex, ey, SqT.of ha, SqT.of hb, ?_, fun e => ?_, fun _ e => ?_, fun _ _ p np => ?_⟩
    · have h3 : sizeLine = 16777216 := sizeLine_eq
      omega
    · refine q b H (Same.refl H) ?_
      rw [e, List.nil_append]
      exact hb
    · refine q a H (Same.refl H) ?_
      rw [e, List.append_nil]
      exact ha
    · exact q p _ (sameNew np) upd_same)
def rSlM : V → Option Int → Option Int → Hp → VK → Prop := fun x lo hi H Q => ∃ a xs, x = .ref a ∧ H a = some (.tup xs) ∧ ∀ p H', Same H H' → H' p = some (.tup (cutV xs lo hi)) → Q (.ref p) H'
theorem sl_tupM {X : Cx} : SlR X rSlM := fun pins s σ H x v vl vu lo hi sl Q I rx hs pl pu h =>
  sl_tupA pins s σ H x v vl vu lo hi sl Q I rx hs pl pu (by
    obtain ⟨a, xs, ex, ha, q⟩ := h
    refine ⟨a, xs, ex, SqT.of ha, fun e => ?_, fun _ p np => q p _ (sameNew np) upd_same⟩
    refine q a H (Same.refl H) ?_
    have ec : cutV xs lo hi = xs := by
      unfold cutV
      rw [e.1, e.2, List.drop_zero, Nat.sub_zero, List.take_length]
    rw [ec]
    exact ha)
theorem cutV_mem {xs : List V} {lo hi : Option Int} {y : V} (h : y ∈ cutV xs lo hi) : y ∈ xs := List.mem_of_mem_drop (List.mem_of_mem_take h)
/-- the place that is one -/
theorem place_true {ts : List Str} {o : Option (List V)} (h : placeV ts o = true) : ∃ (i j : Int), o = some [.int i, .int j] ∧ 0 ≤ i ∧ i < ts.length ∧ 0 ≤ j ∧ j < ((ts.getD i.toNat Str.empty).length : Int) := by
  unfold placeV at h
  split at h
  · rename_i x y
    obtain ⟨h1, h2⟩ := Bool.and_eq_true_iff.mp h
    cases x with
    | int i =>
      obtain ⟨a1, a2⟩ := Bool.and_eq_true_iff.mp (show (decide (0 ≤ i) && decide (i ≤ (ts.length : Int) - 1)) = true from h1)
      have a1 := of_decide_eq_true a1
      have a2 := of_decide_eq_true a2
      cases y with
      | int j =>
        obtain ⟨b1, b2⟩ := Bool.and_eq_true_iff.mp (show (decide (0 ≤ j) && decide (j ≤ ((ts.getD i.toNat Str.empty).length : Int) - 1)) = true from h2)
        have b1 := of_decide_eq_true b1
        have b2 := of_decide_eq_true b2
        exact ⟨i, j, rfl, a1, by omega, b1, by omega⟩
      | non => cases h2
      | bl b => cases h2
      | str b => cases h2
      | byt b => cases h2
      | flt b => cases h2
      | ref b => cases h2
      | ty b => cases h2
    | non => cases h1
    | bl b => cases h1
    | str b => cases h1
    | byt b => cases h1
    | flt b => cases h1
    | ref b => cases h1
    | ty b => cases h1
  · cases h
theorem text_at {ts : List Str} {i : Int} (h0 : 0 ≤ i) (h1 : i < ts.length) : atI (ts.map V.str) i = some (.str (ts.getD i.toNat Str.empty)) ∧ ts.getD i.toNat Str.empty ∈ ts := by
  have hi : i.toNat < ts.length := by omega
  constructor
  · have e1 : i = ((i.toNat : Nat) : Int) := by omega
    rw [e1]
    refine atI_nat ?_
    rw [List.getElem?_map, List.getD_eq_getElem?_getD, Int.toNat_natCast, List.getElem?_eq_getElem hi]
    rfl
  · rw [List.getD_eq_getElem?_getD, List.getElem?_eq_getElem hi]
    exact List.getElem_mem hi
end Ev
set_option maxHeartbeats 4000000
namespace Ev
open PySem PySem.Spec PyProof.Rows L2
/-- x is True, x is False, x any value of a kind -/
def rIsT : R2 := fun x y H Q => ∃ (b : Bool) (k : Kn), y = .bl b ∧ Kd H x k ∧ Q (.bl (decide (x = .bl b))) H
theorem op_isT {X : Cx} : OpR X (compareOp .Is) rIsT := by
  intro pins s σ H x y v u Q I rx ry h
  obtain ⟨b, k, rfl, hk, q⟩ := h
  cases (show u = Value.bool b from ry)
  cases hk with
  | bl a =>
    refine op_isBl pins s σ H _ (.bl b) v _ Q I rx rfl ⟨a, b, rfl, rfl, ?_⟩
    have e : decide (V.bl a = V.bl b) = decide (a = b) := by
      by_cases z : a = b
      · subst z
        simp
      · rw [decide_eq_false z, decide_eq_false fun w => z (V.bl.inj w)]
    rw [e] at q
    exact q
  | non =>
    cases rx
    exact wpAny_is_other rfl (fun z => by cases z) ⟨.bl false, H, I, rfl, by simpa using q⟩
  | int i =>
    obtain ⟨t, rfl⟩ := rx
    exact wpAny_is_other rfl (fun z => by cases z) ⟨.bl false, H, I, rfl, by simpa using q⟩
  | str i =>
    obtain ⟨t, rfl⟩ := rx
    exact wpAny_is_other rfl (fun z => by cases z) ⟨.bl false, H, I, rfl, by simpa using q⟩
  | lst e =>
    cases rx
    exact wpAny_is_other rfl (fun z => by cases z) ⟨.bl false, H, I, rfl, by simpa using q⟩
  | tup e =>
    cases rx
    exact wpAny_is_other rfl (fun z => by cases z) ⟨.bl false, H, I, rfl, by simpa using q⟩
  | dic e =>
    cases rx
    exact wpAny_is_other rfl (fun z => by cases z) ⟨.bl false, H, I, rfl, by simpa using q⟩
end Ev
set_option maxHeartbeats 4000000
namespace LawK
open PySem PySem.Spec PyProof.Rows L2 Ev
theorem HandL.same {H H' : Hp} {p l : Addr} (k : Same H H') (h : HandL H p l) : HandL H' p l := by
  obtain ⟨cells, i, r, s, n, h1, h2, h3⟩ := h
  exact ⟨cells, i, r, s, n, k _ _ h1, k _ _ h2, h3⟩
theorem But.and {p : Addr} {H H1 H2 : Hp} (a : But p H H1) (k : Same H1 H2) : But p H H2 := fun b o n e => k b o (a b o n e)
theorem hand_ne {H : Hp} {p l' a : Addr} {o : HO} (h : HandL H p l') (e : H a = some o) (n : ∀ x1 x2 x3 x4 x5, o ≠ .lst [x1, x2, x3, x4, x5]) : a ≠ p := fun z => by
  obtain ⟨cells, i, r, s, m, h1, _⟩ := h
  rw [z, h1] at e
  exact n _ _ _ _ _ (Option.some.inj e).symm
theorem dt_but {H H' : Hp} {p l' : Addr} {v : V} {d : PyData} (h : Dt H v d) (hp : HandL H p l') (k : But p H H') : Dt H' v d := by
  induction h with
  | non => exact .non
  | bl b => exact .bl b
  | int i => exact .int i
  | str x => exact .str x
  | dic e => exact .dic (k _ _ (hand_ne hp e fun _ _ _ _ _ z => by cases z) e)
  | l0 e n => exact .l0 (k _ _ (hand_ne hp e fun _ _ _ _ _ z => by cases z) e) n
  | l1 e n _ ih => exact .l1 (k _ _ (hand_ne hp e fun _ _ _ _ _ z => by cases z) e) n ih
  | l2 e n _ _ i1 i2 => exact .l2 (k _ _ (hand_ne hp e fun _ _ _ _ _ z => by cases z) e) n i1 i2
  | t0 e => exact .t0 (k _ _ (hand_ne hp e fun _ _ _ _ _ z => by cases z) e)
  | t1 e _ ih => exact .t1 (k _ _ (hand_ne hp e fun _ _ _ _ _ z => by cases z) e) ih
  | t2 e _ _ i1 i2 => exact .t2 (k _ _ (hand_ne hp e fun _ _ _ _ _ z => by cases z) e) i1 i2
structure Hn (p l : Addr) (H H' : Hp) : Prop where
  at_ : HandL H' p l
  but : But p H H'
theorem HandL.ne {H : Hp} {p l q : Addr} (h : HandL H p l) (n : H q = none) : q ≠ p ∧ q ≠ l := by
  obtain ⟨cells, i, r, s, m, h1, h2, _⟩ := h
  exact ⟨fun z => (by rw [z, h1] at n; cases n), fun z => (by rw [z, h2] at n; cases n)⟩
theorem Hn.new {p l q : Addr} {H H' : Hp} {o : HO} (h : Hn p l H H') (n : H' q = none) : Hn p l H (upd H' q o) := ⟨h.at_.same (Same.new n), h.but.and (Same.new n)⟩
theorem Hn.trans {p l : Addr} {H H1 H2 : Hp} (a : Hn p l H H1) (b : Hn p l H1 H2) : Hn p l H H2 := ⟨b.at_, a.but.trans b.but⟩
theorem Hn.refl {p l : Addr} {H : Hp} (h : HandL H p l) : Hn p l H H := ⟨h, But.refl p H⟩
theorem Hn.go {p l : Addr} {H H1 H2 : Hp} (a : Hn p l H H1) (h : HandL H2 p l) (b : But p H1 H2) : Hn p l H H2 := ⟨h, a.but.trans b⟩
theorem Hn.same {p l : Addr} {H H1 H2 : Hp} (a : Hn p l H H1) (k : Same H1 H2) : Hn p l H H2 := ⟨a.at_.same k, a.but.and k⟩
/-- an object that is new since H, at q, changes -/
theorem Hn.at {p l q : Addr} {H H' : Hp} {o : HO} (h : Hn p l H H') (h0 : HandL H p l) (n : H q = none) : Hn p l H (upd H' q o) := by
  obtain ⟨n1, n2⟩ := h0.ne n
  refine ⟨?_, fun b u nb e => ?_⟩
  · obtain ⟨cells, i, r, s, m, h1, h2, h3⟩ := h.at_
    exact ⟨cells, i, r, s, m, by rw [upd_ne (Ne.symm n1)]; exact h1, by rw [upd_ne (Ne.symm n2)]; exact h2, h3⟩
  · rw [upd_ne (ne_of_none e n)]
    exact h.but b u nb e
theorem sqBut {K : PySem.W.Frag} {H H' : Hp} {p a : Addr} {xs : List V} (h : SqL K H a xs) (n : a ≠ p) (b : But p H H') : SqL K H' a xs := by
  rcases h with (h | ⟨o, h⟩) | h
  · exact .inl (.inl (b _ _ n h))
  · exact .inl (.inr ⟨o, b _ _ n h⟩)
  · exact .inr h
structure Dk (P : Program) (w : World) (K : PySem.W.Frag) (mg : Str → Option Value) (base : Heap) (x : Str) (st : Stmt) (ps : List Str) (k : Nat) (sp : Sp) (f : Addr) (fd : FuncData) : Prop where
  F : Fun K x x st f fd
  b : Binds K fd ps []
  g : mg x = some (.ref f)
  ok : FnOk P w K mg base CX0 k f fd ps sp
theorem len6 {z : Str} {n : Nat} (h : z.length ≤ n) (hn : n ≤ 5000 := by decide) : z.length ≤ sizeLine := len5 (Nat.le_trans h hn)
theorem sg_at {z : Str} {v : Int} (hz : sgB z = true) (h0 : 0 ≤ v) (h1 : v < (z.length : Int)) : ∃ c, atI z.cps.toList v = some c ∧ sgC c = true := by
  obtain ⟨c, e, hm⟩ := atI_in (xs := z.cps.toList) h0 (by rw [← len_S]; exact h1)
  exact ⟨c, e, sgB_mem hz hm⟩
theorem str_ok {ts : List Str} (hts : ∀ t ∈ ts, t.length ≤ 5000) {H : Hp} {y : V} (h : y ∈ ts.map V.str) : (∃ k, Kd H y k) ∧ Vs y := by
  obtain ⟨z, hz, rfl⟩ := List.mem_map.mp h
  refine ⟨⟨_, .str z⟩, fun w e => ?_⟩
  cases e
  exact hts z hz
theorem lit_ok {z : Str} (h : z.length ≤ 5000) {H : Hp} : (∃ k, Kd H (.str z) k) ∧ Vs (.str z) := ⟨⟨_, .str z⟩, fun w e => by
  cases e
  exact h⟩
theorem int_ok {i : Int} {H : Hp} : (∃ k, Kd H (.int i) k) ∧ Vs (.int i) := ⟨⟨_, .int i⟩, fun w e => by cases e⟩
theorem tup_ne {H : Hp} {p l a : Addr} {xs : List V} (h : HandL H p l) (e : H a = some (.tup xs)) : a ≠ p := hand_ne h e fun _ _ _ _ _ z => by cases z
theorem Kd.but {H H' : Hp} {p l : Addr} {x : V} {k : Kn} (h : Kd H x k) (h0 : HandL H p l) (h1 : HandL H' p l) (b : But p H H') : Kd H' x k := by
  cases h with
  | non => exact .non
  | bl b => exact .bl b
  | int i => exact .int i
  | str z => exact .str z
  | @lst a xs e =>
    by_cases z : a = p
    · obtain ⟨cells, i, r, s, m, h2, _⟩ := h1
      rw [z]
      exact .lst h2
    · exact .lst (b _ _ z e)
  | tup e => exact .tup (b _ _ (tup_ne h0 e) e)
  | dic e => exact .dic (b _ _ (hand_ne h0 e fun _ _ _ _ _ z => by cases z) e)
theorem Tg.but {H H' : Hp} {p l : Addr} {x : V} {o : Option (List V)} (h : Tg H x o) (h0 : HandL H p l) (h1 : HandL H' p l) (b : But p H H') : Tg H' x o := by
  cases h with
  | no h n s => exact .no (Kd.but h h0 h1 b) n s
  | tup e n h => exact .tup (b _ _ (tup_ne h0 e) e) n fun y hy => ⟨let ⟨k, q⟩ := (h y hy).1; ⟨k, Kd.but q h0 h1 b⟩, (h y hy).2⟩
/-- what a thing's texts may be -/
inductive All2 {α β : Type} (R : α → β → Prop) : List α → List β → Prop
  | nil : All2 R [] []
  | cons {x : α} {y : β} {xs : List α} {ys : List β} (h : R x y) (t : All2 R xs ys) : All2 R (x :: xs) (y :: ys)
theorem All2.imp {α β : Type} {R S : α → β → Prop} {xs : List α} {ys : List β} (f : ∀ x y, R x y → S x y) (h : All2 R xs ys) : All2 S xs ys := by
  induction h with
  | nil => exact .nil
  | cons h _ ih => exact .cons (f _ _ h) ih
theorem All2.len {α β : Type} {R : α → β → Prop} {xs : List α} {ys : List β} (h : All2 R xs ys) : xs.length = ys.length := by
  induction h with
  | nil => rfl
  | cons _ _ ih => exact congrArg (· + 1) ih
theorem All2.at {α β : Type} {R : α → β → Prop} {xs : List α} {ys : List β} (h : All2 R xs ys) : ∀ {i : Nat} {x : α}, xs[i]? = some x → ∃ y, ys[i]? = some y ∧ R x y := by
  induction h with
  | nil => intro i x e; simp at e
  | cons r _ ih =>
    intro i x e
    cases i with
    | zero => cases e; exact ⟨_, rfl, r⟩
    | succ i => exact ih e
theorem All2.snoc {α β : Type} {R : α → β → Prop} {xs : List α} {ys : List β} {x : α} {y : β} (h : All2 R xs ys) (r : R x y) : All2 R (xs ++ [x]) (ys ++ [y]) := by
  induction h with
  | nil => exact .cons r .nil
  | cons r1 _ ih => exact .cons r1 ih
theorem sne {a b : Str} (h : a ≠ b) {A B : Prop} (k : B) : if decide (V.str a = V.str b) = true then A else B := by
  rw [decide_eq_false (fun z => h (V.str.inj z))]
  exact iteF k
theorem seq {a : Str} {A B : Prop} (k : A) : if decide (V.str a = V.str a) = true then A else B := by
  rw [decide_eq_true rfl]
  exact iteT k
end LawK
set_option maxHeartbeats 8000000
/-! enumerate over a tuple, as a walk. -/
namespace Ev
open PySem PySem.Spec PyProof.Rows L2
abbrev enObj (it : Addr) : Obj := { cls := .type "enumerate", data := .fields #[.none, .bool false, .ref it, rawInt 0, .none, .none] }
theorem enum_new1 {v : Value} {o : Obj} {Hh : Heap → Prop} (B : Begins v o Hh) :
    Meets (Builtin.«enumerate.__new__» ⟨[.type "enumerate", v], []⟩)
      (fun _ R s => Hh s.heap ∧ R (.ok (.ret (.ref (s.heap.push o).objs.size))) { s with heap := (s.heap.push o).push (enObj s.heap.objs.size) }) := by
  refine .of_wp fun prog w A R s hh => ?_
  obtain ⟨hp, g, d, tk, os⟩ := s
  obtain ⟨hv, hR⟩ := hh
  have hs := sub_enumerate
  have qi : ∀ {B' : Around} {E : Value → Shared → Prop} {Q : Value → Shared → Prop}, Q (.ref hp.objs.size) ⟨hp.push o, g, d, tk, os⟩ →
      wpAny (model prog w) B' (pyIter v) Q E ⟨hp, g, d, tk, os⟩ := fun q => B.iter prog w _ _ ⟨hp, g, d, tk, os⟩ _ hv q
  wp_walk using qi
  apply wpAny_stack_any
  intro st
  apply wpAny_pure
  split
  · rename_i c _ _ _ _ _
    cases (c == Value.type "enumerate") <;> (wp_walk using qi; exact ⟨_, rfl, hR⟩)
  · wp_walk using qi
    exact ⟨_, rfl, hR⟩
theorem enum_call {prog : Program} {w : World} {A : Around} {E : Value → Shared → Prop} {s : Shared} {v : Value} {o : Obj} {Hh : Heap → Prop} {Q : Value → Shared → Prop} (B : Begins v o Hh) (hv : Hh s.heap)
    (h : ∀ h', IsEnum h' (s.heap.objs.size + 1) s.heap.objs.size 0 .none → h'.get? s.heap.objs.size = some o → (∀ b u, s.heap.get? b = some u → h'.get? b = some u) →
      Q (.ref (s.heap.objs.size + 1)) { s with heap := h' }) : wpAny (model prog w) A (call (.type "enumerate") [v]) Q E s := by
  have m := enum_new1 B
  refine callType_new F.called_enumerate (by decide) (F.typeCall_enumerate_1 _) (F.newCall_enumerate_1 _) (fun obj => F.args_object_init_2 obj _) F.entry_enumerate_new m ⟨hv, ?_⟩
  have hsz : (s.heap.push o).objs.size = s.heap.objs.size + 1 := Heap.size_push ..
  show _ ∧ _
  rw [hsz]
  have hat : ((s.heap.push o).push (enObj s.heap.objs.size)).get? (s.heap.objs.size + 1) = some (enObj s.heap.objs.size) := by
    have z := Heap.get?_push_size (s.heap.push o) (o := enObj s.heap.objs.size) rfl
    rw [hsz] at z
    exact z
  exact ⟨⟨_, hat, rfl⟩, h _ hat (Heap.get?_push_of_some _ (Heap.get?_push_size _ B.free)) fun b u x => Heap.get?_push_of_some _ (Heap.get?_push_of_some _ x)⟩
/-- the tuple at a as it stands at each turn, each item in a new pair -/
def Iten (K : PySem.W.Frag) (a : Addr) : It :=
  ⟨fun i H => ∃ (xs : List V) (x : V), SqT K H a xs ∧ xs[i]? = some x,
   fun i H v H' => ∃ T x, v = .ref T ∧ H T = none ∧ H' = upd H T (.tup [.int (i : Nat), x]) ∧ ∀ xs, SqT K H a xs → xs[i]? = some x,
   fun i H => ∃ xs : List V, SqT K H a xs ∧ xs.length ≤ i⟩
theorem turn_en {P : Program} {w : World} {K : PySem.W.Frag} {elts : List Expr} {kk : Nat} {tpos : Pos} (a e it : Addr) :
    Turn P w K (.Tuple elts kk tpos) (Iten K a) [e, it] e (fun i h => (∃ old, IsEnum h e it ((i : Nat) : Int) old) ∧ h.IsTupleIter it a i ∧ e ≠ it ∧ a ≠ it ∧ a ≠ e) where
  mem := List.mem_cons_self
  obj := by
    rintro i h ⟨⟨old, he⟩, ⟨o, ho, hc, hd⟩, _⟩ b hb
    rcases List.mem_cons.mp hb with rfl | hb
    · exact ⟨_, he, fun v q => by cases q⟩
    · obtain rfl := List.mem_singleton.mp hb
      exact ⟨o, ho, fun v q => by rw [hd] at q; cases q⟩
  keep := by
    rintro i h h' ⟨⟨old, he⟩, hi, hn⟩ k
    exact ⟨⟨old, k e (by simp) _ he⟩, hi.at fun o q => k it (by simp) o q, hn⟩
  item := by
    intro X hP hw hK hc i pins s σ H E I hf st hg
    subst hP hw hK
    obtain ⟨⟨old, he⟩, hit, hne, hai, hae⟩ := st
    obtain ⟨xs, x, hq, hx⟩ := hg
    obtain ⟨its, rv, p, hz⟩ := I.tuple hq
    obtain ⟨u, hu, ru⟩ := rv.get hx
    have hel : e < s.heap.objs.size := Heap.lt_size he
    have hil : it < s.heap.objs.size := by
      obtain ⟨_, q, _⟩ := hit
      exact Heap.lt_size q
    have hlt : i < its.toArray.size := by
      rw [List.size_toArray]
      exact (List.getElem?_eq_some_iff.mp hu).1
    have D := Draws.tuple (prog := X.prog) (w := X.w) (A := X.A.in1) (I.ok.hd hc) it a hai its.toArray
    refine wpAny_pyNext_enum_itemD D he ⟨hit, (show s.heap.IsTuple a its.toArray from p)⟩ hlt hne (by simp [hne, Ne.symm hae]) fun y h' tk hy ho hst hT hsz hk => ?_
    have ey : y = u := by
      have z : its.toArray[i]? = some y := hy
      rw [List.getElem?_toArray, hu] at z
      exact (Option.some.inj z).symm
    subst ey
    refine ⟨_, rfl, ?_⟩
    refine wpAny_letOwnedTupleGo_enum (s := ⟨h', s.gens, s.drawn, tk + 1, s.os⟩) ho ?_
    intro h2 he2 sb
    have at2 : h2.get? s.heap.objs.size = some { cls := .type "tuple", data := .seq #[.int i tk, y] } := by
      rw [sb.2 _ (Nat.ne_of_gt hel)]
      exact hT
    have cell : ObjOk X.prog X.w (upd H s.heap.objs.size (.tup [.int (i : Nat), x])) h2 s.heap.objs.size (.tup [.int (i : Nat), x]) := by
      refine ⟨by show 2 ≤ sizeLine; decide, [.int i tk, y], .cons ⟨_, rfl⟩ (.cons ru .nil), ⟨_, at2, rfl, _, rfl⟩⟩
    have far : ∀ b ob, b ∉ [e, it] → s.heap.get? b = some ob → h2.get? b = some ob := fun b ob hb q => by
      have n1 : b ≠ e := fun z => hb (by simp [z])
      have n2 : b ≠ it := fun z => hb (by simp [z])
      rw [sb.2 b n1]
      exact hk b ob n1 n2 q
    have J := I.turnedNew (ch := [e, it]) (t' := tk + 1) far hf (Nat.le_refl _) cell
    refine ⟨.ref s.heap.objs.size, _, J, rfl, ⟨_, x, rfl, I.hok.fresh (Nat.le_refl _), rfl, fun ys hy => by rw [I.tuple_inj hy hq]; exact hx⟩, ⟨⟨y, ?_⟩, ?_, hne, hai, hae⟩, fun b hb => ?_⟩
    · have e1 : ((i + 1 : Nat) : Int) = (i : Int) + 1 := by omega
      rw [e1]
      exact he2
    · exact hst.1.at fun o q => by
        rw [sb.2 it (Ne.symm hne)]
        exact q
    · have lt : b < s.heap.objs.size := by
        rcases List.mem_cons.mp hb with rfl | hb
        · exact hel
        · obtain rfl := List.mem_singleton.mp hb
          exact hil
      rw [upd_ne (Nat.ne_of_lt lt)]
      exact (hf b hb).1
  done := by
    intro X hP hw hK hc i pins s σ H E I hf st hg
    subst hP hw hK
    obtain ⟨⟨old, he⟩, hit, hne, hai, hae⟩ := st
    obtain ⟨xs, hq, hx⟩ := hg
    obtain ⟨its, rv, p, hz⟩ := I.tuple hq
    obtain ⟨f0, f1, f2, f3, f4, f5⟩ := hf it (by simp)
    have hl := rv.length
    have none_i : its.toArray[i]? = none := by
      rw [List.getElem?_toArray, List.getElem?_eq_none_iff]
      omega
    have D : Draws X.prog X.w X.A.in1 it [it, a] i (fun j v => its.toArray[j]? = some v) (fun j h => (h.IsTupleIter it a j ∧ h.IsTuple a its.toArray) ∧ i ≤ j) :=
      { live := fun _ _ st => let ⟨o, ho, _⟩ := st.1.1; ⟨o, ho⟩
        frame := fun _ _ _ st hk => ⟨⟨st.1.1.at fun o e => hk it (by simp) o e, st.1.2.at fun o e => hk a (by simp) o e⟩, st.2⟩
        item := fun j _ _ _ hj st _ => absurd st.2 (by omega)
        done := fun s Q E st hE => wpAny_nextOf_tuple_end (I.ok.hd hc) st.1.1 st.1.2 none_i hE }
    refine wpAny_pyNext_enum_endD D he ⟨⟨hit, (show s.heap.IsTuple a its.toArray from p)⟩, Nat.le_refl _⟩ fun h' eb => ⟨rfl, ?_⟩
    exact I.turned (t' := s.toks) (fun b o hb q => eb b o hb q) f0 f1 f3 f4 f5
  self := fun A i s Q E st h => by
    obtain ⟨⟨_, he⟩, _⟩ := st
    exact wpAny_pyIter_enum he h
def iEnumT (K : PySem.W.Frag) (ta : TA) : TI := fun σ H R => ta σ H fun vs H1 => ∃ a xs, vs = [.ref a] ∧ SqT K H1 a xs ∧ R (Iten K a) H1
theorem pi_enumT {X : Cx} {e : Expr} {ta : TA} {p pos tpos : Pos} {elts : List Expr} {kk : Nat} (hg : Gl X "enumerate") (hm : X.mg "enumerate" = none) (ha : PA X [e] ta) (hs : starEach [e] X.env = [(false, eval e X.env)] := by rfl) :
    PI X (.Tuple elts kk tpos) (.Call (.Name "enumerate" p) [e] [] pos) (iEnumT X.K ta) := by
  constructor
  intro pins s σ H R I h
  refine Call_ (ld_blt I hg hm boot_enumerate (PyProof.Rows.callWith_type1 (thn (ha.run pos pins s σ H _ I h) ?_) hs rfl))
  rintro us s1 ⟨vs, H1, I1, r1, a, xs, rfl, hq, q⟩
  obtain ⟨u, rfl, ru⟩ := vals1 r1
  cases ru
  obtain ⟨its, rv, p', hz⟩ := I1.tuple hq
  have hal : a < s1.heap.objs.size := by
    obtain ⟨o, ho, _⟩ := p'
    exact Heap.lt_size ho
  refine enum_call (begins_tuple a its.toArray) (show s1.heap.IsTuple a its.toArray from p') fun h' he hit hk => wpAny_pyIter_enum he ?_
  have I2 : Inv X pins σ H1 { s1 with heap := h' } := I1.kept (t' := s1.toks) hk
  refine ⟨s1.heap.objs.size + 1, [s1.heap.objs.size + 1, s1.heap.objs.size], _, _, H1, rfl, I2, turn_en a (s1.heap.objs.size + 1) s1.heap.objs.size, ⟨⟨.none, he⟩, ⟨_, hit, rfl, rfl⟩, Nat.succ_ne_self _, Nat.ne_of_lt hal, Nat.ne_of_lt (Nat.lt_succ_of_lt hal)⟩, fun b hb => ?_, q⟩
  have hle : s1.heap.objs.size ≤ b := by
    rcases List.mem_cons.mp hb with rfl | hb
    · exact Nat.le_succ _
    · obtain rfl := List.mem_singleton.mp hb
      exact Nat.le_refl _
  exact I1.fpOk hle (I1.hok.fresh hle)
/-- for i, x in enumerate(t) -/
theorem for_enT {K : PySem.W.Frag} {a : Addr} {xs : List V} {g : TG} {tb : TS} {D : Ends} {σ : L2.St} {H : Hp} (Pv : Nat → L2.St → Hp → Prop) (h0 : Pv 0 σ H) (hl : ∀ i σ H, Pv i σ H → SqT K H a xs)
    (hs : ∀ (i : Nat) x σ H, xs[i]? = some x → Pv i σ H → ∀ T, H T = none → g (.ref T) σ (upd H T (.tup [.int (i : Nat), x])) fun σ2 H2 => tb { D with nx := Pv (i + 1), ct := Pv (i + 1), bk := D.nx } σ2 H2) (hd : ∀ σ H, Pv xs.length σ H → D.nx σ H) :
    ∃ W : Nat → Nat → L2.St → Hp → Prop, (∃ m, W 0 m σ H) ∧ ∀ i m σ H, W i m σ H →
      ((Iten K a).stop i H ∧ D.nx σ H) ∨ ((Iten K a).go i H ∧ ∃ N : L2.St → Hp → Prop, (∀ σ' H', N σ' H' → ∃ m', m' < m ∧ W (i + 1) m' σ' H') ∧ ∀ x H', (Iten K a).yld i H x H' → g x σ H' fun σ2 H2 => tb { D with nx := N, ct := N, bk := D.nx } σ2 H2) := by
  refine ⟨fun i m σ H => m = xs.length - i ∧ i ≤ xs.length ∧ Pv i σ H, ⟨xs.length, by simp, Nat.zero_le _, h0⟩, ?_⟩
  rintro i m σ H ⟨rfl, hi, p⟩
  have q := hl i σ H p
  by_cases hlt : i < xs.length
  · refine .inr ⟨⟨xs, xs[i], q, List.getElem?_eq_getElem hlt⟩, Pv (i + 1), fun σ' H' p' => ⟨xs.length - (i + 1), by omega, rfl, hlt, p'⟩, fun v H' y => ?_⟩
    obtain ⟨T, x, rfl, nT, rfl, hx⟩ := y
    exact hs i x σ H (hx xs q) p T nT
  · have e : i = xs.length := by omega
    subst e
    exact .inl ⟨⟨xs, q, Nat.le_refl _⟩, hd σ H p⟩
end Ev
set_option maxHeartbeats 4000000
/-! Own errors whose __init__ says super().__init__() and nothing else. -/
namespace Ev
open PySem PySem.W PySem.Calls PyProof.Rows L2

abbrev supArgs (p : Pos) : Arguments := { posonlyargs := [], args := [{ arg := "self", annotation := none, pos := p }], vararg := none, kwonlyargs := [], kw_defaults := [], kwarg := none, defaults := [] }
abbrev supBody (p0 p1 p2 p3 p4 : Pos) : List Stmt := [.Expr (.Call (.Attribute (.Call (.Name "super" p0) [] [] p1) "__init__" p2) [] [] p3) p4]

abbrev supScope : Scope := { kind := .function, names := [(PySem.Str.ofString "self", .local), (PySem.Str.ofString "__class__", .free), (PySem.Str.ofString "super", .globalImplicit)], isGenerator := false, isCoroutine := false, more := [] }
theorem sup_l1 : supScope.names.lookup ("self" : Str) = some .local := by decide +kernel
theorem sup_l2 : supScope.names.lookup ("super" : Str) = some .globalImplicit := by decide +kernel
theorem sup_l3 : supScope.names.lookup ("__class__" : Str) = some .free := by decide +kernel
/-- what the written part tells of such a class at C, whose __init__ stands at fI -/
structure SupC (P : Program) (K : Frag) (mg : Str → Option Value) (C fI : Addr) : Prop where
  oex : OexC K C
  ini : findIn K (.ref C) "__init__" = some (some (.ref fI))
  tyI : typeIn K (.ref fI) = some (.type "function")
  fn : ∃ (oc : Value) (od : Option Addr) (qual : Str) (kV doc pm ct : Value) (an : Option Addr) (cda cc : Addr) (osl : Array (Option Value)) (p p0 p1 p2 p3 p4 : Pos) (ccl : Value) (cdd : Option Addr) (vs : Array Value) (ccs : Array (Option Value)) (file : Str) (tf : Tok) (cl : Value) (cld : Option Addr) (csl : Array (Option Value)),
    K.lookup fI = some ⟨oc, od, .func (ksFn "__init__" qual (supArgs p) (supBody p0 p1 p2 p3 p4) supScope .none kV doc pm an (.ref cda) ct cc), osl⟩ ∧ codeIn K (.ref cda) qual = true ∧
    K.lookup cda = some ⟨ccl, cdd, .fields vs, ccs⟩ ∧ vs[2]? = some (.str file tf) ∧ ((P.main.file : Str) == file) = true ∧ K.lookup cc = some ⟨cl, cld, .cell (some (.ref C)), csl⟩ ∧
    (p2.endLine == p3.line) = true
  gs : mg "super" = none
  top : (P.main.scope.names.lookup ("super" : Str)).isSome = false
  third : nsIn K cStatics "thirdparty.any" = some none
  sup : ks_superIn K C C "__init__" = some (some (.builtin "ValueError.__init__"))
  ve : subIn K (.ref C) (.type "ValueError") = some true
  me : mroIn K C (.ref C) = some true

theorem sup_eval {env : Env} {p0 p1 p2 p3 : Pos} (h : (p2.endLine == p3.line) = true) : eval (.Call (.Attribute (.Call (.Name "super" p0) [] [] p1) "__init__" p2) [] [] p3) env = (do
      let ov ← attributeBase (.Call (.Name "super" p0) [] [] p1) "__init__" env (eval (.Call (.Name "super" p0) [] [] p1) env)
      standAt p2.atName
      let (f, first) ← holding [ov] (getMethod ov "__init__" (do return (← importBound (.Call (.Name "super" p0) [] [] p1) env).getD true))
      callWith p3 f first (backTo p3 (starEach [] env)) []) := by
  have e : methodCallPos true (.Call (.Name "super" p0) [] [] p1) env p2 p3 = pure p3 := by
    unfold methodCallPos
    rw [h]
    rfl
  show (do
    let ov ← attributeBase (.Call (.Name "super" p0) [] [] p1) "__init__" env (eval (.Call (.Name "super" p0) [] [] p1) env)
    standAt p2.atName
    let (f, first) ← holding [ov] (getMethod ov "__init__" (do return (← importBound (.Call (.Name "super" p0) [] [] p1) env).getD true))
    let callPos ← methodCallPos true (.Call (.Name "super" p0) [] [] p1) env p2 p3
    callWith callPos f first (backTo p3 (starEach [] env)) []) = _
  rw [e]
  rfl
theorem boot_super : bootBuiltins "super" = some (.type "super") := by first | boot_by_name | rfl | kernel_rfl

section
variable {P : Program} {w : World} {A : Around} {E : Value → Shared → Prop} {K : Frag} {mg mb : Str → Option Value} {C fI x t0 : Addr} {h : Heap} {g : Array GenState} {d : Drawn} {tk : Nat} {os : OsState}

/-- the wrapper that super().__init__ gives, called: the args are laid anew -/
theorem bound_init {u : Addr} {Q : Value → Shared → Prop} (T : OexC K C) (X : K.In h) (hu : h.get? u = some (kxs_mw "ValueError.__init__" x)) (hx : h.get? x = some (PySem.HandSPX.excO C t0))
    (hq : ∀ h' t1, (∀ b o, b ≠ x → h.get? b = some o → h'.get? b = some o) → h'.get? x = some (PySem.HandSPX.excO C t1) → Q .none ⟨h', g, d, tk, os⟩) :
    wpAny (model P w) A (call (.ref u) []) Q E ⟨h, g, d, tk, os⟩ := by
  obtain ⟨nm, q, N, bs, bm, sn, sub, ab, col, dd, k0, k1, k2, k3, k5, hC, hbm⟩ := T.cls
  refine wpAny_call (codeAny_of_tree ?_)
  show wpAny _ A.in1 (callAny (.ref u) ⟨[], []⟩) _ _ _
  simp only [callAny]
  refine wpAny_bind (wpAny_load hu ?_)
  simp only [kxs_mw, show (Value.type "method-wrapper" == Value.type "method" || Value.type "method-wrapper" == Value.type "builtin_function_or_method" || Value.type "method-wrapper" == Value.type "method-wrapper") = true by decide, if_true]
  refine KFB.if_so (by decide) ?_
  refine wpAny_bind (check_bound_init F.excBase_ValueError.toExcCallFacts (X _ _ hC) hx rfl ?_)
  refine wpAny_bind (wpAny_pure (wpAny_pure ?_))
  refine ⟨plainId_quiet F.excBase_ValueError.init.plain _, codeAny_builtin F.excBase_ValueError.initEntry ?_⟩
  exact exc_init_tree (cls := .ref C) (t0 := t0) (dv := none) (c2 := .none) (c3 := .none) (b4 := .bool false) hx (by rw [sizeLine_eq]; exact Nat.zero_le _) fun h' k e _ => hq h' h.objs.size k e

theorem sup_init {R : Result → Shared → Prop} {s : Shared} (T : SupC P K mg C fI) (hroom : A.depth < recursionLimit) (X : K.In s.heap) (hlim : s.heap.NoLimit) (G : s.heap.Ns mainGlobals mg) (B : s.heap.Ns builtinsNs mb)
    (hbb : ∀ y : Str, y ≠ "__name__" → mb y = bootBuiltins y) (hx : s.heap.get? x = some (PySem.HandSPX.excO C t0))
    (hq : ∀ h' t' t1, (∀ b o, b ≠ x → s.heap.get? b = some o → h'.get? b = some o) → h'.get? x = some (PySem.HandSPX.excO C t1) → R (.ok (.ret .none)) { s with heap := h', toks := t' }) :
    codeAny (model P w) A (.call (.ref fI) ⟨[.ref x], []⟩) R s := by
  obtain ⟨oc, od, qual, kV, doc, pm, ct, an, cda, cc, osl, p, p0, p1, p2, p3, p4, ccl, cdd, vs, ccs, file, tf, cl, cld, csl, ho, hcd, hcode, hvs, hfile, hcell, hline⟩ := T.fn
  refine ks_codeAny_call_defAt (fd := ksFn "__init__" qual (supArgs p) (supBody p0 p1 p2 p3 p4) supScope .none kV doc pm an (.ref cda) ct cc) (body := supBody p0 p1 p2 p3 p4) (binds := [("self", .ref x)]) hroom (X _ _ ho) rfl hlim (codeRec_of X hcd) rfl
    (BindsTo.of_eq rfl) (by show ∀ y ∈ supScope.names, y.2 ≠ .cell; decide) (fun y hy => ?_) (fun h₁ hns k₁ => ?_)
  · obtain rfl : y = (("self" : Str), Value.ref x) := List.mem_singleton.mp hy
    exact sup_l1
  obtain ⟨hp, g, d, tk, os⟩ := s
  have X₁ : K.In h₁ := X.keeps k₁
  have hx₁ : h₁.get? x = some (PySem.HandSPX.excO C t0) := k₁ _ _ hx
  have G₁ : h₁.Ns mainGlobals mg := G.keeps k₁
  have B₁ : h₁.Ns builtinsNs mb := B.keeps k₁
  obtain ⟨nm, q, N, bs, bm, sn, sub, ab, col, dd, q0, q1, q2, q3, q5, hC, hbm⟩ := T.oex.cls
  show _root_.PySem.wpAt _ _ _ (execs (supBody p0 p1 p2 p3 p4) (ksEnv qual supScope hp.objs.size fI (.ref cda) cc)) _ _ _
  refine ks_wpAt_execs_cons (ks_wpAt_Expr_any (ks_wpAt_MethodCall ?_ (sup_eval hline)))
  refine ks_wpAt_super_base (env := ksEnv qual supScope hp.objs.size fI (.ref cda) cc) sup_l2 sup_l3 (by decide) rfl (X₁ _ _ ho) rfl rfl rfl (X₁ _ _ hcode) rfl hvs hfile T.top ?_
  refine ks_loadName_global rfl sup_l2 (loadGlobal_builtin (env := ksEnv qual supScope hp.objs.size fI (.ref cda) cc) G₁ T.gs B₁ ((hbb _ (by decide +kernel)).trans boot_super) ⟨rfl, ?_⟩)
  refine wpAny_loadName_free rfl sup_l3 rfl ⟨_, X₁ _ _ hcell, rfl⟩ ?_
  refine wpAny_loadName_local rfl sup_l1 hns (v := .ref x) (by show List.lookup ("self" : Str) [(("self" : Str), Value.ref x)] = some (Value.ref x); simp [List.lookup]) ?_
  refine ks_wpAny_isType_cls (X₁ _ _ hC) rfl ⟨rfl, ?_⟩
  have I : InstAt h₁ x (PySem.HandSPX.excO C t0) C none := ⟨hx₁, rfl, rfl, trivial⟩
  refine ks_wpAny_call_super (X₁ _ _ hC) rfl I.at_ I.cls (fun c e => by cases e) (looks_mroIn X₁ T.me) (fun h' e k => ?_)
  have X₂ : K.In h' := X₁.keeps k
  have hx₂ : h'.get? x = some (PySem.HandSPX.excO C t0) := k _ _ hx₁
  have I₂ : InstAt h' x (PySem.HandSPX.excO C t0) C none := ⟨hx₂, rfl, rfl, trivial⟩
  have hsu := T.sup
  unfold ks_superIn at hsu
  have hcl : clsIn K C = some { name := nm, bases := bs, mro := .ref C :: bm, ns := N, qualname := q, hasDict := true, slotNames := sn, subclasses := sub, abstract := ab, collection := col, hasDel := false } := by unfold clsIn; rw [hC] <;> rfl
  rw [hcl] at hsu
  refine kxs_getMethod kxs_ValueError e (looks_opaque X₂ T.third) (l₀ := .ref C :: bm) ?_ rfl X₂ hsu (I₂.type.andThen (looks_subIn X₂ T.ve)) (ks_ne X₂ I₂ hcl) (by decide) ?_
  · exact fun A Q E s k q => wpAny_bind ((looks_clsIn X₂ hcl) A _ E s k (wpAny_pure q))
  have hne : h'.objs.size ≠ x := Nat.ne_of_gt (Heap.lt_size hx₂)
  have k2 : ∀ b o, h'.get? b = some o → (h'.push (kxs_mw "ValueError.__init__" x)).get? b = some o := fun b o z => Heap.get?_push_of_some _ z
  have hmw : (h'.push (kxs_mw "ValueError.__init__" x)).get? h'.objs.size = some (kxs_mw "ValueError.__init__" x) := Heap.get?_push_at rfl rfl
  refine kxs_callWith (i := "ValueError.__init__") (x := x) rfl (evalArgs_empty ⟨hmw, ?_⟩)
  refine bound_init T.oex (X₂.keeps k2) hmw (k2 _ _ hx₂) fun h3 t1 k3 hx3 => ?_
  exact wpAt_of_wpAny (wpAny_execs_nil (hq h3 _ t1 (fun b o hb z => k3 b o hb (k2 b o (k b o (k₁ b o z)))) hx3))
end
end Ev
set_option maxHeartbeats 4000000
/-! Rules for own errors as values: made, asked by isinstance, their fields read. -/
namespace Ev
open PySem PySem.Spec PyProof.Rows L2

section
variable {X : Cx} {x : Str} {C fI : Addr} {p pos : Pos}
theorem make_room {k : Nat} {A : Around} (hr : Room k A) {us : List Value} : (A.under (.builtin "type.__call__" ⟨.ref C :: us, []⟩)).depth < recursionLimit := by
  rw [make_depth]
  have := hr.dp
  omega
/-- C() of a class whose __init__ is super().__init__(): what stands behind it -/
theorem run_exc0 {pins : List (Addr × Obj)} {s : Shared} {σ : L2.St} {H : Hp} {k : Nat} {Q : Value → Shared → Prop} (T : SupC X.prog X.K X.mg C fI) (hr : Room k X.A) (I : Inv X pins σ H s)
    (h : ∀ h' tk a t1, s.heap.objs.size ≤ a → (∀ b o, s.heap.get? b = some o → h'.get? b = some o) → h'.get? a = some (PySem.HandSPX.excO C t1) → Q (.ref a) { s with heap := h', toks := tk }) :
    wpAny (model X.prog X.w) X.A (call (.ref C) []) Q X.xe s := by
  obtain ⟨nm, q, N, bs, bm, sn, sub, ab, col, dd, k0, k1, k2, k3, k5, hC, hbm⟩ := T.oex.cls
  obtain ⟨mb, hb1, hb2⟩ := I.mod.blt
  have kX := I.kIn
  have lim := I.nolimit
  have g1 := I.mod.glob.keeps I.bk
  have b1 := hb1.keeps I.bk
  obtain ⟨hp, g, dr, tk, os⟩ := s
  have kk : ∀ b o, hp.get? b = some o → ((hp.push (PySem.W.kdv_tup [])).push (PySem.HandSPX.excO C hp.objs.size)).get? b = some o := fun b o e => Heap.get?_push_of_some _ (Heap.get?_push_of_some _ e)
  have hget : ((hp.push (PySem.W.kdv_tup [])).push (PySem.HandSPX.excO C hp.objs.size)).get? (hp.objs.size + 1) = some (PySem.HandSPX.excO C hp.objs.size) := by heap_get
  refine wpAny_call (PySem.HandSPX.call_own F.excBase_ValueError (fun Y => PySem.HandSPX.refsVE_contains Y bm hbm) (kX _ _ hC) (PySem.W.looks_findIn kX T.ini) (fun self => PySem.W.bind_fn kX self T.tyI) (by rw [sizeLine_eq]; exact Nat.zero_le _)
    (sup_init (s := ⟨(hp.push (PySem.W.kdv_tup [])).push (PySem.HandSPX.excO C hp.objs.size), g, dr, tk, os⟩) T (make_room hr) (kX.keeps kk) (lim.keeps kk) (g1.keeps kk) (b1.keeps kk) hb2 hget fun h' t' t1 k' hx => ⟨rfl, ?_⟩))
  exact h h' t' (hp.objs.size + 1) t1 (Nat.le_succ _) (fun b o e => k' b o (Nat.ne_of_lt (Nat.lt_succ_of_lt (Heap.lt_size e))) (kk b o e)) hx
def tExc0 (C : Addr) : TE := fun _ H Q => ∀ a, H a = none → Q (.ref a) (upd H a (exo a C none))
theorem pe_exc0 {k : Nat} (T : SupC X.prog X.K X.mg C fI) (hr : Room k X.A) (hg : Gl X x) (hm : X.mg x = some (.ref C)) (hdb : (x == ("__debug__" : Str)) = false := by decide) : PE X (.Call (.Name x p) [] [] pos) (tExc0 C) := by
  refine ⟨fun pins s σ H Q I h => ?_⟩
  refine wpAny_Call_Name_kw (ld_glob I hg hm ?_ hdb)
  refine PySem.W.callWith_K0 I.kIn T.oex.kC ?_
  show wpAny _ _ (call (.ref C) []) _ _ _
  refine run_exc0 T hr I fun h' tk a t1 ha k e => ?_
  exact ⟨.ref a, upd H a (exo a C none), I.laid k ha (exo_ok e), rfl, h a (I.hok.fresh ha)⟩
/-- raised at once -/
theorem pmk_exc0 {k : Nat} (T : SupC X.prog X.K X.mg C fI) (hr : Room k X.A) (hg : Gl X x) (hm : X.mg x = some (.ref C)) (hdb : (x == ("__debug__" : Str)) = false := by decide) : PMk X (.Call (.Name x p) [] [] pos) (fun _ H Q => Q (.ref C) none H) := by
  intro pins s σ H Q I h
  refine wpAny_Call_Name_kw (ld_glob I hg hm ?_ hdb)
  refine PySem.W.callWith_K0 I.kIn T.oex.kC ?_
  show wpAny _ _ (call (.ref C) []) _ _ _
  refine run_exc0 T hr I fun h' tk a t1 ha k e => ?_
  refine ⟨a, _, _, s, H, .ref C, none, rfl, I, k, ?_, e, ⟨rfl, rfl⟩, rfl, rfl, I.hok.fresh ha, rfl, I.bare, raises_own T.oex.exC T.oex.tyC, h⟩
  exact Heap.get?_none_of_le ha
end

/-! ### __init__(self, f): self.f = f -/
structure Ini1 (st : Stmt) (f : Str) : Prop where
  body : ∃ q1 q2 q3 q4, defBody st = [.Assign [.Attribute (.Name "self" q1) f q2] (.Name f q3) q4]
  sc : FnScope ["self", f] ["self", f] (defScope st)
  l0 : (defScope st).names.lookup ("self" : Str) = some .local
  l1 : (defScope st).names.lookup f = some .local
  d1 : (f == ("__debug__" : Str)) = false
  d2 : (f == ("__classdict__" : Str)) = false
def spIni1 (C : Addr) (f : Str) : Sp := fun vs H Q _ => ∃ (a : Addr) (v : V), vs = [.ref a, v] ∧ H a = some (exo a C none) ∧ ∀ dx, H dx = none → dx ≠ a → Q .non (upd (upd H dx (exd dx [(f, v)])) a (exo a C (some dx)))
section
variable {P : Program} {w : World} {K : PySem.W.Frag} {mg : Str → Option Value} {base : Heap} {C : Addr}
theorem ok_ini1 {qual f : Str} {st : Stmt} {fI : Addr} {fd : FuncData} (F : Fun K "__init__" qual st fI fd) (S : Ini1 st f) (T : OexC K C) (hno : PySem.W.findIn K (.ref C) f = some none) : FnOk P w K mg base CX0 1 fI fd ["self", f] (spIni1 C f) := by
  refine F.ok S.sc (fun vs H Q E h => ?_) (fun cdv A outer s H vs Q E hr h => ?_)
  · obtain ⟨a, v, rfl, _⟩ := h
    rfl
  · obtain ⟨a, v, rfl, ha, q⟩ := h
    obtain ⟨q1, q2, q3, q4, hb⟩ := S.body
    rw [hb]
    refine ⟨_, pss_one (ps_ost (pv 0 rfl (.inl S.l0)) (pv 1 rfl (.inl S.l1) S.d1 S.d2)), ?_⟩
    exact ⟨v, rfl, .ref a, rfl, a, C, rfl, T, hno, .inl ⟨ha, fun dx n ne => q dx n ne⟩⟩
end
theorem upd3 {H : Hp} {a d : Addr} {o1 o2 o3 : HO} (h : d ≠ a) : upd (upd (upd H a o1) d o2) a o3 = upd (upd H d o2) a o3 := by
  funext b
  by_cases e : b = a
  · rw [e, upd_same, upd_same]
  · rw [upd_ne e, upd_ne e]
    by_cases e2 : b = d
    · rw [e2, upd_same, upd_same]
    · rw [upd_ne e2, upd_ne e2, upd_ne e]
def tExc1 (C : Addr) (f : Str) (ta : TA) : TE := fun σ H Q => ta σ H fun vs H1 => ∃ v, vs = [v] ∧ ∀ a d, H1 a = none → H1 d = none → d ≠ a → Q (.ref a) (upd (upd H1 d (exd d [(f, v)])) a (exo a C (some d)))
section
variable {X : Cx} {x f : Str} {C fI : Addr} {p pos : Pos} {e : Expr} {ta : TA} {fd : FuncData}
theorem pe_exc1 {k : Nat} (T : OexC X.K C) (iC : PySem.W.findIn X.K (.ref C) "__init__" = some (some (.ref fI))) (tI : PySem.W.typeIn X.K (.ref fI) = some (.type "function")) (F1 : FnOk X.prog X.w X.K X.mg X.base CX0 1 fI fd ["self", f] (spIni1 C f)) (hr : Room (k + 2) X.A)
    (hb : Binds X.K fd ["self", f] []) (hg : Gl X x) (hm : X.mg x = some (.ref C)) (ha : PA X [e] ta) (hdb : (x == ("__debug__" : Str)) = false := by decide) (he : starEach (e :: []) X.env = (false, eval e X.env) :: starEach [] X.env := by rfl)
    (hpl : (backTo pos (starEach [] X.env)).any (·.1) = false := by rfl) : PE X (.Call (.Name x p) [e] [] pos) (tExc1 C f ta) := by
  refine ⟨fun pins s σ H Q I h => ?_⟩
  obtain ⟨nm, q, N, bs, bm, sn, sub, ab, col, dd, k0, k1, k2, k3, k5, hC, hbm⟩ := T.cls
  refine wpAny_Call_Name_kw (ld_glob I hg hm ?_ hdb)
  refine PySem.W.callWith_K (h₀ := X.base) I.ok.mod.kin T.kC (thn (ha.run pos pins s σ H _ I h) fun us s1 ⟨vs, H1, I1, r1, v, ev, q1⟩ => ⟨I1.kIn, ?_⟩) he hpl
  subst ev
  show wpAny _ _ (call (.ref C) us) _ _ _
  obtain ⟨hp, g, dr, tk, os⟩ := s1
  have hsz : hp.objs.size ≤ hp.objs.size + 1 := Nat.le_succ _
  have hn : H1 (hp.objs.size + 1) = none := I1.hok.fresh hsz
  have kk : ∀ b o, hp.get? b = some o → ((hp.push (PySem.W.kdv_tup us)).push (PySem.HandSPX.excO C hp.objs.size)).get? b = some o := fun b o e => Heap.get?_push_of_some _ (Heap.get?_push_of_some _ e)
  have hget : ((hp.push (PySem.W.kdv_tup us)).push (PySem.HandSPX.excO C hp.objs.size)).get? (hp.objs.size + 1) = some (PySem.HandSPX.excO C hp.objs.size) := by heap_get
  have I2 : Inv X pins σ (upd H1 (hp.objs.size + 1) (exo (hp.objs.size + 1) C none)) ⟨(hp.push (PySem.W.kdv_tup us)).push (PySem.HandSPX.excO C hp.objs.size), g, dr, tk, os⟩ :=
    I1.laid (t' := tk) (a := hp.objs.size + 1) (o := exo (hp.objs.size + 1) C none) (h' := (hp.push (PySem.W.kdv_tup us)).push (PySem.HandSPX.excO C hp.objs.size)) kk hsz (exo_ok hget)
  have r2 : Vals [V.ref (hp.objs.size + 1), v] (Value.ref (hp.objs.size + 1) :: us) := .cons rfl r1
  have hl1 : us.length = 1 := by rw [← Paired.length r1] <;> rfl
  have hl : (Value.ref (hp.objs.size + 1) :: us ++ []).length = (["self", f] : List Str).length := by
    rw [List.append_nil, List.length_cons, hl1] <;> rfl
  have hus : us.length ≤ sizeLine := by
    rw [hl1, sizeLine_eq]
    omega
  have b2 := hb _ (Value.ref (hp.objs.size + 1) :: us) I2.kIn hl
  rw [List.append_nil] at b2
  have hq : spIni1 C f [V.ref (hp.objs.size + 1), v] (upd H1 (hp.objs.size + 1) (exo (hp.objs.size + 1) C none)) (fun z H2 => z = .non ∧ Q (.ref (hp.objs.size + 1)) H2) E0 := by
    refine ⟨_, v, rfl, upd_same, fun dx n ne => ⟨rfl, ?_⟩⟩
    rw [upd_ne ne] at n
    rw [upd3 ne]
    exact q1 _ dx hn n ne
  refine wpAny_call (PySem.HandSPX.call_own F.excBase_ValueError (fun Y => PySem.HandSPX.refsVE_contains Y bm hbm) (I1.kIn _ _ hC) (PySem.W.looks_findIn I1.kIn iC) (fun self => PySem.W.bind_fn I1.kIn self tI) hus
    (codeAny_mono (F1.run _ X.stack _ _ ⟨Value.ref (hp.objs.size + 1) :: us, []⟩ (Value.ref (hp.objs.size + 1) :: us) _ _ E0 ((hr.mono (by omega : 1 + 1 ≤ k + 2)).make C us []) (I2.env0.make C us []) b2 r2 hq) fun r s' hq' => ?_))
  cases r with
  | error er => exact False.elim hq'
  | ok fl =>
    cases fl with
    | ret u =>
      obtain ⟨z, H', I3, rz, ez, q3⟩ := I2.after hq'
      subst ez
      exact ⟨rz, ⟨V.ref (hp.objs.size + 1), H', I3, rfl, q3⟩⟩
    | next => exact False.elim hq'
    | brk => exact False.elim hq'
    | cont => exact False.elim hq'
end

/-! ### isinstance -/
/-- at a stands an own error of the class at C -/
def ErrAt (H : Hp) (a C : Addr) : Prop := H a = some (exo a C none) ∨ ∃ d fs, H a = some (exo a C (some d)) ∧ H d = some (exd d fs)
theorem err_inst {X : Cx} {pins : List (Addr × Obj)} {σ : L2.St} {H : Hp} {s : Shared} {a C : Addr} (I : Inv X pins σ H s) (h : ErrAt H a C) : ∃ ox od, PySem.W.InstAt s.heap a ox C od := by
  rcases h with h | ⟨d, fs, h, hd⟩
  · obtain ⟨t1, e⟩ := exo_at I.hok h
    exact ⟨_, none, e, rfl, rfl, trivial⟩
  · obtain ⟨t1, e⟩ := exo_at I.hok h
    obtain ⟨mA, ⟨o, es, ep, ho, _⟩, _⟩ := exd_at I.hok hd
    exact ⟨_, some o, e, rfl, rfl, ho⟩
/-- isinstance(e, c), e an own error -/
def rIsX (K : PySem.W.Frag) : List V → Hp → VK → Prop := fun xs H Q => ∃ (a C : Addr) (c : V) (cv : Value) (b : Bool), xs = [.ref a, c] ∧ ErrAt H a C ∧ ExcC K C ∧ ClsV c cv ∧ PySem.W.kitOne K (.ref C) cv = some b ∧ Q (.bl b) H
theorem call_isX {X : Cx} : CallR X (.builtin "isinstance") (rIsX X.K) := by
  intro pins s σ H xs us Q I r h
  obtain ⟨a, C, c, cv, b, rfl, ea, T, k, e, q⟩ := h
  obtain ⟨u1, u2, rfl, r1, r2⟩ := vals2 r
  have e2 := k.eq r2
  subst e2
  obtain rfl : u1 = Value.ref a := r1
  obtain ⟨ox, od, J⟩ := err_inst I ea
  have hcl : (PySem.W.clsIn X.K C).isSome = true := by
    obtain ⟨cd, hc, _⟩ := PySem.W.any_some T.hd
    rw [hc]
    rfl
  exact PySem.W.kia_one (PySem.W.kitx_exc hcl T.hg T.hk T.hs T.ha T.hn T.ht T.hm) I.kIn J e (fun z => nomatch z) fun tk => ⟨.bl b, H, I.tok tk, rfl, q⟩
/-- e.n, e an own error -/
def tErrF (K : PySem.W.Frag) (n : Str) (te : TE) : TE := fun σ H Q => te σ H fun x H1 => ∃ (a C d : Addr) (fs : List (Str × V)) (v : V), x = .ref a ∧ H1 a = some (exo a C (some d)) ∧ H1 d = some (exd d fs) ∧ fs.lookup n = some v ∧ XfC K C ∧ PySem.W.findIn K (.ref C) n = some none ∧ Q v H1
theorem pe_errF {X : Cx} {e : Expr} {te : TE} {pos : Pos} {n : Str} (he : PE X e te) (hb : attributeBase e n X.env (eval e X.env) = eval e X.env := by rfl) : PE X (.Attribute e n pos) (tErrF X.K n te) := by
  refine ⟨fun pins s σ H Q I h => ?_⟩
  refine attr_of hb (thn (he.run pins s σ H _ I h) fun u s1 hh => ?_)
  obtain ⟨x, H1, I1, rx, a, C, d, fs, v, ex, ea, ed, l, T, hno, q⟩ := hh
  subst ex
  obtain rfl : u = Value.ref a := rx
  obtain ⟨t1, e1⟩ := exo_at I1.hok ea
  obtain ⟨mA, hns, hr⟩ := exd_at I1.hok ed
  obtain ⟨od, ho, hl⟩ := lookIn_ns hns
  obtain ⟨u, hu, ru⟩ := RelO.some_of (v := v) (o := mA n) (by rw [← l]; exact hr n)
  have J : PySem.W.InstAt s1.heap a _ C (some od) := ⟨e1, rfl, rfl, ho⟩
  exact HandSPX.exc_get I1.kIn J T.ga T.gg T.exC (PySem.W.findObj_own T.hdC hno rfl (by rw [hl, hu])) (handed_of ru) ⟨v, H1, I1.tok _, ru, q⟩
end Ev
set_option maxHeartbeats 4000000
/-! try with several clauses «except X as n», the name the same in all of them. -/
namespace Ev
open PySem PySem.Spec PyProof.Rows L2
/-- behind a suite the name's slot (i) is empty -/
def offS (i : Nat) (D : Ends) : Ends := { nx := fun σ' H' => D.nx (σ'.set i none) H', rt := D.rt, bk := fun σ' H' => D.bk (σ'.set i none) H', ct := fun σ' H' => D.ct (σ'.set i none) H' }
def wManyAs (K : PySem.W.Frag) (i : Nat) (Wout : WX) (D : Ends) : List (Value × (Addr → Value → Option Addr → TS)) → WX
  | [] => Wout
  | (c, ts) :: r => fun cls d σ H => ∃ b, PySem.W.exmOne K cls c = some b ∧ (b = true → ∀ a, H a = none → ts a cls d (offS i D) (σ.set i (some (.ref a))) H) ∧ (b = false → wManyAs K i Wout D r cls d σ H)
inductive HdsAs (X : Cx) (n : Str) : List ExceptHandler → List (Value × (Addr → Value → Option Addr → TS)) → Prop
  | nil : HdsAs X n [] []
  | cons {x : Str} {c : Value} {ts : Addr → Value → Option Addr → TS} {b₀ : Stmt} {suite : List Stmt} {np pos' : Pos} {hds : List ExceptHandler} {l : List (Value × (Addr → Value → Option Addr → TS))} (hc : Names X x c)
      (hsu : ∀ (a : Addr) (oe : Obj) (cls : Value) (d : Option Addr) (pn : List (Addr × Obj)), Zc cls d oe → (∃ vs, oe.data = .fields vs) → PSs (X.suite a ((a, oe) :: pn)) (b₀ :: suite) (ts a cls d)) (r : HdsAs X n hds l) :
      HdsAs X n (.ExceptHandler (some (.Name x np)) (some n) (b₀ :: suite) pos' :: hds) ((c, ts) :: l)
section
variable {X : Cx} {body : List Stmt} {h₀ : ExceptHandler} {hds : List ExceptHandler} {l : List (Value × (Addr → Value → Option Addr → TS))} {pos : Pos} {tb : WX → TS} {Wout : WX} {n : Str} {i : Nat}
theorem ps_try_manyAs (hs : X.stack = X.env :: X.outer) (hf : X.env.frame = some X.env.locals) (hN : X.N.Nodup) (hi : X.N[i]? = some n) (hln : X.env.kindOf n = some .local) (tk : Takes X Wout)
    (hb : ∀ (W : WX) (pn : List (Addr × Obj)) (xe : Value → Shared → Prop), Takes (X.tr pn xe) W → PassesOwn (model X.prog X.w) X.A X.env xe → PSs (X.tr pn xe) body (tb W))
    (hh : HdsAs X n (h₀ :: hds) l) : PS X (.Try body (h₀ :: hds) [] [] pos) (fun D σ H => tb (wManyAs X.K i Wout D l) D σ H) := by
  refine ⟨fun pins s σ H D I h => ?_⟩
  have ok := I.ok
  have hfr : X.A.frames = some (X.env :: X.outer) := by rw [ok.frames, hs]
  have hloc : Loc X.env.scope n := .inl hln
  refine wpAny_Try_except (wpAny_mono ((hb (wManyAs X.K i Wout D l) (X.pn ++ pins) (fun e s₁ => wpAny (model X.prog X.w) X.A (noteFrame e X.env) (fun _ s₂ => wpAny (model X.prog X.w) X.A (setFlight e none) (fun _ s₃ =>
    wpAny (model X.prog X.w) X.A (handleBy e X.env (h₀ :: hds)) (SP X pins D) X.xe s₃) X.xe s₂) X.xe s₁) (fun u s' xx => ?_) PassesOwn.looking).run [] s σ H D (I.toTry _) h) (fun f s1 hsp => ?_) (fun e s1 he => he))
  · obtain ⟨a, B, sI, pins', σ', H', cls, d, rfl, J', nb, up, sky, na, os, ag, w⟩ := xx
    have J : L2.Inv X pins σ' H' sI := J'.ofTry ok
    have sky' : Sky B (X.env :: X.outer) a (Zc cls d) X.env.locals s'.heap := by rw [← hs]; exact sky
    refine Sky.land Zc.steady hfr hf sky' fun h3 fl3 up3 => ?_
    have J3 : L2.Inv X pins σ' H' { s' with heap := h3 } := J.landed nb fl3.1 (up.trans up3) os ag
    obtain ⟨oe3, vs3, he3, hz3, hd3⟩ := fl3.there
    have nfr : a ∉ frs (X.env :: X.outer) := fun hm => by
      obtain ⟨_, o', e', hnf⟩ := fl3.2.2.1.mem hm
      rw [he3] at e'; cases e'
      exact hnf _ hd3
    have nL : a ≠ X.env.locals := fun z => nfr (List.mem_filterMap.mpr ⟨X.env, List.mem_cons_self, by rw [hf, z]⟩)
    have nF : a ∉ X.fs := fun hm => by
      obtain ⟨e, he, q⟩ := List.mem_filterMap.mp hm
      exact nfr (List.mem_filterMap.mpr ⟨e, List.mem_cons_of_mem _ he, q⟩)
    have S3 := J3.suite he3 hd3 na nL nF
    have LT : PySem.W.Looks (model X.prog X.w) h3 (typeOf (.ref a)) cls := fun A Q E s k q => wpAny_typeOf_ref (k _ _ he3) (by rw [hz3.1]; exact q)
    have go : ∀ {hds' : List ExceptHandler} {l' : List (Value × (Addr → Value → Option Addr → TS))}, HdsAs X n hds' l' → wManyAs X.K i Wout D l' cls d σ' H' →
        wpAny (model X.prog X.w) X.A (handleBy (.ref a) X.env hds') (SP X pins D) X.xe { s' with heap := h3 } := by
      intro hds' l' hk
      induction hk with
      | nil =>
        intro w
        refine wpAny_handleBy_nil ?_
        obtain ⟨k1, k2, k3, oe, vs, T, oT, ts', he, hz, hd, h1, hr⟩ := id fl3
        unfold PySem.passOn
        refine wpAny_bind (wpAny_field he hd h1 ?_)
        rw [if_neg (show ¬ ((Value.ref T == Value.none) = true) from by simp)]
        have fin : wpAny (model X.prog X.w) X.A (setFlight (.ref a) X.env.frame) (fun _ s4 => wpAny (model X.prog X.w) X.A (throw (.ref a) : Sem Flow) (SP X pins D) X.xe s4) X.xe { s' with heap := h3 } := by
          rw [hf]
          refine HandSPX.setFlight_upZ fl3 fun h4 hh4 up4 => wpAny_throw (tk _ _ ?_)
          exact ⟨a, B, sI, pins, σ', H', cls, d, rfl, J, nb, (up.trans up3).trans up4, .inr (.inr (by rw [hs]; exact hh4)), na, os, ag, w⟩
        first
          | exact wpAny_bind (wpAny_pure (wpAny_bind fin))
          | exact wpAny_bind fin
      | @cons x c ts b₀ suite np pos' hds2 l2 hc hsu r ih =>
        intro w
        obtain ⟨b, hb1, hyes, hno⟩ := w
        refine wpAny_handleBy_cons (codeAny_handlers_test ?_) (by intro q; cases q)
        have LM := PySem.W.exm_one (M := model X.prog X.w) (J3.kIn) LT hb1
        have test : ∀ {Q : Value → Shared → Prop} {E : Value → Shared → Prop}, Q c { s' with heap := h3 } → wpAny (model X.prog X.w) (X.A.mark (some (.ref a))) (eval (.Name x np) X.env) Q E { s' with heap := h3 } := fun {Q E} q => by
          obtain ⟨hg, hdbg, hm | ⟨hm, hv, hnn⟩⟩ := hc
          · exact ld_glob (X := X.suite a ((a, oe3) :: (X.pn ++ pins))) S3 hg hm q hdbg
          · exact ld_blt (X := X.suite a ((a, oe3) :: (X.pn ++ pins))) S3 hg hm hv q hnn hdbg
        refine test (LM.here ?_)
        cases b with
        | true =>
          refine codeAny_handlers_suite_as (HandSPX.lands_againZ fl3 fun h4 fl4 up4 => ?_)
          have J4 : L2.Inv X pins σ' H' { s' with heap := h4 } := J.landed nb fl4.1 ((up.trans up3).trans up4) os ag
          obtain ⟨oe4, vs4, he4, hz4, hd4⟩ := fl4.there
          refine store_ok (X := X.suite a ((a, oe4) :: (X.pn ++ pins))) (v := .ref a) (J4.suite he4 hd4 na nL nF) hN hi hloc rfl (fun s5 S5 => ?_) (.inr hln)
          refine wpAny_mono ((hsu a oe4 cls d (X.pn ++ pins) hz4 ⟨_, hd4⟩).run [] s5 _ H' _ S5 (hyes rfl a na)) (fun f s6 hsp => ?_) (fun _ _ z => False.elim z)
          cases f with
          | next =>
            obtain ⟨σ6, H6, S6, q6⟩ := hsp
            exact gone_ok (S6.unsuite ok) hN hi hln fun s7 J7 => ⟨_, _, J7, q6⟩
          | brk =>
            obtain ⟨σ6, H6, S6, q6⟩ := hsp
            exact gone_ok (S6.unsuite ok) hN hi hln fun s7 J7 => ⟨_, _, J7, q6⟩
          | cont =>
            obtain ⟨σ6, H6, S6, q6⟩ := hsp
            exact gone_ok (S6.unsuite ok) hN hi hln fun s7 J7 => ⟨_, _, J7, q6⟩
          | ret u =>
            obtain ⟨v6, σ6, H6, S6, r6, q6⟩ := hsp
            exact gone_ok (S6.unsuite ok) hN hi hln fun s7 J7 => ⟨_, _, _, J7, r6, q6⟩
        | false => exact ih (hno rfl)
    exact go hh w
  · cases f with
    | next =>
      obtain ⟨σ', H', J', q⟩ := hsp
      exact wpAny_execs_nil ⟨σ', H', J'.ofTry ok, q⟩
    | brk =>
      obtain ⟨σ', H', J', q⟩ := hsp
      exact ⟨σ', H', J'.ofTry ok, q⟩
    | cont =>
      obtain ⟨σ', H', J', q⟩ := hsp
      exact ⟨σ', H', J'.ofTry ok, q⟩
    | ret u =>
      obtain ⟨v, σ', H', J', r, q⟩ := hsp
      exact ⟨v, σ', H', J'.ofTry ok, r, q⟩
end
end Ev
set_option maxHeartbeats 8000000
namespace LawK
open PySem PySem.Spec PyProof.Rows L2 Ev
abbrev veT : List Value := [.type "ValueError", .type "Exception", .type "BaseException", .type "object"]
/-- an own error class at C, over the one at PE -/
structure ErC (K : PySem.W.Frag) (PE C : Addr) : Prop where
  oex : OexC K C
  isx : ExcC K C
  xf : XfC K C
  mro : ∃ cd, PySem.W.clsIn K C = some cd ∧ cd.mro = .ref C :: .ref PE :: veT
  isT : PySem.W.typeIn K (.ref C) = some (.type "type")
section
variable {K : PySem.W.Frag} {PE C D : Addr}
theorem ErC.sub (T : ErC K PE C) (b : Value) : PySem.W.subIn K (.ref C) b = some ((Value.ref C :: .ref PE :: veT).contains b) := by
  obtain ⟨cd, h1, h2⟩ := T.mro
  show (PySem.W.clsIn K C).bind _ = _
  rw [h1, Option.bind_some, h2]
  rfl
theorem kit_at (TD : ErC K PE D) (T : ErC K PE C) (n : D ≠ PE) : PySem.W.kitOne K (.ref C) (.ref D) = some (decide (C = D)) := by
  unfold PySem.W.kitOne
  by_cases e : C = D
  · subst e
    rw [if_pos (by simp), decide_eq_true rfl]
  · rw [if_neg (by simpa using e), decide_eq_false e]
    obtain ⟨cd, h1, h2⟩ := TD.mro
    show (if ((PySem.W.clsIn K D).isSome && PySem.W.typeIn K (.ref D) == some (.type "type")) = true then PySem.W.subIn K (.ref C) (.ref D) else none) = some false
    rw [if_pos (by rw [h1, TD.isT]; rfl), T.sub]
    have e2 : D ≠ C := fun z => e z.symm
    simp [veT, e2, n]
end
/-- an error class without a field -/
structure Cls0 (P : Program) (K : PySem.W.Frag) (mg : Str → Option Value) (PE : Addr) (x : Str) (C : Addr) : Prop where
  er : ErC K PE C
  ne : C ≠ PE
  sup : ∃ fI, SupC P K mg C fI
  g : mg x = some (.ref C)
/-- an error class with the field f -/
structure Cls1 (K : PySem.W.Frag) (mg : Str → Option Value) (PE : Addr) (x f : Str) (C : Addr) : Prop where
  er : ErC K PE C
  ne : C ≠ PE
  g : mg x = some (.ref C)
  ini : ∃ (fI : Addr) (fd : FuncData) (st : Stmt) (qual : Str), Fun K "__init__" qual st fI fd ∧ Ini1 st f ∧ Binds K fd ["self", f] [] ∧ PySem.W.findIn K (.ref C) "__init__" = some (some (.ref fI)) ∧ PySem.W.typeIn K (.ref fI) = some (.type "function")
  hno : PySem.W.findIn K (.ref C) f = some none
section
variable {X : Cx} {x f : Str} {PE C : Addr} {p pos : Pos} {e : Expr} {ta : TA} {k : Nat}
theorem pe_c0 (T : Cls0 X.prog X.K X.mg PE x C) (hr : Room k X.A) (hg : Gl X x := by rfl) (hdb : (x == ("__debug__" : Str)) = false := by decide) : L2.PE X (.Call (.Name x p) [] [] pos) (tExc0 C) := by
  obtain ⟨fI, S⟩ := T.sup
  exact pe_exc0 S hr hg T.g hdb
theorem pe_c1 (T : Cls1 X.K X.mg PE x f C) (hr : Room (k + 2) X.A) (ha : PA X [e] ta) (hg : Gl X x := by rfl) (hdb : (x == ("__debug__" : Str)) = false := by decide) (he : starEach (e :: []) X.env = (false, eval e X.env) :: starEach [] X.env := by rfl)
    (hpl : (backTo pos (starEach [] X.env)).any (·.1) = false := by rfl) : L2.PE X (.Call (.Name x p) [e] [] pos) (tExc1 C f ta) := by
  obtain ⟨fI, fd, st, qual, F1, S1, b1, iC, tI⟩ := T.ini
  exact pe_exc1 T.er.oex iC tI (ok_ini1 F1 S1 T.er.oex T.hno) hr b1 hg T.g ha hdb he hpl
def tMk1 (C : Addr) (f : Str) (ta : TA) : L2.St → Hp → XK → Prop := fun σ H Q => ta σ H fun vs H1 => ∃ v, vs = [v] ∧ ∀ d, H1 d = none → Q (.ref C) (some d) (upd H1 d (.xd [(f, v)]))
theorem del_upd {H : Hp} {a d : Addr} {o1 o2 o3 u : HO} (ha : H a = none) (hd : d ≠ a) : upd (del (upd (upd (upd H a o1) d o2) a o3) a) d u = upd H d u := by
  funext b
  by_cases e : b = d
  · rw [e, upd_same, upd_same]
  · rw [upd_ne e, upd_ne e]
    by_cases e2 : b = a
    · rw [e2, del_same, ha]
    · rw [del_ne e2, upd_ne e2, upd_ne e, upd_ne e2]
theorem pmk_c1 (T : Cls1 X.K X.mg PE x f C) (hr : Room (k + 2) X.A) (ha : PA X [e] ta) (hg : Gl X x := by rfl) (hdb : (x == ("__debug__" : Str)) = false := by decide) (he : starEach (e :: []) X.env = (false, eval e X.env) :: starEach [] X.env := by rfl)
    (hpl : (backTo pos (starEach [] X.env)).any (·.1) = false := by rfl) (hm : ∀ {σ : L2.St} {H : Hp} {Q1 Q2 : List V → Hp → Prop}, (∀ vs H1, Q1 vs H1 → Q2 vs H1) → ta σ H Q1 → ta σ H Q2) : PMk X (.Call (.Name x p) [e] [] pos) (tMk1 C f ta) := by
  obtain ⟨fI, fd, st, qual, F1, S1, b1, iC, tI⟩ := T.ini
  intro pins s σ H Q I h
  refine pmk_oex (CX := CX0) (k := 1) (sp := spIni1 C f) (ds := []) (dvs := []) T.er.oex iC tI (ok_ini1 F1 S1 T.er.oex T.hno) (hr.mono (by omega)) b1 .nil (fun _ _ _ _ _ _ _ z => z.elim) hg T.g ha hdb he hpl pins s σ H Q I (hm (fun vs H1 q => ?_) h)
  obtain ⟨v, rfl, q⟩ := q
  refine ⟨by show 1 ≤ 1000; decide, fun a na => ⟨a, v, rfl, upd_same, fun dx n ne => ⟨rfl, dx, _, upd_same, by rw [upd_ne ne, upd_same], ?_, ?_⟩⟩⟩
  · rw [upd_ne ne] at n
    exact n
  · rw [del_upd na ne]
    rw [upd_ne ne] at n
    exact q dx n
end
structure BaseX (K : PySem.W.Frag) (PE : Addr) : Prop where
  sub : PySem.W.subIn K (.ref PE) (.type "BaseException") = some true
  hd : PySem.W.hasDictIn K PE = true
  isT : PySem.W.typeIn K (.ref PE) = some (.type "type")
section
variable {K : PySem.W.Frag} {PE : Addr}
theorem exm_at {C D : Addr} (TD : ErC K PE D) (T : ErC K PE C) (n : D ≠ PE) : PySem.W.exmOne K (.ref C) (.ref D) = some (decide (C = D)) := by
  refine PySem.W.exm_ref TD.isx.hs TD.isx.hd TD.isT ?_
  rw [T.sub]
  by_cases e : C = D
  · subst e
    simp
  · have e2 : D ≠ C := fun z => e z.symm
    rw [decide_eq_false e]
    simp [veT, e2, n]
theorem exm_base {C : Addr} (B : BaseX K PE) (T : ErC K PE C) : PySem.W.exmOne K (.ref C) (.ref PE) = some true := by
  refine PySem.W.exm_ref B.sub B.hd B.isT ?_
  rw [T.sub]
  simp [veT]
theorem tCons1 {i j : Nat} {σ : L2.St} {H : Hp} {Q1 Q2 : List V → Hp → Prop} (h : ∀ vs H1, Q1 vs H1 → Q2 vs H1) : tCons (tVar i) tNil σ H Q1 → tCons (tVar i) tNil σ H Q2 := fun ⟨v, e, q⟩ => ⟨v, e, h _ _ q⟩
end
def chkE (K : PySem.W.Frag) (C : Addr) : Bool := xfB K C && (decide (PySem.W.typeIn K (.ref C) = some (.type "type")) && (PySem.W.keepIn K (.ref C) && (decide (PySem.W.findIn K (.ref C) "__class__" = some (some (.builtin "object.__class__"))) && decide (PySem.W.mroIn K C (.type "object") = some true))))
def chkC (K : PySem.W.Frag) (PE C : Addr) : Bool := chkE K C && (decide (PySem.W.findIn K (.ref C) "__setattr__" = some (some (.builtin "object.__setattr__"))) && decide (C ≠ PE))
structure Sh (K : PySem.W.Frag) : Prop where
  hn : PySem.W.specialIn K (.builtin "object.__class__") "__get__" = some (some (.builtin "getset_descriptor.__get__"))
  ht : PySem.W.takesIn K (.builtin "object.__class__") = some true
structure Sh0 (P : Program) (K : PySem.W.Frag) (mg : Str → Option Value) : Prop extends Sh K where
  gs : mg "super" = none
  top : (P.main.scope.names.lookup ("super" : Str)).isSome = false
  third : PySem.W.nsIn K cStatics "thirdparty.any" = some none
structure CkE (K : PySem.W.Frag) (C : Addr) : Prop where
  xf : XfC K C
  isT : PySem.W.typeIn K (.ref C) = some (.type "type")
  kp : PySem.W.keepIn K (.ref C) = true
  ha : PySem.W.findIn K (.ref C) "__class__" = some (some (.builtin "object.__class__"))
  hm : PySem.W.mroIn K C (.type "object") = some true
theorem chkE_ok {K : PySem.W.Frag} {C : Addr} (h : chkE K C = true) : CkE K C := by
  obtain ⟨h1, h⟩ := Bool.and_eq_true_iff.mp h
  obtain ⟨h2, h⟩ := Bool.and_eq_true_iff.mp h
  obtain ⟨h3, h⟩ := Bool.and_eq_true_iff.mp h
  obtain ⟨h4, h5⟩ := Bool.and_eq_true_iff.mp h
  exact ⟨xfB_ok h1, of_decide_eq_true h2, h3, of_decide_eq_true h4, of_decide_eq_true h5⟩
theorem CkE.isx {K : PySem.W.Frag} {C : Addr} (T : CkE K C) (S : Sh K) : ExcC K C := ⟨T.xf.ga, T.xf.gg, T.xf.exC, T.xf.hdC, T.ha, S.hn, S.ht, T.hm⟩
section
variable {P : Program} {w : World} {K : PySem.W.Frag} {mg : Str → Option Value} {h : Heap} {PE C fI : Addr} {x f qual : Str} {nm q : Str} {N : Addr} {bs : List Value} {sn : List Str} {sub : List Value} {ab : Bool} {col : Option Bool} {dd : Option Addr} {k0 k1 k2 k3 k5 : Option Value}
theorem mro_of {bm : List Value} {id : String} (lC : K.lookup C = some (excClassObj nm q C N bs bm true sn sub ab col dd k0 k1 k2 k3 k5 id)) : ∃ cd, PySem.W.clsIn K C = some cd ∧ cd.mro = .ref C :: bm := by
  have e : PySem.W.clsIn K C = some { name := nm, bases := bs, mro := .ref C :: bm, ns := N, qualname := q, hasDict := true, slotNames := sn, subclasses := sub, abstract := ab, collection := col, hasDel := false } := by
    unfold PySem.W.clsIn
    rw [lC]
  exact ⟨_, e, rfl⟩
theorem er_mk (S : Sh K) (lC : K.lookup C = some (excClassObj nm q C N bs (.ref PE :: veT) true sn sub ab col dd k0 k1 k2 k3 k5 "ValueError.__new__")) (ck : chkC K PE C = true) : ErC K PE C ∧ C ≠ PE := by
  obtain ⟨c1, c2⟩ := Bool.and_eq_true_iff.mp ck
  obtain ⟨c2, c3⟩ := Bool.and_eq_true_iff.mp c2
  have T := chkE_ok c1
  exact ⟨⟨⟨⟨nm, q, N, bs, _, sn, sub, ab, col, dd, k0, k1, k2, k3, k5, lC, (show PySem.HandSPX.refsVE veT = true by decide +kernel)⟩, of_decide_eq_true c2, T.xf.exC, T.isT, T.kp⟩, T.isx S, T.xf, mro_of lC, T.isT⟩, of_decide_eq_true c3⟩
theorem say {K : PySem.W.Frag} {h : Heap} (X : K.In h) (T : PySem.W.Frag → Prop) {g : Prop} (a : T K) (k : T K → g) : g := k a
def chk1 (K : PySem.W.Frag) (PE C fI : Addr) (f : Str) (cd : Value) (qual : Str) : Bool := chkC K PE C && (decide (PySem.W.typeIn K (.ref fI) = some (.type "function")) && (PySem.W.codeIn K cd qual && (PySem.W.keepIn K (.ref fI) && decide (PySem.W.findIn K (.ref C) f = some none))))
theorem cls1_mk {st : Stmt} {oc kV dc pm cd ct : Value} {od an : Option Addr} {sl : Array (Option Value)} (X : K.In h) (G : h.Ns mainGlobals mg) (S : Sh K)
    (i1 : Ini1 st f) (hb : ∀ (kV doc pm : Value) (an : Option Addr) (cdv ct : Value) (us : List Value), us.length = 2 → bindArgs (PySem.W.fnOf "__init__" qual (defArgs st) (defBody st) (defScope st) .none kV doc pm an cdv ct) ⟨us, []⟩ = pure ((["self", f] : List Str).zip us))
    (aC : PySem.W.nsIn K mainGlobals x = some (some (.ref C))) (lC : K.lookup C = some (excClassObj nm q C N bs (.ref PE :: veT) true sn sub ab col dd k0 k1 k2 k3 k5 "ValueError.__new__"))
    (iC : PySem.W.findIn K (.ref C) "__init__" = some (some (.ref fI))) (lI : K.lookup fI = some ⟨oc, od, .func (PySem.W.fnOf "__init__" qual (defArgs st) (defBody st) (defScope st) .none kV dc pm an cd ct), sl⟩)
    (ck : chk1 K PE C fI f cd qual = true) : Cls1 K mg PE x f C := by
  obtain ⟨c1, c2⟩ := Bool.and_eq_true_iff.mp ck
  obtain ⟨c2, c3⟩ := Bool.and_eq_true_iff.mp c2
  obtain ⟨c3, c4⟩ := Bool.and_eq_true_iff.mp c3
  obtain ⟨c4, c5⟩ := Bool.and_eq_true_iff.mp c4
  obtain ⟨e, n⟩ := er_mk S lC c1
  have F1 := fun_mk (st := st) lI c3 c4
  exact ⟨e, n, PySem.W.mg_of X G aC, ⟨fI, _, st, qual, F1, i1, F1.binds (ps := ["self", f]) hb, iC, of_decide_eq_true c2⟩, of_decide_eq_true c5⟩
def chk0 (K : PySem.W.Frag) (PE C fI : Addr) (cd : Value) (qual : Str) : Bool := chkC K PE C && (decide (PySem.W.typeIn K (.ref fI) = some (.type "function")) && (PySem.W.codeIn K cd qual && (decide (PySem.W.ks_superIn K C C "__init__" = some (some (.builtin "ValueError.__init__"))) && (decide (PySem.W.subIn K (.ref C) (.type "ValueError") = some true) && decide (PySem.W.mroIn K C (.ref C) = some true)))))
theorem cls0_mk {oc kV dc pm ct : Value} {od an : Option Addr} {cda cc : Addr} {osl : Array (Option Value)} {p p0 p1 p2 p3 p4 : Pos} {ccl : Value} {cdd : Option Addr} {vs : Array Value} {ccs : Array (Option Value)} {file : Str} {tf : Tok} {cl : Value} {cld : Option Addr} {csl : Array (Option Value)}
    (X : K.In h) (G : h.Ns mainGlobals mg) (S : Sh0 P K mg)
    (aC : PySem.W.nsIn K mainGlobals x = some (some (.ref C))) (lC : K.lookup C = some (excClassObj nm q C N bs (.ref PE :: veT) true sn sub ab col dd k0 k1 k2 k3 k5 "ValueError.__new__"))
    (iC : PySem.W.findIn K (.ref C) "__init__" = some (some (.ref fI)))
    (lI : K.lookup fI = some ⟨oc, od, .func (PySem.W.ksFn "__init__" qual (supArgs p) (supBody p0 p1 p2 p3 p4) supScope .none kV dc pm an (.ref cda) ct cc), osl⟩)
    (lD : K.lookup cda = some ⟨ccl, cdd, .fields vs, ccs⟩) (lc : K.lookup cc = some ⟨cl, cld, .cell (some (.ref C)), csl⟩)
    (v2 : vs[2]? = some (.str file tf)) (vf : ((P.main.file : Str) == file) = true) (pl : (p2.endLine == p3.line) = true)
    (ck : chk0 K PE C fI (.ref cda) qual = true) : Cls0 P K mg PE x C := by
  obtain ⟨c1, c2⟩ := Bool.and_eq_true_iff.mp ck
  obtain ⟨c2, c3⟩ := Bool.and_eq_true_iff.mp c2
  obtain ⟨c3, c4⟩ := Bool.and_eq_true_iff.mp c3
  obtain ⟨c4, c5⟩ := Bool.and_eq_true_iff.mp c4
  obtain ⟨c5, c6⟩ := Bool.and_eq_true_iff.mp c5
  obtain ⟨e, n⟩ := er_mk S.toSh lC c1
  exact ⟨e, n, ⟨fI, e.oex, iC, of_decide_eq_true c2, ⟨oc, od, qual, kV, dc, pm, ct, an, cda, cc, osl, p, p0, p1, p2, p3, p4, ccl, cdd, vs, ccs, file, tf, cl, cld, csl, lI, c3, lD, v2, vf, lc, pl⟩, S.gs, S.top, S.third, of_decide_eq_true c4, of_decide_eq_true c5, of_decide_eq_true c6⟩, PySem.W.mg_of X G aC⟩
theorem sh0_mk (X : K.In h) (G : h.Ns mainGlobals mg) (hn : PySem.W.specialIn K (.builtin "object.__class__") "__get__" = some (some (.builtin "getset_descriptor.__get__"))) (ht : PySem.W.takesIn K (.builtin "object.__class__") = some true)
    (gs : PySem.W.nsIn K mainGlobals "super" = some none) (top : (P.main.scope.names.lookup ("super" : Str)).isSome = false) (third : PySem.W.nsIn K cStatics "thirdparty.any" = some none) : Sh0 P K mg := ⟨⟨hn, ht⟩, PySem.W.mg_none_of X G gs, top, third⟩
end
end LawK
set_option maxHeartbeats 4000000
namespace LawK
open PySem PySem.Spec PyProof.Rows L2 Ev

theorem dec_int {a b : Int} : decide (V.int a = V.int b) = decide (a = b) := by
  by_cases h : a = b
  · rw [h, decide_eq_true rfl, decide_eq_true rfl]
  · rw [decide_eq_false h, decide_eq_false (fun e => h (V.int.inj e))]
theorem dec_str {a b : Str} : decide (V.str a = V.str b) = decide (a = b) := by
  by_cases h : a = b
  · rw [h, decide_eq_true rfl, decide_eq_true rfl]
  · rw [decide_eq_false h, decide_eq_false (fun e => h (V.str.inj e))]
/-- what is never reached -/
theorem ps_dead {X : Cx} {st : Stmt} : PS X st (fun _ _ _ => False) := ⟨fun pins s σ H D I q => q.elim⟩
/-- the class of libraries, as it stands at C -/
structure LibC (K : PySem.W.Frag) (mg : Str → Option Value) (C fI : Addr) (fdI : FuncData) : Prop where
  mak : Mk K C fI
  cl : Cls K C
  nt : NoAttr K C "texts"
  FI : Fun K "__init__" "Library.__init__" (inClass (topS 11) 0) fI fdI
  bI : Binds K fdI ["self", "texts"] []
  g : mg "Library" = some (.ref C)
/-- a library of these texts, at s -/
structure LibAt (H : Hp) (C s : Addr) (ts : List Str) : Prop where
  ex : ∃ dx a, H s = some (.ins C dx [("texts", .ref a)]) ∧ H a = some (.tup (ts.map V.str))
  few : ts.length ≤ 8
  sg : ∀ t ∈ ts, sgB t = true
  len : ∀ t ∈ ts, t.length ≤ 200
theorem LibAt.same {H H' : Hp} {C s : Addr} {ts : List Str} (k : Same H H') (h : LibAt H C s ts) : LibAt H' C s ts := by
  obtain ⟨⟨dx, a, h1, h2⟩, h3, h4, h5⟩ := h
  exact ⟨⟨dx, a, k _ _ h1, k _ _ h2⟩, h3, h4, h5⟩
theorem lk1 {a : V} : ([("texts", a)] : List (Str × V)).lookup ("texts" : Str) = some a := by simp [List.lookup]
/-- a text by its number -/
abbrev tx (ts : List Str) (i : Nat) : Str := ts.getD i Str.empty
abbrev Pl := Nat × Nat
structure InT (ts : List Str) (p : Pl) : Prop where
  text : p.1 < ts.length
  at_ : p.2 < (tx ts p.1).length
/-- a pair of numbers -/
def PAt (H : Hp) (v : V) (p : Pl) : Prop := ∃ b, v = .ref b ∧ H b = some (.tup [.int (p.1 : Nat), .int (p.2 : Nat)])
theorem PAt.same {H H' : Hp} {v : V} {p : Pl} (k : Same H H') (h : PAt H v p) : PAt H' v p := let ⟨b, e, q⟩ := h; ⟨b, e, k _ _ q⟩
def spLInit (C : Addr) : Sp := fun vs H Q E => ∃ (s dx a : Addr) (ts : List Str), vs = [.ref s, .ref a] ∧ H s = some (.ins C dx []) ∧ H a = some (.tup (ts.map V.str)) ∧ ts.length ≤ 8 ∧ (∀ t ∈ ts, sgB t = true) ∧ (∀ t ∈ ts, t.length ≤ 200) ∧
  ∀ H', H' s = some (.ins C dx [("texts", .ref a)]) → (∀ b u, b ≠ s → H b = some u → H' b = some u) → Q .non H'
def spPPlace (C : Addr) : Sp := fun vs H Q _ => ∃ (s : Addr) (ts : List Str) (v : V) (p : Pl), vs = [.ref s, v] ∧ LibAt H C s ts ∧ PAt H v p ∧ InT ts p ∧ Q (.bl true) H
theorem sum_le {ts : List Str} (h : ∀ t ∈ ts, t.length ≤ 200) : (ts.map fun t => (t.length : Int)).sum ≤ 200 * (ts.length : Int) := by
  induction ts with
  | nil => exact Int.le_refl _
  | cons t ts ih =>
    have a := ih fun u hu => h u (List.mem_cons_of_mem _ hu)
    have b := h t List.mem_cons_self
    simp only [List.map_cons, List.sum_cons, List.length_cons]
    omega
theorem tx_mem {ts : List Str} {i : Nat} (h : i < ts.length) : tx ts i ∈ ts := by
  unfold tx
  rw [List.getD_eq_getElem?_getD, List.getElem?_eq_getElem h]
  exact List.getElem_mem h
theorem tx_at {ts : List Str} {i : Nat} (h : i < ts.length) : (ts.map V.str)[i]? = some (.str (tx ts i)) := by
  unfold tx
  rw [List.getElem?_map, List.getD_eq_getElem?_getD, List.getElem?_eq_getElem h]
  rfl
section
variable {P : Program} {w : World} {K : PySem.W.Frag} {mg : Str → Option Value} {base : Heap}
variable {C fI : Addr} {fdI : FuncData}
abbrev sPSigns : Stmt := topS 6
theorem scPSigns : FnScope ["thing"] ["thing"] (defScope sPSigns) := ⟨rfl, rfl, rfl, by decide +kernel, rfl, by decide +kernel, by decide +kernel⟩
theorem ok_PSigns {f : Addr} {fd : FuncData} (F : Fun K "is_signs" "is_signs" sPSigns f fd)  (T : Glob mg) : FnOk P w K mg base CX0 1 f fd ["thing"] spSg := by
  refine F.ok scPSigns (fun vs H Q E h => ?_) (fun cdv A outer s H vs Q E hr h => ?_)
  · obtain ⟨x, k, rfl, _⟩ := h
    rfl
  · refine ⟨_, (pss_one (ps_ret (pe_and (pe_callB call_isi (by rfl) T.isinstance PyProof.Rows.boot_isinstance (pa_cons (pv 0) (pa_cons (pe_bltn (v := .ty "str") (by rfl) T.str (by decide +kernel) rfl) pa_nil))) (pe_and (pe_bm0 PySem.F.plainAttrs_str PySem.F.slot_str_isascii PySem.F.type_str_isascii mt_isascii (pv 0)) (pe_one (pe_bm0 PySem.F.plainAttrs_str PySem.F.slot_str_isprintable PySem.F.type_str_isprintable mt_isprintable (pv 0))))))), ?_⟩
    obtain ⟨x, k, rfl, hk, hz, q⟩ := h
    refine ⟨x, rfl, x, .ty "str", .type (Kn.name k), .type "str", kitB k .str, rfl, .ty _, Kd.tyx hk, kit_kn k .str, _, rfl, ?_⟩
    cases hk with
    | str z =>
      refine iteT ⟨.str z, rfl, rfl, z, rfl, rfl, trivial, _, rfl, ite2 (fun e => ⟨.str z, rfl, rfl, z, rfl, rfl, trivial, ?_⟩) (fun e => ?_)⟩
      · have q' : Q (.bl (sgB z)) H := q
        rw [← sgB_of, e, Bool.true_and] at q'
        exact q'
      · have e' : Txt.isascii z = false := by simpa using e
        have q' : Q (.bl (sgB z)) H := q
        rw [← sgB_of, e', Bool.false_and] at q'
        exact q'
    | non => exact iteF q
    | bl b => exact iteF q
    | int i => exact iteF q
    | lst e => exact iteF q
    | tup e => exact iteF q
    | dic e => exact iteF q
abbrev sPNumber : Stmt := topS 5
theorem scPNumber : FnScope ["thing"] ["thing"] (defScope sPNumber) := ⟨rfl, rfl, rfl, by decide +kernel, rfl, by decide +kernel, by decide +kernel⟩
theorem ok_PNumber {f : Addr} {fd : FuncData} (F : Fun K "is_number" "is_number" sPNumber f fd)   (T : Glob mg) : FnOk P w K mg base CX0 1 f fd ["thing"] spNum := by
  refine F.ok scPNumber (fun vs H Q E h => ?_) (fun cdv A outer s H vs Q E hr h => ?_)
  · obtain ⟨x, k, rfl, _⟩ := h
    rfl
  · refine ⟨_, (pss_one (ps_ret (pe_and (pe_callB call_isi (by rfl) T.isinstance PyProof.Rows.boot_isinstance (pa_cons (pv 0) (pa_cons (pe_bltn (v := .ty "int") (by rfl) T.int (by decide +kernel) rfl) pa_nil))) (pe_and (pe_not (pe_callB call_isi (by rfl) T.isinstance PyProof.Rows.boot_isinstance (pa_cons (pv 0) (pa_cons (pe_bltn (v := .ty "bool") (by rfl) T.bool (by decide +kernel) rfl) pa_nil)))) (pe_one (pe_cmpR op_ge (pv 0) pe_int (nomark _))))))), ?_⟩
    obtain ⟨x, k, rfl, hk, q⟩ := h
    refine ⟨x, rfl, x, .ty "int", .type (Kn.name k), .type "int", kitB k .int, rfl, .ty _, Kd.tyx hk, kit_kn k .int, _, rfl, ?_⟩
    cases hk with
    | int i => exact iteT ⟨.int i, rfl, .int i, .ty "bool", .type (Kn.name .int), .type "bool", kitB .int .bl, rfl, .ty _, Kd.tyx (.int i), kit_kn .int .bl, _, rfl, _, rfl, iteT ⟨.int i, rfl, _, _, rfl, rfl, q⟩⟩
    | bl b => exact iteT ⟨.bl b, rfl, .bl b, .ty "bool", .type (Kn.name .bl), .type "bool", kitB .bl .bl, rfl, .ty _, Kd.tyx (.bl b), kit_kn .bl .bl, _, rfl, _, rfl, iteF q⟩
    | str z => exact iteF q
    | non => exact iteF q
    | lst e => exact iteF q
    | tup e => exact iteF q
    | dic e => exact iteF q
abbrev sPWord : Stmt := topS 7
theorem scPWord : FnScope ["thing"] ["thing"] (defScope sPWord) := ⟨rfl, rfl, rfl, by decide +kernel, rfl, by decide +kernel, by decide +kernel⟩
theorem ok_PWord {f : Addr} {fd : FuncData} (F : Fun K "is_word" "is_word" sPWord f fd)  {fPSigns : Addr} {fdPSigns : FuncData} (DPSigns : Dk P w K mg base "is_signs" sPSigns ["thing"] 1 spSg fPSigns fdPSigns) (T : Glob mg) : FnOk P w K mg base CX0 2 f fd ["thing"] spWd := by
  refine F.ok scPWord (fun vs H Q E h => ?_) (fun cdv A outer s H vs Q E hr h => ?_)
  · obtain ⟨x, k, rfl, _⟩ := h
    rfl
  · refine ⟨_, (pss_one (ps_ret (pe_and (pe_call DPSigns.ok (hr.mono (by decide)) (by rfl) DPSigns.g DPSigns.F.kp DPSigns.b .nil pass0 (pa_cons (pv 0) pa_nil)) (pe_one (pe_cmpR op_gt (pe_callB call_lenZ (by rfl) T.len PySem.boot_len (pa_cons (pv 0) pa_nil)) pe_int (nomark _)))))), ?_⟩
    obtain ⟨x, k, rfl, hk, hz, q⟩ := h
    refine ⟨x, rfl, x, k, rfl, hk, hz, _, rfl, ite2 (fun e => ?_) (fun e => ?_)⟩
    · cases hk with
      | str z =>
        refine ⟨.str z, rfl, z, rfl, len5 (hz z rfl), _, _, rfl, rfl, ?_⟩
        have e' : sgB z = true := e
        have q' : Q (.bl (sgB z && decide ((0 : Int) < (z.length : Int)))) H := q
        rw [e', Bool.true_and] at q'
        exact q'
      | non => exact Bool.noConfusion e
      | bl b => exact Bool.noConfusion e
      | int i => exact Bool.noConfusion e
      | lst e2 => exact Bool.noConfusion e
      | tup e2 => exact Bool.noConfusion e
      | dic e2 => exact Bool.noConfusion e
    · have e' : sgV x = false := by simpa using e
      cases hk with
      | str z =>
        have e2 : sgB z = false := e'
        have q' : Q (.bl (sgB z && decide ((0 : Int) < (z.length : Int)))) H := q
        rw [e2, Bool.false_and] at q'
        exact q'
      | non => exact q
      | bl b => exact q
      | int i => exact q
      | lst e2 => exact q
      | tup e2 => exact q
      | dic e2 => exact q
abbrev sLInit : Stmt := inClass (topS 11) 0
theorem scLInit : FnScope ["self", "texts", "part", "text"] ["self", "texts"] (defScope sLInit) := ⟨rfl, rfl, rfl, by decide +kernel, rfl, by decide +kernel, by decide +kernel⟩
theorem ok_LInit (L : LibC K mg C fI fdI) {t8 t2000 : Tok} (g8 : mg "MOST_TEXTS" = some (.int 8 t8)) (g2000 : mg "MOST_SIGNS" = some (.int 2000 t2000))
    {fPSigns : Addr} {fdPSigns : FuncData} (DPSigns : Dk P w K mg base "is_signs" sPSigns ["thing"] 1 spSg fPSigns fdPSigns) (T : Glob mg) : FnOk P w K mg base (L2.CX P w) 4 fI fdI ["self", "texts"] (spLInit C) := by
  refine L.FI.okX scLInit (fun vs H Q E h => ?_) (fun cdv A outer s H vs Q E hr h => ?_)
  · obtain ⟨s, dx, a, ts, rfl, _⟩ := h
    rfl
  · obtain ⟨p, dx, a, ts, rfl, hp, ha, few, sg, lens, q⟩ := h
    refine ⟨_, (pss_cons (ps_if (PW.pt (pw_or (pt_not (pt_val (pe_callB call_isi (by rfl) T.isinstance PyProof.Rows.boot_isinstance (pa_cons (pv 1) (pa_cons (pe_bltn (v := .ty "tuple") (by rfl) T.tuple (by decide +kernel) rfl) pa_nil))))) (pw_or1 (pt_cmpR op_gt (pe_callB call_len_seq (by rfl) T.len PySem.boot_len (pa_cons (pv 1) pa_nil)) (pe_glob (v := .int 8) (by rfl) g8 ⟨_, rfl⟩) (nomark _))))) (pss_one ps_dead) pss_nil)
      (pss_cons (ps_for (passes_of rfl) rfl (pi_enumT (by rfl) T.enumerate (pa_cons (pv 1) pa_nil)) (pg_tup (by rfl) (pgs_cons (pg_name (i := 2) scLInit.nd rfl (.inl rfl)) (pgs_cons (pg_name (i := 3) scLInit.nd rfl (.inl rfl)) pgs_nil)))
        (pss_one (ps_if (pt_not (pt_val (pe_call DPSigns.ok (hr.mono (by decide)) (by rfl) DPSigns.g DPSigns.F.kp DPSigns.b .nil pass0 (pa_cons (pv 3) pa_nil)))) (pss_one ps_dead) pss_nil)))
      (pss_cons (ps_if (pt_cmpR op_gt (pe_callB (cr_sum rfl) (by rfl) T.sum (by decide +kernel) (pa_cons (pe_lc (own := [("text", 3)]) (g := gName 3) (by rfl) scLInit.nd (pi_tup (pv 1)) (blkOk_by (N := ["self", "texts", "part", "text"]) (sc := defScope sLInit) (by decide +kernel)) (fun _ _ _ _ _ => pg_name (i := 3) scLInit.nd rfl (.inl rfl)) (fun _ _ _ _ _ => pts_nil) (fun _ _ _ _ _ => (pe_callB call_lenZ (by rfl) T.len PySem.boot_len (pa_cons (pv 3) pa_nil)))) pa_nil)) (pe_glob (v := .int 2000) (by rfl) g2000 ⟨_, rfl⟩) (nomark _)) (pss_one ps_dead) pss_nil)
      (pss_one (ps_fld (pv 0) (pv 1) rfl))))), ?_⟩
    have lm : (ts.map V.str).length = ts.length := List.length_map ..
    refine ⟨.ref a, rfl, .ref a, .ty "tuple", .type (Kn.name .tup), .type "tuple", kitB .tup .tup, rfl, .ty _, Kd.tyx (.tup ha), kit_kn .tup .tup, _, rfl, iteF ?_⟩
    refine ⟨.ref a, rfl, a, _, rfl, .inr (SqT.of ha), _, _, rfl, rfl, _, rfl, ?_⟩
    rw [decide_eq_false (show ¬ (8 : Int) < (((ts.map V.str).length : Nat) : Int) by omega)]
    refine iteF ?_
    refine ⟨.ref a, rfl, a, _, rfl, SqT.of ha, for_enT (fun i σ H' => (∃ y z, σ = [some (.ref p), some (.ref a), y, z]) ∧ Same H H') ⟨⟨_, _, rfl⟩, Same.refl H⟩ (fun i σ H' q => SqT.of (q.2 _ _ ha)) ?_ ?_⟩
    · rintro i c σ H' hxi ⟨⟨y, z, rfl⟩, kH⟩ t nt
      obtain ⟨u, hu, rfl⟩ := List.mem_map.mp (List.mem_of_getElem? hxi)
      have k2 := kH.trans (Same.new (o := .tup [.int (i : Nat), .str u]) nt)
      refine ⟨t, [.int (i : Nat), .str u], rfl, SqT.of upd_same, rfl, .int (i : Nat), [.str u], rfl, .str u, [], rfl, rfl, ?_⟩
      refine ⟨.str u, rfl, .str u, .str, rfl, .str u, (fun w e => by cases e; exact Nat.le_trans (lens _ hu) (by decide)), _, rfl, ?_⟩
      rw [show sgV (.str u) = true from sg u hu]
      exact iteF ⟨⟨_, _, rfl⟩, k2⟩
    · rintro σ H' ⟨⟨y, z, rfl⟩, kH⟩
      refine ⟨.ref a, rfl, a, rfl, ⟨_, SqT.of (kH _ _ ha)⟩, fun D nD => lc_lens (i := 3) (show 3 < 4 by decide) (kH _ _ ha) nD (fun t ht => Nat.le_trans (lens t ht) (by decide)) (by omega) fun H2 hD hs => ?_⟩
      refine ⟨D, _, rfl, sq_of hD, _, _, rfl, rfl, _, rfl, ?_⟩
      have := sum_le lens
      rw [decide_eq_false (show ¬ (2000 : Int) < (ts.map fun t => (t.length : Int)).sum by omega)]
      refine iteF ?_
      have k2 := kH.trans hs
      refine ⟨.ref a, rfl, .ref p, rfl, p, C, dx, [], rfl, k2 _ _ hp, L.cl, L.nt, by decide, ?_⟩
      refine q _ upd_same fun b u nb hb => ?_
      rw [upd_ne nb]
      exact k2 _ _ hb
end
end LawK
set_option maxHeartbeats 4000000
namespace LawK
open PySem PySem.Spec PyProof.Rows L2 Ev

def spAnySign : Sp := fun vs H Q _ => ∃ (p : Addr), vs = [.ref p] ∧ ∃ l, HandL H p l ∧ ∀ c H', sgC c = true → HandL H' p l → But p H H' → Q (.str (SX.S [c])) H'
def spSign : Sp := fun vs H Q _ => ∃ (p : Addr) (k : Int), vs = [.ref p, .int k] ∧ 0 ≤ k ∧ k < 5 ∧ ∃ l, HandL H p l ∧ ∀ c H', sgC c = true → HandL H' p l → But p H H' → Q (.str (SX.S [c])) H'
def spLText : Sp := fun vs H Q _ => ∃ (p : Addr) (m : Int), vs = [.ref p, .int m] ∧ 0 ≤ m ∧ m ≤ 200 ∧ ∃ l, HandL H p l ∧ ∀ y H', sgB y = true → (y.length : Int) ≤ m → HandL H' p l → But p H H' → Q (.str y) H'
def spLWord : Sp := fun vs H Q _ => ∃ (p : Addr) (m : Int), vs = [.ref p, .int m] ∧ 1 ≤ m ∧ m ≤ 200 ∧ ∃ l, HandL H p l ∧ ∀ y H', sgB y = true → (y.length : Int) ≤ m → 1 ≤ y.length → HandL H' p l → But p H H' → Q (.str y) H'
def spLTexts : Sp := fun vs H Q _ => ∃ (p : Addr) (m : Int), vs = [.ref p, .int m] ∧ 0 ≤ m ∧ m ≤ 200 ∧ ∃ l, HandL H p l ∧
  ∀ a (ts : List Str) H', H' a = some (.tup (ts.map V.str)) → ts.length ≤ 8 → (∀ t ∈ ts, sgB t = true) → (∀ t ∈ ts, (t.length : Int) ≤ m) → HandL H' p l → But p H H' → Q (.ref a) H'
theorem len_S1 (cs : List Nat) : (SX.S cs).length = cs.length := rfl
theorem sum_one (cs : List Nat) : ((cs.map fun c => SX.S [c]).map (·.length)).sum ≤ cs.length := by
  induction cs with
  | nil => exact Nat.le_refl _
  | cons c cs ih =>
    simp only [List.map_cons, List.sum_cons, List.length_cons]
    have : (SX.S [c]).length = 1 := rfl
    omega
section
variable {P : Program} {w : World} {K : PySem.W.Frag} {mg : Str → Option Value} {base : Heap}
abbrev sAnySign : Stmt := topS 46
theorem scAnySign : FnScope ["hand", "signs"] ["hand"] (defScope sAnySign) := ⟨rfl, rfl, rfl, by decide +kernel, rfl, by decide +kernel, by decide +kernel⟩
theorem ok_AnySign {f : Addr} {fd : FuncData} (F : Fun K "_law_any_sign" "_law_any_sign" sAnySign f fd)  {fDraw : Addr} {fdDraw : FuncData} (DDraw : Dk P w K mg base "_law_draw" sDraw ["hand", "many"] 1 spDraw fDraw fdDraw) (T : Glob mg) : FnOk P w K mg base CX0 2 f fd ["hand"] spAnySign := by
  refine F.ok scAnySign (fun vs H Q E h => ?_) (fun cdv A outer s H vs Q E hr h => ?_)
  · obtain ⟨p, rfl, _⟩ := h
    rfl
  · refine ⟨_, (pss_cons (ps_set (i := 1) scAnySign.nd rfl (.inl rfl) pe_str)
      (pss_cons (ps_set (i := 1) scAnySign.nd rfl (.inl rfl) (pe_op op_add_str (pv 1) pe_str))
      (pss_one (ps_ret (pe_ix ix_str (pv 1) (pe_call DDraw.ok (hr.mono (by decide)) (by rfl) DDraw.g DDraw.F.kp DDraw.b .nil pass0 (pa_cons (pv 0) (pa_cons (pe_callB call_lenZ (by rfl) T.len PySem.boot_len (pa_cons (pv 1) pa_nil)) pa_nil))) (fun _ _ => rfl)))))), ?_⟩
    obtain ⟨p, rfl, lh, hH, q⟩ := h
    refine ⟨_, rfl, _, _, rfl, rfl, by decide +kernel, ?_⟩
    dsimp only
    refine ⟨_, rfl, .ref p, rfl, _, rfl, _, rfl, by decide +kernel, p, _, rfl, by decide +kernel, by decide +kernel, lh, hH, fun v H1 v0 v1 h2 b2 => ?_⟩
    obtain ⟨c, ec, hc⟩ := sg_at (by decide +kernel) v0 v1
    exact ⟨_, v, c, rfl, rfl, by decide +kernel, ec, q c H1 hc h2 b2⟩
abbrev sSign : Stmt := topS 47
theorem scSign : FnScope ["hand", "kind", "some"] ["hand", "kind"] (defScope sSign) := ⟨rfl, rfl, rfl, by decide +kernel, rfl, by decide +kernel, by decide +kernel⟩
theorem ok_Sign {f : Addr} {fd : FuncData} (F : Fun K "_law_sign" "_law_sign" sSign f fd)  {fDraw : Addr} {fdDraw : FuncData} (DDraw : Dk P w K mg base "_law_draw" sDraw ["hand", "many"] 1 spDraw fDraw fdDraw) {fAnySign : Addr} {fdAnySign : FuncData} (DAnySign : Dk P w K mg base "_law_any_sign" sAnySign ["hand"] 2 spAnySign fAnySign fdAnySign) (T : Glob mg) : FnOk P w K mg base CX0 3 f fd ["hand", "kind"] spSign := by
  refine F.ok scSign (fun vs H Q E h => ?_) (fun cdv A outer s H vs Q E hr h => ?_)
  · obtain ⟨p, k, rfl, _⟩ := h
    rfl
  · refine ⟨_, (pss_cons (ps_if (pt_cmpR op_eq (pv 1) pe_int (nomark _))
      (pss_one (ps_ret (pe_call DAnySign.ok (hr.mono (by decide)) (by rfl) DAnySign.g DAnySign.F.kp DAnySign.b .nil pass0 (pa_cons (pv 0) pa_nil))))
      pss_nil)
      (pss_cons (ps_set (i := 2) scSign.nd rfl (.inl rfl) (pe_ix ix_list (pe_lst (pa_cons pe_str (pa_cons pe_str (pa_cons pe_str (pa_cons pe_str pa_nil))))) (pv 1) (fun _ _ => rfl)))
      (pss_one (ps_ret (pe_ix ix_str (pv 2) (pe_call DDraw.ok (hr.mono (by decide)) (by rfl) DDraw.g DDraw.F.kp DDraw.b .nil pass0 (pa_cons (pv 0) (pa_cons (pe_callB call_lenZ (by rfl) T.len PySem.boot_len (pa_cons (pv 2) pa_nil)) pa_nil))) (fun _ _ => rfl)))))), ?_⟩
    obtain ⟨p, k, rfl, k0, k4, lh, hH, q⟩ := h
    refine ⟨.int k, rfl, rfl, _, rfl, ite2 (fun e => ?_) (fun e => ?_)⟩
    · exact ⟨.ref p, rfl, p, rfl, lh, hH, q⟩
    · rw [dec_int] at e
      have k3 : k < 4 := by
        have : ¬ k = 4 := fun z => e (decide_eq_true z)
        omega
      dsimp only [tNext, tDrop]
      refine ⟨by show 4 ≤ sizeLine; decide, fun a na => ?_⟩
      have h1 := hH.same (Same.new (o := .lst [.str "ab", .str "abc", .str "a", .str "ab~ "]) na)
      have b1 := But.same (p := p) (Same.new (H := H) (o := .lst [.str "ab", .str "abc", .str "a", .str "ab~ "]) na)
      have hA : upd H a (.lst [.str "ab", .str "abc", .str "a", .str "ab~ "]) a = some (.lst [.str "ab", .str "abc", .str "a", .str "ab~ "]) := upd_same
      revert h1 b1 hA
      generalize upd H a (.lst [.str "ab", .str "abc", .str "a", .str "ab~ "]) = H1
      intro h1 b1 hA
      have e4 : k = 0 ∨ k = 1 ∨ k = 2 ∨ k = 3 := by omega
      obtain ⟨z, w, e2⟩ : ∃ z : Str, (sgB z = true ∧ 0 < z.length ∧ z.length ≤ 100) ∧ atI [V.str "ab", .str "abc", .str "a", .str "ab~ "] k = some (.str z) := by
        rcases e4 with rfl | rfl | rfl | rfl
        · exact ⟨"ab", ⟨by decide +kernel, by decide +kernel, by decide +kernel⟩, rfl⟩
        · exact ⟨"abc", ⟨by decide +kernel, by decide +kernel, by decide +kernel⟩, rfl⟩
        · exact ⟨"a", ⟨by decide +kernel, by decide +kernel, by decide +kernel⟩, rfl⟩
        · exact ⟨"ab~ ", ⟨by decide +kernel, by decide +kernel, by decide +kernel⟩, rfl⟩
      refine ⟨_, rfl, a, _, k, .str z, rfl, rfl, sq_of hA, e2, .str z, rfl, .ref p, rfl, .str z, rfl, z, rfl, len6 w.2.2, p, (z.length : Int), rfl, by omega, by omega, lh, h1, fun v H2 v0 v1 h2 b2 => ?_⟩
      obtain ⟨c, ec, hc⟩ := sg_at w.1 v0 v1
      exact ⟨z, v, c, rfl, rfl, len6 w.2.2, ec, q c H2 hc h2 (b1.trans b2)⟩
abbrev sText : Stmt := topS 48
theorem scText : FnScope ["hand", "most", "kind", "way", "many", "one", "other", "turn"] ["hand", "most"] (defScope sText) := ⟨rfl, rfl, rfl, by decide +kernel, rfl, by decide +kernel, by decide +kernel⟩
theorem ok_Text {f : Addr} {fd : FuncData} (F : Fun K "_law_text" "_law_text" sText f fd)  {fDraw : Addr} {fdDraw : FuncData} (DDraw : Dk P w K mg base "_law_draw" sDraw ["hand", "many"] 1 spDraw fDraw fdDraw) {fSign : Addr} {fdSign : FuncData} (DSign : Dk P w K mg base "_law_sign" sSign ["hand", "kind"] 3 spSign fSign fdSign) (T : Glob mg) : FnOk P w K mg base CX0 4 f fd ["hand", "most"] spLText := by
  refine F.ok scText (fun vs H Q E h => ?_) (fun cdv A outer s H vs Q E hr h => ?_)
  · obtain ⟨p, m, rfl, _⟩ := h
    rfl
  · refine ⟨_, (pss_cons (ps_set (i := 2) scText.nd rfl (.inr rfl) (pe_call DDraw.ok (hr.mono (by decide)) (by rfl) DDraw.g DDraw.F.kp DDraw.b .nil pass0 (pa_cons (pv 0) (pa_cons pe_int pa_nil))))
      (pss_cons (ps_set (i := 3) scText.nd rfl (.inl rfl) (pe_call DDraw.ok (hr.mono (by decide)) (by rfl) DDraw.g DDraw.F.kp DDraw.b .nil pass0 (pa_cons (pv 0) (pa_cons pe_int pa_nil))))
      (pss_cons (ps_set (i := 4) scText.nd rfl (.inl rfl) (pe_call DDraw.ok (hr.mono (by decide)) (by rfl) DDraw.g DDraw.F.kp DDraw.b .nil pass0 (pa_cons (pv 0) (pa_cons (pe_op op_add (pv 1) pe_int) pa_nil))))
      (pss_cons (ps_if (pt_cmpR op_gt (pv 3) pe_int (nomark _))
      (pss_one (ps_ret (pe_join pe_str (pe_lc (own := [("turn", 7)]) (g := gName 7) (by rfl) scText.nd (pi_range1 (by rfl) T.range (pa_cons (pv 4) pa_nil)) (blkOk_by (N := ["hand", "most", "kind", "way", "many", "one", "other", "turn"]) (sc := defScope sText) (by decide +kernel)) (fun _ _ _ _ _ => pg_name (i := 7) scText.nd rfl (.inl rfl)) (fun _ _ _ _ _ => pts_nil) (fun _ _ _ _ _ => (pe_call DSign.ok (hr.mono (by decide)) (by rfl) DSign.g DSign.F.kp DSign.b .nil pass0 (pa_cons (pv 0) (pa_cons (pv 2) pa_nil))))))))
      pss_nil)
      (pss_cons (ps_set (i := 5) scText.nd rfl (.inl rfl) (pe_join pe_str (pe_lc (own := [("turn", 7)]) (g := gName 7) (by rfl) scText.nd (pi_range1 (by rfl) T.range (pa_cons (pe_op op_add pe_int (pe_call DDraw.ok (hr.mono (by decide)) (by rfl) DDraw.g DDraw.F.kp DDraw.b .nil pass0 (pa_cons (pv 0) (pa_cons pe_int pa_nil)))) pa_nil)) (blkOk_by (N := ["hand", "most", "kind", "way", "many", "one", "other", "turn"]) (sc := defScope sText) (by decide +kernel)) (fun _ _ _ _ _ => pg_name (i := 7) scText.nd rfl (.inl rfl)) (fun _ _ _ _ _ => pts_nil) (fun _ _ _ _ _ => (pe_call DSign.ok (hr.mono (by decide)) (by rfl) DSign.g DSign.F.kp DSign.b .nil pass0 (pa_cons (pv 0) (pa_cons (pv 2) pa_nil)))))))
      (pss_cons (ps_if (pt_cmpR op_eq (pv 3) pe_int (nomark _))
      (pss_one (ps_ret (pe_slice sl_str (pe_op op_mulS (pv 5) (pv 4)) po_none (po_some (pv 4)))))
      pss_nil)
      (pss_cons (ps_set (i := 6) scText.nd rfl (.inl rfl) (pe_call DSign.ok (hr.mono (by decide)) (by rfl) DSign.g DSign.F.kp DSign.b .nil pass0 (pa_cons (pv 0) (pa_cons (pv 2) pa_nil))))
      (pss_cons (ps_for PassesOwn.never rfl (pi_range1 (by rfl) T.range (pa_cons pe_int pa_nil)) (pg_name (i := 7) scText.nd rfl (.inl rfl))
      (pss_cons (ps_if (pt_cmpR op_ge (pe_callB call_lenZ (by rfl) T.len PySem.boot_len (pa_cons (pv 5) pa_nil)) (pv 4) (nomark _))
        (pss_one ps_break)
        pss_nil)
        (pss_one (ps_par (i := 5) (j := 6) (by rfl) scText.nd rfl rfl (by decide) rfl rfl (pa_cons (pe_op op_add_str (pv 5) (pv 6)) (pa_cons (pv 5) pa_nil)) (by rfl)))))
      (pss_one (ps_ret (pe_slice sl_str (pv 5) po_none (po_some (pv 4))))))))))))), ?_⟩
    obtain ⟨p, m, rfl, m0, m1, lh, hH, q⟩ := h
    refine ⟨.ref p, rfl, p, 5, rfl, by decide, by decide, lh, hH, fun kk H1 k0 k4 h1 b1 => ?_⟩
    refine ⟨.ref p, rfl, p, 4, rfl, by decide, by decide, lh, h1, fun wy H2 w0 w4 h2 b2 => ?_⟩
    refine ⟨.ref p, rfl, _, rfl, _, _, rfl, rfl, p, m + 1, rfl, by omega, by omega, lh, h2, fun n H3 n0 n1 h3 b3 => ?_⟩
    have b13 := (b1.trans b2).trans b3
    refine ⟨_, rfl, _, _, rfl, rfl, _, rfl, ite2 (fun e => ?_) (fun e => ?_)⟩
    · refine ⟨⟨_, rfl⟩, _, rfl, n, rfl, by omega, by omega, fun D nD => lc_range (fun i H' => ∃ cs : List Nat, H' D = some (.lst (cs.map fun c => V.str (SX.S [c]))) ∧ cs.length = i ∧ (∀ c ∈ cs, sgC c = true) ∧ Hn p lh H3 H') ⟨[], upd_same, rfl, fun c hc => absurd hc (by simp), (Hn.refl h3).new nD⟩ ?_ ?_⟩
      · rintro i H' hi ⟨cs, hD, hl, hs, hn⟩
        refine ⟨rfl, .ref p, rfl, .int kk, rfl, p, kk, rfl, k0, k4, lh, hn.at_, fun c H2 hc h2 b2 => ?_⟩
        have nDp := (h3.ne nD).1
        refine ⟨_, b2 _ _ nDp hD, ?_, cs ++ [c], ?_, ?_, ?_, (hn.go h2 b2).at h3 nD⟩
        · rw [List.length_map, hl, sizeLine_eq]
          omega
        · rw [upd_same, List.map_append]
          rfl
        · rw [List.length_append, hl]
          rfl
        · intro d hd
          rcases List.mem_append.mp hd with g | g
          · exact hs d g
          · rw [List.mem_singleton.mp g]
            exact hc
      · rintro H' ⟨cs, hD, hl, hs, hn⟩
        have e1 : (cs.map fun c => V.str (SX.S [c])) = (cs.map fun c => SX.S [c]).map V.str := by rw [List.map_map]; rfl
        have hln : (cs.length : Int) ≤ n := by omega
        have hsum := sum_one cs
        have sj : sgB (SX.S cs) = true := by rw [sgB_S]; exact List.all_eq_true.mpr hs
        have lj : (SX.S cs).length = cs.length := rfl
        refine ⟨_, D, cs.map (fun c => SX.S [c]), rfl, rfl, .inl (sq_of (e1 ▸ hD)), ?_, ?_⟩
        · rw [List.length_map]
          have : (Str.ofString "").length = 0 := by decide +kernel
          rw [this]
          omega
        · rw [join1]
          exact q _ H' sj (by omega) hn.at_ (b13.trans hn.but)
    · dsimp only [tNext, tDrop]
      refine ⟨⟨_, rfl⟩, .ref p, rfl, p, 4, rfl, by decide, by decide, lh, h3, fun u H4 u0 u1 h4 b4 => ?_⟩
      have b14 := b13.trans b4
      refine ⟨_, _, rfl, rfl, 1 + u, rfl, by omega, by omega, fun D nD => lc_range (fun i H' => ∃ cs : List Nat, H' D = some (.lst (cs.map fun c => V.str (SX.S [c]))) ∧ cs.length = i ∧ (∀ c ∈ cs, sgC c = true) ∧ Hn p lh H4 H') ⟨[], upd_same, rfl, fun c hc => absurd hc (by simp), (Hn.refl h4).new nD⟩ ?_ ?_⟩
      · rintro i H' hi ⟨cs, hD, hl, hs, hn⟩
        refine ⟨rfl, .ref p, rfl, .int kk, rfl, p, kk, rfl, k0, k4, lh, hn.at_, fun c H2 hc h2 b2 => ?_⟩
        have nDp := (h4.ne nD).1
        refine ⟨_, b2 _ _ nDp hD, ?_, cs ++ [c], ?_, ?_, ?_, (hn.go h2 b2).at h4 nD⟩
        · rw [List.length_map, hl, sizeLine_eq]
          omega
        · rw [upd_same, List.map_append]
          rfl
        · rw [List.length_append, hl]
          rfl
        · intro d hd
          rcases List.mem_append.mp hd with g | g
          · exact hs d g
          · rw [List.mem_singleton.mp g]
            exact hc
      · rintro H' ⟨cs, hD, hl, hs, hn⟩
        have e1 : (cs.map fun c => V.str (SX.S [c])) = (cs.map fun c => SX.S [c]).map V.str := by rw [List.map_map]; rfl
        have hln : (cs.length : Int) ≤ 4 := by omega
        have hsum := sum_one cs
        have sj : sgB (SX.S cs) = true := by rw [sgB_S]; exact List.all_eq_true.mpr hs
        have lj : (SX.S cs).length = cs.length := rfl
        refine ⟨_, D, cs.map (fun c => SX.S [c]), rfl, rfl, .inl (sq_of (e1 ▸ hD)), ?_, ?_⟩
        · rw [List.length_map]
          have : (Str.ofString "").length = 0 := by decide +kernel
          rw [this]
          omega
        · rw [join1]
          have h5 := hn.at_
          have b15 := b14.trans hn.but
          have l4 : (SX.S cs).length ≤ 4 := by omega
          clear hD hl hs hsum e1 hn lj
          revert sj l4 h5 b15
          generalize SX.S cs = one
          clear nD
          intro sj h5 b15 l4
          refine ⟨.int wy, rfl, rfl, _, rfl, ite2 (fun e => ?_) (fun e => ?_)⟩
          · obtain ⟨l2, s2⟩ := mul_facts one n
            have c1 := cut_hi (z := Txt.mul one n) (lo := none) (u := n) (by omega)
            have lm : (Txt.mul one n).length ≤ 5000 := by
              have : one.length * n.toNat ≤ 4 * 201 := Nat.mul_le_mul l4 (by omega)
              omega
            exact ⟨_, rfl, _, rfl, one, n, rfl, rfl, by omega, by omega, by omega, .int n, rfl, n, rfl, _, rfl, len5 lm, q _ _ (sgB_cut (s2 sj) _ _) (by omega) h5 b15⟩
          · dsimp only [tNext, tDrop]
            refine ⟨.ref p, rfl, .int kk, rfl, p, kk, rfl, k0, k4, lh, h5, fun c H6 hc h6 b6 => ?_⟩
            have so : sgB (SX.S [c]) = true := by rw [sgB_S]; exact List.all_eq_true.mpr fun d hd => by rw [List.mem_singleton.mp hd]; exact hc
            have b16 := b15.trans b6
            refine ⟨8, rfl, by decide, by decide, for_range (fun i σ H' => ∃ (x y : Str) (u : Option V), σ = [some (.ref p), some (.int m), some (.int kk), some (.int wy), some (.int n), some (.str x), some (.str y), u] ∧ sgB x = true ∧ sgB y = true ∧ x.length ≤ 4 * 2 ^ i ∧ y.length ≤ 4 * 2 ^ i ∧ H' = H6) ⟨_, _, _, rfl, sj, so, by simpa using l4, by show 1 ≤ 4 * 2 ^ 0; decide, rfl⟩ ?_ ?_⟩
            · rintro i σ H' hi ⟨x, y, u, rfl, sx, sy, lx, ly, rfl⟩
              have hi2 : i < 8 := by omega
              have p2 : 4 * 2 ^ i ≤ 512 := by
                have : 2 ^ i ≤ 2 ^ 7 := Nat.pow_le_pow_right (by decide) (by omega)
                omega
              have c1 := cut_hi (z := x) (lo := none) (u := n) (by omega)
              refine ⟨.str x, rfl, x, rfl, len5 (by omega), .int n, rfl, _, _, rfl, rfl, _, rfl, ite2 (fun e => ?_) (fun e => ?_)⟩
              · exact ⟨_, rfl, .int n, rfl, n, rfl, _, rfl, len5 (by omega), q _ _ (sgB_cut sx _ _) (by omega) h6 b16⟩
              · dsimp only [tNext, tDrop]
                refine ⟨.str x, rfl, .str y, rfl, x, y, rfl, rfl, by rw [sizeLine_eq]; omega, .str x, rfl, _, _, rfl, x ++ y, x, _, rfl, sgB_app sx sy, sx, by rw [app_len, Nat.pow_succ]; omega, by rw [Nat.pow_succ]; omega, rfl⟩
            · rintro σ H' ⟨x, y, u, rfl, sx, sy, lx, ly, rfl⟩
              have lx2 : x.length ≤ 1024 := lx
              have c1 := cut_hi (z := x) (lo := none) (u := n) (by omega)
              exact ⟨_, rfl, .int n, rfl, n, rfl, _, rfl, len5 (by omega), q _ _ (sgB_cut sx _ _) (by omega) h6 b16⟩
abbrev sTexts : Stmt := topS 49
theorem scTexts : FnScope ["hand", "most", "many", "found", "turn"] ["hand", "most"] (defScope sTexts) := ⟨rfl, rfl, rfl, by decide +kernel, rfl, by decide +kernel, by decide +kernel⟩
theorem ok_Texts {f : Addr} {fd : FuncData} (F : Fun K "_law_texts" "_law_texts" sTexts f fd)  {fDraw : Addr} {fdDraw : FuncData} (DDraw : Dk P w K mg base "_law_draw" sDraw ["hand", "many"] 1 spDraw fDraw fdDraw) {fText : Addr} {fdText : FuncData} (DText : Dk P w K mg base "_law_text" sText ["hand", "most"] 4 spLText fText fdText) (T : Glob mg) : FnOk P w K mg base CX0 5 f fd ["hand", "most"] spLTexts := by
  refine F.ok scTexts (fun vs H Q E h => ?_) (fun cdv A outer s H vs Q E hr h => ?_)
  · obtain ⟨p, m, rfl, _⟩ := h
    rfl
  · refine ⟨_, (pss_cons (ps_set (i := 2) scTexts.nd rfl (.inl rfl) (pe_ix ix_list (pe_lst (pa_cons pe_int (pa_cons pe_int (pa_cons pe_int (pa_cons pe_int (pa_cons pe_int (pa_cons pe_int (pa_cons pe_int (pa_cons pe_int pa_nil))))))))) (pe_call DDraw.ok (hr.mono (by decide)) (by rfl) DDraw.g DDraw.F.kp DDraw.b .nil pass0 (pa_cons (pv 0) (pa_cons pe_int pa_nil))) (fun _ _ => rfl)))
      (pss_cons (ps_set (i := 3) scTexts.nd rfl (.inl rfl) (pe_lst pa_nil))
      (pss_cons (ps_for PassesOwn.never rfl (pi_range1 (by rfl) T.range (pa_cons (pv 2) pa_nil)) (pg_name (i := 4) scTexts.nd rfl (.inl rfl))
      (pss_one (ps_if (PW.pt (pw_and (pt_cmpR op_gt (pv 4) pe_int (nomark _)) (pw_and1 (pt_cmpR op_eq (pe_call DDraw.ok (hr.mono (by decide)) (by rfl) DDraw.g DDraw.F.kp DDraw.b .nil pass0 (pa_cons (pv 0) (pa_cons pe_int pa_nil))) pe_int (nomark _)))))
        (pss_one (ps_expr (pe_bm PySem.F.plainAttrs_list PySem.F.slot_list_append PySem.F.type_list_append mt_append (pv 3) (pa_cons (pe_ix ix_list (pv 3) (pe_call DDraw.ok (hr.mono (by decide)) (by rfl) DDraw.g DDraw.F.kp DDraw.b .nil pass0 (pa_cons (pv 0) (pa_cons (pv 4) pa_nil))) (fun _ _ => rfl)) pa_nil))))
        (pss_one (ps_expr (pe_bm PySem.F.plainAttrs_list PySem.F.slot_list_append PySem.F.type_list_append mt_append (pv 3) (pa_cons (pe_call DText.ok (hr.mono (by decide)) (by rfl) DText.g DText.F.kp DText.b .nil pass0 (pa_cons (pv 0) (pa_cons (pv 1) pa_nil))) pa_nil)))))))
      (pss_one (ps_ret (pe_callTy call_tuple_of (by rfl) T.tuple (by decide +kernel) (pa_cons (pv 3) pa_nil))))))), ?_⟩
    obtain ⟨p, m, rfl, m0, m1, lh, hH, q⟩ := h
    refine ⟨by show 8 ≤ sizeLine; decide, fun o no => ?_⟩
    have h1 := hH.same (Same.new (o := .lst [.int 0, .int 1, .int 1, .int 1, .int 2, .int 2, .int 3, .int 8]) no)
    have b1 := But.same (p := p) (Same.new (H := H) (o := .lst [.int 0, .int 1, .int 1, .int 1, .int 2, .int 2, .int 3, .int 8]) no)
    have hO : upd H o (.lst [.int 0, .int 1, .int 1, .int 1, .int 2, .int 2, .int 3, .int 8]) o = some (.lst [.int 0, .int 1, .int 1, .int 1, .int 2, .int 2, .int 3, .int 8]) := upd_same
    have nop := (hH.ne no).1
    revert h1 b1 hO
    generalize upd H o (.lst [.int 0, .int 1, .int 1, .int 1, .int 2, .int 2, .int 3, .int 8]) = H1
    intro h1 b1 hO
    refine ⟨.ref p, rfl, p, 8, rfl, by decide, by decide, lh, h1, fun v H2 v0 v1 h2 b2 => ?_⟩
    obtain ⟨x, ex, hx⟩ := atI_in (xs := [V.int 0, .int 1, .int 1, .int 1, .int 2, .int 2, .int 3, .int 8]) v0 v1
    obtain ⟨n, rfl, hn8⟩ : ∃ n : Nat, x = .int (n : Int) ∧ n ≤ 8 := by
      simp only [List.mem_cons, List.not_mem_nil, or_false] at hx
      rcases hx with e | e | e | e | e | e | e | e
      · exact ⟨0, e, by decide⟩
      · exact ⟨1, e, by decide⟩
      · exact ⟨1, e, by decide⟩
      · exact ⟨1, e, by decide⟩
      · exact ⟨2, e, by decide⟩
      · exact ⟨2, e, by decide⟩
      · exact ⟨3, e, by decide⟩
      · exact ⟨8, e, by decide⟩
    refine ⟨o, _, v, _, rfl, rfl, sq_of (b2 _ _ nop hO), ex, ?_⟩
    refine ⟨by show 0 ≤ sizeLine; decide, fun f nf => ?_⟩
    have nfp := (h2.ne nf).1
    have b12 := b1.trans b2
    refine ⟨.int (n : Int), rfl, _, rfl, by omega, by omega, for_range (fun i σ H' => ∃ (x : Option V) (ts : List Str), σ = [some (.ref p), some (.int m), some (.int (n : Int)), some (.ref f), x] ∧ H' f = some (.lst (ts.map V.str)) ∧ ts.length = i ∧ (∀ t ∈ ts, sgB t = true ∧ (t.length : Int) ≤ m) ∧ Hn p lh H2 H') ⟨none, [], rfl, upd_same, rfl, fun t ht => absurd ht (by simp), (Hn.refl h2).new nf⟩ ?_ ?_⟩
    · rintro i σ H' hi ⟨x, ts, rfl, hf, hl, ht, hn⟩
      have hi2 : i < n := by omega
      have put : ∀ {H4 : Hp} {y : Str}, Hn p lh H2 H4 → H4 f = some (.lst (ts.map V.str)) → sgB y = true → (y.length : Int) ≤ m → Hn p lh H2 (upd H4 f (.lst (ts.map V.str ++ [V.str y]))) ∧ upd H4 f (.lst (ts.map V.str ++ [V.str y])) f = some (.lst ((ts ++ [y]).map V.str)) ∧ (ts ++ [y]).length = i + 1 ∧ ∀ t ∈ ts ++ [y], sgB t = true ∧ (t.length : Int) ≤ m := fun {H4 y} g1 g2 g3 g4 => by
        refine ⟨g1.at h2 nf, by rw [upd_same, List.map_append]; rfl, by rw [List.length_append, hl]; rfl, fun t hm => ?_⟩
        rcases List.mem_append.mp hm with e | e
        · exact ht t e
        · rw [List.mem_singleton.mp e]
          exact ⟨g3, g4⟩
      have lts : (ts.map V.str).length < sizeLine := by
        rw [List.length_map, hl, sizeLine_eq]
        omega
      refine (?_ : ∀ Q : Bool → Hp → Prop, (∀ b H3, Hn p lh H2 H3 → H3 f = some (.lst (ts.map V.str)) → (b = true → 0 < i) → Q b H3) → tAnd _ _ _ H' Q) _ ?_
      · intro Q0 kk
        refine ⟨_, rfl, _, _, rfl, rfl, _, rfl, ite2 (fun e => ?_) (fun e => kk _ _ hn hf (fun w => Bool.noConfusion w))⟩
        have i0 : 0 < (0 + (i : Int)) := of_decide_eq_true e
        exact ⟨.ref p, rfl, p, 5, rfl, by decide, by decide, lh, hn.at_, fun w H3 w0 w1 h3 b3 => ⟨rfl, _, rfl, kk _ _ (hn.go h3 b3) (b3 _ _ nfp hf) (fun _ => by omega)⟩⟩
      · intro b H3 hn3 hf3 hb
        cases b with
        | true =>
          have i0 := hb rfl
          refine iteT ⟨.ref f, rfl, .inl ⟨rfl, _, sq_of hf3⟩, .ref f, rfl, .ref p, rfl, _, rfl, p, (0 + (i : Int)), rfl, by omega, by omega, lh, hn3.at_, fun v H4 v0 v1 h4 b4 => ?_⟩
          have hf4 := b4 _ _ nfp hf3
          obtain ⟨x4, e4, hx4⟩ := atI_in (xs := ts.map V.str) v0 (by rw [List.length_map, hl]; omega)
          obtain ⟨t, htm, rfl⟩ := List.mem_map.mp hx4
          obtain ⟨g1, g2, g3, g4⟩ := put (y := t) (hn3.go h4 b4) hf4 (ht t htm).1 (ht t htm).2
          exact ⟨f, _, v, _, rfl, rfl, sq_of hf4, e4, f, _, _, rfl, rfl, hf4, lts, _, _, rfl, g2, g3, g4, g1⟩
        | false =>
          refine iteF ⟨.ref f, rfl, .inl ⟨rfl, _, sq_of hf3⟩, .ref p, rfl, .int m, rfl, p, m, rfl, m0, m1, lh, hn3.at_, fun u H5 su lu h5 b5 => ?_⟩
          have hf5 := b5 _ _ nfp hf3
          obtain ⟨g1, g2, g3, g4⟩ := put (y := u) (hn3.go h5 b5) hf5 su lu
          exact ⟨f, _, _, rfl, rfl, hf5, lts, _, _, rfl, g2, g3, g4, g1⟩
    · rintro σ H' ⟨x, ts, rfl, hf, hl, ht, hn⟩
      refine ⟨.ref f, rfl, f, _, rfl, .inl ⟨sq_of hf, fun a na => ?_⟩⟩
      exact q a ts _ upd_same (by omega) (fun t hm => (ht t hm).1) (fun t hm => (ht t hm).2) (hn.at_.same (Same.new na)) ((b12.trans hn.but).and (Same.new na))
abbrev sWord : Stmt := topS 53
theorem scWord : FnScope ["hand", "most", "kind", "turn"] ["hand", "most"] (defScope sWord) := ⟨rfl, rfl, rfl, by decide +kernel, rfl, by decide +kernel, by decide +kernel⟩
theorem ok_Word {f : Addr} {fd : FuncData} (F : Fun K "_law_word" "_law_word" sWord f fd)  {fDraw : Addr} {fdDraw : FuncData} (DDraw : Dk P w K mg base "_law_draw" sDraw ["hand", "many"] 1 spDraw fDraw fdDraw) {fSign : Addr} {fdSign : FuncData} (DSign : Dk P w K mg base "_law_sign" sSign ["hand", "kind"] 3 spSign fSign fdSign) (T : Glob mg) : FnOk P w K mg base CX0 4 f fd ["hand", "most"] spLWord := by
  refine F.ok scWord (fun vs H Q E h => ?_) (fun cdv A outer s H vs Q E hr h => ?_)
  · obtain ⟨p, m, rfl, _⟩ := h
    rfl
  · refine ⟨_, (pss_cons (ps_set (i := 2) scWord.nd rfl (.inr rfl) (pe_call DDraw.ok (hr.mono (by decide)) (by rfl) DDraw.g DDraw.F.kp DDraw.b .nil pass0 (pa_cons (pv 0) (pa_cons pe_int pa_nil))))
      (pss_one (ps_ret (pe_join pe_str (pe_lc (own := [("turn", 3)]) (g := gName 3) (by rfl) scWord.nd (pi_range1 (by rfl) T.range (pa_cons (pe_op op_add pe_int (pe_call DDraw.ok (hr.mono (by decide)) (by rfl) DDraw.g DDraw.F.kp DDraw.b .nil pass0 (pa_cons (pv 0) (pa_cons (pv 1) pa_nil)))) pa_nil)) (blkOk_by (N := ["hand", "most", "kind", "turn"]) (sc := defScope sWord) (by decide +kernel)) (fun _ _ _ _ _ => pg_name (i := 3) scWord.nd rfl (.inl rfl)) (fun _ _ _ _ _ => pts_nil) (fun _ _ _ _ _ => (pe_call DSign.ok (hr.mono (by decide)) (by rfl) DSign.g DSign.F.kp DSign.b .nil pass0 (pa_cons (pv 0) (pa_cons (pv 2) pa_nil))))))))), ?_⟩
    obtain ⟨p, m, rfl, m0, m1, lh, hH, q⟩ := h
    refine ⟨.ref p, rfl, p, 5, rfl, by decide, by decide, lh, hH, fun kk H1 k0 k4 h1 b1 => ?_⟩
    refine ⟨⟨_, rfl⟩, .ref p, rfl, .int m, rfl, p, m, rfl, by omega, by omega, lh, h1, fun u H4 u0 u1 h4 b4 => ?_⟩
    refine ⟨_, _, rfl, rfl, 1 + u, rfl, by omega, by omega, fun D nD => lc_range (fun i H' => ∃ cs : List Nat, H' D = some (.lst (cs.map fun c => V.str (SX.S [c]))) ∧ cs.length = i ∧ (∀ c ∈ cs, sgC c = true) ∧ Hn p lh H4 H') ⟨[], upd_same, rfl, fun c hc => absurd hc (by simp), (Hn.refl h4).new nD⟩ ?_ ?_⟩
    · rintro i H' hi ⟨cs, hD, hl, hs, hn⟩
      refine ⟨rfl, .ref p, rfl, .int kk, rfl, p, kk, rfl, k0, k4, lh, hn.at_, fun c H2 hc h2 b2 => ?_⟩
      have nDp := (h4.ne nD).1
      refine ⟨_, b2 _ _ nDp hD, ?_, cs ++ [c], ?_, ?_, ?_, (hn.go h2 b2).at h4 nD⟩
      · rw [List.length_map, hl, sizeLine_eq]
        omega
      · rw [upd_same, List.map_append]
        rfl
      · rw [List.length_append, hl]
        rfl
      · intro d hd
        rcases List.mem_append.mp hd with g | g
        · exact hs d g
        · rw [List.mem_singleton.mp g]
          exact hc
    · rintro H' ⟨cs, hD, hl, hs, hn⟩
      have e1 : (cs.map fun c => V.str (SX.S [c])) = (cs.map fun c => SX.S [c]).map V.str := by rw [List.map_map]; rfl
      have hln : (cs.length : Int) ≤ m := by omega
      have hsum := sum_one cs
      have sj : sgB (SX.S cs) = true := by rw [sgB_S]; exact List.all_eq_true.mpr hs
      have lj : (SX.S cs).length = cs.length := rfl
      refine ⟨_, D, cs.map (fun c => SX.S [c]), rfl, rfl, .inl (sq_of (e1 ▸ hD)), ?_, ?_⟩
      · rw [List.length_map]
        have : (Str.ofString "").length = 0 := by decide +kernel
        rw [this]
        omega
      · rw [join1]
        exact q _ H' sj (by omega) (by omega) hn.at_ ((b1.trans b4).trans hn.but)
end
end LawK
set_option linter.all false
set_option maxRecDepth 100000
set_option maxHeartbeats 4000000
/-! Texts in order, what neighbours have in common, and their pieces in order. -/
namespace LawK
abbrev LN := List Nat
theorem ltc {a b : Nat} {x y : LN} : (a :: x < b :: y) ↔ (a < b ∨ a = b ∧ x < y) := List.cons_lt_cons_iff
theorem ltn {x : LN} : ¬ x < ([] : LN) := List.not_lt_nil x
theorem nlc {a : Nat} {x : LN} : ([] : LN) < a :: x := List.nil_lt_cons a x
theorem lirr (x : LN) : ¬ x < x := List.lt_irrefl x
theorem ltr {x y z : LN} (h : x < y) (k : y < z) : x < z := List.lt_trans h k
theorem ltri (x y : LN) : x < y ∨ x = y ∨ y < x := by
  induction x generalizing y with
  | nil => cases y with
    | nil => exact .inr (.inl rfl)
    | cons b y => exact .inl nlc
  | cons a x ih => cases y with
    | nil => exact .inr (.inr nlc)
    | cons b y =>
      rcases Nat.lt_trichotomy a b with h | h | h
      · exact .inl (ltc.mpr (.inl h))
      · subst h
        rcases ih y with k | k | k
        · exact .inl (ltc.mpr (.inr ⟨rfl, k⟩))
        · exact .inr (.inl (by rw [k]))
        · exact .inr (.inr (ltc.mpr (.inr ⟨rfl, k⟩)))
      · exact .inr (.inr (ltc.mpr (.inl h)))
theorem lle {x y z : LN} (h : ¬ y < x) (k : ¬ z < y) : ¬ z < x := fun e => by
  rcases ltri x y with a | a | a
  · exact k (ltr e a)
  · rw [a] at e; exact k e
  · exact h a
theorem llt {x y z : LN} (h : ¬ y < x) (k : y < z) : x < z := by
  rcases ltri x z with a | a | a
  · exact a
  · rw [← a] at k; exact absurd k h
  · exact absurd (ltr k a) h
theorem pre_le {x y : LN} (h : x <+: y) : ¬ y < x := by
  obtain ⟨t, rfl⟩ := h
  induction x with
  | nil => exact ltn
  | cons a x ih =>
    intro e
    rcases ltc.mp e with k | ⟨_, k⟩
    · exact absurd k (Nat.lt_irrefl _)
    · exact ih k
theorem pre_lt {x y : LN} (h : x <+: y) (n : x ≠ y) : x < y := by
  rcases ltri x y with a | a | a
  · exact a
  · exact absurd a n
  · exact absurd a (pre_le h)
theorem between {w x y : LN} (h : ¬ x < w) (k : ¬ y < x) (p : w <+: y) : w <+: x := by
  induction w generalizing x y with
  | nil => exact List.nil_prefix
  | cons c w ih =>
    obtain ⟨t, rfl⟩ := p
    cases x with
    | nil => exact absurd nlc h
    | cons d x =>
      have h1 : ¬ (d < c ∨ d = c ∧ x < w) := fun e => h (ltc.mpr e)
      have k1 : ¬ (c < d ∨ c = d ∧ w ++ t < x) := fun e => k (ltc.mpr e)
      have e : c = d := by omega
      subst e
      exact List.cons_prefix_cons.mpr ⟨rfl, ih (fun z => h1 (.inr ⟨rfl, z⟩)) (fun z => k1 (.inr ⟨rfl, z⟩)) ⟨t, rfl⟩⟩
def lcp : LN → LN → Nat
  | a :: x, b :: y => if a = b then lcp x y + 1 else 0
  | _, _ => 0
theorem lcp_le (x y : LN) : lcp x y ≤ x.length ∧ lcp x y ≤ y.length := by
  induction x generalizing y with
  | nil => exact ⟨Nat.zero_le _, Nat.zero_le _⟩
  | cons a x ih => cases y with
    | nil => exact ⟨Nat.zero_le _, Nat.zero_le _⟩
    | cons b y =>
      show (if a = b then lcp x y + 1 else 0) ≤ x.length + 1 ∧ (if a = b then lcp x y + 1 else 0) ≤ y.length + 1
      have := ih y
      split <;> omega
theorem lcp_take (x y : LN) {m : Nat} (hx : m ≤ x.length) (hy : m ≤ y.length) : x.take m = y.take m ↔ m ≤ lcp x y := by
  induction x generalizing y m with
  | nil =>
    have : m = 0 := by simpa using hx
    subst this
    simp
  | cons a x ih => cases y with
    | nil =>
      have : m = 0 := by simpa using hy
      subst this
      simp
    | cons b y => cases m with
      | zero => simp
      | succ m =>
        have q := ih y (m := m) (by simpa using hx) (by simpa using hy)
        show a :: x.take m = b :: y.take m ↔ m + 1 ≤ (if a = b then lcp x y + 1 else 0)
        rw [List.cons.injEq, q]
        split
        · rename_i e
          exact ⟨fun h => by omega, fun h => ⟨e, by omega⟩⟩
        · rename_i e
          exact ⟨fun h => absurd h.1 e, fun h => by omega⟩
theorem lcp_lt {x y : LN} (h : ¬ y < x) {m : Nat} (l : lcp x y < m) (k : m ≤ y.length) : x < y.take m := by
  induction x generalizing y m with
  | nil => cases y with
    | nil => exact absurd k (by simp; omega)
    | cons b y => cases m with
      | zero => exact absurd l (by omega)
      | succ m => exact nlc
  | cons a x ih => cases y with
    | nil => exact absurd nlc h
    | cons b y => cases m with
      | zero => exact absurd l (by omega)
      | succ m =>
        show a :: x < b :: y.take m
        have l' : (if a = b then lcp x y + 1 else 0) < m + 1 := l
        have h1 : ¬ (b < a ∨ b = a ∧ y < x) := fun e => h (ltc.mpr e)
        by_cases e : a = b
        · rw [if_pos e] at l'
          exact ltc.mpr (.inr ⟨e, ih (fun z => h1 (.inr ⟨e.symm, z⟩)) (by omega) (by simpa using k)⟩)
        · exact ltc.mpr (.inl (by omega))
/-- what the i-th has in common with the one ahead -/
def ln (s : Nat → LN) (i : Nat) : Nat := if i = 0 then 0 else lcp (s (i - 1)) (s i)
theorem ln_le (s : Nat → LN) (i : Nat) : ln s i ≤ (s i).length := by
  unfold ln
  split
  · exact Nat.zero_le _
  · exact (lcp_le _ _).2
/-- the pieces that come first with the i-th -/
def grp (s : Nat → LN) (i : Nat) : List LN := (List.range ((s i).length - ln s i)).map fun k => (s i).take (ln s i + k + 1)
def pcs (s : Nat → LN) (n : Nat) : List LN := (List.range n).flatMap (grp s)
theorem pcs_succ (s : Nat → LN) (n : Nat) : pcs s (n + 1) = pcs s n ++ grp s n := by
  unfold pcs
  rw [List.range_succ, List.flatMap_append]
  simp
def Srt (s : Nat → LN) (n : Nat) : Prop := ∀ i j, i < j → j < n → ¬ s j < s i
theorem Srt.less {s : Nat → LN} {n m : Nat} (h : Srt s n) (l : m ≤ n) : Srt s m := fun i j a b => h i j a (by omega)
theorem grp_mem {s : Nat → LN} {i : Nat} {x : LN} : x ∈ grp s i ↔ x <+: s i ∧ ln s i < x.length := by
  unfold grp
  rw [List.mem_map]
  constructor
  · rintro ⟨k, hk, rfl⟩
    have hk := List.mem_range.mp hk
    exact ⟨List.take_prefix _ _, by rw [List.length_take]; omega⟩
  · rintro ⟨p, l⟩
    have := p.length_le
    refine ⟨x.length - ln s i - 1, List.mem_range.mpr (by omega), ?_⟩
    rw [List.prefix_iff_eq_take.mp p]
    congr 1
    rw [List.length_take]
    omega
theorem pcs_le {s : Nat → LN} {n : Nat} (h : Srt s (n + 1)) {x : LN} (hx : x ∈ pcs s (n + 1)) : ¬ s n < x := by
  unfold pcs at hx
  obtain ⟨i, hi, hm⟩ := List.mem_flatMap.mp hx
  have hi := List.mem_range.mp hi
  have p := pre_le (grp_mem.mp hm).1
  rcases Nat.lt_or_ge i n with l | l
  · exact lle p (h i n l (by omega))
  · rw [show n = i by omega]
    exact p
theorem pcs_asc {s : Nat → LN} {n : Nat} (h : Srt s n) : (pcs s n).Pairwise (· < ·) := by
  induction n with
  | zero => exact List.Pairwise.nil
  | succ n ih =>
    rw [pcs_succ]
    refine List.pairwise_append.mpr ⟨ih (h.less (Nat.le_succ n)), ?_, fun x hx y hy => ?_⟩
    · unfold grp
      refine List.pairwise_map.mpr (List.Pairwise.imp_of_mem (fun {a b} ha hb l => ?_) List.pairwise_lt_range)
      have ha := List.mem_range.mp ha
      have hb := List.mem_range.mp hb
      have e : (s n).take (ln s n + a + 1) = ((s n).take (ln s n + b + 1)).take (ln s n + a + 1) := by
        rw [List.take_take, Nat.min_eq_left (by omega)]
      refine pre_lt (by rw [e]; exact List.take_prefix _ _) fun z => ?_
      have := congrArg List.length z
      rw [List.length_take, List.length_take] at this
      omega
    · obtain ⟨p, l⟩ := grp_mem.mp hy
      cases n with
      | zero => exact absurd hx (by simp [pcs])
      | succ n =>
        have q := pcs_le (h.less (Nat.le_succ _)) hx
        have l2 : lcp (s n) (s (n + 1)) < y.length := l
        have := lcp_lt (h n (n + 1) (by omega) (by omega)) l2 p.length_le
        rw [← List.prefix_iff_eq_take.mp p] at this
        exact llt q this
theorem pcs_mem {s : Nat → LN} {n : Nat} {x : LN} : x ∈ pcs s n ↔ x ≠ [] ∧ ∃ i, i < n ∧ x <+: s i := by
  constructor
  · intro h
    obtain ⟨i, hi, hm⟩ := List.mem_flatMap.mp h
    obtain ⟨p, l⟩ := grp_mem.mp hm
    exact ⟨fun e => by rw [e] at l; exact absurd l (by simp), i, List.mem_range.mp hi, p⟩
  · rintro ⟨ne, i, hi, p⟩
    induction i with
    | zero =>
      refine List.mem_flatMap.mpr ⟨0, List.mem_range.mpr hi, grp_mem.mpr ⟨p, ?_⟩⟩
      have : ln s 0 = 0 := rfl
      rw [this]
      exact List.length_pos_iff.mpr ne
    | succ i ih =>
      by_cases l : ln s (i + 1) < x.length
      · exact List.mem_flatMap.mpr ⟨i + 1, List.mem_range.mpr hi, grp_mem.mpr ⟨p, l⟩⟩
      · have l2 : x.length ≤ lcp (s i) (s (i + 1)) := Nat.le_of_not_lt l
        have q := lcp_le (s i) (s (i + 1))
        have e := (lcp_take (s i) (s (i + 1)) (m := x.length) (by omega) (by omega)).mpr l2
        refine ih (by omega) ?_
        rw [List.prefix_iff_eq_take.mp p]
        have : ((s (i + 1)).take x.length).length = x.length := by rw [List.length_take]; omega
        rw [← e]
        exact List.take_prefix _ _
theorem pcs_pre (s : Nat → LN) {m n : Nat} (h : m ≤ n) : pcs s m <+: pcs s n := by
  induction n with
  | zero =>
    rw [show m = 0 by omega]
    exact List.prefix_rfl
  | succ n ih =>
    rcases Nat.lt_or_ge m (n + 1) with l | l
    · rw [pcs_succ]
      exact (ih (by omega)).trans (List.prefix_append _ _)
    · rw [show m = n + 1 by omega]
      exact List.prefix_rfl
theorem pcs_at (s : Nat → LN) {n i k : Nat} (h : i < n) (l : k < (s i).length - ln s i) : (pcs s n)[(pcs s i).length + k]? = some ((s i).take (ln s i + k + 1)) := by
  obtain ⟨t, ht⟩ := pcs_pre s (show i + 1 ≤ n from h)
  rw [← ht, pcs_succ, List.append_assoc, List.getElem?_append_right (Nat.le_add_right _ _), Nat.add_sub_cancel_left]
  have lg : (grp s i).length = (s i).length - ln s i := by unfold grp; rw [List.length_map, List.length_range]
  rw [List.getElem?_append_left (by rw [lg]; exact l)]
  unfold grp
  rw [List.getElem?_map, List.getElem?_range l]
  rfl
theorem pcs_len (s : Nat → LN) (n : Nat) : (pcs s (n + 1)).length = (pcs s n).length + ((s n).length - ln s n) := by
  rw [pcs_succ, List.length_append]
  unfold grp
  rw [List.length_map, List.length_range]
/-- how many are less than w -/
def cntLt (s : Nat → LN) (w : LN) (n : Nat) : Nat := ((List.range n).filter fun i => decide (s i < w)).length
theorem cnt_down {s : Nat → LN} {n : Nat} (h : Srt s n) (w : LN) : cntLt s w n ≤ n ∧ ∀ i, i < n → (s i < w ↔ i < cntLt s w n) := by
  induction n with
  | zero => exact ⟨Nat.le_refl _, fun i h => absurd h (by omega)⟩
  | succ n ih =>
    obtain ⟨l, q⟩ := ih (h.less (Nat.le_succ n))
    have e : cntLt s w (n + 1) = cntLt s w n + (if s n < w then 1 else 0) := by
      unfold cntLt
      rw [List.range_succ, List.filter_append, List.length_append]
      congr 1
      by_cases z : s n < w <;> simp [z]
    by_cases z : s n < w
    · rw [if_pos z] at e
      have all : cntLt s w n = n := by
        rcases Nat.lt_or_ge (cntLt s w n) n with g | g
        · have : ¬ s (cntLt s w n) < w := fun z => Nat.lt_irrefl _ ((q _ g).mp z)
          exact absurd (llt (h _ n g (by omega)) z) this
        · omega
      refine ⟨by omega, fun i hi => ?_⟩
      rcases Nat.lt_or_ge i n with g | g
      · exact ⟨fun _ => by omega, fun _ => (q i g).mpr (by omega)⟩
      · rw [show i = n by omega]
        exact ⟨fun _ => by omega, fun _ => z⟩
    · rw [if_neg z] at e
      refine ⟨by omega, fun i hi => ?_⟩
      rcases Nat.lt_or_ge i n with g | g
      · rw [e]; exact q i g
      · rw [show i = n by omega]
        exact ⟨fun y => absurd y z, fun y => by omega⟩
/-- the number of a piece -/
theorem pcs_no {s : Nat → LN} {n : Nat} (h : Srt s n) {w : LN} (ne : w ≠ []) {i : Nat} (hi : i < n) (p : w <+: s i) :
    cntLt s w n < n ∧ ln s (cntLt s w n) < w.length ∧ w.length ≤ (s (cntLt s w n)).length ∧ (pcs s n)[(pcs s (cntLt s w n)).length + (w.length - ln s (cntLt s w n) - 1)]? = some w := by
  obtain ⟨l, q⟩ := cnt_down h w
  have ni : ¬ i < cntLt s w n := fun z => pre_le p ((q i hi).mpr z)
  have lt : cntLt s w n < n := by omega
  have nf : ¬ s (cntLt s w n) < w := fun z => Nat.lt_irrefl _ ((q _ lt).mp z)
  have pf : w <+: s (cntLt s w n) := by
    rcases Nat.lt_or_ge (cntLt s w n) i with g | g
    · exact between nf (h _ _ g hi) p
    · rw [show cntLt s w n = i by omega]; exact p
  have lnf : ln s (cntLt s w n) < w.length := by
    rcases Nat.eq_zero_or_pos (cntLt s w n) with z | z
    · rw [z]; exact List.length_pos_iff.mpr ne
    · refine Nat.lt_of_not_le fun c => ?_
      have e : ln s (cntLt s w n) = lcp (s (cntLt s w n - 1)) (s (cntLt s w n)) := by
        unfold ln
        rw [if_neg (by omega)]
      rw [e] at c
      have ll := lcp_le (s (cntLt s w n - 1)) (s (cntLt s w n))
      have tk := (lcp_take (s (cntLt s w n - 1)) (s (cntLt s w n)) (m := w.length) (by omega) (by omega)).mpr c
      have pw : w <+: s (cntLt s w n - 1) := by
        have tp : (s (cntLt s w n - 1)).take w.length <+: s (cntLt s w n - 1) := List.take_prefix _ _
        rw [tk, ← List.prefix_iff_eq_take.mp pf] at tp
        exact tp
      exact pre_le pw ((q _ (by omega)).mpr (by omega))
  refine ⟨lt, lnf, pf.length_le, ?_⟩
  have := pf.length_le
  rw [pcs_at s lt (by omega)]
  rw [show ln s (cntLt s w n) + (w.length - ln s (cntLt s w n) - 1) + 1 = w.length by omega]
  exact congrArg some (List.prefix_iff_eq_take.mp pf).symm
end LawK
set_option maxHeartbeats 4000000
namespace Ev
open PySem PySem.Spec PyProof.Rows L2
/-! sets of keys of one kind whose table can be walked -/
section
variable {P : Program} {w : World} {K : Type} [DecidableEq K]
/-- no two of them are one key -/
def Apart (κ : KeyKind P w K) (l : List (Int × Value)) : Prop := l.Pairwise fun e f => ∀ k, κ.is k e.2 = true → κ.is k f.2 = true → False
/-- the set at a, S its members, n their number; its table rises and can be walked -/
def SetG (κ : KeyKind P w K) (h : Heap) (a : Addr) (S : K → Bool) (n : Nat) : Prop :=
  ∃ o es ep t, h.get? a = some o ∧ (o.ExactSet ∧ o.data = .set es ep t) ∧ (ElemsOf κ es.toList ∧ Apart κ es.toList) ∧ (∀ k, S k = true ↔ ∃ e ∈ es.toList, κ.is k e.2 = true) ∧ (es.size < scanBound ∧ t.fits es.size = true ∧ es.size = n) ∧ (Ris t.place.toList ∧ (w.params.followText "set-order" = true ∨ t.led = true))
variable {κ : KeyKind P w K} {h h' : Heap} {a : Addr} {S : K → Bool} {n : Nat}
theorem SetG.keep (R : SetG κ h a S n) (k : ∀ o, h.get? a = some o → h'.get? a = some o) : SetG κ h' a S n := let ⟨o, es, ep, t, ho, r⟩ := R; ⟨o, es, ep, t, k o ho, r⟩
theorem SetG.of (R : SetG κ h a S n) : h.SetOf κ a S n := let ⟨o, es, ep, t, ho, x, g, m, b, _⟩ := R; ⟨o, es, ep, t, ho, x.1, x.2, g.1, m, b⟩
theorem Apart.perm {l m : List (Int × Value)} (p : l.Perm m) (x : Apart κ l) : Apart κ m := List.Perm.pairwise p x fun {e f} q k h1 h2 => q k h2 h1
variable {A : Around} {E : Value → Shared → Prop} {s : Shared}
theorem setG_tail {g : Bool → Sem Unit} (gg : ∀ (b : Bool) (z : Shared) (W : Unit → Shared → Prop), W () z → wpAny (model P w) A (g b) W E z)
    {o : Obj} {es fs : Array (Int × Value)} {ep : Nat} {t u : SetTable} (ho : s.heap.get? a = some o) (xs : o.ExactSet) (hd : o.data = .set es ep t) (g1 : ElemsOf κ fs.toList) (n1 : Apart κ fs.toList) (m1 : ∀ k, S k = true ↔ ∃ e ∈ fs.toList, κ.is k e.2 = true)
    (b1 : fs.size < scanBound) (f1 : u.fits fs.size = true) (r1 : Ris u.place.toList) (l1 : w.params.followText "set-order" = true ∨ u.led = true) {wd : Bool} {R : Option Bool → Shared → Prop}
    (fin : ∀ z, Heap.SameBut a s.heap z → SetG κ z a S fs.size → R (some true) { s with heap := z }) :
    wpAny (model P w) A (storeSet a fs u >>= fun _ => if (!wd && u.tooFull) = true then (g (relayAll u fs (SetTable.grown fs.size)).2.2 >>= fun _ => storeSet a (relayAll u fs (SetTable.grown fs.size)).1 (relayAll u fs (SetTable.grown fs.size)).2.1 >>= fun _ => pure (some true)) else pure (some true)) R E s := by
  have put : ∀ {z : Heap} {o : Obj} {es : Array (Int × Value)} {ep : Nat} {t : SetTable} (fs : Array (Int × Value)) (u : SetTable), z.get? a = some o → o.data = .set es ep t → (z.update a (Obj.putSet fs u)).get? a = some { o with data := .set fs (ep + 1) u } := fun {z o es ep t} fs u e d => by
    have q := Heap.get?_update_self (Obj.putSet fs u) e (by rw [putSet_of fs u d] <;> rfl); rw [putSet_of fs u d] at q; exact q
  refine wpAny_bind (wpAny_storeSet_of ho hd ?_ (fits_of_scanBound b1))
  have o1 := put fs u ho hd
  have s1 := Heap.SameBut.update s.heap a (Obj.putSet fs u)
  split
  · have p2 := relayAll_perm u fs (SetTable.grown fs.size); have f2 := relayAll_fits u fs (SetTable.grown fs.size)
    have r2 := relayAll_ris u fs (SetTable.grown fs.size); have l2 := relayAll_led u fs (SetTable.grown fs.size)
    revert p2 f2 r2 l2
    generalize relayAll u fs (SetTable.grown fs.size) = Z
    obtain ⟨gs, v, gv⟩ := Z
    intro p2 f2 r2 l2; dsimp only at p2 f2 r2 l2 ⊢
    have sz : gs.size = fs.size := by have := p2.length_eq; rw [Array.length_toList, Array.length_toList] at this; exact this
    refine wpAny_bind (gg _ _ _ (wpAny_bind (wpAny_storeSet_of o1 rfl ?_ (fits_of_scanBound (by rw [sz] <;> exact b1)))))
    refine wpAny_pure (fin _ (s1.trans (Heap.SameBut.update _ a _)) ⟨_, gs, _, v, put gs v o1 rfl, ⟨xs, rfl⟩, ⟨fun e q => g1 e (p2.mem_iff.mp q), Apart.perm p2.symm n1⟩, fun k => (m1 k).trans ⟨fun ⟨e, q, z⟩ => ⟨e, p2.mem_iff.mpr q, z⟩, fun ⟨e, q, z⟩ => ⟨e, p2.mem_iff.mp q, z⟩⟩, ⟨by rw [sz] <;> exact b1, f2, sz⟩, r2, l1.imp id fun z => l2.trans z⟩)
  · exact wpAny_pure (fin _ s1 ⟨_, fs, _, u, o1, ⟨xs, rfl⟩, ⟨g1, n1⟩, m1, ⟨b1, f1, rfl⟩, r1, l1⟩)
theorem setG_hashed {k : K} {v : Value} {Q : Bool → Shared → Prop} (hv : κ.is k v = true) (sc : v.scannable = true) (R : SetG κ s.heap a S n) (room : n + 1 < scanBound)
    (q : ∀ z, Heap.SameBut a s.heap z → SetG κ z a (fun j => S j || decide (j = k)) (if S k = true then n else n + 1) → Q (!S k) { s with heap := z }) :
    wpAny (model P w) A (setAddHashed a v (κ.hash k)) Q E s := by
  obtain ⟨o, es, ep, t, ho, ⟨xs, hd⟩, ⟨hel, nd⟩, hm, ⟨hb, hf, hn⟩, hr, hl⟩ := R
  unfold setAddHashed; unfold setAddHashedIn
  refine wpAny_holding (wpAny_bind (wpAny_setState_of ho hd hf ?_)); dsimp only
  rw [byScan_of sc hb hel]; simp only [↓reduceIte]
  unfold setAddByScan
  refine wpAny_bind (wpAny_bind (wpAny_rule (wpAny_bind (wpAny_setScan_of hv ho hd hf hel ?_))))
  cases hfi : List.findIdx? (fun e => κ.is k e.2) es.toList with
  | some j =>
    dsimp only
    obtain ⟨hj, pj, _⟩ := List.findIdx?_eq_some_iff_getElem.mp hfi
    have hk : S k = true := (hm k).mpr ⟨es.toList[j], List.getElem_mem hj, pj⟩
    have q1 := q s.heap (Heap.SameBut.refl a s.heap) ⟨o, es, ep, t, ho, ⟨xs, hd⟩, ⟨hel, nd⟩, fun i => by
      rw [Bool.or_eq_true, decide_eq_true_eq, ← hm i]; exact ⟨fun z => z.elim id fun e => by rw [e] <;> exact hk, .inl⟩, ⟨hb, hf, by rw [if_pos hk] <;> exact hn⟩, hr, hl⟩
    rw [hk] at q1; exact wpAny_pure (wpAny_pure q1)
  | none =>
    dsimp only
    have nk : ∀ e ∈ es.toList, κ.is k e.2 = true → False := fun e he z => by
      have c := List.findIdx?_eq_none_iff.mp hfi e he; rw [z] at c; cases c
    have hk : S k = false := Bool.eq_false_iff.mpr fun z => let ⟨e, he, y⟩ := (hm k).mp z; nk e he y
    have gw : ∀ (b : Bool) {z : Shared} {W : Unit → Shared → Prop}, W () z → wpAny (model P w) A (match b with | true => rule "set.scan.the-table-gave-way" | false => pure ()) W E z := fun b {z W} y => by cases b <;> first | exact wpAny_pure y | exact wpAny_rule y
    have pm := layNew_perm t es (κ.hash k) v; have f1 := layNew_fits t es (κ.hash k) v
    have r1 := layNew_ris t es (κ.hash k) v hr; have l1 := layNew_led t es (κ.hash k) v
    revert pm f1 r1 l1
    generalize layNew t es (κ.hash k) v = Z
    obtain ⟨fs, u, wd, gv⟩ := Z
    intro pm f1 r1 l1; dsimp only at pm f1 r1 l1 ⊢
    rw [Array.toList_push] at pm
    have pc : fs.toList.Perm ((κ.hash k, v) :: es.toList) := pm.trans (List.perm_append_singleton _ _)
    have g1 : ElemsOf κ fs.toList := fun e he => by
      rcases List.mem_cons.mp (pc.mem_iff.mp he) with z | z
      · rw [z]; exact ⟨⟨k, hv, rfl⟩, sc⟩
      · exact hel e z
    have n1 : Apart κ fs.toList := Apart.perm pc.symm (List.pairwise_cons.mpr ⟨fun e he j x y => nk e he (by rw [← κ.inj v j k x hv] <;> exact y), nd⟩)
    have m1 : ∀ i, (S i || decide (i = k)) = true ↔ ∃ e ∈ fs.toList, κ.is i e.2 = true := fun i => by
      rw [Bool.or_eq_true, decide_eq_true_eq, hm i]
      constructor
      · rintro (⟨e, he, y⟩ | y)
        · exact ⟨e, pc.mem_iff.mpr (List.mem_cons_of_mem _ he), y⟩
        · exact ⟨_, pc.mem_iff.mpr List.mem_cons_self, by rw [y] <;> exact hv⟩
      · rintro ⟨e, he, y⟩
        rcases List.mem_cons.mp (pc.mem_iff.mp he) with z | z
        · rw [z] at y; exact .inr (κ.inj v i k y hv)
        · exact .inl ⟨e, z, y⟩
    have sz : fs.size = n + 1 := by have := pc.length_eq; rw [Array.length_toList, List.length_cons, Array.length_toList, hn] at this; exact this
    have b1 : fs.size < scanBound := by rw [sz] <;> exact room
    have ld : w.params.followText "set-order" = true ∨ u.led = true := hl.imp id fun z => l1.trans z
    have fin : ∀ z, Heap.SameBut a s.heap z → SetG κ z a (fun j => S j || decide (j = k)) fs.size → Q true { s with heap := z } := fun z sb r => by
      have q1 := q z sb; rw [hk] at q1; rw [sz] at r; exact q1 r
    have last : ∀ {u' : SetTable} {R : Option Bool → Shared → Prop} {g : Bool → Sem Unit}, (∀ (b : Bool) (z : Shared) (W : Unit → Shared → Prop), W () z → wpAny (model P w) A (g b) W E z) → u'.fits fs.size = true → Ris u'.place.toList → (w.params.followText "set-order" = true ∨ u'.led = true) → (∀ z, Heap.SameBut a s.heap z → SetG κ z a (fun j => S j || decide (j = k)) fs.size → R (some true) { s with heap := z }) → _ := fun {u' R g} gg a1 a2 a3 a4 => setG_tail (κ := κ) (wd := wd) (A := A) (E := E) (s := s) (R := R) gg ho xs hd g1 n1 m1 b1 a1 a2 a3 a4
    refine wpAny_bind (gw _ ?_)
    split
    · rw [hashByValue_scannable 8 sc]
      refine wpAny_bind (wpAny_pure (last ?_ ?_ ?_ ?_ ?_))
      · intro b z W y; cases b <;> first | exact wpAny_pure y | exact wpAny_rule y
      · first | (split <;> first | exact f1 | exact SetTable.fits_plain_off f1) | exact f1
      · first | (split <;> exact r1) | exact r1
      · first | (split <;> exact ld) | exact ld
      · intro z sb r; dsimp only; exact wpAny_pure (fin z sb r)
    · refine wpAny_bind (wpAny_pure ?_); simp only [↓reduceIte]
      refine last ?_ f1 r1 ld ?_
      · intro b z W y; cases b <;> first | exact wpAny_pure y | exact wpAny_rule y
      · intro z sb r; dsimp only; exact wpAny_pure (fin z sb r)
end
end Ev
set_option maxHeartbeats 4000000
namespace Ev
open PySem PySem.Spec PyProof.Rows L2
/-- one turn of a block's loop: the next thing, its store, the tests, then the body -/
def oneTurn (c : Code) (ip : Pos) (tg : Expr) (ifs : List Expr) (it : Value) (env : Env) (body : Sem PySem.Fin) : Sem PySem.Fin := standAt ip >>= fun _ => pyNext it >>= fun r => match r with
  | none => pure (.done .next)
  | some v => letOwnedTupleGo tg it v >>= fun _ => assign tg env v >>= fun _ => (forIn ifs true fun c r => if r = true then (do let ok ← isTrue c env (eval c env); pure (ForInStep.yield ok)) else pure (ForInStep.yield r)) >>= fun ok => if ok = true then body else again c
theorem turn_set1 (elt tg iter : Expr) (ifs : List Expr) (scope : Scope) (pos : Pos) (it acc : Value) (env : Env) :
    compTurn (.SetComp elt [⟨tg, iter, ifs, 0⟩] scope pos) 0 it acc env = oneTurn (.compLoop (.SetComp elt [⟨tg, iter, ifs, 0⟩] scope pos) 0 it acc env) iter.pos tg ifs it env ((eval elt env >>= fun v => standAt elt.pos >>= fun _ => call (.builtin "set.add") [acc, v] >>= fun _ => pure ()) >>= fun _ => again (.compLoop (.SetComp elt [⟨tg, iter, ifs, 0⟩] scope pos) 0 it acc env)) := by
  unfold oneTurn
  rfl
theorem turn_set2i (elt t0 i0 t1 i1 : Expr) (ifs0 ifs1 : List Expr) (scope : Scope) (pos : Pos) (it acc : Value) (env : Env) :
    compTurn (.SetComp elt [⟨t0, i0, ifs0, 0⟩, ⟨t1, i1, ifs1, 0⟩] scope pos) 1 it acc env = oneTurn (.compLoop (.SetComp elt [⟨t0, i0, ifs0, 0⟩, ⟨t1, i1, ifs1, 0⟩] scope pos) 1 it acc env) i1.pos t1 ifs1 it env ((eval elt env >>= fun v => standAt elt.pos >>= fun _ => call (.builtin "set.add") [acc, v] >>= fun _ => pure ()) >>= fun _ => again (.compLoop (.SetComp elt [⟨t0, i0, ifs0, 0⟩, ⟨t1, i1, ifs1, 0⟩] scope pos) 1 it acc env)) := by
  unfold oneTurn
  rfl
theorem turn_set2o (elt t0 i0 t1 i1 : Expr) (ifs0 ifs1 : List Expr) (scope : Scope) (pos : Pos) (it acc : Value) (env : Env) :
    compTurn (.SetComp elt [⟨t0, i0, ifs0, 0⟩, ⟨t1, i1, ifs1, 0⟩] scope pos) 0 it acc env = oneTurn (.compLoop (.SetComp elt [⟨t0, i0, ifs0, 0⟩, ⟨t1, i1, ifs1, 0⟩] scope pos) 0 it acc env) i0.pos t0 ifs0 it env
      (eval i1 env >>= fun x => standAt i1.pos >>= fun _ => foldedSetIterable i1 env x >>= fun x => holding [x] (pyIter x) >>= fun j => runOwn (.compStart (.SetComp elt [⟨t0, i0, ifs0, 0⟩, ⟨t1, i1, ifs1, 0⟩] scope pos) 1 j acc env) env >>= fun _ => again (.compLoop (.SetComp elt [⟨t0, i0, ifs0, 0⟩, ⟨t1, i1, ifs1, 0⟩] scope pos) 0 it acc env)) := by
  unfold oneTurn
  rfl
section
variable {Y : Cx} {e : Expr} {ci : Nat} {it : Addr} {acc : Value} {ip : Pos} {tg : Expr} {ifs : List Expr} {body : Sem PySem.Fin} {J : It} {fp : List Addr} {tn : Nat → Heap → Prop} {R : Result → Shared → Prop} {pins : List (Addr × Obj)} {σ : L2.St} {vs : List Nat} {g : TG} {tt : TT}
/-- what a body says of the slots: those that were wiped may be anything -/
def Slots (σ τ : L2.St) (vs : List Nat) : Prop := τ.length = σ.length ∧ ∀ (j : Nat) v, (wipe σ vs)[j]? = some (some v) → τ[j]? = some (some v)
/-- a block's loop over what is walked: W at each turn, and the body's own word B -/
theorem loop_any (B : L2.St → Hp → (Hp → Prop) → Prop) (hden : (model Y.prog Y.w).den (.compLoop e ci (.ref it) acc Y.env) = (oneTurn (.compLoop e ci (.ref it) acc Y.env) ip tg ifs (.ref it) Y.env body).onRaise (fun x => do noteFrame x Y.env; theTreesLotGoes x))
    (hu : Y.A.under (.compLoop e ci (.ref it) acc Y.env) = Y.A) (hq : (Code.compLoop e ci (.ref it) acc Y.env).quiet = true) (hc : Y.calm = true) (T : Turn Y.prog Y.w Y.K tg J fp it tn) (pg : PG Y tg g) (pt : PTs Y ifs tt) (hA : ∀ x s, ¬ Y.xe x s)
    (hb : ∀ (pins' : List (Addr × Obj)) s τ H (N : Hp → Prop), (∀ p ∈ pins, p ∈ pins') → Inv Y pins' τ H s → B τ H N → wpAny (model Y.prog Y.w) Y.A body (fun r s' => r = .again (.compLoop e ci (.ref it) acc Y.env) ∧ ∃ τ' H', Inv Y pins' τ' H' s' ∧ Slots τ τ' vs ∧ N H') Y.xe s)
    (fok : ∀ {H : Hp}, (∀ b ∈ fp, H b = none) → ∀ b ∈ fp, FpOk Y pins H b) (W : Nat → Nat → Hp → Prop) (F : Hp → Prop)
    (turn : ∀ i m H, W i m H → (J.stop i H ∧ F H) ∨ (J.go i H ∧ ∃ N : Hp → Prop, (∀ H', N H' → ∃ m', m' < m ∧ W (i + 1) m' H') ∧ ∀ x H', J.yld i H x H' → g x (wipe σ vs) H' fun σ2 H2 => wipe σ2 vs = wipe σ vs ∧ tt σ2 H2 fun b H3 => if b = true then B σ2 H3 N else N H3))
    (fin : ∀ s' H', Inv Y pins (wipe σ vs) H' s' → F H' → R (.ok .next) s') (m0 : Nat) (s : Shared) (H : Hp) (w0 : W 0 m0 H) (I : Inv Y pins (wipe σ vs) H s) (t0 : tn 0 s.heap) (n0 : ∀ b ∈ fp, H b = none) :
    codeAny (model Y.prog Y.w) Y.A (.compLoop e ci (.ref it) acc Y.env) R s := by
  have th : ∀ {α : Type} {t : Sem α} {Q Q' : α → Shared → Prop} {E : Value → Shared → Prop} {s : Shared}, wpAny (model Y.prog Y.w) Y.A t Q Y.xe s → (∀ a s, Q a s → Q' a s) → wpAny (model Y.prog Y.w) Y.A t Q' E s := fun h q => wpAny_mono h q fun x s z => (hA x s z).elim
  refine codeAny_loop hq (fun m s' => ∃ i H', W i m H' ∧ Inv Y pins (wipe σ vs) H' s' ∧ tn i s'.heap ∧ ∀ b ∈ fp, H' b = none) (fun m s1 hI => ?_) m0 ⟨0, H, w0, I, t0, n0⟩
  obtain ⟨i, H1, w1, I1, t1, n1⟩ := hI
  rw [hden, hu]
  refine wpAny_noted ?_
  unfold oneTurn
  refine wpAny_bind (wpAny_standAt (wpAny_bind ?_))
  rcases turn i m H1 w1 with ⟨stop, f1⟩ | ⟨go, N, hN, step⟩
  · refine thnF (T.done Y rfl rfl rfl hc i pins s1 _ H1 (fun _ _ => False) I1 (fok n1) t1 stop) fun r s2 ⟨er, I2⟩ => ?_
    subst er
    exact wpAny_pure (fin s2 H1 I2 f1)
  · refine thnF (T.item Y rfl rfl rfl hc i pins s1 _ H1 (fun _ _ => False) I1 (fok n1) t1 go) fun r s2 ⟨u, er, h2⟩ => ?_
    subst er
    refine wpAny_bind (thnF h2 fun _ s3 ⟨x, H3, I3, r3, y3, t3, n3⟩ => wpAny_bind ?_)
    have J3 := I3.pinned (fok n3) (T.obj _ _ t3)
    refine th (pg.run _ s3 _ H3 x u _ J3 r3 (step x H3 y3)) fun _ s4 ⟨τ, H4, I4, e4, q4⟩ => wpAny_bind ?_
    refine th (pt.run _ s4 τ H4 _ I4 q4) fun b s5 ⟨H5, I5, q5⟩ => ?_
    have back : ∀ {τ' : L2.St} {s' : Shared} {H' : Hp}, Inv Y (pins ++ pinsAt fp s3.heap) τ' H' s' → Slots τ τ' vs → N H' → ∃ m', m' < m ∧ ∃ i H', W i m' H' ∧ Inv Y pins (wipe σ vs) H' s' ∧ tn i s'.heap ∧ ∀ b ∈ fp, H' b = none := fun {τ' s' H'} I' sl nx => by
      obtain ⟨m', lm, w'⟩ := hN H' nx
      have pin : ∀ b ∈ fp, ∀ o, s3.heap.get? b = some o → s'.heap.get? b = some o ∧ H' b = none := fun b hb o eo => let z := I'.pin (b, o) (List.mem_append_right _ (List.mem_append_right _ (mem_pinsAt hb eo))); ⟨z.1, z.2.1⟩
      refine ⟨m', lm, i + 1, H', w', I'.unpinned.weak ?_ (fun j v ev => sl.2 j v (by rw [e4] <;> exact ev)), T.keep _ _ _ t3 fun b hb o eo => (pin b hb o eo).1, fun b hb => ?_⟩
      · rw [sl.1, ← wipe_length τ vs, e4] <;> rfl
      · obtain ⟨o, eo, _⟩ := T.obj _ _ t3 b hb
        exact (pin b hb o eo).2
    cases b with
    | false =>
      simp only [Bool.false_eq_true, if_false] at q5 ⊢
      exact wpAny_pure ⟨rfl, back I5 ⟨rfl, fun j v ev => (wipe_some ev).1⟩ q5⟩
    | true =>
      simp only [if_true] at q5 ⊢
      exact th (hb _ s5 τ H5 N (fun p hp => List.mem_append_left _ hp) I5 q5) fun r s6 ⟨er, τ', H6, I6, sl, q6⟩ => by subst er; exact ⟨rfl, back I6 sl q6⟩
end
end Ev
set_option maxHeartbeats 4000000
namespace Ev
open PySem PySem.Spec PyProof.Rows L2
theorem setG_add {P : Program} {w : World} {K : Type} [DecidableEq K] {κ : KeyKind P w K} {A : Around} {E : Value → Shared → Prop} {s : Shared} {a : Addr} {S : K → Bool} {n : Nat} {k : K} {v : Value} {Q : Value → Shared → Prop} (hv : κ.is k v = true) (sc : v.scannable = true) (R : SetG κ s.heap a S n) (room : n + 1 < scanBound)
    (q : ∀ z, Heap.SameBut a s.heap z → SetG κ z a (fun j => S j || decide (j = k)) (if S k = true then n else n + 1) → Q .none { s with heap := z, toks := s.toks + 1 }) : wpAny (model P w) A (call (.builtin "set.add") [.ref a, v]) Q E s := by
  refine wpAny_call_entry F.slot_set_add R.of.typeIs F.entry_set_add ?_ (F.args_set_add_2 _ _)
  unfold Builtin.«set.add»; unfold Builtin.Frozenset.oneOther
  simp only [List.isEmpty_nil, bind_assoc]; unfold Builtin.Frozenset.addrOf; unfold setAdd
  refine wpAny_bind (wpAny_pure ?_); try dsimp only
  refine wpAny_bind (wpAny_pure ?_); try dsimp only
  refine wpAny_bind (wpAny_holding (wpAny_bind (κ.pyHash hv (setG_hashed (s := { s with toks := s.toks + 1 }) hv sc R room fun z sb r => ?_))))
  show wpAny _ _ (ret Value.none) _ _ _; exact wpAny_pure ⟨_, rfl, q z sb r⟩
/-- the set of keys at a, that can be walked -/
def SetX (P : Program) (w : World) (a : Addr) (S : Key → Bool) (n : Nat) : HO := .ext fun h => SetG (mixKind P w) h a S n
theorem setX_new {P : Program} {w : World} {H : Hp} {h : Heap} {a : Addr} {S : Key → Bool} {n : Nat} (R : SetG (mixKind P w) h a S n) : ObjOk P w H h a (SetX P w a S n) := by
  have ⟨o, _, _, _, ho, _⟩ := R
  exact ⟨R, ⟨o, ho⟩, fun h1 h2 p k => SetG.keep p k⟩
/-- the set with one more -/
def put1 (P : Program) (w : World) (D : Addr) (S : Key → Bool) (n : Nat) (k : Key) : HO := SetX P w D (fun j => S j || decide (j = k)) (if S k = true then n else n + 1)
section
variable {X : Cx} {pins : List (Addr × Obj)} {σ : L2.St} {H : Hp} {s : Shared}
theorem setX_get {a : Addr} {S : Key → Bool} {n : Nat} (I : Inv X pins σ H s) (ha : H a = some (SetX X.prog X.w a S n)) : SetG (mixKind X.prog X.w) s.heap a S n := (I.hok a _ ha).1
/-- set.add of a key -/
theorem addX_ok {E : Value → Shared → Prop} {D : Addr} {S : Key → Bool} {n : Nat} {k : Key} {v : Value} {Q : Value → Shared → Prop} (I : Inv X pins σ H s) (r : RelV (kV k) v) (hD : H D = some (SetX X.prog X.w D S n)) (room : n + 1 < scanBound)
    (h : ∀ s', Inv X pins σ (upd H D (put1 X.prog X.w D S n k)) s' → Q .none s') : wpAny (model X.prog X.w) X.A (call (.builtin "set.add") [.ref D, v]) Q E s := by
  refine setG_add (kV_is r) (key_scan r) (setX_get I hD) room fun z sb new => ?_
  have ⟨o, _, _, _, ho, _⟩ := new
  exact h _ (I.write (e := D) (t' := s.toks + 1) (by rw [hD] <;> trivial) (.inl rfl) (fun b u hb hu => (sb.2 b hb).trans hu) ⟨o, ho⟩ (setX_new new))
end
/-- what a body asks that puts one key more into D -/
def bAdd (P : Program) (w : World) (D : Addr) (te : TE) : L2.St → Hp → (Hp → Prop) → Prop := fun τ H N => te τ H fun y H4 => ∃ (k : Key) (S : Key → Bool) (n : Nat), y = kV k ∧ H4 D = some (SetX P w D S n) ∧ n + 1 < scanBound ∧ N (upd H4 D (put1 P w D S n k))
theorem body_add {Y : Cx} {elt : Expr} {te : TE} {c : Code} {D : Addr} {vs : List Nat} (pe : PE Y elt te) (pins' : List (Addr × Obj)) (s : Shared) (τ : L2.St) (H : Hp) (N : Hp → Prop) (I : Inv Y pins' τ H s) (h : bAdd Y.prog Y.w D te τ H N) :
    wpAny (model Y.prog Y.w) Y.A ((eval elt Y.env >>= fun v => standAt elt.pos >>= fun _ => call (.builtin "set.add") [.ref D, v] >>= fun _ => pure ()) >>= fun _ => again c) (fun r s' => r = .again c ∧ ∃ τ' H', Inv Y pins' τ' H' s' ∧ Slots τ τ' vs ∧ N H') Y.xe s := by
  refine wpAny_bind (wpAny_bind (thn (pe.run pins' s τ H _ I h) fun v s1 ⟨y, H1, I1, r1, k, S, n, ey, hD, room, nx⟩ => wpAny_bind (wpAny_standAt (wpAny_bind ?_))))
  subst ey
  exact addX_ok I1 r1 hD room fun s2 I2 => wpAny_pure (wpAny_pure ⟨rfl, τ, _, I2, ⟨rfl, fun j v e => (wipe_some e).1⟩, nx⟩)
/-- over anything that is walked -/
theorem wk {J : It} {n : Nat} {G : Hp → Prop} {Y : Nat → Hp → V → Hp → Prop} (w : Walk J n G Y) {F : Hp → Prop} {H0 : Hp} {T : V → Hp → (Hp → Prop) → Prop} (Pv : Nat → Hp → Prop) (h0 : Pv 0 H0) (hG : ∀ i H, i ≤ n → Pv i H → G H)
    (hs : ∀ i x H H', i < n → Pv i H → Y i H x H' → T x H' (Pv (i + 1))) (hd : ∀ H, Pv n H → F H) :
    ∃ W : Nat → Nat → Hp → Prop, (∃ m, W 0 m H0) ∧ ∀ i m H, W i m H → (J.stop i H ∧ F H) ∨ (J.go i H ∧ ∃ N : Hp → Prop, (∀ H', N H' → ∃ m', m' < m ∧ W (i + 1) m' H') ∧ ∀ x H', J.yld i H x H' → T x H' N) := by
  refine ⟨fun i m H => i ≤ n ∧ m + i = n ∧ Pv i H, ⟨n, Nat.zero_le _, rfl, h0⟩, fun i m H ⟨hi, em, p⟩ => ?_⟩
  rcases Nat.lt_or_ge i n with hlt | hge
  · exact .inr ⟨w.goes i H hlt (hG i H hi p), Pv (i + 1), fun H' p' => ⟨m - 1, by omega, hlt, by omega, p'⟩, fun x H' y => hs i x H H' hlt p (w.yields i H x H' hlt (hG i H hi p) y)⟩
  · obtain rfl : i = n := Nat.le_antisymm hi hge
    exact .inl ⟨w.stops H (hG i H hi p), hd H p⟩
end Ev
set_option maxHeartbeats 4000000
namespace Ev
open PySem PySem.Spec PyProof.Rows L2
/-- an empty set, new at the heap's end -/
abbrev emptyS (w : World) : Obj := { cls := .type "set", dict := none, data := .set #[] 0 (.fresh 0 0 (!w.params.followText "set-order")) }
theorem setG_new {P : Program} {w : World} {K : Type} [DecidableEq K] {κ : KeyKind P w K} {h : Heap} : SetG κ (h.push (emptyS w)) h.objs.size (fun _ => false) 0 := by
  refine ⟨_, #[], 0, _, Heap.get?_push_size _ rfl, ⟨⟨rfl, rfl, rfl⟩, rfl⟩, ⟨fun e he => by simp at he, List.Pairwise.nil⟩, fun k => by simp, ⟨by decide, by rfl, rfl⟩, List.Pairwise.nil, ?_⟩
  show _ ∨ (!w.params.followText "set-order") = true
  cases w.params.followText "set-order" with
  | true => exact .inl rfl
  | false => exact .inr rfl
/-- {.. for tg in iter if ..}, B: what each turn's body asks, D the new set -/
def tScG (P : Program) (w : World) (wi : TI) (g : TG) (tt : TT) (B : Addr → L2.St → Hp → (Hp → Prop) → Prop) (vs : List Nat) : TE := fun σ H Q => wi σ H fun J H1 => ∀ D, H1 D = none → ∃ W : Nat → Nat → Hp → Prop, (∃ m, W 0 m (upd H1 D (SetX P w D (fun _ => false) 0))) ∧ ∀ i m H, W i m H → (J.stop i H ∧ Q (.ref D) H) ∨ (J.go i H ∧ ∃ N : Hp → Prop, (∀ H', N H' → ∃ m', m' < m ∧ W (i + 1) m' H') ∧ ∀ x H', J.yld i H x H' → g x (wipe σ vs) H' fun σ2 H2 => wipe σ2 vs = wipe σ vs ∧ tt σ2 H2 fun b H3 => if b = true then B D σ2 H3 N else N H3)
/-- what an inner clause asks -/
def bIn (P : Program) (w : World) (wi1 : TI) (g1 : TG) (tt1 : TT) (te : TE) (vs1 : List Nat) (D : Addr) : L2.St → Hp → (Hp → Prop) → Prop := fun τ H N => wi1 τ H fun J1 H4 => ∃ W1 : Nat → Nat → Hp → Prop, (∃ m, W1 0 m H4) ∧ ∀ j k H, W1 j k H → (J1.stop j H ∧ N H) ∨ (J1.go j H ∧ ∃ N1 : Hp → Prop, (∀ H', N1 H' → ∃ k', k' < k ∧ W1 (j + 1) k' H') ∧ ∀ x H', J1.yld j H x H' → g1 x (wipe τ vs1) H' fun σ3 H5 => wipe σ3 vs1 = wipe τ vs1 ∧ tt1 σ3 H5 fun b H6 => if b = true then bAdd P w D te σ3 H6 N1 else N1 H6)
/-- the block that a comprehension runs in -/
abbrev blkC (X : Cx) (s : Shared) (H : Hp) (scope : Scope) (fp : List Addr) : Cx := X.blk s H scope (compEnvC scope (cellsFrom (s.heap.objs.size + 1) scope.names (cloFrom X.env.cells scope.names [])) s.heap.objs.size X.env) fp
section
variable {X : Cx} {elt tg iter : Expr} {ifs : List Expr} {rest : List Comprehension} {scope : Scope} {own : List (Str × Nat)} {pos pos' : Pos} {wi : TI} {g : TG} {tt : TT} {B : Addr → L2.St → Hp → (Hp → Prop) → Prop}
theorem scG_core (bodyK : Addr → Addr → Env → Sem PySem.Fin) (hc : X.calm = true) (hN : X.N.Nodup) (hi : PI X tg iter wi) (ok : BlkOk X.N X.env.scope scope own)
    (hg : ∀ s H fp, PG (blkC X s H scope fp) tg g) (ht : ∀ s H fp, PTs (blkC X s H scope fp) ifs tt) (hs : ∀ x, foldedSetIterable iter X.env x = pure x)
    (hden : ∀ (it D : Addr) (env : Env), compTurn (.SetComp elt (⟨tg, iter, ifs, 0⟩ :: rest) scope pos) 0 (.ref it) (.ref D) env = oneTurn (.compLoop (.SetComp elt (⟨tg, iter, ifs, 0⟩ :: rest) scope pos) 0 (.ref it) (.ref D) env) iter.pos tg ifs (.ref it) env (bodyK it D env))
    (hb : ∀ (s0 : Shared) (H0 : Hp) (fp : List Addr) (it D : Addr) pins' s τ H (N : Hp → Prop), Inv (blkC X s0 H0 scope fp) pins' τ H s → B D τ H N →
      wpAny (model X.prog X.w) X.A (bodyK it D (blkC X s0 H0 scope fp).env) (fun r s' => r = .again (.compLoop (.SetComp elt (⟨tg, iter, ifs, 0⟩ :: rest) scope pos) 0 (.ref it) (.ref D) (blkC X s0 H0 scope fp).env) ∧ ∃ τ' H', Inv (blkC X s0 H0 scope fp) pins' τ' H' s' ∧ Slots τ τ' (own.map (·.2)) ∧ N H') (blkC X s0 H0 scope fp).xe s) :
    PE X (.SetComp elt (⟨tg, iter, ifs, 0⟩ :: rest) scope pos) (tScG X.prog X.w wi g tt B (own.map (·.2))) := by
  refine ⟨fun pins s σ H Q I h => ?_⟩
  show wpAny _ _ (comprehension (.SetComp elt (⟨tg, iter, ifs, 0⟩ :: rest) scope pos) scope X.env _ (newSet (.type "set")) false (eval iter X.env) none) _ _ _
  have free : ∀ y ∈ scope.names, y.2 = .free → ∃ c, X.env.cells.lookup y.1 = some c := fun y hy e => (ok.free y hy e).elim (fun k => I.ok.has _ (.inl k)) fun k => I.ok.has _ (.inr k)
  refine wpAny_comprehension_free (use := none) rfl hs (closure_ok free) ok.kind (fun y hy e => by rw [ok.uniq y hy, e]) (thn (hi.run pins s σ H _ I h) fun xv s1 hx => thn hx fun itv s2 ⟨it, fp, tn, J, H2, eit, I2, T, t2, f2, q⟩ => PpSet.newSet_ok (newEnv_comp ?_))
  subst eit
  have fresh : H2 s2.heap.objs.size = none := I2.hok.fresh (Nat.le_refl _)
  obtain ⟨W, ⟨m0, w0⟩, turn⟩ := q _ fresh
  have old : ∀ b ∈ fp, b < s2.heap.objs.size := fun b hb => let ⟨o, e, _⟩ := T.obj _ _ t2 b hb; Heap.lt_size e
  -- with the new set
  obtain ⟨D, eD⟩ : ∃ D, s2.heap.objs.size = D := ⟨_, rfl⟩
  obtain ⟨s3, e3⟩ : ∃ s3 : Shared, s3 = { s2 with heap := s2.heap.push (emptyS X.w) } := ⟨_, rfl⟩
  have h3 : s3.heap = s2.heap.push (emptyS X.w) := by rw [e3]
  obtain ⟨H3, eH⟩ : ∃ H3, H3 = upd H2 s2.heap.objs.size (SetX X.prog X.w s2.heap.objs.size (fun _ => false) 0) := ⟨_, rfl⟩
  have I3 : Inv X pins σ H3 s3 := by
    rw [eH, e3]
    exact I2.laid (t' := s2.toks) (fun b o e => Heap.get?_push_of_some _ e) (Nat.le_refl _) (setX_new setG_new)
  have f3 : ∀ b ∈ fp, FpOk X pins H3 b ∧ b < s3.heap.objs.size := fun b hb => by
    have lt := old b hb
    refine ⟨⟨?_, (f2 b hb).2⟩, by rw [h3, Heap.size_push] <;> exact Nat.lt_succ_of_lt lt⟩
    rw [eH, upd_ne (Nat.ne_of_lt lt)] <;> exact (f2 b hb).1
  have t3 : tn 0 s3.heap := T.keep _ _ _ t2 fun b _ o e => by rw [h3] <;> exact Heap.get?_push_of_some _ e
  rw [← eH] at w0
  rw [eD] at turn
  show codeAny _ _ (.compStart (.SetComp elt (⟨tg, iter, ifs, 0⟩ :: rest) scope pos) 0 (.ref it) (.ref s2.heap.objs.size) _) (compPost _ _ _ _ _ (.ref s2.heap.objs.size) _) _
  rw [eD]
  have I4 := block_start I3 ok hN f3
  have goal : codeAny (model X.prog X.w) X.A (.compStart (.SetComp elt (⟨tg, iter, ifs, 0⟩ :: rest) scope pos) 0 (.ref it) (.ref D) (blkC X s3 H3 scope fp).env) (compPost (model X.prog X.w) X.A X.xe none (EP X pins σ Q) (.ref D) s3.heap.objs.size) { s3 with heap := pushCells (s3.heap.push { cls := .type "dict", data := .dict #[] }) scope.names } := by
    have t4 : tn 0 ({ s3 with heap := pushCells (s3.heap.push { cls := .type "dict", data := .dict #[] }) scope.names } : Shared).heap := T.keep _ _ _ t3 fun b _ o e => pushCells_keeps _ _ _ _ (Heap.get?_push_of_some _ e)
    revert I4 t4
    generalize ({ s3 with heap := pushCells (s3.heap.push { cls := .type "dict", data := .dict #[] }) scope.names } : Shared) = s4
    intro I4 t4
    have stat : ∀ {H' : Hp}, (∀ b ∈ fp, H' b = none) → ∀ b ∈ fp, FpOk (blkC X s3 H3 scope fp) [] H' b := fun hn b hb =>
      ⟨hn b hb, (I4.ok.exf b hb).1, I4.ok.exfs b hb, .inl hb, fun x c e => (I4.ok.exf b hb).2 x c e, fun p hp => nomatch (show p ∈ ([] : List (Addr × Obj)) from hp)⟩
    have loop := loop_any (Y := blkC X s3 H3 scope fp) (e := .SetComp elt (⟨tg, iter, ifs, 0⟩ :: rest) scope pos) (ci := 0) (it := it) (acc := .ref D) (ip := iter.pos) (body := bodyK it D (blkC X s3 H3 scope fp).env) (R := compPost (model X.prog X.w) X.A X.xe none (EP X pins σ Q) (.ref D) s3.heap.objs.size) (σ := σ) (vs := own.map (·.2)) (pins := []) (B D)
      (by show (compTurn _ 0 (.ref it) (.ref D) _).onRaise _ = _; rw [hden]) rfl rfl hc T (hg s3 H3 fp) (ht s3 H3 fp) (fun _ _ z => z) (fun pins' s τ H N _ I' b => hb s3 H3 fp it D pins' s τ H N I' b) stat W (fun H => Q (.ref D) H) turn (fun s' H' I' qq => ?_) m0 s4 H3 w0 I4 t4 (fun b hb => (f3 b hb).1.1)
    · exact PpSet.codeAny_compStart_set loop (T.self X.A 0 _ _ _ t4 loop)
    · have J' : Inv X pins σ H' s' := I3.call' (ch := fp) I'.os I'.base I'.hok I'.bare fun b hb => let z := (f3 b hb).1.2; ⟨z.2.2.1, z.1, z.2.2.2.1, z.2.2.2.2⟩
      obtain ⟨m, hm, _⟩ := I'.loc
      have f := I3.fpOk (H' := H') (Nat.le_refl _) I'.free
      exact ⟨m, hm, fun z sb => ⟨.ref D, H', J'.turned (t' := s'.toks) (fun b o hb e => (sb.2 b hb).trans e) f.1 f.2.1 f.2.2.2.1 f.2.2.2.2.1 f.2.2.2.2.2, rfl, qq⟩⟩
  subst e3
  exact goal
/-- one clause -/
theorem pe_sc1 {te : TE} (hc : X.calm = true) (hN : X.N.Nodup) (hi : PI X tg iter wi) (ok : BlkOk X.N X.env.scope scope own) (hg : ∀ s H fp, PG (blkC X s H scope fp) tg g) (ht : ∀ s H fp, PTs (blkC X s H scope fp) ifs tt) (he : ∀ s H fp, PE (blkC X s H scope fp) elt te)
    (hs : ∀ x, foldedSetIterable iter X.env x = pure x := by intro _; rfl) : PE X (.SetComp elt [⟨tg, iter, ifs, 0⟩] scope pos) (tScG X.prog X.w wi g tt (fun D => bAdd X.prog X.w D te) (own.map (·.2))) :=
  scG_core (B := fun D => bAdd X.prog X.w D te) _ hc hN hi ok hg ht hs (fun it D env => turn_set1 elt tg iter ifs scope pos (.ref it) (.ref D) env) fun s0 H0 fp it D pins' s τ H N I b => body_add (Y := blkC X s0 H0 scope fp) (he s0 H0 fp) pins' s τ H N I b
end
end Ev
set_option maxHeartbeats 4000000
namespace Ev
open PySem PySem.Spec PyProof.Rows L2
theorem start_in {prog : Program} {w : World} {A : Around} {R : Result → Shared → Prop} {s : Shared} {env : Env} {elt t0 i0 t1 i1 : Expr} {ifs0 ifs1 : List Expr} {scope : Scope} {pos : Pos} {it acc : Value}
    (h0 : codeAny (model prog w) A (.compLoop (.SetComp elt [⟨t0, i0, ifs0, 0⟩, ⟨t1, i1, ifs1, 0⟩] scope pos) 1 it acc env) R s)
    (h : wpAny (model prog w) A (pyIter it) (fun j s' => codeAny (model prog w) A (.compLoop (.SetComp elt [⟨t0, i0, ifs0, 0⟩, ⟨t1, i1, ifs1, 0⟩] scope pos) 1 j acc env) R s') (notedBy (model prog w) A env fun x s' => R (.error x) s') s) :
    codeAny (model prog w) A (.compStart (.SetComp elt [⟨t0, i0, ifs0, 0⟩, ⟨t1, i1, ifs1, 0⟩] scope pos) 1 it acc env) R s := by
  refine codeAny_of_tree ?_
  show wpAny _ _ ((compStart _ 1 it acc env).onRaise (fun x => do noteFrame x env; standAt theWindowsPlace)) _ _ s
  refine wpAny_notedAt ?_; unfold compStart
  show wpAny _ _ (ask >>= _) _ _ s
  refine wpAny_bind (wpAny_askSetting (wpAny_ite ?_)); split
  · first | exact wpAny_bind (wpAny_pure (wpAny_pure ⟨rfl, h0⟩)) | exact wpAny_pure ⟨rfl, h0⟩
  · have go : ∀ {W : PySem.Fin → Shared → Prop}, (∀ j s', codeAny (model prog w) A (.compLoop (.SetComp elt [⟨t0, i0, ifs0, 0⟩, ⟨t1, i1, ifs1, 0⟩] scope pos) 1 j acc env) R s' → W (.again (.compLoop (.SetComp elt [⟨t0, i0, ifs0, 0⟩, ⟨t1, i1, ifs1, 0⟩] scope pos) 1 j acc env)) s') → wpAny (model prog w) A (pyIter it >>= fun j => again (.compLoop (.SetComp elt [⟨t0, i0, ifs0, 0⟩, ⟨t1, i1, ifs1, 0⟩] scope pos) 1 j acc env)) W (notedBy (model prog w) A env fun x s' => R (.error x) s') s := fun k => wpAny_bind (wpAny_mono h (fun j s' z => wpAny_pure (k j s' z)) fun _ _ x => x)
    refine wpAny_bind (wpAny_rule ?_)
    show wpAny _ _ (standAt i1.pos >>= _) _ _ s
    exact wpAny_bind (wpAny_standAt (go fun j s' z => ⟨rfl, z⟩))
section
variable {X : Cx} {elt tg iter tg1 iter1 : Expr} {ifs ifs1 : List Expr} {scope : Scope} {own : List (Str × Nat)} {vs1 : List Nat} {pos : Pos} {wi wi1 : TI} {g g1 : TG} {tt tt1 : TT} {te : TE}
theorem body_in (hc : X.calm = true) (hv : ∀ i ∈ vs1, i ∈ own.map (·.2)) (hi1 : ∀ s H fp, PI (blkC X s H scope fp) tg1 iter1 wi1) (hg1 : ∀ s H fp, PG (blkC X s H scope fp) tg1 g1) (ht1 : ∀ s H fp, PTs (blkC X s H scope fp) ifs1 tt1) (he : ∀ s H fp, PE (blkC X s H scope fp) elt te) (hs1 : ∀ env x, foldedSetIterable iter1 env x = pure x)
    (s0 : Shared) (H0 : Hp) (fp : List Addr) (it D : Addr) pins' s τ H (N : Hp → Prop) (I : Inv (blkC X s0 H0 scope fp) pins' τ H s) (b : bIn X.prog X.w wi1 g1 tt1 te vs1 D τ H N) :
    wpAny (model X.prog X.w) X.A (eval iter1 (blkC X s0 H0 scope fp).env >>= fun x => standAt iter1.pos >>= fun _ => foldedSetIterable iter1 (blkC X s0 H0 scope fp).env x >>= fun x => holding [x] (pyIter x) >>= fun j => runOwn (.compStart (.SetComp elt [⟨tg, iter, ifs, 0⟩, ⟨tg1, iter1, ifs1, 0⟩] scope pos) 1 j (.ref D) (blkC X s0 H0 scope fp).env) (blkC X s0 H0 scope fp).env >>= fun _ => again (.compLoop (.SetComp elt [⟨tg, iter, ifs, 0⟩, ⟨tg1, iter1, ifs1, 0⟩] scope pos) 0 (.ref it) (.ref D) (blkC X s0 H0 scope fp).env))
      (fun r s' => r = .again (.compLoop (.SetComp elt [⟨tg, iter, ifs, 0⟩, ⟨tg1, iter1, ifs1, 0⟩] scope pos) 0 (.ref it) (.ref D) (blkC X s0 H0 scope fp).env) ∧ ∃ τ' H', Inv (blkC X s0 H0 scope fp) pins' τ' H' s' ∧ Slots τ τ' (own.map (·.2)) ∧ N H') (blkC X s0 H0 scope fp).xe s := by
  refine wpAny_bind (thn ((hi1 s0 H0 fp).run pins' s τ H _ I b) fun x s1 hx => wpAny_bind (wpAny_standAt (wpAny_bind (wpAny_of_eq (hs1 _ x) (wpAny_bind (wpAny_holding (thn hx fun j s2 h2 => ?_)))))))
  obtain ⟨it1, fp1, tn1, J1, H2, ej, I2, T1, t2, f2, W1, ⟨m1, w1⟩, turn1⟩ := h2
  subst ej
  have loop := loop_any (Y := blkC X s0 H0 scope fp) (e := .SetComp elt [⟨tg, iter, ifs, 0⟩, ⟨tg1, iter1, ifs1, 0⟩] scope pos) (ci := 1) (it := it1) (acc := .ref D) (ip := iter1.pos) (R := fun r s' => match r with | .ok _ => ∃ τ' H', Inv (blkC X s0 H0 scope fp) pins' τ' H' s' ∧ Slots τ τ' (own.map (·.2)) ∧ N H' | .error _ => False) (σ := τ) (vs := vs1) (pins := pins') (bAdd X.prog X.w D te)
    (by show (compTurn _ 1 (.ref it1) (.ref D) _).onRaise _ = _; rw [turn_set2i]) rfl rfl hc T1 (hg1 s0 H0 fp) (ht1 s0 H0 fp) (fun _ _ z => z) (fun pins' s τ H N _ I' b => body_add (Y := blkC X s0 H0 scope fp) (he s0 H0 fp) pins' s τ H N I' b) (fun hn b hb => ⟨hn b hb, (f2 b hb).2⟩) W1 N turn1 (fun s' H' I' nx => ⟨wipe τ vs1, H', I', ⟨wipe_length τ vs1, fun i v e => ?_⟩, nx⟩) m1 s2 H2 w1 (I2.weak (wipe_length _ _) fun i v e => (wipe_some e).1) t2 (fun b hb => (f2 b hb).1)
  · refine wpAny_bind (wpAny_runOwn ?_)
    rw [Around.mark_none]
    refine codeAny_mono (start_in loop (T1.self X.A 0 _ _ _ t2 loop)) fun r s' hr => ?_
    cases r with
    | ok f => first | exact wpAny_pure ⟨rfl, hr⟩ | exact wpAny_bind (wpAny_pure (wpAny_pure ⟨rfl, hr⟩))
    | error x => exact hr.elim
  · obtain ⟨e1, e2⟩ := wipe_some e
    rw [wipe_out fun z => e2 (hv i z)] <;> exact e1
/-- two clauses -/
theorem pe_sc2 (hc : X.calm = true) (hN : X.N.Nodup) (hi : PI X tg iter wi) (ok : BlkOk X.N X.env.scope scope own) (hv : ∀ i ∈ vs1, i ∈ own.map (·.2)) (hg : ∀ s H fp, PG (blkC X s H scope fp) tg g) (ht : ∀ s H fp, PTs (blkC X s H scope fp) ifs tt)
    (hi1 : ∀ s H fp, PI (blkC X s H scope fp) tg1 iter1 wi1) (hg1 : ∀ s H fp, PG (blkC X s H scope fp) tg1 g1) (ht1 : ∀ s H fp, PTs (blkC X s H scope fp) ifs1 tt1) (he : ∀ s H fp, PE (blkC X s H scope fp) elt te)
    (hs : ∀ x, foldedSetIterable iter X.env x = pure x := by intro _; rfl) (hs1 : ∀ env x, foldedSetIterable iter1 env x = pure x := by intro _ _; rfl) :
    PE X (.SetComp elt [⟨tg, iter, ifs, 0⟩, ⟨tg1, iter1, ifs1, 0⟩] scope pos) (tScG X.prog X.w wi g tt (bIn X.prog X.w wi1 g1 tt1 te vs1) (own.map (·.2))) :=
  scG_core (B := bIn X.prog X.w wi1 g1 tt1 te vs1) _ hc hN hi ok hg ht hs (fun it D env => turn_set2o elt tg iter tg1 iter1 ifs ifs1 scope pos (.ref it) (.ref D) env) (body_in hc hv hi1 hg1 ht1 he hs1)
end
end Ev
set_option maxHeartbeats 4000000
namespace Ev
open PySem PySem.Spec PyProof.Rows L2
/-! sorted, any number: texts, and the members of a set -/
abbrev ltC (x y : Str) : Prop := x.cps.toList < y.cps.toList
def ltSv (v u : Value) : Bool := decide (ltC (strOf v) (strOf u))
theorem swo_str : SrtO.Swo ltSv := by
  refine ⟨fun x y h => decide_eq_false fun z => ?_, fun x y z h1 h2 => decide_eq_false fun h => ?_⟩
  · exact List.lt_irrefl _ (List.lt_trans (of_decide_eq_true h : ltC (strOf x) (strOf y)) z)
  · have a : ¬ ltC (strOf y) (strOf x) := of_decide_eq_false h1
    have b : ¬ ltC (strOf z) (strOf y) := of_decide_eq_false h2
    exact absurd h (List.not_lt.mpr (List.le_trans (List.not_lt.mp a) (List.not_lt.mp b)))
section
variable {prog : Program} {w : World} {A : Around} {E : Value → Shared → Prop} {s : Shared}
theorem str_cmp {vs : List Value} (hI : ∀ v ∈ vs, ∃ x t, v = Value.str x t) : SrtO.Cmp prog w A s oneType' (fun p => p.1 ∈ vs) (SrtO.lt2 ltSv) := fun p q hm hm' => by
  obtain ⟨a, t, e⟩ := hI _ hm
  obtain ⟨b, u, e'⟩ := hI _ hm'
  show wpAny (model prog w) A (keyLt' oneType' p.1 q.1) (fun r s' => s' = s ∧ r = ltSv p.1 q.1) (fun _ _ => False) s
  rw [e, e']
  exact PySem.W.kas_lt_str ⟨rfl, rfl⟩
theorem strs_sortable {a : Addr} {vs : List Value} (hI : ∀ v ∈ vs, ∃ x t, v = Value.str x t) (h2 : 2 ≤ vs.length) : SrtO.SortableO prog w A s a vs ltSv := fun h' _ => by
  refine ⟨oneType', fun Q E hq => ?_, str_cmp hI⟩
  have hS := strsAre_map vs hI
  revert hS h2
  rcases vs with _ | ⟨v, _ | ⟨u, r⟩⟩
  · intro h2; exact absurd h2 (by decide)
  · intro h2; exact absurd h2 (by simp)
  · intro h2 hS; rw [keyKind_strs hS]; exact wpAny_pure hq
theorem ints_sortable2 {a : Addr} {vs : List Value} (hI : ∀ v ∈ vs, ∃ i t, v = Value.int i t) (h2 : 2 ≤ vs.length) : SrtO.SortableO prog w A s a vs SrtO.ltIv := SrtO.ints_sortable (SrtO.ints_iv hI) h2
/-- sorted of a set: its members by ltv, at a new place -/
theorem sorted_setG {K : Type} [DecidableEq K] {κ : KeyKind prog w K} {a : Addr} {S : K → Bool} {n : Nat} {ltv : Value → Value → Bool} {Q : Value → Shared → Prop} (O : SrtO.Swo ltv) (R : SetG κ s.heap a S n) (hh : A.handled = none)
    (so : ∀ (vs : List Value), (∀ v ∈ vs, ∃ k, κ.is k v = true ∧ S k = true) → 2 ≤ vs.length → ∀ (A' : Around) (z : Shared) (d : Addr), SrtO.SortableO prog w A' z d vs ltv)
    (q : ∀ (z : Shared) (p : Addr) (out : List Value) (c : Nat), (∀ b o, s.heap.get? b = some o → z.heap.get? b = some o) → z.gens = s.gens → z.os = s.os → s.heap.objs.size ≤ p → z.heap.get? p = some (seqObj "list" out.toArray c) → SrtO.Srtd ltv out →
      (∀ v ∈ out, ∃ k, κ.is k v = true ∧ S k = true) → (∀ k, S k = true → ∃ v ∈ out, κ.is k v = true) → out.Pairwise (fun u v => ∀ k, κ.is k u = true → κ.is k v = true → False) → out.length = n → Q (.ref p) z) :
    wpAny (model prog w) A (call (.builtin "sorted") [.ref a]) Q E s := by
  obtain ⟨o, es, ep, t, ho, ⟨xs, hd⟩, ⟨hel, nd⟩, hm, ⟨hb, hf, hn⟩, hr, hl⟩ := R
  refine Calls.call_function_entry kind_sorted plain_sorted entry_sorted (args_sorted1 _) ?_; unfold Builtin.«sorted»
  refine wpAny_bind (m := checkCount "sorted" 1 1 _) (wpAny_pure (wpAny_bind (collect_set (A := A.in1) hh ⟨o, ho, xs.1, hd⟩ hf hb hr hl fun s1 vs k1 hz g1 o1 pm => ?_)))
  have len : vs.length = n := by rw [pm.length_eq, List.length_map, Array.length_toList] <;> exact hn
  have small : vs.length ≤ sizeLine := by rw [len, ← hn] <;> exact fits_of_scanBound hb
  have mem : ∀ v ∈ vs, ∃ k, κ.is k v = true ∧ S k = true := fun v hv => by
    obtain ⟨e, he, ev⟩ := List.mem_map.mp (pm.mem_iff.mp hv)
    obtain ⟨⟨k, hk, _⟩, _⟩ := hel e he
    exact ⟨k, by rw [← ev] <;> exact hk, (hm k).mpr ⟨e, he, hk⟩⟩
  have all : ∀ k, S k = true → ∃ v ∈ vs, κ.is k v = true := fun k hk => let ⟨e, he, z⟩ := (hm k).mp hk; ⟨e.2, pm.mem_iff.mpr (List.mem_map.mpr ⟨e, he, rfl⟩), z⟩
  have apart : vs.Pairwise (fun u v => ∀ k, κ.is k u = true → κ.is k v = true → False) := List.Perm.pairwise pm.symm (List.pairwise_map.mpr nd) fun {u v} z k h1 h2 => z k h2 h1
  refine wpAny_bind (wpAny_newList ?_ small)
  have hoL : (s1.heap.push (seqObj "list" vs.toArray 0)).get? s1.heap.objs.size = some (seqObj "list" vs.toArray 0) := Heap.get?_push_size _ rfl
  refine wpAny_bind (wpAny_holding (wpAny_call_entry slot_list_sort ⟨_, hoL, rfl⟩ entry_list_sort (SrtO.list_sort_ord O hoL small (fun h2 => so vs mem h2 _ _ _) fun out h1 h2 => ⟨_, rfl, ?_⟩) (args_list_sort _)))
  obtain ⟨c, hc⟩ := sortedHeap_at (vs := vs) (out := out.toArray) hoL
  have p2 : out.Perm vs := h2.perm
  refine wpAny_pure ⟨_, rfl, q _ s1.heap.objs.size out c (fun b u e => ?_) g1 o1 hz hc h1 (fun v hv => mem v (p2.mem_iff.mp hv)) (fun k hk => let ⟨v, hv, z⟩ := all k hk; ⟨v, p2.mem_iff.mpr hv, z⟩) (List.Perm.pairwise p2.symm apart fun {u v} z k h1 h2 => z k h2 h1) (by rw [p2.length_eq] <;> exact len)⟩
  have e1 := k1 b u e
  have lt := Heap.lt_size e1
  show (sortedHeap (s1.heap.push (seqObj "list" vs.toArray 0)) s1.heap.objs.size vs out.toArray).get? b = some u
  rw [sortedHeap_old (Nat.ne_of_lt lt) (by rw [size_push'] <;> exact Nat.lt_succ_of_lt lt)]; exact Heap.get?_push_of_some _ e1
end
section
variable {X : Cx}
/-- sorted(xs), texts, any number of them -/
def rSortedTx (K : PySem.W.Frag) : List V → Hp → VK → Prop := fun vs H Q => ∃ (a : Addr) (ss : List Str), vs = [V.ref a] ∧ SqL K H a (ss.map V.str) ∧ ∀ (zs : List Str) (p : Addr), zs.Perm ss → zs.Pairwise (fun x y => ¬ ltC y x) → H p = none → Q (.ref p) (upd H p (.lst (zs.map V.str)))
theorem vals_strs : ∀ {out : List Value}, (∀ v ∈ out, ∃ x t, v = Value.str x t) → Vals ((out.map strOf).map V.str) out
  | [], _ => .nil
  | v :: out, h => by
    obtain ⟨x, t, e⟩ := h v List.mem_cons_self
    subst e
    exact .cons ⟨t, rfl⟩ (vals_strs fun u hu => h u (List.mem_cons_of_mem _ hu))
theorem strs_vals : ∀ {ss : List Str} {us : List Value}, Vals (ss.map V.str) us → (∀ v ∈ us, ∃ x t, v = Value.str x t) ∧ us.map strOf = ss
  | [], _, .nil => ⟨fun v h => absurd h (by simp), rfl⟩
  | z :: ss, _, .cons r t => by
    obtain ⟨tk, rfl⟩ := r
    obtain ⟨h1, h2⟩ := strs_vals t
    exact ⟨fun v hv => (List.mem_cons.mp hv).elim (fun e => ⟨z, tk, e⟩) (h1 v), congrArg (z :: ·) h2⟩
theorem cr_sortedTx : CallR X (.builtin "sorted") (rSortedTx X.K) := fun pins s σ H vs us Q I r h => by
  obtain ⟨a, ss, rfl, hs, q⟩ := h
  obtain ⟨its, rv, hl, hz⟩ := I.list hs
  rw [Vals.ref1 r]
  obtain ⟨hI, es⟩ := strs_vals rv
  have lz : its.length ≤ sizeLine := by rw [← rv.length] <;> exact hz
  refine SrtO.sorted_ord swo_str hl.isList lz (fun h2 h₁ a' _ _ => strs_sortable hI h2) fun out h1 h2 => ?_
  obtain ⟨ep, he⟩ := PyProof.Rows.sortedAll_at s.heap its out.toArray
  have hO : ∀ v ∈ out, ∃ x t, v = Value.str x t := fun v hv => hI v (h2.perm.mem_iff.mp hv)
  have lo : ((out.map strOf).map V.str).length ≤ sizeLine := by rw [List.length_map, List.length_map, h2.perm.length_eq] <;> exact lz
  refine ⟨.ref _, upd H (s.heap.objs.size + 1) (.lst ((out.map strOf).map V.str)), I.laid (t' := s.toks) (fun _ _ => PyProof.Rows.sortedAll_old) (Nat.le_succ _) ⟨lo, out, ep, vals_strs hO, he⟩, rfl, q _ _ ?_ ?_ (I.hok.fresh (Nat.le_succ _))⟩
  · rw [← es] <;> exact h2.perm.map strOf
  · exact List.pairwise_map.mpr (h1.imp fun {x y} h => of_decide_eq_false h)
/-- sorted(s), s a set of texts: ascending -/
def rSortedSx (P : Program) (w : World) : List V → Hp → VK → Prop := fun vs H Q => ∃ (a : Addr) (S : Key → Bool) (n : Nat), vs = [V.ref a] ∧ H a = some (SetX P w a S n) ∧ (∀ k, S k = true → ∃ z, k = Sum.inr z) ∧
  ∀ (zs : List Str) (p : Addr), zs.Pairwise ltC → (∀ z, z ∈ zs ↔ S (Sum.inr z) = true) → zs.length = n → H p = none → Q (.ref p) (upd H p (.lst (zs.map V.str)))
theorem ltC_str {x y : Str} (h : ¬ ltC y x) (ne : x ≠ y) : ltC x y := by
  rcases Decidable.em (ltC x y) with z | z
  · exact z
  · refine absurd ?_ ne
    have e : x.cps.toList = y.cps.toList := List.le_antisymm (List.not_lt.mp h) (List.not_lt.mp z)
    cases x; cases y; exact congrArg Str.mk (Array.toList_inj.mp e)
theorem cr_sortedSx (hc : X.calm = true) : CallR X (.builtin "sorted") (rSortedSx X.prog X.w) := fun pins s σ H vs us Q I r h => by
  obtain ⟨a, S, n, rfl, ha, hS, q⟩ := h
  rw [Vals.ref1 r]
  have isS : ∀ v, (∃ k, (mixKind X.prog X.w).is k v = true ∧ S k = true) → ∃ x t, v = Value.str x t ∧ S (.inr x) = true := fun v ⟨k, h1, h2⟩ => by
    obtain ⟨z, rfl⟩ := hS k h2
    rcases keyIs_shape (show keyIs (.inr z) v = true from h1) with ⟨i, t, e1, e2⟩ | ⟨x, t, e1, e2⟩
    · cases e1
    · cases e1; exact ⟨z, t, e2, h2⟩
  refine sorted_setG swo_str (setX_get I ha) (I.ok.hd hc) (fun vs mem h2 A' z d => strs_sortable (fun v hv => let ⟨x, t, e, _⟩ := isS v (mem v hv); ⟨x, t, e⟩) h2) fun z p out c k g o hp hg hs mem all ap hl => ?_
  have hO : ∀ v ∈ out, ∃ x t, v = Value.str x t ∧ S (.inr x) = true := fun v hv => isS v (mem v hv)
  have hV := vals_strs fun v hv => let ⟨x, t, e, _⟩ := hO v hv; ⟨x, t, e⟩
  have lo : ((out.map strOf).map V.str).length ≤ sizeLine := by
    obtain ⟨o, es, ep, t, ho, _, _, _, ⟨hb, hf, hn⟩, _⟩ := setX_get I ha
    rw [List.length_map, List.length_map, hl, ← hn] <;> exact fits_of_scanBound hb
  have hn : H p = none := I.hok.fresh hp
  have J : Inv X pins σ (upd H p (.lst ((out.map strOf).map V.str))) z := I.call' (ch := []) o (Un.laid k hp hn) (I.hok.laid k hp ⟨lo, out, c, hV, hg⟩) (by rw [g] <;> exact I.bare) (fun _ z => nomatch z)
  refine ⟨.ref p, _, J, rfl, q _ p ?_ (fun y => ⟨fun hy => ?_, fun hy => ?_⟩) (by rw [List.length_map] <;> exact hl) hn⟩
  · refine List.pairwise_map.mpr (List.Pairwise.imp_of_mem (fun {u v} hu hv w => ?_) (hs.and ap))
    obtain ⟨x, t, rfl, _⟩ := hO u hu
    obtain ⟨y, t', rfl, _⟩ := hO v hv
    refine ltC_str (of_decide_eq_false w.1) fun e => w.2 (.inr x) (mixKind_str _ _ x t) ?_
    have e : x = y := e
    rw [e] <;> exact mixKind_str _ _ y t'
  · obtain ⟨v, hv, rfl⟩ := List.mem_map.mp hy
    obtain ⟨x, t, rfl, z⟩ := hO v hv
    exact z
  · obtain ⟨v, hv, z⟩ := all _ hy
    obtain ⟨x, t, rfl, _⟩ := hO v hv
    refine List.mem_map.mpr ⟨_, hv, ?_⟩
    have := (mixKind X.prog X.w).inj _ _ _ z (mixKind_str X.prog X.w x t)
    exact (Sum.inr.inj this).symm
/-- len(s) of a set -/
def rLenSx (P : Program) (w : World) : List V → Hp → VK → Prop := fun vs H Q => ∃ (a : Addr) (S : Key → Bool) (n : Nat), vs = [V.ref a] ∧ H a = some (SetX P w a S n) ∧ Q (.int (n : Nat)) H
theorem cr_lenSx : CallR X (.builtin "len") (rLenSx X.prog X.w) := fun pins s σ H vs us Q I r h => by
  obtain ⟨a, S, n, rfl, ha, q⟩ := h
  rw [Vals.ref1 r]
  obtain ⟨o, es, ep, t, ho, ⟨xs, hd⟩, _, _, ⟨hb, hf, hn⟩, _⟩ := setX_get I ha
  subst hn
  have lz : es.size ≤ 16777216 := fits_of_scanBound hb
  exact call_len_set ho xs hd hf (by omega) ⟨.int (es.size : Nat), H, I.tok _, ⟨_, rfl⟩, q⟩
end
end Ev
set_option maxHeartbeats 4000000
namespace Ev
open PySem PySem.Spec PyProof.Rows L2 PySem.W
/-! sorted, lists that read as data; < of data -/
/-- a value, and what it reads as -/
abbrev DV := V × PyData
section
variable {X : Cx}
theorem each_dp {pins : List (Addr × Obj)} {σ : L2.St} {H : Hp} {s : Shared} (I : Inv X pins σ H s) : ∀ {bs : List DV} {us : List Value}, Vals (bs.map (·.1)) us → (∀ b ∈ bs, Dp X.K H b.1 b.2) →
    EachIs (fun v (b : DV) => RelV b.1 v) us bs ∧ EachIs (fun v (b : DV) => ∃ as, Reads s.heap v b.2 as) us bs
  | [], _, .nil, _ => ⟨.nil, .nil⟩
  | b :: bs, _, .cons r t, h => by
    obtain ⟨e1, e2⟩ := each_dp I t fun c hc => h c (List.mem_cons_of_mem _ hc)
    exact ⟨.cons r e1, .cons (Dp.reads I b.2 _ _ (h b List.mem_cons_self) r) e2⟩
theorem each_vals : ∀ {bs : List DV} {us : List Value}, EachIs (fun v (b : DV) => RelV b.1 v) us bs → Vals (bs.map (·.1)) us
  | [], _, .nil => .nil
  | _ :: _, _, .cons r t => .cons r (each_vals t)
def leD (a b : DV) : Bool := dataLe false (fun b : DV => b.2) a b
def rSortedD (K : PySem.W.Frag) : List V → Hp → VK → Prop := fun vs H Q => ∃ (a : Addr) (bs : List DV), vs = [V.ref a] ∧ SqL K H a (bs.map (·.1)) ∧ (∀ b ∈ bs, Dp K H b.1 b.2) ∧ AllAlike (bs.map (·.2)) ∧ Sortable (bs.map (·.2)) ∧ (∀ b ∈ bs, b.2.depth ≤ 60) ∧
  ∀ p, H p = none → Q (.ref p) (upd H p (.lst ((bs.mergeSort leD).map (·.1))))
theorem cr_sortedD (hu : X.A.units + 64 < cLine) : CallR X (.builtin "sorted") (rSortedD X.K) := fun pins s σ H vs us Q I r h => by
  obtain ⟨a, bs, rfl, hs, hd, hal, hk, hdep, q⟩ := h
  obtain ⟨its, rv, hl, hz⟩ := I.list hs
  rw [Vals.ref1 r]
  obtain ⟨e1, e2⟩ := each_dp I rv hd
  have lz : bs.length ≤ sizeLine := by rw [List.length_map] at hz; exact hz
  refine sorted_data (R := fun v (b : DV) => RelV b.1 v) (enc := fun b : DV => b.2) hl.isList e1 e2 hal hk lz (fun b hb => by have := hdep b hb; omega) fun out h1 h2 => ?_
  obtain ⟨ep, he⟩ := PyProof.Rows.sortedAll_at s.heap its out.toArray
  have lo : ((bs.mergeSort leD).map (·.1)).length ≤ sizeLine := by rw [List.length_map, List.length_mergeSort]; exact lz
  exact ⟨.ref _, upd H (s.heap.objs.size + 1) (.lst ((bs.mergeSort leD).map (·.1))), I.laid (t' := s.toks) (fun _ _ => PyProof.Rows.sortedAll_old) (Nat.le_succ _) ⟨lo, out, ep, each_vals h2, he⟩, rfl, q _ (I.hok.fresh (Nat.le_succ _))⟩
/-- x < y of data -/
def rLtD (K : PySem.W.Frag) : R2 := fun x y H Q => ∃ d e, Dp K H x d ∧ Dp K H y e ∧ alike d e = true ∧ d ≠ .none ∧ min d.depth e.depth ≤ 60 ∧ Q (.bl (dataLt d e)) H
theorem op_ltD (hu : X.A.units + 64 < cLine) : OpR X (compareOp .Lt) (rLtD X.K) := by
  intro pins s σ H x y v u Q I rx ry h
  obtain ⟨d, e, hd, he, al, nn, dp, q⟩ := h
  obtain ⟨as, r1⟩ := Dp.reads I d x v hd rx
  obtain ⟨bs, r2⟩ := Dp.reads I e y u he ry
  exact lt_data r1 r2 al nn (by omega) ⟨.bl _, H, I, rfl, q⟩
end
end Ev
set_option maxHeartbeats 4000000
/-! Slices by natural bounds. -/
namespace Ev
open PySem PySem.Spec PyProof.Rows L2
theorem sIx_int {n d : Nat} {i : Int} (h : 0 ≤ i) : HT.sIx n d (some i) = min i.toNat n := by
  show (if i < 0 then (i + (n : Int)).toNat else min i.toNat n) = _
  rw [if_neg (by omega)]
theorem cutV_to {xs : List V} {i : Int} (h : 0 ≤ i) : cutV xs none (some i) = xs.take i.toNat := by
  unfold cutV
  rw [sIx_int h]
  show (xs.drop 0).take (min i.toNat xs.length - 0) = _
  rw [List.drop_zero, Nat.sub_zero, ← List.take_eq_take_min]
theorem cutV_from {xs : List V} {i : Int} (h : 0 ≤ i) : cutV xs (some i) none = xs.drop i.toNat := by
  unfold cutV
  rw [sIx_int h]
  show (xs.drop (min i.toNat xs.length)).take (xs.length - min i.toNat xs.length) = _
  rw [List.take_of_length_le (by rw [List.length_drop]; exact Nat.le_refl _)]
  by_cases g : i.toNat ≤ xs.length
  · rw [Nat.min_eq_left g]
  · rw [Nat.min_eq_right (by omega), List.drop_length, List.drop_of_length_le (by omega)]
theorem cutV_set {xs : List V} {i : Int} {z : V} (h : 0 ≤ i) (h2 : i < xs.length) : cutV xs none (some i) ++ [z] ++ cutV xs (some (i + 1)) none = xs.set i.toNat z := by
  rw [cutV_to h, cutV_from (by omega)]
  have e : (i + 1).toNat = i.toNat + 1 := by omega
  rw [e, List.set_eq_take_append_cons_drop, if_pos (by omega)]
  simp
theorem cutS_to {z : Str} {i : Int} (h : 0 ≤ i) : (cutS z none (some i)).cps.toList = z.cps.toList.take i.toNat := by
  have e : (cutS z none (some i)).cps.toList = (z.cps.toList.drop 0).take (HT.sIx z.length z.length (some i) - 0) := by simp [cutS, HT.sIx]
  rw [e, sIx_int h, List.drop_zero, Nat.sub_zero, len_S, ← List.take_eq_take_min]
theorem cutS_from {z : Str} {i : Int} (h : 0 ≤ i) : (cutS z (some i) none).cps.toList = z.cps.toList.drop i.toNat := by
  have e : (cutS z (some i) none).cps.toList = (z.cps.toList.drop (HT.sIx z.length 0 (some i))).take (z.length - HT.sIx z.length 0 (some i)) := by simp [cutS, HT.sIx]
  rw [e, sIx_int h, len_S]
  rw [List.take_of_length_le (by rw [List.length_drop]; exact Nat.le_refl _)]
  by_cases g : i.toNat ≤ z.cps.toList.length
  · rw [Nat.min_eq_left g]
  · rw [Nat.min_eq_right (by omega), List.drop_length, List.drop_of_length_le (by omega)]
theorem cutS_of {z : Str} {i j : Int} (h : 0 ≤ i) (h2 : i ≤ j) : (cutS z (some i) (some j)).cps.toList = (z.cps.toList.drop i.toNat).take (j - i).toNat := by
  have e : (cutS z (some i) (some j)).cps.toList = (z.cps.toList.drop (HT.sIx z.length 0 (some i))).take (HT.sIx z.length z.length (some j) - HT.sIx z.length 0 (some i)) := by simp [cutS]
  rw [e, sIx_int h, sIx_int (by omega), len_S]
  apply List.ext_getElem?
  intro k
  rw [List.getElem?_take, List.getElem?_take, List.getElem?_drop, List.getElem?_drop]
  by_cases g : i.toNat ≤ z.cps.toList.length
  · rw [Nat.min_eq_left g]
    by_cases a : k < (j - i).toNat
    · rw [if_pos a]
      by_cases b : k < min j.toNat z.cps.toList.length - i.toNat
      · rw [if_pos b]
      · rw [if_neg b]
        exact (List.getElem?_eq_none (by omega)).symm
    · rw [if_neg a, if_neg (by omega)]
  · rw [List.getElem?_eq_none (show z.cps.toList.length ≤ i.toNat + k by omega), if_neg (by omega)]
    split <;> rfl
end Ev
set_option maxHeartbeats 4000000
namespace LawK
open PySem PySem.Spec PyProof.Rows L2 Ev PySem.W
theorem dataLt_sii (x y : Str) (i j k l : Int) : dataLt (.tuple [.str x, .int i, .int j]) (.tuple [.str y, .int k, .int l]) = decide (x.cps.toList < y.cps.toList ∨ x = y ∧ (i < k ∨ i = k ∧ j < l)) := by
  rw [dataLt_tuple, dataLt_cons (by simp [alike]), dataLt_cons (by simp [alike]), dataLt_cons (by simp [alike])]
  have e0 : PyProof.Rows.lexLt itemOrd (keyToksAll []) (keyToksAll []) = false := lex_irrefl _
  rw [e0, dataLt_str, dataLt_int, dataLt_int]
  have e1 : PyData.eqv (.str x) (.str y) = decide (x = y) := by
    simp only [PyData.eqv]
    first | rfl | exact Bool.eq_iff_iff.mpr (by simp)
  have e2 : ∀ a b : Int, PyData.eqv (.int a) (.int b) = decide (a = b) := fun a b => by
    simp only [PyData.eqv]
    first | rfl | exact Bool.eq_iff_iff.mpr (by simp)
  rw [e1, e2, e2]
  by_cases hx : x = y
  · subst hx
    have nl : ¬ x.cps.toList < x.cps.toList := lirr _
    by_cases h1 : i = k
    · subst h1
      by_cases h2 : j = l
      · subst h2; simp [nl]
      · simp [nl, h2]
    · simp [nl, h1]
  · simp [hx]
abbrev cod (z : Str) : LN := z.cps.toList
theorem cod_inj {a b : Str} (h : cod a = cod b) : a = b := by rw [← S_eta a, ← S_eta b]; exact congrArg SX.S h
def row (ts : List Str) (i : Nat) : List Pl := (List.range (tx ts i).length).map fun j => (i, j)
def plN (ts : List Str) (n : Nat) : List Pl := (List.range n).flatMap (row ts)
def pl (ts : List Str) : List Pl := plN ts ts.length
theorem plN_succ (ts : List Str) (n : Nat) : plN ts (n + 1) = plN ts n ++ row ts n := by
  unfold plN
  rw [List.range_succ, List.flatMap_append]
  simp
theorem pl_mem {ts : List Str} {p : Pl} : p ∈ pl ts ↔ InT ts p := by
  unfold pl plN
  rw [List.mem_flatMap]
  constructor
  · rintro ⟨i, hi, h⟩
    obtain ⟨j, hj, rfl⟩ := List.mem_map.mp h
    exact ⟨List.mem_range.mp hi, List.mem_range.mp hj⟩
  · rintro ⟨h1, h2⟩
    exact ⟨p.1, List.mem_range.mpr h1, List.mem_map.mpr ⟨p.2, List.mem_range.mpr h2, rfl⟩⟩
theorem tx_len {ts : List Str} (h : ∀ t ∈ ts, t.length ≤ 200) (i : Nat) : (tx ts i).length ≤ 200 := by
  rcases Nat.lt_or_ge i ts.length with g | g
  · exact h _ (tx_mem g)
  · unfold tx
    rw [List.getD_eq_getElem?_getD, List.getElem?_eq_none (by omega)]
    exact Nat.zero_le _
theorem plN_len {ts : List Str} (h : ∀ t ∈ ts, t.length ≤ 200) (n : Nat) : (plN ts n).length ≤ 200 * n := by
  induction n with
  | zero => exact Nat.le_refl _
  | succ n ih =>
    rw [plN_succ, List.length_append]
    have : (row ts n).length = (tx ts n).length := by unfold row; rw [List.length_map, List.length_range]
    have := tx_len h n
    omega
/-- the ending from a place on -/
def sfx (ts : List Str) (p : Pl) : Str := cutS (tx ts p.1) (some ((p.2 : Nat) : Int)) none
theorem sfx_cod (ts : List Str) (p : Pl) : cod (sfx ts p) = (cod (tx ts p.1)).drop p.2 := cutS_from (Int.natCast_nonneg _)
theorem sfx_len (ts : List Str) (p : Pl) : (sfx ts p).length = (tx ts p.1).length - p.2 := by rw [len_S, len_S, ← List.length_drop]; exact congrArg List.length (sfx_cod ts p)
def enc (ts : List Str) (p : Pl) : PyData := .tuple [.str (sfx ts p), .int (p.1 : Nat), .int (p.2 : Nat)]
def leE (d e : PyData) : Bool := !dataLt e d
def leP (ts : List Str) (p q : Pl) : Bool := leE (enc ts p) (enc ts q)
theorem leP_eq (ts : List Str) (p q : Pl) : leP ts p q = true ↔ ¬ (cod (sfx ts q) < cod (sfx ts p) ∨ sfx ts q = sfx ts p ∧ ((q.1 : Int) < p.1 ∨ (q.1 : Int) = p.1 ∧ (q.2 : Int) < p.2)) := by
  unfold leP leE enc
  rw [dataLt_sii, Bool.not_eq_true', decide_eq_false_iff_not]
theorem leP_trans (ts : List Str) (a b c : Pl) (h : leP ts a b = true) (k : leP ts b c = true) : leP ts a c = true := by
  rw [leP_eq] at *
  rintro (e | ⟨e, f⟩)
  · exact lle (fun z => h (.inl z)) (fun z => k (.inl z)) e
  · have e1 : cod (sfx ts a) = cod (sfx ts b) := by
      rcases ltri (cod (sfx ts a)) (cod (sfx ts b)) with z | z | z
      · exact absurd (.inl (by rw [e]; exact z)) k
      · exact z
      · exact absurd (.inl z) h
    have e2 := cod_inj e1
    have n1 : ¬ ((b.1 : Int) < a.1 ∨ (b.1 : Int) = a.1 ∧ (b.2 : Int) < a.2) := fun z => h (.inr ⟨e2.symm, z⟩)
    have n2 : ¬ ((c.1 : Int) < b.1 ∨ (c.1 : Int) = b.1 ∧ (c.2 : Int) < b.2) := fun z => k (.inr ⟨e.trans e2, z⟩)
    omega
theorem leP_total (ts : List Str) (a b : Pl) : (leP ts a b || leP ts b a) = true := by
  rw [Bool.or_eq_true, leP_eq, leP_eq]
  refine Classical.byContradiction fun c => ?_
  rw [not_or, Classical.not_not, Classical.not_not] at c
  obtain ⟨x | ⟨x, f⟩, y | ⟨y, g⟩⟩ := c
  · exact lirr _ (ltr x y)
  · rw [y] at x; exact lirr _ x
  · rw [x] at y; exact lirr _ y
  · omega
/-- all places, by their endings -/
def ord (ts : List Str) : List Pl := (pl ts).mergeSort (leP ts)
theorem ord_perm (ts : List Str) : (ord ts).Perm (pl ts) := List.mergeSort_perm _ _
theorem ord_mem {ts : List Str} {p : Pl} : p ∈ ord ts ↔ InT ts p := by rw [← pl_mem]; exact (ord_perm ts).mem_iff
/-- the codes of the i-th ending -/
def sOf (ts : List Str) (i : Nat) : LN := cod (sfx ts ((ord ts).getD i (0, 0)))
theorem ordD {ts : List Str} {i : Nat} (h : i < (ord ts).length) : (ord ts)[i]? = some ((ord ts).getD i (0, 0)) ∧ InT ts ((ord ts).getD i (0, 0)) := by
  have e : (ord ts).getD i (0, 0) = (ord ts)[i] := by rw [List.getD_eq_getElem?_getD, List.getElem?_eq_getElem h]; rfl
  rw [e]
  exact ⟨List.getElem?_eq_getElem h, ord_mem.mp (List.getElem_mem h)⟩
theorem ord_srt (ts : List Str) : Srt (sOf ts) (ord ts).length := by
  intro i j hij hj e
  have p : (ord ts).Pairwise fun a b => leP ts a b = true := List.pairwise_mergeSort (leP_trans ts) (leP_total ts) (pl ts)
  have q := List.pairwise_iff_getElem.mp p i j (by omega) hj hij
  rw [leP_eq] at q
  unfold sOf at e
  rw [List.getD_eq_getElem?_getD, List.getD_eq_getElem?_getD, List.getElem?_eq_getElem hj, List.getElem?_eq_getElem (show i < (ord ts).length by omega)] at e
  exact q (.inl e)
/-! ### lists of pairs in the heap -/
def PsL (H : Hp) (a : Addr) (ps : List Pl) : Prop := ∃ vs, H a = some (.lst vs) ∧ All2 (PAt H) vs ps
theorem PsL.same {H H' : Hp} {a : Addr} {ps : List Pl} (k : Same H H') (h : PsL H a ps) : PsL H' a ps := let ⟨vs, e, q⟩ := h; ⟨vs, k _ _ e, q.imp fun _ _ r => r.same k⟩
/-- an ending and its place -/
def RAt (ts : List Str) (H : Hp) (v : V) (p : Pl) : Prop := ∃ b, v = .ref b ∧ H b = some (.tup [.str (sfx ts p), .int (p.1 : Nat), .int (p.2 : Nat)])
theorem RAt.same {ts : List Str} {H H' : Hp} {v : V} {p : Pl} (k : Same H H') (h : RAt ts H v p) : RAt ts H' v p := let ⟨b, e, q⟩ := h; ⟨b, e, k _ _ q⟩
theorem All2.zs {α β : Type} {R : α → β → Prop} {xs : List α} {ys : List β} (h : All2 R xs ys) : ∃ zs : List (α × β), xs = zs.map (·.1) ∧ ys = zs.map (·.2) ∧ ∀ z ∈ zs, R z.1 z.2 := by
  induction h with
  | nil => exact ⟨[], rfl, rfl, fun z h => absurd h (by simp)⟩
  | @cons x y xs ys r _ ih =>
    obtain ⟨zs, e1, e2, h⟩ := ih
    refine ⟨(x, y) :: zs, by rw [e1]; rfl, by rw [e2]; rfl, fun z hz => ?_⟩
    rcases List.mem_cons.mp hz with e | e
    · rw [e]; exact r
    · exact h z e
theorem All2.ofZ {α β : Type} {R : α → β → Prop} : ∀ {zs : List (α × β)}, (∀ z ∈ zs, R z.1 z.2) → All2 R (zs.map (·.1)) (zs.map (·.2))
  | [], _ => .nil
  | z :: zs, h => .cons (h z List.mem_cons_self) (All2.ofZ fun y hy => h y (List.mem_cons_of_mem _ hy))
theorem enc_depth (ts : List Str) (p : Pl) : (enc ts p).depth ≤ 60 := by
  unfold enc
  simp [PyData.depth, PyData.depthAll]
theorem enc_alike (ts : List Str) (p q : Pl) : alike (enc ts p) (enc ts q) = true := by
  unfold enc
  simp [alike, alikeAll]
theorem enc_dp {ts : List Str} {K : PySem.W.Frag} {H : Hp} {v : V} {p : Pl} (h : RAt ts H v p) : Dp K H v (enc ts p) := by
  obtain ⟨b, rfl, e⟩ := h
  exact .tup (SqT.of e) (.cons (.str _) (.cons (.int _) (.cons (.int _) .nil)))
/-- sorted of a list of rows -/
theorem sorted_rows {ts : List Str} {K : PySem.W.Frag} {H : Hp} {a : Addr} {vs : List V} {ps : List Pl} {Q : VK} (ha : H a = some (.lst vs)) (h : All2 (RAt ts H) vs ps)
    (q : ∀ p vs', H p = none → All2 (RAt ts H) vs' (ps.mergeSort (leP ts)) → Q (.ref p) (upd H p (.lst vs'))) : rSortedD K [.ref a] H Q := by
  obtain ⟨zs, rfl, rfl, hz⟩ := h.zs
  have em : ∀ z : V × Pl, z ∈ zs → z ∈ zs := fun _ h => h
  refine ⟨a, zs.map (fun z => (z.1, enc ts z.2)), rfl, ?_, ?_, ?_, ?_, ?_, fun p np => ?_⟩
  · rw [List.map_map]; exact sq_of ha
  · intro b hb
    obtain ⟨z, hz', rfl⟩ := List.mem_map.mp hb
    exact enc_dp (hz z hz')
  · rw [List.map_map]
    exact AllAlike.of (enc := fun z : V × Pl => enc ts z.2) fun b b' => enc_alike ts _ _
  · rw [List.map_map]
    exact Sortable.tuples (enc := fun z : V × Pl => enc ts z.2) fun b => ⟨_, _, rfl⟩
  · intro b hb
    obtain ⟨z, hz', rfl⟩ := List.mem_map.mp hb
    exact enc_depth ts z.2
  · have e1 : (zs.map fun z => ((z.1, enc ts z.2) : DV)).mergeSort leD = (zs.mergeSort fun z w => leP ts z.2 w.2).map fun z => (z.1, enc ts z.2) := (List.map_mergeSort (r := fun z w : V × Pl => leP ts z.2 w.2) (s := leD) (f := fun z : V × Pl => ((z.1, enc ts z.2) : DV)) (l := zs) fun x _ y _ => rfl).symm
    have e2 : (zs.map (·.2)).mergeSort (leP ts) = (zs.mergeSort fun z w => leP ts z.2 w.2).map (·.2) := (List.map_mergeSort (r := fun z w : V × Pl => leP ts z.2 w.2) (s := leP ts) (f := fun z : V × Pl => z.2) (l := zs) fun x _ y _ => rfl).symm
    rw [e2] at q
    rw [e1, List.map_map]
    exact q p _ np (All2.ofZ fun z hz' => hz z ((List.mergeSort_perm _ _).mem_iff.mp hz'))
end LawK
set_option maxHeartbeats 4000000
namespace LawK
open PySem PySem.Spec PyProof.Rows L2 Ev

theorem walk_en {K : PySem.W.Frag} {a : Addr} {xs : List V} : Walk (Iten K a) xs.length (fun H => SqT K H a xs) (YPair (fun i => some (.int (i : Nat))) (fun i => xs[i]?)) := by
  refine ⟨fun i _ hi q => ⟨xs, xs[i], q, by simp [hi]⟩, fun _ q => ⟨xs, q, Nat.le_refl _⟩, fun i H v H' _ q y => ?_⟩
  obtain ⟨T, x, h1, h2, h3, h4⟩ := y
  exact ⟨T, .int (i : Nat), x, h1, h2, h3, rfl, h4 xs q⟩
def spAllPlaces (C : Addr) : Sp := fun vs H Q _ => ∃ (s : Addr) (ts : List Str), vs = [.ref s] ∧ LibAt H C s ts ∧ ∀ a H', Same H H' → H a = none → PsL H' a (pl ts) → Q (.ref a) H'
def spInOrder (C : Addr) : Sp := fun vs H Q _ => ∃ (s f : Addr) (ts : List Str) (ps : List Pl), vs = [.ref s, .ref f] ∧ LibAt H C s ts ∧ PsL H f ps ∧ ps.length ≤ 2000 ∧ (∀ p ∈ ps, InT ts p) ∧ ∀ a H', Same H H' → H a = none → PsL H' a (ps.mergeSort (leP ts)) → Q (.ref a) H'
def spEndings (C : Addr) : Sp := fun vs H Q _ => ∃ (s : Addr) (ts : List Str), vs = [.ref s] ∧ LibAt H C s ts ∧ ∀ a H', Same H H' → H a = none → PsL H' a (ord ts) → Q (.ref a) H'
def spEnding (C : Addr) : Sp := fun vs H Q _ => ∃ (s : Addr) (ts : List Str) (v : V) (p : Pl), vs = [.ref s, v] ∧ LibAt H C s ts ∧ PAt H v p ∧ InT ts p ∧ Q (.str (sfx ts p)) H
/-- the law's texts -/
structure TsAt (H : Hp) (a : Addr) (ts : List Str) : Prop where
  at_ : H a = some (.tup (ts.map V.str))
  few : ts.length ≤ 8
  sg : ∀ t ∈ ts, sgB t = true
  len : ∀ t ∈ ts, t.length ≤ 200
theorem TsAt.same {H H' : Hp} {a : Addr} {ts : List Str} (k : Same H H') (h : TsAt H a ts) : TsAt H' a ts := ⟨k _ _ h.at_, h.few, h.sg, h.len⟩
def spLOrder : Sp := fun vs H Q _ => ∃ (a : Addr) (ts : List Str), vs = [.ref a] ∧ TsAt H a ts ∧ ∀ b H', Same H H' → H b = none → PsL H' b (ord ts) → Q (.ref b) H'
def spLPlaces : Sp := fun vs H Q _ => ∃ (a : Addr) (ts : List Str), vs = [.ref a] ∧ TsAt H a ts ∧ ∀ b H', Same H H' → H b = none → PsL H' b (pl ts) → Q (.ref b) H'
def spLEnding : Sp := fun vs H Q _ => ∃ (a : Addr) (ts : List Str) (v : V) (p : Pl), vs = [.ref a, v] ∧ TsAt H a ts ∧ PAt H v p ∧ InT ts p ∧ Q (.str (sfx ts p)) H
theorem add_pair {H : Hp} {D b : Addr} {us : List V} {ps : List Pl} {i j : Nat} {y : V} (nb : H b = none) (hD : H D = some (.lst us)) (hu : All2 (PAt H) us ps) (hy : y = .int (j : Nat)) : All2 (PAt (upd (upd H b (.tup [.int (i : Nat), y])) D (.lst (us ++ [.ref b])))) (us ++ [.ref b]) (ps ++ [(i, j)]) := by
  have nDb : b ≠ D := fun e => by rw [e, hD] at nb; cases nb
  subst hy
  refine All2.snoc (hu.imp fun _ _ ⟨c, e, r⟩ => ⟨c, e, ?_⟩) ⟨b, rfl, ?_⟩
  · rw [upd_ne nDb, upd_same]
  · have ncD : c ≠ D := fun e => by rw [e, hD] at r; cases r
    rw [upd_ne ncD]
    exact (Same.new nb) _ _ r
theorem row_take (ts : List Str) (i j : Nat) (h : j < (tx ts i).length) : (List.range (j + 1)).map (fun k => ((i, k) : Pl)) = (List.range j).map (fun k => (i, k)) ++ [(i, j)] := by
  rw [List.range_succ, List.map_append]
  rfl
theorem All2.app {α β : Type} {R : α → β → Prop} {xs zs : List α} {ys us : List β} (h : All2 R xs ys) (k : All2 R zs us) : All2 R (xs ++ zs) (ys ++ us) := by
  induction h with
  | nil => exact k
  | cons r _ ih => exact .cons r ih
theorem All2.of_at {α β : Type} {R : α → β → Prop} {xs : List α} {ys : List β} (h : All2 R xs ys) {i : Nat} {y : β} (e : ys[i]? = some y) : ∃ x, xs[i]? = some x ∧ R x y := by
  induction h generalizing i with
  | nil => simp at e
  | cons r _ ih => cases i with
    | zero => cases e; exact ⟨_, rfl, r⟩
    | succ i => exact ih e
section
variable {P : Program} {w : World} {K : PySem.W.Frag} {mg : Str → Option Value} {base : Heap}
variable {C fI : Addr} {fdI : FuncData}
abbrev sPAllPlaces : Stmt := topS 12
theorem scPAllPlaces : FnScope ["library", "number", "text", "at"] ["library"] (defScope sPAllPlaces) := ⟨rfl, rfl, rfl, by decide +kernel, rfl, by decide +kernel, by decide +kernel⟩
theorem ok_PAllPlaces {f : Addr} {fd : FuncData} (F : Fun K "all_places" "all_places" sPAllPlaces f fd) (L : LibC K mg C fI fdI)  (T : Glob mg) : FnOk P w K mg base CX0 1 f fd ["library"] (spAllPlaces C) := by
  refine F.ok scPAllPlaces (fun vs H Q E h => ?_) (fun cdv A outer s H vs Q E hr h => ?_)
  · obtain ⟨s, ts, rfl, _⟩ := h
    rfl
  · refine ⟨_, (pss_one (ps_ret (pe_lc2 (own := [("number", 1), ("text", 2), ("at", 3)]) (vs1 := [3]) (g := (gTup K 2 (gCons (gName 1) (gCons (gName 2) gNil)))) (g1 := gName 3) (by rfl) scPAllPlaces.nd (pi_enumT (by rfl) T.enumerate (pa_cons (pe_fld (pv 0) rfl) pa_nil)) (blkOk_by (N := ["library", "number", "text", "at"]) (sc := defScope sPAllPlaces) (by decide +kernel)) (by decide) (fun _ _ _ _ _ => pg_tup (by rfl) (pgs_cons (pg_name (i := 1) scPAllPlaces.nd rfl (.inl rfl)) (pgs_cons (pg_name (i := 2) scPAllPlaces.nd rfl (.inl rfl)) pgs_nil))) (fun _ _ _ _ _ => pts_nil) (fun _ _ _ _ _ => (pi_range1 (by rfl) T.range (pa_cons (pe_callB call_lenZ (by rfl) T.len PySem.boot_len (pa_cons (pv 2) pa_nil)) pa_nil))) (fun _ _ _ _ _ => pg_name (i := 3) scPAllPlaces.nd rfl (.inl rfl)) (fun _ _ _ _ _ => pts_nil) (fun _ _ _ _ _ => (pe_tup (pa_cons (pv 1) (pa_cons (pv 3) pa_nil))))))), ?_⟩
    obtain ⟨p, ts, rfl, hl, q⟩ := h
    have hl0 := hl
    obtain ⟨⟨dx, a, h1, h2⟩, few, sg1, len1⟩ := hl
    refine ⟨.ref p, rfl, p, C, dx, _, .ref a, rfl, h1, L.cl, L.nt, lk1, a, _, rfl, SqT.of h2, fun D nD => wk walk_en (fun i H' => Same H H' ∧ ∃ vs, H' D = some (.lst vs) ∧ All2 (PAt H') vs (plN ts i)) ⟨Same.new nD, [], upd_same, .nil⟩ (fun i H' _ w => SqT.of (w.1 _ _ h2)) ?_ ?_⟩
    · rintro i x H1 H2 hi ⟨k1, vs, hD, hv⟩ ⟨T, x1, x2, rfl, nT, rfl, e1, e2⟩
      rw [List.length_map] at hi
      cases e1
      obtain rfl : V.str (tx ts i) = x2 := Option.some.inj ((tx_at hi).symm.trans e2)
      have k2 : Same H1 (upd H1 T (.tup [.int (i : Nat), .str (tx ts i)])) := Same.new nT
      have hT : upd H1 T (.tup [.int (i : Nat), .str (tx ts i)]) T = some (.tup [.int (i : Nat), .str (tx ts i)]) := upd_same
      revert k2 hT
      generalize upd H1 T (.tup [.int (i : Nat), .str (tx ts i)]) = H2
      intro k2 hT
      have ln1 : (tx ts i).length ≤ 200 := tx_len len1 i
      refine ⟨T, _, rfl, SqT.of hT, rfl, _, _, rfl, _, _, rfl, rfl, rfl, _, rfl, _, rfl, len5 (by omega), _, rfl, by omega, by omega, wk walk_range (fun j H' => Same H H' ∧ ∃ vs, H' D = some (.lst vs) ∧ All2 (PAt H') vs (plN ts i ++ (List.range j).map (fun k => (i, k)))) ⟨k1.trans k2, vs, k2 _ _ hD, by simpa using hv.imp fun _ _ r => r.same k2⟩ (fun _ _ _ _ => trivial) ?_ ?_⟩
      · rintro j y H3 H4 hj ⟨k3, us, hD3, hu⟩ ⟨rfl, rfl⟩
        have hj2 : j < (tx ts i).length := by omega
        refine ⟨rfl, _, rfl, _, rfl, by show 2 ≤ sizeLine; decide, fun b nb => ⟨us, ?_, ?_, sameAt (k3.trans (Same.new nb)) nD, us ++ [.ref b], upd_same, ?_⟩⟩
        · exact (Same.new nb) _ _ hD3
        · have z1 := hu.len
          have z2 := plN_len len1 i
          rw [List.length_append, List.length_map, List.length_range] at z1
          have h3 : sizeLine = 16777216 := sizeLine_eq
          omega
        · rw [row_take ts i j hj2, ← List.append_assoc]
          exact add_pair nb hD3 hu (by show V.int (0 + (j : Int)) = V.int (j : Nat); rw [show (0 + (j : Int)) = (j : Nat) by omega])
      · rintro H3 ⟨k3, us, hD3, hu⟩
        refine ⟨k3, us, hD3, ?_⟩
        rw [plN_succ]
        have e : row ts i = (List.range ((((tx ts i).length : Nat) : Int) - 0).toNat).map (fun k => (i, k)) := by
          unfold row
          rw [show ((((tx ts i).length : Nat) : Int) - 0).toNat = (tx ts i).length by omega]
        rw [e]
        exact hu
    · rintro H1 ⟨k1, vs, hD, hv⟩
      rw [List.length_map] at hv
      exact q D H1 k1 nD ⟨vs, hD, hv⟩
end
end LawK
set_option maxHeartbeats 4000000
namespace LawK
open PySem PySem.Spec PyProof.Rows L2 Ev

theorem take_snoc {α : Type} {xs : List α} {i : Nat} {x : α} (h : xs[i]? = some x) : xs.take (i + 1) = xs.take i ++ [x] := by rw [List.take_succ, h]; rfl
theorem add_row {ts : List Str} {H : Hp} {D b : Addr} {us : List V} {ps : List Pl} {p : Pl} {z : Str} (hz : z = sfx ts p) (nb : H b = none) (hD : H D = some (.lst us)) (hu : All2 (RAt ts H) us ps) : All2 (RAt ts (upd (upd H b (.tup [.str z, .int (p.1 : Nat), .int (p.2 : Nat)])) D (.lst (us ++ [.ref b])))) (us ++ [.ref b]) (ps ++ [p]) := by
  have nDb : b ≠ D := fun e => by rw [e, hD] at nb; cases nb
  subst hz
  refine All2.snoc (hu.imp fun _ _ ⟨c, e, r⟩ => ⟨c, e, ?_⟩) ⟨b, rfl, ?_⟩
  · rw [upd_ne nDb, upd_same]
  · have ncD : c ≠ D := fun e => by rw [e, hD] at r; cases r
    rw [upd_ne ncD]
    exact (Same.new nb) _ _ r
theorem all_at {α β : Type} {R : α → β → Prop} {xs : List α} {ys : List β} (h : All2 R xs ys) {i : Nat} {x : α} (e : xs[i]? = some x) : ∃ y, ys[i]? = some y ∧ R x y := h.at e
/-- from rows in order to their places -/
def tRows (K : PySem.W.Frag) (ts : List Str) (H0 : Hp) (D : Addr) (qs : List Pl) (i : Nat) (H' : Hp) : Prop := Same H0 H' ∧ ∃ us, H' D = some (.lst us) ∧ All2 (PAt H') us (qs.take i)
section
variable {P : Program} {w : World} {K : PySem.W.Frag} {mg : Str → Option Value} {base : Heap}
variable {C fI : Addr} {fdI : FuncData}
abbrev sPInOrder : Stmt := topS 35
theorem scPInOrder : FnScope ["library", "found", "rows", "text", "at", "_"] ["library", "found"] (defScope sPInOrder) := ⟨rfl, rfl, rfl, by decide +kernel, rfl, by decide +kernel, by decide +kernel⟩
theorem ok_PInOrder {f : Addr} {fd : FuncData} (F : Fun K "in_order" "in_order" sPInOrder f fd) (L : LibC K mg C fI fdI)  (T : Glob mg) : FnOk P w K mg base CX0 1 f fd ["library", "found"] (spInOrder C) := by
  refine F.ok scPInOrder (fun vs H Q E h => ?_) (fun cdv A outer s H vs Q E hr h => ?_)
  · obtain ⟨s, f, ts, ps, rfl, _⟩ := h
    rfl
  · refine ⟨_, (pss_cons (ps_setLc (i := 2) (own := [("text", 3), ("at", 4)]) (g := (gTup K 2 (gCons (gName 3) (gCons (gName 4) gNil)))) (by rfl) scPInOrder.nd rfl rfl (sw_true rfl rfl rfl (by decide +kernel)) (pi_list (pv 1)) (blkOk_by (N := ["library", "found", "rows", "text", "at", "_"]) (sc := defScope sPInOrder) (by decide +kernel)) (fun _ _ _ _ _ => pg_tup (by rfl) (pgs_cons (pg_name (i := 3) scPInOrder.nd rfl (.inl rfl)) (pgs_cons (pg_name (i := 4) scPInOrder.nd rfl (.inl rfl)) pgs_nil))) (fun _ _ _ _ _ => pts_nil) (fun _ _ _ _ _ => (pe_tup (pa_cons (pe_slice sl_str (pe_ix (r := rIxT K) (ta := tFld K (tVar 0) "texts") ix_tup (pe_fld (pv 0) rfl) (pv 3) (fun _ _ => rfl)) (po_some (pv 4)) po_none) (pa_cons (pv 3) (pa_cons (pv 4) pa_nil))))))
      (pss_one (ps_ret (pe_lc (own := [("_", 5), ("text", 3), ("at", 4)]) (g := (gTup K 3 (gCons (gName 5) (gCons (gName 3) (gCons (gName 4) gNil))))) (by rfl) scPInOrder.nd (pi_list (pe_callB (cr_sortedD hr.units) (by rfl) T.sorted (by decide +kernel) (pa_cons (pv 2) pa_nil))) (blkOk_by (N := ["library", "found", "rows", "text", "at", "_"]) (sc := defScope sPInOrder) (by decide +kernel)) (fun _ _ _ _ _ => pg_tup (by rfl) (pgs_cons (pg_name (i := 5) scPInOrder.nd rfl (.inl rfl)) (pgs_cons (pg_name (i := 3) scPInOrder.nd rfl (.inl rfl)) (pgs_cons (pg_name (i := 4) scPInOrder.nd rfl (.inl rfl)) pgs_nil)))) (fun _ _ _ _ _ => pts_nil) (fun _ _ _ _ _ => (pe_tup (pa_cons (pv 3) (pa_cons (pv 4) pa_nil)))))))), ?_⟩
    obtain ⟨s, f, ts, ps, rfl, hl, ⟨vs, hf, hv⟩, few, hin, q⟩ := h
    obtain ⟨⟨dx, a, h1, h2⟩, few1, sg1, len1⟩ := hl
    refine ⟨.ref f, rfl, f, rfl, ⟨_, sq_of hf⟩, fun D nD => lc_list (xs := vs) (fun i H' => Same H H' ∧ ∃ us, H' D = some (.lst us) ∧ All2 (RAt ts H') us (ps.take i)) ⟨Same.new nD, [], upd_same, .nil⟩ (fun i H' _ w => sq_of (w.1 _ _ hf)) ?_ ?_⟩
    · rintro i x H2 hx ⟨k2, us, hD, hu⟩
      obtain ⟨p, ep, b, rfl, eb⟩ := hv.at hx
      have ip := hin p (List.mem_of_getElem? ep)
      have eb2 := k2 _ _ eb
      refine ⟨b, _, rfl, SqT.of eb2, rfl, _, _, rfl, _, _, rfl, rfl, rfl, .ref s, rfl, s, C, dx, _, .ref a, rfl, k2 _ _ h1, L.cl, L.nt, lk1, _, rfl, a, _, _, _, rfl, rfl, SqT.of (k2 _ _ h2), atI_nat (tx_at ip.text), _, rfl, _, rfl, _, rfl, len5 (Nat.le_trans (tx_len len1 _) (by decide)), _, rfl, _, rfl, by show 3 ≤ sizeLine; decide, fun c nc => ⟨us, (Same.new nc) _ _ hD, ?_, sameAt (k2.trans (Same.new nc)) nD, us ++ [.ref c], upd_same, ?_⟩⟩
      · have z1 := hu.len
        rw [List.length_take] at z1
        have h3 : sizeLine = 16777216 := sizeLine_eq
        omega
      · rw [take_snoc ep]
        exact add_row rfl nc hD hu
    · rintro H2 ⟨k2, us, hD, hu⟩
      rw [hv.len, List.take_length] at hu
      refine ⟨.ref D, rfl, ?_⟩
      dsimp only [tNil]
      refine sorted_rows hD hu fun A ws nA hw => ?_
      have kA : Same H (upd H2 A (.lst ws)) := k2.trans (Same.new nA)
      have hw := hw.imp fun _ _ r => r.same (Same.new (o := .lst ws) nA)
      have hA : upd H2 A (.lst ws) A = some (.lst ws) := upd_same
      clear nD hD
      revert kA hw hA
      generalize upd H2 A (.lst ws) = HX
      intro kA hw hA
      have lq : (ps.mergeSort (leP ts)).length ≤ 2000 := by rw [List.length_mergeSort]; exact few
      revert q lq hw
      generalize ps.mergeSort (leP ts) = qs
      intro q hw lq
      refine ⟨A, rfl, ⟨_, sq_of hA⟩, fun D nD => lc_list (xs := ws) (fun i H' => Same HX H' ∧ ∃ us, H' D = some (.lst us) ∧ All2 (PAt H') us (qs.take i)) ⟨Same.new nD, [], upd_same, .nil⟩ (fun i H' _ w => sq_of (w.1 _ _ hA)) ?_ ?_⟩
      · rintro i x H2 hx ⟨k2, us, hD, hu⟩
        obtain ⟨p, ep, b, rfl, eb⟩ := hw.at hx
        have eb2 := k2 _ _ eb
        refine ⟨b, _, rfl, SqT.of eb2, rfl, _, _, rfl, _, _, rfl, _, _, rfl, rfl, rfl, _, rfl, _, rfl, by show 2 ≤ sizeLine; decide, fun c nc => ⟨us, (Same.new nc) _ _ hD, ?_, sameAt (k2.trans (Same.new nc)) nD, us ++ [.ref c], upd_same, ?_⟩⟩
        · have z1 := hu.len
          rw [List.length_take] at z1
          have h3 : sizeLine = 16777216 := sizeLine_eq
          have h4 : i < qs.length := (List.getElem?_eq_some_iff.mp ep).1
          omega
        · rw [take_snoc ep]
          exact add_pair nc hD hu rfl
      · rintro H2 ⟨k2, us, hD, hu⟩
        rw [hw.len, List.take_length] at hu
        exact q D H2 (kA.trans k2) (Same.free kA nD) ⟨us, hD, hu⟩
end
end LawK
set_option maxHeartbeats 4000000
namespace LawK
open PySem PySem.Spec PyProof.Rows L2 Ev
section
variable {P : Program} {w : World} {K : PySem.W.Frag} {mg : Str → Option Value} {base : Heap}
variable {C fI : Addr} {fdI : FuncData}
abbrev sPEndings : Stmt := topS 36
theorem scPEndings : FnScope ["library"] ["library"] (defScope sPEndings) := ⟨rfl, rfl, rfl, by decide +kernel, rfl, by decide +kernel, by decide +kernel⟩
theorem ok_PEndings {f : Addr} {fd : FuncData} (F : Fun K "endings" "endings" sPEndings f fd)  {fPAllPlaces : Addr} {fdPAllPlaces : FuncData} (DPAllPlaces : Dk P w K mg base "all_places" sPAllPlaces ["library"] 1 (spAllPlaces C) fPAllPlaces fdPAllPlaces) {fPInOrder : Addr} {fdPInOrder : FuncData} (DPInOrder : Dk P w K mg base "in_order" sPInOrder ["library", "found"] 1 (spInOrder C) fPInOrder fdPInOrder) (T : Glob mg) : FnOk P w K mg base CX0 2 f fd ["library"] (spEndings C) := by
  refine F.ok scPEndings (fun vs H Q E h => ?_) (fun cdv A outer s H vs Q E hr h => ?_)
  · obtain ⟨s, ts, rfl, _⟩ := h
    rfl
  · refine ⟨_, (pss_one (ps_ret (pe_call DPInOrder.ok (hr.mono (by decide)) (by rfl) DPInOrder.g DPInOrder.F.kp DPInOrder.b .nil pass0 (pa_cons (pv 0) (pa_cons (pe_call DPAllPlaces.ok (hr.mono (by decide)) (by rfl) DPAllPlaces.g DPAllPlaces.F.kp DPAllPlaces.b .nil pass0 (pa_cons (pv 0) pa_nil)) pa_nil))))), ?_⟩
    obtain ⟨s, ts, rfl, hl, q⟩ := h
    refine ⟨.ref s, rfl, .ref s, rfl, s, ts, rfl, hl, fun a H1 k1 na hp => ?_⟩
    refine ⟨s, a, ts, pl ts, rfl, hl.same k1, hp, ?_, fun p h => pl_mem.mp h, fun b H2 k2 nb h2 => q b H2 (k1.trans k2) (Same.free k1 nb) h2⟩
    have := plN_len hl.len ts.length
    have := hl.few
    show (plN ts ts.length).length ≤ 2000
    omega
abbrev sOrder : Stmt := topS 55
theorem scOrder : FnScope ["texts", "found", "number", "at", "signs"] ["texts"] (defScope sOrder) := ⟨rfl, rfl, rfl, by decide +kernel, rfl, by decide +kernel, by decide +kernel⟩
theorem ok_Order {f : Addr} {fd : FuncData} (F : Fun K "_law_order" "_law_order" sOrder f fd)   (T : Glob mg) : FnOk P w K mg base CX0 1 f fd ["texts"] spLOrder := by
  refine F.ok scOrder (fun vs H Q E h => ?_) (fun cdv A outer s H vs Q E hr h => ?_)
  · obtain ⟨a, ts, rfl, _⟩ := h
    rfl
  · refine ⟨_, (pss_cons (ps_set (i := 1) scOrder.nd rfl (.inl rfl) (pe_lst pa_nil))
      (pss_cons (ps_for PassesOwn.never rfl (pi_range1 (by rfl) T.range (pa_cons (pe_callB call_len_seq (by rfl) T.len PySem.boot_len (pa_cons (pv 0) pa_nil)) pa_nil)) (pg_name (i := 2) scOrder.nd rfl (.inr rfl))
      (pss_one (ps_set (i := 1) scOrder.nd rfl (.inl rfl) (pe_op op_cat (pv 1) (pe_lc (own := [("at", 3)]) (g := gName 3) (by rfl) scOrder.nd (pi_range1 (by rfl) T.range (pa_cons (pe_callB call_lenZ (by rfl) T.len PySem.boot_len (pa_cons (pe_ix ix_tup (pv 0) (pv 2) (fun _ _ => rfl)) pa_nil)) pa_nil)) (blkOk_by (N := ["texts", "found", "number", "at", "signs"]) (sc := defScope sOrder) (by decide +kernel)) (fun _ _ _ _ _ => pg_name (i := 3) scOrder.nd rfl (.inl rfl)) (fun _ _ _ _ _ => pts_nil) (fun _ _ _ _ _ => (pe_tup (pa_cons (pe_slice sl_str (pe_ix (r := rIxT K) ix_tup (pv 0) (pv 2) (fun _ _ => rfl)) (po_some (pv 3)) po_none) (pa_cons (pv 2) (pa_cons (pv 3) pa_nil))))))))))
      (pss_one (ps_ret (pe_lc (own := [("signs", 4), ("number", 2), ("at", 3)]) (g := (gTup K 3 (gCons (gName 4) (gCons (gName 2) (gCons (gName 3) gNil))))) (by rfl) scOrder.nd (pi_list (pe_callB (cr_sortedD hr.units) (by rfl) T.sorted (by decide +kernel) (pa_cons (pv 1) pa_nil))) (blkOk_by (N := ["texts", "found", "number", "at", "signs"]) (sc := defScope sOrder) (by decide +kernel)) (fun _ _ _ _ _ => pg_tup (by rfl) (pgs_cons (pg_name (i := 4) scOrder.nd rfl (.inl rfl)) (pgs_cons (pg_name (i := 2) scOrder.nd rfl (.inl rfl)) (pgs_cons (pg_name (i := 3) scOrder.nd rfl (.inl rfl)) pgs_nil)))) (fun _ _ _ _ _ => pts_nil) (fun _ _ _ _ _ => (pe_tup (pa_cons (pv 2) (pa_cons (pv 3) pa_nil))))))))), ?_⟩
    obtain ⟨a, ts, rfl, ht, q⟩ := h
    refine ⟨by show 0 ≤ sizeLine; decide, fun f nf => ?_⟩
    have lm : (ts.map V.str).length = ts.length := List.length_map ..
    have few8 := ht.few
    refine ⟨.ref a, rfl, a, _, rfl, .inr (SqT.of ((Same.new nf) _ _ ht.at_)), _, rfl, by omega, by omega, for_range (fun i σ H' => ∃ (x y : Option V) (g : Addr) (us : List V), σ = [some (.ref a), some (.ref g), x, y, none] ∧ H g = none ∧ Same H H' ∧ H' g = some (.lst us) ∧ All2 (RAt ts H') us (plN ts i)) ⟨_, _, f, [], rfl, nf, Same.new nf, upd_same, .nil⟩ ?_ ?_⟩
    · rintro i σ H1 hi ⟨x, y, g, us, rfl, ng, k1, hg, hu⟩
      rw [lm] at hi
      have hi : i < ts.length := by omega
      have ln1 : (tx ts i).length ≤ 200 := tx_len ht.len i
      have e0 : (0 + (i : Int)) = (i : Nat) := by omega
      rw [e0]
      refine ⟨_, rfl, .ref a, rfl, .int (i : Nat), rfl, a, _, _, _, rfl, rfl, SqT.of (k1 _ _ ht.at_), atI_nat (tx_at hi), _, rfl, len5 (by omega), _, rfl, by omega, by omega, fun D nD => lc_range (fun j H' => Same H1 H' ∧ ∃ vs, H' D = some (.lst vs) ∧ All2 (RAt ts H') vs ((List.range j).map (fun k => (i, k)))) ⟨Same.new nD, [], upd_same, .nil⟩ ?_ ?_⟩
      · rintro j H2 hj ⟨k2, vs, hD, hv⟩
        have hj2 : j < (tx ts i).length := by omega
        refine ⟨rfl, .ref a, rfl, .int (i : Nat), rfl, a, _, _, _, rfl, rfl, SqT.of (k2 _ _ (k1 _ _ ht.at_)), atI_nat (tx_at hi), _, rfl, _, rfl, _, rfl, len5 (by omega), _, rfl, _, rfl, by show 3 ≤ sizeLine; decide, fun b nb => ⟨vs, (Same.new nb) _ _ hD, ?_, sameAt (k2.trans (Same.new nb)) nD, vs ++ [.ref b], upd_same, ?_⟩⟩
        · have z1 := hv.len
          rw [List.length_map, List.length_range] at z1
          have h3 : sizeLine = 16777216 := sizeLine_eq
          omega
        · rw [row_take ts i j hj2]
          show All2 (RAt ts (upd (upd H2 b (.tup [.str (cutS (tx ts i) (some (0 + (j : Int))) none), .int (i : Nat), .int (0 + (j : Int))])) D (.lst (vs ++ [.ref b])))) _ _
          rw [show (0 + (j : Int)) = (j : Nat) by omega]
          exact add_row (p := (i, j)) rfl nb hD hv
      · rintro H2 ⟨k2, vs, hD, hv⟩
        have kk := k1.trans k2
        have e : (List.range (((tx ts i).length : Nat) : Int).toNat).map (fun k => ((i, k) : Pl)) = row ts i := by
          unfold row
          rw [show (((tx ts i).length : Nat) : Int).toNat = (tx ts i).length by omega]
        rw [e] at hv
        refine ⟨g, D, us, vs, rfl, rfl, k2 _ _ hg, hD, ?_, fun G nG => ?_⟩
        · rw [hu.len, hv.len]
          have z2 := plN_len ht.len i
          have : (row ts i).length = (tx ts i).length := by unfold row; rw [List.length_map, List.length_range]
          have h3 : sizeLine = 16777216 := sizeLine_eq
          have := ht.few
          omega
        · refine ⟨_, _, G, us ++ vs, rfl, Same.free kk nG, kk.trans (Same.new nG), upd_same, ?_⟩
          rw [plN_succ]
          have ks : Same H2 (upd H2 G (.lst (us ++ vs))) := Same.new nG
          exact (hu.imp fun _ _ r => r.same (k2.trans ks)).app (hv.imp fun _ _ r => r.same ks)
    
    · rintro σ H1 ⟨x, y, g, us, rfl, ng, k1, hg, hu⟩
      have e2 : (((ts.map V.str).length : Nat) : Int).toNat = ts.length := by omega
      rw [e2] at hu
      refine ⟨.ref g, rfl, ?_⟩
      dsimp only [tNil]
      refine sorted_rows hg hu fun A ws nA hw => ?_
      have kA : Same H (upd H1 A (.lst ws)) := k1.trans (Same.new nA)
      have hw := hw.imp fun _ _ r => r.same (Same.new (o := .lst ws) nA)
      have hA : upd H1 A (.lst ws) A = some (.lst ws) := upd_same
      have few : (plN ts ts.length).length ≤ 2000 := by
        have := plN_len ht.len ts.length
        have := ht.few
        omega
      revert kA hw hA
      generalize upd H1 A (.lst ws) = HX
      intro kA hw hA
      have lq : ((plN ts ts.length).mergeSort (leP ts)).length ≤ 2000 := by rw [List.length_mergeSort]; exact few
      have q : ∀ b H', Same H H' → H b = none → PsL H' b ((plN ts ts.length).mergeSort (leP ts)) → Q (.ref b) H' := q
      revert q lq hw
      generalize (plN ts ts.length).mergeSort (leP ts) = qs
      intro hw lq q
      refine ⟨A, rfl, ⟨_, sq_of hA⟩, fun D nD => lc_list (xs := ws) (fun i H' => Same HX H' ∧ ∃ us, H' D = some (.lst us) ∧ All2 (PAt H') us (qs.take i)) ⟨Same.new nD, [], upd_same, .nil⟩ (fun i H' _ w => sq_of (w.1 _ _ hA)) ?_ ?_⟩
      · rintro i x H2 hx ⟨k2, us, hD, hu⟩
        obtain ⟨p, ep, b, rfl, eb⟩ := hw.at hx
        have eb2 := k2 _ _ eb
        refine ⟨b, _, rfl, SqT.of eb2, rfl, _, _, rfl, _, _, rfl, _, _, rfl, rfl, rfl, _, rfl, _, rfl, by show 2 ≤ sizeLine; decide, fun c nc => ⟨us, (Same.new nc) _ _ hD, ?_, sameAt (k2.trans (Same.new nc)) nD, us ++ [.ref c], upd_same, ?_⟩⟩
        · have z1 := hu.len
          rw [List.length_take] at z1
          have h3 : sizeLine = 16777216 := sizeLine_eq
          have h4 : i < qs.length := (List.getElem?_eq_some_iff.mp ep).1
          omega
        · rw [take_snoc ep]
          exact add_pair nc hD hu rfl
      · rintro H2 ⟨k2, us, hD, hu⟩
        rw [hw.len, List.take_length] at hu
        exact q D H2 (kA.trans k2) (Same.free kA nD) ⟨us, hD, hu⟩
end
end LawK
set_option maxHeartbeats 4000000
namespace LawK
open PySem PySem.Spec PyProof.Rows L2 Ev
/-- the texts behind a put, a cut, a change: none where there is no room -/
def mText (ts : List Str) (i : Int) : Str := ts.getD i.toNat Str.empty
def mPut (ts : List Str) (t at_ : Int) (z : Str) : Option (List Str) := if t < ts.length ∧ at_ ≤ (mText ts t).length then some (ts.set t.toNat (cutS (mText ts t) none (some at_) ++ z ++ cutS (mText ts t) (some at_) none)) else none
def mCut (ts : List Str) (t at_ n : Int) : Option (List Str) := if t < ts.length ∧ at_ + n ≤ (mText ts t).length then some (ts.set t.toNat (cutS (mText ts t) none (some at_) ++ cutS (mText ts t) (some (at_ + n)) none)) else none
def mChange (ts : List Str) (t at_ : Int) (z : Str) : Option (List Str) := if t < ts.length ∧ at_ + (z.length : Int) ≤ (mText ts t).length then some (ts.set t.toNat (cutS (mText ts t) none (some at_) ++ z ++ cutS (mText ts t) (some (at_ + (z.length : Int))) none)) else none
/-- None, or a tuple of these texts -/
def told (H0 : Hp) (o : Option (List Str)) (Q : VK) : Prop := match o with
  | none => ∀ H', Same H0 H' → Q .non H'
  | some us => ∀ r H', Same H0 H' → H' r = some (.tup (us.map V.str)) → Q (.ref r) H'
def spWith : Sp := fun vs H Q _ => ∃ (a : Addr) (n : Int) (z : Str) (ts : List Str), vs = [.ref a, .int n, .str z] ∧ H a = some (.tup (ts.map V.str)) ∧ 0 ≤ n ∧ n < ts.length ∧ ts.length ≤ 100 ∧ ∀ r H', Same H H' → H' r = some (.tup ((ts.set n.toNat z).map V.str)) → Q (.ref r) H'
def spPut : Sp := fun vs H Q _ => ∃ (a e : Addr) (ts : List Str) (t at_ : Int) (w z : Str), vs = [.ref a, .ref e] ∧ H a = some (.tup (ts.map V.str)) ∧ H e = some (.tup [.str w, .int t, .int at_, .str z]) ∧ ts.length ≤ 100 ∧ (∀ t ∈ ts, t.length ≤ 5000) ∧ z.length ≤ 5000 ∧ 0 ≤ t ∧ 0 ≤ at_ ∧ told H (mPut ts t at_ z) Q
def spChange : Sp := fun vs H Q _ => ∃ (a e : Addr) (ts : List Str) (t at_ : Int) (w z : Str), vs = [.ref a, .ref e] ∧ H a = some (.tup (ts.map V.str)) ∧ H e = some (.tup [.str w, .int t, .int at_, .str z]) ∧ ts.length ≤ 100 ∧ (∀ t ∈ ts, t.length ≤ 5000) ∧ z.length ≤ 5000 ∧ 0 ≤ t ∧ 0 ≤ at_ ∧ told H (mChange ts t at_ z) Q
def spCut : Sp := fun vs H Q _ => ∃ (a e : Addr) (ts : List Str) (t at_ n : Int) (w : Str), vs = [.ref a, .ref e] ∧ H a = some (.tup (ts.map V.str)) ∧ H e = some (.tup [.str w, .int t, .int at_, .int n]) ∧ ts.length ≤ 100 ∧ (∀ t ∈ ts, t.length ≤ 5000) ∧ 0 ≤ t ∧ 0 ≤ at_ ∧ 0 ≤ n ∧ told H (mCut ts t at_ n) Q
section
variable {P : Program} {w : World} {K : PySem.W.Frag} {mg : Str → Option Value} {base : Heap}
abbrev sQWithText : Stmt := topS 17
theorem scQWithText : FnScope ["texts", "number", "text"] ["texts", "number", "text"] (defScope sQWithText) := ⟨rfl, rfl, rfl, by decide +kernel, rfl, by decide +kernel, by decide +kernel⟩
theorem ok_QWithText {f : Addr} {fd : FuncData} (F : Fun K "_with_text" "_with_text" sQWithText f fd)  (T : Glob mg) : FnOk P w K mg base CX0 1 f fd ["texts", "number", "text"] spWith := by
  refine F.ok scQWithText (fun vs H Q E h => ?_) (fun cdv A outer s H vs Q E hr h => ?_)
  · obtain ⟨a, n, z, ts, rfl, _⟩ := h
    rfl
  · refine ⟨_, (pss_one (ps_ret (pe_op op_catM (pe_op op_catM (pe_slice sl_tupM (pv 0) po_none (po_some (pv 1))) (pe_tup (pa_cons (pv 2) pa_nil))) (pe_slice sl_tupM (pv 0) (po_some (pe_op op_add (pv 1) pe_int)) po_none)))), ?_⟩
    obtain ⟨a, n, z, ts, rfl, ha, n0, n1, few, q⟩ := h
    refine ⟨.ref a, rfl, .int n, rfl, n, rfl, a, _, rfl, ha, fun c H1 k1 hc => ?_⟩
    refine ⟨.str z, rfl, by show 1 ≤ sizeLine; decide, fun t nt => ?_⟩
    have k2 := k1.trans (Same.new (o := .tup [.str z]) nt)
    have lc := cutV_length (ts.map V.str) none (some n)
    rw [List.length_map] at lc
    refine ⟨c, t, _, _, rfl, rfl, Same.new (o := .tup [.str z]) nt _ _ hc, upd_same, by show _ + 1 ≤ 1000; omega, fun e H3 k3 he => ?_⟩
    have k4 := k2.trans k3
    refine ⟨.ref a, rfl, .int n, rfl, _, _, rfl, rfl, n + 1, rfl, a, _, rfl, k4 _ _ ha, fun g H5 k5 hg => ?_⟩
    have lg := cutV_length (ts.map V.str) (some (n + 1)) none
    rw [List.length_map] at lg
    refine ⟨e, g, _, _, rfl, rfl, k5 _ _ he, hg, by rw [List.length_append]; show _ + 1 + _ ≤ 1000; omega, fun r H6 k6 hr => ?_⟩
    refine q r H6 (k4.trans (k5.trans k6)) ?_
    rw [hr, cutV_set n0 (by rw [List.length_map]; exact n1), List.map_set]
abbrev sQTextsPut : Stmt := topS 18
theorem scQTextsPut : FnScope ["texts", "edit", "_", "text", "at", "signs"] ["texts", "edit"] (defScope sQTextsPut) := ⟨rfl, rfl, rfl, by decide +kernel, rfl, by decide +kernel, by decide +kernel⟩
theorem ok_QTextsPut {f : Addr} {fd : FuncData} (F : Fun K "_texts_put" "_texts_put" sQTextsPut f fd) {fQWithText : Addr} {fdQWithText : FuncData} (DQWithText : Dk P w K mg base "_with_text" sQWithText ["texts", "number", "text"] 1 spWith fQWithText fdQWithText) (T : Glob mg) : FnOk P w K mg base CX0 2 f fd ["texts", "edit"] spPut := by
  refine F.ok scQTextsPut (fun vs H Q E h => ?_) (fun cdv A outer s H vs Q E hr h => ?_)
  · obtain ⟨a, e, ts, t, at_, w0, z, rfl, _⟩ := h
    rfl
  · refine ⟨_, (pss_cons (ps_asg (pv 1) (pg_tup (by rfl) (pgs_cons (pg_name (i := 2) scQTextsPut.nd rfl (.inl rfl)) (pgs_cons (pg_name (i := 3) scQTextsPut.nd rfl (.inl rfl)) (pgs_cons (pg_name (i := 4) scQTextsPut.nd rfl (.inl rfl)) (pgs_cons (pg_name (i := 5) scQTextsPut.nd rfl (.inl rfl)) pgs_nil))))))
      (pss_cons (ps_if (PW.pt (pw_or (pt_cmpR op_ge (pv 3) (pe_callB call_len_seq (by rfl) T.len PySem.boot_len (pa_cons (pv 0) pa_nil)) (nomark _)) (pw_or1 (pt_cmpR op_gt (pv 4) (pe_callB call_lenZ (by rfl) T.len PySem.boot_len (pa_cons (pe_ix ix_tup (pv 0) (pv 3) (fun _ _ => rfl)) pa_nil)) (nomark _)))))
      (pss_one (ps_ret pe_non))
      pss_nil)
      (pss_one (ps_ret (pe_call DQWithText.ok (hr.mono (by decide)) (by rfl) DQWithText.g DQWithText.F.kp DQWithText.b .nil pass0 (pa_cons (pv 0) (pa_cons (pv 3) (pa_cons (pe_op op_add_str (pe_op op_add_str (pe_slice sl_str (pe_ix ix_tup (pv 0) (pv 3) (fun _ _ => rfl)) po_none (po_some (pv 4))) (pv 5)) (pe_slice sl_str (pe_ix ix_tup (pv 0) (pv 3) (fun _ _ => rfl)) (po_some (pv 4)) po_none)) pa_nil)))))))), ?_⟩
    obtain ⟨a, e, ts, t, at_, w0, z, rfl, ha, he, few, lens, lz, t0, a0, q⟩ := h
    refine ⟨.ref e, rfl, e, _, rfl, SqT.of he, rfl, .str w0, _, rfl, .int t, _, rfl, .int at_, _, rfl, .str z, [], rfl, rfl, ?_⟩
    have h9 : sizeLine = 16777216 := sizeLine_eq
    
    refine ⟨.int t, rfl, .ref a, rfl, a, _, rfl, .inr (SqT.of ha), _, _, rfl, rfl, _, rfl, ?_⟩
    rw [List.length_map]
    refine ite2 (fun c => ?_) (fun c => ?_)
    · have c' : (ts.length : Int) ≤ t := of_decide_eq_true c
      unfold mPut at q
      rw [if_neg (by omega)] at q
      exact q H (Same.refl H)
    have c' : t < (ts.length : Int) := Int.not_le.mp fun z => c (decide_eq_true z)
    obtain ⟨et, hm⟩ := text_at t0 c'
    have lt := lens _ hm
    refine ⟨.int at_, rfl, .ref a, rfl, .int t, rfl, a, _, t, _, rfl, rfl, SqT.of ha, et, _, rfl, len5 lt, _, _, rfl, rfl, _, rfl, ite2 (fun d => ?_) (fun d => ?_)⟩
    · have d' : ((ts.getD t.toNat Str.empty).length : Int) < at_ := of_decide_eq_true d
      unfold mPut mText at q
      rw [if_neg (by omega)] at q
      exact q H (Same.refl H)
    have d' : at_ ≤ ((ts.getD t.toNat Str.empty).length : Int) := Int.not_lt.mp fun z => d (decide_eq_true z)
    unfold mPut mText at q
    rw [if_pos ⟨c', d'⟩] at q
    generalize ts.getD t.toNat Str.empty = y at et lt q
    have l1 := cut_len (z := y) none (some at_)
    have l2 := cut_len (z := y) (some at_) none
    refine ⟨.ref a, rfl, .int t, rfl, .ref a, rfl, .int t, rfl, a, _, t, _, rfl, rfl, SqT.of ha, et, .int at_, rfl, at_, rfl, y, rfl, len5 lt, .str z, rfl, _, _, rfl, rfl, by omega, ?_⟩
    have l3 := app_len (cutS y none (some at_)) z
    refine ⟨.ref a, rfl, .int t, rfl, a, _, t, _, rfl, rfl, SqT.of ha, et, .int at_, rfl, at_, rfl, y, rfl, len5 lt, _, _, rfl, rfl, by omega, ?_⟩
    exact ⟨a, t, _, ts, rfl, ha, t0, c', few, fun r H' k hr => q r H' k hr⟩
abbrev sQTextsCut : Stmt := topS 19
theorem scQTextsCut : FnScope ["texts", "edit", "_", "text", "at", "many"] ["texts", "edit"] (defScope sQTextsCut) := ⟨rfl, rfl, rfl, by decide +kernel, rfl, by decide +kernel, by decide +kernel⟩
theorem ok_QTextsCut {f : Addr} {fd : FuncData} (F : Fun K "_texts_cut" "_texts_cut" sQTextsCut f fd) {fQWithText : Addr} {fdQWithText : FuncData} (DQWithText : Dk P w K mg base "_with_text" sQWithText ["texts", "number", "text"] 1 spWith fQWithText fdQWithText) (T : Glob mg) : FnOk P w K mg base CX0 2 f fd ["texts", "edit"] spCut := by
  refine F.ok scQTextsCut (fun vs H Q E h => ?_) (fun cdv A outer s H vs Q E hr h => ?_)
  · obtain ⟨a, e, ts, t, at_, n, w0, rfl, _⟩ := h
    rfl
  · refine ⟨_, (pss_cons (ps_asg (pv 1) (pg_tup (by rfl) (pgs_cons (pg_name (i := 2) scQTextsCut.nd rfl (.inl rfl)) (pgs_cons (pg_name (i := 3) scQTextsCut.nd rfl (.inl rfl)) (pgs_cons (pg_name (i := 4) scQTextsCut.nd rfl (.inl rfl)) (pgs_cons (pg_name (i := 5) scQTextsCut.nd rfl (.inl rfl)) pgs_nil))))))
      (pss_cons (ps_if (PW.pt (pw_or (pt_cmpR op_ge (pv 3) (pe_callB call_len_seq (by rfl) T.len PySem.boot_len (pa_cons (pv 0) pa_nil)) (nomark _)) (pw_or1 (pt_cmpR op_gt (pe_op op_add (pv 4) (pv 5)) (pe_callB call_lenZ (by rfl) T.len PySem.boot_len (pa_cons (pe_ix ix_tup (pv 0) (pv 3) (fun _ _ => rfl)) pa_nil)) (nomark _)))))
      (pss_one (ps_ret pe_non))
      pss_nil)
      (pss_one (ps_ret (pe_call DQWithText.ok (hr.mono (by decide)) (by rfl) DQWithText.g DQWithText.F.kp DQWithText.b .nil pass0 (pa_cons (pv 0) (pa_cons (pv 3) (pa_cons (pe_op op_add_str (pe_slice sl_str (pe_ix ix_tup (pv 0) (pv 3) (fun _ _ => rfl)) po_none (po_some (pv 4))) (pe_slice sl_str (pe_ix ix_tup (pv 0) (pv 3) (fun _ _ => rfl)) (po_some (pe_op op_add (pv 4) (pv 5))) po_none)) pa_nil)))))))), ?_⟩
    obtain ⟨a, e, ts, t, at_, n, w0, rfl, ha, he, few, lens, t0, a0, n0, q⟩ := h
    refine ⟨.ref e, rfl, e, _, rfl, SqT.of he, rfl, .str w0, _, rfl, .int t, _, rfl, .int at_, _, rfl, .int n, [], rfl, rfl, ?_⟩
    have h9 : sizeLine = 16777216 := sizeLine_eq
    refine ⟨.int t, rfl, .ref a, rfl, a, _, rfl, .inr (SqT.of ha), _, _, rfl, rfl, _, rfl, ?_⟩
    rw [List.length_map]
    refine ite2 (fun c => ?_) (fun c => ?_)
    · have c' : (ts.length : Int) ≤ t := of_decide_eq_true c
      unfold mCut at q
      rw [if_neg (by omega)] at q
      exact q H (Same.refl H)
    have c' : t < (ts.length : Int) := Int.not_le.mp fun z => c (decide_eq_true z)
    obtain ⟨et, hm⟩ := text_at t0 c'
    have lt := lens _ hm
    refine ⟨.int at_, rfl, .int n, rfl, _, _, rfl, rfl, .ref a, rfl, .int t, rfl, a, _, t, _, rfl, rfl, SqT.of ha, et, _, rfl, len5 lt, _, _, rfl, rfl, _, rfl, ite2 (fun d => ?_) (fun d => ?_)⟩
    · have d' : ((ts.getD t.toNat Str.empty).length : Int) < at_ + n := of_decide_eq_true d
      unfold mCut mText at q
      rw [if_neg (by omega)] at q
      exact q H (Same.refl H)
    have d' : at_ + n ≤ ((ts.getD t.toNat Str.empty).length : Int) := Int.not_lt.mp fun z => d (decide_eq_true z)
    unfold mCut mText at q
    rw [if_pos ⟨c', d'⟩] at q
    generalize ts.getD t.toNat Str.empty = y at et lt q
    have l1 := cut_len (z := y) none (some at_)
    have l2 := cut_len (z := y) (some (at_ + n)) none
    refine ⟨.ref a, rfl, .int t, rfl, .ref a, rfl, .int t, rfl, a, _, t, _, rfl, rfl, SqT.of ha, et, .int at_, rfl, at_, rfl, y, rfl, len5 lt, ?_⟩
    refine ⟨.ref a, rfl, .int t, rfl, a, _, t, _, rfl, rfl, SqT.of ha, et, .int at_, rfl, .int n, rfl, _, _, rfl, rfl, at_ + n, rfl, y, rfl, len5 lt, _, _, rfl, rfl, by omega, ?_⟩
    exact ⟨a, t, _, ts, rfl, ha, t0, c', few, fun r H' k hr => q r H' k hr⟩
end
end LawK
set_option maxHeartbeats 4000000
namespace LawK
open PySem PySem.Spec PyProof.Rows L2 Ev
def mSplit (ts : List Str) (t at_ : Int) : Option (List Str) := if t < ts.length ∧ at_ ≤ (mText ts t).length then some (ts.set t.toNat (cutS (mText ts t) none (some at_)) ++ [cutS (mText ts t) (some at_) none]) else none
def mJoin (ts : List Str) (t u : Int) : Option (List Str) := if t < ts.length ∧ u < ts.length ∧ t ≠ u then some ((ts.set u.toNat (Str.ofString "")).set t.toNat (mText ts t ++ mText ts u)) else none
def mMove (ts : List Str) (t at_ n u p : Int) : Option (List Str) := (mCut ts t at_ n).bind fun us => mPut us u p (cutS (mText ts t) (some at_) (some (at_ + n)))
def spCome : Sp := fun vs H Q _ => ∃ (a e : Addr) (ts : List Str) (w z : Str), vs = [.ref a, .ref e] ∧ H a = some (.tup (ts.map V.str)) ∧ H e = some (.tup [.str w, .str z]) ∧ ts.length ≤ 100 ∧ told H (some (ts ++ [z])) Q
def spSplit : Sp := fun vs H Q _ => ∃ (a e : Addr) (ts : List Str) (t at_ : Int) (w : Str), vs = [.ref a, .ref e] ∧ H a = some (.tup (ts.map V.str)) ∧ H e = some (.tup [.str w, .int t, .int at_]) ∧ ts.length ≤ 100 ∧ (∀ t ∈ ts, t.length ≤ 5000) ∧ 0 ≤ t ∧ 0 ≤ at_ ∧ told H (mSplit ts t at_) Q
def spJoin : Sp := fun vs H Q _ => ∃ (a e : Addr) (ts : List Str) (t u : Int) (w : Str), vs = [.ref a, .ref e] ∧ H a = some (.tup (ts.map V.str)) ∧ H e = some (.tup [.str w, .int t, .int u]) ∧ ts.length ≤ 100 ∧ (∀ t ∈ ts, t.length ≤ 5000) ∧ 0 ≤ t ∧ 0 ≤ u ∧ told H (mJoin ts t u) Q
def spMove : Sp := fun vs H Q _ => ∃ (a e : Addr) (ts : List Str) (t at_ n u p : Int) (w : Str), vs = [.ref a, .ref e] ∧ H a = some (.tup (ts.map V.str)) ∧ H e = some (.tup [.str w, .int t, .int at_, .int n, .int u, .int p]) ∧ ts.length ≤ 100 ∧ (∀ t ∈ ts, t.length ≤ 5000) ∧ 0 ≤ t ∧ 0 ≤ at_ ∧ 0 ≤ n ∧ 0 ≤ u ∧ 0 ≤ p ∧ told H (mMove ts t at_ n u p) Q
theorem lenE : (Str.ofString "").length = 0 := by decide +kernel
section
variable {P : Program} {w : World} {K : PySem.W.Frag} {mg : Str → Option Value} {base : Heap}
abbrev sQTextsChanged : Stmt := topS 20
theorem scQTextsChanged : FnScope ["texts", "edit", "_", "text", "at", "signs", "behind"] ["texts", "edit"] (defScope sQTextsChanged) := ⟨rfl, rfl, rfl, by decide +kernel, rfl, by decide +kernel, by decide +kernel⟩
theorem ok_QTextsChanged {f : Addr} {fd : FuncData} (F : Fun K "_texts_changed" "_texts_changed" sQTextsChanged f fd) {fQWithText : Addr} {fdQWithText : FuncData} (DQWithText : Dk P w K mg base "_with_text" sQWithText ["texts", "number", "text"] 1 spWith fQWithText fdQWithText) (T : Glob mg) : FnOk P w K mg base CX0 2 f fd ["texts", "edit"] spChange := by
  refine F.ok scQTextsChanged (fun vs H Q E h => ?_) (fun cdv A outer s H vs Q E hr h => ?_)
  · obtain ⟨a, e, ts, t, at_, w0, z, rfl, _⟩ := h
    rfl
  · refine ⟨_, (pss_cons (ps_asg (pv 1) (pg_tup (by rfl) (pgs_cons (pg_name (i := 2) scQTextsChanged.nd rfl (.inl rfl)) (pgs_cons (pg_name (i := 3) scQTextsChanged.nd rfl (.inl rfl)) (pgs_cons (pg_name (i := 4) scQTextsChanged.nd rfl (.inl rfl)) (pgs_cons (pg_name (i := 5) scQTextsChanged.nd rfl (.inl rfl)) pgs_nil))))))
      (pss_cons (ps_set (i := 6) scQTextsChanged.nd rfl (.inl rfl) (pe_op op_add (pv 4) (pe_callB call_lenZ (by rfl) T.len PySem.boot_len (pa_cons (pv 5) pa_nil))))
      (pss_cons (ps_if (PW.pt (pw_or (pt_cmpR op_ge (pv 3) (pe_callB call_len_seq (by rfl) T.len PySem.boot_len (pa_cons (pv 0) pa_nil)) (nomark _)) (pw_or1 (pt_cmpR op_gt (pv 6) (pe_callB call_lenZ (by rfl) T.len PySem.boot_len (pa_cons (pe_ix ix_tup (pv 0) (pv 3) (fun _ _ => rfl)) pa_nil)) (nomark _)))))
      (pss_one (ps_ret pe_non))
      pss_nil)
      (pss_one (ps_ret (pe_call DQWithText.ok (hr.mono (by decide)) (by rfl) DQWithText.g DQWithText.F.kp DQWithText.b .nil pass0 (pa_cons (pv 0) (pa_cons (pv 3) (pa_cons (pe_op op_add_str (pe_op op_add_str (pe_slice sl_str (pe_ix ix_tup (pv 0) (pv 3) (fun _ _ => rfl)) po_none (po_some (pv 4))) (pv 5)) (pe_slice sl_str (pe_ix ix_tup (pv 0) (pv 3) (fun _ _ => rfl)) (po_some (pv 6)) po_none)) pa_nil))))))))), ?_⟩
    obtain ⟨a, e, ts, t, at_, w0, z, rfl, ha, he, few, lens, lz, t0, a0, q⟩ := h
    refine ⟨.ref e, rfl, e, _, rfl, SqT.of he, rfl, .str w0, _, rfl, .int t, _, rfl, .int at_, _, rfl, .str z, [], rfl, rfl, ?_⟩
    have h9 : sizeLine = 16777216 := sizeLine_eq
    
    refine ⟨.int at_, rfl, .str z, rfl, z, rfl, len5 lz, _, _, rfl, rfl, ?_⟩
    refine ⟨.int t, rfl, .ref a, rfl, a, _, rfl, .inr (SqT.of ha), _, _, rfl, rfl, _, rfl, ?_⟩
    rw [List.length_map]
    refine ite2 (fun c => ?_) (fun c => ?_)
    · have c' : (ts.length : Int) ≤ t := of_decide_eq_true c
      unfold mChange at q
      rw [if_neg (by omega)] at q
      exact q H (Same.refl H)
    have c' : t < (ts.length : Int) := Int.not_le.mp fun z => c (decide_eq_true z)
    obtain ⟨et, hm⟩ := text_at t0 c'
    have lt := lens _ hm
    refine ⟨.int (at_ + (z.length : Int)), rfl, .ref a, rfl, .int t, rfl, a, _, t, _, rfl, rfl, SqT.of ha, et, _, rfl, len5 lt, _, _, rfl, rfl, _, rfl, ite2 (fun d => ?_) (fun d => ?_)⟩
    · have d' : ((ts.getD t.toNat Str.empty).length : Int) < at_ + (z.length : Int) := of_decide_eq_true d
      unfold mChange mText at q
      rw [if_neg (by omega)] at q
      exact q H (Same.refl H)
    have d' : at_ + (z.length : Int) ≤ ((ts.getD t.toNat Str.empty).length : Int) := Int.not_lt.mp fun z => d (decide_eq_true z)
    unfold mChange mText at q
    rw [if_pos ⟨c', d'⟩] at q
    generalize ts.getD t.toNat Str.empty = y at et lt q
    have l1 := cut_len (z := y) none (some at_)
    have l2 := cut_len (z := y) (some (at_ + (z.length : Int))) none
    refine ⟨.ref a, rfl, .int t, rfl, .ref a, rfl, .int t, rfl, a, _, t, _, rfl, rfl, SqT.of ha, et, .int at_, rfl, at_, rfl, y, rfl, len5 lt, .str z, rfl, _, _, rfl, rfl, by omega, ?_⟩
    have l3 := app_len (cutS y none (some at_)) z
    refine ⟨.ref a, rfl, .int t, rfl, a, _, t, _, rfl, rfl, SqT.of ha, et, .int (at_ + (z.length : Int)), rfl, at_ + (z.length : Int), rfl, y, rfl, len5 lt, _, _, rfl, rfl, by omega, ?_⟩
    exact ⟨a, t, _, ts, rfl, ha, t0, c', few, fun r H' k hr => q r H' k hr⟩
abbrev sQTextsCome : Stmt := topS 21
theorem scQTextsCome : FnScope ["texts", "edit"] ["texts", "edit"] (defScope sQTextsCome) := ⟨rfl, rfl, rfl, by decide +kernel, rfl, by decide +kernel, by decide +kernel⟩
theorem ok_QTextsCome {f : Addr} {fd : FuncData} (F : Fun K "_texts_come" "_texts_come" sQTextsCome f fd)  (T : Glob mg) : FnOk P w K mg base CX0 1 f fd ["texts", "edit"] spCome := by
  refine F.ok scQTextsCome (fun vs H Q E h => ?_) (fun cdv A outer s H vs Q E hr h => ?_)
  · obtain ⟨a, e, ts, w0, z, rfl, _⟩ := h
    rfl
  · refine ⟨_, (pss_one (ps_ret (pe_op op_catM (pv 0) (pe_tup (pa_cons (pe_ix ix_tup (pv 1) pe_int (fun _ _ => rfl)) pa_nil))))), ?_⟩
    obtain ⟨a, e, ts, w0, z, rfl, ha, he, few, q⟩ := h
    refine ⟨.ref a, rfl, .ref e, rfl, e, _, 1, .str z, rfl, rfl, SqT.of he, rfl, by show 1 ≤ sizeLine; decide, fun t nt => ?_⟩
    have k1 := Same.new (o := .tup [.str z]) nt
    refine ⟨a, t, _, _, rfl, rfl, k1 _ _ ha, upd_same, by rw [List.length_map]; show _ + 1 ≤ 1000; omega, fun r H' k hr => ?_⟩
    refine q r H' (k1.trans k) ?_
    rw [hr, List.map_append]
    rfl
abbrev sQTextsSplit : Stmt := topS 23
theorem scQTextsSplit : FnScope ["texts", "edit", "_", "text", "at"] ["texts", "edit"] (defScope sQTextsSplit) := ⟨rfl, rfl, rfl, by decide +kernel, rfl, by decide +kernel, by decide +kernel⟩
theorem ok_QTextsSplit {f : Addr} {fd : FuncData} (F : Fun K "_texts_split" "_texts_split" sQTextsSplit f fd) {fQWithText : Addr} {fdQWithText : FuncData} (DQWithText : Dk P w K mg base "_with_text" sQWithText ["texts", "number", "text"] 1 spWith fQWithText fdQWithText) (T : Glob mg) : FnOk P w K mg base CX0 2 f fd ["texts", "edit"] spSplit := by
  refine F.ok scQTextsSplit (fun vs H Q E h => ?_) (fun cdv A outer s H vs Q E hr h => ?_)
  · obtain ⟨a, e, ts, t, at_, w0, rfl, _⟩ := h
    rfl
  · refine ⟨_, (pss_cons (ps_asg (pv 1) (pg_tup (by rfl) (pgs_cons (pg_name (i := 2) scQTextsSplit.nd rfl (.inl rfl)) (pgs_cons (pg_name (i := 3) scQTextsSplit.nd rfl (.inl rfl)) (pgs_cons (pg_name (i := 4) scQTextsSplit.nd rfl (.inl rfl)) pgs_nil)))))
      (pss_cons (ps_if (PW.pt (pw_or (pt_cmpR op_ge (pv 3) (pe_callB call_len_seq (by rfl) T.len PySem.boot_len (pa_cons (pv 0) pa_nil)) (nomark _)) (pw_or1 (pt_cmpR op_gt (pv 4) (pe_callB call_lenZ (by rfl) T.len PySem.boot_len (pa_cons (pe_ix ix_tup (pv 0) (pv 3) (fun _ _ => rfl)) pa_nil)) (nomark _)))))
      (pss_one (ps_ret pe_non))
      pss_nil)
      (pss_one (ps_ret (pe_op op_catM (pe_call DQWithText.ok (hr.mono (by decide)) (by rfl) DQWithText.g DQWithText.F.kp DQWithText.b .nil pass0 (pa_cons (pv 0) (pa_cons (pv 3) (pa_cons (pe_slice sl_str (pe_ix ix_tup (pv 0) (pv 3) (fun _ _ => rfl)) po_none (po_some (pv 4))) pa_nil)))) (pe_tup (pa_cons (pe_slice sl_str (pe_ix ix_tup (pv 0) (pv 3) (fun _ _ => rfl)) (po_some (pv 4)) po_none) pa_nil))))))), ?_⟩
    obtain ⟨a, e, ts, t, at_, w0, rfl, ha, he, few, lens, t0, a0, q⟩ := h
    refine ⟨.ref e, rfl, e, _, rfl, SqT.of he, rfl, .str w0, _, rfl, .int t, _, rfl, .int at_, [], rfl, rfl, ?_⟩
    refine ⟨.int t, rfl, .ref a, rfl, a, _, rfl, .inr (SqT.of ha), _, _, rfl, rfl, _, rfl, ?_⟩
    rw [List.length_map]
    refine ite2 (fun c => ?_) (fun c => ?_)
    · have c' : (ts.length : Int) ≤ t := of_decide_eq_true c
      unfold mSplit at q
      rw [if_neg (by omega)] at q
      exact q H (Same.refl H)
    have c' : t < (ts.length : Int) := Int.not_le.mp fun z => c (decide_eq_true z)
    obtain ⟨et, hm⟩ := text_at t0 c'
    have lt := lens _ hm
    refine ⟨.int at_, rfl, .ref a, rfl, .int t, rfl, a, _, t, _, rfl, rfl, SqT.of ha, et, _, rfl, len5 lt, _, _, rfl, rfl, _, rfl, ite2 (fun d => ?_) (fun d => ?_)⟩
    · have d' : ((ts.getD t.toNat Str.empty).length : Int) < at_ := of_decide_eq_true d
      unfold mSplit mText at q
      rw [if_neg (by omega)] at q
      exact q H (Same.refl H)
    have d' : at_ ≤ ((ts.getD t.toNat Str.empty).length : Int) := Int.not_lt.mp fun z => d (decide_eq_true z)
    unfold mSplit mText at q
    rw [if_pos ⟨c', d'⟩] at q
    generalize ts.getD t.toNat Str.empty = y at et lt q
    refine ⟨.ref a, rfl, .int t, rfl, .ref a, rfl, .int t, rfl, a, _, t, _, rfl, rfl, SqT.of ha, et, .int at_, rfl, at_, rfl, y, rfl, len5 lt, a, t, _, ts, rfl, ha, t0, c', few, fun r H1 k1 hr => ?_⟩
    refine ⟨.ref a, rfl, .int t, rfl, a, _, t, _, rfl, rfl, SqT.of (k1 _ _ ha), et, .int at_, rfl, at_, rfl, y, rfl, len5 lt, by show 1 ≤ sizeLine; decide, fun b nb => ?_⟩
    have k2 := Same.new (o := .tup [.str (cutS y (some at_) none)]) nb
    refine ⟨r, b, _, _, rfl, rfl, k2 _ _ hr, upd_same, by rw [List.length_map, List.length_set]; show _ + 1 ≤ 1000; omega, fun g H3 k3 hg => ?_⟩
    refine q g H3 (k1.trans (k2.trans k3)) ?_
    rw [hg, List.map_append]
    rfl
abbrev sQTextsMoved : Stmt := topS 25
theorem scQTextsMoved : FnScope ["texts", "edit", "_", "text", "at", "many", "other", "place", "left"] ["texts", "edit"] (defScope sQTextsMoved) := ⟨rfl, rfl, rfl, by decide +kernel, rfl, by decide +kernel, by decide +kernel⟩
theorem ok_QTextsMoved {f : Addr} {fd : FuncData} (F : Fun K "_texts_moved" "_texts_moved" sQTextsMoved f fd) {fQTextsPut : Addr} {fdQTextsPut : FuncData} (DQTextsPut : Dk P w K mg base "_texts_put" sQTextsPut ["texts", "edit"] 2 spPut fQTextsPut fdQTextsPut) {fQTextsCut : Addr} {fdQTextsCut : FuncData} (DQTextsCut : Dk P w K mg base "_texts_cut" sQTextsCut ["texts", "edit"] 2 spCut fQTextsCut fdQTextsCut) (T : Glob mg) : FnOk P w K mg base CX0 3 f fd ["texts", "edit"] spMove := by
  refine F.ok scQTextsMoved (fun vs H Q E h => ?_) (fun cdv A outer s H vs Q E hr h => ?_)
  · obtain ⟨a, e, ts, t, at_, n, u, p, w0, rfl, _⟩ := h
    rfl
  · refine ⟨_, (pss_cons (ps_asg (pv 1) (pg_tup (by rfl) (pgs_cons (pg_name (i := 2) scQTextsMoved.nd rfl (.inl rfl)) (pgs_cons (pg_name (i := 3) scQTextsMoved.nd rfl (.inl rfl)) (pgs_cons (pg_name (i := 4) scQTextsMoved.nd rfl (.inl rfl)) (pgs_cons (pg_name (i := 5) scQTextsMoved.nd rfl (.inl rfl)) (pgs_cons (pg_name (i := 6) scQTextsMoved.nd rfl (.inl rfl)) (pgs_cons (pg_name (i := 7) scQTextsMoved.nd rfl (.inl rfl)) pgs_nil))))))))
      (pss_cons (ps_set (i := 8) scQTextsMoved.nd rfl (.inl rfl) (pe_call DQTextsCut.ok (hr.mono (by decide)) (by rfl) DQTextsCut.g DQTextsCut.F.kp DQTextsCut.b .nil pass0 (pa_cons (pv 0) (pa_cons (pe_tup (pa_cons pe_str (pa_cons (pv 3) (pa_cons (pv 4) (pa_cons (pv 5) pa_nil))))) pa_nil))))
      (pss_cons (ps_if (pt_cmpR op_isN (pv 8) pe_non (nomark _))
      (pss_one (ps_ret pe_non))
      pss_nil)
      (pss_one (ps_ret (pe_call DQTextsPut.ok (hr.mono (by decide)) (by rfl) DQTextsPut.g DQTextsPut.F.kp DQTextsPut.b .nil pass0 (pa_cons (pv 8) (pa_cons (pe_tup (pa_cons pe_str (pa_cons (pv 6) (pa_cons (pv 7) (pa_cons (pe_slice sl_str (pe_ix ix_tup (pv 0) (pv 3) (fun _ _ => rfl)) (po_some (pv 4)) (po_some (pe_op op_add (pv 4) (pv 5)))) pa_nil))))) pa_nil)))))))), ?_⟩
    obtain ⟨a, e, ts, t, at_, n, u, p, w0, rfl, ha, he, few, lens, t0, a0, n0, u0, p0, q⟩ := h
    refine ⟨.ref e, rfl, e, _, rfl, SqT.of he, rfl, .str w0, _, rfl, .int t, _, rfl, .int at_, _, rfl, .int n, _, rfl, .int u, _, rfl, .int p, [], rfl, rfl, ?_⟩
    refine ⟨.ref a, rfl, .int t, rfl, .int at_, rfl, .int n, rfl, by show 4 ≤ sizeLine; decide, fun b nb => ?_⟩
    have k1 := Same.new (o := .tup [.str "cut", .int t, .int at_, .int n]) nb
    refine ⟨a, b, ts, t, at_, n, _, rfl, k1 _ _ ha, upd_same, few, lens, t0, a0, n0, ?_⟩
    unfold mMove at q
    cases ec : mCut ts t at_ n with
    | none =>
      rw [ec] at q
      exact fun H2 k2 => ⟨_, rfl, rfl, _, rfl, iteT (q H2 (k1.trans k2))⟩
    | some us =>
      rw [ec] at q
      intro r H2 k2 hr
      have kk := k1.trans k2
      have hc := ec
      unfold mCut at hc
      have cond : t < ts.length ∧ at_ + n ≤ (mText ts t).length := Classical.byContradiction fun z => by
        rw [if_neg z] at hc
        cases hc
      rw [if_pos cond] at hc
      obtain rfl := Option.some.inj hc
      obtain ⟨et, hm⟩ := text_at t0 cond.1
      have lt := lens _ hm
      refine ⟨_, rfl, rfl, _, rfl, iteF ?_⟩
      have lcut := cut_len (z := ts.getD t.toNat Str.empty) (some at_) (some (at_ + n))
      refine ⟨.ref r, rfl, .int u, rfl, .int p, rfl, .ref a, rfl, .int t, rfl, a, _, t, _, rfl, rfl, SqT.of (kk _ _ ha), et, .int at_, rfl, at_, rfl, .int at_, rfl, .int n, rfl, _, _, rfl, rfl, at_ + n, rfl, _, rfl, len5 lt, by show 4 ≤ sizeLine; decide, fun g ng => ?_⟩
      have k3 := Same.new (o := .tup [.str "put", .int u, .int p, .str (cutS (ts.getD t.toNat Str.empty) (some at_) (some (at_ + n)))]) ng
      refine ⟨r, g, _, u, p, _, _, rfl, k3 _ _ hr, upd_same, by rw [List.length_set]; exact few, fun y hy => ?_, by omega, u0, p0, ?_⟩
      · rcases List.mem_or_eq_of_mem_set hy with h1 | h1
        · exact lens y h1
        · rw [h1, app_len]
          have l1 := cut_len2 (z := mText ts t) none (some at_)
          have l2 := cut_len (z := mText ts t) none (some at_)
          have l3 : (cutS (mText ts t) (some (at_ + n)) none).length ≤ (mText ts t).length - (at_ + n).toNat := by
            rw [len_S, cutS_from (by omega), List.length_drop, ← len_S]
            exact Nat.le_refl _
          have l4 : (cutS (mText ts t) none (some at_)).length ≤ at_.toNat := by
            have := cut_hi (z := mText ts t) (lo := none) a0
            omega
          have lt' : (mText ts t).length ≤ 5000 := lt
          omega
      · have mono : ∀ (o : Option (List Str)), told H o Q → told (upd H2 g (.tup [.str "put", .int u, .int p, .str (cutS (ts.getD t.toNat Str.empty) (some at_) (some (at_ + n)))])) o Q := fun o z => by
          cases o with
          | none => exact fun H' k' => z H' ((kk.trans k3).trans k')
          | some us => exact fun r H' k' => z r H' ((kk.trans k3).trans k')
        exact mono _ q
end
end LawK
set_option maxHeartbeats 4000000
namespace LawK
open PySem PySem.Spec PyProof.Rows L2 Ev
def mGone (ts : List Str) : Option (List Str) := if ts.getLast? = some (Str.ofString "") then some ts.dropLast else none
def spGone : Sp := fun vs H Q _ => ∃ (a : Addr) (y : V) (ts : List Str), vs = [.ref a, y] ∧ H a = some (.tup (ts.map V.str)) ∧ ts.length ≤ 100 ∧ told H (mGone ts) Q
section
variable {P : Program} {w : World} {K : PySem.W.Frag} {mg : Str → Option Value} {base : Heap}
abbrev sQTextsJoined : Stmt := topS 24
theorem scQTextsJoined : FnScope ["texts", "edit", "_", "text", "other", "emptied"] ["texts", "edit"] (defScope sQTextsJoined) := ⟨rfl, rfl, rfl, by decide +kernel, rfl, by decide +kernel, by decide +kernel⟩
theorem ok_QTextsJoined {f : Addr} {fd : FuncData} (F : Fun K "_texts_joined" "_texts_joined" sQTextsJoined f fd) {fQWithText : Addr} {fdQWithText : FuncData} (DQWithText : Dk P w K mg base "_with_text" sQWithText ["texts", "number", "text"] 1 spWith fQWithText fdQWithText) (T : Glob mg) : FnOk P w K mg base CX0 2 f fd ["texts", "edit"] spJoin := by
  refine F.ok scQTextsJoined (fun vs H Q E h => ?_) (fun cdv A outer s H vs Q E hr h => ?_)
  · obtain ⟨a, e, ts, t, u, w0, rfl, _⟩ := h
    rfl
  · refine ⟨_, (pss_cons (ps_asg (pv 1) (pg_tup (by rfl) (pgs_cons (pg_name (i := 2) scQTextsJoined.nd rfl (.inl rfl)) (pgs_cons (pg_name (i := 3) scQTextsJoined.nd rfl (.inl rfl)) (pgs_cons (pg_name (i := 4) scQTextsJoined.nd rfl (.inl rfl)) pgs_nil)))))
      (pss_cons (ps_if (PW.pt (pw_or (pt_cmpR op_ge (pv 3) (pe_callB call_len_seq (by rfl) T.len PySem.boot_len (pa_cons (pv 0) pa_nil)) (nomark _)) (pw_or (pt_cmpR op_ge (pv 4) (pe_callB call_len_seq (by rfl) T.len PySem.boot_len (pa_cons (pv 0) pa_nil)) (nomark _)) (pw_or1 (pt_cmpR op_eq (pv 3) (pv 4) (nomark _))))))
      (pss_one (ps_ret pe_non))
      pss_nil)
      (pss_cons (ps_set (i := 5) scQTextsJoined.nd rfl (.inl rfl) (pe_call DQWithText.ok (hr.mono (by decide)) (by rfl) DQWithText.g DQWithText.F.kp DQWithText.b .nil pass0 (pa_cons (pv 0) (pa_cons (pv 4) (pa_cons pe_str pa_nil)))))
      (pss_one (ps_ret (pe_call DQWithText.ok (hr.mono (by decide)) (by rfl) DQWithText.g DQWithText.F.kp DQWithText.b .nil pass0 (pa_cons (pv 5) (pa_cons (pv 3) (pa_cons (pe_op op_add_str (pe_ix ix_tup (pv 0) (pv 3) (fun _ _ => rfl)) (pe_ix ix_tup (pv 0) (pv 4) (fun _ _ => rfl))) pa_nil))))))))), ?_⟩
    obtain ⟨a, e, ts, t, u, w0, rfl, ha, he, few, lens, t0, u0, q⟩ := h
    refine ⟨.ref e, rfl, e, _, rfl, SqT.of he, rfl, .str w0, _, rfl, .int t, _, rfl, .int u, [], rfl, rfl, ?_⟩
    have h9 : sizeLine = 16777216 := sizeLine_eq
    refine ⟨.int t, rfl, .ref a, rfl, a, _, rfl, .inr (SqT.of ha), _, _, rfl, rfl, _, rfl, ?_⟩
    rw [List.length_map]
    refine ite2 (fun c => ?_) (fun c => ?_)
    · have c' : (ts.length : Int) ≤ t := of_decide_eq_true c
      unfold mJoin at q
      rw [if_neg (by omega)] at q
      exact q H (Same.refl H)
    have c' : t < (ts.length : Int) := Int.not_le.mp fun z => c (decide_eq_true z)
    refine ⟨.int u, rfl, .ref a, rfl, a, _, rfl, .inr (SqT.of ha), _, _, rfl, rfl, _, rfl, ?_⟩
    rw [List.length_map]
    refine ite2 (fun d => ?_) (fun d => ?_)
    · have d' : (ts.length : Int) ≤ u := of_decide_eq_true d
      unfold mJoin at q
      rw [if_neg (by omega)] at q
      exact q H (Same.refl H)
    have d' : u < (ts.length : Int) := Int.not_le.mp fun z => d (decide_eq_true z)
    refine ⟨.int t, rfl, .int u, rfl, rfl, _, rfl, ite2 (fun g => ?_) (fun g => ?_)⟩
    · have g' : t = u := V.int.inj (of_decide_eq_true g)
      unfold mJoin at q
      rw [if_neg (fun z => z.2.2 g')] at q
      exact q H (Same.refl H)
    have g' : t ≠ u := fun z => g (decide_eq_true (congrArg V.int z))
    unfold mJoin mText at q
    rw [if_pos ⟨c', d', g'⟩] at q
    obtain ⟨et, hm⟩ := text_at t0 c'
    obtain ⟨eu, hu⟩ := text_at u0 d'
    have lt := lens _ hm
    have lu := lens _ hu
    refine ⟨.ref a, rfl, .int u, rfl, a, u, _, ts, rfl, ha, u0, d', few, fun r H1 k1 hr => ?_⟩
    refine ⟨.ref r, rfl, .int t, rfl, .ref a, rfl, .int t, rfl, a, _, t, _, rfl, rfl, SqT.of (k1 _ _ ha), et, .ref a, rfl, .int u, rfl, a, _, u, _, rfl, rfl, SqT.of (k1 _ _ ha), eu, _, _, rfl, rfl, by omega, ?_⟩
    exact ⟨r, t, _, _, rfl, hr, t0, by rw [List.length_set]; exact c', by rw [List.length_set]; exact few, fun g H2 k2 hg => q g H2 (k1.trans k2) hg⟩
abbrev sQTextsGone : Stmt := topS 22
theorem scQTextsGone : FnScope ["texts", "_"] ["texts", "_"] (defScope sQTextsGone) := ⟨rfl, rfl, rfl, by decide +kernel, rfl, by decide +kernel, by decide +kernel⟩
theorem ok_QTextsGone {f : Addr} {fd : FuncData} (F : Fun K "_texts_gone" "_texts_gone" sQTextsGone f fd)  (T : Glob mg) : FnOk P w K mg base CX0 1 f fd ["texts", "_"] spGone := by
  refine F.ok scQTextsGone (fun vs H Q E h => ?_) (fun cdv A outer s H vs Q E hr h => ?_)
  · obtain ⟨a, y, ts, rfl, _⟩ := h
    rfl
  · refine ⟨_, (pss_cons (ps_if (PW.pt (pw_or (pt_cmpR op_eq (pe_callB call_len_seq (by rfl) T.len PySem.boot_len (pa_cons (pv 0) pa_nil)) pe_int (nomark _)) (pw_or1 (pt_cmpR op_ne (pe_ix ix_tup (pv 0) (pe_un un_neg pe_int) (fun _ _ => rfl)) pe_str (nomark _)))))
      (pss_one (ps_ret pe_non))
      pss_nil)
      (pss_one (ps_ret (pe_slice sl_tupM (pv 0) po_none (po_some (pe_un un_neg pe_int)))))), ?_⟩
    obtain ⟨a, y, ts, rfl, ha, few, q⟩ := h
    refine ⟨.ref a, rfl, a, _, rfl, .inr (SqT.of ha), rfl, _, rfl, ite2 (fun c => ?_) (fun c => ?_)⟩
    · have c' : ts = [] := by
        have e := V.int.inj (of_decide_eq_true c)
        rw [List.length_map] at e
        exact List.eq_nil_of_length_eq_zero (by omega)
      subst c'
      exact q H (Same.refl H)
    have ne : ts ≠ [] := fun z => c (by rw [z]; rfl)
    have lp : 0 < ts.length := List.length_pos_iff.mpr ne
    have el : atI (ts.map V.str) (-1) = some (.str (ts.getLast ne)) := by
      have e1 : ixN (ts.map V.str).length (-1) = some (ts.length - 1) := by
        unfold ixN
        rw [if_neg (by decide), if_pos (by rw [List.length_map]; omega), List.length_map]
        congr 1
        omega
      unfold atI
      rw [e1, Option.bind_some, List.getElem?_map, List.getLast_eq_getElem, List.getElem?_eq_getElem (by omega)]
      rfl
    refine ⟨.ref a, rfl, _, rfl, a, _, _, _, rfl, rfl, SqT.of ha, el, rfl, _, rfl, ite2 (fun d => ?_) (fun d => ?_)⟩
    · have d' : ts.getLast ne ≠ Str.ofString "" := fun z => by
        rw [z, decide_eq_true rfl] at d
        exact absurd d (by decide)
      unfold mGone at q
      rw [if_neg (by rw [List.getLast?_eq_some_getLast ne]; exact fun z => d' (Option.some.inj z))] at q
      exact q H (Same.refl H)
    have d' : ts.getLast ne = Str.ofString "" := Classical.byContradiction fun z => d (by rw [decide_eq_false (fun w => z (V.str.inj w))]; rfl)
    unfold mGone at q
    rw [if_pos (by rw [List.getLast?_eq_some_getLast ne, d'])] at q
    refine ⟨.ref a, rfl, _, rfl, -1, rfl, a, _, rfl, ha, fun r H' k hr => q r H' k ?_⟩
    rw [hr]
    have es : cutV (ts.map V.str) none (some (-1)) = ts.dropLast.map V.str := by
      unfold cutV
      have e2 : HT.sIx (ts.map V.str).length (ts.map V.str).length (some (-1)) = ts.length - 1 := by
        show (if (-1 : Int) < 0 then ((-1 : Int) + ((ts.map V.str).length : Int)).toNat else min (-1 : Int).toNat (ts.map V.str).length) = _
        rw [if_pos (by decide), List.length_map]
        omega
      rw [e2]
      show (List.drop 0 (ts.map V.str)).take (ts.length - 1 - 0) = _
      rw [List.drop_zero, Nat.sub_zero, List.dropLast_eq_take, List.map_take]
    rw [es]
end
end LawK
set_option maxHeartbeats 4000000
namespace LawK
open PySem PySem.Spec PyProof.Rows L2 Ev
def posV : V → Bool
  | .int i => decide (0 < i)
  | _ => false
/-- whether a thing is a part of this kind -/
def partV (kd : Str) (x : V) : Bool := if kd = Str.ofString "number" then numV x else if kd = Str.ofString "many" then numV x && posV x else if kd = Str.ofString "word" then wordV x else sgV x
def spPart : Sp := fun vs H Q _ => ∃ (kd : Str) (x : V) (k : Kn), vs = [.str kd, x] ∧ Kd H x k ∧ Vs x ∧ Q (.bl (partV kd x)) H
def stretchV (ts : List Str) (t a m : V) : Bool := inV2 0 ((ts.length : Int) - 1) t && (match t with
  | .int i => inV2 0 ((mText ts i).length - 1) a && (match a with
    | .int j => inV2 1 ((mText ts i).length - j) m
    | _ => false)
  | _ => false)
def spStretch : Sp := fun vs H Q _ => ∃ (b : Addr) (ts : List Str) (t a m : V) (k1 k2 k3 : Kn), vs = [.ref b, t, a, m] ∧ H b = some (.tup (ts.map V.str)) ∧ ts.length ≤ 100 ∧ (∀ t ∈ ts, t.length ≤ 5000) ∧ Kd H t k1 ∧ Kd H a k2 ∧ Kd H m k3 ∧ Q (.bl (stretchV ts t a m)) H
theorem num_int {x : V} (h : numV x = true) : ∃ i, x = .int i ∧ 0 ≤ i := by
  cases x with
  | int i => exact ⟨i, rfl, of_decide_eq_true h⟩
  | non => cases h
  | bl b => cases h
  | str b => cases h
  | byt b => cases h
  | flt b => cases h
  | ref b => cases h
  | ty b => cases h
theorem in_int {x : V} {a b : Int} (h : inV2 a b x = true) : ∃ i, x = .int i ∧ a ≤ i ∧ i ≤ b := by
  cases x with
  | int i =>
    obtain ⟨h1, h2⟩ := Bool.and_eq_true_iff.mp (show (decide (a ≤ i) && decide (i ≤ b)) = true from h)
    exact ⟨i, rfl, of_decide_eq_true h1, of_decide_eq_true h2⟩
  | non => cases h
  | bl b => cases h
  | str b => cases h
  | byt b => cases h
  | flt b => cases h
  | ref b => cases h
  | ty b => cases h
section
variable {P : Program} {w : World} {K : PySem.W.Frag} {mg : Str → Option Value} {base : Heap}
abbrev sQIsPart : Stmt := topS 15
theorem scQIsPart : FnScope ["kind", "thing"] ["kind", "thing"] (defScope sQIsPart) := ⟨rfl, rfl, rfl, by decide +kernel, rfl, by decide +kernel, by decide +kernel⟩
theorem ok_QIsPart {f : Addr} {fd : FuncData} (F : Fun K "_is_part" "_is_part" sQIsPart f fd) {fPNumber : Addr} {fdPNumber : FuncData} (DPNumber : Dk P w K mg base "is_number" sPNumber ["thing"] 1 spNum fPNumber fdPNumber) {fPSigns : Addr} {fdPSigns : FuncData} (DPSigns : Dk P w K mg base "is_signs" sPSigns ["thing"] 1 spSg fPSigns fdPSigns) {fPWord : Addr} {fdPWord : FuncData} (DPWord : Dk P w K mg base "is_word" sPWord ["thing"] 2 spWd fPWord fdPWord) (T : Glob mg) : FnOk P w K mg base CX0 3 f fd ["kind", "thing"] spPart := by
  refine F.ok scQIsPart (fun vs H Q E h => ?_) (fun cdv A outer s H vs Q E hr h => ?_)
  · obtain ⟨kd, x, k, rfl, _⟩ := h
    rfl
  · refine ⟨_, (pss_cons (ps_if (pt_cmpR op_eq (pv 0) pe_str (nomark _))
      (pss_one (ps_ret (pe_call DPNumber.ok (hr.mono (by decide)) (by rfl) DPNumber.g DPNumber.F.kp DPNumber.b .nil pass0 (pa_cons (pv 1) pa_nil))))
      pss_nil)
      (pss_cons (ps_if (pt_cmpR op_eq (pv 0) pe_str (nomark _))
      (pss_one (ps_ret (pe_and (pe_call DPNumber.ok (hr.mono (by decide)) (by rfl) DPNumber.g DPNumber.F.kp DPNumber.b .nil pass0 (pa_cons (pv 1) pa_nil)) (pe_one (pe_cmpR op_gt (pv 1) pe_int (nomark _))))))
      pss_nil)
      (pss_cons (ps_if (pt_cmpR op_eq (pv 0) pe_str (nomark _))
      (pss_one (ps_ret (pe_call DPWord.ok (hr.mono (by decide)) (by rfl) DPWord.g DPWord.F.kp DPWord.b .nil pass0 (pa_cons (pv 1) pa_nil))))
      pss_nil)
      (pss_one (ps_ret (pe_call DPSigns.ok (hr.mono (by decide)) (by rfl) DPSigns.g DPSigns.F.kp DPSigns.b .nil pass0 (pa_cons (pv 1) pa_nil))))))), ?_⟩
    obtain ⟨kd, x, k, rfl, hk, hv, q⟩ := h
    have sne : ∀ {a b : Str}, ¬ decide (V.str a = V.str b) = true → a ≠ b := fun g z => g (decide_eq_true (congrArg V.str z))
    refine ⟨.str kd, rfl, rfl, _, rfl, ite2 (fun e => ?_) (fun e => ?_)⟩
    · have e' := V.str.inj (of_decide_eq_true e)
      unfold partV at q
      rw [if_pos e'] at q
      exact ⟨x, rfl, x, k, rfl, hk, q⟩
    have n1 := sne e
    refine ⟨.str kd, rfl, rfl, _, rfl, ite2 (fun e => ?_) (fun e => ?_)⟩
    · have e' := V.str.inj (of_decide_eq_true e)
      unfold partV at q
      rw [if_neg n1, if_pos e'] at q
      refine ⟨x, rfl, x, k, rfl, hk, _, rfl, ite2 (fun c => ?_) (fun c => ?_)⟩
      · rw [c, Bool.true_and] at q
        obtain ⟨i, rfl, _⟩ := num_int c
        exact ⟨.int i, rfl, _, _, rfl, rfl, q⟩
      · have c' : numV x = false := by simpa using c
        rw [c', Bool.false_and] at q
        exact q
    have n2 := sne e
    refine ⟨.str kd, rfl, rfl, _, rfl, ite2 (fun e => ?_) (fun e => ?_)⟩
    · have e' := V.str.inj (of_decide_eq_true e)
      unfold partV at q
      rw [if_neg n1, if_neg n2, if_pos e'] at q
      exact ⟨x, rfl, x, k, rfl, hk, hv, q⟩
    have n3 := sne e
    unfold partV at q
    rw [if_neg n1, if_neg n2, if_neg n3] at q
    exact ⟨x, rfl, x, k, rfl, hk, hv, q⟩
end
end LawK
set_option maxHeartbeats 4000000
namespace Ev
open PySem PySem.Spec PyProof.Rows L2
/-- the entries of a written dict with texts as keys -/
inductive Ents (P : Params) : List DictEntry → List (Str × V) → Prop
  | nil : Ents P [] []
  | cons {x : Str} {t : Tok} {u : Value} {v : V} {es : List DictEntry} {kvs : List (Str × V)} (r : RelV v u) (h : Ents P es kvs) : Ents P (⟨PyData.keyHash P x, .str x t, u⟩ :: es) ((x, v) :: kvs)
/-- a dict of the module at a -/
structure KD (K : PySem.W.Frag) (w : World) (a : Addr) (kvs : List (Str × V)) : Prop where
  lk : ∃ (es : List DictEntry) (n : Nat), K.lookup a = some ⟨.type "dict", none, .dict es.toArray n, #[]⟩ ∧ Ents w.params es kvs
  ne : (a == sysModules) = false
theorem Ents.lit {P : Params} {es : List DictEntry} {kvs : List (Str × V)} (h : Ents P es kvs) : PySem.W.KeysLit P es := by
  induction h with
  | nil => trivial
  | cons r h ih => exact ⟨⟨_, _, rfl, rfl⟩, ih⟩
theorem Ents.find {P : Params} {es : List DictEntry} {kvs : List (Str × V)} (h : Ents P es kvs) (z : Str) :
    (kvs.lookup z = none ∧ findBy Value.isStrOf es.toArray z = none) ∨ ∃ v u, kvs.lookup z = some v ∧ findBy Value.isStrOf es.toArray z = some u ∧ RelV v u := by
  induction h with
  | nil => exact .inl ⟨rfl, rfl⟩
  | @cons x t u v es kvs r h ih =>
    unfold findBy at ih ⊢
    rw [List.find?_toArray, List.find?_cons, List.lookup_cons]
    by_cases e : z = x
    · subst e
      have e1 : Value.isStrOf z (.str z t) = true := by simp [Value.isStrOf]
      rw [e1, beq_self_eq_true]
      exact .inr ⟨v, u, rfl, rfl, r⟩
    · have e1 : Value.isStrOf z (.str x t) = false := by
        cases q : Value.isStrOf z (.str x t) with
        | false => rfl
        | true =>
          obtain ⟨t', q⟩ := Value.isStrOf_shape q
          injection q with q1 _
          exact absurd q1.symm e
      rw [e1, beq_false_of_ne e]
      rw [List.find?_toArray] at ih
      exact ih
theorem kd_mk {K : PySem.W.Frag} {w : World} {a : Addr} {es : List DictEntry} {n : Nat} {kvs : List (Str × V)} (l : K.lookup a = some ⟨.type "dict", none, .dict es.toArray n, #[]⟩) (ne : (a == sysModules) = false) (h : Ents w.params es kvs) : KD K w a kvs := ⟨⟨es, n, l, h⟩, ne⟩
def rNotInKD (K : PySem.W.Frag) (w : World) : R2 := fun x y H Q => ∃ a z kvs, x = .str z ∧ y = .ref a ∧ KD K w a kvs ∧ Q (.bl (!(kvs.lookup z).isSome)) H
def rIxKD (K : PySem.W.Frag) (w : World) : R2 := fun x y H Q => ∃ a z kvs v, x = .ref a ∧ y = .str z ∧ KD K w a kvs ∧ kvs.lookup z = some v ∧ Q v H
section
variable {X : Cx}
theorem op_notInKD : OpR X (compareOp .NotIn) (rNotInKD X.K X.w) := by
  intro pins s σ H x y v u Q I rx ry h
  obtain ⟨a, z, kvs, rfl, rfl, ⟨⟨es, n, hl, en⟩, ne⟩, q⟩ := h
  obtain ⟨t, rfl⟩ := (show ∃ t, v = Value.str z t from rx)
  obtain rfl : u = Value.ref a := ry
  have hm := PySem.W.mapOf_K (prog := X.prog) (w := X.w) I.kIn hl en.lit
  refine wpAny_notIn_of (strKind_is X.prog X.w z t) ne hm ⟨.bl (!(findBy Value.isStrOf es.toArray z).isSome), H, I.tok _, rfl, ?_⟩
  rcases en.find z with ⟨e1, e2⟩ | ⟨v0, u0, e1, e2, _⟩
  · rw [e1] at q
    rw [e2]
    exact q
  · rw [e1] at q
    rw [e2]
    exact q
theorem ix_KD : IxR X (rIxKD X.K X.w) := by
  intro value slice pins s σ H x y v u Q I rx ry h hs
  obtain ⟨a, z, kvs, r, rfl, rfl, ⟨⟨es, n, hl, en⟩, ne⟩, e, q⟩ := h
  obtain rfl : v = Value.ref a := rx
  obtain ⟨t, rfl⟩ := ry
  have hm := PySem.W.mapOf_K (prog := X.prog) (w := X.w) I.kIn hl en.lit
  rcases en.find z with ⟨e1, e2⟩ | ⟨v0, u0, e1, e2, ru⟩
  · rw [e1] at e
    cases e
  · rw [e1] at e
    cases e
    exact tail_any hm.typeIs slot_dict_getitem.lookup (wpAny_getItem_of (strKind_is X.prog X.w z t) hm e2 ⟨r, H, I.tok _, ru, q⟩) hs
end
/-- a local name that holds one of several defs -/
def tCallR (i : Nat) (S : Addr → Sp → Prop) (t : TA) : TE := fun σ H Q => ∃ f sp, σ[i]? = some (some (.ref f)) ∧ S f sp ∧ t σ H fun vs H1 => sp vs H1 Q (fun _ _ _ => False)
theorem pe_callR {X : Cx} {k i : Nat} {x : Str} {p pos : Pos} {e : Expr} {es : List Expr} {t : TA} {S : Addr → Sp → Prop} (A : ∀ f sp, S f sp → Held X.prog X.w X.K X.mg X.base k f sp) (hr : Room k X.A) (hN : X.N[i]? = some x) (hv : Vis X.env.scope x) (ha : PA X (e :: es) t)
    (hdb : (x == ("__debug__" : Str)) = false := by decide) (hcd : (x == ("__classdict__" : Str)) = false := by decide)
    (he : starEach (e :: es) X.env = (false, eval e X.env) :: starEach es X.env := by rfl) (hpl : (backTo pos (starEach es X.env)).any (·.1) = false := by rfl) : PE X (.Call (.Name x p) (e :: es) [] pos) (tCallR i S t) := by
  refine ⟨fun pins s σ H Q I h => ?_⟩
  obtain ⟨f, sp, hs, hS, ht⟩ := h
  obtain ⟨fd, ps, F, hk, hb⟩ := (A f sp hS).ex
  refine (pe_callL (i := i) (f := f) (sp := sp) (dvs := []) (E := fun _ _ _ => False) F hr hN hv hk hb .nil (fun _ _ _ _ _ _ _ z => z.elim) ha hdb hcd he hpl).run pins s σ H Q I ⟨hs, ?_⟩
  have e0 : (fun (vs : List V) (H1 : Hp) => sp (vs ++ []) H1 Q (fun _ _ _ => False)) = fun vs H1 => sp vs H1 Q (fun _ _ _ => False) := by
    funext vs H1
    rw [List.append_nil]
  show t σ H (fun vs H1 => sp (vs ++ []) H1 Q (fun _ _ _ => False))
  rw [e0]
  exact ht
end Ev
set_option maxHeartbeats 4000000
namespace LawK
open PySem PySem.Spec PyProof.Rows L2 Ev
/-- the edits of the document -/
inductive Ed
  | put (t a : Int) (z : Str)
  | cut (t a n : Int)
  | change (t a : Int) (z : Str)
  | come (z : Str)
  | go
  | split (t a : Int)
  | join (t u : Int)
  | move (t a n u p : Int)
def Ed.vals : Ed → List V
  | .put t a z => [.str (Str.ofString "put"), .int t, .int a, .str z]
  | .cut t a n => [.str (Str.ofString "cut"), .int t, .int a, .int n]
  | .change t a z => [.str (Str.ofString "change"), .int t, .int a, .str z]
  | .come z => [.str (Str.ofString "come"), .str z]
  | .go => [.str (Str.ofString "go")]
  | .split t a => [.str (Str.ofString "split"), .int t, .int a]
  | .join t u => [.str (Str.ofString "join"), .int t, .int u]
  | .move t a n u p => [.str (Str.ofString "move"), .int t, .int a, .int n, .int u, .int p]
/-- numbers, words and signs in their places -/
def Ed.ok : Ed → Prop
  | .put t a z => 0 ≤ t ∧ 0 ≤ a ∧ wordV (.str z) = true
  | .cut t a n => 0 ≤ t ∧ 0 ≤ a ∧ 0 < n
  | .change t a z => 0 ≤ t ∧ 0 ≤ a ∧ wordV (.str z) = true
  | .come z => sgB z = true
  | .go => True
  | .split t a => 0 ≤ t ∧ 0 ≤ a
  | .join t u => 0 ≤ t ∧ 0 ≤ u
  | .move t a n u p => 0 ≤ t ∧ 0 ≤ a ∧ 0 < n ∧ 0 ≤ u ∧ 0 ≤ p
/-- the texts behind it, none where there is no room -/
def Ed.mk (ts : List Str) : Ed → Option (List Str)
  | .put t a z => mPut ts t a z
  | .cut t a n => mCut ts t a n
  | .change t a z => mChange ts t a z
  | .come z => some (ts ++ [z])
  | .go => mGone ts
  | .split t a => mSplit ts t a
  | .join t u => mJoin ts t u
  | .move t a n u p => mMove ts t a n u p
/-- the law's form -/
def Ed.fits (ts : List Str) : Ed → Prop
  | .put t a z => 0 ≤ t ∧ t < ts.length ∧ wordV (.str z) = true ∧ 0 ≤ a ∧ a ≤ (mText ts t).length
  | .cut t a n => 0 ≤ t ∧ t < ts.length ∧ 0 ≤ a ∧ 1 ≤ n ∧ a + n ≤ (mText ts t).length
  | .change t a z => wordV (.str z) = true ∧ 0 ≤ t ∧ t < ts.length ∧ 0 ≤ a ∧ a + (z.length : Int) ≤ (mText ts t).length
  | .come z => sgB z = true
  | .go => ts.getLast? = some (Str.ofString "")
  | .split t a => 0 ≤ t ∧ t < ts.length ∧ 0 ≤ a ∧ a ≤ (mText ts t).length
  | .join t u => 0 ≤ t ∧ t < ts.length ∧ 0 ≤ u ∧ u < ts.length ∧ t ≠ u
  | .move t a n u p => 0 ≤ t ∧ t < ts.length ∧ 0 ≤ a ∧ 1 ≤ n ∧ a + n ≤ (mText ts t).length ∧ 0 ≤ u ∧ u < ts.length ∧ 0 ≤ p ∧ p ≤ (mText ts u).length - n * (if u = t then 1 else 0)
def HasForm (o : Option (List V)) : Prop := ∃ e : Ed, o = some e.vals ∧ e.ok
def edOf : List V → Option Ed
  | [.str w, .int t, .int a, .str z] => if w = Str.ofString "put" then some (.put t a z) else if w = Str.ofString "change" then some (.change t a z) else none
  | [.str w, .int t, .int a, .int n] => if w = Str.ofString "cut" then some (.cut t a n) else none
  | [.str w, .str z] => if w = Str.ofString "come" then some (.come z) else none
  | [.str w] => if w = Str.ofString "go" then some .go else none
  | [.str w, .int t, .int a] => if w = Str.ofString "split" then some (.split t a) else if w = Str.ofString "join" then some (.join t a) else none
  | [.str w, .int t, .int a, .int n, .int u, .int p] => if w = Str.ofString "move" then some (.move t a n u p) else none
  | _ => none
theorem edOf_vals (e : Ed) : edOf e.vals = some e := by
  cases e with
  | put t a z => simp only [Ed.vals, edOf, if_true]
  | cut t a n => simp only [Ed.vals, edOf, if_true]
  | change t a z =>
    simp only [Ed.vals, edOf, if_true]
    exact if_neg (by decide +kernel)
  | come z => simp only [Ed.vals, edOf, if_true]
  | go => simp only [Ed.vals, edOf, if_true]
  | split t a => simp only [Ed.vals, edOf, if_true]
  | join t u =>
    simp only [Ed.vals, edOf, if_true]
    exact if_neg (by decide +kernel)
  | move t a n u p => simp only [Ed.vals, edOf, if_true]
theorem vals_inj {e e' : Ed} (h : e.vals = e'.vals) : e = e' := by
  have h1 := edOf_vals e
  rw [h, edOf_vals e'] at h1
  exact (Option.some.inj h1).symm
abbrev kNum : Str := Str.ofString "number"
abbrev kMany : Str := Str.ofString "many"
abbrev kWord : Str := Str.ofString "word"
abbrev kSigns : Str := Str.ofString "signs"
def kindsOf (z : Str) : Option (List Str) :=
  if z = Str.ofString "put" then some [kNum, kNum, kWord] else if z = Str.ofString "cut" then some [kNum, kNum, kMany] else if z = Str.ofString "change" then some [kNum, kNum, kWord] else
  if z = Str.ofString "come" then some [kSigns] else if z = Str.ofString "go" then some [] else if z = Str.ofString "split" then some [kNum, kNum] else if z = Str.ofString "join" then some [kNum, kNum] else
  if z = Str.ofString "move" then some [kNum, kNum, kMany, kNum, kNum] else none
theorem part_num (x : V) : partV kNum x = numV x := if_pos rfl
theorem part_many (x : V) : partV kMany x = (numV x && posV x) := (if_neg (by decide +kernel)).trans (if_pos rfl)
theorem part_word (x : V) : partV kWord x = wordV x := (if_neg (by decide +kernel)).trans ((if_neg (by decide +kernel)).trans (if_pos rfl))
theorem part_signs (x : V) : partV kSigns x = sgV x := (if_neg (by decide +kernel)).trans ((if_neg (by decide +kernel)).trans (if_neg (by decide +kernel)))
def allP (ks : List Str) (ps : List V) : Bool := (List.zipWith partV ks ps).all id
theorem word_str {x : V} (h : wordV x = true) : ∃ z, x = .str z := by
  cases x with
  | str z => exact ⟨z, rfl⟩
  | non => cases h
  | bl b => cases h
  | int b => cases h
  | byt b => cases h
  | flt b => cases h
  | ref b => cases h
  | ty b => cases h
theorem num_of {i : Int} : numV (.int i) = true ↔ 0 ≤ i := ⟨fun h => of_decide_eq_true h, fun h => decide_eq_true h⟩
theorem pos_of {i : Int} : posV (.int i) = true ↔ 0 < i := ⟨fun h => of_decide_eq_true h, fun h => decide_eq_true h⟩
theorem len2 {α : Type} {ps : List α} (h : ps.length = 2) : ∃ a b, ps = [a, b] := by
  match ps, h with
  | [a, b], _ => exact ⟨a, b, rfl⟩
theorem len3 {α : Type} {ps : List α} (h : ps.length = 3) : ∃ a b c, ps = [a, b, c] := by
  match ps, h with
  | [a, b, c], _ => exact ⟨a, b, c, rfl⟩
theorem len1 {α : Type} {ps : List α} (h : ps.length = 1) : ∃ a, ps = [a] := by
  match ps, h with
  | [a], _ => exact ⟨a, rfl⟩
theorem len5' {α : Type} {ps : List α} (h : ps.length = 5) : ∃ a b c d e, ps = [a, b, c, d, e] := by
  match ps, h with
  | [a, b, c, d, e], _ => exact ⟨a, b, c, d, e, rfl⟩
theorem form_of {z : Str} {ps : List V} {ks : List Str} (h : kindsOf z = some ks) (hl : ps.length = ks.length) (ha : allP ks ps = true) : HasForm (some (.str z :: ps)) := by
  unfold kindsOf at h
  by_cases c1 : z = Str.ofString "put"
  · rw [if_pos c1] at h
    cases h
    obtain ⟨a, b, c, rfl⟩ := len3 hl
    simp only [allP, List.zipWith_cons_cons, List.zipWith_nil_left, List.all_cons, List.all_nil, id, Bool.and_true, part_num, part_word, part_many, part_signs, Bool.and_eq_true] at ha
    obtain ⟨i, rfl, hi⟩ := num_int ha.1
    obtain ⟨j, rfl, hj⟩ := num_int ha.2.1
    obtain ⟨y, rfl⟩ := word_str ha.2.2
    exact ⟨.put i j y, by rw [c1]; rfl, hi, hj, ha.2.2⟩
  rw [if_neg c1] at h
  by_cases c2 : z = Str.ofString "cut"
  · rw [if_pos c2] at h
    cases h
    obtain ⟨a, b, c, rfl⟩ := len3 hl
    simp only [allP, List.zipWith_cons_cons, List.zipWith_nil_left, List.all_cons, List.all_nil, id, Bool.and_true, part_num, part_word, part_many, part_signs, Bool.and_eq_true] at ha
    obtain ⟨i, rfl, hi⟩ := num_int ha.1
    obtain ⟨j, rfl, hj⟩ := num_int ha.2.1
    obtain ⟨n, rfl, hn⟩ := num_int ha.2.2.1
    exact ⟨.cut i j n, by rw [c2]; rfl, hi, hj, pos_of.mp ha.2.2.2⟩
  rw [if_neg c2] at h
  by_cases c3 : z = Str.ofString "change"
  · rw [if_pos c3] at h
    cases h
    obtain ⟨a, b, c, rfl⟩ := len3 hl
    simp only [allP, List.zipWith_cons_cons, List.zipWith_nil_left, List.all_cons, List.all_nil, id, Bool.and_true, part_num, part_word, part_many, part_signs, Bool.and_eq_true] at ha
    obtain ⟨i, rfl, hi⟩ := num_int ha.1
    obtain ⟨j, rfl, hj⟩ := num_int ha.2.1
    obtain ⟨y, rfl⟩ := word_str ha.2.2
    exact ⟨.change i j y, by rw [c3]; rfl, hi, hj, ha.2.2⟩
  rw [if_neg c3] at h
  by_cases c4 : z = Str.ofString "come"
  · rw [if_pos c4] at h
    cases h
    obtain ⟨a, rfl⟩ := len1 hl
    simp only [allP, List.zipWith_cons_cons, List.zipWith_nil_left, List.all_cons, List.all_nil, id, Bool.and_true, part_num, part_word, part_many, part_signs, Bool.and_eq_true] at ha
    obtain ⟨y, rfl⟩ := sg_str ha
    exact ⟨.come y, by rw [c4]; rfl, ha⟩
  rw [if_neg c4] at h
  by_cases c5 : z = Str.ofString "go"
  · rw [if_pos c5] at h
    cases h
    obtain rfl := List.length_eq_zero_iff.mp hl
    exact ⟨.go, by rw [c5]; rfl, trivial⟩
  rw [if_neg c5] at h
  by_cases c6 : z = Str.ofString "split"
  · rw [if_pos c6] at h
    cases h
    obtain ⟨a, b, rfl⟩ := len2 hl
    simp only [allP, List.zipWith_cons_cons, List.zipWith_nil_left, List.all_cons, List.all_nil, id, Bool.and_true, part_num, part_word, part_many, part_signs, Bool.and_eq_true] at ha
    obtain ⟨i, rfl, hi⟩ := num_int ha.1
    obtain ⟨j, rfl, hj⟩ := num_int ha.2
    exact ⟨.split i j, by rw [c6]; rfl, hi, hj⟩
  rw [if_neg c6] at h
  by_cases c7 : z = Str.ofString "join"
  · rw [if_pos c7] at h
    cases h
    obtain ⟨a, b, rfl⟩ := len2 hl
    simp only [allP, List.zipWith_cons_cons, List.zipWith_nil_left, List.all_cons, List.all_nil, id, Bool.and_true, part_num, part_word, part_many, part_signs, Bool.and_eq_true] at ha
    obtain ⟨i, rfl, hi⟩ := num_int ha.1
    obtain ⟨j, rfl, hj⟩ := num_int ha.2
    exact ⟨.join i j, by rw [c7]; rfl, hi, hj⟩
  rw [if_neg c7] at h
  by_cases c8 : z = Str.ofString "move"
  · rw [if_pos c8] at h
    cases h
    obtain ⟨a, b, c, d, e, rfl⟩ := len5' hl
    simp only [allP, List.zipWith_cons_cons, List.zipWith_nil_left, List.all_cons, List.all_nil, id, Bool.and_true, part_num, part_word, part_many, part_signs, Bool.and_eq_true] at ha
    obtain ⟨i, rfl, hi⟩ := num_int ha.1
    obtain ⟨j, rfl, hj⟩ := num_int ha.2.1
    obtain ⟨n, rfl, hn⟩ := num_int ha.2.2.1.1
    obtain ⟨u, rfl, hu⟩ := num_int ha.2.2.2.1
    obtain ⟨p, rfl, hp⟩ := num_int ha.2.2.2.2
    exact ⟨.move i j n u p, by rw [c8]; rfl, hi, hj, pos_of.mp ha.2.2.1.2, hu, hp⟩
  rw [if_neg c8] at h
  cases h
theorem form_kinds {e : Ed} (h : e.ok) : ∃ z ps ks, e.vals = .str z :: ps ∧ kindsOf z = some ks ∧ ps.length = ks.length ∧ allP ks ps = true := by
  cases e with
  | put t a z => exact ⟨_, _, [kNum, kNum, kWord], rfl, by decide +kernel, rfl, by simp only [allP, List.zipWith_cons_cons, List.zipWith_nil_left, List.all_cons, List.all_nil, id, part_num, part_word, num_of.mpr h.1, num_of.mpr h.2.1, h.2.2]; rfl⟩
  | cut t a n => exact ⟨_, _, [kNum, kNum, kMany], rfl, by decide +kernel, rfl, by simp only [allP, List.zipWith_cons_cons, List.zipWith_nil_left, List.all_cons, List.all_nil, id, part_num, part_many, num_of.mpr h.1, num_of.mpr h.2.1, num_of.mpr (Int.le_of_lt h.2.2), pos_of.mpr h.2.2]; rfl⟩
  | change t a z => exact ⟨_, _, [kNum, kNum, kWord], rfl, by decide +kernel, rfl, by simp only [allP, List.zipWith_cons_cons, List.zipWith_nil_left, List.all_cons, List.all_nil, id, part_num, part_word, num_of.mpr h.1, num_of.mpr h.2.1, h.2.2]; rfl⟩
  | come z =>
    have h' : sgV (.str z) = true := h
    exact ⟨_, _, [kSigns], rfl, by decide +kernel, rfl, by simp only [allP, List.zipWith_cons_cons, List.zipWith_nil_left, List.all_cons, List.all_nil, id, part_signs, h']; rfl⟩
  | go => exact ⟨_, _, [], rfl, by decide +kernel, rfl, rfl⟩
  | split t a => exact ⟨_, _, [kNum, kNum], rfl, by decide +kernel, rfl, by simp only [allP, List.zipWith_cons_cons, List.zipWith_nil_left, List.all_cons, List.all_nil, id, part_num, num_of.mpr h.1, num_of.mpr h.2]; rfl⟩
  | join t u => exact ⟨_, _, [kNum, kNum], rfl, by decide +kernel, rfl, by simp only [allP, List.zipWith_cons_cons, List.zipWith_nil_left, List.all_cons, List.all_nil, id, part_num, num_of.mpr h.1, num_of.mpr h.2]; rfl⟩
  | move t a n u p => exact ⟨_, _, [kNum, kNum, kMany, kNum, kNum], rfl, by decide +kernel, rfl, by simp only [allP, List.zipWith_cons_cons, List.zipWith_nil_left, List.all_cons, List.all_nil, id, part_num, part_many, num_of.mpr h.1, num_of.mpr h.2.1, num_of.mpr (Int.le_of_lt h.2.2.1), pos_of.mpr h.2.2.1, num_of.mpr h.2.2.2.1, num_of.mpr h.2.2.2.2]; rfl⟩
theorem no_form_kinds {z : Str} {ps : List V} (h : kindsOf z = none) : ¬ HasForm (some (.str z :: ps)) := fun ⟨e, he, ho⟩ => by
  obtain ⟨z', ps', ks, e1, e2, _⟩ := form_kinds ho
  rw [e1] at he
  injection he with he
  injection he with h1 h2
  injection h1 with h1
  rw [h1, e2] at h
  cases h
theorem form_iff {z : Str} {ps : List V} {ks : List Str} (h : kindsOf z = some ks) : HasForm (some (.str z :: ps)) ↔ ps.length = ks.length ∧ allP ks ps = true := by
  constructor
  · rintro ⟨e, he, ho⟩
    obtain ⟨z', ps', ks', e1, e2, e3, e4⟩ := form_kinds ho
    rw [e1] at he
    injection he with he
    injection he with h1 h2
    injection h1 with h1
    rw [h1, e2] at h
    cases h
    rw [h2]
    exact ⟨e3, e4⟩
  · exact fun ⟨h1, h2⟩ => form_of h h1 h2
theorem form_str {x : V} {ps : List V} (h : HasForm (some (x :: ps))) : ∃ z, x = .str z := by
  obtain ⟨e, he, ho⟩ := h
  obtain ⟨z', ps', ks', e1, _⟩ := form_kinds ho
  rw [e1] at he
  injection he with he
  injection he with h1 h2
  exact ⟨z', h1⟩
theorem form_nil : ¬ HasForm (some []) := fun ⟨e, he, ho⟩ => by
  obtain ⟨z', ps', ks', e1, _⟩ := form_kinds ho
  rw [e1] at he
  cases he
theorem form_none : ¬ HasForm none := fun ⟨e, he, ho⟩ => by cases he
/-- the law's form and the program's -/
theorem fits_iff {ts : List Str} {e : Ed} : e.fits ts ↔ e.ok ∧ ∃ us, e.mk ts = some us := by
  cases e with
  | put t a z =>
    show (0 ≤ t ∧ t < ts.length ∧ wordV (.str z) = true ∧ 0 ≤ a ∧ a ≤ (mText ts t).length) ↔ (0 ≤ t ∧ 0 ≤ a ∧ wordV (.str z) = true) ∧ ∃ us, mPut ts t a z = some us
    unfold mPut
    by_cases c : t < ts.length ∧ a ≤ (mText ts t).length
    · rw [if_pos c]
      exact ⟨fun ⟨h1, h2, h3, h4, h5⟩ => ⟨⟨h1, h4, h3⟩, _, rfl⟩, fun ⟨⟨h1, h4, h3⟩, _⟩ => ⟨h1, c.1, h3, h4, c.2⟩⟩
    · rw [if_neg c]
      exact ⟨fun ⟨h1, h2, h3, h4, h5⟩ => absurd ⟨h2, h5⟩ c, fun ⟨_, us, h⟩ => by cases h⟩
  | cut t a n =>
    show (0 ≤ t ∧ t < ts.length ∧ 0 ≤ a ∧ 1 ≤ n ∧ a + n ≤ (mText ts t).length) ↔ (0 ≤ t ∧ 0 ≤ a ∧ 0 < n) ∧ ∃ us, mCut ts t a n = some us
    unfold mCut
    by_cases c : t < ts.length ∧ a + n ≤ (mText ts t).length
    · rw [if_pos c]
      exact ⟨fun ⟨h1, h2, h3, h4, h5⟩ => ⟨⟨h1, h3, h4⟩, _, rfl⟩, fun ⟨⟨h1, h4, h3⟩, _⟩ => ⟨h1, c.1, h4, h3, c.2⟩⟩
    · rw [if_neg c]
      exact ⟨fun ⟨h1, h2, h3, h4, h5⟩ => absurd ⟨h2, h5⟩ c, fun ⟨_, us, h⟩ => by cases h⟩
  | change t a z =>
    show (wordV (.str z) = true ∧ 0 ≤ t ∧ t < ts.length ∧ 0 ≤ a ∧ a + (z.length : Int) ≤ (mText ts t).length) ↔ (0 ≤ t ∧ 0 ≤ a ∧ wordV (.str z) = true) ∧ ∃ us, mChange ts t a z = some us
    unfold mChange
    by_cases c : t < ts.length ∧ a + (z.length : Int) ≤ (mText ts t).length
    · rw [if_pos c]
      exact ⟨fun ⟨h3, h1, h2, h4, h5⟩ => ⟨⟨h1, h4, h3⟩, _, rfl⟩, fun ⟨⟨h1, h4, h3⟩, _⟩ => ⟨h3, h1, c.1, h4, c.2⟩⟩
    · rw [if_neg c]
      exact ⟨fun ⟨h1, h2, h3, h4, h5⟩ => absurd ⟨h3, h5⟩ c, fun ⟨_, us, h⟩ => by cases h⟩
  | come z => exact ⟨fun h => ⟨h, _, rfl⟩, fun h => h.1⟩
  | go =>
    show ts.getLast? = some (Str.ofString "") ↔ True ∧ ∃ us, mGone ts = some us
    unfold mGone
    by_cases c : ts.getLast? = some (Str.ofString "")
    · rw [if_pos c]
      exact ⟨fun _ => ⟨trivial, _, rfl⟩, fun _ => c⟩
    · rw [if_neg c]
      exact ⟨fun h => absurd h c, fun ⟨_, us, h⟩ => by cases h⟩
  | split t a =>
    show (0 ≤ t ∧ t < ts.length ∧ 0 ≤ a ∧ a ≤ (mText ts t).length) ↔ (0 ≤ t ∧ 0 ≤ a) ∧ ∃ us, mSplit ts t a = some us
    unfold mSplit
    by_cases c : t < ts.length ∧ a ≤ (mText ts t).length
    · rw [if_pos c]
      exact ⟨fun ⟨h1, h2, h4, h5⟩ => ⟨⟨h1, h4⟩, _, rfl⟩, fun ⟨⟨h1, h4⟩, _⟩ => ⟨h1, c.1, h4, c.2⟩⟩
    · rw [if_neg c]
      exact ⟨fun ⟨h1, h2, h3, h5⟩ => absurd ⟨h2, h5⟩ c, fun ⟨_, us, h⟩ => by cases h⟩
  | join t u =>
    show (0 ≤ t ∧ t < ts.length ∧ 0 ≤ u ∧ u < ts.length ∧ t ≠ u) ↔ (0 ≤ t ∧ 0 ≤ u) ∧ ∃ us, mJoin ts t u = some us
    unfold mJoin
    by_cases c : t < ts.length ∧ u < ts.length ∧ t ≠ u
    · rw [if_pos c]
      exact ⟨fun ⟨h1, h2, h3, h4, h5⟩ => ⟨⟨h1, h3⟩, _, rfl⟩, fun ⟨⟨h1, h4⟩, _⟩ => ⟨h1, c.1, h4, c.2.1, c.2.2⟩⟩
    · rw [if_neg c]
      exact ⟨fun ⟨h1, h2, h3, h4, h5⟩ => absurd ⟨h2, h4, h5⟩ c, fun ⟨_, us, h⟩ => by cases h⟩
  | move t a n u p =>
    show (0 ≤ t ∧ t < ts.length ∧ 0 ≤ a ∧ 1 ≤ n ∧ a + n ≤ (mText ts t).length ∧ 0 ≤ u ∧ u < ts.length ∧ 0 ≤ p ∧ p ≤ (mText ts u).length - n * (if u = t then 1 else 0)) ↔ (0 ≤ t ∧ 0 ≤ a ∧ 0 < n ∧ 0 ≤ u ∧ 0 ≤ p) ∧ ∃ us, mMove ts t a n u p = some us
    unfold mMove mCut
    by_cases c : t < ts.length ∧ a + n ≤ (mText ts t).length
    · rw [if_pos c, Option.bind_some]
      unfold mPut
      rw [List.length_set]
      have key : 0 ≤ t → 0 ≤ a → 0 < n → 0 ≤ u → u < ts.length → ((mText (ts.set t.toNat (cutS (mText ts t) none (some a) ++ cutS (mText ts t) (some (a + n)) none)) u).length : Int) = (mText ts u).length - n * (if u = t then 1 else 0) := fun h1 h2 h3 h4 h5 => by
        by_cases e : u = t
        · subst e
          rw [if_pos rfl]
          have e1 : mText (ts.set u.toNat (cutS (mText ts u) none (some a) ++ cutS (mText ts u) (some (a + n)) none)) u = cutS (mText ts u) none (some a) ++ cutS (mText ts u) (some (a + n)) none := by
            show (ts.set u.toNat _).getD u.toNat _ = _
            rw [List.getD_eq_getElem?_getD, List.getElem?_set_self (by omega)]
            rfl
          rw [e1, app_len, len_S, len_S (cutS _ (some (a + n)) none), cutS_to h2, cutS_from (by omega), List.length_take, List.length_drop, ← len_S]
          have := c.2
          omega
        · rw [if_neg e]
          have e1 : mText (ts.set t.toNat (cutS (mText ts t) none (some a) ++ cutS (mText ts t) (some (a + n)) none)) u = mText ts u := by
            show (ts.set t.toNat _).getD u.toNat _ = ts.getD u.toNat _
            rw [List.getD_eq_getElem?_getD, List.getD_eq_getElem?_getD, List.getElem?_set_ne (by omega)]
          rw [e1]
          omega
      constructor
      · rintro ⟨h1, h2, h3, h4, h5, h6, h7, h8, h9⟩
        refine ⟨⟨h1, h3, h4, h6, h8⟩, ?_⟩
        rw [if_pos ⟨h7, by rw [key h1 h3 h4 h6 h7]; exact h9⟩]
        exact ⟨_, rfl⟩
      · rintro ⟨⟨h1, h3, h4, h6, h8⟩, us, h⟩
        by_cases d : u < ts.length ∧ p ≤ ((mText (ts.set t.toNat (cutS (mText ts t) none (some a) ++ cutS (mText ts t) (some (a + n)) none)) u).length : Int)
        · exact ⟨h1, c.1, h3, h4, c.2, h6, d.1, h8, by rw [← key h1 h3 h4 h6 d.1]; exact d.2⟩
        · rw [if_neg d] at h
          cases h
    · rw [if_neg c]
      exact ⟨fun ⟨h1, h2, h3, h4, h5, _⟩ => absurd ⟨h2, h5⟩ c, fun ⟨_, us, h⟩ => by cases h⟩
/-- texts of a library -/
structure Good (us : List Str) : Prop where
  few : us.length ≤ 8
  sg : ∀ t ∈ us, sgB t = true
  sum : ((us.map V.str).map slen).sum ≤ 2000
theorem Good.bad {us : List Str} (h : Good us) : badOf (some (us.map V.str)) = .non := bad4 (by rw [List.length_map]; have := h.few; omega) (fun c hc => by obtain ⟨t, ht, rfl⟩ := List.mem_map.mp hc; exact h.sg t ht) (by have := h.sum; omega)
theorem Good.of {us : List Str} (h : badOf (some (us.map V.str)) = .non) : Good us := by
  obtain ⟨xs, e, h1, h2, h3⟩ := bad_non h
  cases e
  exact ⟨by rw [List.length_map] at h1; exact h1, fun t ht => h2 (.str t) (List.mem_map.mpr ⟨t, ht, rfl⟩), h3⟩
theorem Good.len {us : List Str} (h : Good us) {t : Str} (ht : t ∈ us) : t.length ≤ 2000 := by
  have h1 := h.sum
  have : ∀ (ns : List Nat) (n : Nat), n ∈ ns → n ≤ ns.sum := fun ns n hn => by
    induction ns with
    | nil => simp at hn
    | cons m ns ih =>
      rw [List.sum_cons]
      rcases List.mem_cons.mp hn with e | e
      · omega
      · have := ih e
        omega
  exact Nat.le_trans (this _ _ (List.mem_map.mpr ⟨.str t, List.mem_map.mpr ⟨t, ht, rfl⟩, rfl⟩)) h1
/-- a thing is an edit, and leads to these texts -/
def Right (ts : List Str) (o : Option (List V)) (us : List Str) : Prop := ∃ e : Ed, o = some e.vals ∧ e.ok ∧ e.mk ts = some us ∧ Good us
theorem Right.uniq {ts us ws : List Str} {o : Option (List V)} (h : Right ts o us) (k : Right ts o ws) : us = ws := by
  obtain ⟨e, h1, _, h2, _⟩ := h
  obtain ⟨e', k1, _, k2, _⟩ := k
  rw [h1] at k1
  obtain rfl := vals_inj (Option.some.inj k1)
  rw [h2] at k2
  exact Option.some.inj k2
/-- what a thing's texts may be -/
def Shr (o : Option (List V)) : Prop := ∀ xs, o = some xs → ∀ z, V.str z ∈ xs → z.length ≤ 2500 ∧ PyData.strOk z = true
end LawK
set_option maxHeartbeats 4000000
namespace LawK
open PySem PySem.Spec PyProof.Rows L2 Ev
/-- the parts of each edit, in the dict at a -/
theorem kit_no {K : PySem.W.Frag} {k : Kn} (n : k ≠ .tup) : PySem.W.kitOne K (.type k.name) (.type "tuple") = some false := by
  have e : kitB k .tup = false := by cases k <;> first | rfl | exact absurd rfl n
  have z := kit_kn (K := K) k .tup
  rw [e] at z
  exact z
structure FormsC (K : PySem.W.Frag) (w : World) (mg : Str → Option Value) (a : Addr) (kvs : List (Str × V)) : Prop where
  kd : KD K w a kvs
  no : ∀ z, kindsOf z = none → kvs.lookup z = none
  yes : ∀ z ks, kindsOf z = some ks → ∃ k, kvs.lookup z = some (.ref k) ∧ ∀ H, SqT K H k (ks.map V.str)
  g : mg "FORMS" = some (.ref a)
theorem kinds_few {z : Str} {ks : List Str} (h : kindsOf z = some ks) : ks.length ≤ 5 := by
  unfold kindsOf at h
  repeat' split at h
  all_goals first | (cases h; decide) | cases h
theorem walk_zipT {K : PySem.W.Frag} {a b : Addr} {xs ys : List V} {n : Nat} (hn : n = min xs.length ys.length) : Walk (RZ.ItzT K a b) n (fun H => SqT K H a xs ∧ SqT K H b ys) (YPair (fun i => xs[i]?) (fun i => ys[i]?)) := by
  subst hn
  refine ⟨fun i _ hi q => ?_, fun _ q => ⟨xs, ys, q.1, q.2, by omega⟩, fun i H v H' _ q y => ?_⟩
  · have h1 : i < xs.length := by omega
    have h2 : i < ys.length := by omega
    exact ⟨xs, ys, xs[i], ys[i], q.1, q.2, by simp [h1], by simp [h2]⟩
  · obtain ⟨T, x, z, h1, h2, h3, h4, h5⟩ := y
    exact ⟨T, x, z, h1, h2, h3, h4 xs q.1, h5 ys q.2⟩
theorem zip_take {α β γ : Type} {f : α → β → γ} {xs : List α} {ys : List β} {i : Nat} {x : α} {y : β} (hx : xs[i]? = some x) (hy : ys[i]? = some y) : List.zipWith f (xs.take (i + 1)) (ys.take (i + 1)) = List.zipWith f (xs.take i) (ys.take i) ++ [f x y] := by
  have lx : i < xs.length := (List.getElem?_eq_some_iff.mp hx).1
  have ly : i < ys.length := (List.getElem?_eq_some_iff.mp hy).1
  rw [List.take_succ, List.take_succ, hx, hy, List.zipWith_append (by rw [List.length_take, List.length_take]; omega)]
  rfl
def spForm : Sp := fun vs H Q _ => ∃ (x : V) (o : Option (List V)), vs = [x] ∧ Tg H x o ∧ ∀ b H', (b = true ↔ HasForm o) → Same H H' → Q (.bl b) H'
section
variable {P : Program} {w : World} {K : PySem.W.Frag} {mg : Str → Option Value} {base : Heap}
abbrev sQHasForm : Stmt := topS 16
theorem scQHasForm : FnScope ["thing", "word", "kinds", "kind", "part"] ["thing"] (defScope sQHasForm) := ⟨rfl, rfl, rfl, by decide +kernel, rfl, by decide +kernel, by decide +kernel⟩
theorem ok_QHasForm {f : Addr} {fd : FuncData} (F : Fun K "has_form" "has_form" sQHasForm f fd) {fQIsPart : Addr} {fdQIsPart : FuncData} (DQIsPart : Dk P w K mg base "_is_part" sQIsPart ["kind", "thing"] 3 spPart fQIsPart fdQIsPart) {aF : Addr} {kvF : List (Str × V)} (FC : FormsC K w mg aF kvF) (T : Glob mg) : FnOk P w K mg base CX0 4 f fd ["thing"] spForm := by
  refine F.ok scQHasForm (fun vs H Q E h => ?_) (fun cdv A outer s H vs Q E hr h => ?_)
  · obtain ⟨x, o, rfl, _⟩ := h
    rfl
  · refine ⟨_, (pss_cons (ps_if (PW.pt (pw_or (pt_not (pt_val (pe_callB call_isi (by rfl) T.isinstance PyProof.Rows.boot_isinstance (pa_cons (pv 0) (pa_cons (pe_bltn (v := .ty "tuple") (by rfl) T.tuple (by decide +kernel) rfl) pa_nil))))) (pw_or1 (pt_cmpR op_eq (pe_callB call_len_seq (by rfl) T.len PySem.boot_len (pa_cons (pv 0) pa_nil)) pe_int (nomark _)))))
      (pss_one (ps_ret pe_bl))
      pss_nil)
      (pss_cons (ps_set (i := 1) scQHasForm.nd rfl (.inl rfl) (pe_ix ix_tup (pv 0) pe_int (fun _ _ => rfl)))
      (pss_cons (ps_if (PW.pt (pw_or (pt_not (pt_val (pe_callB call_isi (by rfl) T.isinstance PyProof.Rows.boot_isinstance (pa_cons (pv 1) (pa_cons (pe_bltn (v := .ty "str") (by rfl) T.str (by decide +kernel) rfl) pa_nil))))) (pw_or1 (pt_cmpR op_notInKD (pv 1) (pe_glob (v := .ref aF) (by rfl) FC.g rfl) rfl))))
      (pss_one (ps_ret pe_bl))
      pss_nil)
      (pss_cons (ps_set (i := 2) scQHasForm.nd rfl (.inl rfl) (pe_ix ix_KD (pe_glob (v := .ref aF) (by rfl) FC.g rfl) (pv 1) (fun _ _ => rfl)))
      (pss_cons (ps_if (pt_cmpR op_ne (pe_callB call_len_seq (by rfl) T.len PySem.boot_len (pa_cons (pv 0) pa_nil)) (pe_op op_add (pe_callB call_len_seq (by rfl) T.len PySem.boot_len (pa_cons (pv 2) pa_nil)) pe_int) (nomark _))
      (pss_one (ps_ret pe_bl))
      pss_nil)
      (pss_one (ps_ret (pe_callB (cr_all rfl) (by rfl) T.all (by decide +kernel) (pa_cons (pe_lc (own := [("kind", 3), ("part", 4)]) (g := (gTup K 2 (gCons (gName 3) (gCons (gName 4) gNil)))) (by rfl) scQHasForm.nd (RZ.pi_zipA (by rfl) T.zip (pa_cons (pv 2) (pa_cons (pe_slice sl_tupM (pv 0) (po_some pe_int) po_none) pa_nil))) (blkOk_by (N := ["thing", "word", "kinds", "kind", "part"]) (sc := defScope sQHasForm) (by decide +kernel)) (fun _ _ _ _ _ => pg_tup (by rfl) (pgs_cons (pg_name (i := 3) scQHasForm.nd rfl (.inl rfl)) (pgs_cons (pg_name (i := 4) scQHasForm.nd rfl (.inl rfl)) pgs_nil))) (fun _ _ _ _ _ => pts_nil) (fun _ _ _ _ _ => (pe_call DQIsPart.ok (hr.mono (by decide)) (by rfl) DQIsPart.g DQIsPart.F.kp DQIsPart.b .nil pass0 (pa_cons (pv 3) (pa_cons (pv 4) pa_nil))))) pa_nil))))))))), ?_⟩
    obtain ⟨x, o, rfl, hT, q⟩ := h
    cases hT with
    | @no _ k hk n s =>
      exact ⟨x, rfl, x, .ty "tuple", .type (Kn.name k), .type "tuple", false, rfl, .ty _, Kd.tyx hk, kit_no n, _, rfl, iteT (q false H (iff_of_false (by simp) form_none) (Same.refl H))⟩
    | @tup a xs e n hy =>
      refine ⟨.ref a, rfl, .ref a, .ty "tuple", .type (Kn.name .tup), .type "tuple", kitB .tup .tup, rfl, .ty _, Kd.tyx (.tup e), kit_kn .tup .tup, _, rfl, iteF ?_⟩
      refine ⟨.ref a, rfl, a, xs, rfl, .inr (SqT.of e), rfl, _, rfl, ite2 (fun c => ?_) (fun c => ?_)⟩
      · have c' : (xs.length : Int) = 0 := V.int.inj (of_decide_eq_true c)
        obtain rfl : xs = [] := List.length_eq_zero_iff.mp (by omega)
        exact q false H (iff_of_false (by simp) form_nil) (Same.refl H)
      cases xs with
      | nil => exact absurd rfl c
      | cons y ps =>
        obtain ⟨⟨k, hk⟩, hv⟩ := hy y List.mem_cons_self
        refine ⟨.ref a, rfl, a, _, 0, y, rfl, rfl, SqT.of e, atI_nat (j := 0) rfl, ?_⟩
        refine ⟨y, rfl, y, .ty "str", .type (Kn.name k), .type "str", kitB k .str, rfl, .ty _, Kd.tyx hk, kit_kn k .str, _, rfl, ?_⟩
        refine ite2 (fun d => ?_) (fun d => ?_)
        · refine q false H (iff_of_false (by simp) fun hf => ?_) (Same.refl H)
          obtain ⟨z, rfl⟩ := form_str hf
          cases hk
          exact absurd d (by decide)
        have ey : ∃ z, y = .str z := by
          cases hk with
          | str z => exact ⟨z, rfl⟩
          | non => exact absurd rfl d
          | bl b => exact absurd rfl d
          | int i => exact absurd rfl d
          | lst _ => exact absurd rfl d
          | tup _ => exact absurd rfl d
          | dic _ => exact absurd rfl d
        obtain ⟨z, rfl⟩ := ey
        cases hz : kindsOf z with
        | none =>
          refine ⟨.str z, rfl, aF, z, kvF, rfl, rfl, FC.kd, _, rfl, ?_⟩
          rw [FC.no z hz]
          exact q false H (iff_of_false (by simp) (no_form_kinds hz)) (Same.refl H)
        | some ks =>
          obtain ⟨kt, hkt, hS⟩ := FC.yes z ks hz
          have few := kinds_few hz
          have fi := form_iff (ps := ps) hz
          refine ⟨.str z, rfl, aF, z, kvF, rfl, rfl, FC.kd, _, rfl, ?_⟩
          rw [hkt]
          refine iteF ?_
          refine ⟨.str z, rfl, aF, z, kvF, .ref kt, rfl, rfl, FC.kd, hkt, ?_⟩
          refine ⟨.ref a, rfl, a, _, rfl, .inr (SqT.of e), .ref kt, rfl, kt, _, rfl, .inr (hS H), _, _, rfl, rfl, rfl, _, rfl, ite2 (fun c2 => ?_) (fun c2 => ?_)⟩
          · refine q false H (iff_of_false (by simp) fun hf => ?_) (Same.refl H)
            have hl := (fi.mp hf).1
            refine absurd c2 ?_
            rw [List.length_cons, List.length_map, hl]
            simp
          have hl : ps.length = ks.length := by
            rw [List.length_cons, List.length_map] at c2
            simp at c2
            omega
          refine ⟨.ref kt, rfl, .ref a, rfl, 1, rfl, a, _, rfl, e, fun b H1 k1 hb => ?_⟩
          have eps : cutV (V.str z :: ps) (some 1) none = ps := by
            rw [cutV_from (by decide)]
            rfl
          rw [eps] at hb
          refine ⟨kt, b, _, _, rfl, .inr ⟨hS H1, SqT.of hb, fun D nD => lc_it (walk_zipT (n := ks.length) (by rw [List.length_map]; omega)) (fun i H2 => Same H1 H2 ∧ H2 D = some (.lst ((List.zipWith partV (ks.take i) (ps.take i)).map V.bl))) ⟨Same.new nD, upd_same⟩ (fun i H2 hi g => ⟨hS H2, SqT.of (g.1 _ _ hb)⟩) ?_ ?_⟩⟩
          · rintro i v H2 H3 hi ⟨g1, g2⟩ ⟨t, x1, x2, rfl, nt, rfl, hx1, hx2⟩
            dsimp only at hx1 hx2
            rw [List.getElem?_map] at hx1
            obtain ⟨kd, hkd, rfl⟩ := Option.map_eq_some_iff.mp hx1
            have hm := List.mem_of_getElem? hx2
            obtain ⟨⟨kx, hkx⟩, hvx⟩ := hy x2 (List.mem_cons_of_mem _ hm)
            have g3 : Same H1 (upd H2 t (.tup [.str kd, x2])) := g1.trans (Same.new nt)
            refine ⟨t, _, rfl, SqT.of upd_same, rfl, .str kd, _, rfl, x2, [], rfl, rfl, ?_⟩
            refine ⟨rfl, .str kd, rfl, x2, rfl, kd, x2, kx, rfl, (hkx.same k1).same g3, hvx, _, (upd_ne (ne_of_none g2 nt)).trans g2, ?_, ?_, ?_⟩
            · rw [List.length_map, List.length_zipWith, List.length_take, List.length_take]
              show _ < 16777216
              omega
            · exact sameAt g3 nD
            · rw [upd_same, zip_take hkd hx2, List.map_append]
              rfl
          · rintro H2 ⟨g1, g2⟩
            rw [List.take_of_length_le (Nat.le_refl _), List.take_of_length_le (by omega)] at g2
            refine ⟨D, _, rfl, sq_of g2, ?_⟩
            exact q _ H2 ⟨fun h => fi.mpr ⟨hl, h⟩, fun h => (fi.mp h).2⟩ (k1.trans g1)
end
end LawK
set_option maxHeartbeats 4000000
/-! Objects of an own class, made where the making may raise; == by an own __eq__, with anything. -/
namespace Ev
open PySem PySem.Spec PyProof.Rows L2
section
variable {X : Cx} {CX : CXT} {k : Nat} {f C : Addr} {fd : FuncData} {ps : List Str} {sp : Sp} {x : Str} {p pos : Pos} {e : Expr} {es : List Expr} {t : TA}
theorem run_mkAt {pins : List (Addr × Obj)} {σ : L2.St} {H : Hp} {s : Shared} {Q : VK} {us : List Value} {vs : List V} {E : XK} (M : Mk X.K C f) (F : FnOk X.prog X.w X.K X.mg X.base CX k f fd ps sp) (hr : Room (k + 1) X.A) (hb : Binds X.K fd ps []) (hx : PassesAt CX X σ E) (I : Inv X pins σ H s) (r : Vals vs us)
    (h : ∀ a dx, H a = none → H dx = none → dx ≠ a → sp (.ref a :: vs) (upd (upd H dx (.own a)) a (.ins C dx [])) (fun v H2 => v = .non ∧ Q (.ref a) H2) E) :
    wpAny (model X.prog X.w) X.A (call (.ref C) us) (EP X pins σ Q) X.xe s := by
  have q := h (s.heap.objs.size + 1) s.heap.objs.size (I.hok.fresh (Nat.le_succ _)) (I.hok.fresh (Nat.le_refl _)) (Nat.ne_of_lt (Nat.lt_succ_self _))
  have J := Inv.made (C := C) I
  have rv : Vals (V.ref (s.heap.objs.size + 1) :: vs) (Value.ref (s.heap.objs.size + 1) :: us) := .cons rfl r
  have len := F.len _ _ _ _ q
  have lu : (Value.ref (s.heap.objs.size + 1) :: us ++ []).length = ps.length := by
    rw [List.append_nil, ← rv.length]
    exact len
  have bnd := hb _ (Value.ref (s.heap.objs.size + 1) :: us) J.kIn lu
  rw [List.append_nil] at bnd
  have go := F.run _ X.stack _ _ ⟨Value.ref (s.heap.objs.size + 1) :: us, []⟩ (Value.ref (s.heap.objs.size + 1) :: us) _ _ E (hr.make C us []) (J.env0.make C us []) bnd rv q
  refine wpAny_call (make_map (f := f) I.kIn M.makes M.init (beq_iff_eq.mp M.fn) (codeAny_mono go ?_))
  intro res s' got
  match res, got with
  | .error er, got => exact hx pins _ _ er s' J got
  | .ok (.ret u), got =>
    obtain ⟨v, H', I3, ru, rfl, q3⟩ := J.after got
    exact ⟨ru, ⟨V.ref (s.heap.objs.size + 1), H', I3, rfl, q3⟩⟩
  | .ok .next, got => exact got.elim
  | .ok .brk, got => exact got.elim
  | .ok .cont, got => exact got.elim
def tMkS (C : Addr) (sp : Sp) (E : L2.St → XK) (t : TA) : TE := fun σ H Q => t σ H fun vs H1 => ∀ a dx, H1 a = none → H1 dx = none → dx ≠ a →
  sp (.ref a :: vs) (upd (upd H1 dx (.own a)) a (.ins C dx [])) (fun v H2 => v = .non ∧ Q (.ref a) H2) (E σ)
theorem pe_mkS {E : L2.St → XK} (M : Mk X.K C f) (F : FnOk X.prog X.w X.K X.mg X.base CX k f fd ps sp) (hr : Room (k + 1) X.A) (hg : Gl X x) (hm : X.mg x = some (.ref C)) (hb : Binds X.K fd ps []) (hx : ∀ σ, PassesAt CX X σ (E σ)) (ha : PA X (e :: es) t)
    (hdb : (x == ("__debug__" : Str)) = false := by decide) (he : starEach (e :: es) X.env = (false, eval e X.env) :: starEach es X.env := by rfl) (hpl : (backTo pos (starEach es X.env)).any (·.1) = false := by rfl) :
    PE X (.Call (.Name x p) (e :: es) [] pos) (tMkS C sp E t) := by
  constructor
  intro pins s σ H Q I h
  refine wpAny_Call_Name_kw (ld_glob I hg hm ?_ hdb)
  refine PySem.W.callWith_K (h₀ := X.base) I.ok.mod.kin M.kp (thn (ha.run pos pins s σ H _ I h) ?_) he hpl
  rintro us s1 ⟨vs, H1, I1, r, q⟩
  exact ⟨I1.kIn, run_mkAt M F hr hb (hx σ) I1 r q⟩
theorem passL_at (σ : L2.St) : PassesAt (L2.CX X.prog X.w) X σ E0 := fun pins H s e s' I h => passL pins σ H s e s' I h
/-- x == y, x an object of the class at C -/
def rEqO (C : Addr) (K : PySem.W.Frag) (sp : Sp) (E : XK) : R2 := fun x y H Q => ∃ a dx fs t, x = .ref a ∧ H a = some (.ins C dx fs) ∧ TyX K H y t ∧ PySem.W.notFirst K C t = true ∧ sp [x, y] H (fun v H' => (∃ b, v = .bl b) ∧ Q v H') E
theorem op_eqO {E : XK} (F : FnOk X.prog X.w X.K X.mg X.base CX k f fd ps sp) (hs : PySem.W.findIn X.K (.ref C) "__eq__" = some (some (.ref f))) (hf : PySem.W.isFn X.K (.ref f) = true) (hb : Binds X.K fd ps []) (hx : Passes CX X E) (hr : Room k X.A) : OpR X (compareOp .Eq) (rEqO C X.K sp E) := by
  intro pins s σ H x y v u Q I rx ry h
  obtain ⟨a, dx, fs, t, rfl, ha, ty, nf, q⟩ := h
  cases rx
  obtain ⟨mA, J, _⟩ := ins_get I.hok ha
  obtain ⟨od, J, _⟩ := J.look
  obtain ⟨m, hF⟩ := I.fr
  obtain ⟨P, Z, hp, _⟩ := kit_of I ry ty
  show wpAny (model X.prog X.w) X.A (richCompare .Eq _ u) (EP X pins σ Q) X.xe s
  refine PySem.W.cmp_K (op := .Eq) (tb := t) hr.units0 hF I.ok.mod.kin J (Z.ty _ _ I.kIn hp) nf hs hf ?_
  have len := F.len _ _ _ _ q
  have rv : Vals [V.ref a, y] [Value.ref a, u] := .cons rfl (.cons ry .nil)
  have bnd := hb s [Value.ref a, u] I.kIn (by simpa using len)
  have go := F.run X.A X.stack s H ⟨[Value.ref a, u], []⟩ [Value.ref a, u] [V.ref a, y] _ E hr I.env0 (by simpa using bnd) rv q
  refine wpAny_call (codeAny_mono go ?_)
  intro res s' got
  match res, got with
  | .error er, got => exact hx pins σ H s er s' I got
  | .ok (.ret w), got =>
    obtain ⟨z, H', I', rz, ⟨b, rfl⟩, q'⟩ := I.after got
    cases rz
    exact ⟨.bl b, H', I', rfl, q'⟩
  | .ok .next, got => exact got.elim
  | .ok .brk, got => exact got.elim
  | .ok .cont, got => exact got.elim
end
end Ev
set_option maxHeartbeats 4000000
namespace LawK
open PySem PySem.Spec PyProof.Rows L2 Ev
/-- the makers -/
def Ed.idx : Ed → Fin 8
  | .put .. => 0
  | .cut .. => 1
  | .change .. => 2
  | .come .. => 3
  | .go => 4
  | .split .. => 5
  | .join .. => 6
  | .move .. => 7
def Ed.word : Ed → Str
  | .put .. => Str.ofString "put"
  | .cut .. => Str.ofString "cut"
  | .change .. => Str.ofString "change"
  | .come .. => Str.ofString "come"
  | .go => Str.ofString "go"
  | .split .. => Str.ofString "split"
  | .join .. => Str.ofString "join"
  | .move .. => Str.ofString "move"
def Ed.rest (e : Ed) : List V := e.vals.tail
theorem Ed.vals_eq (e : Ed) : e.vals = .str e.word :: e.rest := by cases e <;> rfl
def spOf : Fin 8 → Sp
  | 0 => spPut
  | 1 => spCut
  | 2 => spChange
  | 3 => spCome
  | 4 => spGone
  | 5 => spSplit
  | 6 => spJoin
  | 7 => spMove
def MkAt (fs : Fin 8 → Addr) (f : Addr) (sp : Sp) : Prop := ∃ i, f = fs i ∧ sp = spOf i
/-- the makers, in the dict at a -/
structure MakersC (K : PySem.W.Frag) (w : World) (mg : Str → Option Value) (a : Addr) (kvs : List (Str × V)) (fs : Fin 8 → Addr) : Prop where
  kd : KD K w a kvs
  lk : ∀ e : Ed, kvs.lookup e.word = some (.ref (fs e.idx))
  g : mg "MAKERS" = some (.ref a)
/-- texts that a library may have -/
structure G8 (us : List Str) : Prop where
  few : us.length ≤ 8
  sg : ∀ t ∈ us, sgB t = true
  len : ∀ t ∈ us, t.length ≤ 200
/-- an edit that leads from texts to texts -/
structure Ldg (ts : List Str) (e : Ed) (us : List Str) : Prop where
  ok : e.ok
  shr : Shr (some e.vals)
  to : e.mk ts = some us
  good : G8 us
def spBehind (C : Addr) : Sp := fun vs H Q _ => ∃ (s a : Addr) (ts us : List Str) (e : Ed), vs = [.ref s, .ref a] ∧ LibAt H C s ts ∧ H a = some (.tup e.vals) ∧ Ldg ts e us ∧ ∀ q H', LibAt H' C q us → Same H H' → H q = none → Q (.ref q) H'
def spIsEdit (C : Addr) : Sp := fun vs H Q _ => ∃ (s a : Addr) (ts us : List Str) (e : Ed), vs = [.ref s, .ref a] ∧ LibAt H C s ts ∧ H a = some (.tup e.vals) ∧ Ldg ts e us ∧ ∀ H', Same H H' → Q (.bl true) H'
theorem cut_take {z : Str} {a : Int} (h : 0 ≤ a) : (cutS z none (some a)).length = min a.toNat z.length := by
  rw [len_S, cutS_to h, List.length_take, ← len_S]
theorem cut_drop {z : Str} {a : Int} (h : 0 ≤ a) : (cutS z (some a) none).length = z.length - a.toNat := by
  rw [len_S, cutS_from h, List.length_drop, ← len_S]
theorem mText_len {ts : List Str} {m : Nat} (h : ∀ y ∈ ts, y.length ≤ m) (t : Int) : (mText ts t).length ≤ m := by
  unfold mText
  rw [List.getD_eq_getElem?_getD]
  cases e : ts[t.toNat]? with
  | none => exact Nat.zero_le _
  | some y => exact h y (List.mem_of_getElem? e)
theorem put_len {ts us : List Str} {t a : Int} {z : Str} {m : Nat} (h : mPut ts t a z = some us) (a0 : 0 ≤ a) (hm : ∀ y ∈ ts, y.length ≤ m) : us.length = ts.length ∧ ∀ y ∈ us, y.length ≤ m + z.length := by
  unfold mPut at h
  by_cases c : t < ts.length ∧ a ≤ (mText ts t).length
  · rw [if_pos c] at h
    cases h
    refine ⟨List.length_set, fun y hy => ?_⟩
    rcases List.mem_or_eq_of_mem_set hy with h1 | h1
    · have := hm y h1
      omega
    · have l1 := mText_len hm t
      rw [h1, app_len, app_len, cut_take a0, cut_drop a0]
      omega
  · rw [if_neg c] at h
    cases h
theorem cut_lens {ts us : List Str} {t a n : Int} {m : Nat} (h : mCut ts t a n = some us) (a0 : 0 ≤ a) (n0 : 0 ≤ n) (hm : ∀ y ∈ ts, y.length ≤ m) : us.length = ts.length ∧ ∀ y ∈ us, y.length ≤ m := by
  unfold mCut at h
  by_cases c : t < ts.length ∧ a + n ≤ (mText ts t).length
  · rw [if_pos c] at h
    cases h
    refine ⟨List.length_set, fun y hy => ?_⟩
    rcases List.mem_or_eq_of_mem_set hy with h1 | h1
    · exact hm y h1
    · have l1 := mText_len hm t
      rw [h1, app_len, cut_take a0, cut_drop (by omega)]
      omega
  · rw [if_neg c] at h
    cases h
theorem mk_len {ts us : List Str} {e : Ed} (h : e.mk ts = some us) (k : e.ok) (hg : Good ts) (hs : Shr (some e.vals)) : us.length ≤ 30 ∧ ∀ t ∈ us, t.length ≤ 5000 := by
  have few := hg.few
  have hm : ∀ y ∈ ts, y.length ≤ 2000 := fun y hy => hg.len hy
  cases e with
  | put t a z =>
    obtain ⟨h1, h2⟩ := put_len (show mPut ts t a z = some us from h) k.2.1 hm
    have lz := (hs _ rfl z (by simp [Ed.vals])).1
    exact ⟨by omega, fun y hy => by have := h2 y hy; omega⟩
  | cut t a n =>
    obtain ⟨h1, h2⟩ := cut_lens (show mCut ts t a n = some us from h) k.2.1 (Int.le_of_lt k.2.2) hm
    exact ⟨by omega, fun y hy => by have := h2 y hy; omega⟩
  | change t a z =>
    have lz := (hs _ rfl z (by simp [Ed.vals])).1
    have h' : mChange ts t a z = some us := h
    unfold mChange at h'
    by_cases c : t < ts.length ∧ a + (z.length : Int) ≤ (mText ts t).length
    · rw [if_pos c] at h'
      cases h'
      refine ⟨by rw [List.length_set]; omega, fun y hy => ?_⟩
      rcases List.mem_or_eq_of_mem_set hy with h1 | h1
      · have := hm y h1
        omega
      · have l1 := mText_len hm t
        have a0 : 0 ≤ a := k.2.1
        rw [h1, app_len, app_len, cut_take a0, cut_drop (by omega)]
        omega
    · rw [if_neg c] at h'
      cases h'
  | come z =>
    have lz := (hs _ rfl z (by simp [Ed.vals])).1
    cases h
    refine ⟨by rw [List.length_append]; show _ + 1 ≤ 30; omega, fun y hy => ?_⟩
    rcases List.mem_append.mp hy with h1 | h1
    · have := hm y h1
      omega
    · rw [List.mem_singleton.mp h1]
      omega
  | go =>
    have h' : mGone ts = some us := h
    unfold mGone at h'
    by_cases c : ts.getLast? = some (Str.ofString "")
    · rw [if_pos c] at h'
      cases h'
      exact ⟨by rw [List.length_dropLast]; omega, fun y hy => by have := hm y (List.dropLast_subset _ hy); omega⟩
    · rw [if_neg c] at h'
      cases h'
  | split t a =>
    have h' : mSplit ts t a = some us := h
    unfold mSplit at h'
    by_cases c : t < ts.length ∧ a ≤ (mText ts t).length
    · rw [if_pos c] at h'
      cases h'
      have l1 := mText_len hm t
      have l2 := cut_len (z := mText ts t) none (some a)
      have l3 := cut_len (z := mText ts t) (some a) none
      refine ⟨by rw [List.length_append, List.length_set]; show _ + 1 ≤ 30; omega, fun y hy => ?_⟩
      rcases List.mem_append.mp hy with h1 | h1
      · rcases List.mem_or_eq_of_mem_set h1 with h1 | h1
        · have := hm y h1
          omega
        · rw [h1]
          omega
      · rw [List.mem_singleton.mp h1]
        omega
    · rw [if_neg c] at h'
      cases h'
  | join t u =>
    have h' : mJoin ts t u = some us := h
    unfold mJoin at h'
    by_cases c : t < ts.length ∧ u < ts.length ∧ t ≠ u
    · rw [if_pos c] at h'
      cases h'
      have l1 := mText_len hm t
      have l2 := mText_len hm u
      refine ⟨by rw [List.length_set, List.length_set]; omega, fun y hy => ?_⟩
      rcases List.mem_or_eq_of_mem_set hy with h1 | h1
      · rcases List.mem_or_eq_of_mem_set h1 with h1 | h1
        · have := hm y h1
          omega
        · rw [h1, lenE]
          omega
      · rw [h1, app_len]
        omega
    · rw [if_neg c] at h'
      cases h'
  | move t a n u p =>
    have h' : mMove ts t a n u p = some us := h
    unfold mMove at h'
    cases ec : mCut ts t a n with
    | none =>
      rw [ec] at h'
      cases h'
    | some vs =>
      rw [ec] at h'
      obtain ⟨h1, h2⟩ := cut_lens ec k.2.1 (Int.le_of_lt k.2.2.1) hm
      obtain ⟨h3, h4⟩ := put_len (show mPut vs u p _ = some us from h') k.2.2.2.2 h2
      have l1 := mText_len hm t
      have l2 := cut_len (z := mText ts t) (some a) (some (a + n))
      exact ⟨by omega, fun y hy => by have := h4 y hy; omega⟩
theorem spOf_told {H : Hp} {at_ a : Addr} {ts : List Str} {e : Ed} {Q : VK} {E : XK} (k : e.ok) (hg : Good ts) (hs : Shr (some e.vals)) (h1 : H at_ = some (.tup (ts.map V.str))) (h2 : H a = some (.tup e.vals)) (q : told H (e.mk ts) Q) : spOf e.idx [.ref at_, .ref a] H Q E := by
  have few := hg.few
  have few' : ts.length ≤ 100 := by omega
  have hm : ∀ y ∈ ts, y.length ≤ 5000 := fun y hy => by have := hg.len hy; omega
  cases e with
  | put t p z =>
    have lz := (hs _ rfl z (by simp [Ed.vals])).1
    exact ⟨at_, a, ts, t, p, _, z, rfl, h1, h2, few', hm, by omega, k.1, k.2.1, q⟩
  | cut t p n => exact ⟨at_, a, ts, t, p, n, _, rfl, h1, h2, few', hm, k.1, k.2.1, Int.le_of_lt k.2.2, q⟩
  | change t p z =>
    have lz := (hs _ rfl z (by simp [Ed.vals])).1
    exact ⟨at_, a, ts, t, p, _, z, rfl, h1, h2, few', hm, by omega, k.1, k.2.1, q⟩
  | come z => exact ⟨at_, a, ts, _, z, rfl, h1, h2, few', q⟩
  | go => exact ⟨at_, _, ts, rfl, h1, few', q⟩
  | split t p => exact ⟨at_, a, ts, t, p, _, rfl, h1, h2, few', hm, k.1, k.2, q⟩
  | join t u => exact ⟨at_, a, ts, t, u, _, rfl, h1, h2, few', hm, k.1, k.2, q⟩
  | move t p n u r => exact ⟨at_, a, ts, t, p, n, u, r, _, rfl, h1, h2, few', hm, k.1, k.2.1, Int.le_of_lt k.2.2.1, k.2.2.2.1, k.2.2.2.2, q⟩
theorem slen_sum : ∀ {ts : List Str}, (∀ t ∈ ts, t.length ≤ 200) → ((ts.map V.str).map slen).sum ≤ 200 * ts.length
  | [], _ => Nat.le_refl _
  | t :: ts, h => by
    have := slen_sum fun u hu => h u (List.mem_cons_of_mem _ hu)
    have := h t List.mem_cons_self
    simp only [List.map_cons, List.sum_cons, List.length_cons, slen]
    omega
theorem LibAt.good {H : Hp} {C s : Addr} {ts : List Str} (h : LibAt H C s ts) : Good ts := ⟨h.few, h.sg, by
  have := slen_sum h.len
  have := h.few
  omega⟩
theorem vals_tg {H : Hp} {a : Addr} {e : Ed} (h : H a = some (.tup e.vals)) (k : Shr (some e.vals)) : Tg H (.ref a) (some e.vals) := by
  refine .tup h (by cases e <;> simp [Ed.vals]) fun y hy => ?_
  have hz : ∀ z, V.str z ∈ e.vals → (∃ k, Kd H (.str z) k) ∧ Vs (.str z) := fun z m => ⟨⟨_, .str z⟩, fun w q => by cases q; have := (k _ rfl z m).1; omega⟩
  have hi : ∀ i : Int, (∃ k, Kd H (.int i) k) ∧ Vs (.int i) := fun i => int_ok
  cases e <;> (simp only [Ed.vals, List.mem_cons, List.not_mem_nil, or_false] at hy hz; (repeat' (rcases hy with rfl | hy)) <;> first | exact hi _ | (subst hy; exact hi _) | exact hz _ (by simp) | (subst hy; exact hz _ (by simp)))
theorem str_tg {H : Hp} {a : Addr} {us : List Str} (h : H a = some (.tup (us.map V.str))) (n : us.length ≤ 30) (l : ∀ t ∈ us, t.length ≤ 5000) : Tg H (.ref a) (some (us.map V.str)) := .tup h (by rw [List.length_map]; exact n) fun y hy => by
  obtain ⟨t, ht, rfl⟩ := List.mem_map.mp hy
  exact ⟨⟨_, .str t⟩, fun z e => by cases e; exact l t ht⟩
section
variable {P : Program} {w : World} {K : PySem.W.Frag} {mg : Str → Option Value} {base : Heap}
variable {C fI cB : Addr} {fdI : FuncData}
abbrev sBehind : Stmt := topS 27
theorem scBehind : FnScope ["library", "thing", "maker", "texts"] ["library", "thing"] (defScope sBehind) := ⟨rfl, rfl, rfl, by decide +kernel, rfl, by decide +kernel, by decide +kernel⟩
theorem ok_Behind {f : Addr} {fd : FuncData} (F : Fun K "_library_behind" "_library_behind" sBehind f fd) (L : LibC K mg C fI fdI) (gB : mg "BadLibrary" = some (.ref cB)) (GI : FnOk P w K mg base (L2.CX P w) 4 fI fdI ["self", "texts"] (spLInit C))
    {fQHasForm : Addr} {fdQHasForm : FuncData} (DQHasForm : Dk P w K mg base "has_form" sQHasForm ["thing"] 4 spForm fQHasForm fdQHasForm) {fQTextsPut : Addr} {fdQTextsPut : FuncData} (DQTextsPut : Dk P w K mg base "_texts_put" sQTextsPut ["texts", "edit"] 2 spPut fQTextsPut fdQTextsPut) {fQTextsCut : Addr} {fdQTextsCut : FuncData} (DQTextsCut : Dk P w K mg base "_texts_cut" sQTextsCut ["texts", "edit"] 2 spCut fQTextsCut fdQTextsCut) {fQTextsChanged : Addr} {fdQTextsChanged : FuncData} (DQTextsChanged : Dk P w K mg base "_texts_changed" sQTextsChanged ["texts", "edit"] 2 spChange fQTextsChanged fdQTextsChanged) {fQTextsCome : Addr} {fdQTextsCome : FuncData} (DQTextsCome : Dk P w K mg base "_texts_come" sQTextsCome ["texts", "edit"] 1 spCome fQTextsCome fdQTextsCome) {fQTextsGone : Addr} {fdQTextsGone : FuncData} (DQTextsGone : Dk P w K mg base "_texts_gone" sQTextsGone ["texts", "_"] 1 spGone fQTextsGone fdQTextsGone) {fQTextsSplit : Addr} {fdQTextsSplit : FuncData} (DQTextsSplit : Dk P w K mg base "_texts_split" sQTextsSplit ["texts", "edit"] 2 spSplit fQTextsSplit fdQTextsSplit) {fQTextsJoined : Addr} {fdQTextsJoined : FuncData} (DQTextsJoined : Dk P w K mg base "_texts_joined" sQTextsJoined ["texts", "edit"] 2 spJoin fQTextsJoined fdQTextsJoined) {fQTextsMoved : Addr} {fdQTextsMoved : FuncData} (DQTextsMoved : Dk P w K mg base "_texts_moved" sQTextsMoved ["texts", "edit"] 3 spMove fQTextsMoved fdQTextsMoved) {fs : Fin 8 → Addr} (e0 : fs 0 = fQTextsPut) (e1 : fs 1 = fQTextsCut) (e2 : fs 2 = fQTextsChanged) (e3 : fs 3 = fQTextsCome) (e4 : fs 4 = fQTextsGone) (e5 : fs 5 = fQTextsSplit) (e6 : fs 6 = fQTextsJoined) (e7 : fs 7 = fQTextsMoved) {aM : Addr} {kvM : List (Str × V)} (MC : MakersC K w mg aM kvM fs) (T : Glob mg) :
    FnOk P w K mg base CX0 6 f fd ["library", "thing"] (spBehind C) := by
  have HM : ∀ f sp, MkAt fs f sp → Held P w K mg base 5 f sp := fun f sp h => by
    obtain ⟨i, rfl, rfl⟩ := h
    match i with
    | 0 => exact ⟨⟨_, _, by rw [e0]; exact DQTextsPut.ok.mono (by decide), by rw [e0]; exact DQTextsPut.F.kp, DQTextsPut.b⟩⟩
    | 1 => exact ⟨⟨_, _, by rw [e1]; exact DQTextsCut.ok.mono (by decide), by rw [e1]; exact DQTextsCut.F.kp, DQTextsCut.b⟩⟩
    | 2 => exact ⟨⟨_, _, by rw [e2]; exact DQTextsChanged.ok.mono (by decide), by rw [e2]; exact DQTextsChanged.F.kp, DQTextsChanged.b⟩⟩
    | 3 => exact ⟨⟨_, _, by rw [e3]; exact DQTextsCome.ok.mono (by decide), by rw [e3]; exact DQTextsCome.F.kp, DQTextsCome.b⟩⟩
    | 4 => exact ⟨⟨_, _, by rw [e4]; exact DQTextsGone.ok.mono (by decide), by rw [e4]; exact DQTextsGone.F.kp, DQTextsGone.b⟩⟩
    | 5 => exact ⟨⟨_, _, by rw [e5]; exact DQTextsSplit.ok.mono (by decide), by rw [e5]; exact DQTextsSplit.F.kp, DQTextsSplit.b⟩⟩
    | 6 => exact ⟨⟨_, _, by rw [e6]; exact DQTextsJoined.ok.mono (by decide), by rw [e6]; exact DQTextsJoined.F.kp, DQTextsJoined.b⟩⟩
    | 7 => exact ⟨⟨_, _, by rw [e7]; exact DQTextsMoved.ok.mono (by decide), by rw [e7]; exact DQTextsMoved.F.kp, DQTextsMoved.b⟩⟩
  refine F.ok scBehind (fun vs H Q E h => ?_) (fun cdv A outer s H vs Q E hr h => ?_)
  · obtain ⟨s, a, ts, us, e, rfl, _⟩ := h
    rfl
  · obtain ⟨s, a, ts, us, e, rfl, hl, hv, ld, q⟩ := h
    have hT := vals_tg hv ld.shr
    refine ⟨_, (pss_cons (ps_if (pt_not (pt_val (pe_call DQHasForm.ok (hr.mono (by decide)) (by rfl) DQHasForm.g DQHasForm.F.kp DQHasForm.b .nil pass0 (pa_cons (pv 1) pa_nil)))) (pss_one (ps_ret pe_non)) pss_nil)
      (pss_cons (ps_set (i := 2) scBehind.nd rfl (.inl rfl) (pe_ix ix_KD (pe_glob (v := .ref aM) (by rfl) MC.g rfl) (pe_ix ix_tup (pv 1) pe_int (fun _ _ => rfl)) (fun _ _ => rfl)))
      (pss_cons (ps_set (i := 3) scBehind.nd rfl (.inl rfl) (pe_callR (i := 2) (S := MkAt fs) HM (hr.mono (by decide)) (by rfl) (.inl rfl) (pa_cons (pe_fld (pv 0) rfl) (pa_cons (pv 1) pa_nil))))
      (pss_cons (ps_if (pt_cmpR op_isN (pv 3) pe_non (nomark _)) (pss_one (ps_ret pe_non)) pss_nil)
      (pss_one (ps_try_many (Wout := fun _ _ _ _ => False) rfl rfl takes0
        (fun W pn xe tk _ => pss_one (ps_ret (pe_mkS (E := fun σ => WE W σ) L.mak GI hr (by rfl) L.g L.bI (fun σ => passAt tk σ) (pa_cons (pv 3) pa_nil))))
        (HdsOk.cons ⟨rfl, by decide, .inl gB⟩ (fun a oe cls d pn hz hf => pss_one (ps_ret pe_non)) HdsOk.nil))))))), ?_⟩
    refine ⟨.ref a, rfl, .ref a, _, rfl, hT, fun b H1 hb k1 => ⟨_, rfl, ?_⟩⟩
    obtain rfl : b = true := hb.mpr ⟨e, rfl, ld.ok⟩
    have hl1 := hl.same k1
    obtain ⟨⟨dx, at_, h1, h2⟩, _⟩ := hl1
    have ea := k1 _ _ hv
    have ea' := ea
    rw [e.vals_eq] at ea'
    refine iteF ⟨.ref a, rfl, a, _, 0, .str e.word, rfl, rfl, SqT.of ea', atI_nat (j := 0) rfl, aM, e.word, kvM, .ref (fs e.idx), rfl, rfl, MC.kd, MC.lk e, ?_⟩
    refine ⟨fs e.idx, spOf e.idx, rfl, ⟨e.idx, rfl, rfl⟩, .ref s, rfl, s, C, dx, _, .ref at_, rfl, h1, L.cl, L.nt, lk1, .ref a, rfl, ?_⟩
    refine spOf_told ld.ok hl.good ld.shr h2 ea ?_
    rw [ld.to]
    intro r H2 k2 hr2
    refine ⟨_, rfl, rfl, _, rfl, iteF ⟨.ref r, rfl, fun q1 dq nq ndq ndn => ?_⟩⟩
    have ka := Same.new (o := .own q1) ndq
    have nq' : upd H2 dq (.own q1) q1 = none := by
      rw [upd_ne (Ne.symm ndn)]
      exact nq
    have kb := ka.trans (Same.new (o := .ins C dq []) nq')
    refine ⟨q1, dq, r, us, rfl, upd_same, kb _ _ hr2, ld.good.few, ld.good.sg, ld.good.len, fun H' ha' hoo => ⟨rfl, ?_⟩⟩
    have kk : Same H2 H' := fun c u hc => hoo c u (ne_of_none (ka _ _ hc) nq') (kb _ _ hc)
    exact q q1 H' ⟨⟨dq, r, ha', kk _ _ hr2⟩, ld.good.few, ld.good.sg, ld.good.len⟩ ((k1.trans k2).trans kk) (k1.free (k2.free nq))
end
end LawK
set_option maxHeartbeats 4000000
namespace LawK
open PySem PySem.Spec PyProof.Rows L2 Ev
section
variable {P : Program} {w : World} {K : PySem.W.Frag} {mg : Str → Option Value} {base : Heap}
variable {C fI cB : Addr} {fdI : FuncData}
abbrev sIsEdit : Stmt := topS 28
theorem scIsEdit : FnScope ["library", "thing"] ["library", "thing"] (defScope sIsEdit) := ⟨rfl, rfl, rfl, by decide +kernel, rfl, by decide +kernel, by decide +kernel⟩
theorem ok_IsEdit {f : Addr} {fd : FuncData} (F : Fun K "is_edit" "is_edit" sIsEdit f fd) {fBehind : Addr} {fdBehind : FuncData} (DBehind : Dk P w K mg base "_library_behind" sBehind ["library", "thing"] 6 (spBehind C) fBehind fdBehind) (T : Glob mg) : FnOk P w K mg base CX0 7 f fd ["library", "thing"] (spIsEdit C) := by
  refine F.ok scIsEdit (fun vs H Q E h => ?_) (fun cdv A outer s H vs Q E hr h => ?_)
  · obtain ⟨s, a, ts, us, e, rfl, _⟩ := h
    rfl
  · obtain ⟨s, a, ts, us, e, rfl, hl, hv, ld, q⟩ := h
    refine ⟨_, (pss_one (ps_ret (pe_cmpR op_notN (pe_call DBehind.ok (hr.mono (by decide)) (by rfl) DBehind.g DBehind.F.kp DBehind.b .nil pass0 (pa_cons (pv 0) (pa_cons (pv 1) pa_nil))) pe_non (nomark _)))), ?_⟩
    exact ⟨.ref s, rfl, .ref a, rfl, s, a, ts, us, e, rfl, hl, hv, ld, fun r H' hl2 k n => ⟨rfl, q H' k⟩⟩
abbrev sPEdited : Stmt := topS 29
theorem scPEdited : FnScope ["library", "edit", "behind"] ["library", "edit"] (defScope sPEdited) := ⟨rfl, rfl, rfl, by decide +kernel, rfl, by decide +kernel, by decide +kernel⟩
theorem ok_PEdited {f : Addr} {fd : FuncData} (F : Fun K "edited" "edited" sPEdited f fd) {fBehind : Addr} {fdBehind : FuncData} (DBehind : Dk P w K mg base "_library_behind" sBehind ["library", "thing"] 6 (spBehind C) fBehind fdBehind) (T : Glob mg) : FnOk P w K mg base CX0 7 f fd ["library", "edit"] (spBehind C) := by
  refine F.ok scPEdited (fun vs H Q E h => ?_) (fun cdv A outer s H vs Q E hr h => ?_)
  · obtain ⟨s, a, ts, us, e, rfl, _⟩ := h
    rfl
  · obtain ⟨s, a, ts, us, e, rfl, hl, hv, ld, q⟩ := h
    refine ⟨_, (pss_cons (ps_set (i := 2) scPEdited.nd rfl (.inl rfl) (pe_call DBehind.ok (hr.mono (by decide)) (by rfl) DBehind.g DBehind.F.kp DBehind.b .nil pass0 (pa_cons (pv 0) (pa_cons (pv 1) pa_nil))))
      (pss_cons (ps_if (pt_cmpR op_isN (pv 2) pe_non (nomark _)) (pss_one ps_dead) pss_nil)
      (pss_one (ps_ret (pv 2))))), ?_⟩
    exact ⟨.ref s, rfl, .ref a, rfl, s, a, ts, us, e, rfl, hl, hv, ld, fun r H' hl2 k n => ⟨_, rfl, rfl, _, rfl, iteF ⟨_, rfl, q r H' hl2 k n⟩⟩⟩
end
end LawK
set_option maxHeartbeats 4000000
namespace LawK
open PySem PySem.Spec PyProof.Rows L2 Ev
/-- a pair of numbers, or none -/
inductive PrAt (H : Hp) : V → Option (Int × Int) → Prop
  | non : PrAt H .non none
  | pr {b : Addr} {i j : Int} (e : H b = some (.tup [.int i, .int j])) : PrAt H (.ref b) (some (i, j))
theorem PrAt.same {H H' : Hp} (k : Same H H') {v : V} {o : Option (Int × Int)} (h : PrAt H v o) : PrAt H' v o := by
  cases h with
  | non => exact .non
  | pr e => exact .pr (k _ _ e)
/-- many signs, from where, to where -/
structure Step where
  m : Int
  s : Option (Int × Int)
  t : Option (Int × Int)
def StepAt (H : Hp) (v : V) (p : Step) : Prop := ∃ b x y, v = .ref b ∧ H b = some (.tup [.int p.m, x, y]) ∧ PrAt H x p.s ∧ PrAt H y p.t
theorem StepAt.same {H H' : Hp} (k : Same H H') {v : V} {p : Step} (h : StepAt H v p) : StepAt H' v p := by
  obtain ⟨b, x, y, e, h, h1, h2⟩ := h
  exact ⟨b, x, y, e, k _ _ h, h1.same k, h2.same k⟩
def mSteps (ts : List Str) : Ed → List Step
  | .put t a z => [⟨z.length, none, some (t, a)⟩]
  | .cut t a n => [⟨n, some (t, a), none⟩]
  | .change t a z => [⟨z.length, some (t, a), none⟩, ⟨z.length, none, some (t, a)⟩]
  | .come z => [⟨z.length, none, some (ts.length, 0)⟩]
  | .go => []
  | .split t a => [⟨(mText ts t).length - a, some (t, a), some (ts.length, 0)⟩]
  | .join t u => [⟨(mText ts u).length, some (u, 0), some (t, (mText ts t).length)⟩]
  | .move t a n u p => [⟨n, some (t, a), some (u, p)⟩]
def mStepBack (ts : List Str) (p : Step) : Ed := match p.s, p.t with
  | none, none => .go
  | none, some (t, a) => .cut t a p.m
  | some (t, a), none => .put t a (cutS (mText ts t) (some a) (some (a + p.m)))
  | some (t, a), some (u, b) => .move u b p.m t a
def mBack (ts : List Str) : Ed → List Ed
  | .change t a z => [.change t a (cutS (mText ts t) (some a) (some (a + (z.length : Int))))]
  | .go => [.come (Str.ofString "")]
  | ed => ((mSteps ts ed).filter fun p => decide (0 < p.m)).map (mStepBack ts) ++ (match ed with
    | .come _ => [.go]
    | .split _ _ => [.go]
    | _ => [])
def EdAt (H : Hp) (v : V) (e : Ed) : Prop := ∃ b, v = .ref b ∧ H b = some (.tup e.vals)
theorem EdAt.same {H H' : Hp} (k : Same H H') {v : V} {e : Ed} (h : EdAt H v e) : EdAt H' v e := by
  obtain ⟨b, e1, e2⟩ := h
  exact ⟨b, e1, k _ _ e2⟩
def spSteps : Sp := fun vs H Q _ => ∃ (a e : Addr) (ts us : List Str) (ed : Ed), vs = [.ref a, .ref e] ∧ H a = some (.tup (ts.map V.str)) ∧ H e = some (.tup ed.vals) ∧ ts.length ≤ 100 ∧ (∀ t ∈ ts, t.length ≤ 5000) ∧ Shr (some ed.vals) ∧ ed.ok ∧ ed.mk ts = some us ∧
  ∀ l xs H', H l = none → H' l = some (.lst xs) → All2 (StepAt H') xs (mSteps ts ed) → Same H H' → Q (.ref l) H'
/-- a step back has its texts -/
def Step.good (ts : List Str) (p : Step) : Prop := match p.s with
  | none => p.t ≠ none
  | some (t, _) => 0 ≤ t ∧ t < ts.length
def spStepBack : Sp := fun vs H Q _ => ∃ (a : Addr) (ts : List Str) (v : V) (p : Step), vs = [.ref a, v] ∧ H a = some (.tup (ts.map V.str)) ∧ ts.length ≤ 100 ∧ (∀ t ∈ ts, t.length ≤ 5000) ∧ StepAt H v p ∧ p.good ts ∧
  ∀ r H', H' r = some (.tup (mStepBack ts p).vals) → Same H H' → Q (.ref r) H'
theorem mText_at {ts : List Str} {i : Int} (h0 : 0 ≤ i) (h1 : i < ts.length) : atI (ts.map V.str) i = some (.str (mText ts i)) ∧ mText ts i ∈ ts := text_at h0 h1
section
variable {P : Program} {w : World} {K : PySem.W.Frag} {mg : Str → Option Value} {base : Heap}
abbrev sQSteps : Stmt := topS 30
theorem scQSteps : FnScope ["texts", "edit", "word", "_", "text", "other", "place", "at", "many"] ["texts", "edit"] (defScope sQSteps) := ⟨rfl, rfl, rfl, by decide +kernel, rfl, by decide +kernel, by decide +kernel⟩
theorem none_of {H H' : Hp} {a : Addr} (k : Same H H') (n : H' a = none) : H a = none := by
  cases e : H a with
  | none => rfl
  | some u => rw [k _ _ e] at n; cases n
theorem ok_QSteps {f : Addr} {fd : FuncData} (F : Fun K "_steps" "_steps" sQSteps f fd)   (T : Glob mg) : FnOk P w K mg base CX0 1 f fd ["texts", "edit"] spSteps := by
  refine F.ok scQSteps (fun vs H Q E h => ?_) (fun cdv A outer s H vs Q E hr h => ?_)
  · obtain ⟨a, e, ts, us, ed, rfl, _⟩ := h
    rfl
  · refine ⟨_, (pss_cons (ps_set (i := 2) scQSteps.nd rfl (.inl rfl) (pe_ix ix_tup (pv 1) pe_int (fun _ _ => rfl)))
      (pss_cons (ps_if (pt_cmpR op_eq (pv 2) pe_str (nomark _))
      (pss_one (ps_ret (pe_lst pa_nil)))
      pss_nil)
      (pss_cons (ps_if (pt_cmpR op_eq (pv 2) pe_str (nomark _))
      (pss_one (ps_ret (pe_lst (pa_cons (pe_tup (pa_cons (pe_callB call_lenZ (by rfl) T.len PySem.boot_len (pa_cons (pe_ix ix_tup (pv 1) pe_int (fun _ _ => rfl)) pa_nil)) (pa_cons pe_non (pa_cons (pe_tup (pa_cons (pe_callB call_len_seq (by rfl) T.len PySem.boot_len (pa_cons (pv 0) pa_nil)) (pa_cons pe_int pa_nil))) pa_nil)))) pa_nil))))
      pss_nil)
      (pss_cons (ps_if (pt_cmpR op_eq (pv 2) pe_str (nomark _))
      (pss_cons (ps_asg (pv 1) (pg_tup (by rfl) (pgs_cons (pg_name (i := 3) scQSteps.nd rfl (.inl rfl)) (pgs_cons (pg_name (i := 4) scQSteps.nd rfl (.inl rfl)) (pgs_cons (pg_name (i := 5) scQSteps.nd rfl (.inl rfl)) pgs_nil)))))
        (pss_one (ps_ret (pe_lst (pa_cons (pe_tup (pa_cons (pe_callB call_lenZ (by rfl) T.len PySem.boot_len (pa_cons (pe_ix ix_tup (pv 0) (pv 5) (fun _ _ => rfl)) pa_nil)) (pa_cons (pe_tup (pa_cons (pv 5) (pa_cons pe_int pa_nil))) (pa_cons (pe_tup (pa_cons (pv 4) (pa_cons (pe_callB call_lenZ (by rfl) T.len PySem.boot_len (pa_cons (pe_ix ix_tup (pv 0) (pv 4) (fun _ _ => rfl)) pa_nil)) pa_nil))) pa_nil)))) pa_nil)))))
      pss_nil)
      (pss_cons (ps_set (i := 6) scQSteps.nd rfl (.inl rfl) (pe_slice sl_tupM (pv 1) (po_some pe_int) (po_some pe_int)))
      (pss_cons (ps_if (pt_cmpR op_eq (pv 2) pe_str (nomark _))
      (pss_cons (ps_asg (pv 6) (pg_tup (by rfl) (pgs_cons (pg_name (i := 4) scQSteps.nd rfl (.inl rfl)) (pgs_cons (pg_name (i := 7) scQSteps.nd rfl (.inl rfl)) pgs_nil))))
        (pss_one (ps_ret (pe_lst (pa_cons (pe_tup (pa_cons (pe_op op_sub (pe_callB call_lenZ (by rfl) T.len PySem.boot_len (pa_cons (pe_ix ix_tup (pv 0) (pv 4) (fun _ _ => rfl)) pa_nil)) (pv 7)) (pa_cons (pv 6) (pa_cons (pe_tup (pa_cons (pe_callB call_len_seq (by rfl) T.len PySem.boot_len (pa_cons (pv 0) pa_nil)) (pa_cons pe_int pa_nil))) pa_nil)))) pa_nil)))))
      pss_nil)
      (pss_cons (ps_if (pt_cmpR op_eq (pv 2) pe_str (nomark _))
      (pss_one (ps_ret (pe_lst (pa_cons (pe_tup (pa_cons (pe_ix ix_tup (pv 1) pe_int (fun _ _ => rfl)) (pa_cons (pv 6) (pa_cons (pe_slice sl_tupM (pv 1) (po_some pe_int) (po_some pe_int)) pa_nil)))) pa_nil))))
      pss_nil)
      (pss_cons (ps_if (pt_cmpR op_eq (pv 2) pe_str (nomark _))
      (pss_one (ps_ret (pe_lst (pa_cons (pe_tup (pa_cons (pe_ix ix_tup (pv 1) pe_int (fun _ _ => rfl)) (pa_cons (pv 6) (pa_cons pe_non pa_nil)))) pa_nil))))
      pss_nil)
      (pss_cons (ps_if (pt_cmpR op_eq (pv 2) pe_str (nomark _))
      (pss_one (ps_ret (pe_lst (pa_cons (pe_tup (pa_cons (pe_callB call_lenZ (by rfl) T.len PySem.boot_len (pa_cons (pe_ix ix_tup (pv 1) pe_int (fun _ _ => rfl)) pa_nil)) (pa_cons pe_non (pa_cons (pv 6) pa_nil)))) pa_nil))))
      pss_nil)
      (pss_cons (ps_set (i := 8) scQSteps.nd rfl (.inl rfl) (pe_callB call_lenZ (by rfl) T.len PySem.boot_len (pa_cons (pe_ix ix_tup (pv 1) pe_int (fun _ _ => rfl)) pa_nil)))
      (pss_one (ps_ret (pe_lst (pa_cons (pe_tup (pa_cons (pv 8) (pa_cons (pv 6) (pa_cons pe_non pa_nil)))) (pa_cons (pe_tup (pa_cons (pv 8) (pa_cons pe_non (pa_cons (pv 6) pa_nil)))) pa_nil))))))))))))))), ?_⟩
    obtain ⟨a, e, ts, us, ed, rfl, ha, he, few, lens, hS, hok, hm, q⟩ := h
    have s3 : (3 : Nat) ≤ sizeLine := by decide
    have s2 : (2 : Nat) ≤ sizeLine := by decide
    have s1 : (1 : Nat) ≤ sizeLine := by decide
    cases ed with
    | go =>
      refine ⟨.ref e, rfl, e, _, 0, .str _, rfl, rfl, SqT.of he, rfl, ?_⟩
      refine ⟨_, rfl, rfl, _, rfl, seq ?_⟩
      exact ⟨Nat.zero_le _, fun l nl => q l [] _ nl upd_same .nil (Same.new nl)⟩
    | come z =>
      have lz := (hS _ rfl z (by simp [Ed.vals])).1
      refine ⟨.ref e, rfl, e, _, 0, .str _, rfl, rfl, SqT.of he, rfl, ?_⟩
      refine ⟨_, rfl, rfl, _, rfl, sne (by decide +kernel) ?_⟩
      refine ⟨_, rfl, rfl, _, rfl, seq ?_⟩
      refine ⟨.ref e, rfl, e, _, 1, .str z, rfl, rfl, SqT.of he, rfl, z, rfl, len5 (by omega), .ref a, rfl, a, _, rfl, .inr (SqT.of ha), s2, fun b nb => ?_⟩
      have k1 := Same.new (o := .tup [.int ((ts.map V.str).length : Nat), .int 0]) nb
      have hb : upd H b (.tup [.int ((ts.map V.str).length : Nat), .int 0]) b = _ := upd_same
      generalize upd H b (.tup [.int ((ts.map V.str).length : Nat), .int 0]) = H1 at k1 hb ⊢
      rw [List.length_map] at hb
      refine ⟨s3, fun c nc => ?_⟩
      have k2 := Same.new (o := .tup [.int (z.length : Nat), .non, .ref b]) nc
      refine ⟨s1, fun l nl => ?_⟩
      have k3 := Same.new (o := .lst [.ref c]) nl
      exact q l _ _ (none_of ((k1.trans k2)) nl) upd_same (.cons ⟨c, _, _, rfl, k3 _ _ upd_same, .non, .pr (k3 _ _ (k2 _ _ hb))⟩ .nil) ((k1.trans k2).trans k3)
    | join t u =>
      have hm' : mJoin ts t u = some us := hm
      unfold mJoin at hm'
      obtain ⟨t0, u0⟩ := hok
      by_cases c : t < ts.length ∧ u < ts.length ∧ t ≠ u
      case neg => rw [if_neg c] at hm'; cases hm'
      obtain ⟨et, mt⟩ := mText_at t0 c.1
      obtain ⟨eu, mu⟩ := mText_at u0 c.2.1
      have lt := lens _ mt
      have lu := lens _ mu
      refine ⟨.ref e, rfl, e, _, 0, .str _, rfl, rfl, SqT.of he, rfl, ?_⟩
      refine ⟨_, rfl, rfl, _, rfl, sne (by decide +kernel) ?_⟩
      refine ⟨_, rfl, rfl, _, rfl, sne (by decide +kernel) ?_⟩
      refine ⟨_, rfl, rfl, _, rfl, seq ?_⟩
      refine ⟨.ref e, rfl, e, _, rfl, SqT.of he, rfl, .str _, _, rfl, .int t, _, rfl, .int u, [], rfl, rfl, ?_⟩
      refine ⟨.ref a, rfl, .int u, rfl, a, _, u, _, rfl, rfl, SqT.of ha, eu, _, rfl, len5 lu, .int u, rfl, s2, fun b nb => ?_⟩
      have k1 := Same.new (o := .tup [.int u, .int 0]) nb
      refine ⟨.int t, rfl, .ref a, rfl, .int t, rfl, a, _, t, _, rfl, rfl, SqT.of (k1 _ _ ha), et, _, rfl, len5 lt, s2, fun d nd => ?_⟩
      have k2 := Same.new (o := .tup [.int t, .int ((mText ts t).length : Nat)]) nd
      refine ⟨s3, fun c nc => ?_⟩
      have k3 := Same.new (o := .tup [.int ((mText ts u).length : Nat), .ref b, .ref d]) nc
      refine ⟨s1, fun l nl => ?_⟩
      have k4 := Same.new (o := .lst [.ref c]) nl
      exact q l _ _ (none_of ((k1.trans k2).trans k3) nl) upd_same (.cons ⟨c, _, _, rfl, k4 _ _ upd_same, .pr (k4 _ _ (k3 _ _ (k2 _ _ upd_same))), .pr (k4 _ _ (k3 _ _ upd_same))⟩ .nil) (((k1.trans k2).trans k3).trans k4)
    | split t p =>
      have hm' : mSplit ts t p = some us := hm
      unfold mSplit at hm'
      obtain ⟨t0, p0⟩ := hok
      by_cases c : t < ts.length ∧ p ≤ (mText ts t).length
      case neg => rw [if_neg c] at hm'; cases hm'
      obtain ⟨et, mt⟩ := mText_at t0 c.1
      have lt := lens _ mt
      refine ⟨.ref e, rfl, e, _, 0, .str _, rfl, rfl, SqT.of he, rfl, ?_⟩
      refine ⟨_, rfl, rfl, _, rfl, sne (by decide +kernel) ?_⟩
      refine ⟨_, rfl, rfl, _, rfl, sne (by decide +kernel) ?_⟩
      refine ⟨_, rfl, rfl, _, rfl, sne (by decide +kernel) ?_⟩
      refine ⟨.ref e, rfl, 1, rfl, 3, rfl, e, _, rfl, he, fun b H1 k1 hb => ?_⟩
      have hb' : H1 b = some (.tup [.int t, .int p]) := hb
      refine ⟨_, rfl, rfl, _, rfl, seq ?_⟩
      refine ⟨.ref b, rfl, b, _, rfl, SqT.of hb', rfl, .int t, _, rfl, .int p, [], rfl, rfl, ?_⟩
      refine ⟨.ref a, rfl, .int t, rfl, a, _, t, _, rfl, rfl, SqT.of (k1 _ _ ha), et, _, rfl, len5 lt, .int p, rfl, _, _, rfl, rfl, .ref b, rfl, .ref a, rfl, a, _, rfl, .inr (SqT.of (k1 _ _ ha)), s2, fun d nd => ?_⟩
      have k2 := Same.new (o := .tup [.int ((ts.map V.str).length : Nat), .int 0]) nd
      have hd : upd H1 d (.tup [.int ((ts.map V.str).length : Nat), .int 0]) d = _ := upd_same
      generalize upd H1 d (.tup [.int ((ts.map V.str).length : Nat), .int 0]) = H2 at k2 hd ⊢
      rw [List.length_map] at hd
      refine ⟨s3, fun c nc => ?_⟩
      have k3 := Same.new (o := .tup [.int (((mText ts t).length : Nat) - p), .ref b, .ref d]) nc
      refine ⟨s1, fun l nl => ?_⟩
      have k4 := Same.new (o := .lst [.ref c]) nl
      exact q l _ _ (none_of ((k1.trans k2).trans k3) nl) upd_same (.cons ⟨c, _, _, rfl, k4 _ _ upd_same, .pr (k4 _ _ (k3 _ _ (k2 _ _ hb'))), .pr (k4 _ _ (k3 _ _ hd))⟩ .nil) (((k1.trans k2).trans k3).trans k4)
    | move t p n u r =>
      refine ⟨.ref e, rfl, e, _, 0, .str _, rfl, rfl, SqT.of he, rfl, ?_⟩
      refine ⟨_, rfl, rfl, _, rfl, sne (by decide +kernel) ?_⟩
      refine ⟨_, rfl, rfl, _, rfl, sne (by decide +kernel) ?_⟩
      refine ⟨_, rfl, rfl, _, rfl, sne (by decide +kernel) ?_⟩
      refine ⟨.ref e, rfl, 1, rfl, 3, rfl, e, _, rfl, he, fun b H1 k1 hb => ?_⟩
      have hb' : H1 b = some (.tup [.int t, .int p]) := hb
      refine ⟨_, rfl, rfl, _, rfl, sne (by decide +kernel) ?_⟩
      refine ⟨_, rfl, rfl, _, rfl, seq ?_⟩
      refine ⟨.ref e, rfl, e, _, 3, .int n, rfl, rfl, SqT.of (k1 _ _ he), rfl, .ref b, rfl, .ref e, rfl, 4, rfl, 6, rfl, e, _, rfl, k1 _ _ he, fun d H2 k2 hd => ?_⟩
      have hd' : H2 d = some (.tup [.int u, .int r]) := hd
      refine ⟨s3, fun c nc => ?_⟩
      have k3 := Same.new (o := .tup [.int n, .ref b, .ref d]) nc
      refine ⟨s1, fun l nl => ?_⟩
      have k4 := Same.new (o := .lst [.ref c]) nl
      exact q l _ _ (none_of ((k1.trans k2).trans k3) nl) upd_same (.cons ⟨c, _, _, rfl, k4 _ _ upd_same, .pr (k4 _ _ (k3 _ _ (k2 _ _ hb'))), .pr (k4 _ _ (k3 _ _ hd'))⟩ .nil) (((k1.trans k2).trans k3).trans k4)
    | cut t p n =>
      refine ⟨.ref e, rfl, e, _, 0, .str _, rfl, rfl, SqT.of he, rfl, ?_⟩
      refine ⟨_, rfl, rfl, _, rfl, sne (by decide +kernel) ?_⟩
      refine ⟨_, rfl, rfl, _, rfl, sne (by decide +kernel) ?_⟩
      refine ⟨_, rfl, rfl, _, rfl, sne (by decide +kernel) ?_⟩
      refine ⟨.ref e, rfl, 1, rfl, 3, rfl, e, _, rfl, he, fun b H1 k1 hb => ?_⟩
      have hb' : H1 b = some (.tup [.int t, .int p]) := hb
      refine ⟨_, rfl, rfl, _, rfl, sne (by decide +kernel) ?_⟩
      refine ⟨_, rfl, rfl, _, rfl, sne (by decide +kernel) ?_⟩
      refine ⟨_, rfl, rfl, _, rfl, seq ?_⟩
      refine ⟨.ref e, rfl, e, _, 3, .int n, rfl, rfl, SqT.of (k1 _ _ he), rfl, .ref b, rfl, s3, fun c nc => ?_⟩
      have k3 := Same.new (o := .tup [.int n, .ref b, .non]) nc
      refine ⟨s1, fun l nl => ?_⟩
      have k4 := Same.new (o := .lst [.ref c]) nl
      exact q l _ _ (none_of (k1.trans k3) nl) upd_same (.cons ⟨c, _, _, rfl, k4 _ _ upd_same, .pr (k4 _ _ (k3 _ _ hb')), .non⟩ .nil) ((k1.trans k3).trans k4)
    | put t p z =>
      have lz := (hS _ rfl z (by simp [Ed.vals])).1
      refine ⟨.ref e, rfl, e, _, 0, .str _, rfl, rfl, SqT.of he, rfl, ?_⟩
      refine ⟨_, rfl, rfl, _, rfl, sne (by decide +kernel) ?_⟩
      refine ⟨_, rfl, rfl, _, rfl, sne (by decide +kernel) ?_⟩
      refine ⟨_, rfl, rfl, _, rfl, sne (by decide +kernel) ?_⟩
      refine ⟨.ref e, rfl, 1, rfl, 3, rfl, e, _, rfl, he, fun b H1 k1 hb => ?_⟩
      have hb' : H1 b = some (.tup [.int t, .int p]) := hb
      refine ⟨_, rfl, rfl, _, rfl, sne (by decide +kernel) ?_⟩
      refine ⟨_, rfl, rfl, _, rfl, sne (by decide +kernel) ?_⟩
      refine ⟨_, rfl, rfl, _, rfl, sne (by decide +kernel) ?_⟩
      refine ⟨_, rfl, rfl, _, rfl, seq ?_⟩
      refine ⟨.ref e, rfl, e, _, 3, .str z, rfl, rfl, SqT.of (k1 _ _ he), rfl, z, rfl, len5 (by omega), .ref b, rfl, s3, fun c nc => ?_⟩
      have k3 := Same.new (o := .tup [.int (z.length : Nat), .non, .ref b]) nc
      refine ⟨s1, fun l nl => ?_⟩
      have k4 := Same.new (o := .lst [.ref c]) nl
      exact q l _ _ (none_of (k1.trans k3) nl) upd_same (.cons ⟨c, _, _, rfl, k4 _ _ upd_same, .non, .pr (k4 _ _ (k3 _ _ hb'))⟩ .nil) ((k1.trans k3).trans k4)
    | change t p z =>
      have lz := (hS _ rfl z (by simp [Ed.vals])).1
      refine ⟨.ref e, rfl, e, _, 0, .str _, rfl, rfl, SqT.of he, rfl, ?_⟩
      refine ⟨_, rfl, rfl, _, rfl, sne (by decide +kernel) ?_⟩
      refine ⟨_, rfl, rfl, _, rfl, sne (by decide +kernel) ?_⟩
      refine ⟨_, rfl, rfl, _, rfl, sne (by decide +kernel) ?_⟩
      refine ⟨.ref e, rfl, 1, rfl, 3, rfl, e, _, rfl, he, fun b H1 k1 hb => ?_⟩
      have hb' : H1 b = some (.tup [.int t, .int p]) := hb
      refine ⟨_, rfl, rfl, _, rfl, sne (by decide +kernel) ?_⟩
      refine ⟨_, rfl, rfl, _, rfl, sne (by decide +kernel) ?_⟩
      refine ⟨_, rfl, rfl, _, rfl, sne (by decide +kernel) ?_⟩
      refine ⟨_, rfl, rfl, _, rfl, sne (by decide +kernel) ?_⟩
      refine ⟨.ref e, rfl, e, _, 3, .str z, rfl, rfl, SqT.of (k1 _ _ he), rfl, z, rfl, len5 (by omega), ?_⟩
      refine ⟨_, rfl, .ref b, rfl, s3, fun c nc => ?_⟩
      have k3 := Same.new (o := .tup [.int (z.length : Nat), .ref b, .non]) nc
      refine ⟨_, rfl, .ref b, rfl, s3, fun d nd => ?_⟩
      have k4 := Same.new (o := .tup [.int (z.length : Nat), .non, .ref b]) nd
      refine ⟨s2, fun l nl => ?_⟩
      have k5 := Same.new (o := .lst [.ref c, .ref d]) nl
      have hb5 := k5 _ _ (k4 _ _ (k3 _ _ hb'))
      exact q l _ _ (none_of ((k1.trans k3).trans k4) nl) upd_same (.cons ⟨c, _, _, rfl, k5 _ _ (k4 _ _ upd_same), .pr hb5, .non⟩ (.cons ⟨d, _, _, rfl, k5 _ _ upd_same, .non, .pr hb5⟩ .nil)) (((k1.trans k3).trans k4).trans k5)
end
end LawK
set_option maxHeartbeats 4000000
namespace LawK
open PySem PySem.Spec PyProof.Rows L2 Ev
def mTail (m : Int) (t : Option (Int × Int)) (x a : Int) : Option (Int × Int) := match t with
  | some (u, c) => if x = u ∧ c ≤ a then some (x, a + m) else some (x, a)
  | none => some (x, a)
/-- where a step takes a sign: none if it is gone -/
def mTakenBy (p : Step) (q : Int × Int) : Option (Int × Int) := match p.s with
  | none => mTail p.m p.t q.1 q.2
  | some (t, b) => if q.1 = t ∧ b ≤ q.2 then (if q.2 - b < p.m then p.t.map (fun r => (r.1, r.2 + (q.2 - b))) else mTail p.m p.t q.1 (q.2 - p.m)) else mTail p.m p.t q.1 q.2
def spTakenBy : Sp := fun vs H Q _ => ∃ (v : V) (p : Step) (b : Addr) (x a : Int), vs = [v, .ref b] ∧ StepAt H v p ∧ H b = some (.tup [.int x, .int a]) ∧
  ∀ y H', PrAt H' y (mTakenBy p (x, a)) → Same H H' → Q y H'
def mTakenOn : List Step → Int × Int → Option (Int × Int)
  | [], q => some q
  | p :: ps, q => (mTakenBy p q).bind (mTakenOn ps)
def spTakenOn : Sp := fun vs H Q _ => ∃ (l : Addr) (xs : List V) (ps : List Step) (b : Addr) (x a : Int), vs = [.ref l, .ref b] ∧ H l = some (.lst xs) ∧ All2 (StepAt H) xs ps ∧ H b = some (.tup [.int x, .int a]) ∧
  ∀ y H', PrAt H' y (mTakenOn ps (x, a)) → Same H H' → Q y H'
section
variable {P : Program} {w : World} {K : PySem.W.Frag} {mg : Str → Option Value} {base : Heap}
abbrev sQTakenBy : Stmt := topS 31
theorem scQTakenBy : FnScope ["step", "place", "many", "source", "target", "text", "at", "within"] ["step", "place"] (defScope sQTakenBy) := ⟨rfl, rfl, rfl, by decide +kernel, rfl, by decide +kernel, by decide +kernel⟩
theorem ok_QTakenBy {f : Addr} {fd : FuncData} (F : Fun K "_taken_by" "_taken_by" sQTakenBy f fd)   (T : Glob mg) : FnOk P w K mg base CX0 1 f fd ["step", "place"] spTakenBy := by
  refine F.ok scQTakenBy (fun vs H Q E h => ?_) (fun cdv A outer s H vs Q E hr h => ?_)
  · obtain ⟨v, p, b, x, a, rfl, _⟩ := h
    rfl
  · refine ⟨_, (pss_cons (ps_asg (pv 0) (pg_tup (by rfl) (pgs_cons (pg_name (i := 2) scQTakenBy.nd rfl (.inl rfl)) (pgs_cons (pg_name (i := 3) scQTakenBy.nd rfl (.inl rfl)) (pgs_cons (pg_name (i := 4) scQTakenBy.nd rfl (.inl rfl)) pgs_nil)))))
      (pss_cons (ps_asg (pv 1) (pg_tup (by rfl) (pgs_cons (pg_name (i := 5) scQTakenBy.nd rfl (.inl rfl)) (pgs_cons (pg_name (i := 6) scQTakenBy.nd rfl (.inl rfl)) pgs_nil))))
      (pss_cons (ps_if (PW.pt (pw_and (pt_cmpR op_notN (pv 3) pe_non (nomark _)) (pw_and (pt_cmpR op_eq (pv 5) (pe_ix ix_tup (pv 3) pe_int (fun _ _ => rfl)) (nomark _)) (pw_and1 (pt_cmpR op_ge (pv 6) (pe_ix ix_tup (pv 3) pe_int (fun _ _ => rfl)) (nomark _))))))
      (pss_cons (ps_set (i := 7) scQTakenBy.nd rfl (.inl rfl) (pe_op op_sub (pv 6) (pe_ix ix_tup (pv 3) pe_int (fun _ _ => rfl))))
        (pss_cons (ps_if (pt_cmpR op_lt (pv 7) (pv 2) (nomark _))
        (pss_one (ps_ret (pe_ifExp (pt_cmpR op_isN (pv 4) pe_non (nomark _)) pe_non (pe_tup (pa_cons (pe_ix ix_tup (pv 4) pe_int (fun _ _ => rfl)) (pa_cons (pe_op op_add (pe_ix ix_tup (pv 4) pe_int (fun _ _ => rfl)) (pv 7)) pa_nil))))))
        pss_nil)
        (pss_one (ps_aug (i := 6) scQTakenBy.nd rfl (.inl rfl) (pv 2) ip_sub))))
      pss_nil)
      (pss_cons (ps_if (PW.pt (pw_and (pt_cmpR op_notN (pv 4) pe_non (nomark _)) (pw_and (pt_cmpR op_eq (pv 5) (pe_ix ix_tup (pv 4) pe_int (fun _ _ => rfl)) (nomark _)) (pw_and1 (pt_cmpR op_ge (pv 6) (pe_ix ix_tup (pv 4) pe_int (fun _ _ => rfl)) (nomark _))))))
      (pss_one (ps_aug (i := 6) scQTakenBy.nd rfl (.inl rfl) (pv 2) ip_add))
      pss_nil)
      (pss_one (ps_ret (pe_tup (pa_cons (pv 5) (pa_cons (pv 6) pa_nil))))))))), ?_⟩
    obtain ⟨v, p, b, x, a, rfl, ⟨b0, xv, yv, rfl, hb0, hx, hy⟩, hb, q⟩ := h
    obtain ⟨m, sp, tp⟩ := p
    have s2 : (2 : Nat) ≤ sizeLine := by decide
    refine ⟨.ref b0, rfl, b0, _, rfl, SqT.of hb0, rfl, .int m, _, rfl, xv, _, rfl, yv, [], rfl, rfl, ?_⟩
    refine ⟨.ref b, rfl, b, _, rfl, SqT.of hb, rfl, .int x, _, rfl, .int a, [], rfl, rfl, ?_⟩
    dsimp only at hx hy q
    cases hx with
    | non =>
      have eq0 : mTakenBy ⟨m, none, tp⟩ (x, a) = mTail m tp x a := rfl
      refine ⟨_, rfl, rfl, _, rfl, iteF ?_⟩
      cases hy with
      | non =>
        refine ⟨_, rfl, rfl, _, rfl, iteF ?_⟩
        exact ⟨.int x, rfl, .int (a), rfl, s2, fun r nr => q _ _ (by rw [eq0]; exact .pr upd_same) (Same.new nr)⟩
      | @pr d u c hd =>
        refine ⟨_, rfl, rfl, _, rfl, iteT ?_⟩
        refine ⟨.int x, rfl, .ref d, rfl, d, _, 0, .int u, rfl, rfl, SqT.of hd, rfl, rfl, _, rfl, ite2 (fun c1 => ?_) (fun c1 => ?_)⟩
        · have e1 : x = u := V.int.inj (of_decide_eq_true c1)
          refine ⟨.int (a), rfl, .ref d, rfl, d, _, 1, .int c, rfl, rfl, SqT.of hd, rfl, _, _, rfl, rfl, _, rfl, ite2 (fun c2 => ?_) (fun c2 => ?_)⟩
          · have e2 : c ≤ (a) := of_decide_eq_true c2
            refine ⟨.int (a), rfl, .int m, rfl, (a), m, rfl, rfl, ?_⟩
            exact ⟨.int x, rfl, .int ((a) + m), rfl, s2, fun r nr => q _ _ (by rw [eq0]; show PrAt _ _ (if _ then _ else _); rw [if_pos ⟨e1, e2⟩]; exact .pr upd_same) (Same.new nr)⟩
          · have e2 : ¬ c ≤ (a) := fun z => c2 (decide_eq_true z)
            exact ⟨.int x, rfl, .int (a), rfl, s2, fun r nr => q _ _ (by rw [eq0]; show PrAt _ _ (if _ then _ else _); rw [if_neg (fun z => e2 z.2)]; exact .pr upd_same) (Same.new nr)⟩
        · have e1 : ¬ x = u := fun z => c1 (decide_eq_true (congrArg V.int z))
          exact ⟨.int x, rfl, .int (a), rfl, s2, fun r nr => q _ _ (by rw [eq0]; show PrAt _ _ (if _ then _ else _); rw [if_neg (fun z => e1 z.1)]; exact .pr upd_same) (Same.new nr)⟩
    | @pr c0 t b1 hc =>
      have eq0 : mTakenBy ⟨m, some (t, b1), tp⟩ (x, a) = if x = t ∧ b1 ≤ a then (if a - b1 < m then tp.map (fun r => (r.1, r.2 + (a - b1))) else mTail m tp x (a - m)) else mTail m tp x a := rfl
      refine ⟨_, rfl, rfl, _, rfl, iteT ?_⟩
      refine ⟨.int x, rfl, .ref c0, rfl, c0, _, 0, .int t, rfl, rfl, SqT.of hc, rfl, rfl, _, rfl, ite2 (fun d1 => ?_) (fun d1 => ?_)⟩
      · have f1 : x = t := V.int.inj (of_decide_eq_true d1)
        refine ⟨.int a, rfl, .ref c0, rfl, c0, _, 1, .int b1, rfl, rfl, SqT.of hc, rfl, _, _, rfl, rfl, _, rfl, ite2 (fun d2 => ?_) (fun d2 => ?_)⟩
        · have f2 : b1 ≤ a := of_decide_eq_true d2
          rw [if_pos ⟨f1, f2⟩] at eq0
          refine ⟨.int a, rfl, .ref c0, rfl, c0, _, 1, .int b1, rfl, rfl, SqT.of hc, rfl, _, _, rfl, rfl, ?_⟩
          refine ⟨.int (a - b1), rfl, .int m, rfl, _, _, rfl, rfl, _, rfl, ite2 (fun d3 => ?_) (fun d3 => ?_)⟩
          · have f3 : a - b1 < m := of_decide_eq_true d3
            rw [if_pos f3] at eq0
            cases hy with
            | non => exact ⟨_, rfl, rfl, _, rfl, iteT (q _ _ (by rw [eq0]; exact .non) (Same.refl _))⟩
            | @pr d u c hd =>
              refine ⟨_, rfl, rfl, _, rfl, iteF ?_⟩
              exact ⟨.ref d, rfl, d, _, 0, .int u, rfl, rfl, SqT.of hd, rfl, .ref d, rfl, d, _, 1, .int c, rfl, rfl, SqT.of hd, rfl, .int (a - b1), rfl, _, _, rfl, rfl, s2, fun r nr => q _ _ (by rw [eq0]; exact .pr upd_same) (Same.new nr)⟩
          · have f3 : ¬ a - b1 < m := fun z => d3 (decide_eq_true z)
            rw [if_neg f3] at eq0
            refine ⟨.int a, rfl, .int m, rfl, a, m, rfl, rfl, ?_⟩
            cases hy with
            | non =>
              refine ⟨_, rfl, rfl, _, rfl, iteF ?_⟩
              exact ⟨.int x, rfl, .int (a - m), rfl, s2, fun r nr => q _ _ (by rw [eq0]; exact .pr upd_same) (Same.new nr)⟩
            | @pr d u c hd =>
              refine ⟨_, rfl, rfl, _, rfl, iteT ?_⟩
              refine ⟨.int x, rfl, .ref d, rfl, d, _, 0, .int u, rfl, rfl, SqT.of hd, rfl, rfl, _, rfl, ite2 (fun c1 => ?_) (fun c1 => ?_)⟩
              · have e1 : x = u := V.int.inj (of_decide_eq_true c1)
                refine ⟨.int (a - m), rfl, .ref d, rfl, d, _, 1, .int c, rfl, rfl, SqT.of hd, rfl, _, _, rfl, rfl, _, rfl, ite2 (fun c2 => ?_) (fun c2 => ?_)⟩
                · have e2 : c ≤ (a - m) := of_decide_eq_true c2
                  refine ⟨.int (a - m), rfl, .int m, rfl, (a - m), m, rfl, rfl, ?_⟩
                  exact ⟨.int x, rfl, .int ((a - m) + m), rfl, s2, fun r nr => q _ _ (by rw [eq0]; show PrAt _ _ (if _ then _ else _); rw [if_pos ⟨e1, e2⟩]; exact .pr upd_same) (Same.new nr)⟩
                · have e2 : ¬ c ≤ (a - m) := fun z => c2 (decide_eq_true z)
                  exact ⟨.int x, rfl, .int (a - m), rfl, s2, fun r nr => q _ _ (by rw [eq0]; show PrAt _ _ (if _ then _ else _); rw [if_neg (fun z => e2 z.2)]; exact .pr upd_same) (Same.new nr)⟩
              · have e1 : ¬ x = u := fun z => c1 (decide_eq_true (congrArg V.int z))
                exact ⟨.int x, rfl, .int (a - m), rfl, s2, fun r nr => q _ _ (by rw [eq0]; show PrAt _ _ (if _ then _ else _); rw [if_neg (fun z => e1 z.1)]; exact .pr upd_same) (Same.new nr)⟩
        · have f2 : ¬ b1 ≤ a := fun z => d2 (decide_eq_true z)
          rw [if_neg (fun z => f2 z.2)] at eq0
          cases hy with
          | non =>
            refine ⟨_, rfl, rfl, _, rfl, iteF ?_⟩
            exact ⟨.int x, rfl, .int (a), rfl, s2, fun r nr => q _ _ (by rw [eq0]; exact .pr upd_same) (Same.new nr)⟩
          | @pr d u c hd =>
            refine ⟨_, rfl, rfl, _, rfl, iteT ?_⟩
            refine ⟨.int x, rfl, .ref d, rfl, d, _, 0, .int u, rfl, rfl, SqT.of hd, rfl, rfl, _, rfl, ite2 (fun c1 => ?_) (fun c1 => ?_)⟩
            · have e1 : x = u := V.int.inj (of_decide_eq_true c1)
              refine ⟨.int (a), rfl, .ref d, rfl, d, _, 1, .int c, rfl, rfl, SqT.of hd, rfl, _, _, rfl, rfl, _, rfl, ite2 (fun c2 => ?_) (fun c2 => ?_)⟩
              · have e2 : c ≤ (a) := of_decide_eq_true c2
                refine ⟨.int (a), rfl, .int m, rfl, (a), m, rfl, rfl, ?_⟩
                exact ⟨.int x, rfl, .int ((a) + m), rfl, s2, fun r nr => q _ _ (by rw [eq0]; show PrAt _ _ (if _ then _ else _); rw [if_pos ⟨e1, e2⟩]; exact .pr upd_same) (Same.new nr)⟩
              · have e2 : ¬ c ≤ (a) := fun z => c2 (decide_eq_true z)
                exact ⟨.int x, rfl, .int (a), rfl, s2, fun r nr => q _ _ (by rw [eq0]; show PrAt _ _ (if _ then _ else _); rw [if_neg (fun z => e2 z.2)]; exact .pr upd_same) (Same.new nr)⟩
            · have e1 : ¬ x = u := fun z => c1 (decide_eq_true (congrArg V.int z))
              exact ⟨.int x, rfl, .int (a), rfl, s2, fun r nr => q _ _ (by rw [eq0]; show PrAt _ _ (if _ then _ else _); rw [if_neg (fun z => e1 z.1)]; exact .pr upd_same) (Same.new nr)⟩
      · have f1 : ¬ x = t := fun z => d1 (decide_eq_true (congrArg V.int z))
        rw [if_neg (fun z => f1 z.1)] at eq0
        cases hy with
        | non =>
          refine ⟨_, rfl, rfl, _, rfl, iteF ?_⟩
          exact ⟨.int x, rfl, .int (a), rfl, s2, fun r nr => q _ _ (by rw [eq0]; exact .pr upd_same) (Same.new nr)⟩
        | @pr d u c hd =>
          refine ⟨_, rfl, rfl, _, rfl, iteT ?_⟩
          refine ⟨.int x, rfl, .ref d, rfl, d, _, 0, .int u, rfl, rfl, SqT.of hd, rfl, rfl, _, rfl, ite2 (fun c1 => ?_) (fun c1 => ?_)⟩
          · have e1 : x = u := V.int.inj (of_decide_eq_true c1)
            refine ⟨.int (a), rfl, .ref d, rfl, d, _, 1, .int c, rfl, rfl, SqT.of hd, rfl, _, _, rfl, rfl, _, rfl, ite2 (fun c2 => ?_) (fun c2 => ?_)⟩
            · have e2 : c ≤ (a) := of_decide_eq_true c2
              refine ⟨.int (a), rfl, .int m, rfl, (a), m, rfl, rfl, ?_⟩
              exact ⟨.int x, rfl, .int ((a) + m), rfl, s2, fun r nr => q _ _ (by rw [eq0]; show PrAt _ _ (if _ then _ else _); rw [if_pos ⟨e1, e2⟩]; exact .pr upd_same) (Same.new nr)⟩
            · have e2 : ¬ c ≤ (a) := fun z => c2 (decide_eq_true z)
              exact ⟨.int x, rfl, .int (a), rfl, s2, fun r nr => q _ _ (by rw [eq0]; show PrAt _ _ (if _ then _ else _); rw [if_neg (fun z => e2 z.2)]; exact .pr upd_same) (Same.new nr)⟩
          · have e1 : ¬ x = u := fun z => c1 (decide_eq_true (congrArg V.int z))
            exact ⟨.int x, rfl, .int (a), rfl, s2, fun r nr => q _ _ (by rw [eq0]; show PrAt _ _ (if _ then _ else _); rw [if_neg (fun z => e1 z.1)]; exact .pr upd_same) (Same.new nr)⟩
abbrev sQTakenOn : Stmt := topS 32
theorem scQTakenOn : FnScope ["steps", "place", "step"] ["steps", "place"] (defScope sQTakenOn) := ⟨rfl, rfl, rfl, by decide +kernel, rfl, by decide +kernel, by decide +kernel⟩
theorem ok_QTakenOn {f : Addr} {fd : FuncData} (F : Fun K "_taken_on" "_taken_on" sQTakenOn f fd)  {fQTakenBy : Addr} {fdQTakenBy : FuncData} (DQTakenBy : Dk P w K mg base "_taken_by" sQTakenBy ["step", "place"] 1 spTakenBy fQTakenBy fdQTakenBy) (T : Glob mg) : FnOk P w K mg base CX0 2 f fd ["steps", "place"] spTakenOn := by
  refine F.ok scQTakenOn (fun vs H Q E h => ?_) (fun cdv A outer s H vs Q E hr h => ?_)
  · obtain ⟨l, xs, ps, b, x, a, rfl, _⟩ := h
    rfl
  · refine ⟨_, (pss_cons (ps_for PassesOwn.never rfl (pi_list (pv 0)) (pg_name (i := 2) scQTakenOn.nd rfl (.inl rfl))
      (pss_cons (ps_set (i := 1) scQTakenOn.nd rfl (.inl rfl) (pe_call DQTakenBy.ok (hr.mono (by decide)) (by rfl) DQTakenBy.g DQTakenBy.F.kp DQTakenBy.b .nil pass0 (pa_cons (pv 2) (pa_cons (pv 1) pa_nil))))
        (pss_one (ps_if (pt_cmpR op_isN (pv 1) pe_non (nomark _))
        (pss_one (ps_ret pe_non))
        pss_nil))))
      (pss_one (ps_ret (pv 1)))), ?_⟩
    obtain ⟨l, xs, ps, b, x, a, rfl, hl, hall, hb, q⟩ := h
    refine ⟨.ref l, rfl, l, rfl, ⟨_, sq_of hl⟩, for_list (xs := xs) (fun i σ H' => ∃ (c : Addr) (x1 a1 : Int) (y : Option V), σ = [some (.ref l), some (.ref c), y] ∧ Same H H' ∧ H' c = some (.tup [.int x1, .int a1]) ∧ mTakenOn ps (x, a) = mTakenOn (ps.drop i) (x1, a1)) ⟨b, x, a, none, rfl, Same.refl H, hb, rfl⟩ (fun i σ H' _ pv => by obtain ⟨c, x1, a1, y, _, k, _⟩ := pv; exact sq_of (k _ _ hl)) ?_ ?_⟩
    · rintro i v σ H' hv ⟨c, x1, a1, y, rfl, k, hc, em⟩
      obtain ⟨p, hp, hst⟩ := hall.at hv
      have ed : ps.drop i = p :: ps.drop (i + 1) := by
        have hi := (List.getElem?_eq_some_iff.mp hp)
        rw [List.drop_eq_getElem_cons hi.1, hi.2]
      rw [ed] at em
      refine ⟨v, rfl, .ref c, rfl, v, p, c, x1, a1, rfl, hst.same k, hc, fun y1 H2 hy1 k2 => ?_⟩
      have em' : mTakenOn ps (x, a) = (mTakenBy p (x1, a1)).bind (mTakenOn (ps.drop (i + 1))) := em
      generalize mTakenBy p (x1, a1) = r at hy1 em'
      cases hy1 with
      | non =>
        refine ⟨_, rfl, rfl, _, rfl, iteT (q _ _ (by rw [em']; exact .non) (k.trans k2))⟩
      | @pr d u1 c1 hd =>
        refine ⟨_, rfl, rfl, _, rfl, iteF ⟨d, u1, c1, _, rfl, k.trans k2, hd, em'⟩⟩
    · rintro σ H' ⟨c, x1, a1, y, rfl, k, hc, em⟩
      have e0 : ps.drop xs.length = [] := List.drop_of_length_le (by rw [hall.len]; exact Nat.le_refl _)
      rw [e0] at em
      exact ⟨_, rfl, q _ _ (by rw [em]; exact .pr hc) k⟩
end
end LawK
set_option maxHeartbeats 4000000
namespace LawK
open PySem PySem.Spec PyProof.Rows L2 Ev
/-- the signs that an edit brings -/
def Ed.fresh : Ed → Str
  | .put _ _ z => z
  | .change _ _ z => z
  | .come z => z
  | _ => Str.ofString ""
def Step.turn (p : Step) : Step := ⟨p.m, p.t, p.s⟩
theorem StepAt.at {H : Hp} {D : Addr} {xs ys : List V} (hD : H D = some (.lst xs)) {v : V} {p : Step} (h : StepAt H v p) : StepAt (upd H D (.lst ys)) v p := by
  obtain ⟨b, x, y, e, h, h1, h2⟩ := h
  have pr : ∀ {v o}, PrAt H v o → PrAt (upd H D (.lst ys)) v o := fun {v o} h => by
    cases h with
    | non => exact .non
    | pr e => exact .pr (by rw [upd_ne fun z => by rw [z, hD] at e; cases e]; exact e)
  exact ⟨b, x, y, e, by rw [upd_ne fun z => by rw [z, hD] at h; cases h]; exact h, pr h1, pr h2⟩
def mAhead (ts : List Str) (ed : Ed) : List Step := (mSteps ts ed).reverse.map Step.turn

theorem str_ext {a b : Str} (h : a.cps.toList = b.cps.toList) : a = b := by
  cases a; cases b
  exact congrArg _ (Array.toList_inj.mp h)
theorem ch_app (a b : Str) : (a ++ b).cps.toList = a.cps.toList ++ b.cps.toList := by
  show (a.cps ++ b.cps).toList = _
  exact Array.toList_append
theorem lput {α : Type} (x z : List α) (a : Nat) (h : a ≤ x.length) : (x.take a ++ z ++ x.drop a).take a ++ (x.take a ++ z ++ x.drop a).drop (a + z.length) = x := by
  have h1 : (x.take a).length = a := by simp [h]
  have e1 : (x.take a ++ z ++ x.drop a).take a = x.take a := by
    rw [List.append_assoc, List.take_append_of_le_length (by omega), List.take_take, Nat.min_self]
  have e2 : (x.take a ++ z ++ x.drop a).drop (a + z.length) = x.drop a := by
    rw [List.drop_append_of_le_length (by rw [List.length_append]; omega), List.drop_of_length_le (by rw [List.length_append]; omega), List.nil_append]
  rw [e1, e2, List.take_append_drop]
theorem lcut {α : Type} (x : List α) (a n : Nat) (h : a + n ≤ x.length) : (x.take a ++ x.drop (a + n)).take a ++ (x.drop a).take n ++ (x.take a ++ x.drop (a + n)).drop a = x := by
  have h1 : (x.take a).length = a := by simp; omega
  have e1 : (x.take a ++ x.drop (a + n)).take a = x.take a := by
    rw [List.take_append_of_le_length (by omega), List.take_take, Nat.min_self]
  have e2 : (x.take a ++ x.drop (a + n)).drop a = x.drop (a + n) := by
    rw [List.drop_append_of_le_length (by omega), List.drop_of_length_le (by omega), List.nil_append]
  rw [e1, e2, List.append_assoc, ← List.drop_drop, List.take_append_drop, List.take_append_drop]
theorem lchange {α : Type} (x z : List α) (a : Nat) (h : a + z.length ≤ x.length) : (x.take a ++ z ++ x.drop (a + z.length)).take a ++ (x.drop a).take z.length ++ (x.take a ++ z ++ x.drop (a + z.length)).drop (a + z.length) = x := by
  have h1 : (x.take a).length = a := by simp; omega
  have e1 : (x.take a ++ z ++ x.drop (a + z.length)).take a = x.take a := by
    rw [List.append_assoc, List.take_append_of_le_length (by omega), List.take_take, Nat.min_self]
  have e2 : (x.take a ++ z ++ x.drop (a + z.length)).drop (a + z.length) = x.drop (a + z.length) := by
    rw [List.drop_append_of_le_length (by rw [List.length_append]; omega), List.drop_of_length_le (by rw [List.length_append]; omega), List.nil_append]
  rw [e1, e2, List.append_assoc, ← List.drop_drop, List.take_append_drop, List.take_append_drop]
theorem lmid {α : Type} (x z : List α) (a : Nat) (h : a ≤ x.length) : ((x.take a ++ z ++ x.drop a).drop a).take z.length = z := by
  have h1 : (x.take a).length = a := by simp [h]
  rw [List.append_assoc, List.drop_append_of_le_length (by omega), List.drop_of_length_le (by omega), List.nil_append, List.take_append_of_le_length (Nat.le_refl _), List.take_of_length_le (Nat.le_refl _)]
theorem spt {x z : Str} {a : Int} (a0 : 0 ≤ a) (a1 : a ≤ x.length) : cutS (cutS x none (some a) ++ z ++ cutS x (some a) none) none (some a) ++ cutS (cutS x none (some a) ++ z ++ cutS x (some a) none) (some (a + (z.length : Int))) none = x := by
  obtain ⟨n, rfl⟩ := Int.eq_ofNat_of_zero_le a0
  have a2 : n ≤ x.cps.toList.length := by rw [← len_S]; omega
  apply str_ext
  have e := lput x.cps.toList z.cps.toList n a2
  rw [ch_app, cutS_to a0, cutS_from (by omega), ch_app, ch_app, cutS_to a0, cutS_from a0]
  have e3 : ((n : Int) + (z.length : Int)).toNat = n + z.cps.toList.length := by rw [← len_S]; omega
  rw [e3, Int.toNat_natCast]
  exact e
theorem sct {x : Str} {a n : Int} (a0 : 0 ≤ a) (n0 : 0 ≤ n) (a1 : a + n ≤ x.length) : cutS (cutS x none (some a) ++ cutS x (some (a + n)) none) none (some a) ++ cutS x (some a) (some (a + n)) ++ cutS (cutS x none (some a) ++ cutS x (some (a + n)) none) (some a) none = x := by
  obtain ⟨k, rfl⟩ := Int.eq_ofNat_of_zero_le a0
  obtain ⟨m, rfl⟩ := Int.eq_ofNat_of_zero_le n0
  have a2 : k + m ≤ x.cps.toList.length := by rw [← len_S]; omega
  apply str_ext
  have e := lcut x.cps.toList k m a2
  rw [ch_app, ch_app, cutS_to a0, cutS_from a0, cutS_of a0 (by omega), ch_app, cutS_to a0, cutS_from (by omega)]
  have e3 : ((k : Int) + (m : Int)).toNat = k + m := by omega
  have e4 : ((k : Int) + (m : Int) - (k : Int)).toNat = m := by omega
  rw [e3, e4, Int.toNat_natCast]
  exact e
theorem sch {x z w : Str} {a : Int} (a0 : 0 ≤ a) (a1 : a + (z.length : Int) ≤ x.length) (hw : w = cutS x (some a) (some (a + (z.length : Int)))) : cutS (cutS x none (some a) ++ z ++ cutS x (some (a + (z.length : Int))) none) none (some a) ++ w ++ cutS (cutS x none (some a) ++ z ++ cutS x (some (a + (z.length : Int))) none) (some (a + (z.length : Int))) none = x := by
  subst hw
  obtain ⟨k, rfl⟩ := Int.eq_ofNat_of_zero_le a0
  have a2 : k + z.cps.toList.length ≤ x.cps.toList.length := by rw [← len_S, ← len_S]; omega
  apply str_ext
  have e := lchange x.cps.toList z.cps.toList k a2
  rw [ch_app, ch_app, cutS_to a0, cutS_from (by omega), cutS_of a0 (by omega), ch_app, ch_app, cutS_to a0, cutS_from (by omega)]
  have e3 : ((k : Int) + (z.length : Int)).toNat = k + z.cps.toList.length := by rw [← len_S]; omega
  have e4 : ((k : Int) + (z.length : Int) - (k : Int)).toNat = z.cps.toList.length := by rw [← len_S]; omega
  rw [e3, e4, Int.toNat_natCast]
  exact e
theorem smid {x z : Str} {a : Int} (a0 : 0 ≤ a) (a1 : a ≤ x.length) : cutS (cutS x none (some a) ++ z ++ cutS x (some a) none) (some a) (some (a + (z.length : Int))) = z := by
  obtain ⟨k, rfl⟩ := Int.eq_ofNat_of_zero_le a0
  have a2 : k ≤ x.cps.toList.length := by rw [← len_S]; omega
  apply str_ext
  have e := lmid x.cps.toList z.cps.toList k a2
  rw [cutS_of a0 (by omega), ch_app, ch_app, cutS_to a0, cutS_from a0]
  have e4 : ((k : Int) + (z.length : Int) - (k : Int)).toNat = z.cps.toList.length := by rw [← len_S]; omega
  rw [e4, Int.toNat_natCast]
  exact e
theorem cut_mid_len {x : Str} {a n : Int} (a0 : 0 ≤ a) (n0 : 0 ≤ n) (a1 : a + n ≤ x.length) : ((cutS x (some a) (some (a + n))).length : Int) = n := by
  rw [len_S, cutS_of a0 (by omega), List.length_take, List.length_drop, ← len_S]
  omega
theorem cut_two {x : Str} {a : Int} (a0 : 0 ≤ a) : cutS x none (some a) ++ cutS x (some a) none = x := by
  apply str_ext
  rw [ch_app, cutS_to a0, cutS_from a0, List.take_append_drop]
theorem empty_ch : (Str.ofString "").cps.toList = [] := by decide +kernel
theorem app_empty (x : Str) : x ++ Str.ofString "" = x := by
  apply str_ext
  rw [ch_app, empty_ch, List.append_nil]
theorem empty_app (x : Str) : Str.ofString "" ++ x = x := by
  apply str_ext
  rw [ch_app, empty_ch, List.nil_append]
theorem str_nil {x : Str} (h : x.length = 0) : x = Str.ofString "" := by
  apply str_ext
  rw [empty_ch]
  exact List.eq_nil_of_length_eq_zero (by rw [← len_S]; exact h)
theorem mText_get {ts : List Str} {t : Int} (t0 : 0 ≤ t) (t1 : t < ts.length) : ts[t.toNat]? = some (mText ts t) := by
  have h : t.toNat < ts.length := by omega
  unfold mText
  rw [List.getD_eq_getElem?_getD, List.getElem?_eq_getElem h]
  rfl
theorem mText_of {ts : List Str} {t : Int} {z : Str} (h : ts[t.toNat]? = some z) : mText ts t = z := by
  unfold mText
  rw [List.getD_eq_getElem?_getD, h]
  rfl
theorem mText_set {ts : List Str} {t : Int} {z : Str} (t0 : 0 ≤ t) (t1 : t < ts.length) : mText (ts.set t.toNat z) t = z :=
  mText_of (by rw [List.getElem?_set_self (by omega)])
theorem mText_set_ne {ts : List Str} {t u : Int} {z : Str} (t0 : 0 ≤ t) (u0 : 0 ≤ u) (n : t ≠ u) : mText (ts.set t.toNat z) u = mText ts u := by
  unfold mText
  rw [List.getD_eq_getElem?_getD, List.getD_eq_getElem?_getD, List.getElem?_set_ne (by omega)]
theorem set_back {ts : List Str} {t : Int} {z x : Str} (t0 : 0 ≤ t) (t1 : t < ts.length) (hx : x = mText ts t) : (ts.set t.toNat z).set t.toNat x = ts := by
  subst hx
  rw [List.set_set]
  apply List.ext_getElem?
  intro i
  by_cases h : t.toNat = i
  · subst h
    rw [List.getElem?_set_self (by omega), mText_get t0 t1]
  · rw [List.getElem?_set_ne h]
theorem mText_sg {ts : List Str} (hg : Good ts) {t : Int} (t0 : 0 ≤ t) (t1 : t < ts.length) : sgB (mText ts t) = true :=
  hg.sg _ (List.mem_of_getElem? (mText_get t0 t1))
theorem word_of {z : Str} (h : sgB z = true) (l : 0 < z.length) : wordV (.str z) = true := by
  show (sgB z && decide ((0 : Int) < (z.length : Int))) = true
  rw [h, decide_eq_true (by omega)]
  rfl
theorem word_sg {z : Str} (h : wordV (.str z) = true) : sgB z = true ∧ 0 < z.length := by
  have h' : (sgB z && decide ((0 : Int) < (z.length : Int))) = true := h
  have := of_decide_eq_true (Bool.and_eq_true_iff.mp h').2
  exact ⟨(Bool.and_eq_true_iff.mp h').1, by omega⟩
end LawK
set_option maxHeartbeats 4000000
namespace LawK
open PySem PySem.Spec PyProof.Rows L2 Ev

/-- what stands at a place of rows -/
def el {α : Type} (R : List (List α)) (x b : Int) : Option α := if 0 ≤ x ∧ 0 ≤ b then (R[x.toNat]?).bind (fun r => r[b.toNat]?) else none
abbrev EF (α : Type) := Int → Int → Option α
theorem ee {α : Type} {E : EF α} {x y a b : Int} {v : Option α} (h : E x a = v) (h1 : y = x) (h2 : b = a) : E y b = v := by
  subst h1
  subst h2
  exact h
theorem pr2 {a b c d : Int} (h1 : a = c) (h2 : b = d) : some (a, b) = some (c, d) := by
  subst h1
  subst h2
  rfl
def cutF {α : Type} (t a m : Int) (E : EF α) : EF α := fun x b => if x = t then (if b < a then E t b else E t (b + m)) else E x b
def putF {α : Type} (t a n : Int) (S : Int → Option α) (E : EF α) : EF α := fun x b => if x = t then (if b < a then E t b else if b < a + n then S (b - a) else E t (b - n)) else E x b
structure StepRel {α : Type} (p : Step) (fr : α → Prop) (E E2 : EF α) : Prop where
  on : ∀ x b v, E x b = some v → ∀ x' b', mTakenBy p (x, b) = some (x', b') → E2 x' b' = some v ∧ mTakenBy p.turn (x', b') = some (x, b)
  back : ∀ x' b' v, E2 x' b' = some v → ∀ x b, mTakenBy p.turn (x', b') = some (x, b) → E x b = some v ∧ mTakenBy p (x, b) = some (x', b')
  new : ∀ x' b' v, E2 x' b' = some v → mTakenBy p.turn (x', b') = none → fr v
theorem by_cut (m t a x b : Int) : mTakenBy ⟨m, some (t, a), none⟩ (x, b) = if x = t ∧ a ≤ b then (if b - a < m then none else some (x, b - m)) else some (x, b) := rfl
theorem by_put (m t a x b : Int) : mTakenBy ⟨m, none, some (t, a)⟩ (x, b) = if x = t ∧ a ≤ b then some (x, b + m) else some (x, b) := rfl
theorem by_move (m t a u c x b : Int) : mTakenBy ⟨m, some (t, a), some (u, c)⟩ (x, b) = if x = t ∧ a ≤ b then (if b - a < m then some (u, c + (b - a)) else (if x = u ∧ c ≤ b - m then some (x, b - m + m) else some (x, b - m))) else (if x = u ∧ c ≤ b then some (x, b + m) else some (x, b)) := rfl
theorem cut_rel {α : Type} {m t a : Int} (m0 : 0 ≤ m) (fr : α → Prop) (E : EF α) : StepRel ⟨m, some (t, a), none⟩ fr E (cutF t a m E) where
  on := fun x b v hE x' b' h => by
    show _ ∧ mTakenBy ⟨m, none, some (t, a)⟩ (x', b') = _
    rw [by_cut] at h
    rw [by_put]
    unfold cutF
    repeat' (split at h)
    all_goals first
      | (exfalso; cases h; done)
      | (cases h; refine ⟨?_, ?_⟩ <;> repeat' split)
    all_goals first
      | (exfalso; omega)
      | exact ee hE (by omega) (by omega)
      | exact pr2 (by omega) (by omega)
  back := fun x' b' v hE x b h => by
    have h' : mTakenBy ⟨m, none, some (t, a)⟩ (x', b') = some (x, b) := h
    rw [by_put] at h'
    rw [by_cut]
    unfold cutF at hE
    repeat' (split at h')
    all_goals cases h'
    all_goals refine ⟨?_, ?_⟩
    all_goals repeat' (split at hE)
    all_goals repeat' split
    all_goals first
      | (exfalso; omega)
      | exact ee hE (by omega) (by omega)
      | exact pr2 (by omega) (by omega)
  new := fun x' b' v hE h => by
    have h' : mTakenBy ⟨m, none, some (t, a)⟩ (x', b') = none := h
    rw [by_put] at h'
    split at h' <;> cases h'
theorem put_rel {α : Type} {n t a : Int} (n0 : 0 ≤ n) {fr : α → Prop} (E : EF α) {S : Int → Option α} (hS : ∀ k v, S k = some v → fr v) : StepRel ⟨n, none, some (t, a)⟩ fr E (putF t a n S E) where
  on := fun x b v hE x' b' h => by
    show _ ∧ mTakenBy ⟨n, some (t, a), none⟩ (x', b') = _
    rw [by_put] at h
    rw [by_cut]
    unfold putF
    repeat' (split at h)
    all_goals cases h
    all_goals refine ⟨?_, ?_⟩
    all_goals repeat' split
    all_goals first
      | (exfalso; omega)
      | exact ee hE (by omega) (by omega)
      | exact pr2 (by omega) (by omega)
  back := fun x' b' v hE x b h => by
    have h' : mTakenBy ⟨n, some (t, a), none⟩ (x', b') = some (x, b) := h
    rw [by_cut] at h'
    rw [by_put]
    unfold putF at hE
    repeat' (split at h')
    all_goals cases h'
    all_goals refine ⟨?_, ?_⟩
    all_goals repeat' (split at hE)
    all_goals repeat' split
    all_goals first
      | (exfalso; omega)
      | exact ee hE (by omega) (by omega)
      | exact pr2 (by omega) (by omega)
  new := fun x' b' v hE h => by
    have h' : mTakenBy ⟨n, some (t, a), none⟩ (x', b') = none := h
    rw [by_cut] at h'
    unfold putF at hE
    repeat' (split at h')
    all_goals first
      | (cases h'; done)
      | skip
    repeat' (split at hE)
    all_goals first
      | (exfalso; omega)
      | exact hS _ _ hE
theorem move_rel {α : Type} {m t a u c : Int} (m0 : 0 ≤ m) (fr : α → Prop) (E : EF α) : StepRel ⟨m, some (t, a), some (u, c)⟩ fr E (putF u c m (fun k => E t (a + k)) (cutF t a m E)) where
  on := fun x b v hE x' b' h => by
    show _ ∧ mTakenBy ⟨m, some (u, c), some (t, a)⟩ (x', b') = _
    rw [by_move] at h
    rw [by_move]
    unfold putF cutF
    repeat' (split at h)
    all_goals cases h
    all_goals refine ⟨?_, ?_⟩
    all_goals repeat' split
    all_goals first
      | (exfalso; omega)
      | exact ee hE (by omega) (by omega)
      | exact pr2 (by omega) (by omega)
  back := fun x' b' v hE x b h => by
    have h' : mTakenBy ⟨m, some (u, c), some (t, a)⟩ (x', b') = some (x, b) := h
    rw [by_move] at h'
    rw [by_move]
    unfold putF cutF at hE
    repeat' (split at h')
    all_goals cases h'
    all_goals refine ⟨?_, ?_⟩
    all_goals repeat' (split at hE)
    all_goals repeat' split
    all_goals first
      | (exfalso; omega)
      | exact ee hE (by omega) (by omega)
      | exact pr2 (by omega) (by omega)
  new := fun x' b' v hE h => by
    have h' : mTakenBy ⟨m, some (u, c), some (t, a)⟩ (x', b') = none := h
    rw [by_move] at h'
    repeat' (split at h')
    all_goals cases h'
end LawK
set_option maxHeartbeats 4000000
namespace LawK
open PySem PySem.Spec PyProof.Rows L2 Ev

structure TRel {α : Type} (ps : List Step) (fr : α → Prop) (E E2 : EF α) : Prop where
  on : ∀ x b v, E x b = some v → ∀ x' b', mTakenOn ps (x, b) = some (x', b') → E2 x' b' = some v ∧ mTakenOn (ps.reverse.map Step.turn) (x', b') = some (x, b)
  back : ∀ x' b' v, E2 x' b' = some v → ∀ x b, mTakenOn (ps.reverse.map Step.turn) (x', b') = some (x, b) → E x b = some v ∧ mTakenOn ps (x, b) = some (x', b')
  new : ∀ x' b' v, E2 x' b' = some v → mTakenOn (ps.reverse.map Step.turn) (x', b') = none → fr v
theorem taken_one (p : Step) (q : Int × Int) : mTakenOn [p] q = mTakenBy p q := by
  show (mTakenBy p q).bind (mTakenOn []) = _
  cases mTakenBy p q <;> rfl
theorem taken_two (p r : Step) (q : Int × Int) : mTakenOn [p, r] q = (mTakenBy p q).bind (mTakenBy r) := by
  show (mTakenBy p q).bind (mTakenOn [r]) = _
  cases mTakenBy p q with
  | none => rfl
  | some q2 => exact taken_one r q2
theorem TRel.one {α : Type} {p : Step} {fr : α → Prop} {E E2 : EF α} (h : StepRel p fr E E2) : TRel [p] fr E E2 where
  on := fun x b v hE x' b' k => by
    rw [taken_one] at k
    show _ ∧ mTakenOn [p.turn] _ = _
    rw [taken_one]
    exact h.on x b v hE x' b' k
  back := fun x' b' v hE x b k => by
    have k' : mTakenOn [p.turn] (x', b') = some (x, b) := k
    rw [taken_one] at k' ⊢
    exact h.back x' b' v hE x b k'
  new := fun x' b' v hE k => by
    have k' : mTakenOn [p.turn] (x', b') = none := k
    rw [taken_one] at k'
    exact h.new x' b' v hE k'
theorem TRel.nil {α : Type} {fr : α → Prop} {E : EF α} : TRel [] fr E E where
  on := fun x b v hE x' b' k => by cases k; exact ⟨hE, rfl⟩
  back := fun x' b' v hE x b k => by cases k; exact ⟨hE, rfl⟩
  new := fun x' b' v hE k => by cases k
theorem TRel.two {α : Type} {p r : Step} {fr g : α → Prop} {E E1 E2 : EF α} (h : StepRel p g E E1) (hg : ∀ x' b' v, E1 x' b' = some v → mTakenBy p.turn (x', b') ≠ none) (k : StepRel r fr E1 E2) : TRel [p, r] fr E E2 where
  on := fun x b v hE x' b' e => by
    rw [taken_two] at e
    show _ ∧ mTakenOn [r.turn, p.turn] _ = _
    rw [taken_two]
    cases e1 : mTakenBy p (x, b) with
    | none => rw [e1] at e; cases e
    | some q =>
      obtain ⟨y, c⟩ := q
      rw [e1] at e
      obtain ⟨a1, a2⟩ := h.on x b v hE y c e1
      obtain ⟨b1, b2⟩ := k.on y c v a1 x' b' e
      refine ⟨b1, ?_⟩
      rw [b2]
      exact a2
  back := fun x' b' v hE x b e => by
    have e' : mTakenOn [r.turn, p.turn] (x', b') = some (x, b) := e
    rw [taken_two] at e' ⊢
    cases e1 : mTakenBy r.turn (x', b') with
    | none => rw [e1] at e'; cases e'
    | some q =>
      obtain ⟨y, c⟩ := q
      rw [e1] at e'
      obtain ⟨a1, a2⟩ := k.back x' b' v hE y c e1
      obtain ⟨b1, b2⟩ := h.back y c v a1 x b e'
      refine ⟨b1, ?_⟩
      rw [b2]
      exact a2
  new := fun x' b' v hE e => by
    have e' : mTakenOn [r.turn, p.turn] (x', b') = none := e
    rw [taken_two] at e'
    cases e1 : mTakenBy r.turn (x', b') with
    | none => exact k.new x' b' v hE e1
    | some q =>
      obtain ⟨y, c⟩ := q
      rw [e1] at e'
      obtain ⟨a1, a2⟩ := k.back x' b' v hE y c e1
      exact absurd e' (hg y c v a1)
theorem cut_keeps {α : Type} {m t a : Int} {E1 : EF α} : ∀ x' b' v, E1 x' b' = some v → mTakenBy (⟨m, some (t, a), none⟩ : Step).turn (x', b') ≠ none := fun x' b' v _ h => by
  have h' : mTakenBy ⟨m, none, some (t, a)⟩ (x', b') = none := h
  rw [by_put] at h'
  split at h' <;> cases h'
theorem gcut {α : Type} {r : List α} {a m b : Nat} (h : a ≤ r.length) : (r.take a ++ r.drop (a + m))[b]? = if b < a then r[b]? else r[b + m]? := by
  have e : (r.take a).length = a := by rw [List.length_take]; omega
  rw [List.getElem?_append, e]
  split
  · rename_i h1
    rw [List.getElem?_take_of_lt h1]
  · rw [List.getElem?_drop]
    congr 1
    omega
theorem gput {α : Type} {r s : List α} {a b : Nat} (h : a ≤ r.length) : (r.take a ++ s ++ r.drop a)[b]? = if b < a then r[b]? else if b < a + s.length then s[b - a]? else r[b - s.length]? := by
  have e : (r.take a).length = a := by rw [List.length_take]; omega
  rw [List.getElem?_append, List.length_append, e]
  split
  · rename_i h1
    rw [List.getElem?_append, e]
    split
    · rename_i h2
      rw [List.getElem?_take_of_lt h2]
    · rfl
  · rename_i h1
    rw [if_neg (by omega), List.getElem?_drop]
    congr 1
    omega
section
variable {α : Type} {R : List (List α)}
theorem el_at {t b : Int} {r : List α} (t0 : 0 ≤ t) (hr : R[t.toNat]? = some r) : el R t b = if 0 ≤ b then r[b.toNat]? else none := by
  unfold el
  by_cases h : 0 ≤ b
  · rw [if_pos ⟨t0, h⟩, if_pos h, hr]
    rfl
  · rw [if_neg (fun z => h z.2), if_neg h]
theorem el_set {t x b : Int} {r : List α} (t0 : 0 ≤ t) (t1 : t < R.length) : el (R.set t.toNat r) x b = if x = t then (if 0 ≤ b then r[b.toNat]? else none) else el R x b := by
  by_cases e : x = t
  · subst e
    rw [if_pos rfl, el_at t0 (List.getElem?_set_self (by omega))]
  · rw [if_neg e]
    unfold el
    by_cases h : 0 ≤ x ∧ 0 ≤ b
    · rw [if_pos h, if_pos h, List.getElem?_set_ne (by omega)]
    · rw [if_neg h, if_neg h]
theorem el_cut {t a m : Int} {r : List α} (t0 : 0 ≤ t) (hr : R[t.toNat]? = some r) (a0 : 0 ≤ a) (m0 : 0 ≤ m) (h : a + m ≤ r.length) : el (R.set t.toNat (r.take a.toNat ++ r.drop (a + m).toNat)) = cutF t a m (el R) := by
  have t1 : t < R.length := by have := (List.getElem?_eq_some_iff.mp hr).1; omega
  funext x b
  rw [el_set t0 t1]
  unfold cutF
  by_cases e : x = t
  · rw [if_pos e, if_pos e]
    have e2 : (a + m).toNat = a.toNat + m.toNat := by omega
    by_cases hb : 0 ≤ b
    · rw [if_pos hb, e2, gcut (by omega)]
      by_cases hc : b < a
      · rw [if_pos (by omega), if_pos hc, el_at t0 hr, if_pos hb]
      · rw [if_neg (by omega), if_neg hc, el_at t0 hr, if_pos (by omega)]
        congr 1
        omega
    · rw [if_neg hb, if_pos (by omega), el_at t0 hr, if_neg hb]
  · rw [if_neg e, if_neg e]
def sF (s : List α) : Int → Option α := fun k => if 0 ≤ k then s[k.toNat]? else none
theorem el_put {t a : Int} {r s : List α} (t0 : 0 ≤ t) (hr : R[t.toNat]? = some r) (a0 : 0 ≤ a) (h : a ≤ r.length) : el (R.set t.toNat (r.take a.toNat ++ s ++ r.drop a.toNat)) = putF t a s.length (sF s) (el R) := by
  have t1 : t < R.length := by have := (List.getElem?_eq_some_iff.mp hr).1; omega
  funext x b
  rw [el_set t0 t1]
  unfold putF sF
  by_cases e : x = t
  · rw [if_pos e, if_pos e]
    by_cases hb : 0 ≤ b
    · rw [if_pos hb, gput (by omega)]
      by_cases hc : b < a
      · rw [if_pos (by omega), if_pos hc, el_at t0 hr, if_pos hb]
      · rw [if_neg (by omega), if_neg hc]
        by_cases hd : b < a + s.length
        · rw [if_pos (by omega), if_pos hd, if_pos (by omega)]
          congr 1
          omega
        · rw [if_neg (by omega), if_neg hd, el_at t0 hr, if_pos (by omega)]
          congr 1
          omega
    · rw [if_neg hb, if_pos (by omega), el_at t0 hr, if_neg hb]
  · rw [if_neg e, if_neg e]
theorem el_snoc : el (R ++ [[]]) = el R := by
  funext x b
  unfold el
  by_cases h : 0 ≤ x ∧ 0 ≤ b
  · rw [if_pos h, if_pos h]
    by_cases hx : x.toNat < R.length
    · rw [List.getElem?_append_left hx]
    · have e0 : R[x.toNat]? = none := List.getElem?_eq_none (by omega)
      rw [e0, List.getElem?_append_right (by omega)]
      cases e : x.toNat - R.length with
      | zero => rfl
      | succ k => rfl
  · rw [if_neg h, if_neg h]
theorem putF_congr {t a n : Int} {S S' : Int → Option α} {E : EF α} (h : ∀ k, 0 ≤ k → k < n → S k = S' k) : putF t a n S E = putF t a n S' E := by
  funext x b
  unfold putF
  split
  · split
    · rfl
    · split
      · exact h _ (by omega) (by omega)
      · rfl
  · rfl
theorem sF_mem {s : List α} {k : Int} {v : α} (h : sF s k = some v) : v ∈ s := by
  unfold sF at h
  split at h
  · exact List.mem_of_getElem? h
  · cases h
end
def rw_ {α : Type} (R : List (List α)) (t : Int) : List α := R.getD t.toNat []
/-- the rows behind an edit -/
def mAfter {α : Type} (R : List (List α)) (fr : List α) : Ed → List (List α)
  | .come _ => R ++ [fr]
  | .go => R.dropLast
  | .put t a _ => R.set t.toNat ((rw_ R t).take a.toNat ++ fr ++ (rw_ R t).drop a.toNat)
  | .cut t a n => R.set t.toNat ((rw_ R t).take a.toNat ++ (rw_ R t).drop (a + n).toNat)
  | .change t a _ => R.set t.toNat ((rw_ R t).take a.toNat ++ fr ++ (rw_ R t).drop (a + fr.length).toNat)
  | .split t a => R.set t.toNat ((rw_ R t).take a.toNat) ++ [(rw_ R t).drop a.toNat]
  | .join t u => (R.set t.toNat (rw_ R t ++ rw_ R u)).set u.toNat []
  | .move t a n u p =>
    let R1 := R.set t.toNat ((rw_ R t).take a.toNat ++ (rw_ R t).drop (a + n).toNat)
    R1.set u.toNat ((rw_ R1 u).take p.toNat ++ ((rw_ R t).drop a.toNat).take n.toNat ++ (rw_ R1 u).drop p.toNat)
theorem rw_at {α : Type} {R : List (List α)} {t : Int} (t0 : 0 ≤ t) (t1 : t < R.length) : R[t.toNat]? = some (rw_ R t) := by
  have h : t.toNat < R.length := by omega
  unfold rw_
  rw [List.getD_eq_getElem?_getD, List.getElem?_eq_getElem h]
  rfl
theorem rw_of {α : Type} {R : List (List α)} {t : Int} {r : List α} (h : R[t.toNat]? = some r) : rw_ R t = r := by
  unfold rw_
  rw [List.getD_eq_getElem?_getD, h]
  rfl
/-- rows as long as the texts -/
structure Fit {α : Type} (R : List (List α)) (ts : List Str) : Prop where
  len : R.length = ts.length
  row : ∀ t : Int, 0 ≤ t → t < ts.length → (rw_ R t).length = (mText ts t).length
theorem seg_eq {α : Type} {R : List (List α)} {t a m : Int} {r : List α} (t0 : 0 ≤ t) (hr : R[t.toNat]? = some r) (a0 : 0 ≤ a) : ∀ k, 0 ≤ k → k < m → sF ((r.drop a.toNat).take m.toNat) k = el R t (a + k) := fun k k0 k1 => by
  unfold sF
  rw [if_pos k0, el_at t0 hr, if_pos (by omega), List.getElem?_take_of_lt (by omega), List.getElem?_drop]
  congr 1
  omega
theorem ed_rel {α : Type} {ts : List Str} {ed : Ed} (hf : ed.fits ts) {R : List (List α)} (hR : Fit R ts) {fr : List α} (hfr : fr.length = ed.fresh.length) : TRel (mSteps ts ed) (· ∈ fr) (el R) (el (mAfter R fr ed)) := by
  have hl := hR.len
  cases ed with
  | put t a z =>
    obtain ⟨t0, t1, _, a0, a1⟩ := hf
    have e := el_put (s := fr) t0 (rw_at (R := R) t0 (by omega)) a0 (by rw [hR.row t t0 t1]; exact a1)
    have hz : fr.length = z.length := hfr
    refine .one ?_
    show StepRel _ _ _ (el (R.set t.toNat _))
    rw [e, hz]
    exact put_rel (by omega) _ fun k v h => sF_mem h
  | cut t a n =>
    obtain ⟨t0, t1, a0, n0, a1⟩ := hf
    have e := el_cut (m := n) t0 (rw_at (R := R) t0 (by omega)) a0 (by omega) (by rw [hR.row t t0 t1]; exact a1)
    refine .one ?_
    show StepRel _ _ _ (el (R.set t.toNat _))
    rw [e]
    exact cut_rel (by omega) _ _
  | change t a z =>
    obtain ⟨_, t0, t1, a0, a1⟩ := hf
    have hz : fr.length = z.length := hfr
    have hr := rw_at (R := R) t0 (by omega)
    have lr := hR.row t t0 t1
    have e := el_cut (m := (fr.length : Int)) t0 hr a0 (by omega) (by rw [lr]; omega)
    generalize hc : (rw_ R t).take a.toNat ++ (rw_ R t).drop (a + (fr.length : Int)).toNat = c at e
    have lt : ((rw_ R t).take a.toNat).length = a.toNat := by rw [List.length_take]; omega
    have hr2 : (R.set t.toNat c)[t.toNat]? = some c := List.getElem?_set_self (by omega)
    have lc : a ≤ (c.length : Int) := by rw [← hc, List.length_append, lt]; omega
    have e2 := el_put (s := fr) t0 hr2 a0 lc
    have c1 : c.take a.toNat = (rw_ R t).take a.toNat := by
      rw [← hc, List.take_append_of_le_length (by omega), List.take_take, Nat.min_self]
    have c2 : c.drop a.toNat = (rw_ R t).drop (a + (fr.length : Int)).toNat := by
      rw [← hc, List.drop_append_of_le_length (by omega), List.drop_of_length_le (by omega), List.nil_append]
    rw [List.set_set, c1, c2, e] at e2
    show TRel [⟨z.length, some (t, a), none⟩, ⟨z.length, none, some (t, a)⟩] _ _ (el (R.set t.toNat ((rw_ R t).take a.toNat ++ fr ++ (rw_ R t).drop (a + (fr.length : Int)).toNat)))
    rw [e2, hz]
    exact .two (cut_rel (by omega) (fun _ => False) _) cut_keeps (put_rel (by omega) _ fun k v h => sF_mem h)
  | come z =>
    have hz : fr.length = z.length := hfr
    have hr : (R ++ [[]])[(R.length : Int).toNat]? = some ([] : List α) := by
      rw [Int.toNat_natCast, List.getElem?_append_right (Nat.le_refl _), Nat.sub_self]
      rfl
    have e := el_put (s := fr) (t := (R.length : Int)) (a := 0) (by omega) hr (by decide) (by simp)
    have e1 : (R ++ [[]]).set (R.length : Int).toNat ([].take (0 : Int).toNat ++ fr ++ [].drop (0 : Int).toNat) = R ++ [fr] := by
      rw [Int.toNat_natCast, List.set_append_right _ _ (Nat.le_refl _), Nat.sub_self]
      simp
    rw [e1, el_snoc] at e
    refine .one ?_
    show StepRel _ _ _ (el (R ++ [fr]))
    rw [e, hz, ← hl]
    exact put_rel (by omega) _ fun k v h => sF_mem h
  | go =>
    have hg : ts.getLast? = some (Str.ofString "") := hf
    have ne : ts ≠ [] := fun z => by rw [z] at hg; cases hg
    have hp : 0 < ts.length := List.length_pos_iff.mpr ne
    have neR : R ≠ [] := fun z => by rw [z] at hl; simp at hl; omega
    have hlast : R.getLast neR = [] := by
      have h1 := hR.row ((ts.length : Int) - 1) (by omega) (by omega)
      have h2 : mText ts ((ts.length : Int) - 1) = Str.ofString "" := by
        unfold mText
        have : ((ts.length : Int) - 1).toNat = ts.length - 1 := by omega
        rw [this, List.getD_eq_getElem?_getD, ← List.getLast?_eq_getElem?, hg]
        rfl
      have h3 := rw_at (R := R) (t := (ts.length : Int) - 1) (by omega) (by omega)
      have h4 : ((ts.length : Int) - 1).toNat = R.length - 1 := by omega
      rw [h4, ← List.getLast?_eq_getElem?, List.getLast?_eq_some_getLast neR] at h3
      rw [Option.some.inj h3]
      rw [h2, lenE] at h1
      exact List.eq_nil_of_length_eq_zero h1
    have e : el (R.dropLast) = el R := by
      have := List.dropLast_concat_getLast neR
      rw [hlast] at this
      conv => rhs; rw [← this]
      exact el_snoc.symm
    show TRel [] _ _ (el R.dropLast)
    rw [e]
    exact .nil
  | split t a =>
    obtain ⟨t0, t1, a0, a1⟩ := hf
    have lr := hR.row t t0 t1
    have hr := rw_at (R := R) t0 (by omega)
    have hm0 : 0 ≤ ((mText ts t).length : Int) - a := by omega
    have hrS : (R ++ [[]])[t.toNat]? = some (rw_ R t) := by rw [List.getElem?_append_left (by omega)]; exact hr
    have e := el_cut (m := ((mText ts t).length : Int) - a) t0 hrS a0 hm0 (by omega)
    have e0 : (rw_ R t).drop (a + (((mText ts t).length : Int) - a)).toNat = [] := List.drop_of_length_le (by omega)
    rw [e0, List.append_nil, List.set_append_left _ _ (by omega), el_snoc] at e
    generalize hp : (rw_ R t).take a.toNat = p at e
    have hr2 : (R.set t.toNat p ++ [[]])[(R.length : Int).toNat]? = some ([] : List α) := by
      rw [Int.toNat_natCast, List.getElem?_append_right (by rw [List.length_set]; exact Nat.le_refl _), List.length_set, Nat.sub_self]
      rfl
    have e2 := el_put (s := ((rw_ R t).drop a.toNat).take (((mText ts t).length : Int) - a).toNat) (t := (R.length : Int)) (a := 0) (by omega) hr2 (by decide) (by simp)
    have ls : (((rw_ R t).drop a.toNat).take (((mText ts t).length : Int) - a).toNat).length = (((mText ts t).length : Int) - a).toNat := by
      rw [List.length_take, List.length_drop]
      omega
    have e3 : ((rw_ R t).drop a.toNat).take (((mText ts t).length : Int) - a).toNat = (rw_ R t).drop a.toNat := List.take_of_length_le (by rw [List.length_drop]; omega)
    have e4 : (R.set t.toNat p ++ [[]]).set (R.length : Int).toNat ([].take (0 : Int).toNat ++ ((rw_ R t).drop a.toNat).take (((mText ts t).length : Int) - a).toNat ++ [].drop (0 : Int).toNat) = R.set t.toNat p ++ [(rw_ R t).drop a.toNat] := by
      rw [e3, Int.toNat_natCast, List.set_append_right _ _ (by rw [List.length_set]; exact Nat.le_refl _), List.length_set, Nat.sub_self]
      simp
    rw [e4, el_snoc, e, el_snoc, ls] at e2
    have lc : ((((mText ts t).length : Int) - a).toNat : Int) = ((mText ts t).length : Int) - a := by omega
    rw [lc, putF_congr (seg_eq (m := ((mText ts t).length : Int) - a) t0 hr a0)] at e2
    refine .one ?_
    show StepRel _ _ _ (el (R.set t.toNat ((rw_ R t).take a.toNat) ++ [(rw_ R t).drop a.toNat]))
    rw [hp, e2, ← hl]
    exact move_rel hm0 _ _
  | join t u =>
    obtain ⟨t0, t1, u0, u1, ne⟩ := hf
    have lt := hR.row t t0 t1
    have lu := hR.row u u0 u1
    have hru := rw_at (R := R) u0 (by omega)
    have hrt := rw_at (R := R) t0 (by omega)
    have e := el_cut (m := ((mText ts u).length : Int)) (a := 0) u0 hru (by decide) (by omega) (by omega)
    have e0 : (rw_ R u).take (0 : Int).toNat ++ (rw_ R u).drop (0 + ((mText ts u).length : Int)).toNat = [] := by
      rw [List.drop_of_length_le (by omega)]
      rfl
    rw [e0] at e
    have hr2 : (R.set u.toNat [])[t.toNat]? = some (rw_ R t) := by rw [List.getElem?_set_ne (by omega)]; exact hrt
    have e2 := el_put (s := ((rw_ R u).drop (0 : Int).toNat).take ((mText ts u).length : Int).toNat) (a := ((mText ts t).length : Int)) t0 hr2 (by omega) (by omega)
    have e3 : ((rw_ R u).drop (0 : Int).toNat).take ((mText ts u).length : Int).toNat = rw_ R u := by
      show (rw_ R u).take _ = _
      exact List.take_of_length_le (by omega)
    have ls : (((rw_ R u).drop (0 : Int).toNat).take ((mText ts u).length : Int).toNat).length = (mText ts u).length := by rw [e3, lu]
    have e4 : (rw_ R t).take ((mText ts t).length : Int).toNat ++ ((rw_ R u).drop (0 : Int).toNat).take ((mText ts u).length : Int).toNat ++ (rw_ R t).drop ((mText ts t).length : Int).toNat = rw_ R t ++ rw_ R u := by
      rw [e3, List.take_of_length_le (by omega), List.drop_of_length_le (by omega), List.append_nil]
    have e5 := putF_congr (t := t) (a := ((mText ts t).length : Int)) (E := cutF u 0 ((mText ts u).length : Int) (el R)) (seg_eq (m := ((mText ts u).length : Int)) (a := 0) u0 hru (by decide))
    rw [e4, ls, e, e5, List.set_comm _ _ (by omega)] at e2
    refine .one ?_
    show StepRel _ _ _ (el ((R.set t.toNat (rw_ R t ++ rw_ R u)).set u.toNat []))
    rw [e2]
    exact move_rel (by omega) _ _
  | move t a n u p =>
    obtain ⟨t0, t1, a0, n0, a1, u0, u1, p0, p1⟩ := hf
    have lt := hR.row t t0 t1
    have lu := hR.row u u0 u1
    have hr := rw_at (R := R) t0 (by omega)
    have e := el_cut (m := n) t0 hr a0 (by omega) (by omega)
    generalize hc : (rw_ R t).take a.toNat ++ (rw_ R t).drop (a + n).toNat = c at e
    have lc : (c.length : Int) = (mText ts t).length - n := by
      rw [← hc, List.length_append, List.length_take, List.length_drop]
      omega
    have hr2 := rw_at (R := R.set t.toNat c) (t := u) u0 (by rw [List.length_set]; omega)
    have lu2 : p ≤ ((rw_ (R.set t.toNat c) u).length : Int) := by
      by_cases eu : u = t
      · subst eu
        rw [rw_of (r := c) (by rw [List.getElem?_set_self (by omega)]), lc]
        rw [if_pos rfl] at p1
        omega
      · rw [if_neg eu] at p1
        have : rw_ (R.set t.toNat c) u = rw_ R u := rw_of (by rw [List.getElem?_set_ne (by omega)]; exact rw_at u0 (by omega))
        rw [this]
        omega
    have e2 := el_put (s := ((rw_ R t).drop a.toNat).take n.toNat) u0 hr2 p0 lu2
    have ls : (((rw_ R t).drop a.toNat).take n.toNat).length = n.toNat := by
      rw [List.length_take, List.length_drop]
      omega
    have hn : ((n.toNat : Nat) : Int) = n := by omega
    rw [ls, hn, e, putF_congr (seg_eq (m := n) t0 hr a0)] at e2
    refine .one ?_
    show StepRel _ _ _ (el ((R.set t.toNat ((rw_ R t).take a.toNat ++ (rw_ R t).drop (a + n).toNat)).set u.toNat _))
    rw [hc, e2]
    exact move_rel (by omega) _ _
end LawK
set_option maxHeartbeats 4000000
namespace LawK
open PySem PySem.Spec PyProof.Rows L2 Ev

def chz (z : Str) : List Nat := z.cps.toList
def chs (ts : List Str) : List (List Nat) := ts.map chz
theorem chz_len (z : Str) : (chz z).length = z.length := (len_S z).symm
theorem chz_app (a b : Str) : chz (a ++ b) = chz a ++ chz b := ch_app a b
theorem chz_to {z : Str} {a : Int} (h : 0 ≤ a) : chz (cutS z none (some a)) = (chz z).take a.toNat := cutS_to h
theorem chz_from {z : Str} {a : Int} (h : 0 ≤ a) : chz (cutS z (some a) none) = (chz z).drop a.toNat := cutS_from h
theorem chz_empty : chz (Str.ofString "") = [] := empty_ch
theorem rw_chs {ts : List Str} {t : Int} (t0 : 0 ≤ t) (t1 : t < ts.length) : rw_ (chs ts) t = chz (mText ts t) := rw_of (by
  unfold chs
  rw [List.getElem?_map, mText_get t0 t1]
  rfl)
theorem chs_set (ts : List Str) (i : Nat) (z : Str) : chs (ts.set i z) = (chs ts).set i (chz z) := by
  unfold chs
  rw [List.map_set]
/-- the rows of signs behind an edit are those of the texts behind it -/
theorem after_chs {ts us : List Str} {ed : Ed} (hf : ed.fits ts) (hm : ed.mk ts = some us) : mAfter (chs ts) (chz ed.fresh) ed = chs us := by
  cases ed with
  | put t a z =>
    obtain ⟨t0, t1, _, a0, a1⟩ := hf
    have hm' : mPut ts t a z = some us := hm
    unfold mPut at hm'
    rw [if_pos ⟨t1, a1⟩] at hm'
    cases hm'
    rw [chs_set, chz_app, chz_app, chz_to a0, chz_from a0]
    show (chs ts).set t.toNat ((rw_ (chs ts) t).take a.toNat ++ chz z ++ (rw_ (chs ts) t).drop a.toNat) = _
    rw [rw_chs t0 t1]
  | cut t a n =>
    obtain ⟨t0, t1, a0, n0, a1⟩ := hf
    have hm' : mCut ts t a n = some us := hm
    unfold mCut at hm'
    rw [if_pos ⟨t1, a1⟩] at hm'
    cases hm'
    rw [chs_set, chz_app, chz_to a0, chz_from (by omega)]
    show (chs ts).set t.toNat ((rw_ (chs ts) t).take a.toNat ++ (rw_ (chs ts) t).drop (a + n).toNat) = _
    rw [rw_chs t0 t1]
  | change t a z =>
    obtain ⟨_, t0, t1, a0, a1⟩ := hf
    have hm' : mChange ts t a z = some us := hm
    unfold mChange at hm'
    rw [if_pos ⟨t1, a1⟩] at hm'
    cases hm'
    rw [chs_set, chz_app, chz_app, chz_to a0, chz_from (by omega)]
    show (chs ts).set t.toNat ((rw_ (chs ts) t).take a.toNat ++ chz z ++ (rw_ (chs ts) t).drop (a + ((chz z).length : Int)).toNat) = _
    rw [rw_chs t0 t1, chz_len]
  | come z =>
    cases hm
    show chs ts ++ [chz z] = (ts ++ [z]).map chz
    rw [List.map_append]
    rfl
  | go =>
    have hm' : mGone ts = some us := hm
    have hf' : ts.getLast? = some (Str.ofString "") := hf
    unfold mGone at hm'
    rw [if_pos hf'] at hm'
    cases hm'
    show (ts.map chz).dropLast = ts.dropLast.map chz
    rw [List.map_dropLast]
  | split t a =>
    obtain ⟨t0, t1, a0, a1⟩ := hf
    have hm' : mSplit ts t a = some us := hm
    unfold mSplit at hm'
    rw [if_pos ⟨t1, a1⟩] at hm'
    cases hm'
    show (chs ts).set t.toNat ((rw_ (chs ts) t).take a.toNat) ++ [(rw_ (chs ts) t).drop a.toNat] = (ts.set t.toNat _ ++ [_]).map chz
    rw [rw_chs t0 t1, List.map_append, ← chz_to a0, ← chz_from a0, ← chs_set]
    rfl
  | join t u =>
    obtain ⟨t0, t1, u0, u1, ne⟩ := hf
    have hm' : mJoin ts t u = some us := hm
    unfold mJoin at hm'
    rw [if_pos ⟨t1, u1, ne⟩] at hm'
    cases hm'
    show ((chs ts).set t.toNat (rw_ (chs ts) t ++ rw_ (chs ts) u)).set u.toNat [] = _
    rw [rw_chs t0 t1, rw_chs u0 u1, List.set_comm _ _ (by omega), chs_set, chs_set, chz_app, chz_empty]
  | move t a n u p =>
    obtain ⟨t0, t1, a0, n0, a1, u0, u1, p0, p1⟩ := hf
    have hm' : mMove ts t a n u p = some us := hm
    unfold mMove mCut at hm'
    rw [if_pos ⟨t1, a1⟩, Option.bind_some] at hm'
    unfold mPut at hm'
    have e1 : (chs ts).set t.toNat ((rw_ (chs ts) t).take a.toNat ++ (rw_ (chs ts) t).drop (a + n).toNat) = chs (ts.set t.toNat (cutS (mText ts t) none (some a) ++ cutS (mText ts t) (some (a + n)) none)) := by
      rw [chs_set, chz_app, chz_to a0, chz_from (by omega), rw_chs t0 t1]
    have l1 : (ts.set t.toNat (cutS (mText ts t) none (some a) ++ cutS (mText ts t) (some (a + n)) none)).length = ts.length := List.length_set
    have e2 : ((rw_ (chs ts) t).drop a.toNat).take n.toNat = chz (cutS (mText ts t) (some a) (some (a + n))) := by
      rw [rw_chs t0 t1]
      show _ = (cutS _ _ _).cps.toList
      rw [cutS_of a0 (by omega)]
      have : (a + n - a).toNat = n.toNat := by omega
      rw [this]
      rfl
    show ((chs ts).set t.toNat ((rw_ (chs ts) t).take a.toNat ++ (rw_ (chs ts) t).drop (a + n).toNat)).set u.toNat ((rw_ ((chs ts).set t.toNat ((rw_ (chs ts) t).take a.toNat ++ (rw_ (chs ts) t).drop (a + n).toNat)) u).take p.toNat ++ ((rw_ (chs ts) t).drop a.toNat).take n.toNat ++ (rw_ ((chs ts).set t.toNat ((rw_ (chs ts) t).take a.toNat ++ (rw_ (chs ts) t).drop (a + n).toNat)) u).drop p.toNat) = _
    rw [e1, e2]
    generalize ts.set t.toNat (cutS (mText ts t) none (some a) ++ cutS (mText ts t) (some (a + n)) none) = ws at hm' l1 ⊢
    by_cases c : u < ws.length ∧ p ≤ (mText ws u).length
    · rw [if_pos c] at hm'
      cases hm'
      rw [rw_chs u0 c.1, chs_set, chz_app, chz_app, chz_to p0, chz_from p0]
    · rw [if_neg c] at hm'
      cases hm'
theorem rw_map {α β : Type} (f : α → β) (R : List (List α)) (t : Int) : rw_ (R.map (List.map f)) t = (rw_ R t).map f := by
  unfold rw_
  rw [List.getD_eq_getElem?_getD, List.getD_eq_getElem?_getD, List.getElem?_map]
  cases R[t.toNat]? <;> rfl
theorem after_map {α β : Type} (f : α → β) (R : List (List α)) (fr : List α) (ed : Ed) : (mAfter R fr ed).map (List.map f) = mAfter (R.map (List.map f)) (fr.map f) ed := by
  cases ed with
  | put t a z => simp only [mAfter, List.map_set, List.map_append, List.map_take, List.map_drop, rw_map]
  | cut t a n => simp only [mAfter, List.map_set, List.map_append, List.map_take, List.map_drop, rw_map]
  | change t a z => simp only [mAfter, List.map_set, List.map_append, List.map_take, List.map_drop, rw_map, List.length_map]
  | come z => simp only [mAfter, List.map_append, List.map_cons, List.map_nil]
  | go => simp only [mAfter, List.map_dropLast]
  | split t a => simp only [mAfter, List.map_set, List.map_append, List.map_take, List.map_drop, rw_map, List.map_cons, List.map_nil]
  | join t u => simp only [mAfter, List.map_set, List.map_append, rw_map, List.map_nil]
  | move t a n u p =>
    have e : (R.set t.toNat ((rw_ R t).take a.toNat ++ (rw_ R t).drop (a + n).toNat)).map (List.map f) = (R.map (List.map f)).set t.toNat ((rw_ (R.map (List.map f)) t).take a.toNat ++ (rw_ (R.map (List.map f)) t).drop (a + n).toNat) := by
      simp only [List.map_set, List.map_append, List.map_take, List.map_drop, rw_map]
    simp only [mAfter]
    rw [List.map_set, List.map_append, List.map_append, List.map_take, List.map_drop, ← rw_map, e, List.map_take, List.map_drop, rw_map f R t]
theorem units {α : Type} (xs : List α) : xs.map (fun _ => ()) = List.replicate xs.length () := by
  induction xs with
  | nil => rfl
  | cons x xs ih => rw [List.map_cons, ih, List.length_cons, List.replicate_succ]
theorem fit_units {α : Type} {R : List (List α)} {ts : List Str} (h : Fit R ts) : R.map (List.map fun _ => ()) = (chs ts).map (List.map fun _ => ()) := by
  apply List.ext_getElem?
  intro i
  by_cases hi : i < ts.length
  · have h1 := rw_at (R := R) (t := (i : Int)) (by omega) (by rw [h.len]; omega)
    have h2 := rw_at (R := chs ts) (t := (i : Int)) (by omega) (by unfold chs; rw [List.length_map]; omega)
    rw [Int.toNat_natCast] at h1 h2
    rw [List.getElem?_map, List.getElem?_map, h1, h2, Option.map_some, Option.map_some, units, units, h.row (i : Int) (by omega) (by omega), rw_chs (by omega) (by omega), chz_len]
  · rw [List.getElem?_eq_none (by rw [List.length_map, h.len]; omega), List.getElem?_eq_none (by unfold chs; rw [List.length_map, List.length_map]; omega)]
theorem units_fit {α : Type} {R : List (List α)} {ts : List Str} (h : R.map (List.map fun _ => ()) = (chs ts).map (List.map fun _ => ())) : Fit R ts := by
  have hl : R.length = ts.length := by
    have := congrArg List.length h
    unfold chs at this
    rw [List.length_map, List.length_map, List.length_map] at this
    exact this
  refine ⟨hl, fun t t0 t1 => ?_⟩
  have h1 := rw_at (R := R) (t := t) t0 (by omega)
  have h2 := rw_at (R := chs ts) (t := t) t0 (by unfold chs; rw [List.length_map]; omega)
  have h3 := congrArg (fun X : List (List Unit) => X[t.toNat]?) h
  rw [List.getElem?_map, List.getElem?_map, h1, h2, Option.map_some, Option.map_some, units, units] at h3
  have h4 := congrArg List.length (Option.some.inj h3)
  rw [List.length_replicate, List.length_replicate, rw_chs t0 t1, chz_len] at h4
  exact h4
theorem after_fit {α : Type} {ts us : List Str} {ed : Ed} (hf : ed.fits ts) (hm : ed.mk ts = some us) {R : List (List α)} (hR : Fit R ts) {fr : List α} (hfr : fr.length = ed.fresh.length) : Fit (mAfter R fr ed) us := by
  apply units_fit
  rw [after_map, fit_units hR, ← after_chs hf hm, after_map, units, hfr, units, chz_len]
theorem fit_chs (ts : List Str) : Fit (chs ts) ts := units_fit rfl
/-- a place of the texts -/
def InP (ts : List Str) (x b : Int) : Prop := 0 ≤ x ∧ x < ts.length ∧ 0 ≤ b ∧ b < (mText ts x).length
theorem el_in {α : Type} {R : List (List α)} {ts : List Str} (h : Fit R ts) {x b : Int} (hp : InP ts x b) : ∃ v, el R x b = some v := by
  obtain ⟨x0, x1, b0, b1⟩ := hp
  have h1 := rw_at (R := R) x0 (by rw [h.len]; exact x1)
  rw [el_at x0 h1, if_pos b0]
  have : b.toNat < (rw_ R x).length := by rw [h.row x x0 x1]; omega
  exact ⟨_, List.getElem?_eq_getElem this⟩
theorem el_of {α : Type} {R : List (List α)} {ts : List Str} (h : Fit R ts) {x b : Int} {v : α} (hv : el R x b = some v) : InP ts x b := by
  unfold el at hv
  by_cases c : 0 ≤ x ∧ 0 ≤ b
  · rw [if_pos c] at hv
    cases e : R[x.toNat]? with
    | none => rw [e] at hv; cases hv
    | some r =>
      rw [e] at hv
      have hx := (List.getElem?_eq_some_iff.mp e).1
      have hb := (List.getElem?_eq_some_iff.mp (show r[b.toNat]? = some v from hv)).1
      have hx1 : x < ts.length := by rw [h.len] at hx; omega
      have hr := h.row x c.1 hx1
      rw [rw_of e] at hr
      exact ⟨c.1, hx1, c.2, by omega⟩
  · rw [if_neg c] at hv
    cases hv
/-- the signs that are taken on are the same -/
theorem same_sign {ts us : List Str} {ed : Ed} (hf : ed.fits ts) (hm : ed.mk ts = some us) {i j x b : Int} (hp : InP ts i j) (ht : mTakenOn (mSteps ts ed) (i, j) = some (x, b)) : InP us x b ∧ ∃ c, el (chs ts) i j = some c ∧ el (chs us) x b = some c := by
  have T := ed_rel (fr := chz ed.fresh) hf (fit_chs ts) (chz_len _)
  obtain ⟨c, hc⟩ := el_in (fit_chs ts) hp
  have h := (T.on i j c hc x b ht).1
  rw [after_chs hf hm] at h
  exact ⟨el_of (fit_chs us) h, c, hc, h⟩
/-- rows of places: each tells itself -/
structure Tags (H : Hp) (R : List (List V)) (ts : List Str) : Prop where
  fit : Fit R ts
  at_ : ∀ x b v, el R x b = some v → ∃ c, v = .ref c ∧ H c = some (.tup [.int x, .int b])
theorem Tags.same {H H' : Hp} {R : List (List V)} {ts : List Str} (k : Same H H') (h : Tags H R ts) : Tags H' R ts := ⟨h.fit, fun x b v e => let ⟨c, e1, e2⟩ := h.at_ x b v e; ⟨c, e1, k _ _ e2⟩⟩
/-- where each sign of the rows behind an edit was -/
theorem tags_back {H : Hp} {ts us : List Str} {ed : Ed} (hf : ed.fits ts) (hm : ed.mk ts = some us) {R : List (List V)} (hT : Tags H R ts) {fr : List V} (hfr : fr.length = ed.fresh.length) (hn : ∀ v ∈ fr, v = V.non) {x b : Int} {v : V} (hv : el (mAfter R fr ed) x b = some v) :
    PrAt H v (mTakenOn (mAhead ts ed) (x, b)) := by
  have T := ed_rel hf hT.fit hfr
  cases e : mTakenOn (mAhead ts ed) (x, b) with
  | none =>
    rw [hn v (T.new x b v hv e)]
    exact .non
  | some q =>
    obtain ⟨i, j⟩ := q
    obtain ⟨c, rfl, hc⟩ := hT.at_ i j v (T.back x b v hv i j e).1
    exact .pr hc
/-- a tag stands just where its sign is taken -/
theorem tags_on {H : Hp} {ts us : List Str} {ed : Ed} (hf : ed.fits ts) (hm : ed.mk ts = some us) {R : List (List V)} (hT : Tags H R ts) {fr : List V} (hfr : fr.length = ed.fresh.length) (hn : ∀ v ∈ fr, v = V.non) {i j : Int} (hp : InP ts i j) :
    (∀ x b, mTakenOn (mSteps ts ed) (i, j) = some (x, b) → ∃ c, el (mAfter R fr ed) x b = some (.ref c) ∧ H c = some (.tup [.int i, .int j])) ∧
    (∀ x b c, el (mAfter R fr ed) x b = some (.ref c) → H c = some (.tup [.int i, .int j]) → mTakenOn (mSteps ts ed) (i, j) = some (x, b)) := by
  have T := ed_rel hf hT.fit hfr
  refine ⟨fun x b h => ?_, fun x b c hv hc => ?_⟩
  · obtain ⟨v, hv⟩ := el_in hT.fit hp
    obtain ⟨c, rfl, hc⟩ := hT.at_ i j v hv
    exact ⟨c, (T.on i j _ hv x b h).1, hc⟩
  · cases e : mTakenOn (mAhead ts ed) (x, b) with
    | none => cases hn _ (T.new x b _ hv e)
    | some q =>
      obtain ⟨i', j'⟩ := q
      obtain ⟨h1, h2⟩ := T.back x b _ hv i' j' e
      obtain ⟨c', e1, hc'⟩ := hT.at_ i' j' _ h1
      cases e1
      rw [hc] at hc'
      cases hc'
      exact h2
end LawK
set_option maxHeartbeats 4000000
/-! Where an edit takes places, and back; dicts whose keys are places. -/
namespace LawK
open PySem PySem.Spec PyProof.Rows L2 Ev
def toPl (q : Int × Int) : Pl := (q.1.toNat, q.2.toNat)
def tk (ts : List Str) (ed : Ed) (p : Pl) : Option Pl := (mTakenOn (mSteps ts ed) ((p.1 : Nat), (p.2 : Nat))).map toPl
def bk (ts : List Str) (ed : Ed) (g : Pl) : Option Pl := (mTakenOn (mAhead ts ed) ((g.1 : Nat), (g.2 : Nat))).map toPl
theorem inP_of {ts : List Str} {p : Pl} (h : InT ts p) : InP ts (p.1 : Nat) (p.2 : Nat) := by
  have h1 := h.text
  have h2 := h.at_
  have e : mText ts ((p.1 : Nat) : Int) = tx ts p.1 := by unfold mText; rw [show ((p.1 : Nat) : Int).toNat = p.1 by omega]
  refine ⟨by omega, by omega, by omega, ?_⟩
  rw [e]
  omega
theorem inT_of {ts : List Str} {x b : Int} (h : InP ts x b) : InT ts (toPl (x, b)) ∧ ((toPl (x, b)).1 : Int) = x ∧ ((toPl (x, b)).2 : Int) = b := by
  obtain ⟨h1, h2, h3, h4⟩ := h
  refine ⟨⟨by show x.toNat < ts.length; omega, ?_⟩, by show ((x.toNat : Nat) : Int) = x; omega, by show ((b.toNat : Nat) : Int) = b; omega⟩
  show b.toNat < (mText ts x).length
  omega
theorem Ldg.fits {ts us : List Str} {ed : Ed} (h : Ldg ts ed us) : ed.fits ts := fits_iff.mpr ⟨h.ok, us, h.to⟩
theorem tk_on {ts us : List Str} {ed : Ed} (ld : Ldg ts ed us) {p g : Pl} (hp : InT ts p) (h : tk ts ed p = some g) : mTakenOn (mSteps ts ed) ((p.1 : Nat), (p.2 : Nat)) = some (((g.1 : Nat) : Int), ((g.2 : Nat) : Int)) ∧ InT us g ∧ bk ts ed g = some p := by
  unfold tk at h
  cases e : mTakenOn (mSteps ts ed) ((p.1 : Nat), (p.2 : Nat)) with
  | none => rw [e] at h; cases h
  | some q =>
    obtain ⟨x, b⟩ := q
    rw [e] at h
    obtain rfl : toPl (x, b) = g := Option.some.inj h
    obtain ⟨ip, c, hc, _⟩ := same_sign ld.fits ld.to (inP_of hp) e
    obtain ⟨h1, h2, h3⟩ := inT_of ip
    refine ⟨by rw [h2, h3], h1, ?_⟩
    have T := ed_rel (fr := chz ed.fresh) ld.fits (fit_chs ts) (chz_len _)
    have back := (T.on _ _ c hc x b e).2
    unfold bk mAhead
    rw [h2, h3, back]
    show some (toPl _) = some p
    unfold toPl
    congr 1
theorem bk_on {ts us : List Str} {ed : Ed} (ld : Ldg ts ed us) {p g : Pl} (hg : InT us g) (h : bk ts ed g = some p) : mTakenOn (mAhead ts ed) ((g.1 : Nat), (g.2 : Nat)) = some (((p.1 : Nat) : Int), ((p.2 : Nat) : Int)) ∧ InT ts p ∧ tk ts ed p = some g := by
  unfold bk at h
  cases e : mTakenOn (mAhead ts ed) ((g.1 : Nat), (g.2 : Nat)) with
  | none => rw [e] at h; cases h
  | some q =>
    obtain ⟨x, b⟩ := q
    rw [e] at h
    obtain rfl : toPl (x, b) = p := Option.some.inj h
    have T := ed_rel (fr := chz ed.fresh) ld.fits (fit_chs ts) (chz_len _)
    rw [after_chs ld.fits ld.to] at T
    obtain ⟨c, hc⟩ := el_in (fit_chs us) (inP_of hg)
    obtain ⟨h1, h2⟩ := T.back _ _ c hc x b e
    obtain ⟨i1, i2, i3⟩ := inT_of (el_of (fit_chs ts) h1)
    refine ⟨by rw [i2, i3], i1, ?_⟩
    unfold tk
    rw [i2, i3, h2]
    show some (toPl _) = some g
    unfold toPl
    congr 1
theorem tk_inj {ts us : List Str} {ed : Ed} (ld : Ldg ts ed us) {p q g : Pl} (hp : InT ts p) (hq : InT ts q) (h : tk ts ed p = some g) (k : tk ts ed q = some g) : p = q := by
  have a := (tk_on ld hp h).2.2
  have b := (tk_on ld hq k).2.2
  rw [a] at b
  exact Option.some.inj b
/-- a place or none -/
def PO (H : Hp) (v : V) : Option Pl → Prop
  | none => v = .non
  | some p => PAt H v p
theorem PO.same {H H' : Hp} (k : Same H H') {v : V} : ∀ {o : Option Pl}, PO H v o → PO H' v o
  | none, h => h
  | some p, h => PAt.same k h
theorem po_of {H : Hp} {v : V} {ts us : List Str} {ed : Ed} (ld : Ldg ts ed us) {p : Pl} (hp : InT ts p) (h : PrAt H v (mTakenOn (mSteps ts ed) ((p.1 : Nat), (p.2 : Nat)))) : PO H v (tk ts ed p) := by
  cases e : tk ts ed p with
  | none =>
    unfold tk at e
    rw [Option.map_eq_none_iff] at e
    rw [e] at h
    cases h
    rfl
  | some g =>
    rw [(tk_on ld hp e).1] at h
    cases h with
    | pr e => exact ⟨_, rfl, e⟩
theorem po_back {H : Hp} {v : V} {ts us : List Str} {ed : Ed} (ld : Ldg ts ed us) {g : Pl} (hg : InT us g) (h : PrAt H v (mTakenOn (mAhead ts ed) ((g.1 : Nat), (g.2 : Nat)))) : PO H v (bk ts ed g) := by
  cases e : bk ts ed g with
  | none =>
    unfold bk at e
    rw [Option.map_eq_none_iff] at e
    rw [e] at h
    cases h
    rfl
  | some p =>
    rw [(bk_on ld hg e).1] at h
    cases h with
    | pr e => exact ⟨_, rfl, e⟩
/-! ### dicts by places -/
def kk (p : Pl) : List Key := [.inl (p.1 : Nat), .inl (p.2 : Nat)]
theorem kk_inj {p q : Pl} (h : kk p = kk q) : p = q := by
  unfold kk at h
  simp only [List.cons.injEq, Sum.inl.injEq, and_true] at h
  exact Prod.ext (by omega) (by omega)
theorem kk_v (p : Pl) : (kk p).map kV = [V.int (p.1 : Nat), V.int (p.2 : Nat)] := rfl
def DT {α : Type} (R : V → α → Prop) (kvs : List (List Key × V)) (L : List (Pl × α)) : Prop := All2 (fun kv pg => kv.1 = kk pg.1 ∧ R kv.2 pg.2) kvs L
theorem DT.put {α : Type} {R : V → α → Prop} {kvs : List (List Key × V)} {L : List (Pl × α)} (h : DT R kvs L) {p : Pl} (n : ∀ x ∈ L, x.1 ≠ p) {z : V} {g : α} (r : R z g) : DT R (putK kvs (kk p) z) (L ++ [(p, g)]) := by
  have no : ¬ (kvs.any fun kv => decide (kv.1 = kk p)) = true := fun e => by
    obtain ⟨kv, hm, e⟩ := List.any_eq_true.mp e
    obtain ⟨i, hi⟩ := List.mem_iff_getElem?.mp hm
    obtain ⟨x, hx, e1, _⟩ := All2.at h hi
    have := of_decide_eq_true e
    rw [e1] at this
    exact n x (List.mem_of_getElem? hx) (kk_inj this)
  unfold putK
  rw [if_neg no]
  exact All2.snoc h ⟨rfl, r⟩
theorem DT.get {α : Type} {R : V → α → Prop} {kvs : List (List Key × V)} {L : List (Pl × α)} (h : DT R kvs L) (p : Pl) : (∃ g v, (p, g) ∈ L ∧ valV kvs (kk p) = some v ∧ R v g) ∨ ((∀ x ∈ L, x.1 ≠ p) ∧ valV kvs (kk p) = none) := by
  unfold DT at h
  induction h with
  | nil => exact .inr ⟨(fun x hx => by cases hx), rfl⟩
  | @cons kv pg kvs L r _ ih =>
    by_cases e : pg.1 = p
    · exact .inl ⟨pg.2, kv.2, by rw [← e]; exact List.mem_cons_self, valV_pos (by rw [r.1, e]), r.2⟩
    · have ne : ¬ kv.1 = kk p := fun z => e (kk_inj (r.1.symm.trans z))
      rw [valV_neg ne]
      rcases ih with ⟨g, v, h1, h2, h3⟩ | ⟨h1, h2⟩
      · exact .inl ⟨g, v, List.mem_cons_of_mem _ h1, h2, h3⟩
      · refine .inr ⟨fun x hx => ?_, h2⟩
        rcases List.mem_cons.mp hx with z | z
        · rw [z]; exact e
        · exact h1 x z
theorem DT.imp {α : Type} {R S : V → α → Prop} {kvs : List (List Key × V)} {L : List (Pl × α)} (h : DT R kvs L) (f : ∀ v g, R v g → S v g) : DT S kvs L := All2.imp (fun _ _ r => ⟨r.1, f _ _ r.2⟩) h
theorem DT.len {α : Type} {R : V → α → Prop} {kvs : List (List Key × V)} {L : List (Pl × α)} (h : DT R kvs L) : kvs.length = L.length := All2.len h
/-! ### places, taken on -/
def tkL (ts : List Str) (ed : Ed) : List (Pl × Pl) := (pl ts).filterMap fun p => (tk ts ed p).map fun g => (p, g)
theorem tkL_mem {ts : List Str} {ed : Ed} {x : Pl × Pl} : x ∈ tkL ts ed ↔ InT ts x.1 ∧ tk ts ed x.1 = some x.2 := by
  unfold tkL
  rw [List.mem_filterMap]
  constructor
  · rintro ⟨p, hp, e⟩
    obtain ⟨g, eg, rfl⟩ := Option.map_eq_some_iff.mp e
    exact ⟨pl_mem.mp hp, eg⟩
  · rintro ⟨hp, e⟩
    exact ⟨x.1, pl_mem.mpr hp, by rw [e]; rfl⟩
def ranked (ts : List Str) : List (Pl × Nat) := (ord ts).zipIdx
def rk (ts : List Str) (p : Pl) : Nat := (ord ts).idxOf p
end LawK
set_option maxHeartbeats 4000000
/-! {k: v for .. in ..}, the keys tuples of numbers and texts -/
namespace Ev
open PySem PySem.Spec PyProof.Rows L2
/-- what one turn's key and value ask, D the dict -/
def bPutT (tk tv : TE) (D : Addr) : L2.St → Hp → (Hp → Prop) → Prop := fun τ H N => tk τ H fun y H4 => tv τ H4 fun z H5 => ∃ kvs k b, y = .ref b ∧ H5 D = some (.dT kvs) ∧ H5 b = some (.tup (k.map kV)) ∧ kvs.length < sizeLine ∧ N (upd H5 D (.dT (putK kvs k z)))
def tDcT (wi : TI) (g : TG) (tt : TT) (tk tv : TE) (vs : List Nat) : TE := fun σ H Q => wi σ H fun J H1 => ∀ D, H1 D = none → ∃ W : Nat → Nat → Hp → Prop, (∃ m, W 0 m (upd H1 D (.dT []))) ∧ ∀ i m H, W i m H → (J.stop i H ∧ Q (.ref D) H) ∨ (J.go i H ∧ ∃ N : Hp → Prop, (∀ H', N H' → ∃ m', m' < m ∧ W (i + 1) m' H') ∧ ∀ x H', J.yld i H x H' → g x (wipe σ vs) H' fun σ2 H2 => wipe σ2 vs = wipe σ vs ∧ tt σ2 H2 fun b H3 => if b = true then bPutT tk tv D σ2 H3 N else N H3)
theorem d_dictSetT {X : Cx} {pins : List (Addr × Obj)} {σ : L2.St} {H : Hp} {s : Shared} {E : Value → Shared → Prop} {D b : Addr} {kvs : List (List Key × V)} {k : List Key} {v : V} {r : Value} {Q : Unit → Shared → Prop} (hu : X.A.units + 1 < cLine) (I : Inv X pins σ H s) (hD : H D = some (.dT kvs)) (eb : H b = some (.tup (k.map kV)))
    (l : kvs.length < sizeLine) (rv : RelV v r) (h : ∀ s', Inv X pins σ (upd H D (.dT (putK kvs k v))) s' → Q () s') : wpAny (model X.prog X.w) X.A (dictSet D (.ref b) r) Q E s := by
  obtain ⟨z, hd, xs, rel, dd⟩ := dt_of I.hok hD
  have few : xs.length ≤ sizeLine := by rw [← Paired.length rel]; exact z
  have fit : (putK kvs k v).length ≤ sizeLine := by have := length_putK kvs k v; omega
  refine wpAny_dictSet_heap (hsz := few) (show (tupleKind (mixKind X.prog X.w)).room X.A from Nat.lt_of_succ_lt hu) (key_of I.hok eb) dd fun h' dd' hs => h _ ?_
  obtain ⟨q, es, ep, hq, h2, h3, h4, _, h5⟩ := dd'
  refine d_write I (by rw [hD]; exact True.intro) hs ⟨q, hq⟩ ⟨fit, hd, _, (rel.put k eb rv).keeps fun c ys ec => ?_, q, es, ep, hq, h2, h3, h4, h5⟩
  exact (upd_ne fun e => by rw [e, hD] at ec; cases ec).trans ec
theorem body_putT {Y : Cx} {kx vx : Expr} {tk tv : TE} {c : Code} {D : Addr} {vs : List Nat} (hu : Y.A.units + 1 < cLine) (pk : PE Y kx tk) (pe : PE Y vx tv) (p : Pos) (pins' : List (Addr × Obj)) (s : Shared) (τ : L2.St) (H : Hp) (N : Hp → Prop) (I : Inv Y pins' τ H s) (h : bPutT tk tv D τ H N) :
    wpAny (model Y.prog Y.w) Y.A ((eval kx Y.env >>= fun kv => holding [kv] (eval vx Y.env) >>= fun vv => standAt p >>= fun _ => holding [kv, vv] (dictSet D kv vv)) >>= fun _ => again c) (fun r s' => r = .again c ∧ ∃ τ' H', Inv Y pins' τ' H' s' ∧ Slots τ τ' vs ∧ N H') Y.xe s := by
  refine wpAny_bind (wpAny_bind (thn (pk.run pins' s τ H _ I h) fun kv s1 ⟨y, H1, I1, r1, q1⟩ => wpAny_bind (wpAny_holding (thn (pe.run pins' s1 τ H1 _ I1 q1) fun vv s2 ⟨z, H2, I2, r2, kvs, k, b, ey, hD, hb, hz, nx⟩ => wpAny_bind (wpAny_standAt (wpAny_holding ?_))))))
  subst ey
  obtain rfl : kv = Value.ref b := r1
  exact d_dictSetT hu I2 hD hb hz r2 fun s3 I3 => wpAny_pure ⟨rfl, τ, _, I3, ⟨rfl, fun j v e => (wipe_some e).1⟩, nx⟩
theorem turn_dict1 (kx vx tg iter : Expr) (ifs : List Expr) (scope : Scope) (pos : Pos) (it : Value) (D : Addr) (env : Env) :
    compTurn (.DictComp kx vx [⟨tg, iter, ifs, 0⟩] scope pos) 0 it (.ref D) env = oneTurn (.compLoop (.DictComp kx vx [⟨tg, iter, ifs, 0⟩] scope pos) 0 it (.ref D) env) iter.pos tg ifs it env
      ((eval kx env >>= fun kv => holding [kv] (eval vx env) >>= fun vv => standAt { kx.pos with endLine := vx.pos.endLine, endCol := vx.pos.endCol } >>= fun _ => holding [kv, vv] (dictSet D kv vv)) >>= fun _ => again (.compLoop (.DictComp kx vx [⟨tg, iter, ifs, 0⟩] scope pos) 0 it (.ref D) env)) := by
  unfold oneTurn
  rfl
section
variable {X : Cx} {kx vx tg iter : Expr} {ifs : List Expr} {scope : Scope} {own : List (Str × Nat)} {pos : Pos} {wi : TI} {g : TG} {tt : TT} {tk tv : TE}
theorem pe_dcT (hu : X.A.units + 1 < cLine) (hc : X.calm = true) (hN : X.N.Nodup) (hi : PI X tg iter wi) (ok : BlkOk X.N X.env.scope scope own) (hg : ∀ s H fp, PG (blkC X s H scope fp) tg g) (ht : ∀ s H fp, PTs (blkC X s H scope fp) ifs tt)
    (hk : ∀ s H fp, PE (blkC X s H scope fp) kx tk) (he : ∀ s H fp, PE (blkC X s H scope fp) vx tv) (hs : ∀ x, foldedSetIterable iter X.env x = pure x := by intro _; rfl) : PE X (.DictComp kx vx [⟨tg, iter, ifs, 0⟩] scope pos) (tDcT wi g tt tk tv (own.map (·.2))) := by
  refine ⟨fun pins s σ H Q I h => ?_⟩
  rw [arm_eval_DictComp]; refine (?_ : wpAny _ _ (comprehension (.DictComp kx vx [⟨tg, iter, ifs, 0⟩] scope pos) scope X.env _ newDict false (eval iter X.env) none) _ _ _)
  have free : ∀ y ∈ scope.names, y.2 = .free → ∃ c, X.env.cells.lookup y.1 = some c := fun y hy e => (ok.free y hy e).elim (fun z => I.ok.has _ (.inl z)) fun z => I.ok.has _ (.inr z)
  refine wpAny_comprehension_free (use := none) rfl hs (closure_ok free) ok.kind (fun y hy e => by rw [ok.uniq y hy, e]) (thn (hi.run pins s σ H _ I h) fun xv s1 hx => thn hx fun itv s2 ⟨it, fp, tn, J, H2, eit, I2, T, t2, f2, q⟩ => wpAny_newObj_type (newEnv_comp ?_))
  subst eit
  obtain ⟨W, ⟨m0, w0⟩, turn⟩ := q _ (I2.hok.fresh (Nat.le_refl _))
  have old : ∀ b ∈ fp, b < s2.heap.objs.size := fun b hb => let ⟨o, e, _⟩ := T.obj _ _ t2 b hb; Heap.lt_size e
  obtain ⟨D, eD⟩ : ∃ D, s2.heap.objs.size = D := ⟨_, rfl⟩
  obtain ⟨s3, e3⟩ : ∃ s3 : Shared, s3 = { s2 with heap := s2.heap.push { cls := .type "dict", data := .dict #[] } } := ⟨_, rfl⟩
  have h3 : s3.heap = s2.heap.push { cls := .type "dict", data := .dict #[] } := by rw [e3]
  obtain ⟨H3, eH⟩ : ∃ H3, H3 = upd H2 s2.heap.objs.size (.dT []) := ⟨_, rfl⟩
  have I3 : Inv X pins σ H3 s3 := by
    rw [eH, e3]; exact I2.laid (t' := s2.toks) (fun b o e => Heap.get?_push_of_some _ e) (Nat.le_refl _) (dt_empty s2.heap I2.big)
  have f3 : ∀ b ∈ fp, FpOk X pins H3 b ∧ b < s3.heap.objs.size := fun b hb => by
    have lt := old b hb
    refine ⟨⟨?_, (f2 b hb).2⟩, by rw [h3, Heap.size_push]; exact Nat.lt_succ_of_lt lt⟩
    rw [eH, upd_ne (Nat.ne_of_lt lt)]; exact (f2 b hb).1
  have t3 : tn 0 s3.heap := T.keep _ _ _ t2 fun b _ o e => by rw [h3]; exact Heap.get?_push_of_some _ e
  rw [← eH] at w0
  rw [eD] at turn ⊢
  have I4 := block_start I3 ok hN f3
  have goal : codeAny (model X.prog X.w) X.A (.compStart (.DictComp kx vx [⟨tg, iter, ifs, 0⟩] scope pos) 0 (.ref it) (.ref D) (blkC X s3 H3 scope fp).env) (compPost (model X.prog X.w) X.A X.xe none (EP X pins σ Q) (.ref D) s3.heap.objs.size) { s3 with heap := pushCells (s3.heap.push { cls := .type "dict", data := .dict #[] }) scope.names } := by
    have t4 : tn 0 ({ s3 with heap := pushCells (s3.heap.push { cls := .type "dict", data := .dict #[] }) scope.names } : Shared).heap := T.keep _ _ _ t3 fun b _ o e => pushCells_keeps _ _ _ _ (Heap.get?_push_of_some _ e)
    revert I4 t4
    generalize ({ s3 with heap := pushCells (s3.heap.push { cls := .type "dict", data := .dict #[] }) scope.names } : Shared) = s4
    intro I4 t4
    have stat : ∀ {H' : Hp}, (∀ b ∈ fp, H' b = none) → ∀ b ∈ fp, FpOk (blkC X s3 H3 scope fp) [] H' b := fun hn b hb =>
      ⟨hn b hb, (I4.ok.exf b hb).1, I4.ok.exfs b hb, .inl hb, fun x c e => (I4.ok.exf b hb).2 x c e, fun p hp => nomatch (show p ∈ ([] : List (Addr × Obj)) from hp)⟩
    have loop := loop_any (Y := blkC X s3 H3 scope fp) (e := .DictComp kx vx [⟨tg, iter, ifs, 0⟩] scope pos) (ci := 0) (it := it) (acc := .ref D) (ip := iter.pos) (R := compPost (model X.prog X.w) X.A X.xe none (EP X pins σ Q) (.ref D) s3.heap.objs.size) (σ := σ) (vs := own.map (·.2)) (pins := []) (bPutT tk tv D)
      (by show (compTurn _ 0 (.ref it) (.ref D) _).onRaise _ = _; rw [turn_dict1]) rfl rfl hc T (hg s3 H3 fp) (ht s3 H3 fp) (fun _ _ z => z) (fun pins' s τ H N _ I' b => body_putT (Y := blkC X s3 H3 scope fp) hu (hk s3 H3 fp) (he s3 H3 fp) _ pins' s τ H N I' b) stat W (fun H => Q (.ref D) H) turn (fun s' H' I' qq => ?_) m0 s4 H3 w0 I4 t4 (fun b hb => (f3 b hb).1.1)
    · exact codeAny_compStart_dict loop (T.self X.A 0 _ _ _ t4 loop)
    · have J' : Inv X pins σ H' s' := I3.call' (ch := fp) I'.os I'.base I'.hok I'.bare fun b hb => let z := (f3 b hb).1.2; ⟨z.2.2.1, z.1, z.2.2.2.1, z.2.2.2.2⟩
      obtain ⟨m, hm, _⟩ := I'.loc
      have f := I3.fpOk (H' := H') (Nat.le_refl _) I'.free
      exact ⟨m, hm, fun z sb => ⟨.ref D, H', J'.turned (t' := s'.toks) (fun b o hb e => (sb.2 b hb).trans e) f.1 f.2.1 f.2.2.2.1 f.2.2.2.2.1 f.2.2.2.2.2, rfl, qq⟩⟩
  subst e3
  exact goal
end
end Ev
set_option maxHeartbeats 4000000
namespace Ev
open PySem PySem.Spec PyProof.Rows L2
/-- either way to walk -/
theorem PI.or {X : Cx} {tg e : Expr} {u v : TI} (h : PI X tg e u) (k : PI X tg e v) : PI X tg e (fun σ H R => u σ H R ∨ v σ H R) :=
  ⟨fun pins s σ H R I q => q.elim (fun z => h.run pins s σ H R I z) (fun z => k.run pins s σ H R I z)⟩
theorem for_enL {K : PySem.W.Frag} {a : Addr} {xs : List V} {g : TG} {tb : TS} {D : Ends} {σ : L2.St} {H : Hp} (Pv : Nat → L2.St → Hp → Prop) (h0 : Pv 0 σ H) (hl : ∀ i σ H, Pv i σ H → SqL K H a xs)
    (hs : ∀ (i : Nat) x σ H, xs[i]? = some x → Pv i σ H → ∀ T, H T = none → g (.ref T) σ (upd H T (.tup [.int (i : Nat), x])) fun σ2 H2 => tb { D with nx := Pv (i + 1), ct := Pv (i + 1), bk := D.nx } σ2 H2) (hd : ∀ σ H, Pv xs.length σ H → D.nx σ H) :
    ∃ W : Nat → Nat → L2.St → Hp → Prop, (∃ m, W 0 m σ H) ∧ ∀ i m σ H, W i m σ H →
      ((Ite K a).stop i H ∧ D.nx σ H) ∨ ((Ite K a).go i H ∧ ∃ N : L2.St → Hp → Prop, (∀ σ' H', N σ' H' → ∃ m', m' < m ∧ W (i + 1) m' σ' H') ∧ ∀ x H', (Ite K a).yld i H x H' → g x σ H' fun σ2 H2 => tb { D with nx := N, ct := N, bk := D.nx } σ2 H2) :=
  for_it walk_enum Pv h0 (fun i σ H _ p => hl i σ H p) (fun i x σ H H' _ p y => by
    obtain ⟨T, x1, x2, rfl, nT, rfl, e1, e2⟩ := y
    cases e1
    exact hs i x2 σ H e2 p T nT) hd
theorem kit_seq {K : PySem.W.Frag} (k : Kn) : PySem.W.kitAny K (.type k.name) [.type "list", .type "tuple"] = some (decide (k = .lst) || decide (k = .tup)) := by
  cases k <;> rfl
end Ev
set_option maxHeartbeats 4000000
namespace LawK
open PySem PySem.Spec PyProof.Rows L2 Ev

theorem hu_of {X : Cx} {k : Nat} (hr : Room k X.A) : X.A.units + 1 < cLine := Nat.lt_of_le_of_lt (Nat.add_le_add_left (by decide) _) hr.units
/-- an edit at a place, that leads on -/
structure EdOf (H : Hp) (e : Addr) (ts : List Str) (ed : Ed) (us : List Str) : Prop where
  at_ : H e = some (.tup ed.vals)
  ld : Ldg ts ed us
theorem EdOf.same {H H' : Hp} {e : Addr} {ts us : List Str} {ed : Ed} (k : Same H H') (h : EdOf H e ts ed us) : EdOf H' e ts ed us := ⟨k _ _ h.at_, h.ld⟩
theorem pl_nd (ts : List Str) : (pl ts).Nodup := by
  unfold pl plN
  refine List.pairwise_flatMap.mpr ⟨fun i _ => ?_, ?_⟩
  · unfold row
    exact List.pairwise_map.mpr ((List.nodup_range (n := (tx ts i).length)).imp fun ne e => ne (congrArg Prod.snd e))
  · refine (List.nodup_range (n := ts.length)).imp fun {i j} ne x hx y hy e => ?_
    obtain ⟨a, _, rfl⟩ := List.mem_map.mp hx
    obtain ⟨b, _, rfl⟩ := List.mem_map.mp hy
    exact ne (congrArg Prod.fst e)
theorem pl_once {ts : List Str} {i : Nat} {p : Pl} (h : (pl ts)[i]? = some p) (m : p ∈ (pl ts).take i) : False := by
  obtain ⟨j, hj, e⟩ := List.mem_iff_getElem.mp m
  rw [List.length_take] at hj
  rw [List.getElem_take] at e
  obtain ⟨hi, e2⟩ := List.getElem?_eq_some_iff.mp h
  exact (List.pairwise_iff_getElem.mp (pl_nd ts) j i (by omega) hi (by omega)) (e.trans e2.symm)
def spPBehind (C : Addr) : Sp := fun vs H Q _ => ∃ (s e : Addr) (v : V) (ts us : List Str) (ed : Ed) (p : Pl), vs = [.ref s, .ref e, v] ∧ LibAt H C s ts ∧ EdOf H e ts ed us ∧ PAt H v p ∧ InT ts p ∧ ∀ y H', Same H H' → PO H' y (tk ts ed p) → Q y H'
def spAllTaken (C : Addr) : Sp := fun vs H Q _ => ∃ (s e : Addr) (ts us : List Str) (ed : Ed), vs = [.ref s, .ref e] ∧ LibAt H C s ts ∧ EdOf H e ts ed us ∧ ∀ d kvs H', Same H H' → H d = none → H' d = some (.dT kvs) → DT (PAt H') kvs (tkL ts ed) → Q (.ref d) H'
def oN : Option Nat → V
  | none => .non
  | some n => .int (n : Nat)
/-- for how long an ending is kept -/
def kpt (ts us : List Str) (p g : Pl) : Option Nat := if sfx ts p = sfx us g then none else some (lcp (cod (sfx ts p)) (cod (sfx us g)))
def spKept (C : Addr) : Sp := fun vs H Q _ => ∃ (s e : Addr) (v : V) (ts us : List Str) (ed : Ed) (p g : Pl), vs = [.ref s, .ref e, v] ∧ LibAt H C s ts ∧ EdOf H e ts ed us ∧ PAt H v p ∧ InT ts p ∧ tk ts ed p = some g ∧ ∀ H', Same H H' → Q (oN (kpt ts us p g)) H'
theorem ed_len {ts : List Str} {H : Hp} {C s : Addr} (h : LibAt H C s ts) : ts.length ≤ 100 ∧ ∀ t ∈ ts, t.length ≤ 5000 := ⟨by have := h.few; omega, fun t ht => by have := h.len t ht; omega⟩
theorem PAt.put {H : Hp} {D : Addr} {o o' : HO} (hD : H D = some o) (n : ∀ xs, o ≠ .tup xs) {v : V} {p : Pl} (h : PAt H v p) : PAt (upd H D o') v p := by
  obtain ⟨b, e, hb⟩ := h
  refine ⟨b, e, ?_⟩
  rw [upd_ne fun z => by rw [z, hD] at hb; exact n _ (Option.some.inj hb)]
  exact hb
section
variable {P : Program} {w : World} {K : PySem.W.Frag} {mg : Str → Option Value} {base : Heap}
variable {C fI : Addr} {fdI : FuncData}
abbrev sPAllTaken : Stmt := topS 33
theorem scPAllTaken : FnScope ["library", "edit", "steps", "taken", "place", "then"] ["library", "edit"] (defScope sPAllTaken) := ⟨rfl, rfl, rfl, by decide +kernel, rfl, by decide +kernel, by decide +kernel⟩
theorem ok_PAllTaken {f : Addr} {fd : FuncData} (F : Fun K "all_taken" "all_taken" sPAllTaken f fd) (L : LibC K mg C fI fdI) {fPAllPlaces : Addr} {fdPAllPlaces : FuncData} (DPAllPlaces : Dk P w K mg base "all_places" sPAllPlaces ["library"] 1 (spAllPlaces C) fPAllPlaces fdPAllPlaces) {fIsEdit : Addr} {fdIsEdit : FuncData} (DIsEdit : Dk P w K mg base "is_edit" sIsEdit ["library", "thing"] 7 (spIsEdit C) fIsEdit fdIsEdit) {fQSteps : Addr} {fdQSteps : FuncData} (DQSteps : Dk P w K mg base "_steps" sQSteps ["texts", "edit"] 1 spSteps fQSteps fdQSteps) {fQTakenOn : Addr} {fdQTakenOn : FuncData} (DQTakenOn : Dk P w K mg base "_taken_on" sQTakenOn ["steps", "place"] 2 spTakenOn fQTakenOn fdQTakenOn) (T : Glob mg) : FnOk P w K mg base CX0 8 f fd ["library", "edit"] (spAllTaken C) := by
  refine F.ok scPAllTaken (fun vs H Q E h => ?_) (fun cdv A outer s H vs Q E hr h => ?_)
  · obtain ⟨s, e, ts, us, ed, rfl, _⟩ := h
    rfl
  · refine ⟨_, (pss_cons (ps_if (pt_not (pt_val (pe_call DIsEdit.ok (hr.mono (by decide)) (by rfl) DIsEdit.g DIsEdit.F.kp DIsEdit.b .nil pass0 (pa_cons (pv 0) (pa_cons (pv 1) pa_nil)))))
      (pss_one ps_dead)
      pss_nil)
      (pss_cons (ps_set (i := 2) scPAllTaken.nd rfl (.inl rfl) (pe_call DQSteps.ok (hr.mono (by decide)) (by rfl) DQSteps.g DQSteps.F.kp DQSteps.b .nil pass0 (pa_cons (pe_fld (pv 0) rfl) (pa_cons (pv 1) pa_nil))))
      (pss_cons (ps_set (i := 3) scPAllTaken.nd rfl (.inl rfl) pe_dnewT)
      (pss_cons (ps_for PassesOwn.never rfl (pi_list (pe_call DPAllPlaces.ok (hr.mono (by decide)) (by rfl) DPAllPlaces.g DPAllPlaces.F.kp DPAllPlaces.b .nil pass0 (pa_cons (pv 0) pa_nil))) (pg_name (i := 4) scPAllTaken.nd rfl (.inl rfl))
      (pss_cons (ps_set (i := 5) scPAllTaken.nd rfl (.inl rfl) (pe_call DQTakenOn.ok (hr.mono (by decide)) (by rfl) DQTakenOn.g DQTakenOn.F.kp DQTakenOn.b .nil pass0 (pa_cons (pv 2) (pa_cons (pv 4) pa_nil))))
        (pss_one (ps_if (pt_cmpR op_notN (pv 5) pe_non (nomark _))
        (pss_one (ps_asg (pv 5) (pg_sub (pv 3) (pv 4) (set_dict (hu_of hr)))))
        pss_nil))))
      (pss_one (ps_ret (pv 3))))))), ?_⟩
    obtain ⟨s, e, ts, us, ed, rfl, hl, he, q⟩ := h
    refine ⟨.ref s, rfl, .ref e, rfl, s, e, ts, us, ed, rfl, hl, he.at_, he.ld, fun H1 k1 => ⟨_, rfl, iteF ?_⟩⟩
    dsimp only [tNext, tDrop, tSeq, tAsg, gName]
    have hl1 := hl.same k1
    have he1 := he.same k1
    obtain ⟨⟨dx, a, h1, h2⟩, few, sg, len⟩ := hl1
    refine ⟨.ref s, rfl, s, C, dx, _, .ref a, rfl, h1, L.cl, L.nt, lk1, .ref e, rfl, a, e, ts, us, ed, rfl, h2, he1.at_, (ed_len hl).1, (ed_len hl).2, he1.ld.shr, he1.ld.ok, he1.ld.to, fun l xs H2 nl hx hs k2 => ?_⟩
    intro d nd
    have k02 := k1.trans k2
    refine ⟨.ref s, rfl, s, ts, rfl, (hl.same k02).same (Same.new nd), fun D H3 k3 nD ⟨vs, hD, hvs⟩ => ⟨D, rfl, ⟨_, sq_of hD⟩, for_list (xs := vs) (fun i σ H' => ∃ (u4 u5 : Option V) (kvs : List (List Key × V)), σ = [some (.ref s), some (.ref e), some (.ref l), some (.ref d), u4, u5] ∧ Same H2 H' ∧ H' d = some (.dT kvs) ∧ (∀ b xs, H3 b = some (.tup xs) → H' b = some (.tup xs)) ∧ (∀ b xs, H3 b = some (.lst xs) → H' b = some (.lst xs)) ∧ DT (PAt H') kvs (((pl ts).take i).filterMap fun p => (tk ts ed p).map fun g => (p, g))) ⟨none, none, [], rfl, (Same.new nd).trans k3, k3 _ _ upd_same, fun _ _ h => h, fun _ _ h => h, .nil⟩ (fun i σ H' _ g => by obtain ⟨_, _, _, _, _, _, _, k, _⟩ := g; exact sq_of (k _ _ hD)) ?_ ?_⟩⟩
    · rintro i x σ H4 hx4 ⟨u4, u5, kvs, rfl, k4, hd, kt, kl, hdt⟩
      obtain ⟨p, hp, b, rfl, hb⟩ := hvs.at hx4
      have ip := pl_mem.mp (List.mem_of_getElem? hp)
      have hb4 := kt _ _ hb
      have few : (pl ts).length ≤ 1600 := by
        have := plN_len len ts.length
        show (plN ts ts.length).length ≤ 1600
        omega
      have lk : kvs.length ≤ 1600 := by
        rw [hdt.len]
        refine Nat.le_trans (List.length_filterMap_le _ _) ?_
        rw [List.length_take]
        omega
      refine ⟨.ref l, rfl, .ref b, rfl, l, xs, _, b, _, _, rfl, k4 _ _ hx, hs.imp fun _ _ r => r.same k4, hb4, fun y H5 hy k5 => ?_⟩
      have hy := po_of he.ld ip hy
      have hd5 := k5 _ _ hd
      have hb5 := k5 _ _ hb4
      have hdt5 : DT (PAt H5) kvs _ := hdt.imp fun _ _ r => PAt.same k5 r
      have nx : ∀ z : List (Pl × Pl), ((tk ts ed p).map fun g => (p, g)).toList = z → ((pl ts).take (i + 1)).filterMap (fun p => (tk ts ed p).map fun g => (p, g)) = ((pl ts).take i).filterMap (fun p => (tk ts ed p).map fun g => (p, g)) ++ z := fun z hz => by
        rw [take_snoc hp, List.filterMap_append, ← hz]
        simp only [List.filterMap_cons, List.filterMap_nil]
        cases (tk ts ed p).map fun g => (p, g) <;> rfl
      cases hg : tk ts ed p with
      | none =>
        rw [hg] at hy nx
        obtain rfl : y = .non := hy
        refine ⟨_, rfl, rfl, _, rfl, ite2 (fun z => ?_) (fun _ => ?_)⟩
        · rw [decide_eq_true rfl] at z
          exact Bool.noConfusion z
        · refine ⟨_, _, kvs, rfl, k4.trans k5, hd5, fun c xs h => k5 _ _ (kt _ _ h), fun c xs h => k5 _ _ (kl _ _ h), ?_⟩
          rw [nx [] rfl, List.append_nil]
          exact hdt5
      | some g =>
        rw [hg] at hy nx
        obtain ⟨c, rfl, hc⟩ := hy
        refine ⟨_, rfl, rfl, _, rfl, iteT ⟨_, rfl, .ref d, rfl, .ref b, rfl, d, _, rfl, DPut.t (k := kk p) hd5 hb5 (by rw [sizeLine_eq]; omega), ?_⟩⟩
        have nod : ∀ xs, HO.dT kvs ≠ .tup xs := fun _ z => by cases z
        refine ⟨_, _, _, rfl, sameAt (k4.trans k5) nd, upd_same, fun c xs h => ?_, fun c xs h => ?_, ?_⟩
        · rw [upd_ne fun z => by rw [z] at h; have := k5 _ _ (kt _ _ h); rw [hd5] at this; cases this]
          exact k5 _ _ (kt _ _ h)
        · rw [upd_ne fun z => by rw [z] at h; have := k5 _ _ (kl _ _ h); rw [hd5] at this; cases this]
          exact k5 _ _ (kl _ _ h)
        · rw [nx [(p, g)] rfl]
          refine DT.put (hdt5.imp fun _ _ r => PAt.put hd5 nod r) (fun z hz => ?_) (PAt.put hd5 nod ⟨c, rfl, hc⟩)
          obtain ⟨r, hr1, hr2⟩ := List.mem_filterMap.mp hz
          obtain ⟨g', _, rfl⟩ := Option.map_eq_some_iff.mp hr2
          intro er
          obtain rfl : r = p := er
          exact pl_once hp hr1
    · rintro σ H4 ⟨u4, u5, kvs, rfl, k4, hd, kt, kl, hdt⟩
      rw [hvs.len, List.take_length] at hdt
      exact ⟨_, rfl, q d kvs H4 (k02.trans k4) (k02.free nd) hd hdt⟩
end
end LawK
set_option maxHeartbeats 4000000
namespace LawK
open PySem PySem.Spec PyProof.Rows L2 Ev

/-- a place and its two ranks -/
structure Rk where
  p : Pl
  a : Nat
  b : Nat
def RkAt (H : Hp) (v : V) (r : Rk) : Prop := ∃ c w, v = .ref c ∧ H c = some (.tup [w, .int (r.a : Nat), .int (r.b : Nat)]) ∧ PAt H w r.p
theorem RkAt.same {H H' : Hp} {v : V} {r : Rk} (k : Same H H') (h : RkAt H v r) : RkAt H' v r := let ⟨c, w, e, h1, h2⟩ := h; ⟨c, w, e, k _ _ h1, h2.same k⟩
theorem RkAt.put {H : Hp} {D : Addr} {o o' : HO} (hD : H D = some o) (n : ∀ xs, o ≠ .tup xs) {v : V} {r : Rk} (h : RkAt H v r) : RkAt (upd H D o') v r := by
  obtain ⟨c, w, e, h1, h2⟩ := h
  refine ⟨c, w, e, ?_, h2.put hD n⟩
  rw [upd_ne fun z => by rw [z, hD] at h1; exact n _ (Option.some.inj h1)]
  exact h1
/-- the places that are taken on, with their ranks ahead and behind -/
def rkL (ts us : List Str) (ed : Ed) : List Rk := (pl ts).filterMap fun p => (tk ts ed p).map fun g => ⟨p, rk ts p, rk us g⟩
theorem rkL_mem {ts us : List Str} {ed : Ed} {r : Rk} : r ∈ rkL ts us ed ↔ ∃ g, InT ts r.p ∧ tk ts ed r.p = some g ∧ r.a = rk ts r.p ∧ r.b = rk us g := by
  unfold rkL
  rw [List.mem_filterMap]
  constructor
  · rintro ⟨p, hp, e⟩
    obtain ⟨g, eg, rfl⟩ := Option.map_eq_some_iff.mp e
    exact ⟨g, pl_mem.mp hp, eg, rfl, rfl⟩
  · rintro ⟨g, hp, e, h1, h2⟩
    refine ⟨r.p, pl_mem.mpr hp, ?_⟩
    rw [e]
    show some (Rk.mk r.p (rk ts r.p) (rk us g)) = some r
    rw [← h1, ← h2]
def spRanks (C : Addr) : Sp := fun vs H Q _ => ∃ (s e : Addr) (ts us : List Str) (ed : Ed), vs = [.ref s, .ref e] ∧ LibAt H C s ts ∧ EdOf H e ts ed us ∧ ∀ D vs H', Same H H' → H D = none → H' D = some (.lst vs) → All2 (RkAt H') vs (rkL ts us ed) → Q (.ref D) H'
/-- a pair of places -/
def PP (H : Hp) (v : V) (x : Pl × Pl) : Prop := ∃ c a b, v = .ref c ∧ H c = some (.tup [a, b]) ∧ PAt H a x.1 ∧ PAt H b x.2
theorem PP.same {H H' : Hp} {v : V} {x : Pl × Pl} (k : Same H H') (h : PP H v x) : PP H' v x := let ⟨c, a, b, e, h1, h2, h3⟩ := h; ⟨c, a, b, e, k _ _ h1, h2.same k, h3.same k⟩
theorem PP.put {H : Hp} {D : Addr} {o o' : HO} (hD : H D = some o) (n : ∀ xs, o ≠ .tup xs) {v : V} {x : Pl × Pl} (h : PP H v x) : PP (upd H D o') v x := by
  obtain ⟨c, a, b, e, h1, h2, h3⟩ := h
  refine ⟨c, a, b, e, ?_, h2.put hD n, h3.put hD n⟩
  rw [upd_ne fun z => by rw [z, hD] at h1; exact n _ (Option.some.inj h1)]
  exact h1
def turned (x y : Rk) : Bool := decide (x.a < y.a) && decide (y.b < x.b)
def exL (L : List Rk) : List (Pl × Pl) := L.flatMap fun x => (L.filter (turned x)).map fun y => (x.p, y.p)
def spExch (C : Addr) : Sp := fun vs H Q _ => ∃ (s e : Addr) (ts us : List Str) (ed : Ed), vs = [.ref s, .ref e] ∧ LibAt H C s ts ∧ EdOf H e ts ed us ∧ ∀ D vs H', Same H H' → H D = none → H' D = some (.lst vs) → All2 (PP H') vs (exL (rkL ts us ed)) → Q (.ref D) H'
/-- places by their numbers in order -/
def rkI (ts : List Str) (i : Nat) : List (Pl × Nat) := ((ord ts).take i).map fun p => (p, rk ts p)
theorem ord_nd (ts : List Str) : (ord ts).Nodup := (ord_perm ts).nodup_iff.mpr (pl_nd ts)
theorem ord_few {ts : List Str} (few : ts.length ≤ 8) (len : ∀ t ∈ ts, t.length ≤ 200) : (ord ts).length ≤ 1600 := by
  rw [(ord_perm ts).length_eq]
  have := plN_len len ts.length
  show (plN ts ts.length).length ≤ 1600
  omega
theorem idx_of {l : List Pl} (nd : l.Nodup) {i : Nat} {p : Pl} (h : l[i]? = some p) : l.idxOf p = i := by
  obtain ⟨hi, e⟩ := List.getElem?_eq_some_iff.mp h
  have hm : p ∈ l := List.mem_of_getElem? h
  have lt := List.idxOf_lt_length_of_mem hm
  have eq := List.getElem_idxOf lt
  rcases Nat.lt_trichotomy (l.idxOf p) i with z | z | z
  · exact absurd (eq.trans e.symm) (List.pairwise_iff_getElem.mp nd _ _ lt hi z)
  · exact z
  · exact absurd (e.trans eq.symm) (List.pairwise_iff_getElem.mp nd _ _ hi lt z)
theorem rk_at {ts : List Str} {i : Nat} {p : Pl} (h : (ord ts)[i]? = some p) : rk ts p = i := idx_of (ord_nd ts) h
theorem flat_len {α β : Type} {f : α → List β} (l : List α) (n : Nat) (h : ∀ x, (f x).length ≤ n) : (l.flatMap f).length ≤ l.length * n := by
  induction l with
  | nil => exact Nat.zero_le _
  | cons x l ih =>
    rw [List.flatMap_cons, List.length_append, List.length_cons, Nat.add_mul, Nat.one_mul]
    have := h x
    omega
theorem flat_fit {α β : Type} {f : α → List β} {l : List α} (h1 : l.length ≤ 1600) (h : ∀ x, (f x).length ≤ 1600) : (l.flatMap f).length ≤ 2560000 := by
  have a := flat_len l 1600 h
  have b := Nat.mul_le_mul_right 1600 h1
  omega
def iR (v : V) (n : Nat) : Prop := v = .int (n : Nat)
theorem rkI_mem {ts : List Str} {n : Nat} (h : (ord ts).length ≤ n) {x : Pl × Nat} (hx : x ∈ rkI ts n) : x.2 = rk ts x.1 := by
  unfold rkI at hx
  obtain ⟨p, _, rfl⟩ := List.mem_map.mp hx
  rfl
theorem rkI_in {ts : List Str} {n : Nat} (h : (ord ts).length ≤ n) {p : Pl} (hp : InT ts p) : (p, rk ts p) ∈ rkI ts n := by
  unfold rkI
  rw [List.take_of_length_le h]
  exact List.mem_map.mpr ⟨p, ord_mem.mpr hp, rfl⟩
theorem rkI_get {ts : List Str} {n : Nat} (h : (ord ts).length ≤ n) {as : List (List Key × V)} (d : DT iR as (rkI ts n)) {p : Pl} (hp : InT ts p) : valV as (kk p) = some (.int (rk ts p : Nat)) := by
  rcases d.get p with ⟨g, v, h1, h2, h3⟩ | ⟨h1, _⟩
  · have := rkI_mem h h1
    have this : g = rk ts p := this
    rw [h2, h3, this]
  · exact absurd rfl (h1 _ (rkI_in h hp))
theorem tkL_get {R : V → Pl → Prop} {ts : List Str} {ed : Ed} {kvs : List (List Key × V)} (d : DT R kvs (tkL ts ed)) {p : Pl} (hp : InT ts p) : (∃ g v, tk ts ed p = some g ∧ valV kvs (kk p) = some v ∧ R v g) ∨ (tk ts ed p = none ∧ valV kvs (kk p) = none) := by
  rcases d.get p with ⟨g, v, h1, h2, h3⟩ | ⟨h1, h2⟩
  · exact .inl ⟨g, v, (tkL_mem.mp h1).2, h2, h3⟩
  · refine .inr ⟨?_, h2⟩
    cases e : tk ts ed p with
    | none => rfl
    | some g => exact absurd rfl (h1 (p, g) (tkL_mem.mpr ⟨hp, e⟩))
theorem dget {H : Hp} {a b : Addr} {kvs : List (List Key × V)} {p : Pl} {o : Option V} (e : H a = some (.dT kvs)) (hb : H b = some (.tup [.int (p.1 : Nat), .int (p.2 : Nat)])) (h : valV kvs (kk p) = o) : DGet H a (.ref b) o := by
  have := DGet.t (k := kk p) e hb
  rw [h] at this
  exact this
section
variable {P : Program} {w : World} {K : PySem.W.Frag} {mg : Str → Option Value} {base : Heap}
variable {C fI : Addr} {fdI : FuncData}
abbrev sQRanks : Stmt := topS 37
theorem scQRanks : FnScope ["library", "edit", "taken", "ahead", "behind", "number", "place"] ["library", "edit"] (defScope sQRanks) := ⟨rfl, rfl, rfl, by decide +kernel, rfl, by decide +kernel, by decide +kernel⟩
theorem ok_QRanks {f : Addr} {fd : FuncData} (F : Fun K "_taken_ranks" "_taken_ranks" sQRanks f fd)  {fPAllPlaces : Addr} {fdPAllPlaces : FuncData} (DPAllPlaces : Dk P w K mg base "all_places" sPAllPlaces ["library"] 1 (spAllPlaces C) fPAllPlaces fdPAllPlaces) {fPEdited : Addr} {fdPEdited : FuncData} (DPEdited : Dk P w K mg base "edited" sPEdited ["library", "edit"] 7 (spBehind C) fPEdited fdPEdited) {fPAllTaken : Addr} {fdPAllTaken : FuncData} (DPAllTaken : Dk P w K mg base "all_taken" sPAllTaken ["library", "edit"] 8 (spAllTaken C) fPAllTaken fdPAllTaken) {fPEndings : Addr} {fdPEndings : FuncData} (DPEndings : Dk P w K mg base "endings" sPEndings ["library"] 2 (spEndings C) fPEndings fdPEndings) (T : Glob mg) : FnOk P w K mg base CX0 9 f fd ["library", "edit"] (spRanks C) := by
  refine F.ok scQRanks (fun vs H Q E h => ?_) (fun cdv A outer s H vs Q E hr h => ?_)
  · obtain ⟨s, e, ts, us, ed, rfl, _⟩ := h
    rfl
  · refine ⟨_, (pss_cons (ps_set (i := 2) scQRanks.nd rfl (.inr rfl) (pe_call DPAllTaken.ok (hr.mono (by decide)) (by rfl) DPAllTaken.g DPAllTaken.F.kp DPAllTaken.b .nil pass0 (pa_cons (pv 0) (pa_cons (pv 1) pa_nil))))
      (pss_cons (ps_set (i := 3) scQRanks.nd rfl (.inr rfl) (pe_dcT (hu_of hr) (own := [("number", 5), ("place", 6)]) (g := (gTup K 2 (gCons (gName 5) (gCons (gName 6) gNil)))) (by rfl) scQRanks.nd (pi_enum (by rfl) T.enumerate (pa_cons (pe_call DPEndings.ok (hr.mono (by decide)) (by rfl) DPEndings.g DPEndings.F.kp DPEndings.b .nil pass0 (pa_cons (pv 0) pa_nil)) pa_nil)) (blkOk_by (N := ["library", "edit", "taken", "ahead", "behind", "number", "place"]) (sc := defScope sQRanks) (by decide +kernel)) (fun _ _ _ => pg_tup (by rfl) (pgs_cons (pg_name (i := 5) scQRanks.nd rfl (.inl rfl)) (pgs_cons (pg_name (i := 6) scQRanks.nd rfl (.inl rfl)) pgs_nil))) (fun _ _ _ => pts_nil) (fun _ _ _ => (pv 6)) (fun _ _ _ => (pv 5))))
      (pss_cons (ps_set (i := 4) scQRanks.nd rfl (.inr rfl) (pe_dcT (hu_of hr) (own := [("number", 5), ("place", 6)]) (g := (gTup K 2 (gCons (gName 5) (gCons (gName 6) gNil)))) (by rfl) scQRanks.nd (pi_enum (by rfl) T.enumerate (pa_cons (pe_call DPEndings.ok (hr.mono (by decide)) (by rfl) DPEndings.g DPEndings.F.kp DPEndings.b .nil pass0 (pa_cons (pe_call DPEdited.ok (hr.mono (by decide)) (by rfl) DPEdited.g DPEdited.F.kp DPEdited.b .nil pass0 (pa_cons (pv 0) (pa_cons (pv 1) pa_nil))) pa_nil)) pa_nil)) (blkOk_by (N := ["library", "edit", "taken", "ahead", "behind", "number", "place"]) (sc := defScope sQRanks) (by decide +kernel)) (fun _ _ _ => pg_tup (by rfl) (pgs_cons (pg_name (i := 5) scQRanks.nd rfl (.inl rfl)) (pgs_cons (pg_name (i := 6) scQRanks.nd rfl (.inl rfl)) pgs_nil))) (fun _ _ _ => pts_nil) (fun _ _ _ => (pv 6)) (fun _ _ _ => (pv 5))))
      (pss_one (ps_ret (pe_lc (own := [("place", 6)]) (g := gName 6) (by rfl) scQRanks.nd (pi_list (pe_call DPAllPlaces.ok (hr.mono (by decide)) (by rfl) DPAllPlaces.g DPAllPlaces.F.kp DPAllPlaces.b .nil pass0 (pa_cons (pv 0) pa_nil))) (blkOk_by (N := ["library", "edit", "taken", "ahead", "behind", "number", "place"]) (sc := defScope sQRanks) (by decide +kernel)) (fun _ _ _ _ _ => pg_name (i := 6) scQRanks.nd rfl (.inl rfl)) (fun _ _ _ _ _ => (pts_one (pt_cmp (pc_din (hu_of hr) (pv 6) (pv 2))))) (fun _ _ _ _ _ => (pe_tup (pa_cons (pv 6) (pa_cons (pe_dget (hu_of hr) (pv 3) (pv 6) (fun _ _ => rfl)) (pa_cons (pe_dget (hu_of hr) (pv 4) (pe_dget (hu_of hr) (pv 2) (pv 6) (fun _ _ => rfl)) (fun _ _ => rfl)) pa_nil))))))))))), ?_⟩
    obtain ⟨s, e, ts, us, ed, rfl, hl, he, q⟩ := h
    try dsimp only [tSeq, tAsg, gName]
    refine ⟨.ref s, rfl, .ref e, rfl, s, e, ts, us, ed, rfl, hl, he, fun d kvs H1 k1 nd hd hdt => ?_⟩
    refine ⟨.ref s, rfl, s, ts, rfl, hl.same k1, fun O1 H2 k2 n1 ⟨vs, hO, hvs⟩ => ?_⟩
    have lv := hvs.len
    have few1 := ord_few hl.few hl.len
    refine ⟨O1, vs, rfl, sq_of hO, fun a na => wk walk_enum (fun i H' => (∀ c o, c ≠ a → H2 c = some o → H' c = some o) ∧ ∃ as, H' a = some (.dT as) ∧ DT (iR) as (rkI ts i)) ⟨fun c o nc h => by rw [upd_ne nc]; exact h, [], upd_same, .nil⟩ (fun i H' _ g => sq_of (g.1 _ _ (fun z => by rw [z, na] at hO; cases hO) hO)) ?_ ?_⟩
    · rintro i x H3 H4 hi ⟨k3, as, ha, hda⟩ ⟨T, x1, x2, rfl, nT, rfl, e1, e2⟩
      cases e1
      obtain ⟨p, ep, b, rfl, hb⟩ := hvs.at e2
      have hb3 := k3 _ _ (fun z => by rw [z, na] at hb; cases hb) hb
      have kT := Same.new (H := H3) (o := .tup [.int (i : Nat), .ref b]) nT
      have la := hda.len
      have lr : (rkI ts i).length ≤ 1600 := by
        unfold rkI
        rw [List.length_map, List.length_take]
        omega
      refine ⟨T, _, rfl, SqT.of upd_same, rfl, _, _, rfl, _, _, rfl, rfl, rfl, .ref b, rfl, .int (i : Nat), rfl, as, kk p, b, rfl, kT _ _ ha, kT _ _ hb3, by rw [sizeLine_eq]; omega, ?_⟩
      refine ⟨fun c o nc h => by rw [upd_ne nc]; exact kT _ _ (k3 _ _ nc h), _, upd_same, ?_⟩
      have er : rkI ts (i + 1) = rkI ts i ++ [(p, i)] := by
        unfold rkI
        rw [take_snoc ep, List.map_append]
        show _ ++ [(p, rk ts p)] = _
        rw [rk_at ep]
      rw [er]
      refine DT.put hda (fun z hz => ?_) rfl
      obtain ⟨r, hr1, rfl⟩ := List.mem_map.mp hz
      intro eq
      obtain ⟨j, hj, ej⟩ := List.mem_iff_getElem.mp hr1
      rw [List.length_take] at hj
      rw [List.getElem_take] at ej
      obtain ⟨hi2, e3⟩ := List.getElem?_eq_some_iff.mp ep
      have eq : r = p := eq
      exact (List.pairwise_iff_getElem.mp (ord_nd ts) j i (by omega) hi2 (by omega)) (ej.trans (eq.trans e3.symm))
    rintro H3 ⟨k3, as, ha, hda⟩
    have sz : ∀ {xs : List V} {D : Addr}, True := fun {_ _} => trivial
    clear sz
    rw [lv] at hda
    have k23 : Same H2 H3 := fun c o h => k3 c o (ne_of_none h na) h
    have k03 := (k1.trans k2).trans k23
    clear k3
    try dsimp only [tSeq, tAsg, gName]
    refine ⟨.ref s, rfl, .ref e, rfl, s, e, ts, us, ed, rfl, hl.same k03, (he.same k03).at_, he.ld, fun s2 H4 hl2 k4 _ => ?_⟩
    refine ⟨s2, us, rfl, hl2, fun O2 H5 k5 n2 ⟨vs2, hO2, hvs2⟩ => ?_⟩
    have lv2 := hvs2.len
    have few2 := ord_few hl2.few hl2.len
    refine ⟨O2, vs2, rfl, sq_of hO2, fun a2 na2 => wk walk_enum (fun i H' => (∀ c o, c ≠ a2 → H5 c = some o → H' c = some o) ∧ ∃ as, H' a2 = some (.dT as) ∧ DT iR as (rkI us i)) ⟨fun c o nc h => by rw [upd_ne nc]; exact h, [], upd_same, .nil⟩ (fun i H' _ g => sq_of (g.1 _ _ (fun z => by rw [z, na2] at hO2; cases hO2) hO2)) ?_ ?_⟩
    · rintro i x H6 H7 hi ⟨k6, bs, ha2, hda2⟩ ⟨T, x1, x2, rfl, nT, rfl, e1, e2⟩
      cases e1
      obtain ⟨p, ep, b, rfl, hb⟩ := hvs2.at e2
      have hb3 := k6 _ _ (fun z => by rw [z, na2] at hb; cases hb) hb
      have kT := Same.new (H := H6) (o := .tup [.int (i : Nat), .ref b]) nT
      have la := hda2.len
      have lr : (rkI us i).length ≤ 1600 := by
        unfold rkI
        rw [List.length_map, List.length_take]
        omega
      refine ⟨T, _, rfl, SqT.of upd_same, rfl, _, _, rfl, _, _, rfl, rfl, rfl, .ref b, rfl, .int (i : Nat), rfl, bs, kk p, b, rfl, kT _ _ ha2, kT _ _ hb3, by rw [sizeLine_eq]; omega, ?_⟩
      refine ⟨fun c o nc h => by rw [upd_ne nc]; exact kT _ _ (k6 _ _ nc h), _, upd_same, ?_⟩
      have er : rkI us (i + 1) = rkI us i ++ [(p, i)] := by
        unfold rkI
        rw [take_snoc ep, List.map_append]
        show _ ++ [(p, rk us p)] = _
        rw [rk_at ep]
      rw [er]
      refine DT.put hda2 (fun z hz => ?_) rfl
      obtain ⟨r, hr1, rfl⟩ := List.mem_map.mp hz
      intro eq
      obtain ⟨j, hj, ej⟩ := List.mem_iff_getElem.mp hr1
      rw [List.length_take] at hj
      rw [List.getElem_take] at ej
      obtain ⟨hi2, e3⟩ := List.getElem?_eq_some_iff.mp ep
      have eq : r = p := eq
      exact (List.pairwise_iff_getElem.mp (ord_nd us) j i (by omega) hi2 (by omega)) (ej.trans (eq.trans e3.symm))
    rintro H6 ⟨k6, bs, ha2, hda2⟩
    rw [lv2] at hda2
    have k56 : Same H5 H6 := fun c o h => k6 c o (ne_of_none h na2) h
    have k36 := (k4.trans k5).trans k56
    clear k6
    have k06 := k03.trans k36
    have ha := k36 _ _ ha
    have hd := ((k2.trans k23).trans k36) _ _ hd
    have hdt := hdt.imp fun _ _ r => PAt.same ((k2.trans k23).trans k36) r
    try dsimp only [tSeq, tAsg, gName]
    refine ⟨.ref s, rfl, s, ts, rfl, hl.same k06, fun O3 H7 k7 n3 ⟨vs3, hO3, hvs3⟩ => ⟨O3, rfl, ⟨_, sq_of hO3⟩, fun D nD => lc_list (xs := vs3) (fun i H' => Same H7 H' ∧ ∃ ws, H' D = some (.lst ws) ∧ All2 (RkAt H') ws (((pl ts).take i).filterMap fun p => (tk ts ed p).map fun g => ⟨p, rk ts p, rk us g⟩)) ⟨Same.new nD, [], upd_same, .nil⟩ (fun i H' _ w => sq_of (w.1 _ _ hO3)) ?_ ?_⟩⟩
    · rintro i x H8 hx ⟨k8, ws, hD, hws⟩
      obtain ⟨p, ep, b, rfl, hb⟩ := hvs3.at hx
      have ip := pl_mem.mp (List.mem_of_getElem? ep)
      have k68 := k7.trans k8
      have hb8 := k8 _ _ hb
      have hd8 := k68 _ _ hd
      have ha8 := k68 _ _ ha
      have hb28 := k68 _ _ ha2
      have nx : ∀ z : List Rk, ((tk ts ed p).map fun g => (⟨p, rk ts p, rk us g⟩ : Rk)).toList = z → ((pl ts).take (i + 1)).filterMap (fun p => (tk ts ed p).map fun g => (⟨p, rk ts p, rk us g⟩ : Rk)) = ((pl ts).take i).filterMap (fun p => (tk ts ed p).map fun g => (⟨p, rk ts p, rk us g⟩ : Rk)) ++ z := fun z hz => by
        rw [take_snoc ep, List.filterMap_append, ← hz]
        simp only [List.filterMap_cons, List.filterMap_nil]
        cases (tk ts ed p).map fun g => (⟨p, rk ts p, rk us g⟩ : Rk) <;> rfl
      have lw := hws.len
      have few : (pl ts).length ≤ 1600 := by
        have := plN_len hl.len ts.length
        have := hl.few
        show (plN ts ts.length).length ≤ 1600
        omega
      have lf : (((pl ts).take i).filterMap fun p => (tk ts ed p).map fun g => (⟨p, rk ts p, rk us g⟩ : Rk)).length ≤ 1600 := by
        refine Nat.le_trans (List.length_filterMap_le _ _) ?_
        rw [List.length_take]
        omega
      rcases tkL_get hdt ip with ⟨g, v, hg, hv, c, rfl, hc⟩ | ⟨hg, hv⟩
      · have ig := (tk_on he.ld ip hg).2.1
        have hc8 := k68 _ _ hc
        rw [hg] at nx
        refine ⟨rfl, .ref b, rfl, .ref d, rfl, d, _, rfl, dget hd8 hb8 hv, _, rfl, iteT ?_⟩
        refine ⟨.ref b, rfl, .ref a, rfl, .ref b, rfl, a, _, rfl, dget ha8 hb8 (rkI_get (Nat.le_refl _) hda ip), .ref a2, rfl, .ref d, rfl, .ref b, rfl, d, _, rfl, dget hd8 hb8 hv, a2, _, rfl, dget hb28 hc8 (rkI_get (Nat.le_refl _) hda2 ig), by show 3 ≤ sizeLine; decide, fun t nt => ⟨ws, (Same.new nt) _ _ hD, by rw [sizeLine_eq]; omega, sameAt (k8.trans (Same.new nt)) nD, ws ++ [.ref t], upd_same, ?_⟩⟩
        rw [nx _ rfl]
        have kt := Same.new (H := H8) (o := .tup [.ref b, .int ((rk ts p : Nat) : Int), .int ((rk us g : Nat) : Int)]) nt
        have hs2 := All2.snoc (hws.imp fun _ _ r => RkAt.same kt r) (y := ⟨p, rk ts p, rk us g⟩) (show RkAt _ (.ref t) _ from ⟨t, .ref b, rfl, upd_same, ⟨b, rfl, kt _ _ hb8⟩⟩)
        exact hs2.imp fun _ _ r => r.put (kt _ _ hD) fun _ z => by cases z
      · rw [hg] at nx
        refine ⟨rfl, .ref b, rfl, .ref d, rfl, d, _, rfl, dget hd8 hb8 hv, _, rfl, iteF ⟨k8, ws, hD, ?_⟩⟩
        rw [nx [] rfl, List.append_nil]
        exact hws
    · rintro H8 ⟨k8, ws, hD, hws⟩
      rw [hvs3.len, List.take_length] at hws
      exact q D ws H8 ((k06.trans k7).trans k8) ((k06.trans k7).free nD) hD hws
end
end LawK
set_option maxHeartbeats 4000000
namespace LawK
open PySem PySem.Spec PyProof.Rows L2 Ev

theorem kit_tl {K : PySem.W.Frag} (k : Kn) : PySem.W.kitAny K (.type k.name) [.type "tuple", .type "list"] = some (decide (k = .tup) || decide (k = .lst)) := by
  cases k <;> rfl
/-- a number, a text or None -/
inductive Sc : V → Prop
  | int (i : Int) : Sc (.int i)
  | str (z : Str) : Sc (.str z)
  | non : Sc .non
theorem PAt.but {H H' : Hp} {p l : Addr} {v : V} {q : Pl} (h : PAt H v q) (h0 : HandL H p l) (b : But p H H') : PAt H' v q := let ⟨c, e, r⟩ := h; ⟨c, e, b _ _ (tup_ne h0 r) r⟩
theorem PsL.but {H H' : Hp} {p l a : Addr} {ps : List Pl} (h : PsL H a ps) (h0 : HandL H p l) (n : a ≠ p) (b : But p H H') : PsL H' a ps := let ⟨vs, e, q⟩ := h; ⟨vs, b _ _ n e, q.imp fun _ _ r => r.but h0 b⟩
theorem TsAt.but {H H' : Hp} {p l a : Addr} {ts : List Str} (h : TsAt H a ts) (h0 : HandL H p l) (b : But p H H') : TsAt H' a ts := ⟨b _ _ (tup_ne h0 h.at_) h.at_, h.few, h.sg, h.len⟩
inductive SameX (S : Hp → V → V → Prop) (H : Hp) : V → V → Prop
  | sc {x : V} (h : Sc x) : SameX S H x x
  | bl (b : Bool) : SameX S H (.bl b) (.bl b)
  | tup {a b : Addr} {xs ys : List V} (ha : H a = some (.tup xs)) (hb : H b = some (.tup ys)) (hl : xs.length = ys.length) (few : xs.length ≤ 20000) (hp : ∀ (i : Nat) x y, xs[i]? = some x → ys[i]? = some y → S H x y) : SameX S H (.ref a) (.ref b)
  | lst {a b : Addr} {xs ys : List V} (ha : H a = some (.lst xs)) (hb : H b = some (.lst ys)) (hl : xs.length = ys.length) (few : xs.length ≤ 20000) (hp : ∀ (i : Nat) x y, xs[i]? = some x → ys[i]? = some y → S H x y) : SameX S H (.ref a) (.ref b)
theorem SameX.mono {S : Hp → V → V → Prop} (hm : ∀ H H' x y, Same H H' → S H x y → S H' x y) : ∀ H H' x y, Same H H' → SameX S H x y → SameX S H' x y := fun H H' x y k h => by
  cases h with
  | sc h => exact .sc h
  | bl b => exact .bl b
  | tup ha hb hl few hp => exact .tup (k _ _ ha) (k _ _ hb) hl few fun i x y e1 e2 => hm _ _ _ _ k (hp i x y e1 e2)
  | lst ha hb hl few hp => exact .lst (k _ _ ha) (k _ _ hb) hl few fun i x y e1 e2 => hm _ _ _ _ k (hp i x y e1 e2)
def R0 : Hp → V → V → Prop := fun _ _ _ => False
def R1 := SameX R0
def R2 := SameX R1
def R3 := SameX R2
theorem R0.mono : ∀ H H' x y, Same H H' → R0 H x y → R0 H' x y := fun _ _ _ _ _ h => h
theorem R1.mono : ∀ H H' x y, Same H H' → R1 H x y → R1 H' x y := SameX.mono R0.mono
theorem R2.mono : ∀ H H' x y, Same H H' → R2 H x y → R2 H' x y := SameX.mono R1.mono
theorem R3.mono : ∀ H H' x y, Same H H' → R3 H x y → R3 H' x y := SameX.mono R2.mono
def spIsR (S : Hp → V → V → Prop) : Sp := fun vs H Q _ => ∃ x y, vs = [x, y] ∧ S H x y ∧ ∀ H', Same H H' → Q (.bl true) H'
theorem walk_zipT2 {K : PySem.W.Frag} {a b : Addr} {xs ys : List V} {n : Nat} (hn : n = min xs.length ys.length) : Walk (RZ.ItzT K a b) n (fun H => SqT K H a xs ∧ SqT K H b ys) (YPair (fun i => xs[i]?) (fun i => ys[i]?)) := by
  subst hn
  refine ⟨fun i _ hi q => ?_, fun _ q => ⟨xs, ys, q.1, q.2, by omega⟩, fun i H v H' _ q y => ?_⟩
  · have h1 : i < xs.length := by omega
    have h2 : i < ys.length := by omega
    exact ⟨xs, ys, xs[i], ys[i], q.1, q.2, by simp [h1], by simp [h2]⟩
  · obtain ⟨T, x, z, h1, h2, h3, h4, h5⟩ := y
    exact ⟨T, x, z, h1, h2, h3, h4 xs q.1, h5 ys q.2⟩
theorem kitL {K : PySem.W.Frag} (k : Kn) : PySem.W.kitAny K (.type k.name) [.type "tuple", .type "list"] = some (decide (k = .tup) || decide (k = .lst)) := kit_tl k
section
variable {P : Program} {w : World} {K : PySem.W.Frag} {mg : Str → Option Value} {base : Heap}

abbrev sIs : Stmt := topS 45
theorem scIs : FnScope ["told", "due", "one", "two"] ["told", "due"] (defScope sIs) := ⟨rfl, rfl, rfl, by decide +kernel, rfl, by decide +kernel, by decide +kernel⟩
theorem ok_is_step {S : Hp → V → V → Prop} (hm : ∀ H H' x y, Same H H' → S H x y → S H' x y) {k : Nat} {f : Addr} {fd : FuncData} (F : Fun K "_law_is" "_law_is" sIs f fd) (bS : Binds K fd ["told", "due"] []) (gS : mg "_law_is" = some (.ref f)) (G : FnOk P w K mg base CX0 k f fd ["told", "due"] (spIsR S)) (T : Glob mg) : FnOk P w K mg base CX0 (k + 1) f fd ["told", "due"] (spIsR (SameX S)) := by
  refine F.ok scIs (fun vs H Q E h => ?_) (fun cdv A outer s H vs Q E hr h => ?_)
  · obtain ⟨x, y, rfl, _⟩ := h
    rfl
  · refine ⟨_, (pss_cons (ps_if (pt_val (pe_callB call_isiT (by rfl) T.isinstance PyProof.Rows.boot_isinstance (pa_cons (pv 1) (pa_cons (pe_tup (pa_cons (pe_bltn (v := .ty "tuple") (by rfl) T.tuple (by decide +kernel) rfl) (pa_cons (pe_bltn (v := .ty "list") (by rfl) T.list (by decide +kernel) rfl) pa_nil))) pa_nil))))
      (pss_cons (ps_if (PW.pt (pw_or (pt_cmpR op_ne (pe_callB call_isi (by rfl) T.isinstance PyProof.Rows.boot_isinstance (pa_cons (pv 0) (pa_cons (pe_bltn (v := .ty "tuple") (by rfl) T.tuple (by decide +kernel) rfl) pa_nil))) (pe_callB call_isi (by rfl) T.isinstance PyProof.Rows.boot_isinstance (pa_cons (pv 1) (pa_cons (pe_bltn (v := .ty "tuple") (by rfl) T.tuple (by decide +kernel) rfl) pa_nil))) (nomark _)) (pw_or1 (pt_not (pt_val (pe_callB call_isiT (by rfl) T.isinstance PyProof.Rows.boot_isinstance (pa_cons (pv 0) (pa_cons (pe_tup (pa_cons (pe_bltn (v := .ty "tuple") (by rfl) T.tuple (by decide +kernel) rfl) (pa_cons (pe_bltn (v := .ty "list") (by rfl) T.list (by decide +kernel) rfl) pa_nil))) pa_nil))))))))
        (pss_one (ps_ret pe_bl))
        pss_nil)
        (pss_one (ps_ret (pe_and (pe_cmpR op_eq (pe_callB call_len_seq (by rfl) T.len PySem.boot_len (pa_cons (pv 0) pa_nil)) (pe_callB call_len_seq (by rfl) T.len PySem.boot_len (pa_cons (pv 1) pa_nil)) (nomark _)) (pe_one (pe_callB (cr_all rfl) (by rfl) T.all (by decide +kernel) (pa_cons (pe_lc (own := [("one", 2), ("two", 3)]) (g := (gTup K 2 (gCons (gName 2) (gCons (gName 3) gNil)))) (by rfl) scIs.nd (RZ.pi_zipA (by rfl) T.zip (pa_cons (pv 0) (pa_cons (pv 1) pa_nil))) (blkOk_by (N := ["told", "due", "one", "two"]) (sc := defScope sIs) (by decide +kernel)) (fun _ _ _ _ _ => pg_tup (by rfl) (pgs_cons (pg_name (i := 2) scIs.nd rfl (.inl rfl)) (pgs_cons (pg_name (i := 3) scIs.nd rfl (.inl rfl)) pgs_nil))) (fun _ _ _ _ _ => pts_nil) (fun _ _ _ _ _ => (pe_call G (hr.mono (by omega)) (by rfl) gS F.kp bS .nil pass0 (pa_cons (pv 2) (pa_cons (pv 3) pa_nil))))) pa_nil)))))))
      pss_nil)
      (pss_one (ps_ret (pe_and (pe_cmpR op_eq (pe_callB call_isi (by rfl) T.isinstance PyProof.Rows.boot_isinstance (pa_cons (pv 0) (pa_cons (pe_bltn (v := .ty "bool") (by rfl) T.bool (by decide +kernel) rfl) pa_nil))) (pe_callB call_isi (by rfl) T.isinstance PyProof.Rows.boot_isinstance (pa_cons (pv 1) (pa_cons (pe_bltn (v := .ty "bool") (by rfl) T.bool (by decide +kernel) rfl) pa_nil))) (nomark _)) (pe_one (pe_cmpR op_eq (pv 0) (pv 1) (nomark _))))))), ?_⟩
    obtain ⟨x, y, rfl, hS, q⟩ := h
    have pc : Paired ClsV [V.ty "tuple", V.ty "list"] [.type "tuple", .type "list"] := .cons (.ty _) (.cons (.ty _) .nil)
    have hq : (∃ k, (∀ H, Kd H x k) ∧ k ≠ .tup ∧ k ≠ .lst ∧ scal x x = true ∧ x = y) ∨ (∃ a b xs ys, x = .ref a ∧ y = .ref b ∧ xs.length = ys.length ∧ xs.length ≤ 20000 ∧ (∀ (i : Nat) x y, xs[i]? = some x → ys[i]? = some y → S H x y) ∧ (H a = some (.tup xs) ∧ H b = some (.tup ys) ∨ H a = some (.lst xs) ∧ H b = some (.lst ys))) := by
      cases hS with
      | sc h =>
        cases h with
        | int i => exact .inl ⟨.int, fun _ => .int i, by decide, by decide, rfl, rfl⟩
        | str z => exact .inl ⟨.str, fun _ => .str z, by decide, by decide, rfl, rfl⟩
        | non => exact .inl ⟨.non, fun _ => .non, by decide, by decide, rfl, rfl⟩
      | bl b => exact .inl ⟨.bl, fun _ => .bl b, by decide, by decide, rfl, rfl⟩
      | tup ha hb hl few hp => exact .inr ⟨_, _, _, _, rfl, rfl, hl, few, hp, .inl ⟨ha, hb⟩⟩
      | lst ha hb hl few hp => exact .inr ⟨_, _, _, _, rfl, rfl, hl, few, hp, .inr ⟨ha, hb⟩⟩
    rcases hq with ⟨k, hk, n1, n2, sx, rfl⟩ | ⟨a, b, xs, ys, rfl, rfl, hl, few, hp, ⟨ha, hb⟩ | ⟨ha, hb⟩⟩
    · refine ⟨x, rfl, by show 2 ≤ sizeLine; decide, fun c nc => ⟨x, c, _, _, _, _, rfl, upd_same, pc, Kd.tyx (hk _), kit_tl k, _, rfl, ?_⟩⟩
      rw [decide_eq_false n1, decide_eq_false n2]
      refine iteF ?_
      refine ⟨x, rfl, x, .ty "bool", .type (Kn.name k), .type "bool", kitB k .bl, rfl, .ty _, Kd.tyx (hk _), kit_kn k .bl, x, rfl, x, .ty "bool", .type (Kn.name k), .type "bool", kitB k .bl, rfl, .ty _, Kd.tyx (hk _), kit_kn k .bl, rfl, _, rfl, ?_⟩
      rw [decide_eq_true rfl]
      refine iteT ⟨x, rfl, x, rfl, sx, ?_⟩
      rw [decide_eq_true rfl]
      exact q _ (Same.new nc)
    · refine ⟨.ref b, rfl, by show 2 ≤ sizeLine; decide, fun c nc => ⟨.ref b, c, _, _, _, _, rfl, upd_same, pc, Kd.tyx (Kd.same (Same.new nc) (.tup hb)), kit_tl .tup, _, rfl, iteT ?_⟩⟩
      have k1 := Same.new (H := H) (o := .tup [V.ty "tuple", .ty "list"]) nc
      have ha1 := k1 _ _ ha
      have hb1 := k1 _ _ hb
      revert k1 ha1 hb1
      generalize upd H c (.tup [V.ty "tuple", .ty "list"]) = H1
      intro k1 ha1 hb1
      refine ⟨.ref a, rfl, .ref a, .ty "tuple", .type (Kn.name .tup), .type "tuple", kitB .tup .tup, rfl, .ty _, Kd.tyx (.tup ha1), kit_kn .tup .tup, .ref b, rfl, .ref b, .ty "tuple", .type (Kn.name .tup), .type "tuple", kitB .tup .tup, rfl, .ty _, Kd.tyx (.tup hb1), kit_kn .tup .tup, rfl, _, rfl, iteF ?_⟩
      refine ⟨.ref a, rfl, by show 2 ≤ sizeLine; decide, fun d nd => ⟨.ref a, d, _, _, _, _, rfl, upd_same, pc, Kd.tyx (Kd.same (Same.new nd) (.tup ha1)), kit_tl .tup, _, rfl, iteF ?_⟩⟩
      have k2 := k1.trans (Same.new (H := H1) (o := .tup [V.ty "tuple", .ty "list"]) nd)
      have ha2 := k2 _ _ ha
      have hb2 := k2 _ _ hb
      revert k2 ha2 hb2
      generalize upd H1 d (.tup [V.ty "tuple", .ty "list"]) = H2
      intro k2 ha2 hb2
      clear nc nd ha1 hb1 k1
      dsimp only [tNext, tDrop]
      refine ⟨.ref a, rfl, a, xs, rfl, .inr (SqT.of ha2), .ref b, rfl, b, ys, rfl, .inr (SqT.of hb2), rfl, _, rfl, ?_⟩
      rw [hl, decide_eq_true rfl]
      refine iteT ⟨.ref a, rfl, .ref b, rfl, a, b, xs, ys, rfl, .inr ⟨SqT.of ha2, SqT.of hb2, fun D nD => lc_it (walk_zipT2 (K := K) (a := a) (b := b) (xs := xs) (ys := ys) (n := xs.length) (by rw [hl, Nat.min_self])) (fun i H' => Same H2 H' ∧ H' D = some (.lst (List.replicate i (V.bl true)))) ⟨Same.new nD, upd_same⟩ (fun i H' _ g => ⟨SqT.of (g.1 _ _ ha2), SqT.of (g.1 _ _ hb2)⟩) ?_ ?_⟩⟩
      · rintro i v H3 H4 hi ⟨k3, hD⟩ ⟨t, y1, y2, rfl, nt, rfl, e1, e2⟩
        have kt := Same.new (H := H3) (o := .tup [y1, y2]) nt
        refine ⟨t, [y1, y2], rfl, SqT.of upd_same, rfl, y1, [y2], rfl, y2, [], rfl, rfl, rfl, y1, rfl, y2, rfl, y1, y2, rfl, hm _ _ _ _ ((k2.trans k3).trans kt) (hp i y1 y2 e1 e2), fun H5 k5 => ⟨_, (kt.trans k5) _ _ hD, ?_, sameAt ((k3.trans kt).trans k5) nD, ?_⟩⟩
        · rw [List.length_replicate]
          have h3 : sizeLine = 16777216 := sizeLine_eq
          omega
        · rw [upd_same, List.replicate_succ']
      · rintro H3 ⟨k3, hD⟩
        refine ⟨D, List.replicate xs.length true, rfl, sq_of (by rw [hD, List.map_replicate]), ?_⟩
        rw [show (List.replicate xs.length true).all id = true from List.all_eq_true.mpr fun b hb => (List.mem_replicate.mp hb).2]
        exact q _ (k2.trans k3)

    · refine ⟨.ref b, rfl, by show 2 ≤ sizeLine; decide, fun c nc => ⟨.ref b, c, _, _, _, _, rfl, upd_same, pc, Kd.tyx (Kd.same (Same.new nc) (.lst hb)), kit_tl .lst, _, rfl, iteT ?_⟩⟩
      have k1 := Same.new (H := H) (o := .tup [V.ty "tuple", .ty "list"]) nc
      have ha1 := k1 _ _ ha
      have hb1 := k1 _ _ hb
      revert k1 ha1 hb1
      generalize upd H c (.tup [V.ty "tuple", .ty "list"]) = H1
      intro k1 ha1 hb1
      refine ⟨.ref a, rfl, .ref a, .ty "tuple", .type (Kn.name .lst), .type "tuple", kitB .lst .tup, rfl, .ty _, Kd.tyx (.lst ha1), kit_kn .lst .tup, .ref b, rfl, .ref b, .ty "tuple", .type (Kn.name .lst), .type "tuple", kitB .lst .tup, rfl, .ty _, Kd.tyx (.lst hb1), kit_kn .lst .tup, rfl, _, rfl, iteF ?_⟩
      refine ⟨.ref a, rfl, by show 2 ≤ sizeLine; decide, fun d nd => ⟨.ref a, d, _, _, _, _, rfl, upd_same, pc, Kd.tyx (Kd.same (Same.new nd) (.lst ha1)), kit_tl .lst, _, rfl, iteF ?_⟩⟩
      have k2 := k1.trans (Same.new (H := H1) (o := .tup [V.ty "tuple", .ty "list"]) nd)
      have ha2 := k2 _ _ ha
      have hb2 := k2 _ _ hb
      revert k2 ha2 hb2
      generalize upd H1 d (.tup [V.ty "tuple", .ty "list"]) = H2
      intro k2 ha2 hb2
      clear nc nd ha1 hb1 k1
      dsimp only [tNext, tDrop]
      refine ⟨.ref a, rfl, a, xs, rfl, .inl (sq_of ha2), .ref b, rfl, b, ys, rfl, .inl (sq_of hb2), rfl, _, rfl, ?_⟩
      rw [hl, decide_eq_true rfl]
      refine iteT ⟨.ref a, rfl, .ref b, rfl, a, b, xs, ys, rfl, .inl ⟨sq_of ha2, sq_of hb2, fun D nD => lc_it (walk_zip (K := K) (a := a) (b := b) (xs := xs) (ys := ys) (n := xs.length) (by rw [hl, Nat.min_self])) (fun i H' => Same H2 H' ∧ H' D = some (.lst (List.replicate i (V.bl true)))) ⟨Same.new nD, upd_same⟩ (fun i H' _ g => ⟨sq_of (g.1 _ _ ha2), sq_of (g.1 _ _ hb2)⟩) ?_ ?_⟩⟩
      · rintro i v H3 H4 hi ⟨k3, hD⟩ ⟨t, y1, y2, rfl, nt, rfl, e1, e2⟩
        have kt := Same.new (H := H3) (o := .tup [y1, y2]) nt
        refine ⟨t, [y1, y2], rfl, SqT.of upd_same, rfl, y1, [y2], rfl, y2, [], rfl, rfl, rfl, y1, rfl, y2, rfl, y1, y2, rfl, hm _ _ _ _ ((k2.trans k3).trans kt) (hp i y1 y2 e1 e2), fun H5 k5 => ⟨_, (kt.trans k5) _ _ hD, ?_, sameAt ((k3.trans kt).trans k5) nD, ?_⟩⟩
        · rw [List.length_replicate]
          have h3 : sizeLine = 16777216 := sizeLine_eq
          omega
        · rw [upd_same, List.replicate_succ']
      · rintro H3 ⟨k3, hD⟩
        refine ⟨D, List.replicate xs.length true, rfl, sq_of (by rw [hD, List.map_replicate]), ?_⟩
        rw [show (List.replicate xs.length true).all id = true from List.all_eq_true.mpr fun b hb => (List.mem_replicate.mp hb).2]
        exact q _ (k2.trans k3)

end
end LawK
set_option maxHeartbeats 4000000
namespace Ev
open PySem PySem.Spec PyProof.Rows L2
/-- a text's signs, one by one -/
def chars (z : Str) : List V := z.cps.toList.map fun c => V.str ⟨#[c]⟩
theorem chars_length (z : Str) : (chars z).length = z.length := by simp [chars, Str.length]
theorem paired_of {α β : Type} {R : α → β → Prop} : ∀ (xs : List α) (ys : List β), xs.length = ys.length → (∀ (i : Nat) x y, xs[i]? = some x → ys[i]? = some y → R x y) → Paired R xs ys
  | [], [], _, _ => .nil
  | x :: xs, y :: ys, h, f => .cons (f 0 x y rfl rfl) (paired_of xs ys (by simpa using h) fun i a b ha hb => f (i + 1) a b (by simpa using ha) (by simpa using hb))
  | [], _ :: _, h, _ => absurd h (by simp)
  | _ :: _, [], h, _ => absurd h (by simp)
theorem call_list_S {X : Cx} (hc : X.calm = true) : CallR X (.type "list") (fun xs H Q => ∃ z, xs = [.str z] ∧ z.length ≤ sizeLine ∧ ∀ l, H l = none → Q (.ref l) (upd H l (.lst (chars z)))) := by
  intro pins s σ H xs us Q I r h
  obtain ⟨z, rfl, hz, q⟩ := h
  obtain ⟨u, rfl, rx⟩ := vals1 r
  obtain ⟨t, rfl⟩ := (show ∃ t, u = Value.str z t from rx)
  refine call_list_str (hn := hz) (I.ok.hd hc) z t fun h' tk acc' c' kp e hacc => ?_
  have r' : Vals (chars z) acc'.toList := paired_of _ _ (by
      rw [chars_length, Array.length_toList, hacc.1]
      rfl) fun i x v hx hv => by
    obtain ⟨c, u, hc1, rfl⟩ := hacc.2 i v (by simpa using hv)
    unfold chars at hx
    rw [List.getElem?_map] at hx
    obtain ⟨c', hc', rfl⟩ := Option.map_eq_some_iff.mp hx
    have : c = c' := by
      have h2 : z.cps[i]? = some c' := by simpa using hc'
      rw [hc1] at h2
      exact Option.some.inj h2
    rw [this]
    exact ⟨u, rfl⟩
  refine ⟨.ref s.heap.objs.size, _, I.laid (t' := tk) kp (Nat.le_refl _) (show ObjOk X.prog X.w _ h' _ (.lst (chars z)) from ⟨by rw [chars_length]; exact hz, acc'.toList, c', r', by simpa using e⟩), rfl, q _ (I.hok.fresh (Nat.le_refl _))⟩
end Ev
set_option maxHeartbeats 4000000
namespace LawK
open PySem PySem.Spec PyProof.Rows L2 Ev
theorem cutV_of {xs : List V} {a b : Int} (h : 0 ≤ a) (h2 : a ≤ b) : cutV xs (some a) (some b) = (xs.drop a.toNat).take (b - a).toNat := by
  unfold cutV
  rw [sIx_int h, sIx_int (by omega)]
  by_cases c : a.toNat ≤ xs.length
  · rw [Nat.min_eq_left c]
    by_cases d : b.toNat ≤ xs.length
    · rw [Nat.min_eq_left d]
      congr 1
      omega
    · rw [Nat.min_eq_right (by omega), List.take_of_length_le (by rw [List.length_drop]; omega), List.take_of_length_le (by rw [List.length_drop]; omega)]
  · rw [List.drop_of_length_le (by omega), List.drop_of_length_le (by omega)]
    simp
def rLst (K : PySem.W.Frag) : List V → Hp → VK → Prop := fun xs H Q => ∃ p ys, xs = [.ref p] ∧ (SqL K H p ys ∨ SqT K H p ys) ∧ ∀ l, H l = none → Q (.ref l) (upd H l (.lst ys))
/-- list(x), x a list or a text -/
def rEL (K : PySem.W.Frag) : List V → Hp → VK → Prop := fun xs H Q => rLst K xs H Q ∨ ∃ z, xs = [.str z] ∧ z.length ≤ sizeLine ∧ ∀ l, H l = none → Q (.ref l) (upd H l (.lst (chars z)))
theorem call_list_e {X : Cx} (hc : X.calm = true) : CallR X (.type "list") (rEL X.K) := by
  intro pins s σ H xs us Q I r h
  rcases h with h | h
  · exact call_list_of pins s σ H xs us Q I r h
  · exact call_list_S hc pins s σ H xs us Q I r h
/-- the signs that an edit brings -/
def spAdded : Sp := fun vs H Q _ => ∃ (e : Addr) (ed : Ed), vs = [.ref e] ∧ H e = some (.tup ed.vals) ∧ ∀ H', Same H H' → Q (.str ed.fresh) H'
/-- an item of rows: a list, or a text -/
def RowI (H : Hp) (x : V) (vs : List V) : Prop := (∃ r, x = .ref r ∧ H r = some (.lst vs)) ∨ (∃ z : Str, x = .str z ∧ vs = chars z ∧ z.length ≤ 2000)
theorem RowI.same {H H' : Hp} {x : V} {vs : List V} (k : Same H H') (h : RowI H x vs) : RowI H' x vs := by
  rcases h with ⟨r, e, h⟩ | h
  · exact .inl ⟨r, e, k _ _ h⟩
  · exact .inr h
theorem ixN_in {n : Nat} {i : Int} (h0 : 0 ≤ i) (h1 : i < n) : ixN n i = some i.toNat := by
  unfold ixN
  rw [if_pos h0, if_pos h1]
structure RowsV (H : Hp) (D : Addr) (rs : List Addr) (us : List (List V)) : Prop where
  len : rs.length = us.length
  at_ : ∀ (i : Nat) r u, rs[i]? = some r → us[i]? = some u → r ≠ D ∧ H r = some (.lst u)
theorem RowsV.same {H H' : Hp} {D : Addr} {rs : List Addr} {us : List (List V)} (h : RowsV H D rs us) (k : ∀ b o, b ≠ D → H b = some o → H' b = some o) : RowsV H' D rs us :=
  ⟨h.len, fun i r u hr hu => ⟨(h.at_ i r u hr hu).1, k _ _ (h.at_ i r u hr hu).1 (h.at_ i r u hr hu).2⟩⟩
theorem RowsV.set {H : Hp} {D r' : Addr} {rs : List Addr} {us : List (List V)} {z : List V} (h : RowsV H D rs us) (n : r' ≠ D) (hr : H r' = some (.lst z)) (t : Nat) : RowsV H D (rs.set t r') (us.set t z) := by
  refine ⟨by rw [List.length_set, List.length_set]; exact h.len, fun i r u h1 h2 => ?_⟩
  rw [List.getElem?_set] at h1 h2
  by_cases e : t = i
  · rw [if_pos e] at h1 h2
    split at h1
    · split at h2
      · cases h1
        cases h2
        exact ⟨n, hr⟩
      · cases h2
    · cases h1
  · rw [if_neg e] at h1 h2
    exact h.at_ i r u h1 h2
theorem RowsV.snoc {H : Hp} {D r' : Addr} {rs : List Addr} {us : List (List V)} {z : List V} (h : RowsV H D rs us) (n : r' ≠ D) (hr : H r' = some (.lst z)) : RowsV H D (rs ++ [r']) (us ++ [z]) := by
  refine ⟨by rw [List.length_append, List.length_append, h.len]; rfl, fun i r u h1 h2 => ?_⟩
  by_cases e : i < rs.length
  · rw [List.getElem?_append_left e] at h1
    rw [List.getElem?_append_left (by rw [← h.len]; exact e)] at h2
    exact h.at_ i r u h1 h2
  · rw [List.getElem?_append_right (by omega)] at h1
    rw [List.getElem?_append_right (by rw [← h.len]; omega)] at h2
    have e1 : i - rs.length = 0 := by
      cases q : i - rs.length with
      | zero => rfl
      | succ n => rw [q] at h1; simp at h1
    have e2 : i - us.length = 0 := by
      rw [← h.len]
      exact e1
    rw [e1] at h1
    rw [e2] at h2
    cases h1
    cases h2
    exact ⟨n, hr⟩
theorem RowsV.pop {H : Hp} {D : Addr} {rs : List Addr} {us : List (List V)} (h : RowsV H D rs us) : RowsV H D rs.dropLast us.dropLast := by
  refine ⟨by rw [List.length_dropLast, List.length_dropLast, h.len], fun i r u h1 h2 => ?_⟩
  rw [List.getElem?_dropLast] at h1 h2
  split at h1
  · split at h2
    · exact h.at_ i r u h1 h2
    · cases h2
  · cases h1
theorem RowsV.get {H : Hp} {D : Addr} {rs : List Addr} {us : List (List V)} (h : RowsV H D rs us) {t : Int} (h0 : 0 ≤ t) (h1 : t < us.length) : ∃ r, atI (rs.map V.ref) t = some (.ref r) ∧ r ≠ D ∧ H r = some (.lst (rw_ us t)) ∧ ixN (rs.map V.ref).length t = some t.toNat := by
  have l : t.toNat < rs.length := by rw [h.len]; omega
  have e1 : ixN (rs.map V.ref).length t = some t.toNat := ixN_in h0 (by rw [List.length_map, h.len]; exact h1)
  obtain ⟨g1, g2⟩ := h.at_ t.toNat _ _ (List.getElem?_eq_getElem l) (rw_at h0 h1)
  refine ⟨rs[t.toNat], ?_, g1, g2, e1⟩
  unfold atI
  rw [e1]
  show (rs.map V.ref)[t.toNat]? = _
  rw [List.getElem?_map, List.getElem?_eq_getElem l]
  rfl
def RowsVAt (H : Hp) (o : Addr) (us : List (List V)) : Prop := ∃ rs : List Addr, H o = some (.lst (rs.map V.ref)) ∧ RowsV H o rs us
def spLBehind : Sp := fun vs H Q _ => ∃ (a e g : Addr) (ts : List Str) (ed : Ed) (VR : List (List V)) (fvs : List V), vs = [.ref a, .ref e, .ref g] ∧ (∃ xs, (H a = some (.lst xs) ∨ H a = some (.tup xs)) ∧ All2 (RowI H) xs VR) ∧ H e = some (.tup ed.vals) ∧ H g = some (.lst fvs) ∧ Fit VR ts ∧ ed.fits ts ∧ ts.length ≤ 8 ∧ (∀ t ∈ ts, t.length ≤ 200) ∧ fvs.length ≤ 2500 ∧ (∀ t p z, ed = .change t p z → fvs.length = z.length) ∧
  ∀ o H', H o = none → RowsVAt H' o (mAfter VR fvs ed) → Same H H' → Q (.ref o) H'
section
variable {P : Program} {w : World} {K : PySem.W.Frag} {mg : Str → Option Value} {base : Heap}
abbrev sAdded : Stmt := topS 50
theorem scAdded : FnScope ["edit"] ["edit"] (defScope sAdded) := ⟨rfl, rfl, rfl, by decide +kernel, rfl, by decide +kernel, by decide +kernel⟩
theorem ok_Added {f : Addr} {fd : FuncData} (F : Fun K "_law_added" "_law_added" sAdded f fd)   (T : Glob mg) : FnOk P w K mg base CX0 1 f fd ["edit"] spAdded := by
  refine F.ok scAdded (fun vs H Q E h => ?_) (fun cdv A outer s H vs Q E hr h => ?_)
  · obtain ⟨e, ed, rfl, _⟩ := h
    rfl
  · refine ⟨_, (pss_cons (ps_if (pt_cmpR op_in_seq (pe_ix ix_tup (pv 0) pe_int (fun _ _ => rfl)) (pe_tup (pa_cons pe_str (pa_cons pe_str (pa_cons pe_str pa_nil)))) rfl)
      (pss_one (ps_ret (pe_ix ix_tup (pv 0) (pe_op op_sub (pe_callB call_len_seq (by rfl) T.len PySem.boot_len (pa_cons (pv 0) pa_nil)) pe_int) (fun _ _ => rfl))))
      pss_nil)
      (pss_one (ps_ret pe_str))), ?_⟩
    obtain ⟨e, ed, rfl, he, q⟩ := h
    have st : ∀ (t : Addr), H t = none → Same H (upd H t (.tup [.str "put", .str "change", .str "come"])) := fun t nt => Same.new nt
    cases ed with
    | put t a z =>
      refine ⟨.ref e, rfl, e, _, 0, _, rfl, rfl, SqT.of he, rfl, by show 3 ≤ sizeLine; decide, fun c nc => ⟨c, _, rfl, .inr (SqT.of upd_same), rfl, rfl, _, rfl, ite2 (fun _ => ?_) (fun x => absurd (by decide +kernel) x)⟩⟩
      exact ⟨.ref e, rfl, .ref e, rfl, e, _, rfl, .inr (SqT.of (st c nc _ _ he)), _, _, rfl, rfl, e, _, 3, _, rfl, rfl, SqT.of (st c nc _ _ he), rfl, q _ (st c nc)⟩
    | change t a z =>
      refine ⟨.ref e, rfl, e, _, 0, _, rfl, rfl, SqT.of he, rfl, by show 3 ≤ sizeLine; decide, fun c nc => ⟨c, _, rfl, .inr (SqT.of upd_same), rfl, rfl, _, rfl, ite2 (fun _ => ?_) (fun x => absurd (by decide +kernel) x)⟩⟩
      exact ⟨.ref e, rfl, .ref e, rfl, e, _, rfl, .inr (SqT.of (st c nc _ _ he)), _, _, rfl, rfl, e, _, 3, _, rfl, rfl, SqT.of (st c nc _ _ he), rfl, q _ (st c nc)⟩
    | come z =>
      refine ⟨.ref e, rfl, e, _, 0, _, rfl, rfl, SqT.of he, rfl, by show 3 ≤ sizeLine; decide, fun c nc => ⟨c, _, rfl, .inr (SqT.of upd_same), rfl, rfl, _, rfl, ite2 (fun _ => ?_) (fun x => absurd (by decide +kernel) x)⟩⟩
      exact ⟨.ref e, rfl, .ref e, rfl, e, _, rfl, .inr (SqT.of (st c nc _ _ he)), _, _, rfl, rfl, e, _, 1, _, rfl, rfl, SqT.of (st c nc _ _ he), rfl, q _ (st c nc)⟩
    | cut t a n => exact ⟨.ref e, rfl, e, _, 0, _, rfl, rfl, SqT.of he, rfl, by show 3 ≤ sizeLine; decide, fun c nc => ⟨c, _, rfl, .inr (SqT.of upd_same), rfl, rfl, _, rfl, ite2 (fun x => absurd x (by decide +kernel)) (fun _ => q _ (st c nc))⟩⟩
    | go => exact ⟨.ref e, rfl, e, _, 0, _, rfl, rfl, SqT.of he, rfl, by show 3 ≤ sizeLine; decide, fun c nc => ⟨c, _, rfl, .inr (SqT.of upd_same), rfl, rfl, _, rfl, ite2 (fun x => absurd x (by decide +kernel)) (fun _ => q _ (st c nc))⟩⟩
    | split t a => exact ⟨.ref e, rfl, e, _, 0, _, rfl, rfl, SqT.of he, rfl, by show 3 ≤ sizeLine; decide, fun c nc => ⟨c, _, rfl, .inr (SqT.of upd_same), rfl, rfl, _, rfl, ite2 (fun x => absurd x (by decide +kernel)) (fun _ => q _ (st c nc))⟩⟩
    | join t u => exact ⟨.ref e, rfl, e, _, 0, _, rfl, rfl, SqT.of he, rfl, by show 3 ≤ sizeLine; decide, fun c nc => ⟨c, _, rfl, .inr (SqT.of upd_same), rfl, rfl, _, rfl, ite2 (fun x => absurd x (by decide +kernel)) (fun _ => q _ (st c nc))⟩⟩
    | move t a n u r => exact ⟨.ref e, rfl, e, _, 0, _, rfl, rfl, SqT.of he, rfl, by show 3 ≤ sizeLine; decide, fun c nc => ⟨c, _, rfl, .inr (SqT.of upd_same), rfl, rfl, _, rfl, ite2 (fun x => absurd x (by decide +kernel)) (fun _ => q _ (st c nc))⟩⟩
abbrev sLBehind : Stmt := topS 51
theorem scLBehind : FnScope ["rows", "edit", "added", "row", "at", "other"] ["rows", "edit", "added"] (defScope sLBehind) := ⟨rfl, rfl, rfl, by decide +kernel, rfl, by decide +kernel, by decide +kernel⟩
theorem ok_LBehind {f : Addr} {fd : FuncData} (F : Fun K "_law_behind" "_law_behind" sLBehind f fd)   (T : Glob mg) : FnOk P w K mg base CX0 1 f fd ["rows", "edit", "added"] spLBehind := by
  refine F.ok scLBehind (fun vs H Q E h => ?_) (fun cdv A outer s H vs Q E hr h => ?_)
  · obtain ⟨a, e, g, ts, ed, VR, fvs, rfl, _⟩ := h
    rfl
  · refine ⟨_, (pss_cons (ps_setLc (i := 0) (own := [("row", 3)]) (g := gName 3) (by rfl) scLBehind.nd rfl rfl (sw_true rfl rfl rfl (by decide +kernel)) (PI.or (pi_list (pv 0)) (pi_tup (pv 0))) (blkOk_by (N := ["rows", "edit", "added", "row", "at", "other"]) (sc := defScope sLBehind) (by decide +kernel)) (fun _ _ _ _ _ => pg_name (i := 3) scLBehind.nd rfl (.inl rfl)) (fun _ _ _ _ _ => pts_nil) (fun _ _ _ _ _ => (pe_callTy (r := rEL K) (call_list_e rfl) (by rfl) T.list (by decide +kernel) (pa_cons (pv 3) pa_nil))))
      (pss_cons (ps_if (pt_cmpR op_eq (pe_ix ix_tup (pv 1) pe_int (fun _ _ => rfl)) pe_str (nomark _))
      (pss_one (ps_ret (pe_op op_cat (pv 0) (pe_lst (pa_cons (pe_callTy (r := rLst K) call_list_of (by rfl) T.list (by decide +kernel) (pa_cons (pv 2) pa_nil)) pa_nil)))))
      pss_nil)
      (pss_cons (ps_if (pt_cmpR op_eq (pe_ix ix_tup (pv 1) pe_int (fun _ _ => rfl)) pe_str (nomark _))
      (pss_one (ps_ret (pe_slice sl_list (pv 0) po_none (po_some (pe_op op_sub (pe_callB call_len_seq (by rfl) T.len PySem.boot_len (pa_cons (pv 0) pa_nil)) pe_int)))))
      pss_nil)
      (pss_cons (ps_set (i := 3) scLBehind.nd rfl (.inl rfl) (pe_ix ix_list (pv 0) (pe_ix ix_tup (pv 1) pe_int (fun _ _ => rfl)) (fun _ _ => rfl)))
      (pss_cons (ps_if (pt_cmpR op_eq (pe_ix ix_tup (pv 1) pe_int (fun _ _ => rfl)) pe_str (nomark _))
      (pss_cons (ps_asg (pe_op op_cat (pv 3) (pe_ix ix_list (pv 0) (pe_ix ix_tup (pv 1) pe_int (fun _ _ => rfl)) (fun _ _ => rfl))) (pg_sub (pv 0) (pe_ix ix_tup (pv 1) pe_int (fun _ _ => rfl)) set_list))
        (pss_cons (ps_asg (pe_lst pa_nil) (pg_sub (pv 0) (pe_ix ix_tup (pv 1) pe_int (fun _ _ => rfl)) set_list))
        (pss_one (ps_ret (pv 0)))))
      pss_nil)
      (pss_cons (ps_set (i := 4) scLBehind.nd rfl (.inl rfl) (pe_ix ix_tup (pv 1) pe_int (fun _ _ => rfl)))
      (pss_cons (ps_if (pt_cmpR op_eq (pe_ix ix_tup (pv 1) pe_int (fun _ _ => rfl)) pe_str (nomark _))
      (pss_one (ps_asg (pe_op op_cat (pe_op op_cat (pe_slice sl_list (pv 3) po_none (po_some (pv 4))) (pe_callTy (r := rLst K) call_list_of (by rfl) T.list (by decide +kernel) (pa_cons (pv 2) pa_nil))) (pe_slice sl_list (pv 3) (po_some (pv 4)) po_none)) (pg_sub (pv 0) (pe_ix ix_tup (pv 1) pe_int (fun _ _ => rfl)) set_list)))
      pss_nil)
      (pss_cons (ps_if (pt_cmpR op_eq (pe_ix ix_tup (pv 1) pe_int (fun _ _ => rfl)) pe_str (nomark _))
      (pss_one (ps_asg (pe_op op_cat (pe_slice sl_list (pv 3) po_none (po_some (pv 4))) (pe_slice sl_list (pv 3) (po_some (pe_op op_add (pv 4) (pe_ix ix_tup (pv 1) pe_int (fun _ _ => rfl)))) po_none)) (pg_sub (pv 0) (pe_ix ix_tup (pv 1) pe_int (fun _ _ => rfl)) set_list)))
      pss_nil)
      (pss_cons (ps_if (pt_cmpR op_eq (pe_ix ix_tup (pv 1) pe_int (fun _ _ => rfl)) pe_str (nomark _))
      (pss_one (ps_asg (pe_op op_cat (pe_op op_cat (pe_slice sl_list (pv 3) po_none (po_some (pv 4))) (pe_callTy (r := rLst K) call_list_of (by rfl) T.list (by decide +kernel) (pa_cons (pv 2) pa_nil))) (pe_slice sl_list (pv 3) (po_some (pe_op op_add (pv 4) (pe_callB call_len_seq (by rfl) T.len PySem.boot_len (pa_cons (pv 2) pa_nil)))) po_none)) (pg_sub (pv 0) (pe_ix ix_tup (pv 1) pe_int (fun _ _ => rfl)) set_list)))
      pss_nil)
      (pss_cons (ps_if (pt_cmpR op_eq (pe_ix ix_tup (pv 1) pe_int (fun _ _ => rfl)) pe_str (nomark _))
      (pss_cons (ps_asg (pe_slice sl_list (pv 3) po_none (po_some (pv 4))) (pg_sub (pv 0) (pe_ix ix_tup (pv 1) pe_int (fun _ _ => rfl)) set_list))
        (pss_one (ps_expr (pe_bm PySem.F.plainAttrs_list PySem.F.slot_list_append PySem.F.type_list_append mt_append (pv 0) (pa_cons (pe_slice sl_list (pv 3) (po_some (pv 4)) po_none) pa_nil)))))
      pss_nil)
      (pss_cons (ps_if (pt_cmpR op_eq (pe_ix ix_tup (pv 1) pe_int (fun _ _ => rfl)) pe_str (nomark _))
      (pss_cons (ps_asg (pe_op op_cat (pe_slice sl_list (pv 3) po_none (po_some (pv 4))) (pe_slice sl_list (pv 3) (po_some (pe_op op_add (pv 4) (pe_ix ix_tup (pv 1) pe_int (fun _ _ => rfl)))) po_none)) (pg_sub (pv 0) (pe_ix ix_tup (pv 1) pe_int (fun _ _ => rfl)) set_list))
        (pss_cons (ps_set (i := 5) scLBehind.nd rfl (.inl rfl) (pe_ix ix_list (pv 0) (pe_ix ix_tup (pv 1) pe_int (fun _ _ => rfl)) (fun _ _ => rfl)))
        (pss_one (ps_asg (pe_op op_cat (pe_op op_cat (pe_slice sl_list (pv 5) po_none (po_some (pe_ix ix_tup (pv 1) pe_int (fun _ _ => rfl)))) (pe_slice sl_list (pv 3) (po_some (pv 4)) (po_some (pe_op op_add (pv 4) (pe_ix ix_tup (pv 1) pe_int (fun _ _ => rfl)))))) (pe_slice sl_list (pv 5) (po_some (pe_ix ix_tup (pv 1) pe_int (fun _ _ => rfl))) po_none)) (pg_sub (pv 0) (pe_ix ix_tup (pv 1) pe_int (fun _ _ => rfl)) set_list)))))
      pss_nil)
      (pss_one (ps_ret (pv 0)))))))))))))), ?_⟩
    obtain ⟨a, e, g, ts, ed, VR, fvs, rfl, ⟨xs, ha, hxs⟩, he, hg, hR, hf, few, len, lf, lfc, q⟩ := h
    have lx := hxs.len
    have lt := hR.len
    dsimp only [tSeq, tAsg, gName]
    refine (?_ : ∀ Q : V → Hp → Prop, (∀ D H', H D = none → Same H H' → RowsVAt H' D VR → Q (.ref D) H') → tLc _ _ _ _ _ _ H Q) _ ?_
    · intro Q kk
      have base : ∀ D, H D = none → Same H (upd H D (.lst [])) ∧ ∃ rs : List Addr, upd H D (.lst []) D = some (.lst (rs.map V.ref)) ∧ RowsV (upd H D (.lst [])) D rs (VR.take 0) := fun D nD => ⟨Same.new nD, [], upd_same, rfl, fun i r u h1 => by simp at h1⟩
      have last : ∀ D, H D = none → ∀ H2, (Same H H2 ∧ ∃ rs : List Addr, H2 D = some (.lst (rs.map V.ref)) ∧ RowsV H2 D rs (VR.take xs.length)) → Q (.ref D) H2 := fun D nD H2 ⟨k, rs, hD, hr⟩ => kk D H2 nD k ⟨rs, hD, by rw [lx, List.take_length] at hr; exact hr⟩
      have step : ∀ D, H D = none → ∀ i x H2, xs[i]? = some x → (Same H H2 ∧ ∃ rs : List Addr, H2 D = some (.lst (rs.map V.ref)) ∧ RowsV H2 D rs (VR.take i)) → rEL K [x] H2 fun y H4 => ∃ acc, H4 D = some (.lst acc) ∧ acc.length < sizeLine ∧ (Same H (upd H4 D (.lst (acc ++ [y]))) ∧ ∃ rs : List Addr, upd H4 D (.lst (acc ++ [y])) D = some (.lst (rs.map V.ref)) ∧ RowsV (upd H4 D (.lst (acc ++ [y]))) D rs (VR.take (i + 1))) := fun D nD i x H2 hx ⟨k, rs, hD, hr⟩ => by
        obtain ⟨vs, ev, rw1⟩ := hxs.at hx
        have lr := hr.len
        rw [List.length_take] at lr
        have put : ∀ l us, H2 l = none → us = vs → ∃ acc, upd H2 l (.lst us) D = some (.lst acc) ∧ acc.length < sizeLine ∧ (Same H (upd (upd H2 l (.lst us)) D (.lst (acc ++ [.ref l]))) ∧ ∃ rs : List Addr, upd (upd H2 l (.lst us)) D (.lst (acc ++ [.ref l])) D = some (.lst (rs.map V.ref)) ∧ RowsV (upd (upd H2 l (.lst us)) D (.lst (acc ++ [.ref l]))) D rs (VR.take (i + 1))) := fun l us nl eu => by
          subst eu
          have kl := Same.new (o := .lst us) nl
          have nlD : l ≠ D := fun w => by rw [w, hD] at nl; cases nl
          refine ⟨_, kl _ _ hD, by rw [List.length_map, sizeLine_eq]; omega, sameAt (k.trans kl) nD, rs ++ [l], by rw [upd_same, List.map_append]; rfl, ?_⟩
          rw [take_snoc ev]
          exact ((hr.same fun b o nb hb => kl b o hb).snoc nlD upd_same).same fun b o nb hb => (upd_ne nb).trans hb
        rcases rw1.same k with ⟨r, rfl, h1⟩ | ⟨z, rfl, h1, lz⟩
        · exact .inl ⟨r, vs, rfl, .inl (sq_of h1), fun l nl => put l _ nl rfl⟩
        · exact .inr ⟨z, rfl, by rw [sizeLine_eq]; omega, fun l nl => put l _ nl h1.symm⟩
      rcases ha with ha | ha
      · refine .inl ⟨.ref a, rfl, a, rfl, ⟨_, sq_of ha⟩, fun D nD => lc_list (xs := xs) (fun i H2 => Same H H2 ∧ ∃ rs : List Addr, H2 D = some (.lst (rs.map V.ref)) ∧ RowsV H2 D rs (VR.take i)) (base D nD) (fun i H2 _ w => sq_of (w.1 _ _ ha)) (fun i x H2 hx w => ⟨rfl, x, rfl, step D nD i x H2 hx w⟩) (last D nD)⟩
      · refine .inr ⟨.ref a, rfl, a, rfl, ⟨_, SqT.of ha⟩, fun D nD => lc_tup (xs := xs) (fun i H2 => Same H H2 ∧ ∃ rs : List Addr, H2 D = some (.lst (rs.map V.ref)) ∧ RowsV H2 D rs (VR.take i)) (base D nD) (fun i H2 _ w => SqT.of (w.1 _ _ ha)) (fun i x H2 hx w => ⟨rfl, x, rfl, step D nD i x H2 hx w⟩) (last D nD)⟩
    intro D H1 nD0 k0 ⟨rs, hD, hrs⟩
    have he1 := k0 _ _ he
    have hg1 := k0 _ _ hg
    have heD : e ≠ D := fun w => by rw [w, nD0] at he; cases he
    have fewR : VR.length ≤ 8 := by rw [hR.len]; exact few
    have lenR : ∀ {t : Int}, t < ts.length → t < VR.length := fun {t} h => by rw [hR.len]; exact h
    have lenW : ∀ {t : Int}, 0 ≤ t → t < ts.length → (rw_ VR t).length ≤ 2000 := fun {t} h0 h1 => by
      rw [hR.row t h0 h1]
      have := mText_len len t
      omega
    try dsimp only [tSeq, tAsg, gName]
    cases ed with
    | put t p z =>
      obtain ⟨t0, t1, wz, p0, p1⟩ := hf
      refine ⟨.ref e, rfl, e, _, 0, .str _, rfl, rfl, SqT.of he1, rfl, rfl, _, rfl, sne (by decide +kernel) ?_⟩
      try dsimp only [tNext, tSeq, tAsg, gName, tDrop]
      refine ⟨.ref e, rfl, e, _, 0, .str _, rfl, rfl, SqT.of he1, rfl, rfl, _, rfl, sne (by decide +kernel) ?_⟩
      try dsimp only [tNext, tSeq, tAsg, gName, tDrop]
      obtain ⟨r, hat, nr, hr, hix⟩ := hrs.get t0 (lenR t1)
      have ltt := lenW t0 t1
      refine ⟨.ref D, rfl, .ref e, rfl, e, _, 1, .int t, rfl, rfl, SqT.of he1, rfl, D, _, t, .ref r, rfl, rfl, sq_of hD, hat, ?_⟩
      try dsimp only [tNext, tSeq, tAsg, gName, tDrop]
      refine ⟨.ref e, rfl, e, _, 0, .str _, rfl, rfl, SqT.of he1, rfl, rfl, _, rfl, sne (by decide +kernel) ?_⟩
      try dsimp only [tNext, tSeq, tAsg, gName, tDrop]
      refine ⟨.ref e, rfl, e, _, 2, .int p, rfl, rfl, SqT.of he1, rfl, ?_⟩
      try dsimp only [tNext, tSeq, tAsg, gName, tDrop]
      refine ⟨.ref e, rfl, e, _, 0, .str _, rfl, rfl, SqT.of he1, rfl, rfl, _, rfl, seq ?_⟩
      try dsimp only [tNext, tSeq, tAsg, gName, tDrop]
      refine ⟨.ref r, rfl, .int p, rfl, p, rfl, r, _, rfl, sq_of hr, fun p1' np1 => ?_⟩
      have k1 := Same.new (o := .lst (cutV (rw_ VR t) none (some p))) np1
      refine ⟨.ref g, rfl, g, _, rfl, .inl (sq_of (k1 _ _ hg1)), fun p2 np2 => ?_⟩
      have k2 := k1.trans (Same.new (o := .lst fvs) np2)
      have c1 := cutV_length (rw_ VR t) none (some p)
      have c2 := cutV_length (rw_ VR t) (some (p)) none
      refine ⟨p1', p2, _, _, rfl, rfl, (Same.new np2) _ _ upd_same, upd_same, by show _ ≤ 16777216; omega, fun p3 np3 => ?_⟩
      have k3 := k2.trans (Same.new (o := .lst (cutV (rw_ VR t) none (some p) ++ fvs)) np3)
      refine ⟨.ref r, rfl, .int p, rfl, p, rfl, r, _, rfl, sq_of (k3 _ _ hr), fun p4 np4 => ?_⟩
      have k4 := k3.trans (Same.new (o := .lst (cutV (rw_ VR t) (some (p)) none)) np4)
      refine ⟨p3, p4, _, _, rfl, rfl, (Same.new np4) _ _ upd_same, upd_same, by rw [List.length_append]; show _ ≤ 16777216; omega, fun p5 np5 => ?_⟩
      have k5 := k4.trans (Same.new (o := .lst (cutV (rw_ VR t) none (some p) ++ fvs ++ cutV (rw_ VR t) (some (p)) none)) np5)
      refine ⟨.ref D, rfl, .ref e, rfl, e, _, 1, .int t, rfl, rfl, SqT.of (k5 _ _ he1), rfl, D, _, t, t.toNat, rfl, rfl, k5 _ _ hD, hix, ?_⟩
      have n5 : p5 ≠ D := fun w => by rw [w] at np5; rw [k4 _ _ hD] at np5; cases np5
      have he2 := (upd_ne (o := .lst ((rs.map V.ref).set t.toNat (V.ref p5))) heD).trans (k5 _ _ he1)
      have hr2 := (upd_ne (o := .lst ((rs.map V.ref).set t.toNat (V.ref p5))) nr).trans (k5 _ _ hr)
      have R2 := ((hrs.same fun b o nb hb => k5 b o hb).set n5 (z := (rw_ VR t).take p.toNat ++ fvs ++ (rw_ VR t).drop (p).toNat) (by rw [upd_same, cutV_to p0, cutV_from p0]) t.toNat).same (fun b o nb hb => (upd_ne (o := .lst ((rs.map V.ref).set t.toNat (V.ref p5))) nb).trans hb)
      have hDf : ∀ X : Hp, upd X D (.lst ((rs.map V.ref).set t.toNat (V.ref p5))) D = some (.lst ((rs.set t.toNat p5).map V.ref)) := fun X => by rw [upd_same, List.map_set]
      have kH := sameAt (o := .lst ((rs.map V.ref).set t.toNat (V.ref p5))) (k0.trans k5) nD0
      try dsimp only [tNext, tSeq, tAsg, gName, tDrop]
      refine ⟨.ref e, rfl, e, _, 0, .str _, rfl, rfl, SqT.of he2, rfl, rfl, _, rfl, sne (by decide +kernel) ?_⟩
      try dsimp only [tNext, tSeq, tAsg, gName, tDrop]
      refine ⟨.ref e, rfl, e, _, 0, .str _, rfl, rfl, SqT.of he2, rfl, rfl, _, rfl, sne (by decide +kernel) ?_⟩
      try dsimp only [tNext, tSeq, tAsg, gName, tDrop]
      refine ⟨.ref e, rfl, e, _, 0, .str _, rfl, rfl, SqT.of he2, rfl, rfl, _, rfl, sne (by decide +kernel) ?_⟩
      try dsimp only [tNext, tSeq, tAsg, gName, tDrop]
      refine ⟨.ref e, rfl, e, _, 0, .str _, rfl, rfl, SqT.of he2, rfl, rfl, _, rfl, sne (by decide +kernel) ?_⟩
      try dsimp only [tNext, tSeq, tAsg, gName, tDrop]
      exact ⟨.ref D, rfl, q D _ nD0 ⟨_, hDf _, R2⟩ kH⟩
    | change t p z =>
      obtain ⟨wz, t0, t1, p0, p1⟩ := hf
      have lfz := lfc t p z rfl
      refine ⟨.ref e, rfl, e, _, 0, .str _, rfl, rfl, SqT.of he1, rfl, rfl, _, rfl, sne (by decide +kernel) ?_⟩
      try dsimp only [tNext, tSeq, tAsg, gName, tDrop]
      refine ⟨.ref e, rfl, e, _, 0, .str _, rfl, rfl, SqT.of he1, rfl, rfl, _, rfl, sne (by decide +kernel) ?_⟩
      try dsimp only [tNext, tSeq, tAsg, gName, tDrop]
      obtain ⟨r, hat, nr, hr, hix⟩ := hrs.get t0 (lenR t1)
      have ltt := lenW t0 t1
      refine ⟨.ref D, rfl, .ref e, rfl, e, _, 1, .int t, rfl, rfl, SqT.of he1, rfl, D, _, t, .ref r, rfl, rfl, sq_of hD, hat, ?_⟩
      try dsimp only [tNext, tSeq, tAsg, gName, tDrop]
      refine ⟨.ref e, rfl, e, _, 0, .str _, rfl, rfl, SqT.of he1, rfl, rfl, _, rfl, sne (by decide +kernel) ?_⟩
      try dsimp only [tNext, tSeq, tAsg, gName, tDrop]
      refine ⟨.ref e, rfl, e, _, 2, .int p, rfl, rfl, SqT.of he1, rfl, ?_⟩
      try dsimp only [tNext, tSeq, tAsg, gName, tDrop]
      refine ⟨.ref e, rfl, e, _, 0, .str _, rfl, rfl, SqT.of he1, rfl, rfl, _, rfl, sne (by decide +kernel) ?_⟩
      try dsimp only [tNext, tSeq, tAsg, gName, tDrop]
      refine ⟨.ref e, rfl, e, _, 0, .str _, rfl, rfl, SqT.of he1, rfl, rfl, _, rfl, sne (by decide +kernel) ?_⟩
      try dsimp only [tNext, tSeq, tAsg, gName, tDrop]
      refine ⟨.ref e, rfl, e, _, 0, .str _, rfl, rfl, SqT.of he1, rfl, rfl, _, rfl, seq ?_⟩
      try dsimp only [tNext, tSeq, tAsg, gName, tDrop]
      refine ⟨.ref r, rfl, .int p, rfl, p, rfl, r, _, rfl, sq_of hr, fun p1' np1 => ?_⟩
      have k1 := Same.new (o := .lst (cutV (rw_ VR t) none (some p))) np1
      refine ⟨.ref g, rfl, g, _, rfl, .inl (sq_of (k1 _ _ hg1)), fun p2 np2 => ?_⟩
      have k2 := k1.trans (Same.new (o := .lst fvs) np2)
      have c1 := cutV_length (rw_ VR t) none (some p)
      have c2 := cutV_length (rw_ VR t) (some (p + (fvs.length : Int))) none
      refine ⟨p1', p2, _, _, rfl, rfl, (Same.new np2) _ _ upd_same, upd_same, by show _ ≤ 16777216; omega, fun p3 np3 => ?_⟩
      have k3 := k2.trans (Same.new (o := .lst (cutV (rw_ VR t) none (some p) ++ fvs)) np3)
      refine ⟨.ref r, rfl, .int p, rfl, .ref g, rfl, g, _, rfl, .inl (sq_of (k3 _ _ hg1)), _, _, rfl, rfl, p + (fvs.length : Int), rfl, r, _, rfl, sq_of (k3 _ _ hr), fun p4 np4 => ?_⟩
      have k4 := k3.trans (Same.new (o := .lst (cutV (rw_ VR t) (some (p + (fvs.length : Int))) none)) np4)
      refine ⟨p3, p4, _, _, rfl, rfl, (Same.new np4) _ _ upd_same, upd_same, by rw [List.length_append]; show _ ≤ 16777216; omega, fun p5 np5 => ?_⟩
      have k5 := k4.trans (Same.new (o := .lst (cutV (rw_ VR t) none (some p) ++ fvs ++ cutV (rw_ VR t) (some (p + (fvs.length : Int))) none)) np5)
      refine ⟨.ref D, rfl, .ref e, rfl, e, _, 1, .int t, rfl, rfl, SqT.of (k5 _ _ he1), rfl, D, _, t, t.toNat, rfl, rfl, k5 _ _ hD, hix, ?_⟩
      have n5 : p5 ≠ D := fun w => by rw [w] at np5; rw [k4 _ _ hD] at np5; cases np5
      have he2 := (upd_ne (o := .lst ((rs.map V.ref).set t.toNat (V.ref p5))) heD).trans (k5 _ _ he1)
      have hr2 := (upd_ne (o := .lst ((rs.map V.ref).set t.toNat (V.ref p5))) nr).trans (k5 _ _ hr)
      have R2 := ((hrs.same fun b o nb hb => k5 b o hb).set n5 (z := (rw_ VR t).take p.toNat ++ fvs ++ (rw_ VR t).drop (p + (fvs.length : Int)).toNat) (by rw [upd_same, cutV_to p0, cutV_from (by omega)]) t.toNat).same (fun b o nb hb => (upd_ne (o := .lst ((rs.map V.ref).set t.toNat (V.ref p5))) nb).trans hb)
      have hDf : ∀ X : Hp, upd X D (.lst ((rs.map V.ref).set t.toNat (V.ref p5))) D = some (.lst ((rs.set t.toNat p5).map V.ref)) := fun X => by rw [upd_same, List.map_set]
      have kH := sameAt (o := .lst ((rs.map V.ref).set t.toNat (V.ref p5))) (k0.trans k5) nD0
      try dsimp only [tNext, tSeq, tAsg, gName, tDrop]
      refine ⟨.ref e, rfl, e, _, 0, .str _, rfl, rfl, SqT.of he2, rfl, rfl, _, rfl, sne (by decide +kernel) ?_⟩
      try dsimp only [tNext, tSeq, tAsg, gName, tDrop]
      refine ⟨.ref e, rfl, e, _, 0, .str _, rfl, rfl, SqT.of he2, rfl, rfl, _, rfl, sne (by decide +kernel) ?_⟩
      try dsimp only [tNext, tSeq, tAsg, gName, tDrop]
      exact ⟨.ref D, rfl, q D _ nD0 ⟨_, hDf _, R2⟩ kH⟩
    | cut t p n =>
      obtain ⟨t0, t1, p0, n0, p1⟩ := hf
      refine ⟨.ref e, rfl, e, _, 0, .str _, rfl, rfl, SqT.of he1, rfl, rfl, _, rfl, sne (by decide +kernel) ?_⟩
      try dsimp only [tNext, tSeq, tAsg, gName, tDrop]
      refine ⟨.ref e, rfl, e, _, 0, .str _, rfl, rfl, SqT.of he1, rfl, rfl, _, rfl, sne (by decide +kernel) ?_⟩
      try dsimp only [tNext, tSeq, tAsg, gName, tDrop]
      obtain ⟨r, hat, nr, hr, hix⟩ := hrs.get t0 (lenR t1)
      have ltt := lenW t0 t1
      refine ⟨.ref D, rfl, .ref e, rfl, e, _, 1, .int t, rfl, rfl, SqT.of he1, rfl, D, _, t, .ref r, rfl, rfl, sq_of hD, hat, ?_⟩
      try dsimp only [tNext, tSeq, tAsg, gName, tDrop]
      refine ⟨.ref e, rfl, e, _, 0, .str _, rfl, rfl, SqT.of he1, rfl, rfl, _, rfl, sne (by decide +kernel) ?_⟩
      try dsimp only [tNext, tSeq, tAsg, gName, tDrop]
      refine ⟨.ref e, rfl, e, _, 2, .int p, rfl, rfl, SqT.of he1, rfl, ?_⟩
      try dsimp only [tNext, tSeq, tAsg, gName, tDrop]
      refine ⟨.ref e, rfl, e, _, 0, .str _, rfl, rfl, SqT.of he1, rfl, rfl, _, rfl, sne (by decide +kernel) ?_⟩
      try dsimp only [tNext, tSeq, tAsg, gName, tDrop]
      refine ⟨.ref e, rfl, e, _, 0, .str _, rfl, rfl, SqT.of he1, rfl, rfl, _, rfl, seq ?_⟩
      try dsimp only [tNext, tSeq, tAsg, gName, tDrop]
      refine ⟨.ref r, rfl, .int p, rfl, p, rfl, r, _, rfl, sq_of hr, fun p1' np1 => ?_⟩
      have k1 := Same.new (o := .lst (cutV (rw_ VR t) none (some p))) np1
      have c1 := cutV_length (rw_ VR t) none (some p)
      have c2 := cutV_length (rw_ VR t) (some (p + n)) none
      refine ⟨.ref r, rfl, .int p, rfl, .ref e, rfl, e, _, 3, .int n, rfl, rfl, SqT.of (k1 _ _ he1), rfl, _, _, rfl, rfl, p + n, rfl, r, _, rfl, sq_of (k1 _ _ hr), fun p4 np4 => ?_⟩
      have k4 := k1.trans (Same.new (o := .lst (cutV (rw_ VR t) (some (p + n)) none)) np4)
      refine ⟨p1', p4, _, _, rfl, rfl, (Same.new np4) _ _ upd_same, upd_same, by show _ ≤ 16777216; omega, fun p5 np5 => ?_⟩
      have k5 := k4.trans (Same.new (o := .lst (cutV (rw_ VR t) none (some p) ++ cutV (rw_ VR t) (some (p + n)) none)) np5)
      refine ⟨.ref D, rfl, .ref e, rfl, e, _, 1, .int t, rfl, rfl, SqT.of (k5 _ _ he1), rfl, D, _, t, t.toNat, rfl, rfl, k5 _ _ hD, hix, ?_⟩
      have n5 : p5 ≠ D := fun w => by rw [w] at np5; rw [k4 _ _ hD] at np5; cases np5
      have he2 := (upd_ne (o := .lst ((rs.map V.ref).set t.toNat (V.ref p5))) heD).trans (k5 _ _ he1)
      have hr2 := (upd_ne (o := .lst ((rs.map V.ref).set t.toNat (V.ref p5))) nr).trans (k5 _ _ hr)
      have R2 := ((hrs.same fun b o nb hb => k5 b o hb).set n5 (z := (rw_ VR t).take p.toNat ++ (rw_ VR t).drop (p + n).toNat) (by rw [upd_same, cutV_to p0, cutV_from (by omega)]) t.toNat).same (fun b o nb hb => (upd_ne (o := .lst ((rs.map V.ref).set t.toNat (V.ref p5))) nb).trans hb)
      have hDf : ∀ X : Hp, upd X D (.lst ((rs.map V.ref).set t.toNat (V.ref p5))) D = some (.lst ((rs.set t.toNat p5).map V.ref)) := fun X => by rw [upd_same, List.map_set]
      have kH := sameAt (o := .lst ((rs.map V.ref).set t.toNat (V.ref p5))) (k0.trans k5) nD0
      try dsimp only [tNext, tSeq, tAsg, gName, tDrop]
      refine ⟨.ref e, rfl, e, _, 0, .str _, rfl, rfl, SqT.of he2, rfl, rfl, _, rfl, sne (by decide +kernel) ?_⟩
      try dsimp only [tNext, tSeq, tAsg, gName, tDrop]
      refine ⟨.ref e, rfl, e, _, 0, .str _, rfl, rfl, SqT.of he2, rfl, rfl, _, rfl, sne (by decide +kernel) ?_⟩
      try dsimp only [tNext, tSeq, tAsg, gName, tDrop]
      refine ⟨.ref e, rfl, e, _, 0, .str _, rfl, rfl, SqT.of he2, rfl, rfl, _, rfl, sne (by decide +kernel) ?_⟩
      try dsimp only [tNext, tSeq, tAsg, gName, tDrop]
      exact ⟨.ref D, rfl, q D _ nD0 ⟨_, hDf _, R2⟩ kH⟩
    | come z =>
      refine ⟨.ref e, rfl, e, _, 0, .str _, rfl, rfl, SqT.of he1, rfl, rfl, _, rfl, seq ?_⟩
      try dsimp only [tNext, tSeq, tAsg, gName, tDrop]
      refine ⟨.ref D, rfl, .ref g, rfl, g, _, rfl, .inl (sq_of hg1), fun p2 np2 => ⟨by show 1 ≤ sizeLine; decide, fun p3 np3 => ?_⟩⟩
      have k2 := Same.new (o := .lst fvs) np2
      have k3 := k2.trans (Same.new (o := .lst [.ref p2]) np3)
      refine ⟨D, p3, _, _, rfl, rfl, k3 _ _ hD, upd_same, by rw [List.length_map, hrs.len]; show _ ≤ 16777216; have : [V.ref p2].length = 1 := rfl; omega, fun p4 np4 => ?_⟩
      have k4 := k3.trans (Same.new (o := .lst (rs.map V.ref ++ [.ref p2])) np4)
      have h2 := (Same.new (o := .lst (rs.map V.ref ++ [.ref p2])) np4) _ _ ((Same.new (o := .lst [.ref p2]) np3) _ _ (show upd H1 p2 (.lst fvs) p2 = some (.lst fvs) from upd_same))
      refine q p4 _ (k0.free (k3.free np4)) ⟨rs ++ [p2], by rw [upd_same, List.map_append]; rfl, ?_⟩ (k0.trans k4)
      have np : ∀ c us, upd (upd H1 p2 (.lst fvs)) p3 (.lst [.ref p2]) c = some (.lst us) → c ≠ p4 := fun c us h z => by rw [z, np4] at h; cases h
      have R1 : RowsV (upd (upd (upd H1 p2 (.lst fvs)) p3 (.lst [.ref p2])) p4 (.lst (rs.map V.ref ++ [.ref p2]))) p4 rs VR := ⟨hrs.len, fun i r u h1 h2 => let z := hrs.at_ i r u h1 h2; ⟨np r u (k3 _ _ z.2), k4 _ _ z.2⟩⟩
      exact R1.snoc (np p2 fvs ((Same.new (o := .lst [.ref p2]) np3) _ _ upd_same)) h2
    | go =>
      have hf' : ts.getLast? = some (Str.ofString "") := hf
      have ne : rs.length ≠ 0 := fun w => by
        rw [hrs.len, hR.len] at w
        rw [List.length_eq_zero_iff.mp w] at hf'
        cases hf'
      refine ⟨.ref e, rfl, e, _, 0, .str _, rfl, rfl, SqT.of he1, rfl, rfl, _, rfl, sne (by decide +kernel) ?_⟩
      try dsimp only [tNext, tSeq, tAsg, gName, tDrop]
      refine ⟨.ref e, rfl, e, _, 0, .str _, rfl, rfl, SqT.of he1, rfl, rfl, _, rfl, seq ?_⟩
      try dsimp only [tNext, tSeq, tAsg, gName, tDrop]
      refine ⟨.ref D, rfl, .ref D, rfl, D, _, rfl, .inl (sq_of hD), _, _, rfl, rfl, _, rfl, D, _, rfl, sq_of hD, fun p2 np2 => ?_⟩
      have el : cutV (rs.map V.ref) none (some ((((rs.map V.ref).length : Nat) : Int) - 1)) = rs.dropLast.map V.ref := by
        rw [cutV_to (by rw [List.length_map]; omega), List.dropLast_eq_take, List.map_take]
        congr 1
        rw [List.length_map]
        omega
      rw [el]
      have k2 := Same.new (H := H1) (o := .lst (rs.dropLast.map V.ref)) np2
      have np : ∀ c us, H1 c = some (.lst us) → c ≠ p2 := fun c us h z => by rw [z, np2] at h; cases h
      have R1 : RowsV (upd H1 p2 (.lst (rs.dropLast.map V.ref))) p2 rs VR := ⟨hrs.len, fun i r u h1 h2 => let z := hrs.at_ i r u h1 h2; ⟨np r u z.2, k2 _ _ z.2⟩⟩
      exact q p2 _ (k0.free np2) ⟨rs.dropLast, upd_same, R1.pop⟩ (k0.trans k2)
    | split t p =>
      obtain ⟨t0, t1, p0, p1⟩ := hf
      refine ⟨.ref e, rfl, e, _, 0, .str _, rfl, rfl, SqT.of he1, rfl, rfl, _, rfl, sne (by decide +kernel) ?_⟩
      try dsimp only [tNext, tSeq, tAsg, gName, tDrop]
      refine ⟨.ref e, rfl, e, _, 0, .str _, rfl, rfl, SqT.of he1, rfl, rfl, _, rfl, sne (by decide +kernel) ?_⟩
      try dsimp only [tNext, tSeq, tAsg, gName, tDrop]
      obtain ⟨r, hat, nr, hr, hix⟩ := hrs.get t0 (lenR t1)
      have ltt := lenW t0 t1
      refine ⟨.ref D, rfl, .ref e, rfl, e, _, 1, .int t, rfl, rfl, SqT.of he1, rfl, D, _, t, .ref r, rfl, rfl, sq_of hD, hat, ?_⟩
      try dsimp only [tNext, tSeq, tAsg, gName, tDrop]
      refine ⟨.ref e, rfl, e, _, 0, .str _, rfl, rfl, SqT.of he1, rfl, rfl, _, rfl, sne (by decide +kernel) ?_⟩
      try dsimp only [tNext, tSeq, tAsg, gName, tDrop]
      refine ⟨.ref e, rfl, e, _, 2, .int p, rfl, rfl, SqT.of he1, rfl, ?_⟩
      try dsimp only [tNext, tSeq, tAsg, gName, tDrop]
      refine ⟨.ref e, rfl, e, _, 0, .str _, rfl, rfl, SqT.of he1, rfl, rfl, _, rfl, sne (by decide +kernel) ?_⟩
      try dsimp only [tNext, tSeq, tAsg, gName, tDrop]
      refine ⟨.ref e, rfl, e, _, 0, .str _, rfl, rfl, SqT.of he1, rfl, rfl, _, rfl, sne (by decide +kernel) ?_⟩
      try dsimp only [tNext, tSeq, tAsg, gName, tDrop]
      refine ⟨.ref e, rfl, e, _, 0, .str _, rfl, rfl, SqT.of he1, rfl, rfl, _, rfl, sne (by decide +kernel) ?_⟩
      try dsimp only [tNext, tSeq, tAsg, gName, tDrop]
      refine ⟨.ref e, rfl, e, _, 0, .str _, rfl, rfl, SqT.of he1, rfl, rfl, _, rfl, seq ?_⟩
      try dsimp only [tNext, tSeq, tAsg, gName, tDrop]
      refine ⟨.ref r, rfl, .int p, rfl, p, rfl, r, _, rfl, sq_of hr, fun p5 np5 => ?_⟩
      have k5 := Same.new (o := .lst (cutV (rw_ VR t) none (some p))) np5
      have k4 := Same.refl H1
      refine ⟨.ref D, rfl, .ref e, rfl, e, _, 1, .int t, rfl, rfl, SqT.of (k5 _ _ he1), rfl, D, _, t, t.toNat, rfl, rfl, k5 _ _ hD, hix, ?_⟩
      have n5 : p5 ≠ D := fun w => by rw [w] at np5; rw [k4 _ _ hD] at np5; cases np5
      have he2 := (upd_ne (o := .lst ((rs.map V.ref).set t.toNat (V.ref p5))) heD).trans (k5 _ _ he1)
      have hr2 := (upd_ne (o := .lst ((rs.map V.ref).set t.toNat (V.ref p5))) nr).trans (k5 _ _ hr)
      have R2 := ((hrs.same fun b o nb hb => k5 b o hb).set n5 (z := (rw_ VR t).take p.toNat) (by rw [upd_same, cutV_to p0]) t.toNat).same (fun b o nb hb => (upd_ne (o := .lst ((rs.map V.ref).set t.toNat (V.ref p5))) nb).trans hb)
      have hDf : ∀ X : Hp, upd X D (.lst ((rs.map V.ref).set t.toNat (V.ref p5))) D = some (.lst ((rs.set t.toNat p5).map V.ref)) := fun X => by rw [upd_same, List.map_set]
      have kH := sameAt (o := .lst ((rs.map V.ref).set t.toNat (V.ref p5))) (k0.trans k5) nD0
      try dsimp only [tNext, tSeq, tAsg, gName, tDrop]
      have hD2 := hDf (upd H1 p5 (.lst (cutV (rw_ VR t) none (some p))))
      generalize upd (upd H1 p5 (.lst (cutV (rw_ VR t) none (some p)))) D (.lst ((rs.map V.ref).set t.toNat (V.ref p5))) = H2 at he2 hr2 R2 hD2 kH ⊢
      refine ⟨.ref D, rfl, .inl ⟨rfl, _, sq_of hD2⟩, .ref r, rfl, .int p, rfl, p, rfl, r, _, rfl, sq_of hr2, fun p6 np6 => ?_⟩
      have k6 := Same.new (o := .lst (cutV (rw_ VR t) (some p) none)) np6
      have n6 : p6 ≠ D := fun w => by rw [w, hD2] at np6; cases np6
      refine ⟨D, _, _, rfl, rfl, k6 _ _ hD2, by rw [List.length_map, List.length_set, hrs.len]; show _ < 16777216; omega, ?_⟩
      have he2 := (upd_ne (o := .lst ((rs.set t.toNat p5).map V.ref ++ [V.ref p6])) heD).trans (k6 _ _ he2)
      have R2 := ((R2.same fun b o nb hb => k6 b o hb).snoc n6 (z := (rw_ VR t).drop p.toNat) (by rw [upd_same, cutV_from p0])).same (fun b o nb hb => (upd_ne (o := .lst ((rs.set t.toNat p5).map V.ref ++ [V.ref p6])) nb).trans hb)
      have hD2 : upd (upd H2 p6 (.lst (cutV (rw_ VR t) (some p) none))) D (.lst ((rs.set t.toNat p5).map V.ref ++ [V.ref p6])) D = some (.lst ((rs.set t.toNat p5 ++ [p6]).map V.ref)) := by rw [upd_same, List.map_append]; rfl
      have kH := sameAt (o := .lst ((rs.set t.toNat p5).map V.ref ++ [V.ref p6])) (kH.trans k6) nD0
      try dsimp only [tNext, tSeq, tAsg, gName, tDrop]
      refine ⟨.ref e, rfl, e, _, 0, .str _, rfl, rfl, SqT.of he2, rfl, rfl, _, rfl, sne (by decide +kernel) ?_⟩
      try dsimp only [tNext, tSeq, tAsg, gName, tDrop]
      exact ⟨.ref D, rfl, q D _ nD0 ⟨_, hD2, R2⟩ kH⟩
    | join t u =>
      obtain ⟨t0, t1, u0, u1, tu⟩ := hf
      refine ⟨.ref e, rfl, e, _, 0, .str _, rfl, rfl, SqT.of he1, rfl, rfl, _, rfl, sne (by decide +kernel) ?_⟩
      try dsimp only [tNext, tSeq, tAsg, gName, tDrop]
      refine ⟨.ref e, rfl, e, _, 0, .str _, rfl, rfl, SqT.of he1, rfl, rfl, _, rfl, sne (by decide +kernel) ?_⟩
      try dsimp only [tNext, tSeq, tAsg, gName, tDrop]
      obtain ⟨r, hat, nr, hr, hix⟩ := hrs.get t0 (lenR t1)
      have ltt := lenW t0 t1
      refine ⟨.ref D, rfl, .ref e, rfl, e, _, 1, .int t, rfl, rfl, SqT.of he1, rfl, D, _, t, .ref r, rfl, rfl, sq_of hD, hat, ?_⟩
      try dsimp only [tNext, tSeq, tAsg, gName, tDrop]
      refine ⟨.ref e, rfl, e, _, 0, .str _, rfl, rfl, SqT.of he1, rfl, rfl, _, rfl, seq ?_⟩
      try dsimp only [tNext, tSeq, tAsg, gName, tDrop]
      obtain ⟨r', hat', nr', hr', hix'⟩ := hrs.get u0 (lenR u1)
      have l2 := lenW u0 u1
      refine ⟨.ref r, rfl, .ref D, rfl, .ref e, rfl, e, _, 2, .int u, rfl, rfl, SqT.of he1, rfl, D, _, u, .ref r', rfl, rfl, sq_of hD, hat', r, r', _, _, rfl, rfl, hr, hr', by show _ ≤ 16777216; omega, fun p5 np5 => ?_⟩
      have k5 := Same.new (o := .lst (rw_ VR t ++ rw_ VR u)) np5
      have k4 := Same.refl H1
      refine ⟨.ref D, rfl, .ref e, rfl, e, _, 1, .int t, rfl, rfl, SqT.of (k5 _ _ he1), rfl, D, _, t, t.toNat, rfl, rfl, k5 _ _ hD, hix, ?_⟩
      have n5 : p5 ≠ D := fun w => by rw [w] at np5; rw [k4 _ _ hD] at np5; cases np5
      have he2 := (upd_ne (o := .lst ((rs.map V.ref).set t.toNat (V.ref p5))) heD).trans (k5 _ _ he1)
      have hr2 := (upd_ne (o := .lst ((rs.map V.ref).set t.toNat (V.ref p5))) nr).trans (k5 _ _ hr)
      have R2 := ((hrs.same fun b o nb hb => k5 b o hb).set n5 (z := rw_ VR t ++ rw_ VR u) (by rw [upd_same]) t.toNat).same (fun b o nb hb => (upd_ne (o := .lst ((rs.map V.ref).set t.toNat (V.ref p5))) nb).trans hb)
      have hDf : ∀ X : Hp, upd X D (.lst ((rs.map V.ref).set t.toNat (V.ref p5))) D = some (.lst ((rs.set t.toNat p5).map V.ref)) := fun X => by rw [upd_same, List.map_set]
      have kH := sameAt (o := .lst ((rs.map V.ref).set t.toNat (V.ref p5))) (k0.trans k5) nD0
      try dsimp only [tNext, tSeq, tAsg, gName, tDrop]
      have hD2 := hDf (upd H1 p5 (.lst (rw_ VR t ++ rw_ VR u)))
      generalize upd (upd H1 p5 (.lst (rw_ VR t ++ rw_ VR u))) D (.lst ((rs.map V.ref).set t.toNat (V.ref p5))) = H2 at he2 hr2 R2 hD2 kH ⊢
      refine ⟨by show 0 ≤ sizeLine; decide, fun p6 np6 => ?_⟩
      have k6 := Same.new (o := .lst []) np6
      obtain ⟨r3, hat3, nr3, hr3, hix3⟩ := R2.get u0 (show u < ((VR.set t.toNat (rw_ VR t ++ rw_ VR u)).length : Int) by rw [List.length_set]; exact lenR u1)
      refine ⟨.ref D, rfl, .ref e, rfl, e, _, 2, .int u, rfl, rfl, SqT.of (k6 _ _ he2), rfl, D, _, u, u.toNat, rfl, rfl, k6 _ _ hD2, hix3, ?_⟩
      have n6 : p6 ≠ D := fun w => by rw [w, hD2] at np6; cases np6
      have R2 := ((R2.same fun b o nb hb => k6 b o hb).set n6 (z := []) (by rw [upd_same]) u.toNat).same (fun b o nb hb => (upd_ne (o := .lst (((rs.set t.toNat p5).map V.ref).set u.toNat (V.ref p6))) nb).trans hb)
      have hD2 : upd (upd H2 p6 (.lst [])) D (.lst (((rs.set t.toNat p5).map V.ref).set u.toNat (V.ref p6))) D = some (.lst (((rs.set t.toNat p5).set u.toNat p6).map V.ref)) := by rw [upd_same]; simp only [List.map_set]
      have kH := sameAt (o := .lst (((rs.set t.toNat p5).map V.ref).set u.toNat (V.ref p6))) (kH.trans k6) nD0
      try dsimp only [tNext, tSeq, tAsg, gName, tDrop]
      exact ⟨.ref D, rfl, q D _ nD0 ⟨_, hD2, R2⟩ kH⟩
    | move t p n u v =>
      obtain ⟨t0, t1, p0, n0, p1, u0, u1, v0, v1⟩ := hf
      refine ⟨.ref e, rfl, e, _, 0, .str _, rfl, rfl, SqT.of he1, rfl, rfl, _, rfl, sne (by decide +kernel) ?_⟩
      try dsimp only [tNext, tSeq, tAsg, gName, tDrop]
      refine ⟨.ref e, rfl, e, _, 0, .str _, rfl, rfl, SqT.of he1, rfl, rfl, _, rfl, sne (by decide +kernel) ?_⟩
      try dsimp only [tNext, tSeq, tAsg, gName, tDrop]
      obtain ⟨r, hat, nr, hr, hix⟩ := hrs.get t0 (lenR t1)
      have ltt := lenW t0 t1
      refine ⟨.ref D, rfl, .ref e, rfl, e, _, 1, .int t, rfl, rfl, SqT.of he1, rfl, D, _, t, .ref r, rfl, rfl, sq_of hD, hat, ?_⟩
      try dsimp only [tNext, tSeq, tAsg, gName, tDrop]
      refine ⟨.ref e, rfl, e, _, 0, .str _, rfl, rfl, SqT.of he1, rfl, rfl, _, rfl, sne (by decide +kernel) ?_⟩
      try dsimp only [tNext, tSeq, tAsg, gName, tDrop]
      refine ⟨.ref e, rfl, e, _, 2, .int p, rfl, rfl, SqT.of he1, rfl, ?_⟩
      try dsimp only [tNext, tSeq, tAsg, gName, tDrop]
      refine ⟨.ref e, rfl, e, _, 0, .str _, rfl, rfl, SqT.of he1, rfl, rfl, _, rfl, sne (by decide +kernel) ?_⟩
      try dsimp only [tNext, tSeq, tAsg, gName, tDrop]
      refine ⟨.ref e, rfl, e, _, 0, .str _, rfl, rfl, SqT.of he1, rfl, rfl, _, rfl, sne (by decide +kernel) ?_⟩
      try dsimp only [tNext, tSeq, tAsg, gName, tDrop]
      refine ⟨.ref e, rfl, e, _, 0, .str _, rfl, rfl, SqT.of he1, rfl, rfl, _, rfl, sne (by decide +kernel) ?_⟩
      try dsimp only [tNext, tSeq, tAsg, gName, tDrop]
      refine ⟨.ref e, rfl, e, _, 0, .str _, rfl, rfl, SqT.of he1, rfl, rfl, _, rfl, sne (by decide +kernel) ?_⟩
      try dsimp only [tNext, tSeq, tAsg, gName, tDrop]
      refine ⟨.ref e, rfl, e, _, 0, .str _, rfl, rfl, SqT.of he1, rfl, rfl, _, rfl, seq ?_⟩
      try dsimp only [tNext, tSeq, tAsg, gName, tDrop]
      refine ⟨.ref r, rfl, .int p, rfl, p, rfl, r, _, rfl, sq_of hr, fun p1' np1 => ?_⟩
      have k1 := Same.new (o := .lst (cutV (rw_ VR t) none (some p))) np1
      have c1 := cutV_length (rw_ VR t) none (some p)
      have c2 := cutV_length (rw_ VR t) (some (p + n)) none
      have c3 := cutV_length (rw_ VR t) (some p) (some (p + n))
      refine ⟨.ref r, rfl, .int p, rfl, .ref e, rfl, e, _, 3, .int n, rfl, rfl, SqT.of (k1 _ _ he1), rfl, _, _, rfl, rfl, p + n, rfl, r, _, rfl, sq_of (k1 _ _ hr), fun p4 np4 => ?_⟩
      have k4 := k1.trans (Same.new (o := .lst (cutV (rw_ VR t) (some (p + n)) none)) np4)
      refine ⟨p1', p4, _, _, rfl, rfl, (Same.new np4) _ _ upd_same, upd_same, by show _ ≤ 16777216; omega, fun p5 np5 => ?_⟩
      have k5 := k4.trans (Same.new (o := .lst (cutV (rw_ VR t) none (some p) ++ cutV (rw_ VR t) (some (p + n)) none)) np5)
      refine ⟨.ref D, rfl, .ref e, rfl, e, _, 1, .int t, rfl, rfl, SqT.of (k5 _ _ he1), rfl, D, _, t, t.toNat, rfl, rfl, k5 _ _ hD, hix, ?_⟩
      have n5 : p5 ≠ D := fun w => by rw [w] at np5; rw [k4 _ _ hD] at np5; cases np5
      have he2 := (upd_ne (o := .lst ((rs.map V.ref).set t.toNat (V.ref p5))) heD).trans (k5 _ _ he1)
      have hr2 := (upd_ne (o := .lst ((rs.map V.ref).set t.toNat (V.ref p5))) nr).trans (k5 _ _ hr)
      have R2 := ((hrs.same fun b o nb hb => k5 b o hb).set n5 (z := (rw_ VR t).take p.toNat ++ (rw_ VR t).drop (p + n).toNat) (by rw [upd_same, cutV_to p0, cutV_from (by omega)]) t.toNat).same (fun b o nb hb => (upd_ne (o := .lst ((rs.map V.ref).set t.toNat (V.ref p5))) nb).trans hb)
      have hDf : ∀ X : Hp, upd X D (.lst ((rs.map V.ref).set t.toNat (V.ref p5))) D = some (.lst ((rs.set t.toNat p5).map V.ref)) := fun X => by rw [upd_same, List.map_set]
      have kH := sameAt (o := .lst ((rs.map V.ref).set t.toNat (V.ref p5))) (k0.trans k5) nD0
      try dsimp only [tNext, tSeq, tAsg, gName, tDrop]
      have hD2 := hDf (upd (upd (upd H1 p1' (.lst (cutV (rw_ VR t) none (some p)))) p4 (.lst (cutV (rw_ VR t) (some (p + n)) none))) p5 (.lst (cutV (rw_ VR t) none (some p) ++ cutV (rw_ VR t) (some (p + n)) none)))
      generalize upd (upd (upd (upd H1 p1' (.lst (cutV (rw_ VR t) none (some p)))) p4 (.lst (cutV (rw_ VR t) (some (p + n)) none))) p5 (.lst (cutV (rw_ VR t) none (some p) ++ cutV (rw_ VR t) (some (p + n)) none))) D (.lst ((rs.map V.ref).set t.toNat (V.ref p5))) = H2 at he2 hr2 R2 hD2 kH ⊢
      have lws : (VR.set t.toNat ((rw_ VR t).take p.toNat ++ (rw_ VR t).drop (p + n).toNat)).length = ts.length := by rw [List.length_set, hR.len]
      have lu : (rw_ (VR.set t.toNat ((rw_ VR t).take p.toNat ++ (rw_ VR t).drop (p + n).toNat)) u).length ≤ 4000 := by
        by_cases eu : u = t
        · subst eu
          rw [rw_of (List.getElem?_set_self (by rw [hR.len]; omega)), List.length_append, List.length_take, List.length_drop]
          omega
        · have er : rw_ (VR.set t.toNat ((rw_ VR t).take p.toNat ++ (rw_ VR t).drop (p + n).toNat)) u = rw_ VR u := rw_of (by rw [List.getElem?_set_ne (by omega)]; exact rw_at u0 (lenR u1))
          rw [er]
          have := lenW u0 u1
          omega
      have fin : ∀ o HX, H o = none → RowsVAt HX o ((VR.set t.toNat ((rw_ VR t).take p.toNat ++ (rw_ VR t).drop (p + n).toNat)).set u.toNat ((rw_ (VR.set t.toNat ((rw_ VR t).take p.toNat ++ (rw_ VR t).drop (p + n).toNat)) u).take v.toNat ++ ((rw_ VR t).drop p.toNat).take n.toNat ++ (rw_ (VR.set t.toNat ((rw_ VR t).take p.toNat ++ (rw_ VR t).drop (p + n).toNat)) u).drop v.toNat)) → Same H HX → Q (.ref o) HX := fun o HX a b c => q o HX a b c
      generalize hws : VR.set t.toNat ((rw_ VR t).take p.toNat ++ (rw_ VR t).drop (p + n).toNat) = ws at R2 lws lu fin
      obtain ⟨r2, hat2, nr2, hru, hix2⟩ := R2.get u0 (by rw [lws]; exact u1)
      refine ⟨.ref D, rfl, .ref e, rfl, e, _, 4, .int u, rfl, rfl, SqT.of he2, rfl, D, _, u, .ref r2, rfl, rfl, sq_of hD2, hat2, ?_⟩
      try dsimp only [tNext, tSeq, tAsg, gName, tDrop]
      refine ⟨.ref r2, rfl, .ref e, rfl, e, _, 5, .int v, rfl, rfl, SqT.of he2, rfl, v, rfl, r2, _, rfl, sq_of hru, fun a1 na1 => ?_⟩
      have j1 := Same.new (o := .lst (cutV (rw_ ws u) none (some v))) na1
      have d1 := cutV_length (rw_ ws u) none (some v)
      have d2 := cutV_length (rw_ ws u) (some v) none
      refine ⟨.ref r, rfl, .int p, rfl, p, rfl, .int p, rfl, .ref e, rfl, e, _, 3, .int n, rfl, rfl, SqT.of (j1 _ _ he2), rfl, _, _, rfl, rfl, p + n, rfl, r, _, rfl, sq_of (j1 _ _ hr2), fun a2 na2 => ?_⟩
      have j2 := j1.trans (Same.new (o := .lst (cutV (rw_ VR t) (some p) (some (p + n)))) na2)
      refine ⟨a1, a2, _, _, rfl, rfl, (Same.new na2) _ _ upd_same, upd_same, by show _ ≤ 16777216; omega, fun a3 na3 => ?_⟩
      have j3 := j2.trans (Same.new (o := .lst (cutV (rw_ ws u) none (some v) ++ cutV (rw_ VR t) (some p) (some (p + n)))) na3)
      refine ⟨.ref r2, rfl, .ref e, rfl, e, _, 5, .int v, rfl, rfl, SqT.of (j3 _ _ he2), rfl, v, rfl, r2, _, rfl, sq_of (j3 _ _ hru), fun a4 na4 => ?_⟩
      have j4 := j3.trans (Same.new (o := .lst (cutV (rw_ ws u) (some v) none)) na4)
      refine ⟨a3, a4, _, _, rfl, rfl, (Same.new na4) _ _ upd_same, upd_same, by rw [List.length_append]; show _ ≤ 16777216; omega, fun a5 na5 => ?_⟩
      have j5 := j4.trans (Same.new (o := .lst (cutV (rw_ ws u) none (some v) ++ cutV (rw_ VR t) (some p) (some (p + n)) ++ cutV (rw_ ws u) (some v) none)) na5)
      refine ⟨.ref D, rfl, .ref e, rfl, e, _, 4, .int u, rfl, rfl, SqT.of (j5 _ _ he2), rfl, D, _, u, u.toNat, rfl, rfl, j5 _ _ hD2, hix2, ?_⟩
      have n6 : a5 ≠ D := fun w => by rw [w] at na5; rw [j4 _ _ hD2] at na5; cases na5
      have en : (p + n - p).toNat = n.toNat := by omega
      have R2 := ((R2.same fun b o nb hb => j5 b o hb).set n6 (z := (rw_ ws u).take v.toNat ++ ((rw_ VR t).drop p.toNat).take n.toNat ++ (rw_ ws u).drop v.toNat) (by rw [upd_same, cutV_to v0, cutV_from v0, cutV_of p0 (by omega), en]) u.toNat).same (fun b o nb hb => (upd_ne (o := .lst (((rs.set t.toNat p5).map V.ref).set u.toNat (V.ref a5))) nb).trans hb)
      try dsimp only [tNext, tSeq, tAsg, gName, tDrop]
      refine ⟨.ref D, rfl, fin D _ nD0 ⟨_, ?_, R2⟩ (sameAt (kH.trans j5) nD0)⟩
      rw [upd_same]; simp only [List.map_set]
end
end LawK
set_option maxHeartbeats 4000000
namespace LawK
open PySem PySem.Spec PyProof.Rows L2 Ev
/-- how many there are in all rows -/
def tot {α : Type} (R : List (List α)) : Nat := (R.map List.length).sum
def sm (ts : List Str) : Nat := (ts.map (·.length)).sum
theorem tot_chs (ts : List Str) : tot (chs ts) = sm ts := by
  unfold tot sm chs
  rw [List.map_map]
  exact congrArg List.sum (List.map_congr_left fun t _ => chz_len t)
theorem tot_set {α : Type} : ∀ {R : List (List α)} {i : Nat} {r z : List α}, R[i]? = some r → tot (R.set i z) + r.length = tot R + z.length
  | [], i, r, z, h => by simp at h
  | x :: R, 0, r, z, h => by
    cases h
    unfold tot
    rw [List.set_cons_zero, List.map_cons, List.map_cons, List.sum_cons, List.sum_cons]
    omega
  | x :: R, i + 1, r, z, h => by
    have ih := tot_set (R := R) (i := i) (r := r) (z := z) (by simpa using h)
    unfold tot at ih ⊢
    rw [List.set_cons_succ, List.map_cons, List.map_cons, List.sum_cons, List.sum_cons]
    omega
theorem tot_app {α : Type} (R S : List (List α)) : tot (R ++ S) = tot R + tot S := by
  unfold tot
  rw [List.map_append, List.sum_append]
theorem tot_drop {α : Type} (R : List (List α)) : tot R.dropLast ≤ tot R := by
  rcases List.eq_nil_or_concat R with rfl | ⟨L, x, rfl⟩
  · exact Nat.le_refl _
  · rw [List.concat_eq_append, List.dropLast_concat, tot_app]
    omega
theorem row_le {α : Type} : ∀ {R : List (List α)} {r : List α}, r ∈ R → r.length ≤ tot R
  | x :: R, r, h => by
    unfold tot
    rw [List.map_cons, List.sum_cons]
    rcases List.mem_cons.mp h with rfl | h
    · omega
    · have := row_le h
      unfold tot at this
      omega
theorem sm_mem {ts : List Str} {t : Str} (h : t ∈ ts) : t.length ≤ sm ts := by
  rw [← tot_chs, ← chz_len]
  exact row_le (List.mem_map_of_mem h)
theorem tot_after {α : Type} {ts : List Str} {ed : Ed} (hf : ed.fits ts) {R : List (List α)} (hR : Fit R ts) (fr : List α) : tot (mAfter R fr ed) ≤ tot R + fr.length := by
  have hl := hR.len
  have at_ : ∀ {t : Int}, 0 ≤ t → t < ts.length → R[t.toNat]? = some (rw_ R t) := fun {t} h0 h1 => rw_at h0 (by omega)
  cases ed with
  | put t a z =>
    obtain ⟨t0, t1, -, a0, a1⟩ := hf
    have h := tot_set (z := (rw_ R t).take a.toNat ++ fr ++ (rw_ R t).drop a.toNat) (at_ t0 t1)
    rw [List.length_append, List.length_append, List.length_take, List.length_drop] at h
    show tot (R.set t.toNat _) ≤ _
    omega
  | cut t a n =>
    obtain ⟨t0, t1, a0, n0, a1⟩ := hf
    have h := tot_set (z := (rw_ R t).take a.toNat ++ (rw_ R t).drop (a + n).toNat) (at_ t0 t1)
    rw [List.length_append, List.length_take, List.length_drop] at h
    show tot (R.set t.toNat _) ≤ _
    omega
  | change t a z =>
    obtain ⟨-, t0, t1, a0, a1⟩ := hf
    have h := tot_set (z := (rw_ R t).take a.toNat ++ fr ++ (rw_ R t).drop (a + fr.length).toNat) (at_ t0 t1)
    rw [List.length_append, List.length_append, List.length_take, List.length_drop] at h
    show tot (R.set t.toNat _) ≤ _
    omega
  | come z =>
    show tot (R ++ [fr]) ≤ _
    rw [tot_app]
    unfold tot
    simp
  | go =>
    have := tot_drop R
    show tot R.dropLast ≤ _
    omega
  | split t a =>
    obtain ⟨t0, t1, a0, a1⟩ := hf
    have h := tot_set (z := (rw_ R t).take a.toNat) (at_ t0 t1)
    rw [List.length_take] at h
    show tot (R.set t.toNat _ ++ [_]) ≤ _
    rw [tot_app]
    have e : tot [(rw_ R t).drop a.toNat] = (rw_ R t).length - a.toNat := by
      unfold tot
      simp
    omega
  | join t u =>
    obtain ⟨t0, t1, u0, u1, ne⟩ := hf
    have h := tot_set (z := rw_ R t ++ rw_ R u) (at_ t0 t1)
    have hu : (R.set t.toNat (rw_ R t ++ rw_ R u))[u.toNat]? = some (rw_ R u) := by
      rw [List.getElem?_set_ne (by omega)]
      exact at_ u0 u1
    have h2 := tot_set (z := ([] : List α)) hu
    rw [List.length_append] at h
    show tot ((R.set t.toNat _).set u.toNat []) ≤ _
    have : ([] : List α).length = 0 := rfl
    omega
  | move t a n u p =>
    obtain ⟨t0, t1, a0, n0, a1, u0, u1, p0, p1⟩ := hf
    have h := tot_set (z := (rw_ R t).take a.toNat ++ (rw_ R t).drop (a + n).toNat) (at_ t0 t1)
    rw [List.length_append, List.length_take, List.length_drop] at h
    have hr := hR.row t t0 t1
    show tot ((R.set t.toNat _).set u.toNat _) ≤ _
    have hu := rw_at (R := R.set t.toNat ((rw_ R t).take a.toNat ++ (rw_ R t).drop (a + n).toNat)) u0 (by rw [List.length_set]; omega)
    generalize R.set t.toNat ((rw_ R t).take a.toNat ++ (rw_ R t).drop (a + n).toNat) = R1 at h hu ⊢
    have h2 := tot_set (z := (rw_ R1 u).take p.toNat ++ ((rw_ R t).drop a.toNat).take n.toNat ++ (rw_ R1 u).drop p.toNat) hu
    rw [List.length_append, List.length_append, List.length_take, List.length_take, List.length_drop, List.length_drop] at h2
    omega
theorem rw_all {α : Type} {p : α → Prop} {R : List (List α)} (h : ∀ r ∈ R, ∀ c ∈ r, p c) (t : Int) : ∀ c ∈ rw_ R t, p c := fun c hc => by
  unfold rw_ at hc
  rw [List.getD_eq_getElem?_getD] at hc
  cases e : R[t.toNat]? with
  | none =>
    rw [e] at hc
    simp at hc
  | some r =>
    rw [e] at hc
    exact h r (List.mem_of_getElem? e) c hc
theorem set_all {α : Type} {p : α → Prop} {R : List (List α)} (h : ∀ r ∈ R, ∀ c ∈ r, p c) {z : List α} (hz : ∀ c ∈ z, p c) (i : Nat) : ∀ r ∈ R.set i z, ∀ c ∈ r, p c := fun r hr => by
  rcases List.mem_or_eq_of_mem_set hr with k | rfl
  · exact h r k
  · exact hz
theorem app_all {α : Type} {p : α → Prop} {x y : List α} (h : ∀ c ∈ x, p c) (k : ∀ c ∈ y, p c) : ∀ c ∈ x ++ y, p c := fun c hc => (List.mem_append.mp hc).elim (h c) (k c)
theorem take_all {α : Type} {p : α → Prop} {x : List α} (h : ∀ c ∈ x, p c) (i : Nat) : ∀ c ∈ x.take i, p c := fun c hc => h c (List.mem_of_mem_take hc)
theorem drop_all {α : Type} {p : α → Prop} {x : List α} (h : ∀ c ∈ x, p c) (i : Nat) : ∀ c ∈ x.drop i, p c := fun c hc => h c (List.mem_of_mem_drop hc)
theorem after_all {α : Type} {p : α → Prop} {R : List (List α)} (h : ∀ r ∈ R, ∀ c ∈ r, p c) {fr : List α} (hf : ∀ c ∈ fr, p c) (ed : Ed) : ∀ r ∈ mAfter R fr ed, ∀ c ∈ r, p c := by
  have w := rw_all h
  cases ed with
  | put t a z => exact set_all h (app_all (app_all (take_all (w t) _) hf) (drop_all (w t) _)) _
  | cut t a n => exact set_all h (app_all (take_all (w t) _) (drop_all (w t) _)) _
  | change t a z => exact set_all h (app_all (app_all (take_all (w t) _) hf) (drop_all (w t) _)) _
  | come z =>
    refine app_all (p := fun r => ∀ c ∈ r, p c) h fun r hr => ?_
    rw [List.mem_singleton.mp hr]
    exact hf
  | go => exact fun r hr => h r ((List.dropLast_prefix R).sublist.subset hr)
  | split t a =>
    refine app_all (p := fun r => ∀ c ∈ r, p c) (set_all h (take_all (w t) _) _) fun r hr => ?_
    rw [List.mem_singleton.mp hr]
    exact drop_all (w t) _
  | join t u => exact set_all (set_all h (app_all (w t) (w u)) _) (fun c hc => by simp at hc) _
  | move t a n u q =>
    have h1 := set_all h (app_all (take_all (w t) a.toNat) (drop_all (w t) (a + n).toNat)) t.toNat
    exact set_all h1 (app_all (app_all (take_all (rw_all h1 u) _) (take_all (drop_all (w t) _) _)) (drop_all (rw_all h1 u) _)) _
theorem sgB_all {z : Str} : sgB z = true ↔ ∀ c ∈ chz z, sgC c = true := by
  rw [← S_eta z, sgB_S, List.all_eq_true, S_eta]
  rfl
/-- an edit that fits and is not long leads on -/
theorem ldg_of {ts : List Str} {ed : Ed} (sg : ∀ t ∈ ts, sgB t = true) {n : Nat} (hs : sm ts ≤ n) (hn : n + 9 ≤ 200) (hf : ed.fits ts) (hl : (mAfter (chs ts) (chz ed.fresh) ed).length ≤ 8) (fl : ed.fresh.length ≤ 9) (sf : sgB ed.fresh = true) (shr : Shr (some ed.vals)) : ∃ us, Ldg ts ed us ∧ sm us ≤ n + 9 := by
  obtain ⟨ok, us, hm⟩ := fits_iff.mp hf
  have e := after_chs hf hm
  have h1 := tot_after hf (fit_chs ts) (chz ed.fresh)
  rw [e, tot_chs, tot_chs, chz_len] at h1
  rw [e] at hl
  unfold chs at hl
  rw [List.length_map] at hl
  refine ⟨us, ⟨ok, shr, hm, hl, fun t ht => ?_, fun t ht => ?_⟩, by omega⟩
  · refine sgB_all.mpr ?_
    have h2 := after_all (p := fun c => sgC c = true) (R := chs ts) (fun r hr => by obtain ⟨t, ht, rfl⟩ := List.mem_map.mp hr; exact sgB_all.mp (sg t ht)) (sgB_all.mp sf) ed
    rw [e] at h2
    exact h2 _ (List.mem_map_of_mem ht)
  · have := sm_mem ht
    omega
end LawK
set_option maxHeartbeats 4000000
namespace LawK
open PySem PySem.Spec PyProof.Rows L2 Ev
def tJn (K : PySem.W.Frag) (to te : TE) : TE := tM1 (fun x xs H Q => ∃ a p, ∃ ys : List Str, x = .str a ∧ xs = [.ref p] ∧ (SqL K H p (ys.map V.str) ∨ SqT K H p (ys.map V.str)) ∧ (ys.map (·.length)).sum + ys.length * a.length ≤ 16777216 ∧ Q (.str (Txt.join a ys)) H) to te
theorem join_chars (z : Str) : Txt.join (Str.ofString "") (z.cps.toList.map fun c => (⟨#[c]⟩ : Str)) = z := (join1 z.cps.toList).trans (S_eta z)
theorem sum_ones (l : List Nat) : ((l.map fun c => (⟨#[c]⟩ : Str)).map (·.length)).sum = l.length := by
  induction l with
  | nil => rfl
  | cons c l ih =>
    rw [List.map_cons, List.map_cons, List.sum_cons, ih, List.length_cons]
    show 1 + _ = _
    omega
theorem chars_map (z : Str) : chars z = (chz z).map fun c => V.str ⟨#[c]⟩ := rfl
theorem chars_chs (ts : List Str) : ts.map chars = (chs ts).map (List.map fun c => V.str ⟨#[c]⟩) := by
  unfold chs
  rw [List.map_map]
  rfl
theorem fit_chars (ts : List Str) : Fit (ts.map chars) ts := units_fit (by
  rw [chars_chs, List.map_map]
  refine List.map_congr_left fun r _ => ?_
  show (r.map _).map _ = r.map _
  rw [List.map_map])
theorem after_chars {ts us : List Str} {ed : Ed} (ld : Ldg ts ed us) : mAfter (ts.map chars) (chars ed.fresh) ed = us.map chars := by
  rw [chars_chs, chars_map, ← after_map, after_chs ld.fits ld.to, ← chars_chs]
theorem fresh_len {ts us : List Str} {ed : Ed} (ld : Ldg ts ed us) : ed.fresh.length ≤ 2500 := by
  have h := ld.shr
  have e0 : (Str.ofString "").length ≤ 2500 := by decide +kernel
  cases ed with
  | put t a z => exact (h _ rfl z (by simp [Ed.vals])).1
  | change t a z => exact (h _ rfl z (by simp [Ed.vals])).1
  | come z => exact (h _ rfl z (by simp [Ed.vals])).1
  | cut t a n => exact e0
  | go => exact e0
  | split t a => exact e0
  | join t u => exact e0
  | move t a n u p => exact e0
theorem row_texts {H : Hp} : ∀ {ts : List Str}, (∀ t ∈ ts, t.length ≤ 200) → All2 (RowI H) (ts.map V.str) (ts.map chars)
  | [], _ => .nil
  | t :: ts, h => .cons (.inr ⟨t, rfl, rfl, Nat.le_trans (h t (List.mem_cons_self)) (by decide)⟩) (row_texts fun x hx => h x (List.mem_cons_of_mem _ hx))
def spTxBehind : Sp := fun vs H Q _ => ∃ (a e : Addr) (ts us : List Str) (ed : Ed), vs = [.ref a, .ref e] ∧ TsAt H a ts ∧ EdOf H e ts ed us ∧ ∀ b H', Same H H' → H b = none → TsAt H' b us → Q (.ref b) H'
def spLEdit : Sp := fun vs H Q _ => ∃ (p a : Addr) (ts : List Str) (n : Nat), vs = [.ref p, .ref a] ∧ TsAt H a ts ∧ sm ts ≤ n ∧ n + 9 ≤ 200 ∧ ∃ l, HandL H p l ∧ ∀ e ed us H', EdOf H' e ts ed us → sm us ≤ n + 9 → HandL H' p l → But p H H' → Q (.ref e) H'
section
variable {P : Program} {w : World} {K : PySem.W.Frag} {mg : Str → Option Value} {base : Heap}
abbrev sTextsBehind : Stmt := topS 52
theorem scTextsBehind : FnScope ["texts", "edit", "row"] ["texts", "edit"] (defScope sTextsBehind) := ⟨rfl, rfl, rfl, by decide +kernel, rfl, by decide +kernel, by decide +kernel⟩
theorem ok_TextsBehind {f : Addr} {fd : FuncData} (F : Fun K "_law_texts_behind" "_law_texts_behind" sTextsBehind f fd)  {fAdded : Addr} {fdAdded : FuncData} (DAdded : Dk P w K mg base "_law_added" sAdded ["edit"] 1 spAdded fAdded fdAdded) {fLBehind : Addr} {fdLBehind : FuncData} (DLBehind : Dk P w K mg base "_law_behind" sLBehind ["rows", "edit", "added"] 1 spLBehind fLBehind fdLBehind) (T : Glob mg) : FnOk P w K mg base CX0 2 f fd ["texts", "edit"] spTxBehind := by
  refine F.ok scTextsBehind (fun vs H Q E h => ?_) (fun cdv A outer s H vs Q E hr h => ?_)
  · obtain ⟨a, e, ts, us, ed, rfl, _⟩ := h
    rfl
  · refine ⟨_, (pss_one (ps_ret (pe_callTy call_tuple_of (by rfl) T.tuple (by decide +kernel) (pa_cons (pe_lc (own := [("row", 2)]) (g := gName 2) (te := tJn K (tC (.str (Str.ofString ""))) (tVar 2)) (by rfl) scTextsBehind.nd (pi_list (pe_call DLBehind.ok (hr.mono (by decide)) (by rfl) DLBehind.g DLBehind.F.kp DLBehind.b .nil pass0 (pa_cons (pv 0) (pa_cons (pv 1) (pa_cons (pe_callTy (call_list_S rfl) (by rfl) T.list (by decide +kernel) (pa_cons (pe_call DAdded.ok (hr.mono (by decide)) (by rfl) DAdded.g DAdded.F.kp DAdded.b .nil pass0 (pa_cons (pv 1) pa_nil)) pa_nil)) pa_nil))))) (blkOk_by (N := ["texts", "edit", "row"]) (sc := defScope sTextsBehind) (by decide +kernel)) (fun _ _ _ _ _ => pg_name (i := 2) scTextsBehind.nd rfl (.inl rfl)) (fun _ _ _ _ _ => pts_nil) (fun _ _ _ _ _ => (pe_join pe_str (pv 2)))) pa_nil)))), ?_⟩
    obtain ⟨a, e, ts, us, ed, rfl, ha, he, q⟩ := h
    refine ⟨.ref a, rfl, .ref e, rfl, .ref e, rfl, e, ed, rfl, he.at_, fun H1 k1 => ⟨ed.fresh, rfl, ?_, fun l nl => ?_⟩⟩
    · have := fresh_len he.ld
      rw [sizeLine_eq]
      omega
    have k2 := k1.trans (Same.new (o := .lst (chars ed.fresh)) nl)
    have ha2 := ha.same k2
    have he2 := k2 _ _ he.at_
    refine ⟨a, e, l, ts, ed, ts.map chars, chars ed.fresh, rfl, ⟨_, .inr ha2.at_, row_texts ha2.len⟩, he2, upd_same, fit_chars ts, he.ld.fits, ha2.few, ha2.len, by rw [chars_length]; exact fresh_len he.ld, fun t p z ee => by subst ee; exact chars_length z, fun o H3 no ⟨rs, hD, hrs⟩ k3 => ?_⟩
    rw [after_chars he.ld] at hrs
    have g8 := he.ld.good
    have nrs : rs.length ≤ 8 := by rw [hrs.len, List.length_map]; exact g8.few
    have k13 := k2.trans k3
    clear k1 k2 k3 ha2 he2 nl no
    refine ⟨o, rfl, ⟨_, sq_of hD⟩, fun D nD => lc_list (xs := rs.map V.ref) (fun i H2 => Same H3 H2 ∧ H2 D = some (.lst ((us.take i).map V.str))) ⟨Same.new nD, upd_same⟩ (fun i H2 hi g => sq_of (g.1 _ _ hD)) ?_ ?_⟩
    · rintro i x H2 hx ⟨k2, h2⟩
      rw [List.getElem?_map] at hx
      obtain ⟨r, hr, rfl⟩ := Option.map_eq_some_iff.mp hx
      have lus := hrs.len
      rw [List.length_map] at lus
      have li : i < us.length := by rw [← lus]; exact (List.getElem?_eq_some_iff.mp hr).1
      have hu := List.getElem?_eq_getElem li
      obtain ⟨nr, hc⟩ := hrs.at_ i r _ hr (by rw [List.getElem?_map, hu]; rfl)
      have lu := g8.len _ (List.getElem_mem li)
      generalize us[i] = u at hu hc lu
      refine ⟨rfl, ⟨_, rfl⟩, .ref r, rfl, _, r, u.cps.toList.map fun c => (⟨#[c]⟩ : Str), rfl, rfl, .inl (sq_of (by rw [List.map_map]; exact k2 _ _ hc)), ?_, ?_⟩
      · rw [sum_ones, lenE, ← len_S]
        omega
      · rw [join_chars]
        refine ⟨_, h2, by rw [List.length_map, List.length_take]; show _ < 16777216; omega, sameAt k2 nD, ?_⟩
        rw [upd_same, List.take_succ, hu, List.map_append]
        rfl
    · rintro H2 ⟨k2, h2⟩
      rw [List.length_map, hrs.len, List.length_map, List.take_length] at h2
      refine ⟨D, _, rfl, .inl ⟨sq_of h2, fun p np => ?_⟩⟩
      refine q p _ ((k13.trans k2).trans (Same.new np)) ?_ ⟨upd_same, g8.few, g8.sg, g8.len⟩
      cases z : H p with
      | none => rfl
      | some ob => rw [(k13.trans k2) _ _ z] at np; cases np
end
end LawK
namespace Ev
open PySem PySem.Spec PyProof PyProof.Rows L2
def tIfT (t u v : TT) : TT := fun σ H Q => t σ H fun c H1 => if c = true then u σ H1 Q else v σ H1 Q
theorem pt_ifT {X : Cx} {c a b : Expr} {tC tA tB : TT} {pos : Pos} (hc : PT X c tC) (ha : PT X a tA) (hb : PT X b tB) : PT X (.IfExp c a b pos) (tIfT tC tA tB) := by
  refine ⟨fun pins s σ H Q I h => ?_⟩
  show wpAny (model X.prog X.w) X.A (do
    if ← PySem.isTrue c X.env (eval c X.env) then PySem.isTrue a X.env (eval a X.env) else PySem.isTrue b X.env (eval b X.env)) _ X.xe s
  refine wpAny_bind (wpAny_mono (hc.run pins s σ H _ I h) (fun d s1 ⟨H1, I1, q1⟩ => ?_) fun _ _ x => x)
  cases d with
  | true => exact ha.run pins s1 σ H1 Q I1 q1
  | false => exact hb.run pins s1 σ H1 Q I1 q1
end Ev
set_option maxHeartbeats 4000000
/-! A text read from its end. -/
namespace Ev
open PySem PySem.Spec PyProof.Rows L2
def revC (z : Str) : List Nat := (List.range z.length).map fun k => z.cps.getD (z.length - 1 - k) 0
def revZ (z : Str) : Str := SX.S (revC z)
theorem rev_pick (z : Str) : (Builtin.Str.strSliceIndices none none (-1) z.length).filterMap (z.cps[·]?) = revC z := by
  rw [picked_rev, filterMap_get, List.map_map]
  · rfl
  · intro i hi
    obtain ⟨k, hk, rfl⟩ := List.mem_map.mp hi
    have hk' := List.mem_range.mp hk
    show z.length - 1 - k < z.length
    omega
theorem revC_len (z : Str) : (revC z).length = z.length := by
  unfold revC
  rw [List.length_map, List.length_range]
theorem revZ_len (z : Str) : (revZ z).length = z.length := (SX.S_len _).trans (revC_len z)
theorem revC_mem {z : Str} {c : Nat} (h : c ∈ revC z) : c ∈ z.cps.toList := by
  obtain ⟨k, hk, rfl⟩ := List.mem_map.mp h
  have hk' := List.mem_range.mp hk
  have hi : z.length - 1 - k < z.cps.size := by
    show z.length - 1 - k < z.length
    omega
  have e : z.cps.getD (z.length - 1 - k) 0 = z.cps[z.length - 1 - k] := by simp [Array.getD, hi]
  rw [e]
  exact Array.getElem_mem_toList hi
theorem sgB_rev {z : Str} (h : sgB z = true) : sgB (revZ z) = true := List.all_eq_true.mpr fun c hc => sgB_mem h (revC_mem hc)
def tRevS (te : TE) : TE := fun σ H Q => te σ H fun x H1 => ∃ z : Str, x = .str z ∧ z.length ≤ sizeLine ∧ Q (.str (revZ z)) H1
theorem pe_revS {X : Cx} {e : Expr} {te : TE} {k : Nat} {p1 p2 p3 pos : Pos} (he : PE X e te) :
    PE X (.Subscript e (.Slice none none (some (.UnaryOp .USub (.Constant (.int 1) k p1) p2)) p3) pos) (tRevS te) := by
  constructor
  intro pins s σ H Q I h
  apply Subscript_
  refine thn (he.run pins s σ H _ I h) ?_
  rintro v s1 ⟨x, H1, I1, r1, z, rfl, hz, q⟩
  obtain ⟨t, rfl⟩ := r1
  have hst : PO X (some (.UnaryOp .USub (.Constant (.int 1) k p1) p2)) _ := po_some (pe_un un_neg pe_int)
  apply wpAny_Slice
  refine thn (po_none.run pins s1 σ H1 (fun o H2 => o = none ∧ H2 = H1) I1 ⟨rfl, rfl⟩) ?_
  rintro vl s2 ⟨l, H2, I2, pl, rfl, rfl⟩
  refine thn (po_none.run pins s2 σ _ (fun o H3 => o = none ∧ H3 = H2) I2 ⟨rfl, rfl⟩) ?_
  rintro vu s3 ⟨u, H3, I3, pu, rfl, rfl⟩
  refine thn (hst.run pins s3 σ _ (fun o H4 => o = some (-1) ∧ H4 = H3) I3 ⟨1, rfl, -1, rfl, rfl, rfl⟩) ?_
  rintro vs s4 ⟨o, H4, I4, pz, rfl, rfl⟩
  have I5 := I4.kept (t' := s4.toks) (h' := s4.heap.push { cls := .type "slice", data := .fields #[vl, vu, vs] }) fun b ob g => Heap.get?_push_of_some _ g
  obtain ⟨l', rfl, el⟩ := IsPart.raw pl
  obtain ⟨u', rfl, eu⟩ := IsPart.raw pu
  obtain ⟨w', rfl, ew⟩ := IsPart.raw pz
  refine tail_any (ops := [.str z t, .ref s4.heap.objs.size]) (typeIs_str _ _ _) F.slot_str_getitem.lookup ?_ (by with_unfolding_all rfl)
  have e1 : ((w'.map (·.1)).getD 1 == 1) = false := by rw [ew]; rfl
  have e0 : ((w'.map (·.1)).getD 1 == 0) = false := by rw [ew]; rfl
  refine wpAny_getItem_str_slice (l := l') (u := u') (st := w') (Heap.IsSliceOf.new ..) e0 ?_
  have em : sliceMade z t l' u' w' = Made.str (revZ z) := by
    unfold sliceMade
    rw [e1, Bool.false_and, if_neg (by decide)]
    have e2 : slicePicked z l' u' w' = Builtin.Str.strSliceIndices none none (-1) z.length := by
      unfold slicePicked
      rw [el, eu, ew]
      rfl
    rw [e2, rev_pick]
    rfl
  rw [em]
  refine ⟨?_, .str (revZ z), H4, I5.tok _, ⟨_, rfl⟩, q⟩
  rw [revZ_len]
  exact hz
end Ev
set_option maxHeartbeats 4000000
/-! Tuples of texts as data. -/
namespace Ev
open PySem PySem.Spec PyProof.Rows L2
theorem dp_strs {K : PySem.W.Frag} {H : Hp} : ∀ ts : List Str, DpAll K H (ts.map V.str) (ts.map PyData.str)
  | [] => .nil
  | t :: ts => .cons (.str t) (dp_strs ts)
theorem eqv_strs : ∀ ts us : List Str, PyData.eqvAll (ts.map PyData.str) (us.map PyData.str) = decide (ts = us)
  | [], [] => by rw [decide_eq_true rfl]; rfl
  | [], u :: us => by rw [decide_eq_false (by simp)]; rfl
  | t :: ts, [] => by rw [decide_eq_false (by simp)]; rfl
  | t :: ts, u :: us => by
    show (PyData.eqv (.str t) (.str u) && PyData.eqvAll (ts.map PyData.str) (us.map PyData.str)) = _
    rw [eqv_strs ts us]
    show ((t == u) && _) = _
    by_cases e : t = u
    · subst e
      by_cases e2 : ts = us
      · subst e2
        simp
      · simp [e2]
    · have : (t == u) = false := by simpa using e
      rw [this, Bool.false_and, decide_eq_false fun z => e (by injection z)]
theorem strOk_sg {t : Str} (h : sgB t = true) : PyData.strOk t = true := by
  have g : ∀ c ∈ t.cps.toList, c ≤ 126 := fun c hc => by
    have := sgB_mem h hc
    unfold sgC at this
    exact of_decide_eq_true (Bool.and_eq_true_iff.mp this).2
  show t.cps.all (· < 0x110000) = true
  rw [← Array.all_toList, List.all_eq_true]
  intro c hc
  have := g c hc
  exact decide_eq_true (by omega)
theorem shaped_strs {ts : List Str} (h : ∀ t ∈ ts, sgB t = true) : SeqAt.shaped (.tuple (ts.map PyData.str)) = true := by
  have h1 : ∀ us : List Str, (∀ t ∈ us, sgB t = true) → PyData.canLayAll0 (us.map PyData.str) = true := fun us hu => by
    induction us with
    | nil => rfl
    | cons u us ih =>
      show (PyData.strOk u && PyData.canLayAll0 (us.map PyData.str)) = true
      rw [strOk_sg (hu u (by simp)), ih fun t ht => hu t (List.mem_cons_of_mem _ ht)]
      rfl
  have h2 : ∀ us : List Str, PyData.depthAll (us.map PyData.str) ≤ 1 := fun us => by
    induction us with
    | nil => exact Nat.zero_le _
    | cons u us ih =>
      simp only [List.map_cons, PyData.depthAll, PyData.depth]
      omega
  unfold SeqAt.shaped
  have a : (PyData.tuple (ts.map PyData.str)).canLay0 = true := h1 ts h
  have b : (PyData.tuple (ts.map PyData.str)).depth ≤ 64 := by
    have := h2 ts
    simp only [PyData.depth]
    omega
  rw [a, decide_eq_true b]
  rfl
end Ev
set_option maxHeartbeats 4000000
namespace LawK
open PySem PySem.Spec PyProof.Rows L2 Ev
theorem tIfS_of {tc : TT} {tb te : TS} {D : Ends} {σ : L2.St} {H : Hp} (P : Prop) (h : ∀ (tb te : TS) (D : Ends), (P → tb D σ H) → (¬ P → te D σ H) → tIfS tc tb te D σ H) (a : P → tb D σ H) (b : ¬ P → te D σ H) : tIfS tc tb te D σ H := h tb te D a b
theorem shr_of {vs : List V} (h : ∀ v ∈ vs, (∃ i, v = .int i) ∨ ∃ z : Str, v = .str z ∧ z.length ≤ 2500 ∧ PyData.strOk z = true) : Shr (some vs) := fun xs e z hz => by
  cases e
  rcases h _ hz with ⟨i, e⟩ | ⟨y, e, g⟩
  · cases e
  · cases e
    exact g
theorem chs_len (ts : List Str) : (chs ts).length = ts.length := by
  unfold chs
  rw [List.length_map]
theorem di {x y : Int} (e : decide (V.int x = V.int y) = true) : x = y := V.int.inj (of_decide_eq_true e)
theorem dn {x y : Int} (e : ¬ decide (V.int x = V.int y) = true) : x ≠ y := fun h => e (decide_eq_true (congrArg V.int h))
theorem dt {P : Prop} [Decidable P] (e : decide P = true) : P := of_decide_eq_true e
theorem df {P : Prop} [Decidable P] (e : ¬ decide P = true) : ¬ P := fun h => e (decide_eq_true h)
theorem tAt {ts : List Str} {t : Int} (t0 : 0 ≤ t) (t1 : t < ts.length) : atI (ts.map V.str) t = some (.str (mText ts t)) := by
  unfold atI
  rw [List.length_map, ixN_in t0 t1]
  show (ts.map V.str)[t.toNat]? = _
  rw [List.getElem?_map, mText_get t0 t1]
  rfl
theorem e0len : (Str.ofString "").length ≤ 9 := by decide +kernel
theorem e0sg : sgB (Str.ofString "") = true := by decide +kernel
theorem chz0 : chz (Str.ofString "") = [] := empty_ch
theorem tx_le {ts : List Str} (len : ∀ t ∈ ts, t.length ≤ 200) {t : Int} (t0 : 0 ≤ t) (t1 : t < ts.length) : (mText ts t).length ≤ 200 := len _ (List.mem_of_getElem? (mText_get t0 t1))
theorem sOk {z : String} (h : (PyData.strOk (Str.ofString z) && decide ((Str.ofString z).length ≤ 2500)) = true) : (∃ i, V.str (Str.ofString z) = .int i) ∨ ∃ y : Str, V.str (Str.ofString z) = .str y ∧ y.length ≤ 2500 ∧ PyData.strOk y = true :=
  .inr ⟨_, rfl, of_decide_eq_true (Bool.and_eq_true_iff.mp h).2, (Bool.and_eq_true_iff.mp h).1⟩
theorem zOk {z : Str} (h : sgB z = true) (l : z.length ≤ 2500) : (∃ i, V.str z = .int i) ∨ ∃ y : Str, V.str z = .str y ∧ y.length ≤ 2500 ∧ PyData.strOk y = true := .inr ⟨z, rfl, l, strOk_sg h⟩
theorem iOk (i : Int) : (∃ j, V.int i = .int j) ∨ ∃ y : Str, V.int i = .str y ∧ y.length ≤ 2500 ∧ PyData.strOk y = true := .inl ⟨i, rfl⟩
theorem allV {p : V → Prop} {x : V} {xs : List V} (h : p x) (k : ∀ v ∈ xs, p v) : ∀ v ∈ x :: xs, p v := fun v hv => (List.mem_cons.mp hv).elim (fun e => e ▸ h) (k v)
theorem allN {p : V → Prop} : ∀ v ∈ ([] : List V), p v := fun v hv => absurd hv (by simp)
section
variable {P : Program} {w : World} {K : PySem.W.Frag} {mg : Str → Option Value} {base : Heap}
abbrev sLEdit : Stmt := topS 54
theorem scLEdit : FnScope ["hand", "texts", "kind", "many", "number", "text", "at", "long", "other", "room", "turn"] ["hand", "texts"] (defScope sLEdit) := ⟨rfl, rfl, rfl, by decide +kernel, rfl, by decide +kernel, by decide +kernel⟩
theorem ok_LEdit {f : Addr} {fd : FuncData} (F : Fun K "_law_edit" "_law_edit" sLEdit f fd)  {fDraw : Addr} {fdDraw : FuncData} (DDraw : Dk P w K mg base "_law_draw" sDraw ["hand", "many"] 1 spDraw fDraw fdDraw) {fSign : Addr} {fdSign : FuncData} (DSign : Dk P w K mg base "_law_sign" sSign ["hand", "kind"] 3 spSign fSign fdSign) {fText : Addr} {fdText : FuncData} (DText : Dk P w K mg base "_law_text" sText ["hand", "most"] 4 spLText fText fdText) {fWord : Addr} {fdWord : FuncData} (DWord : Dk P w K mg base "_law_word" sWord ["hand", "most"] 4 spLWord fWord fdWord) (T : Glob mg) : FnOk P w K mg base CX0 5 f fd ["hand", "texts"] spLEdit := by
  refine F.ok scLEdit (fun vs H Q E h => ?_) (fun cdv A outer s H vs Q E hr h => ?_)
  · obtain ⟨p, a, ts, n, rfl, _⟩ := h
    rfl
  · refine ⟨_, (pss_cons (ps_set (i := 2) scLEdit.nd rfl (.inl rfl) (pe_call DDraw.ok (hr.mono (by decide)) (by rfl) DDraw.g DDraw.F.kp DDraw.b .nil pass0 (pa_cons (pv 0) (pa_cons pe_int pa_nil))))
      (pss_cons (ps_set (i := 3) scLEdit.nd rfl (.inl rfl) (pe_callB call_len_seq (by rfl) T.len PySem.boot_len (pa_cons (pv 1) pa_nil)))
      (pss_cons (ps_if (PW.pt (pw_or (pt_cmpR op_eq (pv 3) pe_int (nomark _)) (pw_or1 (PW.pt (pw_and (pt_cmpR op_eq (pv 2) pe_int (nomark _)) (pw_and1 (pt_cmpR op_lt (pv 3) pe_int (nomark _))))))))
      (pss_one (ps_ret (pe_tup (pa_cons pe_str (pa_cons (pe_call DText.ok (hr.mono (by decide)) (by rfl) DText.g DText.F.kp DText.b .nil pass0 (pa_cons (pv 0) (pa_cons pe_int pa_nil))) pa_nil)))))
      pss_nil)
      (pss_cons (ps_if (PW.pt (pw_and (pt_cmpR op_eq (pv 2) pe_int (nomark _)) (pw_and1 (pt_cmpR op_eq (pe_ix ix_tup (pv 1) (pe_op op_sub (pv 3) pe_int) (fun _ _ => rfl)) pe_str (nomark _)))))
      (pss_one (ps_ret (pe_tup (pa_cons pe_str pa_nil))))
      pss_nil)
      (pss_cons (ps_set (i := 4) scLEdit.nd rfl (.inl rfl) (pe_call DDraw.ok (hr.mono (by decide)) (by rfl) DDraw.g DDraw.F.kp DDraw.b .nil pass0 (pa_cons (pv 0) (pa_cons (pv 3) pa_nil))))
      (pss_cons (ps_set (i := 5) scLEdit.nd rfl (.inl rfl) (pe_ix ix_tup (pv 1) (pv 4) (fun _ _ => rfl)))
      (pss_cons (ps_if (PW.pt (pw_and (pt_cmpR op_eq (pv 2) pe_int (nomark _)) (pw_and1 (pt_cmpR op_lt (pv 3) pe_int (nomark _)))))
      (pss_one (ps_ret (pe_tup (pa_cons pe_str (pa_cons (pv 4) (pa_cons (pe_call DDraw.ok (hr.mono (by decide)) (by rfl) DDraw.g DDraw.F.kp DDraw.b .nil pass0 (pa_cons (pv 0) (pa_cons (pe_op op_add (pe_callB call_lenZ (by rfl) T.len PySem.boot_len (pa_cons (pv 5) pa_nil)) pe_int) pa_nil))) pa_nil))))))
      pss_nil)
      (pss_cons (ps_if (PW.pt (pw_and (pt_cmpR op_eq (pv 2) pe_int (nomark _)) (pw_and1 (pt_cmpR op_gt (pv 3) pe_int (nomark _)))))
      (pss_one (ps_ret (pe_tup (pa_cons pe_str (pa_cons (pv 4) (pa_cons (pe_op op_mod (pe_callTy call_int1 (by rfl) T.int (by decide +kernel) (pa_cons (pe_op op_add (pe_op op_add (pv 4) pe_int) (pe_call DDraw.ok (hr.mono (by decide)) (by rfl) DDraw.g DDraw.F.kp DDraw.b .nil pass0 (pa_cons (pv 0) (pa_cons (pe_op op_sub (pv 3) pe_int) pa_nil)))) pa_nil)) (pv 3)) pa_nil))))))
      pss_nil)
      (pss_cons (ps_if (PW.pt (pw_or (pt_cmpR op_eq (pe_callB call_lenZ (by rfl) T.len PySem.boot_len (pa_cons (pv 5) pa_nil)) pe_int (nomark _)) (pw_or1 (pt_cmpR op_gt (pv 2) pe_int (nomark _)))))
      (pss_one (ps_ret (pe_tup (pa_cons pe_str (pa_cons (pv 4) (pa_cons (pe_call DDraw.ok (hr.mono (by decide)) (by rfl) DDraw.g DDraw.F.kp DDraw.b .nil pass0 (pa_cons (pv 0) (pa_cons (pe_op op_add (pe_callB call_lenZ (by rfl) T.len PySem.boot_len (pa_cons (pv 5) pa_nil)) pe_int) pa_nil))) (pa_cons (pe_call DWord.ok (hr.mono (by decide)) (by rfl) DWord.g DWord.F.kp DWord.b .nil pass0 (pa_cons (pv 0) (pa_cons pe_int pa_nil))) pa_nil)))))))
      pss_nil)
      (pss_cons (ps_set (i := 6) scLEdit.nd rfl (.inl rfl) (pe_call DDraw.ok (hr.mono (by decide)) (by rfl) DDraw.g DDraw.F.kp DDraw.b .nil pass0 (pa_cons (pv 0) (pa_cons (pe_callB call_lenZ (by rfl) T.len PySem.boot_len (pa_cons (pv 5) pa_nil)) pa_nil))))
      (pss_cons (ps_set (i := 7) scLEdit.nd rfl (.inl rfl) (pe_op op_add pe_int (pe_call DDraw.ok (hr.mono (by decide)) (by rfl) DDraw.g DDraw.F.kp DDraw.b .nil pass0 (pa_cons (pv 0) (pa_cons (pe_callB (call_min2 rfl) (by rfl) T.min (by decide +kernel) (pa_cons (pe_op op_sub (pe_callB call_lenZ (by rfl) T.len PySem.boot_len (pa_cons (pv 5) pa_nil)) (pv 6)) (pa_cons pe_int pa_nil))) pa_nil)))))
      (pss_cons (ps_if (pt_cmpR op_lt (pv 2) pe_int (nomark _))
      (pss_one (ps_ret (pe_tup (pa_cons pe_str (pa_cons (pv 4) (pa_cons (pv 6) (pa_cons (pv 7) pa_nil)))))))
      pss_nil)
      (pss_cons (ps_if (pt_cmpR op_eq (pv 2) pe_int (nomark _))
      (pss_one (ps_ret (pe_tup (pa_cons pe_str (pa_cons (pv 4) (pa_cons (pv 6) (pa_cons (pe_join pe_str (pe_lc (own := [("turn", 10)]) (g := gName 10) (by rfl) scLEdit.nd (pi_range1 (by rfl) T.range (pa_cons (pv 7) pa_nil)) (blkOk_by (N := ["hand", "texts", "kind", "many", "number", "text", "at", "long", "other", "room", "turn"]) (sc := defScope sLEdit) (by decide +kernel)) (fun _ _ _ _ _ => pg_name (i := 10) scLEdit.nd rfl (.inl rfl)) (fun _ _ _ _ _ => pts_nil) (fun _ _ _ _ _ => (pe_call DSign.ok (hr.mono (by decide)) (by rfl) DSign.g DSign.F.kp DSign.b .nil pass0 (pa_cons (pv 0) (pa_cons pe_int pa_nil)))))) pa_nil)))))))
      pss_nil)
      (pss_cons (ps_set (i := 8) scLEdit.nd rfl (.inl rfl) (pe_call DDraw.ok (hr.mono (by decide)) (by rfl) DDraw.g DDraw.F.kp DDraw.b .nil pass0 (pa_cons (pv 0) (pa_cons (pv 3) pa_nil))))
      (pss_cons (ps_set (i := 9) scLEdit.nd rfl (.inl rfl) (pe_callB call_lenZ (by rfl) T.len PySem.boot_len (pa_cons (pe_ix ix_tup (pv 1) (pv 8) (fun _ _ => rfl)) pa_nil)))
      (pss_cons (ps_if (pt_cmpR op_eq (pv 8) (pv 4) (nomark _))
      (pss_one (ps_set (i := 9) scLEdit.nd rfl (.inl rfl) (pe_op op_sub (pv 9) (pv 7))))
      pss_nil)
      (pss_one (ps_ret (pe_tup (pa_cons pe_str (pa_cons (pv 4) (pa_cons (pv 6) (pa_cons (pv 7) (pa_cons (pv 8) (pa_cons (pe_call DDraw.ok (hr.mono (by decide)) (by rfl) DDraw.g DDraw.F.kp DDraw.b .nil pass0 (pa_cons (pv 0) (pa_cons (pe_op op_add (pv 9) pe_int) pa_nil))) pa_nil))))))))))))))))))))))))), ?_⟩
    obtain ⟨p, a, ts, n, rfl, ha, hs, hn, lh, hH, q⟩ := h
    have fin : ∀ (ed : Ed) H' e, ed.fits ts → (mAfter (chs ts) (chz ed.fresh) ed).length ≤ 8 → ed.fresh.length ≤ 9 → sgB ed.fresh = true → Shr (some ed.vals) → HandL H' p lh → But p H H' → H' e = none → Q (.ref e) (upd H' e (.tup ed.vals)) := fun ed H' e hf hl fl sf shr h b ne => by
      obtain ⟨us, ld, hu⟩ := ldg_of ha.sg hs hn hf hl fl sf shr
      exact q e ed us _ ⟨upd_same, ld⟩ hu (h.same (Same.new ne)) (b.new ne)
    have cl := chs_len ts
    refine ⟨.ref p, rfl, p, 9, rfl, by decide, by decide, lh, hH, fun kk H1 k0 k1 h1 b1 => ?_⟩
    have ha1 := ha.but hH b1
    try dsimp only [tNext, tSeq, tAsg, gName, tDrop]
    refine ⟨.ref a, rfl, a, _, rfl, .inr (SqT.of ha1.at_), ?_⟩
    try dsimp only [tNext, tSeq, tAsg, gName, tDrop]
    rw [List.length_map]
    refine tIfS_of ((ts.length : Int) = 0 ∨ kk = 0 ∧ (ts.length : Int) < 8) (fun tb te D A B => ⟨.int ts.length, rfl, rfl, _, rfl, ite2 (fun e => A (.inl (di e))) (fun e => ⟨.int kk, rfl, rfl, _, rfl, ite2 (fun e2 => ⟨.int ts.length, rfl, _, _, rfl, rfl, _, rfl, ite2 (fun e3 => A (.inr ⟨di e2, dt e3⟩)) (fun e3 => B fun c => c.elim (dn e) fun c => df e3 c.2)⟩) (fun e2 => B fun c => c.elim (dn e) fun c => dn e2 c.1)⟩)⟩) (fun c => ?_) (fun c => ?_)
    · refine ⟨.ref p, rfl, p, 8, rfl, by decide, by decide, lh, h1, fun y H2 sy ly h2 b2 => ⟨by show 2 ≤ sizeLine; decide, fun e ne => fin (.come y) H2 e sy ?_ (by show y.length ≤ 9; omega) sy (shr_of (allV (sOk (by decide +kernel)) (allV (zOk sy (by omega)) allN))) h2 (b1.trans b2) ne⟩⟩
      show (chs ts ++ [_]).length ≤ 8
      rw [List.length_append, cl]
      show ts.length + 1 ≤ 8
      omega
    have m0 : 0 < ts.length := by omega
    have few := ha.few
    try dsimp only [tNext, tSeq, tAsg, gName, tDrop]
    refine tIfS_of (kk = 1 ∧ mText ts ((ts.length : Int) - 1) = Str.ofString "") (fun tb te D A B => ⟨.int kk, rfl, rfl, _, rfl, ite2 (fun e2 => ⟨.ref a, rfl, .int ts.length, rfl, _, _, rfl, rfl, a, _, (ts.length : Int) - 1, .str (mText ts ((ts.length : Int) - 1)), rfl, rfl, SqT.of ha1.at_, tAt (by omega) (by omega), rfl, _, rfl, ite2 (fun e3 => A ⟨di e2, V.str.inj (of_decide_eq_true e3)⟩) (fun e3 => B fun c => e3 (decide_eq_true (congrArg V.str c.2)))⟩) (fun e2 => B fun c => dn e2 c.1)⟩) (fun c2 => ?_) (fun c2 => ?_)
    · refine ⟨by show 1 ≤ sizeLine; decide, fun e ne => fin .go H1 e ?_ ?_ e0len e0sg (shr_of (allV (sOk (by decide +kernel)) allN)) h1 b1 ne⟩
      · show ts.getLast? = _
        have g := mText_get (ts := ts) (t := (ts.length : Int) - 1) (by omega) (by omega)
        rw [List.getLast?_eq_getElem?, ← c2.2, ← g]
        congr 1
        omega
      · show (chs ts).dropLast.length ≤ 8
        rw [List.length_dropLast, cl]
        omega
    try dsimp only [tNext, tSeq, tAsg, gName, tDrop]
    refine ⟨.ref p, rfl, .int ts.length, rfl, p, _, rfl, by omega, by omega, lh, h1, fun t H2 t0 t1 h2 b2 => ?_⟩
    have b12 := b1.trans b2
    have ha2 := ha.but hH b12
    have ltx := tx_le ha.len t0 t1
    try dsimp only [tNext, tSeq, tAsg, gName, tDrop]
    refine ⟨.ref a, rfl, .int t, rfl, a, _, t, .str (mText ts t), rfl, rfl, SqT.of ha2.at_, tAt t0 t1, ?_⟩
    try dsimp only [tNext, tSeq, tAsg, gName, tDrop]
    refine tIfS_of (kk = 2 ∧ (ts.length : Int) < 8) (fun tb te D A B => ⟨.int kk, rfl, rfl, _, rfl, ite2 (fun e2 => ⟨.int ts.length, rfl, _, _, rfl, rfl, _, rfl, ite2 (fun e3 => A ⟨di e2, dt e3⟩) (fun e3 => B fun c => df e3 c.2)⟩) (fun e2 => B fun c => dn e2 c.1)⟩) (fun c3 => ?_) (fun c3 => ?_)
    · refine ⟨.int t, rfl, .ref p, rfl, .str (mText ts t), rfl, _, rfl, len5 (Nat.le_trans ltx (by decide)), _, _, rfl, rfl, p, _, rfl, by omega, by omega, lh, h2, fun at_ H3 p0 p1 h3 b3 => ⟨by show 3 ≤ sizeLine; decide, fun e ne => fin (.split t at_) H3 e ⟨t0, t1, p0, by omega⟩ ?_ e0len e0sg (shr_of (allV (sOk (by decide +kernel)) (allV (iOk _) (allV (iOk _) allN)))) h3 (b12.trans b3) ne⟩⟩
      show ((chs ts).set _ _ ++ [_]).length ≤ 8
      rw [List.length_append, List.length_set, cl]
      show ts.length + 1 ≤ 8
      omega
    try dsimp only [tNext, tSeq, tAsg, gName, tDrop]
    refine tIfS_of (kk = 3 ∧ (ts.length : Int) > 1) (fun tb te D A B => ⟨.int kk, rfl, rfl, _, rfl, ite2 (fun e2 => ⟨.int ts.length, rfl, _, _, rfl, rfl, _, rfl, ite2 (fun e3 => A ⟨di e2, dt e3⟩) (fun e3 => B fun c => df e3 c.2)⟩) (fun e2 => B fun c => dn e2 c.1)⟩) (fun c4 => ?_) (fun c4 => ?_)
    · refine ⟨.int t, rfl, .int t, rfl, _, _, rfl, rfl, .ref p, rfl, .int ts.length, rfl, _, _, rfl, rfl, p, _, rfl, by omega, by omega, lh, h2, fun d H3 d0 d1 h3 b3 => ⟨_, _, rfl, rfl, .inl ⟨_, rfl, .int ts.length, rfl, _, _, rfl, rfl, by show (0 : Int) < _; omega, by show 3 ≤ sizeLine; decide, fun e ne => ?_⟩⟩⟩
      have u0 := Int.emod_nonneg (t + 1 + d) (show (ts.length : Int) ≠ 0 by omega)
      have u1 := Int.emod_lt_of_pos (t + 1 + d) (show (0 : Int) < (ts.length : Int) by omega)
      have un : t ≠ (t + 1 + d) % (ts.length : Int) := fun w => by
        by_cases lt : t + 1 + d < ts.length
        · rw [Int.emod_eq_of_lt (by omega) lt] at w
          omega
        · have e2 : (t + 1 + d) % (ts.length : Int) = (t + 1 + d - ts.length) % (ts.length : Int) := (Int.sub_emod_right _ _).symm
          rw [e2, Int.emod_eq_of_lt (by omega) (by omega)] at w
          omega
      refine fin (.join t ((t + 1 + d) % (ts.length : Int))) H3 e ⟨t0, t1, u0, u1, un⟩ ?_ e0len e0sg (shr_of (allV (sOk (by decide +kernel)) (allV (iOk _) (allV (iOk _) allN)))) h3 (b12.trans b3) ne
      show (((chs ts).set _ _).set _ _).length ≤ 8
      rw [List.length_set, List.length_set, cl]
      exact few
    try dsimp only [tNext, tSeq, tAsg, gName, tDrop]
    refine tIfS_of (((mText ts t).length : Int) = 0 ∨ kk > 6) (fun tb te D A B => ⟨.str (mText ts t), rfl, _, rfl, len5 (Nat.le_trans ltx (by decide)), rfl, _, rfl, ite2 (fun e2 => A (.inl (di e2))) (fun e2 => ⟨.int kk, rfl, _, _, rfl, rfl, _, rfl, ite2 (fun e3 => A (.inr (dt e3))) (fun e3 => B fun c => c.elim (dn e2) (df e3))⟩)⟩) (fun c5 => ?_) (fun c5 => ?_)
    · refine ⟨.int t, rfl, .ref p, rfl, .str (mText ts t), rfl, _, rfl, len5 (Nat.le_trans ltx (by decide)), _, _, rfl, rfl, p, _, rfl, by omega, by omega, lh, h2, fun at_ H3 p0 p1 h3 b3 => ⟨.ref p, rfl, p, 6, rfl, by decide, by decide, lh, h3, fun y H4 sy ly ly1 h4 b4 => ⟨by show 4 ≤ sizeLine; decide, fun e ne => fin (.put t at_ y) H4 e ⟨t0, t1, word_of sy ly1, p0, by omega⟩ ?_ (by show y.length ≤ 9; omega) sy (shr_of (allV (sOk (by decide +kernel)) (allV (iOk _) (allV (iOk _) (allV (zOk sy (by omega)) allN))))) h4 ((b12.trans b3).trans b4) ne⟩⟩⟩
      show ((chs ts).set _ _).length ≤ 8
      rw [List.length_set, cl]
      exact few
    try dsimp only [tNext, tSeq, tAsg, gName, tDrop]
    refine ⟨.ref p, rfl, .str (mText ts t), rfl, _, rfl, len5 (Nat.le_trans ltx (by decide)), p, _, rfl, by omega, by omega, lh, h2, fun at_ H3 p0 p1 h3 b3 => ?_⟩
    have b13 := b12.trans b3
    try dsimp only [tNext, tSeq, tAsg, gName, tDrop]
    refine ⟨.ref p, rfl, .str (mText ts t), rfl, _, rfl, len5 (Nat.le_trans ltx (by decide)), .int at_, rfl, _, _, rfl, rfl, _, _, rfl, p, _, rfl, ?_, ?_, lh, h3, fun d H4 d0 d1 h4 b4 => ⟨_, _, rfl, rfl, ?_⟩⟩
    · split <;> omega
    · split <;> omega
    have dd : 1 + d ≤ 9 ∧ at_ + (1 + d) ≤ (mText ts t).length := by
      split at d1 <;> omega
    have b14 := b13.trans b4
    have ha4 := ha.but hH b14
    clear d1 h1 h2 h3 b1 b2 b3 b4 b12 b13 ha1 ha2 hH
    have l1 : 1 ≤ (1 + d) := by omega
    try dsimp only [tNext, tSeq, tAsg, gName, tDrop]
    refine ⟨.int kk, rfl, _, _, rfl, rfl, _, rfl, ite2 (fun c6 => ?_) (fun c6 => ?_)⟩
    · refine ⟨.int t, rfl, .int at_, rfl, .int (1 + d), rfl, by show 4 ≤ sizeLine; decide, fun e ne => fin (.cut t at_ (1 + d)) H4 e ⟨t0, t1, p0, l1, dd.2⟩ ?_ e0len e0sg (shr_of (allV (sOk (by decide +kernel)) (allV (iOk _) (allV (iOk _) (allV (iOk _) allN))))) h4 b14 ne⟩
      show ((chs ts).set _ _).length ≤ 8
      rw [List.length_set, cl]
      exact few
    try dsimp only [tNext, tSeq, tAsg, gName, tDrop]
    refine ⟨.int kk, rfl, rfl, _, rfl, ite2 (fun c7 => ?_) (fun c7 => ?_)⟩
    · refine ⟨.int t, rfl, .int at_, rfl, ⟨_, rfl⟩, _, rfl, (1 + d), rfl, by omega, by omega, fun D nD => lc_range (fun i H' => ∃ cs : List Nat, H' D = some (.lst (cs.map fun c => V.str (SX.S [c]))) ∧ cs.length = i ∧ (∀ c ∈ cs, sgC c = true) ∧ Hn p lh H4 H') ⟨[], upd_same, rfl, fun c hc => absurd hc (by simp), (Hn.refl h4).new nD⟩ ?_ ?_⟩
      · rintro i H' hi ⟨cs, hD, hl, hs, hn⟩
        refine ⟨rfl, .ref p, rfl, p, 0, rfl, by decide, by decide, lh, hn.at_, fun c H2 hc h2 b2 => ?_⟩
        have nDp := (h4.ne nD).1
        refine ⟨_, b2 _ _ nDp hD, ?_, cs ++ [c], ?_, ?_, ?_, (hn.go h2 b2).at h4 nD⟩
        · rw [List.length_map, hl, sizeLine_eq]
          omega
        · rw [upd_same, List.map_append]
          rfl
        · rw [List.length_append, hl]
          rfl
        · intro d hd
          rcases List.mem_append.mp hd with g | g
          · exact hs d g
          · rw [List.mem_singleton.mp g]
            exact hc
      · rintro H' ⟨cs, hD, hl, hs, hn⟩
        have e1 : (cs.map fun c => V.str (SX.S [c])) = (cs.map fun c => SX.S [c]).map V.str := by rw [List.map_map]; rfl
        have hln : (cs.length : Int) ≤ (1 + d) := by omega
        have hsum := sum_one cs
        have sj : sgB (SX.S cs) = true := by rw [sgB_S]; exact List.all_eq_true.mpr hs
        have lj : (SX.S cs).length = cs.length := rfl
        refine ⟨_, D, cs.map (fun c => SX.S [c]), rfl, rfl, .inl (sq_of (e1 ▸ hD)), ?_, ?_⟩
        · rw [List.length_map]
          have : (Str.ofString "").length = 0 := by decide +kernel
          rw [this]
          omega
        · rw [join1]
          refine ⟨by show 4 ≤ sizeLine; decide, fun e ne => fin (.change t at_ (SX.S cs)) H' e ⟨word_of sj (by omega), t0, t1, p0, by omega⟩ ?_ (by show (SX.S cs).length ≤ 9; omega) sj (shr_of (allV (sOk (by decide +kernel)) (allV (iOk _) (allV (iOk _) (allV (zOk sj (by omega)) allN))))) hn.at_ (b14.trans hn.but) ne⟩
          show ((chs ts).set _ _).length ≤ 8
          rw [List.length_set, cl]
          exact few
    try dsimp only [tNext, tSeq, tAsg, gName, tDrop]
    refine ⟨.ref p, rfl, .int ts.length, rfl, p, _, rfl, by omega, by omega, lh, h4, fun u H5 u0 u1 h5 b5 => ?_⟩
    have b15 := b14.trans b5
    have ha5 := ha4.but h4 b5
    have lux := tx_le ha.len u0 u1
    try dsimp only [tNext, tSeq, tAsg, gName, tDrop]
    refine ⟨.ref a, rfl, .int u, rfl, a, _, u, .str (mText ts u), rfl, rfl, SqT.of ha5.at_, tAt u0 u1, _, rfl, len5 (Nat.le_trans lux (by decide)), ?_⟩
    try dsimp only [tNext, tSeq, tAsg, gName, tDrop]
    have mv : ∀ (v : Int) H' e, 0 ≤ v → v < ((mText ts u).length : Int) - (1 + d) * (if u = t then 1 else 0) + 1 → HandL H' p lh → But p H H' → H' e = none → Q (.ref e) (upd H' e (.tup (Ed.move t at_ (1 + d) u v).vals)) := fun v H' e v0 v1 h b ne => by
      refine fin (.move t at_ (1 + d) u v) H' e ⟨t0, t1, p0, l1, dd.2, u0, u1, v0, by omega⟩ ?_ e0len e0sg (shr_of (allV (sOk (by decide +kernel)) (allV (iOk _) (allV (iOk _) (allV (iOk _) (allV (iOk _) (allV (iOk _) allN))))))) h b ne
      show (((chs ts).set _ _).set _ _).length ≤ 8
      rw [List.length_set, List.length_set, cl]
      exact few
    refine ⟨.int u, rfl, .int t, rfl, rfl, _, rfl, ite2 (fun c8 => ?_) (fun c8 => ?_)⟩
    · have eu := di c8
      rw [if_pos eu] at mv
      subst eu
      refine ⟨_, rfl, .int (1 + d), rfl, _, _, rfl, rfl, ?_⟩
      try dsimp only [tNext, tSeq, tAsg, gName, tDrop]
      exact ⟨.int u, rfl, .int at_, rfl, .int (1 + d), rfl, .int u, rfl, .ref p, rfl, _, rfl, _, _, rfl, rfl, p, _, rfl, by omega, by omega, lh, h5, fun v H6 v0 v1 h6 b6 => ⟨by show 6 ≤ sizeLine; decide, fun e ne => mv v H6 e v0 (by omega) h6 (b15.trans b6) ne⟩⟩
    · rw [if_neg (dn c8)] at mv
      try dsimp only [tNext, tSeq, tAsg, gName, tDrop]
      exact ⟨.int t, rfl, .int at_, rfl, .int (1 + d), rfl, .int u, rfl, .ref p, rfl, _, rfl, _, _, rfl, rfl, p, _, rfl, by omega, by omega, lh, h5, fun v H6 v0 v1 h6 b6 => ⟨by show 6 ≤ sizeLine; decide, fun e ne => mv v H6 e v0 (by omega) h6 (b15.trans b6) ne⟩⟩
end
end LawK
set_option maxHeartbeats 4000000
namespace LawK
open PySem PySem.Spec PyProof.Rows L2 Ev
theorem all2_at {α β : Type} {R : α → β → Prop} : ∀ {xs : List α} {ys : List β}, xs.length = ys.length → (∀ (i : Nat) x y, xs[i]? = some x → ys[i]? = some y → R x y) → All2 R xs ys
  | [], [], _, _ => .nil
  | x :: xs, y :: ys, h, f => .cons (f 0 x y rfl rfl) (all2_at (by simpa using h) fun i a b ha hb => f (i + 1) a b (by simpa using ha) (by simpa using hb))
def OP (ts : List Str) (ed : Ed) (H : Hp) (v : V) (g : Pl) : Prop := ∃ c a b, v = .ref c ∧ H c = some (.tup [a, b]) ∧ PO H a (bk ts ed g) ∧ PAt H b g
theorem OP.same {ts : List Str} {ed : Ed} {H H' : Hp} {v : V} {g : Pl} (k : Same H H') (h : OP ts ed H v g) : OP ts ed H' v g := let ⟨c, a, b, e, h1, h2, h3⟩ := h; ⟨c, a, b, e, k _ _ h1, h2.same k, h3.same k⟩
theorem PO.put {H : Hp} {D : Addr} {o o' : HO} (hD : H D = some o) (n : ∀ xs, o ≠ .tup xs) {v : V} : ∀ {q : Option Pl}, PO H v q → PO (upd H D o') v q
  | none, h => h
  | some p, h => PAt.put hD n h
theorem OP.put {ts : List Str} {ed : Ed} {H : Hp} {D : Addr} {o o' : HO} (hD : H D = some o) (n : ∀ xs, o ≠ .tup xs) {v : V} {g : Pl} (h : OP ts ed H v g) : OP ts ed (upd H D o') v g := by
  obtain ⟨c, a, b, e, h1, h2, h3⟩ := h
  exact ⟨c, a, b, e, by rw [upd_ne fun z => by rw [z, hD] at h1; cases h1; exact n _ rfl]; exact h1, h2.put hD n, h3.put hD n⟩
def bkL (ts us : List Str) (ed : Ed) : List (Pl × Pl) := (pl us).filterMap fun g => (bk ts ed g).map fun p => (p, g)
def spLTaken : Sp := fun vs H Q _ => ∃ (a e : Addr) (ts us : List Str) (ed : Ed), vs = [.ref a, .ref e] ∧ TsAt H a ts ∧ EdOf H e ts ed us ∧ ∀ D vs H', Same H H' → H D = none → H' D = some (.lst vs) → All2 (PP H') vs (bkL ts us ed) → Q (.ref D) H'
structure TagR (H : Hp) (D : Addr) (ts : List Str) (rs : List Addr) : Prop where
  at_ : ∀ j r, rs[j]? = some r → r ≠ D ∧ ∃ vs, H r = some (.lst vs) ∧ All2 (PAt H) vs (row ts j)
theorem TagR.same {H H' : Hp} {D : Addr} {ts : List Str} {rs : List Addr} (k : Same H H') (h : TagR H D ts rs) : TagR H' D ts rs := ⟨fun j r e => let ⟨n, vs, h1, h2⟩ := h.at_ j r e; ⟨n, vs, k _ _ h1, h2.imp fun _ _ q => q.same k⟩⟩
theorem TagR.put {H : Hp} {D : Addr} {ts : List Str} {rs : List Addr} {xs ys : List V} (hD : H D = some (.lst xs)) (h : TagR H D ts rs) : TagR (upd H D (.lst ys)) D ts rs := ⟨fun j r e => let ⟨n, vs, h1, h2⟩ := h.at_ j r e; ⟨n, vs, (upd_ne n).trans h1, h2.imp fun _ _ q => q.put hD fun _ z => by cases z⟩⟩
theorem TagR.snoc {H : Hp} {D r : Addr} {ts : List Str} {rs : List Addr} {vs : List V} (h : TagR H D ts rs) (n : r ≠ D) (hr : H r = some (.lst vs)) (hv : All2 (PAt H) vs (row ts rs.length)) : TagR H D ts (rs ++ [r]) := ⟨fun j q e => by
  by_cases l : j < rs.length
  · rw [List.getElem?_append_left l] at e
    exact h.at_ j q e
  · rw [List.getElem?_append_right (by omega)] at e
    have : j - rs.length = 0 := by
      cases z : j - rs.length with
      | zero => rfl
      | succ m => rw [z] at e; simp at e
    have e2 : j = rs.length := by omega
    subst e2
    rw [Nat.sub_self] at e
    cases e
    exact ⟨n, vs, hr, hv⟩⟩
/-- the rows of tags, as values -/
theorem TagR.tags {H : Hp} {D : Addr} {ts : List Str} {rs : List Addr} (h : TagR H D ts rs) (hl : rs.length = ts.length) : ∃ VR, All2 (RowI H) (rs.map V.ref) VR ∧ Tags H VR ts := by
  have hc : ∀ i, i < rs.length → ∃ vs, ∃ r, rs[i]? = some r ∧ H r = some (.lst vs) ∧ All2 (PAt H) vs (row ts i) := fun i hi => by
    obtain ⟨-, vs, h1, h2⟩ := h.at_ i _ (List.getElem?_eq_getElem hi)
    exact ⟨vs, _, List.getElem?_eq_getElem hi, h1, h2⟩
  let f : Nat → List V := fun i => if hi : i < rs.length then (hc i hi).choose else []
  have hf : ∀ i, i < rs.length → ∃ r, rs[i]? = some r ∧ H r = some (.lst (f i)) ∧ All2 (PAt H) (f i) (row ts i) := fun i hi => by
    have := (hc i hi).choose_spec
    show ∃ r, _ ∧ H r = some (.lst (dite _ _ _)) ∧ All2 _ (dite _ _ _) _
    rw [dif_pos hi]
    exact this
  refine ⟨(List.range rs.length).map f, ?_, ⟨⟨by rw [List.length_map, List.length_range]; exact hl, fun t t0 t1 => ?_⟩, fun x b v hv => ?_⟩⟩
  · refine all2_at (by rw [List.length_map, List.length_map, List.length_range]) fun i x y hx hy => ?_
    rw [List.getElem?_map] at hx hy
    obtain ⟨r, hr, rfl⟩ := Option.map_eq_some_iff.mp hx
    obtain ⟨j, hj, rfl⟩ := Option.map_eq_some_iff.mp hy
    have hi := (List.getElem?_eq_some_iff.mp hr).1
    rw [List.getElem?_range hi] at hj
    cases hj
    obtain ⟨r2, e, h1, -⟩ := hf i hi
    rw [hr] at e
    cases e
    exact .inl ⟨r, rfl, h1⟩
  · have hi : t.toNat < rs.length := by omega
    obtain ⟨-, -, -, h2⟩ := hf _ hi
    have := h2.len
    rw [rw_of (R := (List.range rs.length).map f) (r := f t.toNat) (by rw [List.getElem?_map, List.getElem?_range hi]; rfl), this]
    unfold row
    rw [List.length_map, List.length_range]
    rfl
  · unfold el at hv
    split at hv
    · rename_i hh
      obtain ⟨r, hr, hb⟩ := Option.bind_eq_some_iff.mp hv
      rw [List.getElem?_map] at hr
      obtain ⟨j, hj, rfl⟩ := Option.map_eq_some_iff.mp hr
      have hi : x.toNat < rs.length := by
        have := (List.getElem?_eq_some_iff.mp hj).1
        rw [List.length_range] at this
        exact this
      rw [List.getElem?_range hi] at hj
      cases hj
      obtain ⟨-, -, -, h2⟩ := hf _ hi
      obtain ⟨p, hp, c, rfl, hc⟩ := h2.at hb
      unfold row at hp
      rw [List.getElem?_map] at hp
      obtain ⟨k, hk, rfl⟩ := Option.map_eq_some_iff.mp hp
      have hl2 := (List.getElem?_eq_some_iff.mp hk).1
      rw [List.length_range] at hl2
      rw [List.getElem?_range hl2] at hk
      cases hk
      refine ⟨c, rfl, ?_⟩
      rw [hc]
      show some (HO.tup [.int ((x.toNat : Nat) : Int), .int ((b.toNat : Nat) : Int)]) = _
      rw [show ((x.toNat : Nat) : Int) = x by omega, show ((b.toNat : Nat) : Int) = b by omega]
    · cases hv
theorem flat_rep (k : Nat) : (List.replicate k [V.non]).flatten = List.replicate k V.non := by
  induction k with
  | zero => rfl
  | succ k ih => rw [List.replicate_succ, List.flatten_cons, ih]; rfl
theorem el_nat {α : Type} {R : List (List α)} {i j : Nat} {r : List α} (h : R[i]? = some r) : el R (i : Int) (j : Int) = r[j]? := by
  unfold el
  rw [if_pos ⟨by omega, by omega⟩, show ((i : Int)).toNat = i from rfl, show ((j : Int)).toNat = j from rfl, h]
  rfl
theorem fitN {α : Type} {R : List (List α)} {ts : List Str} (h : Fit R ts) {i : Nat} (hi : i < ts.length) : ∃ r, R[i]? = some r ∧ r.length = (tx ts i).length := by
  have h1 := rw_at (R := R) (t := (i : Int)) (by omega) (by rw [h.len]; omega)
  have h2 := h.row (i : Int) (by omega) (by omega)
  exact ⟨_, h1, h2⟩
section
variable {P : Program} {w : World} {K : PySem.W.Frag} {mg : Str → Option Value} {base : Heap}
abbrev sLTaken : Stmt := topS 56
theorem scLTaken : FnScope ["texts", "edit", "rows", "number", "found", "later", "at", "pair"] ["texts", "edit"] (defScope sLTaken) := ⟨rfl, rfl, rfl, by decide +kernel, rfl, by decide +kernel, by decide +kernel⟩
theorem ok_LTaken {f : Addr} {fd : FuncData} (F : Fun K "_law_taken" "_law_taken" sLTaken f fd)  {fAdded : Addr} {fdAdded : FuncData} (DAdded : Dk P w K mg base "_law_added" sAdded ["edit"] 1 spAdded fAdded fdAdded) {fLBehind : Addr} {fdLBehind : FuncData} (DLBehind : Dk P w K mg base "_law_behind" sLBehind ["rows", "edit", "added"] 1 spLBehind fLBehind fdLBehind) (T : Glob mg) : FnOk P w K mg base CX0 2 f fd ["texts", "edit"] spLTaken := by
  refine F.ok scLTaken (fun vs H Q E h => ?_) (fun cdv A outer s H vs Q E hr h => ?_)
  · obtain ⟨a, e, ts, us, ed, rfl, _⟩ := h
    rfl
  · refine ⟨_, (pss_cons (ps_set (i := 2) scLTaken.nd rfl (.inl rfl) (pe_lst pa_nil))
      (pss_cons (ps_for PassesOwn.never rfl (pi_range1 (by rfl) T.range (pa_cons (pe_callB call_len_seq (by rfl) T.len PySem.boot_len (pa_cons (pv 0) pa_nil)) pa_nil)) (pg_name (i := 3) scLTaken.nd rfl (.inr rfl))
      (pss_one (ps_expr (pe_bm PySem.F.plainAttrs_list PySem.F.slot_list_append PySem.F.type_list_append mt_append (pv 2) (pa_cons (pe_lc (own := [("at", 6)]) (g := gName 6) (by rfl) scLTaken.nd (pi_range1 (by rfl) T.range (pa_cons (pe_callB call_lenZ (by rfl) T.len PySem.boot_len (pa_cons (pe_ix ix_tup (pv 0) (pv 3) (fun _ _ => rfl)) pa_nil)) pa_nil)) (blkOk_by (N := ["texts", "edit", "rows", "number", "found", "later", "at", "pair"]) (sc := defScope sLTaken) (by decide +kernel)) (fun _ _ _ _ _ => pg_name (i := 6) scLTaken.nd rfl (.inl rfl)) (fun _ _ _ _ _ => pts_nil) (fun _ _ _ _ _ => (pe_tup (pa_cons (pv 3) (pa_cons (pv 6) pa_nil))))) pa_nil)))))
      (pss_cons (ps_set (i := 4) scLTaken.nd rfl (.inl rfl) (pe_lst pa_nil))
      (pss_cons (ps_set (i := 5) scLTaken.nd rfl (.inr rfl) (pe_call DLBehind.ok (hr.mono (by decide)) (by rfl) DLBehind.g DLBehind.F.kp DLBehind.b .nil pass0 (pa_cons (pv 2) (pa_cons (pv 1) (pa_cons (pe_op op_rep (pe_lst (pa_cons pe_non pa_nil)) (pe_callB call_lenZ (by rfl) T.len PySem.boot_len (pa_cons (pe_call DAdded.ok (hr.mono (by decide)) (by rfl) DAdded.g DAdded.F.kp DAdded.b .nil pass0 (pa_cons (pv 1) pa_nil)) pa_nil))) pa_nil)))))
      (pss_cons (ps_for PassesOwn.never rfl (pi_range1 (by rfl) T.range (pa_cons (pe_callB call_len_seq (by rfl) T.len PySem.boot_len (pa_cons (pv 5) pa_nil)) pa_nil)) (pg_name (i := 3) scLTaken.nd rfl (.inr rfl))
      (pss_one (ps_set (i := 4) scLTaken.nd rfl (.inl rfl) (pe_op op_cat (pv 4) (pe_lc (own := [("at", 6)]) (g := gName 6) (by rfl) scLTaken.nd (pi_range1 (by rfl) T.range (pa_cons (pe_callB call_len_seq (by rfl) T.len PySem.boot_len (pa_cons (pe_ix ix_list (pv 5) (pv 3) (fun _ _ => rfl)) pa_nil)) pa_nil)) (blkOk_by (N := ["texts", "edit", "rows", "number", "found", "later", "at", "pair"]) (sc := defScope sLTaken) (by decide +kernel)) (fun _ _ _ _ _ => pg_name (i := 6) scLTaken.nd rfl (.inl rfl)) (fun _ _ _ _ _ => pts_nil) (fun _ _ _ _ _ => (pe_tup (pa_cons (pe_ix (r := rIxL K) ix_list (pe_ix (r := rIxL K) ix_list (pv 5) (pv 3) (fun _ _ => rfl)) (pv 6) (fun _ _ => rfl)) (pa_cons (pe_tup (pa_cons (pv 3) (pa_cons (pv 6) pa_nil))) pa_nil)))))))))
      (pss_one (ps_ret (pe_lc (own := [("pair", 7)]) (g := gName 7) (by rfl) scLTaken.nd (pi_list (pv 4)) (blkOk_by (N := ["texts", "edit", "rows", "number", "found", "later", "at", "pair"]) (sc := defScope sLTaken) (by decide +kernel)) (fun _ _ _ _ _ => pg_name (i := 7) scLTaken.nd rfl (.inl rfl)) (fun _ _ _ _ _ => (pts_one (pt_cmpR op_notN (pe_ix (r := rIxT K) ix_tup (pv 7) pe_int (fun _ _ => rfl)) pe_non (nomark _)))) (fun _ _ _ _ _ => (pv 7)))))))))), ?_⟩
    obtain ⟨a, e, ts, us, ed, rfl, ht, he, q⟩ := h
    have lm : (ts.map V.str).length = ts.length := List.length_map ..
    have few8 := ht.few
    refine ⟨by show 0 ≤ sizeLine; decide, fun D nD => ?_⟩
    try dsimp only [tNext, tSeq, tAsg, gName, tDrop]
    refine ⟨.ref a, rfl, a, _, rfl, .inr (SqT.of ((Same.new nD) _ _ ht.at_)), _, rfl, by omega, by omega, for_range (fun i σ H' => ∃ (x y : Option V) (rs : List Addr), σ = [some (.ref a), some (.ref e), some (.ref D), x, none, none, y, none] ∧ rs.length = i ∧ (∀ b o, b ≠ D → H b = some o → H' b = some o) ∧ H' D = some (.lst (rs.map V.ref)) ∧ TagR H' D ts rs) ⟨_, _, [], rfl, rfl, fun b o nb h => (upd_ne nb).trans h, upd_same, ⟨fun j r e => by simp at e⟩⟩ ?_ ?_⟩
    · rintro i σ H1 hi ⟨x, y, rs, rfl, hl, k1, hD, ht1⟩
      rw [lm] at hi
      have hi : i < ts.length := by omega
      have ln1 : (tx ts i).length ≤ 200 := tx_len ht.len i
      have e0 : (0 + (i : Int)) = (i : Nat) := by omega
      rw [e0]
      have naD : a ≠ D := fun z => by have h := ht.at_; rw [z, nD] at h; cases h
      have ha1 := k1 _ _ naD ht.at_
      refine ⟨.ref D, rfl, .inl ⟨rfl, _, sq_of hD⟩, .ref a, rfl, .int (i : Nat), rfl, a, _, _, _, rfl, rfl, SqT.of ha1, atI_nat (tx_at hi), _, rfl, len5 (by omega), _, rfl, by omega, by omega, fun O nO => lc_range (fun j H' => Same H1 H' ∧ ∃ vs, H' O = some (.lst vs) ∧ All2 (PAt H') vs ((List.range j).map (fun k => (i, k)))) ⟨Same.new nO, [], upd_same, .nil⟩ ?_ ?_⟩
      · rintro j H2 hj ⟨k2, vs, hO, hv⟩
        have hj2 : j < (tx ts i).length := by omega
        refine ⟨rfl, _, rfl, _, rfl, by show 2 ≤ sizeLine; decide, fun b nb => ⟨vs, (Same.new nb) _ _ hO, ?_, sameAt (k2.trans (Same.new nb)) nO, vs ++ [.ref b], upd_same, ?_⟩⟩
        · have z1 := hv.len
          rw [List.length_map, List.length_range] at z1
          have h3 : sizeLine = 16777216 := sizeLine_eq
          omega
        · rw [row_take ts i j hj2]
          have kb := Same.new (H := H2) (o := .tup [.int (i : Nat), .int (0 + (j : Int))]) nb
          have hs2 := All2.snoc (hv.imp fun _ _ r => PAt.same kb r) (y := ((i, j) : Pl)) (show PAt _ (.ref b) _ from ⟨b, rfl, by rw [upd_same, show (0 + (j : Int)) = (j : Nat) by omega]⟩)
          exact hs2.imp fun _ _ r => r.put (kb _ _ hO) fun _ z => by cases z
      · rintro H2 ⟨k2, vs, hO, hv⟩
        have e : (List.range (((tx ts i).length : Nat) : Int).toNat).map (fun k => ((i, k) : Pl)) = row ts i := by
          unfold row
          rw [show (((tx ts i).length : Nat) : Int).toNat = (tx ts i).length by omega]
        rw [e] at hv
        have hD2 := k2 _ _ hD
        have nOD : O ≠ D := fun z => by rw [z, hD] at nO; cases nO
        refine ⟨D, _, _, rfl, rfl, hD2, by rw [List.length_map, sizeLine_eq]; omega, _, _, rs ++ [O], rfl, by rw [List.length_append, hl]; rfl, fun b o nb h => (upd_ne nb).trans (k2 _ _ (k1 _ _ nb h)), by rw [upd_same, List.map_append]; rfl, ?_⟩
        exact ((ht1.same k2).snoc nOD hO (by rw [hl]; exact hv)).put hD2
    rintro σ H1 ⟨x, y, rs, rfl, hl, k1, hD, ht1⟩
    have hl : rs.length = ts.length := by rw [hl]; omega
    have k01 : Same H H1 := fun b o h => k1 b o (ne_of_none h nD) h
    obtain ⟨VR, hVR, hT⟩ := ht1.tags hl
    clear ht1 k1
    try dsimp only [tNext, tSeq, tAsg, gName, tDrop]
    refine ⟨by show 0 ≤ sizeLine; decide, fun F nF => ?_⟩
    have kF := Same.new (o := .lst []) nF
    try dsimp only [tNext, tSeq, tAsg, gName, tDrop]
    have he2 := (he.same k01).same kF
    have lfr := fresh_len he.ld
    refine ⟨.ref D, rfl, .ref e, rfl, by show 1 ≤ sizeLine; decide, fun O1 nO1 => ⟨.ref e, rfl, e, ed, rfl, (Same.new nO1) _ _ he2.at_, fun H3 k3 => ⟨ed.fresh, rfl, by rw [sizeLine_eq]; omega, O1, _, _, rfl, rfl, k3 _ _ upd_same, by omega, by omega, ?_, fun O2 nO2 => ?_⟩⟩⟩
    · show [V.non].length * _ ≤ _
      rw [sizeLine_eq, List.length_singleton]
      omega
    have kO1 := Same.new (H := upd H1 F (.lst [])) (o := .lst [V.non]) nO1
    have kO := (kO1.trans k3).trans (Same.new (o := .lst (List.replicate ((ed.fresh.length : Nat) : Int).toNat [V.non]).flatten) nO2)
    have kFO := kF.trans kO
    have hF := kO _ _ ((show upd H1 F (.lst []) F = some (.lst []) from upd_same))
    have hfl : (List.replicate ((ed.fresh.length : Nat) : Int).toNat [V.non]).flatten = List.replicate ed.fresh.length V.non := by
      rw [flat_rep]
      rfl
    have hO2 : upd H3 O2 (.lst (List.replicate ((ed.fresh.length : Nat) : Int).toNat [V.non]).flatten) O2 = some (.lst (List.replicate ed.fresh.length V.non)) := by rw [upd_same, hfl]
    have hD2 := kFO _ _ hD
    have hVR2 := hVR.imp fun _ _ r => RowI.same kFO r
    have hT2 := hT.same kFO
    have he3 := he2.same kO
    have k02 := k01.trans kFO
    generalize upd H3 O2 (.lst (List.replicate ((ed.fresh.length : Nat) : Int).toNat [V.non]).flatten) = H4 at hF hO2 hD2 hVR2 hT2 he3 k02 kO kFO ⊢
    refine ⟨D, e, O2, ts, ed, VR, _, rfl, ⟨_, .inl hD2, hVR2⟩, he3.at_, hO2, hT2.fit, he.ld.fits, ht.few, ht.len, by rw [List.length_replicate]; exact lfr, fun t p z ee => by subst ee; exact List.length_replicate .., fun o H5 no ⟨rs2, hO, hrs⟩ k5 => ?_⟩
    have fitA := after_fit he.ld.fits he.ld.to hT2.fit (fr := List.replicate ed.fresh.length V.non) (List.length_replicate ..)
    have back : ∀ {x b : Int} {v : V}, el (mAfter VR (List.replicate ed.fresh.length V.non) ed) x b = some v → PrAt H4 v (mTakenOn (mAhead ts ed) (x, b)) := fun h => tags_back he.ld.fits he.ld.to hT2 (List.length_replicate ..) (fun v hv => (List.mem_replicate.mp hv).2) h
    have k05 := k02.trans k5
    have hF5 := k5 _ _ hF
    have g8 := he.ld.good
    clear kO1 kO kFO hD2 hVR2 hVR hT hO2 he2 hD kF k01 hfl k02
    generalize mAfter VR (List.replicate ed.fresh.length V.non) ed = VA at fitA back hrs
    have lrs : rs2.length = us.length := by rw [hrs.len, fitA.len]
    have fewu := g8.few
    have lm2 : (rs2.map V.ref).length = us.length := by rw [List.length_map]; exact lrs
    try dsimp only [tNext, tSeq, tAsg, gName, tDrop]
    refine ⟨.ref o, rfl, o, _, rfl, .inl (sq_of hO), _, rfl, by omega, by omega, for_range (fun i σ H' => ∃ (x y : Option V) (G : Addr) (ws : List V), σ = [some (.ref a), some (.ref e), some (.ref D), x, some (.ref G), some (.ref o), y, none] ∧ Same H5 H' ∧ H' G = some (.lst ws) ∧ All2 (OP ts ed H') ws (plN us i)) ⟨_, _, F, [], rfl, Same.refl _, hF5, .nil⟩ ?_ ?_⟩
    · rintro i σ H6 hi ⟨x, y, G, ws, rfl, k6, hG, hws⟩
      rw [List.length_map] at hi
      have hi : i < us.length := by omega
      have ln1 : (tx us i).length ≤ 200 := tx_len g8.len i
      have e0 : (0 + (i : Int)) = (i : Nat) := by omega
      rw [e0]
      obtain ⟨rw0, hrw, lrw⟩ := fitN fitA hi
      have hir : i < rs2.length := by omega
      have hr0 := List.getElem?_eq_getElem hir
      obtain ⟨nr, hr⟩ := hrs.at_ i _ _ hr0 hrw
      generalize rs2[i] = r at hr0 hr nr
      have hO6 := k6 _ _ hO
      have hr6 := k6 _ _ hr
      have ai : atI (rs2.map V.ref) ((i : Nat) : Int) = some (.ref r) := atI_nat (by rw [List.getElem?_map, hr0]; rfl)
      refine ⟨.ref G, rfl, .ref o, rfl, .int (i : Nat), rfl, o, _, _, .ref r, rfl, rfl, sq_of hO6, ai, r, _, rfl, .inl (sq_of hr6), _, rfl, by omega, by omega, fun L nL => lc_range (fun j H' => Same H6 H' ∧ ∃ vs, H' L = some (.lst vs) ∧ All2 (OP ts ed H') vs ((List.range j).map (fun k => (i, k)))) ⟨Same.new nL, [], upd_same, .nil⟩ ?_ ?_⟩
      · rintro j H7 hj ⟨k7, vs, hL, hv⟩
        have hj2 : j < (tx us i).length := by omega
        have k67 := k6.trans k7
        have hrj := List.getElem?_eq_getElem (l := rw0) (i := j) (by omega)
        have e1 : (0 + (j : Int)) = (j : Nat) := by omega
        have pv0 := po_back he.ld (g := (i, j)) ⟨hi, hj2⟩ (back ((el_nat hrw).trans hrj))
        generalize rw0[j]'(by omega) = v at hrj pv0
        rw [e1]
        refine ⟨rfl, .ref o, rfl, .int (i : Nat), rfl, o, _, _, .ref r, rfl, rfl, sq_of (k7 _ _ hO6), ai, .int (j : Nat), rfl, r, _, _, v, rfl, rfl, sq_of (k7 _ _ hr6), atI_nat hrj, .int (i : Nat), rfl, .int (j : Nat), rfl, by show 2 ≤ sizeLine; decide, fun b nb => ⟨by show 2 ≤ sizeLine; decide, fun c nc => ⟨vs, ?_, ?_, ?_, vs ++ [.ref c], upd_same, ?_⟩⟩⟩
        · exact (Same.new nc) _ _ ((Same.new nb) _ _ hL)
        · have z1 := hv.len
          rw [List.length_map, List.length_range] at z1
          have h3 : sizeLine = 16777216 := sizeLine_eq
          omega
        · exact sameAt (k7.trans ((Same.new nb).trans (Same.new nc))) nL
        · rw [row_take us i j hj2]
          have kb := (Same.new (H := H7) (o := .tup [.int (i : Nat), .int (j : Nat)]) nb)
          have kc := Same.new (o := .tup [v, .ref b]) nc
          have kbc := kb.trans kc
          have hs2 := All2.snoc (hv.imp fun _ _ r => OP.same kbc r) (y := ((i, j) : Pl)) (show OP ts ed _ (.ref c) _ from ⟨c, v, .ref b, rfl, upd_same, pv0.same ((k5.trans k67).trans kbc), b, rfl, kc _ _ upd_same⟩)
          exact hs2.imp fun _ _ r => r.put (kbc _ _ hL) fun _ z => by cases z
      · rintro H7 ⟨k7, vs, hL, hv⟩
        have e : (List.range ((rw0.length : Nat) : Int).toNat).map (fun k => ((i, k) : Pl)) = row us i := by
          unfold row
          rw [show ((rw0.length : Nat) : Int).toNat = (tx us i).length by omega]
        rw [e] at hv
        refine ⟨G, L, ws, vs, rfl, rfl, k7 _ _ hG, hL, ?_, fun M nM => ?_⟩
        · rw [hws.len, hv.len]
          have z2 := plN_len g8.len i
          have : (row us i).length = (tx us i).length := by unfold row; rw [List.length_map, List.length_range]
          have h3 : sizeLine = 16777216 := sizeLine_eq
          omega
        · refine ⟨_, _, M, ws ++ vs, rfl, (k6.trans k7).trans (Same.new nM), upd_same, ?_⟩
          rw [plN_succ]
          have ks : Same H7 (upd H7 M (.lst (ws ++ vs))) := Same.new nM
          exact (hws.imp fun _ _ r => r.same (k7.trans ks)).app (hv.imp fun _ _ r => r.same ks)
    rintro σ H6 ⟨x, y, G, ws, rfl, k6, hG, hws⟩
    rw [show ((((rs2.map V.ref).length : Nat) : Int)).toNat = us.length by rw [List.length_map]; omega] at hws
    try dsimp only [tNext, tSeq, tAsg, gName, tDrop]
    refine ⟨.ref G, rfl, G, rfl, ⟨_, sq_of hG⟩, fun L nL => lc_list (xs := ws) (fun i H' => Same H6 H' ∧ ∃ vs, H' L = some (.lst vs) ∧ All2 (PP H') vs (((pl us).take i).filterMap fun g => (bk ts ed g).map fun p => (p, g))) ⟨Same.new nL, [], upd_same, .nil⟩ (fun i H' _ w => sq_of (w.1 _ _ hG)) ?_ ?_⟩
    · rintro i x H7 hx ⟨k7, vs, hL, hv⟩
      obtain ⟨g, eg, c, u, v, rfl, hc, hu, hv2⟩ := hws.at hx
      have eg : (pl us)[i]? = some g := eg
      have nx : ∀ z : List (Pl × Pl), ((bk ts ed g).map fun p => (p, g)).toList = z → ((pl us).take (i + 1)).filterMap (fun g => (bk ts ed g).map fun p => (p, g)) = ((pl us).take i).filterMap (fun g => (bk ts ed g).map fun p => (p, g)) ++ z := fun z hz => by
        rw [take_snoc eg, List.filterMap_append, ← hz]
        simp only [List.filterMap_cons, List.filterMap_nil]
        cases (bk ts ed g).map fun p => (p, g) <;> rfl
      have hc7 := k7 _ _ hc
      have hu7 := hu.same k7
      have hv7 := hv2.same k7
      have few : (pl us).length ≤ 1600 := by
        have := plN_len g8.len us.length
        show (plN us us.length).length ≤ 1600
        omega
      have lf : (((pl us).take i).filterMap fun g => (bk ts ed g).map fun p => (p, g)).length ≤ 1600 := by
        refine Nat.le_trans (List.length_filterMap_le _ _) ?_
        rw [List.length_take]
        omega
      have lv := hv.len
      cases eb : bk ts ed g with
      | none =>
        rw [eb] at nx hu7
        cases hu7
        refine ⟨rfl, .ref c, rfl, c, _, 0, .non, rfl, rfl, SqT.of hc7, rfl, rfl, _, rfl, iteF ⟨k7, vs, hL, ?_⟩⟩
        rw [nx [] rfl, List.append_nil]
        exact hv
      | some p =>
        rw [eb] at nx hu7
        obtain ⟨b, rfl, hb⟩ := hu7
        refine ⟨rfl, .ref c, rfl, c, _, 0, .ref b, rfl, rfl, SqT.of hc7, rfl, rfl, _, rfl, iteT ⟨_, rfl, vs, hL, by rw [sizeLine_eq]; omega, sameAt k7 nL, vs ++ [.ref c], upd_same, ?_⟩⟩
        rw [nx _ rfl]
        have hs2 := All2.snoc hv (y := ((p, g) : Pl × Pl)) (show PP H7 (.ref c) _ from ⟨c, .ref b, v, rfl, hc7, ⟨b, rfl, hb⟩, hv7⟩)
        exact hs2.imp fun _ _ r => r.put hL fun _ z => by cases z
    · rintro H7 ⟨k7, vs, hL, hv⟩
      rw [hws.len] at hv
      have e3 : (pl us).take (plN us us.length).length = pl us := List.take_length
      rw [e3] at hv
      exact q L vs H7 ((k05.trans k6).trans k7) (Same.free (k05.trans k6) nL) hL hv
end
end LawK
set_option maxHeartbeats 4000000
/-! The index of a pair of numbers in a list of such pairs. -/
namespace Ev
open PySem PySem.Spec PyProof.Rows L2
def pI (p : Int × Int) : PyData := .tuple [.int p.1, .int p.2]
def rIxP (K : PySem.W.Frag) : V → List V → Hp → VK → Prop := fun x xs H Q => ∃ (a : Addr) (vs : List V) (ps : List (Int × Int)) (y : V) (p : Int × Int), x = .ref a ∧ xs = [y] ∧ SqL K H a vs ∧ DpAll K H vs (ps.map pI) ∧ Dp K H y (pI p) ∧ p ∈ ps ∧ ps.length ≤ sizeLine ∧ Q (.int ((@List.idxOf _ instBEqOfDecidableEq p ps : Nat) : Int)) H
section
variable {X : Cx}
theorem mt_indexP (hu : X.A.units + 64 < cLine) : MtR X "list.index" (rIxP X.K) := by
  intro pins s σ H x xs v us Q I rx rxs h
  obtain ⟨a, vs, ps, y, p, rfl, rfl, hs, hd, hy, hm, hn, q⟩ := h
  cases rx
  obtain ⟨u, rfl, ru⟩ := rxs.one
  obtain ⟨its, rv, hl, hz⟩ := I.list hs
  obtain ⟨as, ra⟩ := Dp.readsAll I _ _ _ hd rv
  obtain ⟨bs, rb⟩ := Dp.reads I _ _ _ hy ru
  exact PySem.W.index_list_datum (α := Int × Int) (xs := ps) (x := p) hl.isList ⟨as, ra⟩ ⟨bs, rb⟩ (by show X.A.units + 1 + 1 < cLine; omega) hn hm ⟨.int _, H, I.tok _, ⟨s.toks, rfl⟩, q⟩
end
end Ev
set_option maxHeartbeats 4000000
namespace LawK
open PySem PySem.Spec PyProof.Rows L2 Ev
theorem hu64 {X : Cx} {k : Nat} (hr : Room k X.A) : X.A.units + 64 < cLine := hr.units
theorem bkL_mem {ts us : List Str} {ed : Ed} {x : Pl × Pl} : x ∈ bkL ts us ed ↔ InT us x.2 ∧ bk ts ed x.2 = some x.1 := by
  unfold bkL
  rw [List.mem_filterMap]
  constructor
  · rintro ⟨g, hg, h⟩
    obtain ⟨p, hp, rfl⟩ := Option.map_eq_some_iff.mp h
    exact ⟨pl_mem.mp hg, hp⟩
  · rintro ⟨h1, h2⟩
    exact ⟨x.2, pl_mem.mpr h1, by rw [h2]; rfl⟩
theorem bk_inj {ts us : List Str} {ed : Ed} (ld : Ldg ts ed us) {g h p : Pl} (hg : InT us g) (hh : InT us h) (e1 : bk ts ed g = some p) (e2 : bk ts ed h = some p) : g = h := by
  have a := (bk_on ld hg e1).2.2
  have b := (bk_on ld hh e2).2.2
  rw [a] at b
  exact Option.some.inj b
theorem bkL_once {ts us : List Str} {ed : Ed} (ld : Ldg ts ed us) : ((bkL ts us ed).map Prod.fst).Nodup := by
  unfold bkL
  rw [List.map_filterMap]
  refine List.pairwise_filterMap.mpr ?_
  refine List.Pairwise.imp_of_mem ?_ (pl_nd us)
  intro g h hg hh ne p hp r hr e
  obtain ⟨x, hx, rfl⟩ := Option.map_eq_some_iff.mp hp
  obtain ⟨y, hy, rfl⟩ := Option.map_eq_some_iff.mp hr
  obtain ⟨a, ha, rfl⟩ := Option.map_eq_some_iff.mp hx
  obtain ⟨b, hb, rfl⟩ := Option.map_eq_some_iff.mp hy
  have e : a = b := e
  subst e
  exact ne (bk_inj ld (pl_mem.mp hg) (pl_mem.mp hh) ha hb)
theorem fst_once {L : List (Pl × Pl)} (nd : (L.map Prod.fst).Nodup) {i : Nat} {x : Pl × Pl} (h : L[i]? = some x) : ∀ y ∈ L.take i, y.1 ≠ x.1 := fun y hy e => by
  obtain ⟨j, hj, ej⟩ := List.mem_iff_getElem.mp hy
  rw [List.length_take] at hj
  rw [List.getElem_take] at ej
  obtain ⟨hi, e2⟩ := List.getElem?_eq_some_iff.mp h
  have := List.pairwise_iff_getElem.mp nd j i (by rw [List.length_map]; omega) (by rw [List.length_map]; omega) (by omega)
  rw [List.getElem_map, List.getElem_map, ej, e2] at this
  exact this e
theorem bkL_get {R : V → Pl → Prop} {ts us : List Str} {ed : Ed} (ld : Ldg ts ed us) {kvs : List (List Key × V)} (d : DT R kvs (bkL ts us ed)) {p : Pl} (hp : InT ts p) : (∃ g v, tk ts ed p = some g ∧ valV kvs (kk p) = some v ∧ R v g) ∨ (tk ts ed p = none ∧ valV kvs (kk p) = none) := by
  rcases d.get p with ⟨g, v, hm, hv, r⟩ | ⟨hn, hv⟩
  · have := bkL_mem.mp hm
    exact .inl ⟨g, v, (bk_on ld this.1 this.2).2.2, hv, r⟩
  · refine .inr ⟨?_, hv⟩
    cases e : tk ts ed p with
    | none => rfl
    | some g =>
      obtain ⟨-, h2, h3⟩ := tk_on ld hp e
      exact absurd rfl (hn (p, g) (bkL_mem.mpr ⟨h2, h3⟩))
theorem bkL_len {ts us : List Str} {ed : Ed} (few : us.length ≤ 8) (len : ∀ t ∈ us, t.length ≤ 200) : (bkL ts us ed).length ≤ 1600 := by
  refine Nat.le_trans (List.length_filterMap_le _ _) ?_
  have := plN_len len us.length
  show (plN us us.length).length ≤ 1600
  omega
/-- the places that stay, in their order -/
def styL (ts : List Str) (ed : Ed) : List Pl := (ord ts).filter fun p => (tk ts ed p).isSome
def rkG (ts us : List Str) (ed : Ed) (p : Pl) : Nat := ((tk ts ed p).map (rk us)).getD 0
def spRanked : Sp := fun vs H Q _ => ∃ (a e : Addr) (ts us : List Str) (ed : Ed), vs = [.ref a, .ref e] ∧ TsAt H a ts ∧ EdOf H e ts ed us ∧ ∀ c A B vs H', Same H H' → H' c = some (.tup [.ref A, .ref B]) → H' A = some (.lst vs) → All2 (PAt H') vs (styL ts ed) → H' B = some (.lst ((styL ts ed).map fun p => V.int ((rkG ts us ed p : Nat) : Int))) → Q (.ref c) H'
def cI (p : Pl) : Int × Int := (((p.1 : Nat) : Int), ((p.2 : Nat) : Int))
theorem cI_inj {p q : Pl} (h : cI p = cI q) : p = q := by
  unfold cI at h
  injection h with h1 h2
  exact Prod.ext (Int.ofNat.inj h1) (Int.ofNat.inj h2)
theorem dp_pI {K : PySem.W.Frag} {H : Hp} {v : V} {p : Pl} (h : PAt H v p) : Dp K H v (pI (cI p)) := by
  obtain ⟨b, rfl, e⟩ := h
  exact .tup (SqT.of e) (.cons (.int _) (.cons (.int _) .nil))
theorem dps_pI {K : PySem.W.Frag} {H : Hp} {vs : List V} {ps : List Pl} (h : All2 (PAt H) vs ps) : DpAll K H vs ((ps.map cI).map pI) := by
  induction h with
  | nil => exact .nil
  | cons r _ ih => exact .cons (dp_pI r) ih
theorem idx_cI {ps : List Pl} (nd : ps.Nodup) {i : Nat} {p : Pl} (h : ps[i]? = some p) : @List.idxOf _ instBEqOfDecidableEq (cI p) (ps.map cI) = i := by
  obtain ⟨l, e⟩ := List.getElem?_eq_some_iff.mp h
  have nd2 : (ps.map cI).Nodup := List.pairwise_map.mpr (nd.imp fun {a b} n e => n (cI_inj e))
  have l2 : i < (ps.map cI).length := by rw [List.length_map]; exact l
  have e2 : (ps.map cI)[i] = cI p := by rw [List.getElem_map, e]
  rw [← e2]
  exact @List.Nodup.idxOf_getElem _ instBEqOfDecidableEq _ _ nd2 i l2
section
variable {P : Program} {w : World} {K : PySem.W.Frag} {mg : Str → Option Value} {base : Heap}
abbrev sRanked : Stmt := topS 57
theorem scRanked : FnScope ["texts", "edit", "later", "goals", "place", "goal", "stays"] ["texts", "edit"] (defScope sRanked) := ⟨rfl, rfl, rfl, by decide +kernel, rfl, by decide +kernel, by decide +kernel⟩
theorem ok_Ranked {f : Addr} {fd : FuncData} (F : Fun K "_law_ranked" "_law_ranked" sRanked f fd)  {fTextsBehind : Addr} {fdTextsBehind : FuncData} (DTextsBehind : Dk P w K mg base "_law_texts_behind" sTextsBehind ["texts", "edit"] 2 spTxBehind fTextsBehind fdTextsBehind) {fOrder : Addr} {fdOrder : FuncData} (DOrder : Dk P w K mg base "_law_order" sOrder ["texts"] 1 spLOrder fOrder fdOrder) {fLTaken : Addr} {fdLTaken : FuncData} (DLTaken : Dk P w K mg base "_law_taken" sLTaken ["texts", "edit"] 2 spLTaken fLTaken fdLTaken) (T : Glob mg) : FnOk P w K mg base CX0 3 f fd ["texts", "edit"] spRanked := by
  refine F.ok scRanked (fun vs H Q E h => ?_) (fun cdv A outer s H vs Q E hr h => ?_)
  · obtain ⟨a, e, ts, us, ed, rfl, _⟩ := h
    rfl
  · refine ⟨_, (pss_cons (ps_set (i := 2) scRanked.nd rfl (.inr rfl) (pe_call DOrder.ok (hr.mono (by decide)) (by rfl) DOrder.g DOrder.F.kp DOrder.b .nil pass0 (pa_cons (pe_call DTextsBehind.ok (hr.mono (by decide)) (by rfl) DTextsBehind.g DTextsBehind.F.kp DTextsBehind.b .nil pass0 (pa_cons (pv 0) (pa_cons (pv 1) pa_nil))) pa_nil)))
      (pss_cons (ps_set (i := 3) scRanked.nd rfl (.inr rfl) pe_dnewT)
      (pss_cons (ps_for PassesOwn.never rfl (pi_list (pe_call DLTaken.ok (hr.mono (by decide)) (by rfl) DLTaken.g DLTaken.F.kp DLTaken.b .nil pass0 (pa_cons (pv 0) (pa_cons (pv 1) pa_nil)))) (pg_tup (by rfl) (pgs_cons (pg_name (i := 4) scRanked.nd rfl (.inl rfl)) (pgs_cons (pg_name (i := 5) scRanked.nd rfl (.inl rfl)) pgs_nil)))
      (pss_one (ps_asg (pv 5) (pg_sub (pv 3) (pv 4) (set_dict (hu_of hr))))))
      (pss_cons (ps_setLc (i := 6) (own := [("place", 4)]) (g := gName 4) (by rfl) scRanked.nd rfl rfl (sw_true rfl rfl rfl (by decide +kernel)) (pi_list (pe_call DOrder.ok (hr.mono (by decide)) (by rfl) DOrder.g DOrder.F.kp DOrder.b .nil pass0 (pa_cons (pv 0) pa_nil))) (blkOk_by (N := ["texts", "edit", "later", "goals", "place", "goal", "stays"]) (sc := defScope sRanked) (by decide +kernel)) (fun _ _ _ _ _ => pg_name (i := 4) scRanked.nd rfl (.inl rfl)) (fun _ _ _ _ _ => (pts_one (pt_cmp (pc_din (hu_of hr) (pv 4) (pv 3))))) (fun _ _ _ _ _ => (pv 4)))
      (pss_one (ps_ret (pe_tup (pa_cons (pv 6) (pa_cons (pe_lc (own := [("place", 4)]) (g := gName 4) (te := tBM K "list" (rIxP K) (tVar 2) (tCons (tDGet (tVar 3) (tVar 4)) tNil)) (by rfl) scRanked.nd (pi_list (pv 6)) (blkOk_by (N := ["texts", "edit", "later", "goals", "place", "goal", "stays"]) (sc := defScope sRanked) (by decide +kernel)) (fun _ _ _ _ _ => pg_name (i := 4) scRanked.nd rfl (.inl rfl)) (fun _ _ _ _ _ => pts_nil) (fun _ _ _ _ _ => (pe_bm (r := rIxP K) PySem.F.plainAttrs_list PySem.F.slot_list_index PySem.F.type_list_index (mt_indexP (hu64 hr)) (pv 2) (pa_cons (pe_dget (hu_of hr) (pv 3) (pv 4) (fun _ _ => rfl)) pa_nil)))) pa_nil))))))))), ?_⟩
    obtain ⟨a, e, ts, us, ed, rfl, ht, he, q⟩ := h
    refine ⟨.ref a, rfl, .ref e, rfl, a, e, ts, us, ed, rfl, ht, he, fun b H1 k1 nb hb => ⟨b, us, rfl, hb, fun O H2 k2 nO ⟨vs, hO, hvs⟩ => ?_⟩⟩
    have g8 := he.ld.good
    have k02 := k1.trans k2
    try dsimp only [tNext, tSeq, tAsg, gName, tDrop]
    intro d nd
    have kd := Same.new (H := H2) (o := .dT []) nd
    try dsimp only [tNext, tSeq, tAsg, gName, tDrop]
    refine ⟨.ref a, rfl, .ref e, rfl, a, e, ts, us, ed, rfl, (ht.same k02).same kd, (he.same k02).same kd, fun L vl H3 k3 nL hL hvl => ?_⟩
    have lbk := bkL_len (ed := ed) (ts := ts) g8.few g8.len
    refine ⟨L, rfl, ⟨_, sq_of hL⟩, for_list (xs := vl) (fun i σ H' => ∃ (u4 u5 : Option V) (kvs : List (List Key × V)), σ = [some (.ref a), some (.ref e), some (.ref O), some (.ref d), u4, u5, none] ∧ Same H2 H' ∧ H' d = some (.dT kvs) ∧ (∀ b xs, H3 b = some (.tup xs) → H' b = some (.tup xs)) ∧ (∀ b xs, H3 b = some (.lst xs) → H' b = some (.lst xs)) ∧ DT (PAt H') kvs ((bkL ts us ed).take i)) ⟨none, none, [], rfl, kd.trans k3, k3 _ _ upd_same, fun _ _ h => h, fun _ _ h => h, .nil⟩ (fun i σ H' _ g => by obtain ⟨_, _, _, _, _, _, _, k, _⟩ := g; exact sq_of (k _ _ hL)) ?_ ?_⟩
    · rintro i x σ H4 hx4 ⟨u4, u5, kvs, rfl, k4, hd, kt, kl, hdt⟩
      obtain ⟨z, hz, c, y1, y2, rfl, hc, p1, p2⟩ := hvl.at hx4
      obtain ⟨p, g⟩ := z
      obtain ⟨b1, rfl, hb1⟩ := p1
      obtain ⟨b2, rfl, hb2⟩ := p2
      have hc4 := kt _ _ hc
      have hb14 := kt _ _ hb1
      have hb24 := kt _ _ hb2
      have lk : kvs.length ≤ 1600 := by
        rw [hdt.len, List.length_take]
        omega
      refine ⟨c, _, rfl, SqT.of hc4, rfl, _, _, rfl, _, _, rfl, rfl, .ref b2, rfl, .ref d, rfl, .ref b1, rfl, d, _, rfl, DPut.t (k := kk p) hd hb14 (by rw [sizeLine_eq]; omega), ?_⟩
      have nod : ∀ xs, HO.dT kvs ≠ .tup xs := fun _ z => by cases z
      refine ⟨_, _, _, rfl, sameAt k4 nd, upd_same, fun c xs h => ?_, fun c xs h => ?_, ?_⟩
      · rw [upd_ne fun z => by rw [z] at h; have := kt _ _ h; rw [hd] at this; cases this]
        exact kt _ _ h
      · rw [upd_ne fun z => by rw [z] at h; have := kl _ _ h; rw [hd] at this; cases this]
        exact kl _ _ h
      · rw [take_snoc hz]
        exact DT.put (hdt.imp fun _ _ r => PAt.put hd nod r) (fst_once (bkL_once he.ld) hz) (PAt.put hd nod ⟨b2, rfl, hb24⟩)
    rintro σ H4 ⟨u4, u5, kvs, rfl, k4, hd, kt, kl, hdt⟩
    rw [hvl.len, List.take_length] at hdt
    have k04 := k02.trans k4
    have ht4 := ht.same k04
    have lo := ord_few ht.few ht.len
    have lou := ord_few g8.few g8.len
    try dsimp only [tNext, tSeq, tAsg, gName, tDrop]
    refine ⟨.ref a, rfl, a, ts, rfl, ht4, fun O2 H5 k5 nO2 ⟨vs2, hO2, hvs2⟩ => ⟨O2, rfl, ⟨_, sq_of hO2⟩, fun S nS => lc_list (xs := vs2) (fun i H' => Same H5 H' ∧ ∃ ws, H' S = some (.lst ws) ∧ All2 (PAt H') ws (((ord ts).take i).filter fun p => (tk ts ed p).isSome)) ⟨Same.new nS, [], upd_same, .nil⟩ (fun i H' _ w => sq_of (w.1 _ _ hO2)) ?_ ?_⟩⟩
    · rintro i x H6 hx ⟨k6, ws, hS, hws⟩
      obtain ⟨p, ep, b, rfl, hb⟩ := hvs2.at hx
      have ip := ord_mem.mp (List.mem_of_getElem? ep)
      have hb6 := k6 _ _ hb
      have hd6 := (k5.trans k6) _ _ hd
      have lw := hws.len
      have lf : (((ord ts).take i).filter fun p => (tk ts ed p).isSome).length ≤ 1600 := by
        refine Nat.le_trans (List.length_filter_le _ _) ?_
        rw [List.length_take]
        omega
      rcases bkL_get he.ld hdt ip with ⟨g, v, hg, hv, c, rfl, hc⟩ | ⟨hg, hv⟩
      · refine ⟨rfl, .ref b, rfl, .ref d, rfl, d, _, rfl, dget hd6 hb6 hv, _, rfl, iteT ⟨_, rfl, ws, hS, by rw [sizeLine_eq]; omega, sameAt k6 nS, ws ++ [.ref b], upd_same, ?_⟩⟩
        rw [take_snoc ep, List.filter_append, List.filter_cons, hg]
        have hs2 := All2.snoc hws (y := p) (show PAt H6 (.ref b) _ from ⟨b, rfl, hb6⟩)
        exact hs2.imp fun _ _ r => r.put hS fun _ z => by cases z
      · refine ⟨rfl, .ref b, rfl, .ref d, rfl, d, _, rfl, dget hd6 hb6 hv, _, rfl, iteF ⟨k6, ws, hS, ?_⟩⟩
        rw [take_snoc ep, List.filter_append, List.filter_cons, hg]
        show All2 _ _ (_ ++ [])
        rw [List.append_nil]
        exact hws
    rintro H6 ⟨k6, ws, hS, hws⟩
    rw [hvs2.len, List.take_length] at hws
    have hws : All2 (PAt H6) ws (styL ts ed) := hws
    have k56 := k5.trans k6
    have hd6 := k56 _ _ hd
    have hdt6 := hdt.imp fun _ _ r => PAt.same k56 r
    have k06 := k04.trans k56
    have hO6 := (k4.trans k56) _ _ hO
    have hvs6 := hvs.imp fun _ _ r => PAt.same (k4.trans k56) r
    have lsty : (styL ts ed).length ≤ 1600 := Nat.le_trans (List.length_filter_le _ _) lo
    try dsimp only [tNext, tSeq, tAsg, gName, tDrop]
    refine ⟨.ref S, rfl, .ref S, rfl, S, rfl, ⟨_, sq_of hS⟩, fun B nB => lc_list (xs := ws) (fun i H' => Same H6 H' ∧ H' B = some (.lst (((styL ts ed).take i).map fun p => V.int ((rkG ts us ed p : Nat) : Int)))) ⟨Same.new nB, upd_same⟩ (fun i H' _ w => sq_of (w.1 _ _ hS)) ?_ ?_⟩
    · rintro i x H7 hx ⟨k7, hB⟩
      obtain ⟨p, ep, b, rfl, hb⟩ := hws.at hx
      have mp := List.mem_of_getElem? ep
      have ip : InT ts p := ord_mem.mp (List.mem_filter.mp mp).1
      have sp : (tk ts ed p).isSome = true := (List.mem_filter.mp mp).2
      have hd7 := k7 _ _ hd6
      have hb7 := k7 _ _ hb
      rcases bkL_get he.ld hdt6 ip with ⟨g, v, hg, hv, c, rfl, hc⟩ | ⟨hg, hv⟩
      · have ig := (tk_on he.ld ip hg).2.1
        have mo := ord_mem.mpr ig
        obtain ⟨j, hj, ej⟩ := List.mem_iff_getElem.mp mo
        have ej2 : (ord us)[j]? = some g := by rw [List.getElem?_eq_getElem hj, ej]
        refine ⟨rfl, .ref O, rfl, .inl ⟨rfl, _, sq_of (k7 _ _ hO6)⟩, .ref d, rfl, .ref b, rfl, d, _, rfl, dget hd7 hb7 hv, O, vs, (ord us).map cI, .ref c, cI g, rfl, rfl, sq_of (k7 _ _ hO6), dps_pI (hvs6.imp fun _ _ r => r.same k7), dp_pI ⟨c, rfl, k7 _ _ hc⟩, List.mem_map.mpr ⟨_, mo, rfl⟩, by rw [List.length_map, sizeLine_eq]; omega, ?_⟩
        rw [idx_cI (ord_nd us) ej2]
        refine ⟨_, hB, by rw [List.length_map, List.length_take, sizeLine_eq]; omega, sameAt k7 nB, ?_⟩
        rw [upd_same, take_snoc ep, List.map_append]
        show _ = some (HO.lst (_ ++ [V.int ((rkG ts us ed p : Nat) : Int)]))
        unfold rkG
        rw [hg]
        show _ = some (HO.lst (_ ++ [V.int ((rk us g : Nat) : Int)]))
        rw [rk_at ej2]
      · rw [hg] at sp
        cases sp
    · rintro H7 ⟨k7, hB⟩
      rw [hws.len, List.take_length] at hB
      refine ⟨by show 2 ≤ sizeLine; decide, fun c nc => ?_⟩
      have kc := k7.trans (Same.new (o := .tup [.ref S, .ref B]) nc)
      exact q c S B ws _ (k06.trans kc) upd_same (kc _ _ hS) (hws.imp fun _ _ r => r.same kc) ((Same.new nc) _ _ hB)
end
end LawK
set_option maxHeartbeats 4000000
namespace LawK
open PySem PySem.Spec PyProof.Rows L2 Ev
def spBelow : Sp := fun vs H Q _ => ∃ (a : Addr) (x : Int) (L : List Int), vs = [.ref a, .int x] ∧ H a = some (.lst (L.map V.int)) ∧ L.Pairwise (· < ·) ∧ L.length ≤ 2000 ∧ Q (.int ((bel L x : Nat) : Int)) H
section
variable {P : Program} {w : World} {K : PySem.W.Frag} {mg : Str → Option Value} {base : Heap}
abbrev sQManyBelow : Stmt := topS 38
theorem scQManyBelow : FnScope ["numbers", "number", "low", "high", "middle"] ["numbers", "number"] (defScope sQManyBelow) := ⟨rfl, rfl, rfl, by decide +kernel, rfl, by decide +kernel, by decide +kernel⟩
theorem ok_QManyBelow {f : Addr} {fd : FuncData} (F : Fun K "_many_below" "_many_below" sQManyBelow f fd)   (T : Glob mg) : FnOk P w K mg base CX0 1 f fd ["numbers", "number"] spBelow := by
  refine F.ok scQManyBelow (fun vs H Q E h => ?_) (fun cdv A outer s H vs Q E hr h => ?_)
  · obtain ⟨a, x, L, rfl, _⟩ := h
    rfl
  · refine ⟨_, (pss_cons (ps_set (i := 2) scQManyBelow.nd rfl (.inl rfl) pe_int)
      (pss_cons (ps_set (i := 3) scQManyBelow.nd rfl (.inl rfl) (pe_callB call_len_seq (by rfl) T.len PySem.boot_len (pa_cons (pv 0) pa_nil)))
      (pss_cons (ps_while PassesOwn.never (pt_cmpR op_lt (pv 2) (pv 3) (nomark _))
      (pss_cons (ps_set (i := 4) scQManyBelow.nd rfl (.inl rfl) (pe_op op_fdiv (pe_op op_add (pv 2) (pv 3)) pe_int))
        (pss_one (ps_if (pt_cmpR op_lt (pe_ix ix_list (pv 0) (pv 4) (fun _ _ => rfl)) (pv 1) (nomark _))
        (pss_one (ps_set (i := 2) scQManyBelow.nd rfl (.inl rfl) (pe_op op_add (pv 4) pe_int)))
        (pss_one (ps_set (i := 3) scQManyBelow.nd rfl (.inl rfl) (pv 4)))))))
      (pss_one (ps_ret (pv 2)))))), ?_⟩
    obtain ⟨a, x, L, rfl, ha, asc, few, q⟩ := h
    have lm : (L.map V.int).length = L.length := List.length_map ..
    try dsimp only [tNext, tSeq, tAsg, gName, tDrop]
    refine ⟨.ref a, rfl, a, _, rfl, .inl (sq_of ha), ?_⟩
    try dsimp only [tNext, tSeq, tAsg, gName, tDrop]
    rw [lm]
    refine ⟨fun m σ H' => ∃ (lo hi : Nat) (mid : Option V), m = hi - lo ∧ σ = [some (.ref a), some (.int x), some (.int (lo : Nat)), some (.int (hi : Nat)), mid] ∧ lo ≤ bel L x ∧ bel L x ≤ hi ∧ hi ≤ L.length ∧ H' = H, ⟨_, 0, L.length, none, rfl, rfl, Nat.zero_le _, bel_le L x, Nat.le_refl _, rfl⟩, ?_⟩
    rintro m σ H' ⟨lo, hi, mid, rfl, rfl, b1, b2, b3, rfl⟩
    refine ⟨.int (lo : Nat), rfl, .int (hi : Nat), rfl, _, _, rfl, rfl, _, rfl, ite2 (fun c => ?_) (fun c => ?_)⟩
    · have c : lo < hi := by have := of_decide_eq_true c; omega
      refine ⟨_, fun σ' H' w => w, ?_⟩
      try dsimp only [tNext, tSeq, tAsg, gName, tDrop]
      refine ⟨.int (lo : Nat), rfl, .int (hi : Nat), rfl, _, _, rfl, rfl, _, _, rfl, rfl, ⟨by decide, by decide⟩, ?_⟩
      try dsimp only [tNext, tSeq, tAsg, gName, tDrop]
      obtain ⟨mi, em, m1, m2⟩ : ∃ mi : Nat, ((lo : Int) + (hi : Int)) / 2 = (mi : Nat) ∧ lo ≤ mi ∧ mi < hi := ⟨(lo + hi) / 2, by omega, by omega, by omega⟩
      rw [em]
      have hy := List.getElem?_eq_getElem (l := L) (i := mi) (by omega)
      generalize L[mi]'(by omega) = y at hy
      have lt := bel_iff asc x hy
      refine ⟨.ref a, rfl, .int (mi : Nat), rfl, a, _, _, .int y, rfl, rfl, sq_of ha, atI_nat (by rw [List.getElem?_map, hy]; rfl), .int x, rfl, _, _, rfl, rfl, _, rfl, ite2 (fun e => ?_) (fun e => ?_)⟩
      · have e := lt.mp (of_decide_eq_true e)
        refine ⟨_, rfl, _, _, rfl, rfl, _, ?_, mi + 1, hi, _, rfl, rfl, by omega, b2, b3, rfl⟩
        omega
      · have e : ¬ mi < bel L x := fun z => e (decide_eq_true (lt.mpr z))
        refine ⟨_, rfl, _, ?_, lo, mi, _, rfl, rfl, b1, by omega, by omega, rfl⟩
        omega
    · have c : ¬ lo < hi := fun z => c (decide_eq_true (by omega))
      have e : lo = bel L x := by omega
      subst e
      exact ⟨_, rfl, q⟩
end
end LawK
set_option maxHeartbeats 4000000
/-! xs[a:c] = ys, where c may lie behind the end of xs -/
namespace Ev
open PySem PySem.Spec PyProof.Rows L2
section
variable {prog : Program} {w : World} {A : Around} {E : Value → Shared → Prop} {s : Shared}
theorem cut_bounds {a c n : Nat} (ha : a ≤ n) : sliceBounds (some (a : Int)) (some (c : Int)) none n = ((a : Int), ((min c n : Nat) : Int), 1) := by
  rw [sliceBounds_plain]; show (((clipAt n (a : Int) : Nat) : Int), ((clipAt n (c : Int) : Nat) : Int), (1 : Int)) = _
  rw [clipAt_nat, clipAt_nat, Nat.min_eq_left ha]
set_option maxRecDepth 100000 in
theorem setItem_cut {l b sl : Addr} {its new : Array Value} {n n2 : Nat} {vl vu : Value} {a c : Nat} {Q : Unit → Shared → Prop}
    (e : s.heap.get? l = some { cls := .type "list", data := .seq its n }) (e2 : s.heap.get? b = some { cls := .type "list", data := .seq new n2 }) (ne : l ≠ b) (hs : s.heap.IsSliceOf sl vl vu .none)
    (pl : IsPart vl (some (a : Int))) (pu : IsPart vu (some (c : Int))) (ha : a ≤ its.size) (hac : a ≤ c) (hz : its.size + new.size ≤ sizeLine)
    (q : Q () { s with heap := s.heap.update l (Obj.mapSeq fun xs => xs.extract 0 a ++ new ++ xs.extract (min c its.size) xs.size) }) : wpAny (model prog w) A (setItem (.ref l) (.ref sl) (.ref b)) Q E s := by
  have Ll : s.heap.IsList l its := PySem.IsL.isList e; have Lb : s.heap.IsList b new := PySem.IsL.isList e2
  obtain ⟨os, h1, h2, h3⟩ := id hs
  have Ts : s.TypeIs (.ref sl) "slice" := ⟨os, h1, h2⟩; have st : ¬ ((rawPart none == rawInt 0) = true) := Bool.false_ne_true
  have sm : Builtin.List.listSameRef (.ref l) (.ref b) = false := by
    unfold Builtin.List.listSameRef; exact beq_eq_false_iff_ne.mpr ne
  have mxc : (max (a : Int) ((min c its.size : Nat) : Int)).toNat = min c its.size := by omega
  have z2 : ((fun xs : Array Value => xs.extract 0 a ++ new ++ xs.extract (min c its.size) xs.size) its).size ≤ sizeLine + 1 := by
    simp only [Array.size_append, Array.size_extract]; omega
  unfold setItem; try with_reducible refine wpAny_holding ?_
  first | refine wpAny_bind (wpAny_pure ?_) | skip
  refine wpAny_bind (wpAny_sequenceKey Ll.typeIs (by decide) ?_); refine wpAny_bind (wpAny_callSpecial?_slot (name := Str.ofString "__setitem__") Ll.typeIs slot_list_setitem (wpAny_call_entry slot_list_setitem Ll.typeIs entry_list_setitem ?_ (args_list_setitem _ _ _)))
  show wpAny _ _ (Builtin.List.listSubscript? (.ref sl) >>= _) _ _ s; refine wpAny_bind ?_
  unfold Builtin.List.listSubscript?; refine wpAny_bind (wpAny_specialOf Ts slice_no_index ?_); simp only [Option.isNone_none, if_true]
  refine wpAny_pure ?_; show wpAny _ _ (typeOf (.ref sl) >>= _) _ _ s; refine wpAny_bind (wpAny_typeOf Ts ?_)
  first | rw [if_neg (by decide)] | refine PySem.W.KFB.if_not (by decide) ?_
  rw [listSliceParts_eq]; refine wpAny_bind (wpAny_bind (wpAny_field h1 h3 (x := .none) rfl (wpAny_bind (wpAny_listPart .none ?_)))); rw [if_neg st]
  refine wpAny_bind (wpAny_field h1 h3 (x := vl) rfl (wpAny_bind (wpAny_listPart pl ?_))); refine wpAny_bind (wpAny_field h1 h3 (x := vu) rfl (wpAny_bind (wpAny_listPart pu (wpAny_pure ?_))))
  first | simp only [sm, Bool.false_eq_true, if_false] | refine PySem.W.KFB.if_not sm ?_
  refine wpAny_bind (m := Builtin.List.listAllItems (.ref b) "must assign iterable to extended slice") ?_; unfold Builtin.List.listAllItems; refine wpAny_bind (wpAny_typeOf Lb.typeIs ?_)
  first | refine PySem.W.KFB.if_so (by decide) ?_ | rw [if_pos (by decide)] | simp only [beq_self_eq_true, Bool.true_or, if_true]
  unfold Builtin.List.listItems; refine wpAny_bind (wpAny_seqItems e2 rfl (wpAny_pure ?_)); refine wpAny_bind (wpAny_bind (wpAny_seqItems e rfl (wpAny_pure ?_)))
  refine wpAny_bind (wpAny_of_eq ((sliceIndices_raw (some (a : Int)) (some (c : Int)) none its.size (by simp)).trans (congrArg (pure : Int × Int × Int → Sem (Int × Int × Int)) (cut_bounds ha))) ?_)
  show wpAny _ _ (if ((1 : Int) == 1) = true then _ else _) _ _ s; rw [if_pos (by decide)]; refine wpAny_bind (wpAny_rule ?_)
  first | simp only [notLongL hz, Bool.false_eq_true, if_false] | refine PySem.W.KFB.if_not (notLongL hz) ?_
  first | refine wpAny_bind (wpAny_pure ?_) | skip
  show wpAny _ _ (updateSeq l (fun xs => xs.extract 0 ((a : Int)).toNat ++ new ++ xs.extract (max (a : Int) ((min c its.size : Nat) : Int)).toNat xs.size) >>= _) _ _ s; rw [mxc, Int.toNat_natCast]
  refine wpAny_bind (wpAny_updateSeq (hz := Nat.le_trans (Nat.le_add_right _ _) hz) (_hz' := z2) e rfl ?_); refine wpAny_bind (wpAny_letGo ?_)
  first | exact wpAny_bind (wpAny_pure (wpAny_pure ⟨.none, rfl, wpAny_pure q⟩)) | exact wpAny_pure ⟨.none, rfl, wpAny_pure q⟩
end
section
variable {X : Cx}
/-- the items with those from a up to c put anew -/
def splV (xs ys : List V) (a c : Nat) : List V := xs.take a ++ ys ++ xs.drop (min c xs.length)
theorem set_cut {pins : List (Addr × Obj)} {s : Shared} {σ : L2.St} {H : Hp} {l b sl : Addr} {xs ys : List V} {a c : Nat} {vl vu : Value} {Q : Unit → Shared → Prop} (I : Inv X pins σ H s) (hH : H l = some (.lst xs)) (hB : H b = some (.lst ys)) (ne : l ≠ b)
    (hs : s.heap.IsSliceOf sl vl vu .none) (pl : IsPart vl (some (a : Int))) (pu : IsPart vu (some (c : Int))) (ha : a ≤ xs.length) (hac : a ≤ c) (hz : xs.length + ys.length ≤ sizeLine)
    (q : ∀ s', Inv X pins σ (upd H l (.lst (splV xs ys a c))) s' → Q () s') : wpAny (model X.prog X.w) X.A (setItem (.ref l) (.ref sl) (.ref b)) Q X.xe s := by
  obtain ⟨z, its, n, r, hl, e⟩ := I.lstM hH; obtain ⟨z2, its2, n2, r2, hl2, e2⟩ := I.lstM hB
  have n1 : its.length = xs.length := r.length.symm; have n3 : its2.length = ys.length := r2.length.symm
  refine setItem_cut (a := a) (c := c) e e2 ne hs pl pu (by rw [List.size_toArray]; omega) hac (by rw [List.size_toArray, List.size_toArray]; omega) (q _ ?_)
  refine I.lset (its' := its.take a ++ its2 ++ its.drop (min c xs.length)) (t' := s.toks) hH e ?_ (Vals.append (Vals.append (r.take _) r2) (r.drop _)) ?_
  · have ez : min c its.toArray.size = min c xs.length := by rw [List.size_toArray, n1]
    show its.toArray.extract 0 a ++ its2.toArray ++ its.toArray.extract (min c its.toArray.size) its.toArray.size = _; rw [ez]; exact splice_eq its its2 a (min c xs.length)
  · rw [splV, List.length_append, List.length_append, List.length_take, List.length_drop]; omega
/-- o[lo:hi] = a list -/
def gCut (to : TE) (tl th : TO) : TG := fun v σ H Q => to σ H fun x H1 => tl σ H1 fun l H2 => th σ H2 fun u H3 => ∃ (p b : Addr) (xs ys : List V) (a c : Nat), x = .ref p ∧ v = .ref b ∧ l = some (a : Int) ∧ u = some (c : Int) ∧ H3 p = some (.lst xs) ∧ H3 b = some (.lst ys) ∧ p ≠ b ∧ a ≤ xs.length ∧ a ≤ c ∧
  xs.length + ys.length ≤ sizeLine ∧ Q σ (upd H3 p (.lst (splV xs ys a c)))
theorem pg_cut {o : Expr} {lo hi : Option Expr} {to : TE} {tl th : TO} {pos p2 : Pos} (ho : PE X o to) (hl : PO X lo tl) (hu : PO X hi th)
    (ha : ∀ v, assign (.Subscript o (.Slice lo hi none p2) pos) X.env v = (do let ov ← holding [v] (eval o X.env); let iv ← holding [v, ov] (eval (.Slice lo hi none p2) X.env); standAt pos; holding [v, ov, iv] (setItem ov iv v); release [iv, v, ov] []) := by intro _; rfl) :
    PG X (.Subscript o (.Slice lo hi none p2) pos) (gCut to tl th) := by
  refine ⟨fun pins s σ H v u Q I r h => ?_⟩
  rw [ha]
  refine wpAny_bind (wpAny_holding (thn (ho.run pins s σ H _ I h) fun ov s1 ⟨x, H1, I1, r1, q1⟩ => ?_))
  refine wpAny_bind (wpAny_holding (wpAny_Slice (thn (hl.run pins s1 σ H1 _ I1 q1) fun vl s2 ⟨l, H2, I2, pl, q2⟩ => thn (hu.run pins s2 σ H2 _ I2 q2) fun vu s3 ⟨u2, H3, I3, pu, q3⟩ => ?_)))
  rw [evalPart_none]; refine wpAny_pure ?_
  obtain ⟨p, b, xs, ys, a, c, rfl, rfl, rfl, rfl, hp, hb, ne, la, lc, lz, q⟩ := q3
  have I4 : Inv X pins σ H3 { s3 with heap := s3.heap.push { cls := .type "slice", data := .fields #[vl, vu, .none] } } := I3.kept (t' := s3.toks) fun b ob q => Heap.get?_push_of_some _ q
  cases r1; cases r
  refine wpAny_bind (wpAny_standAt (wpAny_bind (wpAny_holding ?_)))
  exact set_cut I4 hp hb ne (Heap.IsSliceOf.new ..) pl pu la lc lz fun s5 I5 => wpAny_release ⟨σ, _, I5, q⟩
end
end Ev
set_option maxHeartbeats 4000000
/-! xs[::-1] of a list. -/
namespace Ev
open PySem PySem.Spec PyProof.Rows L2
theorem pick_all {α : Type} (its : List α) (d : α) : ∀ l : List Nat, (∀ i ∈ l, i < its.length) → l.filterMap (its.toArray[·]?) = l.map fun i => its.getD i d
  | [], _ => rfl
  | i :: l, h => by
    have hi := h i (List.mem_cons_self ..)
    have e : its.toArray[i]? = some (its.getD i d) := by
      rw [List.getElem?_toArray, List.getD_eq_getElem?_getD, List.getElem?_eq_getElem hi]
      rfl
    rw [List.filterMap_cons, e, List.map_cons, pick_all its d l fun j hj => h j (List.mem_cons_of_mem _ hj)]
theorem rev_get {α : Type} (its : List α) (d : α) : ((List.range its.length).map fun k => its.getD (its.length - 1 - k) d) = its.reverse := by
  apply List.ext_getElem?
  intro i
  rw [List.getElem?_map]
  by_cases h : i < its.length
  · rw [List.getElem?_range h, List.getElem?_reverse h]
    show some (its.getD (its.length - 1 - i) d) = its[its.length - 1 - i]?
    rw [List.getD_eq_getElem?_getD, List.getElem?_eq_getElem (show its.length - 1 - i < its.length by omega)]
    rfl
  · rw [List.getElem?_eq_none (by rw [List.length_range]; omega), List.getElem?_eq_none (by rw [List.length_reverse]; omega)]
    rfl
theorem rev_bounds (n : Nat) : sliceRange (sliceBounds none none (some (-1)) n).1 (sliceBounds none none (some (-1)) n).2.1 (sliceBounds none none (some (-1)) n).2.2 = (List.range n).map fun k => n - 1 - k := by
  have g : ¬ ((-1 : Int) > 0) := by decide
  unfold sliceRange sliceBounds
  simp only [Option.getD_some, g, if_false]
  have c : (if (n : Int) - 1 > -1 then ((n : Int) - 1 - -1 - -1 - 1) / (- -1) else 0).toNat = n := by
    by_cases h : (n : Int) - 1 > -1
    · rw [if_pos h, show (- -1 : Int) = 1 from rfl, Int.ediv_one]
      omega
    · rw [if_neg h]
      omega
  rw [c]
  refine List.map_congr_left fun k hk => ?_
  have hk := List.mem_range.mp hk
  omega
theorem pick_revL (its : List Value) : slicePick its.toArray none none (some (-1)) = its.reverse.toArray := by
  unfold slicePick
  rw [show its.toArray.size = its.length from List.size_toArray .., rev_bounds, pick_all its .none _ (fun i hi => by
    obtain ⟨k, hk, rfl⟩ := List.mem_map.mp hi
    have := List.mem_range.mp hk
    omega), List.map_map]
  exact congrArg List.toArray (rev_get its .none)
def tRevL (K : PySem.W.Frag) (te : TE) : TE := fun σ H Q => te σ H fun x H1 => ∃ (a : Addr) (xs : List V), x = .ref a ∧ SqL K H1 a xs ∧ ∀ q, H1 q = none → Q (.ref q) (upd H1 q (.lst xs.reverse))
theorem pe_revL {X : Cx} {e : Expr} {te : TE} {k : Nat} {p1 p2 p3 pos : Pos} (he : PE X e te) :
    PE X (.Subscript e (.Slice none none (some (.UnaryOp .USub (.Constant (.int 1) k p1) p2)) p3) pos) (tRevL X.K te) := by
  constructor
  intro pins s σ H Q I h
  apply Subscript_
  refine thn (he.run pins s σ H _ I h) ?_
  rintro v s1 ⟨x, H1, I1, r1, a, xs, rfl, hq, q⟩
  obtain rfl : v = Value.ref a := r1
  have hst : PO X (some (.UnaryOp .USub (.Constant (.int 1) k p1) p2)) _ := po_some (pe_un un_neg pe_int)
  apply wpAny_Slice
  refine thn (po_none.run pins s1 σ H1 (fun o H2 => o = none ∧ H2 = H1) I1 ⟨rfl, rfl⟩) ?_
  rintro vl s2 ⟨l, H2, I2, pl, rfl, rfl⟩
  refine thn (po_none.run pins s2 σ _ (fun o H3 => o = none ∧ H3 = H2) I2 ⟨rfl, rfl⟩) ?_
  rintro vu s3 ⟨u, H3, I3, pu, rfl, rfl⟩
  refine thn (hst.run pins s3 σ _ (fun o H4 => o = some (-1) ∧ H4 = H3) I3 ⟨1, rfl, -1, rfl, rfl, rfl⟩) ?_
  rintro vs s4 ⟨o, H4, I4, pz, rfl, rfl⟩
  have I5 := I4.kept (t' := s4.toks) (h' := s4.heap.push { cls := .type "slice", data := .fields #[vl, vu, vs] }) fun b ob g => Heap.get?_push_of_some _ g
  obtain ⟨its, rv, p', hz⟩ := I5.list hq
  have hl := rv.length
  refine tail_any (ops := [.ref a, .ref s4.heap.objs.size]) p'.isList.typeIs F.slot_list_getitem.lookup ?_ (by with_unfolding_all rfl)
  refine wpAny_getItem_list_slice p'.isList (Heap.IsSliceOf.new ..) pl pu pz (by simp) ?_ (by rw [List.size_toArray]; omega)
  rw [pick_revL]
  refine ⟨.ref _, _, I5.laid (t' := s4.toks) (o := .lst xs.reverse) (fun b ob g => Heap.get?_push_of_some _ g) (Nat.le_refl _) ?_, rfl, q _ (I5.hok.fresh (Nat.le_refl _))⟩
  exact ⟨by rw [List.length_reverse]; exact hz, its.reverse, 0, rv.reverse, Heap.get?_push_size _ rfl⟩
end Ev
set_option maxHeartbeats 4000000
namespace LawK
open PySem PySem.Spec PyProof.Rows L2 Ev
def gOf (ns : List Int) (j : Nat) : Int := ns.getD j 0
theorem gOf_at {ns : List Int} {j : Nat} {y : Int} (h : ns[j]? = some y) : gOf ns j = y := by
  unfold gOf
  rw [List.getD_eq_getElem?_getD, h]
  rfl
def iJ (j : Nat) : V := .int (j : Nat)
def spRising : Sp := fun vs H Q _ => ∃ (a : Addr) (ns : List Int), vs = [.ref a] ∧ H a = some (.lst (ns.map V.int)) ∧ ns.length ≤ 1600 ∧ ∀ D ix H', Same H H' → H D = none → H' D = some (.lst (ix.map iJ)) → Rise (gOf ns) ns.length ix → ix.length = most (gOf ns) ns.length → Q (.ref D) H'
theorem spl_map {α : Type} (f : α → V) (L : List α) (m : Nat) (x : α) : (spl L m x).map f = Ev.splV (L.map f) [f x] m (m + 1) := by
  unfold spl Ev.splV
  rw [List.map_append, List.map_append, List.map_take, List.map_drop, List.length_map]
  congr 1
  by_cases h : m + 1 ≤ L.length
  · rw [Nat.min_eq_left h]
  · rw [Nat.min_eq_right (by omega), List.drop_of_length_le (by rw [List.length_map]; omega), List.drop_of_length_le (by rw [List.length_map]; omega)]
theorem laid_few {g : Nat → Int} {i : Nat} {least : List Int} {last : List Nat} {ahead : List (Option Nat)} (h : Laid g i least last ahead) : least.length ≤ i := by
  rw [← h.len]
  by_cases z : last.length ≤ i
  · exact z
  · have : last.length = LawK.most g i := h.top
    have l : LawK.most g i ≤ i := by
      unfold LawK.most
      refine mx_le.mpr fun x hx => ?_
      obtain ⟨j, hj, rfl⟩ := List.mem_map.mp hx
      have hj := List.mem_range.mp hj
      have : ∀ n j, j < n → fv g j ≤ j + 1 := fun n => by
        induction n with
        | zero => intro j h; exact absurd h (Nat.not_lt_zero _)
        | succ n ih =>
          intro j hj
          rw [fv_eq]
          have : mx (((List.range j).filter fun k => decide (g k < g j)).map (fv g)) ≤ j := mx_le.mpr fun x hx => by
            obtain ⟨k, hk, rfl⟩ := List.mem_map.mp hx
            have hk := List.mem_range.mp (List.mem_filter.mp hk).1
            have := ih k (by omega)
            omega
          omega
      have := this (j + 1) j (Nat.lt_succ_self _)
      omega
    omega
/-- all but three kept -/
def KP3 (A B C : Addr) (H H' : Hp) : Prop := ∀ c o, c ≠ A → c ≠ B → c ≠ C → H c = some o → H' c = some o
theorem KP3.same {A B C : Addr} {H H1 H2 : Hp} (h : KP3 A B C H H1) (k : Same H1 H2) : KP3 A B C H H2 := fun c o a b d e => k _ _ (h c o a b d e)
theorem KP3.put {A B C D : Addr} {H H1 : Hp} {o' : HO} (h : KP3 A B C H H1) (d : D = A ∨ D = B ∨ D = C) : KP3 A B C H (upd H1 D o') := fun c o a b e k => by
  rw [upd_ne (by rcases d with rfl | rfl | rfl <;> assumption)]
  exact h c o a b e k
theorem KP3.all {A B C : Addr} {H H1 : Hp} (h : KP3 A B C H H1) (a : H A = none) (b : H B = none) (c : H C = none) : Same H H1 := fun d o e => h d o (ne_of_none e a) (ne_of_none e b) (ne_of_none e c) e
theorem atI_end {l0 : Nat} {ls : List Nat} : atI ((l0 :: ls).map iJ) (-1) = some (iJ ((l0 :: ls)[(l0 :: ls).length - 1]'(by rw [List.length_cons]; omega))) := by
  have e : ixN ((l0 :: ls).map iJ).length (-1) = some ((l0 :: ls).length - 1) := by
    unfold ixN
    rw [List.length_map, if_neg (by omega)]
    rw [List.length_cons]
    first
      | (rw [if_pos (by omega)]; congr 1; omega)
      | (split <;> first | (congr 1; omega) | omega)
  unfold atI
  rw [e]
  show ((l0 :: ls).map iJ)[(l0 :: ls).length - 1]? = _
  rw [List.getElem?_map, List.getElem?_eq_getElem (by rw [List.length_cons]; omega)]
  rfl
section
variable {P : Program} {w : World} {K : PySem.W.Frag} {mg : Str → Option Value} {base : Heap}
abbrev sQRising : Stmt := topS 39
theorem scQRising : FnScope ["numbers", "least", "last", "ahead", "index", "number", "many", "found"] ["numbers"] (defScope sQRising) := ⟨rfl, rfl, rfl, by decide +kernel, rfl, by decide +kernel, by decide +kernel⟩
theorem ok_QRising {f : Addr} {fd : FuncData} (F : Fun K "_longest_rising" "_longest_rising" sQRising f fd)  {fQManyBelow : Addr} {fdQManyBelow : FuncData} (DQManyBelow : Dk P w K mg base "_many_below" sQManyBelow ["numbers", "number"] 1 spBelow fQManyBelow fdQManyBelow) (T : Glob mg) : FnOk P w K mg base CX0 2 f fd ["numbers"] spRising := by
  refine F.ok scQRising (fun vs H Q E h => ?_) (fun cdv A outer s H vs Q E hr h => ?_)
  · obtain ⟨a, ns, rfl, _⟩ := h
    rfl
  · refine ⟨_, (pss_cons (ps_set (i := 1) scQRising.nd rfl (.inl rfl) (pe_lst pa_nil))
      (pss_cons (ps_set (i := 2) scQRising.nd rfl (.inl rfl) (pe_lst pa_nil))
      (pss_cons (ps_set (i := 3) scQRising.nd rfl (.inl rfl) (pe_lst pa_nil))
      (pss_cons (ps_for PassesOwn.never rfl (pi_enum (by rfl) T.enumerate (pa_cons (pv 0) pa_nil)) (pg_tup (by rfl) (pgs_cons (pg_name (i := 4) scQRising.nd rfl (.inl rfl)) (pgs_cons (pg_name (i := 5) scQRising.nd rfl (.inl rfl)) pgs_nil)))
      (pss_cons (ps_set (i := 6) scQRising.nd rfl (.inl rfl) (pe_call DQManyBelow.ok (hr.mono (by decide)) (by rfl) DQManyBelow.g DQManyBelow.F.kp DQManyBelow.b .nil pass0 (pa_cons (pv 1) (pa_cons (pv 5) pa_nil))))
        (pss_cons (ps_expr (pe_bm PySem.F.plainAttrs_list PySem.F.slot_list_append PySem.F.type_list_append mt_append (pv 3) (pa_cons (pe_ifExp (pt_cmpR op_gt (pv 6) pe_int (nomark _)) (pe_ix ix_list (pv 2) (pe_op op_sub (pv 6) pe_int) (fun _ _ => rfl)) pe_non) pa_nil)))
        (pss_cons (ps_asg (pe_lst (pa_cons (pv 5) pa_nil)) (Ev.pg_cut (pv 1) (po_some (pv 6)) (po_some (pe_op op_add (pv 6) pe_int))))
        (pss_one (ps_asg (pe_lst (pa_cons (pv 4) pa_nil)) (Ev.pg_cut (pv 2) (po_some (pv 6)) (po_some (pe_op op_add (pv 6) pe_int)))))))))
      (pss_cons (ps_set (i := 7) scQRising.nd rfl (.inl rfl) (pe_lst pa_nil))
      (pss_cons (ps_set (i := 4) scQRising.nd rfl (.inl rfl) (pe_ifExp (pt_truth (pv 2) (by intro _; rfl)) (pe_ix ix_list (pv 2) (pe_un un_neg pe_int) (fun _ _ => rfl)) pe_non))
      (pss_cons (ps_while PassesOwn.never (pt_cmpR op_notN (pv 4) pe_non (nomark _))
      (pss_cons (ps_expr (pe_bm PySem.F.plainAttrs_list PySem.F.slot_list_append PySem.F.type_list_append mt_append (pv 7) (pa_cons (pv 4) pa_nil)))
        (pss_one (ps_set (i := 4) scQRising.nd rfl (.inl rfl) (pe_ix ix_list (pv 3) (pv 4) (fun _ _ => rfl))))))
      (pss_one (ps_ret (Ev.pe_revL (pv 7))))))))))), ?_⟩
    obtain ⟨a, ns, rfl, ha, few, q⟩ := h
    have s0 : (0 : Nat) ≤ sizeLine := by decide
    refine ⟨s0, fun A nA => ?_⟩
    have kA := Same.new (H := H) (o := .lst []) nA
    refine ⟨s0, fun B nB => ?_⟩
    have kB := Same.new (o := .lst []) nB
    refine ⟨s0, fun C nC => ?_⟩
    have kC := Same.new (o := .lst []) nC
    have nBH : H B = none := kA.free nB
    have nCH : H C = none := (kA.trans kB).free nC
    have hA3 : upd (upd (upd H A (.lst [])) B (.lst [])) C (.lst []) A = some (.lst []) := kC _ _ (kB _ _ upd_same)
    have hB3 : upd (upd (upd H A (.lst [])) B (.lst [])) C (.lst []) B = some (.lst []) := kC _ _ upd_same
    have hC3 : upd (upd (upd H A (.lst [])) B (.lst [])) C (.lst []) C = some (.lst []) := upd_same
    have nAB : A ≠ B := fun z => by rw [← z, upd_same] at nB; cases nB
    have nBC : B ≠ C := fun z => by rw [← z, upd_same] at nC; cases nC
    have nAC : A ≠ C := fun z => by
      have h1 := kB _ _ (show upd H A (.lst []) A = some (.lst []) from upd_same)
      rw [← z, h1] at nC
      cases nC
    have kp : KP3 A B C H (upd (upd (upd H A (.lst [])) B (.lst [])) C (.lst [])) := fun c o _ _ _ e => kC _ _ (kB _ _ (kA _ _ e))
    generalize upd (upd (upd H A (.lst [])) B (.lst [])) C (.lst []) = H3 at hA3 hB3 hC3 kp ⊢
    clear kA kB kC nB nC
    try dsimp only [tNext, tSeq, tAsg, gName, tDrop]
    have naA := ne_of_none ha nA
    have naB := ne_of_none ha nBH
    have naC := ne_of_none ha nCH
    have lm : (ns.map V.int).length = ns.length := List.length_map ..
    refine ⟨.ref a, rfl, a, _, rfl, sq_of (kp _ _ naA naB naC ha), for_it (walk_enum (K := K) (a := a) (xs := ns.map V.int)) (fun i σ H' => ∃ (u4 u5 u6 : Option V) (least : List Int) (last : List Nat) (ahead : List (Option Nat)), σ = [some (.ref a), some (.ref A), some (.ref B), some (.ref C), u4, u5, u6, none] ∧ H' A = some (.lst (least.map V.int)) ∧ H' B = some (.lst (last.map iJ)) ∧ H' C = some (.lst (ahead.map oN)) ∧ Laid (gOf ns) i least last ahead ∧ KP3 A B C H H') ⟨_, _, _, [], [], [], rfl, hA3, hB3, hC3, Laid.nil _, kp⟩ (fun i σ H' _ w => by obtain ⟨_, _, _, _, _, _, _, _, _, _, _, k⟩ := w; exact sq_of (k _ _ naA naB naC ha)) ?_ ?_⟩
    · rintro i x σ H4 H5 hi ⟨u4, u5, u6, least, last, ahead, rfl, hA, hB, hC, hL, k4⟩ ⟨T, x1, x2, rfl, nT, rfl, e1, e2⟩
      cases e1
      have e2 : (ns.map V.int)[i]? = some x2 := e2
      rw [List.getElem?_map] at e2
      obtain ⟨y, ey, rfl⟩ := Option.map_eq_some_iff.mp e2
      have hi2 : i < ns.length := (List.getElem?_eq_some_iff.mp ey).1
      have gy := gOf_at ey
      have lf := laid_few hL
      have ll := hL.len
      have lah := hL.la
      have st := hL.step
      have bl := bel_le least y
      rw [gy] at st
      have kT := Same.new (H := H4) (o := .tup [.int (i : Nat), .int y]) nT
      have hA5 := kT _ _ hA
      have hB5 := kT _ _ hB
      have hC5 := kT _ _ hC
      have k5 := k4.same kT
      refine ⟨T, _, rfl, SqT.of upd_same, rfl, _, _, rfl, _, _, rfl, rfl, .ref A, rfl, .int y, rfl, A, y, least, rfl, hA5, hL.asc, by omega, ?_⟩
      generalize upd H4 T (.tup [.int (i : Nat), .int y]) = H5 at hA5 hB5 hC5 k5 ⊢
      generalize bel least y = m at st bl ⊢
      try dsimp only [tNext, tSeq, tAsg, gName, tDrop]
      refine ⟨.ref C, rfl, .inl ⟨rfl, _, sq_of hC5⟩, ?_⟩
      refine (?_ : ∀ Q : V → Hp → Prop, Q (oN (frm last m)) H5 → tIf _ _ _ _ H5 Q) _ ?_
      · intro Q kk
        refine ⟨.int (m : Nat), rfl, _, _, rfl, rfl, _, rfl, ite2 (fun e => ?_) (fun e => ?_)⟩
        · have e : 0 < m := by have := of_decide_eq_true e; omega
          have hl : m - 1 < last.length := by omega
          unfold frm at kk
          rw [if_pos e, List.getElem?_eq_getElem hl] at kk
          refine ⟨.ref B, rfl, .int (m : Nat), rfl, _, _, rfl, rfl, B, _, _, iJ last[m - 1], rfl, rfl, sq_of hB5, ?_, kk⟩
          rw [show (((m : Nat) : Int) - 1) = ((m - 1 : Nat) : Int) by omega]
          exact atI_nat (by rw [List.getElem?_map, List.getElem?_eq_getElem hl]; rfl)
        · have e : ¬ 0 < m := fun z => e (decide_eq_true (by omega))
          unfold frm at kk
          rw [if_neg e] at kk
          exact kk
      refine ⟨C, _, _, rfl, rfl, hC5, by rw [List.length_map, sizeLine_eq]; omega, ?_⟩
      have hA6 : upd H5 C (.lst (ahead.map oN ++ [oN (frm last m)])) A = some (.lst (least.map V.int)) := (upd_ne nAC).trans hA5
      have hB6 : upd H5 C (.lst (ahead.map oN ++ [oN (frm last m)])) B = some (.lst (last.map iJ)) := (upd_ne nBC).trans hB5
      have hC6 : upd H5 C (.lst (ahead.map oN ++ [oN (frm last m)])) C = some (.lst ((ahead ++ [frm last m]).map oN)) := by rw [upd_same, List.map_append]; rfl
      have k6 := k5.put (D := C) (o' := .lst (ahead.map oN ++ [oN (frm last m)])) (.inr (.inr rfl))
      generalize upd H5 C (.lst (ahead.map oN ++ [oN (frm last m)])) = H6 at hA6 hB6 hC6 k6 ⊢
      try dsimp only [tNext, tSeq, tAsg, gName, tDrop]
      refine ⟨.int y, rfl, by show 1 ≤ sizeLine; decide, fun D nD => ?_⟩
      have kD := Same.new (H := H6) (o := .lst [.int y]) nD
      have hD : upd H6 D (.lst [.int y]) D = some (.lst [.int y]) := upd_same
      have nDA : A ≠ D := fun z => by rw [← z, hA6] at nD; cases nD
      have hA7 := kD _ _ hA6
      have hB7 := kD _ _ hB6
      have hC7 := kD _ _ hC6
      have k7 := k6.same kD
      generalize upd H6 D (.lst [.int y]) = H7 at hA7 hB7 hC7 k7 hD ⊢
      clear kD nD
      refine ⟨.ref A, rfl, .int (m : Nat), rfl, ((m : Nat) : Int), rfl, .int (m : Nat), rfl, _, _, rfl, rfl, ((m + 1 : Nat) : Int), rfl, A, D, _, _, m, m + 1, rfl, rfl, rfl, rfl, hA7, hD, nDA, by rw [List.length_map]; exact bl, Nat.le_succ _, by rw [List.length_map, sizeLine_eq]; show _ + 1 ≤ _; omega, ?_⟩
      have hA8 : upd H7 A (.lst (Ev.splV (least.map V.int) [.int y] m (m + 1))) A = some (.lst ((spl least m y).map V.int)) := by rw [upd_same, spl_map]
      have hB8 : upd H7 A (.lst (Ev.splV (least.map V.int) [.int y] m (m + 1))) B = some (.lst (last.map iJ)) := (upd_ne fun z => nAB z.symm).trans hB7
      have hC8 : upd H7 A (.lst (Ev.splV (least.map V.int) [.int y] m (m + 1))) C = _ := (upd_ne fun z => nAC z.symm).trans hC7
      have k8 := k7.put (D := A) (o' := .lst (Ev.splV (least.map V.int) [.int y] m (m + 1))) (.inl rfl)
      generalize upd H7 A (.lst (Ev.splV (least.map V.int) [.int y] m (m + 1))) = H8 at hA8 hB8 hC8 k8 ⊢
      try dsimp only [tNext, tSeq, tAsg, gName, tDrop]
      refine ⟨iJ i, rfl, by show 1 ≤ sizeLine; decide, fun D2 nD2 => ?_⟩
      have kD := Same.new (H := H8) (o := .lst [iJ i]) nD2
      have hD2 : upd H8 D2 (.lst [iJ i]) D2 = some (.lst [iJ i]) := upd_same
      have nDB : B ≠ D2 := fun z => by rw [← z, hB8] at nD2; cases nD2
      have hA9 := kD _ _ hA8
      have hB9 := kD _ _ hB8
      have hC9 := kD _ _ hC8
      have k9 := k8.same kD
      refine ⟨.ref B, rfl, .int (m : Nat), rfl, ((m : Nat) : Int), rfl, .int (m : Nat), rfl, _, _, rfl, rfl, ((m + 1 : Nat) : Int), rfl, B, D2, _, _, m, m + 1, rfl, rfl, rfl, rfl, hB9, hD2, nDB, by rw [List.length_map]; omega, Nat.le_succ _, by rw [List.length_map, sizeLine_eq]; show _ + 1 ≤ _; omega, ?_⟩
      refine ⟨_, _, _, spl least m y, spl last m i, ahead ++ [frm last m], rfl, (upd_ne nAB).trans hA9, by rw [upd_same, spl_map], (upd_ne fun z => nBC z.symm).trans hC9, st, k9.put (.inr (.inl rfl))⟩
    rintro σ H4 ⟨u4, u5, u6, least, last, ahead, rfl, hA, hB, hC, hL, k4⟩
    rw [lm] at hL
    have k4 := k4
    try dsimp only [tNext, tSeq, tAsg, gName, tDrop]
    refine ⟨s0, fun F nF => ?_⟩
    have kF := Same.new (H := H4) (o := .lst []) nF
    have hF5 : upd H4 F (.lst []) F = some (.lst []) := upd_same
    have hB5 := kF _ _ hB
    have hC5 := kF _ _ hC
    have k5 := (k4.all nA nBH nCH).trans kF
    have nFH : H F = none := (k4.all nA nBH nCH).free nF
    have nCF : C ≠ F := fun z => by rw [← z, hC] at nF; cases nF
    generalize upd H4 F (.lst []) = H5 at hF5 hB5 hC5 k5 ⊢
    clear hA hB hC k4 kF nF
    try dsimp only [tNext, tSeq, tAsg, gName, tDrop]
    refine (?_ : ∀ Q : V → Hp → Prop, Q (oN last.getLast?) H5 → tIf _ _ _ _ H5 Q) _ ?_
    · intro Q kk
      refine ⟨.ref B, rfl, _, .inl ⟨_, sq_of hB5, rfl⟩, ?_⟩
      rw [List.getLast?_eq_getElem?] at kk
      cases last with
      | nil => exact iteF kk
      | cons l0 ls =>
        refine iteT ⟨.ref B, rfl, _, rfl, B, _, _, iJ ((l0 :: ls)[(l0 :: ls).length - 1]), rfl, rfl, sq_of hB5, ?_, ?_⟩
        · exact atI_end
        · rw [List.getElem?_eq_getElem (by rw [List.length_cons]; omega)] at kk
          exact kk
    refine ⟨fun m σ H' => ∃ (found : List Nat) (o : Option Nat), m = last.length - found.length ∧ σ = [some (.ref a), some (.ref A), some (.ref B), some (.ref C), some (oN o), u5, u6, some (.ref F)] ∧ Back (gOf ns) ns.length found o last.length ∧ H' F = some (.lst (found.map iJ)) ∧ H' C = some (.lst (ahead.map oN)) ∧ Same H H', ⟨_, [], last.getLast?, rfl, rfl, Back.start hL, hF5, hC5, k5⟩, ?_⟩
    rintro m σ H6 ⟨found, o, rfl, rfl, hb, hF, hC, k6⟩
    have lf := laid_few hL
    rw [← hL.len] at lf
    have hlen := hb.len
    refine ⟨oN o, rfl, rfl, _, rfl, ?_⟩
    cases o with
    | none =>
      refine iteF ?_
      have hlen : found.length + 0 = last.length := hlen
      refine ⟨.ref F, rfl, F, _, rfl, sq_of hF, fun D nD => ?_⟩
      refine q D found.reverse _ (k6.trans (Same.new nD)) (k6.free nD) (by rw [upd_same, List.map_reverse]) hb.rise ?_
      rw [List.length_reverse, ← hL.top]
      omega
    | some j =>
      have hlen : found.length + fv (gOf ns) j = last.length := hlen
      have fp := fv_pos (gOf ns) j
      obtain ⟨hj, -⟩ := hb.lt j rfl
      have hja : j < ahead.length := by rw [hL.la]; exact hj
      have ho := List.getElem?_eq_getElem hja
      generalize ahead[j] = o2 at ho
      refine iteT ⟨_, fun σ' H' w => w, ?_⟩
      dsimp only [tNext, tSeq, tAsg, gName, tDrop]
      refine ⟨.ref F, rfl, .inl ⟨rfl, _, sq_of hF⟩, _, rfl, F, _, _, rfl, rfl, hF, by rw [List.length_map, sizeLine_eq]; omega, ?_⟩
      have hC6 : upd H6 F (.lst (found.map iJ ++ [iJ j])) C = some (.lst (ahead.map oN)) := (upd_ne nCF).trans hC
      refine ⟨.ref C, rfl, _, rfl, C, _, _, oN o2, rfl, rfl, sq_of hC6, atI_nat (by rw [List.getElem?_map, ho]; rfl), ?_⟩
      refine ⟨_, ?_, found ++ [j], o2, rfl, rfl, Back.next hL hb ho, by rw [upd_same, List.map_append]; rfl, hC6, sameAt k6 nFH⟩
      rw [List.length_append, List.length_singleton]
      omega
end
end LawK
set_option maxHeartbeats 4000000
namespace LawK
open PySem PySem.Spec PySem.W PyProof.Rows L2 Ev
def ltP (p q : Pl) : Prop := p.1 < q.1 ∨ p.1 = q.1 ∧ p.2 < q.2
instance (p q : Pl) : Decidable (ltP p q) := inferInstanceAs (Decidable (_ ∨ _))
def encQ (p : Pl) : PyData := .tuple [.int (p.1 : Nat), .int (p.2 : Nat)]
theorem encQ_lt (p q : Pl) : dataLt (encQ p) (encQ q) = decide (ltP p q) := by
  unfold encQ
  rw [dataLt_ii]
  refine decide_eq_decide.mpr ?_
  unfold ltP
  omega
theorem encQ_alike (p q : Pl) : alike (encQ p) (encQ q) = true := by
  unfold encQ
  simp [alike, alikeAll]
theorem encQ_eqv (p q : Pl) : PyData.eqv (encQ p) (encQ q) = decide (p = q) := by
  unfold encQ
  simp only [PyData.eqv, PyData.eqvAll]
  refine Bool.eq_iff_iff.mpr ?_
  simp only [Bool.and_eq_true, beq_iff_eq, decide_eq_true_eq]
  constructor
  · intro h
    exact Prod.ext (by omega) (by omega)
  · rintro rfl
    simp
theorem ltP_irr (p : Pl) : ¬ ltP p p := by unfold ltP; omega
theorem ltP_eq {p q : Pl} (h : ¬ ltP p q) (k : ¬ ltP q p) : p = q := by
  unfold ltP at h k
  exact Prod.ext (by omega) (by omega)
theorem ltP_trans {p q r : Pl} (h : ltP p q) (k : ltP q r) : ltP p r := by
  unfold ltP at *
  omega
theorem encQ_dp {K : PySem.W.Frag} {H : Hp} {v : V} {p : Pl} (h : PAt H v p) : Dp K H v (encQ p) := by
  obtain ⟨b, rfl, e⟩ := h
  exact .tup (SqT.of e) (.cons (.int _) (.cons (.int _) .nil))
theorem sty_asc (ts : List Str) (ed : Ed) : (styL ts ed).Pairwise fun p q => rk ts p < rk ts q := by
  refine List.Pairwise.filter _ ?_
  refine List.pairwise_iff_getElem.mpr fun i j hi hj hij => ?_
  rw [rk_at (List.getElem?_eq_getElem hi), rk_at (List.getElem?_eq_getElem hj)]
  exact hij
theorem sty_mem {ts : List Str} {ed : Ed} {p : Pl} : p ∈ styL ts ed ↔ InT ts p ∧ ∃ g, tk ts ed p = some g := by
  unfold styL
  rw [List.mem_filter, ord_mem, Option.isSome_iff_exists]
theorem sty_nd (ts : List Str) (ed : Ed) : (styL ts ed).Nodup := (ord_nd ts).sublist List.filter_sublist
theorem pl_asc (ts : List Str) : (pl ts).Pairwise ltP := by
  have : ∀ n, (plN ts n).Pairwise ltP := fun n => by
    induction n with
    | zero => exact .nil
    | succ n ih =>
      rw [plN_succ]
      refine List.pairwise_append.mpr ⟨ih, ?_, fun x hx y hy => ?_⟩
      · unfold row
        exact List.pairwise_map.mpr (List.pairwise_lt_range.imp fun h => .inr ⟨rfl, h⟩)
      · obtain ⟨i, hi, hx⟩ := List.mem_flatMap.mp hx
        obtain ⟨j, _, rfl⟩ := List.mem_map.mp hx
        obtain ⟨k, _, rfl⟩ := List.mem_map.mp hy
        exact .inl (List.mem_range.mp hi)
  exact this _
def encW (r : Rk) : PyData := .tuple [.int (r.a : Nat), .int (r.b : Nat), encQ r.p]
def ltW (x y : Rk) : Prop := x.a < y.a ∨ x.a = y.a ∧ (x.b < y.b ∨ x.b = y.b ∧ ltP x.p y.p)
instance (x y : Rk) : Decidable (ltW x y) := inferInstanceAs (Decidable (_ ∨ _))
theorem encW_lt (x y : Rk) : dataLt (encW x) (encW y) = decide (ltW x y) := by
  unfold encW
  rw [dataLt_tuple, dataLt_cons (by simp [alike]), dataLt_cons (by simp [alike]), dataLt_cons (encQ_alike _ _)]
  have e0 : PyProof.Rows.lexLt itemOrd (keyToksAll []) (keyToksAll []) = false := lex_irrefl _
  have e2 : ∀ a b : Int, PyData.eqv (.int a) (.int b) = decide (a = b) := fun a b => by
    simp only [PyData.eqv]
    first | rfl | exact Bool.eq_iff_iff.mpr (by simp)
  rw [e0, dataLt_int, dataLt_int, e2, e2, encQ_eqv, encQ_lt]
  unfold ltW
  by_cases h1 : x.a = y.a
  · rw [decide_eq_true (show ((x.a : Nat) : Int) = (y.a : Nat) by omega), if_pos rfl]
    by_cases h2 : x.b = y.b
    · rw [decide_eq_true (show ((x.b : Nat) : Int) = (y.b : Nat) by omega), if_pos rfl]
      by_cases h3 : x.p = y.p
      · rw [decide_eq_true h3, if_pos rfl]
        refine (decide_eq_false ?_).symm
        rintro (z | ⟨-, z | ⟨-, z⟩⟩)
        · omega
        · omega
        · rw [h3] at z
          exact ltP_irr _ z
      · rw [decide_eq_false h3, if_neg Bool.false_ne_true]
        exact decide_eq_decide.mpr ⟨fun z => .inr ⟨h1, .inr ⟨h2, z⟩⟩, fun z => by
          rcases z with z | ⟨-, z | ⟨-, z⟩⟩
          · omega
          · omega
          · exact z⟩
    · rw [decide_eq_false (show ¬ ((x.b : Nat) : Int) = (y.b : Nat) by omega), if_neg Bool.false_ne_true]
      exact decide_eq_decide.mpr ⟨fun z => .inr ⟨h1, .inl (by omega)⟩, fun z => by
        rcases z with z | ⟨-, z | ⟨z, -⟩⟩ <;> omega⟩
  · rw [decide_eq_false (show ¬ ((x.a : Nat) : Int) = (y.a : Nat) by omega), if_neg Bool.false_ne_true]
    exact decide_eq_decide.mpr ⟨fun z => .inl (by omega), fun z => by
      rcases z with z | ⟨z, -⟩ <;> omega⟩
def leW (x y : Rk) : Bool := leE (encW x) (encW y)
theorem leW_eq (x y : Rk) : leW x y = true ↔ ¬ ltW y x := by
  unfold leW leE
  rw [encW_lt, Bool.not_eq_true', decide_eq_false_iff_not]
theorem leW_trans (a b c : Rk) (h : leW a b = true) (k : leW b c = true) : leW a c = true := by
  rw [leW_eq] at *
  unfold ltW ltP at *
  omega
theorem leW_total (a b : Rk) : (leW a b || leW b a) = true := by
  rw [Bool.or_eq_true, leW_eq, leW_eq]
  unfold ltW ltP
  omega
theorem sort_W {fs rs : List Rk} (h : fs.Perm rs) (k : rs.Pairwise fun x y => x.a < y.a) : fs.mergeSort leW = rs := by
  have nd : ∀ x ∈ rs, ∀ y ∈ rs, x.a = y.a → x = y := fun x hx y hy e => by
    obtain ⟨i, hi, ei⟩ := List.mem_iff_getElem.mp hx
    obtain ⟨j, hj, ej⟩ := List.mem_iff_getElem.mp hy
    have pw := List.pairwise_iff_getElem.mp k
    by_cases l : i < j
    · have := pw i j hi hj l
      rw [ei, ej] at this
      omega
    · by_cases l2 : j < i
      · have := pw j i hj hi l2
        rw [ei, ej] at this
        omega
      · have : i = j := by omega
        subst this
        exact ei.symm.trans ej
  have p := (List.mergeSort_perm fs leW).trans h
  refine List.Perm.eq_of_pairwise (le := fun a b => leW a b = true) (fun a b ha hb h1 h2 => ?_) (List.pairwise_mergeSort leW_trans leW_total fs) (k.imp fun {a b} l => (leW_eq a b).mpr fun z => by unfold ltW at z; omega) p
  rw [leW_eq] at h1 h2
  refine nd a (p.mem_iff.mp ha) b hb ?_
  unfold ltW at h1 h2
  omega
/-- the rows, in the order of their ranks ahead -/
def sW (ts us : List Str) (ed : Ed) : List Rk := (styL ts ed).map fun p => ⟨p, rk ts p, rkG ts us ed p⟩
theorem sW_asc (ts us : List Str) (ed : Ed) : (sW ts us ed).Pairwise fun x y => x.a < y.a := List.pairwise_map.mpr (sty_asc ts ed)
theorem sW_perm (ts us : List Str) (ed : Ed) : (rkL ts us ed).Perm (sW ts us ed) := by
  have n1 : (rkL ts us ed).Nodup := by
    unfold rkL
    refine List.pairwise_filterMap.mpr ((pl_asc ts).imp fun {p q} h x hx y hy e => ?_)
    obtain ⟨g, -, rfl⟩ := Option.map_eq_some_iff.mp hx
    obtain ⟨g2, -, rfl⟩ := Option.map_eq_some_iff.mp hy
    have e : p = q := congrArg Rk.p e
    rw [e] at h
    exact ltP_irr _ h
  have n2 : (sW ts us ed).Nodup := (sW_asc ts us ed).imp fun {x y} l => fun (e : x = y) => by rw [e] at l; exact Nat.lt_irrefl _ l
  refine (List.perm_ext_iff_of_nodup n1 n2).mpr fun r => ?_
  rw [rkL_mem]
  unfold sW
  rw [List.mem_map]
  constructor
  · rintro ⟨g, h1, h2, h3, h4⟩
    refine ⟨r.p, sty_mem.mpr ⟨h1, g, h2⟩, ?_⟩
    obtain ⟨p, a, b⟩ := r
    simp only at h1 h2 h3 h4 ⊢
    unfold rkG
    rw [h2, h3, h4]
    rfl
  · rintro ⟨p, hp, rfl⟩
    obtain ⟨h1, g, h2⟩ := sty_mem.mp hp
    refine ⟨g, h1, h2, rfl, ?_⟩
    show rkG ts us ed p = _
    unfold rkG
    rw [h2]
    rfl
/-- a row that is sorted: ahead, behind, place -/
def RwAt (H : Hp) (v : V) (r : Rk) : Prop := ∃ c w, v = .ref c ∧ H c = some (.tup [.int (r.a : Nat), .int (r.b : Nat), w]) ∧ PAt H w r.p
theorem RwAt.same {H H' : Hp} {v : V} {r : Rk} (k : Same H H') (h : RwAt H v r) : RwAt H' v r := let ⟨c, w, e, h1, h2⟩ := h; ⟨c, w, e, k _ _ h1, h2.same k⟩
theorem RwAt.put {H : Hp} {D : Addr} {o o' : HO} (hD : H D = some o) (n : ∀ xs, o ≠ .tup xs) {v : V} {r : Rk} (h : RwAt H v r) : RwAt (upd H D o') v r := by
  obtain ⟨c, w, e, h1, h2⟩ := h
  exact ⟨c, w, e, by rw [upd_ne fun z => by rw [z, hD] at h1; cases h1; exact n _ rfl]; exact h1, h2.put hD n⟩
theorem encW_dp {K : PySem.W.Frag} {H : Hp} {v : V} {r : Rk} (h : RwAt H v r) : Dp K H v (encW r) := by
  obtain ⟨c, w, rfl, h1, h2⟩ := h
  exact .tup (SqT.of h1) (.cons (.int _) (.cons (.int _) (.cons (encQ_dp h2) .nil)))
theorem sorted_W {K : PySem.W.Frag} {H : Hp} {a : Addr} {vs : List V} {fs rs : List Rk} {Q : VK} (ha : H a = some (.lst vs)) (hv : All2 (RwAt H) vs fs) (h : fs.Perm rs) (k : rs.Pairwise fun x y => x.a < y.a)
    (q : ∀ p ws H', H p = none → Same H H' → H' p = some (.lst ws) → All2 (RwAt H') ws rs → Q (.ref p) H') : rSortedD K [.ref a] H Q := by
  obtain ⟨zs, rfl, rfl, hz⟩ := hv.zs
  refine ⟨a, zs.map (fun z => (z.1, encW z.2)), rfl, ?_, ?_, ?_, ?_, ?_, fun p np => ?_⟩
  · rw [List.map_map]; exact sq_of ha
  · intro b hb
    obtain ⟨z, hz', rfl⟩ := List.mem_map.mp hb
    exact encW_dp (hz z hz')
  · rw [List.map_map]
    exact AllAlike.of (enc := fun z : V × Rk => encW z.2) fun b b' => by unfold encW encQ; simp [alike, alikeAll]
  · rw [List.map_map]
    exact Sortable.tuples (enc := fun z : V × Rk => encW z.2) fun b => ⟨_, _, rfl⟩
  · intro b hb
    obtain ⟨z, hz', rfl⟩ := List.mem_map.mp hb
    show (encW z.2).depth ≤ 60
    unfold encW encQ
    simp [PyData.depth, PyData.depthAll]
  · have e1 : (zs.map fun z => ((z.1, encW z.2) : DV)).mergeSort leD = (zs.mergeSort fun z w => leW z.2 w.2).map fun z => (z.1, encW z.2) := (List.map_mergeSort (r := fun z w : V × Rk => leW z.2 w.2) (s := leD) (f := fun z : V × Rk => ((z.1, encW z.2) : DV)) (l := zs) fun x _ y _ => rfl).symm
    have e2 : (zs.map (·.2)).mergeSort leW = (zs.mergeSort fun z w => leW z.2 w.2).map (·.2) := (List.map_mergeSort (r := fun z w : V × Rk => leW z.2 w.2) (s := leW) (f := fun z : V × Rk => z.2) (l := zs) fun x _ y _ => rfl).symm
    rw [sort_W h k] at e2
    rw [e1, List.map_map]
    refine q p _ _ np (Same.new np) upd_same ?_
    rw [e2]
    exact All2.ofZ fun z hz' => (hz z ((List.mergeSort_perm _ _).mem_iff.mp hz')).same (Same.new np)
end LawK
set_option maxHeartbeats 4000000
namespace LawK
open PySem PySem.Spec PyProof.Rows L2 Ev
def gSt (ts us : List Str) (ed : Ed) : Nat → Int := gOf ((sW ts us ed).map fun r => ((r.b : Nat) : Int))
/-- the places of a longest rise -/
structure Told (ts us : List Str) (ed : Ed) (ix : List Nat) (qs : List Pl) : Prop where
  rise : Rise (gSt ts us ed) (styL ts ed).length ix
  len : ix.length = most (gSt ts us ed) (styL ts ed).length
  at_ : qs = ix.map fun j => (styL ts ed).getD j (0, 0)
def spStaying (C : Addr) : Sp := fun vs H Q _ => ∃ (s e : Addr) (ts us : List Str) (ed : Ed), vs = [.ref s, .ref e] ∧ LibAt H C s ts ∧ EdOf H e ts ed us ∧ ∀ c ws ix qs H', Same H H' → H c = none → H' c = some (.tup ws) → All2 (PAt H') ws qs → Told ts us ed ix qs → Q (.ref c) H'
theorem sW_len (ts us : List Str) (ed : Ed) : (sW ts us ed).length = (styL ts ed).length := List.length_map _
theorem sW_at {ts us : List Str} {ed : Ed} {j : Nat} {r : Rk} (h : (sW ts us ed)[j]? = some r) : r.p = (styL ts ed).getD j (0, 0) := by
  unfold sW at h
  rw [List.getElem?_map] at h
  obtain ⟨p, hp, rfl⟩ := Option.map_eq_some_iff.mp h
  rw [List.getD_eq_getElem?_getD, hp]
  rfl
theorem asc_room : ∀ {ix : List Nat} {k n : Nat}, ix.Pairwise (· < ·) → (∀ j ∈ ix, k ≤ j ∧ j < n) → ix.length ≤ n - k
  | [], _, _, _, _ => Nat.zero_le _
  | x :: xs, k, n, h, hj => by
    obtain ⟨h1, h2⟩ := List.pairwise_cons.mp h
    have a := hj x List.mem_cons_self
    have ih := asc_room (k := x + 1) (n := n) h2 fun j hm => ⟨h1 j hm, (hj j (List.mem_cons_of_mem _ hm)).2⟩
    rw [List.length_cons]
    omega
theorem rise_len {g : Nat → Int} {n : Nat} {ix : List Nat} (h : Rise g n ix) : ix.length ≤ n :=
  asc_room (k := 0) (h.up.imp fun l => l.1) fun j hj => ⟨Nat.zero_le _, h.inn j hj⟩
section
variable {P : Program} {w : World} {K : PySem.W.Frag} {mg : Str → Option Value} {base : Heap}
abbrev sPStaying : Stmt := topS 40
theorem scPStaying : FnScope ["library", "edit", "rows", "place", "one_ahead", "one_behind", "index", "_"] ["library", "edit"] (defScope sPStaying) := ⟨rfl, rfl, rfl, by decide +kernel, rfl, by decide +kernel, by decide +kernel⟩
theorem ok_PStaying {f : Addr} {fd : FuncData} (F : Fun K "staying" "staying" sPStaying f fd)  {fQRanks : Addr} {fdQRanks : FuncData} (DQRanks : Dk P w K mg base "_taken_ranks" sQRanks ["library", "edit"] 9 (spRanks C) fQRanks fdQRanks) {fQRising : Addr} {fdQRising : FuncData} (DQRising : Dk P w K mg base "_longest_rising" sQRising ["numbers"] 2 spRising fQRising fdQRising) (T : Glob mg) : FnOk P w K mg base CX0 10 f fd ["library", "edit"] (spStaying C) := by
  refine F.ok scPStaying (fun vs H Q E h => ?_) (fun cdv A outer s H vs Q E hr h => ?_)
  · obtain ⟨s, e, ts, us, ed, rfl, _⟩ := h
    rfl
  · refine ⟨_, (pss_cons (ps_set (i := 2) scPStaying.nd rfl (.inr rfl) (pe_lc (own := [("place", 3), ("one_ahead", 4), ("one_behind", 5)]) (g := (gTup K 3 (gCons (gName 3) (gCons (gName 4) (gCons (gName 5) gNil))))) (by rfl) scPStaying.nd (pi_list (pe_call DQRanks.ok (hr.mono (by decide)) (by rfl) DQRanks.g DQRanks.F.kp DQRanks.b .nil pass0 (pa_cons (pv 0) (pa_cons (pv 1) pa_nil)))) (blkOk_by (N := ["library", "edit", "rows", "place", "one_ahead", "one_behind", "index", "_"]) (sc := defScope sPStaying) (by decide +kernel)) (fun _ _ _ _ _ => pg_tup (by rfl) (pgs_cons (pg_name (i := 3) scPStaying.nd rfl (.inl rfl)) (pgs_cons (pg_name (i := 4) scPStaying.nd rfl (.inl rfl)) (pgs_cons (pg_name (i := 5) scPStaying.nd rfl (.inl rfl)) pgs_nil)))) (fun _ _ _ _ _ => pts_nil) (fun _ _ _ _ _ => (pe_tup (pa_cons (pv 4) (pa_cons (pv 5) (pa_cons (pv 3) pa_nil)))))))
      (pss_cons (ps_set (i := 2) scPStaying.nd rfl (.inr rfl) (pe_callB (cr_sortedD hr.units) (by rfl) T.sorted (by decide +kernel) (pa_cons (pv 2) pa_nil)))
      (pss_one (ps_ret (pe_callTy call_tuple_of (by rfl) T.tuple (by decide +kernel) (pa_cons (pe_lc (own := [("index", 6)]) (g := gName 6) (by rfl) scPStaying.nd (pi_list (pe_call DQRising.ok (hr.mono (by decide)) (by rfl) DQRising.g DQRising.F.kp DQRising.b .nil pass0 (pa_cons (pe_lc (own := [("_", 7), ("one_behind", 5), ("_", 7)]) (g := (gTup K 3 (gCons (gName 7) (gCons (gName 5) (gCons (gName 7) gNil))))) (by rfl) scPStaying.nd (pi_list (pv 2)) (blkOk_by (N := ["library", "edit", "rows", "place", "one_ahead", "one_behind", "index", "_"]) (sc := defScope sPStaying) (by decide +kernel)) (fun _ _ _ _ _ => pg_tup (by rfl) (pgs_cons (pg_name (i := 7) scPStaying.nd rfl (.inl rfl)) (pgs_cons (pg_name (i := 5) scPStaying.nd rfl (.inl rfl)) (pgs_cons (pg_name (i := 7) scPStaying.nd rfl (.inl rfl)) pgs_nil)))) (fun _ _ _ _ _ => pts_nil) (fun _ _ _ _ _ => (pv 5))) pa_nil))) (blkOk_by (N := ["library", "edit", "rows", "place", "one_ahead", "one_behind", "index", "_"]) (sc := defScope sPStaying) (by decide +kernel)) (fun _ _ _ _ _ => pg_name (i := 6) scPStaying.nd rfl (.inl rfl)) (fun _ _ _ _ _ => pts_nil) (fun _ _ _ _ _ => (pe_ix (r := rIxT K) ix_tup (pe_ix (r := rIxL K) ix_list (pv 2) (pv 6) (fun _ _ => rfl)) pe_int (fun _ _ => rfl)))) pa_nil)))))), ?_⟩
    obtain ⟨s, e, ts, us, ed, rfl, hl, he, q⟩ := h
    have fewS : (styL ts ed).length ≤ 1600 := Nat.le_trans (List.length_filter_le _ _) (ord_few hl.few hl.len)
    have fewR : (rkL ts us ed).length ≤ 1600 := by rw [(sW_perm ts us ed).length_eq, sW_len]; exact fewS
    refine ⟨.ref s, rfl, .ref e, rfl, s, e, ts, us, ed, rfl, hl, he, fun D vs H1 k1 nD hD hvs => ⟨D, rfl, ⟨_, sq_of hD⟩, fun R nR => lc_list (xs := vs) (fun i H' => Same H1 H' ∧ ∃ ws, H' R = some (.lst ws) ∧ All2 (RwAt H') ws ((rkL ts us ed).take i)) ⟨Same.new nR, [], upd_same, .nil⟩ (fun i H' _ w => sq_of (w.1 _ _ hD)) ?_ ?_⟩⟩
    · rintro i x H2 hx ⟨k2, ws, hR, hws⟩
      obtain ⟨r, er, c, w, rfl, hc, hw⟩ := hvs.at hx
      have hc2 := k2 _ _ hc
      have hw2 := hw.same k2
      have lw := hws.len
      rw [List.length_take] at lw
      refine ⟨c, _, rfl, SqT.of hc2, rfl, _, _, rfl, _, _, rfl, _, _, rfl, rfl, ?_⟩
      refine ⟨rfl, _, rfl, _, rfl, _, rfl, by show 3 ≤ sizeLine; decide, fun t nt => ⟨ws, (Same.new nt) _ _ hR, by rw [sizeLine_eq]; omega, sameAt (k2.trans (Same.new nt)) nR, ws ++ [.ref t], upd_same, ?_⟩⟩
      rw [take_snoc er]
      have kt := Same.new (H := H2) (o := .tup [.int (r.a : Nat), .int (r.b : Nat), w]) nt
      have hs2 := All2.snoc (hws.imp fun _ _ q => RwAt.same kt q) (y := r) (show RwAt _ (.ref t) _ from ⟨t, w, rfl, upd_same, hw2.same kt⟩)
      exact hs2.imp fun _ _ q => q.put (kt _ _ hR) fun _ z => by cases z
    rintro H2 ⟨k2, ws, hR, hws⟩
    rw [hvs.len, List.take_length] at hws
    have k02 := k1.trans k2
    clear hvs hD nD nR k1 k2
    try dsimp only [tNext, tSeq, tAsg, gName, tDrop]
    refine ⟨.ref R, rfl, ?_⟩
    dsimp only [tNil]
    refine sorted_W hR hws (sW_perm ts us ed) (sW_asc ts us ed) fun S ws2 H3 nS k3 hS hws2 => ?_
    have k03 := k02.trans k3
    clear hR hws k02 k3 nS
    have lw2 := hws2.len
    rw [sW_len] at lw2
    try dsimp only [tNext, tSeq, tAsg, gName, tDrop]
    refine ⟨.ref S, rfl, S, rfl, ⟨_, sq_of hS⟩, fun B nB => lc_list (xs := ws2) (fun i H' => Same H3 H' ∧ H' B = some (.lst (((sW ts us ed).take i).map fun r => V.int ((r.b : Nat) : Int)))) ⟨Same.new nB, upd_same⟩ (fun i H' _ w => sq_of (w.1 _ _ hS)) ?_ ?_⟩
    · rintro i x H4 hx ⟨k4, hB⟩
      obtain ⟨r, er, c, w, rfl, hc, hw⟩ := hws2.at hx
      refine ⟨c, _, rfl, SqT.of (k4 _ _ hc), rfl, _, _, rfl, _, _, rfl, _, _, rfl, rfl, ?_⟩
      refine ⟨rfl, _, rfl, _, hB, by rw [List.length_map, List.length_take, sW_len, sizeLine_eq]; omega, sameAt k4 nB, ?_⟩
      rw [upd_same, take_snoc er, List.map_append]
      rfl
    rintro H4 ⟨k4, hB⟩
    rw [lw2, ← sW_len ts us ed, List.take_length] at hB
    have k04 := k03.trans k4
    have hS4 := k4 _ _ hS
    refine ⟨B, (sW ts us ed).map fun r => ((r.b : Nat) : Int), rfl, by rw [hB, List.map_map]; rfl, by rw [List.length_map, sW_len]; exact fewS, fun I ix H5 k5 nI hI hrise hlen => ?_⟩
    rw [List.length_map, sW_len] at hrise hlen
    have lix : ix.length ≤ 1600 := by
      have := rise_len hrise
      omega
    refine ⟨I, rfl, ⟨_, sq_of hI⟩, fun T nT => lc_list (xs := ix.map iJ) (fun i H' => Same H5 H' ∧ ∃ us2, H' T = some (.lst us2) ∧ All2 (PAt H') us2 ((ix.take i).map fun j => (styL ts ed).getD j (0, 0))) ⟨Same.new nT, [], upd_same, .nil⟩ (fun i H' _ w => sq_of (w.1 _ _ hI)) ?_ ?_⟩
    · rintro i x H6 hx ⟨k6, us2, hT, hu⟩
      rw [List.getElem?_map] at hx
      obtain ⟨j, hj, rfl⟩ := Option.map_eq_some_iff.mp hx
      have lj : j < ws2.length := by rw [lw2]; exact hrise.inn j (List.mem_of_getElem? hj)
      have hw0 := List.getElem?_eq_getElem lj
      generalize ws2[j] = v at hw0
      obtain ⟨r, er, c, w, rfl, hc, hw⟩ := hws2.at hw0
      have k46 := (k4.trans k5).trans k6
      have lu := hu.len
      rw [List.length_map, List.length_take] at lu
      refine ⟨rfl, .ref S, rfl, iJ j, rfl, S, _, _, .ref c, rfl, rfl, sq_of (k46 _ _ hS), atI_nat hw0, c, _, 2, w, rfl, rfl, SqT.of (k46 _ _ hc), rfl, us2, hT, by rw [sizeLine_eq]; omega, sameAt k6 nT, us2 ++ [w], upd_same, ?_⟩
      rw [take_snoc hj, List.map_append]
      have hs2 := All2.snoc hu (y := (styL ts ed).getD j (0, 0)) (show PAt H6 w _ by rw [← sW_at er]; exact hw.same k46)
      exact hs2.imp fun _ _ q => q.put hT fun _ z => by cases z
    rintro H6 ⟨k6, us2, hT, hu⟩
    rw [List.length_map, List.take_length] at hu
    have k06 := (k04.trans k5).trans k6
    refine ⟨T, _, rfl, .inl ⟨sq_of hT, fun p np => ?_⟩⟩
    exact q p us2 ix _ _ (k06.trans (Same.new np)) (k06.free np) upd_same (hu.imp fun _ _ q => q.same (Same.new np)) ⟨hrise, hlen, rfl⟩
end
end LawK
set_option maxHeartbeats 4000000
namespace LawK
open PySem PySem.Spec PyProof.Rows L2 Ev
def spRise : Sp := fun vs H Q _ => ∃ (a : Addr) (ns : List Int), vs = [.ref a] ∧ H a = some (.lst (ns.map V.int)) ∧ ns.length ≤ 1600 ∧ ∀ H', Same H H' → Q (iJ (most (gOf ns) ns.length)) H'
def natI (n : Nat) : Int := n
theorem mx_int {L : List Nat} {m : Int} (hm : m ∈ (0 :: L).map natI) (h : ∀ y ∈ (0 :: L).map natI, y ≤ m) : m = (mx L : Nat) := by
  obtain ⟨n, hn, rfl⟩ := List.mem_map.mp hm
  have h1 : mx L ≤ n := mx_le.mpr fun x hx => by
    have := h _ (List.mem_map.mpr ⟨x, List.mem_cons_of_mem _ hx, rfl⟩)
    unfold natI at this
    omega
  have h2 : n ≤ mx L := by
    rcases List.mem_cons.mp hn with rfl | hn
    · exact Nat.zero_le _
    · exact le_mx hn
  unfold natI
  omega
section
variable {P : Program} {w : World} {K : PySem.W.Frag} {mg : Str → Option Value} {base : Heap}
abbrev sLongestRise : Stmt := topS 58
theorem scLongestRise : FnScope ["numbers", "found", "at", "k"] ["numbers"] (defScope sLongestRise) := ⟨rfl, rfl, rfl, by decide +kernel, rfl, by decide +kernel, by decide +kernel⟩
theorem ok_LongestRise {f : Addr} {fd : FuncData} (F : Fun K "_law_longest_rise" "_law_longest_rise" sLongestRise f fd)   (T : Glob mg) : FnOk P w K mg base CX0 1 f fd ["numbers"] spRise := by
  refine F.ok scLongestRise (fun vs H Q E h => ?_) (fun cdv A outer s H vs Q E hr h => ?_)
  · obtain ⟨a, ns, rfl, _⟩ := h
    rfl
  · refine ⟨_, (pss_cons (ps_set (i := 1) scLongestRise.nd rfl (.inr rfl) (pe_lst pa_nil))
      (pss_cons (ps_for PassesOwn.never rfl (pi_range1 (by rfl) T.range (pa_cons (pe_callB call_len_seq (by rfl) T.len PySem.boot_len (pa_cons (pv 0) pa_nil)) pa_nil)) (pg_name (i := 2) scLongestRise.nd rfl (.inr rfl))
      (pss_one (ps_expr (pe_bm PySem.F.plainAttrs_list PySem.F.slot_list_append PySem.F.type_list_append mt_append (pv 1) (pa_cons (pe_op op_add pe_int (pe_callB (cr_max rfl) (by rfl) T.max (by decide +kernel) (pa_cons (pe_op op_cat (pe_lst (pa_cons pe_int pa_nil)) (pe_lc (own := [("k", 3)]) (g := gName 3) (by rfl) scLongestRise.nd (pi_range1 (by rfl) T.range (pa_cons (pv 2) pa_nil)) (blkOk_by (N := ["numbers", "found", "at", "k"]) (sc := defScope sLongestRise) (by decide +kernel)) (fun _ _ _ _ _ => pg_name (i := 3) scLongestRise.nd rfl (.inl rfl)) (fun _ _ _ _ _ => (pts_one (pt_cmpR op_lt (pe_ix (r := rIxL K) ix_list (pv 0) (pv 3) (fun _ _ => rfl)) (pe_ix (r := rIxL K) ix_list (pv 0) (pv 2) (fun _ _ => rfl)) (nomark _)))) (fun _ _ _ _ _ => (pe_ix (r := rIxL K) ix_list (pv 1) (pv 3) (fun _ _ => rfl))))) pa_nil))) pa_nil)))))
      (pss_one (ps_ret (pe_callB (cr_max rfl) (by rfl) T.max (by decide +kernel) (pa_cons (pe_op op_cat (pe_lst (pa_cons pe_int pa_nil)) (pv 1)) pa_nil)))))), ?_⟩
    obtain ⟨a, ns, rfl, ha, few, q⟩ := h
    have lm : (ns.map V.int).length = ns.length := List.length_map ..
    refine ⟨by show 0 ≤ sizeLine; decide, fun F nF => ?_⟩
    try dsimp only [tNext, tSeq, tAsg, gName, tDrop]
    have naF := ne_of_none ha nF
    refine ⟨.ref a, rfl, a, _, rfl, .inl (sq_of ((Same.new nF) _ _ ha)), _, rfl, by omega, by omega, for_range (fun i σ H' => ∃ (x y : Option V), σ = [some (.ref a), some (.ref F), x, y] ∧ (∀ c o, c ≠ F → H c = some o → H' c = some o) ∧ H' F = some (.lst ((fs (gOf ns) i).map iJ))) ⟨_, _, rfl, fun c o n e => (upd_ne n).trans e, upd_same⟩ ?_ ?_⟩
    · rintro i σ H1 hi ⟨x, y, rfl, k1, hF⟩
      rw [lm] at hi
      have hi : i < ns.length := by omega
      have e0 : (0 + (i : Int)) = (i : Nat) := by omega
      rw [e0]
      have ha1 := k1 _ _ naF ha
      have lfs := fs_len (gOf ns) i
      have hy := List.getElem?_eq_getElem hi
      generalize ns[i] = v at hy
      have gv := gOf_at hy
      refine ⟨.ref F, rfl, .inl ⟨rfl, _, sq_of hF⟩, by show 1 ≤ sizeLine; decide, fun Z nZ => ?_⟩
      have kZ := Same.new (H := H1) (o := .lst [.int 0]) nZ
      have hZ : upd H1 Z (.lst [.int 0]) Z = some (.lst [.int 0]) := upd_same
      have hF2 := kZ _ _ hF
      have ha2 := kZ _ _ ha1
      have k2 : ∀ c o, c ≠ F → H c = some o → upd H1 Z (.lst [.int 0]) c = some o := fun c o n e => kZ _ _ (k1 c o n e)
      generalize upd H1 Z (.lst [.int 0]) = H2 at hZ hF2 ha2 k2 ⊢
      refine ⟨.int (i : Nat), rfl, _, rfl, by omega, by omega, fun B nB => lc_range (fun j H' => Same H2 H' ∧ H' B = some (.lst (((List.range j).filter fun k => decide (gOf ns k < gOf ns i)).map fun k => iJ ((fs (gOf ns) i).getD k 0)))) ⟨Same.new nB, upd_same⟩ ?_ ?_⟩
      · rintro j H3 hj ⟨k3, hB⟩
        have hj : j < i := by omega
        have e1 : (0 + (j : Int)) = (j : Nat) := by omega
        rw [e1]
        have hz := List.getElem?_eq_getElem (show j < ns.length by omega)
        generalize ns[j]'(by omega) = w at hz
        have gw := gOf_at hz
        have lf : ((((List.range j).filter fun k => decide (gOf ns k < gOf ns i)).map fun k => iJ ((fs (gOf ns) i).getD k 0))).length ≤ 1600 := by
          rw [List.length_map]
          refine Nat.le_trans (List.length_filter_le _ _) ?_
          rw [List.length_range]
          omega
        refine ⟨rfl, .ref a, rfl, .int (j : Nat), rfl, a, _, _, .int w, rfl, rfl, sq_of (k3 _ _ ha2), atI_nat (by rw [List.getElem?_map, hz]; rfl), .ref a, rfl, .int (i : Nat), rfl, a, _, _, .int v, rfl, rfl, sq_of (k3 _ _ ha2), atI_nat (by rw [List.getElem?_map, hy]; rfl), _, _, rfl, rfl, _, rfl, ite2 (fun e => ?_) (fun e => ?_)⟩
        · have e : gOf ns j < gOf ns i := by rw [gw, gv]; exact of_decide_eq_true e
          refine ⟨.ref F, rfl, .int (j : Nat), rfl, F, _, _, iJ ((fs (gOf ns) i).getD j 0), rfl, rfl, sq_of (k3 _ _ hF2), atI_nat ?_, _, hB, by rw [sizeLine_eq]; omega, sameAt k3 nB, ?_⟩
          · rw [List.getElem?_map, List.getElem?_eq_getElem (show j < (fs (gOf ns) i).length by omega), List.getD_eq_getElem?_getD, List.getElem?_eq_getElem (show j < (fs (gOf ns) i).length by omega)]
            rfl
          · rw [upd_same, List.range_succ, List.filter_append, List.map_append, List.filter_cons, if_pos (decide_eq_true e)]
            rfl
        · have e : ¬ gOf ns j < gOf ns i := fun z => e (decide_eq_true (by rw [← gw, ← gv]; exact z))
          refine ⟨k3, ?_⟩
          rw [List.range_succ, List.filter_append, List.map_append, List.filter_cons, if_neg (by rw [decide_eq_true_eq]; exact e)]
          show _ = some (HO.lst (_ ++ []))
          rw [List.append_nil]
          exact hB
      rintro H3 ⟨k3, hB⟩
      rw [show ((i : Int)).toNat = i from rfl] at hB
      have lf : ((((List.range i).filter fun k => decide (gOf ns k < gOf ns i)).map fun k => iJ ((fs (gOf ns) i).getD k 0))).length ≤ 1600 := by
        rw [List.length_map]
        refine Nat.le_trans (List.length_filter_le _ _) ?_
        rw [List.length_range]
        omega
      refine ⟨Z, B, _, _, rfl, rfl, k3 _ _ hZ, hB, by rw [sizeLine_eq]; show 1 + _ ≤ _; omega, fun M nM => ?_⟩
      have kM := Same.new (H := H3) (o := .lst ([.int 0] ++ ((List.range i).filter fun k => decide (gOf ns k < gOf ns i)).map fun k => iJ ((fs (gOf ns) i).getD k 0))) nM
      have hF4 := kM _ _ (k3 _ _ hF2)
      refine ⟨M, (0 :: (((List.range i).filter fun k => decide (gOf ns k < gOf ns i)).map fun k => (fs (gOf ns) i).getD k 0)).map natI, rfl, sq_of ?_, by rw [List.length_map]; exact Nat.succ_pos _, fun m hm hmax => ?_⟩
      · rw [upd_same, List.map_map, List.map_cons, List.map_map]
        rfl
      · have em := mx_int hm hmax
        subst em
        refine ⟨_, _, rfl, rfl, F, _, _, rfl, rfl, hF4, by rw [List.length_map, lfs, sizeLine_eq]; omega, _, _, rfl, fun c o n e => (upd_ne n).trans (kM _ _ (k3 _ _ (k2 c o n e))), ?_⟩
        rw [upd_same]
        show _ = some (HO.lst ((fs (gOf ns) i ++ [_]).map iJ))
        rw [List.map_append]
        refine congrArg (fun z => some (HO.lst (_ ++ [z]))) ?_
        show V.int (1 + ((mx _ : Nat) : Int)) = V.int ((1 + mx _ : Nat) : Int)
        congr 1
    rintro σ H1 ⟨x, y, rfl, k1, hF⟩
    rw [show ((((ns.map V.int).length : Nat) : Int)).toNat = ns.length by rw [lm]; rfl] at hF
    have k01 : Same H H1 := fun c o e => k1 c o (ne_of_none e nF) e
    have lfs := fs_len (gOf ns) ns.length
    try dsimp only [tNext, tSeq, tAsg, gName, tDrop]
    refine ⟨by show 1 ≤ sizeLine; decide, fun Z nZ => ?_⟩
    have kZ := Same.new (H := H1) (o := .lst [.int 0]) nZ
    refine ⟨.ref F, rfl, Z, F, _, _, rfl, rfl, upd_same, kZ _ _ hF, by rw [List.length_map, lfs, sizeLine_eq]; show 1 + _ ≤ _; omega, fun M nM => ⟨M, (0 :: fs (gOf ns) ns.length).map natI, rfl, sq_of ?_, by rw [List.length_map]; exact Nat.succ_pos _, fun m hm hmax => ?_⟩⟩
    · rw [upd_same, List.map_map, List.map_cons]
      rfl
    · have em := mx_int hm hmax
      rw [fs_eq] at em
      subst em
      exact q _ ((k01.trans kZ).trans (Same.new nM))
end
end LawK
set_option maxHeartbeats 4000000
/-! len of a dict with tuples as keys -/
namespace Ev
open PySem PySem.Spec PyProof.Rows L2
section
variable {prog : Program} {w : World} {A : Around} {E : Value → Shared → Prop} {s : Shared}
theorem len_raw {d : Addr} {es : Array DictEntry} {ep : Nat} {Q : Value → Shared → Prop} (ty : s.TypeIs (.ref d) "dict") (hd : (d == sysModules) = false) (hm : s.heap.DictRaw d es ep) (fit : ((es.size : Nat) : Int) < 2 ^ 63)
    (q : Q (.int ((es.size : Nat) : Int) (s.toks + 1)) { s with toks := s.toks + 1 + 1 }) : wpAny (model prog w) A (call (.builtin "len") [.ref d]) Q E s := by
  refine Calls.call_function_entry kind_len plain_len entry_len (args_len1 _) ?_
  unfold Builtin.«len»; refine wpAny_bind (m := oneArg "len" _) (wpAny_pure ?_)
  refine wpAny_bind (m := callSpecial? (.ref d) (Str.ofString "__len__")) (wpAny_callSpecial?_slot (name := Str.ofString "__len__") ty F.slot_dict_len (call_meetsIn F.slot_dict_len ty F.entry_dict_len (F.args_dict_len_1 _) (meets_dict_len_raw d hd) ⟨es, ep, hm, ?_⟩))
  show wpAny _ _ _ _ _ { s with toks := s.toks + 1 }; refine wpAny_bind (wpAny_holding (wpAny_pure ?_)); refine wpAny_bind (wpAny_letGo ?_)
  show wpAny _ _ (if ((es.size : Nat) : Int) < 0 then _ else _) _ _ _; rw [if_neg (by omega)]
  show wpAny _ _ (if ((es.size : Nat) : Int) ≥ 2 ^ 63 then _ else _) _ _ _; rw [if_neg (by omega)]
  exact wpAny_bind (wpAny_mkInt (wpAny_pure ⟨_, rfl, q⟩))
end
def rLenT : List V → Hp → VK → Prop := fun xs H Q => ∃ (a : Addr) (kvs : List (List Key × V)), xs = [.ref a] ∧ H a = some (.dT kvs) ∧ Q (.int ((kvs.length : Nat) : Int)) H
theorem call_lenT {X : Cx} : CallR X (.builtin "len") rLenT := fun pins s σ H xs us Q I r h => by
  obtain ⟨a, kvs, rfl, e, q⟩ := h
  obtain ⟨u, rfl, rx⟩ := vals1 r
  cases rx
  obtain ⟨lz, hS, ps, kt, m⟩ := dt_of I.hok e
  have z3 : sizeLine = 16777216 := sizeLine_eq
  have dk : s.heap.DictKeyed _ a (pairsH ps) := ⟨ps, m, rfl⟩
  obtain ⟨es, ep, hraw, hsz, -⟩ := dk.walk
  have hl : es.size = kvs.length := by
    rw [hsz, pairsH_length]
    exact (Paired.length kt).symm
  refine len_raw dk.typeIs hS hraw (by omega) ?_
  rw [hl]
  exact ⟨.int ((kvs.length : Nat) : Int), H, I.tok _, ⟨_, rfl⟩, q⟩
end Ev
set_option maxHeartbeats 4000000
namespace LawK
open PySem PySem.Spec PySem.W PyProof.Rows L2 Ev
theorem encQ_depth (p : Pl) : (encQ p).depth = 1 := by
  unfold encQ
  simp [PyData.depth, PyData.depthAll]
theorem encs_depth : ∀ ps : List Pl, PyData.depthAll (ps.map encQ) ≤ 1
  | [] => by simp [PyData.depthAll]
  | p :: ps => by
    have := encs_depth ps
    have e := encQ_depth p
    show PyData.depthAll (encQ p :: ps.map encQ) ≤ 1
    rw [PyData.depthAll, e]
    omega
theorem dp_pls {K : PySem.W.Frag} {H : Hp} {vs : List V} {ps : List Pl} (h : All2 (PAt H) vs ps) : DpAll K H vs (ps.map encQ) := by
  induction h with
  | nil => exact .nil
  | cons r _ ih => exact .cons (encQ_dp r) ih
theorem eqv_pls : ∀ ps qs : List Pl, PyData.eqvAll (ps.map encQ) (qs.map encQ) = decide (ps = qs)
  | [], [] => by rw [decide_eq_true rfl]; rfl
  | [], u :: us => by rw [decide_eq_false (by simp)]; rfl
  | t :: ts, [] => by rw [decide_eq_false (by simp)]; rfl
  | t :: ts, u :: us => by
    show (PyData.eqv (encQ t) (encQ u) && PyData.eqvAll (ts.map encQ) (us.map encQ)) = _
    rw [eqv_pls ts us, encQ_eqv]
    by_cases e : t = u
    · subst e
      by_cases e2 : ts = us
      · subst e2
        simp
      · simp [e2]
    · rw [decide_eq_false e, Bool.false_and, decide_eq_false fun z => e (by injection z)]
theorem encQ_lay (p : Pl) : (encQ p).canLay0 = true := rfl
theorem pls_lay : ∀ ps : List Pl, PyData.canLayAll0 (ps.map encQ) = true
  | [] => rfl
  | p :: ps => by
    show ((encQ p).canLay0 && PyData.canLayAll0 (ps.map encQ)) = true
    rw [pls_lay ps]
    rfl
theorem shaped_pls (ps : List Pl) : SeqAt.shaped (.list (ps.map encQ)) = true := by
  unfold SeqAt.shaped
  have a : (PyData.list (ps.map encQ)).canLay0 = true := pls_lay ps
  have b : (PyData.list (ps.map encQ)).depth ≤ 64 := by
    have := encs_depth ps
    simp only [PyData.depth]
    omega
  rw [a, decide_eq_true b]
  rfl
theorem shaped_p (p : Pl) : SeqAt.shaped (encQ p) = true := by
  unfold SeqAt.shaped
  have b : (encQ p).depth ≤ 64 := by rw [encQ_depth]; decide
  rw [encQ_lay, decide_eq_true b]
  rfl
/-- alike to the law's own judge -/
theorem in_pls {ps : List Pl} {p : Pl} : ((ps.map encQ).any fun z => PyData.eqv z (encQ p)) = decide (p ∈ ps) := by
  rw [List.any_map, Bool.eq_iff_iff, List.any_eq_true, decide_eq_true_eq]
  constructor
  · rintro ⟨q, hq, e⟩
    have e : PyData.eqv (encQ q) (encQ p) = true := e
    rw [encQ_eqv, decide_eq_true_eq] at e
    rw [← e]
    exact hq
  · intro h
    refine ⟨p, h, ?_⟩
    show PyData.eqv (encQ p) (encQ p) = true
    rw [encQ_eqv]
    exact decide_eq_true rfl
theorem room1 {X : Cx} {k : Nat} (r : Room k X.A) : X.A.units + 65 < cLine := by have := r.un; omega
theorem tkL_len (ts us : List Str) (ed : Ed) : (tkL ts ed).length = (styL ts ed).length := by
  have e : rkL ts us ed = (tkL ts ed).map fun x => ⟨x.1, rk ts x.1, rk us x.2⟩ := by
    unfold rkL tkL
    rw [List.map_filterMap]
    congr 1
    funext p
    cases tk ts ed p <;> rfl
  have := (sW_perm ts us ed).length_eq
  rw [e, List.length_map, sW_len] at this
  exact this
theorem bkL_length {ts us : List Str} {ed : Ed} (ld : Ldg ts ed us) : (bkL ts us ed).length = (styL ts ed).length := by
  have p : ((bkL ts us ed).map Prod.fst).Perm (styL ts ed) := (List.perm_ext_iff_of_nodup (bkL_once ld) (sty_nd ts ed)).mpr fun x => by
    rw [List.mem_map, sty_mem]
    constructor
    · rintro ⟨y, hy, rfl⟩
      obtain ⟨h1, h2⟩ := bkL_mem.mp hy
      obtain ⟨-, h3, h4⟩ := bk_on ld h1 h2
      exact ⟨h3, y.2, h4⟩
    · rintro ⟨h1, g, h2⟩
      obtain ⟨-, h3, h4⟩ := tk_on ld h1 h2
      exact ⟨(x, g), bkL_mem.mpr ⟨h3, h4⟩, rfl⟩
  have := p.length_eq
  rw [List.length_map] at this
  exact this
def spFewest (C : Addr) : Sp := fun vs H Q _ => ∃ (s e : Addr) (ts us : List Str) (ed : Ed), vs = [.ref s, .ref e] ∧ LibAt H C s ts ∧ EdOf H e ts ed us ∧ ∀ H', Same H H' → Q (.int (((styL ts ed).length : Nat) - (most (gSt ts us ed) (styL ts ed).length : Nat) : Int)) H'
theorem Told.length {ts us : List Str} {ed : Ed} {ix : List Nat} {qs : List Pl} (h : Told ts us ed ix qs) : qs.length = most (gSt ts us ed) (styL ts ed).length := by
  rw [h.at_, List.length_map]
  exact h.len
/-- each told place, where it stands in order, and where it goes -/
theorem Told.get {ts us : List Str} {ed : Ed} {ix : List Nat} {qs : List Pl} (h : Told ts us ed ix qs) {i : Nat} {p : Pl} (hp : qs[i]? = some p) : ∃ j, ix[i]? = some j ∧ (styL ts ed)[j]? = some p ∧ gSt ts us ed j = (rkG ts us ed p : Nat) := by
  rw [h.at_, List.getElem?_map] at hp
  obtain ⟨j, hj, rfl⟩ := Option.map_eq_some_iff.mp hp
  have lj := h.rise.inn j (List.mem_of_getElem? hj)
  have e : (styL ts ed)[j]? = some ((styL ts ed).getD j (0, 0)) := by
    rw [List.getD_eq_getElem?_getD, List.getElem?_eq_getElem lj]
    rfl
  refine ⟨j, hj, e, ?_⟩
  unfold gSt
  refine gOf_at ?_
  unfold sW
  rw [List.map_map, List.getElem?_map, e]
  rfl
theorem Told.up {ts us : List Str} {ed : Ed} {ix : List Nat} {qs : List Pl} (h : Told ts us ed ix qs) : qs.Pairwise fun p q => rkG ts us ed p < rkG ts us ed q := by
  refine List.pairwise_iff_getElem.mpr fun i j hi hj l => ?_
  obtain ⟨a, a1, a2, a3⟩ := h.get (List.getElem?_eq_getElem hi)
  obtain ⟨b, b1, b2, b3⟩ := h.get (List.getElem?_eq_getElem hj)
  obtain ⟨la, ea⟩ := List.getElem?_eq_some_iff.mp a1
  obtain ⟨lb, eb⟩ := List.getElem?_eq_some_iff.mp b1
  have := (List.pairwise_iff_getElem.mp h.rise.up i j la lb l).2
  rw [ea, eb, a3, b3] at this
  omega
def goalOf (ts : List Str) (ed : Ed) (p : Pl) : Pl := (tk ts ed p).getD (0, 0)
theorem goal_at {ts us : List Str} {ed : Ed} {p : Pl} (hp : p ∈ styL ts ed) : tk ts ed p = some (goalOf ts ed p) ∧ rkG ts us ed p = rk us (goalOf ts ed p) := by
  obtain ⟨-, g, hg⟩ := sty_mem.mp hp
  unfold goalOf rkG
  rw [hg]
  exact ⟨rfl, rfl⟩
theorem told_goals {ts us : List Str} {ed : Ed} (ld : Ldg ts ed us) {ix : List Nat} {qs : List Pl} (h : Told ts us ed ix qs) : ((ord us).filter fun g => decide (g ∈ qs.map (goalOf ts ed))) = qs.map (goalOf ts ed) := by
  have ins : ∀ p ∈ qs, p ∈ styL ts ed := fun p hp => by
    obtain ⟨i, hi, e⟩ := List.mem_iff_getElem.mp hp
    obtain ⟨j, -, e2, -⟩ := h.get (show qs[i]? = some p by rw [List.getElem?_eq_getElem hi, e])
    exact List.mem_of_getElem? e2
  have up1 : ((ord us).filter fun g => decide (g ∈ qs.map (goalOf ts ed))).Pairwise fun a b => rk us a < rk us b := by
    refine List.Pairwise.filter _ (List.pairwise_iff_getElem.mpr fun i j hi hj hij => ?_)
    rw [rk_at (List.getElem?_eq_getElem hi), rk_at (List.getElem?_eq_getElem hj)]
    exact hij
  have up2 : (qs.map (goalOf ts ed)).Pairwise fun a b => rk us a < rk us b := by
    refine List.pairwise_map.mpr ?_
    refine List.Pairwise.imp_of_mem ?_ h.up
    intro a b ha hb l
    rw [(goal_at (us := us) (ins a ha)).2, (goal_at (us := us) (ins b hb)).2] at l
    exact l
  have nd : ∀ {l : List Pl}, l.Pairwise (fun a b => rk us a < rk us b) → l.Nodup := fun h => h.imp fun {a b} l => fun (e : a = b) => by rw [e] at l; exact Nat.lt_irrefl _ l
  have p : ((ord us).filter fun g => decide (g ∈ qs.map (goalOf ts ed))).Perm (qs.map (goalOf ts ed)) := (List.perm_ext_iff_of_nodup (nd up1) (nd up2)).mpr fun x => by
    rw [List.mem_filter, decide_eq_true_eq]
    refine ⟨fun h => h.2, fun h => ⟨?_, h⟩⟩
    obtain ⟨p, hp, rfl⟩ := List.mem_map.mp h
    obtain ⟨ip, -⟩ := sty_mem.mp (ins p hp)
    exact ord_mem.mpr (tk_on ld ip (goal_at (us := us) (ins p hp)).1).2.1
  exact List.Perm.eq_of_pairwise (le := fun a b => rk us a < rk us b) (fun a b _ _ h1 h2 => by omega) up1 up2 p
def spMoved : Sp := fun vs H Q _ => ∃ (a e A c : Addr) (ts us : List Str) (ed : Ed) (vsA ws : List V) (ix : List Nat) (qs : List Pl), vs = [.ref a, .ref e, .ref A, .ref c] ∧ TsAt H a ts ∧ EdOf H e ts ed us ∧ H A = some (.lst vsA) ∧ vsA.length = (styL ts ed).length ∧ H c = some (.tup ws) ∧ All2 (PAt H) ws qs ∧ Told ts us ed ix qs ∧ ∀ H', Same H H' → Q (.bl true) H'
section
variable {P : Program} {w : World} {K : PySem.W.Frag} {mg : Str → Option Value} {base : Heap}
abbrev sPFewest : Stmt := topS 41
theorem scPFewest : FnScope ["library", "edit"] ["library", "edit"] (defScope sPFewest) := ⟨rfl, rfl, rfl, by decide +kernel, rfl, by decide +kernel, by decide +kernel⟩
theorem ok_PFewest {f : Addr} {fd : FuncData} (F : Fun K "fewest_moves" "fewest_moves" sPFewest f fd)  {fPAllTaken : Addr} {fdPAllTaken : FuncData} (DPAllTaken : Dk P w K mg base "all_taken" sPAllTaken ["library", "edit"] 8 (spAllTaken C) fPAllTaken fdPAllTaken) {fPStaying : Addr} {fdPStaying : FuncData} (DPStaying : Dk P w K mg base "staying" sPStaying ["library", "edit"] 10 (spStaying C) fPStaying fdPStaying) (T : Glob mg) : FnOk P w K mg base CX0 11 f fd ["library", "edit"] (spFewest C) := by
  refine F.ok scPFewest (fun vs H Q E h => ?_) (fun cdv A outer s H vs Q E hr h => ?_)
  · obtain ⟨s, e, ts, us, ed, rfl, _⟩ := h
    rfl
  · refine ⟨_, (pss_one (ps_ret (pe_op op_sub (pe_callB Ev.call_lenT (by rfl) T.len PySem.boot_len (pa_cons (pe_call DPAllTaken.ok (hr.mono (by decide)) (by rfl) DPAllTaken.g DPAllTaken.F.kp DPAllTaken.b .nil pass0 (pa_cons (pv 0) (pa_cons (pv 1) pa_nil))) pa_nil)) (pe_callB call_len_seq (by rfl) T.len PySem.boot_len (pa_cons (pe_call DPStaying.ok (hr.mono (by decide)) (by rfl) DPStaying.g DPStaying.F.kp DPStaying.b .nil pass0 (pa_cons (pv 0) (pa_cons (pv 1) pa_nil))) pa_nil))))), ?_⟩
    obtain ⟨s, e, ts, us, ed, rfl, hl, he, q⟩ := h
    refine ⟨.ref s, rfl, .ref e, rfl, s, e, ts, us, ed, rfl, hl, he, fun d kvs H1 k1 nd hd hdt => ⟨d, kvs, rfl, hd, .ref s, rfl, .ref e, rfl, s, e, ts, us, ed, rfl, hl.same k1, he.same k1, fun c ws ix qs H2 k2 nc hc hws ht => ⟨c, _, rfl, .inr (SqT.of hc), _, _, rfl, rfl, ?_⟩⟩⟩
    show Q (.int (((kvs.length : Nat) : Int) - ((ws.length : Nat) : Int))) H2
    rw [hdt.len, tkL_len ts us ed, hws.len, ht.length]
    exact q H2 (k1.trans k2)
end
end LawK
set_option maxHeartbeats 4000000
namespace LawK
open PySem PySem.Spec PySem.W PyProof.Rows L2 Ev
section
variable {P : Program} {w : World} {K : PySem.W.Frag} {mg : Str → Option Value} {base : Heap}
abbrev sIsMoved : Stmt := topS 59
theorem scIsMoved : FnScope ["texts", "edit", "places", "told", "goals", "place", "goal", "later", "stays"] ["texts", "edit", "places", "told"] (defScope sIsMoved) := ⟨rfl, rfl, rfl, by decide +kernel, rfl, by decide +kernel, by decide +kernel⟩
theorem ok_IsMoved {f : Addr} {fd : FuncData} (F : Fun K "_law_is_moved" "_law_is_moved" sIsMoved f fd)  {fTextsBehind : Addr} {fdTextsBehind : FuncData} (DTextsBehind : Dk P w K mg base "_law_texts_behind" sTextsBehind ["texts", "edit"] 2 spTxBehind fTextsBehind fdTextsBehind) {fOrder : Addr} {fdOrder : FuncData} (DOrder : Dk P w K mg base "_law_order" sOrder ["texts"] 1 spLOrder fOrder fdOrder) {fLTaken : Addr} {fdLTaken : FuncData} (DLTaken : Dk P w K mg base "_law_taken" sLTaken ["texts", "edit"] 2 spLTaken fLTaken fdLTaken) (T : Glob mg) : FnOk P w K mg base CX0 3 f fd ["texts", "edit", "places", "told"] spMoved := by
  refine F.ok scIsMoved (fun vs H Q E h => ?_) (fun cdv A outer s H vs Q E hr h => ?_)
  · obtain ⟨a, e, A, c0, ts, us, ed, vsA, ws0, ix, qs, rfl, _⟩ := h
    rfl
  · refine ⟨_, (pss_cons (ps_set (i := 4) scIsMoved.nd rfl (.inr rfl) pe_dnewT)
      (pss_cons (ps_for PassesOwn.never rfl (pi_list (pe_call DLTaken.ok (hr.mono (by decide)) (by rfl) DLTaken.g DLTaken.F.kp DLTaken.b .nil pass0 (pa_cons (pv 0) (pa_cons (pv 1) pa_nil)))) (pg_tup (by rfl) (pgs_cons (pg_name (i := 5) scIsMoved.nd rfl (.inl rfl)) (pgs_cons (pg_name (i := 6) scIsMoved.nd rfl (.inl rfl)) pgs_nil)))
      (pss_one (ps_asg (pv 6) (pg_sub (pv 4) (pv 5) (set_dict (hu_of hr))))))
      (pss_cons (ps_set (i := 7) scIsMoved.nd rfl (.inl rfl) (pe_call DOrder.ok (hr.mono (by decide)) (by rfl) DOrder.g DOrder.F.kp DOrder.b .nil pass0 (pa_cons (pe_call DTextsBehind.ok (hr.mono (by decide)) (by rfl) DTextsBehind.g DTextsBehind.F.kp DTextsBehind.b .nil pass0 (pa_cons (pv 0) (pa_cons (pv 1) pa_nil))) pa_nil)))
      (pss_cons (ps_set (i := 8) scIsMoved.nd rfl (.inr rfl) (pe_lc (own := [("place", 5)]) (g := gName 5) (by rfl) scIsMoved.nd (pi_tup (pv 3)) (blkOk_by (N := ["texts", "edit", "places", "told", "goals", "place", "goal", "later", "stays"]) (sc := defScope sIsMoved) (by decide +kernel)) (fun _ _ _ _ _ => pg_name (i := 5) scIsMoved.nd rfl (.inl rfl)) (fun _ _ _ _ _ => pts_nil) (fun _ _ _ _ _ => (pe_dget (hu_of hr) (pv 4) (pv 5) (fun _ _ => rfl)))))
      (pss_one (ps_ret (pe_and (pe_cmpR (op_eqD hr.units) (pe_lc (own := [("place", 5)]) (g := gName 5) (by rfl) scIsMoved.nd (pi_list (pv 7)) (blkOk_by (N := ["texts", "edit", "places", "told", "goals", "place", "goal", "later", "stays"]) (sc := defScope sIsMoved) (by decide +kernel)) (fun _ _ _ _ _ => pg_name (i := 5) scIsMoved.nd rfl (.inl rfl)) (fun _ _ _ _ _ => (pts_one (pt_cmpR (r := rInD K) (op_inD (room1 hr)) (pv 5) (pv 8) rfl))) (fun _ _ _ _ _ => (pv 5))) (pv 8) (nomark _)) (pe_one (pe_cmpR op_eq (pe_callB Ev.call_lenT (by rfl) T.len PySem.boot_len (pa_cons (pv 4) pa_nil)) (pe_callB call_len_seq (by rfl) T.len PySem.boot_len (pa_cons (pv 2) pa_nil)) (nomark _)))))))))), ?_⟩
    obtain ⟨a, e, A, c0, ts, us, ed, vsA, ws0, ix, qs, rfl, ht, he, hA, lA, hc0, hws0, htd, q⟩ := h
    have g8 := he.ld.good
    have lbk := bkL_len (ed := ed) (ts := ts) g8.few g8.len
    have lou := ord_few g8.few g8.len
    have fewS : (styL ts ed).length ≤ 1600 := Nat.le_trans (List.length_filter_le _ _) (ord_few ht.few ht.len)
    have lqs : qs.length ≤ 1600 := by
      have := rise_len htd.rise
      have l := htd.at_
      rw [l, List.length_map]
      omega
    intro d nd
    have kd := Same.new (H := H) (o := .dT []) nd
    try dsimp only [tNext, tSeq, tAsg, gName, tDrop]
    refine ⟨.ref a, rfl, .ref e, rfl, a, e, ts, us, ed, rfl, ht.same kd, he.same kd, fun L vl H3 k3 nL hL hvl => ?_⟩
    refine ⟨L, rfl, ⟨_, sq_of hL⟩, for_list (xs := vl) (fun i σ H' => ∃ (u4 u5 : Option V) (kvs : List (List Key × V)), σ = [some (.ref a), some (.ref e), some (.ref A), some (.ref c0), some (.ref d), u4, u5, none, none] ∧ Same H H' ∧ H' d = some (.dT kvs) ∧ (∀ b xs, H3 b = some (.tup xs) → H' b = some (.tup xs)) ∧ (∀ b xs, H3 b = some (.lst xs) → H' b = some (.lst xs)) ∧ DT (PAt H') kvs ((bkL ts us ed).take i)) ⟨none, none, [], rfl, kd.trans k3, k3 _ _ upd_same, fun _ _ h => h, fun _ _ h => h, .nil⟩ (fun i σ H' _ g => by obtain ⟨_, _, _, _, _, _, _, k, _⟩ := g; exact sq_of (k _ _ hL)) ?_ ?_⟩
    · rintro i x σ H4 hx4 ⟨u4, u5, kvs, rfl, k4, hd, kt, kl, hdt⟩
      obtain ⟨z, hz, c, y1, y2, rfl, hc, p1, p2⟩ := hvl.at hx4
      obtain ⟨p, g⟩ := z
      obtain ⟨b1, rfl, hb1⟩ := p1
      obtain ⟨b2, rfl, hb2⟩ := p2
      have hc4 := kt _ _ hc
      have hb14 := kt _ _ hb1
      have hb24 := kt _ _ hb2
      have lk : kvs.length ≤ 1600 := by
        rw [hdt.len, List.length_take]
        omega
      refine ⟨c, _, rfl, SqT.of hc4, rfl, _, _, rfl, _, _, rfl, rfl, .ref b2, rfl, .ref d, rfl, .ref b1, rfl, d, _, rfl, DPut.t (k := kk p) hd hb14 (by rw [sizeLine_eq]; omega), ?_⟩
      have nod : ∀ xs, HO.dT kvs ≠ .tup xs := fun _ z => by cases z
      refine ⟨_, _, _, rfl, sameAt k4 nd, upd_same, fun c xs h => ?_, fun c xs h => ?_, ?_⟩
      · rw [upd_ne fun z => by rw [z] at h; have := kt _ _ h; rw [hd] at this; cases this]
        exact kt _ _ h
      · rw [upd_ne fun z => by rw [z] at h; have := kl _ _ h; rw [hd] at this; cases this]
        exact kl _ _ h
      · rw [take_snoc hz]
        exact DT.put (hdt.imp fun _ _ r => PAt.put hd nod r) (fst_once (bkL_once he.ld) hz) (PAt.put hd nod ⟨b2, rfl, hb24⟩)
    rintro σ H4 ⟨u4, u5, kvs, rfl, k4, hd, kt, kl, hdt⟩
    rw [hvl.len, List.take_length] at hdt
    clear kt kl hvl hL k3 kd nL
    try dsimp only [tNext, tSeq, tAsg, gName, tDrop]
    refine ⟨.ref a, rfl, .ref e, rfl, a, e, ts, us, ed, rfl, ht.same k4, he.same k4, fun b H5 k5 nb hb => ⟨b, us, rfl, hb, fun O H6 k6 nO ⟨vs, hO, hvs⟩ => ?_⟩⟩
    have k46 := k5.trans k6
    have k06 := k4.trans k46
    have hd6 := k46 _ _ hd
    have hdt6 := hdt.imp fun _ _ r => PAt.same k46 r
    have hc6 := k06 _ _ hc0
    have hws6 := hws0.imp fun _ _ r => PAt.same k06 r
    have hA6 := k06 _ _ hA
    clear hd hdt k5 k6 k46 hb nb k4
    try dsimp only [tNext, tSeq, tAsg, gName, tDrop]
    refine ⟨.ref c0, rfl, c0, rfl, ⟨_, SqT.of hc6⟩, fun S nS => lc_tup (xs := ws0) (fun i H' => Same H6 H' ∧ ∃ us2, H' S = some (.lst us2) ∧ All2 (PAt H') us2 ((qs.take i).map (goalOf ts ed))) ⟨Same.new nS, [], upd_same, .nil⟩ (fun i H' _ w => SqT.of (w.1 _ _ hc6)) ?_ ?_⟩
    · rintro i x H7 hx ⟨k7, us2, hS, hu⟩
      obtain ⟨p, ep, b1, rfl, hb1⟩ := hws6.at hx
      obtain ⟨j, -, e2, -⟩ := htd.get ep
      have hs := List.mem_of_getElem? e2
      obtain ⟨ip, -⟩ := sty_mem.mp hs
      have hg := (goal_at (us := us) hs).1
      have lu := hu.len
      rw [List.length_map, List.length_take] at lu
      rcases bkL_get he.ld hdt6 ip with ⟨g, v, hg2, hv, r⟩ | ⟨hg2, -⟩
      · rw [hg] at hg2
        cases hg2
        refine ⟨rfl, .ref d, rfl, .ref b1, rfl, d, _, rfl, dget (k7 _ _ hd6) (k7 _ _ hb1) hv, us2, hS, by rw [sizeLine_eq]; omega, sameAt k7 nS, us2 ++ [v], upd_same, ?_⟩
        rw [take_snoc ep, List.map_append]
        have hs2 := All2.snoc hu (y := goalOf ts ed p) (PAt.same k7 r)
        exact hs2.imp fun _ _ q => q.put hS fun _ z => by cases z
      · rw [hg] at hg2
        cases hg2
    rintro H7 ⟨k7, us2, hS, hu⟩
    rw [hws6.len, List.take_length] at hu
    have k07 := k06.trans k7
    have hO7 := k7 _ _ hO
    have hvs7 := hvs.imp fun _ _ r => PAt.same k7 r
    have hd7 := k7 _ _ hd6
    have hA7 := k7 _ _ hA6
    clear hO hvs hd6 hA6 hws6 hc6 k06 k7
    have lv := hvs7.len
    try dsimp only [tNext, tSeq, tAsg, gName, tDrop]
    refine ⟨.ref O, rfl, O, rfl, ⟨_, sq_of hO7⟩, fun D nD => lc_list (xs := vs) (fun i H' => Same H7 H' ∧ ∃ us3, H' D = some (.lst us3) ∧ All2 (PAt H') us3 (((ord us).take i).filter fun g => decide (g ∈ qs.map (goalOf ts ed)))) ⟨Same.new nD, [], upd_same, .nil⟩ (fun i H' _ w => sq_of (w.1 _ _ hO7)) ?_ ?_⟩
    · rintro i x H8 hx ⟨k8, us3, hD, hu3⟩
      obtain ⟨p, ep, b1, rfl, hb1⟩ := hvs7.at hx
      have lu := hu3.len
      have lf : (((ord us).take i).filter fun g => decide (g ∈ qs.map (goalOf ts ed))).length ≤ 1600 := by
        refine Nat.le_trans (List.length_filter_le _ _) ?_
        rw [List.length_take]
        omega
      have hp : PAt H8 (.ref b1) p := ⟨b1, rfl, k8 _ _ hb1⟩
      refine ⟨rfl, .ref b1, rfl, .ref S, rfl, encQ p, (qs.map (goalOf ts ed)).map encQ, encQ_dp hp, .lst (sq_of (k8 _ _ hS)) (dp_pls (hu.imp fun _ _ r => PAt.same k8 r)), shaped_p p, shaped_pls _, _, rfl, ?_⟩
      rw [in_pls]
      refine ite2 (fun e => ?_) (fun e => ?_)
      · refine ⟨.ref b1, rfl, us3, hD, by rw [sizeLine_eq]; omega, sameAt k8 nD, us3 ++ [.ref b1], upd_same, ?_⟩
        rw [take_snoc ep, List.filter_append, List.filter_cons, if_pos e]
        have hs2 := All2.snoc hu3 (y := p) hp
        exact hs2.imp fun _ _ q => q.put hD fun _ z => by cases z
      · refine ⟨k8, us3, hD, ?_⟩
        rw [take_snoc ep, List.filter_append, List.filter_cons, if_neg e]
        show All2 _ _ (_ ++ [])
        rw [List.append_nil]
        exact hu3
    rintro H8 ⟨k8, us3, hD, hu3⟩
    rw [hvs7.len, List.take_length, told_goals he.ld htd] at hu3
    have k08 := k07.trans k8
    refine ⟨.ref S, rfl, .list ((qs.map (goalOf ts ed)).map encQ), .list ((qs.map (goalOf ts ed)).map encQ), .lst (sq_of hD) (dp_pls hu3), .lst (sq_of (k8 _ _ hS)) (dp_pls (hu.imp fun _ _ r => PAt.same k8 r)), shaped_pls _, shaped_pls _, _, rfl, ?_⟩
    have eq1 : PyData.eqv (.list ((qs.map (goalOf ts ed)).map encQ)) (.list ((qs.map (goalOf ts ed)).map encQ)) = true := (eqv_pls _ _).trans (decide_eq_true rfl)
    rw [eq1]
    refine iteT ⟨.ref d, rfl, d, kvs, rfl, k8 _ _ hd7, .ref A, rfl, A, _, rfl, .inl (sq_of (k8 _ _ hA7)), rfl, ?_⟩
    rw [hdt6.len, bkL_length he.ld, lA, decide_eq_true rfl]
    exact q _ k08
end
end LawK
set_option maxHeartbeats 4000000
/-! The law's own def, called by the caller of claims alone: what runs around it is known (no repr is under way). -/
namespace Ev
open PySem PySem.Spec PyProof.Rows L2
/-- the def at f keeps sp, called where A runs around it -/
structure FnAt (A : Around) (P : Program) (w : World) (K : PySem.W.Frag) (mg : Str → Option Value) (base : Heap) (CX : CXT) (f : Addr) (fd : FuncData) (ps : List Str) (sp : Sp) : Prop where
  len : ∀ vs H Q E, sp vs H Q E → vs.length = ps.length
  run : ∀ (outer : List Env) (s : Shared) (H : Hp) (args : Args) (us : List Value) (vs : List V) (Q : VK) (E : XK), Env0 P w K mg base A outer s H → BindsTo s fd args (ps.zip us) → Vals vs us → sp vs H Q E →
    codeAny (model P w) A (.call (.ref f) args) (CR CX outer P w H s Q E) s
section
variable {A : Around} {CX : CXT} {P : Program} {w : World} {K : PySem.W.Frag} {mg : Str → Option Value} {base : Heap} {k : Nat}
theorem fun_at {x qual : Str} {st : Stmt} {f : Addr} {fd : FuncData} {N ps : List Str} {sp : Sp} (F : Fun K x qual st f fd) (S : FnScope N ps (defScope st)) (hr : Room (k + 1) A) (len : ∀ vs H Q E, sp vs H Q E → vs.length = ps.length)
    (hbody : ∀ (cdv : Value) (outer : List Env) (s : Shared) (H : Hp) (vs : List V) (Q : VK) (E : XK), Room k (A.deeper (envOfC qual (defScope st) s.heap.objs.size f cdv)) → sp vs H Q E →
      ∃ t, PSs (cxOf CX P w K mg base N qual (defScope st) f cdv A outer s H E).nox (defBody st) t ∧ t { nx := fun _ H' => Q .non H', rt := Q } (start N vs) H) : FnAt A P w K mg base CX f fd ps sp := by
  obtain ⟨oc, od, kV, doc, pm, an, cdv, ct, osl, rfl, lk, hcd⟩ := F.ex
  refine ⟨len, fun outer s H args us vs Q E e0 hb r hsp => ?_⟩
  have lim : s.heap.NoLimit := e0.mod.nolimit.keeps fun b o e => (e0.bs b o e).1
  have KX : K.In s.heap := e0.mod.kin.keeps fun b o e => (e0.bs b o e).1
  have kinds : ∀ y ∈ ps.zip us, (defScope st).names.lookup y.1 = some .local ∨ ((defScope st).names.lookup y.1 = some .cell ∧ ((cellsFrom (s.heap.objs.size + 1) (defScope st).names []).lookup y.1).isSome = true) := by
    rintro ⟨n, v⟩ hy
    exact (S.par n (List.of_mem_zip hy).1).imp id fun q => ⟨q, PySem.W.cellsFrom_some _ _ _ (.inl q)⟩
  refine codeAny_call_function hr.depth (KX _ _ lk) rfl S.co S.gen rfl (PySem.W.codeRec_of KX hcd) (hb _ _ _ _ (wpAny_newFunctionEnv_cells S.kind kinds fun env he s1 x => ?_))
  subst he
  obtain ⟨t, ht, hq⟩ := hbody cdv outer s H vs Q E (hr.deeper _) hsp
  have I := inv_start (CX := CX) (P := P) (w := w) (mg := mg) (base := base) (E := E) S hr.hd e0 (len _ _ _ _ hsp) r x
  refine ⟨lim.keeps x.toInCall.keep, codeAny_func (wpAny_mono (ht.nox.run [] s1 (start N vs) H _ I hq) (fun fl s' hs => ?_) fun e s' hs => hs)⟩
  cases fl with
  | ret u =>
    obtain ⟨v, σ', H', J, rv, q⟩ := hs
    exact ⟨v, H', J.os, J.bare, J.base, J.hok, rv, q⟩
  | next =>
    obtain ⟨σ', H', J, q⟩ := hs
    exact ⟨V.non, H', J.os, J.bare, J.base, J.hok, rfl, q⟩
  | brk => exact hs.elim fun _ z => z.elim fun _ y => y.2.elim
  | cont => exact hs.elim fun _ z => z.elim fun _ y => y.2.elim
end
section
variable {P : Program} {w : World} {K : PySem.W.Frag} {mg mb : Str → Option Value} {fa a : Addr} {fd : FuncData} {x : Str} {sp : Sp} {s₁ : Shared} {vs : List Value} {ns : List Int}
/-- from one abstract heap: nothing is tracked but, perhaps, the script -/
theorem law_at0 {H : Hp} (KX : K.In s₁.heap) (hns : s₁.heap.Ns mainGlobals mg) (hb : s₁.heap.Ns builtinsNs mb) (hbb : ∀ y : Str, y ≠ "__name__" → mb y = bootBuiltins y) (hlim : s₁.heap.NoLimit) (hg : s₁.gens = #[])
    (ha : s₁.heap.get? a = some { cls := .type "list", data := .seq vs.toArray }) (F : ∀ base : Heap, K.In base → base.Ns mainGlobals mg → FnAt callerA P w K mg base CX0 fa fd [x] sp)
    (hbind : ∀ (s : Shared) (u : Value), BindsTo s fd ⟨[u], []⟩ [(x, u)]) (hO : Only H) (hok : HOk P w H s₁.heap) (hA : ∀ b, H b ≠ none → b = a) (hK : H a ≠ none → K.lookup a = none)
    (hsp : sp [.ref a] H (fun v _ => v = .bl true) fun _ _ _ => False) :
    codeAny (model P w) callerA (.call (.ref fa) ⟨[.ref a], []⟩) (fun r s' => r = .ok (.ret (.bool true)) ∧ OldK s₁.heap s'.heap ∧ s'.os = s₁.os ∧ AllBare s'.gens) s₁ := by
  have off : ∀ {b : Addr} {o : Obj}, s₁.heap.get? b = some o → o ≠ { cls := .type "list", data := .seq vs.toArray } → H b = none := fun {b o} e n => by
    refine Classical.byContradiction fun z => n ?_
    have eb := hA b z
    rw [eb, ha] at e
    exact (Option.some.inj e).symm
  have nsK : ∀ {b : Addr} {m : Str → Option Value}, s₁.heap.Ns b m → (hidT s₁.heap H).Ns b m := fun {b m} ⟨o, es, ep, e, d, r⟩ => ⟨o, es, ep, hidT_get e (off e fun z => by rw [z] at d; cases d), d, r⟩
  have hKb : K.In (hidT s₁.heap H) := fun b o e => hidT_get (KX b o e) (Classical.byContradiction fun z => by
    have eb := hA b z
    rw [eb] at e z
    rw [hK z] at e
    cases e)
  have hM : Mod K mg (hidT s₁.heap H) := ⟨hKb, nsK hns, ⟨mb, nsK hb, hbb⟩, hlim.elim fun mc z => ⟨mc, nsK z.1, z.2⟩⟩
  have e0 : Env0 P w K mg (hidT s₁.heap H) callerA [] s₁ H := ⟨rfl, hM, fun b o e => of_hidT e, Nat.le_of_eq (hidT_size _ _), trivial, fun b hb => absurd (show b ∈ ([] : List Addr) from hb) (by simp), hok, .of_eq hg⟩
  refine codeAny_mono ((F _ hKb (nsK hns)).run [] s₁ H ⟨[.ref a], []⟩ [.ref a] [.ref a] _ _ e0 (hbind s₁ (.ref a)) (.cons rfl .nil) hsp) fun r s' h => ?_
  rcases r with e | fl
  · exact False.elim h
  cases fl with
  | next => exact False.elim h
  | brk => exact False.elim h
  | cont => exact False.elim h
  | ret u =>
    obtain ⟨v, H', os, bare, un, hok', r', rfl⟩ := h
    obtain rfl : u = Value.bool true := r'
    refine ⟨rfl, OldK.of_keep fun b o e => ?_, os, bare⟩
    rcases hO b with z | ⟨ob, xs, z⟩
    · exact un.keep b o e z (fun y => absurd (show b ∈ ([] : List Addr) from y) (by simp)) (by simp)
    · have e1 := (hok b _ z).1
      rw [e] at e1
      cases e1
      exact (hok' b _ (un.frzs b _ _ z)).1
theorem law_at (KX : K.In s₁.heap) (hns : s₁.heap.Ns mainGlobals mg) (hb : s₁.heap.Ns builtinsNs mb) (hbb : ∀ y : Str, y ≠ "__name__" → mb y = bootBuiltins y) (hlim : s₁.heap.NoLimit) (hg : s₁.gens = #[])
    (ha : s₁.heap.get? a = some { cls := .type "list", data := .seq vs.toArray }) (hi : IntsAre vs ns) (hl : ns.length ≤ sizeLine)
    (F : ∀ base : Heap, K.In base → base.Ns mainGlobals mg → FnAt callerA P w K mg base CX0 fa fd [x] sp) (hbind : ∀ (s : Shared) (u : Value), BindsTo s fd ⟨[u], []⟩ [(x, u)])
    (hsp : ∀ H : Hp, Only H → SqL K H a (ns.map V.int) → sp [.ref a] H (fun v _ => v = .bl true) fun _ _ _ => False) :
    codeAny (model P w) callerA (.call (.ref fa) ⟨[.ref a], []⟩) (fun r s' => r = .ok (.ret (.bool true)) ∧ OldK s₁.heap s'.heap ∧ s'.os = s₁.os ∧ AllBare s'.gens) s₁ := by
  have rv := vals_ints hi
  cases hk : K.lookup a with
  | some o =>
    have e := KX a o hk
    rw [ha] at e
    cases e
    have hO : Only (fun _ => none) := fun _ => .inl rfl
    exact law_at0 KX hns hb hbb hlim hg ha F hbind hO (fun b u z => by cases z) (fun b z => absurd rfl z) (fun z => absurd rfl z)
      (hsp _ hO (.inr ⟨_, vs.toArray, _, hk, rfl, rfl, rfl, by rw [List.size_toArray, hi.length]; exact hl, by simpa using rv⟩))
  | none =>
    have same : upd (fun _ => none) a (.frz { cls := .type "list", data := .seq vs.toArray } (.lst (ns.map V.int))) a = some (.frz { cls := .type "list", data := .seq vs.toArray } (.lst (ns.map V.int))) := upd_same
    have hO : Only (upd (fun _ => none) a (.frz { cls := .type "list", data := .seq vs.toArray } (.lst (ns.map V.int)))) := fun b => by
      by_cases h : b = a
      · exact .inr ⟨_, _, by rw [h]; exact same⟩
      · exact .inl (by rw [upd_ne h])
    refine law_at0 KX hns hb hbb hlim hg ha F hbind hO (fun b u z => ?_) (fun b z => ?_) (fun _ => hk) (hsp _ hO (.inl (.inr ⟨_, same⟩)))
    · by_cases h : b = a
      · subst h
        rw [same] at z
        cases z
        exact ⟨ha, by rw [List.length_map]; exact hl, vs, _, rv, ha⟩
      · rw [upd_ne h] at z
        cases z
    · exact Classical.byContradiction fun h => z (by rw [upd_ne h])
end
/-- the end of a law's row -/
theorem walk_at {l : PySem.W.OpenLaw} {n : Nat} {q : Program} {loose : List Str} {XP : (Str → Option Value) → Heap → Prop} {YP : World → Heap → Prop} {d : DefRec} {K : Params → PySem.W.Frag} {sp : PySem.W.Frag → Sp} {x : Str}
    (hn : l.most = some n) (hn2 : n ≤ sizeLine) (hdf : d.params.defaults = []) (hY : ∀ (w : World) (h : Heap), YP w h → (K w.params).In h)
    (F : ∀ (w : World) (mg : Str → Option Value) (fa : Addr) (h : Heap), (K w.params).In h → h.Ns mainGlobals mg → mg d.name = some (.ref fa) →
      ∃ fd : FuncData, (∀ (s : Shared) (u : Value), BindsTo s fd ⟨[u], []⟩ [(x, u)]) ∧ ∀ base : Heap, (K w.params).In base → base.Ns mainGlobals mg → FnAt callerA l.prog w (K w.params) mg base CX0 fa fd [x] (sp (K w.params)))
    (hsp : ∀ (K : PySem.W.Frag) (H : Hp) (a : Addr) (ns : List Int), ns.length ≤ n → Only H → SqL K H a (ns.map V.int) → sp K [.ref a] H (fun v _ => v = .bl true) fun _ _ _ => False) :
    PySem.W.WalkO q loose XP YP l.row.toRowW d [] (fun f vs => PySem.call f vs) :=
  Att.attach_call hn hdf fun w s₀ s₁ mg mb fa o pm cd doc a vs ns G Y ho hd hcd hmg hobj hints hlen hg => by
    obtain ⟨fd, hb, hF⟩ := F w mg fa _ (hY w _ Y) G.T.g hmg
    exact law_at (hY w _ Y) G.T.g G.T.b G.T.builtins G.T.nolimit hg hobj hints (Nat.le_trans hlen hn2) hF hb fun H hO hS => hsp _ H a ns hlen hO hS
/-- C() of an own error class without an __init__ of its own -/
theorem pe_excP {X : Cx} {x : Str} {C : Addr} {p pos : Pos} {bmB : List Value} {B newId initId : String} (F : ExcBaseFacts B newId initId bmB) (q : PySem.W.excIn X.K C bmB newId = true) (kC : PySem.W.keepIn X.K (.ref C) = true) (hg : Gl X x) (hm : X.mg x = some (.ref C))
    (hdb : (x == ("__debug__" : Str)) = false := by decide) : PE X (.Call (.Name x p) [] [] pos) (fun _ H Q => ∀ a, H a = none → Q (.ref a) (upd H a (exo a C none))) := by
  refine ⟨fun pins s σ H Q I h => ?_⟩
  refine wpAny_Call_Name_kw (ld_glob I hg hm ?_ hdb)
  refine PySem.W.callWith_K0 I.kIn kC ?_
  show wpAny _ _ (call (.ref C) []) _ _ _
  obtain ⟨bm, N, nm, qn, bs, hdct, sn, sub, ab, col, dd, k0, k1, k2, k3, k5, mN, hC, hN, hni, T⟩ := exc_obj I.kIn q
  refine wpAny_call_exc_subT F T hC hN hni (fun h' a hm => ?_) (by show 0 ≤ sizeLine; decide)
  have hn : H a = none := I.hok.gone hm.new
  obtain ⟨t, ht, _, _⟩ := hm.there
  exact ⟨.ref a, upd H a (exo a C none), I.laidN hm.keeps hm.new hn (exo_ok ht), rfl, h a hn⟩
end Ev
set_option maxHeartbeats 4000000
namespace LawK
open PySem PySem.Spec PyProof.Rows L2 Ev
def R4 := SameX R3
theorem R4.mono : ∀ H H' x y, Same H H' → R4 H x y → R4 H' x y := SameX.mono R3.mono
theorem tIfS_same {tc : TT} {tb te : TS} {D : Ends} {σ : L2.St} {H : Hp} (h : ∀ (tb te : TS) (D : Ends), (∀ H', Same H H' → te D σ H') → tIfS tc tb te D σ H) (b : ∀ H', Same H H' → te D σ H') : tIfS tc tb te D σ H := h tb te D b
theorem lib_new {H3 H4 : Hp} {C b s dx : Addr} {ts : List Str} (ht : TsAt H3 b ts) (ns : H3 s = none) (ndx : H3 dx = none) (ndxs : dx ≠ s)
    (ha : H4 s = some (.ins C dx [("texts", .ref b)])) (ho : ∀ c u, c ≠ s → upd (upd H3 dx (.own s)) s (.ins C dx []) c = some u → H4 c = some u) : Same H3 H4 ∧ LibAt H4 C s ts := by
  have ka := Same.new (o := .own s) ndx
  have ns2 : upd H3 dx (.own s) s = none := by
    rw [upd_ne (Ne.symm ndxs)]
    exact ns
  have kb := ka.trans (Same.new (o := .ins C dx []) ns2)
  have k4 : Same H3 H4 := fun c u hc => ho c u (ne_of_none (ka _ _ hc) ns2) (kb _ _ hc)
  exact ⟨k4, ⟨dx, b, ha, k4 _ _ ht.at_⟩, ht.few, ht.sg, ht.len⟩
theorem lib_in {H3 : Hp} {C b s dx : Addr} {ts : List Str} (ht : TsAt H3 b ts) (ns : H3 s = none) (ndx : H3 dx = none) (ndxs : dx ≠ s) : upd (upd H3 dx (.own s)) s (.ins C dx []) b = some (.tup (ts.map V.str)) := by
  have ka := Same.new (o := .own s) ndx
  have ns2 : upd H3 dx (.own s) s = none := by
    rw [upd_ne (Ne.symm ndxs)]
    exact ns
  exact (ka.trans (Same.new (o := .ins C dx []) ns2)) _ _ ht.at_
theorem LibAt.but {H H' : Hp} {C s p l : Addr} {ts : List Str} (h : LibAt H C s ts) (hp : HandL H p l) (b : But p H H') : LibAt H' C s ts := by
  obtain ⟨⟨dx, a, h1, h2⟩, h3, h4, h5⟩ := h
  exact ⟨⟨dx, a, b _ _ (hand_ne hp h1 fun _ _ _ _ _ z => by cases z) h1, b _ _ (tup_ne hp h2) h2⟩, h3, h4, h5⟩
def spLaw (K : PySem.W.Frag) : Sp := fun vs H Q _ => ∃ (a : Addr) (ns : List Int), vs = [.ref a] ∧ SqL K H a (ns.map V.int) ∧ ∀ H', Q (.bl true) H'
theorem sm_le {ts : List Str} {m n : Nat} (h : ∀ t ∈ ts, t.length ≤ m) (hn : ts.length ≤ n) : sm ts ≤ n * m := by
  have : ∀ {ts : List Str}, (∀ t ∈ ts, t.length ≤ m) → sm ts ≤ ts.length * m := fun {ts} => by
    induction ts with
    | nil => intro _; exact Nat.zero_le _
    | cons x xs ih =>
      intro h
      have h1 := h x List.mem_cons_self
      have h2 := ih fun t ht => h t (List.mem_cons_of_mem _ ht)
      unfold sm at *
      rw [List.map_cons, List.sum_cons, List.length_cons, Nat.add_mul, Nat.one_mul]
      omega
  exact Nat.le_trans (this h) (Nat.mul_le_mul_right _ hn)
/-- library.texts != texts -/
theorem ne_texts {K : PySem.W.Frag} {H : Hp} {b a : Addr} {ts : List Str} (sg : ∀ t ∈ ts, sgB t = true) (hb : H b = some (.tup (ts.map V.str))) (ha : H a = some (.tup (ts.map V.str))) {Q : VK} (q : Q (.bl false) H) : rNeD K (.ref b) (.ref a) H Q := by
  refine ⟨.tuple (ts.map PyData.str), .tuple (ts.map PyData.str), .tup (SqT.of hb) (dp_strs ts), .tup (SqT.of ha) (dp_strs ts), shaped_strs sg, shaped_strs sg, ?_⟩
  have e : PyData.eqv (.tuple (ts.map PyData.str)) (.tuple (ts.map PyData.str)) = true := (eqv_strs ts ts).trans (decide_eq_true rfl)
  rw [e]
  exact q
abbrev sLaw : Stmt := topS 60
theorem scLaw : FnScope ["script", "hand", "texts", "library", "turn", "edit", "places", "ranks", "told", "numbers", "at", "most", "place"] ["script"] (defScope sLaw) := ⟨rfl, rfl, rfl, by decide +kernel, rfl, by decide +kernel, by decide +kernel⟩
section
variable {P : Program} {w : World} {K : PySem.W.Frag} {mg : Str → Option Value} {base : Heap}
variable {C fI : Addr} {fdI : FuncData}

theorem ok_law {f : Addr} {fd : FuncData} (F : Fun K "law" "law" sLaw f fd) {fPEdited : Addr} {fdPEdited : FuncData} (DPEdited : Dk P w K mg base "edited" sPEdited ["library", "edit"] 7 (spBehind C) fPEdited fdPEdited) {fPStaying : Addr} {fdPStaying : FuncData} (DPStaying : Dk P w K mg base "staying" sPStaying ["library", "edit"] 10 (spStaying C) fPStaying fdPStaying) {fPFewest : Addr} {fdPFewest : FuncData} (DPFewest : Dk P w K mg base "fewest_moves" sPFewest ["library", "edit"] 11 (spFewest C) fPFewest fdPFewest) {fHand : Addr} {fdHand : FuncData} (DHand : Dk P w K mg base "_law_hand" sHand ["script"] 1 (spHand K) fHand fdHand) {fDraw : Addr} {fdDraw : FuncData} (DDraw : Dk P w K mg base "_law_draw" sDraw ["hand", "many"] 1 spDraw fDraw fdDraw) {fIs : Addr} {fdIs : FuncData} (DIs : Dk P w K mg base "_law_is" sIs ["told", "due"] 5 (spIsR R4) fIs fdIs) {fTexts : Addr} {fdTexts : FuncData} (DTexts : Dk P w K mg base "_law_texts" sTexts ["hand", "most"] 5 spLTexts fTexts fdTexts) {fTextsBehind : Addr} {fdTextsBehind : FuncData} (DTextsBehind : Dk P w K mg base "_law_texts_behind" sTextsBehind ["texts", "edit"] 2 spTxBehind fTextsBehind fdTextsBehind) {fLEdit : Addr} {fdLEdit : FuncData} (DLEdit : Dk P w K mg base "_law_edit" sLEdit ["hand", "texts"] 5 spLEdit fLEdit fdLEdit) {fRanked : Addr} {fdRanked : FuncData} (DRanked : Dk P w K mg base "_law_ranked" sRanked ["texts", "edit"] 3 spRanked fRanked fdRanked) {fLongestRise : Addr} {fdLongestRise : FuncData} (DLongestRise : Dk P w K mg base "_law_longest_rise" sLongestRise ["numbers"] 1 spRise fLongestRise fdLongestRise) {fIsMoved : Addr} {fdIsMoved : FuncData} (DIsMoved : Dk P w K mg base "_law_is_moved" sIsMoved ["texts", "edit", "places", "told"] 3 spMoved fIsMoved fdIsMoved) (L : LibC K mg C fI fdI) (GI : FnOk P w K mg base (L2.CX P w) 4 fI fdI ["self", "texts"] (spLInit C))
    (T : Glob mg) : FnAt callerA P w K mg base CX0 f fd ["script"] (spLaw K) := by
  refine fun_at (k := 12) F scLaw ⟨rfl, by decide, by decide⟩ (fun vs H Q E h => ?_) (fun cdv outer s H vs Q E hr h => ?_)
  · obtain ⟨a, ns, rfl, _⟩ := h
    rfl
  · refine ⟨_, (pss_cons (ps_set (i := 1) scLaw.nd rfl (.inl rfl) (pe_call DHand.ok (hr.mono (by decide)) (by rfl) DHand.g DHand.F.kp DHand.b .nil pass0 (pa_cons (pv 0) pa_nil)))
      (pss_cons (ps_set (i := 2) scLaw.nd rfl (.inl rfl) (pe_call DTexts.ok (hr.mono (by decide)) (by rfl) DTexts.g DTexts.F.kp DTexts.b .nil pass0 (pa_cons (pv 1) (pa_cons pe_int pa_nil))))
      (pss_cons (ps_set (i := 3) scLaw.nd rfl (.inl rfl) (pe_mkS (E := fun _ => E0) L.mak GI (hr.mono (by decide)) (by rfl) L.g L.bI (fun σ => passL_at σ) (pa_cons (pv 2) pa_nil)))
      (pss_cons (ps_for PassesOwn.never rfl (pi_range1 (by rfl) T.range (pa_cons (pe_op op_add pe_int (pe_call DDraw.ok (hr.mono (by decide)) (by rfl) DDraw.g DDraw.F.kp DDraw.b .nil pass0 (pa_cons (pv 1) (pa_cons pe_int pa_nil)))) pa_nil)) (pg_name (i := 4) scLaw.nd rfl (.inl rfl))
      (pss_cons (ps_set (i := 5) scLaw.nd rfl (.inl rfl) (pe_call DLEdit.ok (hr.mono (by decide)) (by rfl) DLEdit.g DLEdit.F.kp DLEdit.b .nil pass0 (pa_cons (pv 1) (pa_cons (pv 2) pa_nil))))
        (pss_cons (ps_asg (pe_call DRanked.ok (hr.mono (by decide)) (by rfl) DRanked.g DRanked.F.kp DRanked.b .nil pass0 (pa_cons (pv 2) (pa_cons (pv 5) pa_nil))) (pg_tup (by rfl) (pgs_cons (pg_name (i := 6) scLaw.nd rfl (.inr rfl)) (pgs_cons (pg_name (i := 7) scLaw.nd rfl (.inl rfl)) pgs_nil))))
        (pss_cons (ps_set (i := 8) scLaw.nd rfl (.inl rfl) (pe_call DPStaying.ok (hr.mono (by decide)) (by rfl) DPStaying.g DPStaying.F.kp DPStaying.b .nil pass0 (pa_cons (pv 3) (pa_cons (pv 5) pa_nil))))
        (pss_cons (ps_if (PW.pt (pw_or (pt_not (pt_val (pe_callB call_isi (by rfl) T.isinstance PyProof.Rows.boot_isinstance (pa_cons (pv 8) (pa_cons (pe_bltn (v := .ty "tuple") (by rfl) T.tuple (by decide +kernel) rfl) pa_nil))))) (pw_or1 (pt_cmpR op_gt (pe_callB call_len_seq (by rfl) T.len PySem.boot_len (pa_cons (pe_lc (own := [("place", 12)]) (g := gName 12) (by rfl) scLaw.nd (pi_tup (pv 8)) (blkOk_by (N := ["script", "hand", "texts", "library", "turn", "edit", "places", "ranks", "told", "numbers", "at", "most", "place"]) (sc := defScope sLaw) (by decide +kernel)) (fun _ _ _ _ _ => pg_name (i := 12) scLaw.nd rfl (.inl rfl)) (fun _ _ _ _ _ => (pts_one (pt_cmpR (r := rNotInD K) (op_notInD (room1 hr)) (pv 12) (pv 6) rfl))) (fun _ _ _ _ _ => (pv 12))) pa_nil)) pe_int (nomark _)))))
        (pss_one (ps_ret pe_bl))
        pss_nil)
        (pss_cons (ps_setLc (i := 9) (own := [("place", 12)]) (g := gName 12) (te := tBM K "list" (rIxP K) (tVar 6) (tCons (tVar 12) tNil)) (by rfl) scLaw.nd rfl rfl (sw_true rfl rfl rfl (by decide +kernel)) (pi_tup (pv 8)) (blkOk_by (N := ["script", "hand", "texts", "library", "turn", "edit", "places", "ranks", "told", "numbers", "at", "most", "place"]) (sc := defScope sLaw) (by decide +kernel)) (fun _ _ _ _ _ => pg_name (i := 12) scLaw.nd rfl (.inl rfl)) (fun _ _ _ _ _ => pts_nil) (fun _ _ _ _ _ => (pe_bm (r := rIxP K) PySem.F.plainAttrs_list PySem.F.slot_list_index PySem.F.type_list_index (mt_indexP (hu64 hr)) (pv 6) (pa_cons (pv 12) pa_nil))))
        (pss_cons (ps_for PassesOwn.never rfl (pi_range2 (by rfl) T.range (pa_cons pe_int (pa_cons (pe_callB call_len_seq (by rfl) T.len PySem.boot_len (pa_cons (pv 8) pa_nil)) pa_nil))) (pg_name (i := 10) scLaw.nd rfl (.inl rfl))
        (pss_one (ps_if (PW.pt (pw_or (pt_cmpR op_ge (pe_ix ix_list (pv 9) (pe_op op_sub (pv 10) pe_int) (fun _ _ => rfl)) (pe_ix ix_list (pv 9) (pv 10) (fun _ _ => rfl)) (nomark _)) (pw_or1 (pt_cmpR op_ge (pe_ix ix_list (pv 7) (pe_ix ix_list (pv 9) (pe_op op_sub (pv 10) pe_int) (fun _ _ => rfl)) (fun _ _ => rfl)) (pe_ix ix_list (pv 7) (pe_ix ix_list (pv 9) (pv 10) (fun _ _ => rfl)) (fun _ _ => rfl)) (nomark _)))))
          (pss_one (ps_ret pe_bl))
          pss_nil)))
        (pss_cons (ps_set (i := 11) scLaw.nd rfl (.inl rfl) (pe_call DLongestRise.ok (hr.mono (by decide)) (by rfl) DLongestRise.g DLongestRise.F.kp DLongestRise.b .nil pass0 (pa_cons (pv 7) pa_nil)))
        (pss_cons (ps_if (PW.pt (pw_or (pt_cmpR op_ne (pe_callB call_len_seq (by rfl) T.len PySem.boot_len (pa_cons (pv 8) pa_nil)) (pv 11) (nomark _)) (pw_or1 (pt_not (pt_val (pe_call DIs.ok (hr.mono (by decide)) (by rfl) DIs.g DIs.F.kp DIs.b .nil pass0 (pa_cons (pe_call DPFewest.ok (hr.mono (by decide)) (by rfl) DPFewest.g DPFewest.F.kp DPFewest.b .nil pass0 (pa_cons (pv 3) (pa_cons (pv 5) pa_nil))) (pa_cons (pe_op op_sub (pe_callB call_len_seq (by rfl) T.len PySem.boot_len (pa_cons (pv 6) pa_nil)) (pv 11)) pa_nil))))))))
        (pss_one (ps_ret pe_bl))
        pss_nil)
        (pss_cons (ps_if (pt_not (pt_val (pe_call DIsMoved.ok (hr.mono (by decide)) (by rfl) DIsMoved.g DIsMoved.F.kp DIsMoved.b .nil pass0 (pa_cons (pv 2) (pa_cons (pv 5) (pa_cons (pv 6) (pa_cons (pv 8) pa_nil)))))))
        (pss_one (ps_ret pe_bl))
        pss_nil)
        (pss_cons (ps_set (i := 3) scLaw.nd rfl (.inl rfl) (pe_call DPEdited.ok (hr.mono (by decide)) (by rfl) DPEdited.g DPEdited.F.kp DPEdited.b .nil pass0 (pa_cons (pv 3) (pa_cons (pv 5) pa_nil))))
        (pss_one (ps_set (i := 2) scLaw.nd rfl (.inl rfl) (pe_call DTextsBehind.ok (hr.mono (by decide)) (by rfl) DTextsBehind.g DTextsBehind.F.kp DTextsBehind.b .nil pass0 (pa_cons (pv 2) (pa_cons (pv 5) pa_nil))))))))))))))))
      (pss_one (ps_ret pe_bl)))))), ?_⟩
    obtain ⟨a, ns, rfl, hS, q⟩ := h
    refine ⟨.ref a, rfl, a, ns, rfl, hS, fun p l H1 np nl h1 k1 => ?_⟩
    refine ⟨.ref p, rfl, p, 12, rfl, by decide, by decide, l, h1, fun ta0 ts0 H2 hta few2 sg2 len2 h2 b2 => ?_⟩
    obtain ⟨ta, ts, eqt, ht, hsm⟩ : ∃ ta ts, ta = ta0 ∧ TsAt H2 ta ts ∧ sm ts ≤ 96 := ⟨ta0, ts0, rfl, ⟨hta, few2, sg2, fun t h => by have := len2 t h; omega⟩, by
      have := sm_le (m := 12) (n := 8) (fun t h => by have := len2 t h; omega) few2
      omega⟩
    subst eqt
    have h4 := h2
    try dsimp only [tNext, tSeq, tAsg, gName, tDrop]
    refine ⟨.ref ta, rfl, fun s dx ns' ndx ndxs => ?_⟩
    refine ⟨s, dx, ta, ts, rfl, upd_same, lib_in ht ns' ndx ndxs, ht.few, ht.sg, ht.len, fun H5 ha5 ho5 => ⟨rfl, ?_⟩⟩
    obtain ⟨k5, hL⟩ := lib_new ht ns' ndx ndxs ha5 ho5
    have ht := ht.same k5
    have h4 := h4.same k5
    clear ha5 ho5 ns' ndx ndxs k5
    try dsimp only [tNext, tSeq, tAsg, gName, tDrop]
    refine ⟨.ref p, rfl, p, 3, rfl, by decide, by decide, l, h4, fun v H6 w0 w1 h6 b6 => ?_⟩
    have ht := ht.but h4 b6
    have hL := hL.but h4 b6
    have h4 := h6
    refine ⟨_, _, rfl, rfl, 1 + v, rfl, by omega, by omega, for_range (fun i σ H' => ∃ (u4 u5 u6 u7 u8 u9 u10 u11 u12 : Option V) (s ta : Addr) (ts : List Str), σ = [some (.ref a), some (.ref p), some (.ref ta), some (.ref s), u4, u5, u6, u7, u8, u9, u10, u11, u12] ∧ HandL H' p l ∧ TsAt H' ta ts ∧ LibAt H' C s ts ∧ sm ts ≤ 96 + 9 * i) ⟨_, _, _, _, _, _, _, _, _, s, ta, ts, rfl, h4, ht, hL, hsm⟩ ?_ ?_⟩
    · clear ht hL hsm h4 h6 b6
      rintro i σ H7 hi ⟨u4, u5, u6, u7, u8, u9, u10, u11, u12, s, ta, ts, rfl, h4, ht, hL, hsm⟩
      refine ⟨.ref p, rfl, .ref ta, rfl, p, ta, ts, 96 + 9 * i, rfl, ht, hsm, by omega, l, h4, fun e ed us H8 he hus h8 b8 => ?_⟩
      have ht := ht.but h4 b8
      have hL := hL.but h4 b8
      try dsimp only [tNext, tSeq, tAsg, gName, tDrop]
      refine ⟨.ref ta, rfl, .ref e, rfl, ta, e, ts, us, ed, rfl, ht, he, fun c A B vs H9 k9 hc hA hvs hB => ⟨c, _, rfl, SqT.of hc, rfl, _, _, rfl, _, _, rfl, rfl, ?_⟩⟩
      try dsimp only [tNext, tSeq, tAsg, gName, tDrop]
      refine ⟨.ref s, rfl, .ref e, rfl, s, e, ts, us, ed, rfl, hL.same k9, he.same k9, fun c2 ws ix qs H10 k10 nc2 hc2 hws htd => ?_⟩
      have ht := (ht.same k9).same k10
      have hL := (hL.same k9).same k10
      have he := (he.same k9).same k10
      have h10 := (h8.same k9).same k10
      have hA := k10 _ _ hA
      have hB := k10 _ _ hB
      have hvs := hvs.imp fun _ _ r => PAt.same k10 r
      clear hc k9 k10 nc2 b8
      have lvs := hvs.len
      have lws := hws.len
      have fewS : (styL ts ed).length ≤ 1600 := Nat.le_trans (List.length_filter_le _ _) (ord_few ht.few ht.len)
      have lq := htd.length
      have lqs : qs.length ≤ (styL ts ed).length := by
        have := rise_len htd.rise
        have l := htd.at_
        rw [l, List.length_map]
        exact this
      have eS : (sW ts us ed).map (fun r => ((r.b : Nat) : Int)) = (styL ts ed).map fun p => ((rkG ts us ed p : Nat) : Int) := by unfold sW; rw [List.map_map]; rfl
      try dsimp only [tNext, tSeq, tAsg, gName, tDrop]
      have inP : ∀ {j : Nat} {p : Pl}, qs[j]? = some p → p ∈ styL ts ed := fun h => by
        obtain ⟨j, -, e2, -⟩ := htd.get h
        exact List.mem_of_getElem? e2
      refine tIfS_same (fun tb te D Y => ⟨.ref c2, rfl, .ref c2, .ty "tuple", .type (Kn.name .tup), .type "tuple", kitB .tup .tup, rfl, .ty _, Kd.tyx (.tup hc2), kit_kn .tup .tup, _, rfl, ?_⟩) (fun H11 k11 => ?_)
      · dsimp only
        rw [show (!Ev.kitB Kn.tup Kn.tup) = false from rfl]
        refine iteF ⟨.ref c2, rfl, c2, rfl, ⟨_, SqT.of hc2⟩, fun D2 nD => lc_tup (xs := ws) (fun i H' => Same H10 H' ∧ H' D2 = some (.lst [])) ⟨Same.new nD, upd_same⟩ (fun i H' _ w => SqT.of (w.1 _ _ hc2)) ?_ ?_⟩
        · rintro j x H' hx ⟨k', hD⟩
          obtain ⟨p', ep, b1, rfl, hb1⟩ := hws.at hx
          refine ⟨rfl, .ref b1, rfl, .ref A, rfl, encQ p', (styL ts ed).map encQ, encQ_dp ⟨b1, rfl, k' _ _ hb1⟩, .lst (sq_of (k' _ _ hA)) (dp_pls (hvs.imp fun _ _ r => PAt.same k' r)), shaped_p p', shaped_pls _, _, rfl, ?_⟩
          rw [in_pls, decide_eq_true (inP ep)]
          exact iteF ⟨k', hD⟩
        · rintro H' ⟨k', hD⟩
          exact ⟨D2, _, rfl, .inl (sq_of hD), _, _, rfl, rfl, _, rfl, iteF (Y _ k')⟩
      have ht := ht.same k11
      have hL := hL.same k11
      have he := he.same k11
      have h10 := h10.same k11
      have hA := k11 _ _ hA
      have hB := k11 _ _ hB
      have hc2 := k11 _ _ hc2
      have hvs := hvs.imp fun _ _ r => PAt.same k11 r
      have hws := hws.imp fun _ _ r => PAt.same k11 r
      clear k11
      try dsimp only [tNext, tSeq, tAsg, gName, tDrop]
      refine ⟨.ref c2, rfl, c2, rfl, ⟨_, SqT.of hc2⟩, fun N nN => lc_tup (xs := ws) (fun i H' => Same H11 H' ∧ H' N = some (.lst ((ix.take i).map iJ))) ⟨Same.new nN, upd_same⟩ (fun i H' _ w => SqT.of (w.1 _ _ hc2)) ?_ ?_⟩
      · rintro j x H' hx ⟨k', hN⟩
        obtain ⟨p', ep, b1, rfl, hb1⟩ := hws.at hx
        obtain ⟨m, em, e2, -⟩ := htd.get ep
        refine ⟨rfl, .ref A, rfl, .inl ⟨rfl, _, sq_of (k' _ _ hA)⟩, .ref b1, rfl, A, vs, (styL ts ed).map cI, .ref b1, cI p', rfl, rfl, sq_of (k' _ _ hA), dps_pI (hvs.imp fun _ _ r => r.same k'), dp_pI ⟨b1, rfl, k' _ _ hb1⟩, List.mem_map.mpr ⟨_, inP ep, rfl⟩, by rw [List.length_map, sizeLine_eq]; omega, ?_⟩
        rw [idx_cI (sty_nd ts ed) e2]
        refine ⟨_, hN, ?_, sameAt k' nN, ?_⟩
        · have := (List.getElem?_eq_some_iff.mp em).1
          rw [List.length_map, List.length_take, sizeLine_eq]
          have := rise_len htd.rise
          omega
        · rw [upd_same, take_snoc em, List.map_append]
          rfl
      rintro H12 ⟨k12, hN⟩
      have lix : ws.length = ix.length := by
        rw [lws, htd.at_, List.length_map]
      rw [lix, List.take_length] at hN
      have ht := ht.same k12
      have hL := hL.same k12
      have he := he.same k12
      have h10 := h10.same k12
      have hA := k12 _ _ hA
      have hB := k12 _ _ hB
      have hc2 := k12 _ _ hc2
      have hws := hws.imp fun _ _ r => PAt.same k12 r
      clear k12 nN hvs inP
      try dsimp only [tNext, tSeq, tAsg, gName, tDrop]
      refine ⟨.ref c2, rfl, c2, _, rfl, .inr (SqT.of hc2), 1, _, rfl, ⟨by decide, by decide, by omega, by omega⟩, for_range (fun k σ H' => ∃ u10 : Option V, σ = [some (.ref a), some (.ref p), some (.ref ta), some (.ref s), some (.int (0 + (i : Int))), some (.ref e), some (.ref A), some (.ref B), some (.ref c2), some (.ref N), u10, u11, u12] ∧ H' = H12) ⟨_, rfl, rfl⟩ ?_ ?_⟩
      · rintro k σ H' hk ⟨u10', rfl, rfl⟩
        have hk2 : k + 1 < ix.length := by omega
        have ek := List.getElem?_eq_getElem (l := ix) (i := k) (by omega)
        have ek1 := List.getElem?_eq_getElem hk2
        obtain ⟨r1, r2⟩ := List.pairwise_iff_getElem.mp htd.rise.up k (k + 1) (by omega) hk2 (by omega)
        have i1 := htd.rise.inn _ (List.mem_of_getElem? ek)
        have i2 := htd.rise.inn _ (List.mem_of_getElem? ek1)
        generalize ix[k]'(by omega) = m1 at ek r1 r2 i1
        generalize ix[k + 1]'hk2 = m2 at ek1 r1 r2 i2
        have n1 : atI (ix.map iJ) (1 + (k : Int) - 1) = some (.int (m1 : Nat)) := by
          rw [show (1 + (k : Int) - 1) = ((k : Nat) : Int) by omega]
          exact atI_nat (by rw [List.getElem?_map, ek]; rfl)
        have n2 : atI (ix.map iJ) (1 + (k : Int)) = some (.int (m2 : Nat)) := by
          rw [show (1 + (k : Int)) = ((k + 1 : Nat) : Int) by omega]
          exact atI_nat (by rw [List.getElem?_map, ek1]; rfl)
        have gB : ∀ {m : Nat}, m < (styL ts ed).length → atI ((styL ts ed).map fun p => V.int ((rkG ts us ed p : Nat) : Int)) ((m : Nat) : Int) = some (.int (gSt ts us ed m)) := fun {m} hm => atI_nat (by
          unfold gSt gOf
          rw [eS, List.getElem?_map, List.getElem?_eq_getElem hm, List.getD_eq_getElem?_getD, List.getElem?_map, List.getElem?_eq_getElem hm]
          rfl)
        refine tIfS_of False (fun tb te D X Y => ⟨.ref N, rfl, _, rfl, _, _, rfl, rfl, N, _, _, _, rfl, rfl, sq_of hN, n1, .ref N, rfl, _, rfl, N, _, _, _, rfl, rfl, sq_of hN, n2, _, _, rfl, rfl, _, rfl, ?_⟩) (fun c => c.elim) (fun _ => ?_)
        · rw [decide_eq_false (show ¬ ((m2 : Nat) : Int) ≤ (m1 : Nat) by omega)]
          refine iteF ⟨.ref B, rfl, .ref N, rfl, _, rfl, _, _, rfl, rfl, N, _, _, _, rfl, rfl, sq_of hN, n1, B, _, _, _, rfl, rfl, sq_of hB, gB i1, .ref B, rfl, .ref N, rfl, _, rfl, N, _, _, _, rfl, rfl, sq_of hN, n2, B, _, _, _, rfl, rfl, sq_of hB, gB i2, _, _, rfl, rfl, _, rfl, ?_⟩
          rw [decide_eq_false (show ¬ gSt ts us ed m2 ≤ gSt ts us ed m1 by omega)]
          exact iteF (Y fun z => z)
        · exact ⟨_, rfl, rfl⟩
      rintro σ H' ⟨u10', rfl, rfl⟩
      try dsimp only [tNext, tSeq, tAsg, gName, tDrop]
      refine ⟨.ref B, rfl, B, (styL ts ed).map (fun p => ((rkG ts us ed p : Nat) : Int)), rfl, by rw [hB, List.map_map]; rfl, by rw [List.length_map]; exact fewS, fun H13 k13 => ?_⟩
      rw [List.length_map, ← eS]
      have em : (((ws.length : Nat) : Int)) = ((most (gSt ts us ed) (styL ts ed).length : Nat) : Int) := by rw [lws, lq]
      have ht := ht.same k13
      have hL := hL.same k13
      have he := he.same k13
      have h10 := h10.same k13
      have hA := k13 _ _ hA
      have hc2 := k13 _ _ hc2
      have hws := hws.imp fun _ _ r => PAt.same k13 r
      clear hB hN k13
      try dsimp only [tNext, tSeq, tAsg, gName, tDrop]
      refine tIfS_same (fun tb te D Y => ⟨.ref c2, rfl, c2, _, rfl, .inr (SqT.of hc2), iJ (most (gSt ts us ed) (styL ts ed).length), rfl, rfl, _, rfl, ?_⟩) (fun H14 k14 => ?_)
      · dsimp only [iJ]
        rw [em]
        refine ite2 (fun z => absurd z (by simp)) fun _ => ?_
        refine ⟨.ref s, rfl, .ref e, rfl, s, e, ts, us, ed, rfl, hL, he, fun H' k' => ⟨.ref A, rfl, A, _, rfl, .inl (sq_of (k' _ _ hA)), iJ (most (gSt ts us ed) (styL ts ed).length), rfl, _, _, rfl, rfl, _, _, rfl, ?_, fun H'' k'' => ⟨_, rfl, iteF (Y _ (k'.trans k''))⟩⟩⟩
        rw [lvs]
        exact .sc (.int _)
      have ht := ht.same k14
      have hL := hL.same k14
      have he := he.same k14
      have h10 := h10.same k14
      have hA := k14 _ _ hA
      have hc2 := k14 _ _ hc2
      have hws := hws.imp fun _ _ r => PAt.same k14 r
      clear k14
      try dsimp only [tNext, tSeq, tAsg, gName, tDrop]
      refine ⟨.ref ta, rfl, .ref e, rfl, .ref A, rfl, .ref c2, rfl, ta, e, A, c2, ts, us, ed, vs, ws, ix, qs, rfl, ht, he, hA, lvs, hc2, hws, htd, fun H15 k15 => ⟨_, rfl, iteF ?_⟩⟩
      have ht := ht.same k15
      have hL := hL.same k15
      have he := he.same k15
      have h10 := h10.same k15
      try dsimp only [tNext, tSeq, tAsg, gName, tDrop]
      refine ⟨.ref s, rfl, .ref e, rfl, s, e, ts, us, ed, rfl, hL, he.at_, he.ld, fun s2 H16 hL2 k16 _ => ?_⟩
      try dsimp only [tNext, tSeq, tAsg, gName, tDrop]
      refine ⟨.ref ta, rfl, .ref e, rfl, ta, e, ts, us, ed, rfl, ht.same k16, he.same k16, fun tb H17 k17 nb hb => ?_⟩
      exact ⟨_, _, _, _, _, _, _, _, _, s2, tb, us, rfl, (h10.same k16).same k17, hb, hL2.same k17, by omega⟩
    · rintro σ H7 ⟨u4, u5, u6, u7, u8, u9, u10, u11, u12, s, ta, ts, rfl, h4, ht, hL, hsm⟩
      exact q H7
end
end LawK
set_option maxHeartbeats 8000000
namespace LawK
open PySem PySem.Spec PyProof.Rows L2 Ev
structure Df (K : PySem.W.Frag) (mg : Str → Option Value) (x : Str) (st : Stmt) (ps : List Str) (f : Addr) (fd : FuncData) : Prop where
  F : Fun K x x st f fd
  b : Binds K fd ps []
  g : mg x = some (.ref f)
section
variable {P : Program} {w : World} {K : PySem.W.Frag} {mg : Str → Option Value} {h : Heap} {x : Str}
theorem df_mk {st : Stmt} {ps : List Str} {oc kV dc pm cd ct : Value} {od an : Option Addr} {sl : Array (Option Value)} {fa : Addr} (X : K.In h) (G : h.Ns mainGlobals mg)
    (hb : ∀ (kV doc pm : Value) (an : Option Addr) (cdv ct : Value) (us : List Value), us.length = ps.length → bindArgs (PySem.W.fnOf x x (defArgs st) (defBody st) (defScope st) .none kV doc pm an cdv ct) ⟨us, []⟩ = pure (ps.zip us))
    (a : PySem.W.nsIn K mainGlobals x = some (some (.ref fa))) (l : K.lookup fa = some ⟨oc, od, .func (PySem.W.fnOf x x (defArgs st) (defBody st) (defScope st) .none kV dc pm an cd ct), sl⟩)
    (ck : (PySem.W.codeIn K cd x && PySem.W.keepIn K (.ref fa)) = true) : ∃ fd, Df K mg x st ps fa fd := by
  obtain ⟨c1, c2⟩ := Bool.and_eq_true_iff.mp ck
  have F1 := fun_mk (st := st) l c1 c2
  exact ⟨_, F1, F1.binds (ps := ps) hb, PySem.W.mg_of X G a⟩
end
def chkL (K : PySem.W.Frag) (C fI : Addr) : Bool := PySem.W.makesIn K C && (PySem.W.isFn K (.ref fI) && (PySem.W.keepIn K (.ref C) && (PySem.W.plainGet K C Str.empty && (PySem.W.hasDictIn K C && (PySem.W.plainOver K C &&
  (decide (PySem.W.findIn K (.ref C) "__setattr__" = some (some (.builtin "object.__setattr__"))) && decide (PySem.W.findIn K (.ref C) "texts" = some none)))))))
theorem lib_mk {K : PySem.W.Frag} {mg : Str → Option Value} {h : Heap} {oc1 kV1 dc1 pm1 cd1 ct1 : Value} {od1 an1 : Option Addr} {sl1 : Array (Option Value)} {C fI : Addr} (X : K.In h) (G : h.Ns mainGlobals mg)
    (aC : PySem.W.nsIn K mainGlobals "Library" = some (some (.ref C))) (iC : PySem.W.findIn K (.ref C) "__init__" = some (some (.ref fI)))
    (lI : K.lookup fI = some ⟨oc1, od1, .func (PySem.W.fnOf "__init__" "Library.__init__" (defArgs sLInit) (defBody sLInit) (defScope sLInit) .none kV1 dc1 pm1 an1 cd1 ct1), sl1⟩)
    (c1 : (PySem.W.codeIn K cd1 "Library.__init__" && PySem.W.keepIn K (.ref fI)) = true) (ck : chkL K C fI = true) : ∃ fI fdI, LibC K mg C fI fdI := by
  obtain ⟨i1, i2⟩ := Bool.and_eq_true_iff.mp c1
  have FI := fun_mk (st := sLInit) lI i1 i2
  obtain ⟨h1, ck⟩ := Bool.and_eq_true_iff.mp ck
  obtain ⟨h2, ck⟩ := Bool.and_eq_true_iff.mp ck
  obtain ⟨h3, ck⟩ := Bool.and_eq_true_iff.mp ck
  obtain ⟨h4, ck⟩ := Bool.and_eq_true_iff.mp ck
  obtain ⟨h5, ck⟩ := Bool.and_eq_true_iff.mp ck
  obtain ⟨h6, ck⟩ := Bool.and_eq_true_iff.mp ck
  obtain ⟨h7, h8⟩ := Bool.and_eq_true_iff.mp ck
  have h8' := of_decide_eq_true h8
  exact ⟨_, _, ⟨h1, iC, h2, h3⟩, ⟨h4, h5, h6, of_decide_eq_true h7⟩, h8',
    FI, FI.binds (ps := ["self", "texts"]) (fun _ _ _ _ _ _ us hl => match us, hl with | [_, _], _ => rfl), PySem.W.mg_of X G aC⟩
theorem lk_eq {x : Str} {v : V} {l : List (Str × V)} : List.lookup x ((x, v) :: l) = some v := by
  rw [List.lookup_cons, beq_self_eq_true]
theorem lk_ne {x y : Str} (h : x ≠ y) {v : V} {l : List (Str × V)} : List.lookup x ((y, v) :: l) = List.lookup x l := by
  rw [List.lookup_cons, beq_false_of_ne h]
theorem sqt_k {K : PySem.W.Frag} {H : Hp} {a : Addr} {od : Option Addr} {its : List Value} {n : Nat} {sl : Array (Option Value)} {xs : List V} (l : K.lookup a = some ⟨.type "tuple", od, .seq its.toArray n, sl⟩) (hl : its.length ≤ 100) (v : Vals xs its) : SqT K H a xs :=
  .inr ⟨_, its.toArray, n, l, rfl, rfl, by rw [List.size_toArray]; exact Nat.le_trans hl (by decide), by simpa using v⟩
theorem forms_mk {K : PySem.W.Frag} {w : World} {mg : Str → Option Value} {h : Heap} {f a0 a1 a2 a3 a4 a5 a6 a7 : Addr} {od0 : Option Addr} {its0 : List Value} {n0 : Nat} {sl0 : Array (Option Value)} {od1 : Option Addr} {its1 : List Value} {n1 : Nat} {sl1 : Array (Option Value)} {od2 : Option Addr} {its2 : List Value} {n2 : Nat} {sl2 : Array (Option Value)} {od3 : Option Addr} {its3 : List Value} {n3 : Nat} {sl3 : Array (Option Value)} {od4 : Option Addr} {its4 : List Value} {n4 : Nat} {sl4 : Array (Option Value)} {od5 : Option Addr} {its5 : List Value} {n5 : Nat} {sl5 : Array (Option Value)} {od6 : Option Addr} {its6 : List Value} {n6 : Nat} {sl6 : Array (Option Value)} {od7 : Option Addr} {its7 : List Value} {n7 : Nat} {sl7 : Array (Option Value)} (X : K.In h) (G : h.Ns mainGlobals mg) (aF : PySem.W.nsIn K mainGlobals "FORMS" = some (some (.ref f))) (kd : KD K w f [(Str.ofString "put", V.ref a0), (Str.ofString "cut", V.ref a1), (Str.ofString "change", V.ref a2), (Str.ofString "come", V.ref a3), (Str.ofString "go", V.ref a4), (Str.ofString "split", V.ref a5), (Str.ofString "join", V.ref a6), (Str.ofString "move", V.ref a7)])
    (l0 : K.lookup a0 = some ⟨.type "tuple", od0, .seq its0.toArray n0, sl0⟩) (h0 : its0.length ≤ 100) (v0 : Vals (List.map V.str [kNum, kNum, kWord]) its0)
    (l1 : K.lookup a1 = some ⟨.type "tuple", od1, .seq its1.toArray n1, sl1⟩) (h1 : its1.length ≤ 100) (v1 : Vals (List.map V.str [kNum, kNum, kMany]) its1)
    (l2 : K.lookup a2 = some ⟨.type "tuple", od2, .seq its2.toArray n2, sl2⟩) (h2 : its2.length ≤ 100) (v2 : Vals (List.map V.str [kNum, kNum, kWord]) its2)
    (l3 : K.lookup a3 = some ⟨.type "tuple", od3, .seq its3.toArray n3, sl3⟩) (h3 : its3.length ≤ 100) (v3 : Vals (List.map V.str [kSigns]) its3)
    (l4 : K.lookup a4 = some ⟨.type "tuple", od4, .seq its4.toArray n4, sl4⟩) (h4 : its4.length ≤ 100) (v4 : Vals (List.map V.str []) its4)
    (l5 : K.lookup a5 = some ⟨.type "tuple", od5, .seq its5.toArray n5, sl5⟩) (h5 : its5.length ≤ 100) (v5 : Vals (List.map V.str [kNum, kNum]) its5)
    (l6 : K.lookup a6 = some ⟨.type "tuple", od6, .seq its6.toArray n6, sl6⟩) (h6 : its6.length ≤ 100) (v6 : Vals (List.map V.str [kNum, kNum]) its6)
    (l7 : K.lookup a7 = some ⟨.type "tuple", od7, .seq its7.toArray n7, sl7⟩) (h7 : its7.length ≤ 100) (v7 : Vals (List.map V.str [kNum, kNum, kMany, kNum, kNum]) its7) : ∃ kvs, FormsC K w mg f kvs := by
  refine ⟨_, kd, fun z hz => ?_, fun z ks hz => ?_, PySem.W.mg_of X G aF⟩
  · unfold kindsOf at hz
    have c0 : z ≠ Str.ofString "put" := fun e => by rw [if_pos e] at hz; cases hz
    rw [if_neg c0] at hz
    have c1 : z ≠ Str.ofString "cut" := fun e => by rw [if_pos e] at hz; cases hz
    rw [if_neg c1] at hz
    have c2 : z ≠ Str.ofString "change" := fun e => by rw [if_pos e] at hz; cases hz
    rw [if_neg c2] at hz
    have c3 : z ≠ Str.ofString "come" := fun e => by rw [if_pos e] at hz; cases hz
    rw [if_neg c3] at hz
    have c4 : z ≠ Str.ofString "go" := fun e => by rw [if_pos e] at hz; cases hz
    rw [if_neg c4] at hz
    have c5 : z ≠ Str.ofString "split" := fun e => by rw [if_pos e] at hz; cases hz
    rw [if_neg c5] at hz
    have c6 : z ≠ Str.ofString "join" := fun e => by rw [if_pos e] at hz; cases hz
    rw [if_neg c6] at hz
    have c7 : z ≠ Str.ofString "move" := fun e => by rw [if_pos e] at hz; cases hz
    rw [if_neg c7] at hz
    rw [lk_ne c0, lk_ne c1, lk_ne c2, lk_ne c3, lk_ne c4, lk_ne c5, lk_ne c6, lk_ne c7]
    rfl
  · unfold kindsOf at hz
    by_cases c0 : z = Str.ofString "put"
    · rw [if_pos c0] at hz
      cases hz
      subst c0
      exact ⟨a0, lk_eq, fun H => sqt_k l0 h0 v0⟩
    rw [if_neg c0] at hz
    by_cases c1 : z = Str.ofString "cut"
    · rw [if_pos c1] at hz
      cases hz
      subst c1
      exact ⟨a1, ((lk_ne (by decide +kernel)).trans lk_eq), fun H => sqt_k l1 h1 v1⟩
    rw [if_neg c1] at hz
    by_cases c2 : z = Str.ofString "change"
    · rw [if_pos c2] at hz
      cases hz
      subst c2
      exact ⟨a2, ((lk_ne (by decide +kernel)).trans ((lk_ne (by decide +kernel)).trans lk_eq)), fun H => sqt_k l2 h2 v2⟩
    rw [if_neg c2] at hz
    by_cases c3 : z = Str.ofString "come"
    · rw [if_pos c3] at hz
      cases hz
      subst c3
      exact ⟨a3, ((lk_ne (by decide +kernel)).trans ((lk_ne (by decide +kernel)).trans ((lk_ne (by decide +kernel)).trans lk_eq))), fun H => sqt_k l3 h3 v3⟩
    rw [if_neg c3] at hz
    by_cases c4 : z = Str.ofString "go"
    · rw [if_pos c4] at hz
      cases hz
      subst c4
      exact ⟨a4, ((lk_ne (by decide +kernel)).trans ((lk_ne (by decide +kernel)).trans ((lk_ne (by decide +kernel)).trans ((lk_ne (by decide +kernel)).trans lk_eq)))), fun H => sqt_k l4 h4 v4⟩
    rw [if_neg c4] at hz
    by_cases c5 : z = Str.ofString "split"
    · rw [if_pos c5] at hz
      cases hz
      subst c5
      exact ⟨a5, ((lk_ne (by decide +kernel)).trans ((lk_ne (by decide +kernel)).trans ((lk_ne (by decide +kernel)).trans ((lk_ne (by decide +kernel)).trans ((lk_ne (by decide +kernel)).trans lk_eq))))), fun H => sqt_k l5 h5 v5⟩
    rw [if_neg c5] at hz
    by_cases c6 : z = Str.ofString "join"
    · rw [if_pos c6] at hz
      cases hz
      subst c6
      exact ⟨a6, ((lk_ne (by decide +kernel)).trans ((lk_ne (by decide +kernel)).trans ((lk_ne (by decide +kernel)).trans ((lk_ne (by decide +kernel)).trans ((lk_ne (by decide +kernel)).trans ((lk_ne (by decide +kernel)).trans lk_eq)))))), fun H => sqt_k l6 h6 v6⟩
    rw [if_neg c6] at hz
    by_cases c7 : z = Str.ofString "move"
    · rw [if_pos c7] at hz
      cases hz
      subst c7
      exact ⟨a7, ((lk_ne (by decide +kernel)).trans ((lk_ne (by decide +kernel)).trans ((lk_ne (by decide +kernel)).trans ((lk_ne (by decide +kernel)).trans ((lk_ne (by decide +kernel)).trans ((lk_ne (by decide +kernel)).trans ((lk_ne (by decide +kernel)).trans lk_eq))))))), fun H => sqt_k l7 h7 v7⟩
    rw [if_neg c7] at hz
    cases hz
theorem makers_mk {K : PySem.W.Frag} {w : World} {mg : Str → Option Value} {h : Heap} {f : Addr} {fs : Fin 8 → Addr} (X : K.In h) (G : h.Ns mainGlobals mg) (aF : PySem.W.nsIn K mainGlobals "MAKERS" = some (some (.ref f))) (kd : KD K w f [(Str.ofString "put", V.ref (fs 0)), (Str.ofString "cut", V.ref (fs 1)), (Str.ofString "change", V.ref (fs 2)), (Str.ofString "come", V.ref (fs 3)), (Str.ofString "go", V.ref (fs 4)), (Str.ofString "split", V.ref (fs 5)), (Str.ofString "join", V.ref (fs 6)), (Str.ofString "move", V.ref (fs 7))]) : ∃ kvs, MakersC K w mg f kvs fs := by
  refine ⟨_, kd, fun e => ?_, PySem.W.mg_of X G aF⟩
  cases e with
  | put t a z =>
    show List.lookup (Str.ofString "put") _ = _
    exact lk_eq
  | cut t a n =>
    show List.lookup (Str.ofString "cut") _ = _
    exact ((lk_ne (by decide +kernel)).trans lk_eq)
  | change t a z =>
    show List.lookup (Str.ofString "change") _ = _
    exact ((lk_ne (by decide +kernel)).trans ((lk_ne (by decide +kernel)).trans lk_eq))
  | come z =>
    show List.lookup (Str.ofString "come") _ = _
    exact ((lk_ne (by decide +kernel)).trans ((lk_ne (by decide +kernel)).trans ((lk_ne (by decide +kernel)).trans lk_eq)))
  | go =>
    show List.lookup (Str.ofString "go") _ = _
    exact ((lk_ne (by decide +kernel)).trans ((lk_ne (by decide +kernel)).trans ((lk_ne (by decide +kernel)).trans ((lk_ne (by decide +kernel)).trans lk_eq))))
  | split t a =>
    show List.lookup (Str.ofString "split") _ = _
    exact ((lk_ne (by decide +kernel)).trans ((lk_ne (by decide +kernel)).trans ((lk_ne (by decide +kernel)).trans ((lk_ne (by decide +kernel)).trans ((lk_ne (by decide +kernel)).trans lk_eq)))))
  | join t u =>
    show List.lookup (Str.ofString "join") _ = _
    exact ((lk_ne (by decide +kernel)).trans ((lk_ne (by decide +kernel)).trans ((lk_ne (by decide +kernel)).trans ((lk_ne (by decide +kernel)).trans ((lk_ne (by decide +kernel)).trans ((lk_ne (by decide +kernel)).trans lk_eq))))))
  | move t a n u p =>
    show List.lookup (Str.ofString "move") _ = _
    exact ((lk_ne (by decide +kernel)).trans ((lk_ne (by decide +kernel)).trans ((lk_ne (by decide +kernel)).trans ((lk_ne (by decide +kernel)).trans ((lk_ne (by decide +kernel)).trans ((lk_ne (by decide +kernel)).trans ((lk_ne (by decide +kernel)).trans lk_eq)))))))
def fs8 (a b c d e f g h : Addr) : Fin 8 → Addr
  | 0 => a
  | 1 => b
  | 2 => c
  | 3 => d
  | 4 => e
  | 5 => f
  | 6 => g
  | 7 => h
theorem end_mk {P : Program} {w : World} {K : PySem.W.Frag} {mg : Str → Option Value} {h : Heap} {fa f  C  fPNumber fPSigns fPWord fPAllPlaces fQIsPart fQHasForm fQWithText fQTextsPut fQTextsCut fQTextsChanged fQTextsCome fQTextsGone fQTextsSplit fQTextsJoined fQTextsMoved fBehind fIsEdit fPEdited fQSteps fQTakenBy fQTakenOn fPAllTaken fPInOrder fPEndings fQRanks fQManyBelow fQRising fPStaying fPFewest fHand fDraw fIs fAnySign fSign fText fTexts fAdded fLBehind fTextsBehind fWord fLEdit fOrder fLTaken fRanked fLongestRise fIsMoved aF aM cB : Addr} {oc kV dc pm cd ct : Value} {od an : Option Addr} {sl : Array (Option Value)} (X : K.In h) (G : h.Ns mainGlobals mg) (hfa : mg "law" = some (.ref fa))
    (aL : PySem.W.nsIn K mainGlobals "law" = some (some (.ref f))) (lL : K.lookup f = some ⟨oc, od, .func (PySem.W.fnOf "law" "law" (defArgs sLaw) (defBody sLaw) (defScope sLaw) .none kV dc pm an cd ct), sl⟩) (ck : (PySem.W.codeIn K cd "law" && PySem.W.keepIn K (.ref f)) = true)
    {tMOST_TEXTS : Tok} (aMOST_TEXTS : PySem.W.nsIn K mainGlobals "MOST_TEXTS" = some (some (.int 8 tMOST_TEXTS)))
    {tMOST_SIGNS : Tok} (aMOST_SIGNS : PySem.W.nsIn K mainGlobals "MOST_SIGNS" = some (some (.int 2000 tMOST_SIGNS)))
    (DPNumber : ∃ fd, Df K mg "is_number" sPNumber ["thing"] fPNumber fd)
    (DPSigns : ∃ fd, Df K mg "is_signs" sPSigns ["thing"] fPSigns fd)
    (DPWord : ∃ fd, Df K mg "is_word" sPWord ["thing"] fPWord fd)
    (DPAllPlaces : ∃ fd, Df K mg "all_places" sPAllPlaces ["library"] fPAllPlaces fd)
    (DQIsPart : ∃ fd, Df K mg "_is_part" sQIsPart ["kind", "thing"] fQIsPart fd)
    (DQHasForm : ∃ fd, Df K mg "has_form" sQHasForm ["thing"] fQHasForm fd)
    (DQWithText : ∃ fd, Df K mg "_with_text" sQWithText ["texts", "number", "text"] fQWithText fd)
    (DQTextsPut : ∃ fd, Df K mg "_texts_put" sQTextsPut ["texts", "edit"] fQTextsPut fd)
    (DQTextsCut : ∃ fd, Df K mg "_texts_cut" sQTextsCut ["texts", "edit"] fQTextsCut fd)
    (DQTextsChanged : ∃ fd, Df K mg "_texts_changed" sQTextsChanged ["texts", "edit"] fQTextsChanged fd)
    (DQTextsCome : ∃ fd, Df K mg "_texts_come" sQTextsCome ["texts", "edit"] fQTextsCome fd)
    (DQTextsGone : ∃ fd, Df K mg "_texts_gone" sQTextsGone ["texts", "_"] fQTextsGone fd)
    (DQTextsSplit : ∃ fd, Df K mg "_texts_split" sQTextsSplit ["texts", "edit"] fQTextsSplit fd)
    (DQTextsJoined : ∃ fd, Df K mg "_texts_joined" sQTextsJoined ["texts", "edit"] fQTextsJoined fd)
    (DQTextsMoved : ∃ fd, Df K mg "_texts_moved" sQTextsMoved ["texts", "edit"] fQTextsMoved fd)
    (DBehind : ∃ fd, Df K mg "_library_behind" sBehind ["library", "thing"] fBehind fd)
    (DIsEdit : ∃ fd, Df K mg "is_edit" sIsEdit ["library", "thing"] fIsEdit fd)
    (DPEdited : ∃ fd, Df K mg "edited" sPEdited ["library", "edit"] fPEdited fd)
    (DQSteps : ∃ fd, Df K mg "_steps" sQSteps ["texts", "edit"] fQSteps fd)
    (DQTakenBy : ∃ fd, Df K mg "_taken_by" sQTakenBy ["step", "place"] fQTakenBy fd)
    (DQTakenOn : ∃ fd, Df K mg "_taken_on" sQTakenOn ["steps", "place"] fQTakenOn fd)
    (DPAllTaken : ∃ fd, Df K mg "all_taken" sPAllTaken ["library", "edit"] fPAllTaken fd)
    (DPInOrder : ∃ fd, Df K mg "in_order" sPInOrder ["library", "found"] fPInOrder fd)
    (DPEndings : ∃ fd, Df K mg "endings" sPEndings ["library"] fPEndings fd)
    (DQRanks : ∃ fd, Df K mg "_taken_ranks" sQRanks ["library", "edit"] fQRanks fd)
    (DQManyBelow : ∃ fd, Df K mg "_many_below" sQManyBelow ["numbers", "number"] fQManyBelow fd)
    (DQRising : ∃ fd, Df K mg "_longest_rising" sQRising ["numbers"] fQRising fd)
    (DPStaying : ∃ fd, Df K mg "staying" sPStaying ["library", "edit"] fPStaying fd)
    (DPFewest : ∃ fd, Df K mg "fewest_moves" sPFewest ["library", "edit"] fPFewest fd)
    (DHand : ∃ fd, Df K mg "_law_hand" sHand ["script"] fHand fd)
    (DDraw : ∃ fd, Df K mg "_law_draw" sDraw ["hand", "many"] fDraw fd)
    (DIs : ∃ fd, Df K mg "_law_is" sIs ["told", "due"] fIs fd)
    (DAnySign : ∃ fd, Df K mg "_law_any_sign" sAnySign ["hand"] fAnySign fd)
    (DSign : ∃ fd, Df K mg "_law_sign" sSign ["hand", "kind"] fSign fd)
    (DText : ∃ fd, Df K mg "_law_text" sText ["hand", "most"] fText fd)
    (DTexts : ∃ fd, Df K mg "_law_texts" sTexts ["hand", "most"] fTexts fd)
    (DAdded : ∃ fd, Df K mg "_law_added" sAdded ["edit"] fAdded fd)
    (DLBehind : ∃ fd, Df K mg "_law_behind" sLBehind ["rows", "edit", "added"] fLBehind fd)
    (DTextsBehind : ∃ fd, Df K mg "_law_texts_behind" sTextsBehind ["texts", "edit"] fTextsBehind fd)
    (DWord : ∃ fd, Df K mg "_law_word" sWord ["hand", "most"] fWord fd)
    (DLEdit : ∃ fd, Df K mg "_law_edit" sLEdit ["hand", "texts"] fLEdit fd)
    (DOrder : ∃ fd, Df K mg "_law_order" sOrder ["texts"] fOrder fd)
    (DLTaken : ∃ fd, Df K mg "_law_taken" sLTaken ["texts", "edit"] fLTaken fd)
    (DRanked : ∃ fd, Df K mg "_law_ranked" sRanked ["texts", "edit"] fRanked fd)
    (DLongestRise : ∃ fd, Df K mg "_law_longest_rise" sLongestRise ["numbers"] fLongestRise fd)
    (DIsMoved : ∃ fd, Df K mg "_law_is_moved" sIsMoved ["texts", "edit", "places", "told"] fIsMoved fd)
     (LL : ∃ fI fdI, LibC K mg C fI fdI) (FF : ∃ kvs, FormsC K w mg aF kvs) (MM : ∃ kvs, MakersC K w mg aM kvs (fs8 fQTextsPut fQTextsCut fQTextsChanged fQTextsCome fQTextsGone fQTextsSplit fQTextsJoined fQTextsMoved)) (aB : PySem.W.nsIn K mainGlobals "BadLibrary" = some (some (.ref cB))) (T : Glob mg) :
    ∃ fd : FuncData, (∀ (s : Shared) (u : Value), BindsTo s fd ⟨[u], []⟩ [("script", u)]) ∧ ∀ base : Heap, K.In base → base.Ns mainGlobals mg → FnAt callerA P w K mg base CX0 fa fd ["script"] (spLaw K) := by
  have e := hfa.symm.trans (PySem.W.mg_of X G aL)
  cases e
  obtain ⟨fI, fdI, L⟩ := LL
  obtain ⟨kvF, FC⟩ := FF
  obtain ⟨kvM, MC⟩ := MM
  obtain ⟨fdPNumber, DPNumber⟩ := DPNumber
  obtain ⟨fdPSigns, DPSigns⟩ := DPSigns
  obtain ⟨fdPWord, DPWord⟩ := DPWord
  obtain ⟨fdPAllPlaces, DPAllPlaces⟩ := DPAllPlaces
  obtain ⟨fdQIsPart, DQIsPart⟩ := DQIsPart
  obtain ⟨fdQHasForm, DQHasForm⟩ := DQHasForm
  obtain ⟨fdQWithText, DQWithText⟩ := DQWithText
  obtain ⟨fdQTextsPut, DQTextsPut⟩ := DQTextsPut
  obtain ⟨fdQTextsCut, DQTextsCut⟩ := DQTextsCut
  obtain ⟨fdQTextsChanged, DQTextsChanged⟩ := DQTextsChanged
  obtain ⟨fdQTextsCome, DQTextsCome⟩ := DQTextsCome
  obtain ⟨fdQTextsGone, DQTextsGone⟩ := DQTextsGone
  obtain ⟨fdQTextsSplit, DQTextsSplit⟩ := DQTextsSplit
  obtain ⟨fdQTextsJoined, DQTextsJoined⟩ := DQTextsJoined
  obtain ⟨fdQTextsMoved, DQTextsMoved⟩ := DQTextsMoved
  obtain ⟨fdBehind, DBehind⟩ := DBehind
  obtain ⟨fdIsEdit, DIsEdit⟩ := DIsEdit
  obtain ⟨fdPEdited, DPEdited⟩ := DPEdited
  obtain ⟨fdQSteps, DQSteps⟩ := DQSteps
  obtain ⟨fdQTakenBy, DQTakenBy⟩ := DQTakenBy
  obtain ⟨fdQTakenOn, DQTakenOn⟩ := DQTakenOn
  obtain ⟨fdPAllTaken, DPAllTaken⟩ := DPAllTaken
  obtain ⟨fdPInOrder, DPInOrder⟩ := DPInOrder
  obtain ⟨fdPEndings, DPEndings⟩ := DPEndings
  obtain ⟨fdQRanks, DQRanks⟩ := DQRanks
  obtain ⟨fdQManyBelow, DQManyBelow⟩ := DQManyBelow
  obtain ⟨fdQRising, DQRising⟩ := DQRising
  obtain ⟨fdPStaying, DPStaying⟩ := DPStaying
  obtain ⟨fdPFewest, DPFewest⟩ := DPFewest
  obtain ⟨fdHand, DHand⟩ := DHand
  obtain ⟨fdDraw, DDraw⟩ := DDraw
  obtain ⟨fdIs, DIs⟩ := DIs
  obtain ⟨fdAnySign, DAnySign⟩ := DAnySign
  obtain ⟨fdSign, DSign⟩ := DSign
  obtain ⟨fdText, DText⟩ := DText
  obtain ⟨fdTexts, DTexts⟩ := DTexts
  obtain ⟨fdAdded, DAdded⟩ := DAdded
  obtain ⟨fdLBehind, DLBehind⟩ := DLBehind
  obtain ⟨fdTextsBehind, DTextsBehind⟩ := DTextsBehind
  obtain ⟨fdWord, DWord⟩ := DWord
  obtain ⟨fdLEdit, DLEdit⟩ := DLEdit
  obtain ⟨fdOrder, DOrder⟩ := DOrder
  obtain ⟨fdLTaken, DLTaken⟩ := DLTaken
  obtain ⟨fdRanked, DRanked⟩ := DRanked
  obtain ⟨fdLongestRise, DLongestRise⟩ := DLongestRise
  obtain ⟨fdIsMoved, DIsMoved⟩ := DIsMoved
  obtain ⟨c1, c2⟩ := Bool.and_eq_true_iff.mp ck
  have F1 := fun_mk (st := sLaw) lL c1 c2
  refine ⟨PySem.W.fnOf "law" "law" (defArgs sLaw) (defBody sLaw) (defScope sLaw) .none kV dc pm an cd ct, fun s u => .of_eq rfl, fun base _ _ => ?_⟩
  have TPSigns : Dk P w K mg base "is_signs" sPSigns ["thing"] 1 spSg fPSigns fdPSigns := ⟨DPSigns.F, DPSigns.b, DPSigns.g, ok_PSigns DPSigns.F   (T := T)⟩
  have GI : FnOk P w K mg base (L2.CX P w) 4 fI fdI ["self", "texts"] (spLInit C) := ok_LInit L (PySem.W.mg_of X G aMOST_TEXTS) (PySem.W.mg_of X G aMOST_SIGNS) TPSigns T
  have TQWithText : Dk P w K mg base "_with_text" sQWithText ["texts", "number", "text"] 1 spWith fQWithText fdQWithText := ⟨DQWithText.F, DQWithText.b, DQWithText.g, ok_QWithText DQWithText.F   (T := T)⟩
  have TQTextsPut : Dk P w K mg base "_texts_put" sQTextsPut ["texts", "edit"] 2 spPut fQTextsPut fdQTextsPut := ⟨DQTextsPut.F, DQTextsPut.b, DQTextsPut.g, ok_QTextsPut DQTextsPut.F  (DQWithText := TQWithText) (T := T)⟩
  have TQTextsCut : Dk P w K mg base "_texts_cut" sQTextsCut ["texts", "edit"] 2 spCut fQTextsCut fdQTextsCut := ⟨DQTextsCut.F, DQTextsCut.b, DQTextsCut.g, ok_QTextsCut DQTextsCut.F  (DQWithText := TQWithText) (T := T)⟩
  have TQTextsChanged : Dk P w K mg base "_texts_changed" sQTextsChanged ["texts", "edit"] 2 spChange fQTextsChanged fdQTextsChanged := ⟨DQTextsChanged.F, DQTextsChanged.b, DQTextsChanged.g, ok_QTextsChanged DQTextsChanged.F  (DQWithText := TQWithText) (T := T)⟩
  have TQTextsCome : Dk P w K mg base "_texts_come" sQTextsCome ["texts", "edit"] 1 spCome fQTextsCome fdQTextsCome := ⟨DQTextsCome.F, DQTextsCome.b, DQTextsCome.g, ok_QTextsCome DQTextsCome.F   (T := T)⟩
  have TQTextsGone : Dk P w K mg base "_texts_gone" sQTextsGone ["texts", "_"] 1 spGone fQTextsGone fdQTextsGone := ⟨DQTextsGone.F, DQTextsGone.b, DQTextsGone.g, ok_QTextsGone DQTextsGone.F   (T := T)⟩
  have TQTextsSplit : Dk P w K mg base "_texts_split" sQTextsSplit ["texts", "edit"] 2 spSplit fQTextsSplit fdQTextsSplit := ⟨DQTextsSplit.F, DQTextsSplit.b, DQTextsSplit.g, ok_QTextsSplit DQTextsSplit.F  (DQWithText := TQWithText) (T := T)⟩
  have TQTextsJoined : Dk P w K mg base "_texts_joined" sQTextsJoined ["texts", "edit"] 2 spJoin fQTextsJoined fdQTextsJoined := ⟨DQTextsJoined.F, DQTextsJoined.b, DQTextsJoined.g, ok_QTextsJoined DQTextsJoined.F  (DQWithText := TQWithText) (T := T)⟩
  have TQTextsMoved : Dk P w K mg base "_texts_moved" sQTextsMoved ["texts", "edit"] 3 spMove fQTextsMoved fdQTextsMoved := ⟨DQTextsMoved.F, DQTextsMoved.b, DQTextsMoved.g, ok_QTextsMoved DQTextsMoved.F  (DQTextsPut := TQTextsPut) (DQTextsCut := TQTextsCut) (T := T)⟩
  have TPNumber : Dk P w K mg base "is_number" sPNumber ["thing"] 1 spNum fPNumber fdPNumber := ⟨DPNumber.F, DPNumber.b, DPNumber.g, ok_PNumber DPNumber.F   (T := T)⟩
  have TPWord : Dk P w K mg base "is_word" sPWord ["thing"] 2 spWd fPWord fdPWord := ⟨DPWord.F, DPWord.b, DPWord.g, ok_PWord DPWord.F  (DPSigns := TPSigns) (T := T)⟩
  have TQIsPart : Dk P w K mg base "_is_part" sQIsPart ["kind", "thing"] 3 spPart fQIsPart fdQIsPart := ⟨DQIsPart.F, DQIsPart.b, DQIsPart.g, ok_QIsPart DQIsPart.F  (DPNumber := TPNumber) (DPSigns := TPSigns) (DPWord := TPWord) (T := T)⟩
  have TQHasForm : Dk P w K mg base "has_form" sQHasForm ["thing"] 4 spForm fQHasForm fdQHasForm := ⟨DQHasForm.F, DQHasForm.b, DQHasForm.g, ok_QHasForm DQHasForm.F (DQIsPart := TQIsPart) (FC := FC) (T := T)⟩
  have TBehind : Dk P w K mg base "_library_behind" sBehind ["library", "thing"] 6 (spBehind C) fBehind fdBehind := ⟨DBehind.F, DBehind.b, DBehind.g, ok_Behind DBehind.F L (PySem.W.mg_of X G aB) GI (DQHasForm := TQHasForm) (DQTextsPut := TQTextsPut) (DQTextsCut := TQTextsCut) (DQTextsChanged := TQTextsChanged) (DQTextsCome := TQTextsCome) (DQTextsGone := TQTextsGone) (DQTextsSplit := TQTextsSplit) (DQTextsJoined := TQTextsJoined) (DQTextsMoved := TQTextsMoved) rfl rfl rfl rfl rfl rfl rfl rfl MC T⟩
  have TPEdited : Dk P w K mg base "edited" sPEdited ["library", "edit"] 7 (spBehind C) fPEdited fdPEdited := ⟨DPEdited.F, DPEdited.b, DPEdited.g, ok_PEdited DPEdited.F  (DBehind := TBehind) (T := T)⟩
  have TPAllPlaces : Dk P w K mg base "all_places" sPAllPlaces ["library"] 1 (spAllPlaces C) fPAllPlaces fdPAllPlaces := ⟨DPAllPlaces.F, DPAllPlaces.b, DPAllPlaces.g, ok_PAllPlaces DPAllPlaces.F (L := L)  (T := T)⟩
  have TIsEdit : Dk P w K mg base "is_edit" sIsEdit ["library", "thing"] 7 (spIsEdit C) fIsEdit fdIsEdit := ⟨DIsEdit.F, DIsEdit.b, DIsEdit.g, ok_IsEdit DIsEdit.F  (DBehind := TBehind) (T := T)⟩
  have TQSteps : Dk P w K mg base "_steps" sQSteps ["texts", "edit"] 1 spSteps fQSteps fdQSteps := ⟨DQSteps.F, DQSteps.b, DQSteps.g, ok_QSteps DQSteps.F   (T := T)⟩
  have TQTakenBy : Dk P w K mg base "_taken_by" sQTakenBy ["step", "place"] 1 spTakenBy fQTakenBy fdQTakenBy := ⟨DQTakenBy.F, DQTakenBy.b, DQTakenBy.g, ok_QTakenBy DQTakenBy.F   (T := T)⟩
  have TQTakenOn : Dk P w K mg base "_taken_on" sQTakenOn ["steps", "place"] 2 spTakenOn fQTakenOn fdQTakenOn := ⟨DQTakenOn.F, DQTakenOn.b, DQTakenOn.g, ok_QTakenOn DQTakenOn.F  (DQTakenBy := TQTakenBy) (T := T)⟩
  have TPAllTaken : Dk P w K mg base "all_taken" sPAllTaken ["library", "edit"] 8 (spAllTaken C) fPAllTaken fdPAllTaken := ⟨DPAllTaken.F, DPAllTaken.b, DPAllTaken.g, ok_PAllTaken DPAllTaken.F (L := L) (DPAllPlaces := TPAllPlaces) (DIsEdit := TIsEdit) (DQSteps := TQSteps) (DQTakenOn := TQTakenOn) (T := T)⟩
  have TPInOrder : Dk P w K mg base "in_order" sPInOrder ["library", "found"] 1 (spInOrder C) fPInOrder fdPInOrder := ⟨DPInOrder.F, DPInOrder.b, DPInOrder.g, ok_PInOrder DPInOrder.F (L := L)  (T := T)⟩
  have TPEndings : Dk P w K mg base "endings" sPEndings ["library"] 2 (spEndings C) fPEndings fdPEndings := ⟨DPEndings.F, DPEndings.b, DPEndings.g, ok_PEndings DPEndings.F  (DPAllPlaces := TPAllPlaces) (DPInOrder := TPInOrder) (T := T)⟩
  have TQRanks : Dk P w K mg base "_taken_ranks" sQRanks ["library", "edit"] 9 (spRanks C) fQRanks fdQRanks := ⟨DQRanks.F, DQRanks.b, DQRanks.g, ok_QRanks DQRanks.F  (DPAllPlaces := TPAllPlaces) (DPEdited := TPEdited) (DPAllTaken := TPAllTaken) (DPEndings := TPEndings) (T := T)⟩
  have TQManyBelow : Dk P w K mg base "_many_below" sQManyBelow ["numbers", "number"] 1 spBelow fQManyBelow fdQManyBelow := ⟨DQManyBelow.F, DQManyBelow.b, DQManyBelow.g, ok_QManyBelow DQManyBelow.F   (T := T)⟩
  have TQRising : Dk P w K mg base "_longest_rising" sQRising ["numbers"] 2 spRising fQRising fdQRising := ⟨DQRising.F, DQRising.b, DQRising.g, ok_QRising DQRising.F  (DQManyBelow := TQManyBelow) (T := T)⟩
  have TPStaying : Dk P w K mg base "staying" sPStaying ["library", "edit"] 10 (spStaying C) fPStaying fdPStaying := ⟨DPStaying.F, DPStaying.b, DPStaying.g, ok_PStaying DPStaying.F  (DQRanks := TQRanks) (DQRising := TQRising) (T := T)⟩
  have TPFewest : Dk P w K mg base "fewest_moves" sPFewest ["library", "edit"] 11 (spFewest C) fPFewest fdPFewest := ⟨DPFewest.F, DPFewest.b, DPFewest.g, ok_PFewest DPFewest.F  (DPAllTaken := TPAllTaken) (DPStaying := TPStaying) (T := T)⟩
  have THand : Dk P w K mg base "_law_hand" sHand ["script"] 1 (spHand K) fHand fdHand := ⟨DHand.F, DHand.b, DHand.g, ok_Hand DHand.F   (T := T)⟩
  have TDraw : Dk P w K mg base "_law_draw" sDraw ["hand", "many"] 1 spDraw fDraw fdDraw := ⟨DDraw.F, DDraw.b, DDraw.g, ok_Draw DDraw.F   (T := T)⟩
  have S0 : FnOk P w K mg base CX0 1 fIs fdIs ["told", "due"] (spIsR R0) := ⟨fun vs H Q E z => z.elim fun _ z => z.elim fun _ z => z.2.1.elim, fun A outer s H args us vs Q E _ _ _ _ z => z.elim fun _ z => z.elim fun _ z => z.2.1.elim⟩
  have S1 := ok_is_step R0.mono DIs.F DIs.b DIs.g S0 T
  have S2 := ok_is_step R1.mono DIs.F DIs.b DIs.g S1 T
  have S3 := ok_is_step R2.mono DIs.F DIs.b DIs.g S2 T
  have S4 := ok_is_step R3.mono DIs.F DIs.b DIs.g S3 T
  have TIs : Dk P w K mg base "_law_is" sIs ["told", "due"] 5 (spIsR R4) fIs fdIs := ⟨DIs.F, DIs.b, DIs.g, S4⟩
  have TAnySign : Dk P w K mg base "_law_any_sign" sAnySign ["hand"] 2 spAnySign fAnySign fdAnySign := ⟨DAnySign.F, DAnySign.b, DAnySign.g, ok_AnySign DAnySign.F  (DDraw := TDraw) (T := T)⟩
  have TSign : Dk P w K mg base "_law_sign" sSign ["hand", "kind"] 3 spSign fSign fdSign := ⟨DSign.F, DSign.b, DSign.g, ok_Sign DSign.F  (DDraw := TDraw) (DAnySign := TAnySign) (T := T)⟩
  have TText : Dk P w K mg base "_law_text" sText ["hand", "most"] 4 spLText fText fdText := ⟨DText.F, DText.b, DText.g, ok_Text DText.F  (DDraw := TDraw) (DSign := TSign) (T := T)⟩
  have TTexts : Dk P w K mg base "_law_texts" sTexts ["hand", "most"] 5 spLTexts fTexts fdTexts := ⟨DTexts.F, DTexts.b, DTexts.g, ok_Texts DTexts.F  (DDraw := TDraw) (DText := TText) (T := T)⟩
  have TAdded : Dk P w K mg base "_law_added" sAdded ["edit"] 1 spAdded fAdded fdAdded := ⟨DAdded.F, DAdded.b, DAdded.g, ok_Added DAdded.F   (T := T)⟩
  have TLBehind : Dk P w K mg base "_law_behind" sLBehind ["rows", "edit", "added"] 1 spLBehind fLBehind fdLBehind := ⟨DLBehind.F, DLBehind.b, DLBehind.g, ok_LBehind DLBehind.F   (T := T)⟩
  have TTextsBehind : Dk P w K mg base "_law_texts_behind" sTextsBehind ["texts", "edit"] 2 spTxBehind fTextsBehind fdTextsBehind := ⟨DTextsBehind.F, DTextsBehind.b, DTextsBehind.g, ok_TextsBehind DTextsBehind.F  (DAdded := TAdded) (DLBehind := TLBehind) (T := T)⟩
  have TWord : Dk P w K mg base "_law_word" sWord ["hand", "most"] 4 spLWord fWord fdWord := ⟨DWord.F, DWord.b, DWord.g, ok_Word DWord.F  (DDraw := TDraw) (DSign := TSign) (T := T)⟩
  have TLEdit : Dk P w K mg base "_law_edit" sLEdit ["hand", "texts"] 5 spLEdit fLEdit fdLEdit := ⟨DLEdit.F, DLEdit.b, DLEdit.g, ok_LEdit DLEdit.F  (DDraw := TDraw) (DSign := TSign) (DText := TText) (DWord := TWord) (T := T)⟩
  have TOrder : Dk P w K mg base "_law_order" sOrder ["texts"] 1 spLOrder fOrder fdOrder := ⟨DOrder.F, DOrder.b, DOrder.g, ok_Order DOrder.F   (T := T)⟩
  have TLTaken : Dk P w K mg base "_law_taken" sLTaken ["texts", "edit"] 2 spLTaken fLTaken fdLTaken := ⟨DLTaken.F, DLTaken.b, DLTaken.g, ok_LTaken DLTaken.F  (DAdded := TAdded) (DLBehind := TLBehind) (T := T)⟩
  have TRanked : Dk P w K mg base "_law_ranked" sRanked ["texts", "edit"] 3 spRanked fRanked fdRanked := ⟨DRanked.F, DRanked.b, DRanked.g, ok_Ranked DRanked.F  (DTextsBehind := TTextsBehind) (DOrder := TOrder) (DLTaken := TLTaken) (T := T)⟩
  have TLongestRise : Dk P w K mg base "_law_longest_rise" sLongestRise ["numbers"] 1 spRise fLongestRise fdLongestRise := ⟨DLongestRise.F, DLongestRise.b, DLongestRise.g, ok_LongestRise DLongestRise.F   (T := T)⟩
  have TIsMoved : Dk P w K mg base "_law_is_moved" sIsMoved ["texts", "edit", "places", "told"] 3 spMoved fIsMoved fdIsMoved := ⟨DIsMoved.F, DIsMoved.b, DIsMoved.g, ok_IsMoved DIsMoved.F  (DTextsBehind := TTextsBehind) (DOrder := TOrder) (DLTaken := TLTaken) (T := T)⟩
  exact ok_law F1 (DPEdited := TPEdited) (DPStaying := TPStaying) (DPFewest := TPFewest) (DHand := THand) (DDraw := TDraw) (DIs := TIs) (DTexts := TTexts) (DTextsBehind := TTextsBehind) (DLEdit := TLEdit) (DRanked := TRanked) (DLongestRise := TLongestRise) (DIsMoved := TIsMoved) (L := L) (GI := GI) (T := T)
end LawK
open PySem PySem.W PyProof.Rows L2
set_option maxRecDepth 100000 in
set_option maxHeartbeats 0 in
theorem PySem.Challenge.cw_everypiece_k14_whole_fewest_moves_holds : PySem.Challenge.rw_everypiece_k14_whole_fewest_moves.Holds := by
  w_on; o_law; k_head; (case hw => w_witness2)
  k_fill
  refine Ev.walk_at (l := PySem.Challenge.rw_everypiece_k14_whole_fewest_moves) (n := 63) (x := "script") (sp := LawK.spLaw) rfl (by decide) rfl (fun w h Y => PySem.W.kIn_of Y) ?F (fun K H a ns hl _ hS => ⟨a, ns, rfl, hS, fun _ => rfl⟩)
  case F =>
    intro w mg fa h KX G hmg
    have hfa : mg "law" = some (.ref fa) := hmg
    clear hmg
    refine LawK.say KX (fun K => LawK.Sh0 (PySem.W.OpenLaw.prog PySem.Challenge.rw_everypiece_k14_whole_fewest_moves) K mg) (by
      refine' LawK.sh0_mk KX G ?kq1a ?kq1b ?kq1c ?kq1d ?kq1e
      (case kq1a => k_is); (case kq1b => k_is); (case kq1c => k_is); (case kq1d => decide +kernel); (case kq1e => k_is)) ?_
    intro S
    refine LawK.say KX (fun K => ∃ fd, LawK.Df K mg "is_number" LawK.sPNumber ["thing"] 74 fd) (by
      refine' LawK.df_mk KX G (fun _ _ _ _ _ _ us hl => match us, hl with | [_], _ => rfl) ?kq2a ?kq2l ?kq2c
      (case kq2a => k_is); (case kq2l => k_is); (case kq2c => kernel_rfl)) ?_
    intro DPNumber
    refine LawK.say KX (fun K => ∃ fd, LawK.Df K mg "is_signs" LawK.sPSigns ["thing"] 81 fd) (by
      refine' LawK.df_mk KX G (fun _ _ _ _ _ _ us hl => match us, hl with | [_], _ => rfl) ?kq3a ?kq3l ?kq3c
      (case kq3a => k_is); (case kq3l => k_is); (case kq3c => kernel_rfl)) ?_
    intro DPSigns
    refine LawK.say KX (fun K => ∃ fd, LawK.Df K mg "is_word" LawK.sPWord ["thing"] 88 fd) (by
      refine' LawK.df_mk KX G (fun _ _ _ _ _ _ us hl => match us, hl with | [_], _ => rfl) ?kq4a ?kq4l ?kq4c
      (case kq4a => k_is); (case kq4l => k_is); (case kq4c => kernel_rfl)) ?_
    intro DPWord
    refine LawK.say KX (fun K => ∃ fd, LawK.Df K mg "all_places" LawK.sPAllPlaces ["library"] 119 fd) (by
      refine' LawK.df_mk KX G (fun _ _ _ _ _ _ us hl => match us, hl with | [_], _ => rfl) ?kq5a ?kq5l ?kq5c
      (case kq5a => k_is); (case kq5l => k_is); (case kq5c => kernel_rfl)) ?_
    intro DPAllPlaces
    refine LawK.say KX (fun K => ∃ fd, LawK.Df K mg "_is_part" LawK.sQIsPart ["kind", "thing"] 135 fd) (by
      refine' LawK.df_mk KX G (fun _ _ _ _ _ _ us hl => match us, hl with | [_, _], _ => rfl) ?kq6a ?kq6l ?kq6c
      (case kq6a => k_is); (case kq6l => k_is); (case kq6c => kernel_rfl)) ?_
    intro DQIsPart
    refine LawK.say KX (fun K => ∃ fd, LawK.Df K mg "has_form" LawK.sQHasForm ["thing"] 140 fd) (by
      refine' LawK.df_mk KX G (fun _ _ _ _ _ _ us hl => match us, hl with | [_], _ => rfl) ?kq7a ?kq7l ?kq7c
      (case kq7a => k_is); (case kq7l => k_is); (case kq7c => kernel_rfl)) ?_
    intro DQHasForm
    refine LawK.say KX (fun K => ∃ fd, LawK.Df K mg "_with_text" LawK.sQWithText ["texts", "number", "text"] 147 fd) (by
      refine' LawK.df_mk KX G (fun _ _ _ _ _ _ us hl => match us, hl with | [_, _, _], _ => rfl) ?kq8a ?kq8l ?kq8c
      (case kq8a => k_is); (case kq8l => k_is); (case kq8c => kernel_rfl)) ?_
    intro DQWithText
    refine LawK.say KX (fun K => ∃ fd, LawK.Df K mg "_texts_put" LawK.sQTextsPut ["texts", "edit"] 154 fd) (by
      refine' LawK.df_mk KX G (fun _ _ _ _ _ _ us hl => match us, hl with | [_, _], _ => rfl) ?kq9a ?kq9l ?kq9c
      (case kq9a => k_is); (case kq9l => k_is); (case kq9c => kernel_rfl)) ?_
    intro DQTextsPut
    refine LawK.say KX (fun K => ∃ fd, LawK.Df K mg "_texts_cut" LawK.sQTextsCut ["texts", "edit"] 161 fd) (by
      refine' LawK.df_mk KX G (fun _ _ _ _ _ _ us hl => match us, hl with | [_, _], _ => rfl) ?kq10a ?kq10l ?kq10c
      (case kq10a => k_is); (case kq10l => k_is); (case kq10c => kernel_rfl)) ?_
    intro DQTextsCut
    refine LawK.say KX (fun K => ∃ fd, LawK.Df K mg "_texts_changed" LawK.sQTextsChanged ["texts", "edit"] 168 fd) (by
      refine' LawK.df_mk KX G (fun _ _ _ _ _ _ us hl => match us, hl with | [_, _], _ => rfl) ?kq11a ?kq11l ?kq11c
      (case kq11a => k_is); (case kq11l => k_is); (case kq11c => kernel_rfl)) ?_
    intro DQTextsChanged
    refine LawK.say KX (fun K => ∃ fd, LawK.Df K mg "_texts_come" LawK.sQTextsCome ["texts", "edit"] 175 fd) (by
      refine' LawK.df_mk KX G (fun _ _ _ _ _ _ us hl => match us, hl with | [_, _], _ => rfl) ?kq12a ?kq12l ?kq12c
      (case kq12a => k_is); (case kq12l => k_is); (case kq12c => kernel_rfl)) ?_
    intro DQTextsCome
    refine LawK.say KX (fun K => ∃ fd, LawK.Df K mg "_texts_gone" LawK.sQTextsGone ["texts", "_"] 182 fd) (by
      refine' LawK.df_mk KX G (fun _ _ _ _ _ _ us hl => match us, hl with | [_, _], _ => rfl) ?kq13a ?kq13l ?kq13c
      (case kq13a => k_is); (case kq13l => k_is); (case kq13c => kernel_rfl)) ?_
    intro DQTextsGone
    refine LawK.say KX (fun K => ∃ fd, LawK.Df K mg "_texts_split" LawK.sQTextsSplit ["texts", "edit"] 189 fd) (by
      refine' LawK.df_mk KX G (fun _ _ _ _ _ _ us hl => match us, hl with | [_, _], _ => rfl) ?kq14a ?kq14l ?kq14c
      (case kq14a => k_is); (case kq14l => k_is); (case kq14c => kernel_rfl)) ?_
    intro DQTextsSplit
    refine LawK.say KX (fun K => ∃ fd, LawK.Df K mg "_texts_joined" LawK.sQTextsJoined ["texts", "edit"] 196 fd) (by
      refine' LawK.df_mk KX G (fun _ _ _ _ _ _ us hl => match us, hl with | [_, _], _ => rfl) ?kq15a ?kq15l ?kq15c
      (case kq15a => k_is); (case kq15l => k_is); (case kq15c => kernel_rfl)) ?_
    intro DQTextsJoined
    refine LawK.say KX (fun K => ∃ fd, LawK.Df K mg "_texts_moved" LawK.sQTextsMoved ["texts", "edit"] 203 fd) (by
      refine' LawK.df_mk KX G (fun _ _ _ _ _ _ us hl => match us, hl with | [_, _], _ => rfl) ?kq16a ?kq16l ?kq16c
      (case kq16a => k_is); (case kq16l => k_is); (case kq16c => kernel_rfl)) ?_
    intro DQTextsMoved
    refine LawK.say KX (fun K => ∃ fd, LawK.Df K mg "_library_behind" LawK.sBehind ["library", "thing"] 211 fd) (by
      refine' LawK.df_mk KX G (fun _ _ _ _ _ _ us hl => match us, hl with | [_, _], _ => rfl) ?kq17a ?kq17l ?kq17c
      (case kq17a => k_is); (case kq17l => k_is); (case kq17c => kernel_rfl)) ?_
    intro DBehind
    refine LawK.say KX (fun K => ∃ fd, LawK.Df K mg "is_edit" LawK.sIsEdit ["library", "thing"] 218 fd) (by
      refine' LawK.df_mk KX G (fun _ _ _ _ _ _ us hl => match us, hl with | [_, _], _ => rfl) ?kq18a ?kq18l ?kq18c
      (case kq18a => k_is); (case kq18l => k_is); (case kq18c => kernel_rfl)) ?_
    intro DIsEdit
    refine LawK.say KX (fun K => ∃ fd, LawK.Df K mg "edited" LawK.sPEdited ["library", "edit"] 225 fd) (by
      refine' LawK.df_mk KX G (fun _ _ _ _ _ _ us hl => match us, hl with | [_, _], _ => rfl) ?kq19a ?kq19l ?kq19c
      (case kq19a => k_is); (case kq19l => k_is); (case kq19c => kernel_rfl)) ?_
    intro DPEdited
    refine LawK.say KX (fun K => ∃ fd, LawK.Df K mg "_steps" LawK.sQSteps ["texts", "edit"] 232 fd) (by
      refine' LawK.df_mk KX G (fun _ _ _ _ _ _ us hl => match us, hl with | [_, _], _ => rfl) ?kq20a ?kq20l ?kq20c
      (case kq20a => k_is); (case kq20l => k_is); (case kq20c => kernel_rfl)) ?_
    intro DQSteps
    refine LawK.say KX (fun K => ∃ fd, LawK.Df K mg "_taken_by" LawK.sQTakenBy ["step", "place"] 239 fd) (by
      refine' LawK.df_mk KX G (fun _ _ _ _ _ _ us hl => match us, hl with | [_, _], _ => rfl) ?kq21a ?kq21l ?kq21c
      (case kq21a => k_is); (case kq21l => k_is); (case kq21c => kernel_rfl)) ?_
    intro DQTakenBy
    refine LawK.say KX (fun K => ∃ fd, LawK.Df K mg "_taken_on" LawK.sQTakenOn ["steps", "place"] 246 fd) (by
      refine' LawK.df_mk KX G (fun _ _ _ _ _ _ us hl => match us, hl with | [_, _], _ => rfl) ?kq22a ?kq22l ?kq22c
      (case kq22a => k_is); (case kq22l => k_is); (case kq22c => kernel_rfl)) ?_
    intro DQTakenOn
    refine LawK.say KX (fun K => ∃ fd, LawK.Df K mg "all_taken" LawK.sPAllTaken ["library", "edit"] 253 fd) (by
      refine' LawK.df_mk KX G (fun _ _ _ _ _ _ us hl => match us, hl with | [_, _], _ => rfl) ?kq23a ?kq23l ?kq23c
      (case kq23a => k_is); (case kq23l => k_is); (case kq23c => kernel_rfl)) ?_
    intro DPAllTaken
    refine LawK.say KX (fun K => ∃ fd, LawK.Df K mg "in_order" LawK.sPInOrder ["library", "found"] 258 fd) (by
      refine' LawK.df_mk KX G (fun _ _ _ _ _ _ us hl => match us, hl with | [_, _], _ => rfl) ?kq24a ?kq24l ?kq24c
      (case kq24a => k_is); (case kq24l => k_is); (case kq24c => kernel_rfl)) ?_
    intro DPInOrder
    refine LawK.say KX (fun K => ∃ fd, LawK.Df K mg "endings" LawK.sPEndings ["library"] 265 fd) (by
      refine' LawK.df_mk KX G (fun _ _ _ _ _ _ us hl => match us, hl with | [_], _ => rfl) ?kq25a ?kq25l ?kq25c
      (case kq25a => k_is); (case kq25l => k_is); (case kq25c => kernel_rfl)) ?_
    intro DPEndings
    refine LawK.say KX (fun K => ∃ fd, LawK.Df K mg "_taken_ranks" LawK.sQRanks ["library", "edit"] 270 fd) (by
      refine' LawK.df_mk KX G (fun _ _ _ _ _ _ us hl => match us, hl with | [_, _], _ => rfl) ?kq26a ?kq26l ?kq26c
      (case kq26a => k_is); (case kq26l => k_is); (case kq26c => kernel_rfl)) ?_
    intro DQRanks
    refine LawK.say KX (fun K => ∃ fd, LawK.Df K mg "_many_below" LawK.sQManyBelow ["numbers", "number"] 277 fd) (by
      refine' LawK.df_mk KX G (fun _ _ _ _ _ _ us hl => match us, hl with | [_, _], _ => rfl) ?kq27a ?kq27l ?kq27c
      (case kq27a => k_is); (case kq27l => k_is); (case kq27c => kernel_rfl)) ?_
    intro DQManyBelow
    refine LawK.say KX (fun K => ∃ fd, LawK.Df K mg "_longest_rising" LawK.sQRising ["numbers"] 284 fd) (by
      refine' LawK.df_mk KX G (fun _ _ _ _ _ _ us hl => match us, hl with | [_], _ => rfl) ?kq28a ?kq28l ?kq28c
      (case kq28a => k_is); (case kq28l => k_is); (case kq28c => kernel_rfl)) ?_
    intro DQRising
    refine LawK.say KX (fun K => ∃ fd, LawK.Df K mg "staying" LawK.sPStaying ["library", "edit"] 289 fd) (by
      refine' LawK.df_mk KX G (fun _ _ _ _ _ _ us hl => match us, hl with | [_, _], _ => rfl) ?kq29a ?kq29l ?kq29c
      (case kq29a => k_is); (case kq29l => k_is); (case kq29c => kernel_rfl)) ?_
    intro DPStaying
    refine LawK.say KX (fun K => ∃ fd, LawK.Df K mg "fewest_moves" LawK.sPFewest ["library", "edit"] 296 fd) (by
      refine' LawK.df_mk KX G (fun _ _ _ _ _ _ us hl => match us, hl with | [_, _], _ => rfl) ?kq30a ?kq30l ?kq30c
      (case kq30a => k_is); (case kq30l => k_is); (case kq30c => kernel_rfl)) ?_
    intro DPFewest
    refine LawK.say KX (fun K => ∃ fd, LawK.Df K mg "_law_hand" LawK.sHand ["script"] 301 fd) (by
      refine' LawK.df_mk KX G (fun _ _ _ _ _ _ us hl => match us, hl with | [_], _ => rfl) ?kq31a ?kq31l ?kq31c
      (case kq31a => k_is); (case kq31l => k_is); (case kq31c => kernel_rfl)) ?_
    intro DHand
    refine LawK.say KX (fun K => ∃ fd, LawK.Df K mg "_law_draw" LawK.sDraw ["hand", "many"] 308 fd) (by
      refine' LawK.df_mk KX G (fun _ _ _ _ _ _ us hl => match us, hl with | [_, _], _ => rfl) ?kq32a ?kq32l ?kq32c
      (case kq32a => k_is); (case kq32l => k_is); (case kq32c => kernel_rfl)) ?_
    intro DDraw
    refine LawK.say KX (fun K => ∃ fd, LawK.Df K mg "_law_is" LawK.sIs ["told", "due"] 313 fd) (by
      refine' LawK.df_mk KX G (fun _ _ _ _ _ _ us hl => match us, hl with | [_, _], _ => rfl) ?kq33a ?kq33l ?kq33c
      (case kq33a => k_is); (case kq33l => k_is); (case kq33c => kernel_rfl)) ?_
    intro DIs
    refine LawK.say KX (fun K => ∃ fd, LawK.Df K mg "_law_any_sign" LawK.sAnySign ["hand"] 320 fd) (by
      refine' LawK.df_mk KX G (fun _ _ _ _ _ _ us hl => match us, hl with | [_], _ => rfl) ?kq34a ?kq34l ?kq34c
      (case kq34a => k_is); (case kq34l => k_is); (case kq34c => kernel_rfl)) ?_
    intro DAnySign
    refine LawK.say KX (fun K => ∃ fd, LawK.Df K mg "_law_sign" LawK.sSign ["hand", "kind"] 327 fd) (by
      refine' LawK.df_mk KX G (fun _ _ _ _ _ _ us hl => match us, hl with | [_, _], _ => rfl) ?kq35a ?kq35l ?kq35c
      (case kq35a => k_is); (case kq35l => k_is); (case kq35c => kernel_rfl)) ?_
    intro DSign
    refine LawK.say KX (fun K => ∃ fd, LawK.Df K mg "_law_text" LawK.sText ["hand", "most"] 332 fd) (by
      refine' LawK.df_mk KX G (fun _ _ _ _ _ _ us hl => match us, hl with | [_, _], _ => rfl) ?kq36a ?kq36l ?kq36c
      (case kq36a => k_is); (case kq36l => k_is); (case kq36c => kernel_rfl)) ?_
    intro DText
    refine LawK.say KX (fun K => ∃ fd, LawK.Df K mg "_law_texts" LawK.sTexts ["hand", "most"] 339 fd) (by
      refine' LawK.df_mk KX G (fun _ _ _ _ _ _ us hl => match us, hl with | [_, _], _ => rfl) ?kq37a ?kq37l ?kq37c
      (case kq37a => k_is); (case kq37l => k_is); (case kq37c => kernel_rfl)) ?_
    intro DTexts
    refine LawK.say KX (fun K => ∃ fd, LawK.Df K mg "_law_added" LawK.sAdded ["edit"] 346 fd) (by
      refine' LawK.df_mk KX G (fun _ _ _ _ _ _ us hl => match us, hl with | [_], _ => rfl) ?kq38a ?kq38l ?kq38c
      (case kq38a => k_is); (case kq38l => k_is); (case kq38c => kernel_rfl)) ?_
    intro DAdded
    refine LawK.say KX (fun K => ∃ fd, LawK.Df K mg "_law_behind" LawK.sLBehind ["rows", "edit", "added"] 351 fd) (by
      refine' LawK.df_mk KX G (fun _ _ _ _ _ _ us hl => match us, hl with | [_, _, _], _ => rfl) ?kq39a ?kq39l ?kq39c
      (case kq39a => k_is); (case kq39l => k_is); (case kq39c => kernel_rfl)) ?_
    intro DLBehind
    refine LawK.say KX (fun K => ∃ fd, LawK.Df K mg "_law_texts_behind" LawK.sTextsBehind ["texts", "edit"] 356 fd) (by
      refine' LawK.df_mk KX G (fun _ _ _ _ _ _ us hl => match us, hl with | [_, _], _ => rfl) ?kq40a ?kq40l ?kq40c
      (case kq40a => k_is); (case kq40l => k_is); (case kq40c => kernel_rfl)) ?_
    intro DTextsBehind
    refine LawK.say KX (fun K => ∃ fd, LawK.Df K mg "_law_word" LawK.sWord ["hand", "most"] 361 fd) (by
      refine' LawK.df_mk KX G (fun _ _ _ _ _ _ us hl => match us, hl with | [_, _], _ => rfl) ?kq41a ?kq41l ?kq41c
      (case kq41a => k_is); (case kq41l => k_is); (case kq41c => kernel_rfl)) ?_
    intro DWord
    refine LawK.say KX (fun K => ∃ fd, LawK.Df K mg "_law_edit" LawK.sLEdit ["hand", "texts"] 366 fd) (by
      refine' LawK.df_mk KX G (fun _ _ _ _ _ _ us hl => match us, hl with | [_, _], _ => rfl) ?kq42a ?kq42l ?kq42c
      (case kq42a => k_is); (case kq42l => k_is); (case kq42c => kernel_rfl)) ?_
    intro DLEdit
    refine LawK.say KX (fun K => ∃ fd, LawK.Df K mg "_law_order" LawK.sOrder ["texts"] 371 fd) (by
      refine' LawK.df_mk KX G (fun _ _ _ _ _ _ us hl => match us, hl with | [_], _ => rfl) ?kq43a ?kq43l ?kq43c
      (case kq43a => k_is); (case kq43l => k_is); (case kq43c => kernel_rfl)) ?_
    intro DOrder
    refine LawK.say KX (fun K => ∃ fd, LawK.Df K mg "_law_taken" LawK.sLTaken ["texts", "edit"] 376 fd) (by
      refine' LawK.df_mk KX G (fun _ _ _ _ _ _ us hl => match us, hl with | [_, _], _ => rfl) ?kq44a ?kq44l ?kq44c
      (case kq44a => k_is); (case kq44l => k_is); (case kq44c => kernel_rfl)) ?_
    intro DLTaken
    refine LawK.say KX (fun K => ∃ fd, LawK.Df K mg "_law_ranked" LawK.sRanked ["texts", "edit"] 381 fd) (by
      refine' LawK.df_mk KX G (fun _ _ _ _ _ _ us hl => match us, hl with | [_, _], _ => rfl) ?kq45a ?kq45l ?kq45c
      (case kq45a => k_is); (case kq45l => k_is); (case kq45c => kernel_rfl)) ?_
    intro DRanked
    refine LawK.say KX (fun K => ∃ fd, LawK.Df K mg "_law_longest_rise" LawK.sLongestRise ["numbers"] 386 fd) (by
      refine' LawK.df_mk KX G (fun _ _ _ _ _ _ us hl => match us, hl with | [_], _ => rfl) ?kq46a ?kq46l ?kq46c
      (case kq46a => k_is); (case kq46l => k_is); (case kq46c => kernel_rfl)) ?_
    intro DLongestRise
    refine LawK.say KX (fun K => ∃ fd, LawK.Df K mg "_law_is_moved" LawK.sIsMoved ["texts", "edit", "places", "told"] 391 fd) (by
      refine' LawK.df_mk KX G (fun _ _ _ _ _ _ us hl => match us, hl with | [_, _, _, _], _ => rfl) ?kq47a ?kq47l ?kq47c
      (case kq47a => k_is); (case kq47l => k_is); (case kq47c => kernel_rfl)) ?_
    intro DIsMoved
    refine LawK.say KX (fun K => ∃ fI fdI, LawK.LibC K mg 110 fI fdI) (by
      refine' LawK.lib_mk KX G ?kq48a ?kq48b ?kq48d ?kq48f ?kq48i
      (case kq48a => k_is); (case kq48b => k_is); (case kq48d => k_is); (case kq48f => kernel_rfl); (case kq48i => kernel_rfl)) ?_
    intro LL
    refine LawK.say KX (fun K => Ev.KD K w 120 [(PySem.Str.ofString "put", L2.V.ref 121), (PySem.Str.ofString "cut", L2.V.ref 122), (PySem.Str.ofString "change", L2.V.ref 123), (PySem.Str.ofString "come", L2.V.ref 124), (PySem.Str.ofString "go", L2.V.ref 125), (PySem.Str.ofString "split", L2.V.ref 126), (PySem.Str.ofString "join", L2.V.ref 127), (PySem.Str.ofString "move", L2.V.ref 128)]) (by
      refine' Ev.kd_mk ?kq49l ?kq49m ?kq49c
      (case kq49l => k_is); (case kq49m => rfl); (case kq49c => exact (.cons rfl (.cons rfl (.cons rfl (.cons rfl (.cons rfl (.cons rfl (.cons rfl (.cons rfl .nil)))))))))) ?_
    intro KF
    refine LawK.say KX (fun K => Ev.KD K w 204 [(PySem.Str.ofString "put", L2.V.ref ((LawK.fs8 154 161 168 175 182 189 196 203) 0)), (PySem.Str.ofString "cut", L2.V.ref ((LawK.fs8 154 161 168 175 182 189 196 203) 1)), (PySem.Str.ofString "change", L2.V.ref ((LawK.fs8 154 161 168 175 182 189 196 203) 2)), (PySem.Str.ofString "come", L2.V.ref ((LawK.fs8 154 161 168 175 182 189 196 203) 3)), (PySem.Str.ofString "go", L2.V.ref ((LawK.fs8 154 161 168 175 182 189 196 203) 4)), (PySem.Str.ofString "split", L2.V.ref ((LawK.fs8 154 161 168 175 182 189 196 203) 5)), (PySem.Str.ofString "join", L2.V.ref ((LawK.fs8 154 161 168 175 182 189 196 203) 6)), (PySem.Str.ofString "move", L2.V.ref ((LawK.fs8 154 161 168 175 182 189 196 203) 7))]) (by
      refine' Ev.kd_mk ?kq49n ?kq49o ?kq49p
      (case kq49n => k_is); (case kq49o => rfl); (case kq49p => exact (.cons rfl (.cons rfl (.cons rfl (.cons rfl (.cons rfl (.cons rfl (.cons rfl (.cons rfl .nil)))))))))) ?_
    intro KM
    refine LawK.say KX (fun K => ∃ kvs, LawK.FormsC K w mg 120 kvs) (by
      refine' LawK.forms_mk KX G ?kq50a KF ?kq50l0 ?kq50h0 ?kq50v0 ?kq50l1 ?kq50h1 ?kq50v1 ?kq50l2 ?kq50h2 ?kq50v2 ?kq50l3 ?kq50h3 ?kq50v3 ?kq50l4 ?kq50h4 ?kq50v4 ?kq50l5 ?kq50h5 ?kq50v5 ?kq50l6 ?kq50h6 ?kq50v6 ?kq50l7 ?kq50h7 ?kq50v7
      (case kq50a => k_is); (case kq50l0 => k_is); (case kq50h0 => decide); (case kq50v0 => exact (.cons ⟨_, rfl⟩ (.cons ⟨_, rfl⟩ (.cons ⟨_, rfl⟩ .nil)))); (case kq50l1 => k_is); (case kq50h1 => decide); (case kq50v1 => exact (.cons ⟨_, rfl⟩ (.cons ⟨_, rfl⟩ (.cons ⟨_, rfl⟩ .nil)))); (case kq50l2 => k_is); (case kq50h2 => decide); (case kq50v2 => exact (.cons ⟨_, rfl⟩ (.cons ⟨_, rfl⟩ (.cons ⟨_, rfl⟩ .nil)))); (case kq50l3 => k_is); (case kq50h3 => decide); (case kq50v3 => exact (.cons ⟨_, rfl⟩ .nil)); (case kq50l4 => k_is); (case kq50h4 => decide); (case kq50v4 => exact .nil); (case kq50l5 => k_is); (case kq50h5 => decide); (case kq50v5 => exact (.cons ⟨_, rfl⟩ (.cons ⟨_, rfl⟩ .nil))); (case kq50l6 => k_is); (case kq50h6 => decide); (case kq50v6 => exact (.cons ⟨_, rfl⟩ (.cons ⟨_, rfl⟩ .nil))); (case kq50l7 => k_is); (case kq50h7 => decide); (case kq50v7 => exact (.cons ⟨_, rfl⟩ (.cons ⟨_, rfl⟩ (.cons ⟨_, rfl⟩ (.cons ⟨_, rfl⟩ (.cons ⟨_, rfl⟩ .nil))))))) ?_
    intro FF
    refine LawK.say KX (fun K => ∃ kvs, LawK.MakersC K w mg 204 kvs (LawK.fs8 154 161 168 175 182 189 196 203)) (by
      refine' LawK.makers_mk KX G ?kq51a KM
      (case kq51a => k_is)) ?_
    intro MM
    have GL : LawK.Glob mg := ⟨mg_none_of KX G (by k_is), mg_none_of KX G (by k_is), mg_none_of KX G (by k_is), mg_none_of KX G (by k_is), mg_none_of KX G (by k_is), mg_none_of KX G (by k_is), mg_none_of KX G (by k_is), mg_none_of KX G (by k_is), mg_none_of KX G (by k_is), mg_none_of KX G (by k_is), mg_none_of KX G (by k_is), mg_none_of KX G (by k_is), mg_none_of KX G (by k_is), mg_none_of KX G (by k_is), mg_none_of KX G (by k_is), mg_none_of KX G (by k_is), mg_none_of KX G (by k_is), mg_none_of KX G (by k_is), mg_none_of KX G (by k_is), mg_none_of KX G (by k_is)⟩
    refine' LawK.end_mk KX G hfa ?kq52a ?kq52l ?kq52c ?kq52b ?kq52d DPNumber DPSigns DPWord DPAllPlaces DQIsPart DQHasForm DQWithText DQTextsPut DQTextsCut DQTextsChanged DQTextsCome DQTextsGone DQTextsSplit DQTextsJoined DQTextsMoved DBehind DIsEdit DPEdited DQSteps DQTakenBy DQTakenOn DPAllTaken DPInOrder DPEndings DQRanks DQManyBelow DQRising DPStaying DPFewest DHand DDraw DIs DAnySign DSign DText DTexts DAdded DLBehind DTextsBehind DWord DLEdit DOrder DLTaken DRanked DLongestRise DIsMoved  LL FF MM ?kq52r GL
    (case kq52a => k_is); (case kq52l => k_is); (case kq52c => kernel_rfl); (case kq52r => k_is); (case kq52b => k_is); (case kq52d => k_is)
