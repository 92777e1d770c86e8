import PyProof.Rows.All
import PyFlatLaws
import Wide.All
import OpenK.AllK
import Wide.FinOn
import Open.SpecLaws
import KE.OsGo
import KE.KTupSum
import KE.GoesMore
import KE.GoesZip
import KE.GoesEnum
import HandS.ForSpec
import HandS.ForMost
import HandS.Walk
import HandS.Zip
import HandS.TupAny
import HandS.Steps
import PySem.Challenge.RW_icehouse_s01_answers
set_option Elab.async false
set_option linter.all false
set_option maxRecDepth 100000
set_option maxHeartbeats 4000000
/-! The table of the specification: what stands in it, by its own recursion. Core Lean alone. -/
namespace Ice
open Mu42

def Ok (h : Heap) : Prop := ∀ x ∈ h, x ≤ HIGH

theorem Ok.cons {x : Nat} {h : Heap} (o : Ok (x :: h)) : x ≤ HIGH ∧ Ok h :=
  ⟨o x (List.mem_cons_self ..), fun y hy => o y (List.mem_cons_of_mem _ hy)⟩
theorem Ok.mk {x : Nat} {h : Heap} (a : x ≤ HIGH) (o : Ok h) : Ok (x :: h) := fun y hy => by
  rcases List.mem_cons.mp hy with e | e
  · subst e; exact a
  · exact o y e
theorem Ok.nil : Ok [] := fun _ h => nomatch h

theorem code_lt : ∀ {h : Heap}, Ok h → code h < (HIGH + 1) ^ h.length
  | [], _ => by decide
  | x :: h, o => by
    have e := code_lt o.cons.2
    have a := o.cons.1
    show x + (HIGH + 1) * code h < (HIGH + 1) ^ (h.length + 1)
    rw [Nat.pow_succ]
    have q : (HIGH + 1) * (code h + 1) ≤ (HIGH + 1) * (HIGH + 1) ^ h.length := Nat.mul_le_mul_left _ e
    rw [Nat.mul_comm ((HIGH + 1) ^ h.length)]
    rw [Nat.mul_add] at q
    omega
theorem heapOf_code : ∀ {h : Heap}, Ok h → heapOf h.length (code h) = h
  | [], _ => rfl
  | x :: h, o => by
    have a := o.cons.1
    show (x + (HIGH + 1) * code h) % (HIGH + 1) :: heapOf h.length ((x + (HIGH + 1) * code h) / (HIGH + 1)) = x :: h
    have e1 : (x + (HIGH + 1) * code h) % (HIGH + 1) = x := by
      rw [Nat.add_mul_mod_self_left]
      exact Nat.mod_eq_of_lt (by omega)
    have e2 : (x + (HIGH + 1) * code h) / (HIGH + 1) = code h := by
      rw [Nat.add_mul_div_left _ _ (by decide : 0 < HIGH + 1), Nat.div_eq_of_lt (by omega)]
      omega
    rw [e1, e2, heapOf_code o.cons.2]

theorem taken_cons_zero (x : Nat) (h : Heap) : taken (x :: h) 0 = (x - 1) :: h := rfl
theorem taken_cons_succ (x : Nat) (h : Heap) (i : Nat) : taken (x :: h) (i + 1) = x :: taken h i := by
  simp [taken]
theorem taken_length (h : Heap) (i : Nat) : (taken h i).length = h.length := by simp [taken]
theorem code_taken : ∀ {h : Heap} {i : Nat}, h.getD i 0 ≠ 0 → code (taken h i) < code h
  | [], i, n => by simp at n
  | x :: h, 0, n => by
    rw [taken_cons_zero]
    show x - 1 + (HIGH + 1) * code h < x + (HIGH + 1) * code h
    have : x ≠ 0 := by simpa using n
    omega
  | x :: h, i + 1, n => by
    rw [taken_cons_succ]
    have e := code_taken (h := h) (i := i) (by simpa using n)
    show x + (HIGH + 1) * code (taken h i) < x + (HIGH + 1) * code h
    have := Nat.mul_lt_mul_of_pos_left e (show 0 < HIGH + 1 by decide)
    omega
theorem Ok.taken {h : Heap} (o : Ok h) (i : Nat) : Ok (taken h i) := fun x hx => by
  unfold Mu42.taken at hx
  rcases List.mem_or_eq_of_mem_set hx with e | e
  · exact o x e
  · subst e
    by_cases q : i < h.length
    · rw [List.getD_eq_getElem?_getD, List.getElem?_eq_getElem q]
      have := o _ (List.getElem_mem q)
      simp only [Option.getD_some]
      omega
    · rw [List.getD_eq_getElem?_getD, List.getElem?_eq_none (by omega)]
      exact Nat.zero_le _
theorem some_mem {h : Heap} {i : Nat} : i ∈ some_ h ↔ i < h.length ∧ h.getD i 0 ≠ 0 := by
  unfold some_
  rw [List.mem_filter, List.mem_range]
  simp

/-! ### an array that is filled by what stands in it so far -/
def fill {β : Type} (F : Array β → Nat → β) (n : Nat) : Array β := (List.range n).foldl (fun t m => t.push (F t m)) #[]
theorem fill_succ {β : Type} (F : Array β → Nat → β) (n : Nat) : fill F (n + 1) = (fill F n).push (F (fill F n) n) := by
  unfold fill
  rw [List.range_succ, List.foldl_append]
  rfl
theorem fill_size {β : Type} (F : Array β → Nat → β) : ∀ n, (fill F n).size = n
  | 0 => rfl
  | n + 1 => by rw [fill_succ, Array.size_push, fill_size F n]
theorem fill_getD {β : Type} (F : Array β → Nat → β) (d : β) : ∀ n m, m < n → (fill F n).getD m d = F (fill F m) m
  | 0, m, h => absurd h (Nat.not_lt_zero _)
  | n + 1, m, h => by
    rw [fill_succ]
    by_cases e : m = n
    · subst e
      have e2 : (fill F m).size = m := fill_size F m
      simp [Array.getD, fill_size, Array.getElem_push, e2]
    · have hlt : m < n := by omega
      have ih := fill_getD F d n m hlt
      rw [← ih]
      simp [Array.getD, fill_size, hlt, show m < n + 1 by omega, Array.getElem_push, fill_size]
theorem fill_agree {β : Type} (F : Array β → Nat → β) (d : β) {n m p : Nat} (h1 : p < m) (h2 : m ≤ n) : (fill F m).getD p d = (fill F n).getD p d := by
  rw [fill_getD F d m p h1, fill_getD F d n p (by omega)]

/-- what the specification does with a heap, over what is known of smaller ones -/
def way (s : Straw) (B : Heap → Nat × Nat) (h : Heap) (i : Nat) : Nat × Nat := (faces (taken h i) s + (B (taken h i)).1, (B (taken h i)).2)
def least (l : List (Nat × Nat)) : Nat × Nat := (l.foldl (fun m x => choose m (some x)) none).getD (0, 1)

def entry (k : Nat) (s : Straw) (t : Best) (n : Nat) : Nat × Nat := least ((some_ (heapOf k n)).map (after s t (heapOf k n)))
theorem table_fill (k : Nat) (s : Straw) : table k s = fill (entry k s) ((HIGH + 1) ^ k) := by
  unfold table fill
  congr 1
  funext t n
  show Array.push t _ = Array.push t _
  congr 1
  unfold entry least
  rw [List.foldl_map]
theorem best_rec {h : Heap} (o : Ok h) (s : Straw) : best h s = least ((some_ h).map (way s (fun g => best g s) h)) := by
  have e1 : best h s = (fill (entry h.length s) ((HIGH + 1) ^ h.length)).getD (code h) (0, 0) := by
    unfold best
    rw [table_fill]
  rw [e1, fill_getD _ _ _ _ (code_lt o)]
  unfold entry
  rw [heapOf_code o]
  congr 1
  apply List.map_congr_left
  intro i hi
  have q := (some_mem.mp hi).2
  show (faces (Mu42.taken h i) s + ((fill (entry h.length s) (code h)).getD (code (Mu42.taken h i)) (0, 0)).1, ((fill (entry h.length s) (code h)).getD (code (Mu42.taken h i)) (0, 0)).2) = (faces (Mu42.taken h i) s + (best (Mu42.taken h i) s).1, (best (Mu42.taken h i) s).2)
  have e2 : best (Mu42.taken h i) s = (fill (entry h.length s) ((HIGH + 1) ^ h.length)).getD (code (Mu42.taken h i)) (0, 0) := by
    unfold best
    rw [table_fill, taken_length]
  rw [e2, fill_agree _ _ (code_taken q) (Nat.le_of_lt (code_lt o))]
/-- the table's entry of a heap is its best -/
theorem table_at {k : Nat} {h : Heap} (e : h.length = k) (s : Straw) : (table k s).getD (code h) (0, 0) = best h s := by
  subst e
  rfl
end Ice
/-! All that can be left of a heap, row by row; each behind what one block taken leaves of it. Core Lean alone. -/
namespace Ice
open Mu42
def ext (x : Nat) (s : List Nat) : List (List Nat) := (List.range (x + 1)).map fun v => s ++ [v]
def within (h : List Nat) : List (List Nat) := h.foldl (fun hs x => hs.flatMap (ext x)) [[]]
theorem within_nil : within [] = [[]] := rfl
theorem within_snoc (h : List Nat) (x : Nat) : within (h ++ [x]) = (within h).flatMap (ext x) := by
  unfold within
  rw [List.foldl_append]
  rfl
theorem ext_len (x : Nat) (s : List Nat) : (ext x s).length = x + 1 := by simp [ext]
theorem flat_len (x : Nat) : ∀ l : List (List Nat), (l.flatMap (ext x)).length = l.length * (x + 1)
  | [] => by simp
  | s :: l => by
    rw [List.flatMap_cons, List.length_append, ext_len, flat_len x l, List.length_cons, Nat.add_mul]
    omega
/-- induction from the back -/
theorem snoc_ind {α : Type} {M : List α → Prop} (h0 : M []) (hs : ∀ l x, M l → M (l ++ [x])) (l : List α) : M l := by
  have e : ∀ n (l : List α), l.length = n → M l := by
    intro n
    induction n with
    | zero => intro l h; rw [List.eq_nil_of_length_eq_zero h]; exact h0
    | succ n ih =>
      intro l h
      have ne : l ≠ [] := fun q => by rw [q] at h; cases h
      rw [← List.dropLast_concat_getLast ne]
      exact hs _ _ (ih _ (by rw [List.length_dropLast, h]; rfl))
  exact e _ l rfl
theorem ok_snoc {h : List Nat} {x : Nat} (o : Ok (h ++ [x])) : Ok h ∧ x ≤ HIGH :=
  ⟨fun y hy => o y (List.mem_append_left _ hy), o x (List.mem_append_right _ (List.mem_cons_self ..))⟩
theorem within_len : ∀ {h : List Nat}, Ok h → (within h).length ≤ 4 ^ h.length := by
  intro h
  induction h using snoc_ind with
  | h0 => intro _; exact Nat.le_refl _
  | hs l x ih =>
    intro o
    obtain ⟨o1, o2⟩ := ok_snoc o
    rw [within_snoc, flat_len, List.length_append, List.length_singleton, Nat.pow_succ]
    exact Nat.mul_le_mul (ih o1) (by unfold HIGH at o2; omega)
theorem within_mem : ∀ (h g : List Nat), g ∈ within h ↔ g.length = h.length ∧ ∀ i, g.getD i 0 ≤ h.getD i 0 := by
  intro h
  induction h using snoc_ind with
  | h0 =>
    intro g
    rw [within_nil, List.mem_singleton]
    constructor
    · rintro rfl
      exact ⟨rfl, fun _ => Nat.le_refl _⟩
    · intro q
      exact List.eq_nil_of_length_eq_zero q.1
  | hs l x ih =>
    intro g
    rw [within_snoc, List.mem_flatMap]
    constructor
    · rintro ⟨s, hs, hg⟩
      obtain ⟨v, hv, rfl⟩ := List.mem_map.mp hg
      rw [List.mem_range] at hv
      obtain ⟨e1, e2⟩ := (ih s).mp hs
      refine ⟨by simp [e1], fun i => ?_⟩
      have q := e2 i
      simp only [List.getD_eq_getElem?_getD] at q ⊢
      rcases Nat.lt_trichotomy i l.length with c | c | c
      · rw [List.getElem?_append_left (by omega), List.getElem?_append_left (by omega)]
        exact q
      · subst c
        rw [List.getElem?_append_right (by omega), List.getElem?_append_right (by omega)]
        simp [e1]
        omega
      · rw [List.getElem?_eq_none (by simp; omega)]
        exact Nat.zero_le _
    · rintro ⟨e1, e2⟩
      have ne : g ≠ [] := fun q => by rw [q] at e1; simp at e1
      have eg := List.dropLast_concat_getLast ne
      have el : g.dropLast.length = l.length := by rw [List.length_dropLast, e1]; simp
      refine ⟨g.dropLast, (ih _).mpr ⟨el, fun i => ?_⟩, List.mem_map.mpr ⟨g.getLast ne, ?_, eg⟩⟩
      · have q := e2 i
        rw [← eg] at q
        simp only [List.getD_eq_getElem?_getD] at q ⊢
        by_cases c : i < l.length
        · rw [List.getElem?_append_left (by omega), List.getElem?_append_left (by omega)] at q
          exact q
        · rw [List.getElem?_eq_none (by omega)]
          exact Nat.zero_le _
      · rw [List.mem_range]
        have q := e2 l.length
        rw [← eg] at q
        simp only [List.getD_eq_getElem?_getD] at q
        rw [List.getElem?_append_right (by omega), List.getElem?_append_right (by omega), el] at q
        simp at q
        omega
/-- each stands behind what one block taken leaves of it -/
def Behind (l : List (List Nat)) : Prop := ∀ p g q, l = p ++ g :: q → ∀ i ∈ some_ g, taken g i ∈ p
theorem flat_split {x : Nat} : ∀ {l : List (List Nat)} {p : List (List Nat)} {g : List Nat} {q : List (List Nat)}, l.flatMap (ext x) = p ++ g :: q →
    ∃ l1 s l2 v, l = l1 ++ s :: l2 ∧ v ≤ x ∧ g = s ++ [v] ∧ p = l1.flatMap (ext x) ++ (List.range v).map fun u => s ++ [u]
  | [], p, g, q, h => by simp at h
  | s :: l, p, g, q, h => by
    rw [List.flatMap_cons] at h
    rcases Nat.lt_or_ge p.length (ext x s).length with c | c
    · rw [ext_len] at c
      have hg : (ext x s ++ l.flatMap (ext x))[p.length]? = some g := by rw [h]; simp
      rw [List.getElem?_append_left (by rw [ext_len]; exact c)] at hg
      unfold ext at hg
      rw [List.getElem?_map, List.getElem?_range c] at hg
      refine ⟨[], s, l, p.length, rfl, by omega, (Option.some.inj hg).symm, ?_⟩
      have hp : (ext x s ++ l.flatMap (ext x)).take p.length = p := by rw [h]; simp
      rw [List.take_append_of_le_length (by rw [ext_len]; omega)] at hp
      rw [List.flatMap_nil, List.nil_append, ← hp]
      unfold ext
      rw [← List.map_take]
      have : (List.range (x + 1)).take p.length = List.range p.length := by
        rw [List.take_range]
        congr 1
        omega
      simp only [List.length_take, List.length_map, List.length_range]
      rw [this]
      congr 1
      congr 1
      omega
    · have hl : l.flatMap (ext x) = p.drop (ext x s).length ++ g :: q := by
        have := congrArg (List.drop (ext x s).length) h
        rw [List.drop_left, List.drop_append_of_le_length c] at this
        exact this
      obtain ⟨l1, s', l2, v, rfl, hv, rfl, e⟩ := flat_split hl
      refine ⟨s :: l1, s', l2, v, rfl, hv, rfl, ?_⟩
      have hp : (ext x s) = p.take (ext x s).length := by
        have := congrArg (List.take (ext x s).length) h
        rw [List.take_left, List.take_append_of_le_length c] at this
        exact this
      rw [List.flatMap_cons, List.append_assoc, ← e, hp]
      rw [← hp]
      conv => lhs; rw [← List.take_append_drop (ext x s).length p]
      rw [← hp]
theorem within_behind : ∀ h : List Nat, Behind (within h) := by
  intro h
  induction h using snoc_ind with
  | h0 =>
    intro p g q e i hi
    rw [within_nil] at e
    cases p with
    | nil =>
      have : g = [] := by simp at e; exact e.1
      subst this
      simp [some_] at hi
    | cons a p => simp at e
  | hs l x ih =>
    intro p g q e i hi
    rw [within_snoc] at e
    obtain ⟨l1, s, l2, v, el, hv, rfl, rfl⟩ := flat_split e
    obtain ⟨h1, h2⟩ := some_mem.mp hi
    rw [List.length_append, List.length_singleton] at h1
    rw [List.mem_append]
    simp only [List.getD_eq_getElem?_getD] at h2
    by_cases c : i < s.length
    · left
      rw [List.getElem?_append_left c] at h2
      have m := ih l1 s l2 el i (some_mem.mpr ⟨c, by rw [List.getD_eq_getElem?_getD]; exact h2⟩)
      refine List.mem_flatMap.mpr ⟨_, m, List.mem_map.mpr ⟨v, List.mem_range.mpr (by omega), ?_⟩⟩
      unfold taken
      simp only [List.getD_eq_getElem?_getD]
      rw [List.getElem?_append_left c, List.set_append_left _ _ c]
    · right
      have ei : i = s.length := by omega
      subst ei
      rw [List.getElem?_append_right (Nat.le_refl _)] at h2
      simp at h2
      refine List.mem_map.mpr ⟨v - 1, List.mem_range.mpr (by omega), ?_⟩
      unfold taken
      simp only [List.getD_eq_getElem?_getD]
      rw [List.getElem?_append_right (Nat.le_refl _), List.set_append_right _ _ (Nat.le_refl _)]
      simp
theorem within_ok {h g : List Nat} (o : Ok h) (m : g ∈ within h) : Ok g := by
  obtain ⟨e1, e2⟩ := (within_mem h g).mp m
  intro x hx
  obtain ⟨i, hi, rfl⟩ := List.mem_iff_getElem.mp hx
  have q := e2 i
  simp only [List.getD_eq_getElem?_getD] at q
  rw [List.getElem?_eq_getElem hi, List.getElem?_eq_getElem (by omega)] at q
  exact Nat.le_trans q (o _ (List.getElem_mem _))
theorem within_self (h : List Nat) : h ∈ within h := (within_mem h h).mpr ⟨rfl, fun _ => Nat.le_refl _⟩

/-! ### the least of some ways, how many -/
def lfold (l : List (Nat × Nat)) : Option (Nat × Nat) := l.foldl (fun m x => choose m (some x)) none
def cnt (l : List (Nat × Nat)) (m : Nat) : Nat := ((l.filter fun x => x.1 == m).map Prod.snd).sum
theorem cnt_snoc (l : List (Nat × Nat)) (x : Nat × Nat) (m : Nat) : cnt (l ++ [x]) m = cnt l m + if x.1 = m then x.2 else 0 := by
  unfold cnt
  rw [List.filter_append, List.map_append, List.sum_append]
  congr 1
  by_cases h : x.1 = m
  · rw [if_pos h, List.filter_cons_of_pos (by simp [h])]
    simp
  · rw [if_neg h, List.filter_cons_of_neg (by simp [h])]
    rfl
theorem cnt_none {l : List (Nat × Nat)} {m : Nat} (h : ∀ x ∈ l, x.1 ≠ m) : cnt l m = 0 := by
  unfold cnt
  rw [List.filter_eq_nil_iff.mpr fun x hx => by simp [h x hx]]
  rfl
theorem lfold_spec (l : List (Nat × Nat)) : l ≠ [] → ∃ m, lfold l = some (m, cnt l m) ∧ (∃ x ∈ l, x.1 = m) ∧ ∀ x ∈ l, m ≤ x.1 := by
  induction l using snoc_ind with
  | h0 => intro h; exact absurd rfl h
  | hs l x ih =>
    intro _
    have e : lfold (l ++ [x]) = choose (lfold l) (some x) := by
      unfold lfold
      rw [List.foldl_append]
      rfl
    by_cases hl : l = []
    · subst hl
      refine ⟨x.1, ?_, ⟨x, by simp, rfl⟩, fun y hy => by simp at hy; rw [hy]; exact Nat.le_refl _⟩
      rw [e, cnt_snoc, if_pos rfl]
      show some x = some (x.1, 0 + x.2)
      rw [Nat.zero_add]
    · obtain ⟨m, h1, ⟨w, hw, hwm⟩, h3⟩ := ih hl
      have e2 : lfold (l ++ [x]) = if m < x.1 then some (m, cnt l m) else if x.1 < m then some x else some (m, cnt l m + x.2) := by
        rw [e, h1]
        rfl
      rcases Nat.lt_trichotomy m x.1 with c | c | c
      · refine ⟨m, ?_, ⟨w, List.mem_append_left _ hw, hwm⟩, fun y hy => ?_⟩
        · rw [e2, if_pos c, cnt_snoc, if_neg (by omega), Nat.add_zero]
        · rcases List.mem_append.mp hy with hy | hy
          · exact h3 y hy
          · rw [List.mem_singleton.mp hy]; omega
      · refine ⟨m, ?_, ⟨w, List.mem_append_left _ hw, hwm⟩, fun y hy => ?_⟩
        · rw [e2, if_neg (by omega), if_neg (by omega), cnt_snoc, if_pos c.symm]
        · rcases List.mem_append.mp hy with hy | hy
          · exact h3 y hy
          · rw [List.mem_singleton.mp hy]; omega
      · refine ⟨x.1, ?_, ⟨x, List.mem_append_right _ (List.mem_cons_self ..), rfl⟩, fun y hy => ?_⟩
        · rw [e2, if_neg (by omega), if_pos c, cnt_snoc, if_pos rfl, cnt_none fun y hy q => by have := h3 y hy; omega, Nat.zero_add]
        · rcases List.mem_append.mp hy with hy | hy
          · have := h3 y hy; omega
          · rw [List.mem_singleton.mp hy]; exact Nat.le_refl _
theorem least_lfold (l : List (Nat × Nat)) : least l = (lfold l).getD (0, 1) := rfl
theorem least_eq {l : List (Nat × Nat)} {m : Nat} (hm : m ∈ l.map Prod.fst) (hle : ∀ y ∈ l.map Prod.fst, m ≤ y) : least l = (m, cnt l m) := by
  have ne : l ≠ [] := fun q => by rw [q] at hm; simp at hm
  obtain ⟨m', h1, ⟨w, hw, hwm⟩, h3⟩ := lfold_spec l ne
  obtain ⟨v, hv, hvm⟩ := List.mem_map.mp hm
  have a := h3 v hv
  have b := hle w.1 (List.mem_map.mpr ⟨w, hw, rfl⟩)
  have em : m' = m := by omega
  subst em
  rw [least_lfold, h1]
  rfl
theorem least_nil : least [] = (0, 1) := rfl
end Ice
/-! What the specification says of the calls of the second stage, by plain recursion. Core Lean alone. -/
namespace Ice
open Mu42
theorem foldl_sum (h : List Nat) : total h = h.sum := by
  have e : ∀ (l : List Nat) (a : Nat), l.foldl (fun (a b : Nat) => a + b) a = a + l.sum := by
    intro l
    induction l with
    | nil => intro a; rfl
    | cons x l ih =>
      intro a
      rw [List.foldl_cons, ih, List.sum_cons]
      omega
  unfold total
  rw [e]
  omega
theorem sum_taken : ∀ {h : List Nat} {i : Nat}, h.getD i 0 ≠ 0 → (taken h i).sum + 1 = h.sum
  | [], i, n => by simp at n
  | x :: h, 0, n => by
    rw [taken_cons_zero, List.sum_cons, List.sum_cons]
    have : x ≠ 0 := by simpa using n
    omega
  | x :: h, i + 1, n => by
    rw [taken_cons_succ, List.sum_cons, List.sum_cons]
    have := sum_taken (h := h) (i := i) (by simpa using n)
    omega
theorem total_taken {h : List Nat} {i : Nat} (n : h.getD i 0 ≠ 0) : total (taken h i) + 1 = total h := by
  rw [foldl_sum, foldl_sum]
  exact sum_taken n
theorem some_nil {h : List Nat} : some_ h = [] ↔ total h = 0 := by
  rw [foldl_sum]
  constructor
  · intro e
    have z : ∀ x ∈ h, x = 0 := fun x hx => by
      obtain ⟨i, hi, rfl⟩ := List.mem_iff_getElem.mp hx
      refine Classical.byContradiction fun n => ?_
      have : i ∈ some_ h := some_mem.mpr ⟨hi, by rw [List.getD_eq_getElem?_getD, List.getElem?_eq_getElem hi]; exact n⟩
      rw [e] at this
      cases this
    clear e
    induction h with
    | nil => rfl
    | cons x h ih =>
      rw [List.sum_cons, z x (List.mem_cons_self ..), ih fun y hy => z y (List.mem_cons_of_mem _ hy)]
  · intro e
    refine List.eq_nil_iff_forall_not_mem.mpr fun i hi => ?_
    obtain ⟨_, h2⟩ := some_mem.mp hi
    have := sum_taken h2
    omega
/-- what a block taken from a column comes to -/
def cost (s : Straw) (h : Heap) (i : Nat) : Nat := faces (taken h i) s + (best (taken h i) s).1
theorem best_nil {h : Heap} (o : Ok h) (s : Straw) (e : some_ h = []) : best h s = (0, 1) := by
  rw [best_rec o, e]
  rfl
theorem best_min {h : Heap} (o : Ok h) (s : Straw) (ne : some_ h ≠ []) : (∃ i ∈ some_ h, cost s h i = (best h s).1) ∧ ∀ i ∈ some_ h, (best h s).1 ≤ cost s h i := by
  rw [best_rec o]
  obtain ⟨m, h1, ⟨w, hw, hwm⟩, h3⟩ := lfold_spec ((some_ h).map (way s (fun g => best g s) h)) (by simpa using ne)
  have e : least ((some_ h).map (way s (fun g => best g s) h)) = (m, cnt ((some_ h).map (way s (fun g => best g s) h)) m) := by
    rw [least_lfold, h1]
    rfl
  rw [e]
  obtain ⟨i, hi, rfl⟩ := List.mem_map.mp hw
  exact ⟨⟨i, hi, hwm⟩, fun j hj => h3 _ (List.mem_map.mpr ⟨j, hj, rfl⟩)⟩
theorem follow_rec {k : Nat} {h : Heap} (e : h.length = k) (s : Straw) (n : Nat) : follow s (table k s) (n + 1) h = match (some_ h).find? fun (i : Nat) => cost s h i == (best h s).1 with
    | some i => i :: follow s (table k s) n (taken h i)
    | none => [] := by
  show (match (some_ h).find? fun (i : Nat) => (after s (table k s) h i).1 == ((table k s).getD (code h) (0, 0)).1 with
    | some i => i :: follow s (table k s) n (taken h i)
    | none => []) = _
  have q : (fun (i : Nat) => (Mu42.after s (table k s) h i).1 == ((table k s).getD (code h) (0, 0)).1) = fun (i : Nat) => cost s h i == (best h s).1 := by
    funext i
    rw [table_at e]
    unfold Mu42.after cost
    simp only
    rw [table_at (by rw [taken_length]; exact e)]
  rw [q]
theorem order_nil {h : Heap} (s : Straw) (e : total h = 0) : order h s = [] := by
  unfold order
  rw [e]
  rfl
theorem order_rec {h : Heap} (s : Straw) : order h s = match (some_ h).find? fun (i : Nat) => cost s h i == (best h s).1 with
    | some i => i :: order (taken h i) s
    | none => [] := by
  cases n : total h with
  | zero =>
    rw [order_nil s n, some_nil.mpr n]
    rfl
  | succ n' =>
    have e1 : order h s = follow s (table h.length s) (n' + 1) h := by
      unfold order
      rw [n]
    rw [e1, follow_rec rfl]
    cases f : (some_ h).find? fun (i : Nat) => cost s h i == (best h s).1 with
    | none => rfl
    | some i =>
      have hi := List.mem_of_find?_eq_some f
      have e2 := total_taken (some_mem.mp hi).2
      show i :: follow s (table h.length s) n' (taken h i) = i :: order (taken h i) s
      unfold order
      rw [taken_length]
      congr 2
      omega
/-- an order's first day: the first column that comes to the least -/
theorem order_cons {h : Heap} (o : Ok h) (s : Straw) (ne : total h ≠ 0) : ∃ i, i ∈ some_ h ∧ cost s h i = (best h s).1 ∧ (∀ j ∈ some_ h, j < i → cost s h j ≠ (best h s).1) ∧ order h s = i :: order (taken h i) s := by
  have ne' : some_ h ≠ [] := fun q => ne (some_nil.mp q)
  obtain ⟨⟨i0, m0, c0⟩, _⟩ := best_min o s ne'
  have fs : ((some_ h).find? fun (i : Nat) => cost s h i == (best h s).1).isSome = true := by
    rw [List.find?_isSome]
    exact ⟨i0, m0, by simp [c0]⟩
  cases f : (some_ h).find? fun (i : Nat) => cost s h i == (best h s).1 with
  | none => rw [f] at fs; cases fs
  | some i =>
    refine ⟨i, List.mem_of_find?_eq_some f, by simpa using List.find?_some f, fun j hj lt q => ?_, ?_⟩
    · obtain ⟨_, as, bs, e, hn⟩ := List.find?_eq_some_iff_append.mp f
      have jm : j ∈ as := by
        rw [e] at hj
        have pw : (some_ h).Pairwise (· < ·) := by
          unfold some_
          exact List.Pairwise.filter _ List.pairwise_lt_range
        rw [e] at pw
        rcases List.mem_append.mp hj with m | m
        · exact m
        · rcases List.mem_cons.mp m with r | m
          · omega
          · have := (List.pairwise_cons.mp (List.pairwise_append.mp pw).2.1).1 j m
            omega
      have := hn j jm
      simp [q] at this
    · rw [order_rec, f]
theorem order_len {s : Straw} : ∀ (n : Nat) {h : Heap}, Ok h → total h = n → (order h s).length = n
  | 0, h, _, e => by rw [order_nil s e]; rfl
  | n + 1, h, o, e => by
    obtain ⟨i, hi, _, _, q⟩ := order_cons o s (by omega)
    have := total_taken (some_mem.mp hi).2
    rw [q, List.length_cons, order_len n (o.taken i) (by omega)]
/-- an order takes from columns that have a block -/
def Valid : Heap → List Nat → Prop
  | _, [] => True
  | h, i :: l => i < h.length ∧ h.getD i 0 ≠ 0 ∧ Valid (taken h i) l
theorem order_valid {s : Straw} : ∀ (n : Nat) {h : Heap}, Ok h → total h = n → Valid h (order h s)
  | 0, h, _, e => by rw [order_nil s e]; trivial
  | n + 1, h, o, e => by
    obtain ⟨i, hi, _, _, q⟩ := order_cons o s (by omega)
    obtain ⟨h1, h2⟩ := some_mem.mp hi
    have := total_taken h2
    rw [q]
    exact ⟨h1, h2, order_valid n (o.taken i) (by omega)⟩
theorem Valid.take : ∀ {l : List Nat} {h : Heap} (n : Nat), Valid h l → Valid h (l.take n)
  | [], _, n, _ => by rw [List.take_nil]; trivial
  | _ :: _, _, 0, _ => trivial
  | i :: l, h, n + 1, v => ⟨v.1, v.2.1, Valid.take n v.2.2⟩

/-! ### the first of those that have the least -/
/-- as the specification's folds pick -/
def pick {α : Type} (f : α → Nat) (l : List α) : Option (Nat × α) := l.foldl (fun m x => match m with
  | none => some (f x, x)
  | some y => if f x < y.1 then some (f x, x) else some y) none
theorem pick_snoc {α : Type} (f : α → Nat) (l : List α) (x : α) : pick f (l ++ [x]) = match pick f l with
  | none => some (f x, x)
  | some y => if f x < y.1 then some (f x, x) else some y := by
  unfold pick
  rw [List.foldl_append]
  rfl
theorem pick_spec {α : Type} (f : α → Nat) (l : List α) : l ≠ [] → ∃ p x q, l = p ++ x :: q ∧ pick f l = some (f x, x) ∧ (∀ y ∈ p, f x < f y) ∧ ∀ y ∈ q, f x ≤ f y := by
  induction l using snoc_ind with
  | h0 => intro h; exact absurd rfl h
  | hs l z ih =>
    intro _
    by_cases hl : l = []
    · subst hl
      exact ⟨[], z, [], rfl, rfl, (fun _ h => nomatch h), (fun _ h => nomatch h)⟩
    · obtain ⟨p, x, q, rfl, h2, h3, h4⟩ := ih hl
      by_cases c : f z < f x
      · refine ⟨p ++ x :: q, z, [], rfl, ?_, fun y hy => ?_, (fun _ h => nomatch h)⟩
        · rw [pick_snoc, h2]
          exact if_pos c
        · rcases List.mem_append.mp hy with m | m
          · exact Nat.lt_trans c (h3 y m)
          · rcases List.mem_cons.mp m with r | m
            · rw [r]; exact c
            · exact Nat.lt_of_lt_of_le c (h4 y m)
      · refine ⟨p, x, q ++ [z], by simp, ?_, h3, fun y hy => ?_⟩
        · rw [pick_snoc, h2]
          exact if_neg c
        · rcases List.mem_append.mp hy with m | m
          · exact h4 y m
          · rw [List.mem_singleton.mp m]
            omega
theorem bestStraw_pick (h : Heap) (n : Nat) : bestStraw h n = pick (fun s => (best h s).1) (straws h.length n) := by
  unfold bestStraw pick
  congr 1
  funext m s
  cases m <;> rfl
theorem pick_congr {α : Type} {f g : α → Nat} {l : List α} (e : ∀ x ∈ l, f x = g x) : pick f l = pick g l := by
  induction l using snoc_ind with
  | h0 => rfl
  | hs l z ih =>
    rw [pick_snoc, pick_snoc, ih fun x hx => e x (List.mem_append_left _ hx), e z (List.mem_append_right _ (List.mem_cons_self ..))]
theorem bestStack_pick (k n : Nat) (s : Straw) : bestStack k n s = pick (fun h => ((table k s).getD (code h) (0, 0)).1) (stacks k n) := by
  unfold bestStack pick
  show List.foldl _ none (stacks k n) = List.foldl _ none (stacks k n)
  congr 1
  funext m h
  cases m <;> rfl

/-! ### the ways to lay straw, the heaps, from the higher on -/
def Above (s t : List Nat) : Prop := ∃ p x y q r, s = p ++ x :: q ∧ t = p ++ y :: r ∧ y < x
theorem Above.cons {x : Nat} {s t : List Nat} (h : Above s t) : Above (x :: s) (x :: t) := by
  obtain ⟨p, a, b, q, r, rfl, rfl, lt⟩ := h
  exact ⟨x :: p, a, b, q, r, rfl, rfl, lt⟩
theorem Above.head {x y : Nat} {s t : List Nat} (h : y < x) : Above (x :: s) (y :: t) := ⟨[], x, y, s, t, rfl, rfl, h⟩
theorem Above.irrefl : ∀ {s : List Nat}, ¬ Above s s := by
  rintro s ⟨p, x, y, q, r, rfl, e, lt⟩
  have := List.append_cancel_left e
  rw [List.cons.injEq] at this
  omega
theorem Above.asymm {s t : List Nat} (h : Above s t) (h' : Above t s) : False := by
  induction s generalizing t with
  | nil =>
    obtain ⟨p, x, y, q, r, e, _⟩ := h
    cases p <;> cases e
  | cons a s ih =>
    cases t with
    | nil =>
      obtain ⟨p, x, y, q, r, _, e, _⟩ := h
      cases p <;> cases e
    | cons b t =>
      have one : ∀ {a b : Nat} {s t : List Nat}, Above (a :: s) (b :: t) → b < a ∨ (a = b ∧ Above s t) := by
        rintro a b s t ⟨p, x, y, q, r, e1, e2, lt⟩
        cases p with
        | nil =>
          rw [List.nil_append, List.cons.injEq] at e1 e2
          left
          omega
        | cons c p =>
          rw [List.cons_append, List.cons.injEq] at e1 e2
          right
          exact ⟨by rw [e1.1, e2.1], ⟨p, x, y, q, r, e1.2, e2.2, lt⟩⟩
      rcases one h with h1 | ⟨h1, h2⟩
      · rcases one h' with h3 | ⟨h3, _⟩ <;> omega
      · rcases one h' with h3 | ⟨_, h4⟩
        · omega
        · exact ih h2 h4
theorem stacks_mem : ∀ (k n : Nat) (h : Heap), h ∈ stacks k n ↔ h.length = k ∧ Ok h ∧ h.sum = n
  | 0, 0, h => by
    show h ∈ [[]] ↔ _
    rw [List.mem_singleton]
    constructor
    · rintro rfl
      exact ⟨rfl, Ok.nil, rfl⟩
    · intro q
      exact List.eq_nil_of_length_eq_zero q.1
  | 0, n + 1, h => by
    show h ∈ [] ↔ _
    constructor
    · intro q; cases q
    · intro q
      have := List.eq_nil_of_length_eq_zero q.1
      subst this
      have := q.2.2
      simp at this
  | k + 1, n, h => by
    show h ∈ ((List.range (HIGH + 1)).reverse.flatMap fun (x : Nat) => if x ≤ n then (stacks k (n - x)).map fun (h : Heap) => x :: h else []) ↔ _
    rw [List.mem_flatMap]
    constructor
    · rintro ⟨x, hx, hm⟩
      rw [List.mem_reverse, List.mem_range] at hx
      by_cases c : x ≤ n
      · rw [if_pos c] at hm
        obtain ⟨g, hg, rfl⟩ := List.mem_map.mp hm
        obtain ⟨e1, e2, e3⟩ := (stacks_mem k (n - x) g).mp hg
        exact ⟨by rw [List.length_cons, e1], Ok.mk (by omega) e2, by rw [List.sum_cons, e3]; omega⟩
      · rw [if_neg c] at hm
        cases hm
    · rintro ⟨e1, e2, e3⟩
      cases h with
      | nil => cases e1
      | cons x h =>
        rw [List.sum_cons] at e3
        obtain ⟨o1, o2⟩ := e2.cons
        refine ⟨x, by rw [List.mem_reverse, List.mem_range]; omega, ?_⟩
        rw [if_pos (by omega)]
        exact List.mem_map.mpr ⟨h, (stacks_mem k (n - x) h).mpr ⟨by rw [List.length_cons] at e1; omega, o2, by omega⟩, rfl⟩
theorem pairwise_flat {α β : Type} {R : β → β → Prop} {f : α → List β} {S : α → α → Prop} : ∀ {l : List α}, l.Pairwise S → (∀ x ∈ l, (f x).Pairwise R) → (∀ x y, S x y → ∀ a ∈ f x, ∀ b ∈ f y, R a b) → (l.flatMap f).Pairwise R
  | [], _, _, _ => List.Pairwise.nil
  | x :: l, h, h1, h2 => by
    obtain ⟨p, q⟩ := List.pairwise_cons.mp h
    rw [List.flatMap_cons]
    refine List.pairwise_append.mpr ⟨h1 x (List.mem_cons_self ..), pairwise_flat q (fun y hy => h1 y (List.mem_cons_of_mem _ hy)) h2, fun a ha b hb => ?_⟩
    obtain ⟨y, hy, hb⟩ := List.mem_flatMap.mp hb
    exact h2 x y (p y hy) a ha b hb
theorem stacks_down : ∀ (k n : Nat), (stacks k n).Pairwise Above
  | 0, 0 => List.pairwise_singleton ..
  | 0, n + 1 => List.Pairwise.nil
  | k + 1, n => by
    show ((List.range (HIGH + 1)).reverse.flatMap fun (x : Nat) => if x ≤ n then (stacks k (n - x)).map fun (h : Heap) => x :: h else []).Pairwise Above
    refine pairwise_flat (S := fun x y => y < x) (by rw [List.pairwise_reverse]; exact List.pairwise_lt_range) (fun x _ => ?_) fun x y lt a ha b hb => ?_
    · split
      · exact List.Pairwise.map _ (fun a b h => Above.cons h) (stacks_down k (n - x))
      · exact List.Pairwise.nil
    · split at ha
      · split at hb
        · obtain ⟨a', _, rfl⟩ := List.mem_map.mp ha
          obtain ⟨b', _, rfl⟩ := List.mem_map.mp hb
          exact Above.head lt
        · cases hb
      · cases ha
def cover (s : Straw) : Nat := (marks s).sum
theorem straws_mem : ∀ (k n : Nat) (s : Straw), s ∈ straws k n ↔ s.length = k ∧ cover s ≤ n
  | 0, n, s => by
    show s ∈ [[]] ↔ _
    rw [List.mem_singleton]
    constructor
    · rintro rfl
      exact ⟨rfl, Nat.zero_le _⟩
    · intro q
      exact List.eq_nil_of_length_eq_zero q.1
  | k + 1, 0, s => by
    show s ∈ (straws k 0).map (fun (s : Straw) => false :: s) ↔ _
    rw [List.mem_map]
    constructor
    · rintro ⟨t, ht, rfl⟩
      obtain ⟨e1, e2⟩ := (straws_mem k 0 t).mp ht
      refine ⟨by rw [List.length_cons, e1], ?_⟩
      unfold cover marks at *
      rw [List.map_cons, List.sum_cons]
      simpa using e2
    · rintro ⟨e1, e2⟩
      cases s with
      | nil => cases e1
      | cons b t =>
        unfold cover marks at e2
        rw [List.map_cons, List.sum_cons] at e2
        cases b with
        | true => simp at e2
        | false =>
          refine ⟨t, (straws_mem k 0 t).mpr ⟨by rw [List.length_cons] at e1; omega, ?_⟩, rfl⟩
          unfold cover marks
          simpa using e2
  | k + 1, n + 1, s => by
    show s ∈ ((straws k n).map fun (s : Straw) => true :: s) ++ (straws k (n + 1)).map (fun (s : Straw) => false :: s) ↔ _
    rw [List.mem_append, List.mem_map, List.mem_map]
    constructor
    · rintro (⟨t, ht, rfl⟩ | ⟨t, ht, rfl⟩)
      · obtain ⟨e1, e2⟩ := (straws_mem k n t).mp ht
        refine ⟨by rw [List.length_cons, e1], ?_⟩
        unfold cover marks at *
        rw [List.map_cons, List.sum_cons]
        simp
        omega
      · obtain ⟨e1, e2⟩ := (straws_mem k (n + 1) t).mp ht
        refine ⟨by rw [List.length_cons, e1], ?_⟩
        unfold cover marks at *
        rw [List.map_cons, List.sum_cons]
        simpa using e2
    · rintro ⟨e1, e2⟩
      cases s with
      | nil => cases e1
      | cons b t =>
        rw [List.length_cons] at e1
        unfold cover marks at e2
        rw [List.map_cons, List.sum_cons] at e2
        cases b with
        | true =>
          left
          refine ⟨t, (straws_mem k n t).mpr ⟨by omega, ?_⟩, rfl⟩
          unfold cover marks
          simp at e2
          omega
        | false =>
          right
          refine ⟨t, (straws_mem k (n + 1) t).mpr ⟨by omega, ?_⟩, rfl⟩
          unfold cover marks
          simpa using e2
theorem straws_down : ∀ (k n : Nat), (straws k n).Pairwise fun s t => Above (marks s) (marks t)
  | 0, n => List.pairwise_singleton ..
  | k + 1, 0 => List.Pairwise.map _ (fun a b h => Above.cons (x := 0) h) (straws_down k 0)
  | k + 1, n + 1 => by
    show (((straws k n).map fun (s : Straw) => true :: s) ++ (straws k (n + 1)).map (fun (s : Straw) => false :: s)).Pairwise _
    refine List.pairwise_append.mpr ⟨List.Pairwise.map _ (fun a b h => Above.cons (x := 1) h) (straws_down k n), List.Pairwise.map _ (fun a b h => Above.cons (x := 0) h) (straws_down k (n + 1)), fun a ha b hb => ?_⟩
    obtain ⟨a', _, rfl⟩ := List.mem_map.mp ha
    obtain ⟨b', _, rfl⟩ := List.mem_map.mp hb
    exact Above.head (by decide)
/-- what is picked, told by its place alone: the least; of those the one above all others -/
theorem pick_is {α : Type} {R : α → α → Prop} {f : α → Nat} {l : List α} (pw : l.Pairwise R) (as : ∀ x y, R x y → ¬ R y x) {x : α} (hx : x ∈ l) (hm : ∀ y ∈ l, f x ≤ f y) (ht : ∀ y ∈ l, f y = f x → y = x ∨ R x y) : pick f l = some (f x, x) := by
  obtain ⟨p, z, q, rfl, e, h1, h2⟩ := pick_spec f l (fun q => by rw [q] at hx; cases hx)
  have hz : z ∈ p ++ z :: q := List.mem_append_right _ (List.mem_cons_self ..)
  have a := hm z hz
  have b : f z ≤ f x := by
    rcases List.mem_append.mp hx with m | m
    · exact Nat.le_of_lt (h1 x m)
    · rcases List.mem_cons.mp m with r | m
      · rw [r]; exact Nat.le_refl _
      · exact h2 x m
  have ef : f z = f x := by omega
  rcases ht z hz ef with r | r
  · rw [e, r]
  · exfalso
    rcases List.mem_append.mp hx with m | m
    · have := h1 x m
      omega
    · rcases List.mem_cons.mp m with r' | m
      · rw [r'] at r
        exact as _ _ r r
      · have := (List.pairwise_cons.mp (List.pairwise_append.mp pw).2.1).1 x m
        exact as _ _ r this
theorem bestStraw_is {h : Heap} {n : Nat} {s : Straw} (e1 : s.length = h.length) (e2 : cover s ≤ n) (hm : ∀ t : Straw, t.length = h.length → cover t ≤ n → (best h s).1 ≤ (best h t).1)
    (ht : ∀ t : Straw, t.length = h.length → cover t ≤ n → (best h t).1 = (best h s).1 → t = s ∨ Above (marks s) (marks t)) : bestStraw h n = some ((best h s).1, s) := by
  rw [bestStraw_pick]
  exact pick_is (straws_down h.length n) (fun x y a b => a.asymm b) ((straws_mem _ _ _).mpr ⟨e1, e2⟩) (fun t m => let ⟨a, b⟩ := (straws_mem _ _ _).mp m; hm t a b) fun t m q => let ⟨a, b⟩ := (straws_mem _ _ _).mp m; ht t a b q
theorem bestStack_is {k n : Nat} {s : Straw} {h : Heap} (e1 : h.length = k) (o : Ok h) (e2 : h.sum = n) (hm : ∀ g : Heap, g.length = k → Ok g → g.sum = n → (best h s).1 ≤ (best g s).1)
    (ht : ∀ g : Heap, g.length = k → Ok g → g.sum = n → (best g s).1 = (best h s).1 → g = h ∨ Above h g) : bestStack k n s = some ((best h s).1, h) := by
  rw [bestStack_pick, pick_congr (g := fun h => (best h s).1) fun g m => by rw [table_at ((stacks_mem _ _ _).mp m).1]]
  exact pick_is (stacks_down k n) (fun x y a b => a.asymm b) ((stacks_mem _ _ _).mpr ⟨e1, o, e2⟩) (fun t m => let ⟨a, b, c⟩ := (stacks_mem _ _ _).mp m; hm t a b c) fun t m q => let ⟨a, b, c⟩ := (stacks_mem _ _ _).mp m; ht t a b c q
theorem bestStack_none {k n : Nat} (s : Straw) (h : 3 * k < n) : bestStack k n s = none := by
  have e : stacks k n = [] := by
    refine List.eq_nil_iff_forall_not_mem.mpr fun g hg => ?_
    obtain ⟨e1, e2, e3⟩ := (stacks_mem _ _ _).mp hg
    have : ∀ l : List Nat, Ok l → l.sum ≤ 3 * l.length := by
      intro l
      induction l with
      | nil => intro _; exact Nat.le_refl _
      | cons x l ih =>
        intro o
        obtain ⟨o1, o2⟩ := o.cons
        have := ih o2
        unfold HIGH at o1
        rw [List.sum_cons, List.length_cons]
        omega
    have := this g e2
    omega
  rw [bestStack_pick, e]
  rfl
/-- there is room -/
theorem stacks_some : ∀ {k n : Nat}, n ≤ 3 * k → ∃ h : Heap, h.length = k ∧ Ok h ∧ h.sum = n
  | 0, n, h => ⟨[], rfl, Ok.nil, by simp; omega⟩
  | k + 1, n, h => by
    obtain ⟨g, e1, e2, e3⟩ := stacks_some (k := k) (n := n - min n 3) (by omega)
    exact ⟨min n 3 :: g, by rw [List.length_cons, e1], Ok.mk (by unfold HIGH; omega) e2, by rw [List.sum_cons, e3]; omega⟩
end Ice
/-! Straw and load, as the program goes through them. Core Lean alone. -/
namespace Ice
open Mu42
/-- all straw of the first lies in the second -/
def Le : List Bool → List Bool → Prop
  | [], [] => True
  | a :: s, b :: t => (a = true → b = true) ∧ Le s t
  | _, _ => False
theorem Le.refl : ∀ s : List Bool, Le s s
  | [] => trivial
  | _ :: s => ⟨id, Le.refl s⟩
theorem tops_cons (x : Nat) (h : Heap) (a : Bool) (s : Straw) : tops (x :: h) (a :: s) = (if (x != 0 && !a) = true then 1 else 0) + tops h s := by
  unfold tops
  rw [List.zip_cons_cons]
  by_cases c : (x != 0 && !a) = true
  · rw [if_pos c, List.filter_cons_of_pos (p := fun (x : Nat × Bool) => x.1 != 0 && !x.2) (a := (x, a)) c, List.length_cons]
    omega
  · rw [if_neg c, List.filter_cons_of_neg (p := fun (x : Nat × Bool) => x.1 != 0 && !x.2) (a := (x, a)) c]
    omega
theorem tops_le : ∀ (h : Heap) {s t : Straw}, Le s t → tops h t ≤ tops h s
  | [], _, _, _ => Nat.le_refl _
  | _ :: _, [], [], _ => Nat.le_refl _
  | x :: h, a :: s, b :: t, l => by
    rw [tops_cons, tops_cons]
    have e := tops_le h l.2
    have q : (if (x != 0 && !b) = true then 1 else 0) ≤ (if (x != 0 && !a) = true then 1 else 0) := by
      cases a <;> cases b <;> simp
      have := l.1 rfl
      cases this
    omega
  | _, [], _ :: _, l => l.elim
  | _, _ :: _, [], l => l.elim
theorem faces_le (h : Heap) {s t : Straw} (l : Le s t) : faces h t ≤ faces h s := by
  unfold faces
  have := tops_le h l
  omega
/-- more straw never lets more melt -/
theorem best_le {s t : Straw} (l : Le s t) : ∀ (n : Nat) {h : Heap}, Ok h → total h = n → (best h t).1 ≤ (best h s).1
  | 0, h, o, e => by
    rw [best_nil o s (some_nil.mpr e), best_nil o t (some_nil.mpr e)]
    exact Nat.le_refl _
  | n + 1, h, o, e => by
    have ne : some_ h ≠ [] := fun q => by
      have := some_nil.mp q
      omega
    obtain ⟨⟨i, hi, c⟩, _⟩ := best_min o s ne
    have m := (best_min o t ne).2 i hi
    have tt := total_taken (some_mem.mp hi).2
    have r := best_le l n (o.taken i) (by omega)
    have f := faces_le (taken h i) l
    unfold cost at c m
    omega
theorem above_cons {a b : Nat} {s t : List Nat} : Above (a :: s) (b :: t) ↔ b < a ∨ (a = b ∧ Above s t) := by
  constructor
  · rintro ⟨p, x, y, q, r, e1, e2, lt⟩
    cases p with
    | nil =>
      rw [List.nil_append, List.cons.injEq] at e1 e2
      left
      omega
    | cons c p =>
      rw [List.cons_append, List.cons.injEq] at e1 e2
      right
      exact ⟨by rw [e1.1, e2.1], ⟨p, x, y, q, r, e1.2, e2.2, lt⟩⟩
  · rintro (h | ⟨rfl, h⟩)
    · exact Above.head h
    · exact Above.cons h
theorem Above.trans : ∀ {s t u : List Nat}, Above s t → Above t u → Above s u
  | [], _, _, h, _ => by
    obtain ⟨p, x, y, q, r, e, _⟩ := h
    cases p <;> cases e
  | _ :: _, [], _, h, _ => by
    obtain ⟨p, x, y, q, r, _, e, _⟩ := h
    cases p <;> cases e
  | _ :: _, _ :: _, [], _, h => by
    obtain ⟨p, x, y, q, r, _, e, _⟩ := h
    cases p <;> cases e
  | a :: s, b :: t, c :: u, h, k => by
    rcases above_cons.mp h with h1 | ⟨rfl, h1⟩
    · rcases above_cons.mp k with k1 | ⟨rfl, k1⟩
      · exact Above.head (Nat.lt_trans k1 h1)
      · exact Above.head h1
    · rcases above_cons.mp k with k1 | ⟨rfl, k1⟩
      · exact Above.head k1
      · exact Above.cons (Above.trans h1 k1)
theorem Above.snoc {s t : List Nat} (h : Above s t) (a b : List Nat) : Above (s ++ a) (t ++ b) := by
  obtain ⟨p, x, y, q, r, rfl, rfl, lt⟩ := h
  exact ⟨p, x, y, q ++ a, r ++ b, by simp, by simp, lt⟩
theorem cover_cons (b : Bool) (s : Straw) : cover (b :: s) = (if b = true then 1 else 0) + cover s := rfl
theorem cover_le : ∀ s : Straw, cover s ≤ s.length
  | [] => Nat.le_refl _
  | b :: s => by
    have := cover_le s
    rw [cover_cons, List.length_cons]
    cases b <;> simp <;> omega
theorem marks_cons (b : Bool) (s : Straw) : marks (b :: s) = (if b = true then 1 else 0) :: marks s := rfl
/-- straw that is more, further left -/
theorem fuller : ∀ (t : Straw) (m : Nat), cover t ≤ m → m ≤ t.length → ∃ t' : Straw, t'.length = t.length ∧ Le t t' ∧ cover t' = m ∧ (t' = t ∨ Above (marks t') (marks t))
  | [], m, _, h => ⟨[], rfl, trivial, (by
    have : m = 0 := Nat.le_zero.mp h
    rw [this]; rfl), .inl rfl⟩
  | b :: t, m, h1, h2 => by
    by_cases c : cover (b :: t) = m
    · exact ⟨b :: t, rfl, Le.refl _, c, .inl rfl⟩
    · rw [List.length_cons] at h2
      rw [cover_cons] at h1 c
      cases b with
      | false =>
        simp at h1 c
        obtain ⟨t', e1, e2, e3, _⟩ := fuller t (m - 1) (by omega) (by omega)
        refine ⟨true :: t', by rw [List.length_cons, List.length_cons, e1], ⟨(fun q => nomatch q), e2⟩, by rw [cover_cons, e3]; simp; omega, .inr ?_⟩
        rw [marks_cons, marks_cons]
        exact Above.head (by decide)
      | true =>
        simp at h1 c
        obtain ⟨t', e1, e2, e3, e4⟩ := fuller t (m - 1) (by omega) (by omega)
        refine ⟨true :: t', by rw [List.length_cons, List.length_cons, e1], ⟨id, e2⟩, by rw [cover_cons, e3]; simp; omega, ?_⟩
        rcases e4 with e | e
        · exact .inl (by rw [e])
        · right
          rw [marks_cons, marks_cons]
          exact Above.cons e
/-- what lay tells, found among the ways on just as many columns -/
theorem lay_is {h : Heap} (o : Ok h) {n m : Nat} {s : Straw} (em : m = min n h.length) (e1 : s.length = h.length) (e2 : cover s = m) (hm : ∀ t : Straw, t.length = h.length → cover t = m → (best h s).1 ≤ (best h t).1)
    (ht : ∀ t : Straw, t.length = h.length → cover t = m → (best h t).1 = (best h s).1 → t = s ∨ Above (marks s) (marks t)) : bestStraw h n = some ((best h s).1, s) := by
  refine bestStraw_is e1 (by omega) (fun t l c => ?_) fun t l c e => ?_
  · have := cover_le t
    obtain ⟨t', f1, f2, f3, _⟩ := fuller t m (by omega) (by omega)
    have a := hm t' (by omega) f3
    have b := best_le f2 _ o rfl
    omega
  · have := cover_le t
    obtain ⟨t', f1, f2, f3, f4⟩ := fuller t m (by omega) (by omega)
    have a := hm t' (by omega) f3
    have b := best_le f2 _ o rfl
    have d := ht t' (by omega) f3 (by omega)
    rcases d with d | d
    · subst d
      rcases f4 with g | g
      · exact .inl g.symm
      · exact .inr g
    · rcases f4 with g | g
      · subst g
        exact .inr d
      · exact .inr (d.trans g)

/-! ### all rows of so many numbers that come to the total, as the program makes them -/
def grow (k m n j : Nat) (r : List Nat) : List (List Nat) := ((List.range (m + 1)).reverse.filter fun x => decide (r.sum + x ≤ n ∧ n ≤ r.sum + x + (k - 1 - j) * m)).map fun x => r ++ [x]
def rowsTo (k m n : Nat) : Nat → List (List Nat)
  | 0 => [[]]
  | j + 1 => (rowsTo k m n j).flatMap (grow k m n j)
theorem grow_mem {k m n j : Nat} {r g : List Nat} : g ∈ grow k m n j r ↔ ∃ x, x ≤ m ∧ r.sum + x ≤ n ∧ n ≤ r.sum + x + (k - 1 - j) * m ∧ g = r ++ [x] := by
  unfold grow
  rw [List.mem_map]
  constructor
  · rintro ⟨x, hx, rfl⟩
    rw [List.mem_filter, List.mem_reverse, List.mem_range, decide_eq_true_eq] at hx
    exact ⟨x, by omega, hx.2.1, hx.2.2, rfl⟩
  · rintro ⟨x, h1, h2, h3, rfl⟩
    refine ⟨x, ?_, rfl⟩
    rw [List.mem_filter, List.mem_reverse, List.mem_range, decide_eq_true_eq]
    exact ⟨by omega, h2, h3⟩
theorem sum_snoc (l : List Nat) (x : Nat) : (l ++ [x]).sum = l.sum + x := by simp
theorem rows_mem {k m n : Nat} (hn : n ≤ k * m) : ∀ (j : Nat), j ≤ k → ∀ r : List Nat, r ∈ rowsTo k m n j ↔ r.length = j ∧ (∀ x ∈ r, x ≤ m) ∧ r.sum ≤ n ∧ n ≤ r.sum + (k - j) * m
  | 0, _, r => by
    show r ∈ [[]] ↔ _
    rw [List.mem_singleton]
    constructor
    · rintro rfl
      exact ⟨rfl, (fun _ h => nomatch h), Nat.zero_le _, by simpa using hn⟩
    · intro q
      exact List.eq_nil_of_length_eq_zero q.1
  | j + 1, hj, r => by
    have ih := rows_mem hn j (by omega)
    have ek : k - j = (k - 1 - j) + 1 := by omega
    have ek2 : k - (j + 1) = k - 1 - j := by omega
    show r ∈ (rowsTo k m n j).flatMap (grow k m n j) ↔ _
    rw [List.mem_flatMap]
    constructor
    · rintro ⟨s, hs, hg⟩
      obtain ⟨x, h1, h2, h3, rfl⟩ := grow_mem.mp hg
      obtain ⟨a, b, c, d⟩ := (ih s).mp hs
      refine ⟨by rw [List.length_append, a]; rfl, fun y hy => ?_, by rw [sum_snoc]; exact h2, by rw [sum_snoc, ek2]; exact h3⟩
      rcases List.mem_append.mp hy with q | q
      · exact b y q
      · rw [List.mem_singleton.mp q]; exact h1
    · rintro ⟨a, b, c, d⟩
      have ne : r ≠ [] := fun q => by rw [q] at a; cases a
      have er := List.dropLast_concat_getLast ne
      generalize r.dropLast = s at er
      generalize r.getLast ne = x at er
      subst er
      rw [sum_snoc] at c d
      rw [ek2] at d
      have hx := b x (List.mem_append_right _ (List.mem_cons_self ..))
      refine ⟨s, (ih s).mpr ⟨?_, fun y hy => b y (List.mem_append_left _ hy), by omega, ?_⟩, grow_mem.mpr ⟨x, hx, c, d, rfl⟩⟩
      · rw [List.length_append, List.length_singleton] at a
        omega
      · rw [ek, Nat.add_mul]
        omega
theorem rows_down (k m n : Nat) : ∀ j : Nat, (rowsTo k m n j).Pairwise Above
  | 0 => List.pairwise_singleton ..
  | j + 1 => by
    show ((rowsTo k m n j).flatMap (grow k m n j)).Pairwise Above
    refine pairwise_flat (rows_down k m n j) (fun r _ => ?_) fun s t h a ha b hb => ?_
    · unfold grow
      refine List.Pairwise.map (R := fun x y => y < x) _ (fun x y lt => ?_) (List.Pairwise.filter _ (by rw [List.pairwise_reverse]; exact List.pairwise_lt_range))
      exact ⟨r, x, y, [], [], rfl, rfl, lt⟩
    · obtain ⟨x, _, _, _, rfl⟩ := grow_mem.mp ha
      obtain ⟨y, _, _, _, rfl⟩ := grow_mem.mp hb
      exact h.snoc [x] [y]
theorem grow_len (k m n j : Nat) (r : List Nat) : (grow k m n j r).length ≤ m + 1 := by
  unfold grow
  rw [List.length_map]
  refine Nat.le_trans (List.length_filter_le _ _) ?_
  rw [List.length_reverse, List.length_range]
  exact Nat.le_refl _
theorem flat_le {α β : Type} {f : α → List β} {c : Nat} (h : ∀ x, (f x).length ≤ c) : ∀ l : List α, (l.flatMap f).length ≤ l.length * c
  | [] => by simp
  | x :: l => by
    rw [List.flatMap_cons, List.length_append, List.length_cons, Nat.add_mul]
    have := h x
    have := flat_le h l
    omega
theorem rows_len (k m n : Nat) : ∀ j : Nat, (rowsTo k m n j).length ≤ (m + 1) ^ j
  | 0 => Nat.le_refl _
  | j + 1 => by
    refine Nat.le_trans (flat_le (grow_len k m n j) _) ?_
    rw [Nat.pow_succ]
    exact Nat.mul_le_mul_right _ (rows_len k m n j)
theorem fill_row (m : Nat) : ∀ (k n : Nat), n ≤ k * m → ∃ r : List Nat, r.length = k ∧ (∀ x ∈ r, x ≤ m) ∧ r.sum = n
  | 0, n, h => ⟨[], rfl, (fun _ q => nomatch q), by simp at h; rw [h]; rfl⟩
  | k + 1, n, h => by
    rw [Nat.add_mul] at h
    obtain ⟨r, a, b, c⟩ := fill_row m k (n - min n m) (by omega)
    refine ⟨min n m :: r, by rw [List.length_cons, a], fun x hx => ?_, by rw [List.sum_cons, c]; omega⟩
    rcases List.mem_cons.mp hx with q | q
    · rw [q]; omega
    · exact b x q
def rows (k m n : Nat) : List (List Nat) := rowsTo k m n k
theorem mem_rows {k m n : Nat} (hn : n ≤ k * m) (r : List Nat) : r ∈ rows k m n ↔ r.length = k ∧ (∀ x ∈ r, x ≤ m) ∧ r.sum = n := by
  unfold rows
  rw [rows_mem hn k (Nat.le_refl _), Nat.sub_self, Nat.zero_mul]
  constructor
  · rintro ⟨a, b, c, d⟩
    exact ⟨a, b, by omega⟩
  · rintro ⟨a, b, c⟩
    exact ⟨a, b, by omega, by omega⟩
theorem rows_pos {k m n : Nat} (hn : n ≤ k * m) : 0 < (rows k m n).length := by
  obtain ⟨r, a, b, c⟩ := fill_row m k n hn
  exact List.length_pos_of_mem ((mem_rows hn r).mpr ⟨a, b, c⟩)
/-- of those that have the least, the first stands above all others -/
theorem first_above {l : List (List Nat)} {f : List Nat → Nat} (pw : l.Pairwise Above) {j : Nat} {r : List Nat} (hj : l[j]? = some r) (hb : ∀ i g, i < j → l[i]? = some g → f g ≠ f r) : ∀ g ∈ l, f g = f r → g = r ∨ Above r g := by
  intro g hg e
  obtain ⟨i, hi, rfl⟩ := List.mem_iff_getElem.mp hg
  obtain ⟨hj', rfl⟩ := List.getElem?_eq_some_iff.mp hj
  rcases Nat.lt_trichotomy i j with c | c | c
  · exact absurd e (hb i _ c (List.getElem?_eq_getElem hi))
  · subst c
    exact .inl rfl
  · exact .inr (List.pairwise_iff_getElem.mp pw j i hj' hi c)
theorem stack_is {k n j : Nat} {s : Straw} {r : List Nat} (hn : n ≤ k * 3) (hj : (rows k 3 n)[j]? = some r) (hm : ∀ g ∈ rows k 3 n, (best r s).1 ≤ (best g s).1) (hb : ∀ i g, i < j → (rows k 3 n)[i]? = some g → (best g s).1 ≠ (best r s).1) :
    bestStack k n s = some ((best r s).1, r) := by
  obtain ⟨a, b, c⟩ := (mem_rows hn r).mp (List.mem_of_getElem? hj)
  exact bestStack_is a b c (fun g a b c => hm g ((mem_rows hn g).mpr ⟨a, b, c⟩)) fun g a b c e => first_above (rows_down _ _ _ _) (f := fun g => (best g s).1) hj hb g ((mem_rows hn g).mpr ⟨a, b, c⟩) e
/-- a row of 0 and 1 as straw -/
def un (r : List Nat) : Straw := r.map fun x => x == 1
theorem marks_un : ∀ {r : List Nat}, (∀ x ∈ r, x ≤ 1) → marks (un r) = r
  | [], _ => rfl
  | x :: r, h => by
    show (if (x == 1) = true then 1 else 0) :: marks (un r) = x :: r
    rw [marks_un fun y hy => h y (List.mem_cons_of_mem _ hy)]
    congr 1
    have := h x (List.mem_cons_self ..)
    rcases (by omega : x = 0 ∨ x = 1) with e | e <;> (rw [e]; rfl)
theorem un_marks : ∀ s : Straw, un (marks s) = s
  | [] => rfl
  | b :: s => by
    show ((if b = true then 1 else 0 : Nat) == 1) :: un (marks s) = b :: s
    rw [un_marks s]
    cases b <;> rfl
theorem marks_le (s : Straw) : ∀ x ∈ marks s, x ≤ 1 := by
  intro x hx
  unfold marks at hx
  obtain ⟨b, _, rfl⟩ := List.mem_map.mp hx
  cases b <;> decide
theorem marks_len (s : Straw) : (marks s).length = s.length := by simp [marks]
theorem un_len (r : List Nat) : (un r).length = r.length := by simp [un]
theorem lay_row {h : Heap} (o : Ok h) {n j : Nat} {r : List Nat} (hj : (rows h.length 1 (min n h.length))[j]? = some r) (hm : ∀ g ∈ rows h.length 1 (min n h.length), (best h (un r)).1 ≤ (best h (un g)).1)
    (hb : ∀ i g, i < j → (rows h.length 1 (min n h.length))[i]? = some g → (best h (un g)).1 ≠ (best h (un r)).1) : bestStraw h n = some ((best h (un r)).1, un r) := by
  have hn : min n h.length ≤ h.length * 1 := by omega
  obtain ⟨a, b, c⟩ := (mem_rows hn r).mp (List.mem_of_getElem? hj)
  have back : ∀ t : Straw, t.length = h.length → cover t = min n h.length → marks t ∈ rows h.length 1 (min n h.length) := fun t l c => (mem_rows hn _).mpr ⟨by rw [marks_len, l], marks_le t, c⟩
  refine lay_is o rfl (by rw [un_len, a]) (by unfold cover; rw [marks_un b, c]) (fun t l c => ?_) fun t l c e => ?_
  · have := hm _ (back t l c)
    rwa [un_marks] at this
  · have := first_above (rows_down _ _ _ _) (f := fun g => (best h (un g)).1) hj hb _ (back t l c) (by rw [un_marks]; exact e)
    rcases this with q | q
    · left
      rw [← q, un_marks]
    · right
      rw [marks_un b]
      exact q
end Ice
/-! What is handed in, as calls. Core Lean alone. -/
namespace Ice
open Mu42

def zs (l : List Nat) : List Int := l.map fun (n : Nat) => (n : Int)
theorem zs_length (l : List Nat) : (zs l).length = l.length := by simp [zs]
theorem nats_zs (l : List Nat) : Mu42Neutral.nats (zs l) = l := by
  unfold Mu42Neutral.nats zs
  rw [List.map_map]
  conv => rhs; rw [← List.map_id l]
  apply List.map_congr_left
  intro a _
  simp
/-- a call as it is written -/
def enc : Call → List (List Int)
  | .begin_ h => [[0], zs h]
  | .bring i n => [[1, i, n]]
  | .straw i b => [[2, i, b]]
  | .take i => [[3, i]]
  | .faces => [[4]]
  | .best => [[5]]
  | .order => [[6]]
  | .water l => [[7], zs l]
  | .lay n => [[8, n]]
  | .stack n => [[9, n]]
  | .follow n => [[10, n]]
  | .look => [[11]]
/-- its numbers within what the document tells of them -/
def Fine : Call → Prop
  | .begin_ h => h.length ≤ 8 ∧ ∀ x ∈ h, x ≤ 9
  | .bring i n => i ≤ 9 ∧ n ≤ 9
  | .straw i b => i ≤ 9 ∧ b ≤ 9
  | .take i => i ≤ 9
  | .faces => True
  | .best => True
  | .order => True
  | .water l => l.length ≤ 24 ∧ ∀ x ∈ l, x ≤ 9
  | .lay n => n ≤ 9
  | .stack n => n ≤ 20
  | .follow n => n ≤ 20
  | .look => True
theorem callOf_enc (c : Call) : Mu42Neutral.callOf (enc c) = some c := by
  cases c <;> simp [enc, Mu42Neutral.callOf, nats_zs]
theorem whole_id (c : List (List Int)) : PyMu42.whole c = c := by
  unfold PyMu42.whole
  split <;> rfl
theorem within_nat {z : Int} {k : Nat} (h : NeutralIO.within z 0 k = true) : ∃ n : Nat, z = n ∧ n ≤ k := by
  unfold NeutralIO.within at h
  rw [Bool.and_eq_true, decide_eq_true_eq, decide_eq_true_eq] at h
  exact ⟨z.toNat, by omega, by omega⟩
theorem nine_nat {z : Int} (h : Mu42Neutral.nine z = true) : ∃ n : Nat, z = n ∧ n ≤ 9 := within_nat (k := 9) h
theorem row_nats {k : Nat} {l : List Int} (h : Mu42Neutral.row k l = true) : ∃ ns : List Nat, l = zs ns ∧ ns.length ≤ k ∧ ∀ x ∈ ns, x ≤ 9 := by
  unfold Mu42Neutral.row at h
  rw [Bool.and_eq_true, decide_eq_true_eq, List.all_eq_true] at h
  have e : ∀ l : List Int, (∀ x ∈ l, Mu42Neutral.nine x = true) → ∃ ns : List Nat, l = zs ns ∧ ∀ x ∈ ns, x ≤ 9 := by
    intro l
    induction l with
    | nil => intro _; exact ⟨[], rfl, fun _ h => nomatch h⟩
    | cons a r ih =>
      intro q
      obtain ⟨n, rfl, hn⟩ := nine_nat (q a (List.mem_cons_self ..))
      obtain ⟨ns, rfl, hns⟩ := ih fun x hx => q x (List.mem_cons_of_mem _ hx)
      refine ⟨n :: ns, rfl, fun x hx => ?_⟩
      rcases List.mem_cons.mp hx with rfl | hx
      · exact hn
      · exact hns x hx
  obtain ⟨ns, rfl, q⟩ := e l h.2
  exact ⟨ns, rfl, by rw [zs_length] at h; exact h.1, q⟩
theorem asked1_enc (c : List (List Int)) (h : Mu42Neutral.asked1 c = true) : ∃ x, c = enc x ∧ Fine x := by
  unfold Mu42Neutral.asked1 at h
  split at h
  · obtain ⟨ns, rfl, a, b⟩ := row_nats h; exact ⟨.begin_ ns, rfl, a, b⟩
  · rw [Bool.and_eq_true] at h
    obtain ⟨i, rfl, a⟩ := nine_nat h.1; obtain ⟨n, rfl, b⟩ := nine_nat h.2; exact ⟨.bring i n, rfl, a, b⟩
  · rw [Bool.and_eq_true] at h
    obtain ⟨i, rfl, a⟩ := nine_nat h.1; obtain ⟨n, rfl, b⟩ := nine_nat h.2; exact ⟨.straw i n, rfl, a, b⟩
  · obtain ⟨i, rfl, a⟩ := nine_nat h; exact ⟨.take i, rfl, a⟩
  · exact ⟨.faces, rfl, trivial⟩
  · exact ⟨.best, rfl, trivial⟩
  · exact ⟨.order, rfl, trivial⟩
  · obtain ⟨ns, rfl, a, b⟩ := row_nats h; exact ⟨.water ns, rfl, a, b⟩
  · obtain ⟨i, rfl, a⟩ := nine_nat h; exact ⟨.lay i, rfl, a⟩
  · obtain ⟨i, rfl, a⟩ := within_nat (k := 20) h; exact ⟨.stack i, rfl, a⟩
  · obtain ⟨i, rfl, a⟩ := within_nat (k := 20) h; exact ⟨.follow i, rfl, a⟩
  · exact ⟨.look, rfl, trivial⟩
  · cases h
/-- the calls one by one -/
def play : Abs → List Call → List Ans
  | _, [] => []
  | o, c :: r => (step o c).2 :: play (step o c).1 r
theorem played_enc : ∀ (xs : List Call) (o : Abs), PyFlat.played Mu42Neutral.step o (xs.map enc) = play o xs
  | [], _ => rfl
  | c :: r, o => by
    have e : Mu42Neutral.step o (enc c) = step o c := by
      unfold Mu42Neutral.step
      rw [callOf_enc]
    show (Mu42Neutral.step o (enc c)).2 :: PyFlat.played Mu42Neutral.step (Mu42Neutral.step o (enc c)).1 (r.map enc) = _
    rw [e, played_enc r]
    rfl
theorem all_enc : ∀ cs : List (List (List Int)), (∀ c ∈ cs, Mu42Neutral.asked1 c = true) → ∃ xs : List Call, cs = xs.map enc ∧ ∀ x ∈ xs, Fine x
  | [], _ => ⟨[], rfl, fun _ h => nomatch h⟩
  | c :: cs, h => by
    obtain ⟨x, rfl, f⟩ := asked1_enc c (h c (List.mem_cons_self ..))
    obtain ⟨xs, rfl, g⟩ := all_enc cs fun d hd => h d (List.mem_cons_of_mem _ hd)
    refine ⟨x :: xs, rfl, fun y hy => ?_⟩
    rcases List.mem_cons.mp hy with rfl | hy
    · exact f
    · exact g y hy
/-- what is asked: a flat row of fine calls; what is due then -/
theorem asked_calls (l : List Int) (h : PyMu42.answers_asked l = true) : ∃ xs : List Call, l = PyFlat.put (xs.map enc) ∧ (∀ x ∈ xs, Fine x) ∧ 1 ≤ xs.length ∧ xs.length ≤ 60 ∧ PyMu42.answers l = PyFlat.told (play none xs) ∧ (PyMu42.answers l).length ≤ 10000000 := by
  unfold PyMu42.answers_asked at h
  cases e : PyFlat.calls PyMu42.shape l.length l with
  | none => rw [e] at h; cases h
  | some cs =>
    rw [e] at h
    simp only [Bool.and_eq_true] at h
    obtain ⟨⟨⟨⟨_, _⟩, _⟩, ha⟩, hshort⟩ := h
    have ew : cs.map PyMu42.whole = cs := by
      conv => rhs; rw [← List.map_id cs]
      exact List.map_congr_left fun c _ => whole_id c
    rw [ew] at ha
    unfold Mu42Neutral.asked at ha
    simp only [Bool.and_eq_true, decide_eq_true_eq, List.all_eq_true] at ha
    obtain ⟨h1, h60, hall⟩ := ha
    obtain ⟨xs, rfl, hf⟩ := all_enc cs hall
    refine ⟨xs, ?_, hf, by simpa using h1, by simpa using h60, ?_, of_decide_eq_true hshort⟩
    · exact (PyFlat.put_calls _ _ _ e).1
    · unfold PyMu42.answers PyMu42.calls
      rw [e]
      show PyFlat.told (PyFlat.played Mu42Neutral.step Mu42Neutral.start ((xs.map enc).map PyMu42.whole)) = _
      rw [ew, played_enc]
      rfl

/-! ### a call's numbers, plainly -/
def place : Call → Nat
  | .begin_ _ => 0
  | .bring _ _ => 1
  | .straw _ _ => 2
  | .take _ => 3
  | .faces => 4
  | .best => 5
  | .order => 6
  | .water _ => 7
  | .lay _ => 8
  | .stack _ => 9
  | .follow _ => 10
  | .look => 11
def args : Call → List Nat
  | .begin_ h => h
  | .bring i n => [i, n]
  | .straw i b => [i, b]
  | .take i => [i]
  | .faces => []
  | .best => []
  | .order => []
  | .water l => l
  | .lay n => [n]
  | .stack n => [n]
  | .follow n => [n]
  | .look => []
def isRow : Call → Bool
  | .begin_ _ => true
  | .water _ => true
  | _ => false
/-- how many numbers stand behind a call's own, where it has no row -/
def width : Nat → Nat
  | 1 => 2
  | 2 => 2
  | 3 => 1
  | 8 => 1
  | 9 => 1
  | 10 => 1
  | _ => 0
def flat1 (x : Call) : List Nat := place x :: ((if isRow x = true then [(args x).length] else []) ++ args x)
def flatN (xs : List Call) : List Nat := xs.flatMap flat1
theorem put1_flat (x : Call) : PyFlat.put1 (enc x) = zs (flat1 x) := by
  cases x <;> simp [enc, flat1, PyFlat.put1, PyFlat.putRows, PyFlat.putRow, zs, isRow, args, place]
theorem put_flat : ∀ xs : List Call, PyFlat.put (xs.map enc) = zs (flatN xs)
  | [] => rfl
  | x :: xs => by
    rw [List.map_cons]
    show PyFlat.put1 (enc x) ++ PyFlat.put (xs.map enc) = zs (flat1 x ++ flatN xs)
    rw [put1_flat, put_flat xs]
    simp [zs]
theorem args_width (x : Call) (h : isRow x = false) : (args x).length = width (place x) := by
  cases x <;> first | rfl | cases h
theorem args_le {x : Call} (h : Fine x) : (args x).length ≤ 24 := by
  cases x <;> simp [args] <;> first | omega | (have := h.1; omega)
theorem flatN_snoc (xs : List Call) (x : Call) : flatN (xs ++ [x]) = flatN xs ++ flat1 x := by
  unfold flatN
  rw [List.flatMap_append]
  simp
theorem flat1_pos (x : Call) : 0 < (flat1 x).length := by
  unfold flat1
  simp
/-- the told answers, list by list -/
def toldN (as : List (List Int)) : List Int := as.flatMap fun a => (a.length : Int) :: a
theorem told_eq (as : List (List Int)) : PyFlat.told as = toldN as := rfl
/-- the state behind the first calls, the answers so far -/
def after (xs : List Call) : Abs := xs.foldl (fun o c => (step o c).1) none
theorem play_snoc : ∀ (xs : List Call) (o : Abs) (x : Call), play o (xs ++ [x]) = play o xs ++ [(step (xs.foldl (fun o c => (step o c).1) o) x).2]
  | [], _, _ => rfl
  | c :: xs, o, x => by
    show (step o c).2 :: play (step o c).1 (xs ++ [x]) = (step o c).2 :: play (step o c).1 xs ++ _
    rw [play_snoc xs]
    rfl
theorem after_snoc (xs : List Call) (x : Call) : after (xs ++ [x]) = (step (after xs) x).1 := by
  unfold after
  rw [List.foldl_append]
  rfl
theorem place_lt (x : Call) : place x < 12 := by cases x <;> (simp [place])
end Ice
/-! Rules of my own over the layer: what walks or sums a list or a tuple, told by a flag (true: a list). -/
namespace Ice
open PySem PySem.Spec PyProof.Rows L2

def SqK (K : PySem.W.Frag) (H : Hp) (a : Addr) (k : Bool) (xs : List V) : Prop := match k with
  | true => SqL K H a xs
  | false => SqT K H a xs
def IterK (k : Bool) (h : Heap) (it a : Addr) (i : Nat) : Prop := match k with
  | true => h.IsListIter it a i
  | false => h.IsTupleIter it a i
def PlK (k : Bool) (h : Heap) (a : Addr) (its : Array Value) : Prop := match k with
  | true => h.IsList a its
  | false => h.IsTuple a its
def itObj (k : Bool) (a : Addr) : Obj := match k with
  | true => { cls := .type "list_iterator", data := .fields #[.ref a, .int 0 0] }
  | false => { cls := .type "tuple_iterator", data := .fields #[.ref a, .int 0 0] }
theorem SqK.same {K : PySem.W.Frag} {H H' : Hp} {a : Addr} {k : Bool} {xs : List V} (e : Same H H') (h : SqK K H a k xs) : SqK K H' a k xs := by
  cases k
  · rcases h with (h | ⟨o, h⟩) | h
    · exact .inl (.inl (e _ _ h))
    · exact .inl (.inr ⟨o, e _ _ h⟩)
    · exact .inr h
  · exact e.seq h
section
variable {X : Cx} {pins : List (Addr × Obj)} {σ : L2.St} {H : Hp} {s : Shared} {a : Addr} {k : Bool} {xs ys : List V}
theorem sqK_get (I : Inv X pins σ H s) (h : SqK X.K H a k xs) : ∃ its : List Value, Vals xs its ∧ PlK k s.heap a its.toArray ∧ a < s.heap.objs.size := by
  cases k
  · obtain ⟨its, r, p, _⟩ := I.tuple h
    exact ⟨its, r, p, by obtain ⟨o, e, _⟩ := p; exact Heap.lt_size e⟩
  · obtain ⟨its, r, p, _⟩ := I.list h
    exact ⟨its, r, p.isList, p.lt⟩
theorem sqK_inj (I : Inv X pins σ H s) (h : SqK X.K H a k xs) (h' : SqK X.K H a k ys) : xs = ys := by
  cases k
  · exact I.tuple_inj h h'
  · exact I.list_inj h h'
end
theorem IterK.at {h h' : Heap} {k : Bool} {it a : Addr} {i : Nat} (x : IterK k h it a i) (e : ∀ o, h.get? it = some o → h'.get? it = some o) : IterK k h' it a i := by
  cases k
  · exact Heap.IsTupleIter.at x e
  · exact Heap.IsListIter.at x e
theorem IterK.obj {h : Heap} {k : Bool} {it a : Addr} {i : Nat} (x : IterK k h it a i) : ∃ o, h.get? it = some o ∧ ∀ v, o.data ≠ .cell v := by
  cases k <;> (obtain ⟨o, e, _, d⟩ := x; exact ⟨o, e, fun v q => by rw [d] at q; cases q⟩)
theorem PlK.at {h h' : Heap} {k : Bool} {a : Addr} {its : Array Value} (x : PlK k h a its) (e : ∀ o, h.get? a = some o → h'.get? a = some o) : PlK k h' a its := by
  cases k
  · exact Heap.IsTuple.at x e
  · exact Heap.IsList.at x e
theorem iterK_new {k : Bool} {h : Heap} {it a : Addr} (e : h.get? it = some (itObj k a)) : IterK k h it a 0 := by
  cases k <;> exact ⟨_, e, rfl, rfl⟩
theorem drawK {prog : Program} {w : World} {A : Around} (hh : A.handled = none) (k : Bool) (it l : Addr) (hne : l ≠ it) (items : Array Value) :
    Draws prog w A it [it, l] items.size (fun i v => items[i]? = some v) (fun i h => IterK k h it l i ∧ PlK k h l items) := by
  cases k
  · exact Draws.tuple hh it l hne items
  · exact Draws.list hh it l hne items
theorem beginK (k : Bool) (l : Addr) (items : Array Value) : Begins (.ref l) (itObj k l) fun h => PlK k h l items := by
  cases k
  · exact begins_tuple l items
  · exact begins_list l items

/-! ### zip of two, each a list or a tuple -/
def ItzK (K : PySem.W.Frag) (k1 k2 : Bool) (a b : Addr) : It :=
  ⟨fun i H => ∃ (xs ys : List V) (x y : V), SqK K H a k1 xs ∧ SqK K H b k2 ys ∧ xs[i]? = some x ∧ ys[i]? = some y,
    fun i H v H' => ∃ T x y, v = .ref T ∧ H T = none ∧ H' = upd H T (.tup [x, y]) ∧ (∀ xs, SqK K H a k1 xs → xs[i]? = some x) ∧ ∀ ys, SqK K H b k2 ys → ys[i]? = some y,
    fun i H => ∃ xs ys : List V, SqK K H a k1 xs ∧ SqK K H b k2 ys ∧ i ≤ xs.length ∧ i ≤ ys.length ∧ (i = xs.length ∨ i = ys.length)⟩
theorem sep_of {z TI TO i1 i2 a b : Addr} (D : ZipApart z TI TO i1 i2 a b) : ZipSep2 z TI TO i1 i2 [i1, a] [i2, b] := by
  have two : ∀ {c d e : Addr}, c ≠ d → c ≠ e → c ∉ [d, e] := fun p q m => by
    rcases List.mem_cons.mp m with r | m
    · exact p r
    · exact q (List.mem_singleton.mp m)
  exact ⟨D.TIz, D.TOz, D.TITO, D.TIi1, by simp, two D.i1z.symm D.l1z.symm, two D.TOi1 D.l1TO.symm, D.TIi2, by simp, two D.i2z.symm D.l2z.symm, two D.TOi2 D.l2TO.symm, two D.i12 D.l2i1.symm, two D.i12.symm D.l1i2.symm⟩
theorem turn_zipK {P : Program} {w : World} {K : PySem.W.Frag} {k1 k2 : Bool} {elts : List Expr} {kk : Nat} {tpos : Pos} {a b z TI TO i1 i2 : Addr} (D : ZipApart z TI TO i1 i2 a b) :
    Turn P w K (.Tuple elts kk tpos) (ItzK K k1 k2 a b) [z, TI, TO, i1, i2] z (fun i h => IsZip h z TI TO .none ∧ IsTupOf2 h TI (.ref i1) (.ref i2) ∧ (∃ x y, IsTupOf2 h TO x y) ∧ IterK k1 h i1 a i ∧ IterK k2 h i2 b i) where
  mem := by simp
  obj := fun i h sta c hc => by
    obtain ⟨zip0, tin, ⟨x, y, tout⟩, fst1, snd2⟩ := sta
    have which : c = z ∨ c = TI ∨ c = TO ∨ c = i1 ∨ c = i2 := by simpa using hc
    rcases which with q | q | q | q | q
    · rw [q]; exact ⟨_, zip0, fun v q => nomatch q⟩
    · rw [q]; exact ⟨_, tin, fun v q => nomatch q⟩
    · rw [q]; exact ⟨_, tout, fun v q => nomatch q⟩
    · rw [q]; exact fst1.obj
    · rw [q]; exact snd2.obj
  keep := fun i h h' sta k => by
    obtain ⟨zip0, tin, ⟨x, y, tout⟩, fst1, snd2⟩ := sta
    exact ⟨k z (by simp) _ zip0, k TI (by simp) _ tin, ⟨x, y, k TO (by simp) _ tout⟩, fst1.at fun o q => k i1 (by simp) o q, snd2.at fun o q => k i2 (by simp) o q⟩
  item := by
    intro X eP eW eK hc i pn s sl H E inv fo sta gg
    subst eP eW eK
    obtain ⟨zip0, tin, ⟨x0, y0, tout⟩, fst1, snd2⟩ := sta
    obtain ⟨xs, ys, x, y, seqx, seqy, hx, hy⟩ := gg
    obtain ⟨its, vs1, p, _⟩ := sqK_get inv seqx
    obtain ⟨its2, vs2, p2, _⟩ := sqK_get inv seqy
    obtain ⟨u, itemx, relx⟩ := vs1.get hx
    obtain ⟨u2, itemy, rely⟩ := vs2.get hy
    have zlt : z < s.heap.objs.size := Heap.lt_size zip0
    have hh : X.A.in1.handled = none := inv.ok.hd hc
    have sep := sep_of D
    have l1 : i < its.length := (List.getElem?_eq_some_iff.mp itemx).1
    have l2 : i < its2.length := (List.getElem?_eq_some_iff.mp itemy).1
    refine wpAny_pyNext_zipD2_item sep (drawK hh k1 i1 a D.l1i1 its.toArray) (drawK hh k2 i2 b D.l2i2 its2.toArray) zip0 tin tout ⟨fst1, p⟩ ⟨snd2, p2⟩ (by simpa using l1) (by simpa using l2) fun v1 v2 h' tok0 e1 e2 z' TO' st1 st2 hT size0 kept0 => ?_
    have ev1 : v1 = u := by
      have q : its[i]? = some v1 := by simpa using e1
      rw [itemx] at q; exact (Option.some.inj q).symm
    have ev2 : v2 = u2 := by
      have q : its2[i]? = some v2 := by simpa using e2
      rw [itemy] at q; exact (Option.some.inj q).symm
    subst ev1 ev2
    refine ⟨_, rfl, wpAny_letOwnedTupleGo_zip (s := { s with heap := h', toks := tok0 }) z' fun h'' z'' same => ?_⟩
    have madeT : h''.get? s.heap.objs.size = some { cls := .type "tuple", data := .seq #[v1, v2] } := (same.2 _ (Nat.ne_of_gt zlt)).trans hT
    have okT : ObjOk X.prog X.w (upd H s.heap.objs.size (.tup [x, y])) h'' s.heap.objs.size (.tup [x, y]) :=
      ⟨by show 2 ≤ sizeLine; decide, [v1, v2], .cons relx (.cons rely .nil), ⟨_, madeT, rfl, _, rfl⟩⟩
    have inv1 : Inv X pn sl (upd H s.heap.objs.size (.tup [x, y])) { s with heap := h'', toks := tok0 } :=
      inv.turnedNew (t' := tok0) (ch := [z, TI, TO, i1, i2]) (fun c o bmem q => (same.2 c (fun q' => bmem (by simp [q']))).trans (kept0 c o (fun q' => bmem (by simp [q'])) (fun q' => bmem (by simp [q'])) (fun q' => bmem (by simp [q'])) (fun q' => bmem (by simp [q'])) q)) fo (Nat.le_refl _) okT
    refine ⟨.ref s.heap.objs.size, _, inv1, rfl, ⟨_, x, y, rfl, inv.hok.fresh (Nat.le_refl _), rfl, fun l len0 => by rw [sqK_inj inv len0 seqx]; exact hx, fun l len0 => by rw [sqK_inj inv len0 seqy]; exact hy⟩, ⟨z'', ?_, ⟨v1, v2, ?_⟩, ?_, ?_⟩, fun c cmem => ?_⟩
    · exact (same.2 _ D.TIz).trans (kept0 _ _ D.TIz D.TITO D.TIi1 D.TIi2 tin)
    · exact (same.2 _ D.TOz).trans TO'
    · exact st1.1.at fun o q => (same.2 _ D.i1z).trans q
    · exact st2.1.at fun o q => (same.2 _ D.i2z).trans q
    · have clt : c < s.heap.objs.size := by
        have which : c = z ∨ c = TI ∨ c = TO ∨ c = i1 ∨ c = i2 := by simpa using cmem
        rcases which with q | q | q | q | q
        · rw [q]; exact zlt
        · rw [q]; exact Heap.lt_size tin
        · rw [q]; exact Heap.lt_size tout
        · rw [q]; obtain ⟨_, e1, _⟩ := fst1.obj; exact Heap.lt_size e1
        · rw [q]; obtain ⟨_, e2, _⟩ := snd2.obj; exact Heap.lt_size e2
      rw [upd_ne (Nat.ne_of_lt clt)]
      exact (fo c cmem).1
  done := by
    intro X eP eW eK hc i pn s sl H E inv fo sta gg
    subst eP eW eK
    obtain ⟨zip0, tin, ⟨x0, y0, tout⟩, fst1, snd2⟩ := sta
    obtain ⟨xs, ys, seqx, seqy, hle1, hle2, hend⟩ := gg
    obtain ⟨its, vs1, p, _⟩ := sqK_get inv seqx
    obtain ⟨its2, vs2, p2, _⟩ := sqK_get inv seqy
    have l1 := vs1.length
    have l2 := vs2.length
    have hh : X.A.in1.handled = none := inv.ok.hd hc
    have sep := sep_of D
    refine wpAny_pyNext_zipD2_end sep (drawK hh k1 i1 a D.l1i1 its.toArray) (drawK hh k2 i2 b D.l2i2 its2.toArray) zip0 tin tout ⟨fst1, p⟩ ⟨snd2, p2⟩ (by simp; omega) (by simp; omega) (by simp; omega) fun h' tok0 kept0 => ⟨rfl, ?_⟩
    exact inv.turnedL (t' := tok0) (ch := [z, TI, TO, i1, i2]) (fun c o bmem q =>
      kept0 c o (fun q' => bmem (by simp [q'])) (fun q' => bmem (by simp [q'])) (fun q' => bmem (by simp [q'])) (fun q' => bmem (by simp [q'])) q) fo
  self := fun A i s Q E sta h => wpAny_pyIter_zip sta.1 h
def iZipK (K : PySem.W.Frag) (ta : TA) : TI := fun sl H R => ta sl H fun vs H1 => ∃ a b k1 k2 xs ys, vs = [.ref a, .ref b] ∧ SqK K H1 a k1 xs ∧ SqK K H1 b k2 ys ∧ R (ItzK K k1 k2 a b) H1
theorem pi_zipK {X : Cx} {e e2 : Expr} {ta : TA} {p pos tpos : Pos} {elts : List Expr} {kk : Nat} (gg : Gl X "zip") (hm : X.mg "zip" = none) (ha : PA X [e, e2] ta)
    (hs : starEach [e, e2] X.env = (false, eval e X.env) :: starEach [e2] X.env := by rfl) (hpl : (backTo pos (starEach [e2] X.env)).any (·.1) = false := by rfl) :
    PI X (.Tuple elts kk tpos) (.Call (.Name "zip" p) [e, e2] [] pos) (iZipK X.K ta) := by
  refine ⟨fun pn s sl H R inv h => ?_⟩
  refine Call_ (ld_blt inv gg hm PyProof.Rows.boot_zip (PyProof.Rows.callWith_type1 (thn (ha.run pos pn s sl H _ inv h) fun us s1 ⟨vs, H1, inv1, r1, iterq⟩ => ?_) hs hpl))
  obtain ⟨a, b, k1, k2, xs, ys, ex, seqx, seqy, q⟩ := iterq
  subst ex
  cases r1 with
  | cons r rr =>
    cases rr with
    | cons r' rr =>
      cases rr
      cases r
      cases r'
      have free5 : ∀ c, c ∈ [s1.heap.objs.size + 4, s1.heap.objs.size + 2, s1.heap.objs.size + 3, s1.heap.objs.size, s1.heap.objs.size + 1] → FpOk X pn H1 c := fun c cmem => by
        have which : c = s1.heap.objs.size + 4 ∨ c = s1.heap.objs.size + 2 ∨ c = s1.heap.objs.size + 3 ∨ c = s1.heap.objs.size ∨ c = s1.heap.objs.size + 1 := by simpa using cmem
        have cle : s1.heap.objs.size ≤ c := by
          rcases which with z | z | z | z | z
          · rw [z]; exact Nat.le_add_right _ _
          · rw [z]; exact Nat.le_add_right _ _
          · rw [z]; exact Nat.le_add_right _ _
          · rw [z]; exact Nat.le_refl _
          · rw [z]; exact Nat.le_add_right _ _
        exact inv1.fpOk cle (inv1.hok.fresh cle)
      obtain ⟨its, vs1, p1, lt1⟩ := sqK_get inv1 seqx
      obtain ⟨its2, vs2, p2, lt2⟩ := sqK_get inv1 seqy
      refine zip_begins2 (beginK k1 a its.toArray) (beginK k2 b its2.toArray) p1 p2 fun h' zip0 tin tout g1 g2 size0 kept0 => wpAny_pyIter_zip zip0 ?_
      have inv2 : Inv X pn sl H1 { s1 with heap := h' } := inv1.kept (t' := s1.toks) kept0
      exact ⟨s1.heap.objs.size + 4, [s1.heap.objs.size + 4, s1.heap.objs.size + 2, s1.heap.objs.size + 3, s1.heap.objs.size, s1.heap.objs.size + 1], _, _, H1, rfl, inv2, turn_zipK (PySem.W.ktu_apart s1.heap.objs.size a b lt1 lt2), ⟨zip0, tin, ⟨_, _, tout⟩, iterK_new g1, iterK_new g2⟩, free5, q⟩
theorem walk_zipK {K : PySem.W.Frag} {k1 k2 : Bool} {a b : Addr} {xs ys : List V} {n : Nat} (num0 : n = min xs.length ys.length) : Walk (ItzK K k1 k2 a b) n (fun H => SqK K H a k1 xs ∧ SqK K H b k2 ys) (YPair (fun i => xs[i]?) (fun i => ys[i]?)) := by
  subst num0
  refine ⟨fun i _ ints0 q => ?_, fun _ q => ⟨xs, ys, q.1, q.2, by omega, by omega, by omega⟩, fun i H v H' _ q y => ?_⟩
  · have fst1 : i < xs.length := by omega
    have snd2 : i < ys.length := by omega
    exact ⟨xs, ys, xs[i], ys[i], q.1, q.2, by simp [fst1], by simp [snd2]⟩
  · obtain ⟨T, x, z, fst1, snd2, h3, h4, h5⟩ := y
    exact ⟨T, x, z, fst1, snd2, h3, h4 xs q.1, h5 ys q.2⟩

/-! ### a for over a list or a tuple -/
def ItsK (K : PySem.W.Frag) (k : Bool) (a : Addr) : It := match k with
  | true => Itl K a
  | false => Itt K a
theorem walk_sqK {K : PySem.W.Frag} {k : Bool} {a : Addr} {xs : List V} : Walk (ItsK K k a) xs.length (fun H => SqK K H a k xs) (YAt xs) := by
  cases k
  · exact walk_tup
  · exact walk_list
def iSeq (K : PySem.W.Frag) (tl : TE) : TI := fun sl H R => tl sl H fun x H1 => ∃ a k xs, x = .ref a ∧ SqK K H1 a k xs ∧ R (ItsK K k a) H1
theorem pi_seq {X : Cx} {tg e : Expr} {tl : TE} (isE : PE X e tl) : PI X tg e (iSeq X.K tl) := by
  refine ⟨fun pn s sl H R inv h => ?_⟩
  refine thn (isE.run pn s sl H _ inv h) fun v s1 ⟨x, H1, inv1, r, a, k, xs, ex, seqq, q⟩ => ?_
  subst ex
  cases r
  have fin : ∀ b, b ∈ [s1.heap.objs.size] → FpOk X pn H1 b := fun b bmem => by
    have e : b = s1.heap.objs.size := by simpa using bmem
    subst e
    exact inv1.fpOk (Nat.le_refl _) (inv1.hok.fresh (Nat.le_refl _))
  cases k
  · obtain ⟨its, vs1, p, zip0⟩ := inv1.tuple seqq
    refine wpAny_pyIter_tuple (show s1.heap.IsTuple a its.toArray from p) ?_
    exact ⟨s1.heap.objs.size, [s1.heap.objs.size], _, _, H1, rfl, inv1.kept (t' := s1.toks) fun b o e => Heap.get?_push_of_some _ e, turn_tuple a _, ⟨_, Heap.get?_push_size _ rfl, rfl, rfl⟩, fin, q⟩
  · obtain ⟨its, vs1, p, zip0⟩ := inv1.list seqq
    refine wpAny_pyIter_list p.isList ?_
    exact ⟨s1.heap.objs.size, [s1.heap.objs.size], _, _, H1, rfl, inv1.kept (t' := s1.toks) fun b o e => Heap.get?_push_of_some _ e, turn_list a _, ⟨_, Heap.get?_push_size _ rfl, rfl, rfl⟩, fin, q⟩

/-! ### enumerate of a list or a tuple -/
set_option maxHeartbeats 4000000 in
theorem meets_enum1 {v : Value} {o : Obj} {H : Heap → Prop} (B : Begins v o H) :
    Meets (Builtin.«enumerate.__new__» ⟨[.type "enumerate", v], []⟩) (fun _ R s => H s.heap ∧
      R (.ok (.ret (.ref (s.heap.push o).objs.size))) { s with heap := (s.heap.push o).push { cls := .type "enumerate", data := .fields #[.none, .bool false, .ref s.heap.objs.size, rawInt 0, .none, .none] } }) :=
  .of_wp fun prog w A R s h => by
    obtain ⟨hp, g, d, tok0, os⟩ := s; obtain ⟨fst1, h⟩ := h
    have hsub := sub_enumerate
    have iterq : ∀ {A' : Around} {E : Value → Shared → Prop} {Q : Value → Shared → Prop}, Q (.ref hp.objs.size) ⟨hp.push o, g, d, tok0, os⟩ → wpAny (model prog w) A' (pyIter v) Q E ⟨hp, g, d, tok0, os⟩ :=
      fun q => B.iter prog w _ _ ⟨hp, g, d, tok0, os⟩ _ fst1 q
    wp_walk using iterq
    refine wpAny_stack_any fun sta => wpAny_pure ?_
    split
    · rename_i c _ _ _ _ _
      cases (c == Value.type "enumerate")
      · wp_walk using iterq
        exact ⟨_, rfl, h⟩
      · wp_walk using iterq
        exact ⟨_, rfl, h⟩
    · wp_walk using iterq
      exact ⟨_, rfl, h⟩
theorem enum_begins1 {prog : Program} {w : World} {A : Around} {E : Value → Shared → Prop} {s : Shared} {v : Value} {o : Obj} {H : Heap → Prop} {Q : Value → Shared → Prop} (B : Begins v o H) (fst1 : H s.heap)
    (h : ∀ h', IsEnum h' (s.heap.objs.size + 1) s.heap.objs.size 0 .none → h'.get? s.heap.objs.size = some o → h'.objs.size = s.heap.objs.size + 2 →
      (∀ b o, s.heap.get? b = some o → h'.get? b = some o) → Q (.ref (s.heap.objs.size + 1)) { s with heap := h' }) :
    wpAny (model prog w) A (call (.type "enumerate") [v]) Q E s := by
  refine callType_new F.called_enumerate (by decide) (F.typeCall_enumerate_1 _) (F.newCall_enumerate_1 _) (fun obj => F.args_object_init_2 obj _) F.entry_enumerate_new
    (meets_enum1 B) ⟨fst1, ?_⟩
  have zip0 : (s.heap.push o).objs.size = s.heap.objs.size + 1 := Heap.size_push ..
  show _ ∧ _
  rw [zip0]
  have isE : IsEnum ((s.heap.push o).push { cls := .type "enumerate", data := .fields #[.none, .bool false, .ref s.heap.objs.size, rawInt 0, .none, .none] }) (s.heap.objs.size + 1) s.heap.objs.size 0 .none := by
    have := Heap.get?_push_size (s.heap.push o) (o := { cls := .type "enumerate", data := .fields #[.none, .bool false, .ref s.heap.objs.size, rawInt 0, .none, .none] }) rfl
    rw [zip0] at this; exact this
  refine ⟨⟨_, isE, rfl⟩, h _ isE (Heap.get?_push_of_some _ (Heap.get?_push_size _ B.free)) (by rw [Heap.size_push, zip0]) fun b o x => Heap.get?_push_of_some _ (Heap.get?_push_of_some _ x)⟩
def IteK (K : PySem.W.Frag) (k : Bool) (a : Addr) : It :=
  ⟨fun i H => ∃ (xs : List V) (x : V), SqK K H a k xs ∧ xs[i]? = some x, fun i H v H' => ∃ T x, v = .ref T ∧ H T = none ∧ H' = upd H T (.tup [.int (i : Nat), x]) ∧ ∀ xs, SqK K H a k xs → xs[i]? = some x, fun i H => ∃ xs : List V, SqK K H a k xs ∧ i = xs.length⟩
theorem turn_enumK {P : Program} {w : World} {K : PySem.W.Frag} {k : Bool} {elts : List Expr} {kk : Nat} {tpos : Pos} (a e it : Addr) :
    Turn P w K (.Tuple elts kk tpos) (IteK K k a) [e, it] e (fun i h => (∃ old, IsEnum h e it ((i : Nat) : Int) old) ∧ IterK k h it a i ∧ e ≠ it ∧ a ≠ it ∧ a ≠ e) where
  mem := by simp
  obj := fun i h sta b bmem => by
    obtain ⟨⟨old, isE⟩, snd2, _⟩ := sta
    have which : b = e ∨ b = it := by simpa using bmem
    rcases which with z | z
    · rw [z]; exact ⟨_, isE, fun v q => nomatch q⟩
    · rw [z]; exact snd2.obj
  keep := fun i h h' sta k => let ⟨⟨old, isE⟩, ints0, apart0⟩ := sta; ⟨⟨old, k e (by simp) _ isE⟩, ints0.at fun o q => k it (by simp) o q, apart0⟩
  item := by
    intro X eP eW eK hc i pn s sl H E inv fo sta gg
    subst eP eW eK
    obtain ⟨⟨old, isE⟩, isIt, apart0, hai, hae⟩ := sta
    obtain ⟨xs, x, seqq, hx⟩ := gg
    obtain ⟨its, vs1, p, zip0⟩ := sqK_get inv seqq
    obtain ⟨u, itemx, relx⟩ := vs1.get hx
    have elt : e < s.heap.objs.size := Heap.lt_size isE
    have ilt : it < s.heap.objs.size := by obtain ⟨_, q, _⟩ := isIt.obj; exact Heap.lt_size q
    have hh : X.A.in1.handled = none := inv.ok.hd hc
    have l1 : i < its.length := (List.getElem?_eq_some_iff.mp itemx).1
    refine wpAny_pyNext_enum_itemC (drawK hh k it a hai its.toArray) isE ⟨isIt, p⟩ (by simpa using l1) apart0 (by simp [apart0, Ne.symm hae]) fun v h' tok0 e1 ho st' hT size0 kept0 => ?_
    have ev : v = u := by
      have q : its[i]? = some v := by simpa using e1
      rw [itemx] at q; exact (Option.some.inj q).symm
    subst ev
    refine ⟨_, rfl, wpAny_letOwnedTupleGo_enum (s := { s with heap := h', toks := tok0 + 1 }) ho fun h'' he' same => ?_⟩
    have madeT : h''.get? s.heap.objs.size = some { cls := .type "tuple", data := .seq #[.int i tok0, v] } := (same.2 _ (Nat.ne_of_gt elt)).trans hT
    have okT : ObjOk X.prog X.w (upd H s.heap.objs.size (.tup [.int (i : Nat), x])) h'' s.heap.objs.size (.tup [.int (i : Nat), x]) :=
      ⟨by show 2 ≤ sizeLine; decide, [.int i tok0, v], .cons ⟨_, rfl⟩ (.cons relx .nil), ⟨_, madeT, rfl, _, rfl⟩⟩
    have inv1 : Inv X pn sl (upd H s.heap.objs.size (.tup [.int (i : Nat), x])) { s with heap := h'', toks := tok0 + 1 } :=
      inv.turnedNew (ch := [e, it]) (fun b ob bmem q => (same.2 b (fun z => bmem (by simp [z]))).trans (kept0 b ob (fun z => bmem (by simp [z])) (fun z => bmem (by simp [z])) q)) fo (Nat.le_refl _) okT
    refine ⟨.ref s.heap.objs.size, _, inv1, rfl, ⟨_, x, rfl, inv.hok.fresh (Nat.le_refl _), rfl, fun ys hy => by rw [sqK_inj inv hy seqq]; exact hx⟩, ⟨⟨v, ?_⟩, st'.1.at fun o q => (same.2 it (Ne.symm apart0)).trans q, apart0, hai, hae⟩, fun b bmem => ?_⟩
    · have e1 : ((i + 1 : Nat) : Int) = (i : Int) + 1 := by omega
      rw [e1]; exact he'
    · have blt : b < s.heap.objs.size := by
        have which : b = e ∨ b = it := by simpa using bmem
        rcases which with z | z
        · rw [z]; exact elt
        · rw [z]; exact ilt
      rw [upd_ne (Nat.ne_of_lt blt)]
      exact (fo b bmem).1
  done := by
    intro X eP eW eK hc i pn s sl H E inv fo sta gg
    subst eP eW eK
    obtain ⟨⟨old, isE⟩, isIt, apart0, hai, hae⟩ := sta
    obtain ⟨xs, seqq, hx⟩ := gg
    obtain ⟨its, vs1, p, zip0⟩ := sqK_get inv seqq
    obtain ⟨f0, f1, f2, f3, f4, f5⟩ := fo it (by simp)
    have len0 := vs1.length
    have hh : X.A.in1.handled = none := inv.ok.hd hc
    have en : its.toArray.size = i := by simp; omega
    exact wpAny_pyNext_enum_endD (drawK hh k it a hai its.toArray) isE (by rw [en]; exact ⟨isIt, p⟩) fun h' eb => ⟨rfl, inv.turned (t' := s.toks) (fun b o bmem q => eb b o bmem q) f0 f1 f3 f4 f5⟩
  self := fun A i s Q E sta h => let ⟨⟨_, isE⟩, _⟩ := sta; wpAny_pyIter_enum isE h
def iEnumK (K : PySem.W.Frag) (ta : TA) : TI := fun sl H R => ta sl H fun vs H1 => ∃ a k xs, vs = [.ref a] ∧ SqK K H1 a k xs ∧ R (IteK K k a) H1
theorem pi_enumK {X : Cx} {e : Expr} {ta : TA} {p pos tpos : Pos} {elts : List Expr} {kk : Nat} (gg : Gl X "enumerate") (hm : X.mg "enumerate" = none) (ha : PA X [e] ta) (hs : starEach [e] X.env = [(false, eval e X.env)] := by rfl) :
    PI X (.Tuple elts kk tpos) (.Call (.Name "enumerate" p) [e] [] pos) (iEnumK X.K ta) := by
  refine ⟨fun pn s sl H R inv h => ?_⟩
  refine Call_ (ld_blt inv gg hm boot_enumerate (PyProof.Rows.callWith_type1 (thn (ha.run pos pn s sl H _ inv h) fun us s1 ⟨vs, H1, inv1, r1, iterq⟩ => ?_) hs rfl))
  obtain ⟨a, k, xs, ex, seqq, q⟩ := iterq
  subst ex
  cases r1 with
  | cons r rr =>
    cases rr
    cases r
    obtain ⟨its, vs1, p', zip0⟩ := sqK_get inv1 seqq
    refine enum_begins1 (beginK k a its.toArray) p' fun h' isE isIt size0 kept0 => wpAny_pyIter_enum isE ?_
    have inv2 : Inv X pn sl H1 { s1 with heap := h' } := inv1.kept (t' := s1.toks) kept0
    refine ⟨s1.heap.objs.size + 1, [s1.heap.objs.size + 1, s1.heap.objs.size], _, _, H1, rfl, inv2, turn_enumK a (s1.heap.objs.size + 1) s1.heap.objs.size, ⟨⟨.none, isE⟩, iterK_new isIt, Nat.succ_ne_self _, Nat.ne_of_lt zip0, Nat.ne_of_lt (Nat.lt_succ_of_lt zip0)⟩, fun b bmem => ?_, q⟩
    have which : b = s1.heap.objs.size + 1 ∨ b = s1.heap.objs.size := by simpa using bmem
    have cle : s1.heap.objs.size ≤ b := by
      rcases which with z | z
      · rw [z]; exact Nat.le_add_right _ _
      · rw [z]; exact Nat.le_refl _
    exact inv1.fpOk cle (inv1.hok.fresh cle)
theorem walk_enumK {K : PySem.W.Frag} {k : Bool} {a : Addr} {xs : List V} : Walk (IteK K k a) xs.length (fun H => SqK K H a k xs) (YPair (fun i => some (.int (i : Nat))) (fun i => xs[i]?)) := by
  refine ⟨fun i _ ints0 q => ⟨xs, xs[i], q, by simp [ints0]⟩, fun _ q => ⟨xs, q, rfl⟩, fun i H v H' _ q y => ?_⟩
  obtain ⟨T, x, fst1, snd2, h3, h4⟩ := y
  exact ⟨T, .int (i : Nat), x, fst1, snd2, h3, rfl, h4 xs q⟩

/-! ### sum of a list or a tuple of ints -/
def rSumK (K : PySem.W.Frag) : List V → Hp → VK → Prop := fun vs H Q => ∃ (a : Addr) (k : Bool) (ns : List Int), vs = [V.ref a] ∧ SqK K H a k (ns.map V.int) ∧ Q (.int ns.sum) H
theorem cr_sumK {X : Cx} (hc : X.calm = true) : CallR X (.builtin "sum") (rSumK X.K) := by
  intro pn s sl H vs us Q inv r h
  obtain ⟨a, k, ns, rfl, hs, q⟩ := h
  cases k
  · obtain ⟨its, vs1, len0, _⟩ := inv.tuple hs
    rw [Vals.ref1 r]
    have ints0 := vs1.ints
    obtain ⟨xs, hx⟩ := ints0.allInts.items
    have hl' : s.heap.IsTuple a its.toArray := len0
    have num0 : numsOf its.toArray.toList = ns := by rw [show its.toArray.toList = its from rfl, ints0.numsOf]
    rw [hx] at hl' num0
    rw [nums_intItems] at num0
    refine PySem.W.ktm_sumG (inv.ok.hd hc) hl' fun h' tok0 t' kept0 => ?_
    rw [preSum_eq, List.take_of_length_le (by simp), num0]
    exact ⟨.int _, H, inv.kept kept0, ⟨_, rfl⟩, q⟩
  · exact cr_sum hc pn s sl H _ us Q inv r ⟨a, ns, rfl, hs, q⟩

/-! ### xs[i] op= e of a list -/
def gList (K : PySem.W.Frag) : V → V → Hp → VK → Prop := fun x y H Q => ∃ p xs j v, x = .ref p ∧ y = .int ((j : Nat) : Int) ∧ SqL K H p xs ∧ xs[j]? = some v ∧ Q v H
theorem get_list {X : Cx} : PGet X (gList X.K) := by
  intro pn s sl H x y v u Q inv rx ry h
  obtain ⟨p, xs, j, z, rfl, rfl, seqq, isE, q⟩ := h
  cases rx
  obtain ⟨t, rfl⟩ := ry
  obtain ⟨its, r, pl, zip0⟩ := inv.list seqq
  obtain ⟨w, ew, rw'⟩ := r.get isE
  have len0 := r.length
  have num0 := line63
  have lt : j < xs.length := (List.getElem?_eq_some_iff.mp isE).1
  exact wpAny_getItem_list pl.isList (by omega) (by omega) (by simpa using ew) ⟨z, H, inv, rw', q⟩

/-! ### tracked tuples: t + u, t[lo:hi] give a tracked tuple, new or one that stood -/
def rCatP : R2 := fun x y H Q => ∃ a b xs ys, x = .ref a ∧ y = .ref b ∧ H a = some (.tup xs) ∧ H b = some (.tup ys) ∧ xs.length + ys.length ≤ sizeLine ∧
  ∀ (p : Addr) (H' : Hp), Same H H' → H' p = some (.tup (xs ++ ys)) → Q (.ref p) H'
theorem op_catP {X : Cx} : OpR X (binaryOp .Add) rCatP := by
  intro pn s0 sl Hp0 x y v u Q0 inv rx ry h
  obtain ⟨a, b, xs, ys, rfl, rfl, ha, hb, len0, go⟩ := h
  refine op_catA pn s0 sl Hp0 _ _ v u Q0 inv rx ry ⟨a, b, xs, ys, rfl, rfl, .inl (.inl ha), .inl (.inl hb), len0, fun e => ?_, fun _ e => ?_, fun _ _ p np => ?_⟩
  · subst e
    exact go b Hp0 (Same.refl _) hb
  · subst e
    exact go a Hp0 (Same.refl _) (by rw [List.append_nil]; exact ha)
  · exact go p _ (fun c o e => by rw [upd_ne (ne_of_none e np)]; exact e) upd_same
def rSlP : V → Option Int → Option Int → Hp → VK → Prop := fun x lo hi H Q => ∃ a xs, x = .ref a ∧ H a = some (.tup xs) ∧
  ∀ (p : Addr) (H' : Hp), Same H H' → H' p = some (.tup (cutV xs lo hi)) → Q (.ref p) H'
theorem sl_tupP {X : Cx} : SlR X rSlP := by
  intro pn s0 sl Hp0 x v vl vu lo hi sli Q0 inv rx hs pl pu h
  obtain ⟨a, xs, rfl, ha, go⟩ := h
  refine sl_tupA pn s0 sl Hp0 _ v vl vu lo hi sli Q0 inv rx hs pl pu ⟨a, xs, rfl, .inl (.inl ha), fun e => ?_, fun _ p np => ?_⟩
  · refine go a Hp0 (Same.refl _) ?_
    unfold cutV
    rw [e.1, e.2, List.drop_zero, Nat.sub_zero, List.take_length]
    exact ha
  · exact go p _ (fun c o e => by rw [upd_ne (ne_of_none e np)]; exact e) upd_same
theorem cut_to (xs : List V) (k : Nat) : cutV xs none (some (k : Int)) = xs.take k := by
  unfold cutV
  rw [HT.sIx_none, HT.sIx_nat, List.drop_zero, Nat.sub_zero]
  by_cases h : k ≤ xs.length
  · rw [Nat.min_eq_left h]
  · rw [Nat.min_eq_right (by omega), List.take_length, List.take_of_length_le (by omega)]
theorem cut_from (xs : List V) (k : Nat) : cutV xs (some (k : Int)) none = xs.drop k := by
  unfold cutV
  rw [HT.sIx_none, HT.sIx_nat]
  by_cases h : k ≤ xs.length
  · rw [Nat.min_eq_left h, List.take_of_length_le (by rw [List.length_drop]; exact Nat.le_refl _)]
  · rw [Nat.min_eq_right (by omega), List.drop_length, List.drop_eq_nil_of_le (by omega), List.take_nil]
theorem cut_mid (xs : List V) (i k : Nat) : cutV xs (some (i : Int)) (some ((i + k : Nat) : Int)) = (xs.drop i).take k := by
  unfold cutV
  rw [HT.sIx_nat, HT.sIx_nat]
  apply List.ext_getElem?
  intro j
  rw [List.getElem?_take, List.getElem?_take, List.getElem?_drop, List.getElem?_drop]
  by_cases h : i + j < xs.length
  · have h1 : min i xs.length = i := by omega
    rw [h1]
    by_cases h2 : j < k
    · rw [if_pos h2, if_pos (by omega)]
    · rw [if_neg h2, if_neg (by omega)]
  · have n1 : xs[i + j]? = none := List.getElem?_eq_none (by omega)
    rw [n1, ite_self]
    split
    · exact List.getElem?_eq_none (by omega)
    · rfl
end Ice
namespace Ice
open PySem PySem.Spec PyProof.Rows L2
/-! ### the text by places -/
def topS (i : Nat) : Stmt := PySem.Challenge.pw_icehouse_s01_answers.main.body.getD i (.Pass ⟨0, 0, 0, 0⟩)
abbrev s_is_heap : Stmt := topS 3
abbrev s_open_faces : Stmt := topS 4
abbrev s_open_tops : Stmt := topS 5
abbrev s_open_sides : Stmt := topS 6
abbrev s_cols : Stmt := topS 7
abbrev s_after : Stmt := topS 8
abbrev s_rows : Stmt := topS 9
abbrev s_best_way : Stmt := topS 12
abbrev s_first_least : Stmt := topS 19
/-- what the top has written of names -/
structure Txt (K : PySem.W.Frag) (mg : Str → Option Value) : Prop where
  len : mg "len" = none
  abs : mg "abs" = none
  sum : mg "sum" = none
  max : mg "max" = none
  min : mg "min" = none
  zip : mg "zip" = none
  enumerate : mg "enumerate" = none
  range : mg "range" = none
  tuple : mg "tuple" = none
  list : mg "list" = none
  mostC : ∃ t, mg "MOST_COLUMNS" = some (.int 5 t)
  mostB : ∃ t, mg "MOST_BLOCKS" = some (.int 3 t)
/-- whole numbers as values -/
def vi (l : List Nat) : List V := l.map fun (n : Nat) => V.int (n : Int)
theorem vi_len (l : List Nat) : (vi l).length = l.length := by simp [vi]
theorem vi_at {l : List Nat} {i : Nat} {y : V} (h : (vi l)[i]? = some y) : ∃ z, l[i]? = some z ∧ y = V.int (z : Int) := by
  unfold vi at h
  rw [List.getElem?_map] at h
  cases e : l[i]? with
  | none => rw [e] at h; cases h
  | some z => rw [e] at h; exact ⟨z, rfl, (Option.some.inj h).symm⟩
theorem vi_get {l : List Nat} {i z : Nat} (h : l[i]? = some z) : (vi l)[i]? = some (V.int (z : Int)) := by
  unfold vi
  rw [List.getElem?_map, h]
  rfl
theorem vi_ints (l : List Nat) : vi l = (l.map fun (n : Nat) => (n : Int)).map V.int := by
  unfold vi
  rw [List.map_map]
  rfl
theorem take_snoc {α : Type} : ∀ {l : List α} {i : Nat} {x : α}, l[i]? = some x → l.take (i + 1) = l.take i ++ [x]
  | [], i, x, h => by simp at h
  | y :: l, 0, x, h => by
    have e : y = x := by simpa using h
    rw [e]
    rfl
  | y :: l, i + 1, x, h => by
    have e : l[i]? = some x := by simpa using h
    rw [List.take_succ_cons, List.take_succ_cons, take_snoc e]
    rfl
theorem same_new {H : Hp} {p : Addr} {o : HO} (n : H p = none) : Same H (upd H p o) := fun b u e => by
  rw [upd_ne (ne_of_none e n)]
  exact e
theorem same_put {H H' : Hp} {p : Addr} {o : HO} (e : Same H H') (n : H p = none) : Same H (upd H' p o) := fun b u q => by
  rw [upd_ne (ne_of_none q n)]
  exact e b u q
theorem lc_none {H H' : Hp} {p : Addr} (e : Same H H') (n : H' p = none) : H p = none := e.free n
/-- a def of the program as its callers see it -/
structure Callee (P : Program) (w : World) (K : PySem.W.Frag) (mg : Str → Option Value) (base : Heap) (x : Str) (ps : List Str) (k : Nat) (sp : Sp) : Prop where
  ex : ∃ f fd, FnOk P w K mg base CX0 k f fd ps sp ∧ mg x = some (.ref f) ∧ PySem.W.keepIn K (.ref f) = true ∧ Binds K fd ps []
theorem total_eq (h : List Nat) : Mu42.total h = h.sum := by
  have e : ∀ (l : List Nat) (a : Nat), l.foldl (fun (a b : Nat) => a + b) a = a + l.sum := by
    intro l
    induction l with
    | nil => intro a; rfl
    | cons x l ih =>
      intro a
      rw [List.foldl_cons, ih, List.sum_cons]
      omega
  unfold Mu42.total
  rw [e]
  omega
theorem sum_ints (h : List Nat) : (h.map fun (n : Nat) => (n : Int)).sum = ((Mu42.total h : Nat) : Int) := by
  rw [total_eq]
  induction h with
  | nil => rfl
  | cons x l ih =>
    rw [List.map_cons, List.sum_cons, List.sum_cons, ih]
    omega
end Ice
namespace Ice
open PySem PySem.Spec PyProof.Rows L2
section
variable {P : Program} {w : World} {K : PySem.W.Frag} {mg : Str → Option Value} {base : Heap}
theorem sides_snoc (x : Nat) (l : List Nat) : Mu42.sides x l = Mu42.sides x l := rfl
/-- what the loop of open_sides has: the sum so far, the last height -/
def sidesRun (l : List Nat) : Nat × Nat := l.foldl (fun s y => (s.1 + Mu42.apart s.2 y, y)) (0, 0)
theorem sides_run : ∀ (l : List Nat) (s : Nat × Nat), (l.foldl (fun s y => (s.1 + Mu42.apart s.2 y, y)) s).1 + (l.foldl (fun s y => (s.1 + Mu42.apart s.2 y, y)) s).2 = s.1 + Mu42.sides s.2 l
  | [], s => rfl
  | y :: l, s => by
    rw [List.foldl_cons, sides_run l]
    show s.1 + Mu42.apart s.2 y + Mu42.sides y l = s.1 + (Mu42.apart s.2 y + Mu42.sides y l)
    omega
theorem sidesRun_sides (l : List Nat) : (sidesRun l).1 + (sidesRun l).2 = Mu42.sides 0 l := by
  have e := sides_run l (0, 0)
  simpa [sidesRun] using e
theorem sidesRun_snoc (l : List Nat) (y : Nat) : sidesRun (l ++ [y]) = ((sidesRun l).1 + Mu42.apart (sidesRun l).2 y, y) := by
  unfold sidesRun
  rw [List.foldl_append]
  rfl
/-- a number that says how many, of a heap (a list or a tuple) -/
def spNum (K : PySem.W.Frag) (f : List Nat → Nat) : Sp := fun vs H Q _ => ∃ (a : Addr) (k : Bool) (h : List Nat), vs = [.ref a] ∧ SqK K H a k (vi h) ∧ ∀ H', Same H H' → Q (.int (f h : Nat)) H'
theorem sc_open_sides : FnScope ["heap", "sides", "beside", "height"] ["heap"] (defScope s_open_sides) := ⟨rfl, rfl, rfl, by decide +kernel, rfl, by decide +kernel, by decide +kernel⟩
theorem ok_open_sides {f : Addr} {fd : FuncData} (F : Fun K "open_sides" "open_sides" s_open_sides f fd) (T : Txt K mg) : FnOk P w K mg base CX0 1 f fd ["heap"] (spNum K (Mu42.sides 0)) := by
  refine F.ok sc_open_sides (fun vs H Q E h => ?_) (fun cdv A outer s H vs Q E hr h => ?_)
  · obtain ⟨a, k, h, rfl, _⟩ := h
    rfl
  · obtain ⟨a, k, hp, rfl, hS, fin⟩ := h
    refine ⟨_, pss_cons (ps_set (i := 1) sc_open_sides.nd rfl (Or.inl rfl) pe_int)
      (pss_cons (ps_set (i := 2) sc_open_sides.nd rfl (Or.inl rfl) pe_int)
      (pss_cons (ps_for PassesOwn.never rfl (pi_seq (pv 0)) (pg_name (i := 3) sc_open_sides.nd rfl (Or.inl rfl))
        (pss_cons (ps_aug (i := 1) sc_open_sides.nd rfl (Or.inl rfl) (pe_callB call_abs (by rfl) T.abs (by decide +kernel) (pa_cons (pe_op op_sub (pv 3) (pv 2)) pa_nil)) ip_add)
        (pss_one (ps_set (i := 2) sc_open_sides.nd rfl (Or.inl rfl) (pv 3)))))
      (pss_one (ps_ret (pe_op op_add (pv 1) (pv 2)))))), ?_⟩
    refine ⟨_, rfl, a, k, _, rfl, hS, for_it (walk_sqK (xs := vi hp)) (fun i σ H' => ∃ v, σ = [some (.ref a), some (.int ((sidesRun (hp.take i)).1 : Nat)), some (.int ((sidesRun (hp.take i)).2 : Nat)), v] ∧ H' = H) ⟨none, rfl, rfl⟩ ?_ ?_ ?_⟩
    · rintro i σ H' _ ⟨v, rfl, rfl⟩
      exact hS
    · rintro i x σ H1 H' hi ⟨v, rfl, rfl⟩ ⟨rfl, hx⟩
      obtain ⟨z, hz, rfl⟩ := vi_at hx
      refine ⟨_, rfl, _, rfl, _, rfl, _, _, rfl, rfl, _, rfl, _, _, rfl, rfl, _, rfl, some (V.int z), ?_, rfl⟩
      rw [take_snoc hz, sidesRun_snoc]
      have e : (((sidesRun (hp.take i)).1 : Nat) : Int) + (if (z : Int) - ((sidesRun (hp.take i)).2 : Nat) < 0 then -((z : Int) - ((sidesRun (hp.take i)).2 : Nat)) else (z : Int) - ((sidesRun (hp.take i)).2 : Nat)) = (((sidesRun (hp.take i)).1 + Mu42.apart (sidesRun (hp.take i)).2 z : Nat) : Int) := by
        unfold Mu42.apart
        split <;> omega
      rw [← e]
      rfl
    · rintro σ H' ⟨v, rfl, rfl⟩
      rw [vi_len, List.take_length]
      refine ⟨_, rfl, _, rfl, _, _, rfl, rfl, ?_⟩
      have e := fin H' (Same.refl _)
      rw [← sidesRun_sides hp] at e
      exact e

/-! ### is_heap -/
def isHeap (h : List Nat) : Bool := decide (1 ≤ h.length ∧ h.length ≤ 5 ∧ ∀ x ∈ h, x ≤ 3)
def spIsHeap (K : PySem.W.Frag) : Sp := fun vs H Q _ => ∃ (a : Addr) (h : List Nat), vs = [.ref a] ∧ SqL K H a (vi h) ∧ Q (.bl (isHeap h)) H
theorem sc_is_heap : FnScope ["heap"] ["heap"] (defScope s_is_heap) := ⟨rfl, rfl, rfl, by decide +kernel, rfl, by decide +kernel, by decide +kernel⟩
theorem ok_is_heap {f : Addr} {fd : FuncData} (F : Fun K "is_heap" "is_heap" s_is_heap f fd) (T : Txt K mg) : FnOk P w K mg base CX0 1 f fd ["heap"] (spIsHeap K) := by
  refine F.ok sc_is_heap (fun vs H Q E h => ?_) (fun cdv A outer s H vs Q E hr h => ?_)
  · obtain ⟨a, h, rfl, _⟩ := h
    rfl
  · obtain ⟨a, hp, rfl, hS, fin⟩ := h
    obtain ⟨t1, mC⟩ := T.mostC
    obtain ⟨t2, mB⟩ := T.mostB
    refine ⟨_, pss_cons (ps_if (PW.pt (pw_or (pt_cmpR op_lt (pe_callB call_len_seq (by rfl) T.len PySem.boot_len (pa_cons (pv 0) pa_nil)) pe_int (nomark _))
        (pw_or1 (pt_cmpR op_gt (pe_callB call_len_seq (by rfl) T.len PySem.boot_len (pa_cons (pv 0) pa_nil)) (pe_glob (v := V.int 5) (by rfl) mC ⟨_, rfl⟩) (nomark _))))) (pss_one (ps_ret pe_bl)) pss_nil)
      (pss_one (ps_ret (pe_cmpR op_le (pe_callB (cr_max rfl) (by rfl) T.max (by decide +kernel) (pa_cons (pv 0) pa_nil)) (pe_glob (v := V.int 3) (by rfl) mB ⟨_, rfl⟩) (nomark _)))), ?_⟩
    refine ⟨_, rfl, a, _, rfl, .inl hS, _, _, rfl, rfl, _, rfl, ?_⟩
    rw [vi_len]
    refine ite2 (fun c => ?_) (fun c => ?_)
    · have c' := of_decide_eq_true c
      refine iteT ?_
      have e : isHeap hp = false := decide_eq_false fun q => by omega
      rw [e] at fin
      exact fin
    · have c' : ¬ ((hp.length : Nat) : Int) < 1 := fun q => c (decide_eq_true q)
      refine ⟨_, rfl, a, _, rfl, .inl hS, _, _, rfl, rfl, _, rfl, ?_⟩
      rw [vi_len]
      refine ite2 (fun d => ?_) (fun d => ?_)
      · have d' := of_decide_eq_true d
        have e : isHeap hp = false := decide_eq_false fun q => by omega
        rw [e] at fin
        exact fin
      · have d' : ¬ (5 : Int) < ((hp.length : Nat) : Int) := fun q => d (decide_eq_true q)
        rw [vi_ints] at hS
        refine ⟨_, rfl, a, _, rfl, hS, (by rw [List.length_map]; omega), fun m hm hle => ⟨_, _, rfl, rfl, ?_⟩⟩
        have e : decide (m ≤ 3) = isHeap hp := by
          unfold isHeap
          obtain ⟨z, hz, rfl⟩ := List.mem_map.mp hm
          refine decide_eq_decide.mpr ⟨fun q => ⟨by omega, by omega, fun x hx => ?_⟩, fun q => ?_⟩
          · have := hle (x : Int) (List.mem_map.mpr ⟨x, hx, rfl⟩)
            omega
          · have := q.2.2 z hz
            omega
        rw [← e] at fin
        exact fin
/-! ### open_tops -/
def mk (s : List Bool) : List Nat := Mu42.marks s
def topsTo (h : List Nat) (s : List Bool) (i : Nat) : Nat := (((List.zip h s).take i).filter fun x => x.1 != 0 && !x.2).length
theorem marks_at {s : List Bool} {i z : Nat} (h : (mk s)[i]? = some z) : ∃ c, s[i]? = some c ∧ z = if c = true then 1 else 0 := by
  unfold mk Mu42.marks at h
  rw [List.getElem?_map] at h
  cases e : s[i]? with
  | none => rw [e] at h; cases h
  | some c => rw [e] at h; exact ⟨c, rfl, (Option.some.inj h).symm⟩
theorem topsTo_snoc {h : List Nat} {s : List Bool} {i z : Nat} {c : Bool} (a : h[i]? = some z) (b : s[i]? = some c) : topsTo h s (i + 1) = topsTo h s i + (if z != 0 && !c then 1 else 0) := by
  have e : (List.zip h s)[i]? = some (z, c) := by
    rw [List.getElem?_zip_eq_some]
    exact ⟨a, b⟩
  unfold topsTo
  rw [take_snoc e, List.filter_append, List.length_append]
  congr 1
  by_cases q : (z != 0 && !c) = true
  · rw [if_pos q]; simp [List.filter, q]
  · rw [if_neg q]; simp [List.filter, q]
theorem topsTo_le (h : List Nat) (s : List Bool) (i : Nat) : topsTo h s i ≤ h.length := by
  unfold topsTo
  refine Nat.le_trans (List.length_filter_le _ _) ?_
  rw [List.length_take, List.length_zip]
  omega
def spNum2 (K : PySem.W.Frag) (f : List Nat → List Bool → Nat) : Sp := fun vs H Q _ => ∃ (a b : Addr) (k k2 : Bool) (h : List Nat) (s : List Bool), vs = [.ref a, .ref b] ∧ SqK K H a k (vi h) ∧ SqK K H b k2 (vi (mk s)) ∧ h.length ≤ 1000 ∧ ∀ H', Same H H' → Q (.int (f h s : Nat)) H'
theorem sc_open_tops : FnScope ["heap", "straw", "height", "cover"] ["heap", "straw"] (defScope s_open_tops) := ⟨rfl, rfl, rfl, by decide +kernel, rfl, by decide +kernel, by decide +kernel⟩
theorem ok_open_tops {f : Addr} {fd : FuncData} (F : Fun K "open_tops" "open_tops" s_open_tops f fd) (T : Txt K mg) : FnOk P w K mg base CX0 1 f fd ["heap", "straw"] (spNum2 K Mu42.tops) := by
  refine F.ok sc_open_tops (fun vs H Q E h => ?_) (fun cdv A outer s H vs Q E hr h => ?_)
  · obtain ⟨a, b, k, k2, h, s, rfl, _⟩ := h
    rfl
  · obtain ⟨a, b, k, k2, hp, st, rfl, hS, hT, hlen, fin⟩ := h
    refine ⟨_, pss_one (ps_ret (pe_callB call_len_seq (by rfl) T.len PySem.boot_len (pa_cons
      (pe_lc (own := [("height", 2), ("cover", 3)]) rfl sc_open_tops.nd (pi_zipK (by rfl) T.zip (pa_cons (pv 0) (pa_cons (pv 1) pa_nil)))
        (blkOk_by (own := [("height", 2), ("cover", 3)]) (N := ["heap", "straw", "height", "cover"]) (sc := defScope s_open_tops) (by decide +kernel)) (g := gTup K 2 (gCons (gName 2) (gCons (gName 3) gNil)))
        (fun _ _ _ _ _ => pg_tup (by rfl) (pgs_cons (pg_name (i := 2) sc_open_tops.nd rfl (Or.inl rfl) (by first | exact .inl rfl | exact .inr rfl)) (pgs_cons (pg_name (i := 3) sc_open_tops.nd rfl (Or.inl rfl) (by first | exact .inl rfl | exact .inr rfl)) pgs_nil)))
        (fun _ _ _ _ _ => pts_one (PW.pt (pw_and (pt_cmpR op_gt (pv 2) pe_int (nomark _)) (pw_and1 (pt_cmpR op_eq (pv 3) pe_int (nomark _)))))) (fun _ _ _ _ _ => pv 2)) pa_nil))), ?_⟩
    refine ⟨_, rfl, _, rfl, a, b, k, k2, _, _, rfl, hS, hT, fun D hD => lc_it (walk_zipK (xs := vi hp) (ys := vi (mk st)) rfl) (fun i H' => Same H H' ∧ ∃ acc, H' D = some (.lst acc) ∧ acc.length = topsTo hp st i) ?_ ?_ ?_ ?_⟩
    · exact ⟨same_new hD, [], upd_same, rfl⟩
    · rintro i H' _ ⟨e, _⟩
      exact ⟨hS.same e, hT.same e⟩
    · rintro i x H1 H' hi ⟨e1, acc, eD, el⟩ ⟨T', x1, y1, rfl, nT, rfl, hx, hy⟩
      obtain ⟨z, hz, rfl⟩ := vi_at hx
      obtain ⟨z2, hz2, rfl⟩ := vi_at hy
      obtain ⟨c, hc, rfl⟩ := marks_at hz2
      have eD' : upd H1 T' (.tup [V.int z, V.int (if c = true then 1 else 0 : Nat)]) D = some (.lst acc) := by
        rw [upd_ne (ne_of_none eD nT)]
        exact eD
      have e2 : Same H (upd H1 T' (.tup [V.int z, V.int (if c = true then 1 else 0 : Nat)])) := same_put e1 (e1.free nT)
      have lt := topsTo_snoc hz hc
      refine ⟨T', _, rfl, .inl (.inl upd_same), rfl, _, _, rfl, _, _, rfl, rfl, rfl, _, rfl, _, _, rfl, rfl, _, rfl, ?_⟩
      refine ite2 (fun c1 => ?_) (fun c1 => ?_)
      · have c1' := of_decide_eq_true c1
        refine ⟨_, rfl, rfl, _, rfl, ?_⟩
        refine ite2 (fun c2 => ?_) (fun c2 => ?_)
        · have c2' := of_decide_eq_true c2
          have cf : c = false := by
            cases c
            · rfl
            · cases c2'
          subst cf
          have e3 : topsTo hp st (i + 1) = topsTo hp st i + 1 := by
            rw [lt, if_pos]
            simp
            omega
          refine ⟨_, rfl, acc, eD', small1000 (by rw [el]; exact Nat.le_trans (topsTo_le _ _ _) hlen), same_put e2 hD, _, upd_same, ?_⟩
          rw [List.length_append, el, e3]
          rfl
        · have ct : c = true := by
            cases c
            · exact absurd (decide_eq_true rfl) c2
            · rfl
          subst ct
          refine ⟨e2, acc, eD', ?_⟩
          rw [el, lt]
          simp
      · have z0 : z = 0 := by
          have : ¬ ((0 : Int) < (z : Int)) := fun q => c1 (decide_eq_true q)
          omega
        subst z0
        refine iteF ⟨e2, acc, eD', ?_⟩
        rw [el, lt]
        simp
    · rintro H' ⟨e, acc, eD, el⟩
      refine ⟨D, acc, rfl, .inl (.inl (.inl eD)), ?_⟩
      have e2 : acc.length = Mu42.tops hp st := by
        rw [el]
        unfold topsTo Mu42.tops
        rw [List.take_of_length_le]
        rw [List.length_zip, vi_len, vi_len]
        unfold mk Mu42.marks
        rw [List.length_map]
        exact Nat.le_refl _
      have g := fin H' e
      rw [← e2] at g
      exact g

/-! ### open_faces -/
theorem sc_open_faces : FnScope ["heap", "straw"] ["heap", "straw"] (defScope s_open_faces) := ⟨rfl, rfl, rfl, by decide +kernel, rfl, by decide +kernel, by decide +kernel⟩
theorem ok_open_faces {f : Addr} {fd : FuncData} (F : Fun K "open_faces" "open_faces" s_open_faces f fd) (T : Txt K mg) (C1 : Callee P w K mg base "open_tops" ["heap", "straw"] 1 (spNum2 K Mu42.tops)) (C2 : Callee P w K mg base "open_sides" ["heap"] 1 (spNum K (Mu42.sides 0))) :
    FnOk P w K mg base CX0 2 f fd ["heap", "straw"] (spNum2 K Mu42.faces) := by
  obtain ⟨f1, fd1, G1, m1, k1, b1⟩ := C1.ex
  obtain ⟨f2, fd2, G2, m2, k2, b2⟩ := C2.ex
  refine F.ok sc_open_faces (fun vs H Q E h => ?_) (fun cdv A outer s H vs Q E hr h => ?_)
  · obtain ⟨a, b, k, k2, h, s, rfl, _⟩ := h
    rfl
  · obtain ⟨a, b, k, k2, hp, st, rfl, hS, hT, hlen, fin⟩ := h
    refine ⟨_, pss_one (ps_ret (pe_op op_add (pe_op op_add (pe_callB (cr_sumK rfl) (by rfl) T.sum (by decide +kernel) (pa_cons (pv 0) pa_nil))
        (pe_call G1 hr (by rfl) m1 k1 b1 .nil pass0 (pa_cons (pv 0) (pa_cons (pv 1) pa_nil)))) (pe_call G2 hr (by rfl) m2 (by assumption) b2 .nil pass0 (pa_cons (pv 0) pa_nil)))), ?_⟩
    have hS' := hS
    rw [vi_ints] at hS'
    refine ⟨_, rfl, a, k, _, rfl, hS', _, rfl, _, rfl, a, b, k, _, hp, st, rfl, hS, hT, hlen, fun H1 e1 => ⟨_, _, rfl, rfl, _, rfl, a, k, hp, rfl, hS.same e1, fun H2 e2 => ⟨_, _, rfl, rfl, ?_⟩⟩⟩
    have e := fin H2 (e1.trans e2)
    rw [sum_ints]
    have e3 : ((Mu42.total hp : Nat) : Int) + ((Mu42.tops hp st : Nat) : Int) + ((Mu42.sides 0 hp : Nat) : Int) = ((Mu42.faces hp st : Nat) : Int) := by
      unfold Mu42.faces
      omega
    rw [← e3] at e
    exact e
end
end Ice
namespace Ice
open PySem PySem.Spec PyProof.Rows L2
/-- tuples of whole numbers at these places -/
def Tups (H : Hp) : List Addr → List (List Nat) → Prop
  | [], [] => True
  | p :: ps, h :: hs => H p = some (.tup (vi h)) ∧ Tups H ps hs
  | _, _ => False
theorem Tups.same {H H' : Hp} (e : Same H H') : ∀ {ps : List Addr} {hs : List (List Nat)}, Tups H ps hs → Tups H' ps hs
  | [], [], _ => trivial
  | p :: ps, h :: hs, q => ⟨e _ _ q.1, Tups.same e q.2⟩
  | [], _ :: _, q => q.elim
  | _ :: _, [], q => q.elim
theorem Tups.len {H : Hp} : ∀ {ps : List Addr} {hs : List (List Nat)}, Tups H ps hs → ps.length = hs.length
  | [], [], _ => rfl
  | p :: ps, h :: hs, q => congrArg (· + 1) (Tups.len q.2)
  | [], _ :: _, q => q.elim
  | _ :: _, [], q => q.elim
theorem Tups.snoc {H : Hp} {p : Addr} {h : List Nat} (e : H p = some (.tup (vi h))) : ∀ {ps : List Addr} {hs : List (List Nat)}, Tups H ps hs → Tups H (ps ++ [p]) (hs ++ [h])
  | [], [], _ => ⟨e, trivial⟩
  | _ :: ps, _ :: hs, q => ⟨q.1, Tups.snoc e q.2⟩
  | [], _ :: _, q => q.elim
  | _ :: _, [], q => q.elim
theorem Tups.get {H : Hp} : ∀ {ps : List Addr} {hs : List (List Nat)} {i : Nat} {p : Addr}, Tups H ps hs → ps[i]? = some p → ∃ h, hs[i]? = some h ∧ H p = some (.tup (vi h))
  | [], [], _, _, _, e => by simp at e
  | p :: ps, h :: hs, 0, p', q, e => ⟨h, rfl, (show p = p' by simpa using e) ▸ q.1⟩
  | p :: ps, h :: hs, i + 1, p', q, e => by
    obtain ⟨g, e1, e2⟩ := Tups.get (i := i) (p := p') q.2 (by simpa using e)
    exact ⟨g, by simpa using e1, e2⟩
  | [], _ :: _, _, _, q, _ => q.elim
  | _ :: _, [], _, _, q, _ => q.elim
theorem Tups.put {H : Hp} {D : Addr} {xs : List V} {o : HO} (e : H D = some (.lst xs)) : ∀ {ps : List Addr} {hs : List (List Nat)}, Tups H ps hs → Tups (upd H D o) ps hs
  | [], [], _ => trivial
  | p :: ps, h :: hs, q => ⟨by rw [upd_ne (ne_of q.1 e (by intro z; cases z))]; exact q.1, Tups.put e q.2⟩
  | [], _ :: _, q => q.elim
  | _ :: _, [], q => q.elim
theorem Tups.putT {H : Hp} {D : Addr} {ks : List (List Key × V)} {o : HO} (e : H D = some (.dT ks)) : ∀ {ps : List Addr} {hs : List (List Nat)}, Tups H ps hs → Tups (upd H D o) ps hs
  | [], [], _ => trivial
  | p :: ps, h :: hs, q => ⟨by rw [upd_ne (ne_of q.1 e (by intro z; cases z))]; exact q.1, Tups.putT e q.2⟩
  | [], _ :: _, q => q.elim
  | _ :: _, [], q => q.elim
def refs (ps : List Addr) : List V := ps.map V.ref
theorem refs_at {ps : List Addr} {i : Nat} {y : V} (h : (refs ps)[i]? = some y) : ∃ p, ps[i]? = some p ∧ y = .ref p := by
  unfold refs at h
  rw [List.getElem?_map] at h
  cases e : ps[i]? with
  | none => rw [e] at h; cases h
  | some z => rw [e] at h; exact ⟨z, rfl, (Option.some.inj h).symm⟩
theorem refs_snoc (ps : List Addr) (p : Addr) : refs ps ++ [V.ref p] = refs (ps ++ [p]) := by simp [refs]
theorem refs_len (ps : List Addr) : (refs ps).length = ps.length := by simp [refs]
/-- the columns that have a block, among the first -/
def someTo (h : List Nat) (i : Nat) : List Nat := (List.range i).filter fun j => h.getD j 0 != 0
theorem someTo_all (h : List Nat) : someTo h h.length = Mu42.some_ h := rfl
theorem someTo_succ {h : List Nat} {i z : Nat} (e : h[i]? = some z) : someTo h (i + 1) = if z = 0 then someTo h i else someTo h i ++ [i] := by
  unfold someTo
  rw [List.range_succ, List.filter_append]
  have g : h.getD i 0 = z := by rw [List.getD_eq_getElem?_getD, e]; rfl
  by_cases q : z = 0
  · rw [if_pos q]
    have : List.filter (fun j => h.getD j 0 != 0) [i] = [] := by rw [List.filter_cons_of_neg (by rw [g, q]; decide)]; rfl
    rw [this, List.append_nil]
  · rw [if_neg q]
    have : List.filter (fun j => h.getD j 0 != 0) [i] = [i] := by rw [List.filter_cons_of_pos (by rw [g]; simpa using q)]; rfl
    rw [this]
theorem someTo_le (h : List Nat) (i : Nat) : (someTo h i).length ≤ i := by
  unfold someTo
  refine Nat.le_trans (List.length_filter_le _ _) ?_
  rw [List.length_range]
  exact Nat.le_refl _
theorem vi_taken {h : List Nat} {i z : Nat} (e : h[i]? = some z) (n : z ≠ 0) : (vi h).take i ++ [V.int ((z : Int) - 1)] ++ (vi h).drop (i + 1) = vi (Mu42.taken h i) := by
  have g : h.getD i 0 = z := by rw [List.getD_eq_getElem?_getD, e]; rfl
  have lt : i < h.length := (List.getElem?_eq_some_iff.mp e).1
  unfold vi Mu42.taken
  rw [g, List.set_eq_take_append_cons_drop, if_pos lt, List.map_append, List.map_cons, List.map_take, List.map_drop]
  have e1 : V.int ((z : Int) - 1) = V.int ((z - 1 : Nat) : Int) := by
    congr 1
    omega
  rw [e1]
  simp
section
variable {P : Program} {w : World} {K : PySem.W.Frag} {mg : Str → Option Value} {base : Heap}
def spCols (K : PySem.W.Frag) : Sp := fun vs H Q _ => ∃ (a : Addr) (k : Bool) (h : List Nat), vs = [.ref a] ∧ SqK K H a k (vi h) ∧ h.length ≤ 5 ∧
  ∀ (H' : Hp) (D : Addr), Same H H' → H D = none → H' D = some (.lst (vi (Mu42.some_ h))) → Q (.ref D) H'
theorem sc_cols : FnScope ["heap", "column", "height"] ["heap"] (defScope s_cols) := ⟨rfl, rfl, rfl, by decide +kernel, rfl, by decide +kernel, by decide +kernel⟩
theorem ok_cols {f : Addr} {fd : FuncData} (F : Fun K "columns_with_blocks" "columns_with_blocks" s_cols f fd) (T : Txt K mg) : FnOk P w K mg base CX0 1 f fd ["heap"] (spCols K) := by
  refine F.ok sc_cols (fun vs H Q E h => ?_) (fun cdv A outer s H vs Q E hr h => ?_)
  · obtain ⟨a, k, h, rfl, _⟩ := h
    rfl
  · obtain ⟨a, k, hp, rfl, hS, hlen, fin⟩ := h
    refine ⟨_, pss_one (ps_ret 
      (pe_lc (own := [("column", 1), ("height", 2)]) rfl sc_cols.nd (pi_enumK (by rfl) T.enumerate (pa_cons (pv 0) pa_nil))
        (blkOk_by (own := [("column", 1), ("height", 2)]) (N := ["heap", "column", "height"]) (sc := defScope s_cols) (by decide +kernel)) (g := gTup K 2 (gCons (gName 1) (gCons (gName 2) gNil)))
        (fun _ _ _ _ _ => pg_tup (by rfl) (pgs_cons (pg_name (i := 1) sc_cols.nd rfl (Or.inl rfl) (by first | exact .inl rfl | exact .inr rfl)) (pgs_cons (pg_name (i := 2) sc_cols.nd rfl (Or.inl rfl) (by first | exact .inl rfl | exact .inr rfl)) pgs_nil)))
        (fun _ _ _ _ _ => pts_one (pt_cmpR op_gt (pv 2) pe_int (nomark _))) (fun _ _ _ _ _ => pv 1))), ?_⟩
    refine ⟨_, rfl, a, k, _, rfl, hS, fun D hD => lc_it (walk_enumK (xs := vi hp)) (fun i H' => Same H H' ∧ H' D = some (.lst (vi (someTo hp i)))) ?_ ?_ ?_ ?_⟩
    · exact ⟨same_new hD, upd_same⟩
    · rintro i H' _ ⟨e, _⟩
      exact hS.same e
    · rintro i x H1 H' hi ⟨e1, eD⟩ ⟨T', x1, y1, rfl, nT, rfl, hx, hy⟩
      obtain ⟨z, hz, rfl⟩ := vi_at hy
      obtain rfl : V.int (i : Nat) = x1 := Option.some.inj hx
      have eD' : upd H1 T' (.tup [V.int (i : Nat), V.int z]) D = some (.lst (vi (someTo hp i))) := by
        rw [upd_ne (ne_of_none eD nT)]
        exact eD
      have e2 : Same H (upd H1 T' (.tup [V.int (i : Nat), V.int z])) := same_put e1 (e1.free nT)
      refine ⟨T', _, rfl, .inl (.inl upd_same), rfl, _, _, rfl, _, _, rfl, rfl, rfl, _, rfl, _, _, rfl, rfl, _, rfl, ?_⟩
      refine ite2 (fun c1 => ?_) (fun c1 => ?_)
      · have c1' := of_decide_eq_true c1
        refine ⟨_, rfl, _, eD', ?_, same_put e2 hD, ?_⟩
        · have := someTo_le hp i
          have zl : i < hp.length := (List.getElem?_eq_some_iff.mp hz).1
          rw [vi_len]
          exact small1000 (by omega)
        · rw [upd_same, someTo_succ hz, if_neg (by omega)]
          unfold vi
          rw [List.map_append]
          rfl
      · have z0 : z = 0 := by
          have : ¬ ((0 : Int) < (z : Int)) := fun q => c1 (decide_eq_true q)
          omega
        refine ⟨e2, ?_⟩
        rw [someTo_succ hz, if_pos z0]
        exact eD'
    · rintro H' ⟨e, eD⟩
      rw [vi_len, someTo_all] at eD
      exact fin H' D e hD eD
def spAfter : Sp := fun vs H Q _ => ∃ (a : Addr) (h : List Nat) (i : Nat), vs = [.ref a, .int (i : Int)] ∧ H a = some (.tup (vi h)) ∧ h.length ≤ 5 ∧ i ∈ Mu42.some_ h ∧
  ∀ (H' : Hp) (p : Addr), Same H H' → H' p = some (.tup (vi (Mu42.taken h i))) → Q (.ref p) H'
theorem sc_after : FnScope ["heap", "column"] ["heap", "column"] (defScope s_after) := ⟨rfl, rfl, rfl, by decide +kernel, rfl, by decide +kernel, by decide +kernel⟩
theorem ok_after {f : Addr} {fd : FuncData} (F : Fun K "heap_after" "heap_after" s_after f fd) : FnOk P w K mg base CX0 1 f fd ["heap", "column"] spAfter := by
  refine F.ok sc_after (fun vs H Q E h => ?_) (fun cdv A outer s H vs Q E hr h => ?_)
  · obtain ⟨a, h, i, rfl, _⟩ := h
    rfl
  · obtain ⟨a, hp, i, rfl, ha, hlen, hi, fin⟩ := h
    obtain ⟨il, nz0⟩ := some_mem.mp hi
    have hz : hp[i]? = some hp[i] := List.getElem?_eq_getElem il
    have nz : hp[i] ≠ 0 := by
      rw [List.getD_eq_getElem?_getD, hz] at nz0
      exact nz0
    generalize hp[i] = z at hz nz
    refine ⟨_, pss_one (ps_ret (pe_op op_catP (pe_op op_catP (pe_slice sl_tupP (pv 0) po_none (po_some (pv 1))) (pe_tup (pa_cons (pe_op op_sub (pe_ix ix_tup (pv 0) (pv 1) (fun _ _ => rfl)) pe_int) pa_nil))) (pe_slice sl_tupP (pv 0) (po_some (pe_op op_add (pv 1) pe_int)) po_none))), ?_⟩
    refine ⟨_, rfl, _, rfl, _, rfl, a, vi hp, rfl, ha, fun p1 H2 s2 e3 => ?_⟩
    refine ⟨_, rfl, _, rfl, a, _, _, _, rfl, rfl, .inl (.inl (s2 _ _ ha)), atI_nat (vi_get hz), _, _, rfl, rfl, (by show 1 ≤ sizeLine; decide), fun p2 n2 => ?_⟩
    have s3 : Same H2 (upd H2 p2 (.tup [V.int ((z : Int) - 1)])) := same_new n2
    refine ⟨p1, p2, _, _, rfl, rfl, s3 _ _ e3, upd_same, ?_, fun p3 H3 s4 e4 => ?_⟩
    · have := cutV_length (vi hp) none (some (i : Int))
      rw [vi_len] at this
      show (cutV (vi hp) none (some (i : Int))).length + 1 ≤ sizeLine
      exact Nat.le_of_lt (small1000 (by omega))
    refine ⟨_, rfl, _, rfl, _, _, rfl, rfl, _, rfl, a, vi hp, rfl, s4 _ _ (s3 _ _ (s2 _ _ ha)), fun p4 H4 s5 e5 => ?_⟩
    have e5' : H4 p4 = some (.tup ((vi hp).drop (i + 1))) := by
      rw [e5]
      exact congrArg (fun q => some (HO.tup q)) (cut_from (vi hp) (i + 1))
    have e4' : H3 p3 = some (.tup ((vi hp).take i ++ [V.int ((z : Int) - 1)])) := by
      rw [e4, cut_to]
    refine ⟨p3, p4, _, _, rfl, rfl, s5 _ _ e4', e5', ?_, fun p5 H5 s6 e6 => ?_⟩
    · rw [List.length_append, List.length_take, List.length_drop, vi_len]
      exact Nat.le_of_lt (small1000 (by show min i hp.length + 1 + (hp.length - (i + 1)) ≤ 1000; omega))
    rw [vi_taken hz nz] at e6
    exact fin H5 p5 ((((s2.trans s3).trans s4).trans s5).trans s6) e6

/-! ### rows_of -/
def growTo (k m n j : Nat) (r : List Nat) (u : Nat) : List (List Nat) := (((List.range (m + 1)).reverse.take u).filter fun x => decide (r.sum + x ≤ n ∧ n ≤ r.sum + x + (k - 1 - j) * m)).map fun x => r ++ [x]
theorem growTo_all (k m n j : Nat) (r : List Nat) : growTo k m n j r (m + 1) = grow k m n j r := by
  unfold growTo grow
  rw [List.take_of_length_le (by rw [List.length_reverse, List.length_range]; exact Nat.le_refl _)]
theorem growTo_succ {k m n j : Nat} {r : List Nat} {u : Nat} (h : u ≤ m) : growTo k m n j r (u + 1) = growTo k m n j r u ++ (if r.sum + (m - u) ≤ n ∧ n ≤ r.sum + (m - u) + (k - 1 - j) * m then [r ++ [m - u]] else []) := by
  unfold growTo
  have e : (List.range (m + 1)).reverse[u]? = some (m - u) := by
    rw [List.getElem?_reverse (by rw [List.length_range]; omega), List.length_range, List.getElem?_range (by omega)]
    congr 1
  rw [take_snoc e, List.filter_append, List.map_append]
  congr 1
  by_cases c : r.sum + (m - u) ≤ n ∧ n ≤ r.sum + (m - u) + (k - 1 - j) * m
  · rw [if_pos c, List.filter_cons_of_pos (p := fun x => decide (r.sum + x ≤ n ∧ n ≤ r.sum + x + (k - 1 - j) * m)) (decide_eq_true c)]
    rfl
  · rw [if_neg c, List.filter_cons_of_neg (p := fun x => decide (r.sum + x ≤ n ∧ n ≤ r.sum + x + (k - 1 - j) * m)) (fun q => c (of_decide_eq_true q))]
    rfl
theorem growTo_len (k m n j : Nat) (r : List Nat) (u : Nat) : (growTo k m n j r u).length ≤ u := by
  unfold growTo
  rw [List.length_map]
  refine Nat.le_trans (List.length_filter_le _ _) ?_
  rw [List.length_take]
  omega
theorem le_sum {l : List Nat} {m : Nat} (h : ∀ x ∈ l, x ≤ m) : l.sum ≤ l.length * m := by
  induction l with
  | nil => simp
  | cons x l ih =>
    rw [List.sum_cons, List.length_cons, Nat.add_mul]
    have := h x (List.mem_cons_self ..)
    have := ih fun y hy => h y (List.mem_cons_of_mem _ hy)
    omega
theorem rows_of_len {k m n : Nat} : ∀ (j : Nat) (r : List Nat), r ∈ rowsTo k m n j → r.length = j
  | 0, r, h => by
    rw [List.mem_singleton.mp (show r ∈ [[]] from h)]
    rfl
  | j + 1, r, h => by
    obtain ⟨s, hs, hg⟩ := List.mem_flatMap.mp (show r ∈ (rowsTo k m n j).flatMap (grow k m n j) from h)
    obtain ⟨x, _, _, _, rfl⟩ := grow_mem.mp hg
    rw [List.length_append, rows_of_len j s hs]
    rfl
def spRows : Sp := fun vs H Q _ => ∃ (k m n : Nat), vs = [.int (k : Int), .int (m : Int), .int (n : Int)] ∧ k ≤ 5 ∧ m ≤ 3 ∧ n ≤ 1000 ∧
  ∀ (H' : Hp) (p : Addr) (ps : List Addr), Same H H' → H p = none → H' p = some (.lst (refs ps)) → Tups H' ps (rows k m n) → Q (.ref p) H'
theorem sc_rows : FnScope ["columns", "most", "total", "rows", "ahead", "longer", "row", "lacking", "number"] ["columns", "most", "total"] (defScope s_rows) := ⟨rfl, rfl, rfl, by decide +kernel, rfl, by decide +kernel, by decide +kernel⟩
theorem ok_rows {f : Addr} {fd : FuncData} (F : Fun K "rows_of" "rows_of" s_rows f fd) (T : Txt K mg) : FnOk P w K mg base CX0 1 f fd ["columns", "most", "total"] spRows := by
  refine F.ok sc_rows (fun vs H Q E h => ?_) (fun cdv A outer s H vs Q E hr h => ?_)
  · obtain ⟨k, m, n, rfl, _⟩ := h
    rfl
  · obtain ⟨k, m, n, rfl, hk, hm, hn, fin⟩ := h
    refine ⟨_, pss_cons (ps_set (i := 3) sc_rows.nd rfl (Or.inl rfl) (pe_lst (pa_cons (pe_tup pa_nil) pa_nil)))
      (pss_cons (ps_for PassesOwn.never rfl (pi_range3 (by rfl) T.range (pa_cons (pe_op op_sub (pv 0) pe_int) (pa_cons (pe_un un_neg pe_int) (pa_cons (pe_un un_neg pe_int) pa_nil)))) (pg_name (i := 4) sc_rows.nd rfl (Or.inl rfl))
        (pss_cons (ps_set (i := 5) sc_rows.nd rfl (Or.inl rfl) (pe_lst pa_nil))
        (pss_cons (ps_for PassesOwn.never rfl (pi_list (pv 3)) (pg_name (i := 6) sc_rows.nd rfl (Or.inl rfl))
          (pss_cons (ps_set (i := 7) sc_rows.nd rfl (Or.inl rfl) (pe_op op_sub (pv 2) (pe_callB (cr_sumK rfl) (by rfl) T.sum (by decide +kernel) (pa_cons (pv 6) pa_nil))))
          (pss_one (ps_for PassesOwn.never rfl (pi_range3 (by rfl) T.range (pa_cons (pv 1) (pa_cons (pe_un un_neg pe_int) (pa_cons (pe_un un_neg pe_int) pa_nil)))) (pg_name (i := 8) sc_rows.nd rfl (Or.inl rfl))
            (pss_one (ps_if (pt_chain op_le op_le pe_int (pe_op op_sub (pv 7) (pv 8)) (pe_op op_mul (pv 4) (pv 1)))
              (pss_one (ps_expr (pe_bm PySem.F.plainAttrs_list PySem.F.slot_list_append PySem.F.type_list_append mt_append (pv 5) (pa_cons (pe_op op_catP (pv 6) (pe_tup (pa_cons (pv 8) pa_nil))) pa_nil)))) pss_nil))))))
        (pss_one (ps_set (i := 3) sc_rows.nd rfl (Or.inl rfl) (pv 5))))))
      (pss_one (ps_ret (pv 3)))), ?_⟩
    have rg : RgC ((k : Int) - 1) (-1) (-1) k := by
      have q := RgC.neg (i := (k : Int) - 1) (j := -1) (by omega) (by omega) (by omega) (by omega)
      have e : ((k : Int) - 1 - -1).toNat = k := by omega
      rwa [e] at q
    have rg2 : RgC (m : Int) (-1) (-1) (m + 1) := by
      have q := RgC.neg (i := (m : Int)) (j := -1) (by omega) (by omega) (by omega) (by omega)
      have e : ((m : Int) - -1).toNat = m + 1 := by omega
      rwa [e] at q
    have szl : sizeLine = 16777216 := sizeLine_eq
    refine ⟨(by show 0 ≤ sizeLine; decide), fun q0 n0 => ⟨(by show 1 ≤ sizeLine; decide), fun D0 nD0 => ?_⟩⟩
    have s0 : Same H (upd H q0 (.tup [])) := same_new n0
    have s1 : Same (upd H q0 (.tup [])) (upd (upd H q0 (.tup [])) D0 (.lst [V.ref q0])) := same_new nD0
    refine ⟨_, rfl, _, _, rfl, rfl, _, rfl, _, rfl, (k : Int) - 1, -1, -1, k, rfl, rg, for_rangeC (lo := (k : Int) - 1) (c := -1) (n := k) (fun j σ H' => ∃ D v4 v5 v6 v7 v8 ps, σ = [some (.int k), some (.int m), some (.int n), some (.ref D), v4, v5, v6, v7, v8] ∧ Same H H' ∧ H D = none ∧ H' D = some (.lst (refs ps)) ∧ Tups H' ps (rowsTo k m n j))
      ⟨D0, none, none, none, none, none, [q0], rfl, s0.trans s1, s0.free nD0, upd_same, s1 _ _ upd_same, trivial⟩ ?_ ?_⟩
    · rintro j σ H' hj ⟨D, v4, v5, v6, v7, v8, ps, rfl, e1, nD, eD, tp⟩
      rw [show ((k : Int) - 1 + (j : Nat) * -1) = ((k - 1 - j : Nat) : Int) by omega]
      have wl : (rowsTo k m n j).length ≤ 1024 := Nat.le_trans (rows_len k m n j) (Nat.le_trans (Nat.pow_le_pow_left (show m + 1 ≤ 4 by omega) j) (Nat.le_trans (Nat.pow_le_pow_right (by decide) (show j ≤ 5 by omega)) (by decide)))
      refine ⟨(by show 0 ≤ sizeLine; decide), fun L nL => ?_⟩
      have sL : Same H' (upd H' L (.lst [])) := same_new nL
      have nLH : H L = none := e1.free nL
      refine ⟨_, rfl, D, rfl, ⟨_, .inl (.inl (sL _ _ eD))⟩, for_list (K := K) (a := D) (xs := refs ps) (fun i σ H2 => ∃ v6 v7 v8 qs, σ = [some (.int k), some (.int m), some (.int n), some (.ref D), some (.int (k - 1 - j : Nat)), some (.ref L), v6, v7, v8] ∧ Same H' H2 ∧ H2 L = some (.lst (refs qs)) ∧ Tups H2 qs (((rowsTo k m n j).take i).flatMap (grow k m n j)))
        ⟨v6, v7, v8, [], rfl, sL, upd_same, trivial⟩ ?_ ?_ ?_⟩
      · rintro i σ H2 _ ⟨v6, v7, v8, qs, rfl, e2, _⟩
        exact .inl (.inl (e2 _ _ eD))
      · rintro i y σ H2 hi ⟨v6, v7, v8, qs, rfl, e2, eL, tq⟩
        obtain ⟨st, hst, rfl⟩ := refs_at hi
        obtain ⟨g, hg, eg⟩ := tp.get hst
        have gl := rows_of_len j g (List.mem_of_getElem? hg)
        have il : i < (rowsTo k m n j).length := (List.getElem?_eq_some_iff.mp hg).1
        have egi := e2 _ _ eg
        rw [vi_ints] at egi
        refine ⟨_, rfl, _, rfl, st, false, _, rfl, .inl (.inl egi), _, _, rfl, rfl, ?_⟩
        rw [sum_ints, total_eq]
        refine ⟨_, rfl, _, rfl, _, rfl, (m : Int), -1, -1, m + 1, rfl, rg2, for_rangeC (lo := (m : Int)) (c := -1) (n := m + 1) (fun u σ H3 => ∃ v8 qs, σ = [some (.int k), some (.int m), some (.int n), some (.ref D), some (.int (k - 1 - j : Nat)), some (.ref L), some (.ref st), some (.int ((n : Int) - (g.sum : Nat))), v8] ∧ Same H' H3 ∧ H3 L = some (.lst (refs qs)) ∧ Tups H3 qs (((rowsTo k m n j).take i).flatMap (grow k m n j) ++ growTo k m n j g u))
          ⟨v8, qs, rfl, e2, eL, by unfold growTo; rw [List.take_zero]; simpa using tq⟩ ?_ ?_⟩
        · rintro u σ H3 hu ⟨v8, qs, rfl, e3, eL3, tq3⟩
          rw [show ((m : Int) + (u : Nat) * -1) = ((m - u : Nat) : Int) by omega]
          rw [growTo_succ (by omega)]
          have no : (¬ (g.sum + (m - u) ≤ n ∧ n ≤ g.sum + (m - u) + (k - 1 - j) * m)) → ∃ v8 qs, [some (.int k), some (.int m), some (.int n), some (.ref D), some (.int (k - 1 - j : Nat)), some (.ref L), some (.ref st), some (.int ((n : Int) - (g.sum : Nat))), some (V.int (m - u : Nat))] = [some (.int k), some (.int m), some (.int n), some (.ref D), some (.int (k - 1 - j : Nat)), some (.ref L), some (.ref st), some (.int ((n : Int) - (g.sum : Nat))), v8] ∧ Same H' H3 ∧ H3 L = some (.lst (refs qs)) ∧
              Tups H3 qs (((rowsTo k m n j).take i).flatMap (grow k m n j) ++ (growTo k m n j g u ++ if g.sum + (m - u) ≤ n ∧ n ≤ g.sum + (m - u) + (k - 1 - j) * m then [g ++ [m - u]] else [])) := fun c => by
            rw [if_neg c, List.append_nil]
            exact ⟨_, qs, rfl, e3, eL3, tq3⟩
          have em : (((k - 1 - j : Nat) : Int) * (m : Int)) = (((k - 1 - j) * m : Nat) : Int) := by rw [Int.natCast_mul]
          refine ⟨_, rfl, _, rfl, _, _, rfl, rfl, _, _, rfl, rfl, _, rfl, ?_⟩
          refine ite2 (fun c1 => ?_) (fun c1 => ?_)
          · have c1' := of_decide_eq_true c1
            refine ⟨_, rfl, _, rfl, _, _, rfl, rfl, .inl ⟨by omega, by omega⟩, _, _, rfl, rfl, _, rfl, ?_⟩
            rw [em]
            refine ite2 (fun c2 => ?_) (fun c2 => ?_)
            · have c2' := of_decide_eq_true c2
              rw [if_pos (by omega)]
              refine ⟨_, rfl, .inl ⟨rfl, _, .inl (.inl eL3)⟩, _, rfl, _, rfl, (by show 1 ≤ sizeLine; decide), fun p1 n1 => ?_⟩
              have s4 : Same H3 (upd H3 p1 (.tup [V.int (m - u : Nat)])) := same_new n1
              refine ⟨st, p1, _, _, rfl, rfl, s4 _ _ (e3 _ _ eg), upd_same, ?_, fun p2 H4 s5 e5 => ?_⟩
              · rw [vi_len]
                exact Nat.le_of_lt (small1000 (by show g.length + 1 ≤ 1000; omega))
              have s34 := s4.trans s5
              have eq : vi g ++ [V.int (m - u : Nat)] = vi (g ++ [m - u]) := by
                unfold vi
                rw [List.map_append, List.map_singleton]
              rw [eq] at e5
              have eL4 := s34 _ _ eL3
              refine ⟨L, _, _, rfl, rfl, eL4, ?_, ?_⟩
              · have l1 := tq3.len
                rw [List.length_append] at l1
                have l2 := flat_le (grow_len k m n j) ((rowsTo k m n j).take i)
                have l3 := growTo_len k m n j g u
                have l4 : ((rowsTo k m n j).take i).length * (m + 1) ≤ 1024 * 4 := Nat.mul_le_mul (by rw [List.length_take]; omega) (by omega)
                rw [refs_len, l1]
                omega
              · rw [refs_snoc]
                refine ⟨_, qs ++ [p2], rfl, same_put (e3.trans s34) nL, upd_same, ?_⟩
                rw [← List.append_assoc]
                refine Tups.snoc ?_ (Tups.put eL4 (tq3.same s34))
                rw [upd_ne (ne_of e5 eL4 (by intro q; cases q))]
                exact e5
            · exact no fun q => c2 (decide_eq_true (by omega))
          · exact ⟨_, rfl, no fun q => c1 (decide_eq_true (by omega))⟩
        · rintro σ H3 ⟨v8, qs, rfl, e3, eL3, tq3⟩
          refine ⟨_, _, v8, qs, rfl, e3, eL3, ?_⟩
          rw [growTo_all] at tq3
          rw [take_snoc hg, List.flatMap_append]
          simpa using tq3
      · rintro σ H2 ⟨v6, v7, v8, qs, rfl, e2, eL, tq⟩
        rw [refs_len, tp.len, List.take_length] at tq
        exact ⟨_, rfl, L, _, _, v6, v7, v8, qs, rfl, e1.trans e2, nLH, eL, tq⟩
    · rintro σ H' ⟨D, v4, v5, v6, v7, v8, ps, rfl, e, nD, eD, tp⟩
      exact ⟨_, rfl, fin H' D ps e nD eD tp⟩
end
end Ice
namespace Ice
open PySem PySem.Spec PyProof.Rows L2
/-- pairs of whole numbers at these places -/
def Prs (H : Hp) : List Addr → List (Nat × Nat) → Prop
  | [], [] => True
  | p :: ps, h :: hs => H p = some (.tup [V.int h.1, V.int h.2]) ∧ Prs H ps hs
  | _, _ => False
theorem Prs.same {H H' : Hp} (e : Same H H') : ∀ {ps : List Addr} {hs : List (Nat × Nat)}, Prs H ps hs → Prs H' ps hs
  | [], [], _ => trivial
  | p :: ps, h :: hs, q => ⟨e _ _ q.1, Prs.same e q.2⟩
  | [], _ :: _, q => q.elim
  | _ :: _, [], q => q.elim
theorem Prs.len {H : Hp} : ∀ {ps : List Addr} {hs : List (Nat × Nat)}, Prs H ps hs → ps.length = hs.length
  | [], [], _ => rfl
  | p :: ps, h :: hs, q => congrArg (· + 1) (Prs.len q.2)
  | [], _ :: _, q => q.elim
  | _ :: _, [], q => q.elim
theorem Prs.snoc {H : Hp} {p : Addr} {h : Nat × Nat} (e : H p = some (.tup [V.int h.1, V.int h.2])) : ∀ {ps : List Addr} {hs : List (Nat × Nat)}, Prs H ps hs → Prs H (ps ++ [p]) (hs ++ [h])
  | [], [], _ => ⟨e, trivial⟩
  | _ :: ps, _ :: hs, q => ⟨q.1, Prs.snoc e q.2⟩
  | [], _ :: _, q => q.elim
  | _ :: _, [], q => q.elim
theorem Prs.get {H : Hp} : ∀ {ps : List Addr} {hs : List (Nat × Nat)} {i : Nat} {p : Addr}, Prs H ps hs → ps[i]? = some p → ∃ h, hs[i]? = some h ∧ H p = some (.tup [V.int h.1, V.int h.2])
  | [], [], _, _, _, e => by simp at e
  | p :: ps, h :: hs, 0, p', q, e => ⟨h, rfl, (show p = p' by simpa using e) ▸ q.1⟩
  | p :: ps, h :: hs, i + 1, p', q, e => by
    obtain ⟨g, e1, e2⟩ := Prs.get (i := i) (p := p') q.2 (by simpa using e)
    exact ⟨g, by simpa using e1, e2⟩
  | [], _ :: _, _, _, q, _ => q.elim
  | _ :: _, [], _, _, q, _ => q.elim
theorem Prs.put {H : Hp} {D : Addr} {xs : List V} {o : HO} (e : H D = some (.lst xs)) : ∀ {ps : List Addr} {hs : List (Nat × Nat)}, Prs H ps hs → Prs (upd H D o) ps hs
  | [], [], _ => trivial
  | p :: ps, h :: hs, q => ⟨by rw [upd_ne (ne_of q.1 e (by intro z; cases z))]; exact q.1, Prs.put e q.2⟩
  | [], _ :: _, q => q.elim
  | _ :: _, [], q => q.elim
def zi (l : List Nat) : List Int := l.map fun (n : Nat) => (n : Int)
section
variable {P : Program} {w : World} {K : PySem.W.Frag} {mg : Str → Option Value} {base : Heap}
def spWay : Sp := fun vs H Q _ => ∃ (a : Addr) (ps : List Addr) (ws : List (Nat × Nat)), vs = [.ref a] ∧ H a = some (.lst (refs ps)) ∧ Prs H ps ws ∧ ws.length ≤ 1000 ∧
  ∀ (H' : Hp) (p : Addr), Same H H' → H p = none → H' p = some (.tup [V.int ((least ws).1 : Nat), V.int ((least ws).2 : Nat)]) → Q (.ref p) H'
theorem sc_way : FnScope ["ways", "least", "way"] ["ways"] (defScope s_best_way) := ⟨rfl, rfl, rfl, by decide +kernel, rfl, by decide +kernel, by decide +kernel⟩
theorem ok_way {f : Addr} {fd : FuncData} (F : Fun K "best_way" "best_way" s_best_way f fd) (T : Txt K mg) : FnOk P w K mg base CX0 1 f fd ["ways"] spWay := by
  refine F.ok sc_way (fun vs H Q E h => ?_) (fun cdv A outer s H vs Q E hr h => ?_)
  · obtain ⟨a, ps, ws, rfl, _⟩ := h
    rfl
  · obtain ⟨a, ps, ws, rfl, ha, tp, hlen, fin⟩ := h
    refine ⟨_, pss_cons (ps_if (pt_cmpR op_eq (pe_callB call_len_seq (by rfl) T.len PySem.boot_len (pa_cons (pv 0) pa_nil)) pe_int (nomark _)) (pss_one (ps_ret (pe_tup (pa_cons pe_int (pa_cons pe_int pa_nil))))) pss_nil)
      (pss_cons (ps_set (i := 1) sc_way.nd rfl (Or.inr rfl) (pe_callB (cr_min rfl) (by rfl) T.min (by decide +kernel) (pa_cons
        (pe_lc (own := [("way", 2)]) (g := gName 2) rfl sc_way.nd (pi_list (pv 0)) (blkOk_by (own := [("way", 2)]) (N := ["ways", "least", "way"]) (sc := defScope s_best_way) (by decide +kernel))
          (fun _ _ _ _ _ => pg_name (i := 2) sc_way.nd rfl (Or.inl rfl)) (fun _ _ _ _ _ => pts_nil) (fun _ _ _ _ _ => pe_ix (show IxR _ (rIxT K) from ix_tup) (pv 2) pe_int (fun _ _ => rfl))) pa_nil)))
      (pss_one (ps_ret (pe_tup (pa_cons (pv 1) (pa_cons (pe_callB (cr_sum rfl) (by rfl) T.sum (by decide +kernel) (pa_cons
        (pe_lc (own := [("way", 2)]) (g := gName 2) rfl sc_way.nd (pi_list (pv 0)) (blkOk_by (own := [("way", 2)]) (N := ["ways", "least", "way"]) (sc := defScope s_best_way) (by decide +kernel))
          (fun _ _ _ _ _ => pg_name (i := 2) sc_way.nd rfl (Or.inl rfl)) (fun _ _ _ _ _ => pts_one (pt_cmpR op_eq (pe_ix (show IxR _ (rIxT K) from ix_tup) (pv 2) pe_int (fun _ _ => rfl)) (pv 1) (nomark _))) (fun _ _ _ _ _ => pe_ix (show IxR _ (rIxT K) from ix_tup) (pv 2) pe_int (fun _ _ => rfl))) pa_nil)) pa_nil)))))), ?_⟩
    refine ⟨_, rfl, a, _, rfl, .inl (.inl (.inl ha)), rfl, _, rfl, ?_⟩
    refine ite2 (fun c => ?_) (fun c => ?_)
    · have c' := V.int.inj (of_decide_eq_true c)
      rw [refs_len, tp.len] at c'
      have e0 : ws = [] := List.eq_nil_of_length_eq_zero (by omega)
      subst e0
      exact ⟨(by show 2 ≤ sizeLine; decide), fun p np => fin _ p (same_new np) np upd_same⟩
    · have ne : ws.length ≠ 0 := fun q => c (decide_eq_true (by rw [refs_len, tp.len, q]; rfl))
      refine ⟨_, rfl, a, rfl, ⟨_, .inl (.inl ha)⟩, fun D hD => lc_list (K := K) (a := a) (xs := refs ps) (fun i H' => Same H H' ∧ H' D = some (.lst (vi ((ws.take i).map Prod.fst)))) ⟨same_new hD, upd_same⟩ ?_ ?_ ?_⟩
      · rintro i H' _ ⟨e, _⟩
        exact .inl (.inl (e _ _ ha))
      · rintro i x H' hx ⟨e, eD⟩
        obtain ⟨p, hp, rfl⟩ := refs_at hx
        obtain ⟨h, hh, eh⟩ := (tp.same e).get hp
        have il : i < ws.length := (List.getElem?_eq_some_iff.mp hh).1
        refine ⟨rfl, _, rfl, p, _, 0, V.int h.1, rfl, rfl, .inl (.inl eh), rfl, _, eD, ?_, same_put e hD, ?_⟩
        · rw [vi_len, List.length_map, List.length_take]
          exact small1000 (by omega)
        · rw [upd_same, take_snoc hh, List.map_append]
          unfold vi
          rw [List.map_append]
          rfl
      · rintro H1 ⟨e1, eD1⟩
        rw [refs_len, tp.len, List.take_length] at eD1
        rw [vi_ints] at eD1
        refine ⟨D, _, rfl, .inl (.inl eD1), (by rw [List.length_map, List.length_map]; omega), fun m hm hle => ?_⟩
        obtain ⟨m, hm', rfl⟩ := List.mem_map.mp hm
        have le : least ws = (m, cnt ws m) := least_eq hm' fun y hy => by
          have := hle (y : Int) (List.mem_map.mpr ⟨y, hy, rfl⟩)
          omega
        rw [le] at fin
        have ha1 := e1 _ _ ha
        have tp1 := tp.same e1
        refine ⟨_, rfl, _, rfl, a, rfl, ⟨_, .inl (.inl ha1)⟩, fun D2 hD2 => lc_list (K := K) (a := a) (xs := refs ps) (fun i H' => Same H1 H' ∧ H' D2 = some (.lst (vi (((ws.take i).filter fun x => x.1 == m).map Prod.snd)))) ⟨same_new hD2, upd_same⟩ ?_ ?_ ?_⟩
        · rintro i H' _ ⟨e, _⟩
          exact .inl (.inl (e _ _ ha1))
        · rintro i x H' hx ⟨e, eD2⟩
          obtain ⟨p, hp, rfl⟩ := refs_at hx
          obtain ⟨h, hh, eh⟩ := (tp1.same e).get hp
          have il : i < ws.length := (List.getElem?_eq_some_iff.mp hh).1
          refine ⟨rfl, _, rfl, p, _, 0, V.int h.1, rfl, rfl, .inl (.inl eh), rfl, _, rfl, rfl, _, rfl, ?_⟩
          refine ite2 (fun d => ?_) (fun d => ?_)
          · have d' : h.1 = m := by
              have := V.int.inj (of_decide_eq_true d)
              omega
            refine ⟨_, rfl, p, _, 1, V.int h.2, rfl, rfl, .inl (.inl eh), rfl, _, eD2, ?_, same_put e hD2, ?_⟩
            · rw [vi_len, List.length_map]
              refine small1000 (Nat.le_trans (List.length_filter_le _ _) ?_)
              rw [List.length_take]
              omega
            · rw [upd_same, take_snoc hh, List.filter_append, List.map_append, List.filter_cons_of_pos (by simp [d'])]
              unfold vi
              rw [List.map_append]
              rfl
          · have d' : h.1 ≠ m := fun q => d (decide_eq_true (by rw [q]))
            refine ⟨e, ?_⟩
            rw [eD2, take_snoc hh, List.filter_append, List.map_append, List.filter_cons_of_neg (by simp [d'])]
            simp
        · rintro H2 ⟨e2, eD2⟩
          rw [refs_len, tp.len, List.take_length, vi_ints] at eD2
          refine ⟨D2, _, rfl, .inl (.inl eD2), (by show 2 ≤ sizeLine; decide), fun p np => ?_⟩
          have es : (((ws.filter fun x => x.1 == m).map Prod.snd).map fun (n : Nat) => (n : Int)).sum = ((cnt ws m : Nat) : Int) := by
            rw [sum_ints, total_eq]
            rfl
          rw [es]
          exact fin _ p ((e1.trans e2).trans (same_new np)) ((e1.trans e2).free np) upd_same
/-! ### first_of_least -/
def spLeast : Sp := fun vs H Q _ => ∃ (a b : Addr) (ps : List Addr) (rs : List (List Nat)) (ws : List Nat), vs = [.ref a, .ref b] ∧ H a = some (.lst (refs ps)) ∧ Tups H ps rs ∧ H b = some (.lst (vi ws)) ∧ ws.length = rs.length ∧ 0 < ws.length ∧ (∀ r ∈ rs, r.length ≤ 1000) ∧
  ∀ (H' : Hp) (q : Addr) (j m : Nat) (r : List Nat), Same H H' → H q = none → ws[j]? = some m → rs[j]? = some r → (∀ w ∈ ws, m ≤ w) → (∀ i w, i < j → ws[i]? = some w → w ≠ m) → H' q = some (.lst (vi (m :: r))) → Q (.ref q) H'
theorem sc_least : FnScope ["rows", "waters", "least"] ["rows", "waters"] (defScope s_first_least) := ⟨rfl, rfl, rfl, by decide +kernel, rfl, by decide +kernel, by decide +kernel⟩
theorem eqV_nat (a b : Nat) : eqV (V.int (a : Int)) (V.int (b : Int)) = decide (a = b) := by
  by_cases h : a = b
  · subst h
    rw [decide_eq_true rfl]
    simp [eqV]
  · rw [decide_eq_false h]
    simp [eqV]
    omega
theorem vi_flat (l : List Nat) : (vi l).all flatV = true := by
  rw [List.all_eq_true]
  intro x hx
  unfold vi at hx
  obtain ⟨n, _, rfl⟩ := List.mem_map.mp hx
  rfl
/-- where the least stands first -/
theorem first_place {ws : List Nat} {m : Nat} (h : m ∈ ws) : ∃ j : Nat, ws[j]? = some m ∧ ∀ (i w : Nat), i < j → ws[i]? = some w → w ≠ m := by
  induction ws with
  | nil => cases h
  | cons a ws ih =>
    by_cases c : a = m
    · subst c
      exact ⟨0, rfl, fun i w hi => absurd hi (Nat.not_lt_zero _)⟩
    · rcases List.mem_cons.mp h with q | q
      · exact absurd q.symm c
      · obtain ⟨j, e1, e2⟩ := ih q
        refine ⟨j + 1, e1, fun i w hi hw => ?_⟩
        cases i with
        | zero =>
          have : a = w := by simpa using hw
          rw [← this]; exact c
        | succ i => exact e2 i w (by omega) (by simpa using hw)
theorem ok_least {f : Addr} {fd : FuncData} (F : Fun K "first_of_least" "first_of_least" s_first_least f fd) (T : Txt K mg) : FnOk P w K mg base CX0 1 f fd ["rows", "waters"] spLeast := by
  refine F.ok sc_least (fun vs H Q E h => ?_) (fun cdv A outer s H vs Q E hr h => ?_)
  · obtain ⟨a, b, ps, rs, ws, rfl, _⟩ := h
    rfl
  · obtain ⟨a, b, ps, rs, ws, rfl, ha, tp, hb, hl, h0, hrl, fin⟩ := h
    refine ⟨_, pss_cons (ps_set (i := 2) sc_least.nd rfl (Or.inl rfl) (pe_callB (cr_min rfl) (by rfl) T.min (by decide +kernel) (pa_cons (pv 1) pa_nil)))
      (pss_one (ps_ret (pe_op op_cat (pe_lst (pa_cons (pv 2) pa_nil)) (pe_callTy call_list_of (by rfl) T.list (by decide +kernel) (pa_cons (pe_ix ix_list (pv 0)
        (pe_bm PySem.F.plainAttrs_list PySem.F.slot_list_index PySem.F.type_list_index mt_index (pv 1) (pa_cons (pv 2) pa_nil)) (fun _ _ => rfl)) pa_nil))))), ?_⟩
    have hb' := hb
    rw [vi_ints] at hb'
    refine ⟨_, rfl, b, _, rfl, .inl (.inl hb'), (by rw [List.length_map]; exact h0), fun m hm hle => ?_⟩
    obtain ⟨m, hm', rfl⟩ := List.mem_map.mp hm
    obtain ⟨j, hj, hbefore⟩ := first_place hm'
    have jl : j < rs.length := by
      have := (List.getElem?_eq_some_iff.mp hj).1
      omega
    have hrj : rs[j]? = some rs[j] := List.getElem?_eq_getElem jl
    generalize rs[j] = r at hrj
    have pl := tp.len
    have hpj : ps[j]? = some (ps[j]'(by omega)) := List.getElem?_eq_getElem (by omega)
    generalize ps[j]'(by omega) = pr at hpj
    obtain ⟨r', hr', er⟩ := tp.get hpj
    obtain rfl : r = r' := Option.some.inj (hrj.symm.trans hr')
    have rl := hrl r (List.mem_of_getElem? hrj)
    refine ⟨_, rfl, (by show 1 ≤ sizeLine; decide), fun q nq => ?_⟩
    have s1 : Same H (upd H q (.lst [V.int (m : Int)])) := same_new nq
    have hpv : (refs ps)[j]? = some (.ref pr) := by unfold refs; rw [List.getElem?_map, hpj]; rfl
    refine ⟨_, rfl, _, rfl, .inl ⟨rfl, _, .inl (.inl (s1 _ _ hb))⟩, _, rfl, b, vi ws, V.int (m : Int), j, V.int (m : Int), rfl, rfl, .inl (.inl (s1 _ _ hb)), rfl, vi_flat ws, vi_get hj, (by rw [eqV_nat]; exact decide_eq_true rfl), fun i z hi hz => ?_, ?_⟩
    · obtain ⟨w, hw, rfl⟩ := vi_at hz
      rw [eqV_nat]
      exact decide_eq_false (hbefore i w hi hw)
    refine ⟨a, _, _, _, rfl, rfl, .inl (.inl (s1 _ _ ha)), atI_nat hpv, pr, _, rfl, .inr (.inl (.inl (s1 _ _ er))), fun q2 nq2 => ?_⟩
    have s2 := s1.trans (same_new (o := .lst (vi r)) nq2)
    have n12 : q ≠ q2 := ne_of_none upd_same nq2
    refine ⟨q, q2, _, _, rfl, rfl, (by rw [upd_ne n12, upd_same]), upd_same, ?_, fun q3 nq3 => ?_⟩
    · rw [vi_len]
      show 1 + r.length ≤ sizeLine
      have := sizeLine_eq
      omega
    refine fin _ q3 j m r (s2.trans (same_new nq3)) (s2.free nq3) hj hrj (fun w hw => ?_) hbefore ?_
    · have := hle (w : Int) (List.mem_map.mpr ⟨w, hw, rfl⟩)
      omega
    · rw [upd_same]
      rfl
end
end Ice
namespace Ice
open PySem PySem.Spec PyProof.Rows L2
abbrev inB (j : Nat) : Stmt := inClass (topS 11) j
abbrev s_binit : Stmt := inB 0
abbrev s_bbest : Stmt := inB 1
abbrev s_wdb : Stmt := inB 2
abbrev s_ways : Stmt := inB 3
abbrev s_first : Stmt := inB 4
abbrev s_first_col : Stmt := inB 5
/-! ### fields by their place -/
theorem at0 {k : Str} {v : V} {r : List (Str × V)} : List.lookup k ((k, v) :: r) = some v := by
  have e : (k == k) = true := beq_self_eq_true k
  simp only [List.lookup, e]
theorem atS {k g : Str} {v : V} {r : List (Str × V)} (h : (k == g) = false) : List.lookup k ((g, v) :: r) = List.lookup k r := by
  simp only [List.lookup, h]
theorem put0 {f : Str} {v x : V} {r : List (Str × V)} : putF f v ((f, x) :: r) = (f, v) :: r := if_pos rfl
theorem putS {f g : Str} {v x : V} {r : List (Str × V)} (h : ¬ g = f) : putF f v ((g, x) :: r) = (g, x) :: putF f v r := if_neg h
def fb (a b : V) : List (Str × V) := [("straw", a), ("found", b)]
section
variable {a b : V}
theorem fb_straw : (fb a b).lookup ("straw" : Str) = some a := at0
theorem fb_found : (fb a b).lookup ("found" : Str) = some b := (atS (by decide +kernel)).trans at0
theorem fb_no {k : Str} (h1 : (k == ("straw" : Str)) = false) (h2 : (k == ("found" : Str)) = false) : (fb a b).lookup k = none := (atS h1).trans ((atS h2).trans rfl)
theorem fb_new : putF "found" b (putF "straw" a []) = fb a b := by
  have e1 : putF "straw" a [] = ([(("straw" : Str), a)] : List (Str × V)) := rfl
  have e2 : putF "found" b ([(("straw" : Str), a)] : List (Str × V)) = fb a b := (putS (by decide +kernel)).trans rfl
  rw [e1, e2]
end
/-! ### a heap as a key -/
def kz (h : List Nat) : List Key := h.map fun (n : Nat) => Sum.inl (n : Int)
theorem kz_vi (h : List Nat) : (kz h).map kV = vi h := by
  unfold kz vi
  rw [List.map_map]
  rfl
theorem kz_inj : ∀ {g h : List Nat}, kz g = kz h → g = h
  | [], [], _ => rfl
  | x :: g, y :: h, e => by
    unfold kz at e
    rw [List.map_cons, List.map_cons, List.cons.injEq] at e
    have e1 : (x : Int) = (y : Int) := Sum.inl.inj e.1
    have e2 : x = y := by omega
    rw [e2, kz_inj (g := g) (h := h) e.2]
  | [], _ :: _, e => by cases e
  | _ :: _, [], e => by cases e
/-- what a heap comes to with its day -/
def reach (s : List Bool) (h : List Nat) : Nat × Nat := ((Mu42.best h s).1 + Mu42.faces h s, (Mu42.best h s).2)
theorem least_reach {h : List Nat} (o : Ok h) (s : List Bool) : Mu42.best h s = least (((Mu42.some_ h).map (Mu42.taken h)).map (reach s)) := by
  rw [best_rec o s]
  congr 1
  rw [List.map_map]
  apply List.map_congr_left
  intro i _
  show (Mu42.faces (Mu42.taken h i) s + (Mu42.best (Mu42.taken h i) s).1, _) = ((Mu42.best (Mu42.taken h i) s).1 + Mu42.faces (Mu42.taken h i) s, _)
  rw [Nat.add_comm]
theorem nodup_le {α : Type} [DecidableEq α] : ∀ {l m : List α}, l.Nodup → (∀ x ∈ l, x ∈ m) → l.length ≤ m.length
  | [], _, _, _ => Nat.zero_le _
  | a :: l, m, h, k => by
    obtain ⟨n, h⟩ := List.nodup_cons.mp h
    have e := List.length_erase_of_mem (k a (List.mem_cons_self ..))
    have p : 0 < m.length := List.length_pos_of_mem (k a (List.mem_cons_self ..))
    have q := nodup_le (l := l) (m := m.erase a) h fun x hx => (List.mem_erase_of_ne (fun q => n (by rw [← q]; exact hx))).mpr (k x (List.mem_cons_of_mem _ hx))
    rw [List.length_cons]
    omega
/-- all heaps, and all straw as rows -/
def allHeaps : List (List Nat) := (List.range 6).flatMap fun k => within (List.replicate k 3)
theorem allHeaps_len : allHeaps.length = 1365 := by decide +kernel
theorem mem_allHeaps {g : List Nat} (o : Ok g) (l : g.length ≤ 5) : g ∈ allHeaps := by
  unfold allHeaps
  refine List.mem_flatMap.mpr ⟨g.length, List.mem_range.mpr (by omega), (within_mem _ _).mpr ⟨by rw [List.length_replicate], fun i => ?_⟩⟩
  by_cases c : i < g.length
  · rw [List.getD_eq_getElem?_getD, List.getD_eq_getElem?_getD, List.getElem?_eq_getElem c, List.getElem?_replicate, if_pos c]
    exact o _ (List.getElem_mem c)
  · rw [List.getD_eq_getElem?_getD, List.getElem?_eq_none (by omega)]
    exact Nat.zero_le _
theorem keys_len {kvs : List (List Key × V)} (n : (kvs.map Prod.fst).Nodup) (h : ∀ e ∈ kvs, ∃ g, e.1 = kz g ∧ Ok g ∧ g.length ≤ 5) : kvs.length ≤ 1365 := by
  have q := nodup_le (l := kvs.map Prod.fst) (m := allHeaps.map kz) n fun x hx => by
    obtain ⟨e, he, rfl⟩ := List.mem_map.mp hx
    obtain ⟨g, e1, o, l⟩ := h e he
    rw [e1]
    exact List.mem_map.mpr ⟨g, mem_allHeaps o l, rfl⟩
  rw [List.length_map, List.length_map, allHeaps_len] at q
  exact q
theorem valV_mem {kvs : List (List Key × V)} {k : List Key} {v : V} (h : valV kvs k = some v) : (k, v) ∈ kvs := by
  unfold valV at h
  cases e : kvs.find? fun kv => decide (kv.1 = k) with
  | none => rw [e] at h; cases h
  | some x =>
    rw [e] at h
    have m := List.mem_of_find?_eq_some e
    have q : x.1 = k := by simpa using List.find?_some e
    have q2 : x.2 = v := Option.some.inj h
    rw [← q, ← q2]
    exact m
theorem valV_no {kvs : List (List Key × V)} {k : List Key} (h : valV kvs k = none) : k ∉ kvs.map Prod.fst := by
  intro m
  obtain ⟨e, he, rfl⟩ := List.mem_map.mp m
  unfold valV at h
  rw [Option.map_eq_none_iff, List.find?_eq_none] at h
  have := h e he
  simp at this
theorem nodup_snoc {α : Type} {l : List α} {a : α} (h : l.Nodup) (n : a ∉ l) : (l ++ [a]).Nodup := by
  rw [List.nodup_append]
  refine ⟨h, by simp, fun x hx y hy q => ?_⟩
  rw [List.mem_singleton.mp hy] at q
  exact n (q ▸ hx)
/-! ### what is kept of heaps -/
def Found (H : Hp) (s : List Bool) (kvs : List (List Key × V)) : Prop := (kvs.map Prod.fst).Nodup ∧ ∀ e ∈ kvs, ∃ g p, e = (kz g, V.ref p) ∧ Ok g ∧ g.length ≤ 5 ∧ H p = some (.tup [V.int ((reach s g).1 : Nat), V.int ((reach s g).2 : Nat)])
/-- tuples stay -/
def Tk (H H' : Hp) : Prop := ∀ c xs, H c = some (.tup xs) → H' c = some (.tup xs)
theorem Same.tk {H H' : Hp} (e : Same H H') : Tk H H' := fun c xs h => e _ _ h
theorem Found.tk {H H' : Hp} {s : List Bool} {kvs : List (List Key × V)} (t : Tk H H') (h : Found H s kvs) : Found H' s kvs := ⟨h.1, fun e he =>
  let ⟨g, p, a, b, c, d⟩ := h.2 e he
  ⟨g, p, a, b, c, t _ _ d⟩⟩
theorem Found.len {H : Hp} {s : List Bool} {kvs : List (List Key × V)} (h : Found H s kvs) : kvs.length ≤ 1365 := keys_len h.1 fun e he =>
  let ⟨g, p, a, b, c, d⟩ := h.2 e he
  ⟨g, by rw [a], b, c⟩
theorem Found.get {H : Hp} {s : List Bool} {kvs : List (List Key × V)} (h : Found H s kvs) {g : List Nat} {v : V} (e : valV kvs (kz g) = some v) : ∃ p, v = .ref p ∧ H p = some (.tup [V.int ((reach s g).1 : Nat), V.int ((reach s g).2 : Nat)]) := by
  obtain ⟨g', p, a, b, c, d⟩ := h.2 _ (valV_mem e)
  rw [Prod.mk.injEq] at a
  obtain rfl := kz_inj a.1
  exact ⟨p, a.2, d⟩
theorem Found.put {H : Hp} {s : List Bool} {kvs : List (List Key × V)} (h : Found H s kvs) {g : List Nat} (o : Ok g) (l : g.length ≤ 5) {p : Addr} (e : H p = some (.tup [V.int ((reach s g).1 : Nat), V.int ((reach s g).2 : Nat)])) : Found H s (putK kvs (kz g) (.ref p)) := by
  cases n : valV kvs (kz g) with
  | none =>
    rw [putK_new _ n]
    refine ⟨?_, fun x hx => ?_⟩
    · rw [List.map_append]
      exact nodup_snoc h.1 (valV_no n)
    · rcases List.mem_append.mp hx with q | q
      · exact h.2 x q
      · rw [List.mem_singleton.mp q]
        exact ⟨g, p, rfl, o, l, e⟩
  | some v =>
    unfold putK
    rw [if_pos (by rw [valV_any, n]; rfl)]
    refine ⟨?_, fun x hx => ?_⟩
    · have q : (kvs.map fun kv => if kv.1 = kz g then (kv.1, V.ref p) else kv).map Prod.fst = kvs.map Prod.fst := by
        rw [List.map_map]
        apply List.map_congr_left
        intro kv _
        show (if kv.1 = kz g then (kv.1, V.ref p) else kv).1 = kv.1
        split <;> rfl
      rw [q]
      exact h.1
    · obtain ⟨kv, hk, rfl⟩ := List.mem_map.mp hx
      by_cases c : kv.1 = kz g
      · rw [if_pos c, c]
        exact ⟨g, p, rfl, o, l, e⟩
      · rw [if_neg c]
        exact h.2 kv hk
/-- all but these is as it was -/
def But (l : List Addr) (H H' : Hp) : Prop := ∀ c u, H c = some u → c ∉ l → H' c = some u
theorem But.refl (l : List Addr) (H : Hp) : But l H H := fun _ _ e _ => e
theorem But.trans {l : List Addr} {H H1 H2 : Hp} (a : But l H H1) (b : But l H1 H2) : But l H H2 := fun c u e n => b c u (a c u e n) n
theorem same_but {l : List Addr} {H H' : Hp} (e : Same H H') : But l H H' := fun c u h _ => e c u h
theorem But.tk {f : Addr} {H H' : Hp} {kvs : List (List Key × V)} (e : But [f] H H') (h : H f = some (.dT kvs)) : Tk H H' := fun c xs q => e c _ q fun m => by
  rw [List.mem_singleton.mp m, h] at q
  cases q
theorem But.at {f c : Addr} {H H' : Hp} {u : HO} (e : But [f] H H') (h : H c = some u) (n : c ≠ f) : H' c = some u := e c u h fun m => n (List.mem_singleton.mp m)
/-- the memo of a straw -/
def MemoAt (B : Addr) (H : Hp) (q f : Addr) (s : List Bool) : Prop := ∃ dx ts kvs, H q = some (.ins B dx (fb (.ref ts) (.ref f))) ∧ H ts = some (.tup (vi (mk s))) ∧ H f = some (.dT kvs) ∧ Found H s kvs
theorem MemoAt.keep {B : Addr} {H H' : Hp} {q f : Addr} {s : List Bool} (t : Tk H H') (eq : H' q = H q) (ef : H' f = H f) (h : MemoAt B H q f s) : MemoAt B H' q f s :=
  let ⟨dx, ts, kvs, a, b, c, d⟩ := h
  ⟨dx, ts, kvs, eq ▸ a, t _ _ b, ef ▸ c, d.tk t⟩
theorem MemoAt.same {B : Addr} {H H' : Hp} {q f : Addr} {s : List Bool} (e : Same H H') (h : MemoAt B H q f s) : MemoAt B H' q f s :=
  let ⟨dx, ts, kvs, a, b, c, d⟩ := h
  ⟨dx, ts, kvs, e _ _ a, e _ _ b, e _ _ c, d.tk (Same.tk e)⟩
theorem MemoAt.put {B : Addr} {H : Hp} {q f D : Addr} {s : List Bool} {xs : List V} {o : HO} (e : H D = some (.lst xs)) (h : MemoAt B H q f s) : MemoAt B (upd H D o) q f s := by
  obtain ⟨dx, ts, kvs, a, b, c, d⟩ := h
  have t : Tk H (upd H D o) := fun c' ys g => by rw [upd_ne (ne_of g e (by intro z; cases z))]; exact g
  exact ⟨dx, ts, kvs, by rw [upd_ne (ne_of a e (by intro z; cases z))]; exact a, t _ _ b, by rw [upd_ne (ne_of c e (by intro z; cases z))]; exact c, d.tk t⟩
theorem But.put {f D : Addr} {H H' : Hp} {o : HO} (e : But [f] H H') (n : H D = none) : But [f] H (upd H' D o) := fun c u q m => by
  rw [upd_ne (ne_of_none q n)]
  exact e c u q m
theorem Prs.tk {H H' : Hp} (e : Tk H H') : ∀ {ps : List Addr} {hs : List (Nat × Nat)}, Prs H ps hs → Prs H' ps hs
  | [], [], _ => trivial
  | p :: ps, h :: hs, q => ⟨e _ _ q.1, Prs.tk e q.2⟩
  | [], _ :: _, q => q.elim
  | _ :: _, [], q => q.elim
theorem Tups.tk {H H' : Hp} (e : Tk H H') : ∀ {ps : List Addr} {hs : List (List Nat)}, Tups H ps hs → Tups H' ps hs
  | [], [], _ => trivial
  | p :: ps, h :: hs, q => ⟨e _ _ q.1, Tups.tk e q.2⟩
  | [], _ :: _, q => q.elim
  | _ :: _, [], q => q.elim
theorem MemoAt.f_ne {B : Addr} {H : Hp} {q f D : Addr} {s : List Bool} (h : MemoAt B H q f s) (n : H D = none) : D ≠ f := by
  obtain ⟨dx, ts, kvs, a, b, c, d⟩ := h
  exact fun e => by rw [e, c] at n; cases n
structure TxtB (K : PySem.W.Frag) (mg : Str → Option Value) (B : Addr) : Prop where
  cl : Cls K B
  nStraw : NoAttr K B "straw"
  nFound : NoAttr K B "found"
  mgB : mg "BestOrders" = some (.ref B)
/-- a method as its callers see it -/
structure MCallee (P : Program) (w : World) (K : PySem.W.Frag) (mg : Str → Option Value) (base : Heap) (C : Addr) (x : Str) (ps : List Str) (k : Nat) (sp : Sp) : Prop where
  ex : ∃ f fd, FnOk P w K mg base CX0 k f fd ps sp ∧ Meth K C x f ∧ Binds K fd ps []
section
variable {P : Program} {w : World} {K : PySem.W.Frag} {mg : Str → Option Value} {base : Heap} {B : Addr}
def spBInit (B : Addr) : Sp := fun vs H Q _ => ∃ (q t dx : Addr), vs = [.ref q, .ref t] ∧ H q = some (.ins B dx []) ∧
  ∀ (H' : Hp) (f : Addr), H' q = some (.ins B dx (fb (.ref t) (.ref f))) → H' f = some (.dT []) → H f = none → (∀ b o, H b = some o → b ≠ q → H' b = some o) → Q .non H'
theorem sc_binit : FnScope ["self", "straw"] ["self", "straw"] (defScope s_binit) := ⟨rfl, rfl, rfl, by decide +kernel, rfl, by decide +kernel, by decide +kernel⟩
theorem ok_binit {f : Addr} {fd : FuncData} (F : Fun K "__init__" "BestOrders.__init__" s_binit f fd) (T : TxtB K mg B) : FnOk P w K mg base CX0 1 f fd ["self", "straw"] (spBInit B) := by
  refine F.ok sc_binit (fun vs H Q E h => ?_) (fun cdv A outer s H vs Q E hr h => ?_)
  · obtain ⟨q, t, dx, rfl, _⟩ := h
    rfl
  · obtain ⟨q, t, dx, rfl, hq, fin⟩ := h
    refine ⟨_, pss_cons (ps_fld (pv 0) (pv 1) rfl) (pss_one (ps_fld (pv 0) pe_dnewT rfl)), ?_⟩
    refine ⟨_, rfl, _, rfl, q, B, dx, _, rfl, hq, T.cl, T.nStraw, (by show 0 < 1000; decide), fun f nf => ?_⟩
    have e1 : (upd (upd H q (.ins B dx (putF "straw" (.ref t) []))) f (.dT [])) q = some (.ins B dx (putF "straw" (.ref t) [])) := by
      rw [upd_ne (ne_of_none upd_same nf), upd_same]
    have nqf : q ≠ f := ne_of_none upd_same nf
    refine ⟨_, rfl, q, B, dx, _, rfl, e1, T.cl, T.nFound, (by show 1 < 1000; decide), ?_⟩
    refine fin _ f ?_ ?_ ?_ fun b o e n => ?_
    · rw [upd_same, fb_new]
    · rw [upd_ne nqf.symm, upd_same]
    · rw [upd_ne nqf.symm] at nf
      exact nf
    · rw [upd_ne n, upd_ne, upd_ne n]
      · exact e
      · refine ne_of_none (H := upd H q (.ins B dx (putF "straw" (.ref t) []))) (o := o) ?_ nf
        rw [upd_ne n]
        exact e
def spW (B : Addr) (n : Nat) : Sp := fun vs H Q _ => ∃ (q f hp : Addr) (s : List Bool) (h : List Nat), vs = [.ref q, .ref hp] ∧ MemoAt B H q f s ∧ H hp = some (.tup (vi h)) ∧ Ok h ∧ h.length ≤ 5 ∧ Mu42.total h < n ∧
  ∀ (H' : Hp) (r : Addr), But [f] H H' → MemoAt B H' q f s → H' r = some (.tup [V.int ((reach s h).1 : Nat), V.int ((reach s h).2 : Nat)]) → Q (.ref r) H'
def spWays (B : Addr) (n : Nat) : Sp := fun vs H Q _ => ∃ (q f hp : Addr) (s : List Bool) (h : List Nat), vs = [.ref q, .ref hp] ∧ MemoAt B H q f s ∧ H hp = some (.tup (vi h)) ∧ Ok h ∧ h.length ≤ 5 ∧ Mu42.total h < n ∧
  ∀ (H' : Hp) (D : Addr) (rs : List Addr), But [f] H H' → H D = none → MemoAt B H' q f s → H' D = some (.lst (refs rs)) → Prs H' rs (((Mu42.some_ h).map (Mu42.taken h)).map (reach s)) → Q (.ref D) H'
theorem some_le {h : List Nat} (l : h.length ≤ 5) : (Mu42.some_ h).length ≤ 5 := Nat.le_trans (someTo_le h h.length) l
theorem sc_ways : FnScope ["self", "heap", "column"] ["self", "heap"] (defScope s_ways) := ⟨rfl, rfl, rfl, by decide +kernel, rfl, by decide +kernel, by decide +kernel⟩
theorem ok_ways {f : Addr} {fd : FuncData} {k m : Nat} (F : Fun K "ways" "BestOrders.ways" s_ways f fd) (T : TxtB K mg B) (hk : 1 ≤ k) (C1 : MCallee P w K mg base B "with_day_before" ["self", "heap"] k (spW B m)) (C2 : Callee P w K mg base "heap_after" ["heap", "column"] 1 spAfter)
    (C3 : Callee P w K mg base "columns_with_blocks" ["heap"] 1 (spCols K)) : FnOk P w K mg base CX0 (k + 1) f fd ["self", "heap"] (spWays B (m + 1)) := by
  obtain ⟨f1, fd1, G1, m1, b1⟩ := C1.ex
  obtain ⟨f2, fd2, G2, m2, k2, b2⟩ := C2.ex
  obtain ⟨f3, fd3, G3, m3, k3, b3⟩ := C3.ex
  refine F.ok sc_ways (fun vs H Q E h => ?_) (fun cdv A outer s H vs Q E hr h => ?_)
  · obtain ⟨q, f, hp, s, h, rfl, _⟩ := h
    rfl
  · obtain ⟨q, f, hp, st, h, rfl, M, eh, ho, hl, ht, fin⟩ := h
    have hr1 : Room 1 _ := hr.mono hk
    refine ⟨_, pss_one (ps_ret (pe_lc (own := [("column", 2)]) (g := gName 2) rfl sc_ways.nd (pi_list (pe_call G3 hr1 (by rfl) m3 k3 b3 .nil pass0 (pa_cons (pv 1) pa_nil)))
      (blkOk_by (own := [("column", 2)]) (N := ["self", "heap", "column"]) (sc := defScope s_ways) (by decide +kernel))
      (fun _ _ _ _ _ => pg_name (i := 2) sc_ways.nd rfl (Or.inl rfl)) (fun _ _ _ _ _ => pts_nil)
      (fun _ _ _ _ _ => pe_meth (pv 0) T.cl m1 G1 hr b1 .nil pass0 (pa_cons (pe_call G2 hr1 (by rfl) m2 k2 b2 .nil pass0 (pa_cons (pv 1) (pa_cons (pv 2) pa_nil))) pa_nil)))), ?_⟩
    refine ⟨_, rfl, hp, false, h, rfl, .inl (.inl eh), hl, fun H1 L e1 nL eL => ?_⟩
    have ol := some_le hl
    refine ⟨L, rfl, ⟨_, .inl (.inl eL)⟩, fun D nD => lc_list (K := K) (a := L) (xs := vi (Mu42.some_ h)) (fun i H' => But [f] H H' ∧ MemoAt B H' q f st ∧ H' L = some (.lst (vi (Mu42.some_ h))) ∧ ∃ rs, H' D = some (.lst (refs rs)) ∧ Prs H' rs ((((Mu42.some_ h).map (Mu42.taken h)).map (reach st)).take i)) ?_ ?_ ?_ ?_⟩
    · exact ⟨same_but (e1.trans (same_new nD)), M.same (e1.trans (same_new nD)), same_new nD _ _ eL, [], upd_same, trivial⟩
    · rintro i H' _ ⟨_, _, e, _⟩
      exact .inl (.inl e)
    · rintro i x H' hx ⟨b', M', eL', rs, eD, tr⟩
      obtain ⟨c, hc, rfl⟩ := vi_at hx
      have mc := List.mem_of_getElem? hc
      have il : i < (Mu42.some_ h).length := (List.getElem?_eq_some_iff.mp hc).1
      have nDH : H D = none := e1.free nD
      have M1 := M.same e1
      have nDf := M1.f_ne nD
      have nLf := M.f_ne nL
      obtain ⟨dx, ts, kvs, hq, hts, hf, hF⟩ := id M'
      have eh' : H' hp = some (.tup (vi h)) := b'.at eh (by
        obtain ⟨dx, ts, kvs, hq, hts, hf, hF⟩ := id M
        exact ne_of eh hf (by intro z; cases z))
      have tt := total_taken (some_mem.mp mc).2
      refine ⟨rfl, _, rfl, q, dx, _, rfl, hq, fb_no (by decide +kernel) (by decide +kernel), _, rfl, _, rfl, hp, h, c, rfl, eh', hl, mc, fun H2 r e2 er => ?_⟩
      refine ⟨q, f, r, st, _, rfl, M'.same e2, er, ho.taken c, (by rw [taken_length]; exact hl), (by omega), fun H3 p3 b3 M3 e3 => ?_⟩
      have t3 : Tk H' H3 := fun c xs g => b3.tk (e2 _ _ hf) c xs (e2 _ _ g)
      have eD3 := b3.at (e2 _ _ eD) nDf
      have eL3 := b3.at (e2 _ _ eL') nLf
      refine ⟨_, eD3, ?_, But.put ((b'.trans (same_but e2)).trans b3) nDH, MemoAt.put eD3 M3, ?_, rs ++ [p3], ?_, ?_⟩
      · have l1 := tr.len
        rw [List.length_take, List.length_map, List.length_map] at l1
        rw [refs_len]
        exact small1000 (by omega)
      · rw [upd_ne]
        · exact eL3
        · intro e
          have := nD
          rw [← e, eL] at this
          cases this
      · rw [upd_same, refs_snoc]
      · have hx' : ((((Mu42.some_ h).map (Mu42.taken h)).map (reach st)))[i]? = some (reach st (Mu42.taken h c)) := by
          rw [List.getElem?_map, List.getElem?_map, hc]
          rfl
        rw [take_snoc hx']
        refine Prs.snoc ?_ (Prs.put eD3 (tr.tk t3))
        rw [upd_ne (ne_of e3 eD3 (by intro z; cases z))]
        exact e3
    · rintro H' ⟨b', M', eL', rs, eD, tr⟩
      rw [vi_len, List.take_of_length_le (by rw [List.length_map, List.length_map]; exact Nat.le_refl _)] at tr
      exact fin H' D rs b' (e1.free nD) M' eD tr
theorem sc_wdb : FnScope ["self", "heap", "way"] ["self", "heap"] (defScope s_wdb) := ⟨rfl, rfl, rfl, by decide +kernel, rfl, by decide +kernel, by decide +kernel⟩
theorem ok_wdb {f : Addr} {fd : FuncData} {k n : Nat} (F : Fun K "with_day_before" "BestOrders.with_day_before" s_wdb f fd) (T0 : Txt K mg) (T : TxtB K mg B) (hk : 2 ≤ k) (C1 : MCallee P w K mg base B "ways" ["self", "heap"] k (spWays B n)) (C2 : Callee P w K mg base "best_way" ["ways"] 1 spWay)
    (C3 : Callee P w K mg base "open_faces" ["heap", "straw"] 2 (spNum2 K Mu42.faces)) : FnOk P w K mg base CX0 (k + 1) f fd ["self", "heap"] (spW B n) := by
  obtain ⟨f1, fd1, G1, m1, b1⟩ := C1.ex
  obtain ⟨f2, fd2, G2, m2, k2, b2⟩ := C2.ex
  obtain ⟨f3, fd3, G3, m3, k3, b3⟩ := C3.ex
  refine F.ok sc_wdb (fun vs H Q E h => ?_) (fun cdv A outer s H vs Q E hr h => ?_)
  · obtain ⟨q, f, hp, s, h, rfl, _⟩ := h
    rfl
  · obtain ⟨q, f, hp, st, h, rfl, M, eh, ho, hl, ht, fin⟩ := h
    have hu := hu_of hr
    have hr1 : Room 1 _ := hr.mono (Nat.le_trans (by decide) hk)
    have hr2 : Room 2 _ := hr.mono hk
    refine ⟨_, pss_cons (ps_if (pt_cmp (pc_dnotin hu (pv 1) (pe_fld (pv 0) rfl)))
        (pss_cons (ps_set (i := 2) sc_wdb.nd rfl (Or.inl rfl) (pe_call G2 hr1 (by rfl) m2 k2 b2 .nil pass0 (pa_cons (pe_meth (pv 0) T.cl m1 G1 hr b1 .nil pass0 (pa_cons (pv 1) pa_nil)) pa_nil)))
        (pss_one (ps_dput hu (pe_fld (pv 0) rfl) (pv 1) (pe_tup (pa_cons (pe_op op_add (pe_ix ix_tup (pv 2) pe_int (fun _ _ => rfl)) (pe_call G3 hr2 (by rfl) m3 k3 b3 .nil pass0 (pa_cons (pv 1) (pa_cons (pe_fld (pv 0) rfl) pa_nil))))
            (pa_cons (pe_ix ix_tup (pv 2) pe_int (fun _ _ => rfl)) pa_nil))) rfl))) pss_nil)
      (pss_one (ps_ret (pe_dget hu (pe_fld (pv 0) rfl) (pv 1) (fun _ _ => rfl)))), ?_⟩
    obtain ⟨dx, ts, kvs, hq, hts, hf, hF⟩ := id M
    have dg : DGet H f (.ref hp) (valV kvs (kz h)) := DGet.t hf (by rw [kz_vi]; exact eh)
    refine ⟨_, rfl, _, rfl, q, B, dx, _, _, rfl, hq, T.cl, T.nFound, fb_found, f, _, rfl, dg, ?_⟩
    cases e : valV kvs (kz h) with
    | some v =>
      obtain ⟨p, rfl, ep⟩ := hF.get e
      rw [e] at dg
      exact ⟨false, rfl, iteF ⟨_, rfl, q, B, dx, _, _, rfl, hq, T.cl, T.nFound, fb_found, _, rfl, f, _, rfl, dg, fin H p (But.refl _ _) M ep⟩⟩
    | none =>
      have sl := some_le hl
      refine ⟨true, rfl, iteT ⟨_, rfl, q, dx, _, rfl, hq, fb_no (by decide +kernel) (by decide +kernel), _, rfl, q, f, hp, st, h, rfl, M, eh, ho, hl, ht, fun H1 D rs c1 nD M1 eD tr => ?_⟩⟩
      refine ⟨D, rs, _, rfl, eD, tr, (by rw [List.length_map, List.length_map]; omega), fun H2 p2 e2 n2 ep2 => ?_⟩
      rw [← least_reach ho st] at ep2
      obtain ⟨dx2, ts2, kvs2, hq2, hts2, hf2, hF2⟩ := M1.same e2
      have eh2 : H2 hp = some (.tup (vi h)) := e2 _ _ (c1.tk hf _ _ eh)
      have szl : sizeLine = 16777216 := sizeLine_eq
      refine ⟨_, rfl, p2, _, 0, _, rfl, rfl, .inl (.inl ep2), rfl, _, rfl, _, rfl, q, B, dx2, _, _, rfl, hq2, T.cl, T.nStraw, fb_straw, hp, ts2, false, false, h, st, rfl, .inl (.inl eh2), .inl (.inl hts2), by omega, fun H3 e3 => ⟨_, _, rfl, rfl, ?_⟩⟩
      refine ⟨_, rfl, p2, _, 1, _, rfl, rfl, .inl (.inl (e3 _ _ ep2)), rfl, (by show 2 ≤ sizeLine; decide), fun p4 n4 => ?_⟩
      have s4 : Same H3 (upd H3 p4 (.tup [V.int (((Mu42.best h st).1 : Nat) + ((Mu42.faces h st : Nat) : Int)), V.int ((Mu42.best h st).2 : Nat)])) := same_new n4
      have e4 : (upd H3 p4 (.tup [V.int (((Mu42.best h st).1 : Nat) + ((Mu42.faces h st : Nat) : Int)), V.int ((Mu42.best h st).2 : Nat)])) p4 = some (.tup [V.int ((reach st h).1 : Nat), V.int ((reach st h).2 : Nat)]) := by
        rw [upd_same]
        rfl
      have s24 := e3.trans s4
      generalize upd H3 p4 _ = H4 at *
      have hF4 := hF2.tk (Same.tk s24)
      have hf4 := s24 _ _ hf2
      refine ⟨_, rfl, q, B, dx2, _, _, rfl, s24 _ _ hq2, T.cl, T.nFound, fb_found, _, rfl, f, _, rfl, DPut.t (k := kz h) hf4 (by rw [kz_vi]; exact s24 _ _ eh2) (by have := hF4.len; omega), ?_⟩
      have t5 : Tk H4 (upd H4 f (.dT (putK kvs2 (kz h) (.ref p4)))) := fun c' ys g => by rw [upd_ne (ne_of g hf4 (by intro z; cases z))]; exact g
      have hq5 : (upd H4 f (.dT (putK kvs2 (kz h) (.ref p4)))) q = some (.ins B dx2 (fb (.ref ts2) (.ref f))) := by
        rw [upd_ne (ne_of (s24 _ _ hq2) hf4 (by intro z; cases z))]
        exact s24 _ _ hq2
      have dg5 : DGet (upd H4 f (.dT (putK kvs2 (kz h) (.ref p4)))) f (.ref hp) (valV (putK kvs2 (kz h) (.ref p4)) (kz h)) := DGet.t upd_same (by rw [kz_vi]; exact t5 _ _ (s24 _ _ eh2))
      rw [valV_put, if_pos rfl] at dg5
      refine ⟨_, rfl, q, B, dx2, _, _, rfl, hq5, T.cl, T.nFound, fb_found, _, rfl, f, _, rfl, dg5, ?_⟩
      refine fin _ p4 (fun c u g n => ?_) ⟨dx2, ts2, _, hq5, t5 _ _ (s24 _ _ hts2), upd_same, (hF4.put ho hl e4).tk t5⟩ (t5 _ _ e4)
      rw [upd_ne (fun e => n (by rw [e]; simp))]
      exact s24 _ _ (e2 _ _ (c1 c u g n))
end
end Ice
namespace Ice
open PySem PySem.Spec PyProof.Rows L2
section
variable {P : Program} {w : World} {K : PySem.W.Frag} {mg : Str → Option Value} {base : Heap} {B : Addr}
/-- a method that stands -/
def MSt (K : PySem.W.Frag) (C : Addr) (x qual : Str) (st : Stmt) (ps : List Str) : Prop := ∃ f fd, Fun K x qual st f fd ∧ Meth K C x f ∧ L2.Binds K fd ps []
theorem mcallee {C : Addr} {x qual : Str} {st : Stmt} {ps : List Str} {k : Nat} {sp : Sp} (h : MSt K C x qual st ps) (ok : ∀ {f fd}, Fun K x qual st f fd → FnOk P w K mg base CX0 k f fd ps sp) : MCallee P w K mg base C x ps k sp := by
  obtain ⟨f, fd, F, m, b⟩ := h
  exact ⟨f, fd, ok F, m, b⟩
theorem wdb_all (S1 : MSt K B "with_day_before" "BestOrders.with_day_before" s_wdb ["self", "heap"]) (S2 : MSt K B "ways" "BestOrders.ways" s_ways ["self", "heap"]) (T0 : Txt K mg) (T : TxtB K mg B)
    (C1 : Callee P w K mg base "best_way" ["ways"] 1 spWay) (C2 : Callee P w K mg base "open_faces" ["heap", "straw"] 2 (spNum2 K Mu42.faces)) (C3 : Callee P w K mg base "heap_after" ["heap", "column"] 1 spAfter) (C4 : Callee P w K mg base "columns_with_blocks" ["heap"] 1 (spCols K)) :
    ∀ n, MCallee P w K mg base B "with_day_before" ["self", "heap"] (2 * n + 3) (spW B n)
  | 0 => by
    obtain ⟨f, fd, F, m, b⟩ := S1
    refine ⟨f, fd, ⟨fun vs H Q E h => ?_, fun A outer s H args us vs Q E hr he hb hv h => ?_⟩, m, b⟩
    · obtain ⟨q, f, hp, s, h, _, _, _, _, _, n, _⟩ := h
      exact absurd n (Nat.not_lt_zero _)
    · obtain ⟨q, f, hp, s, h, _, _, _, _, _, n, _⟩ := h
      exact absurd n (Nat.not_lt_zero _)
  | n + 1 => by
    have ih := wdb_all S1 S2 T0 T C1 C2 C3 C4 n
    have y := mcallee (P := P) (w := w) (base := base) (mg := mg) (k := 2 * n + 3 + 1) (sp := spWays B (n + 1)) S2 fun F => ok_ways F T (by omega) ih C3 C4
    have z := mcallee (P := P) (w := w) (base := base) (mg := mg) (k := 2 * n + 3 + 1 + 1) (sp := spW B (n + 1)) S1 fun F => ok_wdb F T0 T (by omega) y C1 C2
    exact z
theorem total_lt {h : List Nat} (o : Ok h) (l : h.length ≤ 5) : Mu42.total h < 16 := by
  rw [total_eq]
  have := le_sum (m := 3) o
  have : h.length * 3 ≤ 5 * 3 := Nat.mul_le_mul_right _ l
  omega
def spBest (B : Addr) : Sp := fun vs H Q _ => ∃ (q f hp : Addr) (s : List Bool) (h : List Nat), vs = [.ref q, .ref hp] ∧ MemoAt B H q f s ∧ H hp = some (.tup (vi h)) ∧ Ok h ∧ h.length ≤ 5 ∧
  ∀ (H' : Hp) (r : Addr), But [f] H H' → MemoAt B H' q f s → H' r = some (.tup [V.int ((Mu42.best h s).1 : Nat), V.int ((Mu42.best h s).2 : Nat)]) → Q (.ref r) H'
theorem sc_bbest : FnScope ["self", "heap", "way"] ["self", "heap"] (defScope s_bbest) := ⟨rfl, rfl, rfl, by decide +kernel, rfl, by decide +kernel, by decide +kernel⟩
theorem ok_bbest {f : Addr} {fd : FuncData} (F : Fun K "best" "BestOrders.best" s_bbest f fd) (T : TxtB K mg B) (C1 : MCallee P w K mg base B "with_day_before" ["self", "heap"] 35 (spW B 16)) (C2 : Callee P w K mg base "open_faces" ["heap", "straw"] 2 (spNum2 K Mu42.faces)) :
    FnOk P w K mg base CX0 36 f fd ["self", "heap"] (spBest B) := by
  obtain ⟨f1, fd1, G1, m1, b1⟩ := C1.ex
  obtain ⟨f2, fd2, G2, m2, k2, b2⟩ := C2.ex
  refine F.ok sc_bbest (fun vs H Q E h => ?_) (fun cdv A outer s H vs Q E hr h => ?_)
  · obtain ⟨q, f, hp, s, h, rfl, _⟩ := h
    rfl
  · obtain ⟨q, f, hp, st, h, rfl, M, eh, ho, hl, fin⟩ := h
    have hr2 : Room 2 _ := hr.mono (by decide)
    refine ⟨_, pss_cons (ps_set (i := 2) sc_bbest.nd rfl (Or.inl rfl) (pe_meth (pv 0) T.cl m1 G1 hr b1 .nil pass0 (pa_cons (pv 1) pa_nil)))
      (pss_one (ps_ret (pe_tup (pa_cons (pe_op op_sub (pe_ix ix_tup (pv 2) pe_int (fun _ _ => rfl)) (pe_call G2 hr2 (by rfl) m2 k2 b2 .nil pass0 (pa_cons (pv 1) (pa_cons (pe_fld (pv 0) rfl) pa_nil)))) (pa_cons (pe_ix ix_tup (pv 2) pe_int (fun _ _ => rfl)) pa_nil))))), ?_⟩
    obtain ⟨dx, ts, kvs, hq, hts, hf, hF⟩ := id M
    refine ⟨_, rfl, q, dx, _, rfl, hq, fb_no (by decide +kernel) (by decide +kernel), _, rfl, q, f, hp, st, h, rfl, M, eh, ho, hl, total_lt ho hl, fun H1 r c1 M1 er => ?_⟩
    obtain ⟨dx1, ts1, kvs1, hq1, hts1, hf1, hF1⟩ := id M1
    have eh1 := c1.tk hf _ _ eh
    refine ⟨_, rfl, r, _, 0, _, rfl, rfl, .inl (.inl er), rfl, _, rfl, _, rfl, q, B, dx1, _, _, rfl, hq1, T.cl, T.nStraw, fb_straw, hp, ts1, false, false, h, st, rfl, .inl (.inl eh1), .inl (.inl hts1), by omega, fun H3 e3 => ⟨_, _, rfl, rfl, ?_⟩⟩
    refine ⟨_, rfl, r, _, 1, _, rfl, rfl, .inl (.inl (e3 _ _ er)), rfl, (by show 2 ≤ sizeLine; decide), fun p4 n4 => ?_⟩
    have er4 : (((reach st h).1 : Nat) : Int) - ((Mu42.faces h st : Nat) : Int) = ((Mu42.best h st).1 : Nat) := by
      show (((Mu42.best h st).1 + Mu42.faces h st : Nat) : Int) - _ = _
      omega
    have er5 : (fun (i j : Int) => V.int (i - j)) ((reach st h).1 : Nat) ((Mu42.faces h st : Nat) : Int) = V.int ((Mu42.best h st).1 : Nat) := congrArg V.int er4
    rw [er5]
    have s4 := e3.trans (same_new (o := .tup [V.int ((Mu42.best h st).1 : Nat), V.int ((reach st h).2 : Nat)]) n4)
    exact fin _ p4 (c1.trans (same_but s4)) (M1.same s4) upd_same
theorem some_sorted (h : List Nat) : (Mu42.some_ h).Pairwise (· < ·) := by
  unfold Mu42.some_
  exact List.Pairwise.filter _ List.pairwise_lt_range
def waters (s : List Bool) (h : List Nat) : List Nat := (Mu42.some_ h).map fun i => (reach s (Mu42.taken h i)).1
theorem waters_at {s : List Bool} {h : List Nat} {j i : Nat} (e : (Mu42.some_ h)[j]? = some i) : (waters s h)[j]? = some (cost s h i) := by
  unfold waters
  rw [List.getElem?_map, e]
  show some ((Mu42.best (Mu42.taken h i) s).1 + Mu42.faces (Mu42.taken h i) s) = some (Mu42.faces (Mu42.taken h i) s + (Mu42.best (Mu42.taken h i) s).1)
  rw [Nat.add_comm]
/-- the first place of the least is the column with which the order begins -/
theorem first_is {s : List Bool} {h : List Nat} (o : Ok h) (n : Mu42.total h ≠ 0) {m j i : Nat} (hm : m ∈ waters s h) (hle : ∀ w ∈ waters s h, m ≤ w) (hj : (waters s h)[j]? = some m) (hb : ∀ k w, k < j → (waters s h)[k]? = some w → w ≠ m)
    (hi : (Mu42.some_ h)[j]? = some i) : i ∈ Mu42.some_ h ∧ Mu42.order h s = i :: Mu42.order (Mu42.taken h i) s := by
  have mi := List.mem_of_getElem? hi
  obtain ⟨i0, h1, h2, h3, h4⟩ := order_cons o s n
  obtain ⟨j0, hj0, rfl⟩ := List.mem_iff_getElem.mp h1
  have e0 : (Mu42.some_ h)[j0]? = some (Mu42.some_ h)[j0] := List.getElem?_eq_getElem hj0
  have w0 := waters_at (s := s) e0
  have wi := waters_at (s := s) hi
  have ci : cost s h i = m := Option.some.inj (wi.symm.trans hj)
  have ne : Mu42.some_ h ≠ [] := fun q => by rw [q] at mi; cases mi
  have low := (best_min o s ne).2 i mi
  have up := hle _ (List.mem_of_getElem? w0)
  have em : (Mu42.best h s).1 = m := by omega
  obtain ⟨hjl, ei⟩ := List.getElem?_eq_some_iff.mp hi
  rcases Nat.lt_trichotomy j0 j with c | c | c
  · exact absurd (by omega) (hb j0 _ c w0)
  · subst c
    rw [← ei]
    exact ⟨h1, h4⟩
  · have lt := List.pairwise_iff_getElem.mp (some_sorted h) j j0 hjl hj0 c
    rw [ei] at lt
    exact absurd (by omega) (h3 i mi lt)
def spFirstCol (B : Addr) : Sp := fun vs H Q _ => ∃ (q f hp : Addr) (s : List Bool) (h : List Nat), vs = [.ref q, .ref hp] ∧ MemoAt B H q f s ∧ H hp = some (.tup (vi h)) ∧ Ok h ∧ h.length ≤ 5 ∧ Mu42.total h ≠ 0 ∧
  ∀ (H' : Hp) (i : Nat), But [f] H H' → MemoAt B H' q f s → i ∈ Mu42.some_ h → Mu42.order h s = i :: Mu42.order (Mu42.taken h i) s → Q (.int (i : Nat)) H'
theorem sc_first_col : FnScope ["self", "heap", "waters", "way"] ["self", "heap"] (defScope s_first_col) := ⟨rfl, rfl, rfl, by decide +kernel, rfl, by decide +kernel, by decide +kernel⟩
theorem ok_first_col {f : Addr} {fd : FuncData} (F : Fun K "first_column" "BestOrders.first_column" s_first_col f fd) (T0 : Txt K mg) (T : TxtB K mg B) (C1 : MCallee P w K mg base B "ways" ["self", "heap"] 34 (spWays B 16)) (C3 : Callee P w K mg base "columns_with_blocks" ["heap"] 1 (spCols K)) :
    FnOk P w K mg base CX0 35 f fd ["self", "heap"] (spFirstCol B) := by
  obtain ⟨f1, fd1, G1, m1, b1⟩ := C1.ex
  obtain ⟨f3, fd3, G3, m3, k3, b3⟩ := C3.ex
  refine F.ok sc_first_col (fun vs H Q E h => ?_) (fun cdv A outer s H vs Q E hr h => ?_)
  · obtain ⟨q, f, hp, s, h, rfl, _⟩ := h
    rfl
  · obtain ⟨q, f, hp, st, h, rfl, M, eh, ho, hl, ht, fin⟩ := h
    have hr1 : Room 1 _ := hr.mono (by decide)
    refine ⟨_, pss_cons (ps_setLc (i := 2) (own := [("way", 3)]) (g := gName 3) (tt := tYes) rfl sc_first_col.nd rfl rfl (sw_true rfl rfl rfl (by decide +kernel)) (pi_list (pe_meth (pv 0) T.cl m1 G1 hr b1 .nil pass0 (pa_cons (pv 1) pa_nil)))
        (blkOk_by (own := [("way", 3)]) (N := ["self", "heap", "waters", "way"]) (sc := defScope s_first_col) (by decide +kernel))
        (fun _ _ _ _ _ => pg_name (i := 3) sc_first_col.nd rfl (Or.inl rfl)) (fun _ _ _ _ _ => pts_nil) (fun _ _ _ _ _ => pe_ix (show IxR _ (rIxT K) from ix_tup) (pv 3) pe_int (fun _ _ => rfl)))
      (pss_one (ps_ret (pe_ix ix_list (pe_call G3 hr1 (by rfl) m3 k3 b3 .nil pass0 (pa_cons (pv 1) pa_nil))
        (pe_bm PySem.F.plainAttrs_list PySem.F.slot_list_index PySem.F.type_list_index mt_index (pv 2) (pa_cons (pe_callB (cr_min rfl) (by rfl) T0.min (by decide +kernel) (pa_cons (pv 2) pa_nil)) pa_nil)) (fun _ _ => rfl)))), ?_⟩
    obtain ⟨dx, ts, kvs, hq, hts, hf, hF⟩ := id M
    refine ⟨_, rfl, q, dx, _, rfl, hq, fb_no (by decide +kernel) (by decide +kernel), _, rfl, q, f, hp, st, h, rfl, M, eh, ho, hl, total_lt ho hl, fun H1 L rs c1 nL M1 eL tr => ?_⟩
    have sl := some_le hl
    refine ⟨L, rfl, ⟨_, .inl (.inl eL)⟩, fun D nD => lc_list (K := K) (a := L) (xs := refs rs) (fun i H' => Same H1 H' ∧ H' D = some (.lst (vi ((waters st h).take i)))) ?_ ?_ ?_ ?_⟩
    · exact ⟨same_new nD, upd_same⟩
    · rintro i H' _ ⟨e, _⟩
      exact .inl (.inl (e _ _ eL))
    · rintro i x H' hx ⟨e, eD⟩
      obtain ⟨p, hp', rfl⟩ := refs_at hx
      obtain ⟨y, hy, ey⟩ := (tr.same e).get hp'
      have il := (List.getElem?_eq_some_iff.mp hy).1
      rw [List.length_map, List.length_map] at il
      refine ⟨rfl, _, rfl, p, _, 0, V.int y.1, rfl, rfl, .inl (.inl ey), rfl, _, eD, ?_, same_put e nD, ?_⟩
      · rw [vi_len, List.length_take]
        exact small1000 (by omega)
      · have hw : (waters st h)[i]? = some y.1 := by
          rw [List.getElem?_map, List.getElem?_map] at hy
          unfold waters
          rw [List.getElem?_map]
          cases e : (Mu42.some_ h)[i]? with
          | none => rw [e] at hy; cases hy
          | some c =>
            rw [e] at hy
            have : reach st (Mu42.taken h c) = y := Option.some.inj hy
            rw [← this]
            rfl
        rw [upd_same, take_snoc hw]
        unfold vi
        rw [List.map_append]
        rfl
    · rintro H2 ⟨e2, eD⟩
      have wl : (waters st h).length = (Mu42.some_ h).length := by simp [waters]
      rw [refs_len, tr.len, List.length_map, List.length_map, ← wl, List.take_length] at eD
      have eh2 := e2 _ _ (c1.tk hf _ _ eh)
      have ne : Mu42.some_ h ≠ [] := fun q => ht (some_nil.mp q)
      have wpos : 0 < (waters st h).length := by
        rw [wl]
        exact List.length_pos_iff.mpr ne
      refine ⟨_, rfl, hp, false, h, rfl, .inl (.inl eh2), hl, fun H3 L3 e3 nL3 eL3 => ?_⟩
      have eD3 := e3 _ _ eD
      have eD3' := eD3
      rw [vi_ints] at eD3'
      refine ⟨_, rfl, .inl ⟨rfl, _, .inl (.inl eD3)⟩, _, rfl, D, _, rfl, .inl (.inl eD3'), (by rw [List.length_map]; exact wpos), fun m hm hle => ?_⟩
      obtain ⟨m, hm', rfl⟩ := List.mem_map.mp hm
      obtain ⟨j, hj, hb⟩ := first_place hm'
      have hle' : ∀ w ∈ waters st h, m ≤ w := fun w hw => by
        have := hle (w : Int) (List.mem_map.mpr ⟨w, hw, rfl⟩)
        omega
      have jl : j < (Mu42.some_ h).length := by
        have := (List.getElem?_eq_some_iff.mp hj).1
        omega
      have hi : (Mu42.some_ h)[j]? = some (Mu42.some_ h)[j] := List.getElem?_eq_getElem jl
      generalize (Mu42.some_ h)[j] = i at hi
      obtain ⟨q1, q2⟩ := first_is ho ht hm' hle' hj hb hi
      refine ⟨D, _, V.int (m : Int), j, V.int (m : Int), rfl, rfl, .inl (.inl eD3), rfl, vi_flat _, vi_get hj, (by rw [eqV_nat]; exact decide_eq_true rfl), fun k z hk hz => ?_, ?_⟩
      · obtain ⟨w, hw, rfl⟩ := vi_at hz
        rw [eqV_nat]
        exact decide_eq_false (hb k w hk hw)
      exact ⟨L3, _, _, _, rfl, rfl, .inl (.inl eL3), atI_nat (vi_get hi), fin H3 i ((c1.trans (same_but e2)).trans (same_but e3)) ((M1.same e2).same e3) q1 q2⟩
def spFirst (B : Addr) : Sp := fun vs H Q _ => ∃ (q f hp : Addr) (s : List Bool) (h : List Nat), vs = [.ref q, .ref hp] ∧ MemoAt B H q f s ∧ H hp = some (.tup (vi h)) ∧ Ok h ∧ h.length ≤ 5 ∧
  ∀ (H' : Hp) (D : Addr), But [f] H H' → H D = none → MemoAt B H' q f s → H' D = some (.lst (vi (Mu42.order h s))) → Q (.ref D) H'
theorem sc_first : FnScope ["self", "heap", "order", "column"] ["self", "heap"] (defScope s_first) := ⟨rfl, rfl, rfl, by decide +kernel, rfl, by decide +kernel, by decide +kernel⟩
theorem ok_first {f : Addr} {fd : FuncData} (F : Fun K "first" "BestOrders.first" s_first f fd) (T0 : Txt K mg) (T : TxtB K mg B) (C1 : MCallee P w K mg base B "first_column" ["self", "heap"] 35 (spFirstCol B)) (C3 : Callee P w K mg base "heap_after" ["heap", "column"] 1 spAfter) :
    FnOk P w K mg base CX0 36 f fd ["self", "heap"] (spFirst B) := by
  obtain ⟨f1, fd1, G1, m1, b1⟩ := C1.ex
  obtain ⟨f3, fd3, G3, m3, k3, b3⟩ := C3.ex
  refine F.ok sc_first (fun vs H Q E h => ?_) (fun cdv A outer s H vs Q E hr h => ?_)
  · obtain ⟨q, f, hp, s, h, rfl, _⟩ := h
    rfl
  · obtain ⟨q, f, hp, st, h, rfl, M, eh, ho, hl, fin⟩ := h
    have hr1 : Room 1 _ := hr.mono (by decide)
    refine ⟨_, pss_cons (ps_set (i := 2) sc_first.nd rfl (Or.inl rfl) (pe_lst pa_nil))
      (pss_cons (ps_while PassesOwn.never (pt_cmpR op_gt (pe_callB (cr_sumK rfl) (by rfl) T0.sum (by decide +kernel) (pa_cons (pv 1) pa_nil)) pe_int (nomark _))
        (pss_cons (ps_set (i := 3) sc_first.nd rfl (Or.inl rfl) (pe_meth (pv 0) T.cl m1 G1 hr b1 .nil pass0 (pa_cons (pv 1) pa_nil)))
        (pss_cons (ps_expr (pe_bm PySem.F.plainAttrs_list PySem.F.slot_list_append PySem.F.type_list_append mt_append (pv 2) (pa_cons (pv 3) pa_nil)))
        (pss_one (ps_set (i := 1) sc_first.nd rfl (Or.inl rfl) (pe_call G3 hr1 (by rfl) m3 k3 b3 .nil pass0 (pa_cons (pv 1) (pa_cons (pv 3) pa_nil))))))))
      (pss_one (ps_ret (pv 2)))), ?_⟩
    refine ⟨(by show 0 ≤ sizeLine; decide), fun D nD => ?_⟩
    have nDf := M.f_ne nD
    let I : List Nat → L2.St → Hp → Prop := fun g σ H' => ∃ hg v3 dn, σ = [some (.ref q), some (.ref hg), some (.ref D), v3] ∧ H' hg = some (.tup (vi g)) ∧ Ok g ∧ g.length ≤ 5 ∧ dn ++ Mu42.order g st = Mu42.order h st ∧ But [f] H H' ∧ MemoAt B H' q f st ∧ H' D = some (.lst (vi dn))
    refine ⟨fun n σ H' => ∃ g, Mu42.total g = n ∧ I g σ H', ⟨_, h, rfl, hp, none, [], rfl, same_new nD _ _ eh, ho, hl, rfl, same_but (same_new nD), M.same (same_new nD), upd_same⟩, ?_⟩
    rintro n σ H1 ⟨g, rfl, hg, v3, dn, rfl, eg, og, gl, ed, c1, M1, eD⟩
    have eg' := eg
    rw [vi_ints] at eg'
    refine ⟨_, rfl, hg, false, _, rfl, .inl (.inl eg'), _, _, rfl, rfl, _, rfl, ?_⟩
    rw [sum_ints]
    refine ite2 (fun c => ?_) (fun c => ?_)
    · have nz : Mu42.total g ≠ 0 := by
        have := of_decide_eq_true c
        omega
      obtain ⟨dx, ts, kvs, hq, hts, hf, hF⟩ := id M1
      obtain ⟨i0, mi0, _, _, oc⟩ := order_cons og st nz
      refine ⟨I (Mu42.taken g i0), fun σ' H' q => ⟨_, (by have := total_taken (some_mem.mp mi0).2; omega), _, rfl, q⟩, ?_⟩
      refine ⟨_, rfl, q, dx, _, rfl, hq, fb_no (by decide +kernel) (by decide +kernel), _, rfl, q, f, hg, st, g, rfl, M1, eg, og, gl, nz, fun H2 i c2 M2 mi oi => ?_⟩
      obtain rfl : i = i0 := by
        rw [oi, List.cons.injEq] at oc
        exact oc.1
      have eD2 := c2.at eD nDf
      have ol := order_len (s := st) _ ho rfl
      have tl := total_lt ho hl
      refine ⟨_, rfl, .inl ⟨rfl, _, .inl (.inl eD2)⟩, _, rfl, D, _, _, rfl, rfl, eD2, ?_, ?_⟩
      · rw [← ed, List.length_append] at ol
        rw [vi_len]
        exact small1000 (by omega)
      have ev : vi dn ++ [V.int (i : Nat)] = vi (dn ++ [i]) := by
        unfold vi
        rw [List.map_append]
        rfl
      rw [ev]
      have eg2 := c2.tk hf _ _ eg
      have eg3 : (upd H2 D (.lst (vi (dn ++ [i])))) hg = some (.tup (vi g)) := by
        rw [upd_ne (ne_of eg2 eD2 (by intro z; cases z))]
        exact eg2
      refine ⟨_, rfl, _, rfl, hg, g, i, rfl, eg3, gl, mi, fun H4 p4 e4 ep4 => ?_⟩
      refine ⟨p4, _, dn ++ [i], rfl, ep4, og.taken i, by rw [taken_length]; exact gl, ?_, ?_, (MemoAt.put eD2 M2).same e4, e4 _ _ upd_same⟩
      · rw [← ed, oi, List.append_assoc]
        rfl
      · exact (But.put (c1.trans c2) nD).trans (same_but e4)
    · have z : Mu42.total g = 0 := by
        have : ¬ ((0 : Int) < ((Mu42.total g : Nat) : Int)) := fun q => c (decide_eq_true q)
        omega
      rw [order_nil st z, List.append_nil] at ed
      rw [ed] at eD
      exact ⟨_, rfl, fin H1 D c1 nD M1 eD⟩
end
end Ice
namespace Ice
open PySem PySem.Spec PyProof.Rows L2
abbrev inH (j : Nat) : Stmt := inClass (topS 18) j
abbrev s_init : Stmt := inH 0
abbrev s_stands : Stmt := inH 1
abbrev s_begin : Stmt := inH 2
abbrev s_has_column : Stmt := inH 3
abbrev s_bring : Stmt := inH 4
abbrev s_set_straw : Stmt := inH 5
abbrev s_take : Stmt := inH 6
abbrev s_faces : Stmt := inH 7
abbrev s_orders_with : Stmt := inH 8
abbrev s_orders : Stmt := inH 9
abbrev s_best : Stmt := inH 10
abbrev s_first_order : Stmt := inH 11
abbrev s_order : Stmt := inH 12
abbrev s_water : Stmt := inH 13
abbrev s_lay : Stmt := inH 14
abbrev s_stack : Stmt := inH 15
abbrev s_follow : Stmt := inH 16
abbrev s_look : Stmt := inH 17
/-! ### the fields of the house -/
def fl (a b : V) (d br m : Int) (o : V) : List (Str × V) := [("heap", a), ("straw", b), ("day", .int d), ("brought", .int br), ("melted", .int m), ("orders_by_straw", o)]
section
variable {a b o : V} {d br m : Int}
theorem fl_heap : (fl a b d br m o).lookup ("heap" : Str) = some (a) := at0
theorem fl_straw : (fl a b d br m o).lookup ("straw" : Str) = some (b) := (atS (by decide +kernel)).trans at0
theorem fl_day : (fl a b d br m o).lookup ("day" : Str) = some (.int d) := ((atS (by decide +kernel)).trans (atS (by decide +kernel))).trans at0
theorem fl_brought : (fl a b d br m o).lookup ("brought" : Str) = some (.int br) := (((atS (by decide +kernel)).trans (atS (by decide +kernel))).trans (atS (by decide +kernel))).trans at0
theorem fl_melted : (fl a b d br m o).lookup ("melted" : Str) = some (.int m) := ((((atS (by decide +kernel)).trans (atS (by decide +kernel))).trans (atS (by decide +kernel))).trans (atS (by decide +kernel))).trans at0
theorem fl_memo : (fl a b d br m o).lookup ("orders_by_straw" : Str) = some (o) := (((((atS (by decide +kernel)).trans (atS (by decide +kernel))).trans (atS (by decide +kernel))).trans (atS (by decide +kernel))).trans (atS (by decide +kernel))).trans at0
theorem fl_no {k : Str} (h1 : (k == ("heap" : Str)) = false) (h2 : (k == ("straw" : Str)) = false) (h3 : (k == ("day" : Str)) = false) (h4 : (k == ("brought" : Str)) = false) (h5 : (k == ("melted" : Str)) = false) (h6 : (k == ("orders_by_straw" : Str)) = false) : (fl a b d br m o).lookup k = none := (atS h1).trans ((atS h2).trans ((atS h3).trans ((atS h4).trans ((atS h5).trans ((atS h6).trans (rfl))))))
theorem fp_heap (x : V) : putF "heap" (x) (fl a b d br m o) = fl x b d br m o := put0
theorem fp_straw (x : V) : putF "straw" (x) (fl a b d br m o) = fl a x d br m o := (putS (by decide +kernel)).trans (congrArg _ (put0))
theorem fp_day (x : Int) : putF "day" (.int x) (fl a b d br m o) = fl a b x br m o := (putS (by decide +kernel)).trans (congrArg _ ((putS (by decide +kernel)).trans (congrArg _ (put0))))
theorem fp_brought (x : Int) : putF "brought" (.int x) (fl a b d br m o) = fl a b d x m o := (putS (by decide +kernel)).trans (congrArg _ ((putS (by decide +kernel)).trans (congrArg _ ((putS (by decide +kernel)).trans (congrArg _ (put0))))))
theorem fp_melted (x : Int) : putF "melted" (.int x) (fl a b d br m o) = fl a b d br x o := (putS (by decide +kernel)).trans (congrArg _ ((putS (by decide +kernel)).trans (congrArg _ ((putS (by decide +kernel)).trans (congrArg _ ((putS (by decide +kernel)).trans (congrArg _ (put0))))))))
theorem fp_memo (x : V) : putF "orders_by_straw" (x) (fl a b d br m o) = fl a b d br m x := (putS (by decide +kernel)).trans (congrArg _ ((putS (by decide +kernel)).trans (congrArg _ ((putS (by decide +kernel)).trans (congrArg _ ((putS (by decide +kernel)).trans (congrArg _ ((putS (by decide +kernel)).trans (congrArg _ (put0))))))))))
theorem fl_new : (putF "orders_by_straw" (o) (putF "melted" (.int m) (putF "brought" (.int br) (putF "day" (.int d) (putF "straw" (b) (putF "heap" (a) [])))))) = fl a b d br m o := by
  have e1 : putF "heap" (a) [] = ([(("heap" : Str), a)] : List (Str × V)) := rfl
  have e2 : putF "straw" (b) ([(("heap" : Str), a)] : List (Str × V)) = ([(("heap" : Str), a), (("straw" : Str), b)] : List (Str × V)) := (putS (by decide +kernel)).trans rfl
  have e3 : putF "day" (.int d) ([(("heap" : Str), a), (("straw" : Str), b)] : List (Str × V)) = ([(("heap" : Str), a), (("straw" : Str), b), (("day" : Str), .int d)] : List (Str × V)) := (putS (by decide +kernel)).trans (congrArg _ ((putS (by decide +kernel)).trans rfl))
  have e4 : putF "brought" (.int br) ([(("heap" : Str), a), (("straw" : Str), b), (("day" : Str), .int d)] : List (Str × V)) = ([(("heap" : Str), a), (("straw" : Str), b), (("day" : Str), .int d), (("brought" : Str), .int br)] : List (Str × V)) := (putS (by decide +kernel)).trans (congrArg _ ((putS (by decide +kernel)).trans (congrArg _ ((putS (by decide +kernel)).trans rfl))))
  have e5 : putF "melted" (.int m) ([(("heap" : Str), a), (("straw" : Str), b), (("day" : Str), .int d), (("brought" : Str), .int br)] : List (Str × V)) = ([(("heap" : Str), a), (("straw" : Str), b), (("day" : Str), .int d), (("brought" : Str), .int br), (("melted" : Str), .int m)] : List (Str × V)) := (putS (by decide +kernel)).trans (congrArg _ ((putS (by decide +kernel)).trans (congrArg _ ((putS (by decide +kernel)).trans (congrArg _ ((putS (by decide +kernel)).trans rfl))))))
  have e6 : putF "orders_by_straw" (o) ([(("heap" : Str), a), (("straw" : Str), b), (("day" : Str), .int d), (("brought" : Str), .int br), (("melted" : Str), .int m)] : List (Str × V)) = fl a b d br m o := (putS (by decide +kernel)).trans (congrArg _ ((putS (by decide +kernel)).trans (congrArg _ ((putS (by decide +kernel)).trans (congrArg _ ((putS (by decide +kernel)).trans (congrArg _ ((putS (by decide +kernel)).trans rfl))))))))
  rw [e1, e2, e3, e4, e5, e6]
end
/-! ### the house -/
structure WF (s : Mu42.State) : Prop where
  len : s.heap.length = s.straw.length
  one : 1 ≤ s.heap.length
  five : s.heap.length ≤ 5
  ok : Ok s.heap
  gone : s.gone = s.day
/-- a straw, its memo, the memo's dict -/
abbrev Ent := List Bool × Addr × Addr
def fs (m : List Ent) : List Addr := m.map fun e => e.2.2
structure Memos (Bo : Addr) (H : Hp) (D : Addr) (m : List Ent) : Prop where
  dict : H D = some (.dT (m.map fun e => (kz (mk e.1), V.ref e.2.1)))
  each : ∀ e ∈ m, MemoAt Bo H e.2.1 e.2.2 e.1 ∧ e.1.length ≤ 5
  keys : (m.map fun e => e.1).Nodup
  apart : (D :: fs m).Nodup
/-- the house that stands, at p; l: what of it may change -/
def HouseS (C Bo : Addr) (H : Hp) (p : Addr) (l : List Addr) (m : List Ent) (s : Mu42.State) : Prop :=
  WF s ∧ ∃ a b D dx, l = a :: b :: D :: fs m ∧ a ≠ b ∧ Memos Bo H D m ∧ H p = some (.ins C dx (fl (.ref a) (.ref b) s.day s.brought s.melted (.ref D))) ∧ H a = some (.lst (vi s.heap)) ∧ H b = some (.lst (vi (mk s.straw)))
def HouseAt (C Bo : Addr) (H : Hp) (p : Addr) (l : List Addr) : Mu42.Abs → Prop
  | none => ∃ m D dx, l = D :: fs m ∧ Memos Bo H D m ∧ H p = some (.ins C dx (fl .non .non 0 0 0 (.ref D)))
  | some s => ∃ m, HouseS C Bo H p l m s
/-- nothing goes -/
def Live (H H' : Hp) : Prop := ∀ x, H x ≠ none → H' x ≠ none
theorem Live.back {H H' : Hp} (h : Live H H') {x : Addr} (n : H' x = none) : H x = none := by
  cases e : H x with
  | none => rfl
  | some u => exact absurd n (h x (by rw [e]; exact fun q => nomatch q))
theorem live_same {H H' : Hp} (e : Same H H') : Live H H' := fun x n m => n (e.free m)
/-- a call's answer: a new list; the house as it is then -/
def Says (C Bo : Addr) (H : Hp) (p : Addr) (l : List Addr) (r : Mu42.Abs × List Int) (Q : VK) : Prop :=
  ∀ (H' : Hp) (q : Addr) (l' : List Addr), HouseAt C Bo H' p l' r.1 → But (p :: l) H H' → (∀ x ∈ l', x ∈ l ∨ H x = none) → Live H H' → H q = none → q ∉ l' → H' q = some (.lst (r.2.map V.int)) → Q (.ref q) H'
structure TxtH (K : PySem.W.Frag) (mg : Str → Option Value) (C : Addr) : Prop where
  cl : Cls K C
  nHeap : NoAttr K C "heap"
  nStraw : NoAttr K C "straw"
  nDay : NoAttr K C "day"
  nBrought : NoAttr K C "brought"
  nMelted : NoAttr K C "melted"
  nMemo : NoAttr K C "orders_by_straw"
  mgC : mg "House" = some (.ref C)
  notA : ∃ t, mg "NOT_ALLOWED" = some (.int (-1) t)
  noC : ∃ t, mg "NO_COLUMN" = some (.int (-2) t)
  noB : ∃ t, mg "NO_BLOCK" = some (.int (-6) t)
  noR : ∃ t, mg "NO_ROOM" = some (.int (-6) t)
/-- all but lists and the house itself is as it was -/
def Kp (C : Addr) (H H2 : Hp) : Prop := ∀ c u, H c = some u → (∀ xs, u ≠ .lst xs) → (∀ dx x y d br m o, u ≠ .ins C dx (fl x y d br m o)) → H2 c = some u
theorem Kp.of_same {C : Addr} {H H2 : Hp} (e : Same H H2) : Kp C H H2 := fun c u h _ _ => e c u h
theorem fb_fl {a b x y o : V} {d br m : Int} : fb a b ≠ fl x y d br m o := fun q => by
  have := congrArg List.length q
  cases this
theorem Memos.keep {C Bo : Addr} {H H2 : Hp} {D : Addr} {m : List Ent} (k : Kp C H H2) (h : Memos Bo H D m) : Memos Bo H2 D m := by
  refine ⟨k _ _ h.dict (fun _ q => by cases q) (fun _ _ _ _ _ _ _ q => by cases q), fun e he => ?_, h.keys, h.apart⟩
  obtain ⟨⟨dx, ts, kvs, a, b, c, d⟩, l⟩ := h.each e he
  have t : Tk H H2 := fun c xs q => k _ _ q (fun _ q => by cases q) (fun _ _ _ _ _ _ _ q => by cases q)
  refine ⟨⟨dx, ts, kvs, k _ _ a (fun _ q => by cases q) (fun _ _ _ _ _ _ _ q => ?_), t _ _ b, k _ _ c (fun _ q => by cases q) (fun _ _ _ _ _ _ _ q => by cases q), d.tk t⟩, l⟩
  injection q with _ _ q
  exact fb_fl q
theorem kp_but {C : Addr} {H H2 : Hp} {p a b dx : Addr} {x y o : V} {d br m : Int} {xs ys : List V} (hp : H p = some (.ins C dx (fl x y d br m o))) (ha : H a = some (.lst xs)) (hb : H b = some (.lst ys)) (e : But [p, a, b] H H2) : Kp C H H2 := fun c u h n1 n2 => e c u h fun q => by
  rcases List.mem_cons.mp q with r | q
  · rw [r, hp] at h
    exact n2 _ _ _ _ _ _ _ (Option.some.inj h).symm
  · rcases List.mem_cons.mp q with r | q
    · rw [r, ha] at h
      exact n1 _ (Option.some.inj h).symm
    · rw [List.mem_singleton.mp q, hb] at h
      exact n1 _ (Option.some.inj h).symm
/-- what the dicts of the memos are -/
theorem Memos.dicts {Bo : Addr} {H : Hp} {D : Addr} {m : List Ent} (h : Memos Bo H D m) : ∀ x ∈ D :: fs m, ∃ kvs, H x = some (.dT kvs) := by
  intro x hx
  rcases List.mem_cons.mp hx with r | hx
  · rw [r]; exact ⟨_, h.dict⟩
  · unfold fs at hx
    obtain ⟨e, he, rfl⟩ := List.mem_map.mp hx
    obtain ⟨⟨_, _, kvs, _, _, c, _⟩, _⟩ := h.each e he
    exact ⟨kvs, c⟩
section
variable {P : Program} {w : World} {K : PySem.W.Frag} {mg : Str → Option Value} {base : Heap} {C Bo : Addr}
theorem house_ins {H : Hp} {p : Addr} {l : List Addr} : ∀ {o : Mu42.Abs}, HouseAt C Bo H p l o → ∃ m D dx x y d br mm, H p = some (.ins C dx (fl x y d br mm (.ref D))) ∧ Memos Bo H D m ∧ ∀ z ∈ D :: fs m, z ∈ l
  | none, ⟨m, D, dx, el, hM, hp⟩ => ⟨m, D, dx, _, _, _, _, _, hp, hM, fun z hz => by rw [el]; exact hz⟩
  | some _, ⟨m, _, a, b, D, dx, el, _, hM, hp, _⟩ => ⟨m, D, dx, _, _, _, _, _, hp, hM, fun z hz => by rw [el]; exact List.mem_cons_of_mem _ (List.mem_cons_of_mem _ hz)⟩
theorem houseS_same {H H' : Hp} {p : Addr} {l : List Addr} {m : List Ent} {s : Mu42.State} (e : Same H H') : HouseS C Bo H p l m s → HouseS C Bo H' p l m s
  | ⟨wf, a, b, D, dx, el, nab, hM, hp, ha, hb⟩ => ⟨wf, a, b, D, dx, el, nab, hM.keep (C := C) (.of_same e), e _ _ hp, e _ _ ha, e _ _ hb⟩
theorem house_same {H H' : Hp} {p : Addr} {l : List Addr} (e : Same H H') : ∀ {o : Mu42.Abs}, HouseAt C Bo H p l o → HouseAt C Bo H' p l o
  | none, ⟨m, D, dx, el, hM, hp⟩ => ⟨m, D, dx, el, hM.keep (C := C) (.of_same e), e _ _ hp⟩
  | some _, ⟨m, h⟩ => ⟨m, houseS_same e h⟩
theorem house_put {H : Hp} {p D : Addr} {l : List Addr} {u : HO} {xs : List V} (eD : H D = some (.lst xs)) (n : D ∉ p :: l) : ∀ {o : Mu42.Abs}, HouseAt C Bo H p l o → HouseAt C Bo (upd H D u) p l o := by
  have k : Kp C H (upd H D u) := fun c v h n1 _ => by
    rw [upd_ne (fun q => n1 xs (by rw [q, eD] at h; exact (Option.some.inj h).symm))]
    exact h
  have g : ∀ c v, H c = some v → c ∈ p :: l → upd H D u c = some v := fun c v h m => by
    rw [upd_ne (fun q => n (by rw [← q]; exact m))]
    exact h
  intro o
  cases o with
  | none =>
    rintro ⟨m, E, dx, el, hM, hp⟩
    exact ⟨m, E, dx, el, hM.keep k, g _ _ hp (by simp)⟩
  | some s =>
    rintro ⟨m, wf, a, b, E, dx, el, nab, hM, hp, ha, hb⟩
    exact ⟨m, wf, a, b, E, dx, el, nab, hM.keep k, g _ _ hp (by simp), g _ _ ha (by rw [el]; simp), g _ _ hb (by rw [el]; simp)⟩
theorem houseS_there {H : Hp} {p : Addr} {l : List Addr} {m : List Ent} {s : Mu42.State} : HouseS C Bo H p l m s → ∀ x ∈ p :: l, H x ≠ none ∧ ∀ xs, H x ≠ some (.tup xs)
  | ⟨wf, a, b, D, dx, el, nab, hM, hp, ha, hb⟩, x, hx => by
    subst el
    rcases List.mem_cons.mp hx with r | hx
    · rw [r, hp]; exact ⟨(fun q => nomatch q), fun _ q => by cases q⟩
    · rcases List.mem_cons.mp hx with r | hx
      · rw [r, ha]; exact ⟨(fun q => nomatch q), fun _ q => by cases q⟩
      · rcases List.mem_cons.mp hx with r | hx
        · rw [r, hb]; exact ⟨(fun q => nomatch q), fun _ q => by cases q⟩
        · obtain ⟨kvs, e⟩ := hM.dicts x hx
          rw [e]; exact ⟨(fun q => nomatch q), fun _ q => by cases q⟩
theorem house_there {H : Hp} {p : Addr} {l : List Addr} : ∀ {o : Mu42.Abs}, HouseAt C Bo H p l o → ∀ x ∈ p :: l, H x ≠ none
  | none, ⟨m, D, dx, el, hM, hp⟩, x, hx => by
    subst el
    rcases List.mem_cons.mp hx with r | hx
    · rw [r, hp]; exact fun q => nomatch q
    · obtain ⟨kvs, e⟩ := hM.dicts x hx
      rw [e]; exact fun q => nomatch q
  | some _, ⟨m, h⟩, x, hx => (houseS_there h x hx).1
theorem says_any {H H' : Hp} {p q : Addr} {l : List Addr} {o : Mu42.Abs} {ans : List Int} {Q : VK} (hh : HouseAt C Bo H p l o) (S : Says C Bo H p l (o, ans) Q) (e : Same H H') (nq : H' q = none) : Q (.ref q) (upd H' q (.lst (ans.map V.int))) := by
  have s2 : Same H (upd H' q (.lst (ans.map V.int))) := e.trans (same_new nq)
  refine S _ q l (house_same s2 hh) (fun c u h _ => s2 _ _ h) (fun x hx => .inl hx) (live_same s2) (e.free nq) (fun m => ?_) upd_same
  exact house_there hh q (List.mem_cons_of_mem _ m) (e.free nq)
theorem says_same {H H' : Hp} {p q : Addr} {l : List Addr} {s : Mu42.State} {ans : List Int} {Q : VK} (hh : HouseAt C Bo H p l (some s)) (S : Says C Bo H p l (some s, ans) Q) (e : Same H H') (nq : H' q = none) : Q (.ref q) (upd H' q (.lst (ans.map V.int))) := says_any hh S e nq
def spInit (C Bo : Addr) : Sp := fun vs H Q _ => ∃ (p dx : Addr), vs = [.ref p] ∧ H p = some (.ins C dx []) ∧ ∀ (H' : Hp) (D : Addr), HouseAt C Bo H' p [D] none → H D = none → (∀ b o, H b = some o → b ≠ p → H' b = some o) → Q .non H'
theorem sc_init : FnScope ["self"] ["self"] (defScope s_init) := ⟨rfl, rfl, rfl, by decide +kernel, rfl, by decide +kernel, by decide +kernel⟩
theorem ok_init {f : Addr} {fd : FuncData} (F : Fun K "__init__" "House.__init__" s_init f fd) (T : TxtH K mg C) : FnOk P w K mg base CX0 1 f fd ["self"] (spInit C Bo) := by
  refine F.ok sc_init (fun vs H Q E h => ?_) (fun cdv A outer s H vs Q E hr h => ?_)
  · obtain ⟨p, dx, rfl, _⟩ := h
    rfl
  · obtain ⟨p, dx, rfl, hp, fin⟩ := h
    refine ⟨_, pss_cons (ps_fld (pv 0) pe_non rfl) (pss_cons (ps_fld (pv 0) pe_non rfl) (pss_cons (ps_fld (pv 0) pe_int rfl) (pss_cons (ps_fld (pv 0) pe_int rfl) (pss_cons (ps_fld (pv 0) pe_int rfl) (pss_one (ps_fld (pv 0) pe_dnewT rfl)))))), ?_⟩
    refine ⟨_, rfl, p, C, dx, _, rfl, hp, T.cl, T.nHeap, (by show 0 < 1000; decide), _, rfl, p, C, dx, _, rfl, upd_same, T.cl, T.nStraw, (by show 1 < 1000; decide), _, rfl, p, C, dx, _, rfl, upd_same, T.cl, T.nDay, (by show 2 < 1000; decide), _, rfl, p, C, dx, _, rfl, upd_same, T.cl, T.nBrought, (by show 3 < 1000; decide), _, rfl, p, C, dx, _, rfl, upd_same, T.cl, T.nMelted, (by show 4 < 1000; decide), fun D nD => ?_⟩
    rw [upd_upd, upd_upd, upd_upd, upd_upd] at nD ⊢
    have npD : p ≠ D := ne_of_none upd_same nD
    rw [upd_ne npD.symm] at nD
    refine ⟨_, rfl, p, C, dx, _, rfl, (by rw [upd_ne npD, upd_same]), T.cl, T.nMemo, (by show 5 < 1000; decide), ?_⟩
    rw [fl_new]
    refine fin _ D ⟨[], D, dx, rfl, ⟨by rw [upd_ne npD.symm, upd_same]; rfl, (fun _ h => nomatch h), List.nodup_nil, by simp [fs]⟩, upd_same⟩ nD fun b o e hb => ?_
    rw [upd_ne hb, upd_ne (ne_of_none e nD), upd_ne hb]
    exact e
/-- does it stand -/
def spStands (C Bo : Addr) : Sp := fun vs H Q _ => ∃ (p : Addr) (l : List Addr) (o : Mu42.Abs), vs = [.ref p] ∧ HouseAt C Bo H p l o ∧ Q (.bl o.isSome) H
theorem sc_stands : FnScope ["self"] ["self"] (defScope s_stands) := ⟨rfl, rfl, rfl, by decide +kernel, rfl, by decide +kernel, by decide +kernel⟩
theorem ok_stands {f : Addr} {fd : FuncData} (F : Fun K "stands" "House.stands" s_stands f fd) (T : TxtH K mg C) : FnOk P w K mg base CX0 1 f fd ["self"] (spStands C Bo) := by
  refine F.ok sc_stands (fun vs H Q E h => ?_) (fun cdv A outer s H vs Q E hr h => ?_)
  · obtain ⟨p, l, o, rfl, _⟩ := h
    rfl
  · obtain ⟨p, l, o, rfl, hh, fin⟩ := h
    refine ⟨_, pss_one (ps_ret (pe_cmp (pc_notN (pe_fld (pv 0) rfl)) rfl)), ?_⟩
    cases o with
    | none =>
      obtain ⟨m, D, dx, _, _, hp⟩ := hh
      exact ⟨_, rfl, p, C, dx, _, _, rfl, hp, T.cl, T.nHeap, fl_heap, fin⟩
    | some st =>
      obtain ⟨m, _, a, b, D, dx, _, _, _, hp, _⟩ := hh
      exact ⟨_, rfl, p, C, dx, _, _, rfl, hp, T.cl, T.nHeap, fl_heap, fin⟩

def spM0 (C Bo : Addr) (c : Mu42.Call) : Sp := fun vs H Q _ => ∃ (p : Addr) (l : List Addr) (s : Mu42.State), vs = [.ref p] ∧ HouseAt C Bo H p l (some s) ∧ Says C Bo H p l (Mu42.step (some s) c) Q
def spM1 (C Bo : Addr) (c : Nat → Mu42.Call) : Sp := fun vs H Q _ => ∃ (p : Addr) (l : List Addr) (s : Mu42.State) (i : Nat), vs = [.ref p, .int (i : Int)] ∧ HouseAt C Bo H p l (some s) ∧ Says C Bo H p l (Mu42.step (some s) (c i)) Q
def spM2 (C Bo : Addr) (c : Nat → Nat → Mu42.Call) : Sp := fun vs H Q _ => ∃ (p : Addr) (l : List Addr) (s : Mu42.State) (i n : Nat), vs = [.ref p, .int (i : Int), .int (n : Int)] ∧ HouseAt C Bo H p l (some s) ∧ Says C Bo H p l (Mu42.step (some s) (c i n)) Q
theorem sc_faces : FnScope ["self"] ["self"] (defScope s_faces) := ⟨rfl, rfl, rfl, by decide +kernel, rfl, by decide +kernel, by decide +kernel⟩
theorem ok_faces {f : Addr} {fd : FuncData} (F : Fun K "faces" "House.faces" s_faces f fd) (T : TxtH K mg C) (C1 : Callee P w K mg base "open_faces" ["heap", "straw"] 2 (spNum2 K Mu42.faces)) : FnOk P w K mg base CX0 3 f fd ["self"] (spM0 C Bo .faces) := by
  obtain ⟨f1, fd1, G1, m1, k1, b1⟩ := C1.ex
  refine F.ok sc_faces (fun vs H Q E h => ?_) (fun cdv A outer s H vs Q E hr h => ?_)
  · obtain ⟨p, l, s, rfl, _⟩ := h
    rfl
  · obtain ⟨p, l, st, rfl, hh, S⟩ := h
    refine ⟨_, pss_one (ps_ret (pe_lst (pa_cons (pe_call G1 hr (by rfl) m1 k1 b1 .nil pass0 (pa_cons (pe_fld (pv 0) rfl) (pa_cons (pe_fld (pv 0) rfl) pa_nil))) pa_nil))), ?_⟩
    obtain ⟨mm, wf, a, b, DD, dx, el, nab, hM, hp, ha, hb⟩ := id hh
    refine ⟨_, rfl, p, C, dx, _, _, rfl, hp, T.cl, T.nHeap, fl_heap, _, rfl, p, C, dx, _, _, rfl, hp, T.cl, T.nStraw, fl_straw, a, b, true, true, st.heap, st.straw, rfl, .inl (.inl ha), .inl (.inl hb), by have := wf.five; omega, fun H1 e1 => ⟨(by show 1 ≤ sizeLine; decide), fun q nq => ?_⟩⟩
    exact says_same hh S e1 nq
theorem sc_has : FnScope ["self", "column"] ["self", "column"] (defScope s_has_column) := ⟨rfl, rfl, rfl, by decide +kernel, rfl, by decide +kernel, by decide +kernel⟩
def spHas (C Bo : Addr) : Sp := fun vs H Q _ => ∃ (p : Addr) (l : List Addr) (s : Mu42.State) (i : Nat), vs = [.ref p, .int (i : Int)] ∧ HouseAt C Bo H p l (some s) ∧ Q (.bl (decide (i < s.heap.length))) H
theorem ok_has {f : Addr} {fd : FuncData} (F : Fun K "has_column" "House.has_column" s_has_column f fd) (T0 : Txt K mg) (T : TxtH K mg C) : FnOk P w K mg base CX0 1 f fd ["self", "column"] (spHas C Bo) := by
  refine F.ok sc_has (fun vs H Q E h => ?_) (fun cdv A outer s H vs Q E hr h => ?_)
  · obtain ⟨p, l, s, i, rfl, _⟩ := h
    rfl
  · obtain ⟨p, l, st, i, rfl, hh, fin⟩ := h
    refine ⟨_, pss_one (ps_ret (pe_cmpR op_lt (pv 1) (pe_callB call_len_seq (by rfl) T0.len PySem.boot_len (pa_cons (pe_fld (pv 0) rfl) pa_nil)) (nomark _))), ?_⟩
    obtain ⟨mm, wf, a, b, DD, dx, el, nab, hM, hp, ha, hb⟩ := id hh
    refine ⟨_, rfl, _, rfl, p, C, dx, _, _, rfl, hp, T.cl, T.nHeap, fl_heap, a, _, rfl, .inl (.inl (.inl ha)), _, _, rfl, rfl, ?_⟩
    have e : decide ((i : Int) < ((vi st.heap).length : Nat)) = decide (i < st.heap.length) := by
      rw [vi_len]
      exact decide_eq_decide.mpr (by omega)
    rw [← e] at fin
    exact fin

/-- the house has changed in place: its lists are where they were -/
theorem says_new {H H2 : Hp} {p q a b DD dx dx0 : Addr} {l : List Addr} {mm : List Ent} {s : Mu42.State} {ans : List Int} {Q : VK} {x y o : V} {d br m : Int} {xs ys : List V} (S : Says C Bo H p l (some s, ans) Q) (hM : Memos Bo H DD mm) (hp0 : H p = some (.ins C dx0 (fl x y d br m o))) (ha0 : H a = some (.lst xs)) (hb0 : H b = some (.lst ys)) (wf : WF s) (nab : a ≠ b)
    (hp : H2 p = some (.ins C dx (fl (.ref a) (.ref b) s.day s.brought s.melted (.ref DD)))) (ha : H2 a = some (.lst (vi s.heap))) (hb : H2 b = some (.lst (vi (mk s.straw)))) (e : But [p, a, b] H H2) (nq : H2 q = none) (el : l = a :: b :: DD :: fs mm) : Q (.ref q) (upd H2 q (.lst (ans.map V.int))) := by
  have s2 : Same H2 (upd H2 q (.lst (ans.map V.int))) := same_new nq
  have hh : HouseAt C Bo H2 p l (some s) := ⟨mm, wf, a, b, DD, dx, el, nab, hM.keep (kp_but hp0 ha0 hb0 e), hp, ha, hb⟩
  have th := house_there hh
  have lv : Live H H2 := fun x n m => by
    by_cases i : x ∈ [p, a, b]
    · rcases List.mem_cons.mp i with r | i
      · rw [r, hp] at m; cases m
      · rcases List.mem_cons.mp i with r | i
        · rw [r, ha] at m; cases m
        · rw [List.mem_singleton.mp i, hb] at m; cases m
    · cases h : H x with
      | none => exact n h
      | some u => rw [e x u h i] at m; cases m
  refine S _ q l (house_same s2 hh) (fun c u h nc => s2 _ _ (e c u h fun m => nc ?_)) (fun x hx => .inl hx) (fun x n => live_same s2 x (lv x n)) (lv.back nq) (fun m => th q (List.mem_cons_of_mem _ m) nq) upd_same
  rw [el]
  rcases List.mem_cons.mp m with r | m
  · rw [r]; simp
  · rcases List.mem_cons.mp m with r | m
    · rw [r]; simp
    · rw [List.mem_singleton.mp m]; simp
theorem vi_set (l : List Nat) (i v : Nat) : (vi l).set i (V.int (v : Int)) = vi (l.set i v) := by
  unfold vi
  rw [List.map_set]
theorem sum_put : ∀ {l : List Nat} {i z y : Nat}, l[i]? = some z → (l.set i y).sum + z = l.sum + y
  | [], i, z, y, h => by simp at h
  | a :: r, 0, z, y, h => by
    have e : a = z := by simpa using h
    subst e
    rw [List.set_cons_zero, List.sum_cons, List.sum_cons]
    omega
  | a :: r, i + 1, z, y, h => by
    have ih := sum_put (l := r) (i := i) (z := z) (y := y) (by simpa using h)
    rw [List.set_cons_succ, List.sum_cons, List.sum_cons]
    omega
theorem getD_at {l : List Nat} {i : Nat} (h : i < l.length) : ∃ z, l[i]? = some z ∧ l.getD i 0 = z := ⟨l[i], List.getElem?_eq_getElem h, by rw [List.getD_eq_getElem?_getD, List.getElem?_eq_getElem h]; rfl⟩
theorem Ok.set {h : List Nat} (o : Ok h) {i v : Nat} (hv : v ≤ 3) : Ok (h.set i v) := fun x hx => by
  rcases List.mem_or_eq_of_mem_set hx with e | e
  · exact o x e
  · rw [e]; exact hv
theorem sc_bring : FnScope ["self", "column", "n"] ["self", "column", "n"] (defScope s_bring) := ⟨rfl, rfl, rfl, by decide +kernel, rfl, by decide +kernel, by decide +kernel⟩
theorem ok_bring {f : Addr} {fd : FuncData} (F : Fun K "bring" "House.bring" s_bring f fd) (T0 : Txt K mg) (T : TxtH K mg C) (C1 : MCallee P w K mg base C "has_column" ["self", "column"] 1 (spHas C Bo)) : FnOk P w K mg base CX0 2 f fd ["self", "column", "n"] (spM2 C Bo .bring) := by
  obtain ⟨f1, fd1, G1, m1, b1⟩ := C1.ex
  obtain ⟨tA, mA⟩ := T.notA
  obtain ⟨tN, mN⟩ := T.noC
  obtain ⟨tB, mB⟩ := T0.mostB
  refine F.ok sc_bring (fun vs H Q E h => ?_) (fun cdv A outer s H vs Q E hr h => ?_)
  · obtain ⟨p, l, s, i, n, rfl, _⟩ := h
    rfl
  · obtain ⟨p, l, st, i, n, rfl, hh, S⟩ := h
    refine ⟨_, pss_cons (ps_if (pt_not (pt_val (pe_meth (pv 0) T.cl m1 G1 hr b1 .nil pass0 (pa_cons (pv 1) pa_nil)))) (pss_one (ps_ret (pe_lst (pa_cons (pe_glob (v := V.int (-2)) (by rfl) mN ⟨_, rfl⟩) pa_nil)))) pss_nil)
      (pss_cons (ps_if (PW.pt (pw_or (pt_cmpR op_eq (pv 2) pe_int (nomark _)) (pw_or1 (pt_cmpR op_gt (pe_op op_add (pe_ix ix_list (pe_fld (pv 0) rfl) (pv 1) (fun _ _ => rfl)) (pv 2)) (pe_glob (v := V.int 3) (by rfl) mB ⟨_, rfl⟩) (nomark _)))))
          (pss_one (ps_ret (pe_lst (pa_cons (pe_glob (v := V.int (-1)) (by rfl) mA ⟨_, rfl⟩) pa_nil)))) pss_nil)
      (pss_cons (ps_augS (pe_fld (pv 0) rfl) (pv 1) get_list (pv 2) ip_add set_list)
      (pss_cons (ps_fldaug (pv 0) (pv 2) in_add)
      (pss_one (ps_ret (pe_lst (pa_cons (pe_callB (cr_sumK rfl) (by rfl) T0.sum (by decide +kernel) (pa_cons (pe_fld (pv 0) rfl) pa_nil)) pa_nil))))))), ?_⟩
    obtain ⟨mm, wf, a, b, DD, dx, el, nab, hM, hp, ha, hb⟩ := id hh
    refine ⟨_, rfl, p, dx, _, rfl, hp, fl_no (by decide +kernel) (by decide +kernel) (by decide +kernel) (by decide +kernel) (by decide +kernel) (by decide +kernel), _, rfl, p, l, st, i, rfl, hh, _, rfl, ?_⟩
    by_cases ci : i < st.heap.length
    · rw [decide_eq_true ci]
      refine iteF ?_
      obtain ⟨z, hz, hzd⟩ := getD_at ci
      have zl : z ≤ 3 := wf.ok z (List.mem_of_getElem? hz)
      have no : Mu42.step (some st) (.bring i n) = if n = 0 ∨ 3 < z + n then (some st, [-1]) else (some { st with heap := st.heap.set i (z + n), brought := st.brought + n }, [((Mu42.total st.heap + n : Nat) : Int)]) := by
        show (if st.heap.length ≤ i then _ else _) = _
        rw [if_neg (by omega), ← hzd]
        rfl
      rw [no] at S
      refine ⟨_, rfl, rfl, _, rfl, ?_⟩
      refine ite2 (fun c => ?_) (fun c => ?_)
      · have c' := V.int.inj (of_decide_eq_true c)
        rw [if_pos (by omega)] at S
        refine iteT ?_
        exact ⟨(by show 1 ≤ sizeLine; decide), fun q nq => says_same hh S (Same.refl _) nq⟩
      · have c' : n ≠ 0 := fun q => c (by rw [q]; rfl)
        refine ⟨_, rfl, p, C, dx, _, _, rfl, hp, T.cl, T.nHeap, fl_heap, _, rfl, a, _, _, _, rfl, rfl, .inl (.inl ha), atI_nat (vi_get hz), _, rfl, _, _, rfl, rfl, _, _, rfl, rfl, _, rfl, ?_⟩
        refine ite2 (fun d => ?_) (fun d => ?_)
        · have d' := of_decide_eq_true d
          rw [if_pos (by omega)] at S
          exact ⟨(by show 1 ≤ sizeLine; decide), fun q nq => says_same hh S (Same.refl _) nq⟩
        · have d' : ¬ ((3 : Int) < (z : Int) + (n : Int)) := fun q => d (decide_eq_true q)
          rw [if_neg (by omega)] at S
          have ix : ixN (vi st.heap).length (i : Int) = some i := by
            unfold ixN
            rw [vi_len, if_pos (by omega), if_pos (by omega)]
            rfl
          refine ⟨_, rfl, p, C, dx, _, _, rfl, hp, T.cl, T.nHeap, fl_heap, _, rfl, a, _, i, _, rfl, rfl, .inl (.inl ha), vi_get hz, _, rfl, _, _, rfl, rfl, a, _, _, i, rfl, rfl, ha, ix, ?_⟩
          have npa : p ≠ a := ne_of hp ha (by intro q; cases q)
          have npb : p ≠ b := ne_of hp hb (by intro q; cases q)
          have ez : V.int ((z : Int) + (n : Int)) = V.int ((z + n : Nat) : Int) := by rw [Int.natCast_add]
          have hp1 : upd H a (.lst ((vi st.heap).set i (V.int ((z : Int) + (n : Int))))) p = some (.ins C dx (fl (.ref a) (.ref b) st.day st.brought st.melted (.ref DD))) := by rw [upd_ne npa]; exact hp
          rw [ez] at hp1
          show (sFldAug K (tVar 0) (tVar 2) rAdd "brought") _ _ (upd H a (.lst ((vi st.heap).set i (V.int ((z : Int) + (n : Int))))))
          rw [ez, vi_set]
          rw [vi_set] at hp1
          refine ⟨_, rfl, p, C, dx, _, _, rfl, hp1, T.cl, T.nBrought, fl_brought, _, rfl, _, _, rfl, rfl, dx, _, hp1, (by show 6 < 1000; decide), ?_⟩
          rw [fp_brought]
          generalize hH2 : upd (upd H a (.lst (vi (st.heap.set i (z + n))))) p _ = H2
          have e2p : H2 p = some (.ins C dx (fl (.ref a) (.ref b) st.day ((st.brought + n : Nat) : Int) st.melted (.ref DD))) := by rw [← hH2, upd_same, Int.natCast_add]
          have e2a : H2 a = some (.lst (vi (st.heap.set i (z + n)))) := by rw [← hH2, upd_ne npa.symm, upd_same]
          have e2b : H2 b = some (.lst (vi (mk st.straw))) := by rw [← hH2, upd_ne npb.symm, upd_ne nab.symm]; exact hb
          have e2x : But [p, a, b] H H2 := fun c u e nc => by
            rw [← hH2, upd_ne (fun q => nc (by rw [q]; simp)), upd_ne (fun q => nc (by rw [q]; simp))]
            exact e
          have e2a' := e2a
          rw [vi_ints] at e2a'
          refine ⟨_, rfl, p, C, dx, _, _, rfl, e2p, T.cl, T.nHeap, fl_heap, a, true, _, rfl, .inl (.inl e2a'), (by show 1 ≤ sizeLine; decide), fun q nq => ?_⟩
          rw [sum_ints]
          have et : Mu42.total (st.heap.set i (z + n)) = Mu42.total st.heap + n := by
            rw [total_eq, total_eq]
            have := sum_put (y := z + n) hz
            omega
          rw [et]
          have wf' : WF { st with heap := st.heap.set i (z + n), brought := st.brought + n } := ⟨by show (st.heap.set i (z + n)).length = _; rw [List.length_set]; exact wf.len, by show 1 ≤ (st.heap.set i (z + n)).length; rw [List.length_set]; exact wf.one, by show (st.heap.set i (z + n)).length ≤ 5; rw [List.length_set]; exact wf.five, Ok.set wf.ok (by omega), wf.gone⟩
          exact says_new S hM hp ha hb wf' nab e2p e2a e2b e2x nq el
    · rw [decide_eq_false ci]
      have no : Mu42.step (some st) (.bring i n) = (some st, [-2]) := if_pos (by omega)
      rw [no] at S
      exact ⟨(by show 1 ≤ sizeLine; decide), fun q nq => says_same hh S (Same.refl _) nq⟩

theorem says_over {H H2 : Hp} {p : Addr} {l : List Addr} {r : Mu42.Abs × List Int} {Q : VK} (S : Says C Bo H p l r Q) (e : But (p :: l) H H2) (th : ∀ x ∈ p :: l, H2 x ≠ none) : Says C Bo H2 p l r Q := fun H' q l' hh b fr lv nq ni eq => by
  have back : ∀ x, H2 x = none → H x = none := fun x n => by
    cases h : H x with
    | none => rfl
    | some u =>
      by_cases m : x ∈ p :: l
      · exact absurd n (th x m)
      · rw [e x u h m] at n; cases n
  exact S H' q l' hh (fun c u h nc => b c u (e c u h nc) nc) (fun x hx => (fr x hx).imp id (back x)) (fun x n => lv x fun m => n (back x m)) (back q nq) ni eq
theorem marks_set (s : List Bool) (i n : Nat) (h : n ≤ 1) : (vi (mk s)).set i (V.int (n : Int)) = vi (mk (s.set i (n == 1))) := by
  rw [vi_set]
  congr 1
  unfold mk Mu42.marks
  rw [List.map_set]
  congr 1
  rcases (by omega : n = 0 ∨ n = 1) with e | e <;> (rw [e]; rfl)
theorem mk_len (s : List Bool) : (mk s).length = s.length := by simp [mk, Mu42.marks]
theorem sc_set : FnScope ["self", "column", "b"] ["self", "column", "b"] (defScope s_set_straw) := ⟨rfl, rfl, rfl, by decide +kernel, rfl, by decide +kernel, by decide +kernel⟩
theorem ok_set {f : Addr} {fd : FuncData} (F : Fun K "set_straw" "House.set_straw" s_set_straw f fd) (T0 : Txt K mg) (T : TxtH K mg C) (C1 : MCallee P w K mg base C "has_column" ["self", "column"] 1 (spHas C Bo)) (C2 : MCallee P w K mg base C "faces" ["self"] 3 (spM0 C Bo .faces)) : FnOk P w K mg base CX0 4 f fd ["self", "column", "b"] (spM2 C Bo .straw) := by
  obtain ⟨f1, fd1, G1, m1, b1⟩ := C1.ex
  obtain ⟨f2, fd2, G2, m2, b2⟩ := C2.ex
  obtain ⟨tA, mA⟩ := T.notA
  obtain ⟨tN, mN⟩ := T.noC
  refine F.ok sc_set (fun vs H Q E h => ?_) (fun cdv A outer s H vs Q E hr h => ?_)
  · obtain ⟨p, l, s, i, n, rfl, _⟩ := h
    rfl
  · obtain ⟨p, l, st, i, n, rfl, hh, S⟩ := h
    have hr1 : Room 1 _ := hr.mono (by decide)
    refine ⟨_, pss_cons (ps_if (pt_not (pt_val (pe_meth (pv 0) T.cl m1 G1 hr1 b1 .nil pass0 (pa_cons (pv 1) pa_nil)))) (pss_one (ps_ret (pe_lst (pa_cons (pe_glob (v := V.int (-2)) (by rfl) mN ⟨_, rfl⟩) pa_nil)))) pss_nil)
      (pss_cons (ps_if (pt_cmpR op_gt (pv 2) pe_int (nomark _)) (pss_one (ps_ret (pe_lst (pa_cons (pe_glob (v := V.int (-1)) (by rfl) mA ⟨_, rfl⟩) pa_nil)))) pss_nil)
      (pss_cons (ps_asg (pv 2) (pg_sub (pe_fld (pv 0) rfl) (pv 1) set_list))
      (pss_one (ps_ret (pe_meth0 (pv 0) T.cl m2 G2 hr b2 .nil pass0))))), ?_⟩
    obtain ⟨mm, wf, a, b, DD, dx, el, nab, hM, hp, ha, hb⟩ := id hh
    refine ⟨_, rfl, p, dx, _, rfl, hp, fl_no (by decide +kernel) (by decide +kernel) (by decide +kernel) (by decide +kernel) (by decide +kernel) (by decide +kernel), _, rfl, p, l, st, i, rfl, hh, _, rfl, ?_⟩
    by_cases ci : i < st.heap.length
    · rw [decide_eq_true ci]
      refine iteF ?_
      have no : Mu42.step (some st) (.straw i n) = if 1 < n then (some st, [-1]) else (some { st with straw := st.straw.set i (n == 1) }, [((Mu42.faces st.heap (st.straw.set i (n == 1)) : Nat) : Int)]) := by
        show (if st.heap.length ≤ i then _ else _) = _
        rw [if_neg (by omega)]
      rw [no] at S
      refine ⟨_, rfl, _, _, rfl, rfl, _, rfl, ?_⟩
      refine ite2 (fun c => ?_) (fun c => ?_)
      · have c' := of_decide_eq_true c
        rw [if_pos (by omega)] at S
        exact ⟨(by show 1 ≤ sizeLine; decide), fun q nq => says_same hh S (Same.refl _) nq⟩
      · have c' : ¬ ((1 : Int) < (n : Int)) := fun q => c (decide_eq_true q)
        rw [if_neg (by omega)] at S
        have ix : ixN (vi (mk st.straw)).length (i : Int) = some i := by
          unfold ixN
          rw [vi_len, mk_len, ← wf.len, if_pos (by omega), if_pos (by omega)]
          rfl
        have npb : p ≠ b := ne_of hp hb (by intro q; cases q)
        refine ⟨_, rfl, _, rfl, p, C, dx, _, _, rfl, hp, T.cl, T.nStraw, fl_straw, _, rfl, b, _, _, i, rfl, rfl, hb, ix, ?_⟩
        show tRet (tMeth C "faces" (spM0 C Bo .faces) [] E0 (tVar 0) tNil) _ _ (upd H b (.lst ((vi (mk st.straw)).set i (V.int (n : Int)))))
        rw [marks_set _ _ _ (by omega)]
        generalize hH2 : upd H b (.lst (vi (mk (st.straw.set i (n == 1))))) = H2
        have e2p : H2 p = some (.ins C dx (fl (.ref a) (.ref b) st.day st.brought st.melted (.ref DD))) := by rw [← hH2, upd_ne npb]; exact hp
        have e2a : H2 a = some (.lst (vi st.heap)) := by rw [← hH2, upd_ne nab]; exact ha
        have e2b : H2 b = some (.lst (vi (mk (st.straw.set i (n == 1))))) := by rw [← hH2, upd_same]
        have e2x : But [p, a, b] H H2 := fun c u e nc => by
          rw [← hH2, upd_ne (fun q => nc (by rw [q]; simp))]
          exact e
        have hM2 := hM.keep (kp_but hp ha hb e2x)
        have e2y : But (p :: l) H H2 := fun c u e nc => e2x c u e fun m => nc (by
          rw [el]
          rcases List.mem_cons.mp m with r | m
          · rw [r]; simp
          · rcases List.mem_cons.mp m with r | m
            · rw [r]; simp
            · rw [List.mem_singleton.mp m]; simp)
        have wf' : WF { st with straw := st.straw.set i (n == 1) } := ⟨by show _ = (st.straw.set i (n == 1)).length; rw [List.length_set]; exact wf.len, wf.one, wf.five, wf.ok, wf.gone⟩
        have hh2 : HouseAt C Bo H2 p l (some { st with straw := st.straw.set i (n == 1) }) := ⟨mm, wf', a, b, DD, dx, el, nab, hM2, e2p, e2a, e2b⟩
        refine ⟨_, rfl, p, dx, _, rfl, e2p, fl_no (by decide +kernel) (by decide +kernel) (by decide +kernel) (by decide +kernel) (by decide +kernel) (by decide +kernel), p, l, { st with straw := st.straw.set i (n == 1) }, rfl, hh2, says_over S e2y (house_there hh2)⟩
    · rw [decide_eq_false ci]
      have no : Mu42.step (some st) (.straw i n) = (some st, [-2]) := if_pos (by omega)
      rw [no] at S
      exact ⟨(by show 1 ≤ sizeLine; decide), fun q nq => says_same hh S (Same.refl _) nq⟩

theorem vi_tk {h : List Nat} {i z : Nat} (e : h[i]? = some z) (n : z ≠ 0) : (vi h).set i (V.int ((z : Int) - 1)) = vi (Mu42.taken h i) := by
  have g : h.getD i 0 = z := by rw [List.getD_eq_getElem?_getD, e]; rfl
  have e1 : V.int ((z : Int) - 1) = V.int ((z - 1 : Nat) : Int) := by
    congr 1
    omega
  rw [e1, vi_set]
  unfold Mu42.taken
  rw [g]
theorem sc_take : FnScope ["self", "column", "water"] ["self", "column"] (defScope s_take) := ⟨rfl, rfl, rfl, by decide +kernel, rfl, by decide +kernel, by decide +kernel⟩
theorem ok_take {f : Addr} {fd : FuncData} (F : Fun K "take" "House.take" s_take f fd) (T0 : Txt K mg) (T : TxtH K mg C) (C1 : MCallee P w K mg base C "has_column" ["self", "column"] 1 (spHas C Bo)) (C2 : Callee P w K mg base "open_faces" ["heap", "straw"] 2 (spNum2 K Mu42.faces)) : FnOk P w K mg base CX0 3 f fd ["self", "column"] (spM1 C Bo .take) := by
  obtain ⟨f1, fd1, G1, m1, b1⟩ := C1.ex
  obtain ⟨f2, fd2, G2, m2, k2, b2⟩ := C2.ex
  obtain ⟨tA, mA⟩ := T.noB
  obtain ⟨tN, mN⟩ := T.noC
  refine F.ok sc_take (fun vs H Q E h => ?_) (fun cdv A outer s H vs Q E hr h => ?_)
  · obtain ⟨p, l, s, i, rfl, _⟩ := h
    rfl
  · obtain ⟨p, l, st, i, rfl, hh, S⟩ := h
    have hr1 : Room 1 _ := hr.mono (by decide)
    refine ⟨_, pss_cons (ps_if (pt_not (pt_val (pe_meth (pv 0) T.cl m1 G1 hr1 b1 .nil pass0 (pa_cons (pv 1) pa_nil)))) (pss_one (ps_ret (pe_lst (pa_cons (pe_glob (v := V.int (-2)) (by rfl) mN ⟨_, rfl⟩) pa_nil)))) pss_nil)
      (pss_cons (ps_if (pt_cmpR op_eq (pe_ix ix_list (pe_fld (pv 0) rfl) (pv 1) (fun _ _ => rfl)) pe_int (nomark _)) (pss_one (ps_ret (pe_lst (pa_cons (pe_glob (v := V.int (-6)) (by rfl) mA ⟨_, rfl⟩) pa_nil)))) pss_nil)
      (pss_cons (ps_augS (pe_fld (pv 0) rfl) (pv 1) get_list pe_int ip_sub set_list)
      (pss_cons (ps_set (i := 2) sc_take.nd rfl (Or.inl rfl) (pe_call G2 hr (by rfl) m2 k2 b2 .nil pass0 (pa_cons (pe_fld (pv 0) rfl) (pa_cons (pe_fld (pv 0) rfl) pa_nil))))
      (pss_cons (ps_fldaug (pv 0) pe_int in_add)
      (pss_cons (ps_fldaug (pv 0) (pv 2) in_add)
      (pss_one (ps_ret (pe_lst (pa_cons (pv 2) pa_nil))))))))), ?_⟩
    obtain ⟨mm, wf, a, b, DD, dx, el, nab, hM, hp, ha, hb⟩ := id hh
    refine ⟨_, rfl, p, dx, _, rfl, hp, fl_no (by decide +kernel) (by decide +kernel) (by decide +kernel) (by decide +kernel) (by decide +kernel) (by decide +kernel), _, rfl, p, l, st, i, rfl, hh, _, rfl, ?_⟩
    by_cases ci : i < st.heap.length
    · rw [decide_eq_true ci]
      refine iteF ?_
      obtain ⟨z, hz, hzd⟩ := getD_at ci
      have no : Mu42.step (some st) (.take i) = if z = 0 then (some st, [-6]) else (some (Mu42.passed st i), [((Mu42.faces (Mu42.taken st.heap i) st.straw : Nat) : Int)]) := by
        show (if st.heap.length ≤ i then _ else _) = _
        rw [if_neg (by omega), ← hzd]
      rw [no] at S
      refine ⟨_, rfl, p, C, dx, _, _, rfl, hp, T.cl, T.nHeap, fl_heap, _, rfl, a, _, _, _, rfl, rfl, .inl (.inl ha), atI_nat (vi_get hz), rfl, _, rfl, ?_⟩
      refine ite2 (fun c => ?_) (fun c => ?_)
      · have c' := V.int.inj (of_decide_eq_true c)
        rw [if_pos (by omega)] at S
        exact ⟨(by show 1 ≤ sizeLine; decide), fun q nq => says_same hh S (Same.refl _) nq⟩
      · have nz : z ≠ 0 := fun q => c (by rw [q]; rfl)
        rw [if_neg nz] at S
        have ix : ixN (vi st.heap).length (i : Int) = some i := by
          unfold ixN
          rw [vi_len, if_pos (by omega), if_pos (by omega)]
          rfl
        have npa : p ≠ a := ne_of hp ha (by intro q; cases q)
        have npb : p ≠ b := ne_of hp hb (by intro q; cases q)
        refine ⟨_, rfl, p, C, dx, _, _, rfl, hp, T.cl, T.nHeap, fl_heap, _, rfl, a, _, i, _, rfl, rfl, .inl (.inl ha), vi_get hz, _, _, rfl, rfl, a, _, _, i, rfl, rfl, ha, ix, ?_⟩
        have eh : (vi st.heap).set i (V.int ((fun (i j : Int) => i - j) (z : Int) 1)) = vi (Mu42.taken st.heap i) := vi_tk hz nz
        rw [eh]
        generalize hH1 : upd H a (.lst (vi (Mu42.taken st.heap i))) = H1
        have e1p : H1 p = some (.ins C dx (fl (.ref a) (.ref b) st.day st.brought st.melted (.ref DD))) := by rw [← hH1, upd_ne npa]; exact hp
        have e1a : H1 a = some (.lst (vi (Mu42.taken st.heap i))) := by rw [← hH1, upd_same]
        have e1b : H1 b = some (.lst (vi (mk st.straw))) := by rw [← hH1, upd_ne nab.symm]; exact hb
        have e1x : But [p, a, b] H H1 := fun c u e nc => by
          rw [← hH1, upd_ne (fun q => nc (by rw [q]; simp))]
          exact e
        refine ⟨_, rfl, p, C, dx, _, _, rfl, e1p, T.cl, T.nHeap, fl_heap, _, rfl, p, C, dx, _, _, rfl, e1p, T.cl, T.nStraw, fl_straw, a, b, true, true, Mu42.taken st.heap i, st.straw, rfl, .inl (.inl e1a), .inl (.inl e1b), by rw [taken_length]; have := wf.five; omega, fun H2 e2 => ?_⟩
        refine ⟨_, rfl, p, C, dx, _, _, rfl, e2 _ _ e1p, T.cl, T.nDay, fl_day, _, _, rfl, rfl, dx, _, e2 _ _ e1p, (by show 6 < 1000; decide), ?_⟩
        rw [fp_day]
        refine ⟨_, rfl, p, C, dx, _, _, rfl, upd_same, T.cl, T.nMelted, fl_melted, _, rfl, _, _, rfl, rfl, dx, _, upd_same, (by show 6 < 1000; decide), ?_⟩
        rw [fp_melted, upd_upd]
        generalize hH3 : upd H2 p _ = H3
        have e3p : H3 p = some (.ins C dx (fl (.ref a) (.ref b) (Mu42.passed st i).day (Mu42.passed st i).brought (Mu42.passed st i).melted (.ref DD))) := by
          rw [← hH3, upd_same]
          rfl
        have e3a : H3 a = some (.lst (vi (Mu42.passed st i).heap)) := by rw [← hH3, upd_ne npa.symm]; exact e2 _ _ e1a
        have e3b : H3 b = some (.lst (vi (mk (Mu42.passed st i).straw))) := by rw [← hH3, upd_ne npb.symm]; exact e2 _ _ e1b
        have e3x : But [p, a, b] H H3 := fun c u e nc => by
          rw [← hH3, upd_ne (fun q => nc (by rw [q]; simp))]
          exact e2 _ _ (e1x c u e nc)
        refine ⟨_, rfl, (by show 1 ≤ sizeLine; decide), fun q nq => ?_⟩
        have wf' : WF (Mu42.passed st i) := ⟨by show (Mu42.taken st.heap i).length = _; rw [taken_length]; exact wf.len, by show 1 ≤ (Mu42.taken st.heap i).length; rw [taken_length]; exact wf.one, by show (Mu42.taken st.heap i).length ≤ 5; rw [taken_length]; exact wf.five, wf.ok.taken i, (by show st.gone + 1 = st.day + 1; rw [wf.gone])⟩
        exact says_new S hM hp ha hb wf' nab e3p e3a e3b e3x nq el
    · rw [decide_eq_false ci]
      have no : Mu42.step (some st) (.take i) = (some st, [-2]) := if_pos (by omega)
      rw [no] at S
      exact ⟨(by show 1 ≤ sizeLine; decide), fun q nq => says_same hh S (Same.refl _) nq⟩

theorem sqL_but {K : PySem.W.Frag} {H H2 : Hp} {p g : Addr} {xs : List V} (e : ∀ c u, H c = some u → c ≠ p → H2 c = some u) (n : g ≠ p) (h : SqL K H g xs) : SqL K H2 g xs := by
  rcases h with (h | ⟨o, h⟩) | h
  · exact .inl (.inl (e _ _ h n))
  · exact .inl (.inr ⟨o, e _ _ h n⟩)
  · exact .inr h
def spBegin (K : PySem.W.Frag) (C Bo : Addr) : Sp := fun vs H Q _ => ∃ (p g : Addr) (l : List Addr) (o : Mu42.Abs) (h : List Nat), vs = [.ref p, .ref g] ∧ HouseAt C Bo H p l o ∧ SqL K H g (vi h) ∧ g ≠ p ∧ h.length ≤ 1000 ∧ Says C Bo H p l (Mu42.step o (.begin_ h)) Q
theorem begin_step (o : Mu42.Abs) (h : List Nat) : Mu42.step o (.begin_ h) = if isHeap h = true then (some ⟨h, h.map fun (_ : Nat) => false, 0, Mu42.total h, 0, 0⟩, [0]) else (o, [-1]) := by
  show (if h.isEmpty = true ∨ Mu42.COLUMNS < h.length ∨ h.any (fun (x : Nat) => decide (Mu42.HIGH < x)) = true then _ else _) = _
  have e : (h.isEmpty = true ∨ Mu42.COLUMNS < h.length ∨ h.any (fun (x : Nat) => decide (Mu42.HIGH < x)) = true) ↔ ¬ isHeap h = true := by
    unfold isHeap
    rw [decide_eq_true_eq, List.any_eq_true, List.isEmpty_iff]
    constructor
    · rintro (q | q | ⟨x, hx, q⟩) ⟨a, b, c⟩
      · rw [q] at a; simp at a
      · unfold Mu42.COLUMNS at q; omega
      · have := c x hx
        have q' := of_decide_eq_true q
        unfold Mu42.HIGH at q'
        omega
    · intro q
      by_cases c1 : h = []
      · exact .inl c1
      · by_cases c2 : Mu42.COLUMNS < h.length
        · exact .inr (.inl c2)
        · refine .inr (.inr ?_)
          have l1 : 1 ≤ h.length := List.length_pos_iff.mpr c1
          have l5 : h.length ≤ 5 := by unfold Mu42.COLUMNS at c2; omega
          refine Classical.byContradiction fun n => q ⟨l1, l5, fun x hx => ?_⟩
          refine Classical.byContradiction fun m => n ⟨x, hx, decide_eq_true ?_⟩
          unfold Mu42.HIGH
          omega
  by_cases c : isHeap h = true
  · rw [if_pos c, if_neg fun q => e.mp q c]
  · rw [if_neg c, if_pos (e.mpr c)]
theorem rep_mk (h : List Nat) : (List.replicate h.length [V.int 0]).flatten = vi (mk (h.map fun (_ : Nat) => false)) := by
  induction h with
  | nil => rfl
  | cons x h ih =>
    rw [List.length_cons, List.replicate_succ, List.flatten_cons, ih]
    rfl
theorem sc_begin : FnScope ["self", "heap"] ["self", "heap"] (defScope s_begin) := ⟨rfl, rfl, rfl, by decide +kernel, rfl, by decide +kernel, by decide +kernel⟩
theorem ok_begin {f : Addr} {fd : FuncData} (F : Fun K "begin" "House.begin" s_begin f fd) (T0 : Txt K mg) (T : TxtH K mg C) (C1 : Callee P w K mg base "is_heap" ["heap"] 1 (spIsHeap K)) : FnOk P w K mg base CX0 2 f fd ["self", "heap"] (spBegin K C Bo) := by
  obtain ⟨f1, fd1, G1, m1, k1, b1⟩ := C1.ex
  obtain ⟨tA, mA⟩ := T.notA
  refine F.ok sc_begin (fun vs H Q E h => ?_) (fun cdv A outer s H vs Q E hr h => ?_)
  · obtain ⟨p, g, l, o, h, rfl, _⟩ := h
    rfl
  · obtain ⟨p, g, l, o, h, rfl, hh, hg, ngp, hlen, S⟩ := h
    refine ⟨_, pss_cons (ps_if (pt_not (pt_val (pe_call G1 hr (by rfl) m1 k1 b1 .nil pass0 (pa_cons (pv 1) pa_nil)))) (pss_one (ps_ret (pe_lst (pa_cons (pe_glob (v := V.int (-1)) (by rfl) mA ⟨_, rfl⟩) pa_nil)))) pss_nil)
      (pss_cons (ps_fld (pv 0) (pe_callTy call_list_of (by rfl) T0.list (by decide +kernel) (pa_cons (pv 1) pa_nil)) rfl)
      (pss_cons (ps_fld (pv 0) (pe_op op_rep (pe_lst (pa_cons pe_int pa_nil)) (pe_callB call_len_seq (by rfl) T0.len PySem.boot_len (pa_cons (pv 1) pa_nil))) rfl)
      (pss_cons (ps_fld (pv 0) pe_int rfl)
      (pss_cons (ps_fld (pv 0) (pe_callB (cr_sumK rfl) (by rfl) T0.sum (by decide +kernel) (pa_cons (pv 1) pa_nil)) rfl)
      (pss_cons (ps_fld (pv 0) pe_int rfl)
      (pss_one (ps_ret (pe_lst (pa_cons pe_int pa_nil))))))))), ?_⟩
    rw [begin_step] at S
    obtain ⟨mm, DD, dx, x0, y0, d0, br0, m0, hp, hM, sub⟩ := house_ins hh
    refine ⟨_, rfl, g, h, rfl, hg, _, rfl, ?_⟩
    by_cases c : isHeap h = true
    · rw [c]
      rw [if_pos c] at S
      refine iteF ?_
      refine ⟨_, rfl, g, _, rfl, .inl hg, fun A1 n1 => ?_⟩
      have s1 : Same H (upd H A1 (.lst (vi h))) := same_new n1
      refine ⟨_, rfl, p, C, dx, _, rfl, s1 _ _ hp, T.cl, T.nHeap, (by show 6 < 1000; decide), ?_⟩
      rw [fp_heap]
      have npA : p ≠ A1 := ne_of_none hp n1
      generalize hH2 : upd (upd H A1 (.lst (vi h))) p _ = H2
      have e2p : H2 p = some (.ins C dx (fl (.ref A1) y0 d0 br0 m0 (.ref DD))) := by rw [← hH2, upd_same]
      have e2A : H2 A1 = some (.lst (vi h)) := by rw [← hH2, upd_ne npA.symm, upd_same]
      have x2 : ∀ c u, H c = some u → c ≠ p → H2 c = some u := fun c u e n => by
        rw [← hH2, upd_ne n]
        exact s1 _ _ e
      have hg2 : SqL K H2 g (vi h) := sqL_but x2 ngp hg
      have hg2' := hg2
      rw [vi_ints] at hg2'
      refine ⟨(by show 1 ≤ sizeLine; decide), fun Z nZ => ?_⟩
      have s3 : Same H2 (upd H2 Z (.lst [V.int 0])) := same_new nZ
      have szl : sizeLine = 16777216 := sizeLine_eq
      refine ⟨_, rfl, g, _, rfl, .inl (s3.seq hg2), Z, _, _, rfl, rfl, upd_same, (by omega), (by rw [vi_len]; omega), (by rw [vi_len]; show 1 * _ ≤ _; omega), fun B nB => ?_⟩
      have s4 := s3.trans (same_new (o := .lst (List.replicate (((vi h).length : Nat) : Int).toNat [V.int 0]).flatten) nB)
      have e4p := s4 _ _ e2p
      have e4A := s4 _ _ e2A
      have nB2 : H2 B = none := s3.free nB
      have npB : p ≠ B := ne_of_none e2p nB2
      have nAB : A1 ≠ B := ne_of_none e2A nB2
      refine ⟨_, rfl, p, C, dx, _, rfl, e4p, T.cl, T.nStraw, (by show 6 < 1000; decide), ?_⟩
      rw [fp_straw]
      refine ⟨_, rfl, p, C, dx, _, rfl, upd_same, T.cl, T.nDay, (by show 6 < 1000; decide), ?_⟩
      rw [fp_day, upd_upd]
      generalize hH5 : upd (upd _ B _) p _ = H5
      have e5p : H5 p = some (.ins C dx (fl (.ref A1) (.ref B) 0 br0 m0 (.ref DD))) := by rw [← hH5, upd_same]
      have e5A : H5 A1 = some (.lst (vi h)) := by rw [← hH5, upd_ne npA.symm]; exact e4A
      have e5B : H5 B = some (.lst (vi (mk (h.map fun (_ : Nat) => false)))) := by
        rw [← hH5, upd_ne npB.symm, upd_same, ← rep_mk, vi_len]
        rfl
      have x5 : ∀ c u, H c = some u → c ≠ p → H5 c = some u := fun c u e n => by
        rw [← hH5, upd_ne n]
        exact s4 _ _ (x2 _ _ e n)
      have hg5 : SqL K H5 g (vi h) := sqL_but x5 ngp hg
      rw [vi_ints] at hg5
      refine ⟨_, rfl, g, true, _, rfl, hg5, _, rfl, p, C, dx, _, rfl, e5p, T.cl, T.nBrought, (by show 6 < 1000; decide), ?_⟩
      rw [fp_brought, sum_ints]
      refine ⟨_, rfl, p, C, dx, _, rfl, upd_same, T.cl, T.nMelted, (by show 6 < 1000; decide), ?_⟩
      rw [fp_melted, upd_upd]
      refine ⟨(by show 1 ≤ sizeLine; decide), fun q nq => ?_⟩
      generalize hH6 : upd H5 p _ = H6 at nq ⊢
      have e6p : H6 p = some (.ins C dx (fl (.ref A1) (.ref B) 0 (Mu42.total h : Nat) 0 (.ref DD))) := by rw [← hH6, upd_same]
      have e6A : H6 A1 = some (.lst (vi h)) := by rw [← hH6, upd_ne npA.symm]; exact e5A
      have e6B : H6 B = some (.lst (vi (mk (h.map fun (_ : Nat) => false)))) := by rw [← hH6, upd_ne npB.symm]; exact e5B
      have x6 : ∀ c u, H c = some u → c ≠ p → H6 c = some u := fun c u e n => by
        rw [← hH6, upd_ne n]
        exact x5 _ _ e n
      have s7 : Same H6 (upd H6 q (.lst ([(0 : Int)].map V.int))) := same_new nq
      have cc := of_decide_eq_true c
      have wf : WF ⟨h, h.map fun (_ : Nat) => false, 0, Mu42.total h, 0, 0⟩ := ⟨by simp, cc.1, cc.2.1, (fun x hx => cc.2.2 x hx), rfl⟩
      have nHq : H q = none := by
        cases e : H q with
        | none => rfl
        | some u =>
          by_cases r : q = p
          · rw [r, e6p] at nq; cases nq
          · rw [x6 q u e r] at nq; cases nq
      have k7 : Kp C H (upd H6 q (.lst ([(0 : Int)].map V.int))) := fun c u e _ n2 => s7 _ _ (x6 c u e fun r => by
        rw [r, hp] at e
        exact n2 _ _ _ _ _ _ _ (Option.some.inj e).symm)
      have hh7 : HouseAt C Bo (upd H6 q (.lst ([(0 : Int)].map V.int))) p (A1 :: B :: DD :: fs mm) (some ⟨h, h.map fun (_ : Nat) => false, 0, Mu42.total h, 0, 0⟩) := ⟨mm, wf, A1, B, DD, dx, rfl, nAB, hM.keep k7, s7 _ _ e6p, s7 _ _ e6A, s7 _ _ e6B⟩
      refine S _ q _ hh7 (fun c u e nc => s7 _ _ (x6 c u e fun r => nc (by rw [r]; simp))) (fun x hx => ?_) (fun x n => ?_) nHq (fun m => ?_) upd_same
      · rcases List.mem_cons.mp hx with r | hx
        · rw [r]; exact .inr n1
        · rcases List.mem_cons.mp hx with r | hx
          · rw [r]
            right
            cases e : H B with
            | none => rfl
            | some u =>
              rw [x2 B u e npB.symm] at nB2
              cases nB2
          · exact .inl (sub x hx)
      · intro m
        by_cases r : x = p
        · have := s7 _ _ e6p
          rw [← r] at this
          exact absurd (this.symm.trans m) (fun q => nomatch q)
        · cases e : H x with
          | none => exact absurd e n
          | some u =>
            have := s7 _ _ (x6 x u e r)
            exact absurd (this.symm.trans m) (fun q => nomatch q)
      · rcases List.mem_cons.mp m with r | m
        · rw [r, e6A] at nq; cases nq
        · rcases List.mem_cons.mp m with r | m
          · rw [r, e6B] at nq; cases nq
          · obtain ⟨kvs, e⟩ := hM.dicts q m
            rw [e] at nHq
            cases nHq
    · have c' : isHeap h = false := by simpa using c
      rw [c']
      rw [if_neg c] at S
      exact ⟨(by show 1 ≤ sizeLine; decide), fun q nq => says_any hh S (Same.refl _) nq⟩
end
end Ice
namespace Ice
open PySem PySem.Spec PyProof.Rows L2
/-- the house has more memos -/
structure Grow (p : Addr) (l : List Addr) (H : Hp) (l' : List Addr) (H' : Hp) : Prop where
  but : But (p :: l) H H'
  sub : ∀ x ∈ l, x ∈ l'
  new : ∀ x ∈ l', x ∈ l ∨ H x = none
theorem Grow.of_same {p : Addr} {l : List Addr} {H H' : Hp} (e : Same H H') : Grow p l H l H' := ⟨same_but e, fun _ h => h, fun _ h => .inl h⟩
theorem Grow.out {p c : Addr} {l l' : List Addr} {H H' : Hp} {u : HO} (g : Grow p l H l' H') (e : H c = some u) (n : c ∉ p :: l) : c ∉ p :: l' := fun m => by
  rcases List.mem_cons.mp m with r | m
  · exact n (by rw [r]; simp)
  · rcases g.new c m with m | m
    · exact n (List.mem_cons_of_mem _ m)
    · rw [e] at m; cases m
theorem Grow.keep {p c : Addr} {l l' : List Addr} {H H' : Hp} {u : HO} (g : Grow p l H l' H') (e : H c = some u) (n : c ∉ p :: l) : H' c = some u := g.but c u e n
theorem Grow.trans {p : Addr} {l l1 l2 : List Addr} {H H1 H2 : Hp} (a : Grow p l H l1 H1) (n1 : H1 p ≠ none) (b : Grow p l1 H1 l2 H2) : Grow p l H l2 H2 := by
  refine ⟨fun c u e n => b.but c u (a.but c u e n) (a.out e n), fun x h => b.sub x (a.sub x h), fun x h => ?_⟩
  rcases b.new x h with m | m
  · exact a.new x m
  · cases e : H x with
    | none => exact .inr rfl
    | some u =>
      by_cases q : x ∈ p :: l
      · rcases List.mem_cons.mp q with r | q
        · rw [r] at m
          exact absurd m n1
        · exact .inl q
      · rw [a.but x u e q] at m
        cases m
theorem Grow.live {p : Addr} {l l' : List Addr} {H H' : Hp} (g : Grow p l H l' H') (th : ∀ x ∈ p :: l', H' x ≠ none) : Live H H' := fun x n m => by
  by_cases i : x ∈ p :: l
  · rcases List.mem_cons.mp i with r | i
    · exact th x (by rw [r]; simp) m
    · exact th x (List.mem_cons_of_mem _ (g.sub x i)) m
  · cases h : H x with
    | none => exact n h
    | some u => rw [g.but x u h i] at m; cases m
theorem Grow.put {p D : Addr} {l l' : List Addr} {H H' : Hp} {o : HO} (g : Grow p l H l' H') (n : H D = none) : Grow p l H l' (upd H' D o) := ⟨fun c u h m => by
  rw [upd_ne (ne_of_none h n)]
  exact g.but c u h m, g.sub, g.new⟩
/-- new things besides -/
theorem Grow.more {p : Addr} {l l1 : List Addr} {H H1 H2 : Hp} (a : Grow p l H l1 H1) (e : Same H1 H2) : Grow p l H l1 H2 := ⟨fun c u h n => e _ _ (a.but c u h n), a.sub, a.new⟩
theorem fs_inj {m : List Ent} : (fs m).Nodup → ∀ e ∈ m, ∀ e' ∈ m, e.2.2 = e'.2.2 → e = e' := by
  induction m with
  | nil => intro _ e he; cases he
  | cons a m ih =>
    intro n e he e' he' q
    unfold fs at n ih
    rw [List.map_cons, List.nodup_cons] at n
    rcases List.mem_cons.mp he with r | he
    · rcases List.mem_cons.mp he' with r' | he'
      · rw [r, r']
      · rw [r] at q
        exact absurd (List.mem_map.mpr ⟨e', he', q.symm⟩) n.1
    · rcases List.mem_cons.mp he' with r' | he'
      · rw [r'] at q
        exact absurd (List.mem_map.mpr ⟨e, he, q⟩) n.1
      · exact ih n.2 e he e' he' q
section
variable {P : Program} {w : World} {K : PySem.W.Frag} {mg : Str → Option Value} {base : Heap} {C Bo : Addr}
/-- one of the memos was asked -/
theorem memo_step {H H' : Hp} {p q f : Addr} {l : List Addr} {m : List Ent} {s : Mu42.State} {u : List Bool} (h : HouseS C Bo H p l m s) (he : (u, q, f) ∈ m) (c : But [f] H H') (M : MemoAt Bo H' q f u) : HouseS C Bo H' p l m s ∧ Grow p l H l H' := by
  obtain ⟨wf, a, b, D, dx, el, nab, hM, hp, ha, hb⟩ := h
  obtain ⟨⟨_, _, kvs, _, _, hf, _⟩, _⟩ := hM.each _ he
  have hf : H f = some (.dT kvs) := hf
  have nd := hM.apart
  rw [List.nodup_cons] at nd
  have mf : f ∈ fs m := by
    unfold fs
    exact List.mem_map.mpr ⟨_, he, rfl⟩
  have nDf : D ≠ f := fun e => nd.1 (by rw [e]; exact mf)
  have t := c.tk hf
  refine ⟨⟨wf, a, b, D, dx, el, nab, ⟨c.at hM.dict nDf, fun e h => ?_, hM.keys, hM.apart⟩, c.at hp (ne_of hp hf (by intro z; cases z)), c.at ha (ne_of ha hf (by intro z; cases z)), c.at hb (ne_of hb hf (by intro z; cases z))⟩, fun x o h n => c.at h fun r => n ?_, fun _ h => h, fun _ h => .inl h⟩
  · obtain ⟨ma, la⟩ := hM.each e h
    refine ⟨?_, la⟩
    by_cases r : e.2.2 = f
    · have := fs_inj nd.2 e h _ he r
      rw [this]
      exact M
    · obtain ⟨dx', ts, kv, a1, a2, a3, a4⟩ := ma
      exact ⟨dx', ts, kv, c.at a1 (ne_of a1 hf (by intro z; cases z)), t _ _ a2, c.at a3 r, a4.tk t⟩
  · rw [r, el]
    exact List.mem_cons_of_mem _ (List.mem_cons_of_mem _ (List.mem_cons_of_mem _ (List.mem_cons_of_mem _ mf)))
/-- what a call answers that only asked -/
theorem says_grow {H H' : Hp} {p q : Addr} {l l' : List Addr} {m' : List Ent} {s : Mu42.State} {ans : List Int} {Q : VK} (S : Says C Bo H p l (some s, ans) Q) (hS : HouseS C Bo H' p l' m' s) (g : Grow p l H l' H') (nq : H' q = none) : Q (.ref q) (upd H' q (.lst (ans.map V.int))) := by
  have s2 : Same H' (upd H' q (.lst (ans.map V.int))) := same_new nq
  have th := houseS_there hS
  have lv := g.live (fun x h => (th x h).1)
  exact S _ q l' ⟨m', houseS_same s2 hS⟩ (fun c u h n => s2 _ _ (g.but c u h n)) g.new (fun x n => live_same s2 x (lv x n)) (lv.back nq) (fun m => (th q (List.mem_cons_of_mem _ m)).1 nq) upd_same
/-- the same of an answer that another def made -/
theorem says_at {H H' H5 : Hp} {p q : Addr} {l l' : List Addr} {m' : List Ent} {s : Mu42.State} {ans : List Int} {Q : VK} (S : Says C Bo H p l (some s, ans) Q) (hS : HouseS C Bo H' p l' m' s) (g : Grow p l H l' H') (e : Same H' H5) (nq : H' q = none) (eq : H5 q = some (.lst (ans.map V.int))) : Q (.ref q) H5 := by
  have th := houseS_there hS
  have lv := g.live (fun x h => (th x h).1)
  exact S _ q l' ⟨m', houseS_same e hS⟩ (fun c u h n => e _ _ (g.but c u h n)) g.new (fun x n => live_same e x (lv x n)) (lv.back nq) (fun m => (th q (List.mem_cons_of_mem _ m)).1 nq) eq
theorem houseS_put {H : Hp} {p D : Addr} {l : List Addr} {m : List Ent} {s : Mu42.State} {u : HO} {xs : List V} (eD : H D = some (.lst xs)) (n : D ∉ p :: l) (h : HouseS C Bo H p l m s) : HouseS C Bo (upd H D u) p l m s := by
  have k : Kp C H (upd H D u) := fun c v h n1 _ => by
    rw [upd_ne (fun q => n1 xs (by rw [q, eD] at h; exact (Option.some.inj h).symm))]
    exact h
  have g : ∀ c v, H c = some v → c ∈ p :: l → upd H D u c = some v := fun c v h m => by
    rw [upd_ne (fun q => n (by rw [← q]; exact m))]
    exact h
  obtain ⟨wf, a, b, E, dx, el, nab, hM, hp, ha, hb⟩ := h
  exact ⟨wf, a, b, E, dx, el, nab, hM.keep k, g _ _ hp (by simp), g _ _ ha (by rw [el]; simp), g _ _ hb (by rw [el]; simp)⟩
theorem marks_inj {s t : List Bool} (h : mk s = mk t) : s = t := by
  have := congrArg un h
  unfold mk at this
  rw [un_marks, un_marks] at this
  exact this
def allStraws : List (List Bool) := (List.range 6).flatMap fun k => Mu42.straws k k
theorem allStraws_len : allStraws.length = 63 := by decide +kernel
theorem Memos.len {Bo : Addr} {H : Hp} {D : Addr} {m : List Ent} (h : Memos Bo H D m) : m.length ≤ 63 := by
  have q := nodup_le (l := m.map fun e => e.1) (m := allStraws) h.keys fun x hx => by
    obtain ⟨e, he, rfl⟩ := List.mem_map.mp hx
    have l := (h.each e he).2
    unfold allStraws
    exact List.mem_flatMap.mpr ⟨e.1.length, List.mem_range.mpr (by omega), (straws_mem _ _ _).mpr ⟨rfl, cover_le _⟩⟩
  rw [List.length_map, allStraws_len] at q
  exact q
def spOW (C Bo : Addr) : Sp := fun vs H Q _ => ∃ (p t : Addr) (l : List Addr) (m : List Ent) (s : Mu42.State) (u : List Bool), vs = [.ref p, .ref t] ∧ HouseS C Bo H p l m s ∧ H t = some (.tup (vi (mk u))) ∧ u.length ≤ 5 ∧
  ∀ (H' : Hp) (q f : Addr) (l' : List Addr) (m' : List Ent), HouseS C Bo H' p l' m' s → (u, q, f) ∈ m' → Grow p l H l' H' → Q (.ref q) H'
theorem dict_get {m : List Ent} {u : List Bool} {v : V} (e : valV (m.map fun e => (kz (mk e.1), V.ref e.2.1)) (kz (mk u)) = some v) : ∃ q f, v = .ref q ∧ (u, q, f) ∈ m := by
  obtain ⟨x, hx, q⟩ := List.mem_map.mp (valV_mem e)
  rw [Prod.mk.injEq] at q
  have := marks_inj (kz_inj q.1)
  refine ⟨x.2.1, x.2.2, q.2.symm, ?_⟩
  rw [← this]
  exact hx
theorem sc_orders_with : FnScope ["self", "straw"] ["self", "straw"] (defScope s_orders_with) := ⟨rfl, rfl, rfl, by decide +kernel, rfl, by decide +kernel, by decide +kernel⟩
theorem ok_orders_with {f fI : Addr} {fd fdI : FuncData} (F : Fun K "orders_with" "House.orders_with" s_orders_with f fd) (T : TxtH K mg C) (TB : TxtB K mg Bo) (M : Mk K Bo fI) (GI : FnOk P w K mg base CX0 1 fI fdI ["self", "straw"] (spBInit Bo)) (bI : L2.Binds K fdI ["self", "straw"] []) :
    FnOk P w K mg base CX0 3 f fd ["self", "straw"] (spOW C Bo) := by
  refine F.ok sc_orders_with (fun vs H Q E h => ?_) (fun cdv A outer s H vs Q E hr h => ?_)
  · obtain ⟨p, t, l, m, s, u, rfl, _⟩ := h
    rfl
  · obtain ⟨p, t, l, m, st, u, rfl, hS, ht, hu5, fin⟩ := h
    have hu := hu_of hr
    refine ⟨_, pss_cons (ps_if (pt_cmp (pc_dnotin hu (pv 1) (pe_fld (pv 0) rfl)))
        (pss_one (ps_dput hu (pe_fld (pv 0) rfl) (pv 1) (pe_make M GI hr (by rfl) TB.mgB bI .nil pass0 (pa_cons (pv 1) pa_nil)) rfl)) pss_nil)
      (pss_one (ps_ret (pe_dget hu (pe_fld (pv 0) rfl) (pv 1) (fun _ _ => rfl)))), ?_⟩
    obtain ⟨wf, a, b, D, dx, el, nab, hM, hp, ha, hb⟩ := id hS
    have dg : DGet H D (.ref t) (valV (m.map fun e => (kz (mk e.1), V.ref e.2.1)) (kz (mk u))) := DGet.t hM.dict (by rw [kz_vi]; exact ht)
    refine ⟨_, rfl, _, rfl, p, C, dx, _, _, rfl, hp, T.cl, T.nMemo, fl_memo, D, _, rfl, dg, ?_⟩
    cases e : valV (m.map fun e => (kz (mk e.1), V.ref e.2.1)) (kz (mk u)) with
    | some v =>
      obtain ⟨q, f, rfl, me⟩ := dict_get e
      rw [e] at dg
      exact ⟨false, rfl, iteF ⟨_, rfl, p, C, dx, _, _, rfl, hp, T.cl, T.nMemo, fl_memo, _, rfl, D, _, rfl, dg, fin H q f l m hS me (.of_same (Same.refl _))⟩⟩
    | none =>
      refine ⟨true, rfl, iteT ⟨_, rfl, fun q dq nq ndq neq => ⟨q, t, dq, rfl, upd_same, fun H1 f hq hf nf kp => ⟨rfl, ?_⟩⟩⟩⟩
      have s1 : Same H H1 := Same.made nq ndq kp
      have nfH : H f = none := by
        cases e : H f with
        | none => rfl
        | some o =>
          have nfq : f ≠ q := ne_of_none e nq
          rw [upd_ne nfq, upd_ne (ne_of_none e ndq)] at nf
          rw [e] at nf
          cases nf
      have ntD : ∀ {c : Addr} {v : HO}, H c = some v → (∀ kv, v ≠ .dT kv) → c ≠ D := fun e n r => by
        rw [r, hM.dict] at e
        exact n _ (Option.some.inj e).symm
      have nDf : f ≠ D := fun r => by rw [r, hM.dict] at nfH; cases nfH
      have szl : sizeLine = 16777216 := sizeLine_eq
      have ht1 := s1 _ _ ht
      refine ⟨_, rfl, p, C, dx, _, _, rfl, s1 _ _ hp, T.cl, T.nMemo, fl_memo, _, rfl, D, _, rfl, DPut.t (k := kz (mk u)) (s1 _ _ hM.dict) (by rw [kz_vi]; exact ht1) (by have := hM.len; rw [List.length_map]; omega), ?_⟩
      rw [putK_new _ e]
      have ed : (m.map fun e => (kz (mk e.1), V.ref e.2.1)) ++ [(kz (mk u), V.ref q)] = (m ++ [(u, q, f)]).map fun e => (kz (mk e.1), V.ref e.2.1) := by rw [List.map_append]; rfl
      rw [ed]
      generalize hH2 : upd H1 D _ = H2
      have e2D : H2 D = some (.dT ((m ++ [(u, q, f)]).map fun e => (kz (mk e.1), V.ref e.2.1))) := by rw [← hH2, upd_same]
      have k2 : ∀ c v, H1 c = some v → c ≠ D → H2 c = some v := fun c v e n => by rw [← hH2, upd_ne n]; exact e
      have k1 : ∀ c v, H c = some v → c ≠ D → H2 c = some v := fun c v e n => k2 c v (s1 _ _ e) n
      have t2 : Tk H H2 := fun c xs e => k1 _ _ e (ntD e (fun _ q => by cases q))
      have nd := hM.apart
      rw [List.nodup_cons] at nd
      have M2 : Memos Bo H2 D (m ++ [(u, q, f)]) := by
        refine ⟨e2D, fun x hx => ?_, ?_, ?_⟩
        · rcases List.mem_append.mp hx with hx | hx
          · obtain ⟨⟨dx', ts, kv, a1, a2, a3, a4⟩, la⟩ := hM.each x hx
            refine ⟨⟨dx', ts, kv, k1 _ _ a1 (ntD a1 (fun _ q => by cases q)), t2 _ _ a2, k1 _ _ a3 (fun r => nd.1 ?_), a4.tk t2⟩, la⟩
            rw [← r]
            unfold fs
            exact List.mem_map.mpr ⟨x, hx, rfl⟩
          · rw [List.mem_singleton.mp hx]
            have nqD : q ≠ D := fun r => by rw [r, hM.dict] at nq; cases nq
            exact ⟨⟨dq, t, [], k2 _ _ hq nqD, t2 _ _ ht, k2 _ _ hf nDf, List.nodup_nil, (fun _ h => nomatch h)⟩, hu5⟩
        · rw [List.map_append]
          refine nodup_snoc hM.keys fun mm => ?_
          obtain ⟨x, hx, rx⟩ := List.mem_map.mp mm
          refine valV_no e (List.mem_map.mpr ⟨_, List.mem_map.mpr ⟨x, hx, rfl⟩, ?_⟩)
          show kz (mk x.1) = kz (mk u)
          rw [rx]
        · have ef : D :: fs (m ++ [(u, q, f)]) = (D :: fs m) ++ [f] := by
            unfold fs
            rw [List.map_append]
            rfl
          rw [ef]
          refine nodup_snoc hM.apart fun mm => ?_
          obtain ⟨kv, ek⟩ := hM.dicts f mm
          rw [ek] at nfH
          cases nfH
      have S2 : HouseS C Bo H2 p (l ++ [f]) (m ++ [(u, q, f)]) st := by
        refine ⟨wf, a, b, D, dx, ?_, nab, M2, k1 _ _ hp (ntD hp (fun _ q => by cases q)), k1 _ _ ha (ntD ha (fun _ q => by cases q)), k1 _ _ hb (ntD hb (fun _ q => by cases q))⟩
        rw [el]
        unfold fs
        rw [List.map_append]
        rfl
      have G2 : Grow p l H (l ++ [f]) H2 := by
        refine ⟨fun c v e n => k1 c v e fun r => n ?_, fun x h => List.mem_append_left _ h, fun x h => ?_⟩
        · rw [r, el]
          simp
        · rcases List.mem_append.mp h with h | h
          · exact .inl h
          · rw [List.mem_singleton.mp h]
            exact .inr nfH
      have dg2 : DGet H2 D (.ref t) (valV ((m ++ [(u, q, f)]).map fun e => (kz (mk e.1), V.ref e.2.1)) (kz (mk u))) := DGet.t e2D (by rw [kz_vi]; exact t2 _ _ ht)
      have ev : valV ((m ++ [(u, q, f)]).map fun e => (kz (mk e.1), V.ref e.2.1)) (kz (mk u)) = some (.ref q) := by
        rw [← ed, ← putK_new _ e, valV_put, if_pos rfl]
      rw [ev] at dg2
      exact ⟨_, rfl, p, C, dx, _, _, rfl, k1 _ _ hp (ntD hp (fun _ q => by cases q)), T.cl, T.nMemo, fl_memo, _, rfl, D, _, rfl, dg2, fin H2 q f _ _ S2 (List.mem_append_right _ (by simp)) G2⟩
/-! ### the memo of the straw that lies -/
def spOrd (C Bo : Addr) : Sp := fun vs H Q _ => ∃ (p : Addr) (l : List Addr) (m : List Ent) (s : Mu42.State), vs = [.ref p] ∧ HouseS C Bo H p l m s ∧
  ∀ (H' : Hp) (q f : Addr) (l' : List Addr) (m' : List Ent), HouseS C Bo H' p l' m' s → (s.straw, q, f) ∈ m' → Grow p l H l' H' → Q (.ref q) H'
theorem sc_orders : FnScope ["self"] ["self"] (defScope s_orders) := ⟨rfl, rfl, rfl, by decide +kernel, rfl, by decide +kernel, by decide +kernel⟩
theorem ok_orders {f : Addr} {fd : FuncData} (F : Fun K "orders" "House.orders" s_orders f fd) (T0 : Txt K mg) (T : TxtH K mg C) (C1 : MCallee P w K mg base C "orders_with" ["self", "straw"] 3 (spOW C Bo)) : FnOk P w K mg base CX0 4 f fd ["self"] (spOrd C Bo) := by
  obtain ⟨f1, fd1, G1, m1, b1⟩ := C1.ex
  refine F.ok sc_orders (fun vs H Q E h => ?_) (fun cdv A outer s H vs Q E hr h => ?_)
  · obtain ⟨p, l, m, s, rfl, _⟩ := h
    rfl
  · obtain ⟨p, l, m, st, rfl, hS, fin⟩ := h
    refine ⟨_, pss_one (ps_ret (pe_meth (pv 0) T.cl m1 G1 hr b1 .nil pass0 (pa_cons (pe_callTy call_tuple_of (by rfl) T0.tuple (by decide +kernel) (pa_cons (pe_fld (pv 0) rfl) pa_nil)) pa_nil))), ?_⟩
    obtain ⟨wf, a, b, D, dx, el, nab, hM, hp, ha, hb⟩ := id hS
    refine ⟨_, rfl, p, dx, _, rfl, hp, fl_no (by decide +kernel) (by decide +kernel) (by decide +kernel) (by decide +kernel) (by decide +kernel) (by decide +kernel), _, rfl, p, C, dx, _, _, rfl, hp, T.cl, T.nStraw, fl_straw, b, _, rfl, .inl ⟨.inl (.inl hb), fun t nt => ?_⟩⟩
    have s1 : Same H (upd H t (.tup (vi (mk st.straw)))) := same_new nt
    refine ⟨p, t, l, m, st, st.straw, rfl, houseS_same s1 hS, upd_same, by rw [← wf.len]; exact wf.five, fun H' q f l' m' h1 h2 g => fin H' q f l' m' h1 h2 ⟨fun c u e n => g.but c u (s1 _ _ e) n, g.sub, fun x h => (g.new x h).imp id s1.free⟩⟩
end
end Ice
namespace Ice
open PySem PySem.Spec PyProof.Rows L2
theorem Grow.pre {p : Addr} {l l' : List Addr} {H H1 H' : Hp} (e : Same H H1) (g : Grow p l H1 l' H') : Grow p l H l' H' := ⟨fun c u h n => g.but c u (e _ _ h) n, g.sub, fun x h => (g.new x h).imp id e.free⟩
theorem nums_vi (l : List Nat) : (Mu42.nums l).map V.int = vi l := by
  unfold Mu42.nums vi
  rw [List.map_map]
  rfl
theorem vi_append (l m : List Nat) : vi (l ++ m) = vi l ++ vi m := by
  unfold vi
  rw [List.map_append]
section
variable {P : Program} {w : World} {K : PySem.W.Frag} {mg : Str → Option Value} {base : Heap} {C Bo : Addr}
theorem sc_hbest : FnScope ["self"] ["self"] (defScope s_best) := ⟨rfl, rfl, rfl, by decide +kernel, rfl, by decide +kernel, by decide +kernel⟩
theorem ok_hbest {f : Addr} {fd : FuncData} (F : Fun K "best" "House.best" s_best f fd) (T0 : Txt K mg) (T : TxtH K mg C) (TB : TxtB K mg Bo) (C1 : MCallee P w K mg base C "orders" ["self"] 4 (spOrd C Bo)) (C2 : MCallee P w K mg base Bo "best" ["self", "heap"] 36 (spBest Bo)) : FnOk P w K mg base CX0 37 f fd ["self"] (spM0 C Bo .best) := by
  obtain ⟨f1, fd1, G1, m1, b1⟩ := C1.ex
  obtain ⟨f2, fd2, G2, m2, b2⟩ := C2.ex
  refine F.ok sc_hbest (fun vs H Q E h => ?_) (fun cdv A outer s H vs Q E hr h => ?_)
  · obtain ⟨p, l, s, rfl, _⟩ := h
    rfl
  · obtain ⟨p, l, st, rfl, ⟨m, hS⟩, S⟩ := h
    have hr4 : Room 4 _ := hr.mono (by decide)
    refine ⟨_, pss_one (ps_ret (pe_callTy call_list_of (by rfl) T0.list (by decide +kernel) (pa_cons (pe_meth (pe_meth0 (pv 0) T.cl m1 G1 hr4 b1 .nil pass0) TB.cl m2 G2 hr b2 .nil pass0 (pa_cons (pe_callTy call_tuple_of (by rfl) T0.tuple (by decide +kernel) (pa_cons (pe_fld (pv 0) rfl) pa_nil)) pa_nil)) pa_nil))), ?_⟩
    obtain ⟨wf, a, b, D, dx, el, nab, hM, hp, ha, hb⟩ := id hS
    refine ⟨_, rfl, p, dx, _, rfl, hp, fl_no (by decide +kernel) (by decide +kernel) (by decide +kernel) (by decide +kernel) (by decide +kernel) (by decide +kernel), p, l, m, st, rfl, hS, fun H1 q f l1 m1 S1 me g1 => ?_⟩
    obtain ⟨_, a1, b1, D1, dx1, el1, nab1, hM1, hp1, ha1, hb1⟩ := id S1
    have M1 := (hM1.each _ me).1
    obtain ⟨dq, ts, kvs, hq, hts, hf, hF⟩ := id M1
    refine ⟨q, dq, _, rfl, hq, fb_no (by decide +kernel) (by decide +kernel), _, rfl, p, C, dx1, _, _, rfl, hp1, T.cl, T.nHeap, fl_heap, a1, _, rfl, .inl ⟨.inl (.inl ha1), fun t nt => ?_⟩⟩
    have s2 : Same H1 (upd H1 t (.tup (vi st.heap))) := same_new nt
    refine ⟨q, f, t, st.straw, st.heap, rfl, M1.same s2, upd_same, wf.ok, wf.five, fun H3 r c3 M3 er => ?_⟩
    obtain ⟨S3, g3⟩ := memo_step (houseS_same s2 S1) me c3 M3
    have G := (g1.more s2).trans (fun q => by rw [s2 _ _ hp1] at q; cases q) g3
    exact ⟨r, _, rfl, .inr (.inl (.inl er)), fun z nz => says_grow S S3 G nz⟩
def spFO (C Bo : Addr) : Sp := fun vs H Q _ => ∃ (p : Addr) (l : List Addr) (m : List Ent) (s : Mu42.State), vs = [.ref p] ∧ HouseS C Bo H p l m s ∧
  ∀ (H' : Hp) (D : Addr) (l' : List Addr) (m' : List Ent), HouseS C Bo H' p l' m' s → Grow p l H l' H' → H D = none → D ∉ p :: l' → H' D = some (.lst (vi (Mu42.order s.heap s.straw))) → Q (.ref D) H'
theorem sc_first_order : FnScope ["self"] ["self"] (defScope s_first_order) := ⟨rfl, rfl, rfl, by decide +kernel, rfl, by decide +kernel, by decide +kernel⟩
theorem ok_first_order {f : Addr} {fd : FuncData} (F : Fun K "first_order" "House.first_order" s_first_order f fd) (T0 : Txt K mg) (T : TxtH K mg C) (TB : TxtB K mg Bo) (C1 : MCallee P w K mg base C "orders" ["self"] 4 (spOrd C Bo)) (C2 : MCallee P w K mg base Bo "first" ["self", "heap"] 36 (spFirst Bo)) : FnOk P w K mg base CX0 37 f fd ["self"] (spFO C Bo) := by
  obtain ⟨f1, fd1, G1, m1, b1⟩ := C1.ex
  obtain ⟨f2, fd2, G2, m2, b2⟩ := C2.ex
  refine F.ok sc_first_order (fun vs H Q E h => ?_) (fun cdv A outer s H vs Q E hr h => ?_)
  · obtain ⟨p, l, m, s, rfl, _⟩ := h
    rfl
  · obtain ⟨p, l, m, st, rfl, hS, fin⟩ := h
    have hr4 : Room 4 _ := hr.mono (by decide)
    refine ⟨_, pss_one (ps_ret (pe_meth (pe_meth0 (pv 0) T.cl m1 G1 hr4 b1 .nil pass0) TB.cl m2 G2 hr b2 .nil pass0 (pa_cons (pe_callTy call_tuple_of (by rfl) T0.tuple (by decide +kernel) (pa_cons (pe_fld (pv 0) rfl) pa_nil)) pa_nil))), ?_⟩
    obtain ⟨wf, a, b, D, dx, el, nab, hM, hp, ha, hb⟩ := id hS
    refine ⟨_, rfl, p, dx, _, rfl, hp, fl_no (by decide +kernel) (by decide +kernel) (by decide +kernel) (by decide +kernel) (by decide +kernel) (by decide +kernel), p, l, m, st, rfl, hS, fun H1 q f l1 m1 S1 me g1 => ?_⟩
    obtain ⟨_, a1, b1, D1, dx1, el1, nab1, hM1, hp1, ha1, hb1⟩ := id S1
    have M1 := (hM1.each _ me).1
    obtain ⟨dq, ts, kvs, hq, hts, hf, hF⟩ := id M1
    refine ⟨q, dq, _, rfl, hq, fb_no (by decide +kernel) (by decide +kernel), _, rfl, p, C, dx1, _, _, rfl, hp1, T.cl, T.nHeap, fl_heap, a1, _, rfl, .inl ⟨.inl (.inl ha1), fun t nt => ?_⟩⟩
    have s2 : Same H1 (upd H1 t (.tup (vi st.heap))) := same_new nt
    refine ⟨q, f, t, st.straw, st.heap, rfl, M1.same s2, upd_same, wf.ok, wf.five, fun H3 r c3 nr M3 er => ?_⟩
    have S2 := houseS_same s2 S1
    obtain ⟨S3, g3⟩ := memo_step S2 me c3 M3
    have G := (g1.more s2).trans (fun q => by rw [s2 _ _ hp1] at q; cases q) g3
    have out : r ∉ p :: l1 := fun h => (houseS_there S2 r h).1 nr
    refine fin H3 r l1 m1 S3 G ?_ out er
    cases e : H r with
    | none => rfl
    | some v =>
      by_cases q : r ∈ p :: l
      · exfalso
        rcases List.mem_cons.mp q with r' | q
        · exact out (by rw [r']; simp)
        · exact out (List.mem_cons_of_mem _ (g1.sub r q))
      · rw [s2 _ _ (g1.but r v e q)] at nr
        cases nr
theorem sc_order : FnScope ["self", "order"] ["self"] (defScope s_order) := ⟨rfl, rfl, rfl, by decide +kernel, rfl, by decide +kernel, by decide +kernel⟩
theorem ok_order {f : Addr} {fd : FuncData} (F : Fun K "order" "House.order" s_order f fd) (T0 : Txt K mg) (T : TxtH K mg C) (C1 : MCallee P w K mg base C "first_order" ["self"] 37 (spFO C Bo)) : FnOk P w K mg base CX0 38 f fd ["self"] (spM0 C Bo .order) := by
  obtain ⟨f1, fd1, G1, m1, b1⟩ := C1.ex
  refine F.ok sc_order (fun vs H Q E h => ?_) (fun cdv A outer s H vs Q E hr h => ?_)
  · obtain ⟨p, l, s, rfl, _⟩ := h
    rfl
  · obtain ⟨p, l, st, rfl, ⟨m, hS⟩, S⟩ := h
    refine ⟨_, pss_cons (ps_set (i := 1) sc_order.nd rfl (Or.inl rfl) (pe_meth0 (pv 0) T.cl m1 G1 hr b1 .nil pass0))
      (pss_one (ps_ret (pe_op op_cat (pe_lst (pa_cons (pe_callB call_len_seq (by rfl) T0.len PySem.boot_len (pa_cons (pv 1) pa_nil)) pa_nil)) (pv 1)))), ?_⟩
    obtain ⟨wf, a, b, D, dx, el, nab, hM, hp, ha, hb⟩ := id hS
    refine ⟨_, rfl, p, dx, _, rfl, hp, fl_no (by decide +kernel) (by decide +kernel) (by decide +kernel) (by decide +kernel) (by decide +kernel) (by decide +kernel), p, l, m, st, rfl, hS, fun H1 r l1 m1 S1 g1 nr out er => ?_⟩
    have szl : sizeLine = 16777216 := sizeLine_eq
    have ol := order_len (s := st.straw) _ wf.ok rfl
    have tl := total_lt wf.ok wf.five
    refine ⟨_, rfl, r, _, rfl, .inl (.inl (.inl er)), (by show 1 ≤ sizeLine; decide), fun z nz => ?_⟩
    rw [vi_len]
    have s2 : Same H1 (upd H1 z (.lst [V.int ((Mu42.order st.heap st.straw).length : Nat)])) := same_new nz
    refine ⟨_, rfl, z, r, _, _, rfl, rfl, upd_same, s2 _ _ er, ?_, fun q nq => ?_⟩
    · rw [vi_len]
      show 1 + _ ≤ _
      omega
    have G := g1.more s2
    have e : [V.int ((Mu42.order st.heap st.straw).length : Nat)] ++ vi (Mu42.order st.heap st.straw) = (Mu42.nums ((Mu42.order st.heap st.straw).length :: Mu42.order st.heap st.straw)).map V.int := by
      rw [nums_vi]
      rfl
    rw [e]
    exact says_grow S (houseS_same s2 S1) G nq
theorem sc_look : FnScope ["self", "taken"] ["self"] (defScope s_look) := ⟨rfl, rfl, rfl, by decide +kernel, rfl, by decide +kernel, by decide +kernel⟩
theorem ok_look {f : Addr} {fd : FuncData} (F : Fun K "look" "House.look" s_look f fd) (T : TxtH K mg C) : FnOk P w K mg base CX0 1 f fd ["self"] (spM0 C Bo .look) := by
  refine F.ok sc_look (fun vs H Q E h => ?_) (fun cdv A outer s H vs Q E hr h => ?_)
  · obtain ⟨p, l, s, rfl, _⟩ := h
    rfl
  · obtain ⟨p, l, st, rfl, hh, S⟩ := h
    refine ⟨_, pss_cons (ps_set (i := 1) sc_look.nd rfl (Or.inl rfl) (pe_fld (pv 0) rfl))
      (pss_one (ps_ret (pe_op op_cat (pe_op op_cat (pe_lst (pa_cons (pe_fld (pv 0) rfl) (pa_cons (pe_fld (pv 0) rfl) (pa_cons (pv 1) (pa_cons (pe_fld (pv 0) rfl) pa_nil))))) (pe_fld (pv 0) rfl)) (pe_fld (pv 0) rfl)))), ?_⟩
    obtain ⟨m, wf, a, b, D, dx, el, nab, hM, hp, ha, hb⟩ := id hh
    have szl : sizeLine = 16777216 := sizeLine_eq
    have w5 := wf.five
    have wl := wf.len
    refine ⟨_, rfl, p, C, dx, _, _, rfl, hp, T.cl, T.nDay, fl_day, _, rfl, p, C, dx, _, _, rfl, hp, T.cl, T.nDay, fl_day, _, rfl, p, C, dx, _, _, rfl, hp, T.cl, T.nBrought, fl_brought, _, rfl, _, rfl, p, C, dx, _, _, rfl, hp, T.cl, T.nMelted, fl_melted, (by show 4 ≤ sizeLine; decide), fun x nx => ?_⟩
    have s1 : Same H (upd H x (.lst [V.int st.day, V.int st.brought, V.int st.day, V.int st.melted])) := same_new nx
    refine ⟨_, rfl, p, C, dx, _, _, rfl, s1 _ _ hp, T.cl, T.nHeap, fl_heap, x, a, _, _, rfl, rfl, upd_same, s1 _ _ ha, ?_, fun y ny => ?_⟩
    · rw [vi_len]
      show 4 + _ ≤ _
      omega
    have s2 := s1.trans (same_new (o := .lst ([V.int st.day, V.int st.brought, V.int st.day, V.int st.melted] ++ vi st.heap)) ny)
    refine ⟨_, rfl, p, C, dx, _, _, rfl, s2 _ _ hp, T.cl, T.nStraw, fl_straw, y, b, _, _, rfl, rfl, upd_same, s2 _ _ hb, ?_, fun q nq => ?_⟩
    · rw [List.length_append, vi_len, vi_len, mk_len]
      show 4 + _ + _ ≤ _
      omega
    have e : [V.int st.day, V.int st.brought, V.int st.day, V.int st.melted] ++ vi st.heap ++ vi (mk st.straw) = (Mu42.nums ([st.day, st.brought, st.gone, st.melted] ++ st.heap ++ Mu42.marks st.straw)).map V.int := by
      rw [nums_vi, vi_append, vi_append, wf.gone]
      rfl
    rw [e]
    exact says_same hh S s2 nq
end
end Ice
namespace Ice
open PySem PySem.Spec PyProof.Rows L2
section
variable {P : Program} {w : World} {K : PySem.W.Frag} {mg : Str → Option Value} {base : Heap} {C Bo : Addr}
def spWater (C Bo : Addr) : Sp := fun vs H Q _ => ∃ (p g : Addr) (l : List Addr) (s : Mu42.State) (os : List Nat), vs = [.ref p, .ref g] ∧ HouseAt C Bo H p l (some s) ∧ H g = some (.lst (vi os)) ∧ os.length ≤ 24 ∧ Says C Bo H p l (Mu42.step (some s) (.water os)) Q
theorem drop_at {α : Type} {l : List α} {i : Nat} {x : α} (h : l[i]? = some x) : l.drop i = x :: l.drop (i + 1) := by
  obtain ⟨a, rfl⟩ := List.getElem?_eq_some_iff.mp h
  exact (List.getElem_cons_drop (h := a)).symm
theorem sc_water : FnScope ["self", "order", "column", "rest", "water"] ["self", "order"] (defScope s_water) := ⟨rfl, rfl, rfl, by decide +kernel, rfl, by decide +kernel, by decide +kernel⟩
theorem ok_water {f : Addr} {fd : FuncData} (F : Fun K "water" "House.water" s_water f fd) (T0 : Txt K mg) (T : TxtH K mg C) (C1 : MCallee P w K mg base C "has_column" ["self", "column"] 1 (spHas C Bo)) (C2 : Callee P w K mg base "open_faces" ["heap", "straw"] 2 (spNum2 K Mu42.faces)) : FnOk P w K mg base CX0 3 f fd ["self", "order"] (spWater C Bo) := by
  obtain ⟨f1, fd1, G1, m1, b1⟩ := C1.ex
  obtain ⟨f2, fd2, G2, m2, k2, b2⟩ := C2.ex
  obtain ⟨tA, mA⟩ := T.noB
  obtain ⟨tN, mN⟩ := T.noC
  refine F.ok sc_water (fun vs H Q E h => ?_) (fun cdv A outer s H vs Q E hr h => ?_)
  · obtain ⟨p, g, l, s, os, rfl, _⟩ := h
    rfl
  · obtain ⟨p, g, l, st, os, rfl, hh, eg, hos, S⟩ := h
    have hr1 : Room 1 _ := hr.mono (by decide)
    refine ⟨_, pss_cons (ps_for PassesOwn.never rfl (pi_list (pv 1)) (pg_name (i := 2) sc_water.nd rfl (Or.inl rfl))
        (pss_one (ps_if (pt_not (pt_val (pe_meth (pv 0) T.cl m1 G1 hr1 b1 .nil pass0 (pa_cons (pv 2) pa_nil)))) (pss_one (ps_ret (pe_lst (pa_cons (pe_glob (v := V.int (-2)) (by rfl) mN ⟨_, rfl⟩) pa_nil)))) pss_nil)))
      (pss_cons (ps_set (i := 3) sc_water.nd rfl (Or.inl rfl) (pe_callTy call_list_of (by rfl) T0.list (by decide +kernel) (pa_cons (pe_fld (pv 0) rfl) pa_nil)))
      (pss_cons (ps_set (i := 4) sc_water.nd rfl (Or.inl rfl) pe_int)
      (pss_cons (ps_for PassesOwn.never rfl (pi_list (pv 1)) (pg_name (i := 2) sc_water.nd rfl (Or.inl rfl))
        (pss_cons (ps_if (pt_cmpR op_eq (pe_ix ix_list (pv 3) (pv 2) (fun _ _ => rfl)) pe_int (nomark _)) (pss_one (ps_ret (pe_lst (pa_cons (pe_glob (v := V.int (-6)) (by rfl) mA ⟨_, rfl⟩) pa_nil)))) pss_nil)
        (pss_cons (ps_augS (pv 3) (pv 2) get_list pe_int ip_sub set_list)
        (pss_one (ps_aug (i := 4) sc_water.nd rfl (Or.inl rfl) (pe_call G2 hr (by rfl) m2 k2 b2 .nil pass0 (pa_cons (pv 3) (pa_cons (pe_fld (pv 0) rfl) pa_nil))) ip_add)))))
      (pss_one (ps_ret (pe_lst (pa_cons (pv 4) pa_nil))))))), ?_⟩
    obtain ⟨mm, wf, a, b, DD, dx, el, nab, hM, hp, ha, hb⟩ := id hh
    have no : Mu42.step (some st) (.water os) = (some st, if os.any (fun (i : Nat) => decide (st.heap.length ≤ i)) = true then [-2] else match Mu42.water st.straw st.heap os with
      | none => [-6]
      | some n => [(n : Int)]) := rfl
    rw [no] at S
    refine ⟨_, rfl, g, rfl, ⟨_, .inl (.inl eg)⟩, for_list (K := K) (a := g) (xs := vi os) (fun i σ H' => ∃ v2, σ = [some (.ref p), some (.ref g), v2, none, none] ∧ H' = H ∧ ∀ j ∈ os.take i, j < st.heap.length) ⟨none, rfl, rfl, by simp⟩ ?_ ?_ ?_⟩
    · rintro i σ H' _ ⟨v2, rfl, rfl, _⟩
      exact .inl (.inl eg)
    · rintro i x σ H' hx ⟨v2, rfl, rfl, hj⟩
      obtain ⟨c, hc, rfl⟩ := vi_at hx
      refine ⟨_, rfl, p, dx, _, rfl, hp, fl_no (by decide +kernel) (by decide +kernel) (by decide +kernel) (by decide +kernel) (by decide +kernel) (by decide +kernel), _, rfl, p, l, st, c, rfl, hh, _, rfl, ?_⟩
      by_cases ci : c < st.heap.length
      · rw [decide_eq_true ci]
        refine iteF ⟨_, rfl, rfl, fun j hj' => ?_⟩
        rw [take_snoc hc] at hj'
        rcases List.mem_append.mp hj' with q | q
        · exact hj j q
        · rw [List.mem_singleton.mp q]; exact ci
      · rw [decide_eq_false ci]
        have an : os.any (fun (i : Nat) => decide (st.heap.length ≤ i)) = true := List.any_eq_true.mpr ⟨c, List.mem_of_getElem? hc, decide_eq_true (by omega)⟩
        rw [if_pos an] at S
        exact iteT ⟨(by show 1 ≤ sizeLine; decide), fun q nq => says_same hh S (Same.refl _) nq⟩
    · rintro σ H' ⟨v2, rfl, rfl, hj⟩
      rw [vi_len, List.take_length] at hj
      have an : ¬ os.any (fun (i : Nat) => decide (st.heap.length ≤ i)) = true := fun q => by
        obtain ⟨c, hc, d⟩ := List.any_eq_true.mp q
        have := hj c hc
        have := of_decide_eq_true d
        omega
      rw [if_neg an] at S
      refine ⟨_, rfl, p, C, dx, _, _, rfl, hp, T.cl, T.nHeap, fl_heap, a, _, rfl, .inl (.inl (.inl ha)), fun R nR => ?_⟩
      have s1 : Same H' (upd H' R (.lst (vi st.heap))) := same_new nR
      refine ⟨_, rfl, g, rfl, ⟨_, .inl (.inl (s1 _ _ eg))⟩, for_list (K := K) (a := g) (xs := vi os) (fun i σ H2 => ∃ v2 r n, σ = [some (.ref p), some (.ref g), v2, some (.ref R), some (.int (n : Nat))] ∧ Same H' H2 ∧ H2 R = some (.lst (vi r)) ∧ r.length = st.heap.length ∧ Mu42.water st.straw st.heap os = (Mu42.water st.straw r (os.drop i)).map fun k => n + k)
        ⟨v2, st.heap, 0, rfl, s1, upd_same, rfl, by rw [List.drop_zero]; cases Mu42.water st.straw st.heap os <;> simp⟩ ?_ ?_ ?_⟩
      · rintro i σ H2 _ ⟨v2, r, n, rfl, e2, _⟩
        exact .inl (.inl (e2 _ _ eg))
      · rintro i x σ H2 hx ⟨v2, r, n, rfl, e2, eR, rl, ew⟩
        obtain ⟨c, hc, rfl⟩ := vi_at hx
        have cl : c < r.length := by rw [rl]; exact hj c (List.mem_of_getElem? hc)
        obtain ⟨z, hz, hzd⟩ := getD_at cl
        rw [drop_at hc] at ew
        have ew2 : Mu42.water st.straw st.heap os = (if r.getD c 0 = 0 then none else (Mu42.water st.straw (Mu42.taken r c) (os.drop (i + 1))).map fun (k : Nat) => Mu42.faces (Mu42.taken r c) st.straw + k).map fun k => n + k := ew
        rw [hzd] at ew2
        refine ⟨_, rfl, _, rfl, R, _, _, _, rfl, rfl, .inl (.inl eR), atI_nat (vi_get hz), rfl, _, rfl, ?_⟩
        refine ite2 (fun c1 => ?_) (fun c1 => ?_)
        · have z0 := V.int.inj (of_decide_eq_true c1)
          rw [if_pos (by omega)] at ew2
          rw [show Mu42.water st.straw st.heap os = none from ew2] at S
          exact ⟨(by show 1 ≤ sizeLine; decide), fun q nq => says_same hh S e2 nq⟩
        · have nz : z ≠ 0 := fun q => c1 (by rw [q]; rfl)
          rw [if_neg nz] at ew2
          have ix : ixN (vi r).length (c : Int) = some c := by
            unfold ixN
            rw [vi_len, if_pos (by omega), if_pos (by omega)]
            rfl
          refine ⟨_, rfl, _, rfl, R, _, c, _, rfl, rfl, .inl (.inl eR), vi_get hz, _, _, rfl, rfl, R, _, _, c, rfl, rfl, eR, ix, ?_⟩
          have eh : (vi r).set c (V.int ((fun (i j : Int) => i - j) (z : Int) 1)) = vi (Mu42.taken r c) := vi_tk hz nz
          rw [eh]
          have s3 : Same H' (upd H2 R (.lst (vi (Mu42.taken r c)))) := same_put e2 nR
          refine ⟨_, rfl, _, rfl, _, rfl, p, C, dx, _, _, rfl, s3 _ _ hp, T.cl, T.nStraw, fl_straw, R, b, true, true, Mu42.taken r c, st.straw, rfl, .inl (.inl upd_same), .inl (.inl (s3 _ _ hb)), by rw [taken_length, rl]; have := wf.five; omega, fun H4 e4 => ?_⟩
          refine ⟨_, _, rfl, rfl, _, Mu42.taken r c, n + Mu42.faces (Mu42.taken r c) st.straw, rfl, s3.trans e4, e4 _ _ upd_same, by rw [taken_length]; exact rl, ?_⟩
          rw [ew2]
          cases Mu42.water st.straw (Mu42.taken r c) (os.drop (i + 1)) with
          | none => rfl
          | some k =>
            show some (n + (Mu42.faces (Mu42.taken r c) st.straw + k)) = some (n + Mu42.faces (Mu42.taken r c) st.straw + k)
            rw [Nat.add_assoc]
      · rintro σ H2 ⟨v2, r, n, rfl, e2, eR, rl, ew⟩
        rw [vi_len, List.drop_length] at ew
        have ew2 : Mu42.water st.straw st.heap os = some n := ew
        rw [ew2] at S
        exact ⟨_, rfl, (by show 1 ≤ sizeLine; decide), fun q nq => says_same hh S e2 nq⟩
end
end Ice
namespace Ice
open PySem PySem.Spec PyProof.Rows L2
section
variable {P : Program} {w : World} {K : PySem.W.Frag} {mg : Str → Option Value} {base : Heap} {C Bo : Addr}
theorem min_nat (n k : Nat) : (if ((k : Nat) : Int) < ((n : Nat) : Int) then ((k : Nat) : Int) else ((n : Nat) : Int)) = ((min n k : Nat) : Int) := by
  split <;> omega
theorem Tups.keep {H H' : Hp} : ∀ {ps : List Addr} {hs : List (List Nat)}, (∀ c xs, H c = some (.tup xs) → H' c = some (.tup xs)) → Tups H ps hs → Tups H' ps hs := fun t h => Tups.tk t h
/-- tuples stay when a house grows -/
theorem Grow.tk {p : Addr} {l l' : List Addr} {m : List Ent} {s : Mu42.State} {H H' : Hp} (g : Grow p l H l' H') (h : HouseS C Bo H p l m s) : Tk H H' := fun c xs e => g.keep e fun m => (houseS_there h c m).2 xs e
theorem sc_lay : FnScope ["self", "n", "columns", "heap", "ways", "way"] ["self", "n"] (defScope s_lay) := ⟨rfl, rfl, rfl, by decide +kernel, rfl, by decide +kernel, by decide +kernel⟩
theorem ok_lay {f : Addr} {fd : FuncData} (F : Fun K "lay" "House.lay" s_lay f fd) (T0 : Txt K mg) (T : TxtH K mg C) (TB : TxtB K mg Bo) (C1 : Callee P w K mg base "rows_of" ["columns", "most", "total"] 1 spRows) (C2 : Callee P w K mg base "first_of_least" ["rows", "waters"] 1 spLeast)
    (C3 : MCallee P w K mg base C "orders_with" ["self", "straw"] 3 (spOW C Bo)) (C4 : MCallee P w K mg base Bo "best" ["self", "heap"] 36 (spBest Bo)) : FnOk P w K mg base CX0 37 f fd ["self", "n"] (spM1 C Bo .lay) := by
  obtain ⟨f1, fd1, G1, m1, k1, b1⟩ := C1.ex
  obtain ⟨f2, fd2, G2, m2, k2, b2⟩ := C2.ex
  obtain ⟨f3, fd3, G3, m3, b3⟩ := C3.ex
  obtain ⟨f4, fd4, G4, m4, b4⟩ := C4.ex
  obtain ⟨tA, mA⟩ := T.notA
  obtain ⟨tC, mC⟩ := T0.mostC
  refine F.ok sc_lay (fun vs H Q E h => ?_) (fun cdv A outer s H vs Q E hr h => ?_)
  · obtain ⟨p, l, s, n, rfl, _⟩ := h
    rfl
  · obtain ⟨p, l, st, n, rfl, hh, S⟩ := h
    have hr1 : Room 1 _ := hr.mono (by decide)
    have hr3 : Room 3 _ := hr.mono (by decide)
    refine ⟨_, pss_cons (ps_if (pt_cmpR op_gt (pv 1) (pe_glob (v := V.int 5) (by rfl) mC ⟨_, rfl⟩) (nomark _)) (pss_one (ps_ret (pe_lst (pa_cons (pe_glob (v := V.int (-1)) (by rfl) mA ⟨_, rfl⟩) pa_nil)))) pss_nil)
      (pss_cons (ps_set (i := 2) sc_lay.nd rfl (Or.inl rfl) (pe_callB call_len_seq (by rfl) T0.len PySem.boot_len (pa_cons (pe_fld (pv 0) rfl) pa_nil)))
      (pss_cons (ps_set (i := 3) sc_lay.nd rfl (Or.inr rfl) (pe_callTy call_tuple_of (by rfl) T0.tuple (by decide +kernel) (pa_cons (pe_fld (pv 0) rfl) pa_nil)))
      (pss_cons (ps_set (i := 4) sc_lay.nd rfl (Or.inl rfl) (pe_call G1 hr1 (by rfl) m1 k1 b1 .nil pass0 (pa_cons (pv 2) (pa_cons pe_int (pa_cons (pe_callB (call_min2 rfl) (by rfl) T0.min (by decide +kernel) (pa_cons (pv 1) (pa_cons (pv 2) pa_nil))) pa_nil)))))
      (pss_one (ps_ret (pe_call G2 hr1 (by rfl) m2 k2 b2 .nil pass0 (pa_cons (pv 4) (pa_cons
        (pe_lc (own := [("way", 5)]) (g := gName 5) rfl sc_lay.nd (pi_list (pv 4)) (blkOk_by (own := [("way", 5)]) (N := ["self", "n", "columns", "heap", "ways", "way"]) (sc := defScope s_lay) (by decide +kernel))
          (fun _ _ _ _ _ => pg_name (i := 5) sc_lay.nd rfl (Or.inl rfl)) (fun _ _ _ _ _ => pts_nil)
          (fun _ _ _ _ _ => pe_ix (show IxR _ (rIxT K) from ix_tup) (pe_meth (pe_meth (pv 0) T.cl m3 G3 hr3 b3 .nil pass0 (pa_cons (pv 5) pa_nil)) TB.cl m4 G4 hr b4 .nil pass0 (pa_cons (pv 3) pa_nil)) pe_int (fun _ _ => rfl))) pa_nil)))))))), ?_⟩
    obtain ⟨m, hS⟩ := hh
    obtain ⟨wf, a, b, D0, dx, el, nab, hM, hp, ha, hb⟩ := id hS
    have w5 := wf.five
    have no : Mu42.step (some st) (.lay n) = (some st, if 5 < n then [-1] else match Mu42.bestStraw st.heap n with
      | none => [-6]
      | some x => Mu42.nums (x.1 :: Mu42.marks x.2)) := rfl
    rw [no] at S
    refine ⟨_, rfl, _, _, rfl, rfl, _, rfl, ?_⟩
    refine ite2 (fun c => ?_) (fun c => ?_)
    · have c' := of_decide_eq_true c
      rw [if_pos (by omega)] at S
      exact ⟨(by show 1 ≤ sizeLine; decide), fun q nq => says_same ⟨m, hS⟩ S (Same.refl _) nq⟩
    · have c' : ¬ ((5 : Int) < (n : Int)) := fun q => c (decide_eq_true q)
      rw [if_neg (by omega)] at S
      refine ⟨_, rfl, p, C, dx, _, _, rfl, hp, T.cl, T.nHeap, fl_heap, a, _, rfl, .inl (.inl (.inl ha)), ?_⟩
      rw [vi_len]
      refine ⟨_, rfl, p, C, dx, _, _, rfl, hp, T.cl, T.nHeap, fl_heap, a, _, rfl, .inl ⟨.inl (.inl ha), fun t nt => ?_⟩⟩
      have s1 : Same H (upd H t (.tup (vi st.heap))) := same_new nt
      have et : (upd H t (.tup (vi st.heap))) t = some (.tup (vi st.heap)) := upd_same
      generalize upd H t (.tup (vi st.heap)) = H1 at *
      refine ⟨_, rfl, _, rfl, _, rfl, _, _, rfl, ?_⟩
      rw [min_nat]
      refine ⟨st.heap.length, 1, min n st.heap.length, rfl, w5, by decide, by omega, fun H2 W ps e2 nW eW tp => ?_⟩
      have hn : min n st.heap.length ≤ st.heap.length * 1 := by omega
      have S2 := houseS_same e2 (houseS_same s1 hS)
      have S1 := houseS_same s1 hS
      have th2 := houseS_there S2
      have nWl : W ∉ p :: l := fun h => (houseS_there S1 W h).1 nW
      have et2 := e2 _ _ et
      have ntl : t ∉ p :: l := fun h => (th2 t h).2 _ et2
      have s12 := s1.trans e2
      clear s1 et e2 nW
      generalize hR : rows st.heap.length 1 (min n st.heap.length) = R at tp
      have rl : R.length ≤ 1024 := by
        rw [← hR]
        exact Nat.le_trans (rows_len _ _ _ _) (Nat.le_trans (Nat.pow_le_pow_left (show 1 + 1 ≤ 4 by decide) _) (Nat.le_trans (Nat.pow_le_pow_right (by decide) w5) (by decide)))
      have rm : ∀ r ∈ R, r.length = st.heap.length ∧ ∀ x ∈ r, x ≤ 1 := fun r hr => by
        rw [← hR] at hr
        have := (mem_rows hn r).mp hr
        exact ⟨this.1, this.2.1⟩
      have pl := tp.len
      refine ⟨_, rfl, _, rfl, W, rfl, ⟨_, .inl (.inl eW)⟩, fun D nD => ?_⟩
      have nDl : D ∉ p :: l := fun h => (th2 D h).1 nD
      have nWD : W ≠ D := ne_of_none eW nD
      refine lc_list (K := K) (a := W) (xs := refs ps) (fun i H' => ∃ l' m', HouseS C Bo H' p l' m' st ∧ Grow p l H2 l' H' ∧ H' W = some (.lst (refs ps)) ∧ H' D = some (.lst (vi ((R.map fun r => (Mu42.best st.heap (un r)).1).take i))) ∧ D ∉ p :: l')
        ⟨l, m, houseS_same (same_new nD) S2, .of_same (same_new nD), same_new nD _ _ eW, upd_same, nDl⟩ ?_ ?_ ?_
      · rintro i H' _ ⟨l', m', _, _, e, _⟩
        exact .inl (.inl e)
      · rintro i x H' hx ⟨l', m', S', g', eW', eD, nD'⟩
        obtain ⟨wt, hwt, rfl⟩ := refs_at hx
        obtain ⟨r, hr', er⟩ := tp.get hwt
        obtain ⟨r1, r2⟩ := rm r (List.mem_of_getElem? hr')
        have il := (List.getElem?_eq_some_iff.mp hr').1
        have t' := g'.tk S2
        obtain ⟨_, a', b', D', dx', el', nab', hM', hp', ha', hb'⟩ := id S'
        have erm : H' wt = some (.tup (vi (mk (un r)))) := by
          rw [show mk (un r) = r from marks_un r2]
          exact t' _ _ er
        refine ⟨rfl, _, rfl, p, dx', _, rfl, hp', fl_no (by decide +kernel) (by decide +kernel) (by decide +kernel) (by decide +kernel) (by decide +kernel) (by decide +kernel), _, rfl, p, wt, l', m', st, un r, rfl, S', erm, by rw [un_len, r1]; exact w5, fun H3 q f3 l3 m3 S3 me g3 => ?_⟩
        obtain ⟨_, a3, b3', D3, dx3, el3, nab3, hM3, hp3, ha3, hb3⟩ := id S3
        have M3 := (hM3.each _ me).1
        obtain ⟨dq, ts, kvs, hq, hts, hf, hF⟩ := id M3
        have et3 := (g3.tk S') _ _ (t' _ _ et2)
        refine ⟨q, dq, _, rfl, hq, fb_no (by decide +kernel) (by decide +kernel), _, rfl, q, f3, t, un r, st.heap, rfl, M3, et3, wf.ok, w5, fun H4 r4 c4 M4 er4 => ?_⟩
        obtain ⟨S4, g4⟩ := memo_step S3 me c4 M4
        have nD3 := g3.out eD nD'
        have eD3 := g3.keep eD nD'
        have eD4 := g4.keep eD3 nD3
        have nW' := g'.out eW nWl
        have eW4 := g4.keep (g3.keep eW' nW') (g3.out eW' nW')
        refine ⟨r4, _, 0, _, rfl, rfl, .inl (.inl er4), rfl, _, eD4, ?_, l3, m3, houseS_put eD4 nD3 S4, ((g'.trans (by rw [hp']; exact fun q => nomatch q) g3).trans (by rw [hp3]; exact fun q => nomatch q) g4).put nD, ?_, ?_, nD3⟩
        · rw [vi_len, List.length_take, List.length_map]
          have : sizeLine = 16777216 := sizeLine_eq
          omega
        · rw [upd_ne nWD]
          exact eW4
        · have hw : (R.map fun r => (Mu42.best st.heap (un r)).1)[i]? = some (Mu42.best st.heap (un r)).1 := by
            rw [List.getElem?_map, hr']
            rfl
          rw [upd_same, take_snoc hw, vi_append]
          rfl
      · rintro H' ⟨l', m', S', g', eW', eD, nD'⟩
        have wl : (R.map fun r => (Mu42.best st.heap (un r)).1).length = R.length := List.length_map ..
        rw [refs_len, pl, ← wl, List.take_length] at eD
        have t' := g'.tk S2
        refine ⟨W, D, ps, R, _, rfl, eW', tp.tk t', eD, wl, ?_, (fun r hr => by have := (rm r hr).1; omega), fun H5 q j mn r e5 nq hj hr hle hb eq => ?_⟩
        · rw [wl, ← hR]
          exact rows_pos hn
        · rw [List.getElem?_map, hr] at hj
          have em : (Mu42.best st.heap (un r)).1 = mn := Option.some.inj hj
          rw [← hR] at hr
          have is := lay_row wf.ok hr (fun g hg => by
            rw [em]
            exact hle _ (List.mem_map.mpr ⟨g, by rw [← hR]; exact hg, rfl⟩)) fun i g hi hg e => hb i (Mu42.best st.heap (un g)).1 hi (by rw [List.getElem?_map, ← hR, hg]; rfl) (by rw [e, em])
          rw [is] at S
          have er : Mu42.marks (un r) = r := marks_un (rm r (by rw [← hR]; exact List.mem_of_getElem? hr)).2
          have S' : Says C Bo H p l (some st, Mu42.nums ((Mu42.best st.heap (un r)).1 :: Mu42.marks (un r))) Q := S
          rw [er, em] at S'
          exact says_at S' ‹HouseS C Bo H' p l' m' st› (g'.pre s12) e5 nq (by rw [nums_vi]; exact eq)
end
end Ice
namespace Ice
open PySem PySem.Spec PyProof.Rows L2
section
variable {P : Program} {w : World} {K : PySem.W.Frag} {mg : Str → Option Value} {base : Heap} {C Bo : Addr}
theorem sc_stack : FnScope ["self", "n", "columns", "orders", "heaps", "heap"] ["self", "n"] (defScope s_stack) := ⟨rfl, rfl, rfl, by decide +kernel, rfl, by decide +kernel, by decide +kernel⟩
theorem ok_stack {f : Addr} {fd : FuncData} (F : Fun K "stack" "House.stack" s_stack f fd) (T0 : Txt K mg) (T : TxtH K mg C) (TB : TxtB K mg Bo) (C1 : Callee P w K mg base "rows_of" ["columns", "most", "total"] 1 spRows) (C2 : Callee P w K mg base "first_of_least" ["rows", "waters"] 1 spLeast)
    (C3 : MCallee P w K mg base C "orders" ["self"] 4 (spOrd C Bo)) (C4 : MCallee P w K mg base Bo "best" ["self", "heap"] 36 (spBest Bo)) : FnOk P w K mg base CX0 37 f fd ["self", "n"] (fun vs H Q E => spM1 C Bo .stack vs H Q E ∧ ∃ p n : Nat, vs = [.ref p, .int (n : Int)] ∧ n ≤ 20) := by
  obtain ⟨f1, fd1, G1, m1, k1, b1⟩ := C1.ex
  obtain ⟨f2, fd2, G2, m2, k2, b2⟩ := C2.ex
  obtain ⟨f3, fd3, G3, m3, b3⟩ := C3.ex
  obtain ⟨f4, fd4, G4, m4, b4⟩ := C4.ex
  obtain ⟨tA, mA⟩ := T.noR
  obtain ⟨tB, mB⟩ := T0.mostB
  refine F.ok sc_stack (fun vs H Q E h => ?_) (fun cdv A outer s H vs Q E hr h => ?_)
  · obtain ⟨⟨p, l, s, n, rfl, _⟩, _⟩ := h
    rfl
  · obtain ⟨⟨p, l, st, n, rfl, hh, S⟩, p', n', ev, n20⟩ := h
    obtain rfl : n = n' := by
      have := congrArg (fun l => l.getD 1 V.non) ev
      have := V.int.inj this
      omega
    have hr1 : Room 1 _ := hr.mono (by decide)
    have hr4 : Room 4 _ := hr.mono (by decide)
    refine ⟨_, pss_cons (ps_set (i := 2) sc_stack.nd rfl (Or.inl rfl) (pe_callB call_len_seq (by rfl) T0.len PySem.boot_len (pa_cons (pe_fld (pv 0) rfl) pa_nil)))
      (pss_cons (ps_if (pt_cmpR op_gt (pv 1) (pe_op op_mul (pv 2) (pe_glob (v := V.int 3) (by rfl) mB ⟨_, rfl⟩)) (nomark _)) (pss_one (ps_ret (pe_lst (pa_cons (pe_glob (v := V.int (-6)) (by rfl) mA ⟨_, rfl⟩) pa_nil)))) pss_nil)
      (pss_cons (ps_set (i := 3) sc_stack.nd rfl (Or.inr rfl) (pe_meth0 (pv 0) T.cl m3 G3 hr4 b3 .nil pass0))
      (pss_cons (ps_set (i := 4) sc_stack.nd rfl (Or.inl rfl) (pe_call G1 hr1 (by rfl) m1 k1 b1 .nil pass0 (pa_cons (pv 2) (pa_cons (pe_glob (v := V.int 3) (by rfl) mB ⟨_, rfl⟩) (pa_cons (pv 1) pa_nil)))))
      (pss_one (ps_ret (pe_call G2 hr1 (by rfl) m2 k2 b2 .nil pass0 (pa_cons (pv 4) (pa_cons
        (pe_lc (own := [("heap", 5)]) (g := gName 5) rfl sc_stack.nd (pi_list (pv 4)) (blkOk_by (own := [("heap", 5)]) (N := ["self", "n", "columns", "orders", "heaps", "heap"]) (sc := defScope s_stack) (by decide +kernel))
          (fun _ _ _ _ _ => pg_name (i := 5) sc_stack.nd rfl (Or.inl rfl)) (fun _ _ _ _ _ => pts_nil)
          (fun _ _ _ _ _ => pe_ix (show IxR _ (rIxT K) from ix_tup) (pe_meth (pv 3) TB.cl m4 G4 hr b4 .nil pass0 (pa_cons (pv 5) pa_nil)) pe_int (fun _ _ => rfl))) pa_nil)))))))), ?_⟩
    obtain ⟨m, hS⟩ := hh
    obtain ⟨wf, a, b, D0, dx, el, nab, hM, hp, ha, hb⟩ := id hS
    have w5 := wf.five
    have no : Mu42.step (some st) (.stack n) = (some st, match Mu42.bestStack st.heap.length n st.straw with
      | none => [-6]
      | some x => Mu42.nums (x.1 :: x.2)) := rfl
    rw [no] at S
    refine ⟨_, rfl, p, C, dx, _, _, rfl, hp, T.cl, T.nHeap, fl_heap, a, _, rfl, .inl (.inl (.inl ha)), ?_⟩
    rw [vi_len]
    refine ⟨_, rfl, _, rfl, _, _, rfl, rfl, .inl ⟨by omega, by omega⟩, _, _, rfl, rfl, _, rfl, ?_⟩
    refine ite2 (fun c => ?_) (fun c => ?_)
    · have c' := of_decide_eq_true c
      rw [bestStack_none _ (by omega)] at S
      exact ⟨(by show 1 ≤ sizeLine; decide), fun q nq => says_same ⟨m, hS⟩ S (Same.refl _) nq⟩
    · have hn : n ≤ st.heap.length * 3 := by
        have : ¬ (((st.heap.length : Nat) : Int) * 3 < (n : Int)) := fun q => c (decide_eq_true q)
        omega
      refine ⟨_, rfl, p, dx, _, rfl, hp, fl_no (by decide +kernel) (by decide +kernel) (by decide +kernel) (by decide +kernel) (by decide +kernel) (by decide +kernel), p, l, m, st, rfl, hS, fun H1 q f1' l1 m1' S1 me g1 => ?_⟩
      refine ⟨_, rfl, _, rfl, st.heap.length, 3, n, rfl, w5, by decide, by omega, fun H2 W ps e2 nW eW tp => ?_⟩
      have S2 := houseS_same e2 S1
      have th2 := houseS_there S2
      have nWl : W ∉ p :: l1 := fun h => (houseS_there S1 W h).1 nW
      have g2 := g1.more e2
      obtain ⟨_, a2, b2', D2, dx2, el2, nab2, hM2, hp2, ha2, hb2⟩ := id S2
      generalize hR : rows st.heap.length 3 n = R at tp
      have rl : R.length ≤ 1024 := by
        rw [← hR]
        exact Nat.le_trans (rows_len _ _ _ _) (Nat.le_trans (Nat.pow_le_pow_left (show 3 + 1 ≤ 4 by decide) _) (Nat.le_trans (Nat.pow_le_pow_right (by decide) w5) (by decide)))
      have rm : ∀ r ∈ R, r.length = st.heap.length ∧ ∀ x ∈ r, x ≤ 3 := fun r hr => by
        rw [← hR] at hr
        have := (mem_rows hn r).mp hr
        exact ⟨this.1, this.2.1⟩
      have pl := tp.len
      refine ⟨_, rfl, _, rfl, W, rfl, ⟨_, .inl (.inl eW)⟩, fun D nD => ?_⟩
      have nDl : D ∉ p :: l1 := fun h => (th2 D h).1 nD
      have nWD : W ≠ D := ne_of_none eW nD
      refine lc_list (K := K) (a := W) (xs := refs ps) (fun i H' => HouseS C Bo H' p l1 m1' st ∧ Grow p l1 H2 l1 H' ∧ H' W = some (.lst (refs ps)) ∧ H' D = some (.lst (vi ((R.map fun r => (Mu42.best r st.straw).1).take i))))
        ⟨houseS_same (same_new nD) S2, .of_same (same_new nD), same_new nD _ _ eW, upd_same⟩ ?_ ?_ ?_
      · rintro i H' _ ⟨_, _, e, _⟩
        exact .inl (.inl e)
      · rintro i x H' hx ⟨S', g', eW', eD⟩
        obtain ⟨wt, hwt, rfl⟩ := refs_at hx
        obtain ⟨r, hr', er⟩ := tp.get hwt
        obtain ⟨r1, r2⟩ := rm r (List.mem_of_getElem? hr')
        have il := (List.getElem?_eq_some_iff.mp hr').1
        have t' := g'.tk S2
        obtain ⟨_, a', b', D', dx', el', nab', hM', hp', ha', hb'⟩ := id S'
        have M' := (hM'.each _ me).1
        obtain ⟨dq, ts, kvs, hq, hts, hf, hF⟩ := id M'
        refine ⟨rfl, _, rfl, q, dq, _, rfl, hq, fb_no (by decide +kernel) (by decide +kernel), _, rfl, q, f1', wt, st.straw, r, rfl, M', t' _ _ er, r2, by omega, fun H4 r4 c4 M4 er4 => ?_⟩
        obtain ⟨S4, g4⟩ := memo_step S' me c4 M4
        have eD4 := g4.keep eD nDl
        have eW4 := g4.keep eW' nWl
        refine ⟨r4, _, 0, _, rfl, rfl, .inl (.inl er4), rfl, _, eD4, ?_, houseS_put eD4 nDl S4, (g'.trans (by rw [hp']; exact fun q => nomatch q) g4).put nD, ?_, ?_⟩
        · rw [vi_len, List.length_take, List.length_map]
          have : sizeLine = 16777216 := sizeLine_eq
          omega
        · rw [upd_ne nWD]
          exact eW4
        · have hw : (R.map fun r => (Mu42.best r st.straw).1)[i]? = some (Mu42.best r st.straw).1 := by
            rw [List.getElem?_map, hr']
            rfl
          rw [upd_same, take_snoc hw, vi_append]
          rfl
      · rintro H' ⟨S', g', eW', eD⟩
        have wl : (R.map fun r => (Mu42.best r st.straw).1).length = R.length := List.length_map ..
        rw [refs_len, pl, ← wl, List.take_length] at eD
        have t' := g'.tk S2
        refine ⟨W, D, ps, R, _, rfl, eW', tp.tk t', eD, wl, ?_, (fun r hr => by have := (rm r hr).1; omega), fun H5 q5 j mn r e5 nq hj hr hle hb eq => ?_⟩
        · rw [wl, ← hR]
          exact rows_pos hn
        · rw [List.getElem?_map, hr] at hj
          have em : (Mu42.best r st.straw).1 = mn := Option.some.inj hj
          rw [← hR] at hr
          have is := stack_is (s := st.straw) hn hr (fun g hg => by
            rw [em]
            exact hle _ (List.mem_map.mpr ⟨g, by rw [← hR]; exact hg, rfl⟩)) fun i g hi hg e => hb i (Mu42.best g st.straw).1 hi (by rw [List.getElem?_map, ← hR, hg]; rfl) (by rw [e, em])
          rw [is] at S
          have S' : Says C Bo H p l (some st, Mu42.nums ((Mu42.best r st.straw).1 :: r)) Q := S
          rw [em] at S'
          exact says_at S' ‹HouseS C Bo H' p l1 m1' st› (g2.trans (by rw [hp2]; exact fun q => nomatch q) g') e5 nq (by rw [nums_vi]; exact eq)
/-! ### follow -/
/-- the house as it went on -/
structure Chg (p : Addr) (l : List Addr) (H : Hp) (l' : List Addr) (H' : Hp) : Prop where
  but : But (p :: l) H H'
  new : ∀ x ∈ l', x ∈ l ∨ H x = none
  live : Live H H'
theorem Chg.out {p c : Addr} {l l' : List Addr} {H H' : Hp} {u : HO} (g : Chg p l H l' H') (e : H c = some u) (n : c ∉ p :: l) : c ∉ p :: l' := fun m => by
  rcases List.mem_cons.mp m with r | m
  · exact n (by rw [r]; simp)
  · rcases g.new c m with m | m
    · exact n (List.mem_cons_of_mem _ m)
    · rw [e] at m; cases m
theorem Chg.trans {p : Addr} {l l1 l2 : List Addr} {H H1 H2 : Hp} (a : Chg p l H l1 H1) (b : Chg p l1 H1 l2 H2) : Chg p l H l2 H2 :=
  ⟨fun c u e n => b.but c u (a.but c u e n) (a.out e n), fun x h => (b.new x h).elim (fun m => a.new x m) fun m => .inr (a.live.back m), fun x n => b.live x (a.live x n)⟩
theorem Grow.chg {p : Addr} {l l' : List Addr} {H H' : Hp} (g : Grow p l H l' H') (th : ∀ x ∈ p :: l', H' x ≠ none) : Chg p l H l' H' := ⟨g.but, g.new, g.live th⟩
/-- the state behind some days -/
def gone (s : Mu42.State) (os : List Nat) : Mu42.State := os.foldl (fun (t : Mu42.State) (i : Nat) => Mu42.passed t i) s
theorem gone_snoc (s : Mu42.State) (os : List Nat) (i : Nat) : gone s (os ++ [i]) = Mu42.passed (gone s os) i := by
  unfold gone
  rw [List.foldl_append]
  rfl
theorem sc_follow : FnScope ["self", "n", "column"] ["self", "n"] (defScope s_follow) := ⟨rfl, rfl, rfl, by decide +kernel, rfl, by decide +kernel, by decide +kernel⟩
theorem ok_follow {f : Addr} {fd : FuncData} (F : Fun K "follow" "House.follow" s_follow f fd) (T0 : Txt K mg) (T : TxtH K mg C) (C1 : MCallee P w K mg base C "first_order" ["self"] 37 (spFO C Bo)) (C2 : MCallee P w K mg base C "take" ["self", "column"] 3 (spM1 C Bo .take)) : FnOk P w K mg base CX0 38 f fd ["self", "n"] (spM1 C Bo .follow) := by
  obtain ⟨f1, fd1, G1, m1, b1⟩ := C1.ex
  obtain ⟨f2, fd2, G2, m2, b2⟩ := C2.ex
  obtain ⟨tA, mA⟩ := T.notA
  refine F.ok sc_follow (fun vs H Q E h => ?_) (fun cdv A outer s H vs Q E hr h => ?_)
  · obtain ⟨p, l, s, n, rfl, _⟩ := h
    rfl
  · obtain ⟨p, l, st, n, rfl, hh, S⟩ := h
    have hr3 : Room 3 _ := hr.mono (by decide)
    refine ⟨_, pss_cons (ps_if (PW.pt (pw_or (pt_cmpR op_eq (pv 1) pe_int (nomark _)) (pw_or1 (pt_cmpR op_gt (pv 1) (pe_callB (cr_sumK rfl) (by rfl) T0.sum (by decide +kernel) (pa_cons (pe_fld (pv 0) rfl) pa_nil)) (nomark _)))))
          (pss_one (ps_ret (pe_lst (pa_cons (pe_glob (v := V.int (-1)) (by rfl) mA ⟨_, rfl⟩) pa_nil)))) pss_nil)
      (pss_cons (ps_for PassesOwn.never rfl (pi_list (pe_slice sl_list (pe_meth0 (pv 0) T.cl m1 G1 hr b1 .nil pass0) po_none (po_some (pv 1)))) (pg_name (i := 2) sc_follow.nd rfl (Or.inl rfl))
        (pss_one (ps_expr (pe_meth (pv 0) T.cl m2 G2 hr3 b2 .nil pass0 (pa_cons (pv 2) pa_nil)))))
      (pss_one (ps_ret (pe_lst (pa_cons (pe_fld (pv 0) rfl) (pa_cons (pe_fld (pv 0) rfl) pa_nil)))))), ?_⟩
    obtain ⟨m, hS⟩ := hh
    obtain ⟨wf, a, b, D0, dx, el, nab, hM, hp, ha, hb⟩ := id hS
    have no : Mu42.step (some st) (.follow n) = if n = 0 ∨ Mu42.total st.heap < n then (some st, [-1]) else (some (gone st ((Mu42.order st.heap st.straw).take n)), Mu42.nums [(gone st ((Mu42.order st.heap st.straw).take n)).day, (gone st ((Mu42.order st.heap st.straw).take n)).melted]) := rfl
    rw [no] at S
    have ha' := ha
    rw [vi_ints] at ha'
    refine ⟨_, rfl, rfl, _, rfl, ?_⟩
    refine ite2 (fun c => ?_) (fun c => ?_)
    · have c' := V.int.inj (of_decide_eq_true c)
      rw [if_pos (by omega)] at S
      exact iteT ⟨(by show 1 ≤ sizeLine; decide), fun q nq => says_same ⟨m, hS⟩ S (Same.refl _) nq⟩
    · have c' : n ≠ 0 := fun q => c (by rw [q]; rfl)
      refine ⟨_, rfl, _, rfl, p, C, dx, _, _, rfl, hp, T.cl, T.nHeap, fl_heap, a, true, _, rfl, .inl (.inl ha'), ?_⟩
      rw [sum_ints]
      refine ⟨_, _, rfl, rfl, _, rfl, ?_⟩
      refine ite2 (fun d => ?_) (fun d => ?_)
      · have d' := of_decide_eq_true d
        rw [if_pos (by omega)] at S
        exact ⟨(by show 1 ≤ sizeLine; decide), fun q nq => says_same ⟨m, hS⟩ S (Same.refl _) nq⟩
      · have d' : ¬ (((Mu42.total st.heap : Nat) : Int) < (n : Int)) := fun q => d (decide_eq_true q)
        rw [if_neg (by omega)] at S
        have ol := order_len (s := st.straw) _ wf.ok rfl
        have ov := (order_valid (s := st.straw) _ wf.ok rfl).take n
        generalize hos : (Mu42.order st.heap st.straw).take n = os at S ov
        refine ⟨_, rfl, p, dx, _, rfl, hp, fl_no (by decide +kernel) (by decide +kernel) (by decide +kernel) (by decide +kernel) (by decide +kernel) (by decide +kernel), p, l, m, st, rfl, hS, fun H1 D l1 m1' S1 g1 nD out eD => ?_⟩
        refine ⟨_, rfl, _, rfl, D, _, rfl, .inl (.inl eD), fun Z nZ => ?_⟩
        rw [cut_to]
        have ez : (vi (Mu42.order st.heap st.straw)).take n = vi os := by
          rw [← hos]
          unfold vi
          rw [List.map_take]
        rw [ez]
        have s2 : Same H1 (upd H1 Z (.lst (vi os))) := same_new nZ
        have S2 := houseS_same s2 S1
        have c2 := (g1.more s2).chg fun x h => (houseS_there S2 x h).1
        have eZ : (upd H1 Z (.lst (vi os))) Z = some (.lst (vi os)) := upd_same
        have nZl : Z ∉ p :: l1 := fun h => (houseS_there S1 Z h).1 nZ
        generalize upd H1 Z (.lst (vi os)) = H2 at *
        refine ⟨Z, rfl, ⟨_, .inl (.inl eZ)⟩, for_list (K := K) (a := Z) (xs := vi os) (fun i σ H' => ∃ v2 l', σ = [some (.ref p), some (.int n), v2] ∧ HouseAt C Bo H' p l' (some (gone st (os.take i))) ∧ Chg p l H l' H' ∧ H' Z = some (.lst (vi os)) ∧ Z ∉ p :: l' ∧ Valid (gone st (os.take i)).heap (os.drop i))
          ⟨none, l1, rfl, ⟨m1', S2⟩, c2, eZ, nZl, ov⟩ ?_ ?_ ?_⟩
        · rintro i σ H' _ ⟨v2, l', _, _, _, e, _⟩
          exact .inl (.inl e)
        · rintro i x σ H' hx ⟨v2, l', rfl, hh', c', eZ', nZ', v⟩
          obtain ⟨o, ho, rfl⟩ := vi_at hx
          rw [drop_at ho] at v
          obtain ⟨v1, v2', v3⟩ := v
          have eg : gone st (os.take (i + 1)) = Mu42.passed (gone st (os.take i)) o := by rw [take_snoc ho, gone_snoc]
          generalize gone st (os.take i) = cur at *
          have no2 : Mu42.step (some cur) (.take o) = (some (Mu42.passed cur o), [((Mu42.faces (Mu42.taken cur.heap o) cur.straw : Nat) : Int)]) := by
            show (if cur.heap.length ≤ o then _ else if cur.heap.getD o 0 = 0 then _ else _) = _
            rw [if_neg (by omega), if_neg v2']
          obtain ⟨mm, DD, dx', x0, y0, d0, br0, m0, hp', _, _⟩ := house_ins hh'
          refine ⟨_, rfl, p, dx', _, rfl, hp', fl_no (by decide +kernel) (by decide +kernel) (by decide +kernel) (by decide +kernel) (by decide +kernel) (by decide +kernel), _, rfl, p, l', cur, o, rfl, hh', ?_⟩
          rw [no2]
          intro H3 q l3 hh3 b3 n3 lv3 nq nql eq
          have c3 : Chg p l' H' l3 H3 := ⟨b3, n3, lv3⟩
          exact ⟨_, l3, rfl, by rw [eg]; exact hh3, c'.trans c3, b3 _ _ eZ' nZ', c3.out eZ' nZ', by rw [eg]; exact v3⟩
        · rintro σ H' ⟨v2, l', rfl, hh', c', eZ', nZ', v⟩
          rw [vi_len, List.take_length] at hh'
          obtain ⟨mm, wf', a', b', DD, dx', el', nab', hM', hp', ha', hb'⟩ := id hh'
          refine ⟨_, rfl, p, C, dx', _, _, rfl, hp', T.cl, T.nDay, fl_day, _, rfl, p, C, dx', _, _, rfl, hp', T.cl, T.nMelted, fl_melted, (by show 2 ≤ sizeLine; decide), fun q nq => ?_⟩
          have s5 : Same H' (upd H' q (.lst [V.int (gone st os).day, V.int (gone st os).melted])) := same_new nq
          exact S _ q l' (house_same s5 hh') (fun c u h n => s5 _ _ (c'.but c u h n)) c'.new (fun x n => live_same s5 x (c'.live x n)) (c'.live.back nq) (fun h => house_there hh' q (List.mem_cons_of_mem _ h) nq) upd_same
end
end Ice
namespace Ice
open PySem PySem.Spec PyProof.Rows L2
abbrev s_answers : Stmt := topS 34
abbrev s_split : Stmt := topS 35
abbrev s_call : Stmt := topS 36
/-- lists of whole numbers at these places -/
def Lsts (H : Hp) : List Addr → List (List Nat) → Prop
  | [], [] => True
  | p :: ps, h :: hs => H p = some (.lst (vi h)) ∧ Lsts H ps hs
  | _, _ => False
theorem Lsts.same {H H' : Hp} (e : Same H H') : ∀ {ps : List Addr} {hs : List (List Nat)}, Lsts H ps hs → Lsts H' ps hs
  | [], [], _ => trivial
  | p :: ps, h :: hs, q => ⟨e _ _ q.1, Lsts.same e q.2⟩
  | [], _ :: _, q => q.elim
  | _ :: _, [], q => q.elim
theorem Lsts.but {H H' : Hp} {l : List Addr} (e : But l H H') : ∀ {ps : List Addr} {hs : List (List Nat)}, (∀ p ∈ ps, p ∉ l) → Lsts H ps hs → Lsts H' ps hs
  | [], [], _, _ => trivial
  | p :: ps, h :: hs, n, q => ⟨e _ _ q.1 (n p (List.mem_cons_self ..)), Lsts.but e (fun x hx => n x (List.mem_cons_of_mem _ hx)) q.2⟩
  | [], _ :: _, _, q => q.elim
  | _ :: _, [], _, q => q.elim
theorem Lsts.len {H : Hp} : ∀ {ps : List Addr} {hs : List (List Nat)}, Lsts H ps hs → ps.length = hs.length
  | [], [], _ => rfl
  | p :: ps, h :: hs, q => congrArg (· + 1) (Lsts.len q.2)
  | [], _ :: _, q => q.elim
  | _ :: _, [], q => q.elim
theorem Lsts.snoc {H : Hp} {p : Addr} {h : List Nat} (e : H p = some (.lst (vi h))) : ∀ {ps : List Addr} {hs : List (List Nat)}, Lsts H ps hs → Lsts H (ps ++ [p]) (hs ++ [h])
  | [], [], _ => ⟨e, trivial⟩
  | _ :: ps, _ :: hs, q => ⟨q.1, Lsts.snoc e q.2⟩
  | [], _ :: _, q => q.elim
  | _ :: _, [], q => q.elim
theorem Lsts.get {H : Hp} : ∀ {ps : List Addr} {hs : List (List Nat)} {i : Nat} {p : Addr}, Lsts H ps hs → ps[i]? = some p → ∃ h, hs[i]? = some h ∧ H p = some (.lst (vi h))
  | [], [], _, _, _, e => by simp at e
  | p :: ps, h :: hs, 0, p', q, e => ⟨h, rfl, (show p = p' by simpa using e) ▸ q.1⟩
  | p :: ps, h :: hs, i + 1, p', q, e => by
    obtain ⟨g, e1, e2⟩ := Lsts.get (i := i) (p := p') q.2 (by simpa using e)
    exact ⟨g, by simpa using e1, e2⟩
  | [], _ :: _, _, _, q, _ => q.elim
  | _ :: _, [], _, _, q, _ => q.elim
theorem Lsts.put {H : Hp} {D : Addr} {o : HO} : ∀ {ps : List Addr} {hs : List (List Nat)}, D ∉ ps → Lsts H ps hs → Lsts (upd H D o) ps hs
  | [], [], _, _ => trivial
  | p :: ps, h :: hs, n, q => ⟨by rw [upd_ne (fun e => n (by rw [e]; simp))]; exact q.1, Lsts.put (fun m => n (List.mem_cons_of_mem _ m)) q.2⟩
  | [], _ :: _, _, q => q.elim
  | _ :: _, [], _, q => q.elim
theorem Lsts.there {H : Hp} : ∀ {ps : List Addr} {hs : List (List Nat)}, Lsts H ps hs → ∀ p ∈ ps, ∃ xs, H p = some (.lst xs)
  | [], [], _, _, m => nomatch m
  | p :: ps, h :: hs, q, x, m => by
    rcases List.mem_cons.mp m with r | m
    · rw [r]; exact ⟨_, q.1⟩
    · exact Lsts.there q.2 x m
  | [], _ :: _, q, _, _ => q.elim
  | _ :: _, [], q, _, _ => q.elim
/-- a call as split_calls hands it on -/
def part (x : Mu42.Call) : List Nat := place x :: args x
structure TxtM (K : PySem.W.Frag) (mg : Str → Option Value) (ws : List Nat) : Prop where
  begin_ : ∃ t, mg "BEGIN" = some (.int 0 t)
  water : ∃ t, mg "WATER" = some (.int 7 t)
  widths : ∃ a, mg "WIDTHS" = some (.ref a) ∧ ∀ H, SqT K H a (vi ws)
section
variable {P : Program} {w : World} {K : PySem.W.Frag} {mg : Str → Option Value} {base : Heap} {C Bo : Addr}
def wds : List Nat := [0, 2, 2, 1, 0, 0, 0, 0, 1, 1, 1, 0]
def spSplit (K : PySem.W.Frag) : Sp := fun vs H Q _ => ∃ (a : Addr) (xs : List Mu42.Call), vs = [.ref a] ∧ SqL K H a (vi (flatN xs)) ∧ (∀ x ∈ xs, Fine x ∧ place x < wds.length) ∧ xs.length ≤ 60 ∧
  ∀ (H' : Hp) (D : Addr) (ps : List Addr), Same H H' → H D = none → H' D = some (.lst (refs ps)) → Lsts H' ps (xs.map part) → (∀ p ∈ ps, H p = none) → D ∉ ps → Q (.ref D) H'
theorem flatN_at {xs : List Mu42.Call} {j : Nat} {x : Mu42.Call} (e : xs[j]? = some x) : ∃ post, flatN xs = flatN (xs.take j) ++ flat1 x ++ post := by
  obtain ⟨q, e⟩ := List.getElem?_eq_some_iff.mp e
  refine ⟨flatN (xs.drop (j + 1)), ?_⟩
  have h : xs = xs.take j ++ x :: xs.drop (j + 1) := by rw [← e, List.getElem_cons_drop, List.take_append_drop]
  conv => lhs; rw [h]
  unfold flatN
  rw [List.flatMap_append, List.flatMap_cons, List.append_assoc]
/-- what stands where a call begins -/
theorem at_place {xs : List Mu42.Call} {j : Nat} {x : Mu42.Call} (e : xs[j]? = some x) : (flatN xs)[(flatN (xs.take j)).length]? = some (place x) := by
  obtain ⟨post, h⟩ := flatN_at e
  rw [h, List.append_assoc, List.getElem?_append_right (Nat.le_refl _), Nat.sub_self]
  rfl
theorem at_count {xs : List Mu42.Call} {j : Nat} {x : Mu42.Call} (e : xs[j]? = some x) (r : isRow x = true) : (flatN xs)[(flatN (xs.take j)).length + 1]? = some (args x).length := by
  obtain ⟨post, h⟩ := flatN_at e
  rw [h, List.append_assoc, List.getElem?_append_right (by omega)]
  have : (flatN (List.take j xs)).length + 1 - (flatN (List.take j xs)).length = 1 := by omega
  rw [this]
  unfold flat1
  rw [if_pos r]
  rfl
theorem at_args {xs : List Mu42.Call} {j : Nat} {x : Mu42.Call} (e : xs[j]? = some x) : ((flatN xs).drop ((flatN (xs.take j)).length + (if isRow x = true then 2 else 1))).take (args x).length = args x := by
  obtain ⟨post, h⟩ := flatN_at e
  rw [h, List.append_assoc, ← List.drop_drop, List.drop_left]
  unfold flat1
  by_cases r : isRow x = true
  · rw [if_pos r, if_pos r]
    show ((args x) ++ post).take (args x).length = args x
    exact List.take_left
  · rw [if_neg r, if_neg r]
    show ((args x) ++ post).take (args x).length = args x
    exact List.take_left
theorem flat1_len (x : Mu42.Call) : (flat1 x).length = (if isRow x = true then 2 else 1) + (args x).length := by
  unfold flat1
  by_cases r : isRow x = true
  · rw [if_pos r, if_pos r, List.length_cons, List.length_append]
    show 1 + (args x).length + 1 = 2 + (args x).length
    omega
  · rw [if_neg r, if_neg r, List.length_cons, List.length_append]
    show 0 + (args x).length + 1 = 1 + (args x).length
    omega
theorem flatN_next {xs : List Mu42.Call} {j : Nat} {x : Mu42.Call} (e : xs[j]? = some x) : (flatN (xs.take (j + 1))).length = (flatN (xs.take j)).length + (if isRow x = true then 2 else 1) + (args x).length := by
  rw [take_snoc e, flatN_snoc, List.length_append, flat1_len]
  omega
theorem flatN_lt {xs : List Mu42.Call} {j : Nat} {x : Mu42.Call} (e : xs[j]? = some x) : (flatN (xs.take j)).length < (flatN xs).length := (List.getElem?_eq_some_iff.mp (at_place e)).1
/-- the loop of split_calls ahead of the j-th call -/
def SplitI (a D : Addr) (H : Hp) (xs : List Mu42.Call) (j : Nat) (σ : L2.St) (H' : Hp) : Prop :=
  ∃ v3 v4 v5 ps, σ = [some (.ref a), some (.ref D), some (.int ((flatN (xs.take j)).length : Nat)), v3, v4, v5] ∧ Same H H' ∧ H' D = some (.lst (refs ps)) ∧ Lsts H' ps ((xs.take j).map part) ∧ (∀ p ∈ ps, H p = none) ∧ D ∉ ps
theorem sc_split : FnScope ["calls", "parts", "at", "number", "start", "end"] ["calls"] (defScope s_split) := ⟨rfl, rfl, rfl, by decide +kernel, rfl, by decide +kernel, by decide +kernel⟩
theorem ok_split {f : Addr} {fd : FuncData} (F : Fun K "split_calls" "split_calls" s_split f fd) (T0 : Txt K mg) (T : TxtM K mg wds) : FnOk P w K mg base CX0 1 f fd ["calls"] (spSplit K) := by
  obtain ⟨tB, mB⟩ := T.begin_
  obtain ⟨tW, mWt⟩ := T.water
  obtain ⟨aW, mW, hW⟩ := T.widths
  refine F.ok sc_split (fun vs H Q E h => ?_) (fun cdv A outer s H vs Q E hr h => ?_)
  · obtain ⟨a, xs, rfl, _⟩ := h
    rfl
  · obtain ⟨a, xs, rfl, hS, hf, hlen, fin⟩ := h
    refine ⟨_, pss_cons (ps_set (i := 1) sc_split.nd rfl (Or.inl rfl) (pe_lst pa_nil))
      (pss_cons (ps_set (i := 2) sc_split.nd rfl (Or.inl rfl) pe_int)
      (pss_cons (ps_while PassesOwn.never (pt_cmpR op_lt (pv 2) (pe_callB call_len_seq (by rfl) T0.len PySem.boot_len (pa_cons (pv 0) pa_nil)) (nomark _))
        (pss_cons (ps_set (i := 3) sc_split.nd rfl (Or.inl rfl) (pe_ix ix_list (pv 0) (pv 2) (fun _ _ => rfl)))
        (pss_cons (ps_set (i := 4) sc_split.nd rfl (Or.inl rfl) (pe_op op_add (pv 2) pe_int))
        (pss_cons (ps_set (i := 5) sc_split.nd rfl (Or.inl rfl) (pe_op op_add (pv 4) (pe_ix ix_tup (pe_glob (v := V.ref aW) (by rfl) mW rfl) (pv 3) (fun _ _ => rfl))))
        (pss_cons (ps_if (PW.pt (pw_or (pt_cmpR op_eq (pv 3) (pe_glob (v := V.int 0) (by rfl) mB ⟨_, rfl⟩) (nomark _)) (pw_or1 (pt_cmpR op_eq (pv 3) (pe_glob (v := V.int 7) (by rfl) mWt ⟨_, rfl⟩) (nomark _)))))
          (pss_cons (ps_set (i := 4) sc_split.nd rfl (Or.inl rfl) (pe_op op_add (pv 2) pe_int))
          (pss_one (ps_set (i := 5) sc_split.nd rfl (Or.inl rfl) (pe_op op_add (pv 4) (pe_ix ix_list (pv 0) (pe_op op_add (pv 2) pe_int) (fun _ _ => rfl)))))) pss_nil)
        (pss_cons (ps_expr (pe_bm PySem.F.plainAttrs_list PySem.F.slot_list_append PySem.F.type_list_append mt_append (pv 1) (pa_cons
          (pe_op op_cat (pe_lst (pa_cons (pv 3) pa_nil)) (pe_slice sl_list (pv 0) (po_some (pv 4)) (po_some (pv 5)))) pa_nil)))
        (pss_one (ps_set (i := 2) sc_split.nd rfl (Or.inl rfl) (pv 5)))))))))
      (pss_one (ps_ret (pv 1))))), ?_⟩
    refine ⟨(by show 0 ≤ sizeLine; decide), fun D hD => ?_⟩
    refine ⟨fun m σ H' => ∃ j, j ≤ xs.length ∧ m = xs.length - j ∧ SplitI a D H xs j σ H',
      ⟨_, 0, Nat.zero_le _, rfl, none, none, none, [], rfl, same_new hD, upd_same, trivial, (fun _ h => nomatch h), (fun h => nomatch h)⟩, ?_⟩
    rintro m σ H1 ⟨j, hj, rfl, v3, v4, v5, ps, rfl, e1, eD, tp, nw, nD⟩
    refine ⟨_, rfl, _, rfl, a, _, rfl, .inl (e1.seq hS), _, _, rfl, rfl, _, rfl, ?_⟩
    rw [vi_len]
    rcases Nat.lt_or_ge j xs.length with c | c
    · have hx : xs[j]? = some xs[j] := List.getElem?_eq_getElem c
      generalize xs[j] = x at hx
      obtain ⟨fx, px⟩ := hf x (List.mem_of_getElem? hx)
      have lt := flatN_lt hx
      rw [decide_eq_true (by omega)]
      refine iteT ⟨SplitI a D H xs (j + 1), fun σ' H' q => ⟨_, by omega, j + 1, c, rfl, q⟩, ?_⟩
      have hW' : wds[place x]? = some (wds[place x]'px) := List.getElem?_eq_getElem px
      have hS1 := e1.seq hS
      have szl : sizeLine = 16777216 := sizeLine_eq
      have al := args_le fx
      have pl : ps.length ≤ 60 := by
        have := tp.len
        rw [List.length_map, List.length_take] at this
        omega
      refine ⟨_, rfl, _, rfl, a, _, _, _, rfl, rfl, hS1, atI_nat (vi_get (at_place hx)), _, rfl, _, _, rfl, rfl, _, rfl, _, rfl, aW, _, _, _, rfl, rfl, hW _, atI_nat (vi_get hW'), _, _, rfl, rfl, _, rfl, rfl, _, rfl, ?_⟩
      refine ite2 (fun d => iteT ?_) (fun d => ⟨_, rfl, rfl, _, rfl, ite2 (fun d2 => ?_) (fun d2 => ?_)⟩)
      · have r : isRow x = true := by
          have := V.int.inj (of_decide_eq_true d)
          cases x <;> first | rfl | (simp [place] at this)
        refine ⟨_, rfl, _, _, rfl, rfl, _, rfl, _, rfl, _, rfl, _, _, rfl, rfl, a, _, _, _, rfl, rfl, hS1, at_of (by rfl) (vi_get (at_count hx r)), _, _, rfl, rfl, ?_⟩
        refine ⟨_, rfl, .inl ⟨rfl, _, .inl (.inl eD)⟩, _, rfl, (by show 1 ≤ sizeLine; decide), fun p1 n1 => ?_⟩
        have s2 : Same H1 (upd H1 p1 (.lst [V.int (place x : Nat)])) := same_new n1
        refine ⟨_, rfl, _, rfl, _, rfl, _, rfl, _, rfl, a, _, rfl, s2.seq hS1, fun p2 n2 => ?_⟩
        have RR : (if isRow x = true then 2 else 1) = 2 := if_pos r
        have cutEq : cutV (vi (flatN xs)) (some (((flatN (xs.take j)).length : Nat) + 2)) (some (((flatN (xs.take j)).length : Nat) + 2 + ((args x).length : Nat))) = vi (args x) := by
          have q := at_args hx
          rw [RR] at q
          have q2 := cut_mid (vi (flatN xs)) ((flatN (xs.take j)).length + 2) (args x).length
          rw [Int.natCast_add, Int.natCast_add] at q2
          refine q2.trans ?_
          unfold vi
          rw [← List.map_drop, ← List.map_take, q]
        have s3 : Same H1 (upd (upd H1 p1 (.lst [V.int (place x : Nat)])) p2 (.lst (cutV (vi (flatN xs)) (some (((flatN (xs.take j)).length : Nat) + 2)) (some (((flatN (xs.take j)).length : Nat) + 2 + ((args x).length : Nat)))))) := s2.trans (same_new n2)
        have n12 : p1 ≠ p2 := ne_of_none upd_same n2
        refine ⟨p1, p2, _, _, rfl, rfl, (by rw [upd_ne n12, upd_same]), upd_same, ?_, fun p3 n3 => ?_⟩
        · have := cutV_length (vi (flatN xs)) (some (((flatN (xs.take j)).length : Nat) + 2)) (some (((flatN (xs.take j)).length : Nat) + 2 + ((args x).length : Nat)))
          rw [cutEq, vi_len]
          show 1 + _ ≤ sizeLine
          omega
        have s4 := s3.trans (same_new (o := .lst ([V.int (place x : Nat)] ++ cutV (vi (flatN xs)) (some (((flatN (xs.take j)).length : Nat) + 2)) (some (((flatN (xs.take j)).length : Nat) + 2 + ((args x).length : Nat))))) n3)
        have n1H : H1 p3 = none := s3.free n3
        have nDp3 : D ≠ p3 := ne_of_none eD n1H
        refine ⟨D, _, _, rfl, rfl, s4 _ _ eD, ?_, _, rfl, ?_⟩
        · rw [refs_len]
          exact small1000 (by omega)
        rw [refs_snoc]
        refine ⟨some (V.int (place x : Nat)), some (V.int (((flatN (xs.take j)).length : Nat) + 2)), some (V.int (((flatN (xs.take j)).length : Nat) + 2 + ((args x).length : Nat))), ps ++ [p3], ?_, same_put (e1.trans s4) hD, upd_same, ?_, ?_, ?_⟩
        · have := flatN_next hx
          rw [RR] at this
          have ee : (((flatN (xs.take j)).length : Nat) + 2 + ((args x).length : Nat)) = ((flatN (xs.take (j + 1))).length : Int) := by
            rw [this]
            show _ = _
            omega
          rw [← ee]
          rfl
        · rw [take_snoc hx, List.map_append]
          refine Lsts.snoc ?_ (Lsts.put nD (tp.same s4))
          rw [upd_ne (Ne.symm nDp3), upd_same, cutEq]
          rfl
        · intro q hq
          rcases List.mem_append.mp hq with hq | hq
          · exact nw q hq
          · rw [List.mem_singleton.mp hq]
            exact e1.free n1H
        · intro hq
          rcases List.mem_append.mp hq with hq | hq
          · exact nD hq
          · exact nDp3 (List.mem_singleton.mp hq)
      · have r : isRow x = true := by
          have := V.int.inj (of_decide_eq_true d2)
          cases x <;> first | rfl | (simp [place] at this)
        refine ⟨_, rfl, _, _, rfl, rfl, _, rfl, _, rfl, _, rfl, _, _, rfl, rfl, a, _, _, _, rfl, rfl, hS1, at_of (by rfl) (vi_get (at_count hx r)), _, _, rfl, rfl, ?_⟩
        refine ⟨_, rfl, .inl ⟨rfl, _, .inl (.inl eD)⟩, _, rfl, (by show 1 ≤ sizeLine; decide), fun p1 n1 => ?_⟩
        have s2 : Same H1 (upd H1 p1 (.lst [V.int (place x : Nat)])) := same_new n1
        refine ⟨_, rfl, _, rfl, _, rfl, _, rfl, _, rfl, a, _, rfl, s2.seq hS1, fun p2 n2 => ?_⟩
        have RR : (if isRow x = true then 2 else 1) = 2 := if_pos r
        have cutEq : cutV (vi (flatN xs)) (some (((flatN (xs.take j)).length : Nat) + 2)) (some (((flatN (xs.take j)).length : Nat) + 2 + ((args x).length : Nat))) = vi (args x) := by
          have q := at_args hx
          rw [RR] at q
          have q2 := cut_mid (vi (flatN xs)) ((flatN (xs.take j)).length + 2) (args x).length
          rw [Int.natCast_add, Int.natCast_add] at q2
          refine q2.trans ?_
          unfold vi
          rw [← List.map_drop, ← List.map_take, q]
        have s3 : Same H1 (upd (upd H1 p1 (.lst [V.int (place x : Nat)])) p2 (.lst (cutV (vi (flatN xs)) (some (((flatN (xs.take j)).length : Nat) + 2)) (some (((flatN (xs.take j)).length : Nat) + 2 + ((args x).length : Nat)))))) := s2.trans (same_new n2)
        have n12 : p1 ≠ p2 := ne_of_none upd_same n2
        refine ⟨p1, p2, _, _, rfl, rfl, (by rw [upd_ne n12, upd_same]), upd_same, ?_, fun p3 n3 => ?_⟩
        · have := cutV_length (vi (flatN xs)) (some (((flatN (xs.take j)).length : Nat) + 2)) (some (((flatN (xs.take j)).length : Nat) + 2 + ((args x).length : Nat)))
          rw [cutEq, vi_len]
          show 1 + _ ≤ sizeLine
          omega
        have s4 := s3.trans (same_new (o := .lst ([V.int (place x : Nat)] ++ cutV (vi (flatN xs)) (some (((flatN (xs.take j)).length : Nat) + 2)) (some (((flatN (xs.take j)).length : Nat) + 2 + ((args x).length : Nat))))) n3)
        have n1H : H1 p3 = none := s3.free n3
        have nDp3 : D ≠ p3 := ne_of_none eD n1H
        refine ⟨D, _, _, rfl, rfl, s4 _ _ eD, ?_, _, rfl, ?_⟩
        · rw [refs_len]
          exact small1000 (by omega)
        rw [refs_snoc]
        refine ⟨some (V.int (place x : Nat)), some (V.int (((flatN (xs.take j)).length : Nat) + 2)), some (V.int (((flatN (xs.take j)).length : Nat) + 2 + ((args x).length : Nat))), ps ++ [p3], ?_, same_put (e1.trans s4) hD, upd_same, ?_, ?_, ?_⟩
        · have := flatN_next hx
          rw [RR] at this
          have ee : (((flatN (xs.take j)).length : Nat) + 2 + ((args x).length : Nat)) = ((flatN (xs.take (j + 1))).length : Int) := by
            rw [this]
            show _ = _
            omega
          rw [← ee]
          rfl
        · rw [take_snoc hx, List.map_append]
          refine Lsts.snoc ?_ (Lsts.put nD (tp.same s4))
          rw [upd_ne (Ne.symm nDp3), upd_same, cutEq]
          rfl
        · intro q hq
          rcases List.mem_append.mp hq with hq | hq
          · exact nw q hq
          · rw [List.mem_singleton.mp hq]
            exact e1.free n1H
        · intro hq
          rcases List.mem_append.mp hq with hq | hq
          · exact nD hq
          · exact nDp3 (List.mem_singleton.mp hq)
      · have r : isRow x = false := by
          have h0 : place x ≠ 0 := fun q => d (by rw [q]; rfl)
          have h7 : place x ≠ 7 := fun q => d2 (by rw [q]; rfl)
          cases x <;> first | rfl | (exact absurd rfl h0) | (exact absurd rfl h7)
        have hwd : wds[place x]'px = (args x).length := by
          rw [args_width x r]
          cases x <;> first | rfl | (cases r; done) | (simp [place, wds] at px)
        refine ⟨_, rfl, .inl ⟨rfl, _, .inl (.inl eD)⟩, _, rfl, (by show 1 ≤ sizeLine; decide), fun p1 n1 => ?_⟩
        have s2 : Same H1 (upd H1 p1 (.lst [V.int (place x : Nat)])) := same_new n1
        refine ⟨_, rfl, _, rfl, _, rfl, _, rfl, _, rfl, a, _, rfl, s2.seq hS1, fun p2 n2 => ?_⟩
        rw [hwd]
        have RR : (if isRow x = true then 2 else 1) = 1 := if_neg (by rw [r]; exact Bool.false_ne_true)
        have cutEq : cutV (vi (flatN xs)) (some (((flatN (xs.take j)).length : Nat) + 1)) (some (((flatN (xs.take j)).length : Nat) + 1 + ((args x).length : Nat))) = vi (args x) := by
          have q := at_args hx
          rw [RR] at q
          have q2 := cut_mid (vi (flatN xs)) ((flatN (xs.take j)).length + 1) (args x).length
          rw [Int.natCast_add, Int.natCast_add] at q2
          refine q2.trans ?_
          unfold vi
          rw [← List.map_drop, ← List.map_take, q]
        have s3 : Same H1 (upd (upd H1 p1 (.lst [V.int (place x : Nat)])) p2 (.lst (cutV (vi (flatN xs)) (some (((flatN (xs.take j)).length : Nat) + 1)) (some (((flatN (xs.take j)).length : Nat) + 1 + ((args x).length : Nat)))))) := s2.trans (same_new n2)
        have n12 : p1 ≠ p2 := ne_of_none upd_same n2
        refine ⟨p1, p2, _, _, rfl, rfl, (by rw [upd_ne n12, upd_same]), upd_same, ?_, fun p3 n3 => ?_⟩
        · have := cutV_length (vi (flatN xs)) (some (((flatN (xs.take j)).length : Nat) + 1)) (some (((flatN (xs.take j)).length : Nat) + 1 + ((args x).length : Nat)))
          rw [cutEq, vi_len]
          show 1 + _ ≤ sizeLine
          omega
        have s4 := s3.trans (same_new (o := .lst ([V.int (place x : Nat)] ++ cutV (vi (flatN xs)) (some (((flatN (xs.take j)).length : Nat) + 1)) (some (((flatN (xs.take j)).length : Nat) + 1 + ((args x).length : Nat))))) n3)
        have n1H : H1 p3 = none := s3.free n3
        have nDp3 : D ≠ p3 := ne_of_none eD n1H
        refine ⟨D, _, _, rfl, rfl, s4 _ _ eD, ?_, _, rfl, ?_⟩
        · rw [refs_len]
          exact small1000 (by omega)
        rw [refs_snoc]
        refine ⟨some (V.int (place x : Nat)), some (V.int (((flatN (xs.take j)).length : Nat) + 1)), some (V.int (((flatN (xs.take j)).length : Nat) + 1 + ((args x).length : Nat))), ps ++ [p3], ?_, same_put (e1.trans s4) hD, upd_same, ?_, ?_, ?_⟩
        · have := flatN_next hx
          rw [RR] at this
          have ee : (((flatN (xs.take j)).length : Nat) + 1 + ((args x).length : Nat)) = ((flatN (xs.take (j + 1))).length : Int) := by
            rw [this]
            show _ = _
            omega
          rw [← ee]
          rfl
        · rw [take_snoc hx, List.map_append]
          refine Lsts.snoc ?_ (Lsts.put nD (tp.same s4))
          rw [upd_ne (Ne.symm nDp3), upd_same, cutEq]
          rfl
        · intro q hq
          rcases List.mem_append.mp hq with hq | hq
          · exact nw q hq
          · rw [List.mem_singleton.mp hq]
            exact e1.free n1H
        · intro hq
          rcases List.mem_append.mp hq with hq | hq
          · exact nD hq
          · exact nDp3 (List.mem_singleton.mp hq)
    · have ej : j = xs.length := by omega
      subst ej
      rw [List.take_length] at tp ⊢
      rw [decide_eq_false (by omega)]
      refine iteF ⟨_, rfl, fin H1 D ps e1 hD eD tp nw nD⟩

/-! ### answers -/
def spCall (K : PySem.W.Frag) (C Bo : Addr) (lim : Nat) : Sp := fun vs H Q _ => ∃ (p g : Addr) (l : List Addr) (o : Mu42.Abs) (x : Mu42.Call), vs = [.ref p, .int (place x : Nat), .ref g] ∧ HouseAt C Bo H p l o ∧ H g = some (.lst (vi (args x))) ∧ g ∉ p :: l ∧ Fine x ∧ place x < lim ∧ Says C Bo H p l (Mu42.step o x) Q
def spAns (K : PySem.W.Frag) (lim : Nat) : Sp := fun vs H Q _ => ∃ (a : Addr) (xs : List Mu42.Call), vs = [.ref a] ∧ SqL K H a (vi (flatN xs)) ∧ (∀ x ∈ xs, Fine x ∧ place x < lim) ∧ xs.length ≤ 60 ∧ (toldN (play none xs)).length ≤ 10000000 ∧
  ∀ (H' : Hp) (D : Addr), H' D = some (.lst ((toldN (play none xs)).map V.int)) → Q (.ref D) H'
theorem play_take (xs : List Mu42.Call) (j : Nat) : ∃ r, toldN (play none xs) = toldN (play none (xs.take j)) ++ r := by
  have e : ∀ (as bs : List Mu42.Call) (o : Mu42.Abs), ∃ r, play o (as ++ bs) = play o as ++ r := by
    intro as
    induction as with
    | nil => intro bs o; exact ⟨_, rfl⟩
    | cons c as ih =>
      intro bs o
      obtain ⟨r, h⟩ := ih bs (Mu42.step o c).1
      exact ⟨r, by show _ :: play _ (as ++ bs) = _; rw [h]; rfl⟩
  obtain ⟨r, h⟩ := e (xs.take j) (xs.drop j) none
  rw [List.take_append_drop] at h
  refine ⟨toldN r, ?_⟩
  rw [h]
  unfold toldN
  rw [List.flatMap_append]
theorem told_next {xs : List Mu42.Call} {j : Nat} {x : Mu42.Call} (e : xs[j]? = some x) : toldN (play none (xs.take (j + 1))) = toldN (play none (xs.take j)) ++ (((Mu42.step (after (xs.take j)) x).2.length : Int) :: (Mu42.step (after (xs.take j)) x).2) := by
  rw [take_snoc e, play_snoc]
  unfold toldN
  rw [List.flatMap_append]
  simp
  exact ⟨rfl, rfl⟩
theorem after_next {xs : List Mu42.Call} {j : Nat} {x : Mu42.Call} (e : xs[j]? = some x) : after (xs.take (j + 1)) = (Mu42.step (after (xs.take j)) x).1 := by
  rw [take_snoc e, after_snoc]
structure AnsI (C Bo : Addr) (H : Hp) (a D p L : Addr) (ps : List Addr) (xs : List Mu42.Call) (j : Nat) (σ : L2.St) (H' : Hp) (l : List Addr) (v3 v4 : Option V) : Prop where
  sl : σ = [some (.ref a), some (.ref D), some (.ref p), v3, v4]
  same : Same H H'
  eL : H' L = some (.lst (refs ps))
  ls : Lsts H' ps (xs.map part)
  eD : H' D = some (.lst ((toldN (play none (xs.take j))).map V.int))
  ho : HouseAt C Bo H' p l (after (xs.take j))
  nD : D ∉ p :: l
  nL : L ∉ p :: l
  nP : ∀ q ∈ ps, q ∉ p :: l
  old : ∀ x ∈ p :: l, H x = none
theorem sc_answers : FnScope ["calls", "told", "house", "call", "answer"] ["calls"] (defScope s_answers) := ⟨rfl, rfl, rfl, by decide +kernel, rfl, by decide +kernel, by decide +kernel⟩
theorem ok_answers {f fI : Addr} {fd fdI : FuncData} {lim : Nat} (F : Fun K "answers" "answers" s_answers f fd) (T0 : Txt K mg) (T : TxtH K mg C) (M : Mk K C fI) (GI : FnOk P w K mg base CX0 1 fI fdI ["self"] (spInit C Bo)) (bI : Binds K fdI ["self"] [])
    (C1 : Callee P w K mg base "split_calls" ["calls"] 1 (fun vs H Q E => ∃ (a : Addr) (xs : List Mu42.Call), vs = [.ref a] ∧ SqL K H a (vi (flatN xs)) ∧ (∀ x ∈ xs, Fine x ∧ place x < lim) ∧ xs.length ≤ 60 ∧
      ∀ (H' : Hp) (D : Addr) (ps : List Addr), Same H H' → H D = none → H' D = some (.lst (refs ps)) → Lsts H' ps (xs.map part) → (∀ p ∈ ps, H p = none) → D ∉ ps → Q (.ref D) H'))
    {k : Nat} (hk : 2 ≤ k) (C2 : Callee P w K mg base "answer_call" ["house", "number", "given"] k (spCall K C Bo lim)) : FnOk P w K mg base CX0 (k + 1) f fd ["calls"] (spAns K lim) := by
  obtain ⟨f1, fd1, G1, m1, k1, b1⟩ := C1.ex
  obtain ⟨f2, fd2, G2, m2, k2, b2⟩ := C2.ex
  refine F.ok sc_answers (fun vs H Q E h => ?_) (fun cdv A outer s H vs Q E hr h => ?_)
  · obtain ⟨a, xs, rfl, _⟩ := h
    rfl
  · obtain ⟨a, xs, rfl, hS, hf, hlen, hsz, fin⟩ := h
    have hr1 : Room 1 _ := hr.mono (Nat.le_trans (by decide) hk)
    have hr2 : Room 2 _ := hr.mono hk
    refine ⟨_, pss_cons (ps_set (i := 1) sc_answers.nd rfl (Or.inl rfl) (pe_lst pa_nil))
      (pss_cons (ps_set (i := 2) sc_answers.nd rfl (Or.inl rfl) (pe_make0 M GI hr2 rfl T.mgC bI .nil pass0))
      (pss_cons (ps_for PassesOwn.never rfl (pi_list (pe_call G1 hr1 (by rfl) m1 k1 b1 .nil pass0 (pa_cons (pv 0) pa_nil))) (pg_name (i := 3) sc_answers.nd rfl (Or.inl rfl))
        (pss_cons (ps_set (i := 4) sc_answers.nd rfl (Or.inl rfl) (pe_call G2 hr (by rfl) m2 k2 b2 .nil pass0 (pa_cons (pv 2) (pa_cons (pe_ix ix_list (pv 3) pe_int (fun _ _ => rfl)) (pa_cons (pe_slice sl_list (pv 3) (po_some pe_int) po_none) pa_nil)))))
        (pss_cons (ps_expr (pe_bm PySem.F.plainAttrs_list PySem.F.slot_list_append PySem.F.type_list_append mt_append (pv 1) (pa_cons (pe_callB call_len_seq (by rfl) T0.len PySem.boot_len (pa_cons (pv 4) pa_nil)) pa_nil)))
        (pss_one (ps_expr (pe_bm PySem.F.plainAttrs_list PySem.F.slot_list_extend PySem.F.type_list_extend mt_extend (pv 1) (pa_cons (pv 4) pa_nil)))))))
      (pss_one (ps_ret (pv 1))))), ?_⟩
    refine ⟨(by show 0 ≤ sizeLine; decide), fun D hD => ?_⟩
    have s0 : Same H (upd H D (.lst [])) := same_new hD
    intro p dx np nd ned
    refine ⟨p, dx, rfl, upd_same, fun H1 O h1 nO kp => ⟨rfl, ?_⟩⟩
    have s1 : Same (upd H D (.lst [])) H1 := Same.made np nd kp
    have s01 := s0.trans s1
    have nDp : D ≠ p := ne_of_none upd_same np
    have sm : Same (upd H D (.lst [])) (upd (upd (upd H D (.lst [])) dx (.own p)) p (.ins C dx [])) := fun c u e => by
      rw [upd_ne (ne_of_none e np), upd_ne (ne_of_none e nd)]
      exact e
    have nOd := sm.free nO
    have nDO : D ≠ O := ne_of_none upd_same nOd
    have nOH : H O = none := s0.free nOd
    refine ⟨_, rfl, a, xs, rfl, s01.seq hS, hf, hlen, fun H2 L ps s2 nL eL ls nps nLps => ⟨L, rfl, ⟨_, .inl (.inl eL)⟩, for_list (K := K) (a := L) (xs := refs ps) (fun j σ H' => ∃ l v3 v4, AnsI C Bo H a D p L ps xs j σ H' l v3 v4)
      ⟨[O], none, none, ?_⟩ ?_ ?_ ?_⟩⟩
    · have hp1 : H1 p ≠ none := house_there h1 p (by simp)
      have hO1 : H1 O ≠ none := house_there h1 O (by simp)
      have hD1 : H1 D = some (.lst []) := s1 _ _ upd_same
      refine ⟨rfl, s01.trans s2, eL, ls, s2 _ _ hD1, house_same s2 h1, (by simp [nDp, nDO]), ?_, ?_, ?_⟩
      · intro m
        exact house_there h1 L m nL
      · intro q hq m
        exact house_there h1 q m (nps q hq)
      · intro x hx
        rcases List.mem_cons.mp hx with r | hx
        · rw [r]; exact s0.free np
        · rw [List.mem_singleton.mp hx]; exact nOH
    · rintro j σ H' _ ⟨l, v3, v4, I⟩
      exact .inl (.inl I.eL)
    · rintro j y σ H' hj ⟨l, v3, v4, I⟩
      obtain ⟨q, hq, rfl⟩ := refs_at hj
      obtain ⟨h, hh, eq⟩ := I.ls.get hq
      obtain ⟨x, hx, rfl⟩ : ∃ x, xs[j]? = some x ∧ h = part x := by
        rw [List.getElem?_map] at hh
        cases e : xs[j]? with
        | none => rw [e] at hh; cases hh
        | some x => rw [e] at hh; exact ⟨x, rfl, (Option.some.inj hh).symm⟩
      obtain ⟨fx, px⟩ := hf x (List.mem_of_getElem? hx)
      obtain ⟨r, hr0⟩ := play_take xs (j + 1)
      have hbig : (toldN (play none (xs.take j))).length + 1 + (Mu42.step (after (xs.take j)) x).2.length ≤ 10000000 := by
        rw [hr0, List.length_append, told_next hx, List.length_append, List.length_cons] at hsz
        omega
      have szl : sizeLine = 16777216 := sizeLine_eq
      obtain ⟨sl, same, eL', ls', eD, ho, nD, nL', nP, old⟩ := I
      subst sl
      refine ⟨_, rfl, _, rfl, q, _, 0, _, rfl, rfl, .inl (.inl eq), at_of (j := 0) rfl (vi_get (z := place x) rfl), _, rfl, _, rfl, q, _, rfl, .inl (.inl eq), fun g ng => ?_⟩
      have s3 : Same H' (upd H' g (.lst (cutV (vi (part x)) (some 1) none))) := same_new ng
      have eg : upd H' g (.lst (cutV (vi (part x)) (some 1) none)) g = some (.lst (vi (args x))) := by
        rw [upd_same]
        exact congrArg (fun q => some (HO.lst q)) (cut_from (vi (part x)) 1)
      have ngl : g ∉ p :: l := fun m => house_there ho g m ng
      refine ⟨p, g, l, _, x, rfl, house_same s3 ho, eg, ngl, fx, px, fun H4 A l' h4 b4 fr4 lv4 nA nAl eA => ?_⟩
      generalize upd H' g (.lst (cutV (vi (part x)) (some 1) none)) = H3 at *
      have eD4 := b4 _ _ (s3 _ _ eD) nD
      have nAD : A ≠ D := fun e => by rw [e, s3 _ _ eD] at nA; cases nA
      have lt1 : ((toldN (play none (xs.take j))).map V.int).length < sizeLine := by rw [List.length_map]; omega
      refine ⟨_, rfl, .inl ⟨rfl, _, .inl (.inl eD4)⟩, _, rfl, A, _, rfl, .inl (.inl (.inl eA)), D, _, _, rfl, rfl, eD4, lt1, ?_⟩
      have eA5 : upd H4 D (.lst ((toldN (play none (xs.take j))).map V.int ++ [V.int (((Mu42.step (after (xs.take j)) x).2.map V.int).length : Nat)])) A = some (.lst ((Mu42.step (after (xs.take j)) x).2.map V.int)) := by
        rw [upd_ne nAD]
        exact eA
      refine ⟨_, rfl, .inl ⟨rfl, _, .inl (.inl upd_same)⟩, _, rfl, D, A, _, _, rfl, rfl, upd_same, eA5, ?_, ?_⟩
      · rw [List.length_append, List.length_map, List.length_map, List.length_singleton]
        omega
      rw [upd_upd]
      have nl : ∀ z ∈ p :: l', H z = none := fun z hz => by
        rcases List.mem_cons.mp hz with e | hz
        · rw [e]; exact old p (by simp)
        · rcases fr4 z hz with m | m
          · exact old z (List.mem_cons_of_mem _ m)
          · exact (same.trans s3).free m
      have keep : ∀ z u, H3 z = some u → z ∉ p :: l → z ∉ p :: l' := fun z u e n m => by
        rcases List.mem_cons.mp m with r | m
        · exact n (by rw [r]; simp)
        · rcases fr4 z m with m | m
          · exact n (List.mem_cons_of_mem _ m)
          · rw [m] at e; cases e
      have nD' := keep D _ (s3 _ _ eD) nD
      have nL4 := keep L _ (s3 _ _ eL') nL'
      have nP4 : ∀ q ∈ ps, q ∉ p :: l' := fun q hq => by
        obtain ⟨u, e⟩ := ls'.there q hq
        exact keep q _ (s3 _ _ e) (nP q hq)
      have hDL : D ≠ L := fun e => by
        have h1L := s2 _ _ (s1 _ _ (upd_same (H := H) (a := D) (o := .lst [])))
        have : (upd H D (.lst [])) L = none := s1.free nL
        rw [← e, upd_same] at this
        cases this
      have hDP : D ∉ ps := fun m => by
        have := s1.free (nps D m)
        rw [upd_same] at this
        cases this
      refine ⟨l', _, _, rfl, same_put (fun c u e => b4 c u (s3 c u (same c u e)) fun m => by rw [old c m] at e; cases e) hD, ?_, ?_, ?_, ?_, nD', nL4, nP4, nl⟩
      · rw [upd_ne (Ne.symm hDL)]
        exact b4 _ _ (s3 _ _ eL') nL'
      · exact Lsts.put hDP (Lsts.but b4 nP (ls'.same s3))
      · rw [upd_same, told_next hx, List.map_append, List.length_map, List.append_assoc]
        rfl
      · rw [after_next hx]
        exact house_put eD4 nD' h4
    · rintro σ H' ⟨l, v3, v4, I⟩
      have e := I.eD
      have lp : (refs ps).length = xs.length := by rw [refs_len, ls.len, List.length_map]
      rw [lp, List.take_length] at e
      rw [I.sl]
      exact ⟨_, rfl, fin H' D e⟩
end
end Ice
namespace Ice
open PySem PySem.Spec PyProof.Rows L2
structure TxtD (mg : Str → Option Value) : Prop where
  bring : ∃ t, mg "BRING" = some (.int 1 t)
  straw : ∃ t, mg "STRAW" = some (.int 2 t)
  take : ∃ t, mg "TAKE" = some (.int 3 t)
  faces : ∃ t, mg "FACES" = some (.int 4 t)
  best : ∃ t, mg "BEST" = some (.int 5 t)
  order : ∃ t, mg "ORDER" = some (.int 6 t)
  water : ∃ t, mg "WATER" = some (.int 7 t)
  lay : ∃ t, mg "LAY" = some (.int 8 t)
  stack : ∃ t, mg "STACK" = some (.int 9 t)
  follow : ∃ t, mg "FOLLOW" = some (.int 10 t)
  none_ : ∃ t, mg "NO_HOUSE" = some (.int (-9) t)
section
variable {P : Program} {w : World} {K : PySem.W.Frag} {mg : Str → Option Value} {base : Heap} {C Bo : Addr}
theorem decF {a b : Int} (h : a ≠ b) : decide (V.int a = V.int b) = false := decide_eq_false fun q => h (V.int.inj q)
theorem decT (a : Int) : decide (V.int a = V.int a) = true := decide_eq_true rfl
def spStack (C Bo : Addr) : Sp := fun vs H Q E => spM1 C Bo .stack vs H Q E ∧ ∃ p n : Nat, vs = [.ref p, .int (n : Int)] ∧ n ≤ 20
theorem sc_call : FnScope ["house", "number", "given"] ["house", "number", "given"] (defScope s_call) := ⟨rfl, rfl, rfl, by decide +kernel, rfl, by decide +kernel, by decide +kernel⟩
theorem ok_call {f : Addr} {fd : FuncData} (F : Fun K "answer_call" "answer_call" s_call f fd) (T0 : Txt K mg) (T : TxtH K mg C) (TM : TxtM K mg wds) (TD : TxtD mg)
    (C0 : MCallee P w K mg base C "begin" ["self", "heap"] 2 (spBegin K C Bo)) (C1 : MCallee P w K mg base C "stands" ["self"] 1 (spStands C Bo)) (C2 : MCallee P w K mg base C "bring" ["self", "column", "n"] 2 (spM2 C Bo .bring))
    (C3 : MCallee P w K mg base C "set_straw" ["self", "column", "b"] 4 (spM2 C Bo .straw)) (C4 : MCallee P w K mg base C "take" ["self", "column"] 3 (spM1 C Bo .take)) (C5 : MCallee P w K mg base C "faces" ["self"] 3 (spM0 C Bo .faces)) (C6 : MCallee P w K mg base C "best" ["self"] 37 (spM0 C Bo .best))
    (C7 : MCallee P w K mg base C "order" ["self"] 38 (spM0 C Bo .order)) (C8 : MCallee P w K mg base C "water" ["self", "order"] 3 (spWater C Bo)) (C9 : MCallee P w K mg base C "lay" ["self", "n"] 37 (spM1 C Bo .lay)) (C10 : MCallee P w K mg base C "stack" ["self", "n"] 37 (spStack C Bo))
    (C11 : MCallee P w K mg base C "follow" ["self", "n"] 38 (spM1 C Bo .follow)) (C12 : MCallee P w K mg base C "look" ["self"] 1 (spM0 C Bo .look)) :
    FnOk P w K mg base CX0 39 f fd ["house", "number", "given"] (spCall K C Bo 12) := by
  obtain ⟨f0, fd0, G0, m0, b0⟩ := C0.ex
  obtain ⟨f1, fd1, G1, m1, b1⟩ := C1.ex
  obtain ⟨f2, fd2, G2, m2, b2⟩ := C2.ex
  obtain ⟨f3, fd3, G3, m3, b3⟩ := C3.ex
  obtain ⟨f4, fd4, G4, m4, b4⟩ := C4.ex
  obtain ⟨f5, fd5, G5, m5, b5⟩ := C5.ex
  obtain ⟨f6, fd6, G6, m6, b6⟩ := C6.ex
  obtain ⟨f7, fd7, G7, m7, b7⟩ := C7.ex
  obtain ⟨f8, fd8, G8, m8, b8⟩ := C8.ex
  obtain ⟨f9, fd9, G9, m9, b9⟩ := C9.ex
  obtain ⟨f10, fd10, G10, m10, b10⟩ := C10.ex
  obtain ⟨f11, fd11, G11, m11, b11⟩ := C11.ex
  obtain ⟨f12, fd12, G12, m12, b12⟩ := C12.ex
  obtain ⟨t0, c0⟩ := TM.begin_
  obtain ⟨t1, c1⟩ := TD.bring
  obtain ⟨t2, c2⟩ := TD.straw
  obtain ⟨t3, c3⟩ := TD.take
  obtain ⟨t4, c4⟩ := TD.faces
  obtain ⟨t5, c5⟩ := TD.best
  obtain ⟨t6, c6⟩ := TD.order
  obtain ⟨t7, c7⟩ := TD.water
  obtain ⟨t8, c8⟩ := TD.lay
  obtain ⟨t9, c9⟩ := TD.stack
  obtain ⟨t10, c10⟩ := TD.follow
  obtain ⟨tn, cn⟩ := TD.none_
  refine F.ok sc_call (fun vs H Q E h => ?_) (fun cdv A outer s H vs Q E hr h => ?_)
  · obtain ⟨p, g, l, o, x, rfl, _⟩ := h
    rfl
  · obtain ⟨p, g, l, o, x, rfl, hh, eg, ng, fx, px, S⟩ := h
    have hr1 : Room 1 _ := hr.mono (by decide)
    have hr2 : Room 2 _ := hr.mono (by decide)
    have hr3 : Room 3 _ := hr.mono (by decide)
    have hr4 : Room 4 _ := hr.mono (by decide)
    have hr37 : Room 37 _ := hr.mono (by decide)
    refine ⟨_, pss_cons (ps_if (pt_cmpR op_eq (pv 1) (pe_glob (v := V.int 0) (by rfl) c0 ⟨_, rfl⟩) (nomark _)) (pss_one (ps_ret (pe_meth (pv 0) T.cl m0 G0 hr2 b0 .nil pass0 (pa_cons (pv 2) pa_nil)))) pss_nil)
      (pss_cons (ps_if (pt_not (pt_val (pe_meth0 (pv 0) T.cl m1 G1 hr1 b1 .nil pass0))) (pss_one (ps_ret (pe_lst (pa_cons (pe_glob (v := V.int (-9)) (by rfl) cn ⟨_, rfl⟩) pa_nil)))) pss_nil)
      (pss_cons (ps_if (pt_cmpR op_eq (pv 1) (pe_glob (v := V.int 1) (by rfl) c1 ⟨_, rfl⟩) (nomark _)) (pss_one (ps_ret (pe_meth (pv 0) T.cl m2 G2 hr2 b2 .nil pass0 (pa_cons (pe_ix ix_list (pv 2) pe_int (fun _ _ => rfl)) (pa_cons (pe_ix ix_list (pv 2) pe_int (fun _ _ => rfl)) pa_nil))))) pss_nil)
      (pss_cons (ps_if (pt_cmpR op_eq (pv 1) (pe_glob (v := V.int 2) (by rfl) c2 ⟨_, rfl⟩) (nomark _)) (pss_one (ps_ret (pe_meth (pv 0) T.cl m3 G3 hr4 b3 .nil pass0 (pa_cons (pe_ix ix_list (pv 2) pe_int (fun _ _ => rfl)) (pa_cons (pe_ix ix_list (pv 2) pe_int (fun _ _ => rfl)) pa_nil))))) pss_nil)
      (pss_cons (ps_if (pt_cmpR op_eq (pv 1) (pe_glob (v := V.int 3) (by rfl) c3 ⟨_, rfl⟩) (nomark _)) (pss_one (ps_ret (pe_meth (pv 0) T.cl m4 G4 hr3 b4 .nil pass0 (pa_cons (pe_ix ix_list (pv 2) pe_int (fun _ _ => rfl)) pa_nil)))) pss_nil)
      (pss_cons (ps_if (pt_cmpR op_eq (pv 1) (pe_glob (v := V.int 4) (by rfl) c4 ⟨_, rfl⟩) (nomark _)) (pss_one (ps_ret (pe_meth0 (pv 0) T.cl m5 G5 hr3 b5 .nil pass0))) pss_nil)
      (pss_cons (ps_if (pt_cmpR op_eq (pv 1) (pe_glob (v := V.int 5) (by rfl) c5 ⟨_, rfl⟩) (nomark _)) (pss_one (ps_ret (pe_meth0 (pv 0) T.cl m6 G6 hr37 b6 .nil pass0))) pss_nil)
      (pss_cons (ps_if (pt_cmpR op_eq (pv 1) (pe_glob (v := V.int 6) (by rfl) c6 ⟨_, rfl⟩) (nomark _)) (pss_one (ps_ret (pe_meth0 (pv 0) T.cl m7 G7 hr b7 .nil pass0))) pss_nil)
      (pss_cons (ps_if (pt_cmpR op_eq (pv 1) (pe_glob (v := V.int 7) (by rfl) c7 ⟨_, rfl⟩) (nomark _)) (pss_one (ps_ret (pe_meth (pv 0) T.cl m8 G8 hr3 b8 .nil pass0 (pa_cons (pv 2) pa_nil)))) pss_nil)
      (pss_cons (ps_if (pt_cmpR op_eq (pv 1) (pe_glob (v := V.int 8) (by rfl) c8 ⟨_, rfl⟩) (nomark _)) (pss_one (ps_ret (pe_meth (pv 0) T.cl m9 G9 hr37 b9 .nil pass0 (pa_cons (pe_ix ix_list (pv 2) pe_int (fun _ _ => rfl)) pa_nil)))) pss_nil)
      (pss_cons (ps_if (pt_cmpR op_eq (pv 1) (pe_glob (v := V.int 9) (by rfl) c9 ⟨_, rfl⟩) (nomark _)) (pss_one (ps_ret (pe_meth (pv 0) T.cl m10 G10 hr37 b10 .nil pass0 (pa_cons (pe_ix ix_list (pv 2) pe_int (fun _ _ => rfl)) pa_nil)))) pss_nil)
      (pss_cons (ps_if (pt_cmpR op_eq (pv 1) (pe_glob (v := V.int 10) (by rfl) c10 ⟨_, rfl⟩) (nomark _)) (pss_one (ps_ret (pe_meth (pv 0) T.cl m11 G11 hr b11 .nil pass0 (pa_cons (pe_ix ix_list (pv 2) pe_int (fun _ _ => rfl)) pa_nil)))) pss_nil)
      (pss_one (ps_ret (pe_meth0 (pv 0) T.cl m12 G12 hr1 b12 .nil pass0)))))))))))))), ?_⟩
    obtain ⟨mm, DD, dx, x0, y0, d0, br0, mm0, hp, _, _⟩ := house_ins hh
    have ngp : g ≠ p := fun e => ng (by rw [e]; simp)
    refine ⟨_, rfl, rfl, _, rfl, ?_⟩
    by_cases n0 : place x = 0
    · have hx : ∃ h, x = .begin_ h := by cases x <;> first | exact ⟨_, rfl⟩ | cases n0
      obtain ⟨h, rfl⟩ := hx
      refine iteT ?_
      exact ⟨_, rfl, p, dx, _, rfl, hp, fl_no (by decide +kernel) (by decide +kernel) (by decide +kernel) (by decide +kernel) (by decide +kernel) (by decide +kernel), _, rfl, p, g, l, o, h, rfl, hh, .inl (.inl eg), ngp, by have := fx.1; omega, S⟩
    · rw [decF (by omega)]
      refine iteF ?_
      refine ⟨_, rfl, p, dx, _, rfl, hp, fl_no (by decide +kernel) (by decide +kernel) (by decide +kernel) (by decide +kernel) (by decide +kernel) (by decide +kernel), p, l, o, rfl, hh, _, rfl, ?_⟩
      cases o with
      | none =>
        have no : Mu42.step none x = (none, [-9]) := by cases x <;> first | rfl | exact absurd rfl n0
        rw [no] at S
        refine iteT ?_
        exact ⟨(by show 1 ≤ sizeLine; decide), fun q nq => says_any hh S (Same.refl _) nq⟩
      | some st =>
        refine iteF ?_
        have i0 : ∀ {z : Nat}, (args x)[0]? = some z → atI (vi (args x)) 0 = some (V.int (z : Int)) := fun e => at_of (j := 0) rfl (vi_get e)
        have i1 : ∀ {z : Nat}, (args x)[1]? = some z → atI (vi (args x)) 1 = some (V.int (z : Int)) := fun e => at_of (j := 1) rfl (vi_get e)
        have SG : SqL K H g (vi (args x)) := .inl (.inl eg)
        have meth : ∀ {k : Str}, (k == ("heap" : Str)) = false → (k == ("straw" : Str)) = false → (k == ("day" : Str)) = false → (k == ("brought" : Str)) = false → (k == ("melted" : Str)) = false → (k == ("orders_by_straw" : Str)) = false → (fl x0 y0 d0 br0 mm0 (.ref DD)).lookup k = none := fun h1 h2 h3 h4 h5 h6 => fl_no h1 h2 h3 h4 h5 h6
        refine ⟨_, rfl, rfl, _, rfl, ?_⟩
        cases x with
        | begin_ h => exact absurd rfl n0
        | bring i n =>
          refine iteT ?_
          exact ⟨_, rfl, p, dx, _, rfl, hp, meth (by decide +kernel) (by decide +kernel) (by decide +kernel) (by decide +kernel) (by decide +kernel) (by decide +kernel), _, rfl, g, _, 0, _, rfl, rfl, SG, i0 rfl, _, rfl, g, _, 1, _, rfl, rfl, SG, i1 rfl, p, l, st, i, n, rfl, hh, S⟩
        | straw i n =>
          refine iteF ⟨_, rfl, rfl, _, rfl, iteT ?_⟩
          exact ⟨_, rfl, p, dx, _, rfl, hp, meth (by decide +kernel) (by decide +kernel) (by decide +kernel) (by decide +kernel) (by decide +kernel) (by decide +kernel), _, rfl, g, _, 0, _, rfl, rfl, SG, i0 rfl, _, rfl, g, _, 1, _, rfl, rfl, SG, i1 rfl, p, l, st, i, n, rfl, hh, S⟩
        | take i =>
          refine iteF ⟨_, rfl, rfl, _, rfl, iteF ⟨_, rfl, rfl, _, rfl, iteT ?_⟩⟩
          exact ⟨_, rfl, p, dx, _, rfl, hp, meth (by decide +kernel) (by decide +kernel) (by decide +kernel) (by decide +kernel) (by decide +kernel) (by decide +kernel), _, rfl, g, _, 0, _, rfl, rfl, SG, i0 rfl, p, l, st, i, rfl, hh, S⟩
        | faces =>
          refine iteF ⟨_, rfl, rfl, _, rfl, iteF ⟨_, rfl, rfl, _, rfl, iteF ⟨_, rfl, rfl, _, rfl, iteT ?_⟩⟩⟩
          exact ⟨_, rfl, p, dx, _, rfl, hp, meth (by decide +kernel) (by decide +kernel) (by decide +kernel) (by decide +kernel) (by decide +kernel) (by decide +kernel), p, l, st, rfl, hh, S⟩
        | best =>
          refine iteF ⟨_, rfl, rfl, _, rfl, iteF ⟨_, rfl, rfl, _, rfl, iteF ⟨_, rfl, rfl, _, rfl, iteF ⟨_, rfl, rfl, _, rfl, iteT ?_⟩⟩⟩⟩
          exact ⟨_, rfl, p, dx, _, rfl, hp, meth (by decide +kernel) (by decide +kernel) (by decide +kernel) (by decide +kernel) (by decide +kernel) (by decide +kernel), p, l, st, rfl, hh, S⟩
        | order =>
          refine iteF ⟨_, rfl, rfl, _, rfl, iteF ⟨_, rfl, rfl, _, rfl, iteF ⟨_, rfl, rfl, _, rfl, iteF ⟨_, rfl, rfl, _, rfl, iteF ⟨_, rfl, rfl, _, rfl, iteT ?_⟩⟩⟩⟩⟩
          exact ⟨_, rfl, p, dx, _, rfl, hp, meth (by decide +kernel) (by decide +kernel) (by decide +kernel) (by decide +kernel) (by decide +kernel) (by decide +kernel), p, l, st, rfl, hh, S⟩
        | water os =>
          refine iteF ⟨_, rfl, rfl, _, rfl, iteF ⟨_, rfl, rfl, _, rfl, iteF ⟨_, rfl, rfl, _, rfl, iteF ⟨_, rfl, rfl, _, rfl, iteF ⟨_, rfl, rfl, _, rfl, iteF ⟨_, rfl, rfl, _, rfl, iteT ?_⟩⟩⟩⟩⟩⟩
          exact ⟨_, rfl, p, dx, _, rfl, hp, meth (by decide +kernel) (by decide +kernel) (by decide +kernel) (by decide +kernel) (by decide +kernel) (by decide +kernel), _, rfl, p, g, l, st, os, rfl, hh, eg, fx.1, S⟩
        | lay n =>
          refine iteF ⟨_, rfl, rfl, _, rfl, iteF ⟨_, rfl, rfl, _, rfl, iteF ⟨_, rfl, rfl, _, rfl, iteF ⟨_, rfl, rfl, _, rfl, iteF ⟨_, rfl, rfl, _, rfl, iteF ⟨_, rfl, rfl, _, rfl, iteF ⟨_, rfl, rfl, _, rfl, iteT ?_⟩⟩⟩⟩⟩⟩⟩
          exact ⟨_, rfl, p, dx, _, rfl, hp, meth (by decide +kernel) (by decide +kernel) (by decide +kernel) (by decide +kernel) (by decide +kernel) (by decide +kernel), _, rfl, g, _, 0, _, rfl, rfl, SG, i0 rfl, p, l, st, n, rfl, hh, S⟩
        | stack n =>
          refine iteF ⟨_, rfl, rfl, _, rfl, iteF ⟨_, rfl, rfl, _, rfl, iteF ⟨_, rfl, rfl, _, rfl, iteF ⟨_, rfl, rfl, _, rfl, iteF ⟨_, rfl, rfl, _, rfl, iteF ⟨_, rfl, rfl, _, rfl, iteF ⟨_, rfl, rfl, _, rfl, iteF ⟨_, rfl, rfl, _, rfl, iteT ?_⟩⟩⟩⟩⟩⟩⟩⟩
          exact ⟨_, rfl, p, dx, _, rfl, hp, meth (by decide +kernel) (by decide +kernel) (by decide +kernel) (by decide +kernel) (by decide +kernel) (by decide +kernel), _, rfl, g, _, 0, _, rfl, rfl, SG, i0 rfl, ⟨p, l, st, n, rfl, hh, S⟩, p, n, rfl, fx⟩
        | follow n =>
          refine iteF ⟨_, rfl, rfl, _, rfl, iteF ⟨_, rfl, rfl, _, rfl, iteF ⟨_, rfl, rfl, _, rfl, iteF ⟨_, rfl, rfl, _, rfl, iteF ⟨_, rfl, rfl, _, rfl, iteF ⟨_, rfl, rfl, _, rfl, iteF ⟨_, rfl, rfl, _, rfl, iteF ⟨_, rfl, rfl, _, rfl, iteF ⟨_, rfl, rfl, _, rfl, iteT ?_⟩⟩⟩⟩⟩⟩⟩⟩⟩
          exact ⟨_, rfl, p, dx, _, rfl, hp, meth (by decide +kernel) (by decide +kernel) (by decide +kernel) (by decide +kernel) (by decide +kernel) (by decide +kernel), _, rfl, g, _, 0, _, rfl, rfl, SG, i0 rfl, p, l, st, n, rfl, hh, S⟩
        | look =>
          refine iteF ⟨_, rfl, rfl, _, rfl, iteF ⟨_, rfl, rfl, _, rfl, iteF ⟨_, rfl, rfl, _, rfl, iteF ⟨_, rfl, rfl, _, rfl, iteF ⟨_, rfl, rfl, _, rfl, iteF ⟨_, rfl, rfl, _, rfl, iteF ⟨_, rfl, rfl, _, rfl, iteF ⟨_, rfl, rfl, _, rfl, iteF ⟨_, rfl, rfl, _, rfl, iteF ?_⟩⟩⟩⟩⟩⟩⟩⟩⟩
          exact ⟨_, rfl, p, dx, _, rfl, hp, meth (by decide +kernel) (by decide +kernel) (by decide +kernel) (by decide +kernel) (by decide +kernel) (by decide +kernel), p, l, st, rfl, hh, S⟩
end
end Ice
namespace Ice
open PySem PySem.Spec PyProof.Rows L2
/-- what the top has left, as a record: found by the end -/
structure Laid0 (K : PySem.W.Frag) (mg : Str → Option Value) (C_BestOrders : Addr) (C_House : Addr) : Prop where
  cl_BestOrders : Cls K C_BestOrders
  mkC_BestOrders : ∃ f, Mk K C_BestOrders f ∧ Meth K C_BestOrders "__init__" f
  cls_BestOrders : mg "BestOrders" = some (.ref C_BestOrders)
  n_BestOrders_straw : NoAttr K C_BestOrders "straw"
  n_BestOrders_found : NoAttr K C_BestOrders "found"
  cl_House : Cls K C_House
  mkC_House : ∃ f, Mk K C_House f ∧ Meth K C_House "__init__" f
  cls_House : mg "House" = some (.ref C_House)
  n_House_heap : NoAttr K C_House "heap"
  n_House_straw : NoAttr K C_House "straw"
  n_House_day : NoAttr K C_House "day"
  n_House_brought : NoAttr K C_House "brought"
  n_House_melted : NoAttr K C_House "melted"
  n_House_orders_by_straw : NoAttr K C_House "orders_by_straw"
  b_abs : mg "abs" = none
  b_enumerate : mg "enumerate" = none
  b_len : mg "len" = none
  b_list : mg "list" = none
  b_max : mg "max" = none
  b_min : mg "min" = none
  b_range : mg "range" = none
  b_sum : mg "sum" = none
  b_tuple : mg "tuple" = none
  b_zip : mg "zip" = none
  c_MOST_COLUMNS : ∃ t, mg "MOST_COLUMNS" = some (.int (5) t)
  c_MOST_BLOCKS : ∃ t, mg "MOST_BLOCKS" = some (.int (3) t)
  c_NOT_ALLOWED : ∃ t, mg "NOT_ALLOWED" = some (.int (-1) t)
  c_NO_COLUMN : ∃ t, mg "NO_COLUMN" = some (.int (-2) t)
  c_NO_BLOCK : ∃ t, mg "NO_BLOCK" = some (.int (-6) t)
  c_NO_ROOM : ∃ t, mg "NO_ROOM" = some (.int (-6) t)
  c_BEGIN : ∃ t, mg "BEGIN" = some (.int (0) t)
  c_BRING : ∃ t, mg "BRING" = some (.int (1) t)
  c_STRAW : ∃ t, mg "STRAW" = some (.int (2) t)
  c_TAKE : ∃ t, mg "TAKE" = some (.int (3) t)
  c_FACES : ∃ t, mg "FACES" = some (.int (4) t)
  c_BEST : ∃ t, mg "BEST" = some (.int (5) t)
  c_ORDER : ∃ t, mg "ORDER" = some (.int (6) t)
  c_WATER : ∃ t, mg "WATER" = some (.int (7) t)
  c_LAY : ∃ t, mg "LAY" = some (.int (8) t)
  c_STACK : ∃ t, mg "STACK" = some (.int (9) t)
  c_FOLLOW : ∃ t, mg "FOLLOW" = some (.int (10) t)
  c_NO_HOUSE : ∃ t, mg "NO_HOUSE" = some (.int (-9) t)
  t_WIDTHS : ∃ a, mg "WIDTHS" = some (.ref a) ∧ ∀ H, SqT K H a (vi [0, 2, 2, 1, 0, 0, 0, 0, 1, 1, 1, 0])
  f_is_heap : ∃ f fd, Fun K "is_heap" "is_heap" (topS 3) f fd ∧ mg "is_heap" = some (.ref f) ∧ Binds K fd ["heap"] []
  f_open_faces : ∃ f fd, Fun K "open_faces" "open_faces" (topS 4) f fd ∧ mg "open_faces" = some (.ref f) ∧ Binds K fd ["heap", "straw"] []
  f_open_tops : ∃ f fd, Fun K "open_tops" "open_tops" (topS 5) f fd ∧ mg "open_tops" = some (.ref f) ∧ Binds K fd ["heap", "straw"] []
  f_open_sides : ∃ f fd, Fun K "open_sides" "open_sides" (topS 6) f fd ∧ mg "open_sides" = some (.ref f) ∧ Binds K fd ["heap"] []
  f_columns_with_blocks : ∃ f fd, Fun K "columns_with_blocks" "columns_with_blocks" (topS 7) f fd ∧ mg "columns_with_blocks" = some (.ref f) ∧ Binds K fd ["heap"] []
  f_heap_after : ∃ f fd, Fun K "heap_after" "heap_after" (topS 8) f fd ∧ mg "heap_after" = some (.ref f) ∧ Binds K fd ["heap", "column"] []
  f_rows_of : ∃ f fd, Fun K "rows_of" "rows_of" (topS 9) f fd ∧ mg "rows_of" = some (.ref f) ∧ Binds K fd ["columns", "most", "total"] []
  f_best_way : ∃ f fd, Fun K "best_way" "best_way" (topS 12) f fd ∧ mg "best_way" = some (.ref f) ∧ Binds K fd ["ways"] []
  f_first_of_least : ∃ f fd, Fun K "first_of_least" "first_of_least" (topS 19) f fd ∧ mg "first_of_least" = some (.ref f) ∧ Binds K fd ["rows", "waters"] []
  f_answers : ∃ f fd, Fun K "answers" "answers" (topS 34) f fd ∧ mg "answers" = some (.ref f) ∧ Binds K fd ["calls"] []
  f_split_calls : ∃ f fd, Fun K "split_calls" "split_calls" (topS 35) f fd ∧ mg "split_calls" = some (.ref f) ∧ Binds K fd ["calls"] []
  f_answer_call : ∃ f fd, Fun K "answer_call" "answer_call" (topS 36) f fd ∧ mg "answer_call" = some (.ref f) ∧ Binds K fd ["house", "number", "given"] []
  m_BestOrders___init__ : ∃ f fd, Fun K "__init__" "BestOrders.__init__" (inClass (topS 11) 0) f fd ∧ Meth K C_BestOrders "__init__" f ∧ Binds K fd ["self", "straw"] []
  m_BestOrders_best : ∃ f fd, Fun K "best" "BestOrders.best" (inClass (topS 11) 1) f fd ∧ Meth K C_BestOrders "best" f ∧ Binds K fd ["self", "heap"] []
  m_BestOrders_with_day_before : ∃ f fd, Fun K "with_day_before" "BestOrders.with_day_before" (inClass (topS 11) 2) f fd ∧ Meth K C_BestOrders "with_day_before" f ∧ Binds K fd ["self", "heap"] []
  m_BestOrders_ways : ∃ f fd, Fun K "ways" "BestOrders.ways" (inClass (topS 11) 3) f fd ∧ Meth K C_BestOrders "ways" f ∧ Binds K fd ["self", "heap"] []
  m_BestOrders_first : ∃ f fd, Fun K "first" "BestOrders.first" (inClass (topS 11) 4) f fd ∧ Meth K C_BestOrders "first" f ∧ Binds K fd ["self", "heap"] []
  m_BestOrders_first_column : ∃ f fd, Fun K "first_column" "BestOrders.first_column" (inClass (topS 11) 5) f fd ∧ Meth K C_BestOrders "first_column" f ∧ Binds K fd ["self", "heap"] []
  m_House___init__ : ∃ f fd, Fun K "__init__" "House.__init__" (inClass (topS 18) 0) f fd ∧ Meth K C_House "__init__" f ∧ Binds K fd ["self"] []
  m_House_stands : ∃ f fd, Fun K "stands" "House.stands" (inClass (topS 18) 1) f fd ∧ Meth K C_House "stands" f ∧ Binds K fd ["self"] []
  m_House_begin : ∃ f fd, Fun K "begin" "House.begin" (inClass (topS 18) 2) f fd ∧ Meth K C_House "begin" f ∧ Binds K fd ["self", "heap"] []
  m_House_has_column : ∃ f fd, Fun K "has_column" "House.has_column" (inClass (topS 18) 3) f fd ∧ Meth K C_House "has_column" f ∧ Binds K fd ["self", "column"] []
  m_House_bring : ∃ f fd, Fun K "bring" "House.bring" (inClass (topS 18) 4) f fd ∧ Meth K C_House "bring" f ∧ Binds K fd ["self", "column", "n"] []
  m_House_set_straw : ∃ f fd, Fun K "set_straw" "House.set_straw" (inClass (topS 18) 5) f fd ∧ Meth K C_House "set_straw" f ∧ Binds K fd ["self", "column", "b"] []
  m_House_take : ∃ f fd, Fun K "take" "House.take" (inClass (topS 18) 6) f fd ∧ Meth K C_House "take" f ∧ Binds K fd ["self", "column"] []
  m_House_faces : ∃ f fd, Fun K "faces" "House.faces" (inClass (topS 18) 7) f fd ∧ Meth K C_House "faces" f ∧ Binds K fd ["self"] []
  m_House_orders_with : ∃ f fd, Fun K "orders_with" "House.orders_with" (inClass (topS 18) 8) f fd ∧ Meth K C_House "orders_with" f ∧ Binds K fd ["self", "straw"] []
  m_House_orders : ∃ f fd, Fun K "orders" "House.orders" (inClass (topS 18) 9) f fd ∧ Meth K C_House "orders" f ∧ Binds K fd ["self"] []
  m_House_best : ∃ f fd, Fun K "best" "House.best" (inClass (topS 18) 10) f fd ∧ Meth K C_House "best" f ∧ Binds K fd ["self"] []
  m_House_first_order : ∃ f fd, Fun K "first_order" "House.first_order" (inClass (topS 18) 11) f fd ∧ Meth K C_House "first_order" f ∧ Binds K fd ["self"] []
  m_House_order : ∃ f fd, Fun K "order" "House.order" (inClass (topS 18) 12) f fd ∧ Meth K C_House "order" f ∧ Binds K fd ["self"] []
  m_House_water : ∃ f fd, Fun K "water" "House.water" (inClass (topS 18) 13) f fd ∧ Meth K C_House "water" f ∧ Binds K fd ["self", "order"] []
  m_House_lay : ∃ f fd, Fun K "lay" "House.lay" (inClass (topS 18) 14) f fd ∧ Meth K C_House "lay" f ∧ Binds K fd ["self", "n"] []
  m_House_stack : ∃ f fd, Fun K "stack" "House.stack" (inClass (topS 18) 15) f fd ∧ Meth K C_House "stack" f ∧ Binds K fd ["self", "n"] []
  m_House_follow : ∃ f fd, Fun K "follow" "House.follow" (inClass (topS 18) 16) f fd ∧ Meth K C_House "follow" f ∧ Binds K fd ["self", "n"] []
  m_House_look : ∃ f fd, Fun K "look" "House.look" (inClass (topS 18) 17) f fd ∧ Meth K C_House "look" f ∧ Binds K fd ["self"] []
theorem top_mk {K : PySem.W.Frag} {h : Heap} {mg : Str → Option Value} {C_BestOrders : Addr} {C_House : Addr} (X : K.In h) (G : h.Ns mainGlobals mg)
    {f0 : Addr} {od0 an0 : Option Addr} {sl0 : Array (Option Value)} {oc0 kV0 dc0 pm0 cd0 ct0 : Value}
    {f1 : Addr} {od1 an1 : Option Addr} {sl1 : Array (Option Value)} {oc1 kV1 dc1 pm1 cd1 ct1 : Value}
    {f2 : Addr} {od2 an2 : Option Addr} {sl2 : Array (Option Value)} {oc2 kV2 dc2 pm2 cd2 ct2 : Value}
    {f3 : Addr} {od3 an3 : Option Addr} {sl3 : Array (Option Value)} {oc3 kV3 dc3 pm3 cd3 ct3 : Value}
    {f4 : Addr} {od4 an4 : Option Addr} {sl4 : Array (Option Value)} {oc4 kV4 dc4 pm4 cd4 ct4 : Value}
    {f5 : Addr} {od5 an5 : Option Addr} {sl5 : Array (Option Value)} {oc5 kV5 dc5 pm5 cd5 ct5 : Value}
    {f6 : Addr} {od6 an6 : Option Addr} {sl6 : Array (Option Value)} {oc6 kV6 dc6 pm6 cd6 ct6 : Value}
    {f7 : Addr} {od7 an7 : Option Addr} {sl7 : Array (Option Value)} {oc7 kV7 dc7 pm7 cd7 ct7 : Value}
    {f8 : Addr} {od8 an8 : Option Addr} {sl8 : Array (Option Value)} {oc8 kV8 dc8 pm8 cd8 ct8 : Value}
    {f9 : Addr} {od9 an9 : Option Addr} {sl9 : Array (Option Value)} {oc9 kV9 dc9 pm9 cd9 ct9 : Value}
    {f10 : Addr} {od10 an10 : Option Addr} {sl10 : Array (Option Value)} {oc10 kV10 dc10 pm10 cd10 ct10 : Value}
    {f11 : Addr} {od11 an11 : Option Addr} {sl11 : Array (Option Value)} {oc11 kV11 dc11 pm11 cd11 ct11 : Value}
    {f12 : Addr} {od12 an12 : Option Addr} {sl12 : Array (Option Value)} {oc12 kV12 dc12 pm12 cd12 ct12 : Value}
    {f13 : Addr} {od13 an13 : Option Addr} {sl13 : Array (Option Value)} {oc13 kV13 dc13 pm13 cd13 ct13 : Value}
    {f14 : Addr} {od14 an14 : Option Addr} {sl14 : Array (Option Value)} {oc14 kV14 dc14 pm14 cd14 ct14 : Value}
    {f15 : Addr} {od15 an15 : Option Addr} {sl15 : Array (Option Value)} {oc15 kV15 dc15 pm15 cd15 ct15 : Value}
    {f16 : Addr} {od16 an16 : Option Addr} {sl16 : Array (Option Value)} {oc16 kV16 dc16 pm16 cd16 ct16 : Value}
    {f17 : Addr} {od17 an17 : Option Addr} {sl17 : Array (Option Value)} {oc17 kV17 dc17 pm17 cd17 ct17 : Value}
    {f18 : Addr} {od18 an18 : Option Addr} {sl18 : Array (Option Value)} {oc18 kV18 dc18 pm18 cd18 ct18 : Value}
    {f19 : Addr} {od19 an19 : Option Addr} {sl19 : Array (Option Value)} {oc19 kV19 dc19 pm19 cd19 ct19 : Value}
    {f20 : Addr} {od20 an20 : Option Addr} {sl20 : Array (Option Value)} {oc20 kV20 dc20 pm20 cd20 ct20 : Value}
    {f21 : Addr} {od21 an21 : Option Addr} {sl21 : Array (Option Value)} {oc21 kV21 dc21 pm21 cd21 ct21 : Value}
    {f22 : Addr} {od22 an22 : Option Addr} {sl22 : Array (Option Value)} {oc22 kV22 dc22 pm22 cd22 ct22 : Value}
    {f23 : Addr} {od23 an23 : Option Addr} {sl23 : Array (Option Value)} {oc23 kV23 dc23 pm23 cd23 ct23 : Value}
    {f24 : Addr} {od24 an24 : Option Addr} {sl24 : Array (Option Value)} {oc24 kV24 dc24 pm24 cd24 ct24 : Value}
    {f25 : Addr} {od25 an25 : Option Addr} {sl25 : Array (Option Value)} {oc25 kV25 dc25 pm25 cd25 ct25 : Value}
    {f26 : Addr} {od26 an26 : Option Addr} {sl26 : Array (Option Value)} {oc26 kV26 dc26 pm26 cd26 ct26 : Value}
    {f27 : Addr} {od27 an27 : Option Addr} {sl27 : Array (Option Value)} {oc27 kV27 dc27 pm27 cd27 ct27 : Value}
    {f28 : Addr} {od28 an28 : Option Addr} {sl28 : Array (Option Value)} {oc28 kV28 dc28 pm28 cd28 ct28 : Value}
    {f29 : Addr} {od29 an29 : Option Addr} {sl29 : Array (Option Value)} {oc29 kV29 dc29 pm29 cd29 ct29 : Value}
    {f30 : Addr} {od30 an30 : Option Addr} {sl30 : Array (Option Value)} {oc30 kV30 dc30 pm30 cd30 ct30 : Value}
    {f31 : Addr} {od31 an31 : Option Addr} {sl31 : Array (Option Value)} {oc31 kV31 dc31 pm31 cd31 ct31 : Value}
    {f32 : Addr} {od32 an32 : Option Addr} {sl32 : Array (Option Value)} {oc32 kV32 dc32 pm32 cd32 ct32 : Value}
    {f33 : Addr} {od33 an33 : Option Addr} {sl33 : Array (Option Value)} {oc33 kV33 dc33 pm33 cd33 ct33 : Value}
    {f34 : Addr} {od34 an34 : Option Addr} {sl34 : Array (Option Value)} {oc34 kV34 dc34 pm34 cd34 ct34 : Value}
    {f35 : Addr} {od35 an35 : Option Addr} {sl35 : Array (Option Value)} {oc35 kV35 dc35 pm35 cd35 ct35 : Value}
    {t_MOST_COLUMNS : Tok}
    {t_MOST_BLOCKS : Tok}
    {t_NOT_ALLOWED : Tok}
    {t_NO_COLUMN : Tok}
    {t_NO_BLOCK : Tok}
    {t_NO_ROOM : Tok}
    {t_BEGIN : Tok}
    {t_BRING : Tok}
    {t_STRAW : Tok}
    {t_TAKE : Tok}
    {t_FACES : Tok}
    {t_BEST : Tok}
    {t_ORDER : Tok}
    {t_WATER : Tok}
    {t_LAY : Tok}
    {t_STACK : Tok}
    {t_FOLLOW : Tok}
    {t_NO_HOUSE : Tok}
    {w_WIDTHS : Addr} {o_WIDTHS : Obj} {z_WIDTHS : Array Value} {u_WIDTHS : Nat}
    (aC_BestOrders : PySem.W.nsIn K mainGlobals "BestOrders" = some (some (.ref C_BestOrders)))
    (aC_House : PySem.W.nsIn K mainGlobals "House" = some (some (.ref C_House)))
    (a0 : PySem.W.nsIn K mainGlobals "is_heap" = some (some (.ref f0)))
    (l0 : K.lookup f0 = some ⟨oc0, od0, .func (PySem.W.fnOf "is_heap" "is_heap" (defArgs (topS 3)) (defBody (topS 3)) (defScope (topS 3)) .none kV0 dc0 pm0 an0 cd0 ct0), sl0⟩)
    (c0 : PySem.W.codeIn K cd0 "is_heap" = true)
    (k0 : PySem.W.keepIn K (.ref f0) = true)
    (a1 : PySem.W.nsIn K mainGlobals "open_faces" = some (some (.ref f1)))
    (l1 : K.lookup f1 = some ⟨oc1, od1, .func (PySem.W.fnOf "open_faces" "open_faces" (defArgs (topS 4)) (defBody (topS 4)) (defScope (topS 4)) .none kV1 dc1 pm1 an1 cd1 ct1), sl1⟩)
    (c1 : PySem.W.codeIn K cd1 "open_faces" = true)
    (k1 : PySem.W.keepIn K (.ref f1) = true)
    (a2 : PySem.W.nsIn K mainGlobals "open_tops" = some (some (.ref f2)))
    (l2 : K.lookup f2 = some ⟨oc2, od2, .func (PySem.W.fnOf "open_tops" "open_tops" (defArgs (topS 5)) (defBody (topS 5)) (defScope (topS 5)) .none kV2 dc2 pm2 an2 cd2 ct2), sl2⟩)
    (c2 : PySem.W.codeIn K cd2 "open_tops" = true)
    (k2 : PySem.W.keepIn K (.ref f2) = true)
    (a3 : PySem.W.nsIn K mainGlobals "open_sides" = some (some (.ref f3)))
    (l3 : K.lookup f3 = some ⟨oc3, od3, .func (PySem.W.fnOf "open_sides" "open_sides" (defArgs (topS 6)) (defBody (topS 6)) (defScope (topS 6)) .none kV3 dc3 pm3 an3 cd3 ct3), sl3⟩)
    (c3 : PySem.W.codeIn K cd3 "open_sides" = true)
    (k3 : PySem.W.keepIn K (.ref f3) = true)
    (a4 : PySem.W.nsIn K mainGlobals "columns_with_blocks" = some (some (.ref f4)))
    (l4 : K.lookup f4 = some ⟨oc4, od4, .func (PySem.W.fnOf "columns_with_blocks" "columns_with_blocks" (defArgs (topS 7)) (defBody (topS 7)) (defScope (topS 7)) .none kV4 dc4 pm4 an4 cd4 ct4), sl4⟩)
    (c4 : PySem.W.codeIn K cd4 "columns_with_blocks" = true)
    (k4 : PySem.W.keepIn K (.ref f4) = true)
    (a5 : PySem.W.nsIn K mainGlobals "heap_after" = some (some (.ref f5)))
    (l5 : K.lookup f5 = some ⟨oc5, od5, .func (PySem.W.fnOf "heap_after" "heap_after" (defArgs (topS 8)) (defBody (topS 8)) (defScope (topS 8)) .none kV5 dc5 pm5 an5 cd5 ct5), sl5⟩)
    (c5 : PySem.W.codeIn K cd5 "heap_after" = true)
    (k5 : PySem.W.keepIn K (.ref f5) = true)
    (a6 : PySem.W.nsIn K mainGlobals "rows_of" = some (some (.ref f6)))
    (l6 : K.lookup f6 = some ⟨oc6, od6, .func (PySem.W.fnOf "rows_of" "rows_of" (defArgs (topS 9)) (defBody (topS 9)) (defScope (topS 9)) .none kV6 dc6 pm6 an6 cd6 ct6), sl6⟩)
    (c6 : PySem.W.codeIn K cd6 "rows_of" = true)
    (k6 : PySem.W.keepIn K (.ref f6) = true)
    (a7 : PySem.W.nsIn K mainGlobals "best_way" = some (some (.ref f7)))
    (l7 : K.lookup f7 = some ⟨oc7, od7, .func (PySem.W.fnOf "best_way" "best_way" (defArgs (topS 12)) (defBody (topS 12)) (defScope (topS 12)) .none kV7 dc7 pm7 an7 cd7 ct7), sl7⟩)
    (c7 : PySem.W.codeIn K cd7 "best_way" = true)
    (k7 : PySem.W.keepIn K (.ref f7) = true)
    (a8 : PySem.W.nsIn K mainGlobals "first_of_least" = some (some (.ref f8)))
    (l8 : K.lookup f8 = some ⟨oc8, od8, .func (PySem.W.fnOf "first_of_least" "first_of_least" (defArgs (topS 19)) (defBody (topS 19)) (defScope (topS 19)) .none kV8 dc8 pm8 an8 cd8 ct8), sl8⟩)
    (c8 : PySem.W.codeIn K cd8 "first_of_least" = true)
    (k8 : PySem.W.keepIn K (.ref f8) = true)
    (a9 : PySem.W.nsIn K mainGlobals "answers" = some (some (.ref f9)))
    (l9 : K.lookup f9 = some ⟨oc9, od9, .func (PySem.W.fnOf "answers" "answers" (defArgs (topS 34)) (defBody (topS 34)) (defScope (topS 34)) .none kV9 dc9 pm9 an9 cd9 ct9), sl9⟩)
    (c9 : PySem.W.codeIn K cd9 "answers" = true)
    (k9 : PySem.W.keepIn K (.ref f9) = true)
    (a10 : PySem.W.nsIn K mainGlobals "split_calls" = some (some (.ref f10)))
    (l10 : K.lookup f10 = some ⟨oc10, od10, .func (PySem.W.fnOf "split_calls" "split_calls" (defArgs (topS 35)) (defBody (topS 35)) (defScope (topS 35)) .none kV10 dc10 pm10 an10 cd10 ct10), sl10⟩)
    (c10 : PySem.W.codeIn K cd10 "split_calls" = true)
    (k10 : PySem.W.keepIn K (.ref f10) = true)
    (a11 : PySem.W.nsIn K mainGlobals "answer_call" = some (some (.ref f11)))
    (l11 : K.lookup f11 = some ⟨oc11, od11, .func (PySem.W.fnOf "answer_call" "answer_call" (defArgs (topS 36)) (defBody (topS 36)) (defScope (topS 36)) .none kV11 dc11 pm11 an11 cd11 ct11), sl11⟩)
    (c11 : PySem.W.codeIn K cd11 "answer_call" = true)
    (k11 : PySem.W.keepIn K (.ref f11) = true)
    (a12 : PySem.W.findIn K (.ref C_BestOrders) "__init__" = some (some (.ref f12)))
    (i12 : PySem.W.isFn K (.ref f12) = true)
    (l12 : K.lookup f12 = some ⟨oc12, od12, .func (PySem.W.fnOf "__init__" "BestOrders.__init__" (defArgs (inClass (topS 11) 0)) (defBody (inClass (topS 11) 0)) (defScope (inClass (topS 11) 0)) .none kV12 dc12 pm12 an12 cd12 ct12), sl12⟩)
    (c12 : PySem.W.codeIn K cd12 "BestOrders.__init__" = true)
    (k12 : PySem.W.keepIn K (.ref f12) = true)
    (a13 : PySem.W.findIn K (.ref C_BestOrders) "best" = some (some (.ref f13)))
    (i13 : PySem.W.isFn K (.ref f13) = true)
    (l13 : K.lookup f13 = some ⟨oc13, od13, .func (PySem.W.fnOf "best" "BestOrders.best" (defArgs (inClass (topS 11) 1)) (defBody (inClass (topS 11) 1)) (defScope (inClass (topS 11) 1)) .none kV13 dc13 pm13 an13 cd13 ct13), sl13⟩)
    (c13 : PySem.W.codeIn K cd13 "BestOrders.best" = true)
    (k13 : PySem.W.keepIn K (.ref f13) = true)
    (a14 : PySem.W.findIn K (.ref C_BestOrders) "with_day_before" = some (some (.ref f14)))
    (i14 : PySem.W.isFn K (.ref f14) = true)
    (l14 : K.lookup f14 = some ⟨oc14, od14, .func (PySem.W.fnOf "with_day_before" "BestOrders.with_day_before" (defArgs (inClass (topS 11) 2)) (defBody (inClass (topS 11) 2)) (defScope (inClass (topS 11) 2)) .none kV14 dc14 pm14 an14 cd14 ct14), sl14⟩)
    (c14 : PySem.W.codeIn K cd14 "BestOrders.with_day_before" = true)
    (k14 : PySem.W.keepIn K (.ref f14) = true)
    (a15 : PySem.W.findIn K (.ref C_BestOrders) "ways" = some (some (.ref f15)))
    (i15 : PySem.W.isFn K (.ref f15) = true)
    (l15 : K.lookup f15 = some ⟨oc15, od15, .func (PySem.W.fnOf "ways" "BestOrders.ways" (defArgs (inClass (topS 11) 3)) (defBody (inClass (topS 11) 3)) (defScope (inClass (topS 11) 3)) .none kV15 dc15 pm15 an15 cd15 ct15), sl15⟩)
    (c15 : PySem.W.codeIn K cd15 "BestOrders.ways" = true)
    (k15 : PySem.W.keepIn K (.ref f15) = true)
    (a16 : PySem.W.findIn K (.ref C_BestOrders) "first" = some (some (.ref f16)))
    (i16 : PySem.W.isFn K (.ref f16) = true)
    (l16 : K.lookup f16 = some ⟨oc16, od16, .func (PySem.W.fnOf "first" "BestOrders.first" (defArgs (inClass (topS 11) 4)) (defBody (inClass (topS 11) 4)) (defScope (inClass (topS 11) 4)) .none kV16 dc16 pm16 an16 cd16 ct16), sl16⟩)
    (c16 : PySem.W.codeIn K cd16 "BestOrders.first" = true)
    (k16 : PySem.W.keepIn K (.ref f16) = true)
    (a17 : PySem.W.findIn K (.ref C_BestOrders) "first_column" = some (some (.ref f17)))
    (i17 : PySem.W.isFn K (.ref f17) = true)
    (l17 : K.lookup f17 = some ⟨oc17, od17, .func (PySem.W.fnOf "first_column" "BestOrders.first_column" (defArgs (inClass (topS 11) 5)) (defBody (inClass (topS 11) 5)) (defScope (inClass (topS 11) 5)) .none kV17 dc17 pm17 an17 cd17 ct17), sl17⟩)
    (c17 : PySem.W.codeIn K cd17 "BestOrders.first_column" = true)
    (k17 : PySem.W.keepIn K (.ref f17) = true)
    (a18 : PySem.W.findIn K (.ref C_House) "__init__" = some (some (.ref f18)))
    (i18 : PySem.W.isFn K (.ref f18) = true)
    (l18 : K.lookup f18 = some ⟨oc18, od18, .func (PySem.W.fnOf "__init__" "House.__init__" (defArgs (inClass (topS 18) 0)) (defBody (inClass (topS 18) 0)) (defScope (inClass (topS 18) 0)) .none kV18 dc18 pm18 an18 cd18 ct18), sl18⟩)
    (c18 : PySem.W.codeIn K cd18 "House.__init__" = true)
    (k18 : PySem.W.keepIn K (.ref f18) = true)
    (a19 : PySem.W.findIn K (.ref C_House) "stands" = some (some (.ref f19)))
    (i19 : PySem.W.isFn K (.ref f19) = true)
    (l19 : K.lookup f19 = some ⟨oc19, od19, .func (PySem.W.fnOf "stands" "House.stands" (defArgs (inClass (topS 18) 1)) (defBody (inClass (topS 18) 1)) (defScope (inClass (topS 18) 1)) .none kV19 dc19 pm19 an19 cd19 ct19), sl19⟩)
    (c19 : PySem.W.codeIn K cd19 "House.stands" = true)
    (k19 : PySem.W.keepIn K (.ref f19) = true)
    (a20 : PySem.W.findIn K (.ref C_House) "begin" = some (some (.ref f20)))
    (i20 : PySem.W.isFn K (.ref f20) = true)
    (l20 : K.lookup f20 = some ⟨oc20, od20, .func (PySem.W.fnOf "begin" "House.begin" (defArgs (inClass (topS 18) 2)) (defBody (inClass (topS 18) 2)) (defScope (inClass (topS 18) 2)) .none kV20 dc20 pm20 an20 cd20 ct20), sl20⟩)
    (c20 : PySem.W.codeIn K cd20 "House.begin" = true)
    (k20 : PySem.W.keepIn K (.ref f20) = true)
    (a21 : PySem.W.findIn K (.ref C_House) "has_column" = some (some (.ref f21)))
    (i21 : PySem.W.isFn K (.ref f21) = true)
    (l21 : K.lookup f21 = some ⟨oc21, od21, .func (PySem.W.fnOf "has_column" "House.has_column" (defArgs (inClass (topS 18) 3)) (defBody (inClass (topS 18) 3)) (defScope (inClass (topS 18) 3)) .none kV21 dc21 pm21 an21 cd21 ct21), sl21⟩)
    (c21 : PySem.W.codeIn K cd21 "House.has_column" = true)
    (k21 : PySem.W.keepIn K (.ref f21) = true)
    (a22 : PySem.W.findIn K (.ref C_House) "bring" = some (some (.ref f22)))
    (i22 : PySem.W.isFn K (.ref f22) = true)
    (l22 : K.lookup f22 = some ⟨oc22, od22, .func (PySem.W.fnOf "bring" "House.bring" (defArgs (inClass (topS 18) 4)) (defBody (inClass (topS 18) 4)) (defScope (inClass (topS 18) 4)) .none kV22 dc22 pm22 an22 cd22 ct22), sl22⟩)
    (c22 : PySem.W.codeIn K cd22 "House.bring" = true)
    (k22 : PySem.W.keepIn K (.ref f22) = true)
    (a23 : PySem.W.findIn K (.ref C_House) "set_straw" = some (some (.ref f23)))
    (i23 : PySem.W.isFn K (.ref f23) = true)
    (l23 : K.lookup f23 = some ⟨oc23, od23, .func (PySem.W.fnOf "set_straw" "House.set_straw" (defArgs (inClass (topS 18) 5)) (defBody (inClass (topS 18) 5)) (defScope (inClass (topS 18) 5)) .none kV23 dc23 pm23 an23 cd23 ct23), sl23⟩)
    (c23 : PySem.W.codeIn K cd23 "House.set_straw" = true)
    (k23 : PySem.W.keepIn K (.ref f23) = true)
    (a24 : PySem.W.findIn K (.ref C_House) "take" = some (some (.ref f24)))
    (i24 : PySem.W.isFn K (.ref f24) = true)
    (l24 : K.lookup f24 = some ⟨oc24, od24, .func (PySem.W.fnOf "take" "House.take" (defArgs (inClass (topS 18) 6)) (defBody (inClass (topS 18) 6)) (defScope (inClass (topS 18) 6)) .none kV24 dc24 pm24 an24 cd24 ct24), sl24⟩)
    (c24 : PySem.W.codeIn K cd24 "House.take" = true)
    (k24 : PySem.W.keepIn K (.ref f24) = true)
    (a25 : PySem.W.findIn K (.ref C_House) "faces" = some (some (.ref f25)))
    (i25 : PySem.W.isFn K (.ref f25) = true)
    (l25 : K.lookup f25 = some ⟨oc25, od25, .func (PySem.W.fnOf "faces" "House.faces" (defArgs (inClass (topS 18) 7)) (defBody (inClass (topS 18) 7)) (defScope (inClass (topS 18) 7)) .none kV25 dc25 pm25 an25 cd25 ct25), sl25⟩)
    (c25 : PySem.W.codeIn K cd25 "House.faces" = true)
    (k25 : PySem.W.keepIn K (.ref f25) = true)
    (a26 : PySem.W.findIn K (.ref C_House) "orders_with" = some (some (.ref f26)))
    (i26 : PySem.W.isFn K (.ref f26) = true)
    (l26 : K.lookup f26 = some ⟨oc26, od26, .func (PySem.W.fnOf "orders_with" "House.orders_with" (defArgs (inClass (topS 18) 8)) (defBody (inClass (topS 18) 8)) (defScope (inClass (topS 18) 8)) .none kV26 dc26 pm26 an26 cd26 ct26), sl26⟩)
    (c26 : PySem.W.codeIn K cd26 "House.orders_with" = true)
    (k26 : PySem.W.keepIn K (.ref f26) = true)
    (a27 : PySem.W.findIn K (.ref C_House) "orders" = some (some (.ref f27)))
    (i27 : PySem.W.isFn K (.ref f27) = true)
    (l27 : K.lookup f27 = some ⟨oc27, od27, .func (PySem.W.fnOf "orders" "House.orders" (defArgs (inClass (topS 18) 9)) (defBody (inClass (topS 18) 9)) (defScope (inClass (topS 18) 9)) .none kV27 dc27 pm27 an27 cd27 ct27), sl27⟩)
    (c27 : PySem.W.codeIn K cd27 "House.orders" = true)
    (k27 : PySem.W.keepIn K (.ref f27) = true)
    (a28 : PySem.W.findIn K (.ref C_House) "best" = some (some (.ref f28)))
    (i28 : PySem.W.isFn K (.ref f28) = true)
    (l28 : K.lookup f28 = some ⟨oc28, od28, .func (PySem.W.fnOf "best" "House.best" (defArgs (inClass (topS 18) 10)) (defBody (inClass (topS 18) 10)) (defScope (inClass (topS 18) 10)) .none kV28 dc28 pm28 an28 cd28 ct28), sl28⟩)
    (c28 : PySem.W.codeIn K cd28 "House.best" = true)
    (k28 : PySem.W.keepIn K (.ref f28) = true)
    (a29 : PySem.W.findIn K (.ref C_House) "first_order" = some (some (.ref f29)))
    (i29 : PySem.W.isFn K (.ref f29) = true)
    (l29 : K.lookup f29 = some ⟨oc29, od29, .func (PySem.W.fnOf "first_order" "House.first_order" (defArgs (inClass (topS 18) 11)) (defBody (inClass (topS 18) 11)) (defScope (inClass (topS 18) 11)) .none kV29 dc29 pm29 an29 cd29 ct29), sl29⟩)
    (c29 : PySem.W.codeIn K cd29 "House.first_order" = true)
    (k29 : PySem.W.keepIn K (.ref f29) = true)
    (a30 : PySem.W.findIn K (.ref C_House) "order" = some (some (.ref f30)))
    (i30 : PySem.W.isFn K (.ref f30) = true)
    (l30 : K.lookup f30 = some ⟨oc30, od30, .func (PySem.W.fnOf "order" "House.order" (defArgs (inClass (topS 18) 12)) (defBody (inClass (topS 18) 12)) (defScope (inClass (topS 18) 12)) .none kV30 dc30 pm30 an30 cd30 ct30), sl30⟩)
    (c30 : PySem.W.codeIn K cd30 "House.order" = true)
    (k30 : PySem.W.keepIn K (.ref f30) = true)
    (a31 : PySem.W.findIn K (.ref C_House) "water" = some (some (.ref f31)))
    (i31 : PySem.W.isFn K (.ref f31) = true)
    (l31 : K.lookup f31 = some ⟨oc31, od31, .func (PySem.W.fnOf "water" "House.water" (defArgs (inClass (topS 18) 13)) (defBody (inClass (topS 18) 13)) (defScope (inClass (topS 18) 13)) .none kV31 dc31 pm31 an31 cd31 ct31), sl31⟩)
    (c31 : PySem.W.codeIn K cd31 "House.water" = true)
    (k31 : PySem.W.keepIn K (.ref f31) = true)
    (a32 : PySem.W.findIn K (.ref C_House) "lay" = some (some (.ref f32)))
    (i32 : PySem.W.isFn K (.ref f32) = true)
    (l32 : K.lookup f32 = some ⟨oc32, od32, .func (PySem.W.fnOf "lay" "House.lay" (defArgs (inClass (topS 18) 14)) (defBody (inClass (topS 18) 14)) (defScope (inClass (topS 18) 14)) .none kV32 dc32 pm32 an32 cd32 ct32), sl32⟩)
    (c32 : PySem.W.codeIn K cd32 "House.lay" = true)
    (k32 : PySem.W.keepIn K (.ref f32) = true)
    (a33 : PySem.W.findIn K (.ref C_House) "stack" = some (some (.ref f33)))
    (i33 : PySem.W.isFn K (.ref f33) = true)
    (l33 : K.lookup f33 = some ⟨oc33, od33, .func (PySem.W.fnOf "stack" "House.stack" (defArgs (inClass (topS 18) 15)) (defBody (inClass (topS 18) 15)) (defScope (inClass (topS 18) 15)) .none kV33 dc33 pm33 an33 cd33 ct33), sl33⟩)
    (c33 : PySem.W.codeIn K cd33 "House.stack" = true)
    (k33 : PySem.W.keepIn K (.ref f33) = true)
    (a34 : PySem.W.findIn K (.ref C_House) "follow" = some (some (.ref f34)))
    (i34 : PySem.W.isFn K (.ref f34) = true)
    (l34 : K.lookup f34 = some ⟨oc34, od34, .func (PySem.W.fnOf "follow" "House.follow" (defArgs (inClass (topS 18) 16)) (defBody (inClass (topS 18) 16)) (defScope (inClass (topS 18) 16)) .none kV34 dc34 pm34 an34 cd34 ct34), sl34⟩)
    (c34 : PySem.W.codeIn K cd34 "House.follow" = true)
    (k34 : PySem.W.keepIn K (.ref f34) = true)
    (a35 : PySem.W.findIn K (.ref C_House) "look" = some (some (.ref f35)))
    (i35 : PySem.W.isFn K (.ref f35) = true)
    (l35 : K.lookup f35 = some ⟨oc35, od35, .func (PySem.W.fnOf "look" "House.look" (defArgs (inClass (topS 18) 17)) (defBody (inClass (topS 18) 17)) (defScope (inClass (topS 18) 17)) .none kV35 dc35 pm35 an35 cd35 ct35), sl35⟩)
    (c35 : PySem.W.codeIn K cd35 "House.look" = true)
    (k35 : PySem.W.keepIn K (.ref f35) = true)
    (pg_BestOrders : PySem.W.plainGet K C_BestOrders Str.empty = true)
    (hd_BestOrders : PySem.W.hasDictIn K C_BestOrders = true)
    (po_BestOrders : PySem.W.plainOver K C_BestOrders = true)
    (sa_BestOrders : PySem.W.findIn K (.ref C_BestOrders) "__setattr__" = some (some (.builtin "object.__setattr__")))
    (mk0_BestOrders : PySem.W.makesIn K C_BestOrders = true)
    (kc0_BestOrders : PySem.W.keepIn K (.ref C_BestOrders) = true)
    (n_BestOrders_straw : PySem.W.findIn K (.ref C_BestOrders) "straw" = some none)
    (n_BestOrders_found : PySem.W.findIn K (.ref C_BestOrders) "found" = some none)
    (pg_House : PySem.W.plainGet K C_House Str.empty = true)
    (hd_House : PySem.W.hasDictIn K C_House = true)
    (po_House : PySem.W.plainOver K C_House = true)
    (sa_House : PySem.W.findIn K (.ref C_House) "__setattr__" = some (some (.builtin "object.__setattr__")))
    (mk0_House : PySem.W.makesIn K C_House = true)
    (kc0_House : PySem.W.keepIn K (.ref C_House) = true)
    (n_House_heap : PySem.W.findIn K (.ref C_House) "heap" = some none)
    (n_House_straw : PySem.W.findIn K (.ref C_House) "straw" = some none)
    (n_House_day : PySem.W.findIn K (.ref C_House) "day" = some none)
    (n_House_brought : PySem.W.findIn K (.ref C_House) "brought" = some none)
    (n_House_melted : PySem.W.findIn K (.ref C_House) "melted" = some none)
    (n_House_orders_by_straw : PySem.W.findIn K (.ref C_House) "orders_by_straw" = some none)
    (b_abs : PySem.W.nsIn K mainGlobals "abs" = some none)
    (b_enumerate : PySem.W.nsIn K mainGlobals "enumerate" = some none)
    (b_len : PySem.W.nsIn K mainGlobals "len" = some none)
    (b_list : PySem.W.nsIn K mainGlobals "list" = some none)
    (b_max : PySem.W.nsIn K mainGlobals "max" = some none)
    (b_min : PySem.W.nsIn K mainGlobals "min" = some none)
    (b_range : PySem.W.nsIn K mainGlobals "range" = some none)
    (b_sum : PySem.W.nsIn K mainGlobals "sum" = some none)
    (b_tuple : PySem.W.nsIn K mainGlobals "tuple" = some none)
    (b_zip : PySem.W.nsIn K mainGlobals "zip" = some none)
    (c_MOST_COLUMNS : PySem.W.nsIn K mainGlobals "MOST_COLUMNS" = some (some (.int (5) t_MOST_COLUMNS)))
    (c_MOST_BLOCKS : PySem.W.nsIn K mainGlobals "MOST_BLOCKS" = some (some (.int (3) t_MOST_BLOCKS)))
    (c_NOT_ALLOWED : PySem.W.nsIn K mainGlobals "NOT_ALLOWED" = some (some (.int (-1) t_NOT_ALLOWED)))
    (c_NO_COLUMN : PySem.W.nsIn K mainGlobals "NO_COLUMN" = some (some (.int (-2) t_NO_COLUMN)))
    (c_NO_BLOCK : PySem.W.nsIn K mainGlobals "NO_BLOCK" = some (some (.int (-6) t_NO_BLOCK)))
    (c_NO_ROOM : PySem.W.nsIn K mainGlobals "NO_ROOM" = some (some (.int (-6) t_NO_ROOM)))
    (c_BEGIN : PySem.W.nsIn K mainGlobals "BEGIN" = some (some (.int (0) t_BEGIN)))
    (c_BRING : PySem.W.nsIn K mainGlobals "BRING" = some (some (.int (1) t_BRING)))
    (c_STRAW : PySem.W.nsIn K mainGlobals "STRAW" = some (some (.int (2) t_STRAW)))
    (c_TAKE : PySem.W.nsIn K mainGlobals "TAKE" = some (some (.int (3) t_TAKE)))
    (c_FACES : PySem.W.nsIn K mainGlobals "FACES" = some (some (.int (4) t_FACES)))
    (c_BEST : PySem.W.nsIn K mainGlobals "BEST" = some (some (.int (5) t_BEST)))
    (c_ORDER : PySem.W.nsIn K mainGlobals "ORDER" = some (some (.int (6) t_ORDER)))
    (c_WATER : PySem.W.nsIn K mainGlobals "WATER" = some (some (.int (7) t_WATER)))
    (c_LAY : PySem.W.nsIn K mainGlobals "LAY" = some (some (.int (8) t_LAY)))
    (c_STACK : PySem.W.nsIn K mainGlobals "STACK" = some (some (.int (9) t_STACK)))
    (c_FOLLOW : PySem.W.nsIn K mainGlobals "FOLLOW" = some (some (.int (10) t_FOLLOW)))
    (c_NO_HOUSE : PySem.W.nsIn K mainGlobals "NO_HOUSE" = some (some (.int (-9) t_NO_HOUSE)))
    (w1_WIDTHS : PySem.W.nsIn K mainGlobals "WIDTHS" = some (some (.ref w_WIDTHS)))
    (w2_WIDTHS : K.lookup w_WIDTHS = some o_WIDTHS)
    (w3_WIDTHS : o_WIDTHS.cls = .type "tuple")
    (w4_WIDTHS : o_WIDTHS.data = .seq z_WIDTHS u_WIDTHS)
    (w5_WIDTHS : Vals (vi [0, 2, 2, 1, 0, 0, 0, 0, 1, 1, 1, 0]) z_WIDTHS.toList)
    : Laid0 K mg C_BestOrders C_House where
  cl_BestOrders := ⟨pg_BestOrders, hd_BestOrders, po_BestOrders, sa_BestOrders⟩
  mkC_BestOrders := ⟨f12, ⟨mk0_BestOrders, a12, i12, kc0_BestOrders⟩, ⟨a12, i12, k12⟩⟩
  cls_BestOrders := PySem.W.mg_of X G aC_BestOrders
  n_BestOrders_straw := n_BestOrders_straw
  n_BestOrders_found := n_BestOrders_found
  cl_House := ⟨pg_House, hd_House, po_House, sa_House⟩
  mkC_House := ⟨f18, ⟨mk0_House, a18, i18, kc0_House⟩, ⟨a18, i18, k18⟩⟩
  cls_House := PySem.W.mg_of X G aC_House
  n_House_heap := n_House_heap
  n_House_straw := n_House_straw
  n_House_day := n_House_day
  n_House_brought := n_House_brought
  n_House_melted := n_House_melted
  n_House_orders_by_straw := n_House_orders_by_straw
  b_abs := PySem.W.mg_none_of X G b_abs
  b_enumerate := PySem.W.mg_none_of X G b_enumerate
  b_len := PySem.W.mg_none_of X G b_len
  b_list := PySem.W.mg_none_of X G b_list
  b_max := PySem.W.mg_none_of X G b_max
  b_min := PySem.W.mg_none_of X G b_min
  b_range := PySem.W.mg_none_of X G b_range
  b_sum := PySem.W.mg_none_of X G b_sum
  b_tuple := PySem.W.mg_none_of X G b_tuple
  b_zip := PySem.W.mg_none_of X G b_zip
  c_MOST_COLUMNS := ⟨_, PySem.W.mg_of X G c_MOST_COLUMNS⟩
  c_MOST_BLOCKS := ⟨_, PySem.W.mg_of X G c_MOST_BLOCKS⟩
  c_NOT_ALLOWED := ⟨_, PySem.W.mg_of X G c_NOT_ALLOWED⟩
  c_NO_COLUMN := ⟨_, PySem.W.mg_of X G c_NO_COLUMN⟩
  c_NO_BLOCK := ⟨_, PySem.W.mg_of X G c_NO_BLOCK⟩
  c_NO_ROOM := ⟨_, PySem.W.mg_of X G c_NO_ROOM⟩
  c_BEGIN := ⟨_, PySem.W.mg_of X G c_BEGIN⟩
  c_BRING := ⟨_, PySem.W.mg_of X G c_BRING⟩
  c_STRAW := ⟨_, PySem.W.mg_of X G c_STRAW⟩
  c_TAKE := ⟨_, PySem.W.mg_of X G c_TAKE⟩
  c_FACES := ⟨_, PySem.W.mg_of X G c_FACES⟩
  c_BEST := ⟨_, PySem.W.mg_of X G c_BEST⟩
  c_ORDER := ⟨_, PySem.W.mg_of X G c_ORDER⟩
  c_WATER := ⟨_, PySem.W.mg_of X G c_WATER⟩
  c_LAY := ⟨_, PySem.W.mg_of X G c_LAY⟩
  c_STACK := ⟨_, PySem.W.mg_of X G c_STACK⟩
  c_FOLLOW := ⟨_, PySem.W.mg_of X G c_FOLLOW⟩
  c_NO_HOUSE := ⟨_, PySem.W.mg_of X G c_NO_HOUSE⟩
  t_WIDTHS := ⟨_, PySem.W.mg_of X G w1_WIDTHS, fun H => .inr ⟨o_WIDTHS, z_WIDTHS, u_WIDTHS, w2_WIDTHS, w3_WIDTHS, w4_WIDTHS, (by rw [← Array.length_toList, ← w5_WIDTHS.length]; decide), w5_WIDTHS⟩⟩
  f_is_heap := ⟨f0, _, fun_mk (st := (topS 3)) l0 c0 k0, PySem.W.mg_of X G a0, (fun_mk (st := (topS 3)) l0 c0 k0).binds (ps := ["heap"]) fun _ _ _ _ _ _ us hl => match us, hl with | [_], _ => rfl⟩
  f_open_faces := ⟨f1, _, fun_mk (st := (topS 4)) l1 c1 k1, PySem.W.mg_of X G a1, (fun_mk (st := (topS 4)) l1 c1 k1).binds (ps := ["heap", "straw"]) fun _ _ _ _ _ _ us hl => match us, hl with | [_, _], _ => rfl⟩
  f_open_tops := ⟨f2, _, fun_mk (st := (topS 5)) l2 c2 k2, PySem.W.mg_of X G a2, (fun_mk (st := (topS 5)) l2 c2 k2).binds (ps := ["heap", "straw"]) fun _ _ _ _ _ _ us hl => match us, hl with | [_, _], _ => rfl⟩
  f_open_sides := ⟨f3, _, fun_mk (st := (topS 6)) l3 c3 k3, PySem.W.mg_of X G a3, (fun_mk (st := (topS 6)) l3 c3 k3).binds (ps := ["heap"]) fun _ _ _ _ _ _ us hl => match us, hl with | [_], _ => rfl⟩
  f_columns_with_blocks := ⟨f4, _, fun_mk (st := (topS 7)) l4 c4 k4, PySem.W.mg_of X G a4, (fun_mk (st := (topS 7)) l4 c4 k4).binds (ps := ["heap"]) fun _ _ _ _ _ _ us hl => match us, hl with | [_], _ => rfl⟩
  f_heap_after := ⟨f5, _, fun_mk (st := (topS 8)) l5 c5 k5, PySem.W.mg_of X G a5, (fun_mk (st := (topS 8)) l5 c5 k5).binds (ps := ["heap", "column"]) fun _ _ _ _ _ _ us hl => match us, hl with | [_, _], _ => rfl⟩
  f_rows_of := ⟨f6, _, fun_mk (st := (topS 9)) l6 c6 k6, PySem.W.mg_of X G a6, (fun_mk (st := (topS 9)) l6 c6 k6).binds (ps := ["columns", "most", "total"]) fun _ _ _ _ _ _ us hl => match us, hl with | [_, _, _], _ => rfl⟩
  f_best_way := ⟨f7, _, fun_mk (st := (topS 12)) l7 c7 k7, PySem.W.mg_of X G a7, (fun_mk (st := (topS 12)) l7 c7 k7).binds (ps := ["ways"]) fun _ _ _ _ _ _ us hl => match us, hl with | [_], _ => rfl⟩
  f_first_of_least := ⟨f8, _, fun_mk (st := (topS 19)) l8 c8 k8, PySem.W.mg_of X G a8, (fun_mk (st := (topS 19)) l8 c8 k8).binds (ps := ["rows", "waters"]) fun _ _ _ _ _ _ us hl => match us, hl with | [_, _], _ => rfl⟩
  f_answers := ⟨f9, _, fun_mk (st := (topS 34)) l9 c9 k9, PySem.W.mg_of X G a9, (fun_mk (st := (topS 34)) l9 c9 k9).binds (ps := ["calls"]) fun _ _ _ _ _ _ us hl => match us, hl with | [_], _ => rfl⟩
  f_split_calls := ⟨f10, _, fun_mk (st := (topS 35)) l10 c10 k10, PySem.W.mg_of X G a10, (fun_mk (st := (topS 35)) l10 c10 k10).binds (ps := ["calls"]) fun _ _ _ _ _ _ us hl => match us, hl with | [_], _ => rfl⟩
  f_answer_call := ⟨f11, _, fun_mk (st := (topS 36)) l11 c11 k11, PySem.W.mg_of X G a11, (fun_mk (st := (topS 36)) l11 c11 k11).binds (ps := ["house", "number", "given"]) fun _ _ _ _ _ _ us hl => match us, hl with | [_, _, _], _ => rfl⟩
  m_BestOrders___init__ := ⟨f12, _, fun_mk (st := (inClass (topS 11) 0)) l12 c12 k12, ⟨a12, i12, k12⟩, (fun_mk (st := (inClass (topS 11) 0)) l12 c12 k12).binds (ps := ["self", "straw"]) fun _ _ _ _ _ _ us hl => match us, hl with | [_, _], _ => rfl⟩
  m_BestOrders_best := ⟨f13, _, fun_mk (st := (inClass (topS 11) 1)) l13 c13 k13, ⟨a13, i13, k13⟩, (fun_mk (st := (inClass (topS 11) 1)) l13 c13 k13).binds (ps := ["self", "heap"]) fun _ _ _ _ _ _ us hl => match us, hl with | [_, _], _ => rfl⟩
  m_BestOrders_with_day_before := ⟨f14, _, fun_mk (st := (inClass (topS 11) 2)) l14 c14 k14, ⟨a14, i14, k14⟩, (fun_mk (st := (inClass (topS 11) 2)) l14 c14 k14).binds (ps := ["self", "heap"]) fun _ _ _ _ _ _ us hl => match us, hl with | [_, _], _ => rfl⟩
  m_BestOrders_ways := ⟨f15, _, fun_mk (st := (inClass (topS 11) 3)) l15 c15 k15, ⟨a15, i15, k15⟩, (fun_mk (st := (inClass (topS 11) 3)) l15 c15 k15).binds (ps := ["self", "heap"]) fun _ _ _ _ _ _ us hl => match us, hl with | [_, _], _ => rfl⟩
  m_BestOrders_first := ⟨f16, _, fun_mk (st := (inClass (topS 11) 4)) l16 c16 k16, ⟨a16, i16, k16⟩, (fun_mk (st := (inClass (topS 11) 4)) l16 c16 k16).binds (ps := ["self", "heap"]) fun _ _ _ _ _ _ us hl => match us, hl with | [_, _], _ => rfl⟩
  m_BestOrders_first_column := ⟨f17, _, fun_mk (st := (inClass (topS 11) 5)) l17 c17 k17, ⟨a17, i17, k17⟩, (fun_mk (st := (inClass (topS 11) 5)) l17 c17 k17).binds (ps := ["self", "heap"]) fun _ _ _ _ _ _ us hl => match us, hl with | [_, _], _ => rfl⟩
  m_House___init__ := ⟨f18, _, fun_mk (st := (inClass (topS 18) 0)) l18 c18 k18, ⟨a18, i18, k18⟩, (fun_mk (st := (inClass (topS 18) 0)) l18 c18 k18).binds (ps := ["self"]) fun _ _ _ _ _ _ us hl => match us, hl with | [_], _ => rfl⟩
  m_House_stands := ⟨f19, _, fun_mk (st := (inClass (topS 18) 1)) l19 c19 k19, ⟨a19, i19, k19⟩, (fun_mk (st := (inClass (topS 18) 1)) l19 c19 k19).binds (ps := ["self"]) fun _ _ _ _ _ _ us hl => match us, hl with | [_], _ => rfl⟩
  m_House_begin := ⟨f20, _, fun_mk (st := (inClass (topS 18) 2)) l20 c20 k20, ⟨a20, i20, k20⟩, (fun_mk (st := (inClass (topS 18) 2)) l20 c20 k20).binds (ps := ["self", "heap"]) fun _ _ _ _ _ _ us hl => match us, hl with | [_, _], _ => rfl⟩
  m_House_has_column := ⟨f21, _, fun_mk (st := (inClass (topS 18) 3)) l21 c21 k21, ⟨a21, i21, k21⟩, (fun_mk (st := (inClass (topS 18) 3)) l21 c21 k21).binds (ps := ["self", "column"]) fun _ _ _ _ _ _ us hl => match us, hl with | [_, _], _ => rfl⟩
  m_House_bring := ⟨f22, _, fun_mk (st := (inClass (topS 18) 4)) l22 c22 k22, ⟨a22, i22, k22⟩, (fun_mk (st := (inClass (topS 18) 4)) l22 c22 k22).binds (ps := ["self", "column", "n"]) fun _ _ _ _ _ _ us hl => match us, hl with | [_, _, _], _ => rfl⟩
  m_House_set_straw := ⟨f23, _, fun_mk (st := (inClass (topS 18) 5)) l23 c23 k23, ⟨a23, i23, k23⟩, (fun_mk (st := (inClass (topS 18) 5)) l23 c23 k23).binds (ps := ["self", "column", "b"]) fun _ _ _ _ _ _ us hl => match us, hl with | [_, _, _], _ => rfl⟩
  m_House_take := ⟨f24, _, fun_mk (st := (inClass (topS 18) 6)) l24 c24 k24, ⟨a24, i24, k24⟩, (fun_mk (st := (inClass (topS 18) 6)) l24 c24 k24).binds (ps := ["self", "column"]) fun _ _ _ _ _ _ us hl => match us, hl with | [_, _], _ => rfl⟩
  m_House_faces := ⟨f25, _, fun_mk (st := (inClass (topS 18) 7)) l25 c25 k25, ⟨a25, i25, k25⟩, (fun_mk (st := (inClass (topS 18) 7)) l25 c25 k25).binds (ps := ["self"]) fun _ _ _ _ _ _ us hl => match us, hl with | [_], _ => rfl⟩
  m_House_orders_with := ⟨f26, _, fun_mk (st := (inClass (topS 18) 8)) l26 c26 k26, ⟨a26, i26, k26⟩, (fun_mk (st := (inClass (topS 18) 8)) l26 c26 k26).binds (ps := ["self", "straw"]) fun _ _ _ _ _ _ us hl => match us, hl with | [_, _], _ => rfl⟩
  m_House_orders := ⟨f27, _, fun_mk (st := (inClass (topS 18) 9)) l27 c27 k27, ⟨a27, i27, k27⟩, (fun_mk (st := (inClass (topS 18) 9)) l27 c27 k27).binds (ps := ["self"]) fun _ _ _ _ _ _ us hl => match us, hl with | [_], _ => rfl⟩
  m_House_best := ⟨f28, _, fun_mk (st := (inClass (topS 18) 10)) l28 c28 k28, ⟨a28, i28, k28⟩, (fun_mk (st := (inClass (topS 18) 10)) l28 c28 k28).binds (ps := ["self"]) fun _ _ _ _ _ _ us hl => match us, hl with | [_], _ => rfl⟩
  m_House_first_order := ⟨f29, _, fun_mk (st := (inClass (topS 18) 11)) l29 c29 k29, ⟨a29, i29, k29⟩, (fun_mk (st := (inClass (topS 18) 11)) l29 c29 k29).binds (ps := ["self"]) fun _ _ _ _ _ _ us hl => match us, hl with | [_], _ => rfl⟩
  m_House_order := ⟨f30, _, fun_mk (st := (inClass (topS 18) 12)) l30 c30 k30, ⟨a30, i30, k30⟩, (fun_mk (st := (inClass (topS 18) 12)) l30 c30 k30).binds (ps := ["self"]) fun _ _ _ _ _ _ us hl => match us, hl with | [_], _ => rfl⟩
  m_House_water := ⟨f31, _, fun_mk (st := (inClass (topS 18) 13)) l31 c31 k31, ⟨a31, i31, k31⟩, (fun_mk (st := (inClass (topS 18) 13)) l31 c31 k31).binds (ps := ["self", "order"]) fun _ _ _ _ _ _ us hl => match us, hl with | [_, _], _ => rfl⟩
  m_House_lay := ⟨f32, _, fun_mk (st := (inClass (topS 18) 14)) l32 c32 k32, ⟨a32, i32, k32⟩, (fun_mk (st := (inClass (topS 18) 14)) l32 c32 k32).binds (ps := ["self", "n"]) fun _ _ _ _ _ _ us hl => match us, hl with | [_, _], _ => rfl⟩
  m_House_stack := ⟨f33, _, fun_mk (st := (inClass (topS 18) 15)) l33 c33 k33, ⟨a33, i33, k33⟩, (fun_mk (st := (inClass (topS 18) 15)) l33 c33 k33).binds (ps := ["self", "n"]) fun _ _ _ _ _ _ us hl => match us, hl with | [_, _], _ => rfl⟩
  m_House_follow := ⟨f34, _, fun_mk (st := (inClass (topS 18) 16)) l34 c34 k34, ⟨a34, i34, k34⟩, (fun_mk (st := (inClass (topS 18) 16)) l34 c34 k34).binds (ps := ["self", "n"]) fun _ _ _ _ _ _ us hl => match us, hl with | [_, _], _ => rfl⟩
  m_House_look := ⟨f35, _, fun_mk (st := (inClass (topS 18) 17)) l35 c35 k35, ⟨a35, i35, k35⟩, (fun_mk (st := (inClass (topS 18) 17)) l35 c35 k35).binds (ps := ["self"]) fun _ _ _ _ _ _ us hl => match us, hl with | [_], _ => rfl⟩
end Ice
namespace Ice
open PySem PySem.Spec PyProof.Rows L2
section
variable {P : Program} {w : World} {K : PySem.W.Frag} {mg : Str → Option Value} {base : Heap} {C_BestOrders C_House : Addr}
theorem txt_of (T : Laid0 K mg C_BestOrders C_House) : Txt K mg := ⟨T.b_len, T.b_abs, T.b_sum, T.b_max, T.b_min, T.b_zip, T.b_enumerate, T.b_range, T.b_tuple, T.b_list, T.c_MOST_COLUMNS, T.c_MOST_BLOCKS⟩
theorem txtB_of (T : Laid0 K mg C_BestOrders C_House) : TxtB K mg C_BestOrders := ⟨T.cl_BestOrders, T.n_BestOrders_straw, T.n_BestOrders_found, T.cls_BestOrders⟩
theorem txtH_of (T : Laid0 K mg C_BestOrders C_House) : TxtH K mg C_House := ⟨T.cl_House, T.n_House_heap, T.n_House_straw, T.n_House_day, T.n_House_brought, T.n_House_melted, T.n_House_orders_by_straw, T.cls_House, T.c_NOT_ALLOWED, T.c_NO_COLUMN, T.c_NO_BLOCK, T.c_NO_ROOM⟩
theorem txtM_of (T : Laid0 K mg C_BestOrders C_House) : TxtM K mg wds := ⟨T.c_BEGIN, T.c_WATER, T.t_WIDTHS⟩
theorem txtD_of (T : Laid0 K mg C_BestOrders C_House) : TxtD mg := ⟨T.c_BRING, T.c_STRAW, T.c_TAKE, T.c_FACES, T.c_BEST, T.c_ORDER, T.c_WATER, T.c_LAY, T.c_STACK, T.c_FOLLOW, T.c_NO_HOUSE⟩
theorem callee {x qual : Str} {st : Stmt} {ps : List Str} {k : Nat} {sp : Sp} (h : ∃ f fd, Fun K x qual st f fd ∧ mg x = some (.ref f) ∧ Binds K fd ps []) (ok : ∀ {f fd}, Fun K x qual st f fd → FnOk P w K mg base CX0 k f fd ps sp) : Callee P w K mg base x ps k sp := by
  obtain ⟨f, fd, F, m, b⟩ := h
  exact ⟨f, fd, ok F, m, F.kp, b⟩
theorem same_meth {C : Addr} {x : Str} {f g : Addr} (a : Meth K C x f) (b : Meth K C x g) : f = g := by
  have p := a.at_
  have q := b.at_
  rw [p] at q
  exact Value.ref.inj (Option.some.inj (Option.some.inj q))
theorem all_ok (L : Laid0 K mg C_BestOrders C_House) {f : Addr} {fd : FuncData} (F : Fun K "answers" "answers" s_answers f fd) : FnOk P w K mg base CX0 40 f fd ["calls"] (spAns K 12) := by
  have T0 := txt_of L
  have TB := txtB_of L
  have TH := txtH_of L
  have TM := txtM_of L
  have TD := txtD_of L
  have d_open_tops := callee (P := P) (w := w) (base := base) L.f_open_tops fun F => ok_open_tops F T0
  have d_open_sides := callee (P := P) (w := w) (base := base) L.f_open_sides fun F => ok_open_sides F T0
  have d_open_faces := callee (P := P) (w := w) (base := base) L.f_open_faces fun F => ok_open_faces F T0 d_open_tops d_open_sides
  have d_is_heap := callee (P := P) (w := w) (base := base) L.f_is_heap fun F => ok_is_heap F T0
  have d_cols := callee (P := P) (w := w) (base := base) L.f_columns_with_blocks fun F => ok_cols F T0
  have d_after := callee (P := P) (w := w) (base := base) L.f_heap_after fun F => ok_after F
  have d_rows := callee (P := P) (w := w) (base := base) L.f_rows_of fun F => ok_rows F T0
  have d_way := callee (P := P) (w := w) (base := base) L.f_best_way fun F => ok_way F T0
  have d_least := callee (P := P) (w := w) (base := base) L.f_first_of_least fun F => ok_least F T0
  have m_wdb := wdb_all (P := P) (w := w) (base := base) L.m_BestOrders_with_day_before L.m_BestOrders_ways T0 TB d_way d_open_faces d_after d_cols
  have m_wdb16 : MCallee P w K mg base C_BestOrders "with_day_before" ["self", "heap"] 35 (spW C_BestOrders 16) := m_wdb 16
  have m_ways : MCallee P w K mg base C_BestOrders "ways" ["self", "heap"] 34 (spWays C_BestOrders 16) := mcallee (P := P) (w := w) (base := base) L.m_BestOrders_ways fun F => ok_ways F TB (by decide) (m_wdb 15) d_after d_cols
  have m_bbest := mcallee (P := P) (w := w) (base := base) L.m_BestOrders_best fun F => ok_bbest F TB m_wdb16 d_open_faces
  have m_first_col := mcallee (P := P) (w := w) (base := base) L.m_BestOrders_first_column fun F => ok_first_col F T0 TB m_ways d_cols
  have m_first := mcallee (P := P) (w := w) (base := base) L.m_BestOrders_first fun F => ok_first F T0 TB m_first_col d_after
  have m_stands := mcallee (P := P) (w := w) (base := base) L.m_House_stands fun F => ok_stands (Bo := C_BestOrders) F TH
  have m_begin := mcallee (P := P) (w := w) (base := base) L.m_House_begin fun F => ok_begin (Bo := C_BestOrders) F T0 TH d_is_heap
  have m_has := mcallee (P := P) (w := w) (base := base) L.m_House_has_column fun F => ok_has (Bo := C_BestOrders) F T0 TH
  have m_bring := mcallee (P := P) (w := w) (base := base) L.m_House_bring fun F => ok_bring F T0 TH m_has
  have m_faces := mcallee (P := P) (w := w) (base := base) L.m_House_faces fun F => ok_faces (Bo := C_BestOrders) F TH d_open_faces
  have m_set := mcallee (P := P) (w := w) (base := base) L.m_House_set_straw fun F => ok_set F T0 TH m_has m_faces
  have m_take := mcallee (P := P) (w := w) (base := base) L.m_House_take fun F => ok_take F T0 TH m_has d_open_faces
  obtain ⟨fBI, MkB, mBI⟩ := L.mkC_BestOrders
  obtain ⟨fbi, fdbi, FBI, mbi, bBI⟩ := L.m_BestOrders___init__
  have eb := same_meth mbi mBI
  subst eb
  have m_ow := mcallee (P := P) (w := w) (base := base) L.m_House_orders_with fun F => ok_orders_with F TH TB MkB (ok_binit FBI TB) bBI
  have m_ord := mcallee (P := P) (w := w) (base := base) L.m_House_orders fun F => ok_orders F T0 TH m_ow
  have m_best := mcallee (P := P) (w := w) (base := base) L.m_House_best fun F => ok_hbest F T0 TH TB m_ord m_bbest
  have m_fo := mcallee (P := P) (w := w) (base := base) L.m_House_first_order fun F => ok_first_order F T0 TH TB m_ord m_first
  have m_order := mcallee (P := P) (w := w) (base := base) L.m_House_order fun F => ok_order F T0 TH m_fo
  have m_water := mcallee (P := P) (w := w) (base := base) L.m_House_water fun F => ok_water F T0 TH m_has d_open_faces
  have m_lay := mcallee (P := P) (w := w) (base := base) L.m_House_lay fun F => ok_lay F T0 TH TB d_rows d_least m_ow m_bbest
  have m_stack := mcallee (P := P) (w := w) (base := base) L.m_House_stack fun F => ok_stack F T0 TH TB d_rows d_least m_ord m_bbest
  have m_follow := mcallee (P := P) (w := w) (base := base) L.m_House_follow fun F => ok_follow F T0 TH m_fo m_take
  have m_look := mcallee (P := P) (w := w) (base := base) L.m_House_look fun F => ok_look (Bo := C_BestOrders) F TH
  have d_call := callee (P := P) (w := w) (base := base) L.f_answer_call fun F => ok_call F T0 TH TM TD m_begin m_stands m_bring m_set m_take m_faces m_best m_order m_water m_lay m_stack m_follow m_look
  have d_split := callee (P := P) (w := w) (base := base) L.f_split_calls fun F => ok_split F T0 TM
  obtain ⟨fI, MK, mI⟩ := L.mkC_House
  obtain ⟨fi, fdi, FI, mi, bI⟩ := L.m_House___init__
  have ef := same_meth mi mI
  subst ef
  exact ok_answers F T0 TH MK (ok_init (Bo := C_BestOrders) FI TH) bI d_split (by decide) d_call
theorem all_mk {h : Heap} {fa : Addr} (X : K.In h) (G : h.Ns mainGlobals mg) (hfa : mg "answers" = some (.ref fa)) (L : Laid0 K mg C_BestOrders C_House) :
    ∃ fd : FuncData, (∀ (s : Shared) (us : List Value), us.length = (["calls"] : List Str).length → BindsTo s fd ⟨us, []⟩ ((["calls"] : List Str).zip us)) ∧ ∀ base : Heap, K.In base → base.Ns mainGlobals mg → FnOk P w K mg base CX0 40 fa fd ["calls"] (spAns K 12) := by
  obtain ⟨f, fd, F, m, b⟩ := L.f_answers
  have e := hfa.symm.trans m
  cases e
  have F0 := F
  obtain ⟨oc, od, kV, doc, pm, an, cdv, ct, osl, rfl, lk, hcd⟩ := F0.ex
  exact ⟨_, fun s us hu => match us, hu with | [_], _ => .of_eq rfl, fun base _ _ => all_ok L F⟩
end
end Ice
open PySem PySem.W PyProof.Rows
set_option maxRecDepth 100000 in
set_option maxHeartbeats 8000000 in
theorem PySem.Challenge.cw_icehouse_s01_answers_holds : PySem.Challenge.rw_icehouse_s01_answers.Holds := by
  w_on; k_headS; (case hw => exact ⟨[.list [.int 4]], by decide +kernel, by decide +kernel⟩)
  k_fillS
  refine L2.walk_specK (r := PySem.Challenge.rw_icehouse_s01_answers) (k := 40) (CX := L2.CX0) (ps := ["calls"]) (sp := fun K => Ice.spAns K 12) (by decide +kernel) rfl rfl ⟨rfl, by decide, by decide⟩ (fun w h Y => PySem.W.kIn_of Y) ?F ?S (fun _ _ _ _ z => z)
  case F =>
    intro w mg fa h Y KX G hmg
    refine' Ice.all_mk (C_BestOrders := ?C_BestOrders) (C_House := ?C_House) KX G hmg (Ice.top_mk KX G ?aC_BestOrders ?aC_House ?a0 ?l0 ?c0 ?k0 ?a1 ?l1 ?c1 ?k1 ?a2 ?l2 ?c2 ?k2 ?a3 ?l3 ?c3 ?k3 ?a4 ?l4 ?c4 ?k4 ?a5 ?l5 ?c5 ?k5 ?a6 ?l6 ?c6 ?k6 ?a7 ?l7 ?c7 ?k7 ?a8 ?l8 ?c8 ?k8 ?a9 ?l9 ?c9 ?k9 ?a10 ?l10 ?c10 ?k10 ?a11 ?l11 ?c11 ?k11 ?a12 ?i12 ?l12 ?c12 ?k12 ?a13 ?i13 ?l13 ?c13 ?k13 ?a14 ?i14 ?l14 ?c14 ?k14 ?a15 ?i15 ?l15 ?c15 ?k15 ?a16 ?i16 ?l16 ?c16 ?k16 ?a17 ?i17 ?l17 ?c17 ?k17 ?a18 ?i18 ?l18 ?c18 ?k18 ?a19 ?i19 ?l19 ?c19 ?k19 ?a20 ?i20 ?l20 ?c20 ?k20 ?a21 ?i21 ?l21 ?c21 ?k21 ?a22 ?i22 ?l22 ?c22 ?k22 ?a23 ?i23 ?l23 ?c23 ?k23 ?a24 ?i24 ?l24 ?c24 ?k24 ?a25 ?i25 ?l25 ?c25 ?k25 ?a26 ?i26 ?l26 ?c26 ?k26 ?a27 ?i27 ?l27 ?c27 ?k27 ?a28 ?i28 ?l28 ?c28 ?k28 ?a29 ?i29 ?l29 ?c29 ?k29 ?a30 ?i30 ?l30 ?c30 ?k30 ?a31 ?i31 ?l31 ?c31 ?k31 ?a32 ?i32 ?l32 ?c32 ?k32 ?a33 ?i33 ?l33 ?c33 ?k33 ?a34 ?i34 ?l34 ?c34 ?k34 ?a35 ?i35 ?l35 ?c35 ?k35 ?pg_BestOrders ?hd_BestOrders ?po_BestOrders ?sa_BestOrders ?mk0_BestOrders ?kc0_BestOrders ?n_BestOrders_straw ?n_BestOrders_found ?pg_House ?hd_House ?po_House ?sa_House ?mk0_House ?kc0_House ?n_House_heap ?n_House_straw ?n_House_day ?n_House_brought ?n_House_melted ?n_House_orders_by_straw ?b_abs ?b_enumerate ?b_len ?b_list ?b_max ?b_min ?b_range ?b_sum ?b_tuple ?b_zip ?c_MOST_COLUMNS ?c_MOST_BLOCKS ?c_NOT_ALLOWED ?c_NO_COLUMN ?c_NO_BLOCK ?c_NO_ROOM ?c_BEGIN ?c_BRING ?c_STRAW ?c_TAKE ?c_FACES ?c_BEST ?c_ORDER ?c_WATER ?c_LAY ?c_STACK ?c_FOLLOW ?c_NO_HOUSE ?w1_WIDTHS ?w2_WIDTHS ?w3_WIDTHS ?w4_WIDTHS ?w5_WIDTHS)
    (case aC_BestOrders => k_is)
    (case aC_House => k_is)
    (case a0 => k_is)
    (case l0 => k_is)
    (case c0 => k_is)
    (case k0 => k_is)
    (case a1 => k_is)
    (case l1 => k_is)
    (case c1 => k_is)
    (case k1 => k_is)
    (case a2 => k_is)
    (case l2 => k_is)
    (case c2 => k_is)
    (case k2 => k_is)
    (case a3 => k_is)
    (case l3 => k_is)
    (case c3 => k_is)
    (case k3 => k_is)
    (case a4 => k_is)
    (case l4 => k_is)
    (case c4 => k_is)
    (case k4 => k_is)
    (case a5 => k_is)
    (case l5 => k_is)
    (case c5 => k_is)
    (case k5 => k_is)
    (case a6 => k_is)
    (case l6 => k_is)
    (case c6 => k_is)
    (case k6 => k_is)
    (case a7 => k_is)
    (case l7 => k_is)
    (case c7 => k_is)
    (case k7 => k_is)
    (case a8 => k_is)
    (case l8 => k_is)
    (case c8 => k_is)
    (case k8 => k_is)
    (case a9 => k_is)
    (case l9 => k_is)
    (case c9 => k_is)
    (case k9 => k_is)
    (case a10 => k_is)
    (case l10 => k_is)
    (case c10 => k_is)
    (case k10 => k_is)
    (case a11 => k_is)
    (case l11 => k_is)
    (case c11 => k_is)
    (case k11 => k_is)
    (case a12 => k_is)
    (case i12 => k_is)
    (case l12 => k_is)
    (case c12 => k_is)
    (case k12 => k_is)
    (case a13 => k_is)
    (case i13 => k_is)
    (case l13 => k_is)
    (case c13 => k_is)
    (case k13 => k_is)
    (case a14 => k_is)
    (case i14 => k_is)
    (case l14 => k_is)
    (case c14 => k_is)
    (case k14 => k_is)
    (case a15 => k_is)
    (case i15 => k_is)
    (case l15 => k_is)
    (case c15 => k_is)
    (case k15 => k_is)
    (case a16 => k_is)
    (case i16 => k_is)
    (case l16 => k_is)
    (case c16 => k_is)
    (case k16 => k_is)
    (case a17 => k_is)
    (case i17 => k_is)
    (case l17 => k_is)
    (case c17 => k_is)
    (case k17 => k_is)
    (case a18 => k_is)
    (case i18 => k_is)
    (case l18 => k_is)
    (case c18 => k_is)
    (case k18 => k_is)
    (case a19 => k_is)
    (case i19 => k_is)
    (case l19 => k_is)
    (case c19 => k_is)
    (case k19 => k_is)
    (case a20 => k_is)
    (case i20 => k_is)
    (case l20 => k_is)
    (case c20 => k_is)
    (case k20 => k_is)
    (case a21 => k_is)
    (case i21 => k_is)
    (case l21 => k_is)
    (case c21 => k_is)
    (case k21 => k_is)
    (case a22 => k_is)
    (case i22 => k_is)
    (case l22 => k_is)
    (case c22 => k_is)
    (case k22 => k_is)
    (case a23 => k_is)
    (case i23 => k_is)
    (case l23 => k_is)
    (case c23 => k_is)
    (case k23 => k_is)
    (case a24 => k_is)
    (case i24 => k_is)
    (case l24 => k_is)
    (case c24 => k_is)
    (case k24 => k_is)
    (case a25 => k_is)
    (case i25 => k_is)
    (case l25 => k_is)
    (case c25 => k_is)
    (case k25 => k_is)
    (case a26 => k_is)
    (case i26 => k_is)
    (case l26 => k_is)
    (case c26 => k_is)
    (case k26 => k_is)
    (case a27 => k_is)
    (case i27 => k_is)
    (case l27 => k_is)
    (case c27 => k_is)
    (case k27 => k_is)
    (case a28 => k_is)
    (case i28 => k_is)
    (case l28 => k_is)
    (case c28 => k_is)
    (case k28 => k_is)
    (case a29 => k_is)
    (case i29 => k_is)
    (case l29 => k_is)
    (case c29 => k_is)
    (case k29 => k_is)
    (case a30 => k_is)
    (case i30 => k_is)
    (case l30 => k_is)
    (case c30 => k_is)
    (case k30 => k_is)
    (case a31 => k_is)
    (case i31 => k_is)
    (case l31 => k_is)
    (case c31 => k_is)
    (case k31 => k_is)
    (case a32 => k_is)
    (case i32 => k_is)
    (case l32 => k_is)
    (case c32 => k_is)
    (case k32 => k_is)
    (case a33 => k_is)
    (case i33 => k_is)
    (case l33 => k_is)
    (case c33 => k_is)
    (case k33 => k_is)
    (case a34 => k_is)
    (case i34 => k_is)
    (case l34 => k_is)
    (case c34 => k_is)
    (case k34 => k_is)
    (case a35 => k_is)
    (case i35 => k_is)
    (case l35 => k_is)
    (case c35 => k_is)
    (case k35 => k_is)
    (case pg_BestOrders => k_is)
    (case hd_BestOrders => k_is)
    (case po_BestOrders => k_is)
    (case sa_BestOrders => k_is)
    (case mk0_BestOrders => k_is)
    (case kc0_BestOrders => k_is)
    (case n_BestOrders_straw => k_is)
    (case n_BestOrders_found => k_is)
    (case pg_House => k_is)
    (case hd_House => k_is)
    (case po_House => k_is)
    (case sa_House => k_is)
    (case mk0_House => k_is)
    (case kc0_House => k_is)
    (case n_House_heap => k_is)
    (case n_House_straw => k_is)
    (case n_House_day => k_is)
    (case n_House_brought => k_is)
    (case n_House_melted => k_is)
    (case n_House_orders_by_straw => k_is)
    (case b_abs => k_is)
    (case b_enumerate => k_is)
    (case b_len => k_is)
    (case b_list => k_is)
    (case b_max => k_is)
    (case b_min => k_is)
    (case b_range => k_is)
    (case b_sum => k_is)
    (case b_tuple => k_is)
    (case b_zip => k_is)
    (case c_MOST_COLUMNS => k_is)
    (case c_MOST_BLOCKS => k_is)
    (case c_NOT_ALLOWED => k_is)
    (case c_NO_COLUMN => k_is)
    (case c_NO_BLOCK => k_is)
    (case c_NO_ROOM => k_is)
    (case c_BEGIN => k_is)
    (case c_BRING => k_is)
    (case c_STRAW => k_is)
    (case c_TAKE => k_is)
    (case c_FACES => k_is)
    (case c_BEST => k_is)
    (case c_ORDER => k_is)
    (case c_WATER => k_is)
    (case c_LAY => k_is)
    (case c_STACK => k_is)
    (case c_FOLLOW => k_is)
    (case c_NO_HOUSE => k_is)
    (case w1_WIDTHS => k_is)
    (case w2_WIDTHS => k_is)
    (case w3_WIDTHS => rfl)
    (case w4_WIDTHS => rfl)
    (case w5_WIDTHS => exact .cons ⟨_, rfl⟩ (.cons ⟨_, rfl⟩ (.cons ⟨_, rfl⟩ (.cons ⟨_, rfl⟩ (.cons ⟨_, rfl⟩ (.cons ⟨_, rfl⟩ (.cons ⟨_, rfl⟩ (.cons ⟨_, rfl⟩ (.cons ⟨_, rfl⟩ (.cons ⟨_, rfl⟩ (.cons ⟨_, rfl⟩ (.cons ⟨_, rfl⟩ (.nil)))))))))))))
  case S =>
    intro K H xs a hO hwi hask hx
    cases hx with
    | cons h1 h2 =>
      cases h2
      cases h1 with
      | lst hs ha =>
        have e := L2.ints_dw a.1 _ ha
        subst e
        obtain ⟨xs, e1, hf, l1, l60, e2, e4⟩ := Ice.asked_calls a.1 hask
        have e3 := e1.trans (Ice.put_flat xs)
        rw [e2, Ice.told_eq] at e4
        rw [e3] at hs
        refine ⟨_, xs, rfl, ?_, fun x hx => ⟨hf x hx, Ice.place_lt x⟩, l60, e4, fun H' p hp => ?_⟩
        · rw [Ice.vi_ints]
          exact hs
        · have e5 : PyMu42.answers a.1 = Ice.toldN (Ice.play none xs) := e2
          show L2.Dw K H' (.ref p) (PySem.Challenge.rw_icehouse_s01_answers.ret.enc (PyMu42.answers a.1))
          rw [e5]
          exact .lst (L2.SqL.of hp) (L2.dw_ints _)
