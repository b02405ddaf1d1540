import PyProof.Rows.All
import Wide.All
import OpenK.AllK
import Wide.FinOn
import Open.SpecLaws
import KE.OsGo
import HandS.Spec
import HandS.Words
import HandS.WordsList
import HandS.Comp
import HandS.Text
import HandS.SortInts
import HandS.SetFor
import HandS.Iter
import PySem.Challenge.RW_farwords_s01_answers
set_option Elab.async false
set_option linter.all false
set_option maxRecDepth 100000
set_option maxHeartbeats 8000000
/-! piece MathA -/
namespace Fw
open Kh407
/-- how many bits are 1 -/
def pop : Nat → Nat
  | 0 => 0
  | x + 1 => (x + 1) % 2 + pop ((x + 1) / 2)
theorem pop_zero : pop 0 = 0 := by rw [pop]
theorem pop_step (x : Nat) : pop x = x % 2 + pop (x / 2) := by
  cases x with
  | zero => simp [pop_zero]
  | succ x => rw [pop]
/-- rising lists with the same members are the same -/
theorem rising_eq : ∀ {l m : List Nat}, l.Pairwise (· < ·) → m.Pairwise (· < ·) → (∀ x, x ∈ l ↔ x ∈ m) → l = m
  | [], [], _, _, _ => rfl
  | [], b :: m, _, _, h => absurd ((h b).mpr List.mem_cons_self) (by simp)
  | a :: l, [], _, _, h => absurd ((h a).mp List.mem_cons_self) (by simp)
  | a :: l, b :: m, hl, hm, h => by
    have hl' := List.pairwise_cons.mp hl
    have hm' := List.pairwise_cons.mp hm
    have e : a = b := by
      rcases List.mem_cons.mp ((h a).mp List.mem_cons_self) with e | e
      · exact e
      · rcases List.mem_cons.mp ((h b).mpr List.mem_cons_self) with e2 | e2
        · exact e2.symm
        · have := hl'.1 b e2
          have := hm'.1 a e
          omega
    subst e
    congr 1
    refine rising_eq hl'.2 hm'.2 fun x => ⟨fun hx => ?_, fun hx => ?_⟩
    · rcases List.mem_cons.mp ((h x).mp (List.mem_cons_of_mem _ hx)) with e | e
      · have := hl'.1 x hx
        omega
      · exact e
    · rcases List.mem_cons.mp ((h x).mpr (List.mem_cons_of_mem _ hx)) with e | e
      · have := hm'.1 x hx
        omega
      · exact e
/-- so many bits, and the words there are: rising, none with a bit that there isn't -/
structure Ok (n : Nat) (c : List Nat) : Prop where
  lo : 1 ≤ n
  hi : n ≤ 6
  up : c.Pairwise (· < ·)
  lt : ∀ x ∈ c, x < 2 ^ n
theorem rising_range (n : Nat) : (List.range n).Pairwise (· < ·) := List.pairwise_lt_range
theorem sorted_up (n : Nat) (c : List Nat) : (Kh407.sorted n c).Pairwise (· < ·) := (rising_range _).filter _
theorem sorted_mem {n x : Nat} {c : List Nat} : x ∈ Kh407.sorted n c ↔ x < 2 ^ n ∧ x ∈ c := by
  unfold Kh407.sorted Kh407.words
  rw [List.mem_filter, List.mem_range, List.contains_iff_mem]
theorem sorted_ok {n : Nat} {c : List Nat} (h1 : 1 ≤ n) (h2 : n ≤ 6) : Ok n (Kh407.sorted n c) := ⟨h1, h2, sorted_up n c, fun _ h => (sorted_mem.mp h).1⟩
/-- what Python's sorted hands back of the numbers of a list without twins -/
theorem sorted_is {n : Nat} {d : List Nat} {ns : List Int} (hd : d.Nodup) (hl : ∀ x ∈ d, x < 2 ^ n) (hp : ns.Perm (d.map Int.ofNat)) (hs : ns.Pairwise (· ≤ ·)) : ns = (Kh407.sorted n d).map Int.ofNat := by
  have hn : ns.Nodup := hp.nodup_iff.mpr (hd.map Int.ofNat fun a b h e => h (by injection e))
  have hlt : ns.Pairwise (· < ·) := by
    have := hs.and hn
    exact this.imp fun {a b} ⟨h1, h2⟩ => by omega
  have e : ns = (ns.map Int.toNat).map Int.ofNat := by
    rw [List.map_map]
    conv => lhs; rw [← List.map_id ns]
    refine List.map_congr_left fun x hx => ?_
    obtain ⟨y, _, rfl⟩ := List.mem_map.mp (hp.mem_iff.mp hx)
    rfl
  rw [e]
  congr 1
  refine rising_eq ?_ (sorted_up n d) fun x => ?_
  · refine List.pairwise_map.mpr ((List.pairwise_iff_forall_sublist.mpr fun {a b} s => ?_))
    have h := List.pairwise_iff_forall_sublist.mp hlt s
    obtain ⟨y, _, e1⟩ := List.mem_map.mp (hp.mem_iff.mp (s.subset List.mem_cons_self))
    obtain ⟨z, _, e2⟩ := List.mem_map.mp (hp.mem_iff.mp (s.subset (List.mem_cons_of_mem _ List.mem_cons_self)))
    subst e1 e2
    show y < z
    have : (y : Int) < z := h
    omega
  · rw [sorted_mem]
    constructor
    · intro h
      obtain ⟨y, hy, rfl⟩ := List.mem_map.mp h
      obtain ⟨z, hz, rfl⟩ := List.mem_map.mp (hp.mem_iff.mp hy)
      exact ⟨hl z hz, hz⟩
    · intro h
      exact List.mem_map.mpr ⟨Int.ofNat x, hp.mem_iff.mpr (List.mem_map.mpr ⟨x, h.2, rfl⟩), rfl⟩
/-! small numbers, all of them -/
theorem plus_tab : ∀ n < 7, ∀ x < 2 ^ n, ∀ y < 2 ^ n, Kh407.plus n x y = x ^^^ y := by decide +kernel
theorem weight_tab : ∀ n < 7, ∀ x < 2 ^ n, Kh407.weight n x = pop x := by decide +kernel
theorem meet_tab : ∀ n < 7, ∀ x < 2 ^ n, ∀ y < 2 ^ n, Kh407.meet n x y = x &&& y := by decide +kernel
end Fw
/-! piece MathB -/
namespace Fw
open Kh407
/-- the least of some numbers -/
def mn : List Nat → Nat
  | [] => 0
  | x :: r => r.foldl min x
theorem foldl_min_le : ∀ (l : List Nat) (x : Nat), l.foldl min x ≤ x ∧ ∀ y ∈ l, l.foldl min x ≤ y
  | [], x => ⟨Nat.le_refl _, by simp⟩
  | a :: l, x => by
    have h := foldl_min_le l (min x a)
    refine ⟨Nat.le_trans h.1 (Nat.min_le_left _ _), fun y hy => ?_⟩
    rcases List.mem_cons.mp hy with e | e
    · subst e
      exact Nat.le_trans h.1 (Nat.min_le_right _ _)
    · exact h.2 y e
theorem foldl_min_mem : ∀ (l : List Nat) (x : Nat), l.foldl min x = x ∨ l.foldl min x ∈ l
  | [], x => .inl rfl
  | a :: l, x => by
    rcases foldl_min_mem l (min x a) with h | h
    · show l.foldl min (min x a) = x ∨ l.foldl min (min x a) ∈ a :: l
      rw [h]
      by_cases c : x ≤ a
      · exact .inl (Nat.min_eq_left c)
      · exact .inr (by rw [Nat.min_eq_right (by omega)]; exact List.mem_cons_self)
    · exact .inr (List.mem_cons_of_mem _ h)
theorem mn_le {l : List Nat} {y : Nat} (h : y ∈ l) : mn l ≤ y := by
  cases l with
  | nil => cases h
  | cons x r =>
    rcases List.mem_cons.mp h with e | e
    · subst e
      exact (foldl_min_le r y).1
    · exact (foldl_min_le r x).2 y e
theorem mn_mem {l : List Nat} (h : l ≠ []) : mn l ∈ l := by
  cases l with
  | nil => exact absurd rfl h
  | cons x r =>
    rcases foldl_min_mem r x with e | e
    · show r.foldl min x ∈ x :: r
      rw [e]
      exact List.mem_cons_self
    · exact List.mem_cons_of_mem _ e
theorem mn_eq {l : List Nat} {m : Nat} (h : m ∈ l) (hl : ∀ y ∈ l, m ≤ y) : m = mn l := by
  have h1 := mn_le h
  have h2 := hl _ (mn_mem (by intro e; subst e; cases h))
  omega
theorem min_is {l : List Nat} {m : Int} (h : m ∈ l.map Int.ofNat) (hl : ∀ y ∈ l.map Int.ofNat, m ≤ y) : m = (mn l : Int) := by
  obtain ⟨k, hk, rfl⟩ := List.mem_map.mp h
  congr 1
  refine mn_eq hk fun y hy => ?_
  have : (k : Int) ≤ (y : Int) := hl _ (List.mem_map.mpr ⟨y, hy, rfl⟩)
  omega
/-- the words' distance -/
def dst (x y : Nat) : Nat := pop (x ^^^ y)
theorem dist_tab : ∀ n < 7, ∀ x < 2 ^ n, ∀ y < 2 ^ n, Kh407.dist n x y = dst x y ∧ dst x y ≤ n ∧ (dst x y = 0 → x = y) := by decide +kernel
theorem dst_comm (x y : Nat) : dst x y = dst y x := by unfold dst; rw [Nat.xor_comm]
theorem dst_self (x : Nat) : dst x x = 0 := by unfold dst; rw [Nat.xor_self]; exact pop_zero
theorem find_range {n m : Nat} {p : Nat → Bool} (hm : m ≤ n) (hp : p m = true) (hl : ∀ j < m, p j = false) : (List.range (n + 1)).find? p = some m := by
  rw [List.find?_range_eq_some]
  exact ⟨hp, by rw [List.mem_range]; omega, fun j hj => by rw [hl j hj]; rfl⟩
theorem off_is {n x : Nat} {c : List Nat} (h : Ok n c) (hx : x < 2 ^ n) (hc : c ≠ []) : Kh407.off ⟨n, c⟩ x = some (mn (c.map (dst x))) := by
  have hne : c.map (dst x) ≠ [] := fun e => hc (List.map_eq_nil_iff.mp e)
  obtain ⟨y, hy, e⟩ := List.mem_map.mp (mn_mem hne)
  have ht := fun z (hz : z ∈ c) => dist_tab n (by have := h.hi; omega) x hx z (h.lt z hz)
  refine find_range ?_ ?_ ?_
  · rw [← e]; exact (ht y hy).2.1
  · refine List.any_eq_true.mpr ⟨y, hy, ?_⟩
    show (Kh407.dist n x y == _) = true
    rw [(ht y hy).1, e]
    exact beq_self_eq_true _
  · intro j hj
    refine List.any_eq_false.mpr fun z hz => ?_
    show ¬ (Kh407.dist n x z == j) = true
    rw [(ht z hz).1, beq_iff_eq]
    intro e
    have := mn_le (l := c.map (dst x)) (List.mem_map.mpr ⟨z, hz, rfl⟩)
    omega
theorem off_nil {n x : Nat} : Kh407.off ⟨n, []⟩ x = none := by
  unfold Kh407.off
  rw [List.find?_eq_none]
  intro j _
  simp
theorem off_count {n x m : Nat} {c : List Nat} (h : Ok n c) (hx : x < 2 ^ n) : (c.filter fun y => Kh407.dist n x y == m).length = (c.map (dst x)).count m := by
  rw [List.count_eq_countP, List.countP_map, List.countP_eq_length_filter]
  congr 1
  refine List.filter_congr fun z hz => ?_
  rw [(dist_tab n (by have := h.hi; omega) x hx z (h.lt z hz)).1]
  rfl
theorem count_ofNat (l : List Nat) (m : Nat) : (l.map Int.ofNat).count (m : Int) = l.count m := by
  rw [List.count_eq_countP, List.countP_map, List.count_eq_countP]
  refine List.countP_congr fun x _ => ?_
  simp [Function.comp]
  exact Int.ofNat_inj
/-- two places exchanged, as the program does it -/
def exch (x i j : Nat) : Nat := if x / 2 ^ i % 2 = x / 2 ^ j % 2 then x else x ^^^ (2 ^ i ||| 2 ^ j)
theorem exch_tab : ∀ n < 7, ∀ i < n, ∀ j < n, ∀ x < 2 ^ n, Kh407.swapped n i j x = exch x i j ∧ exch x i j < 2 ^ n ∧ exch (exch x i j) i j = x := by decide +kernel
end Fw
/-! piece MathC -/
namespace Fw
open Kh407
theorem sum_pos : ∀ {l : List Nat}, 1 ≤ l.sum → ∃ x ∈ l, 1 ≤ x
  | [], h => by simp at h
  | a :: l, h => by
    by_cases c : 1 ≤ a
    · exact ⟨a, List.mem_cons_self, c⟩
    · rw [List.sum_cons] at h
      obtain ⟨x, hx, hp⟩ := sum_pos (l := l) (by omega)
      exact ⟨x, List.mem_cons_of_mem _ hx, hp⟩
theorem sum_ge : ∀ {l : List Nat} {x : Nat}, x ∈ l → x ≤ l.sum
  | a :: l, x, h => by
    rw [List.sum_cons]
    rcases List.mem_cons.mp h with e | e
    · omega
    · have := sum_ge e
      omega
theorem twos_pos {n i : Nat} {c : List Nat} (h : Ok n c) : 1 ≤ Kh407.twos ⟨n, c⟩ i ↔ ∃ x ∈ c, ∃ y ∈ c, dst x y = i := by
  have ht := fun x (hx : x ∈ c) y (hy : y ∈ c) => (dist_tab n (by have := h.hi; omega) x (h.lt x hx) y (h.lt y hy)).1
  constructor
  · intro hp
    obtain ⟨k, hk, hk1⟩ := sum_pos hp
    obtain ⟨x, hx, rfl⟩ := List.mem_map.mp hk
    obtain ⟨y, hy⟩ := List.exists_mem_of_length_pos hk1
    rw [List.mem_filter] at hy
    refine ⟨x, hx, y, hy.1, ?_⟩
    have e : (Kh407.dist n x y == i) = true := hy.2
    rw [ht x hx y hy.1, beq_iff_eq] at e
    exact e
  · rintro ⟨x, hx, y, hy, e⟩
    refine Nat.le_trans ?_ (sum_ge (List.mem_map.mpr ⟨x, hx, rfl⟩))
    refine List.length_pos_of_mem (a := y) (List.mem_filter.mpr ⟨hy, ?_⟩)
    show (Kh407.dist n x y == i) = true
    rw [ht x hx y hy, beq_iff_eq]
    exact e
theorem dst_zero {n x y : Nat} (hn : n ≤ 6) (hx : x < 2 ^ n) (hy : y < 2 ^ n) (h : dst x y = 0) : x = y := (dist_tab n (by omega) x hx y hy).2.2 h
theorem least_some {n m : Nat} {c : List Nat} (h : Ok n c) (h1 : ∃ x ∈ c, ∃ y ∈ c, x ≠ y ∧ dst x y = m) (h2 : ∀ x ∈ c, ∀ y ∈ c, x ≠ y → m ≤ dst x y) : Kh407.least ⟨n, c⟩ = some m := by
  obtain ⟨x, hx, y, hy, hne, e⟩ := h1
  refine find_range ?_ ?_ ?_
  · rw [← e]
    exact (dist_tab n (by have := h.hi; omega) x (h.lt x hx) y (h.lt y hy)).2.1
  · rw [Bool.and_eq_true, decide_eq_true_eq, decide_eq_true_eq]
    refine ⟨?_, (twos_pos h).mpr ⟨x, hx, y, hy, e⟩⟩
    by_cases c0 : m = 0
    · exact absurd (dst_zero h.hi (h.lt x hx) (h.lt y hy) (e.trans c0)) hne
    · omega
  · intro j hj
    rw [Bool.and_eq_false_iff, decide_eq_false_iff_not, decide_eq_false_iff_not]
    by_cases c0 : 1 ≤ j
    · refine .inr fun hp => ?_
      obtain ⟨u, hu, v, hv, e2⟩ := (twos_pos h).mp hp
      by_cases c1 : u = v
      · subst c1
        rw [dst_self] at e2
        omega
      · have := h2 u hu v hv c1
        omega
    · exact .inl c0
theorem least_none {n : Nat} {c : List Nat} (h : Ok n c) (hl : c.length < 2) : Kh407.least ⟨n, c⟩ = none := by
  unfold Kh407.least
  rw [List.find?_eq_none]
  intro j _
  rw [Bool.and_eq_true, decide_eq_true_eq, decide_eq_true_eq]
  rintro ⟨h1, h2⟩
  obtain ⟨u, hu, v, hv, e2⟩ := (twos_pos h).mp h2
  have e : u = v := by
    match c, hl, hu, hv with
    | [a], _, hu, hv => rw [List.mem_singleton] at hu hv; rw [hu, hv]
  subst e
  rw [dst_self] at e2
  omega
/-- how far the k-th next word is from the nearest ahead of it -/
def near (c : List Nat) (k : Nat) : Nat := mn ((c.take (k + 1)).map (dst (c.getD (k + 1) 0)))
def nears (c : List Nat) : List Nat := (List.range (c.length - 1)).map (near c)
theorem up_get {c : List Nat} (h : c.Pairwise (· < ·)) {i j : Nat} (hij : i < j) (hj : j < c.length) : c.getD i 0 < c.getD j 0 := by
  have := List.pairwise_iff_getElem.mp h i j (by omega) hj hij
  simpa [List.getD_eq_getElem?_getD, List.getElem?_eq_getElem, hj, (by omega : i < c.length)] using this
theorem getD_mem {c : List Nat} {i : Nat} (h : i < c.length) : c.getD i 0 ∈ c := by
  rw [List.getD_eq_getElem?_getD, List.getElem?_eq_getElem h]
  exact List.getElem_mem h
theorem mem_getD {c : List Nat} {x : Nat} (h : x ∈ c) : ∃ i, i < c.length ∧ c.getD i 0 = x := by
  obtain ⟨i, hi, e⟩ := List.mem_iff_getElem.mp h
  exact ⟨i, hi, by rw [List.getD_eq_getElem?_getD, List.getElem?_eq_getElem hi]; exact e⟩
theorem mem_take {c : List Nat} {k x : Nat} (h : x ∈ c.take k) : ∃ i, i < k ∧ i < c.length ∧ c.getD i 0 = x := by
  obtain ⟨i, hi, e⟩ := List.mem_iff_getElem.mp h
  rw [List.length_take] at hi
  refine ⟨i, by omega, by omega, ?_⟩
  rw [List.getElem_take] at e
  rw [List.getD_eq_getElem?_getD, List.getElem?_eq_getElem (by omega)]
  exact e
theorem take_mem {c : List Nat} {i k : Nat} (h : i < k) (hi : i < c.length) : c.getD i 0 ∈ c.take k := by
  refine List.mem_iff_getElem.mpr ⟨i, by rw [List.length_take]; omega, ?_⟩
  rw [List.getElem_take, List.getD_eq_getElem?_getD, List.getElem?_eq_getElem hi]
  rfl
theorem least_is {n : Nat} {c : List Nat} (h : Ok n c) (hl : 2 ≤ c.length) : Kh407.least ⟨n, c⟩ = some (mn (nears c)) := by
  have hne : nears c ≠ [] := by
    intro e
    have := congrArg List.length e
    unfold nears at this
    rw [List.length_map, List.length_range] at this
    simp at this
    omega
  refine least_some h ?_ ?_
  · obtain ⟨k, hk, e⟩ := List.mem_map.mp (mn_mem hne)
    rw [List.mem_range] at hk
    have hne2 : (c.take (k + 1)).map (dst (c.getD (k + 1) 0)) ≠ [] := by
      intro e
      have := congrArg List.length e
      rw [List.length_map, List.length_take, List.length_nil] at this
      omega
    obtain ⟨y, hy, e2⟩ := List.mem_map.mp (mn_mem hne2)
    obtain ⟨i, hi, hi2, e3⟩ := mem_take hy
    have hlt := up_get h.up (i := i) (j := k + 1) (by omega) (by omega)
    refine ⟨_, getD_mem (i := k + 1) (by omega), y, e3 ▸ getD_mem hi2, by omega, ?_⟩
    rw [e2]
    exact e
  · intro x hx y hy hxy
    obtain ⟨i, hi, rfl⟩ := mem_getD hx
    obtain ⟨j, hj, rfl⟩ := mem_getD hy
    have key : ∀ i j, i < j → j < c.length → mn (nears c) ≤ dst (c.getD j 0) (c.getD i 0) := by
      intro i j hij hj
      have h1 : near c (j - 1) ∈ nears c := List.mem_map.mpr ⟨j - 1, by rw [List.mem_range]; omega, rfl⟩
      refine Nat.le_trans (mn_le h1) ?_
      unfold near
      have ej : j - 1 + 1 = j := by omega
      rw [ej]
      exact mn_le (List.mem_map.mpr ⟨_, take_mem hij (by omega), rfl⟩)
    by_cases hlt : i < j
    · rw [dst_comm]
      exact key i j hlt hj
    · by_cases hgt : j < i
      · exact key j i hgt hi
      · have : i = j := by omega
        subst this
        exact absurd rfl hxy
end Fw
/-! piece MathD -/
namespace Fw
open Kh407
/-- one word more, as the program does it -/
def grow (s : List Nat) (w : Nat) : List Nat := if s.contains w then s else s ++ s.map fun o => w ^^^ o
def span (c : List Nat) : List Nat := c.foldl grow [0]
def step1 (a : Abs) : Abs := { a with c := Kh407.sorted a.n (a.c ++ a.c.flatMap fun x => a.c.map fun y => Kh407.plus a.n x y) }
theorem closing_n : ∀ (k : Nat) (a : Abs), (closing k a).n = a.n
  | 0, _ => rfl
  | k + 1, a => closing_n k (step1 a)
theorem closing_last : ∀ (k : Nat) (a : Abs), closing (k + 1) a = step1 (closing k a)
  | 0, _ => rfl
  | k + 1, a => closing_last k (step1 a)
theorem step1_mem {n x : Nat} {c : List Nat} (hn : n ≤ 6) (hc : ∀ x ∈ c, x < 2 ^ n) : x ∈ (step1 ⟨n, c⟩).c ↔ x ∈ c ∨ ∃ y ∈ c, ∃ z ∈ c, y ^^^ z = x := by
  have e : x ∈ (step1 ⟨n, c⟩).c ↔ x < 2 ^ n ∧ x ∈ (c ++ c.flatMap fun x => c.map fun y => Kh407.plus n x y) := sorted_mem
  rw [e, List.mem_append, List.mem_flatMap]
  have hp := fun y (hy : y ∈ c) z (hz : z ∈ c) => plus_tab n (by omega) y (hc y hy) z (hc z hz)
  constructor
  · rintro ⟨h1, h | ⟨y, hy, h⟩⟩
    · exact .inl h
    · obtain ⟨z, hz, e⟩ := List.mem_map.mp h
      exact .inr ⟨y, hy, z, hz, by rw [← hp y hy z hz]; exact e⟩
  · rintro (h | ⟨y, hy, z, hz, e⟩)
    · exact ⟨hc x h, .inl h⟩
    · refine ⟨?_, .inr ⟨y, hy, List.mem_map.mpr ⟨z, hz, by rw [hp y hy z hz]; exact e⟩⟩⟩
      rw [← e]
      exact Nat.xor_lt_two_pow (hc y hy) (hc z hz)
theorem step1_up (n : Nat) (c : List Nat) : (step1 ⟨n, c⟩).c.Pairwise (· < ·) := sorted_up n _
theorem closing_lt {n : Nat} {c : List Nat} (hc : ∀ x ∈ c, x < 2 ^ n) : ∀ k x, x ∈ (closing k ⟨n, c⟩).c → x < 2 ^ n
  | 0, x, h => hc x h
  | k + 1, x, h => by
    rw [closing_last] at h
    have := (sorted_mem.mp h).1
    rw [closing_n] at this
    exact this
theorem closing_mem {n k x : Nat} {c : List Nat} (hn : n ≤ 6) (hc : ∀ x ∈ c, x < 2 ^ n) : x ∈ (closing (k + 1) ⟨n, c⟩).c ↔ x ∈ (closing k ⟨n, c⟩).c ∨ ∃ y ∈ (closing k ⟨n, c⟩).c, ∃ z ∈ (closing k ⟨n, c⟩).c, y ^^^ z = x := by
  rw [closing_last]
  have e : closing k ⟨n, c⟩ = ⟨n, (closing k ⟨n, c⟩).c⟩ := by
    have h := closing_n k ⟨n, c⟩
    cases hh : closing k ⟨n, c⟩ with
    | mk a b =>
      rw [hh] at h
      cases h
      rfl
  rw [e]
  exact step1_mem hn (closing_lt hc k)
theorem closing_keep {n : Nat} {c : List Nat} (hn : n ≤ 6) (hc : ∀ x ∈ c, x < 2 ^ n) {x : Nat} (h : x ∈ c) : ∀ k, x ∈ (closing k ⟨n, c⟩).c
  | 0 => h
  | k + 1 => (closing_mem hn hc).mpr (.inl (closing_keep hn hc h k))
theorem closing_grow {n x : Nat} {c : List Nat} (hn : n ≤ 6) (hc : ∀ x ∈ c, x < 2 ^ n) {k : Nat} (h : x ∈ (closing k ⟨n, c⟩).c) : ∀ j, x ∈ (closing (k + j) ⟨n, c⟩).c
  | 0 => h
  | j + 1 => (closing_mem hn hc).mpr (.inl (closing_grow hn hc h j))
theorem xx (w o : Nat) : w ^^^ (w ^^^ o) = o := by rw [← Nat.xor_assoc, Nat.xor_self, Nat.zero_xor]
/-- what holds of the span so far -/
structure Sp1 (n : Nat) (c s : List Nat) (m : Nat) : Prop where
  nd : s.Nodup
  zero : 0 ∈ s
  lt : ∀ x ∈ s, x < 2 ^ n
  cl : ∀ x ∈ s, ∀ y ∈ s, x ^^^ y ∈ s
  len : s.length = 2 ^ m
  inn : ∀ x ∈ s, x ∈ (closing (m + 1) ⟨n, c⟩).c
theorem grow_sp {n w m : Nat} {c s : List Nat} (hn : n ≤ 6) (hc : ∀ x ∈ c, x < 2 ^ n) (hw : w ∈ c) (h : Sp1 n c s m) : ∃ m', Sp1 n c (grow s w) m' ∧ w ∈ grow s w ∧ ∀ x ∈ s, x ∈ grow s w := by
  unfold grow
  by_cases k : s.contains w
  · rw [if_pos k]
    exact ⟨m, h, List.contains_iff_mem.mp k, fun _ h => h⟩
  · rw [if_neg k]
    have k' : w ∉ s := fun e => k (List.contains_iff_mem.mpr e)
    have mem : ∀ x, x ∈ s ++ s.map (fun o => w ^^^ o) ↔ x ∈ s ∨ ∃ o ∈ s, w ^^^ o = x := fun x => by rw [List.mem_append, List.mem_map]
    refine ⟨m + 1, ⟨?_, ?_, ?_, ?_, ?_, ?_⟩, ?_, ?_⟩
    · rw [List.nodup_append]
      refine ⟨h.nd, ?_, ?_⟩
      · refine List.pairwise_map.mpr (h.nd.imp fun {a b} hab e => hab ?_)
        rw [← xx w a, e, xx]
      · rintro a ha b hb e
        subst e
        obtain ⟨o, ho, e⟩ := List.mem_map.mp hb
        refine k' ?_
        have := h.cl a ha o ho
        rw [← e, Nat.xor_assoc, Nat.xor_self, Nat.xor_zero] at this
        exact this
    · exact (mem 0).mpr (.inl h.zero)
    · intro x hx
      rcases (mem x).mp hx with e | ⟨o, ho, e⟩
      · exact h.lt x e
      · rw [← e]
        exact Nat.xor_lt_two_pow (hc w hw) (h.lt o ho)
    · intro x hx y hy
      rcases (mem x).mp hx with ex | ⟨o, ho, ex⟩
      · rcases (mem y).mp hy with ey | ⟨u, hu, ey⟩
        · exact (mem _).mpr (.inl (h.cl x ex y ey))
        · refine (mem _).mpr (.inr ⟨x ^^^ u, h.cl x ex u hu, ?_⟩)
          rw [← ey, ← Nat.xor_assoc, ← Nat.xor_assoc, Nat.xor_comm w x]
      · rcases (mem y).mp hy with ey | ⟨u, hu, ey⟩
        · refine (mem _).mpr (.inr ⟨o ^^^ y, h.cl o ho y ey, ?_⟩)
          rw [← ex, ← Nat.xor_assoc]
        · refine (mem _).mpr (.inl ?_)
          rw [← ex, ← ey, Nat.xor_comm w o, Nat.xor_assoc, xx]
          exact h.cl o ho u hu
    · rw [List.length_append, List.length_map, h.len, Nat.pow_succ]
      omega
    · intro x hx
      rcases (mem x).mp hx with ex | ⟨o, ho, ex⟩
      · exact closing_grow hn hc (h.inn x ex) 1
      · exact (closing_mem hn hc).mpr (.inr ⟨w, closing_keep hn hc hw _, o, h.inn o ho, ex⟩)
    · exact (mem w).mpr (.inr ⟨0, h.zero, Nat.xor_zero w⟩)
    · exact fun x hx => (mem x).mpr (.inl hx)
theorem span_sp {n : Nat} {c : List Nat} (hn : n ≤ 6) (hc : ∀ x ∈ c, x < 2 ^ n) : ∀ (l s : List Nat) (m : Nat), (∀ x ∈ l, x ∈ c) → Sp1 n c s m → ∃ m', Sp1 n c (l.foldl grow s) m' ∧ (∀ x ∈ s, x ∈ l.foldl grow s) ∧ ∀ x ∈ l, x ∈ l.foldl grow s
  | [], s, m, _, h => ⟨m, h, fun _ h => h, by simp⟩
  | w :: l, s, m, hl, h => by
    obtain ⟨m1, h1, h2, h3⟩ := grow_sp hn hc (hl w List.mem_cons_self) h
    obtain ⟨m2, k1, k2, k3⟩ := span_sp hn hc l (grow s w) m1 (fun x hx => hl x (List.mem_cons_of_mem _ hx)) h1
    refine ⟨m2, k1, fun x hx => k2 x (h3 x hx), fun x hx => ?_⟩
    rcases List.mem_cons.mp hx with e | e
    · subst e
      exact k2 _ h2
    · exact k3 x e
theorem nodup_len : ∀ {n : Nat} {s : List Nat}, s.Nodup → (∀ x ∈ s, x < n) → s.length ≤ n
  | 0, [], _, _ => Nat.le_refl _
  | 0, a :: s, _, hl => absurd (hl a List.mem_cons_self) (Nat.not_lt_zero _)
  | n + 1, s, hs, hl => by
    have h := nodup_len (n := n) (s := s.erase n) (hs.erase n) fun x hx => by
      have h1 := (hs.mem_erase_iff).mp hx
      have h2 := hl x h1.2
      have h3 := h1.1
      omega
    rw [List.length_erase] at h
    split at h <;> omega
theorem span_start {n : Nat} {c : List Nat} (hn : n ≤ 6) (hc : ∀ x ∈ c, x < 2 ^ n) (hne : c ≠ []) : Sp1 n c [0] 0 := by
  refine ⟨by simp, by simp, ?_, ?_, rfl, ?_⟩
  · intro x hx
    rw [List.mem_singleton] at hx
    subst hx
    exact Nat.two_pow_pos n
  · intro x hx y hy
    rw [List.mem_singleton] at hx hy
    subst hx hy
    simp
  · intro x hx
    rw [List.mem_singleton] at hx
    subst hx
    cases c with
    | nil => exact absurd rfl hne
    | cons w c => exact (closing_mem hn hc).mpr (.inr ⟨w, List.mem_cons_self, w, List.mem_cons_self, Nat.xor_self w⟩)
theorem closing_in {n : Nat} {c s : List Nat} (hn : n ≤ 6) (hc : ∀ x ∈ c, x < 2 ^ n) (h1 : ∀ x ∈ c, x ∈ s) (h2 : ∀ x ∈ s, ∀ y ∈ s, x ^^^ y ∈ s) : ∀ k x, x ∈ (closing k ⟨n, c⟩).c → x ∈ s
  | 0, x, h => h1 x h
  | k + 1, x, h => by
    rcases (closing_mem hn hc).mp h with h | ⟨y, hy, z, hz, e⟩
    · exact closing_in hn hc h1 h2 k x h
    · rw [← e]
      exact h2 _ (closing_in hn hc h1 h2 k y hy) _ (closing_in hn hc h1 h2 k z hz)
theorem span_ok {n : Nat} {c : List Nat} (h : Ok n c) (hne : c ≠ []) : (span c).Nodup ∧ (∀ x ∈ span c, x < 2 ^ n) ∧ Kh407.sorted n (span c) = (closing (n + 1) ⟨n, c⟩).c := by
  obtain ⟨m, k1, k2, k3⟩ := span_sp h.hi h.lt c [0] 0 (fun _ h => h) (span_start h.hi h.lt hne)
  have hm : m ≤ n := by
    have := nodup_len k1.nd k1.lt
    rw [k1.len] at this
    exact (Nat.pow_le_pow_iff_right (by decide)).mp this
  refine ⟨k1.nd, k1.lt, rising_eq (sorted_up _ _) ?_ fun x => ?_⟩
  · rw [closing_last]
    exact sorted_up _ _
  · rw [sorted_mem]
    constructor
    · rintro ⟨_, hx⟩
      have := closing_grow h.hi h.lt (k1.inn x hx) (n - m)
      rw [show m + 1 + (n - m) = n + 1 by omega] at this
      exact this
    · intro hx
      have := closing_in h.hi h.lt k3 k1.cl _ x hx
      exact ⟨k1.lt x this, this⟩
theorem closing_nil {n : Nat} (hn : n ≤ 6) (k : Nat) : (closing k ⟨n, []⟩).c = [] := by
  have : ∀ x, x ∉ (closing k ⟨n, []⟩).c := fun x hx => by
    have := closing_in (s := []) hn (by simp) (by simp) (by simp) k x hx
    cases this
  exact List.eq_nil_iff_forall_not_mem.mpr this
theorem closing_ok {n : Nat} {c : List Nat} (h : Ok n c) : closing (n + 1) ⟨n, c⟩ = ⟨n, (closing (n + 1) ⟨n, c⟩).c⟩ ∧ Ok n (closing (n + 1) ⟨n, c⟩).c := by
  have e := closing_n (n + 1) ⟨n, c⟩
  refine ⟨?_, h.lo, h.hi, ?_, closing_lt h.lt _⟩
  · cases hh : closing (n + 1) ⟨n, c⟩ with
    | mk a b =>
      rw [hh] at e
      cases e
      rfl
  · rw [closing_last]
    exact sorted_up _ _
theorem ok_len {n : Nat} {c : List Nat} (h : Ok n c) : c.length ≤ 64 :=
  Nat.le_trans (nodup_len (h.up.imp fun {a b} hab => by omega) h.lt) (Nat.pow_le_pow_right (by decide) h.hi)
end Fw
/-! piece MathE -/
namespace Fw
open Kh407
theorem sorted_congr {n : Nat} {c d : List Nat} (h : ∀ x, x ∈ c ↔ x ∈ d) : Kh407.sorted n c = Kh407.sorted n d := by
  refine rising_eq (sorted_up _ _) (sorted_up _ _) fun x => ?_
  rw [sorted_mem, sorted_mem, h]
theorem sorted_self {n : Nat} {c : List Nat} (h : Ok n c) : Kh407.sorted n c = c := by
  refine rising_eq (sorted_up _ _) h.up fun x => ?_
  rw [sorted_mem]
  exact ⟨fun k => k.2, fun k => ⟨h.lt x k, k⟩⟩
theorem ok_nodup {n : Nat} {c : List Nat} (h : Ok n c) : c.Nodup := h.up.imp fun {a b} k => by omega
theorem sorted_perm {n : Nat} {d : List Nat} (hd : d.Nodup) (hl : ∀ x ∈ d, x < 2 ^ n) : (Kh407.sorted n d).Perm d := by
  refine (List.perm_ext_iff_of_nodup ((sorted_up n d).imp fun {a b} k => by omega) hd).mpr fun x => ?_
  rw [sorted_mem]
  exact ⟨fun k => k.2, fun k => ⟨hl x k, k⟩⟩
theorem sorted_len {n : Nat} {d : List Nat} (hd : d.Nodup) (hl : ∀ x ∈ d, x < 2 ^ n) : (Kh407.sorted n d).length = d.length := (sorted_perm hd hl).length_eq
theorem rest_ok {n : Nat} {c : List Nat} (h : Ok n c) : Ok n ((Kh407.words n).filter fun x => !c.contains x) :=
  ⟨h.lo, h.hi, (rising_range _).filter _, fun x hx => List.mem_range.mp (List.mem_filter.mp hx).1⟩
theorem len_split (p : Nat → Bool) : ∀ l : List Nat, (l.filter p).length + (l.filter fun x => !p x).length = l.length
  | [] => rfl
  | a :: l => by
    have ih := len_split p l
    cases e : p a
    · rw [List.filter_cons_of_neg (by rw [e]; decide), List.filter_cons_of_pos (by rw [e]; rfl), List.length_cons, List.length_cons]
      omega
    · rw [List.filter_cons_of_pos e, List.filter_cons_of_neg (by rw [e]; decide), List.length_cons, List.length_cons]
      omega
theorem rest_len {n : Nat} {c : List Nat} (h : Ok n c) : ((Kh407.words n).filter fun x => !c.contains x).length = 2 ^ n - c.length := by
  have e1 : ((Kh407.words n).filter fun x => c.contains x).length = c.length := congrArg List.length (sorted_self h)
  have e2 := len_split (fun x => c.contains x) (Kh407.words n)
  unfold Kh407.words at *
  rw [List.length_range] at e2
  omega
theorem erase_filter {c : List Nat} (h : c.Nodup) (x : Nat) : c.erase x = c.filter (fun y => y != x) := by
  rw [h.erase_eq_filter]
theorem isW_lt {n x : Nat} {c : List Nat} : Kh407.isW ⟨n, c⟩ x = true ↔ x < 2 ^ n := by
  unfold Kh407.isW
  rw [decide_eq_true_eq]
theorem does_put_bad {a : Abs} {x : Nat} (h : isW a x = false) : does a (.put x) = (a, say (-22)) := by simp only [does, h, if_true]
theorem does_put_in {a : Abs} {x : Nat} (h : isW a x = true) (h2 : a.c.contains x = true) : does a (.put x) = (a, say (-17)) := by simp only [does, h, h2, reduceIte, Bool.false_eq_true, Bool.true_eq_false]
theorem does_put {a : Abs} {x : Nat} (h : isW a x = true) (h2 : a.c.contains x = false) : does a (.put x) = ({ a with c := Kh407.sorted a.n (x :: a.c) }, say (a.c.length + 1 : Nat)) := by
  simp only [does, h, h2, reduceIte, Bool.false_eq_true, Bool.true_eq_false]
theorem does_take_bad {a : Abs} {x : Nat} (h : isW a x = false) : does a (.take x) = (a, say (-22)) := by simp only [does, h, if_true]
theorem does_take_not {a : Abs} {x : Nat} (h : isW a x = true) (h2 : a.c.contains x = false) : does a (.take x) = (a, say (-2)) := by simp only [does, h, h2, reduceIte, Bool.false_eq_true, Bool.true_eq_false]
theorem does_take {a : Abs} {x : Nat} (h : isW a x = true) (h2 : a.c.contains x = true) : does a (.take x) = ({ a with c := a.c.erase x }, say (a.c.length - 1 : Nat)) := by
  simp only [does, h, h2, reduceIte, Bool.false_eq_true, Bool.true_eq_false]
theorem does_move_bad {a : Abs} {x : Nat} (h : isW a x = false) : does a (.move x) = (a, say (-22)) := by simp only [does, h, if_true]
theorem does_move {a : Abs} {x : Nat} (h : isW a x = true) : does a (.move x) = ({ a with c := Kh407.sorted a.n (a.c.map (Kh407.plus a.n x)) }, say 0) := by simp only [does, h, reduceIte, Bool.true_eq_false]
theorem does_swap_bad {a : Abs} {i j : Nat} (h : a.n ≤ i ∨ a.n ≤ j) : does a (.swap i j) = (a, say (-2)) := by simp only [does, h, if_true]
theorem does_swap {a : Abs} {i j : Nat} (h : ¬ (a.n ≤ i ∨ a.n ≤ j)) : does a (.swap i j) = ({ a with c := Kh407.sorted a.n (a.c.map (Kh407.swapped a.n i j)) }, say 0) := by simp only [does, h, if_false]
theorem does_dist_bad {a : Abs} {x y : Nat} (h : isW a x = false ∨ isW a y = false) : does a (.dist x y) = (a, say (-22)) := by simp only [does, h, if_true]
theorem does_dist {a : Abs} {x y : Nat} (h : ¬ (isW a x = false ∨ isW a y = false)) : does a (.dist x y) = (a, say (Kh407.dist a.n x y)) := by simp only [does, h, if_false]
theorem does_off_bad {a : Abs} {x : Nat} (h : isW a x = false) : does a (.off x) = (a, say (-22)) := by simp only [does, h, if_true]
theorem does_off_none {a : Abs} {x : Nat} (h : isW a x = true) (h2 : Kh407.off a x = none) : does a (.off x) = (a, say (-6)) := by simp only [does, h, h2, reduceIte, Bool.false_eq_true, Bool.true_eq_false]
theorem does_off {a : Abs} {x i : Nat} (h : isW a x = true) (h2 : Kh407.off a x = some i) : does a (.off x) = (a, nats i [(a.c.filter fun y => Kh407.dist a.n x y == i).length]) := by simp only [does, h, h2, reduceIte, Bool.false_eq_true, Bool.true_eq_false]
theorem does_least_none {a : Abs} (h2 : Kh407.least a = none) : does a .least = (a, say (-33)) := by simp only [does, h2]
theorem does_least {a : Abs} {i : Nat} (h2 : Kh407.least a = some i) : does a .least = (a, say i) := by simp only [does, h2]
/-- the words stay words, rising, whatever is called -/
theorem does_ok {a : Abs} (h : Ok a.n a.c) (c : Call) : Ok (does a c).1.n (does a c).1.c := by
  cases c with
  | put x =>
    cases e : isW a x with
    | false => rw [does_put_bad e]; exact h
    | true =>
      cases e2 : a.c.contains x with
      | true => rw [does_put_in e e2]; exact h
      | false => rw [does_put e e2]; exact sorted_ok h.lo h.hi
  | take x =>
    cases e : isW a x with
    | false => rw [does_take_bad e]; exact h
    | true =>
      cases e2 : a.c.contains x with
      | false => rw [does_take_not e e2]; exact h
      | true => rw [does_take e e2]; exact ⟨h.lo, h.hi, h.up.sublist List.erase_sublist, fun y hy => h.lt y (List.mem_of_mem_erase hy)⟩
  | rest => exact rest_ok h
  | move x =>
    cases e : isW a x with
    | false => rw [does_move_bad e]; exact h
    | true => rw [does_move e]; exact sorted_ok h.lo h.hi
  | swap i j =>
    by_cases e : a.n ≤ i ∨ a.n ≤ j
    · rw [does_swap_bad e]; exact h
    · rw [does_swap e]; exact sorted_ok h.lo h.hi
  | close =>
    show Ok (closing (a.n + 1) a).n (closing (a.n + 1) a).c
    rw [closing_n]
    exact (closing_ok h).2
  | begin_ _ => exact h
  | many => exact h
  | words => exact h
  | dist _ _ => exact h
  | off _ => exact h
  | least => exact h
  | twos => exact h
  | sums => exact h
  | sign _ _ => exact h
  | tilt _ => exact h
  | patterns _ => exact h
  | even _ => exact h
  | strength => exact h
  | uneven => exact h
  | closed => exact h
  | farthest => exact h
  | alike _ => exact h
end Fw
/-! piece MathF -/
namespace Fw
open Kh407
theorem whole_id (c : List (List Int)) : PyKh407.whole c = c := by
  unfold PyKh407.whole
  split <;> rfl
theorem whole_all (cs : List (List (List Int))) : cs.map PyKh407.whole = cs := by
  conv => rhs; rw [← List.map_id cs]
  exact List.map_congr_left fun c _ => whole_id c
/-- how many numbers each call is told -/
def told : List Nat := [1, 1, 1, 0, 1, 2, 0, 0, 0, 2, 1, 0, 0, 0, 2, 1, 1, 1, 0, 0, 0, 0, 1]
theorem shape_tab : ∀ m < 23, PyKh407.shape ((m : Nat) : Int) = some (told.getD m 0, 0) ∧ told[m]? = some (told.getD m 0) := by decide
theorem shape_told {p : Int} {n k : Nat} (h : PyKh407.shape p = some (n, k)) : k = 0 ∧ ∃ m : Nat, p = (m : Int) ∧ m < 23 ∧ told[m]? = some n := by
  by_cases hp : 0 ≤ p ∧ p < 23
  · have e : p = ((p.toNat : Nat) : Int) := by omega
    have t := shape_tab p.toNat (by omega)
    rw [← e, h] at t
    obtain ⟨h1, h2⟩ := Prod.mk.inj (Option.some.inj t.1)
    exact ⟨h2, p.toNat, e, by omega, by rw [h1]; exact t.2⟩
  · unfold PyKh407.shape at h
    repeat rw [if_neg (by omega)] at h
    cases h
theorem call_inv {p : Int} {r : List Int} {c : List (List Int)} {t : List Int} (h : PyFlat.call PyKh407.shape (p :: r) = some (c, t)) :
    ∃ m n : Nat, p = (m : Int) ∧ m < 23 ∧ told[m]? = some n ∧ n ≤ r.length ∧ c = [p :: r.take n] ∧ t = r.drop n := by
  cases e : PyKh407.shape p with
  | none => simp only [PyFlat.call, e] at h; cases h
  | some q =>
    obtain ⟨n, k⟩ := q
    simp only [PyFlat.call, e] at h
    obtain ⟨rfl, m, e1, e2, e3⟩ := shape_told e
    simp only [PyFlat.rows] at h
    split at h
    · cases h
    · rename_i hl
      obtain ⟨rfl, rfl⟩ := Prod.mk.inj (Option.some.inj h)
      exact ⟨m, n, e1, e2, e3, by omega, rfl, rfl⟩
theorem calls_cons {f : Nat} {p : Int} {r : List Int} {cs : List (List (List Int))} (h : PyFlat.calls PyKh407.shape f (p :: r) = some cs) :
    ∃ f' c t cs', PyFlat.call PyKh407.shape (p :: r) = some (c, t) ∧ PyFlat.calls PyKh407.shape f' t = some cs' ∧ cs = c :: cs' := by
  cases f with
  | zero => cases h
  | succ f =>
    cases e : PyFlat.call PyKh407.shape (p :: r) with
    | none => simp only [PyFlat.calls, e] at h; cases h
    | some q =>
      obtain ⟨c, t⟩ := q
      simp only [PyFlat.calls, e] at h
      cases e2 : PyFlat.calls PyKh407.shape f t with
      | none => rw [e2] at h; cases h
      | some cs' =>
        rw [e2] at h
        exact ⟨f, c, t, cs', rfl, e2, (Option.some.inj h).symm⟩
theorem calls_nil {f : Nat} {cs : List (List (List Int))} (h : PyFlat.calls PyKh407.shape f [] = some cs) : cs = [] := by
  cases f <;> exact (Option.some.inj h).symm
/-- what is due from a state on -/
def due (s : Kh407Neutral.S) (cs : List (List (List Int))) : List Int := PyFlat.told (PyFlat.played Kh407Neutral.step s cs)
theorem due_nil (s : Kh407Neutral.S) : due s [] = [] := rfl
theorem due_cons (s : Kh407Neutral.S) (c : List (List Int)) (cs : List (List (List Int))) :
    due s (c :: cs) = (((Kh407Neutral.step s c).2.length : Int) :: (Kh407Neutral.step s c).2) ++ due (Kh407Neutral.step s c).1 cs := by
  show PyFlat.told ((Kh407Neutral.step s c).2 :: PyFlat.played Kh407Neutral.step (Kh407Neutral.step s c).1 cs) = _
  unfold PyFlat.told
  rw [List.flatMap_cons]
  rfl
theorem asked_due {l : List Int} (h : PyKh407.answers_asked l = true) : ∃ f cs, PyFlat.calls PyKh407.shape f l = some cs ∧ PyKh407.answers l = due none cs ∧ (PyKh407.answers l).length ≤ 10000000 := by
  unfold PyKh407.answers_asked at h
  cases e : PyFlat.calls PyKh407.shape l.length l with
  | none => rw [e] at h; cases h
  | some cs =>
    rw [e] at h
    simp only [Bool.and_eq_true] at h
    refine ⟨_, cs, e, ?_, ?_⟩
    · unfold PyKh407.answers PyKh407.calls
      rw [e]
      simp only [whole_all]
      rfl
    · exact of_decide_eq_true h.2
theorem drop_cons {l : List Int} {i : Nat} (h : i < l.length) : l.drop i = l.getD i 0 :: l.drop (i + 1) := by
  rw [List.drop_eq_getElem_cons h, List.getD_eq_getElem?_getD, List.getElem?_eq_getElem h]
  rfl
end Fw
/-! piece MathG -/
namespace Fw
open Kh407
/-! the calls of the second half -/
def setsOf (n k : Nat) : List Nat := (List.range (2 ^ n)).filter fun u => pop u == k
def sg (x : Nat) : Int := if pop x % 2 = 0 then 1 else -1
def ssum (n k i : Nat) : Int := ((setsOf n k).map fun p => sg (p &&& (2 ^ i - 1))).sum
def ksum (n : Nat) (t : List Nat) (k : Nat) : Int := ((List.range (n + 1)).map fun i => ((t.getD i 0 : Nat) : Int) * ssum n k i).sum
def tlt (u : Nat) (c : List Nat) : Int := (c.map fun x => sg (x &&& u)).sum
def pats (u : Nat) : List Nat := (List.range (u + 1)).filter fun p => p &&& u == p
def pcs (u : Nat) (c : List Nat) : List Nat := (pats u).map fun p => (c.map fun x => x &&& u).count p
def seen (n : Nat) (c : List Nat) (x : Nat) : List Nat := (List.range (n + 1)).map fun i => (c.map (dst x)).count i
def fars (c : List Nat) : List Nat := c.flatMap fun x => c.map (dst x)
def twoL (n : Nat) (c : List Nat) : List Nat := (List.range (n + 1)).map fun i => (fars c).count i
theorem sign_tab : ∀ n < 7, ∀ k < n + 1, ∀ i < n + 1, Kh407.sign n k i = ssum n k i := by decide +kernel
theorem foldl_add : ∀ (l : List Int) (x : Int), l.foldl (· + ·) x = x + l.sum
  | [], x => by simp
  | a :: l, x => by
    show l.foldl (· + ·) (x + a) = _
    rw [foldl_add l (x + a), List.sum_cons, Int.add_assoc]
theorem foldl_sum (l : List Int) : l.foldl (· + ·) 0 = l.sum := by rw [foldl_add, Int.zero_add]
theorem twos_is {n : Nat} {c : List Nat} (h : Ok n c) (i : Nat) : Kh407.twos ⟨n, c⟩ i = (fars c).count i := by
  unfold fars Kh407.twos
  rw [List.count_flatMap]
  congr 1
  refine List.map_congr_left fun x hx => ?_
  exact off_count h (h.lt x hx)
theorem twoL_is {n : Nat} {c : List Nat} (h : Ok n c) : (List.range (n + 1)).map (Kh407.twos ⟨n, c⟩) = twoL n c := List.map_congr_left fun i _ => twos_is h i
theorem twoL_get {n i : Nat} {c : List Nat} (hi : i < n + 1) : (twoL n c).getD i 0 = (fars c).count i := by
  unfold twoL
  rw [List.getD_eq_getElem?_getD, List.getElem?_map, List.getElem?_range hi]
  rfl
theorem sums_is {n k : Nat} {c : List Nat} (h : Ok n c) (hk : k < n + 1) : Kh407.sums ⟨n, c⟩ k = ksum n (twoL n c) k := by
  unfold Kh407.sums ksum
  rw [foldl_sum]
  congr 1
  refine List.map_congr_left fun i hi => ?_
  have hi := List.mem_range.mp hi
  show Int.ofNat (Kh407.twos ⟨n, c⟩ i) * Kh407.sign n k i = _
  rw [twos_is h, sign_tab n (by have := h.hi; omega) k hk i hi, twoL_get hi]
  rfl
theorem and_lt {x u n : Nat} (h : x < 2 ^ n) : x &&& u < 2 ^ n := Nat.lt_of_le_of_lt Nat.and_le_left h
theorem tilt_is {n u : Nat} {c : List Nat} (h : Ok n c) (hu : u < 2 ^ n) : Kh407.tilt ⟨n, c⟩ u = tlt u c := by
  unfold Kh407.tilt tlt
  rw [foldl_sum]
  congr 1
  refine List.map_congr_left fun x hx => ?_
  have hn : n < 7 := by have := h.hi; omega
  show (if Kh407.weight n (Kh407.meet n x u) % 2 = 0 then (1 : Int) else -1) = _
  rw [meet_tab n hn x (h.lt x hx) u hu, weight_tab n hn _ (and_lt (h.lt x hx))]
  rfl
theorem seen_is {n x : Nat} {c : List Nat} (h : Ok n c) (hx : x < 2 ^ n) : Kh407.seenFrom ⟨n, c⟩ x = seen n c x := List.map_congr_left fun i _ => off_count h hx
theorem pats_mem {u p : Nat} : p ∈ pats u ↔ p &&& u = p := by
  unfold pats
  rw [List.mem_filter, List.mem_range, beq_iff_eq]
  refine ⟨fun k => k.2, fun k => ⟨?_, k⟩⟩
  have : p &&& u ≤ u := Nat.and_le_right
  omega
theorem cnt_map (c : List Nat) (u p : Nat) : (c.map fun x => x &&& u).count p = c.countP fun x => x &&& u == p := by
  rw [List.count_eq_countP, List.countP_map]
  rfl
theorem patterns_is {n u : Nat} {c : List Nat} (h : Ok n c) (hu : u < 2 ^ n) : Kh407.patterns ⟨n, c⟩ u = pcs u c := by
  have hn : n < 7 := by have := h.hi; omega
  unfold Kh407.patterns pcs
  have e : (Kh407.words n).filter (fun p => Kh407.meet n p u == p) = pats u := by
    refine rising_eq ((rising_range _).filter _) ((rising_range _).filter _) fun p => ?_
    rw [List.mem_filter, pats_mem]
    unfold Kh407.words
    rw [List.mem_range, beq_iff_eq]
    constructor
    · rintro ⟨h1, h2⟩
      rw [meet_tab n hn p h1 u hu] at h2
      exact h2
    · intro h2
      have h1 : p < 2 ^ n := by
        have : p &&& u ≤ u := Nat.and_le_right
        omega
      exact ⟨h1, by rw [meet_tab n hn p h1 u hu]; exact h2⟩
  show ((Kh407.words n).filter fun p => Kh407.meet n p u == p).map (fun p => (c.filter fun x => Kh407.meet n x u == p).length) = _
  rw [e]
  refine List.map_congr_left fun p _ => ?_
  rw [cnt_map, List.countP_eq_length_filter]
  congr 1
  refine List.filter_congr fun x hx => ?_
  rw [meet_tab n hn x (h.lt x hx) u hu]
theorem pcs_ne (u : Nat) (c : List Nat) : pcs u c ≠ [] := by
  intro e
  have : (0 : Nat) ∈ pats u := pats_mem.mpr (Nat.zero_and u)
  unfold pcs at e
  rw [List.map_eq_nil_iff] at e
  rw [e] at this
  cases this
/-- all the same just if the least is the greatest -/
theorem all_same {l : List Nat} {m M : Int} (h1 : m ∈ l.map Int.ofNat) (h2 : ∀ y ∈ l.map Int.ofNat, m ≤ y) (h3 : M ∈ l.map Int.ofNat) (h4 : ∀ y ∈ l.map Int.ofNat, y ≤ M) : (l.all fun x => x == l.headD 0) = true ↔ m = M := by
  obtain ⟨a, ha, rfl⟩ := List.mem_map.mp h1
  obtain ⟨b, hb, rfl⟩ := List.mem_map.mp h3
  have k2 : ∀ y ∈ l, a ≤ y := fun y hy => Int.ofNat_le.mp (h2 _ (List.mem_map.mpr ⟨y, hy, rfl⟩))
  have k4 : ∀ y ∈ l, y ≤ b := fun y hy => Int.ofNat_le.mp (h4 _ (List.mem_map.mpr ⟨y, hy, rfl⟩))
  rw [List.all_eq_true]
  constructor
  · intro h
    have e1 := beq_iff_eq.mp (h a ha)
    have e2 := beq_iff_eq.mp (h b hb)
    rw [e1, e2]
  · intro h y hy
    have e : a = b := Int.ofNat_inj.mp h
    have hh : l.headD 0 ∈ l := by
      cases l with
      | nil => cases hy
      | cons z r => exact List.mem_cons_self
    rw [beq_iff_eq]
    have := k2 y hy
    have := k4 y hy
    have := k2 _ hh
    have := k4 _ hh
    omega
theorem even_of {n u : Nat} {c : List Nat} (h : Ok n c) (hu : u < 2 ^ n) {m M : Int} (h1 : m ∈ (pcs u c).map Int.ofNat) (h2 : ∀ y ∈ (pcs u c).map Int.ofNat, m ≤ y) (h3 : M ∈ (pcs u c).map Int.ofNat) (h4 : ∀ y ∈ (pcs u c).map Int.ofNat, y ≤ M) : decide (m = M) = Kh407.even ⟨n, c⟩ u := by
  unfold Kh407.even
  rw [patterns_is h hu]
  have := all_same h1 h2 h3 h4
  by_cases e : m = M
  · rw [decide_eq_true e, this.mpr e]
  · rw [decide_eq_false e]
    exact (Bool.eq_false_iff.mpr fun z => e (this.mp z)).symm
theorem even_iff {n u : Nat} {c : List Nat} (h : Ok n c) (hu : u < 2 ^ n) : Kh407.even ⟨n, c⟩ u = true ↔ ∃ m, ∀ p, p &&& u = p → (c.countP fun x => x &&& u == p) = m := by
  unfold Kh407.even
  rw [patterns_is h hu, List.all_eq_true]
  have mem : ∀ y, y ∈ pcs u c ↔ ∃ p, p &&& u = p ∧ (c.countP fun x => x &&& u == p) = y := fun y => by
    unfold pcs
    rw [List.mem_map]
    constructor
    · rintro ⟨p, h1, h2⟩
      exact ⟨p, pats_mem.mp h1, by rw [← cnt_map]; exact h2⟩
    · rintro ⟨p, h1, h2⟩
      exact ⟨p, pats_mem.mpr h1, by rw [cnt_map]; exact h2⟩
  have hh : (pcs u c).headD 0 ∈ pcs u c := by
    have := pcs_ne u c
    cases e : pcs u c with
    | nil => exact absurd e this
    | cons z r => exact List.mem_cons_self
  constructor
  · intro k
    exact ⟨_, fun p hp => beq_iff_eq.mp (k _ ((mem _).mpr ⟨p, hp, rfl⟩))⟩
  · rintro ⟨m, k⟩ y hy
    obtain ⟨p, hp, e⟩ := (mem y).mp hy
    obtain ⟨q, hq, e2⟩ := (mem _).mp hh
    rw [beq_iff_eq, ← e, ← e2, k p hp, k q hq]
theorem countP_split {α : Type} (p q r : α → Bool) (h : ∀ x, p x = (q x || r x)) (hd : ∀ x, q x = true → r x = false) : ∀ l : List α, l.countP p = l.countP q + l.countP r
  | [] => rfl
  | a :: l => by
    have ih := countP_split p q r h hd l
    rw [List.countP_cons, List.countP_cons, List.countP_cons, ih, h a]
    cases e : q a
    · cases r a <;> simp <;> omega
    · rw [hd a e]
      simp
      omega
theorem bitsOf {x y : Nat} (h : x = y) (i : Nat) : x.testBit i = y.testBit i := by rw [h]
theorem sub_off {p u d : Nat} (h1 : p &&& u = p) (h2 : u &&& d = 0) : p &&& d = 0 := by
  rw [← h1, Nat.and_assoc, h2, Nat.and_zero]
theorem sub_up {p u d : Nat} (h1 : p &&& u = p) (h2 : u &&& d = 0) : p &&& (u ||| d) = p := by
  rw [Nat.and_or_distrib_left, h1, sub_off h1 h2, Nat.or_zero]
theorem sub_up2 {p u d : Nat} (h1 : p &&& u = p) (h2 : u &&& d = 0) : (p ||| d) &&& (u ||| d) = p ||| d := by
  refine Nat.eq_of_testBit_eq fun i => ?_
  have e := bitsOf h1 i
  simp only [Nat.testBit_and, Nat.testBit_or] at e ⊢
  revert e
  cases p.testBit i <;> cases u.testBit i <;> cases d.testBit i <;> decide
theorem and_pow (x b : Nat) : x &&& 2 ^ b = 0 ∨ x &&& 2 ^ b = 2 ^ b := by
  cases e : x.testBit b with
  | false =>
    refine .inl (Nat.eq_of_testBit_eq fun i => ?_)
    rw [Nat.testBit_and, Nat.testBit_two_pow, Nat.zero_testBit]
    by_cases z : b = i
    · rw [← z, e]
      rfl
    · rw [decide_eq_false z, Bool.and_false]
  | true =>
    refine .inr (Nat.eq_of_testBit_eq fun i => ?_)
    rw [Nat.testBit_and, Nat.testBit_two_pow]
    by_cases z : b = i
    · rw [← z, e]
      rfl
    · rw [decide_eq_false z, Bool.and_false]
/-- on one place more: either without it or with it -/
theorem one_more {x u p b : Nat} (h1 : p &&& u = p) (h2 : u &&& 2 ^ b = 0) : x &&& u = p ↔ (x &&& (u ||| 2 ^ b) = p ∨ x &&& (u ||| 2 ^ b) = p ||| 2 ^ b) := by
  constructor
  · intro e
    rw [Nat.and_or_distrib_left, e]
    rcases and_pow x b with z | z
    · exact .inl (by rw [z, Nat.or_zero])
    · exact .inr (by rw [z])
  · have key : (x &&& (u ||| 2 ^ b)) &&& u = x &&& u := by
      rw [Nat.and_assoc, Nat.and_comm (u ||| 2 ^ b) u, Nat.and_or_distrib_left, Nat.and_self, h2, Nat.or_zero]
    rintro (e | e)
    · rw [← key, e, h1]
    · rw [← key, e, Nat.and_comm, Nat.and_or_distrib_left, h2, Nat.or_zero, Nat.and_comm, h1]
theorem even_less {n u b : Nat} {c : List Nat} (h : Ok n c) (hu : u < 2 ^ n) (h2 : u &&& 2 ^ b = 0) (hv : u ||| 2 ^ b < 2 ^ n) (he : Kh407.even ⟨n, c⟩ (u ||| 2 ^ b) = true) : Kh407.even ⟨n, c⟩ u = true := by
  obtain ⟨m, k⟩ := (even_iff h hv).mp he
  refine (even_iff h hu).mpr ⟨m + m, fun p hp => ?_⟩
  have e1 := k p (sub_up hp h2)
  have e2 := k (p ||| 2 ^ b) (sub_up2 hp h2)
  have z : p ≠ p ||| 2 ^ b := fun z => by
    have := sub_off hp h2
    rw [z, Nat.and_comm, Nat.and_or_distrib_left, Nat.and_self] at this
    have t := bitsOf this b
    rw [Nat.testBit_or, Nat.testBit_two_pow_self, Bool.or_true, Nat.zero_testBit] at t
    cases t
  rw [← e1]
  conv => rhs; arg 2; rw [e1, ← e2]
  refine countP_split _ _ _ (fun x => ?_) (fun x hx => ?_) c
  · have := one_more (x := x) hp h2
    rw [Bool.eq_iff_iff, Bool.or_eq_true, beq_iff_eq, beq_iff_eq, beq_iff_eq]
    exact this
  · rw [beq_iff_eq] at hx
    rw [hx, beq_eq_false_iff_ne]
    exact z
theorem up_tab : ∀ n < 7, ∀ u < 2 ^ n, pop u < n → ∃ b, b < n ∧ u &&& 2 ^ b = 0 ∧ u ||| 2 ^ b < 2 ^ n ∧ pop (u ||| 2 ^ b) = pop u + 1 := by
  have h : ∀ n < 7, ∀ u < 2 ^ n, pop u < n → ∃ b : Fin n, u &&& 2 ^ b.val = 0 ∧ u ||| 2 ^ b.val < 2 ^ n ∧ pop (u ||| 2 ^ b.val) = pop u + 1 := by decide +kernel
  intro n hn u hu hp
  obtain ⟨b, k⟩ := h n hn u hu hp
  exact ⟨b.val, b.isLt, k⟩
theorem pop_le : ∀ n < 7, ∀ u < 2 ^ n, pop u ≤ n ∧ (pop u = 0 → u = 0) := by decide +kernel
theorem uneven_up {n : Nat} {c : List Nat} (h : Ok n c) : ∀ (k u : Nat), u < 2 ^ n → Kh407.even ⟨n, c⟩ u = false → pop u + k ≤ n → ∃ v, v < 2 ^ n ∧ pop v = pop u + k ∧ Kh407.even ⟨n, c⟩ v = false
  | 0, u, hu, he, _ => ⟨u, hu, rfl, he⟩
  | k + 1, u, hu, he, hk => by
    obtain ⟨b, _, h2, hv, hp⟩ := up_tab n (by have := h.hi; omega) u hu (by omega)
    have he2 : Kh407.even ⟨n, c⟩ (u ||| 2 ^ b) = false := by
      rw [Bool.eq_false_iff]
      intro z
      rw [even_less h hu h2 hv z] at he
      cases he
    obtain ⟨v, v1, v2, v3⟩ := uneven_up h k _ hv he2 (by omega)
    exact ⟨v, v1, by omega, v3⟩
theorem even_zero {n : Nat} {c : List Nat} (h : Ok n c) : Kh407.even ⟨n, c⟩ 0 = true := by
  refine (even_iff h (Nat.two_pow_pos n)).mpr ⟨c.countP fun x => x &&& 0 == 0, fun p hp => ?_⟩
  rw [Nat.and_zero] at hp
  rw [← hp]
theorem inOrder_is {n : Nat} (hn : n ≤ 6) : Kh407.inOrder n = (List.range (n + 1)).flatMap (setsOf n) := by
  unfold Kh407.inOrder
  have e : ∀ k, ((Kh407.words n).filter fun u => Kh407.weight n u == k) = setsOf n k := fun k => by
    refine List.filter_congr fun u hu => ?_
    rw [weight_tab n (by omega) u (List.mem_range.mp hu)]
  congr 1
  funext k
  exact e k
theorem sets_mem {n k u : Nat} : u ∈ setsOf n k ↔ u < 2 ^ n ∧ pop u = k := by
  unfold setsOf
  rw [List.mem_filter, List.mem_range, beq_iff_eq]
theorem order_mem {n u : Nat} (hn : n ≤ 6) : u ∈ Kh407.inOrder n ↔ u < 2 ^ n := by
  rw [inOrder_is hn, List.mem_flatMap]
  constructor
  · rintro ⟨k, _, hk⟩
    exact (sets_mem.mp hk).1
  · intro hu
    exact ⟨pop u, by rw [List.mem_range]; have := (pop_le n (by omega) u hu).1; omega, sets_mem.mpr ⟨hu, rfl⟩⟩
/-- the first set on which it isn't even -/
def firstU (n : Nat) (c : List Nat) : Option Nat := (Kh407.inOrder n).find? fun u => !Kh407.even ⟨n, c⟩ u
theorem find_first {l A B : List Nat} {u : Nat} {p : Nat → Bool} (e : l = A ++ u :: B) (hA : ∀ x ∈ A, p x = false) (hu : p u = true) : l.find? p = some u := by
  rw [e, List.find?_append]
  have : A.find? p = none := List.find?_eq_none.mpr fun x hx => by rw [hA x hx]; decide
  rw [this, List.find?_cons, hu]
  rfl
theorem range_split {n i : Nat} (h : i < n) : ∃ B, List.range n = List.range i ++ i :: B := by
  refine ⟨(List.range (n - i - 1)).map fun j => i + 1 + j, ?_⟩
  have e : n = i + (1 + (n - i - 1)) := by omega
  conv => lhs; rw [e]
  rw [List.range_add]
  congr 1
  rw [Nat.add_comm 1 (n - i - 1), List.range_succ_eq_map, List.map_cons, List.map_map]
  congr 1
  refine List.map_congr_left fun j _ => ?_
  show i + (j + 1) = i + 1 + j
  omega
theorem firstU_some {n i j u : Nat} {c : List Nat} (hn : n ≤ 6) (hi : i < n + 1) (hj : (setsOf n i)[j]? = some u) (h1 : ∀ k < i, ∀ v ∈ setsOf n k, Kh407.even ⟨n, c⟩ v = true) (h2 : ∀ v ∈ (setsOf n i).take j, Kh407.even ⟨n, c⟩ v = true) (hu : Kh407.even ⟨n, c⟩ u = false) : firstU n c = some u := by
  unfold firstU
  obtain ⟨B, e⟩ := range_split hi
  have hjl := (List.getElem?_eq_some_iff.mp hj)
  obtain ⟨hjl, hje⟩ := hjl
  refine find_first (A := (List.range i).flatMap (setsOf n) ++ (setsOf n i).take j) (B := (setsOf n i).drop (j + 1) ++ B.flatMap (setsOf n)) ?_ ?_ ?_
  · rw [inOrder_is hn, e, List.flatMap_append, List.flatMap_cons, List.append_assoc]
    congr 1
    conv => lhs; rw [← List.take_append_drop j (setsOf n i), List.drop_eq_getElem_cons hjl, hje]
    rw [List.append_assoc]
    rfl
  · intro x hx
    rcases List.mem_append.mp hx with hx | hx
    · obtain ⟨k, hk, hx⟩ := List.mem_flatMap.mp hx
      rw [h1 k (List.mem_range.mp hk) x hx]
      rfl
    · rw [h2 x hx]
      rfl
  · rw [hu]
    rfl
theorem firstU_none {n : Nat} {c : List Nat} (hn : n ≤ 6) (h : ∀ k < n + 1, ∀ v ∈ setsOf n k, Kh407.even ⟨n, c⟩ v = true) : firstU n c = none := by
  unfold firstU
  rw [inOrder_is hn, List.find?_eq_none]
  intro x hx
  obtain ⟨k, hk, hx⟩ := List.mem_flatMap.mp hx
  rw [h k (List.mem_range.mp hk) x hx]
  decide
theorem find_down {p : Nat → Bool} {m : Nat} : ∀ {n : Nat}, m ≤ n → p m = true → (∀ j, m < j → j ≤ n → p j = false) → (List.range (n + 1)).reverse.find? p = some m
  | 0, h1, h2, _ => by
    have : m = 0 := by omega
    subst this
    simp [h2]
  | n + 1, h1, h2, h3 => by
    rw [List.range_succ, List.reverse_append, List.reverse_singleton, List.singleton_append, List.find?_cons]
    by_cases e : m = n + 1
    · subst e
      rw [h2]
    · rw [h3 (n + 1) (by omega) (Nat.le_refl _)]
      exact find_down (by omega) h2 fun j a b => h3 j a (by omega)
theorem strong_iff {n t : Nat} {c : List Nat} (h : Ok n c) : ((Kh407.words n).all fun u => decide (Kh407.weight n u ≠ t) || Kh407.even ⟨n, c⟩ u) = true ↔ ∀ u < 2 ^ n, pop u = t → Kh407.even ⟨n, c⟩ u = true := by
  have hn : n < 7 := by have := h.hi; omega
  rw [List.all_eq_true]
  constructor
  · intro k u hu e
    have := k u (List.mem_range.mpr hu)
    rw [weight_tab n hn u hu, Bool.or_eq_true, decide_eq_true_eq] at this
    rcases this with z | z
    · exact absurd e z
    · exact z
  · intro k u hu
    have hu := List.mem_range.mp hu
    rw [weight_tab n hn u hu, Bool.or_eq_true, decide_eq_true_eq]
    by_cases e : pop u = t
    · exact .inr (k u hu e)
    · exact .inl e
theorem firstU_none_all {n : Nat} {c : List Nat} (h : Ok n c) (e : firstU n c = none) : ∀ u < 2 ^ n, Kh407.even ⟨n, c⟩ u = true := by
  intro u hu
  have := List.find?_eq_none.mp e u ((order_mem h.hi).mpr hu)
  cases z : Kh407.even ⟨n, c⟩ u with
  | true => rfl
  | false => rw [z] at this; exact absurd rfl this
theorem strength_none {n : Nat} {c : List Nat} (h : Ok n c) (e : firstU n c = none) : Kh407.strength ⟨n, c⟩ = n := by
  unfold Kh407.strength
  rw [find_down (n := n) (m := n) (Nat.le_refl _) ((strong_iff h).mpr fun u hu _ => firstU_none_all h e u hu) (fun j a b => by omega)]
  rfl
theorem order_before {n u : Nat} (hn : n ≤ 6) {A B : List Nat} (e : Kh407.inOrder n = A ++ u :: B) : ∀ v < 2 ^ n, pop v < pop u → v ∈ A := by
  intro v hv hp
  have hs : (Kh407.inOrder n).Pairwise fun x y => pop x ≤ pop y := by
    rw [inOrder_is hn, List.pairwise_flatMap]
    refine ⟨fun k _ => ?_, ?_⟩
    · refine List.Pairwise.imp_of_mem (R := fun _ _ => True) (fun {a b} ha hb _ => ?_) (List.pairwise_of_forall fun _ _ => trivial)
      rw [(sets_mem.mp ha).2, (sets_mem.mp hb).2]
      exact Nat.le_refl _
    · refine (rising_range _).imp fun {a b} hab x hx y hy => ?_
      rw [(sets_mem.mp hx).2, (sets_mem.mp hy).2]
      omega
  have hm := (order_mem hn).mpr hv
  rw [e] at hm hs
  rcases List.mem_append.mp hm with z | z
  · exact z
  · have := (List.pairwise_append.mp hs).2.1
    rcases List.mem_cons.mp z with y | y
    · rw [y] at hp
      omega
    · have := (List.pairwise_cons.mp this).1 v y
      omega
theorem firstU_facts {n u : Nat} {c : List Nat} (h : Ok n c) (e : firstU n c = some u) : u < 2 ^ n ∧ Kh407.even ⟨n, c⟩ u = false ∧ ∀ v < 2 ^ n, pop v < pop u → Kh407.even ⟨n, c⟩ v = true := by
  unfold firstU at e
  obtain ⟨h1, A, B, h2, h3⟩ := List.find?_eq_some_iff_append.mp e
  have hu : u < 2 ^ n := (order_mem h.hi).mp (by rw [h2]; simp)
  refine ⟨hu, ?_, fun v hv hp => ?_⟩
  · cases z : Kh407.even ⟨n, c⟩ u with
    | false => rfl
    | true => rw [z] at h1; cases h1
  · have := h3 v (order_before h.hi h2 v hv hp)
    cases z : Kh407.even ⟨n, c⟩ v with
    | true => rfl
    | false => rw [z] at this; cases this
theorem strength_some {n u : Nat} {c : List Nat} (h : Ok n c) (e : firstU n c = some u) : 1 ≤ pop u ∧ Kh407.strength ⟨n, c⟩ = pop u - 1 := by
  obtain ⟨hu, he, hb⟩ := firstU_facts h e
  have hn : n < 7 := by have := h.hi; omega
  have hp := pop_le n hn u hu
  have h1 : 1 ≤ pop u := by
    by_cases z : pop u = 0
    · rw [hp.2 z, even_zero h] at he
      cases he
    · omega
  refine ⟨h1, ?_⟩
  unfold Kh407.strength
  rw [find_down (n := n) (m := pop u - 1) (by omega) ((strong_iff h).mpr fun v hv hpv => hb v hv (by omega)) (fun j a b => ?_)]
  · rfl
  · rw [Bool.eq_false_iff]
    intro z
    obtain ⟨v, v1, v2, v3⟩ := uneven_up h (j - pop u) u hu he (by omega)
    rw [(strong_iff h).mp z v v1 (by omega)] at v3
    cases v3
/-! closed -/
theorem closed_is {n : Nat} {c : List Nat} (h : Ok n c) : Kh407.closedC ⟨n, c⟩ = decide ((Kh407.closing (n + 1) ⟨n, c⟩).c = c) := by
  have hn : n < 7 := by have := h.hi; omega
  have iff : Kh407.closedC ⟨n, c⟩ = true ↔ ∀ x ∈ c, ∀ y ∈ c, x ^^^ y ∈ c := by
    unfold Kh407.closedC
    rw [List.all_eq_true]
    constructor
    · intro k x hx y hy
      have := List.contains_iff_mem.mp (List.all_eq_true.mp (k x hx) y hy)
      rw [← plus_tab n hn x (h.lt x hx) y (h.lt y hy)]
      exact this
    · intro k x hx
      rw [List.all_eq_true]
      intro y hy
      refine List.contains_iff_mem.mpr ?_
      show Kh407.plus n x y ∈ c
      rw [plus_tab n hn x (h.lt x hx) y (h.lt y hy)]
      exact k x hx y hy
  rw [Bool.eq_iff_iff, iff, decide_eq_true_eq]
  constructor
  · intro k
    refine rising_eq (closing_ok h).2.up h.up fun x => ⟨fun hx => closing_in h.hi h.lt (fun _ z => z) k _ x hx, fun hx => closing_keep h.hi h.lt hx _⟩
  · intro e x hx y hy
    have := (closing_mem (k := n) (x := x ^^^ y) h.hi h.lt).mpr (.inr ⟨x, closing_keep h.hi h.lt hx _, y, closing_keep h.hi h.lt hy _, rfl⟩)
    rw [e] at this
    exact this
/-! farthest -/
def mx (l : List Nat) : Nat := l.foldl max 0
theorem foldl_max_ge : ∀ (l : List Nat) (x : Nat), x ≤ l.foldl max x ∧ ∀ y ∈ l, y ≤ l.foldl max x
  | [], x => ⟨Nat.le_refl _, by simp⟩
  | a :: l, x => by
    have h := foldl_max_ge l (max x a)
    refine ⟨Nat.le_trans (Nat.le_max_left _ _) h.1, fun y hy => ?_⟩
    rcases List.mem_cons.mp hy with e | e
    · subst e
      exact Nat.le_trans (Nat.le_max_right _ _) h.1
    · exact h.2 y e
theorem foldl_max_le : ∀ (l : List Nat) (x m : Nat), x ≤ m → (∀ y ∈ l, y ≤ m) → l.foldl max x ≤ m
  | [], x, m, h, _ => h
  | a :: l, x, m, h, hl => foldl_max_le l (max x a) m (Nat.max_le.mpr ⟨h, hl a List.mem_cons_self⟩) fun y hy => hl y (List.mem_cons_of_mem _ hy)
theorem max_is {l : List Nat} {m : Int} (h : m ∈ l.map Int.ofNat) (hl : ∀ y ∈ l.map Int.ofNat, y ≤ m) : m = (mx l : Int) := by
  obtain ⟨k, hk, rfl⟩ := List.mem_map.mp h
  have h1 := (foldl_max_ge l 0).2 k hk
  have h2 := foldl_max_le l 0 k (Nat.zero_le _) fun y hy => Int.ofNat_le.mp (hl _ (List.mem_map.mpr ⟨y, hy, rfl⟩))
  have : k = mx l := Nat.le_antisymm h1 h2
  rw [this]
  rfl
theorem mx_mem {l : List Nat} (h : l ≠ []) : mx l ∈ l := by
  have key : ∀ (l : List Nat) (x : Nat), l.foldl max x = x ∨ l.foldl max x ∈ l := by
    intro l
    induction l with
    | nil => exact fun x => .inl rfl
    | cons a l ih =>
      intro x
      rcases ih (max x a) with h | h
      · show l.foldl max (max x a) = x ∨ l.foldl max (max x a) ∈ a :: l
        rw [h]
        by_cases z : a ≤ x
        · exact .inl (Nat.max_eq_left z)
        · exact .inr (by rw [Nat.max_eq_right (by omega)]; exact List.mem_cons_self)
      · exact .inr (List.mem_cons_of_mem _ h)
  cases l with
  | nil => exact absurd rfl h
  | cons a l =>
    rcases key (a :: l) 0 with e | e
    · have := (foldl_max_ge (a :: l) 0).2 a List.mem_cons_self
      rw [e] at this
      have z : a = 0 := by omega
      show (a :: l).foldl max 0 ∈ a :: l
      rw [e, z]
      exact List.mem_cons_self
    · exact e
def offL (n : Nat) (c : List Nat) : List Nat := (List.range (2 ^ n)).map fun x => mn (c.map (dst x))
theorem does_far_none {a : Abs} (h : a.c = []) : does a .farthest = (a, say (-6)) := by simp only [does, h, if_true]
theorem far_is {n : Nat} {c : List Nat} (h : Ok n c) (hc : c ≠ []) : ∃ j, does ⟨n, c⟩ .farthest = (⟨n, c⟩, nats (mx (offL n c)) [j, (offL n c).count (mx (offL n c))]) ∧ (offL n c)[j]? = some (mx (offL n c)) ∧ ∀ m < j, (offL n c)[m]? ≠ some (mx (offL n c)) := by
  have e1 : ((Kh407.words n).map fun x => (Kh407.off ⟨n, c⟩ x).getD 0) = offL n c := by
    refine List.map_congr_left fun x hx => ?_
    rw [off_is h (List.mem_range.mp hx) hc]
    rfl
  generalize hd : mx (offL n c) = d
  have e2 : ((Kh407.words n).filter fun x => Kh407.off ⟨n, c⟩ x == some d) = (List.range (2 ^ n)).filter fun x => mn (c.map (dst x)) == d := by
    refine List.filter_congr fun x hx => ?_
    rw [off_is h (List.mem_range.mp hx) hc]
    simp
  have hne : offL n c ≠ [] := fun z => by
    have := congrArg List.length z
    unfold offL at this
    rw [List.length_map, List.length_range, List.length_nil] at this
    have := Nat.two_pow_pos n
    omega
  have hm : d ∈ offL n c := hd ▸ mx_mem hne
  obtain ⟨y, hy, hyd⟩ := List.mem_map.mp hm
  have hD : does ⟨n, c⟩ .farthest = (⟨n, c⟩, match (Kh407.words n).filter fun x => Kh407.off ⟨n, c⟩ x == some d with
    | [] => say (-33)
    | x :: r => nats d [x, r.length + 1]) := by
    simp only [does, if_neg hc]
    rw [e1]
    have : (offL n c).foldl max 0 = d := hd
    rw [this]
    rfl
  rw [e2] at hD
  cases hf : (List.range (2 ^ n)).filter fun x => mn (c.map (dst x)) == d with
  | nil =>
    have : y ∈ (List.range (2 ^ n)).filter fun x => mn (c.map (dst x)) == d := List.mem_filter.mpr ⟨hy, by rw [hyd]; exact beq_self_eq_true d⟩
    rw [hf] at this
    cases this
  | cons j r =>
    rw [hf] at hD
    have hh : (List.range (2 ^ n)).find? (fun x => mn (c.map (dst x)) == d) = some j := by
      rw [← List.head?_filter, hf]
      rfl
    rw [List.find?_range_eq_some] at hh
    obtain ⟨k1, k2, k3⟩ := hh
    have k2 := List.mem_range.mp k2
    have get : ∀ m, m < 2 ^ n → (offL n c)[m]? = some (mn (c.map (dst m))) := fun m hm => by
      unfold offL
      rw [List.getElem?_map, List.getElem?_range hm]
      rfl
    refine ⟨j, ?_, ?_, ?_⟩
    · rw [hD]
      have : (offL n c).count d = r.length + 1 := by
        unfold offL
        rw [List.count_eq_countP, List.countP_map, List.countP_eq_length_filter]
        have : ((fun x => x == d) ∘ fun x => mn (c.map (dst x))) = fun x => mn (c.map (dst x)) == d := rfl
        rw [this, hf]
        rfl
      rw [this]
    · rw [get j k2, beq_iff_eq.mp k1]
    · intro m hm z
      rw [get m (by omega)] at z
      have := k3 m hm
      rw [Option.some.inj z] at this
      simp at this
/-! what the calls do -/
theorem does_sign_bad {a : Abs} {k i : Nat} (h : a.n < k ∨ a.n < i) : does a (.sign k i) = (a, say (-22)) := by simp only [does, h, if_true]
theorem does_sign {a : Abs} {k i : Nat} (h : ¬ (a.n < k ∨ a.n < i)) : does a (.sign k i) = (a, ⟨0, [Kh407.sign a.n k i]⟩) := by simp only [does, h, if_false]
theorem does_tilt_bad {a : Abs} {x : Nat} (h : isW a x = false) : does a (.tilt x) = (a, say (-22)) := by simp only [does, h, if_true]
theorem does_tilt {a : Abs} {x : Nat} (h : isW a x = true) : does a (.tilt x) = (a, ⟨0, [Kh407.tilt a x]⟩) := by simp only [does, h, reduceIte, Bool.true_eq_false]
theorem does_patterns_bad {a : Abs} {x : Nat} (h : isW a x = false) : does a (.patterns x) = (a, say (-22)) := by simp only [does, h, if_true]
theorem does_patterns {a : Abs} {x : Nat} (h : isW a x = true) : does a (.patterns x) = (a, nats (Kh407.patterns a x).length (Kh407.patterns a x)) := by simp only [does, h, reduceIte, Bool.true_eq_false]
theorem does_even_bad {a : Abs} {x : Nat} (h : isW a x = false) : does a (.even x) = (a, say (-22)) := by simp only [does, h, if_true]
theorem does_even {a : Abs} {x : Nat} (h : isW a x = true) : does a (.even x) = (a, say (if Kh407.even a x then 1 else 0)) := by simp only [does, h, reduceIte, Bool.true_eq_false]
theorem does_uneven_none {n : Nat} {c : List Nat} (h : firstU n c = none) : does ⟨n, c⟩ .uneven = (⟨n, c⟩, say (-33)) := by
  unfold firstU at h
  simp only [does, h]
theorem does_uneven {n u : Nat} {c : List Nat} (h : firstU n c = some u) : does ⟨n, c⟩ .uneven = (⟨n, c⟩, nats (Kh407.weight n u) [u]) := by
  unfold firstU at h
  simp only [does, h]
theorem does_alike_bad {a : Abs} {x : Nat} (h : isW a x = false) : does a (.alike x) = (a, say (-22)) := by simp only [does, h, if_true]
theorem does_alike_not {a : Abs} {x : Nat} (h : isW a x = true) (h2 : a.c.contains x = false) : does a (.alike x) = (a, say (-2)) := by simp only [does, h, h2, reduceIte, Bool.true_eq_false]
theorem does_alike {n x : Nat} {c : List Nat} (ok : Ok n c) (h : isW ⟨n, c⟩ x = true) (h2 : c.contains x = true) : does ⟨n, c⟩ (.alike x) = (⟨n, c⟩, nats (c.filter fun y => seen n c y == seen n c x).length (seen n c x)) := by
  simp only [does, h, h2, reduceIte, Bool.true_eq_false]
  rw [seen_is ok (isW_lt.mp h)]
  have : (c.filter fun y => Kh407.seenFrom ⟨n, c⟩ y == seen n c x) = c.filter fun y => seen n c y == seen n c x := List.filter_congr fun y hy => by rw [seen_is ok (ok.lt y hy)]
  rw [this]
end Fw
/-! piece Ties -/
namespace Fw
open PySem PySem.Spec PyProof.Rows L2
/-! ### the text by places -/
def top (i : Nat) : Stmt := PySem.Challenge.pw_farwords_s01_answers.main.body.getD i (.Pass ⟨0, 0, 0, 0⟩)
abbrev s_f_weight : Stmt := top 1
abbrev s_f_distance : Stmt := top 2
abbrev s_f_missing : Stmt := top 3
abbrev s_f_exchanged : Stmt := top 4
abbrev s_f_closed_up : Stmt := top 5
abbrev s_f_distances : Stmt := top 6
abbrev s_f_least_distance : Stmt := top 7
abbrev s_f_counts_from : Stmt := top 8
abbrev s_f_counts_of_twos : Stmt := top 9
abbrev s_f_sets_of : Stmt := top 11
abbrev s_f_sign_of : Stmt := top 12
abbrev s_f_sign_sum : Stmt := top 13
abbrev s_f_kth_sum : Stmt := top 14
abbrev s_f_tilt_of : Stmt := top 15
abbrev s_f_patterns_on : Stmt := top 16
abbrev s_f_pattern_counts : Stmt := top 17
abbrev s_f_is_even : Stmt := top 18
abbrev s_f_first_uneven : Stmt := top 19
abbrev s_m_init : Stmt := inClass (top 28) 0
abbrev s_m_is_begun : Stmt := inClass (top 28) 1
abbrev s_m_fits : Stmt := inClass (top 28) 2
abbrev s_m_begin : Stmt := inClass (top 28) 3
abbrev s_m_put : Stmt := inClass (top 28) 4
abbrev s_m_take : Stmt := inClass (top 28) 5
abbrev s_m_rest : Stmt := inClass (top 28) 6
abbrev s_m_move : Stmt := inClass (top 28) 7
abbrev s_m_swap : Stmt := inClass (top 28) 8
abbrev s_m_close : Stmt := inClass (top 28) 9
abbrev s_m_many : Stmt := inClass (top 28) 10
abbrev s_m_words : Stmt := inClass (top 28) 11
abbrev s_m_dist : Stmt := inClass (top 28) 12
abbrev s_m_off : Stmt := inClass (top 28) 13
abbrev s_m_least : Stmt := inClass (top 28) 14
abbrev s_m_farthest : Stmt := inClass (top 28) 15
abbrev s_m_alike : Stmt := inClass (top 28) 16
abbrev s_m_closed : Stmt := inClass (top 28) 17
abbrev s_m_twos : Stmt := inClass (top 28) 18
abbrev s_m_sums : Stmt := inClass (top 28) 19
abbrev s_m_sign : Stmt := inClass (top 28) 20
abbrev s_m_tilt : Stmt := inClass (top 28) 21
abbrev s_m_patterns : Stmt := inClass (top 28) 22
abbrev s_m_even : Stmt := inClass (top 28) 23
abbrev s_m_strength : Stmt := inClass (top 28) 24
abbrev s_m_uneven : Stmt := inClass (top 28) 25
abbrev s_f_answers : Stmt := top 54
abbrev s_f_answer : Stmt := top 55
abbrev s_f_change : Stmt := top 56
abbrev s_f_look : Stmt := top 57
abbrev s_f_reckon : Stmt := top 58
abbrev N_f_weight : List Str := ["word", "ones", "left"]
theorem sc_f_weight : FnScope N_f_weight ["word"] (defScope s_f_weight) := ⟨rfl, rfl, rfl, by decide +kernel, rfl, by decide +kernel, by decide +kernel⟩
abbrev N_f_distance : List Str := ["x", "y"]
theorem sc_f_distance : FnScope N_f_distance ["x", "y"] (defScope s_f_distance) := ⟨rfl, rfl, rfl, by decide +kernel, rfl, by decide +kernel, by decide +kernel⟩
abbrev N_f_missing : List Str := ["bits", "there", "word"]
theorem sc_f_missing : FnScope N_f_missing ["bits", "there"] (defScope s_f_missing) := ⟨rfl, rfl, rfl, by decide +kernel, rfl, by decide +kernel, by decide +kernel⟩
abbrev N_f_exchanged : List Str := ["word", "i", "j"]
theorem sc_f_exchanged : FnScope N_f_exchanged ["word", "i", "j"] (defScope s_f_exchanged) := ⟨rfl, rfl, rfl, by decide +kernel, rfl, by decide +kernel, by decide +kernel⟩
abbrev N_f_closed_up : List Str := ["there", "span", "word", "other"]
theorem sc_f_closed_up : FnScope N_f_closed_up ["there"] (defScope s_f_closed_up) := ⟨rfl, rfl, rfl, by decide +kernel, rfl, by decide +kernel, by decide +kernel⟩
abbrev N_f_distances : List Str := ["x", "there", "word"]
theorem sc_f_distances : FnScope N_f_distances ["x", "there"] (defScope s_f_distances) := ⟨rfl, rfl, rfl, by decide +kernel, rfl, by decide +kernel, by decide +kernel⟩
abbrev N_f_least_distance : List Str := ["there", "nearest", "place"]
theorem sc_f_least_distance : FnScope N_f_least_distance ["there"] (defScope s_f_least_distance) := ⟨rfl, rfl, rfl, by decide +kernel, rfl, by decide +kernel, by decide +kernel⟩
abbrev N_f_counts_from : List Str := ["bits", "x", "there", "far", "i"]
theorem sc_f_counts_from : FnScope N_f_counts_from ["bits", "x", "there"] (defScope s_f_counts_from) := ⟨rfl, rfl, rfl, by decide +kernel, rfl, by decide +kernel, by decide +kernel⟩
abbrev N_f_counts_of_twos : List Str := ["bits", "there", "far", "x", "i"]
theorem sc_f_counts_of_twos : FnScope N_f_counts_of_twos ["bits", "there"] (defScope s_f_counts_of_twos) := ⟨rfl, rfl, rfl, by decide +kernel, rfl, by decide +kernel, by decide +kernel⟩
abbrev N_f_sets_of : List Str := ["bits", "count", "places"]
theorem sc_f_sets_of : FnScope N_f_sets_of ["bits", "count"] (defScope s_f_sets_of) := ⟨rfl, rfl, rfl, by decide +kernel, rfl, by decide +kernel, by decide +kernel⟩
abbrev N_f_sign_of : List Str := ["places"]
theorem sc_f_sign_of : FnScope N_f_sign_of ["places"] (defScope s_f_sign_of) := ⟨rfl, rfl, rfl, by decide +kernel, rfl, by decide +kernel, by decide +kernel⟩
abbrev N_f_sign_sum : List Str := ["bits", "k", "i", "told", "places"]
theorem sc_f_sign_sum : FnScope N_f_sign_sum ["bits", "k", "i"] (defScope s_f_sign_sum) := ⟨rfl, rfl, rfl, by decide +kernel, rfl, by decide +kernel, by decide +kernel⟩
abbrev N_f_kth_sum : List Str := ["bits", "twos", "k", "i"]
theorem sc_f_kth_sum : FnScope N_f_kth_sum ["bits", "twos", "k"] (defScope s_f_kth_sum) := ⟨rfl, rfl, rfl, by decide +kernel, rfl, by decide +kernel, by decide +kernel⟩
abbrev N_f_tilt_of : List Str := ["u", "there", "word"]
theorem sc_f_tilt_of : FnScope N_f_tilt_of ["u", "there"] (defScope s_f_tilt_of) := ⟨rfl, rfl, rfl, by decide +kernel, rfl, by decide +kernel, by decide +kernel⟩
abbrev N_f_patterns_on : List Str := ["u", "places"]
theorem sc_f_patterns_on : FnScope N_f_patterns_on ["u"] (defScope s_f_patterns_on) := ⟨rfl, rfl, rfl, by decide +kernel, rfl, by decide +kernel, by decide +kernel⟩
abbrev N_f_pattern_counts : List Str := ["u", "there", "had", "word", "pattern"]
theorem sc_f_pattern_counts : FnScope N_f_pattern_counts ["u", "there"] (defScope s_f_pattern_counts) := ⟨rfl, rfl, rfl, by decide +kernel, rfl, by decide +kernel, by decide +kernel⟩
abbrev N_f_is_even : List Str := ["u", "there", "counts"]
theorem sc_f_is_even : FnScope N_f_is_even ["u", "there"] (defScope s_f_is_even) := ⟨rfl, rfl, rfl, by decide +kernel, rfl, by decide +kernel, by decide +kernel⟩
abbrev N_f_first_uneven : List Str := ["bits", "there", "count", "u"]
theorem sc_f_first_uneven : FnScope N_f_first_uneven ["bits", "there"] (defScope s_f_first_uneven) := ⟨rfl, rfl, rfl, by decide +kernel, rfl, by decide +kernel, by decide +kernel⟩
abbrev N_m_init : List Str := ["self"]
theorem sc_m_init : FnScope N_m_init ["self"] (defScope s_m_init) := ⟨rfl, rfl, rfl, by decide +kernel, rfl, by decide +kernel, by decide +kernel⟩
abbrev N_m_is_begun : List Str := ["self"]
theorem sc_m_is_begun : FnScope N_m_is_begun ["self"] (defScope s_m_is_begun) := ⟨rfl, rfl, rfl, by decide +kernel, rfl, by decide +kernel, by decide +kernel⟩
abbrev N_m_fits : List Str := ["self", "word"]
theorem sc_m_fits : FnScope N_m_fits ["self", "word"] (defScope s_m_fits) := ⟨rfl, rfl, rfl, by decide +kernel, rfl, by decide +kernel, by decide +kernel⟩
abbrev N_m_begin : List Str := ["self", "bits"]
theorem sc_m_begin : FnScope N_m_begin ["self", "bits"] (defScope s_m_begin) := ⟨rfl, rfl, rfl, by decide +kernel, rfl, by decide +kernel, by decide +kernel⟩
abbrev N_m_put : List Str := ["self", "x"]
theorem sc_m_put : FnScope N_m_put ["self", "x"] (defScope s_m_put) := ⟨rfl, rfl, rfl, by decide +kernel, rfl, by decide +kernel, by decide +kernel⟩
abbrev N_m_take : List Str := ["self", "x", "word"]
theorem sc_m_take : FnScope N_m_take ["self", "x"] (defScope s_m_take) := ⟨rfl, rfl, rfl, by decide +kernel, rfl, by decide +kernel, by decide +kernel⟩
abbrev N_m_rest : List Str := ["self"]
theorem sc_m_rest : FnScope N_m_rest ["self"] (defScope s_m_rest) := ⟨rfl, rfl, rfl, by decide +kernel, rfl, by decide +kernel, by decide +kernel⟩
abbrev N_m_move : List Str := ["self", "y", "word"]
theorem sc_m_move : FnScope N_m_move ["self", "y"] (defScope s_m_move) := ⟨rfl, rfl, rfl, by decide +kernel, rfl, by decide +kernel, by decide +kernel⟩
abbrev N_m_swap : List Str := ["self", "i", "j", "word"]
theorem sc_m_swap : FnScope N_m_swap ["self", "i", "j"] (defScope s_m_swap) := ⟨rfl, rfl, rfl, by decide +kernel, rfl, by decide +kernel, by decide +kernel⟩
abbrev N_m_close : List Str := ["self"]
theorem sc_m_close : FnScope N_m_close ["self"] (defScope s_m_close) := ⟨rfl, rfl, rfl, by decide +kernel, rfl, by decide +kernel, by decide +kernel⟩
abbrev N_m_many : List Str := ["self"]
theorem sc_m_many : FnScope N_m_many ["self"] (defScope s_m_many) := ⟨rfl, rfl, rfl, by decide +kernel, rfl, by decide +kernel, by decide +kernel⟩
abbrev N_m_words : List Str := ["self"]
theorem sc_m_words : FnScope N_m_words ["self"] (defScope s_m_words) := ⟨rfl, rfl, rfl, by decide +kernel, rfl, by decide +kernel, by decide +kernel⟩
abbrev N_m_dist : List Str := ["self", "x", "y"]
theorem sc_m_dist : FnScope N_m_dist ["self", "x", "y"] (defScope s_m_dist) := ⟨rfl, rfl, rfl, by decide +kernel, rfl, by decide +kernel, by decide +kernel⟩
abbrev N_m_off : List Str := ["self", "x", "far", "nearest"]
theorem sc_m_off : FnScope N_m_off ["self", "x"] (defScope s_m_off) := ⟨rfl, rfl, rfl, by decide +kernel, rfl, by decide +kernel, by decide +kernel⟩
abbrev N_m_least : List Str := ["self"]
theorem sc_m_least : FnScope N_m_least ["self"] (defScope s_m_least) := ⟨rfl, rfl, rfl, by decide +kernel, rfl, by decide +kernel, by decide +kernel⟩
abbrev N_m_farthest : List Str := ["self", "offs", "most", "x"]
theorem sc_m_farthest : FnScope N_m_farthest ["self"] (defScope s_m_farthest) := ⟨rfl, rfl, rfl, by decide +kernel, rfl, by decide +kernel, by decide +kernel⟩
abbrev N_m_alike : List Str := ["self", "x", "counts", "same", "word"]
theorem sc_m_alike : FnScope N_m_alike ["self", "x"] (defScope s_m_alike) := ⟨rfl, rfl, rfl, by decide +kernel, rfl, by decide +kernel, by decide +kernel⟩
abbrev N_m_closed : List Str := ["self"]
theorem sc_m_closed : FnScope N_m_closed ["self"] (defScope s_m_closed) := ⟨rfl, rfl, rfl, by decide +kernel, rfl, by decide +kernel, by decide +kernel⟩
abbrev N_m_twos : List Str := ["self"]
theorem sc_m_twos : FnScope N_m_twos ["self"] (defScope s_m_twos) := ⟨rfl, rfl, rfl, by decide +kernel, rfl, by decide +kernel, by decide +kernel⟩
abbrev N_m_sums : List Str := ["self", "counts", "k"]
theorem sc_m_sums : FnScope N_m_sums ["self"] (defScope s_m_sums) := ⟨rfl, rfl, rfl, by decide +kernel, rfl, by decide +kernel, by decide +kernel⟩
abbrev N_m_sign : List Str := ["self", "k", "i"]
theorem sc_m_sign : FnScope N_m_sign ["self", "k", "i"] (defScope s_m_sign) := ⟨rfl, rfl, rfl, by decide +kernel, rfl, by decide +kernel, by decide +kernel⟩
abbrev N_m_tilt : List Str := ["self", "u"]
theorem sc_m_tilt : FnScope N_m_tilt ["self", "u"] (defScope s_m_tilt) := ⟨rfl, rfl, rfl, by decide +kernel, rfl, by decide +kernel, by decide +kernel⟩
abbrev N_m_patterns : List Str := ["self", "u", "counts"]
theorem sc_m_patterns : FnScope N_m_patterns ["self", "u"] (defScope s_m_patterns) := ⟨rfl, rfl, rfl, by decide +kernel, rfl, by decide +kernel, by decide +kernel⟩
abbrev N_m_even : List Str := ["self", "u"]
theorem sc_m_even : FnScope N_m_even ["self", "u"] (defScope s_m_even) := ⟨rfl, rfl, rfl, by decide +kernel, rfl, by decide +kernel, by decide +kernel⟩
abbrev N_m_strength : List Str := ["self", "u"]
theorem sc_m_strength : FnScope N_m_strength ["self"] (defScope s_m_strength) := ⟨rfl, rfl, rfl, by decide +kernel, rfl, by decide +kernel, by decide +kernel⟩
abbrev N_m_uneven : List Str := ["self", "u"]
theorem sc_m_uneven : FnScope N_m_uneven ["self"] (defScope s_m_uneven) := ⟨rfl, rfl, rfl, by decide +kernel, rfl, by decide +kernel, by decide +kernel⟩
abbrev N_f_answers : List Str := ["calls", "held", "given", "at", "number", "end", "answered"]
theorem sc_f_answers : FnScope N_f_answers ["calls"] (defScope s_f_answers) := ⟨rfl, rfl, rfl, by decide +kernel, rfl, by decide +kernel, by decide +kernel⟩
abbrev N_f_answer : List Str := ["held", "number", "told"]
theorem sc_f_answer : FnScope N_f_answer ["held", "number", "told"] (defScope s_f_answer) := ⟨rfl, rfl, rfl, by decide +kernel, rfl, by decide +kernel, by decide +kernel⟩
abbrev N_f_change : List Str := ["held", "number", "told"]
theorem sc_f_change : FnScope N_f_change ["held", "number", "told"] (defScope s_f_change) := ⟨rfl, rfl, rfl, by decide +kernel, rfl, by decide +kernel, by decide +kernel⟩
abbrev N_f_look : List Str := ["held", "number", "told"]
theorem sc_f_look : FnScope N_f_look ["held", "number", "told"] (defScope s_f_look) := ⟨rfl, rfl, rfl, by decide +kernel, rfl, by decide +kernel, by decide +kernel⟩
abbrev N_f_reckon : List Str := ["held", "number", "told"]
theorem sc_f_reckon : FnScope N_f_reckon ["held", "number", "told"] (defScope s_f_reckon) := ⟨rfl, rfl, rfl, by decide +kernel, rfl, by decide +kernel, by decide +kernel⟩
/-! ### what the top leaves -/
def v_TOLD : List V := [.int 1, .int 1, .int 1, .int 0, .int 1, .int 2, .int 0, .int 0, .int 0, .int 2, .int 1, .int 0, .int 0, .int 0, .int 2, .int 1, .int 1, .int 1, .int 0, .int 0, .int 0, .int 0, .int 1]
structure Adr where
  C_WordSet : Addr
  a_f_weight : Addr
  d_f_weight : FuncData
  a_f_distance : Addr
  d_f_distance : FuncData
  a_f_missing : Addr
  d_f_missing : FuncData
  a_f_exchanged : Addr
  d_f_exchanged : FuncData
  a_f_closed_up : Addr
  d_f_closed_up : FuncData
  a_f_distances : Addr
  d_f_distances : FuncData
  a_f_least_distance : Addr
  d_f_least_distance : FuncData
  a_f_counts_from : Addr
  d_f_counts_from : FuncData
  a_f_counts_of_twos : Addr
  d_f_counts_of_twos : FuncData
  a_f_sets_of : Addr
  d_f_sets_of : FuncData
  a_f_sign_of : Addr
  d_f_sign_of : FuncData
  a_f_sign_sum : Addr
  d_f_sign_sum : FuncData
  a_f_kth_sum : Addr
  d_f_kth_sum : FuncData
  a_f_tilt_of : Addr
  d_f_tilt_of : FuncData
  a_f_patterns_on : Addr
  d_f_patterns_on : FuncData
  a_f_pattern_counts : Addr
  d_f_pattern_counts : FuncData
  a_f_is_even : Addr
  d_f_is_even : FuncData
  a_f_first_uneven : Addr
  d_f_first_uneven : FuncData
  a_m_init : Addr
  d_m_init : FuncData
  a_m_is_begun : Addr
  d_m_is_begun : FuncData
  a_m_fits : Addr
  d_m_fits : FuncData
  a_m_begin : Addr
  d_m_begin : FuncData
  a_m_put : Addr
  d_m_put : FuncData
  a_m_take : Addr
  d_m_take : FuncData
  a_m_rest : Addr
  d_m_rest : FuncData
  a_m_move : Addr
  d_m_move : FuncData
  a_m_swap : Addr
  d_m_swap : FuncData
  a_m_close : Addr
  d_m_close : FuncData
  a_m_many : Addr
  d_m_many : FuncData
  a_m_words : Addr
  d_m_words : FuncData
  a_m_dist : Addr
  d_m_dist : FuncData
  a_m_off : Addr
  d_m_off : FuncData
  a_m_least : Addr
  d_m_least : FuncData
  a_m_farthest : Addr
  d_m_farthest : FuncData
  a_m_alike : Addr
  d_m_alike : FuncData
  a_m_closed : Addr
  d_m_closed : FuncData
  a_m_twos : Addr
  d_m_twos : FuncData
  a_m_sums : Addr
  d_m_sums : FuncData
  a_m_sign : Addr
  d_m_sign : FuncData
  a_m_tilt : Addr
  d_m_tilt : FuncData
  a_m_patterns : Addr
  d_m_patterns : FuncData
  a_m_even : Addr
  d_m_even : FuncData
  a_m_strength : Addr
  d_m_strength : FuncData
  a_m_uneven : Addr
  d_m_uneven : FuncData
  a_f_answers : Addr
  d_f_answers : FuncData
  a_f_answer : Addr
  d_f_answer : FuncData
  a_f_change : Addr
  d_f_change : FuncData
  a_f_look : Addr
  d_f_look : FuncData
  a_f_reckon : Addr
  d_f_reckon : FuncData
  t_TOLD : Addr
structure Txt (K : PySem.W.Frag) (mg : Str → Option Value) (A : Adr) : Prop where
  n_len : mg "len" = none
  n_max : mg "max" = none
  n_min : mg "min" = none
  n_range : mg "range" = none
  n_sorted : mg "sorted" = none
  n_sum : mg "sum" = none
  c_MOST_BITS : ∃ t, mg "MOST_BITS" = some (.int (6) t)
  c_NOT_THERE : ∃ t, mg "NOT_THERE" = some (.int (-2) t)
  c_NO_WORDS : ∃ t, mg "NO_WORDS" = some (.int (-6) t)
  c_ALREADY_THERE : ∃ t, mg "ALREADY_THERE" = some (.int (-17) t)
  c_DOES_NOT_FIT : ∃ t, mg "DOES_NOT_FIT" = some (.int (-22) t)
  c_NOT_TWO_WORDS : ∃ t, mg "NOT_TWO_WORDS" = some (.int (-33) t)
  c_EVEN_EVERYWHERE : ∃ t, mg "EVEN_EVERYWHERE" = some (.int (-33) t)
  c_BEGIN : ∃ t, mg "BEGIN" = some (.int (0) t)
  c_PUT : ∃ t, mg "PUT" = some (.int (1) t)
  c_TAKE : ∃ t, mg "TAKE" = some (.int (2) t)
  c_REST : ∃ t, mg "REST" = some (.int (3) t)
  c_MOVE : ∃ t, mg "MOVE" = some (.int (4) t)
  c_SWAP : ∃ t, mg "SWAP" = some (.int (5) t)
  c_CLOSE : ∃ t, mg "CLOSE" = some (.int (6) t)
  c_MANY : ∃ t, mg "MANY" = some (.int (7) t)
  c_WORDS : ∃ t, mg "WORDS" = some (.int (8) t)
  c_DIST : ∃ t, mg "DIST" = some (.int (9) t)
  c_OFF : ∃ t, mg "OFF" = some (.int (10) t)
  c_LEAST : ∃ t, mg "LEAST" = some (.int (11) t)
  c_TWOS : ∃ t, mg "TWOS" = some (.int (12) t)
  c_SUMS : ∃ t, mg "SUMS" = some (.int (13) t)
  c_SIGN : ∃ t, mg "SIGN" = some (.int (14) t)
  c_TILT : ∃ t, mg "TILT" = some (.int (15) t)
  c_PATTERNS : ∃ t, mg "PATTERNS" = some (.int (16) t)
  c_EVEN : ∃ t, mg "EVEN" = some (.int (17) t)
  c_STRENGTH : ∃ t, mg "STRENGTH" = some (.int (18) t)
  c_UNEVEN : ∃ t, mg "UNEVEN" = some (.int (19) t)
  c_CLOSED : ∃ t, mg "CLOSED" = some (.int (20) t)
  c_FARTHEST : ∃ t, mg "FARTHEST" = some (.int (21) t)
  c_TOLD : mg "TOLD" = some (.ref A.t_TOLD)
  u_TOLD : ∀ H : Hp, SqT K H A.t_TOLD v_TOLD
  c_NOT_BEGUN : ∃ t, mg "NOT_BEGUN" = some (.int (-61) t)
  cl_WordSet : Cls K A.C_WordSet
  g_WordSet : mg "WordSet" = some (.ref A.C_WordSet)
  mk_WordSet : Mk K A.C_WordSet A.a_m_init
  nf_bits : NoAttr K A.C_WordSet "bits"
  nf_there : NoAttr K A.C_WordSet "there"
  f_weight : Fun K "weight" "weight" s_f_weight A.a_f_weight A.d_f_weight
  b_f_weight : Binds K A.d_f_weight ["word"] []
  g_f_weight : mg "weight" = some (.ref A.a_f_weight)
  f_distance : Fun K "distance" "distance" s_f_distance A.a_f_distance A.d_f_distance
  b_f_distance : Binds K A.d_f_distance ["x", "y"] []
  g_f_distance : mg "distance" = some (.ref A.a_f_distance)
  f_missing : Fun K "missing" "missing" s_f_missing A.a_f_missing A.d_f_missing
  b_f_missing : Binds K A.d_f_missing ["bits", "there"] []
  g_f_missing : mg "missing" = some (.ref A.a_f_missing)
  f_exchanged : Fun K "exchanged" "exchanged" s_f_exchanged A.a_f_exchanged A.d_f_exchanged
  b_f_exchanged : Binds K A.d_f_exchanged ["word", "i", "j"] []
  g_f_exchanged : mg "exchanged" = some (.ref A.a_f_exchanged)
  f_closed_up : Fun K "closed_up" "closed_up" s_f_closed_up A.a_f_closed_up A.d_f_closed_up
  b_f_closed_up : Binds K A.d_f_closed_up ["there"] []
  g_f_closed_up : mg "closed_up" = some (.ref A.a_f_closed_up)
  f_distances : Fun K "distances" "distances" s_f_distances A.a_f_distances A.d_f_distances
  b_f_distances : Binds K A.d_f_distances ["x", "there"] []
  g_f_distances : mg "distances" = some (.ref A.a_f_distances)
  f_least_distance : Fun K "least_distance" "least_distance" s_f_least_distance A.a_f_least_distance A.d_f_least_distance
  b_f_least_distance : Binds K A.d_f_least_distance ["there"] []
  g_f_least_distance : mg "least_distance" = some (.ref A.a_f_least_distance)
  f_counts_from : Fun K "counts_from" "counts_from" s_f_counts_from A.a_f_counts_from A.d_f_counts_from
  b_f_counts_from : Binds K A.d_f_counts_from ["bits", "x", "there"] []
  g_f_counts_from : mg "counts_from" = some (.ref A.a_f_counts_from)
  f_counts_of_twos : Fun K "counts_of_twos" "counts_of_twos" s_f_counts_of_twos A.a_f_counts_of_twos A.d_f_counts_of_twos
  b_f_counts_of_twos : Binds K A.d_f_counts_of_twos ["bits", "there"] []
  g_f_counts_of_twos : mg "counts_of_twos" = some (.ref A.a_f_counts_of_twos)
  f_sets_of : Fun K "sets_of" "sets_of" s_f_sets_of A.a_f_sets_of A.d_f_sets_of
  b_f_sets_of : Binds K A.d_f_sets_of ["bits", "count"] []
  g_f_sets_of : mg "sets_of" = some (.ref A.a_f_sets_of)
  f_sign_of : Fun K "sign_of" "sign_of" s_f_sign_of A.a_f_sign_of A.d_f_sign_of
  b_f_sign_of : Binds K A.d_f_sign_of ["places"] []
  g_f_sign_of : mg "sign_of" = some (.ref A.a_f_sign_of)
  f_sign_sum : Fun K "sign_sum" "sign_sum" s_f_sign_sum A.a_f_sign_sum A.d_f_sign_sum
  b_f_sign_sum : Binds K A.d_f_sign_sum ["bits", "k", "i"] []
  g_f_sign_sum : mg "sign_sum" = some (.ref A.a_f_sign_sum)
  f_kth_sum : Fun K "kth_sum" "kth_sum" s_f_kth_sum A.a_f_kth_sum A.d_f_kth_sum
  b_f_kth_sum : Binds K A.d_f_kth_sum ["bits", "twos", "k"] []
  g_f_kth_sum : mg "kth_sum" = some (.ref A.a_f_kth_sum)
  f_tilt_of : Fun K "tilt_of" "tilt_of" s_f_tilt_of A.a_f_tilt_of A.d_f_tilt_of
  b_f_tilt_of : Binds K A.d_f_tilt_of ["u", "there"] []
  g_f_tilt_of : mg "tilt_of" = some (.ref A.a_f_tilt_of)
  f_patterns_on : Fun K "patterns_on" "patterns_on" s_f_patterns_on A.a_f_patterns_on A.d_f_patterns_on
  b_f_patterns_on : Binds K A.d_f_patterns_on ["u"] []
  g_f_patterns_on : mg "patterns_on" = some (.ref A.a_f_patterns_on)
  f_pattern_counts : Fun K "pattern_counts" "pattern_counts" s_f_pattern_counts A.a_f_pattern_counts A.d_f_pattern_counts
  b_f_pattern_counts : Binds K A.d_f_pattern_counts ["u", "there"] []
  g_f_pattern_counts : mg "pattern_counts" = some (.ref A.a_f_pattern_counts)
  f_is_even : Fun K "is_even" "is_even" s_f_is_even A.a_f_is_even A.d_f_is_even
  b_f_is_even : Binds K A.d_f_is_even ["u", "there"] []
  g_f_is_even : mg "is_even" = some (.ref A.a_f_is_even)
  f_first_uneven : Fun K "first_uneven" "first_uneven" s_f_first_uneven A.a_f_first_uneven A.d_f_first_uneven
  b_f_first_uneven : Binds K A.d_f_first_uneven ["bits", "there"] []
  g_f_first_uneven : mg "first_uneven" = some (.ref A.a_f_first_uneven)
  m_init : Fun K "__init__" "WordSet.__init__" s_m_init A.a_m_init A.d_m_init
  b_m_init : Binds K A.d_m_init ["self"] []
  m_is_begun : Fun K "is_begun" "WordSet.is_begun" s_m_is_begun A.a_m_is_begun A.d_m_is_begun
  b_m_is_begun : Binds K A.d_m_is_begun ["self"] []
  mt_m_is_begun : Meth K A.C_WordSet "is_begun" A.a_m_is_begun
  m_fits : Fun K "fits" "WordSet.fits" s_m_fits A.a_m_fits A.d_m_fits
  b_m_fits : Binds K A.d_m_fits ["self", "word"] []
  mt_m_fits : Meth K A.C_WordSet "fits" A.a_m_fits
  m_begin : Fun K "begin" "WordSet.begin" s_m_begin A.a_m_begin A.d_m_begin
  b_m_begin : Binds K A.d_m_begin ["self", "bits"] []
  mt_m_begin : Meth K A.C_WordSet "begin" A.a_m_begin
  m_put : Fun K "put" "WordSet.put" s_m_put A.a_m_put A.d_m_put
  b_m_put : Binds K A.d_m_put ["self", "x"] []
  mt_m_put : Meth K A.C_WordSet "put" A.a_m_put
  m_take : Fun K "take" "WordSet.take" s_m_take A.a_m_take A.d_m_take
  b_m_take : Binds K A.d_m_take ["self", "x"] []
  mt_m_take : Meth K A.C_WordSet "take" A.a_m_take
  m_rest : Fun K "rest" "WordSet.rest" s_m_rest A.a_m_rest A.d_m_rest
  b_m_rest : Binds K A.d_m_rest ["self"] []
  mt_m_rest : Meth K A.C_WordSet "rest" A.a_m_rest
  m_move : Fun K "move" "WordSet.move" s_m_move A.a_m_move A.d_m_move
  b_m_move : Binds K A.d_m_move ["self", "y"] []
  mt_m_move : Meth K A.C_WordSet "move" A.a_m_move
  m_swap : Fun K "swap" "WordSet.swap" s_m_swap A.a_m_swap A.d_m_swap
  b_m_swap : Binds K A.d_m_swap ["self", "i", "j"] []
  mt_m_swap : Meth K A.C_WordSet "swap" A.a_m_swap
  m_close : Fun K "close" "WordSet.close" s_m_close A.a_m_close A.d_m_close
  b_m_close : Binds K A.d_m_close ["self"] []
  mt_m_close : Meth K A.C_WordSet "close" A.a_m_close
  m_many : Fun K "many" "WordSet.many" s_m_many A.a_m_many A.d_m_many
  b_m_many : Binds K A.d_m_many ["self"] []
  mt_m_many : Meth K A.C_WordSet "many" A.a_m_many
  m_words : Fun K "words" "WordSet.words" s_m_words A.a_m_words A.d_m_words
  b_m_words : Binds K A.d_m_words ["self"] []
  mt_m_words : Meth K A.C_WordSet "words" A.a_m_words
  m_dist : Fun K "dist" "WordSet.dist" s_m_dist A.a_m_dist A.d_m_dist
  b_m_dist : Binds K A.d_m_dist ["self", "x", "y"] []
  mt_m_dist : Meth K A.C_WordSet "dist" A.a_m_dist
  m_off : Fun K "off" "WordSet.off" s_m_off A.a_m_off A.d_m_off
  b_m_off : Binds K A.d_m_off ["self", "x"] []
  mt_m_off : Meth K A.C_WordSet "off" A.a_m_off
  m_least : Fun K "least" "WordSet.least" s_m_least A.a_m_least A.d_m_least
  b_m_least : Binds K A.d_m_least ["self"] []
  mt_m_least : Meth K A.C_WordSet "least" A.a_m_least
  m_farthest : Fun K "farthest" "WordSet.farthest" s_m_farthest A.a_m_farthest A.d_m_farthest
  b_m_farthest : Binds K A.d_m_farthest ["self"] []
  mt_m_farthest : Meth K A.C_WordSet "farthest" A.a_m_farthest
  m_alike : Fun K "alike" "WordSet.alike" s_m_alike A.a_m_alike A.d_m_alike
  b_m_alike : Binds K A.d_m_alike ["self", "x"] []
  mt_m_alike : Meth K A.C_WordSet "alike" A.a_m_alike
  m_closed : Fun K "closed" "WordSet.closed" s_m_closed A.a_m_closed A.d_m_closed
  b_m_closed : Binds K A.d_m_closed ["self"] []
  mt_m_closed : Meth K A.C_WordSet "closed" A.a_m_closed
  m_twos : Fun K "twos" "WordSet.twos" s_m_twos A.a_m_twos A.d_m_twos
  b_m_twos : Binds K A.d_m_twos ["self"] []
  mt_m_twos : Meth K A.C_WordSet "twos" A.a_m_twos
  m_sums : Fun K "sums" "WordSet.sums" s_m_sums A.a_m_sums A.d_m_sums
  b_m_sums : Binds K A.d_m_sums ["self"] []
  mt_m_sums : Meth K A.C_WordSet "sums" A.a_m_sums
  m_sign : Fun K "sign" "WordSet.sign" s_m_sign A.a_m_sign A.d_m_sign
  b_m_sign : Binds K A.d_m_sign ["self", "k", "i"] []
  mt_m_sign : Meth K A.C_WordSet "sign" A.a_m_sign
  m_tilt : Fun K "tilt" "WordSet.tilt" s_m_tilt A.a_m_tilt A.d_m_tilt
  b_m_tilt : Binds K A.d_m_tilt ["self", "u"] []
  mt_m_tilt : Meth K A.C_WordSet "tilt" A.a_m_tilt
  m_patterns : Fun K "patterns" "WordSet.patterns" s_m_patterns A.a_m_patterns A.d_m_patterns
  b_m_patterns : Binds K A.d_m_patterns ["self", "u"] []
  mt_m_patterns : Meth K A.C_WordSet "patterns" A.a_m_patterns
  m_even : Fun K "even" "WordSet.even" s_m_even A.a_m_even A.d_m_even
  b_m_even : Binds K A.d_m_even ["self", "u"] []
  mt_m_even : Meth K A.C_WordSet "even" A.a_m_even
  m_strength : Fun K "strength" "WordSet.strength" s_m_strength A.a_m_strength A.d_m_strength
  b_m_strength : Binds K A.d_m_strength ["self"] []
  mt_m_strength : Meth K A.C_WordSet "strength" A.a_m_strength
  m_uneven : Fun K "uneven" "WordSet.uneven" s_m_uneven A.a_m_uneven A.d_m_uneven
  b_m_uneven : Binds K A.d_m_uneven ["self"] []
  mt_m_uneven : Meth K A.C_WordSet "uneven" A.a_m_uneven
  f_answers : Fun K "answers" "answers" s_f_answers A.a_f_answers A.d_f_answers
  b_f_answers : Binds K A.d_f_answers ["calls"] []
  g_f_answers : mg "answers" = some (.ref A.a_f_answers)
  f_answer : Fun K "answer" "answer" s_f_answer A.a_f_answer A.d_f_answer
  b_f_answer : Binds K A.d_f_answer ["held", "number", "told"] []
  g_f_answer : mg "answer" = some (.ref A.a_f_answer)
  f_change : Fun K "change" "change" s_f_change A.a_f_change A.d_f_change
  b_f_change : Binds K A.d_f_change ["held", "number", "told"] []
  g_f_change : mg "change" = some (.ref A.a_f_change)
  f_look : Fun K "look" "look" s_f_look A.a_f_look A.d_f_look
  b_f_look : Binds K A.d_f_look ["held", "number", "told"] []
  g_f_look : mg "look" = some (.ref A.a_f_look)
  f_reckon : Fun K "reckon" "reckon" s_f_reckon A.a_f_reckon A.d_f_reckon
  b_f_reckon : Binds K A.d_f_reckon ["held", "number", "told"] []
  g_f_reckon : mg "reckon" = some (.ref A.a_f_reckon)
end Fw
/-! piece FwBase -/
namespace Fw
open PySem PySem.Spec PyProof.Rows L2
/-- a whole number of the top, read by its name -/
theorem pe_gi {X : Cx} {x : Str} {pos : Pos} {i : Int} (hg : Gl X x) (hm : ∃ t, X.mg x = some (.int i t)) (hd : (x == ("__debug__" : Str)) = false := by decide) : PE X (.Name x pos) (tC (.int i)) := by
  obtain ⟨t, h⟩ := hm
  exact pe_glob (v := .int i) hg h ⟨t, rfl⟩ hd
/-- an object of the top, read by its name -/
theorem pe_gr {X : Cx} {x : Str} {pos : Pos} {a : Addr} (hg : Gl X x) (hm : X.mg x = some (.ref a)) (hd : (x == ("__debug__" : Str)) = false := by decide) : PE X (.Name x pos) (tC (.ref a)) :=
  pe_glob (v := .ref a) hg hm rfl hd
/-- the same term, its reading said otherwise -/
theorem pe_as {X : Cx} {e : Expr} {t t2 : TE} (h : PE X e t) (z : t = t2) : PE X e t2 := z ▸ h
/-! the rules that speak of the written part, with it told: within a comprehension the reading must not speak of the block -/
section
variable {X : Cx} {K : PySem.W.Frag}
theorem op_inK (h : X.K = K) : OpR X (compareOp .In) (rIn K false) := by subst h; exact op_in_seq
theorem op_notInK (h : X.K = K) : OpR X (compareOp .NotIn) (rIn K true) := by subst h; exact op_notIn_seq
theorem ix_listK (h : X.K = K) : IxR X (rIxL K) := by subst h; exact ix_list
theorem ix_tupK (h : X.K = K) : IxR X (rIxT K) := by subst h; exact ix_tup
theorem sl_listK (h : X.K = K) : SlR X (rSlL K) := by subst h; exact sl_list
theorem mt_lcountK (h : X.K = K) : MtR X "list.count" (rCntI K) := by subst h; exact mt_lcount
/-- how many a list or a tuple holds -/
def lenS (K : PySem.W.Frag) (vs : List V) (h : Hp) (G : VK) : Prop := ∃ q zs, vs = [.ref q] ∧ (SqL K h q zs ∨ SqT K h q zs) ∧ G (.int zs.length) h
theorem call_lenK (h : X.K = K) : CallR X (.builtin "len") (lenS K) := by subst h; exact call_len_seq
theorem cr_sortedK (h : X.K = K) : CallR X (.builtin "sorted") (rSortedI K) := by subst h; exact cr_sortedI
theorem cr_minK (h : X.K = K) (hc : X.calm = true) : CallR X (.builtin "min") (rMin K) := by subst h; exact cr_min hc
theorem cr_maxK (h : X.K = K) (hc : X.calm = true) : CallR X (.builtin "max") (rMax K) := by subst h; exact cr_max hc
theorem cr_sumK (h : X.K = K) (hc : X.calm = true) : CallR X (.builtin "sum") (rSum K) := by subst h; exact cr_sum hc
theorem cr_anyK (h : X.K = K) (hc : X.calm = true) : CallR X (.builtin "any") (rAny K) := by subst h; exact cr_any hc
theorem cr_allK (h : X.K = K) (hc : X.calm = true) : CallR X (.builtin "all") (rAll K) := by subst h; exact cr_all hc
theorem pi_listK (h : X.K = K) {tg l : Expr} {tl : TE} (hl : PE X l tl) : PI X tg l (iList K tl) := by subst h; exact pi_list hl
theorem pe_fldK (h : X.K = K) {e : Expr} {f : Str} {pos : Pos} {ta : TE} (he : PE X e ta) (hb : attributeBase e f X.env (eval e X.env) = eval e X.env) : PE X (.Attribute e f pos) (tFld K ta f) := by subst h; exact pe_fld he hb
theorem op_eqDK (h : X.K = K) (hu : X.A.units + 64 < cLine) : OpR X (compareOp .Eq) (rEqD K) := by subst h; exact op_eqD hu
theorem mt_indexK (h : X.K = K) : MtR X "list.index" (rIndex K) := by subst h; exact mt_index
end
/-! two lists of numbers, held against each other -/
def dL (l : List Nat) : List PyData := l.map fun (x : Nat) => PyData.int (x : Int)
theorem dL_all {K : PySem.W.Frag} {H : Hp} : ∀ l : List Nat, DpAll K H (l.map fun (x : Nat) => V.int (x : Int)) (dL l)
  | [] => .nil
  | x :: l => .cons (.int _) (dL_all l)
theorem dL_can : ∀ l : List Nat, PyData.canLayAll0 (dL l) = true
  | [] => by rw [show dL [] = [] from rfl, PyData.canLayAll0]
  | x :: l => by
    rw [show dL (x :: l) = .int (x : Int) :: dL l from rfl, PyData.canLayAll0, dL_can l, PyData.canLay0]
    rfl
theorem dL_deep : ∀ l : List Nat, PyData.depthAll (dL l) = 0
  | [] => by rw [show dL [] = [] from rfl, PyData.depthAll]
  | x :: l => by
    rw [show dL (x :: l) = .int (x : Int) :: dL l from rfl, PyData.depthAll, dL_deep l, PyData.depth]
    rfl
theorem dL_shaped (l : List Nat) : SeqAt.shaped (.list (dL l)) = true := by
  unfold SeqAt.shaped
  rw [PyData.canLay0, dL_can, PyData.depth, dL_deep]
  rfl
theorem dL_eqv : ∀ l m : List Nat, PyData.eqvAll (dL l) (dL m) = decide (l = m)
  | [], [] => by rw [show dL [] = [] from rfl, PyData.eqvAll]; rfl
  | [], y :: m => by rw [show dL [] = [] from rfl, show dL (y :: m) = .int (y : Int) :: dL m from rfl, PyData.eqvAll]; rfl
  | x :: l, [] => by rw [show dL [] = [] from rfl, show dL (x :: l) = .int (x : Int) :: dL l from rfl, PyData.eqvAll]; rfl
  | x :: l, y :: m => by
    rw [show dL (x :: l) = .int (x : Int) :: dL l from rfl, show dL (y :: m) = .int (y : Int) :: dL m from rfl, PyData.eqvAll, dL_eqv l m, PyData.eqv]
    rw [Bool.eq_iff_iff, Bool.and_eq_true, beq_iff_eq, decide_eq_true_eq, decide_eq_true_eq, List.cons.injEq]
    exact and_congr_left' Int.ofNat_inj
theorem eq_lists {l m : List Nat} : PyData.eqv (.list (dL l)) (.list (dL m)) = decide (l = m) := by rw [PyData.eqv, dL_eqv]
/-- an if whose test is known -/
theorem ifT {c : Bool} {A B : Prop} (hc : c = true) (h : A) : if c = true then A else B := by
  rw [if_pos hc]
  exact h
theorem ifF {c : Bool} {A B : Prop} (hc : c = false) (h : B) : if c = true then A else B := by
  rw [hc, if_neg Bool.false_ne_true]
  exact h
theorem take_more {α : Type} : ∀ {l : List α} {i : Nat} {x : α}, l[i]? = some x → l.take (i + 1) = l.take i ++ [x]
  | [], i, x, h => by simp at h
  | a :: l, 0, x, h => by
    have e : a = x := Option.some.inj h
    subst e
    rfl
  | a :: l, i + 1, x, h => by
    have ih := take_more (l := l) (i := i) (x := x) h
    show a :: l.take (i + 1) = a :: l.take i ++ [x]
    rw [ih]
    rfl
/-- numbers as Python's -/
def nV (c : List Nat) : List V := c.map fun (x : Nat) => V.int (x : Int)
theorem nV_len (c : List Nat) : (nV c).length = c.length := by unfold nV; rw [List.length_map]
theorem nV_get {c : List Nat} {i : Nat} {v : V} (h : (nV c)[i]? = some v) : ∃ x, c[i]? = some x ∧ v = V.int (x : Int) := by
  unfold nV at h
  rw [List.getElem?_map] at h
  cases e : c[i]? with
  | none =>
    rw [e] at h
    cases h
  | some z =>
    rw [e] at h
    exact ⟨z, rfl, (Option.some.inj h).symm⟩
theorem nV_ints (c : List Nat) : nV c = (c.map Int.ofNat).map V.int := by
  unfold nV
  rw [List.map_map]
  rfl
theorem nV_app (c d : List Nat) : nV (c ++ d) = nV c ++ nV d := by unfold nV; rw [List.map_append]
theorem nV_nil : nV [] = [] := rfl
theorem nV_one (x : Nat) : nV [x] = [V.int (x : Int)] := rfl
theorem flat_nV (c : List Nat) : (nV c).all flatV = true := by
  unfold nV
  rw [List.all_map, List.all_eq_true]
  intro x _
  rfl
theorem inV_nV (x : Nat) (c : List Nat) : inV (.int (x : Int)) (nV c) = c.contains x := by
  unfold inV nV
  rw [List.any_map, List.contains_eq_any_beq]
  congr 1
  funext y
  show decide ((y : Int) = (x : Int)) = (x == y)
  by_cases h : x = y
  · subst h
    rw [decide_eq_true rfl, beq_self_eq_true]
  · rw [decide_eq_false (by omega), beq_eq_false_iff_ne.mpr h]
theorem same_new {H : Hp} {D : Addr} {o : HO} (h : H D = none) : Same H (upd H D o) := fun b u e => by
  rw [upd_ne (ne_of_none e h)]
  exact e
theorem same_put {H H' : Hp} {D : Addr} {o : HO} (s : Same H H') (h : H D = none) : Same H (upd H' D o) := fun b u e => by
  rw [upd_ne (ne_of_none e h)]
  exact s b u e
/-- all but what stands at p is as it was -/
def Els (p : Addr) (H H' : Hp) : Prop := ∀ b o, H b = some o → b ≠ p → H' b = some o
theorem Els.of {p : Addr} {H H' : Hp} (s : Same H H') : Els p H H' := fun b o e _ => s b o e
theorem Els.trans {p : Addr} {H H1 H2 : Hp} (a : Els p H H1) (b : Els p H1 H2) : Els p H H2 := fun c o h n => b c o (a c o h n) n
theorem filter_one {α : Type} (p : α → Bool) (x : α) : [x].filter p = if p x = true then [x] else [] := by
  rw [List.filter_cons, List.filter_nil]
theorem filter_more {α : Type} {l : List α} {i : Nat} {x : α} (p : α → Bool) (h : l[i]? = some x) : (l.take (i + 1)).filter p = (l.take i).filter p ++ if p x = true then [x] else [] := by
  rw [take_more h, List.filter_append, filter_one]
theorem map_more {α β : Type} {l : List α} {i : Nat} {x : α} (f : α → β) (h : l[i]? = some x) : (l.take (i + 1)).map f = (l.take i).map f ++ [f x] := by
  rw [take_more h, List.map_append]
  rfl
theorem cut_take (xs : List V) (j : Nat) : cutV xs none (some (j : Int)) = xs.take j := by
  unfold cutV
  rw [HT.sIx_none, HT.sIx_nat, List.drop_zero, Nat.sub_zero, List.take_eq_take_iff]
  omega
theorem nV_take (c : List Nat) (j : Nat) : (nV c).take j = nV (c.take j) := by unfold nV; rw [List.map_take]
theorem nV_at {c : List Nat} {i : Nat} (h : i < c.length) : (nV c)[i]? = some (V.int ((c.getD i 0 : Nat) : Int)) := by
  unfold nV
  rw [List.getElem?_map, List.getD_eq_getElem?_getD, List.getElem?_eq_getElem h]
  rfl
theorem small64 {k : Nat} (h : k ≤ 64) : k < sizeLine := Nat.lt_of_le_of_lt h (by decide)
end Fw
/-! piece D1 -/
namespace Fw
open PySem PySem.Spec PyProof.Rows L2
section
variable {P : Program} {w : World} {K : PySem.W.Frag} {mg : Str → Option Value} {base : Heap} {A : Adr}
def sp_f_weight : Sp := fun vs H Q _ => ∃ x : Nat, vs = [.int (x : Int)] ∧ Q (.int ((pop x : Nat) : Int)) H
theorem and_one (x : Nat) : Builtin.bitAnd (x : Int) 1 = ((x % 2 : Nat) : Int) := by
  rw [bitAnd_pp (by omega) (by omega)]
  show (((x : Int).toNat &&& 1 : Nat) : Int) = _
  rw [Int.toNat_natCast, Nat.and_one_is_mod]
theorem ok_f_weight (T : Txt K mg A) : FnOk P w K mg base CX0 1 A.a_f_weight A.d_f_weight ["word"] sp_f_weight := by
  refine T.f_weight.ok sc_f_weight (fun vs H Q E h => ?_) (fun cdv Ar outer s H vs Q E hr h => ⟨_, (pss_cons (ps_set (i := 1) sc_f_weight.nd rfl (Or.inl rfl) pe_int)
    (pss_cons (ps_set (i := 2) sc_f_weight.nd rfl (Or.inl rfl) (pv 0))
    (pss_cons (ps_while PassesOwn.never (pt_cmpR op_gt (pv 2) pe_int (nomark _))
    (pss_cons (ps_set (i := 1) sc_f_weight.nd rfl (Or.inl rfl) (pe_op op_add (pv 1) (pe_op op_and (pv 2) pe_int)))
    (pss_one (ps_set (i := 2) sc_f_weight.nd rfl (Or.inl rfl) (pe_op op_shr (pv 2) pe_int)))))
    (pss_one (ps_ret (pv 1)))))), ?_⟩)
  · obtain ⟨x, rfl, _⟩ := h
    rfl
  · obtain ⟨x, rfl, k⟩ := h
    refine ⟨_, rfl, ?_⟩
    refine while_by (fun σ H' => H' = H ∧ ∃ o l : Nat, σ = [some (.int x), some (.int (o : Int)), some (.int (l : Int))] ∧ o + pop l = pop x) (fun σ _ => match σ with | [_, _, some (.int l)] => l.toNat | _ => 0) ?_ ?_ ?_
    · exact ⟨rfl, 0, x, rfl, Nat.zero_add _⟩
    · rintro σ H' ⟨rfl, o, l, rfl, e⟩
      refine ⟨_, rfl, _, _, rfl, rfl, _, rfl, ?_⟩
      by_cases c : (0 : Int) < (l : Int)
      · refine ifT (decide_eq_true c) ?_
        refine ⟨_, rfl, _, rfl, _, _, rfl, rfl, _, _, rfl, rfl, ?_⟩
        refine ⟨_, rfl, _, _, rfl, rfl, (by show (0 : Int) ≤ 1; decide), ?_⟩
        rw [and_one]
        refine ⟨⟨rfl, o + l % 2, l / 2, ?_, ?_⟩, ?_⟩
        · rfl
        · rw [Nat.add_assoc, ← pop_step, e]
        · show ((l : Int) / 2 ^ 1).toNat < (l : Int).toNat
          omega
      · refine ifF (decide_eq_false c) ?_
        have hl : l = 0 := by omega
        subst hl
        refine ⟨_, rfl, ?_⟩
        have e' : o = pop x := by rw [← e, pop_zero]; rfl
        rw [e']
        exact k
    · rintro σ H' Q1 Q2 hq ⟨v, hv, i, j, e1, e2, b, eb, hQ⟩
      exact ⟨v, hv, i, j, e1, e2, b, eb, hq _ _ hQ⟩
def sp_f_distance : Sp := fun vs H Q _ => ∃ x y : Nat, vs = [.int (x : Int), .int (y : Int)] ∧ Q (.int ((pop (x ^^^ y) : Nat) : Int)) H
theorem xor_nn (x y : Nat) : Builtin.bitXor (x : Int) (y : Int) = ((x ^^^ y : Nat) : Int) := by
  rw [Bits.bitXor_pp (by omega) (by omega), Int.toNat_natCast, Int.toNat_natCast]
theorem ok_f_distance (T : Txt K mg A) : FnOk P w K mg base CX0 2 A.a_f_distance A.d_f_distance ["x", "y"] sp_f_distance := by
  refine T.f_distance.ok sc_f_distance (fun vs H Q E h => ?_) (fun cdv Ar outer s H vs Q E hr h => ⟨_, (pss_one (ps_ret (pe_call (ok_f_weight T) (hr.mono (by decide)) (by rfl) T.g_f_weight T.f_weight.kp T.b_f_weight .nil pass0 (pa_cons (pe_op op_xor (pv 0) (pv 1)) pa_nil)))), ?_⟩)
  · obtain ⟨x, y, rfl, _⟩ := h
    rfl
  · obtain ⟨x, y, rfl, k⟩ := h
    refine ⟨_, rfl, _, rfl, _, _, rfl, rfl, ?_⟩
    refine ⟨x ^^^ y, ?_, k⟩
    show [V.int (Builtin.bitXor (x : Int) (y : Int))] = _
    rw [xor_nn]
def sp_f_missing (K : PySem.W.Frag) : Sp := fun vs H Q _ => ∃ (n : Nat) (a : Addr) (c : List Nat), vs = [.int (n : Int), .ref a] ∧ n ≤ 6 ∧ SqL K H a (nV c) ∧
  ∀ H' q, Same H H' → H q = none → H' q = some (.lst (nV ((Kh407.words n).filter fun x => !c.contains x))) → Q (.ref q) H'
theorem pow_small {n : Nat} (h : n ≤ 6) : 2 ^ n ≤ 64 := Nat.pow_le_pow_right (by decide) h
theorem one_shl (n : Nat) : (1 : Int) * 2 ^ ((n : Int).toNat) = ((2 ^ n : Nat) : Int) := by
  rw [Int.toNat_natCast, Int.one_mul, Int.natCast_pow]
  rfl
theorem ok_f_missing (T : Txt K mg A) : FnOk P w K mg base CX0 1 A.a_f_missing A.d_f_missing ["bits", "there"] (sp_f_missing K) := by
  refine T.f_missing.ok sc_f_missing (fun vs H Q E h => ?_) (fun cdv Ar outer s H vs Q E hr h => ⟨_, (pss_one (ps_ret (pe_lc (own := [("word", 2)]) (g := gName 2) rfl sc_f_missing.nd (pi_range1 (by rfl) T.n_range (pa_cons (pe_op op_shl pe_int (pv 0)) pa_nil)) (blkOk_by (own := [("word", 2)]) (N := N_f_missing) (sc := defScope s_f_missing) (by decide +kernel)) (fun _ _ _ _ _ => (pg_name (i := 2) sc_f_missing.nd rfl (Or.inl rfl))) (fun _ _ _ _ _ => pts_one (pt_cmpR (op_notInK (K := K) rfl) (pv 2) (pv 1) (by rfl))) (fun _ _ _ _ _ => (pv 2))))), ?_⟩)
  · obtain ⟨n, a, c, rfl, _⟩ := h
    rfl
  · obtain ⟨n, a, c, rfl, hn, hc, k⟩ := h
    have hp := pow_small hn
    refine ⟨_, rfl, _, _, rfl, rfl, ?_, ?_⟩
    · show (0 : Int) ≤ (n : Int) ∧ (n : Int) ≤ 1000000 ∧ _
      exact ⟨by omega, by omega, by decide⟩
    refine ⟨_, rfl, ?_, ?_, ?_⟩
    · rw [one_shl]
      refine Int.le_trans ?_ (Int.natCast_nonneg _)
      decide
    · rw [one_shl]
      exact Int.lt_of_le_of_lt (Int.ofNat_le.mpr hp) (by decide)
    intro D hD
    rw [one_shl, Int.toNat_natCast]
    refine lc_range (lo := 0) (n := 2 ^ n) (fun i H' => Same H H' ∧ H' D = some (.lst (nV ((List.range i).filter fun x => !c.contains x)))) ?_ ?_ ?_
    · exact ⟨same_new hD, upd_same⟩
    · rintro i H' hi ⟨s1, h1⟩
      refine ⟨rfl, _, rfl, _, rfl, a, _, rfl, .inl (s1.seq hc), rfl, flat_nV c, _, rfl, ?_⟩
      rw [Int.zero_add, inV_nV]
      have hr1 : (List.range (i + 1)).filter (fun x => !c.contains x) = (List.range i).filter (fun x => !c.contains x) ++ (if c.contains i then [] else [i]) := by
        rw [List.range_succ, List.filter_append, filter_one]
        congr 1
        cases c.contains i <;> rfl
      cases hci : c.contains i with
      | true =>
        refine ifF rfl ⟨s1, ?_⟩
        rw [hr1, hci, if_pos rfl, List.append_nil]
        exact h1
      | false =>
        refine ifT rfl ⟨_, rfl, _, h1, ?_, same_put s1 hD, ?_⟩
        · rw [nV_len]
          refine Nat.lt_of_le_of_lt (List.length_filter_le _ _) ?_
          rw [List.length_range]
          exact Nat.lt_of_lt_of_le hi (Nat.le_trans hp (by decide))
        · rw [hr1, hci, if_neg Bool.false_ne_true, nV_app]
          exact upd_same
    · rintro H' ⟨s1, h1⟩
      exact k H' D s1 hD h1
def sp_f_exchanged : Sp := fun vs H Q _ => ∃ x i j : Nat, vs = [.int (x : Int), .int (i : Int), .int (j : Int)] ∧ i ≤ 6 ∧ j ≤ 6 ∧ Q (.int ((exch x i j : Nat) : Int)) H
theorem bit_is (x i : Nat) : Builtin.bitAnd ((x : Int) / 2 ^ ((i : Int).toNat)) 1 = ((x / 2 ^ i % 2 : Nat) : Int) := by
  rw [Int.toNat_natCast]
  have e : (x : Int) / 2 ^ i = ((x / 2 ^ i : Nat) : Int) := by
    rw [Int.natCast_ediv, Int.natCast_pow]
    rfl
  rw [e, and_one]
theorem or_nn (x y : Nat) : Builtin.bitOr (x : Int) (y : Int) = ((x ||| y : Nat) : Int) := by
  rw [Bits.bitOr_pp (by omega) (by omega), Int.toNat_natCast, Int.toNat_natCast]
theorem ok_f_exchanged (T : Txt K mg A) : FnOk P w K mg base CX0 1 A.a_f_exchanged A.d_f_exchanged ["word", "i", "j"] sp_f_exchanged := by
  refine T.f_exchanged.ok sc_f_exchanged (fun vs H Q E h => ?_) (fun cdv Ar outer s H vs Q E hr h => ⟨_, (pss_cons (ps_if (pt_cmpR op_eq (pe_op op_and (pe_op op_shr (pv 0) (pv 1)) pe_int) (pe_op op_and (pe_op op_shr (pv 0) (pv 2)) pe_int) (nomark _)) (pss_one (ps_ret (pv 0))) pss_nil)
    (pss_one (ps_ret (pe_op op_xor (pv 0) (pe_op op_or (pe_op op_shl pe_int (pv 1)) (pe_op op_shl pe_int (pv 2))))))), ?_⟩)
  · obtain ⟨x, i, j, rfl, _⟩ := h
    rfl
  · obtain ⟨x, i, j, rfl, hi, hj, k⟩ := h
    refine ⟨_, rfl, _, rfl, _, _, rfl, rfl, (by show (0 : Int) ≤ (i : Int); omega), _, _, rfl, rfl, _, rfl, _, rfl, _, _, rfl, rfl, (by show (0 : Int) ≤ (j : Int); omega), _, _, rfl, rfl, rfl, _, rfl, ?_⟩
    unfold exch at k
    by_cases c : x / 2 ^ i % 2 = x / 2 ^ j % 2
    · rw [if_pos c] at k
      refine ifT (decide_eq_true ?_) ?_
      · show V.int (Builtin.bitAnd ((x : Int) / 2 ^ ((i : Int).toNat)) 1) = V.int (Builtin.bitAnd ((x : Int) / 2 ^ ((j : Int).toNat)) 1)
        rw [bit_is, bit_is, c]
      · exact ⟨_, rfl, k⟩
    · rw [if_neg c] at k
      refine ifF (decide_eq_false (fun e => c ?_)) ?_
      · have e : V.int (Builtin.bitAnd ((x : Int) / 2 ^ ((i : Int).toNat)) 1) = V.int (Builtin.bitAnd ((x : Int) / 2 ^ ((j : Int).toNat)) 1) := e
        rw [bit_is, bit_is] at e
        have := V.int.inj e
        omega
      · refine ⟨_, rfl, _, rfl, _, _, rfl, rfl, ⟨by omega, by omega, by decide⟩, _, rfl, _, _, rfl, rfl, ⟨by omega, by omega, by decide⟩, _, _, rfl, rfl, _, _, rfl, rfl, ?_⟩
        show Q (V.int (Builtin.bitXor (x : Int) (Builtin.bitOr (1 * 2 ^ ((i : Int).toNat)) (1 * 2 ^ ((j : Int).toNat))))) H
        rw [one_shl, one_shl, or_nn, xor_nn]
        exact k
def sp_f_distances (K : PySem.W.Frag) : Sp := fun vs H Q _ => ∃ (x : Nat) (a : Addr) (c : List Nat), vs = [.int (x : Int), .ref a] ∧ c.length ≤ 64 ∧ SqL K H a (nV c) ∧
  ∀ H' q, Same H H' → H' q = some (.lst (nV (c.map (dst x)))) → Q (.ref q) H'
theorem ok_f_distances (T : Txt K mg A) : FnOk P w K mg base CX0 3 A.a_f_distances A.d_f_distances ["x", "there"] (sp_f_distances K) := by
  refine T.f_distances.ok sc_f_distances (fun vs H Q E h => ?_) (fun cdv Ar outer s H vs Q E hr h => ⟨_, (pss_one (ps_ret (pe_lc (own := [("word", 2)]) (g := gName 2) rfl sc_f_distances.nd (pi_listK (K := K) rfl (pv 1)) (blkOk_by (own := [("word", 2)]) (N := N_f_distances) (sc := defScope s_f_distances) (by decide +kernel)) (fun _ _ _ _ _ => (pg_name (i := 2) sc_f_distances.nd rfl (Or.inl rfl))) (fun _ _ _ _ _ => pts_nil) (fun _ _ _ _ _ => (pe_call (ok_f_distance T) (hr.mono (by decide)) (by rfl) T.g_f_distance T.f_distance.kp T.b_f_distance .nil pass0 (pa_cons (pv 0) (pa_cons (pv 2) pa_nil))))))), ?_⟩)
  · obtain ⟨x, a, c, rfl, _⟩ := h
    rfl
  · obtain ⟨x, a, c, rfl, hl, hc, k⟩ := h
    refine ⟨_, rfl, a, rfl, ⟨_, hc⟩, ?_⟩
    intro D hD
    refine lc_list (K := K) (a := a) (xs := nV c) (fun i H' => Same H H' ∧ H' D = some (.lst (nV ((c.take i).map (dst x))))) ?_ ?_ ?_ ?_
    · exact ⟨same_new hD, upd_same⟩
    · exact fun i H' _ p => p.1.seq hc
    · rintro i v H' hv ⟨s1, h1⟩
      obtain ⟨y, hy, rfl⟩ := nV_get hv
      refine ⟨rfl, _, rfl, _, rfl, x, y, rfl, _, h1, ?_, same_put s1 hD, ?_⟩
      · rw [nV_len, List.length_map, List.length_take]
        exact small64 (by omega)
      · rw [map_more _ hy, nV_app]
        exact upd_same
    · rintro H' ⟨s1, h1⟩
      rw [nV_len, List.take_length] at h1
      exact k H' D s1 h1
end
end Fw
/-! piece D1b -/
namespace Fw
open PySem PySem.Spec PyProof.Rows L2
section
variable {P : Program} {w : World} {K : PySem.W.Frag} {mg : Str → Option Value} {base : Heap} {A : Adr}
def sp_f_closed_up (K : PySem.W.Frag) : Sp := fun vs H Q _ => ∃ (a : Addr) (n : Nat) (c : List Nat), vs = [.ref a] ∧ Ok n c ∧ SqL K H a (nV c) ∧
  ∀ H' q, Same H H' → H q = none → H' q = some (.lst (nV (Kh407.closing (n + 1) ⟨n, c⟩).c)) → Q (.ref q) H'
theorem ok_f_closed_up (T : Txt K mg A) : FnOk P w K mg base CX0 1 A.a_f_closed_up A.d_f_closed_up ["there"] (sp_f_closed_up K) := by
  refine T.f_closed_up.ok sc_f_closed_up (fun vs H Q E h => ?_) (fun cdv Ar outer s H vs Q E hr h => ⟨_, (pss_cons (ps_if (pt_cmpR op_eq (pe_callB (call_lenK (K := K) rfl) (by rfl) T.n_len PySem.boot_len (pa_cons (pv 0) pa_nil)) pe_int (nomark _)) (pss_one (ps_ret (pe_lst pa_nil))) pss_nil)
    (pss_cons (ps_set (i := 1) sc_f_closed_up.nd rfl (Or.inl rfl) (pe_lst (pa_cons pe_int pa_nil)))
    (pss_cons (ps_for PassesOwn.never rfl (pi_listK (K := K) rfl (pv 0)) (pg_name (i := 2) sc_f_closed_up.nd rfl (Or.inr rfl))
    (pss_one (ps_if (pt_cmpR (op_notInK (K := K) rfl) (pv 2) (pv 1) (by rfl)) (pss_one (ps_set (i := 1) sc_f_closed_up.nd rfl (Or.inl rfl) (pe_op op_cat (pv 1) (pe_lc (own := [("other", 3)]) (g := gName 3) rfl sc_f_closed_up.nd (pi_listK (K := K) rfl (pv 1)) (blkOk_by (own := [("other", 3)]) (N := N_f_closed_up) (sc := defScope s_f_closed_up) (by decide +kernel)) (fun _ _ _ _ _ => (pg_name (i := 3) sc_f_closed_up.nd rfl (Or.inl rfl))) (fun _ _ _ _ _ => pts_nil) (fun _ _ _ _ _ => (pe_op op_xor (pv 2) (pv 3))))))) pss_nil)))
    (pss_one (ps_ret (pe_callB (cr_sortedK (K := K) rfl) (by rfl) T.n_sorted (by decide +kernel) (pa_cons (pv 1) pa_nil))))))), ?_⟩)
  · obtain ⟨a, n, c, rfl, _⟩ := h
    rfl
  · obtain ⟨a, n, c, rfl, ok, hc, k⟩ := h
    refine ⟨_, rfl, a, _, rfl, .inl hc, rfl, _, rfl, ?_⟩
    by_cases e0 : c = []
    · refine ifT (decide_eq_true (by rw [e0]; rfl)) ?_
      refine ⟨(by decide), fun p hp => k _ p (same_new hp) hp ?_⟩
      rw [e0, closing_nil ok.hi]
      exact upd_same
    refine ifF (decide_eq_false fun e => e0 ?_) ?_
    · have := V.int.inj e
      rw [nV_len] at this
      exact List.length_eq_zero_iff.mp (by omega)
    refine ⟨(by decide), fun l hl => ?_⟩
    refine ⟨_, rfl, a, rfl, ⟨_, (same_new hl).seq hc⟩, for_list (K := K) (a := a) (xs := nV c) (fun i σ H' => ∃ (l : Addr) (v u : Option V), σ = [some (.ref a), some (.ref l), v, u] ∧ Same H H' ∧ H' l = some (.lst (nV ((c.take i).foldl grow [0])))) ?_ ?_ ?_ ?_⟩
    · exact ⟨l, none, none, rfl, same_new hl, upd_same⟩
    · rintro i σ H' _ ⟨_, _, _, _, s1, _⟩
      exact s1.seq hc
    · rintro i y σ H' hy ⟨l, v, u, rfl, s1, h1⟩
      obtain ⟨x, hx, rfl⟩ := nV_get hy
      refine ⟨_, rfl, _, rfl, l, _, rfl, .inl (SqL.of h1), rfl, flat_nV _, _, rfl, ?_⟩
      have st : (c.take (i + 1)).foldl grow [0] = grow ((c.take i).foldl grow [0]) x := by
        rw [take_more hx, List.foldl_append]
        rfl
      obtain ⟨m, k1, _, _⟩ := span_sp ok.hi ok.lt (c.take i) [0] 0 (fun x hx => List.mem_of_mem_take hx) (span_start ok.hi ok.lt e0)
      have hS : ((c.take i).foldl grow [0]).length ≤ 64 := Nat.le_trans (nodup_len k1.nd k1.lt) (pow_small ok.hi)
      generalize hSd : (c.take i).foldl grow [0] = S at *
      cases hci : S.contains x with
      | true =>
        refine ifF ?_ ?_
        · show (!inV (.int (x : Int)) (nV S)) = false
          rw [inV_nV, hci]
          rfl
        · refine ⟨l, _, u, rfl, s1, ?_⟩
          rw [st, grow, if_pos hci]
          exact h1
      | false =>
        refine ifT ?_ ?_
        · show (!inV (.int (x : Int)) (nV S)) = true
          rw [inV_nV, hci]
          rfl
        · refine ⟨_, rfl, _, rfl, l, rfl, ⟨_, SqL.of h1⟩, fun D hD => ?_⟩
          refine lc_list (K := K) (a := l) (xs := nV S) (fun j H2 => Same H' H2 ∧ H2 D = some (.lst (nV ((S.take j).map fun o => x ^^^ o)))) ?_ ?_ ?_ ?_
          · exact ⟨same_new hD, upd_same⟩
          · exact fun j H2 _ p => p.1.seq (SqL.of h1)
          · rintro j v2 H2 hv2 ⟨s2, h2⟩
            obtain ⟨o, ho, rfl⟩ := nV_get hv2
            refine ⟨rfl, _, rfl, _, rfl, _, _, rfl, rfl, _, h2, ?_, same_put s2 hD, ?_⟩
            · rw [nV_len, List.length_map, List.length_take]
              exact small64 (by omega)
            · rw [map_more _ ho, nV_app]
              show upd H2 D (HO.lst (nV ((S.take j).map fun o => x ^^^ o) ++ [V.int (Builtin.bitXor (x : Int) (o : Int))])) D = _
              rw [xor_nn]
              exact upd_same
          · rintro H2 ⟨s2, h2⟩
            rw [nV_len, List.take_length] at h2
            refine ⟨l, D, _, _, rfl, rfl, s2 _ _ h1, h2, ?_, fun p hp => ⟨p, _, _, rfl, same_put (s1.trans s2) ((s1.trans s2).free hp), ?_⟩⟩
            · rw [nV_len, nV_len, List.length_map]
              exact Nat.le_of_lt (Nat.lt_of_le_of_lt (by omega : S.length + S.length ≤ 128) (by decide))
            · rw [st, grow, if_neg (by rw [hci]; decide), nV_app]
              exact upd_same
    · rintro σ H' ⟨l, v, u, rfl, s1, h1⟩
      rw [nV_len, List.take_length] at h1
      obtain ⟨sp1, sp2, sp3⟩ := span_ok ok e0
      refine ⟨_, rfl, l, (span c).map Int.ofNat, rfl, SqL.of (by rw [← nV_ints]; exact h1), fun ns q hp hs hq => k _ q (same_put s1 (s1.free hq)) (s1.free hq) ?_⟩
      rw [sorted_is sp1 sp2 hp hs, sp3, ← nV_ints]
      exact upd_same
/-- how far the nearest two of them are apart -/
def sp_f_least_distance (K : PySem.W.Frag) : Sp := fun vs H Q _ => ∃ (a : Addr) (c : List Nat), vs = [.ref a] ∧ 2 ≤ c.length ∧ c.length ≤ 64 ∧ SqL K H a (nV c) ∧
  ∀ H', Same H H' → Q (.int ((mn (nears c) : Nat) : Int)) H'
theorem ok_f_least_distance (T : Txt K mg A) : FnOk P w K mg base CX0 4 A.a_f_least_distance A.d_f_least_distance ["there"] (sp_f_least_distance K) := by
  refine T.f_least_distance.ok sc_f_least_distance (fun vs H Q E h => ?_) (fun cdv Ar outer s H vs Q E hr h => ⟨_, (pss_cons (ps_set (i := 1) sc_f_least_distance.nd rfl (Or.inl rfl) (pe_lst pa_nil))
    (pss_cons (ps_for PassesOwn.never rfl (pi_range2 (by rfl) T.n_range (pa_cons pe_int (pa_cons (pe_callB (call_lenK (K := K) rfl) (by rfl) T.n_len PySem.boot_len (pa_cons (pv 0) pa_nil)) pa_nil))) (pg_name (i := 2) sc_f_least_distance.nd rfl (Or.inl rfl))
    (pss_one (ps_expr (pe_bm PySem.F.plainAttrs_list PySem.F.slot_list_append PySem.F.type_list_append mt_append (pv 1) (pa_cons (pe_callB (cr_minK (K := K) rfl rfl) (by rfl) T.n_min (by decide +kernel) (pa_cons (pe_call (ok_f_distances T) (hr.mono (by decide)) (by rfl) T.g_f_distances T.f_distances.kp T.b_f_distances .nil pass0 (pa_cons (pe_ix (ix_listK (K := K) rfl) (pv 0) (pv 2) (fun _ _ => rfl)) (pa_cons (pe_slice (sl_listK (K := K) rfl) (pv 0) po_none (po_some (pv 2))) pa_nil))) pa_nil)) pa_nil)))))
    (pss_one (ps_ret (pe_callB (cr_minK (K := K) rfl rfl) (by rfl) T.n_min (by decide +kernel) (pa_cons (pv 1) pa_nil)))))), ?_⟩)
  · obtain ⟨a, c, rfl, _⟩ := h
    rfl
  · obtain ⟨a, c, rfl, h2, h64, hc, k⟩ := h
    refine ⟨(by decide), fun l hl => ?_⟩
    refine ⟨_, rfl, a, _, rfl, .inl ((same_new hl).seq hc), _, _, rfl, ?_, ?_⟩
    · rw [nV_len]
      refine ⟨by decide, by decide, by omega, ?_⟩
      exact Int.lt_of_le_of_lt (Int.ofNat_le.mpr h64) (by decide)
    have en : (((nV c).length : Int) - 1).toNat = c.length - 1 := by
      rw [nV_len]
      omega
    rw [en]
    refine for_range (lo := 1) (n := c.length - 1) (fun i σ H' => ∃ (v : Option V), σ = [some (.ref a), some (.ref l), v] ∧ Same H H' ∧ H' l = some (.lst (nV ((List.range i).map (near c))))) ?_ ?_ ?_
    · exact ⟨none, rfl, same_new hl, upd_same⟩
    · rintro i σ H' hi ⟨v, rfl, s1, h1⟩
      refine ⟨_, rfl, .inl ⟨rfl, _, SqL.of h1⟩, ?_⟩
      refine ⟨_, rfl, _, rfl, a, _, _, V.int ((c.getD (i + 1) 0 : Nat) : Int), rfl, rfl, s1.seq hc, at_of (j := i + 1) (by omega) (nV_at (by omega)), ?_⟩
      refine ⟨_, rfl, _, rfl, _, rfl, a, _, rfl, s1.seq hc, fun p hp => ?_⟩
      have ei : (1 : Int) + (i : Int) = ((i + 1 : Nat) : Int) := by omega
      rw [ei, cut_take, nV_take]
      refine ⟨_, p, c.take (i + 1), rfl, ?_, SqL.of upd_same, fun H2 q s2 h2 => ?_⟩
      · rw [List.length_take]
        omega
      have s3 : Same H' H2 := (same_new hp).trans s2
      refine ⟨q, ((c.take (i + 1)).map (dst (c.getD (i + 1) 0))).map Int.ofNat, rfl, SqL.of (by rw [← nV_ints]; exact h2), ?_, fun m hm1 hm2 => ?_⟩
      · rw [List.length_map, List.length_map, List.length_take]
        omega
      refine ⟨l, _, _, rfl, rfl, s3 _ _ h1, ?_, ?_⟩
      · rw [nV_len, List.length_map, List.length_range]
        exact small64 (by omega)
      · refine ⟨_, rfl, same_put (s1.trans s3) hl, ?_⟩
        rw [List.range_succ, List.map_append, nV_app, min_is hm1 hm2]
        exact upd_same
    · rintro σ H' ⟨v, rfl, s1, h1⟩
      refine ⟨_, rfl, l, (nears c).map Int.ofNat, rfl, SqL.of (by rw [← nV_ints]; exact h1), ?_, fun m hm1 hm2 => ?_⟩
      · unfold nears
        rw [List.length_map, List.length_map, List.length_range]
        omega
      · rw [min_is hm1 hm2]
        exact k H' s1
end
end Fw
/-! piece D2 -/
namespace Fw
open PySem PySem.Spec PyProof.Rows L2
/-! ### the object -/
def wF (n : Nat) (l : Addr) : List (Str × V) := [("bits", .int (n : Int)), ("there", .ref l)]
/-- at p stands the object with so many bits and these words; its list is not the one at g -/
def At (C g : Addr) (H : Hp) (p : Addr) (a : Kh407.Abs) : Prop := ∃ dx l, H p = some (.ins C dx (wF a.n l)) ∧ H l = some (.lst (nV a.c)) ∧ l ≠ g
theorem ne_g {H : Hp} {g q : Addr} (hg : H g ≠ none) (hq : H q = none) : q ≠ g := fun e => hg (e ▸ hq)
def OkA (a : Kh407.Abs) : Prop := Ok a.n a.c
def ansV (r : Kh407.Ans) : List V := (r.ret :: r.out).map V.int
theorem lk_here {k : Str} {v : V} {r : List (Str × V)} : List.lookup k ((k, v) :: r) = some v := by
  have e : (k == k) = true := beq_self_eq_true k
  simp only [List.lookup, e]
theorem lk_past {k g : Str} {v : V} {r : List (Str × V)} (h : (k == g) = false) : List.lookup k ((g, v) :: r) = List.lookup k r := by
  simp only [List.lookup, h]
theorem put_here {f : Str} {v x : V} {r : List (Str × V)} : putF f v ((f, x) :: r) = (f, v) :: r := if_pos rfl
theorem put_past {f g : Str} {v x : V} {r : List (Str × V)} (h : ¬ g = f) : putF f v ((g, x) :: r) = (g, x) :: putF f v r := if_neg h
theorem wF_bits (n : Nat) (l : Addr) : (wF n l).lookup ("bits" : Str) = some (.int (n : Int)) := lk_here
theorem wF_there (n : Nat) (l : Addr) : (wF n l).lookup ("there" : Str) = some (.ref l) := (lk_past (by decide +kernel)).trans lk_here
theorem wF_no {m : Str} (h1 : (m == ("bits" : Str)) = false) (h2 : (m == ("there" : Str)) = false) (n : Nat) (l : Addr) : (wF n l).lookup m = none := (lk_past h1).trans ((lk_past h2).trans rfl)
theorem wF_putT (n : Nat) (l l' : Addr) : putF "there" (.ref l') (wF n l) = wF n l' := (put_past (by decide +kernel)).trans (congrArg _ put_here)
theorem wF_putB (n m : Nat) (l : Addr) : putF "bits" (.int (m : Int)) (wF n l) = wF m l := put_here
theorem At.same {C g p : Addr} {H H' : Hp} {a : Kh407.Abs} (h : At C g H p a) (s : Same H H') : At C g H' p a := by
  obtain ⟨dx, l, h1, h2, h3⟩ := h
  exact ⟨dx, l, s _ _ h1, s _ _ h2, h3⟩
/-- a call with these numbers does what the specification says, and answers that -/
def spM (C : Addr) (k : Nat) (mk : List Nat → Kh407.Call) : Sp := fun vs H Q _ => ∃ (p g : Addr) (a : Kh407.Abs) (xs : List Nat), vs = V.ref p :: nV xs ∧ xs.length = k ∧ At C g H p a ∧ H g ≠ none ∧ OkA a ∧
  ∀ H' q, At C g H' p (Kh407.does a (mk xs)).1 → Els p H H' → q ≠ g → H' q = some (.lst (ansV (Kh407.does a (mk xs)).2)) → Q (.ref q) H'
theorem list0 {xs : List Nat} (h : xs.length = 0) : xs = [] := List.length_eq_zero_iff.mp h
theorem list1 {xs : List Nat} (h : xs.length = 1) : ∃ x, xs = [x] := List.length_eq_one_iff.mp h
theorem list2 {xs : List Nat} (h : xs.length = 2) : ∃ x y, xs = [x, y] := match xs, h with
  | [x, y], _ => ⟨x, y, rfl⟩
theorem one_small {v : V} : [v].length ≤ sizeLine := by
  show 1 ≤ sizeLine
  decide
theorem two_small {v u : V} : [v, u].length ≤ sizeLine := by
  show 2 ≤ sizeLine
  decide
section
variable {P : Program} {w : World} {K : PySem.W.Frag} {mg : Str → Option Value} {base : Heap} {A : Adr}
def sp_m_init (C : Addr) : Sp := fun vs H Q _ => ∃ (p dx : Addr), vs = [.ref p] ∧ H p = some (.ins C dx []) ∧
  ∀ H' dx l, H' p = some (.ins C dx (wF 0 l)) → H' l = some (.lst []) → Els p H H' → Q .non H'
theorem ok_m_init (T : Txt K mg A) : FnOk P w K mg base CX0 1 A.a_m_init A.d_m_init ["self"] (sp_m_init A.C_WordSet) := by
  refine T.m_init.ok sc_m_init (fun vs H Q E h => ?_) (fun cdv Ar outer s H vs Q E hr h => ⟨_, (pss_cons (ps_fld (pv 0) pe_int rfl)
    (pss_one (ps_fld (pv 0) (pe_lst pa_nil) rfl))), ?_⟩)
  · obtain ⟨p, dx, rfl, _⟩ := h
    rfl
  · obtain ⟨p, dx, rfl, hp, k⟩ := h
    refine ⟨_, rfl, p, _, dx, [], rfl, hp, T.cl_WordSet, T.nf_bits, (by decide), ?_⟩
    refine ⟨(by decide), fun l hl => ⟨_, rfl, p, _, dx, _, rfl, (by rw [upd_ne (ne_of_none upd_same hl)]; exact upd_same), T.cl_WordSet, T.nf_there, (by decide), ?_⟩⟩
    have hlp : l ≠ p := fun e => by
      rw [e, upd_same] at hl
      cases hl
    refine k _ dx l (Eq.trans upd_same (congrArg (fun q => some (HO.ins A.C_WordSet dx q)) rfl)) ?_ fun b o e hb => ?_
    · rw [upd_ne hlp]
      exact upd_same
    · rw [upd_ne hb, upd_ne ?_, upd_ne hb]
      · exact e
      · rintro rfl
        rw [upd_ne hb, e] at hl
        cases hl
def sp_m_is_begun (C : Addr) : Sp := fun vs H Q _ => ∃ (p g : Addr) (a : Kh407.Abs), vs = [.ref p] ∧ At C g H p a ∧ Q (.bl (decide (0 < a.n))) H
theorem ok_m_is_begun (T : Txt K mg A) : FnOk P w K mg base CX0 1 A.a_m_is_begun A.d_m_is_begun ["self"] (sp_m_is_begun A.C_WordSet) := by
  refine T.m_is_begun.ok sc_m_is_begun (fun vs H Q E h => ?_) (fun cdv Ar outer s H vs Q E hr h => ⟨_, (pss_one (ps_ret (pe_cmpR op_gt (pe_fldK (K := K) rfl (pv 0) rfl) pe_int (nomark _)))), ?_⟩)
  · obtain ⟨p, g, a, rfl, _⟩ := h
    rfl
  · obtain ⟨p, g, a, rfl, ⟨dx, l, h1, h2, hlg⟩, k⟩ := h
    refine ⟨_, rfl, p, _, dx, _, _, rfl, h1, T.cl_WordSet, T.nf_bits, wF_bits _ _, _, _, rfl, rfl, ?_⟩
    have e : decide ((0 : Int) < (a.n : Int)) = decide (0 < a.n) := by
      by_cases c : 0 < a.n
      · rw [decide_eq_true c, decide_eq_true (by omega)]
      · rw [decide_eq_false c, decide_eq_false (by omega)]
    show Q (.bl (decide ((0 : Int) < (a.n : Int)))) H
    rw [e]
    exact k
def sp_m_fits (C : Addr) : Sp := fun vs H Q _ => ∃ (p g : Addr) (a : Kh407.Abs) (x : Nat), vs = [.ref p, .int (x : Int)] ∧ At C g H p a ∧ a.n ≤ 6 ∧ Q (.bl (Kh407.isW a x)) H
theorem ok_m_fits (T : Txt K mg A) : FnOk P w K mg base CX0 1 A.a_m_fits A.d_m_fits ["self", "word"] (sp_m_fits A.C_WordSet) := by
  refine T.m_fits.ok sc_m_fits (fun vs H Q E h => ?_) (fun cdv Ar outer s H vs Q E hr h => ⟨_, (pss_one (ps_ret (pe_cmpR op_lt (pv 1) (pe_op op_shl pe_int (pe_fldK (K := K) rfl (pv 0) rfl)) (nomark _)))), ?_⟩)
  · obtain ⟨p, g, a, x, rfl, _⟩ := h
    rfl
  · obtain ⟨p, g, a, x, rfl, ⟨dx, l, h1, h2, hlg⟩, hn, k⟩ := h
    refine ⟨_, rfl, _, rfl, p, _, dx, _, _, rfl, h1, T.cl_WordSet, T.nf_bits, wF_bits _ _, _, _, rfl, rfl, ⟨by omega, by omega, by decide⟩, _, _, rfl, rfl, ?_⟩
    have e : decide ((x : Int) < 1 * 2 ^ ((a.n : Int).toNat)) = Kh407.isW a x := by
      rw [one_shl]
      unfold Kh407.isW
      by_cases c : x < 2 ^ a.n
      · rw [decide_eq_true c, decide_eq_true (Int.ofNat_lt.mpr c)]
      · rw [decide_eq_false c, decide_eq_false fun h => c (Int.ofNat_lt.mp h)]
    show Q (.bl (decide ((x : Int) < 1 * 2 ^ ((a.n : Int).toNat)))) H
    rw [e]
    exact k
/-- begin: also ahead of the first -/
def sp_m_begin (C : Addr) : Sp := fun vs H Q _ => ∃ (p g : Addr) (a : Kh407.Abs) (x : Nat), vs = [.ref p, .int (x : Int)] ∧ At C g H p a ∧ H g ≠ none ∧
  (x < 1 ∨ 6 < x → ∀ H' q, At C g H' p a → Els p H H' → q ≠ g → H' q = some (.lst [.int (-22)]) → Q (.ref q) H') ∧
  (¬ (x < 1 ∨ 6 < x) → ∀ H' q, At C g H' p ⟨x, []⟩ → Els p H H' → q ≠ g → H' q = some (.lst [.int 0]) → Q (.ref q) H')
theorem ok_m_begin (T : Txt K mg A) : FnOk P w K mg base CX0 1 A.a_m_begin A.d_m_begin ["self", "bits"] (sp_m_begin A.C_WordSet) := by
  refine T.m_begin.ok sc_m_begin (fun vs H Q E h => ?_) (fun cdv Ar outer s H vs Q E hr h => ⟨_, (pss_cons (ps_if (PW.pt (pw_or (pt_cmpR op_lt (pv 1) pe_int (nomark _)) (pw_or1 (pt_cmpR op_gt (pv 1) (pe_gi (by rfl) T.c_MOST_BITS) (nomark _))))) (pss_one (ps_ret (pe_lst (pa_cons (pe_gi (by rfl) T.c_DOES_NOT_FIT) pa_nil)))) pss_nil)
    (pss_cons (ps_fld (pv 0) (pv 1) rfl)
    (pss_cons (ps_fld (pv 0) (pe_lst pa_nil) rfl)
    (pss_one (ps_ret (pe_lst (pa_cons pe_int pa_nil))))))), ?_⟩)
  · obtain ⟨p, g, a, x, rfl, _⟩ := h
    rfl
  · obtain ⟨p, g, a, x, rfl, ⟨dx, l, h1, h2, hlg⟩, hg, k1, k2⟩ := h
    refine ⟨_, rfl, _, _, rfl, rfl, _, rfl, ?_⟩
    by_cases c1 : (x : Int) < 1
    · refine ifT (decide_eq_true c1) ?_
      refine ⟨one_small, fun q hq => k1 (.inl (by omega)) _ q ⟨dx, l, same_new hq _ _ h1, same_new hq _ _ h2, hlg⟩ (.of (same_new hq)) (ne_g hg hq) upd_same⟩
    refine ifF (decide_eq_false c1) ?_
    refine ⟨_, rfl, _, _, rfl, rfl, _, rfl, ?_⟩
    by_cases c2 : (6 : Int) < (x : Int)
    · refine ifT (decide_eq_true c2) ?_
      refine ⟨one_small, fun q hq => k1 (.inr (by omega)) _ q ⟨dx, l, same_new hq _ _ h1, same_new hq _ _ h2, hlg⟩ (.of (same_new hq)) (ne_g hg hq) upd_same⟩
    refine ifF (decide_eq_false c2) ?_
    refine ⟨_, rfl, _, rfl, p, _, dx, _, rfl, h1, T.cl_WordSet, T.nf_bits, (by show 2 < 1000; decide), ?_⟩
    refine ⟨(by decide), fun m hm => ⟨_, rfl, p, _, dx, _, rfl, (by rw [upd_ne (ne_of_none upd_same hm)]; exact upd_same), T.cl_WordSet, T.nf_there, (by rw [wF_putB]; show 2 < 1000; decide), ?_⟩⟩
    have hmp : m ≠ p := fun e => by
      rw [e, upd_same] at hm
      cases hm
    have hm0 : H m = none := by rw [upd_ne hmp] at hm; exact hm
    refine ⟨one_small, fun q hq => k2 (by omega) _ q ⟨dx, m, ?_, ?_, ne_g hg hm0⟩ ?_ (ne_g (H := upd (upd (upd H p (HO.ins A.C_WordSet dx (putF "bits" (V.int (x : Int)) (wF a.n l)))) m (HO.lst [])) p (HO.ins A.C_WordSet dx (putF "there" (V.ref m) (putF "bits" (V.int (x : Int)) (wF a.n l))))) ?_ hq) upd_same⟩
    · rw [upd_ne (ne_of_none upd_same hq), upd_same, wF_putB, wF_putT]
    · have e : (upd (upd (upd H p (HO.ins A.C_WordSet dx (putF "bits" (V.int (x : Int)) (wF a.n l)))) m (HO.lst [])) p (HO.ins A.C_WordSet dx (putF "there" (V.ref m) (putF "bits" (V.int (x : Int)) (wF a.n l))))) m = some (HO.lst []) := by
        rw [upd_ne hmp]
        exact upd_same
      rw [upd_ne (ne_of_none e hq)]
      exact e
    · intro b o e hb
      have hbm : b ≠ m := fun z => by
        rw [z, hm0] at e
        cases e
      have e2 : (upd (upd (upd H p (HO.ins A.C_WordSet dx (putF "bits" (V.int (x : Int)) (wF a.n l)))) m (HO.lst [])) p (HO.ins A.C_WordSet dx (putF "there" (V.ref m) (putF "bits" (V.int (x : Int)) (wF a.n l))))) b = some o := by
        rw [upd_ne hb, upd_ne hbm, upd_ne hb]
        exact e
      rw [upd_ne (ne_of_none e2 hq)]
      exact e2
    · by_cases z : g = p
      · rw [z, upd_same]
        intro y
        cases y
      · rw [upd_ne z, upd_ne (ne_g hg hm0).symm, upd_ne z]
        exact hg
def sp_m_many (C : Addr) : Sp := spM C 0 fun _ => .many
theorem ok_m_many (T : Txt K mg A) : FnOk P w K mg base CX0 1 A.a_m_many A.d_m_many ["self"] (sp_m_many A.C_WordSet) := by
  refine T.m_many.ok sc_m_many (fun vs H Q E h => ?_) (fun cdv Ar outer s H vs Q E hr h => ⟨_, (pss_one (ps_ret (pe_lst (pa_cons (pe_callB (call_lenK (K := K) rfl) (by rfl) T.n_len PySem.boot_len (pa_cons (pe_fldK (K := K) rfl (pv 0) rfl) pa_nil)) pa_nil)))), ?_⟩)
  · obtain ⟨p, g, a, xs, rfl, hx, _⟩ := h
    rw [list0 hx]
    rfl
  · obtain ⟨p, g, a, xs, rfl, hx, ⟨dx, l, h1, h2, hlg⟩, hg, ok, k⟩ := h
    cases list0 hx
    refine ⟨_, rfl, p, _, dx, _, _, rfl, h1, T.cl_WordSet, T.nf_there, wF_there _ _, l, _, rfl, .inl (SqL.of h2), one_small, fun q hq => ?_⟩
    refine k _ q ⟨dx, l, same_new hq _ _ h1, same_new hq _ _ h2, hlg⟩ (.of (same_new hq)) (ne_g hg hq) ?_
    rw [nV_len]
    exact upd_same
end
end Fw
/-! piece D2b -/
namespace Fw
open PySem PySem.Spec PyProof.Rows L2
/-- self.there = q -/
theorem at_set {C g p dx l q : Addr} {n : Nat} {c : List Nat} {H : Hp} (h1 : H p = some (.ins C dx (wF n l))) (hqg : q ≠ g) (h2 : H q = some (.lst (nV c))) :
    At C g (upd H p (.ins C dx (putF "there" (.ref q) (wF n l)))) p ⟨n, c⟩ := by
  refine ⟨dx, q, ?_, ?_, hqg⟩
  · rw [wF_putT]
    exact upd_same
  · rw [upd_ne (ne_of h2 h1 (by intro z; cases z))]
    exact h2
theorem els_set {p : Addr} {H : Hp} {o : HO} : Els p H (upd H p o) := fun b u e hb => by
  rw [upd_ne hb]
  exact e
theorem live_set {H H3 : Hp} {g p : Addr} {o : HO} (hg : H g ≠ none) (s : Same H H3) : (upd H3 p o) g ≠ none := by
  by_cases z : g = p
  · rw [z, upd_same]
    intro y
    cases y
  · rw [upd_ne z]
    intro y
    exact hg (s.free y)
section
variable {P : Program} {w : World} {K : PySem.W.Frag} {mg : Str → Option Value} {base : Heap} {A : Adr}
theorem small_fields {n : Nat} {l : Addr} : (wF n l).length < 1000 := by
  show 2 < 1000
  decide
def sp_m_put (C : Addr) : Sp := spM C 1 fun xs => .put (xs.headD 0)
theorem ok_m_put (T : Txt K mg A) : FnOk P w K mg base CX0 2 A.a_m_put A.d_m_put ["self", "x"] (sp_m_put A.C_WordSet) := by
  refine T.m_put.ok sc_m_put (fun vs H Q E h => ?_) (fun cdv Ar outer s H vs Q E hr h => ⟨_, (pss_cons (ps_if (pt_not (pt_val (pe_meth (pv 0) T.cl_WordSet T.mt_m_fits (ok_m_fits T) (hr.mono (by decide)) T.b_m_fits .nil pass0 (pa_cons (pv 1) pa_nil)))) (pss_one (ps_ret (pe_lst (pa_cons (pe_gi (by rfl) T.c_DOES_NOT_FIT) pa_nil)))) pss_nil)
    (pss_cons (ps_if (pt_cmpR (op_inK (K := K) rfl) (pv 1) (pe_fldK (K := K) rfl (pv 0) rfl) (by rfl)) (pss_one (ps_ret (pe_lst (pa_cons (pe_gi (by rfl) T.c_ALREADY_THERE) pa_nil)))) pss_nil)
    (pss_cons (ps_fld (pv 0) (pe_callB (cr_sortedK (K := K) rfl) (by rfl) T.n_sorted (by decide +kernel) (pa_cons (pe_op op_cat (pe_fldK (K := K) rfl (pv 0) rfl) (pe_lst (pa_cons (pv 1) pa_nil))) pa_nil)) rfl)
    (pss_one (ps_ret (pe_meth0 (pv 0) T.cl_WordSet T.mt_m_many (ok_m_many T) (hr.mono (by decide)) T.b_m_many .nil pass0)))))), ?_⟩)
  · obtain ⟨p, g, a, xs, rfl, hx, _⟩ := h
    obtain ⟨x, rfl⟩ := list1 hx
    rfl
  · obtain ⟨p, g, ⟨n, c⟩, xs, rfl, hx, ⟨dx, l, h1, h2, hlg⟩, hg, ok, k⟩ := h
    obtain ⟨x, rfl⟩ := list1 hx
    have k : ∀ H' q, At A.C_WordSet g H' p (Kh407.does ⟨n, c⟩ (.put x)).1 → Els p H H' → q ≠ g → H' q = some (.lst (ansV (Kh407.does ⟨n, c⟩ (.put x)).2)) → Q (.ref q) H' := k
    have ok : Ok n c := ok
    refine ⟨_, rfl, p, dx, _, rfl, h1, wF_no (by decide +kernel) (by decide +kernel) _ _, _, rfl, p, g, ⟨n, c⟩, x, rfl, ⟨dx, l, h1, h2, hlg⟩, ok.hi, _, rfl, ?_⟩
    cases e : Kh407.isW ⟨n, c⟩ x with
    | false =>
      rw [does_put_bad e] at k
      exact ⟨one_small, fun q hq => k _ q ⟨dx, l, same_new hq _ _ h1, same_new hq _ _ h2, hlg⟩ (.of (same_new hq)) (ne_g hg hq) upd_same⟩
    | true =>
      refine ⟨_, rfl, _, rfl, p, _, dx, _, _, rfl, h1, T.cl_WordSet, T.nf_there, wF_there _ _, l, _, rfl, .inl (SqL.of h2), rfl, flat_nV c, _, rfl, ?_⟩
      have hlt : x < 2 ^ n := isW_lt.mp e
      cases e2 : c.contains x with
      | true =>
        rw [does_put_in e e2] at k
        refine ifT (by show inV (.int (x : Int)) (nV c) = true; rw [inV_nV, e2]) ?_
        exact ⟨one_small, fun q hq => k _ q ⟨dx, l, same_new hq _ _ h1, same_new hq _ _ h2, hlg⟩ (.of (same_new hq)) (ne_g hg hq) upd_same⟩
      | false =>
        rw [does_put e e2] at k
        refine ifF (by show inV (.int (x : Int)) (nV c) = false; rw [inV_nV, e2]) ?_
        have hnx : x ∉ c := fun z => by
          rw [List.contains_iff_mem.mpr z] at e2
          cases e2
        refine ⟨_, rfl, p, _, dx, _, _, rfl, h1, T.cl_WordSet, T.nf_there, wF_there _ _, _, rfl, one_small, fun b hb => ?_⟩
        have s1 := same_new (o := .lst [V.int (x : Int)]) hb
        refine ⟨l, b, _, _, rfl, rfl, s1 _ _ h2, upd_same, ?_, fun d hd => ?_⟩
        · rw [nV_len]
          have := ok_len ok
          show c.length + 1 ≤ sizeLine
          exact Nat.le_of_lt (Nat.lt_of_le_of_lt (by omega : c.length + 1 ≤ 65) (by decide))
        have s2 := s1.trans (same_new (o := .lst (nV c ++ [V.int (x : Int)])) hd)
        have hnd : (c ++ [x]).Nodup := by
          rw [List.nodup_append]
          exact ⟨ok_nodup ok, by simp, fun a ha b hb e => hnx (by rw [List.mem_singleton] at hb; rw [← hb, ← e]; exact ha)⟩
        have hall : ∀ y ∈ c ++ [x], y < 2 ^ n := fun y hy => by
          rcases List.mem_append.mp hy with z | z
          · exact ok.lt y z
          · rw [List.mem_singleton] at z
            rw [z]
            exact hlt
        refine ⟨d, (c ++ [x]).map Int.ofNat, rfl, SqL.of (by rw [← nV_ints, nV_app]; exact upd_same), fun ns q hp hs hq => ?_⟩
        have s3 := s2.trans (same_new (o := .lst (ns.map V.int)) hq)
        have en := sorted_is hnd hall hp hs
        refine ⟨_, rfl, p, _, dx, _, rfl, s3 _ _ h1, T.cl_WordSet, T.nf_there, small_fields, ?_⟩
        have ec : Kh407.sorted n (c ++ [x]) = Kh407.sorted n (x :: c) := sorted_congr fun y => by
          rw [List.mem_append, List.mem_singleton, List.mem_cons]
          exact Or.comm
        have a4 := at_set (C := A.C_WordSet) (c := Kh407.sorted n (x :: c)) (q := q) (s3 _ _ h1) (ne_g hg (s2.free hq)) (by rw [upd_same, en, ← nV_ints, ec])
        obtain ⟨dx4, l4, h41, h42, hlg4⟩ := a4
        refine ⟨_, rfl, p, dx4, _, rfl, h41, wF_no (by decide +kernel) (by decide +kernel) _ _, p, g, ⟨n, Kh407.sorted n (x :: c)⟩, [], rfl, rfl, ⟨dx4, l4, h41, h42, hlg4⟩, live_set hg s3, sorted_ok ok.lo ok.hi, fun H' r hA hE hrg hr => ?_⟩
        refine k H' r hA (Els.trans (Els.trans (.of s3) els_set) hE) hrg ?_
        rw [hr]
        show some (HO.lst [V.int (((Kh407.sorted n (x :: c)).length : Nat) : Int)]) = some (HO.lst [V.int ((c.length + 1 : Nat) : Int)])
        rw [← ec, sorted_len hnd hall, List.length_append]
        rfl
end
end Fw
/-! piece D2c -/
namespace Fw
open PySem PySem.Spec PyProof.Rows L2
section
variable {P : Program} {w : World} {K : PySem.W.Frag} {mg : Str → Option Value} {base : Heap} {A : Adr}
theorem ne_int (x y : Nat) : (!decide (V.int (x : Int) = V.int (y : Int))) = (x != y) := by
  by_cases h : x = y
  · subst h
    rw [decide_eq_true rfl]
    simp
  · rw [decide_eq_false (fun e => h (by have := V.int.inj e; omega))]
    simp [h]
def sp_m_take (C : Addr) : Sp := spM C 1 fun xs => .take (xs.headD 0)
theorem ok_m_take (T : Txt K mg A) : FnOk P w K mg base CX0 2 A.a_m_take A.d_m_take ["self", "x"] (sp_m_take A.C_WordSet) := by
  refine T.m_take.ok sc_m_take (fun vs H Q E h => ?_) (fun cdv Ar outer s H vs Q E hr h => ⟨_, (pss_cons (ps_if (pt_not (pt_val (pe_meth (pv 0) T.cl_WordSet T.mt_m_fits (ok_m_fits T) (hr.mono (by decide)) T.b_m_fits .nil pass0 (pa_cons (pv 1) pa_nil)))) (pss_one (ps_ret (pe_lst (pa_cons (pe_gi (by rfl) T.c_DOES_NOT_FIT) pa_nil)))) pss_nil)
    (pss_cons (ps_if (pt_cmpR (op_notInK (K := K) rfl) (pv 1) (pe_fldK (K := K) rfl (pv 0) rfl) (by rfl)) (pss_one (ps_ret (pe_lst (pa_cons (pe_gi (by rfl) T.c_NOT_THERE) pa_nil)))) pss_nil)
    (pss_cons (ps_fld (pv 0) (pe_lc (own := [("word", 2)]) (g := gName 2) rfl sc_m_take.nd (pi_listK (K := K) rfl (pe_fldK (K := K) rfl (pv 0) rfl)) (blkOk_by (own := [("word", 2)]) (N := N_m_take) (sc := defScope s_m_take) (by decide +kernel)) (fun _ _ _ _ _ => (pg_name (i := 2) sc_m_take.nd rfl (Or.inl rfl))) (fun _ _ _ _ _ => pts_one (pt_cmpR op_ne (pv 2) (pv 1) (nomark _))) (fun _ _ _ _ _ => (pv 2))) rfl)
    (pss_one (ps_ret (pe_meth0 (pv 0) T.cl_WordSet T.mt_m_many (ok_m_many T) (hr.mono (by decide)) T.b_m_many .nil pass0)))))), ?_⟩)
  · obtain ⟨p, g, a, xs, rfl, hx, _⟩ := h
    obtain ⟨x, rfl⟩ := list1 hx
    rfl
  · obtain ⟨p, g, ⟨n, c⟩, xs, rfl, hx, ⟨dx, l, h1, h2, hlg⟩, hg, ok, k⟩ := h
    obtain ⟨x, rfl⟩ := list1 hx
    have k : ∀ H' q, At A.C_WordSet g H' p (Kh407.does ⟨n, c⟩ (.take x)).1 → Els p H H' → q ≠ g → H' q = some (.lst (ansV (Kh407.does ⟨n, c⟩ (.take x)).2)) → Q (.ref q) H' := k
    have ok : Ok n c := ok
    refine ⟨_, rfl, p, dx, _, rfl, h1, wF_no (by decide +kernel) (by decide +kernel) _ _, _, rfl, p, g, ⟨n, c⟩, x, rfl, ⟨dx, l, h1, h2, hlg⟩, ok.hi, _, rfl, ?_⟩
    cases e : Kh407.isW ⟨n, c⟩ x with
    | false =>
      rw [does_take_bad e] at k
      exact ⟨one_small, fun q hq => k _ q ⟨dx, l, same_new hq _ _ h1, same_new hq _ _ h2, hlg⟩ (.of (same_new hq)) (ne_g hg hq) upd_same⟩
    | true =>
      refine ⟨_, rfl, _, rfl, p, _, dx, _, _, rfl, h1, T.cl_WordSet, T.nf_there, wF_there _ _, l, _, rfl, .inl (SqL.of h2), rfl, flat_nV c, _, rfl, ?_⟩
      cases e2 : c.contains x with
      | false =>
        rw [does_take_not e e2] at k
        refine ifT (by show (!inV (.int (x : Int)) (nV c)) = true; rw [inV_nV, e2]; rfl) ?_
        exact ⟨one_small, fun q hq => k _ q ⟨dx, l, same_new hq _ _ h1, same_new hq _ _ h2, hlg⟩ (.of (same_new hq)) (ne_g hg hq) upd_same⟩
      | true =>
        rw [does_take e e2] at k
        have okE := does_ok (a := ⟨n, c⟩) ok (.take x)
        rw [does_take e e2] at okE
        refine ifF (by show (!inV (.int (x : Int)) (nV c)) = false; rw [inV_nV, e2]; rfl) ?_
        refine ⟨_, rfl, p, _, dx, _, _, rfl, h1, T.cl_WordSet, T.nf_there, wF_there _ _, l, rfl, ⟨_, SqL.of h2⟩, fun D hD => ?_⟩
        refine lc_list (K := K) (a := l) (xs := nV c) (fun i H' => Same H H' ∧ H' D = some (.lst (nV ((c.take i).filter fun y => y != x)))) ?_ ?_ ?_ ?_
        · exact ⟨same_new hD, upd_same⟩
        · exact fun i H' _ z => z.1.seq (SqL.of h2)
        · rintro i v H' hv ⟨s1, g1⟩
          obtain ⟨y, hy, rfl⟩ := nV_get hv
          refine ⟨rfl, _, rfl, _, rfl, rfl, _, rfl, ?_⟩
          have em := filter_more (fun y => y != x) hy
          cases hb : (y != x) with
          | true =>
            rw [hb, if_pos rfl] at em
            refine ifT ((ne_int y x).trans hb) ?_
            refine ⟨_, rfl, _, g1, ?_, same_put s1 hD, ?_⟩
            · rw [nV_len]
              refine small64 (Nat.le_trans (List.length_filter_le _ _) ?_)
              rw [List.length_take]
              have := ok_len ok
              omega
            · rw [em, nV_app]
              exact upd_same
          | false =>
            rw [hb, if_neg Bool.false_ne_true, List.append_nil] at em
            refine ifF ((ne_int y x).trans hb) ?_
            refine ⟨s1, ?_⟩
            rw [em]
            exact g1
        · rintro H3 ⟨s3, g3⟩
          rw [nV_len, List.take_length, ← erase_filter (ok_nodup ok)] at g3
          refine ⟨_, rfl, p, _, dx, _, rfl, s3 _ _ h1, T.cl_WordSet, T.nf_there, small_fields, ?_⟩
          have ng3 := ne_g hg hD
          obtain ⟨dx4, l4, h41, h42, hlg4⟩ := at_set (C := A.C_WordSet) (g := g) (s3 _ _ h1) ng3 g3
          refine ⟨_, rfl, p, dx4, _, rfl, h41, wF_no (by decide +kernel) (by decide +kernel) _ _, p, g, ⟨n, c.erase x⟩, [], rfl, rfl, ⟨dx4, l4, h41, h42, hlg4⟩, live_set hg s3, okE, fun H' r hA hE hrg hr => ?_⟩
          refine k H' r hA (Els.trans (Els.trans (.of s3) els_set) hE) hrg ?_
          rw [hr]
          show some (HO.lst [V.int (((c.erase x).length : Nat) : Int)]) = some (HO.lst [V.int ((c.length - 1 : Nat) : Int)])
          rw [List.length_erase_of_mem (List.contains_iff_mem.mp e2)]
def sp_m_rest (C : Addr) : Sp := spM C 0 fun _ => .rest
theorem ok_m_rest (T : Txt K mg A) : FnOk P w K mg base CX0 2 A.a_m_rest A.d_m_rest ["self"] (sp_m_rest A.C_WordSet) := by
  refine T.m_rest.ok sc_m_rest (fun vs H Q E h => ?_) (fun cdv Ar outer s H vs Q E hr h => ⟨_, (pss_cons (ps_fld (pv 0) (pe_call (ok_f_missing T) (hr.mono (by decide)) (by rfl) T.g_f_missing T.f_missing.kp T.b_f_missing .nil pass0 (pa_cons (pe_fldK (K := K) rfl (pv 0) rfl) (pa_cons (pe_fldK (K := K) rfl (pv 0) rfl) pa_nil))) rfl)
    (pss_one (ps_ret (pe_meth0 (pv 0) T.cl_WordSet T.mt_m_many (ok_m_many T) (hr.mono (by decide)) T.b_m_many .nil pass0)))), ?_⟩)
  · obtain ⟨p, g, a, xs, rfl, hx, _⟩ := h
    cases list0 hx
    rfl
  · obtain ⟨p, g, ⟨n, c⟩, xs, rfl, hx, ⟨dx, l, h1, h2, hlg⟩, hg, ok, k⟩ := h
    cases list0 hx
    have ok : Ok n c := ok
    refine ⟨_, rfl, p, _, dx, _, _, rfl, h1, T.cl_WordSet, T.nf_bits, wF_bits _ _, _, rfl, p, _, dx, _, _, rfl, h1, T.cl_WordSet, T.nf_there, wF_there _ _, n, l, c, rfl, ok.hi, SqL.of h2, fun H3 q s3 hq0 g3 => ?_⟩
    refine ⟨_, rfl, p, _, dx, _, rfl, s3 _ _ h1, T.cl_WordSet, T.nf_there, small_fields, ?_⟩
    have ng3 := ne_g hg hq0
    obtain ⟨dx4, l4, h41, h42, hlg4⟩ := at_set (C := A.C_WordSet) (g := g) (s3 _ _ h1) ng3 g3
    refine ⟨_, rfl, p, dx4, _, rfl, h41, wF_no (by decide +kernel) (by decide +kernel) _ _, p, g, ⟨n, _⟩, [], rfl, rfl, ⟨dx4, l4, h41, h42, hlg4⟩, live_set hg s3, rest_ok ok, fun H' r hA hE hrg hr => ?_⟩
    refine k H' r hA (Els.trans (Els.trans (.of s3) els_set) hE) hrg ?_
    rw [hr]
    show some (HO.lst [V.int ((((Kh407.words n).filter fun x => !c.contains x).length : Nat) : Int)]) = some (HO.lst [V.int ((2 ^ n - c.length : Nat) : Int)])
    rw [rest_len ok]
def sp_m_close (C : Addr) : Sp := spM C 0 fun _ => .close
theorem ok_m_close (T : Txt K mg A) : FnOk P w K mg base CX0 2 A.a_m_close A.d_m_close ["self"] (sp_m_close A.C_WordSet) := by
  refine T.m_close.ok sc_m_close (fun vs H Q E h => ?_) (fun cdv Ar outer s H vs Q E hr h => ⟨_, (pss_cons (ps_fld (pv 0) (pe_call (ok_f_closed_up T) (hr.mono (by decide)) (by rfl) T.g_f_closed_up T.f_closed_up.kp T.b_f_closed_up .nil pass0 (pa_cons (pe_fldK (K := K) rfl (pv 0) rfl) pa_nil)) rfl)
    (pss_one (ps_ret (pe_meth0 (pv 0) T.cl_WordSet T.mt_m_many (ok_m_many T) (hr.mono (by decide)) T.b_m_many .nil pass0)))), ?_⟩)
  · obtain ⟨p, g, a, xs, rfl, hx, _⟩ := h
    cases list0 hx
    rfl
  · obtain ⟨p, g, ⟨n, c⟩, xs, rfl, hx, ⟨dx, l, h1, h2, hlg⟩, hg, ok, k⟩ := h
    cases list0 hx
    have ok : Ok n c := ok
    have okC := closing_ok ok
    refine ⟨_, rfl, p, _, dx, _, _, rfl, h1, T.cl_WordSet, T.nf_there, wF_there _ _, l, n, c, rfl, ok, SqL.of h2, fun H3 q s3 hq0 g3 => ?_⟩
    refine ⟨_, rfl, p, _, dx, _, rfl, s3 _ _ h1, T.cl_WordSet, T.nf_there, small_fields, ?_⟩
    have ng3 := ne_g hg hq0
    obtain ⟨dx4, l4, h41, h42, hlg4⟩ := at_set (C := A.C_WordSet) (g := g) (s3 _ _ h1) ng3 g3
    refine ⟨_, rfl, p, dx4, _, rfl, h41, wF_no (by decide +kernel) (by decide +kernel) _ _, p, g, ⟨n, _⟩, [], rfl, rfl, ⟨dx4, l4, h41, h42, hlg4⟩, live_set hg s3, okC.2, fun H' r hA hE hrg hr => ?_⟩
    refine k H' r ?_ (Els.trans (Els.trans (.of s3) els_set) hE) hrg hr
    show At A.C_WordSet g H' p (Kh407.closing (n + 1) ⟨n, c⟩)
    rw [okC.1]
    exact hA
def sp_m_words (C : Addr) : Sp := spM C 0 fun _ => .words
theorem ok_m_words (T : Txt K mg A) : FnOk P w K mg base CX0 1 A.a_m_words A.d_m_words ["self"] (sp_m_words A.C_WordSet) := by
  refine T.m_words.ok sc_m_words (fun vs H Q E h => ?_) (fun cdv Ar outer s H vs Q E hr h => ⟨_, (pss_one (ps_ret (pe_op op_cat (pe_lst (pa_cons (pe_callB (call_lenK (K := K) rfl) (by rfl) T.n_len PySem.boot_len (pa_cons (pe_fldK (K := K) rfl (pv 0) rfl) pa_nil)) pa_nil)) (pe_fldK (K := K) rfl (pv 0) rfl)))), ?_⟩)
  · obtain ⟨p, g, a, xs, rfl, hx, _⟩ := h
    cases list0 hx
    rfl
  · obtain ⟨p, g, ⟨n, c⟩, xs, rfl, hx, ⟨dx, l, h1, h2, hlg⟩, hg, ok, k⟩ := h
    cases list0 hx
    have ok : Ok n c := ok
    refine ⟨_, rfl, p, _, dx, _, _, rfl, h1, T.cl_WordSet, T.nf_there, wF_there _ _, l, _, rfl, .inl (SqL.of h2), one_small, fun b hb => ?_⟩
    have s1 := same_new (o := .lst [V.int ((nV c).length : Int)]) hb
    refine ⟨_, rfl, p, _, dx, _, _, rfl, s1 _ _ h1, T.cl_WordSet, T.nf_there, wF_there _ _, b, l, _, _, rfl, rfl, upd_same, s1 _ _ h2, ?_, fun q hq => ?_⟩
    · rw [nV_len]
      have := ok_len ok
      show 1 + c.length ≤ sizeLine
      exact Nat.le_of_lt (Nat.lt_of_le_of_lt (by omega : 1 + c.length ≤ 65) (by decide))
    · have s2 := s1.trans (same_new (o := .lst ([V.int ((nV c).length : Int)] ++ nV c)) hq)
      refine k _ q ⟨dx, l, s2 _ _ h1, s2 _ _ h2, hlg⟩ (.of s2) (ne_g hg (s1.free hq)) ?_
      rw [upd_same, nV_len, nV_ints]
      rfl
def sp_m_dist (C : Addr) : Sp := spM C 2 fun xs => .dist (xs.getD 0 0) (xs.getD 1 0)
theorem ok_m_dist (T : Txt K mg A) : FnOk P w K mg base CX0 3 A.a_m_dist A.d_m_dist ["self", "x", "y"] (sp_m_dist A.C_WordSet) := by
  refine T.m_dist.ok sc_m_dist (fun vs H Q E h => ?_) (fun cdv Ar outer s H vs Q E hr h => ⟨_, (pss_cons (ps_if (PW.pt (pw_or (pt_not (pt_val (pe_meth (pv 0) T.cl_WordSet T.mt_m_fits (ok_m_fits T) (hr.mono (by decide)) T.b_m_fits .nil pass0 (pa_cons (pv 1) pa_nil)))) (pw_or1 (pt_not (pt_val (pe_meth (pv 0) T.cl_WordSet T.mt_m_fits (ok_m_fits T) (hr.mono (by decide)) T.b_m_fits .nil pass0 (pa_cons (pv 2) pa_nil))))))) (pss_one (ps_ret (pe_lst (pa_cons (pe_gi (by rfl) T.c_DOES_NOT_FIT) pa_nil)))) pss_nil)
    (pss_one (ps_ret (pe_lst (pa_cons (pe_call (ok_f_distance T) (hr.mono (by decide)) (by rfl) T.g_f_distance T.f_distance.kp T.b_f_distance .nil pass0 (pa_cons (pv 1) (pa_cons (pv 2) pa_nil))) pa_nil))))), ?_⟩)
  · obtain ⟨p, g, a, xs, rfl, hx, _⟩ := h
    obtain ⟨x, y, rfl⟩ := list2 hx
    rfl
  · obtain ⟨p, g, ⟨n, c⟩, xs, rfl, hx, ⟨dx, l, h1, h2, hlg⟩, hg, ok, k⟩ := h
    obtain ⟨x, y, rfl⟩ := list2 hx
    have k : ∀ H' q, At A.C_WordSet g H' p (Kh407.does ⟨n, c⟩ (.dist x y)).1 → Els p H H' → q ≠ g → H' q = some (.lst (ansV (Kh407.does ⟨n, c⟩ (.dist x y)).2)) → Q (.ref q) H' := k
    have ok : Ok n c := ok
    refine ⟨_, rfl, p, dx, _, rfl, h1, wF_no (by decide +kernel) (by decide +kernel) _ _, _, rfl, p, g, ⟨n, c⟩, x, rfl, ⟨dx, l, h1, h2, hlg⟩, ok.hi, _, rfl, ?_⟩
    cases e : Kh407.isW ⟨n, c⟩ x with
    | false =>
      rw [does_dist_bad (.inl e)] at k
      exact ⟨one_small, fun q hq => k _ q ⟨dx, l, same_new hq _ _ h1, same_new hq _ _ h2, hlg⟩ (.of (same_new hq)) (ne_g hg hq) upd_same⟩
    | true =>
      refine ⟨_, rfl, p, dx, _, rfl, h1, wF_no (by decide +kernel) (by decide +kernel) _ _, _, rfl, p, g, ⟨n, c⟩, y, rfl, ⟨dx, l, h1, h2, hlg⟩, ok.hi, _, rfl, ?_⟩
      cases e2 : Kh407.isW ⟨n, c⟩ y with
      | false =>
        rw [does_dist_bad (.inr e2)] at k
        exact ⟨one_small, fun q hq => k _ q ⟨dx, l, same_new hq _ _ h1, same_new hq _ _ h2, hlg⟩ (.of (same_new hq)) (ne_g hg hq) upd_same⟩
      | true =>
        rw [does_dist (by rw [e, e2]; decide)] at k
        refine ⟨_, rfl, _, rfl, x, y, rfl, one_small, fun q hq => k _ q ⟨dx, l, same_new hq _ _ h1, same_new hq _ _ h2, hlg⟩ (.of (same_new hq)) (ne_g hg hq) ?_⟩
        rw [upd_same]
        show _ = some (HO.lst [V.int ((Kh407.dist n x y : Nat) : Int)])
        rw [(dist_tab n (by have := ok.hi; omega) x (isW_lt.mp e) y (isW_lt.mp e2)).1]
        rfl
def sp_m_least (C : Addr) : Sp := spM C 0 fun _ => .least
theorem ok_m_least (T : Txt K mg A) : FnOk P w K mg base CX0 5 A.a_m_least A.d_m_least ["self"] (sp_m_least A.C_WordSet) := by
  refine T.m_least.ok sc_m_least (fun vs H Q E h => ?_) (fun cdv Ar outer s H vs Q E hr h => ⟨_, (pss_cons (ps_if (pt_cmpR op_lt (pe_callB (call_lenK (K := K) rfl) (by rfl) T.n_len PySem.boot_len (pa_cons (pe_fldK (K := K) rfl (pv 0) rfl) pa_nil)) pe_int (nomark _)) (pss_one (ps_ret (pe_lst (pa_cons (pe_gi (by rfl) T.c_NOT_TWO_WORDS) pa_nil)))) pss_nil)
    (pss_one (ps_ret (pe_lst (pa_cons (pe_call (ok_f_least_distance T) (hr.mono (by decide)) (by rfl) T.g_f_least_distance T.f_least_distance.kp T.b_f_least_distance .nil pass0 (pa_cons (pe_fldK (K := K) rfl (pv 0) rfl) pa_nil)) pa_nil))))), ?_⟩)
  · obtain ⟨p, g, a, xs, rfl, hx, _⟩ := h
    cases list0 hx
    rfl
  · obtain ⟨p, g, ⟨n, c⟩, xs, rfl, hx, ⟨dx, l, h1, h2, hlg⟩, hg, ok, k⟩ := h
    cases list0 hx
    have ok : Ok n c := ok
    refine ⟨_, rfl, p, _, dx, _, _, rfl, h1, T.cl_WordSet, T.nf_there, wF_there _ _, l, _, rfl, .inl (SqL.of h2), _, _, rfl, rfl, _, rfl, ?_⟩
    by_cases c2 : c.length < 2
    · refine ifT (decide_eq_true (by rw [nV_len]; show (c.length : Int) < 2; omega)) ?_
      rw [does_least_none (least_none ok c2)] at k
      exact ⟨one_small, fun q hq => k _ q ⟨dx, l, same_new hq _ _ h1, same_new hq _ _ h2, hlg⟩ (.of (same_new hq)) (ne_g hg hq) upd_same⟩
    · refine ifF (decide_eq_false (by rw [nV_len]; show ¬ (c.length : Int) < 2; omega)) ?_
      rw [does_least (least_is ok (by omega))] at k
      refine ⟨_, rfl, p, _, dx, _, _, rfl, h1, T.cl_WordSet, T.nf_there, wF_there _ _, l, c, rfl, by omega, ok_len ok, SqL.of h2, fun H3 s3 => ⟨one_small, fun q hq => ?_⟩⟩
      have s4 := s3.trans (same_new (o := .lst [V.int ((mn (nears c) : Nat) : Int)]) hq)
      exact k _ q ⟨dx, l, s4 _ _ h1, s4 _ _ h2, hlg⟩ (.of s4) (ne_g hg (s3.free hq)) upd_same
end
end Fw
/-! piece D2d -/
namespace Fw
open PySem PySem.Spec PyProof.Rows L2
section
variable {P : Program} {w : World} {K : PySem.W.Frag} {mg : Str → Option Value} {base : Heap} {A : Adr}
theorem map_nodup {c : List Nat} {f : Nat → Nat} (h : c.Nodup) (hf : ∀ x ∈ c, ∀ y ∈ c, f x = f y → x = y) : (c.map f).Nodup := by
  refine List.pairwise_map.mpr ?_
  refine List.Pairwise.imp_of_mem (fun {a b} ha hb hab e => hab (hf a ha b hb e)) h
def sp_m_move (C : Addr) : Sp := spM C 1 fun xs => .move (xs.headD 0)
theorem ok_m_move (T : Txt K mg A) : FnOk P w K mg base CX0 2 A.a_m_move A.d_m_move ["self", "y"] (sp_m_move A.C_WordSet) := by
  refine T.m_move.ok sc_m_move (fun vs H Q E h => ?_) (fun cdv Ar outer s H vs Q E hr h => ⟨_, (pss_cons (ps_if (pt_not (pt_val (pe_meth (pv 0) T.cl_WordSet T.mt_m_fits (ok_m_fits T) (hr.mono (by decide)) T.b_m_fits .nil pass0 (pa_cons (pv 1) pa_nil)))) (pss_one (ps_ret (pe_lst (pa_cons (pe_gi (by rfl) T.c_DOES_NOT_FIT) pa_nil)))) pss_nil)
    (pss_cons (ps_fld (pv 0) (pe_callB (cr_sortedK (K := K) rfl) (by rfl) T.n_sorted (by decide +kernel) (pa_cons (pe_lc (own := [("word", 2)]) (g := gName 2) rfl sc_m_move.nd (pi_listK (K := K) rfl (pe_fldK (K := K) rfl (pv 0) rfl)) (blkOk_by (own := [("word", 2)]) (N := N_m_move) (sc := defScope s_m_move) (by decide +kernel)) (fun _ _ _ _ _ => (pg_name (i := 2) sc_m_move.nd rfl (Or.inl rfl))) (fun _ _ _ _ _ => pts_nil) (fun _ _ _ _ _ => (pe_op op_xor (pv 2) (pv 1)))) pa_nil)) rfl)
    (pss_one (ps_ret (pe_lst (pa_cons pe_int pa_nil)))))), ?_⟩)
  · obtain ⟨p, g, a, xs, rfl, hx, _⟩ := h
    obtain ⟨x, rfl⟩ := list1 hx
    rfl
  · obtain ⟨p, g, ⟨n, c⟩, xs, rfl, hx, ⟨dx, l, h1, h2, hlg⟩, hg, ok, k⟩ := h
    obtain ⟨x, rfl⟩ := list1 hx
    have k : ∀ H' q, At A.C_WordSet g H' p (Kh407.does ⟨n, c⟩ (.move x)).1 → Els p H H' → q ≠ g → H' q = some (.lst (ansV (Kh407.does ⟨n, c⟩ (.move x)).2)) → Q (.ref q) H' := k
    have ok : Ok n c := ok
    refine ⟨_, rfl, p, dx, _, rfl, h1, wF_no (by decide +kernel) (by decide +kernel) _ _, _, rfl, p, g, ⟨n, c⟩, x, rfl, ⟨dx, l, h1, h2, hlg⟩, ok.hi, _, rfl, ?_⟩
    cases e : Kh407.isW ⟨n, c⟩ x with
    | false =>
      rw [does_move_bad e] at k
      exact ⟨one_small, fun q hq => k _ q ⟨dx, l, same_new hq _ _ h1, same_new hq _ _ h2, hlg⟩ (.of (same_new hq)) (ne_g hg hq) upd_same⟩
    | true =>
      rw [does_move e] at k
      have hlt : x < 2 ^ n := isW_lt.mp e
      refine ⟨_, rfl, p, _, dx, _, _, rfl, h1, T.cl_WordSet, T.nf_there, wF_there _ _, l, rfl, ⟨_, SqL.of h2⟩, fun D hD => ?_⟩
      refine lc_list (K := K) (a := l) (xs := nV c) (fun i H' => Same H H' ∧ H' D = some (.lst (nV ((c.take i).map fun y => y ^^^ x)))) ?_ ?_ ?_ ?_
      · exact ⟨same_new hD, upd_same⟩
      · exact fun i H' _ z => z.1.seq (SqL.of h2)
      · rintro i v H' hv ⟨s1, g1⟩
        obtain ⟨y, hy, rfl⟩ := nV_get hv
        refine ⟨rfl, _, rfl, _, rfl, _, _, rfl, rfl, _, g1, ?_, same_put s1 hD, ?_⟩
        · rw [nV_len, List.length_map, List.length_take]
          have := ok_len ok
          exact small64 (by omega)
        · rw [map_more _ hy, nV_app]
          show upd H' D (HO.lst (nV ((c.take i).map fun o => o ^^^ x) ++ [V.int (Builtin.bitXor (y : Int) (x : Int))])) D = _
          rw [xor_nn]
          exact upd_same
      · rintro H3 ⟨s3, g3⟩
        rw [nV_len, List.take_length] at g3
        have hnd : (c.map fun y => y ^^^ x).Nodup := map_nodup (ok_nodup ok) fun a _ b _ e => by
          have := congrArg (· ^^^ x) e
          simpa [Nat.xor_assoc] using this
        have hall : ∀ z ∈ c.map fun y => y ^^^ x, z < 2 ^ n := fun z hz => by
          obtain ⟨y, hy, rfl⟩ := List.mem_map.mp hz
          exact Nat.xor_lt_two_pow (ok.lt y hy) hlt
        refine ⟨D, (c.map fun y => y ^^^ x).map Int.ofNat, rfl, SqL.of (by rw [← nV_ints]; exact g3), fun ns q hp hs hq => ?_⟩
        have s4 := s3.trans (same_new (o := .lst (ns.map V.int)) hq)
        have ec : Kh407.sorted n (c.map fun y => y ^^^ x) = Kh407.sorted n (c.map (Kh407.plus n x)) := by
          congr 1
          refine List.map_congr_left fun y hy => ?_
          rw [plus_tab n (by have := ok.hi; omega) x hlt y (ok.lt y hy), Nat.xor_comm]
        refine ⟨_, rfl, p, _, dx, _, rfl, s4 _ _ h1, T.cl_WordSet, T.nf_there, small_fields, ?_⟩
        have a5 := at_set (C := A.C_WordSet) (c := Kh407.sorted n (c.map (Kh407.plus n x))) (g := g) (q := q) (s4 _ _ h1) (ne_g hg (s3.free hq)) (by rw [upd_same, sorted_is hnd hall hp hs, ← nV_ints, ec])
        refine ⟨one_small, fun r hr => k _ r (a5.same (same_new hr)) (Els.trans (Els.trans (.of s4) els_set) (.of (same_new hr))) (ne_g (live_set hg s4) hr) upd_same⟩
def sp_m_swap (C : Addr) : Sp := spM C 2 fun xs => .swap (xs.getD 0 0) (xs.getD 1 0)
theorem ok_m_swap (T : Txt K mg A) : FnOk P w K mg base CX0 2 A.a_m_swap A.d_m_swap ["self", "i", "j"] (sp_m_swap A.C_WordSet) := by
  refine T.m_swap.ok sc_m_swap (fun vs H Q E h => ?_) (fun cdv Ar outer s H vs Q E hr h => ⟨_, (pss_cons (ps_if (PW.pt (pw_or (pt_cmpR op_ge (pv 1) (pe_fldK (K := K) rfl (pv 0) rfl) (nomark _)) (pw_or1 (pt_cmpR op_ge (pv 2) (pe_fldK (K := K) rfl (pv 0) rfl) (nomark _))))) (pss_one (ps_ret (pe_lst (pa_cons (pe_gi (by rfl) T.c_NOT_THERE) pa_nil)))) pss_nil)
    (pss_cons (ps_fld (pv 0) (pe_callB (cr_sortedK (K := K) rfl) (by rfl) T.n_sorted (by decide +kernel) (pa_cons (pe_lc (own := [("word", 3)]) (g := gName 3) rfl sc_m_swap.nd (pi_listK (K := K) rfl (pe_fldK (K := K) rfl (pv 0) rfl)) (blkOk_by (own := [("word", 3)]) (N := N_m_swap) (sc := defScope s_m_swap) (by decide +kernel)) (fun _ _ _ _ _ => (pg_name (i := 3) sc_m_swap.nd rfl (Or.inl rfl))) (fun _ _ _ _ _ => pts_nil) (fun _ _ _ _ _ => (pe_call (ok_f_exchanged T) (hr.mono (by decide)) (by rfl) T.g_f_exchanged T.f_exchanged.kp T.b_f_exchanged .nil pass0 (pa_cons (pv 3) (pa_cons (pv 1) (pa_cons (pv 2) pa_nil)))))) pa_nil)) rfl)
    (pss_one (ps_ret (pe_lst (pa_cons pe_int pa_nil)))))), ?_⟩)
  · obtain ⟨p, g, a, xs, rfl, hx, _⟩ := h
    obtain ⟨x, y, rfl⟩ := list2 hx
    rfl
  · obtain ⟨p, g, ⟨n, c⟩, xs, rfl, hx, ⟨dx, l, h1, h2, hlg⟩, hg, ok, k⟩ := h
    obtain ⟨i, j, rfl⟩ := list2 hx
    have k : ∀ H' q, At A.C_WordSet g H' p (Kh407.does ⟨n, c⟩ (.swap i j)).1 → Els p H H' → q ≠ g → H' q = some (.lst (ansV (Kh407.does ⟨n, c⟩ (.swap i j)).2)) → Q (.ref q) H' := k
    have ok : Ok n c := ok
    refine ⟨_, rfl, _, rfl, p, _, dx, _, _, rfl, h1, T.cl_WordSet, T.nf_bits, wF_bits _ _, _, _, rfl, rfl, _, rfl, ?_⟩
    by_cases c1 : n ≤ i
    · refine ifT (decide_eq_true (Int.ofNat_le.mpr c1)) ?_
      rw [does_swap_bad (.inl c1)] at k
      exact ⟨one_small, fun q hq => k _ q ⟨dx, l, same_new hq _ _ h1, same_new hq _ _ h2, hlg⟩ (.of (same_new hq)) (ne_g hg hq) upd_same⟩
    refine ifF (decide_eq_false fun z => c1 (Int.ofNat_le.mp z)) ?_
    refine ⟨_, rfl, _, rfl, p, _, dx, _, _, rfl, h1, T.cl_WordSet, T.nf_bits, wF_bits _ _, _, _, rfl, rfl, _, rfl, ?_⟩
    by_cases c2 : n ≤ j
    · refine ifT (decide_eq_true (Int.ofNat_le.mpr c2)) ?_
      rw [does_swap_bad (.inr c2)] at k
      exact ⟨one_small, fun q hq => k _ q ⟨dx, l, same_new hq _ _ h1, same_new hq _ _ h2, hlg⟩ (.of (same_new hq)) (ne_g hg hq) upd_same⟩
    refine ifF (decide_eq_false fun z => c2 (Int.ofNat_le.mp z)) ?_
    rw [does_swap (by show ¬ (n ≤ i ∨ n ≤ j); omega)] at k
    have hi := ok.hi
    have ht := fun y (hy : y ∈ c) => exch_tab n (by omega) i (by omega) j (by omega) y (ok.lt y hy)
    refine ⟨_, rfl, p, _, dx, _, _, rfl, h1, T.cl_WordSet, T.nf_there, wF_there _ _, l, rfl, ⟨_, SqL.of h2⟩, fun D hD => ?_⟩
    refine lc_list (K := K) (a := l) (xs := nV c) (fun m H' => Same H H' ∧ H' D = some (.lst (nV ((c.take m).map fun y => exch y i j)))) ?_ ?_ ?_ ?_
    · exact ⟨same_new hD, upd_same⟩
    · exact fun m H' _ z => z.1.seq (SqL.of h2)
    · rintro m v H' hv ⟨s1, g1⟩
      obtain ⟨y, hy, rfl⟩ := nV_get hv
      refine ⟨rfl, _, rfl, _, rfl, _, rfl, y, i, j, rfl, by omega, by omega, _, g1, ?_, same_put s1 hD, ?_⟩
      · rw [nV_len, List.length_map, List.length_take]
        have := ok_len ok
        exact small64 (by omega)
      · rw [map_more _ hy, nV_app]
        exact upd_same
    · rintro H3 ⟨s3, g3⟩
      rw [nV_len, List.take_length] at g3
      have hnd : (c.map fun y => exch y i j).Nodup := map_nodup (ok_nodup ok) fun a ha b hb e => by
        rw [← (ht a ha).2.2, ← (ht b hb).2.2, e]
      have hall : ∀ z ∈ c.map fun y => exch y i j, z < 2 ^ n := fun z hz => by
        obtain ⟨y, hy, rfl⟩ := List.mem_map.mp hz
        exact (ht y hy).2.1
      refine ⟨D, (c.map fun y => exch y i j).map Int.ofNat, rfl, SqL.of (by rw [← nV_ints]; exact g3), fun ns q hp hs hq => ?_⟩
      have s4 := s3.trans (same_new (o := .lst (ns.map V.int)) hq)
      have ec : Kh407.sorted n (c.map fun y => exch y i j) = Kh407.sorted n (c.map (Kh407.swapped n i j)) := by
        congr 1
        refine List.map_congr_left fun y hy => (ht y hy).1.symm
      refine ⟨_, rfl, p, _, dx, _, rfl, s4 _ _ h1, T.cl_WordSet, T.nf_there, small_fields, ?_⟩
      have a5 := at_set (C := A.C_WordSet) (c := Kh407.sorted n (c.map (Kh407.swapped n i j))) (g := g) (q := q) (s4 _ _ h1) (ne_g hg (s3.free hq)) (by rw [upd_same, sorted_is hnd hall hp hs, ← nV_ints, ec])
      refine ⟨one_small, fun r hr => k _ r (a5.same (same_new hr)) (Els.trans (Els.trans (.of s4) els_set) (.of (same_new hr))) (ne_g (live_set hg s4) hr) upd_same⟩
def sp_m_off (C : Addr) : Sp := spM C 1 fun xs => .off (xs.headD 0)
theorem ok_m_off (T : Txt K mg A) : FnOk P w K mg base CX0 4 A.a_m_off A.d_m_off ["self", "x"] (sp_m_off A.C_WordSet) := by
  refine T.m_off.ok sc_m_off (fun vs H Q E h => ?_) (fun cdv Ar outer s H vs Q E hr h => ⟨_, (pss_cons (ps_if (pt_not (pt_val (pe_meth (pv 0) T.cl_WordSet T.mt_m_fits (ok_m_fits T) (hr.mono (by decide)) T.b_m_fits .nil pass0 (pa_cons (pv 1) pa_nil)))) (pss_one (ps_ret (pe_lst (pa_cons (pe_gi (by rfl) T.c_DOES_NOT_FIT) pa_nil)))) pss_nil)
    (pss_cons (ps_if (pt_cmpR op_eq (pe_callB (call_lenK (K := K) rfl) (by rfl) T.n_len PySem.boot_len (pa_cons (pe_fldK (K := K) rfl (pv 0) rfl) pa_nil)) pe_int (nomark _)) (pss_one (ps_ret (pe_lst (pa_cons (pe_gi (by rfl) T.c_NO_WORDS) pa_nil)))) pss_nil)
    (pss_cons (ps_set (i := 2) sc_m_off.nd rfl (Or.inl rfl) (pe_call (ok_f_distances T) (hr.mono (by decide)) (by rfl) T.g_f_distances T.f_distances.kp T.b_f_distances .nil pass0 (pa_cons (pv 1) (pa_cons (pe_fldK (K := K) rfl (pv 0) rfl) pa_nil))))
    (pss_cons (ps_set (i := 3) sc_m_off.nd rfl (Or.inl rfl) (pe_callB (cr_minK (K := K) rfl rfl) (by rfl) T.n_min (by decide +kernel) (pa_cons (pv 2) pa_nil)))
    (pss_one (ps_ret (pe_lst (pa_cons (pv 3) (pa_cons (pe_bm PySem.F.plainAttrs_list PySem.F.slot_list_count PySem.F.type_list_count (mt_lcountK (K := K) rfl) (pv 2) (pa_cons (pv 3) pa_nil)) pa_nil))))))))), ?_⟩)
  · obtain ⟨p, g, a, xs, rfl, hx, _⟩ := h
    obtain ⟨x, rfl⟩ := list1 hx
    rfl
  · obtain ⟨p, g, ⟨n, c⟩, xs, rfl, hx, ⟨dx, l, h1, h2, hlg⟩, hg, ok, k⟩ := h
    obtain ⟨x, rfl⟩ := list1 hx
    have k : ∀ H' q, At A.C_WordSet g H' p (Kh407.does ⟨n, c⟩ (.off x)).1 → Els p H H' → q ≠ g → H' q = some (.lst (ansV (Kh407.does ⟨n, c⟩ (.off x)).2)) → Q (.ref q) H' := k
    have ok : Ok n c := ok
    refine ⟨_, rfl, p, dx, _, rfl, h1, wF_no (by decide +kernel) (by decide +kernel) _ _, _, rfl, p, g, ⟨n, c⟩, x, rfl, ⟨dx, l, h1, h2, hlg⟩, ok.hi, _, rfl, ?_⟩
    cases e : Kh407.isW ⟨n, c⟩ x with
    | false =>
      rw [does_off_bad e] at k
      exact ⟨one_small, fun q hq => k _ q ⟨dx, l, same_new hq _ _ h1, same_new hq _ _ h2, hlg⟩ (.of (same_new hq)) (ne_g hg hq) upd_same⟩
    | true =>
      have hlt : x < 2 ^ n := isW_lt.mp e
      refine ⟨_, rfl, p, _, dx, _, _, rfl, h1, T.cl_WordSet, T.nf_there, wF_there _ _, l, _, rfl, .inl (SqL.of h2), rfl, _, rfl, ?_⟩
      by_cases e0 : c = []
      · refine ifT (decide_eq_true (by rw [e0]; rfl)) ?_
        rw [does_off_none e (by rw [e0]; exact off_nil)] at k
        exact ⟨one_small, fun q hq => k _ q ⟨dx, l, same_new hq _ _ h1, same_new hq _ _ h2, hlg⟩ (.of (same_new hq)) (ne_g hg hq) upd_same⟩
      refine ifF (decide_eq_false fun z => e0 ?_) ?_
      · have z2 : ((nV c).length : Int) = 0 := V.int.inj z
        rw [nV_len] at z2
        exact List.length_eq_zero_iff.mp (show c.length = 0 by omega)
      rw [does_off e (off_is ok hlt e0)] at k
      refine ⟨_, rfl, _, rfl, p, _, dx, _, _, rfl, h1, T.cl_WordSet, T.nf_there, wF_there _ _, x, l, c, rfl, ok_len ok, SqL.of h2, fun H3 b s3 g3 => ?_⟩
      have g3' : SqL K H3 b (((c.map (dst x)).map Int.ofNat).map V.int) := SqL.of (by rw [← nV_ints]; exact g3)
      refine ⟨_, rfl, b, (c.map (dst x)).map Int.ofNat, rfl, g3', ?_, fun m hm1 hm2 => ?_⟩
      · rw [List.length_map, List.length_map]
        exact List.length_pos_iff.mpr e0
      rw [min_is hm1 hm2]
      refine ⟨_, rfl, _, rfl, .inl ⟨rfl, _, g3'⟩, _, rfl, b, _, _, rfl, rfl, g3', two_small, fun q hq => ?_⟩
      have s4 := fun o => s3.trans (same_new (o := o) hq)
      refine k _ q ⟨dx, l, s4 _ _ _ h1, s4 _ _ _ h2, hlg⟩ (.of (s4 _)) (ne_g hg (s3.free hq)) ?_
      rw [upd_same, count_ofNat]
      show _ = some (HO.lst [V.int ((mn (c.map (dst x)) : Nat) : Int), V.int (((c.filter fun y => Kh407.dist n x y == mn (c.map (dst x))).length : Nat) : Int)])
      rw [off_count ok hlt]
end
end Fw
/-! piece D2e -/
namespace Fw
open PySem PySem.Spec PyProof.Rows L2
theorem eqT {m k : Nat} (h : m = k) : decide (V.int (m : Int) = V.int (k : Int)) = true := decide_eq_true (by rw [h])
theorem eqF {m k : Nat} (h : m ≠ k) : decide (V.int (m : Int) = V.int (k : Int)) = false := decide_eq_false fun e => h (by have := V.int.inj e; omega)
def call1 (m : Nat) (xs : List Nat) : List (List Int) := [(m : Int) :: xs.map Int.ofNat]
def callOf (m : Nat) (xs : List Nat) : Kh407.Call := Kh407Neutral.callOf1 (call1 m xs)
/-- a call by its number, behind a begin -/
def spN (K : PySem.W.Frag) (C : Addr) (lo hi : Nat) : Sp := fun vs H Q _ => ∃ (p g t : Addr) (m : Nat) (xs : List Nat) (a : Kh407.Abs), vs = [.ref p, .int (m : Int), .ref t] ∧ At C g H p a ∧ H g ≠ none ∧ OkA a ∧ SqL K H t (nV xs) ∧ lo ≤ m ∧ m ≤ hi ∧ told[m]? = some xs.length ∧
  ∀ H' q, At C g H' p (Kh407.does a (callOf m xs)).1 → Els p H H' → q ≠ g → H' q = some (.lst (ansV (Kh407.does a (callOf m xs)).2)) → Q (.ref q) H'
theorem told_len {m n : Nat} {xs : List Nat} (h : told[m]? = some xs.length) (e : told[m]? = some n) : xs.length = n := by
  rw [e] at h
  exact (Option.some.inj h).symm
section
variable {P : Program} {w : World} {K : PySem.W.Frag} {mg : Str → Option Value} {base : Heap} {A : Adr}
def sp_f_change (K : PySem.W.Frag) (C : Addr) : Sp := spN K C 1 6
theorem ok_f_change (T : Txt K mg A) : FnOk P w K mg base CX0 3 A.a_f_change A.d_f_change ["held", "number", "told"] (sp_f_change K A.C_WordSet) := by
  refine T.f_change.ok sc_f_change (fun vs H Q E h => ?_) (fun cdv Ar outer s H vs Q E hr h => ⟨_, (pss_cons (ps_if (pt_cmpR op_eq (pv 1) (pe_gi (by rfl) T.c_PUT) (nomark _)) (pss_one (ps_ret (pe_meth (pv 0) T.cl_WordSet T.mt_m_put (ok_m_put T) (hr.mono (by decide)) T.b_m_put .nil pass0 (pa_cons (pe_ix (ix_listK (K := K) rfl) (pv 2) pe_int (fun _ _ => rfl)) pa_nil)))) pss_nil)
    (pss_cons (ps_if (pt_cmpR op_eq (pv 1) (pe_gi (by rfl) T.c_TAKE) (nomark _)) (pss_one (ps_ret (pe_meth (pv 0) T.cl_WordSet T.mt_m_take (ok_m_take T) (hr.mono (by decide)) T.b_m_take .nil pass0 (pa_cons (pe_ix (ix_listK (K := K) rfl) (pv 2) pe_int (fun _ _ => rfl)) pa_nil)))) pss_nil)
    (pss_cons (ps_if (pt_cmpR op_eq (pv 1) (pe_gi (by rfl) T.c_REST) (nomark _)) (pss_one (ps_ret (pe_meth0 (pv 0) T.cl_WordSet T.mt_m_rest (ok_m_rest T) (hr.mono (by decide)) T.b_m_rest .nil pass0))) pss_nil)
    (pss_cons (ps_if (pt_cmpR op_eq (pv 1) (pe_gi (by rfl) T.c_MOVE) (nomark _)) (pss_one (ps_ret (pe_meth (pv 0) T.cl_WordSet T.mt_m_move (ok_m_move T) (hr.mono (by decide)) T.b_m_move .nil pass0 (pa_cons (pe_ix (ix_listK (K := K) rfl) (pv 2) pe_int (fun _ _ => rfl)) pa_nil)))) pss_nil)
    (pss_cons (ps_if (pt_cmpR op_eq (pv 1) (pe_gi (by rfl) T.c_SWAP) (nomark _)) (pss_one (ps_ret (pe_meth (pv 0) T.cl_WordSet T.mt_m_swap (ok_m_swap T) (hr.mono (by decide)) T.b_m_swap .nil pass0 (pa_cons (pe_ix (ix_listK (K := K) rfl) (pv 2) pe_int (fun _ _ => rfl)) (pa_cons (pe_ix (ix_listK (K := K) rfl) (pv 2) pe_int (fun _ _ => rfl)) pa_nil))))) pss_nil)
    (pss_one (ps_ret (pe_meth0 (pv 0) T.cl_WordSet T.mt_m_close (ok_m_close T) (hr.mono (by decide)) T.b_m_close .nil pass0)))))))), ?_⟩)
  · obtain ⟨p, g, t, m, xs, a, rfl, _⟩ := h
    rfl
  · obtain ⟨p, g, t, m, xs, a, rfl, hA, hg, ok, ht, h1, h6, hto, k⟩ := h
    obtain ⟨dx, l, hp, hl⟩ := hA
    refine ⟨_, rfl, rfl, _, rfl, ?_⟩
    by_cases m1 : m = 1
    · refine ifT (eqT (k := 1) m1) ?_
      subst m1
      obtain ⟨x, rfl⟩ := list1 (told_len hto rfl)
      refine ⟨_, rfl, p, dx, _, rfl, hp, wF_no (by decide +kernel) (by decide +kernel) _ _, _, rfl, t, _, _, _, rfl, rfl, ht, atI_nat (j := 0) rfl, ?_⟩
      exact ⟨p, g, a, [x], rfl, rfl, ⟨dx, l, hp, hl⟩, hg, ok, k⟩
    refine ifF (eqF (k := 1) m1) ?_
    refine ⟨_, rfl, rfl, _, rfl, ?_⟩
    by_cases m2 : m = 2
    · refine ifT (eqT (k := 2) m2) ?_
      subst m2
      obtain ⟨x, rfl⟩ := list1 (told_len hto rfl)
      refine ⟨_, rfl, p, dx, _, rfl, hp, wF_no (by decide +kernel) (by decide +kernel) _ _, _, rfl, t, _, _, _, rfl, rfl, ht, atI_nat (j := 0) rfl, ?_⟩
      exact ⟨p, g, a, [x], rfl, rfl, ⟨dx, l, hp, hl⟩, hg, ok, k⟩
    refine ifF (eqF (k := 2) m2) ?_
    refine ⟨_, rfl, rfl, _, rfl, ?_⟩
    by_cases m3 : m = 3
    · refine ifT (eqT (k := 3) m3) ?_
      subst m3
      have e0 := list0 (told_len hto rfl)
      subst e0
      refine ⟨_, rfl, p, dx, _, rfl, hp, wF_no (by decide +kernel) (by decide +kernel) _ _, ?_⟩
      exact ⟨p, g, a, [], rfl, rfl, ⟨dx, l, hp, hl⟩, hg, ok, k⟩
    refine ifF (eqF (k := 3) m3) ?_
    refine ⟨_, rfl, rfl, _, rfl, ?_⟩
    by_cases m4 : m = 4
    · refine ifT (eqT (k := 4) m4) ?_
      subst m4
      obtain ⟨x, rfl⟩ := list1 (told_len hto rfl)
      refine ⟨_, rfl, p, dx, _, rfl, hp, wF_no (by decide +kernel) (by decide +kernel) _ _, _, rfl, t, _, _, _, rfl, rfl, ht, atI_nat (j := 0) rfl, ?_⟩
      exact ⟨p, g, a, [x], rfl, rfl, ⟨dx, l, hp, hl⟩, hg, ok, k⟩
    refine ifF (eqF (k := 4) m4) ?_
    refine ⟨_, rfl, rfl, _, rfl, ?_⟩
    by_cases m5 : m = 5
    · refine ifT (eqT (k := 5) m5) ?_
      subst m5
      obtain ⟨x, y, rfl⟩ := list2 (told_len hto rfl)
      refine ⟨_, rfl, p, dx, _, rfl, hp, wF_no (by decide +kernel) (by decide +kernel) _ _, _, rfl, t, _, _, _, rfl, rfl, ht, atI_nat (j := 0) rfl, _, rfl, t, _, _, _, rfl, rfl, ht, atI_nat (j := 1) rfl, ?_⟩
      exact ⟨p, g, a, [x, y], rfl, rfl, ⟨dx, l, hp, hl⟩, hg, ok, k⟩
    refine ifF (eqF (k := 5) m5) ?_
    have m6 : m = 6 := by omega
    subst m6
    have e0 := list0 (told_len hto rfl)
    subst e0
    refine ⟨_, rfl, p, dx, _, rfl, hp, wF_no (by decide +kernel) (by decide +kernel) _ _, ?_⟩
    exact ⟨p, g, a, [], rfl, rfl, ⟨dx, l, hp, hl⟩, hg, ok, k⟩
end
end Fw
/-! piece E1 -/
namespace Fw
open PySem PySem.Spec PyProof.Rows L2
theorem sq_ints {K : PySem.W.Frag} {H : Hp} {q : Addr} {l : List Nat} (h : H q = some (.lst (nV l))) : SqL K H q ((l.map Int.ofNat).map V.int) := SqL.of (by rw [← nV_ints]; exact h)
theorem and_nn (x y : Nat) : Builtin.bitAnd (x : Int) (y : Int) = ((x &&& y : Nat) : Int) := by
  rw [bitAnd_pp (by omega) (by omega), Int.toNat_natCast, Int.toNat_natCast]
theorem plus_one (n : Nat) : ((n : Int) + 1).toNat = n + 1 := by omega
theorem fars_len {c : List Nat} (h : c.length ≤ 64) (i : Nat) : ((c.take i).flatMap fun x => c.map (dst x)).length ≤ 4096 := by
  have key : ∀ l : List Nat, (l.flatMap fun x => c.map (dst x)).length = l.length * c.length := by
    intro l
    induction l with
    | nil => simp
    | cons a l ih => rw [List.flatMap_cons, List.length_append, ih, List.length_map, List.length_cons, Nat.add_mul, Nat.one_mul, Nat.add_comm]
  rw [key]
  have h1 : (c.take i).length ≤ 64 := by
    rw [List.length_take]
    omega
  exact Nat.le_trans (Nat.mul_le_mul h1 h) (by decide)
theorem flat_more {c d : List Nat} {i x : Nat} {f : Nat → List Nat} (h : c[i]? = some x) : (c.take (i + 1)).flatMap f = (c.take i).flatMap f ++ f x := by
  rw [take_more h, List.flatMap_append]
  simp
section
variable {P : Program} {w : World} {K : PySem.W.Frag} {mg : Str → Option Value} {base : Heap} {A : Adr}
def sp_f_counts_from (K : PySem.W.Frag) : Sp := fun vs H Q _ => ∃ (n x : Nat) (a : Addr) (c : List Nat), vs = [.int (n : Int), .int (x : Int), .ref a] ∧ n ≤ 6 ∧ c.length ≤ 64 ∧ SqL K H a (nV c) ∧
  ∀ H' q, Same H H' → H' q = some (.lst (nV (seen n c x))) → Q (.ref q) H'
theorem ok_f_counts_from (T : Txt K mg A) : FnOk P w K mg base CX0 4 A.a_f_counts_from A.d_f_counts_from ["bits", "x", "there"] (sp_f_counts_from K) := by
  refine T.f_counts_from.ok sc_f_counts_from (fun vs H Q E h => ?_) (fun cdv Ar outer s H vs Q E hr h => ⟨_, (pss_cons (ps_set (i := 3) sc_f_counts_from.nd rfl (Or.inr rfl) (pe_call (ok_f_distances T) (hr.mono (by decide)) (by rfl) T.g_f_distances T.f_distances.kp T.b_f_distances .nil pass0 (pa_cons (pv 1) (pa_cons (pv 2) pa_nil))))
    (pss_one (ps_ret (pe_lc (own := [("i", 4)]) (g := gName 4) rfl sc_f_counts_from.nd (pi_range1 (by rfl) T.n_range (pa_cons (pe_op op_add (pv 0) pe_int) pa_nil)) (blkOk_by (own := [("i", 4)]) (N := N_f_counts_from) (sc := defScope s_f_counts_from) (by decide +kernel)) (fun _ _ _ _ _ => (pg_name (i := 4) sc_f_counts_from.nd rfl (Or.inl rfl))) (fun _ _ _ _ _ => pts_nil) (fun _ _ _ _ _ => (pe_as (t2 := tBM K "list" (rCntI K) (tVar 3) (tCons (tVar 4) tNil)) (pe_bm PySem.F.plainAttrs_list PySem.F.slot_list_count PySem.F.type_list_count (mt_lcountK (K := K) rfl) (pv 3) (pa_cons (pv 4) pa_nil)) rfl)))))), ?_⟩)
  · obtain ⟨n, x, a, c, rfl, _⟩ := h
    rfl
  · obtain ⟨n, x, a, c, rfl, hn, hl, hc, k⟩ := h
    refine ⟨_, rfl, _, rfl, x, a, c, rfl, hl, hc, fun H1 q1 s1 h1 => ?_⟩
    refine ⟨_, rfl, _, _, rfl, rfl, _, rfl, (by show (-(2 ^ 62) : Int) ≤ (n : Int) + 1; omega), (by show (n : Int) + 1 < 2 ^ 62; omega), fun D hD => ?_⟩
    rw [plus_one]
    refine lc_range (lo := 0) (n := n + 1) (fun i H' => Same H1 H' ∧ H' D = some (.lst (nV ((List.range i).map fun i => (c.map (dst x)).count i)))) ?_ ?_ ?_
    · exact ⟨same_new hD, upd_same⟩
    · rintro i H' hi ⟨s2, h2⟩
      refine ⟨rfl, _, rfl, .inl ⟨rfl, _, sq_ints (s2 _ _ h1)⟩, _, rfl, q1, _, _, rfl, rfl, sq_ints (s2 _ _ h1), _, h2, ?_, same_put s2 hD, ?_⟩
      · rw [nV_len, List.length_map, List.length_range]
        exact small64 (by omega)
      · rw [Int.zero_add, count_ofNat, List.range_succ, List.map_append, nV_app]
        exact upd_same
    · rintro H' ⟨s2, h2⟩
      exact k H' D (s1.trans s2) h2
def sp_f_counts_of_twos (K : PySem.W.Frag) : Sp := fun vs H Q _ => ∃ (n : Nat) (a : Addr) (c : List Nat), vs = [.int (n : Int), .ref a] ∧ n ≤ 6 ∧ c.length ≤ 64 ∧ SqL K H a (nV c) ∧
  ∀ H' q, Same H H' → H' q = some (.lst (nV (twoL n c))) → Q (.ref q) H'
theorem ok_f_counts_of_twos (T : Txt K mg A) : FnOk P w K mg base CX0 4 A.a_f_counts_of_twos A.d_f_counts_of_twos ["bits", "there"] (sp_f_counts_of_twos K) := by
  refine T.f_counts_of_twos.ok sc_f_counts_of_twos (fun vs H Q E h => ?_) (fun cdv Ar outer s H vs Q E hr h => ⟨_, (pss_cons (ps_set (i := 2) sc_f_counts_of_twos.nd rfl (Or.inr rfl) (pe_lst pa_nil))
    (pss_cons (ps_for PassesOwn.never rfl (pi_listK (K := K) rfl (pv 1)) (pg_name (i := 3) sc_f_counts_of_twos.nd rfl (Or.inl rfl))
    (pss_one (ps_expr (pe_bm PySem.F.plainAttrs_list PySem.F.slot_list_extend PySem.F.type_list_extend mt_extend (pv 2) (pa_cons (pe_call (ok_f_distances T) (hr.mono (by decide)) (by rfl) T.g_f_distances T.f_distances.kp T.b_f_distances .nil pass0 (pa_cons (pv 3) (pa_cons (pv 1) pa_nil))) pa_nil)))))
    (pss_one (ps_ret (pe_lc (own := [("i", 4)]) (g := gName 4) rfl sc_f_counts_of_twos.nd (pi_range1 (by rfl) T.n_range (pa_cons (pe_op op_add (pv 0) pe_int) pa_nil)) (blkOk_by (own := [("i", 4)]) (N := N_f_counts_of_twos) (sc := defScope s_f_counts_of_twos) (by decide +kernel)) (fun _ _ _ _ _ => (pg_name (i := 4) sc_f_counts_of_twos.nd rfl (Or.inl rfl))) (fun _ _ _ _ _ => pts_nil) (fun _ _ _ _ _ => (pe_as (t2 := tBM K "list" (rCntI K) (tVar 2) (tCons (tVar 4) tNil)) (pe_bm PySem.F.plainAttrs_list PySem.F.slot_list_count PySem.F.type_list_count (mt_lcountK (K := K) rfl) (pv 2) (pa_cons (pv 4) pa_nil)) rfl))))))), ?_⟩)
  · obtain ⟨n, a, c, rfl, _⟩ := h
    rfl
  · obtain ⟨n, a, c, rfl, hn, hl, hc, k⟩ := h
    refine ⟨(by decide), fun l hlN => ?_⟩
    refine ⟨_, rfl, a, rfl, ⟨_, (same_new hlN).seq hc⟩, for_list (K := K) (a := a) (xs := nV c) (fun i σ H' => ∃ (v : Option V), σ = [some (.int (n : Int)), some (.ref a), some (.ref l), v, none] ∧ Same H H' ∧ H' l = some (.lst (nV ((c.take i).flatMap fun x => c.map (dst x))))) ?_ ?_ ?_ ?_⟩
    · exact ⟨none, rfl, same_new hlN, upd_same⟩
    · rintro i σ H' _ ⟨_, _, s1, _⟩
      exact s1.seq hc
    · rintro i y σ H' hy ⟨v, rfl, s1, h1⟩
      obtain ⟨x, hx, rfl⟩ := nV_get hy
      refine ⟨_, rfl, .inl ⟨rfl, _, SqL.of h1⟩, _, rfl, _, rfl, x, a, c, rfl, hl, s1.seq hc, fun H2 q s2 h2 => ?_⟩
      refine ⟨l, q, _, _, rfl, rfl, s2 _ _ h1, h2, ?_, _, rfl, same_put (s1.trans s2) hlN, ?_⟩
      · rw [nV_len, nV_len, List.length_map]
        have := fars_len hl i
        exact Nat.le_trans (Nat.add_le_add this hl) (by decide)
      · rw [flat_more (d := c) hx, nV_app]
        exact upd_same
    · rintro σ H1 ⟨v, rfl, s1, h1⟩
      rw [nV_len, List.take_length] at h1
      refine ⟨_, rfl, _, _, rfl, rfl, _, rfl, (by show (-(2 ^ 62) : Int) ≤ (n : Int) + 1; omega), (by show (n : Int) + 1 < 2 ^ 62; omega), fun D hD => ?_⟩
      rw [plus_one]
      refine lc_range (lo := 0) (n := n + 1) (fun i H' => Same H1 H' ∧ H' D = some (.lst (nV ((List.range i).map fun i => (fars c).count i)))) ?_ ?_ ?_
      · exact ⟨same_new hD, upd_same⟩
      · rintro i H' hi ⟨s2, h2⟩
        refine ⟨rfl, _, rfl, .inl ⟨rfl, _, sq_ints (s2 _ _ h1)⟩, _, rfl, l, _, _, rfl, rfl, sq_ints (s2 _ _ h1), _, h2, ?_, same_put s2 hD, ?_⟩
        · rw [nV_len, List.length_map, List.length_range]
          exact small64 (by omega)
        · rw [Int.zero_add, count_ofNat, List.range_succ, List.map_append, nV_app]
          exact upd_same
      · rintro H' ⟨s2, h2⟩
        exact k H' D (s1.trans s2) h2
def sp_f_sets_of : Sp := fun vs H Q _ => ∃ (n m : Nat), vs = [.int (n : Int), .int (m : Int)] ∧ n ≤ 6 ∧
  ∀ H' q, Same H H' → H' q = some (.lst (nV (setsOf n m))) → Q (.ref q) H'
theorem ok_f_sets_of (T : Txt K mg A) : FnOk P w K mg base CX0 2 A.a_f_sets_of A.d_f_sets_of ["bits", "count"] sp_f_sets_of := by
  refine T.f_sets_of.ok sc_f_sets_of (fun vs H Q E h => ?_) (fun cdv Ar outer s H vs Q E hr h => ⟨_, (pss_one (ps_ret (pe_lc (own := [("places", 2)]) (g := gName 2) rfl sc_f_sets_of.nd (pi_range1 (by rfl) T.n_range (pa_cons (pe_op op_shl pe_int (pv 0)) pa_nil)) (blkOk_by (own := [("places", 2)]) (N := N_f_sets_of) (sc := defScope s_f_sets_of) (by decide +kernel)) (fun _ _ _ _ _ => (pg_name (i := 2) sc_f_sets_of.nd rfl (Or.inl rfl))) (fun _ _ _ _ _ => pts_one (pt_cmpR op_eq (pe_call (ok_f_weight T) (hr.mono (by decide)) (by rfl) T.g_f_weight T.f_weight.kp T.b_f_weight .nil pass0 (pa_cons (pv 2) pa_nil)) (pv 1) (nomark _))) (fun _ _ _ _ _ => (pv 2))))), ?_⟩)
  · obtain ⟨n, m, rfl, _⟩ := h
    rfl
  · obtain ⟨n, m, rfl, hn, k⟩ := h
    have hp := pow_small hn
    refine ⟨_, rfl, _, _, rfl, rfl, ?_, ?_⟩
    · show (0 : Int) ≤ (n : Int) ∧ (n : Int) ≤ 1000000 ∧ _
      exact ⟨by omega, by omega, by decide⟩
    refine ⟨_, rfl, ?_, ?_, ?_⟩
    · rw [one_shl]
      refine Int.le_trans ?_ (Int.natCast_nonneg _)
      decide
    · rw [one_shl]
      exact Int.lt_of_le_of_lt (Int.ofNat_le.mpr hp) (by decide)
    intro D hD
    rw [one_shl, Int.toNat_natCast]
    refine lc_range (lo := 0) (n := 2 ^ n) (fun i H' => Same H H' ∧ H' D = some (.lst (nV ((List.range i).filter fun u => pop u == m)))) ?_ ?_ ?_
    · exact ⟨same_new hD, upd_same⟩
    · rintro i H' hi ⟨s1, h1⟩
      refine ⟨rfl, _, rfl, i, (by show [V.int ((0 : Int) + (i : Int))] = _; rw [Int.zero_add]), _, rfl, rfl, _, rfl, ?_⟩
      rw [Int.zero_add]
      have hr1 : (List.range (i + 1)).filter (fun u => pop u == m) = (List.range i).filter (fun u => pop u == m) ++ (if (pop i == m) = true then [i] else []) := by
        rw [List.range_succ, List.filter_append, filter_one]
      by_cases e : pop i = m
      · refine ifT (eqT e) ⟨_, rfl, _, h1, ?_, same_put s1 hD, ?_⟩
        · rw [nV_len]
          refine Nat.lt_of_le_of_lt (List.length_filter_le _ _) ?_
          rw [List.length_range]
          exact Nat.lt_of_lt_of_le hi (Nat.le_trans hp (by decide))
        · rw [hr1, if_pos (beq_iff_eq.mpr e), nV_app]
          exact upd_same
      · refine ifF (eqF e) ⟨s1, ?_⟩
        rw [hr1, if_neg (fun z => e (beq_iff_eq.mp z)), List.append_nil]
        exact h1
    · rintro H' ⟨s1, h1⟩
      exact k H' D s1 h1
def sp_f_sign_of : Sp := fun vs H Q _ => ∃ x : Nat, vs = [.int (x : Int)] ∧ Q (.int (sg x)) H
theorem ok_f_sign_of (T : Txt K mg A) : FnOk P w K mg base CX0 2 A.a_f_sign_of A.d_f_sign_of ["places"] sp_f_sign_of := by
  refine T.f_sign_of.ok sc_f_sign_of (fun vs H Q E h => ?_) (fun cdv Ar outer s H vs Q E hr h => ⟨_, (pss_one (ps_ret (pe_ifExp (pt_cmpR op_eq (pe_op op_mod (pe_call (ok_f_weight T) (hr.mono (by decide)) (by rfl) T.g_f_weight T.f_weight.kp T.b_f_weight .nil pass0 (pa_cons (pv 0) pa_nil)) pe_int) pe_int (nomark _)) pe_int (pe_un un_neg pe_int)))), ?_⟩)
  · obtain ⟨x, rfl, _⟩ := h
    rfl
  · obtain ⟨x, rfl, k⟩ := h
    refine ⟨_, rfl, x, rfl, _, _, rfl, rfl, (by show (0 : Int) < 2; decide), rfl, _, rfl, ?_⟩
    unfold sg at k
    by_cases e : pop x % 2 = 0
    · rw [if_pos e] at k
      refine ifT (decide_eq_true ?_) k
      show V.int ((pop x : Int) % 2) = V.int 0
      congr 1
      omega
    · rw [if_neg e] at k
      refine ifF (decide_eq_false fun z => ?_) ⟨_, rfl, k⟩
      have z : V.int ((pop x : Int) % 2) = V.int 0 := z
      have := V.int.inj z
      omega
end
end Fw
/-! piece E2 -/
namespace Fw
open PySem PySem.Spec PyProof.Rows L2
theorem one_less (i : Nat) : (1 : Int) * 2 ^ ((i : Int).toNat) - 1 = ((2 ^ i - 1 : Nat) : Int) := by
  rw [one_shl]
  have := Nat.two_pow_pos i
  omega
theorem sets_len {n k : Nat} (h : n ≤ 6) : (setsOf n k).length ≤ 64 := by
  unfold setsOf
  refine Nat.le_trans (List.length_filter_le _ _) ?_
  rw [List.length_range]
  exact pow_small h
theorem pats_len {u : Nat} (h : u < 64) : (pats u).length ≤ 64 := by
  unfold pats
  refine Nat.le_trans (List.length_filter_le _ _) ?_
  rw [List.length_range]
  omega
theorem count_two {n i : Nat} {c : List Nat} (h : c.length ≤ 64) : (twoL n c).getD i 0 ≤ 4096 := by
  by_cases hi : i < n + 1
  · rw [twoL_get hi]
    refine Nat.le_trans List.count_le_length ?_
    have := fars_len h c.length
    rw [List.take_length] at this
    exact this
  · unfold twoL
    rw [List.getD_eq_getElem?_getD, List.getElem?_map, List.getElem?_eq_none (by rw [List.length_range]; omega)]
    exact Nat.zero_le _
section
variable {P : Program} {w : World} {K : PySem.W.Frag} {mg : Str → Option Value} {base : Heap} {A : Adr}
def sp_f_sign_sum : Sp := fun vs H Q _ => ∃ (n m i : Nat), vs = [.int (n : Int), .int (m : Int), .int (i : Int)] ∧ n ≤ 6 ∧ i ≤ 6 ∧
  ∀ H', Same H H' → Q (.int (ssum n m i)) H'
theorem ok_f_sign_sum (T : Txt K mg A) : FnOk P w K mg base CX0 3 A.a_f_sign_sum A.d_f_sign_sum ["bits", "k", "i"] sp_f_sign_sum := by
  refine T.f_sign_sum.ok sc_f_sign_sum (fun vs H Q E h => ?_) (fun cdv Ar outer s H vs Q E hr h => ⟨_, (pss_cons (ps_set (i := 3) sc_f_sign_sum.nd rfl (Or.inr rfl) (pe_op op_sub (pe_op op_shl pe_int (pv 2)) pe_int))
    (pss_one (ps_ret (pe_callB (cr_sumK (K := K) rfl rfl) (by rfl) T.n_sum (by decide +kernel) (pa_cons (pe_lc (own := [("places", 4)]) (g := gName 4) rfl sc_f_sign_sum.nd (pi_listK (K := K) rfl (pe_call (ok_f_sets_of T) (hr.mono (by decide)) (by rfl) T.g_f_sets_of T.f_sets_of.kp T.b_f_sets_of .nil pass0 (pa_cons (pv 0) (pa_cons (pv 1) pa_nil)))) (blkOk_by (own := [("places", 4)]) (N := N_f_sign_sum) (sc := defScope s_f_sign_sum) (by decide +kernel)) (fun _ _ _ _ _ => (pg_name (i := 4) sc_f_sign_sum.nd rfl (Or.inl rfl))) (fun _ _ _ _ _ => pts_nil) (fun _ _ _ _ _ => (pe_call (ok_f_sign_of T) (hr.mono (by decide)) (by rfl) T.g_f_sign_of T.f_sign_of.kp T.b_f_sign_of .nil pass0 (pa_cons (pe_op op_and (pv 4) (pv 3)) pa_nil)))) pa_nil))))), ?_⟩)
  · obtain ⟨n, m, i, rfl, _⟩ := h
    rfl
  · obtain ⟨n, m, i, rfl, hn, hi, k⟩ := h
    refine ⟨_, rfl, _, _, rfl, rfl, ⟨by omega, by omega, by decide⟩, _, _, rfl, rfl, ?_⟩
    refine ⟨_, rfl, _, rfl, n, m, rfl, hn, fun H1 q s1 h1 => ?_⟩
    refine ⟨q, rfl, ⟨_, SqL.of h1⟩, fun D hD => ?_⟩
    refine lc_list (K := K) (a := q) (xs := nV (setsOf n m)) (fun j H' => Same H1 H' ∧ H' D = some (.lst ((((setsOf n m).take j).map fun p => sg (p &&& (2 ^ i - 1))).map V.int))) ?_ ?_ ?_ ?_
    · exact ⟨same_new hD, upd_same⟩
    · exact fun j H' _ z => z.1.seq (SqL.of h1)
    · rintro j v H' hv ⟨s2, h2⟩
      obtain ⟨y, hy, rfl⟩ := nV_get hv
      refine ⟨rfl, _, rfl, _, rfl, _, _, rfl, rfl, y &&& (2 ^ i - 1), ?_, _, h2, ?_, same_put s2 hD, ?_⟩
      · show [V.int (Builtin.bitAnd (y : Int) ((1 : Int) * 2 ^ ((i : Int).toNat) - 1))] = _
        rw [one_less, and_nn]
      · rw [List.length_map, List.length_map, List.length_take]
        have := sets_len (k := m) hn
        exact small64 (by omega)
      · rw [map_more _ hy, List.map_append]
        exact upd_same
    · rintro H' ⟨s2, h2⟩
      rw [nV_len, List.take_length] at h2
      exact ⟨D, _, rfl, SqL.of h2, k H' (s1.trans s2)⟩
def sp_f_kth_sum (K : PySem.W.Frag) : Sp := fun vs H Q _ => ∃ (n m : Nat) (t : Addr) (tw : List Nat), vs = [.int (n : Int), .ref t, .int (m : Int)] ∧ n ≤ 6 ∧ SqL K H t (nV tw) ∧ tw.length = n + 1 ∧ (∀ i, tw.getD i 0 ≤ 4096) ∧
  ∀ H', Same H H' → Q (.int (ksum n tw m)) H'
theorem ok_f_kth_sum (T : Txt K mg A) : FnOk P w K mg base CX0 4 A.a_f_kth_sum A.d_f_kth_sum ["bits", "twos", "k"] (sp_f_kth_sum K) := by
  refine T.f_kth_sum.ok sc_f_kth_sum (fun vs H Q E h => ?_) (fun cdv Ar outer s H vs Q E hr h => ⟨_, (pss_one (ps_ret (pe_callB (cr_sumK (K := K) rfl rfl) (by rfl) T.n_sum (by decide +kernel) (pa_cons (pe_lc (own := [("i", 3)]) (g := gName 3) rfl sc_f_kth_sum.nd (pi_range1 (by rfl) T.n_range (pa_cons (pe_op op_add (pv 0) pe_int) pa_nil)) (blkOk_by (own := [("i", 3)]) (N := N_f_kth_sum) (sc := defScope s_f_kth_sum) (by decide +kernel)) (fun _ _ _ _ _ => (pg_name (i := 3) sc_f_kth_sum.nd rfl (Or.inl rfl))) (fun _ _ _ _ _ => pts_nil) (fun _ _ _ _ _ => (pe_op op_mul (pe_ix (ix_listK (K := K) rfl) (pv 1) (pv 3) (fun _ _ => rfl)) (pe_call (ok_f_sign_sum T) (hr.mono (by decide)) (by rfl) T.g_f_sign_sum T.f_sign_sum.kp T.b_f_sign_sum .nil pass0 (pa_cons (pv 0) (pa_cons (pv 2) (pa_cons (pv 3) pa_nil))))))) pa_nil)))), ?_⟩)
  · obtain ⟨n, m, t, tw, rfl, _⟩ := h
    rfl
  · obtain ⟨n, m, t, tw, rfl, hn, ht, hl, hb, k⟩ := h
    refine ⟨_, rfl, _, _, rfl, rfl, _, rfl, (by show (-(2 ^ 62) : Int) ≤ (n : Int) + 1; omega), (by show (n : Int) + 1 < 2 ^ 62; omega), fun D hD => ?_⟩
    rw [plus_one]
    refine lc_range (lo := 0) (n := n + 1) (fun i H' => Same H H' ∧ H' D = some (.lst (((List.range i).map fun i => ((tw.getD i 0 : Nat) : Int) * ssum n m i).map V.int))) ?_ ?_ ?_
    · exact ⟨same_new hD, upd_same⟩
    · rintro i H' hi ⟨s2, h2⟩
      refine ⟨rfl, _, rfl, _, rfl, t, _, _, V.int ((tw.getD i 0 : Nat) : Int), rfl, rfl, s2.seq ht, at_of (j := i) (by omega) (nV_at (by omega)), ?_⟩
      refine ⟨_, rfl, _, rfl, _, rfl, n, m, i, ?_, hn, by omega, fun H3 s3 => ?_⟩
      · rw [Int.zero_add]
        rfl
      have hb := hb i
      refine ⟨_, _, rfl, rfl, .inl ⟨by omega, by omega⟩, _, s3 _ _ h2, ?_, same_put (s2.trans s3) hD, ?_⟩
      · rw [List.length_map, List.length_map, List.length_range]
        exact small64 (by omega)
      · rw [List.range_succ, List.map_append, List.map_append]
        exact upd_same
    · rintro H' ⟨s2, h2⟩
      exact ⟨D, _, rfl, SqL.of h2, k H' s2⟩
def sp_f_tilt_of (K : PySem.W.Frag) : Sp := fun vs H Q _ => ∃ (u : Nat) (a : Addr) (c : List Nat), vs = [.int (u : Int), .ref a] ∧ c.length ≤ 64 ∧ SqL K H a (nV c) ∧
  ∀ H', Same H H' → Q (.int (tlt u c)) H'
theorem ok_f_tilt_of (T : Txt K mg A) : FnOk P w K mg base CX0 3 A.a_f_tilt_of A.d_f_tilt_of ["u", "there"] (sp_f_tilt_of K) := by
  refine T.f_tilt_of.ok sc_f_tilt_of (fun vs H Q E h => ?_) (fun cdv Ar outer s H vs Q E hr h => ⟨_, (pss_one (ps_ret (pe_callB (cr_sumK (K := K) rfl rfl) (by rfl) T.n_sum (by decide +kernel) (pa_cons (pe_lc (own := [("word", 2)]) (g := gName 2) rfl sc_f_tilt_of.nd (pi_listK (K := K) rfl (pv 1)) (blkOk_by (own := [("word", 2)]) (N := N_f_tilt_of) (sc := defScope s_f_tilt_of) (by decide +kernel)) (fun _ _ _ _ _ => (pg_name (i := 2) sc_f_tilt_of.nd rfl (Or.inl rfl))) (fun _ _ _ _ _ => pts_nil) (fun _ _ _ _ _ => (pe_call (ok_f_sign_of T) (hr.mono (by decide)) (by rfl) T.g_f_sign_of T.f_sign_of.kp T.b_f_sign_of .nil pass0 (pa_cons (pe_op op_and (pv 2) (pv 0)) pa_nil)))) pa_nil)))), ?_⟩)
  · obtain ⟨u, a, c, rfl, _⟩ := h
    rfl
  · obtain ⟨u, a, c, rfl, hl, hc, k⟩ := h
    refine ⟨_, rfl, a, rfl, ⟨_, hc⟩, fun D hD => ?_⟩
    refine lc_list (K := K) (a := a) (xs := nV c) (fun j H' => Same H H' ∧ H' D = some (.lst (((c.take j).map fun p => sg (p &&& u)).map V.int))) ?_ ?_ ?_ ?_
    · exact ⟨same_new hD, upd_same⟩
    · exact fun j H' _ z => z.1.seq hc
    · rintro j v H' hv ⟨s2, h2⟩
      obtain ⟨y, hy, rfl⟩ := nV_get hv
      refine ⟨rfl, _, rfl, _, rfl, _, _, rfl, rfl, y &&& u, ?_, _, h2, ?_, same_put s2 hD, ?_⟩
      · show [V.int (Builtin.bitAnd (y : Int) (u : Int))] = _
        rw [and_nn]
      · rw [List.length_map, List.length_map, List.length_take]
        exact small64 (by omega)
      · rw [map_more _ hy, List.map_append]
        exact upd_same
    · rintro H' ⟨s2, h2⟩
      rw [nV_len, List.take_length] at h2
      exact ⟨D, _, rfl, SqL.of h2, k H' s2⟩
def sp_f_patterns_on : Sp := fun vs H Q _ => ∃ (u : Nat), vs = [.int (u : Int)] ∧ u < 64 ∧
  ∀ H' q, Same H H' → H' q = some (.lst (nV (pats u))) → Q (.ref q) H'
theorem ok_f_patterns_on (T : Txt K mg A) : FnOk P w K mg base CX0 1 A.a_f_patterns_on A.d_f_patterns_on ["u"] sp_f_patterns_on := by
  refine T.f_patterns_on.ok sc_f_patterns_on (fun vs H Q E h => ?_) (fun cdv Ar outer s H vs Q E hr h => ⟨_, (pss_one (ps_ret (pe_lc (own := [("places", 1)]) (g := gName 1) rfl sc_f_patterns_on.nd (pi_range1 (by rfl) T.n_range (pa_cons (pe_op op_add (pv 0) pe_int) pa_nil)) (blkOk_by (own := [("places", 1)]) (N := N_f_patterns_on) (sc := defScope s_f_patterns_on) (by decide +kernel)) (fun _ _ _ _ _ => (pg_name (i := 1) sc_f_patterns_on.nd rfl (Or.inl rfl))) (fun _ _ _ _ _ => pts_one (pt_cmpR op_eq (pe_op op_and (pv 1) (pv 0)) (pv 1) (nomark _))) (fun _ _ _ _ _ => (pv 1))))), ?_⟩)
  · obtain ⟨u, rfl, _⟩ := h
    rfl
  · obtain ⟨u, rfl, hu, k⟩ := h
    refine ⟨_, rfl, _, _, rfl, rfl, _, rfl, (by show (-(2 ^ 62) : Int) ≤ (u : Int) + 1; omega), (by show (u : Int) + 1 < 2 ^ 62; omega), fun D hD => ?_⟩
    rw [plus_one]
    refine lc_range (lo := 0) (n := u + 1) (fun i H' => Same H H' ∧ H' D = some (.lst (nV ((List.range i).filter fun p => p &&& u == p)))) ?_ ?_ ?_
    · exact ⟨same_new hD, upd_same⟩
    · rintro i H' hi ⟨s1, h1⟩
      refine ⟨rfl, _, rfl, _, rfl, _, _, rfl, rfl, _, rfl, rfl, _, rfl, ?_⟩
      rw [Int.zero_add]
      have hr1 : (List.range (i + 1)).filter (fun p => p &&& u == p) = (List.range i).filter (fun p => p &&& u == p) ++ (if (i &&& u == i) = true then [i] else []) := by
        rw [List.range_succ, List.filter_append, filter_one]
      by_cases e : i &&& u = i
      · refine ifT (show decide (V.int (Builtin.bitAnd (i : Int) (u : Int)) = V.int (i : Int)) = true by rw [and_nn]; exact eqT e) ⟨_, rfl, _, h1, ?_, same_put s1 hD, ?_⟩
        · rw [nV_len]
          refine Nat.lt_of_le_of_lt (List.length_filter_le _ _) ?_
          rw [List.length_range]
          exact small64 (by omega)
        · rw [hr1, if_pos (beq_iff_eq.mpr e), nV_app]
          exact upd_same
      · refine ifF (show decide (V.int (Builtin.bitAnd (i : Int) (u : Int)) = V.int (i : Int)) = false by rw [and_nn]; exact eqF e) ⟨s1, ?_⟩
        rw [hr1, if_neg (fun z => e (beq_iff_eq.mp z)), List.append_nil]
        exact h1
    · rintro H' ⟨s1, h1⟩
      exact k H' D s1 h1
def sp_f_pattern_counts (K : PySem.W.Frag) : Sp := fun vs H Q _ => ∃ (u : Nat) (a : Addr) (c : List Nat), vs = [.int (u : Int), .ref a] ∧ u < 64 ∧ c.length ≤ 64 ∧ SqL K H a (nV c) ∧
  ∀ H' q, Same H H' → H' q = some (.lst (nV (pcs u c))) → Q (.ref q) H'
theorem ok_f_pattern_counts (T : Txt K mg A) : FnOk P w K mg base CX0 2 A.a_f_pattern_counts A.d_f_pattern_counts ["u", "there"] (sp_f_pattern_counts K) := by
  refine T.f_pattern_counts.ok sc_f_pattern_counts (fun vs H Q E h => ?_) (fun cdv Ar outer s H vs Q E hr h => ⟨_, (pss_cons (ps_set (i := 2) sc_f_pattern_counts.nd rfl (Or.inr rfl) (pe_lc (own := [("word", 3)]) (g := gName 3) rfl sc_f_pattern_counts.nd (pi_listK (K := K) rfl (pv 1)) (blkOk_by (own := [("word", 3)]) (N := N_f_pattern_counts) (sc := defScope s_f_pattern_counts) (by decide +kernel)) (fun _ _ _ _ _ => (pg_name (i := 3) sc_f_pattern_counts.nd rfl (Or.inl rfl))) (fun _ _ _ _ _ => pts_nil) (fun _ _ _ _ _ => (pe_op op_and (pv 3) (pv 0)))))
    (pss_one (ps_ret (pe_lc (own := [("pattern", 4)]) (g := gName 4) rfl sc_f_pattern_counts.nd (pi_listK (K := K) rfl (pe_call (ok_f_patterns_on T) (hr.mono (by decide)) (by rfl) T.g_f_patterns_on T.f_patterns_on.kp T.b_f_patterns_on .nil pass0 (pa_cons (pv 0) pa_nil))) (blkOk_by (own := [("pattern", 4)]) (N := N_f_pattern_counts) (sc := defScope s_f_pattern_counts) (by decide +kernel)) (fun _ _ _ _ _ => (pg_name (i := 4) sc_f_pattern_counts.nd rfl (Or.inl rfl))) (fun _ _ _ _ _ => pts_nil) (fun _ _ _ _ _ => (pe_as (t2 := tBM K "list" (rCntI K) (tVar 2) (tCons (tVar 4) tNil)) (pe_bm PySem.F.plainAttrs_list PySem.F.slot_list_count PySem.F.type_list_count (mt_lcountK (K := K) rfl) (pv 2) (pa_cons (pv 4) pa_nil)) rfl)))))), ?_⟩)
  · obtain ⟨u, a, c, rfl, _⟩ := h
    rfl
  · obtain ⟨u, a, c, rfl, hu, hl, hc, k⟩ := h
    refine ⟨_, rfl, a, rfl, ⟨_, hc⟩, fun B hB => ?_⟩
    refine lc_list (K := K) (a := a) (xs := nV c) (fun j H' => Same H H' ∧ H' B = some (.lst (nV ((c.take j).map fun x => x &&& u)))) ?_ ?_ ?_ ?_
    · exact ⟨same_new hB, upd_same⟩
    · exact fun j H' _ z => z.1.seq hc
    · rintro j v H' hv ⟨s2, h2⟩
      obtain ⟨y, hy, rfl⟩ := nV_get hv
      refine ⟨rfl, _, rfl, _, rfl, _, _, rfl, rfl, _, h2, ?_, same_put s2 hB, ?_⟩
      · rw [nV_len, List.length_map, List.length_take]
        exact small64 (by omega)
      · rw [map_more _ hy, nV_app]
        show upd H' B (HO.lst (nV ((c.take j).map fun x => x &&& u) ++ [V.int (Builtin.bitAnd (y : Int) (u : Int))])) B = _
        rw [and_nn]
        exact upd_same
    · rintro H1 ⟨s1, h1⟩
      rw [nV_len, List.take_length] at h1
      refine ⟨_, rfl, u, rfl, hu, fun H2 q s2 h2 => ?_⟩
      have hB2 := s2 _ _ h1
      refine ⟨q, rfl, ⟨_, SqL.of h2⟩, fun D hD => ?_⟩
      refine lc_list (K := K) (a := q) (xs := nV (pats u)) (fun j H' => Same H2 H' ∧ H' D = some (.lst (nV (((pats u).take j).map fun p => (c.map fun x => x &&& u).count p)))) ?_ ?_ ?_ ?_
      · exact ⟨same_new hD, upd_same⟩
      · exact fun j H' _ z => z.1.seq (SqL.of h2)
      · rintro j v H' hv ⟨s3, h3⟩
        obtain ⟨y, hy, rfl⟩ := nV_get hv
        refine ⟨rfl, _, rfl, .inl ⟨rfl, _, sq_ints (s3 _ _ hB2)⟩, _, rfl, B, _, _, rfl, rfl, sq_ints (s3 _ _ hB2), _, h3, ?_, same_put s3 hD, ?_⟩
        · rw [nV_len, List.length_map, List.length_take]
          have := pats_len hu
          exact small64 (by omega)
        · rw [map_more _ hy, nV_app, count_ofNat]
          exact upd_same
      · rintro H' ⟨s3, h3⟩
        rw [nV_len, List.take_length] at h3
        exact k H' D ((s1.trans s2).trans s3) h3
end
end Fw
/-! piece E3 -/
namespace Fw
open PySem PySem.Spec PyProof.Rows L2
theorem lt64 {n u : Nat} {c : List Nat} (ok : Ok n c) (hu : u < 2 ^ n) : u < 64 := Nat.lt_of_lt_of_le hu (pow_small ok.hi)
theorem int_eq {m M : Int} : decide (V.int m = V.int M) = decide (m = M) := by
  by_cases e : m = M
  · rw [decide_eq_true e, decide_eq_true (by rw [e])]
  · rw [decide_eq_false e, decide_eq_false fun z => e (V.int.inj z)]
def optV (o : Option Nat) : V := match o with
  | none => .non
  | some u => .int (u : Int)
section
variable {P : Program} {w : World} {K : PySem.W.Frag} {mg : Str → Option Value} {base : Heap} {A : Adr}
def sp_f_is_even (K : PySem.W.Frag) : Sp := fun vs H Q _ => ∃ (u n : Nat) (a : Addr) (c : List Nat), vs = [.int (u : Int), .ref a] ∧ Ok n c ∧ u < 2 ^ n ∧ SqL K H a (nV c) ∧
  ∀ H', Same H H' → Q (.bl (Kh407.even ⟨n, c⟩ u)) H'
theorem ok_f_is_even (T : Txt K mg A) : FnOk P w K mg base CX0 3 A.a_f_is_even A.d_f_is_even ["u", "there"] (sp_f_is_even K) := by
  refine T.f_is_even.ok sc_f_is_even (fun vs H Q E h => ?_) (fun cdv Ar outer s H vs Q E hr h => ⟨_, (pss_cons (ps_set (i := 2) sc_f_is_even.nd rfl (Or.inl rfl) (pe_call (ok_f_pattern_counts T) (hr.mono (by decide)) (by rfl) T.g_f_pattern_counts T.f_pattern_counts.kp T.b_f_pattern_counts .nil pass0 (pa_cons (pv 0) (pa_cons (pv 1) pa_nil))))
    (pss_one (ps_ret (pe_cmpR op_eq (pe_callB (cr_minK (K := K) rfl rfl) (by rfl) T.n_min (by decide +kernel) (pa_cons (pv 2) pa_nil)) (pe_callB (cr_maxK (K := K) rfl rfl) (by rfl) T.n_max (by decide +kernel) (pa_cons (pv 2) pa_nil)) (nomark _))))), ?_⟩)
  · obtain ⟨u, n, a, c, rfl, _⟩ := h
    rfl
  · obtain ⟨u, n, a, c, rfl, ok, hu, hc, k⟩ := h
    refine ⟨_, rfl, _, rfl, u, a, c, rfl, lt64 ok hu, ok_len ok, hc, fun H1 q s1 h1 => ?_⟩
    have hp : 0 < ((pcs u c).map Int.ofNat).length := by
      rw [List.length_map]
      exact List.length_pos_iff.mpr (pcs_ne u c)
    refine ⟨_, rfl, q, _, rfl, sq_ints h1, hp, fun m hm1 hm2 => ?_⟩
    refine ⟨_, rfl, q, _, rfl, sq_ints h1, hp, fun M hM1 hM2 => ?_⟩
    refine ⟨rfl, ?_⟩
    rw [int_eq, even_of ok hu hm1 hm2 hM1 hM2]
    exact k H1 s1
def sp_f_first_uneven (K : PySem.W.Frag) : Sp := fun vs H Q _ => ∃ (n : Nat) (a : Addr) (c : List Nat), vs = [.int (n : Int), .ref a] ∧ Ok n c ∧ SqL K H a (nV c) ∧
  ∀ H', Same H H' → Q (optV (firstU n c)) H'
theorem ok_f_first_uneven (T : Txt K mg A) : FnOk P w K mg base CX0 4 A.a_f_first_uneven A.d_f_first_uneven ["bits", "there"] (sp_f_first_uneven K) := by
  refine T.f_first_uneven.ok sc_f_first_uneven (fun vs H Q E h => ?_) (fun cdv Ar outer s H vs Q E hr h => ⟨_, (pss_cons (ps_for PassesOwn.never rfl (pi_range1 (by rfl) T.n_range (pa_cons (pe_op op_add (pv 0) pe_int) pa_nil)) (pg_name (i := 2) sc_f_first_uneven.nd rfl (Or.inl rfl))
    (pss_one (ps_for PassesOwn.never rfl (pi_listK (K := K) rfl (pe_call (ok_f_sets_of T) (hr.mono (by decide)) (by rfl) T.g_f_sets_of T.f_sets_of.kp T.b_f_sets_of .nil pass0 (pa_cons (pv 0) (pa_cons (pv 2) pa_nil)))) (pg_name (i := 3) sc_f_first_uneven.nd rfl (Or.inl rfl))
    (pss_one (ps_if (pt_not (pt_val (pe_call (ok_f_is_even T) (hr.mono (by decide)) (by rfl) T.g_f_is_even T.f_is_even.kp T.b_f_is_even .nil pass0 (pa_cons (pv 3) (pa_cons (pv 1) pa_nil))))) (pss_one (ps_ret (pv 3))) pss_nil)))))
    (pss_one (ps_ret pe_non))), ?_⟩)
  · obtain ⟨n, a, c, rfl, _⟩ := h
    rfl
  · obtain ⟨n, a, c, rfl, ok, hc, k⟩ := h
    have hn := ok.hi
    refine ⟨_, rfl, _, _, rfl, rfl, _, rfl, (by show (-(2 ^ 62) : Int) ≤ (n : Int) + 1; omega), (by show (n : Int) + 1 < 2 ^ 62; omega), ?_⟩
    rw [plus_one]
    refine for_range (lo := 0) (n := n + 1) (fun i σ H' => ∃ (v u : Option V), σ = [some (.int (n : Int)), some (.ref a), v, u] ∧ Same H H' ∧ ∀ k < i, ∀ v ∈ setsOf n k, Kh407.even ⟨n, c⟩ v = true) ?_ ?_ ?_
    · exact ⟨none, none, rfl, fun _ _ e => e, fun k hk => absurd hk (Nat.not_lt_zero _)⟩
    · rintro i σ H1 hi ⟨v, u, rfl, s1, h1⟩
      refine ⟨_, rfl, _, rfl, n, i, (by rw [Int.zero_add]; rfl), hn, fun H2 q s2 h2 => ?_⟩
      refine ⟨q, rfl, ⟨_, SqL.of h2⟩, for_list (K := K) (a := q) (xs := nV (setsOf n i)) (fun j σ H' => ∃ (v u : Option V), σ = [some (.int (n : Int)), some (.ref a), v, u] ∧ Same H2 H' ∧ ∀ v ∈ (setsOf n i).take j, Kh407.even ⟨n, c⟩ v = true) ?_ ?_ ?_ ?_⟩
      · exact ⟨_, _, rfl, fun _ _ e => e, fun v hv => by rw [List.take_zero] at hv; cases hv⟩
      · rintro j σ H' _ ⟨_, _, _, s3, _⟩
        exact s3.seq (SqL.of h2)
      · rintro j y σ H3 hy ⟨v, u, rfl, s3, h3⟩
        obtain ⟨x, hx, rfl⟩ := nV_get hy
        have hxm := sets_mem.mp (List.mem_of_getElem? hx)
        have s13 := (s1.trans s2).trans s3
        refine ⟨_, rfl, _, rfl, x, n, a, c, rfl, ok, hxm.1, s13.seq hc, fun H4 s4 => ⟨_, rfl, ?_⟩⟩
        cases e : Kh407.even ⟨n, c⟩ x with
        | false =>
          refine ⟨_, rfl, ?_⟩
          have := k H4 (s13.trans s4)
          rw [firstU_some hn hi hx h1 h3 e] at this
          exact this
        | true =>
          refine ⟨v, _, rfl, s3.trans s4, fun z hz => ?_⟩
          rw [take_more hx] at hz
          rcases List.mem_append.mp hz with hz | hz
          · exact h3 z hz
          · rw [List.mem_singleton] at hz
            rw [hz]
            exact e
      · rintro σ H3 ⟨v, u, rfl, s3, h3⟩
        rw [nV_len, List.take_length] at h3
        refine ⟨v, u, rfl, (s1.trans s2).trans s3, fun k hk => ?_⟩
        by_cases e : k = i
        · rw [e]
          exact h3
        · exact h1 k (by omega)
    · rintro σ H1 ⟨v, u, rfl, s1, h1⟩
      have := k H1 s1
      rw [firstU_none hn h1] at this
      exact this
end
end Fw
/-! piece E4 -/
namespace Fw
open PySem PySem.Spec PyProof.Rows L2
/-- a look's end: a new list, all else as it was -/
theorem looked {C g p q : Addr} {H H3 : Hp} {a : Kh407.Abs} {o : HO} (h : At C g H p a) (hg : H g ≠ none) (s : Same H H3) (hq : H3 q = none) : At C g (upd H3 q o) p a ∧ Els p H (upd H3 q o) ∧ q ≠ g := by
  have s4 := s.trans (same_new (o := o) hq)
  exact ⟨h.same s4, .of s4, ne_g hg (s.free hq)⟩
theorem twoL_len (n : Nat) (c : List Nat) : (twoL n c).length = n + 1 := by
  unfold twoL
  rw [List.length_map, List.length_range]
section
variable {P : Program} {w : World} {K : PySem.W.Frag} {mg : Str → Option Value} {base : Heap} {A : Adr}
def sp_m_closed (C : Addr) : Sp := spM C 0 fun _ => .closed
theorem ok_m_closed (T : Txt K mg A) : FnOk P w K mg base CX0 2 A.a_m_closed A.d_m_closed ["self"] (sp_m_closed A.C_WordSet) := by
  refine T.m_closed.ok sc_m_closed (fun vs H Q E h => ?_) (fun cdv Ar outer s H vs Q E hr h => ⟨_, (pss_one (ps_ret (pe_lst (pa_cons (pe_ifExp (pt_cmpR (op_eqDK (K := K) rfl hr.units) (pe_call (ok_f_closed_up T) (hr.mono (by decide)) (by rfl) T.g_f_closed_up T.f_closed_up.kp T.b_f_closed_up .nil pass0 (pa_cons (pe_fldK (K := K) rfl (pv 0) rfl) pa_nil)) (pe_fldK (K := K) rfl (pv 0) rfl) (nomark _)) pe_int pe_int) pa_nil)))), ?_⟩)
  · obtain ⟨p, g, a, xs, rfl, hx, _⟩ := h
    cases list0 hx
    rfl
  · obtain ⟨p, g, ⟨n, c⟩, xs, rfl, hx, hA, hg, ok, k⟩ := h
    obtain ⟨dx, l, h1, h2, hlg⟩ := id hA
    cases list0 hx
    have ok : Ok n c := ok
    refine ⟨_, rfl, p, _, dx, _, _, rfl, h1, T.cl_WordSet, T.nf_there, wF_there _ _, l, n, c, rfl, ok, SqL.of h2, fun H3 q s3 hq0 g3 => ?_⟩
    refine ⟨_, rfl, p, _, dx, _, _, rfl, s3 _ _ h1, T.cl_WordSet, T.nf_there, wF_there _ _, .list (dL (Kh407.closing (n + 1) ⟨n, c⟩).c), .list (dL c), .lst (SqL.of g3) (dL_all _), .lst (SqL.of (s3 _ _ h2)) (dL_all _), dL_shaped _, dL_shaped _, _, rfl, ?_⟩
    have ec := closed_is ok
    have k : ∀ H' q, At A.C_WordSet g H' p ⟨n, c⟩ → Els p H H' → q ≠ g → H' q = some (.lst [V.int (if Kh407.closedC ⟨n, c⟩ then 1 else 0)]) → Q (.ref q) H' := k
    rw [ec] at k
    by_cases e : (Kh407.closing (n + 1) ⟨n, c⟩).c = c
    · refine ifT (by show PyData.eqv _ _ = true; rw [eq_lists]; exact decide_eq_true e) ⟨one_small, fun r hr => ?_⟩
      rw [decide_eq_true e] at k
      obtain ⟨z1, z2, z3⟩ := looked (o := .lst [V.int 1]) hA hg s3 hr
      exact k _ r z1 z2 z3 upd_same
    · refine ifF (by show PyData.eqv _ _ = false; rw [eq_lists]; exact decide_eq_false e) ⟨one_small, fun r hr => ?_⟩
      rw [decide_eq_false e] at k
      obtain ⟨z1, z2, z3⟩ := looked (o := .lst [V.int 0]) hA hg s3 hr
      exact k _ r z1 z2 z3 upd_same
def sp_m_twos (C : Addr) : Sp := spM C 0 fun _ => .twos
theorem ok_m_twos (T : Txt K mg A) : FnOk P w K mg base CX0 5 A.a_m_twos A.d_m_twos ["self"] (sp_m_twos A.C_WordSet) := by
  refine T.m_twos.ok sc_m_twos (fun vs H Q E h => ?_) (fun cdv Ar outer s H vs Q E hr h => ⟨_, (pss_one (ps_ret (pe_op op_cat (pe_lst (pa_cons (pe_op op_add (pe_fldK (K := K) rfl (pv 0) rfl) pe_int) pa_nil)) (pe_call (ok_f_counts_of_twos T) (hr.mono (by decide)) (by rfl) T.g_f_counts_of_twos T.f_counts_of_twos.kp T.b_f_counts_of_twos .nil pass0 (pa_cons (pe_fldK (K := K) rfl (pv 0) rfl) (pa_cons (pe_fldK (K := K) rfl (pv 0) rfl) pa_nil)))))), ?_⟩)
  · obtain ⟨p, g, a, xs, rfl, hx, _⟩ := h
    cases list0 hx
    rfl
  · obtain ⟨p, g, ⟨n, c⟩, xs, rfl, hx, hA, hg, ok, k⟩ := h
    obtain ⟨dx, l, h1, h2, hlg⟩ := id hA
    cases list0 hx
    have ok : Ok n c := ok
    refine ⟨_, rfl, p, _, dx, _, _, rfl, h1, T.cl_WordSet, T.nf_bits, wF_bits _ _, _, _, rfl, rfl, one_small, fun b hb => ?_⟩
    have s1 := same_new (o := .lst [V.int ((n : Int) + 1)]) hb
    refine ⟨_, rfl, p, _, dx, _, _, rfl, s1 _ _ h1, T.cl_WordSet, T.nf_bits, wF_bits _ _, _, rfl, p, _, dx, _, _, rfl, s1 _ _ h1, T.cl_WordSet, T.nf_there, wF_there _ _, n, l, c, rfl, ok.hi, ok_len ok, SqL.of (s1 _ _ h2), fun H3 q s3 h3 => ?_⟩
    refine ⟨b, q, _, _, rfl, rfl, s3 _ _ upd_same, h3, ?_, fun r hr => ?_⟩
    · rw [nV_len, twoL_len]
      show 1 + (n + 1) ≤ sizeLine
      have := ok.hi
      exact Nat.le_of_lt (small64 (by omega))
    · obtain ⟨z1, z2, z3⟩ := looked (o := .lst ([V.int ((n : Int) + 1)] ++ nV (twoL n c))) hA hg (s1.trans s3) hr
      refine k _ r z1 z2 z3 ?_
      rw [upd_same]
      show _ = some (HO.lst (ansV (Kh407.nats (n + 1) ((List.range (n + 1)).map (Kh407.twos ⟨n, c⟩)))))
      rw [twoL_is ok, nV_ints]
      rfl
def sp_m_sums (C : Addr) : Sp := spM C 0 fun _ => .sums
theorem ok_m_sums (T : Txt K mg A) : FnOk P w K mg base CX0 5 A.a_m_sums A.d_m_sums ["self"] (sp_m_sums A.C_WordSet) := by
  refine T.m_sums.ok sc_m_sums (fun vs H Q E h => ?_) (fun cdv Ar outer s H vs Q E hr h => ⟨_, (pss_cons (ps_set (i := 1) sc_m_sums.nd rfl (Or.inr rfl) (pe_call (ok_f_counts_of_twos T) (hr.mono (by decide)) (by rfl) T.g_f_counts_of_twos T.f_counts_of_twos.kp T.b_f_counts_of_twos .nil pass0 (pa_cons (pe_fldK (K := K) rfl (pv 0) rfl) (pa_cons (pe_fldK (K := K) rfl (pv 0) rfl) pa_nil))))
    (pss_one (ps_ret (pe_op op_cat (pe_lst (pa_cons (pe_op op_add (pe_fldK (K := K) rfl (pv 0) rfl) pe_int) pa_nil)) (pe_lc (own := [("k", 2)]) (g := gName 2) rfl sc_m_sums.nd (pi_range1 (by rfl) T.n_range (pa_cons (pe_op op_add (pe_fldK (K := K) rfl (pv 0) rfl) pe_int) pa_nil)) (blkOk_by (own := [("k", 2)]) (N := N_m_sums) (sc := defScope s_m_sums) (by decide +kernel)) (fun _ _ _ _ _ => (pg_name (i := 2) sc_m_sums.nd rfl (Or.inl rfl))) (fun _ _ _ _ _ => pts_nil) (fun _ _ _ _ _ => (pe_call (ok_f_kth_sum T) (hr.mono (by decide)) (by rfl) T.g_f_kth_sum T.f_kth_sum.kp T.b_f_kth_sum .nil pass0 (pa_cons (pe_fldK (K := K) rfl (pv 0) rfl) (pa_cons (pv 1) (pa_cons (pv 2) pa_nil)))))))))), ?_⟩)
  · obtain ⟨p, g, a, xs, rfl, hx, _⟩ := h
    cases list0 hx
    rfl
  · obtain ⟨p, g, ⟨n, c⟩, xs, rfl, hx, hA, hg, ok, k⟩ := h
    obtain ⟨dx, l, h1, h2, hlg⟩ := id hA
    cases list0 hx
    have ok : Ok n c := ok
    have hn := ok.hi
    refine ⟨_, rfl, p, _, dx, _, _, rfl, h1, T.cl_WordSet, T.nf_bits, wF_bits _ _, _, rfl, p, _, dx, _, _, rfl, h1, T.cl_WordSet, T.nf_there, wF_there _ _, n, l, c, rfl, ok.hi, ok_len ok, SqL.of h2, fun H3 q s3 h3 => ?_⟩
    refine ⟨_, rfl, p, _, dx, _, _, rfl, s3 _ _ h1, T.cl_WordSet, T.nf_bits, wF_bits _ _, _, _, rfl, rfl, one_small, fun b hb => ?_⟩
    have s4 := s3.trans (same_new (o := .lst [V.int ((n : Int) + 1)]) hb)
    have h4 := same_new (o := .lst [V.int ((n : Int) + 1)]) hb _ _ h3
    refine ⟨_, rfl, p, _, dx, _, _, rfl, s4 _ _ h1, T.cl_WordSet, T.nf_bits, wF_bits _ _, _, _, rfl, rfl, _, rfl, (by show (-(2 ^ 62) : Int) ≤ (n : Int) + 1; omega), (by show (n : Int) + 1 < 2 ^ 62; omega), fun D hD => ?_⟩
    have hbD : ∀ H', Same (upd H3 b (.lst [V.int ((n : Int) + 1)])) H' → H' b = some (.lst [V.int ((n : Int) + 1)]) := fun H' s => s _ _ upd_same
    rw [plus_one]
    generalize upd H3 b (.lst [V.int ((n : Int) + 1)]) = H4 at *
    refine lc_range (lo := 0) (n := n + 1) (fun i H' => Same H4 H' ∧ H' D = some (.lst (((List.range i).map fun k => ksum n (twoL n c) k).map V.int))) ?_ ?_ ?_
    · exact ⟨same_new hD, upd_same⟩
    · rintro i H' hi ⟨s5, h5⟩
      refine ⟨rfl, _, rfl, p, _, dx, _, _, rfl, s5 _ _ (s4 _ _ h1), T.cl_WordSet, T.nf_bits, wF_bits _ _, _, rfl, _, rfl, n, i, q, twoL n c, ?_, hn, SqL.of (s5 _ _ h4), twoL_len n c, fun i => count_two (ok_len ok), fun H6 s6 => ?_⟩
      · rw [Int.zero_add]
        rfl
      refine ⟨_, s6 _ _ h5, ?_, same_put (s5.trans s6) hD, ?_⟩
      · rw [List.length_map, List.length_map, List.length_range]
        exact small64 (by omega)
      · rw [List.range_succ, List.map_append, List.map_append]
        exact upd_same
    · rintro H5 ⟨s5, h5⟩
      refine ⟨b, D, _, _, rfl, rfl, hbD H5 s5, h5, ?_, fun r hr => ?_⟩
      · rw [List.length_map, List.length_map, List.length_range]
        show 1 + (n + 1) ≤ sizeLine
        exact Nat.le_of_lt (small64 (by omega))
      · obtain ⟨z1, z2, z3⟩ := looked (o := .lst ([V.int ((n : Int) + 1)] ++ ((List.range (n + 1)).map fun k => ksum n (twoL n c) k).map V.int)) hA hg (s4.trans s5) hr
        refine k _ r z1 z2 z3 ?_
        rw [upd_same]
        show _ = some (HO.lst (ansV ⟨(n : Int) + 1, (List.range (n + 1)).map (Kh407.sums ⟨n, c⟩)⟩))
        have e : (List.range (n + 1)).map (Kh407.sums ⟨n, c⟩) = (List.range (n + 1)).map fun k => ksum n (twoL n c) k := List.map_congr_left fun k hk => sums_is ok (List.mem_range.mp hk)
        rw [e]
        rfl
def sp_m_sign (C : Addr) : Sp := spM C 2 fun xs => .sign (xs.getD 0 0) (xs.getD 1 0)
theorem ok_m_sign (T : Txt K mg A) : FnOk P w K mg base CX0 4 A.a_m_sign A.d_m_sign ["self", "k", "i"] (sp_m_sign A.C_WordSet) := by
  refine T.m_sign.ok sc_m_sign (fun vs H Q E h => ?_) (fun cdv Ar outer s H vs Q E hr h => ⟨_, (pss_cons (ps_if (PW.pt (pw_or (pt_cmpR op_gt (pv 1) (pe_fldK (K := K) rfl (pv 0) rfl) (nomark _)) (pw_or1 (pt_cmpR op_gt (pv 2) (pe_fldK (K := K) rfl (pv 0) rfl) (nomark _))))) (pss_one (ps_ret (pe_lst (pa_cons (pe_gi (by rfl) T.c_DOES_NOT_FIT) pa_nil)))) pss_nil)
    (pss_one (ps_ret (pe_lst (pa_cons pe_int (pa_cons (pe_call (ok_f_sign_sum T) (hr.mono (by decide)) (by rfl) T.g_f_sign_sum T.f_sign_sum.kp T.b_f_sign_sum .nil pass0 (pa_cons (pe_fldK (K := K) rfl (pv 0) rfl) (pa_cons (pv 1) (pa_cons (pv 2) pa_nil)))) pa_nil)))))), ?_⟩)
  · obtain ⟨p, g, a, xs, rfl, hx, _⟩ := h
    obtain ⟨x, y, rfl⟩ := list2 hx
    rfl
  · obtain ⟨p, g, ⟨n, c⟩, xs, rfl, hx, hA, hg, ok, k⟩ := h
    obtain ⟨dx, l, h1, h2, hlg⟩ := id hA
    obtain ⟨x, i, rfl⟩ := list2 hx
    have k : ∀ H' q, At A.C_WordSet g H' p (Kh407.does ⟨n, c⟩ (.sign x i)).1 → Els p H H' → q ≠ g → H' q = some (.lst (ansV (Kh407.does ⟨n, c⟩ (.sign x i)).2)) → Q (.ref q) H' := k
    have ok : Ok n c := ok
    have hn := ok.hi
    refine ⟨_, rfl, _, rfl, p, _, dx, _, _, rfl, h1, T.cl_WordSet, T.nf_bits, wF_bits _ _, _, _, rfl, rfl, _, rfl, ?_⟩
    by_cases c1 : n < x
    · refine ifT (decide_eq_true (Int.ofNat_lt.mpr c1)) ?_
      rw [does_sign_bad (.inl c1)] at k
      exact ⟨one_small, fun q hq => k _ q ⟨dx, l, same_new hq _ _ h1, same_new hq _ _ h2, hlg⟩ (.of (same_new hq)) (ne_g hg hq) upd_same⟩
    refine ifF (decide_eq_false fun z => c1 (Int.ofNat_lt.mp z)) ?_
    refine ⟨_, rfl, _, rfl, p, _, dx, _, _, rfl, h1, T.cl_WordSet, T.nf_bits, wF_bits _ _, _, _, rfl, rfl, _, rfl, ?_⟩
    by_cases c2 : n < i
    · refine ifT (decide_eq_true (Int.ofNat_lt.mpr c2)) ?_
      rw [does_sign_bad (.inr c2)] at k
      exact ⟨one_small, fun q hq => k _ q ⟨dx, l, same_new hq _ _ h1, same_new hq _ _ h2, hlg⟩ (.of (same_new hq)) (ne_g hg hq) upd_same⟩
    refine ifF (decide_eq_false fun z => c2 (Int.ofNat_lt.mp z)) ?_
    rw [does_sign (by show ¬ (n < x ∨ n < i); omega)] at k
    have k : ∀ H' q, At A.C_WordSet g H' p ⟨n, c⟩ → Els p H H' → q ≠ g → H' q = some (.lst [V.int 0, V.int (Kh407.sign n x i)]) → Q (.ref q) H' := k
    rw [sign_tab n (by omega) x (by omega) i (by omega)] at k
    refine ⟨_, rfl, p, _, dx, _, _, rfl, h1, T.cl_WordSet, T.nf_bits, wF_bits _ _, _, rfl, _, rfl, n, x, i, rfl, hn, by omega, fun H3 s3 => ⟨two_small, fun r hr => ?_⟩⟩
    obtain ⟨z1, z2, z3⟩ := looked (o := .lst [V.int 0, V.int (ssum n x i)]) hA hg s3 hr
    exact k _ r z1 z2 z3 upd_same
def sp_m_tilt (C : Addr) : Sp := spM C 1 fun xs => .tilt (xs.headD 0)
theorem ok_m_tilt (T : Txt K mg A) : FnOk P w K mg base CX0 4 A.a_m_tilt A.d_m_tilt ["self", "u"] (sp_m_tilt A.C_WordSet) := by
  refine T.m_tilt.ok sc_m_tilt (fun vs H Q E h => ?_) (fun cdv Ar outer s H vs Q E hr h => ⟨_, (pss_cons (ps_if (pt_not (pt_val (pe_meth (pv 0) T.cl_WordSet T.mt_m_fits (ok_m_fits T) (hr.mono (by decide)) T.b_m_fits .nil pass0 (pa_cons (pv 1) pa_nil)))) (pss_one (ps_ret (pe_lst (pa_cons (pe_gi (by rfl) T.c_DOES_NOT_FIT) pa_nil)))) pss_nil)
    (pss_one (ps_ret (pe_lst (pa_cons pe_int (pa_cons (pe_call (ok_f_tilt_of T) (hr.mono (by decide)) (by rfl) T.g_f_tilt_of T.f_tilt_of.kp T.b_f_tilt_of .nil pass0 (pa_cons (pv 1) (pa_cons (pe_fldK (K := K) rfl (pv 0) rfl) pa_nil))) pa_nil)))))), ?_⟩)
  · obtain ⟨p, g, a, xs, rfl, hx, _⟩ := h
    obtain ⟨x, rfl⟩ := list1 hx
    rfl
  · obtain ⟨p, g, ⟨n, c⟩, xs, rfl, hx, hA, hg, ok, k⟩ := h
    obtain ⟨dx, l, h1, h2, hlg⟩ := id hA
    obtain ⟨x, rfl⟩ := list1 hx
    have k : ∀ H' q, At A.C_WordSet g H' p (Kh407.does ⟨n, c⟩ (.tilt x)).1 → Els p H H' → q ≠ g → H' q = some (.lst (ansV (Kh407.does ⟨n, c⟩ (.tilt x)).2)) → Q (.ref q) H' := k
    have ok : Ok n c := ok
    refine ⟨_, rfl, p, dx, _, rfl, h1, wF_no (by decide +kernel) (by decide +kernel) _ _, _, rfl, p, g, ⟨n, c⟩, x, rfl, hA, ok.hi, _, rfl, ?_⟩
    cases e : Kh407.isW ⟨n, c⟩ x with
    | false =>
      rw [does_tilt_bad e] at k
      exact ⟨one_small, fun q hq => k _ q ⟨dx, l, same_new hq _ _ h1, same_new hq _ _ h2, hlg⟩ (.of (same_new hq)) (ne_g hg hq) upd_same⟩
    | true =>
      rw [does_tilt e, tilt_is ok (isW_lt.mp e)] at k
      refine ⟨_, rfl, _, rfl, p, _, dx, _, _, rfl, h1, T.cl_WordSet, T.nf_there, wF_there _ _, x, l, c, rfl, ok_len ok, SqL.of h2, fun H3 s3 => ⟨two_small, fun r hr => ?_⟩⟩
      obtain ⟨z1, z2, z3⟩ := looked (o := .lst [V.int 0, V.int (tlt x c)]) hA hg s3 hr
      exact k _ r z1 z2 z3 upd_same
end
end Fw
/-! piece E5 -/
namespace Fw
open PySem PySem.Spec PyProof.Rows L2
theorem three_small {v u t : V} : [v, u, t].length ≤ sizeLine := by
  show 3 ≤ sizeLine
  decide
theorem pcs_len {u : Nat} {c : List Nat} (h : u < 64) : (pcs u c).length ≤ 64 := by
  unfold pcs
  rw [List.length_map]
  exact pats_len h
theorem seen_len (n : Nat) (c : List Nat) (x : Nat) : (seen n c x).length = n + 1 := by
  unfold seen
  rw [List.length_map, List.length_range]
theorem offL_len (n : Nat) (c : List Nat) : (offL n c).length = 2 ^ n := by
  unfold offL
  rw [List.length_map, List.length_range]
section
variable {P : Program} {w : World} {K : PySem.W.Frag} {mg : Str → Option Value} {base : Heap} {A : Adr}
def sp_m_patterns (C : Addr) : Sp := spM C 1 fun xs => .patterns (xs.headD 0)
theorem ok_m_patterns (T : Txt K mg A) : FnOk P w K mg base CX0 3 A.a_m_patterns A.d_m_patterns ["self", "u"] (sp_m_patterns A.C_WordSet) := by
  refine T.m_patterns.ok sc_m_patterns (fun vs H Q E h => ?_) (fun cdv Ar outer s H vs Q E hr h => ⟨_, (pss_cons (ps_if (pt_not (pt_val (pe_meth (pv 0) T.cl_WordSet T.mt_m_fits (ok_m_fits T) (hr.mono (by decide)) T.b_m_fits .nil pass0 (pa_cons (pv 1) pa_nil)))) (pss_one (ps_ret (pe_lst (pa_cons (pe_gi (by rfl) T.c_DOES_NOT_FIT) pa_nil)))) pss_nil)
    (pss_cons (ps_set (i := 2) sc_m_patterns.nd rfl (Or.inl rfl) (pe_call (ok_f_pattern_counts T) (hr.mono (by decide)) (by rfl) T.g_f_pattern_counts T.f_pattern_counts.kp T.b_f_pattern_counts .nil pass0 (pa_cons (pv 1) (pa_cons (pe_fldK (K := K) rfl (pv 0) rfl) pa_nil))))
    (pss_one (ps_ret (pe_op op_cat (pe_lst (pa_cons (pe_callB (call_lenK (K := K) rfl) (by rfl) T.n_len PySem.boot_len (pa_cons (pv 2) pa_nil)) pa_nil)) (pv 2)))))), ?_⟩)
  · obtain ⟨p, g, a, xs, rfl, hx, _⟩ := h
    obtain ⟨x, rfl⟩ := list1 hx
    rfl
  · obtain ⟨p, g, ⟨n, c⟩, xs, rfl, hx, hA, hg, ok, k⟩ := h
    obtain ⟨dx, l, h1, h2, hlg⟩ := id hA
    obtain ⟨x, rfl⟩ := list1 hx
    have k : ∀ H' q, At A.C_WordSet g H' p (Kh407.does ⟨n, c⟩ (.patterns x)).1 → Els p H H' → q ≠ g → H' q = some (.lst (ansV (Kh407.does ⟨n, c⟩ (.patterns x)).2)) → Q (.ref q) H' := k
    have ok : Ok n c := ok
    refine ⟨_, rfl, p, dx, _, rfl, h1, wF_no (by decide +kernel) (by decide +kernel) _ _, _, rfl, p, g, ⟨n, c⟩, x, rfl, hA, ok.hi, _, rfl, ?_⟩
    cases e : Kh407.isW ⟨n, c⟩ x with
    | false =>
      rw [does_patterns_bad e] at k
      exact ⟨one_small, fun q hq => k _ q ⟨dx, l, same_new hq _ _ h1, same_new hq _ _ h2, hlg⟩ (.of (same_new hq)) (ne_g hg hq) upd_same⟩
    | true =>
      have hlt := isW_lt.mp e
      rw [does_patterns e, patterns_is ok hlt] at k
      refine ⟨_, rfl, _, rfl, p, _, dx, _, _, rfl, h1, T.cl_WordSet, T.nf_there, wF_there _ _, x, l, c, rfl, lt64 ok hlt, ok_len ok, SqL.of h2, fun H3 q s3 h3 => ?_⟩
      refine ⟨_, rfl, q, _, rfl, .inl (SqL.of h3), one_small, fun b hb => ?_⟩
      have s4 := same_new (o := .lst [V.int ((nV (pcs x c)).length : Int)]) hb
      refine ⟨_, rfl, b, q, _, _, rfl, rfl, upd_same, s4 _ _ h3, ?_, fun r hr => ?_⟩
      · rw [nV_len]
        have := pcs_len (c := c) (lt64 ok hlt)
        show 1 + (pcs x c).length ≤ sizeLine
        exact Nat.le_of_lt (Nat.lt_of_le_of_lt (by omega : 1 + (pcs x c).length ≤ 65) (by decide))
      · obtain ⟨z1, z2, z3⟩ := looked (o := .lst ([V.int ((nV (pcs x c)).length : Int)] ++ nV (pcs x c))) hA hg (s3.trans s4) hr
        refine k _ r z1 z2 z3 ?_
        rw [upd_same, nV_len, nV_ints]
        rfl
def sp_m_even (C : Addr) : Sp := spM C 1 fun xs => .even (xs.headD 0)
theorem ok_m_even (T : Txt K mg A) : FnOk P w K mg base CX0 4 A.a_m_even A.d_m_even ["self", "u"] (sp_m_even A.C_WordSet) := by
  refine T.m_even.ok sc_m_even (fun vs H Q E h => ?_) (fun cdv Ar outer s H vs Q E hr h => ⟨_, (pss_cons (ps_if (pt_not (pt_val (pe_meth (pv 0) T.cl_WordSet T.mt_m_fits (ok_m_fits T) (hr.mono (by decide)) T.b_m_fits .nil pass0 (pa_cons (pv 1) pa_nil)))) (pss_one (ps_ret (pe_lst (pa_cons (pe_gi (by rfl) T.c_DOES_NOT_FIT) pa_nil)))) pss_nil)
    (pss_one (ps_ret (pe_lst (pa_cons (pe_ifExp (pt_val (pe_call (ok_f_is_even T) (hr.mono (by decide)) (by rfl) T.g_f_is_even T.f_is_even.kp T.b_f_is_even .nil pass0 (pa_cons (pv 1) (pa_cons (pe_fldK (K := K) rfl (pv 0) rfl) pa_nil)))) pe_int pe_int) pa_nil))))), ?_⟩)
  · obtain ⟨p, g, a, xs, rfl, hx, _⟩ := h
    obtain ⟨x, rfl⟩ := list1 hx
    rfl
  · obtain ⟨p, g, ⟨n, c⟩, xs, rfl, hx, hA, hg, ok, k⟩ := h
    obtain ⟨dx, l, h1, h2, hlg⟩ := id hA
    obtain ⟨x, rfl⟩ := list1 hx
    have k : ∀ H' q, At A.C_WordSet g H' p (Kh407.does ⟨n, c⟩ (.even x)).1 → Els p H H' → q ≠ g → H' q = some (.lst (ansV (Kh407.does ⟨n, c⟩ (.even x)).2)) → Q (.ref q) H' := k
    have ok : Ok n c := ok
    refine ⟨_, rfl, p, dx, _, rfl, h1, wF_no (by decide +kernel) (by decide +kernel) _ _, _, rfl, p, g, ⟨n, c⟩, x, rfl, hA, ok.hi, _, rfl, ?_⟩
    cases e : Kh407.isW ⟨n, c⟩ x with
    | false =>
      rw [does_even_bad e] at k
      exact ⟨one_small, fun q hq => k _ q ⟨dx, l, same_new hq _ _ h1, same_new hq _ _ h2, hlg⟩ (.of (same_new hq)) (ne_g hg hq) upd_same⟩
    | true =>
      have hlt := isW_lt.mp e
      rw [does_even e] at k
      refine ⟨_, rfl, _, rfl, p, _, dx, _, _, rfl, h1, T.cl_WordSet, T.nf_there, wF_there _ _, x, n, l, c, rfl, ok, hlt, SqL.of h2, fun H3 s3 => ⟨_, rfl, ?_⟩⟩
      cases e2 : Kh407.even ⟨n, c⟩ x with
      | true =>
        rw [e2] at k
        refine ⟨one_small, fun r hr => ?_⟩
        obtain ⟨z1, z2, z3⟩ := looked (o := .lst [V.int 1]) hA hg s3 hr
        exact k _ r z1 z2 z3 upd_same
      | false =>
        rw [e2] at k
        refine ⟨one_small, fun r hr => ?_⟩
        obtain ⟨z1, z2, z3⟩ := looked (o := .lst [V.int 0]) hA hg s3 hr
        exact k _ r z1 z2 z3 upd_same
def sp_m_strength (C : Addr) : Sp := spM C 0 fun _ => .strength
theorem ok_m_strength (T : Txt K mg A) : FnOk P w K mg base CX0 5 A.a_m_strength A.d_m_strength ["self"] (sp_m_strength A.C_WordSet) := by
  refine T.m_strength.ok sc_m_strength (fun vs H Q E h => ?_) (fun cdv Ar outer s H vs Q E hr h => ⟨_, (pss_cons (ps_set (i := 1) sc_m_strength.nd rfl (Or.inl rfl) (pe_call (ok_f_first_uneven T) (hr.mono (by decide)) (by rfl) T.g_f_first_uneven T.f_first_uneven.kp T.b_f_first_uneven .nil pass0 (pa_cons (pe_fldK (K := K) rfl (pv 0) rfl) (pa_cons (pe_fldK (K := K) rfl (pv 0) rfl) pa_nil))))
    (pss_cons (ps_if (pt_cmpR op_isN (pv 1) pe_non (nomark _)) (pss_one (ps_ret (pe_lst (pa_cons (pe_fldK (K := K) rfl (pv 0) rfl) pa_nil)))) pss_nil)
    (pss_one (ps_ret (pe_lst (pa_cons (pe_op op_sub (pe_call (ok_f_weight T) (hr.mono (by decide)) (by rfl) T.g_f_weight T.f_weight.kp T.b_f_weight .nil pass0 (pa_cons (pv 1) pa_nil)) pe_int) pa_nil)))))), ?_⟩)
  · obtain ⟨p, g, a, xs, rfl, hx, _⟩ := h
    cases list0 hx
    rfl
  · obtain ⟨p, g, ⟨n, c⟩, xs, rfl, hx, hA, hg, ok, k⟩ := h
    obtain ⟨dx, l, h1, h2, hlg⟩ := id hA
    cases list0 hx
    have ok : Ok n c := ok
    have k : ∀ H' q, At A.C_WordSet g H' p ⟨n, c⟩ → Els p H H' → q ≠ g → H' q = some (.lst [V.int ((Kh407.strength ⟨n, c⟩ : Nat) : Int)]) → Q (.ref q) H' := k
    refine ⟨_, rfl, p, _, dx, _, _, rfl, h1, T.cl_WordSet, T.nf_bits, wF_bits _ _, _, rfl, p, _, dx, _, _, rfl, h1, T.cl_WordSet, T.nf_there, wF_there _ _, n, l, c, rfl, ok, SqL.of h2, fun H3 s3 => ?_⟩
    refine ⟨_, rfl, rfl, _, rfl, ?_⟩
    cases e : firstU n c with
    | none =>
      rw [strength_none ok e] at k
      refine ifT (decide_eq_true rfl) ⟨_, rfl, p, _, dx, _, _, rfl, s3 _ _ h1, T.cl_WordSet, T.nf_bits, wF_bits _ _, one_small, fun r hr => ?_⟩
      obtain ⟨z1, z2, z3⟩ := looked (o := .lst [V.int (n : Int)]) hA hg s3 hr
      exact k _ r z1 z2 z3 upd_same
    | some u =>
      obtain ⟨hp, es⟩ := strength_some ok e
      rw [es] at k
      refine ifF (decide_eq_false fun z => by cases z) ⟨_, rfl, u, rfl, _, _, rfl, rfl, one_small, fun r hr => ?_⟩
      obtain ⟨z1, z2, z3⟩ := looked (o := .lst [V.int ((pop u : Int) - 1)]) hA hg s3 hr
      refine k _ r z1 z2 z3 ?_
      have ee : ((pop u - 1 : Nat) : Int) = (pop u : Int) - 1 := by omega
      rw [ee]
      exact upd_same
def sp_m_uneven (C : Addr) : Sp := spM C 0 fun _ => .uneven
theorem ok_m_uneven (T : Txt K mg A) : FnOk P w K mg base CX0 5 A.a_m_uneven A.d_m_uneven ["self"] (sp_m_uneven A.C_WordSet) := by
  refine T.m_uneven.ok sc_m_uneven (fun vs H Q E h => ?_) (fun cdv Ar outer s H vs Q E hr h => ⟨_, (pss_cons (ps_set (i := 1) sc_m_uneven.nd rfl (Or.inl rfl) (pe_call (ok_f_first_uneven T) (hr.mono (by decide)) (by rfl) T.g_f_first_uneven T.f_first_uneven.kp T.b_f_first_uneven .nil pass0 (pa_cons (pe_fldK (K := K) rfl (pv 0) rfl) (pa_cons (pe_fldK (K := K) rfl (pv 0) rfl) pa_nil))))
    (pss_cons (ps_if (pt_cmpR op_isN (pv 1) pe_non (nomark _)) (pss_one (ps_ret (pe_lst (pa_cons (pe_gi (by rfl) T.c_EVEN_EVERYWHERE) pa_nil)))) pss_nil)
    (pss_one (ps_ret (pe_lst (pa_cons (pe_call (ok_f_weight T) (hr.mono (by decide)) (by rfl) T.g_f_weight T.f_weight.kp T.b_f_weight .nil pass0 (pa_cons (pv 1) pa_nil)) (pa_cons (pv 1) pa_nil))))))), ?_⟩)
  · obtain ⟨p, g, a, xs, rfl, hx, _⟩ := h
    cases list0 hx
    rfl
  · obtain ⟨p, g, ⟨n, c⟩, xs, rfl, hx, hA, hg, ok, k⟩ := h
    obtain ⟨dx, l, h1, h2, hlg⟩ := id hA
    cases list0 hx
    have ok : Ok n c := ok
    refine ⟨_, rfl, p, _, dx, _, _, rfl, h1, T.cl_WordSet, T.nf_bits, wF_bits _ _, _, rfl, p, _, dx, _, _, rfl, h1, T.cl_WordSet, T.nf_there, wF_there _ _, n, l, c, rfl, ok, SqL.of h2, fun H3 s3 => ?_⟩
    refine ⟨_, rfl, rfl, _, rfl, ?_⟩
    cases e : firstU n c with
    | none =>
      rw [does_uneven_none e] at k
      refine ifT (decide_eq_true rfl) ⟨one_small, fun r hr => ?_⟩
      obtain ⟨z1, z2, z3⟩ := looked (o := .lst [V.int (-33)]) hA hg s3 hr
      exact k _ r z1 z2 z3 upd_same
    | some u =>
      have hu := (firstU_facts ok e).1
      rw [does_uneven e, weight_tab n (by have := ok.hi; omega) u hu] at k
      refine ifF (decide_eq_false fun z => by cases z) ⟨_, rfl, u, rfl, _, rfl, two_small, fun r hr => ?_⟩
      obtain ⟨z1, z2, z3⟩ := looked (o := .lst [V.int (pop u : Int), V.int (u : Int)]) hA hg s3 hr
      exact k _ r z1 z2 z3 upd_same
def sp_m_farthest (C : Addr) : Sp := spM C 0 fun _ => .farthest
theorem ok_m_farthest (T : Txt K mg A) : FnOk P w K mg base CX0 4 A.a_m_farthest A.d_m_farthest ["self"] (sp_m_farthest A.C_WordSet) := by
  refine T.m_farthest.ok sc_m_farthest (fun vs H Q E h => ?_) (fun cdv Ar outer s H vs Q E hr h => ⟨_, (pss_cons (ps_if (pt_cmpR op_eq (pe_callB (call_lenK (K := K) rfl) (by rfl) T.n_len PySem.boot_len (pa_cons (pe_fldK (K := K) rfl (pv 0) rfl) pa_nil)) pe_int (nomark _)) (pss_one (ps_ret (pe_lst (pa_cons (pe_gi (by rfl) T.c_NO_WORDS) pa_nil)))) pss_nil)
    (pss_cons (ps_setLc (i := 1) (own := [("x", 3)]) (g := gName 3) rfl sc_m_farthest.nd rfl rfl (sw_true rfl rfl rfl (by decide +kernel)) (pi_range1 (by rfl) T.n_range (pa_cons (pe_op op_shl pe_int (pe_fldK (K := K) rfl (pv 0) rfl)) pa_nil)) (blkOk_by (own := [("x", 3)]) (N := N_m_farthest) (sc := defScope s_m_farthest) (by decide +kernel)) (fun _ _ _ _ _ => (pg_name (i := 3) sc_m_farthest.nd rfl (Or.inl rfl))) (fun _ _ _ _ _ => pts_nil) (fun _ _ _ _ _ => (pe_callB (cr_minK (K := K) rfl rfl) (by rfl) T.n_min (by decide +kernel) (pa_cons (pe_call (ok_f_distances T) (hr.mono (by decide)) (by rfl) T.g_f_distances T.f_distances.kp T.b_f_distances .nil pass0 (pa_cons (pv 3) (pa_cons (pe_fldK (K := K) rfl (pv 0) rfl) pa_nil))) pa_nil))))
    (pss_cons (ps_set (i := 2) sc_m_farthest.nd rfl (Or.inl rfl) (pe_callB (cr_maxK (K := K) rfl rfl) (by rfl) T.n_max (by decide +kernel) (pa_cons (pv 1) pa_nil)))
    (pss_one (ps_ret (pe_lst (pa_cons (pv 2) (pa_cons (pe_bm PySem.F.plainAttrs_list PySem.F.slot_list_index PySem.F.type_list_index (mt_indexK (K := K) rfl) (pv 1) (pa_cons (pv 2) pa_nil)) (pa_cons (pe_bm PySem.F.plainAttrs_list PySem.F.slot_list_count PySem.F.type_list_count (mt_lcountK (K := K) rfl) (pv 1) (pa_cons (pv 2) pa_nil)) pa_nil))))))))), ?_⟩)
  · obtain ⟨p, g, a, xs, rfl, hx, _⟩ := h
    cases list0 hx
    rfl
  · obtain ⟨p, g, ⟨n, c⟩, xs, rfl, hx, hA, hg, ok, k⟩ := h
    obtain ⟨dx, l, h1, h2, hlg⟩ := id hA
    cases list0 hx
    have ok : Ok n c := ok
    have hn := ok.hi
    have hp := pow_small hn
    refine ⟨_, rfl, p, _, dx, _, _, rfl, h1, T.cl_WordSet, T.nf_there, wF_there _ _, l, _, rfl, .inl (SqL.of h2), rfl, _, rfl, ?_⟩
    by_cases e0 : c = []
    · refine ifT (decide_eq_true (by rw [e0]; rfl)) ?_
      rw [does_far_none e0] at k
      exact ⟨one_small, fun q hq => k _ q ⟨dx, l, same_new hq _ _ h1, same_new hq _ _ h2, hlg⟩ (.of (same_new hq)) (ne_g hg hq) upd_same⟩
    refine ifF (decide_eq_false fun z => e0 ?_) ?_
    · have z2 : ((nV c).length : Int) = 0 := V.int.inj z
      rw [nV_len] at z2
      exact List.length_eq_zero_iff.mp (show c.length = 0 by omega)
    obtain ⟨j, ej, hj1, hj2⟩ := far_is ok e0
    rw [ej] at k
    refine ⟨_, rfl, p, _, dx, _, _, rfl, h1, T.cl_WordSet, T.nf_bits, wF_bits _ _, _, _, rfl, rfl, ?_, ?_⟩
    · show (0 : Int) ≤ (n : Int) ∧ (n : Int) ≤ 1000000 ∧ _
      exact ⟨by omega, by omega, by decide⟩
    refine ⟨_, rfl, ?_, ?_, ?_⟩
    · rw [one_shl]
      refine Int.le_trans ?_ (Int.natCast_nonneg _)
      decide
    · rw [one_shl]
      exact Int.lt_of_le_of_lt (Int.ofNat_le.mpr hp) (by decide)
    intro D hD
    rw [one_shl, Int.toNat_natCast]
    refine lc_range (lo := 0) (n := 2 ^ n) (fun i H' => Same H H' ∧ H' D = some (.lst (nV ((List.range i).map fun x => mn (c.map (dst x)))))) ?_ ?_ ?_
    · exact ⟨same_new hD, upd_same⟩
    · rintro i H' hi ⟨s1, g1⟩
      refine ⟨rfl, _, rfl, _, rfl, p, _, dx, _, _, rfl, s1 _ _ h1, T.cl_WordSet, T.nf_there, wF_there _ _, i, l, c, ?_, ok_len ok, s1.seq (SqL.of h2), fun H3 q s3 g3 => ?_⟩
      · rw [Int.zero_add]
        rfl
      refine ⟨q, _, rfl, sq_ints g3, ?_, fun m hm1 hm2 => ?_⟩
      · rw [List.length_map, List.length_map]
        exact List.length_pos_iff.mpr e0
      rw [min_is hm1 hm2]
      refine ⟨_, s3 _ _ g1, ?_, same_put (s1.trans s3) hD, ?_⟩
      · rw [nV_len, List.length_map, List.length_range]
        exact small64 (by omega)
      · rw [List.range_succ, List.map_append, nV_app]
        exact upd_same
    · rintro H3 ⟨s3, g3⟩
      have g3 : H3 D = some (.lst (nV (offL n c))) := g3
      refine ⟨_, rfl, D, _, rfl, sq_ints g3, ?_, fun M hM1 hM2 => ?_⟩
      · rw [List.length_map, offL_len]
        exact Nat.two_pow_pos n
      rw [max_is hM1 hM2]
      generalize hd : mx (offL n c) = d at *
      refine ⟨_, rfl, _, rfl, .inl ⟨rfl, _, SqL.of g3⟩, _, rfl, D, _, _, j, V.int (d : Int), rfl, rfl, SqL.of g3, rfl, flat_nV _, ?_, ?_, ?_, ?_⟩
      · unfold nV
        rw [List.getElem?_map, hj1]
        rfl
      · show ((d : Int) == (d : Int)) = true
        exact beq_self_eq_true _
      · intro m z hm hz
        obtain ⟨y, hy, rfl⟩ := nV_get hz
        show ((y : Int) == (d : Int)) = false
        rw [beq_eq_false_iff_ne]
        intro z
        exact hj2 m hm (by rw [hy, Int.ofNat_inj.mp z])
      refine ⟨_, rfl, .inl ⟨rfl, _, sq_ints g3⟩, _, rfl, D, _, _, rfl, rfl, sq_ints g3, three_small, fun r hr => ?_⟩
      obtain ⟨z1, z2, z3⟩ := looked (o := .lst [V.int (d : Int), V.int (j : Int), V.int ((((offL n c).map Int.ofNat).count (d : Int) : Nat) : Int)]) hA hg s3 hr
      refine k _ r z1 z2 z3 ?_
      rw [upd_same, count_ofNat]
      rfl
def sp_m_alike (C : Addr) : Sp := spM C 1 fun xs => .alike (xs.headD 0)
theorem ok_m_alike (T : Txt K mg A) : FnOk P w K mg base CX0 5 A.a_m_alike A.d_m_alike ["self", "x"] (sp_m_alike A.C_WordSet) := by
  refine T.m_alike.ok sc_m_alike (fun vs H Q E h => ?_) (fun cdv Ar outer s H vs Q E hr h => ⟨_, (pss_cons (ps_if (pt_not (pt_val (pe_meth (pv 0) T.cl_WordSet T.mt_m_fits (ok_m_fits T) (hr.mono (by decide)) T.b_m_fits .nil pass0 (pa_cons (pv 1) pa_nil)))) (pss_one (ps_ret (pe_lst (pa_cons (pe_gi (by rfl) T.c_DOES_NOT_FIT) pa_nil)))) pss_nil)
    (pss_cons (ps_if (pt_cmpR (op_notInK (K := K) rfl) (pv 1) (pe_fldK (K := K) rfl (pv 0) rfl) (by rfl)) (pss_one (ps_ret (pe_lst (pa_cons (pe_gi (by rfl) T.c_NOT_THERE) pa_nil)))) pss_nil)
    (pss_cons (ps_set (i := 2) sc_m_alike.nd rfl (Or.inr rfl) (pe_call (ok_f_counts_from T) (hr.mono (by decide)) (by rfl) T.g_f_counts_from T.f_counts_from.kp T.b_f_counts_from .nil pass0 (pa_cons (pe_fldK (K := K) rfl (pv 0) rfl) (pa_cons (pv 1) (pa_cons (pe_fldK (K := K) rfl (pv 0) rfl) pa_nil)))))
    (pss_cons (ps_setLc (i := 3) (own := [("word", 4)]) (g := gName 4) rfl sc_m_alike.nd rfl rfl (sw_true rfl rfl rfl (by decide +kernel)) (pi_listK (K := K) rfl (pe_fldK (K := K) rfl (pv 0) rfl)) (blkOk_by (own := [("word", 4)]) (N := N_m_alike) (sc := defScope s_m_alike) (by decide +kernel)) (fun _ _ _ _ _ => (pg_name (i := 4) sc_m_alike.nd rfl (Or.inl rfl))) (fun _ _ _ _ _ => pts_one (pt_cmpR (op_eqDK (K := K) rfl hr.units) (pe_call (ok_f_counts_from T) (hr.mono (by decide)) (by rfl) T.g_f_counts_from T.f_counts_from.kp T.b_f_counts_from .nil pass0 (pa_cons (pe_fldK (K := K) rfl (pv 0) rfl) (pa_cons (pv 4) (pa_cons (pe_fldK (K := K) rfl (pv 0) rfl) pa_nil)))) (pv 2) (nomark _))) (fun _ _ _ _ _ => (pv 4)))
    (pss_one (ps_ret (pe_op op_cat (pe_lst (pa_cons (pe_callB (call_lenK (K := K) rfl) (by rfl) T.n_len PySem.boot_len (pa_cons (pv 3) pa_nil)) pa_nil)) (pv 2)))))))), ?_⟩)
  · obtain ⟨p, g, a, xs, rfl, hx, _⟩ := h
    obtain ⟨x, rfl⟩ := list1 hx
    rfl
  · obtain ⟨p, g, ⟨n, c⟩, xs, rfl, hx, hA, hg, ok, k⟩ := h
    obtain ⟨dx, l, h1, h2, hlg⟩ := id hA
    obtain ⟨x, rfl⟩ := list1 hx
    have k : ∀ H' q, At A.C_WordSet g H' p (Kh407.does ⟨n, c⟩ (.alike x)).1 → Els p H H' → q ≠ g → H' q = some (.lst (ansV (Kh407.does ⟨n, c⟩ (.alike x)).2)) → Q (.ref q) H' := k
    have ok : Ok n c := ok
    have hn := ok.hi
    have hl := ok_len ok
    refine ⟨_, rfl, p, dx, _, rfl, h1, wF_no (by decide +kernel) (by decide +kernel) _ _, _, rfl, p, g, ⟨n, c⟩, x, rfl, hA, ok.hi, _, rfl, ?_⟩
    cases e : Kh407.isW ⟨n, c⟩ x with
    | false =>
      rw [does_alike_bad e] at k
      exact ⟨one_small, fun q hq => k _ q ⟨dx, l, same_new hq _ _ h1, same_new hq _ _ h2, hlg⟩ (.of (same_new hq)) (ne_g hg hq) upd_same⟩
    | true =>
      refine ⟨_, rfl, _, rfl, p, _, dx, _, _, rfl, h1, T.cl_WordSet, T.nf_there, wF_there _ _, l, _, rfl, .inl (SqL.of h2), rfl, flat_nV c, _, rfl, ?_⟩
      cases e2 : c.contains x with
      | false =>
        rw [does_alike_not e e2] at k
        refine ifT (by show (!inV (.int (x : Int)) (nV c)) = true; rw [inV_nV, e2]; rfl) ?_
        exact ⟨one_small, fun q hq => k _ q ⟨dx, l, same_new hq _ _ h1, same_new hq _ _ h2, hlg⟩ (.of (same_new hq)) (ne_g hg hq) upd_same⟩
      | true =>
        rw [does_alike ok e e2] at k
        refine ifF (by show (!inV (.int (x : Int)) (nV c)) = false; rw [inV_nV, e2]; rfl) ?_
        refine ⟨_, rfl, p, _, dx, _, _, rfl, h1, T.cl_WordSet, T.nf_bits, wF_bits _ _, _, rfl, _, rfl, p, _, dx, _, _, rfl, h1, T.cl_WordSet, T.nf_there, wF_there _ _, n, x, l, c, rfl, hn, hl, SqL.of h2, fun H3 q s3 h3 => ?_⟩
        refine ⟨_, rfl, p, _, dx, _, _, rfl, s3 _ _ h1, T.cl_WordSet, T.nf_there, wF_there _ _, l, rfl, ⟨_, SqL.of (s3 _ _ h2)⟩, fun D hD => ?_⟩
        refine lc_list (K := K) (a := l) (xs := nV c) (fun i H' => Same H3 H' ∧ H' D = some (.lst (nV ((c.take i).filter fun y => seen n c y == seen n c x)))) ?_ ?_ ?_ ?_
        · exact ⟨same_new hD, upd_same⟩
        · exact fun i H' _ z => z.1.seq (SqL.of (s3 _ _ h2))
        · rintro i v H4 hv ⟨s4, g4⟩
          obtain ⟨y, hy, rfl⟩ := nV_get hv
          refine ⟨rfl, _, rfl, p, _, dx, _, _, rfl, s4 _ _ (s3 _ _ h1), T.cl_WordSet, T.nf_bits, wF_bits _ _, _, rfl, _, rfl, p, _, dx, _, _, rfl, s4 _ _ (s3 _ _ h1), T.cl_WordSet, T.nf_there, wF_there _ _, n, y, l, c, rfl, hn, hl, SqL.of (s4 _ _ (s3 _ _ h2)), fun H5 b s5 h5 => ?_⟩
          refine ⟨_, rfl, .list (dL (seen n c y)), .list (dL (seen n c x)), .lst (SqL.of h5) (dL_all _), .lst (SqL.of (s5 _ _ (s4 _ _ h3))) (dL_all _), dL_shaped _, dL_shaped _, _, rfl, ?_⟩
          have em := filter_more (fun y => seen n c y == seen n c x) hy
          by_cases z : seen n c y = seen n c x
          · refine ifT (by show PyData.eqv _ _ = true; rw [eq_lists]; exact decide_eq_true z) ⟨_, rfl, _, s5 _ _ g4, ?_, same_put (s4.trans s5) hD, ?_⟩
            · rw [nV_len]
              refine Nat.lt_of_le_of_lt (List.length_filter_le _ _) ?_
              rw [List.length_take]
              exact small64 (by omega)
            · rw [em, if_pos (beq_iff_eq.mpr z), nV_app]
              exact upd_same
          · refine ifF (by show PyData.eqv _ _ = false; rw [eq_lists]; exact decide_eq_false z) ⟨s4.trans s5, ?_⟩
            rw [em, if_neg (fun w => z (beq_iff_eq.mp w)), List.append_nil]
            exact s5 _ _ g4
        · rintro H4 ⟨s4, g4⟩
          rw [nV_len, List.take_length] at g4
          refine ⟨_, rfl, D, _, rfl, .inl (SqL.of g4), one_small, fun b hb => ?_⟩
          have s5 := same_new (o := .lst [V.int ((nV (c.filter fun y => seen n c y == seen n c x)).length : Int)]) hb
          refine ⟨_, rfl, b, q, _, _, rfl, rfl, upd_same, s5 _ _ (s4 _ _ h3), ?_, fun r hr => ?_⟩
          · rw [nV_len, nV_len, seen_len]
            show 1 + (n + 1) ≤ sizeLine
            exact Nat.le_of_lt (small64 (by omega))
          · obtain ⟨z1, z2, z3⟩ := looked (o := .lst ([V.int ((nV (c.filter fun y => seen n c y == seen n c x)).length : Int)] ++ nV (seen n c x))) hA hg ((s3.trans s4).trans s5) hr
            refine k _ r z1 z2 z3 ?_
            rw [upd_same, nV_len, nV_ints]
            rfl
end
end Fw
/-! piece E6 -/
namespace Fw
open PySem PySem.Spec PyProof.Rows L2
section
variable {P : Program} {w : World} {K : PySem.W.Frag} {mg : Str → Option Value} {base : Heap} {A : Adr}
def sp_f_reckon (K : PySem.W.Frag) (C : Addr) : Sp := spN K C 12 19
theorem ok_f_reckon (T : Txt K mg A) : FnOk P w K mg base CX0 6 A.a_f_reckon A.d_f_reckon ["held", "number", "told"] (sp_f_reckon K A.C_WordSet) := by
  refine T.f_reckon.ok sc_f_reckon (fun vs H Q E h => ?_) (fun cdv Ar outer s H vs Q E hr h => ⟨_, (pss_cons (ps_if (pt_cmpR op_eq (pv 1) (pe_gi (by rfl) T.c_TWOS) (nomark _)) (pss_one (ps_ret (pe_meth0 (pv 0) T.cl_WordSet T.mt_m_twos (ok_m_twos T) (hr.mono (by decide)) T.b_m_twos .nil pass0))) pss_nil)
    (pss_cons (ps_if (pt_cmpR op_eq (pv 1) (pe_gi (by rfl) T.c_SUMS) (nomark _)) (pss_one (ps_ret (pe_meth0 (pv 0) T.cl_WordSet T.mt_m_sums (ok_m_sums T) (hr.mono (by decide)) T.b_m_sums .nil pass0))) pss_nil)
    (pss_cons (ps_if (pt_cmpR op_eq (pv 1) (pe_gi (by rfl) T.c_SIGN) (nomark _)) (pss_one (ps_ret (pe_meth (pv 0) T.cl_WordSet T.mt_m_sign (ok_m_sign T) (hr.mono (by decide)) T.b_m_sign .nil pass0 (pa_cons (pe_ix (ix_listK (K := K) rfl) (pv 2) pe_int (fun _ _ => rfl)) (pa_cons (pe_ix (ix_listK (K := K) rfl) (pv 2) pe_int (fun _ _ => rfl)) pa_nil))))) pss_nil)
    (pss_cons (ps_if (pt_cmpR op_eq (pv 1) (pe_gi (by rfl) T.c_TILT) (nomark _)) (pss_one (ps_ret (pe_meth (pv 0) T.cl_WordSet T.mt_m_tilt (ok_m_tilt T) (hr.mono (by decide)) T.b_m_tilt .nil pass0 (pa_cons (pe_ix (ix_listK (K := K) rfl) (pv 2) pe_int (fun _ _ => rfl)) pa_nil)))) pss_nil)
    (pss_cons (ps_if (pt_cmpR op_eq (pv 1) (pe_gi (by rfl) T.c_PATTERNS) (nomark _)) (pss_one (ps_ret (pe_meth (pv 0) T.cl_WordSet T.mt_m_patterns (ok_m_patterns T) (hr.mono (by decide)) T.b_m_patterns .nil pass0 (pa_cons (pe_ix (ix_listK (K := K) rfl) (pv 2) pe_int (fun _ _ => rfl)) pa_nil)))) pss_nil)
    (pss_cons (ps_if (pt_cmpR op_eq (pv 1) (pe_gi (by rfl) T.c_EVEN) (nomark _)) (pss_one (ps_ret (pe_meth (pv 0) T.cl_WordSet T.mt_m_even (ok_m_even T) (hr.mono (by decide)) T.b_m_even .nil pass0 (pa_cons (pe_ix (ix_listK (K := K) rfl) (pv 2) pe_int (fun _ _ => rfl)) pa_nil)))) pss_nil)
    (pss_cons (ps_if (pt_cmpR op_eq (pv 1) (pe_gi (by rfl) T.c_STRENGTH) (nomark _)) (pss_one (ps_ret (pe_meth0 (pv 0) T.cl_WordSet T.mt_m_strength (ok_m_strength T) (hr.mono (by decide)) T.b_m_strength .nil pass0))) pss_nil)
    (pss_one (ps_ret (pe_meth0 (pv 0) T.cl_WordSet T.mt_m_uneven (ok_m_uneven T) (hr.mono (by decide)) T.b_m_uneven .nil pass0)))))))))), ?_⟩)
  · obtain ⟨p, g, t, m, xs, a, rfl, _⟩ := h
    rfl
  · obtain ⟨p, g, t, m, xs, a, rfl, hA, hg, ok, ht, h1, h6, hto, k⟩ := h
    obtain ⟨dx, l, hp, hl⟩ := hA
    refine ⟨_, rfl, rfl, _, rfl, ?_⟩
    by_cases m12 : m = 12
    · refine ifT (eqT (k := 12) m12) ?_
      subst m12
      have e0 := list0 (told_len hto rfl)
      subst e0
      refine ⟨_, rfl, p, dx, _, rfl, hp, wF_no (by decide +kernel) (by decide +kernel) _ _, ?_⟩
      exact ⟨p, g, a, [], rfl, rfl, ⟨dx, l, hp, hl⟩, hg, ok, k⟩
    refine ifF (eqF (k := 12) m12) ?_
    refine ⟨_, rfl, rfl, _, rfl, ?_⟩
    by_cases m13 : m = 13
    · refine ifT (eqT (k := 13) m13) ?_
      subst m13
      have e0 := list0 (told_len hto rfl)
      subst e0
      refine ⟨_, rfl, p, dx, _, rfl, hp, wF_no (by decide +kernel) (by decide +kernel) _ _, ?_⟩
      exact ⟨p, g, a, [], rfl, rfl, ⟨dx, l, hp, hl⟩, hg, ok, k⟩
    refine ifF (eqF (k := 13) m13) ?_
    refine ⟨_, rfl, rfl, _, rfl, ?_⟩
    by_cases m14 : m = 14
    · refine ifT (eqT (k := 14) m14) ?_
      subst m14
      obtain ⟨x, y, rfl⟩ := list2 (told_len hto rfl)
      refine ⟨_, rfl, p, dx, _, rfl, hp, wF_no (by decide +kernel) (by decide +kernel) _ _, _, rfl, t, _, _, _, rfl, rfl, ht, atI_nat (j := 0) rfl, _, rfl, t, _, _, _, rfl, rfl, ht, atI_nat (j := 1) rfl, ?_⟩
      exact ⟨p, g, a, [x, y], rfl, rfl, ⟨dx, l, hp, hl⟩, hg, ok, k⟩
    refine ifF (eqF (k := 14) m14) ?_
    refine ⟨_, rfl, rfl, _, rfl, ?_⟩
    by_cases m15 : m = 15
    · refine ifT (eqT (k := 15) m15) ?_
      subst m15
      obtain ⟨x, rfl⟩ := list1 (told_len hto rfl)
      refine ⟨_, rfl, p, dx, _, rfl, hp, wF_no (by decide +kernel) (by decide +kernel) _ _, _, rfl, t, _, _, _, rfl, rfl, ht, atI_nat (j := 0) rfl, ?_⟩
      exact ⟨p, g, a, [x], rfl, rfl, ⟨dx, l, hp, hl⟩, hg, ok, k⟩
    refine ifF (eqF (k := 15) m15) ?_
    refine ⟨_, rfl, rfl, _, rfl, ?_⟩
    by_cases m16 : m = 16
    · refine ifT (eqT (k := 16) m16) ?_
      subst m16
      obtain ⟨x, rfl⟩ := list1 (told_len hto rfl)
      refine ⟨_, rfl, p, dx, _, rfl, hp, wF_no (by decide +kernel) (by decide +kernel) _ _, _, rfl, t, _, _, _, rfl, rfl, ht, atI_nat (j := 0) rfl, ?_⟩
      exact ⟨p, g, a, [x], rfl, rfl, ⟨dx, l, hp, hl⟩, hg, ok, k⟩
    refine ifF (eqF (k := 16) m16) ?_
    refine ⟨_, rfl, rfl, _, rfl, ?_⟩
    by_cases m17 : m = 17
    · refine ifT (eqT (k := 17) m17) ?_
      subst m17
      obtain ⟨x, rfl⟩ := list1 (told_len hto rfl)
      refine ⟨_, rfl, p, dx, _, rfl, hp, wF_no (by decide +kernel) (by decide +kernel) _ _, _, rfl, t, _, _, _, rfl, rfl, ht, atI_nat (j := 0) rfl, ?_⟩
      exact ⟨p, g, a, [x], rfl, rfl, ⟨dx, l, hp, hl⟩, hg, ok, k⟩
    refine ifF (eqF (k := 17) m17) ?_
    refine ⟨_, rfl, rfl, _, rfl, ?_⟩
    by_cases m18 : m = 18
    · refine ifT (eqT (k := 18) m18) ?_
      subst m18
      have e0 := list0 (told_len hto rfl)
      subst e0
      refine ⟨_, rfl, p, dx, _, rfl, hp, wF_no (by decide +kernel) (by decide +kernel) _ _, ?_⟩
      exact ⟨p, g, a, [], rfl, rfl, ⟨dx, l, hp, hl⟩, hg, ok, k⟩
    refine ifF (eqF (k := 18) m18) ?_
    have m19 : m = 19 := by omega
    subst m19
    have e0 := list0 (told_len hto rfl)
    subst e0
    refine ⟨_, rfl, p, dx, _, rfl, hp, wF_no (by decide +kernel) (by decide +kernel) _ _, ?_⟩
    exact ⟨p, g, a, [], rfl, rfl, ⟨dx, l, hp, hl⟩, hg, ok, k⟩
/-- the calls of look: 7 to 11, 20 to 22 -/
def sp_f_look (K : PySem.W.Frag) (C : Addr) : Sp := fun vs H Q _ => ∃ (p g t : Addr) (m : Nat) (xs : List Nat) (a : Kh407.Abs), vs = [.ref p, .int (m : Int), .ref t] ∧ At C g H p a ∧ H g ≠ none ∧ OkA a ∧ SqL K H t (nV xs) ∧ 7 ≤ m ∧ m < 23 ∧ ¬ (12 ≤ m ∧ m ≤ 19) ∧ told[m]? = some xs.length ∧
  ∀ H' q, At C g H' p (Kh407.does a (callOf m xs)).1 → Els p H H' → q ≠ g → H' q = some (.lst (ansV (Kh407.does a (callOf m xs)).2)) → Q (.ref q) H'
theorem ok_f_look (T : Txt K mg A) : FnOk P w K mg base CX0 6 A.a_f_look A.d_f_look ["held", "number", "told"] (sp_f_look K A.C_WordSet) := by
  refine T.f_look.ok sc_f_look (fun vs H Q E h => ?_) (fun cdv Ar outer s H vs Q E hr h => ⟨_, (pss_cons (ps_if (pt_cmpR op_eq (pv 1) (pe_gi (by rfl) T.c_MANY) (nomark _)) (pss_one (ps_ret (pe_meth0 (pv 0) T.cl_WordSet T.mt_m_many (ok_m_many T) (hr.mono (by decide)) T.b_m_many .nil pass0))) pss_nil)
    (pss_cons (ps_if (pt_cmpR op_eq (pv 1) (pe_gi (by rfl) T.c_WORDS) (nomark _)) (pss_one (ps_ret (pe_meth0 (pv 0) T.cl_WordSet T.mt_m_words (ok_m_words T) (hr.mono (by decide)) T.b_m_words .nil pass0))) pss_nil)
    (pss_cons (ps_if (pt_cmpR op_eq (pv 1) (pe_gi (by rfl) T.c_DIST) (nomark _)) (pss_one (ps_ret (pe_meth (pv 0) T.cl_WordSet T.mt_m_dist (ok_m_dist T) (hr.mono (by decide)) T.b_m_dist .nil pass0 (pa_cons (pe_ix (ix_listK (K := K) rfl) (pv 2) pe_int (fun _ _ => rfl)) (pa_cons (pe_ix (ix_listK (K := K) rfl) (pv 2) pe_int (fun _ _ => rfl)) pa_nil))))) pss_nil)
    (pss_cons (ps_if (pt_cmpR op_eq (pv 1) (pe_gi (by rfl) T.c_OFF) (nomark _)) (pss_one (ps_ret (pe_meth (pv 0) T.cl_WordSet T.mt_m_off (ok_m_off T) (hr.mono (by decide)) T.b_m_off .nil pass0 (pa_cons (pe_ix (ix_listK (K := K) rfl) (pv 2) pe_int (fun _ _ => rfl)) pa_nil)))) pss_nil)
    (pss_cons (ps_if (pt_cmpR op_eq (pv 1) (pe_gi (by rfl) T.c_LEAST) (nomark _)) (pss_one (ps_ret (pe_meth0 (pv 0) T.cl_WordSet T.mt_m_least (ok_m_least T) (hr.mono (by decide)) T.b_m_least .nil pass0))) pss_nil)
    (pss_cons (ps_if (pt_cmpR op_eq (pv 1) (pe_gi (by rfl) T.c_CLOSED) (nomark _)) (pss_one (ps_ret (pe_meth0 (pv 0) T.cl_WordSet T.mt_m_closed (ok_m_closed T) (hr.mono (by decide)) T.b_m_closed .nil pass0))) pss_nil)
    (pss_cons (ps_if (pt_cmpR op_eq (pv 1) (pe_gi (by rfl) T.c_FARTHEST) (nomark _)) (pss_one (ps_ret (pe_meth0 (pv 0) T.cl_WordSet T.mt_m_farthest (ok_m_farthest T) (hr.mono (by decide)) T.b_m_farthest .nil pass0))) pss_nil)
    (pss_one (ps_ret (pe_meth (pv 0) T.cl_WordSet T.mt_m_alike (ok_m_alike T) (hr.mono (by decide)) T.b_m_alike .nil pass0 (pa_cons (pe_ix (ix_listK (K := K) rfl) (pv 2) pe_int (fun _ _ => rfl)) pa_nil))))))))))), ?_⟩)
  · obtain ⟨p, g, t, m, xs, a, rfl, _⟩ := h
    rfl
  · obtain ⟨p, g, t, m, xs, a, rfl, hA, hg, ok, ht, h1, h6, h7, hto, k⟩ := h
    obtain ⟨dx, l, hp, hl⟩ := hA
    refine ⟨_, rfl, rfl, _, rfl, ?_⟩
    by_cases m7 : m = 7
    · refine ifT (eqT (k := 7) m7) ?_
      subst m7
      have e0 := list0 (told_len hto rfl)
      subst e0
      refine ⟨_, rfl, p, dx, _, rfl, hp, wF_no (by decide +kernel) (by decide +kernel) _ _, ?_⟩
      exact ⟨p, g, a, [], rfl, rfl, ⟨dx, l, hp, hl⟩, hg, ok, k⟩
    refine ifF (eqF (k := 7) m7) ?_
    refine ⟨_, rfl, rfl, _, rfl, ?_⟩
    by_cases m8 : m = 8
    · refine ifT (eqT (k := 8) m8) ?_
      subst m8
      have e0 := list0 (told_len hto rfl)
      subst e0
      refine ⟨_, rfl, p, dx, _, rfl, hp, wF_no (by decide +kernel) (by decide +kernel) _ _, ?_⟩
      exact ⟨p, g, a, [], rfl, rfl, ⟨dx, l, hp, hl⟩, hg, ok, k⟩
    refine ifF (eqF (k := 8) m8) ?_
    refine ⟨_, rfl, rfl, _, rfl, ?_⟩
    by_cases m9 : m = 9
    · refine ifT (eqT (k := 9) m9) ?_
      subst m9
      obtain ⟨x, y, rfl⟩ := list2 (told_len hto rfl)
      refine ⟨_, rfl, p, dx, _, rfl, hp, wF_no (by decide +kernel) (by decide +kernel) _ _, _, rfl, t, _, _, _, rfl, rfl, ht, atI_nat (j := 0) rfl, _, rfl, t, _, _, _, rfl, rfl, ht, atI_nat (j := 1) rfl, ?_⟩
      exact ⟨p, g, a, [x, y], rfl, rfl, ⟨dx, l, hp, hl⟩, hg, ok, k⟩
    refine ifF (eqF (k := 9) m9) ?_
    refine ⟨_, rfl, rfl, _, rfl, ?_⟩
    by_cases m10 : m = 10
    · refine ifT (eqT (k := 10) m10) ?_
      subst m10
      obtain ⟨x, rfl⟩ := list1 (told_len hto rfl)
      refine ⟨_, rfl, p, dx, _, rfl, hp, wF_no (by decide +kernel) (by decide +kernel) _ _, _, rfl, t, _, _, _, rfl, rfl, ht, atI_nat (j := 0) rfl, ?_⟩
      exact ⟨p, g, a, [x], rfl, rfl, ⟨dx, l, hp, hl⟩, hg, ok, k⟩
    refine ifF (eqF (k := 10) m10) ?_
    refine ⟨_, rfl, rfl, _, rfl, ?_⟩
    by_cases m11 : m = 11
    · refine ifT (eqT (k := 11) m11) ?_
      subst m11
      have e0 := list0 (told_len hto rfl)
      subst e0
      refine ⟨_, rfl, p, dx, _, rfl, hp, wF_no (by decide +kernel) (by decide +kernel) _ _, ?_⟩
      exact ⟨p, g, a, [], rfl, rfl, ⟨dx, l, hp, hl⟩, hg, ok, k⟩
    refine ifF (eqF (k := 11) m11) ?_
    refine ⟨_, rfl, rfl, _, rfl, ?_⟩
    by_cases m20 : m = 20
    · refine ifT (eqT (k := 20) m20) ?_
      subst m20
      have e0 := list0 (told_len hto rfl)
      subst e0
      refine ⟨_, rfl, p, dx, _, rfl, hp, wF_no (by decide +kernel) (by decide +kernel) _ _, ?_⟩
      exact ⟨p, g, a, [], rfl, rfl, ⟨dx, l, hp, hl⟩, hg, ok, k⟩
    refine ifF (eqF (k := 20) m20) ?_
    refine ⟨_, rfl, rfl, _, rfl, ?_⟩
    by_cases m21 : m = 21
    · refine ifT (eqT (k := 21) m21) ?_
      subst m21
      have e0 := list0 (told_len hto rfl)
      subst e0
      refine ⟨_, rfl, p, dx, _, rfl, hp, wF_no (by decide +kernel) (by decide +kernel) _ _, ?_⟩
      exact ⟨p, g, a, [], rfl, rfl, ⟨dx, l, hp, hl⟩, hg, ok, k⟩
    refine ifF (eqF (k := 21) m21) ?_
    have m22 : m = 22 := by omega
    subst m22
    obtain ⟨x, rfl⟩ := list1 (told_len hto rfl)
    refine ⟨_, rfl, p, dx, _, rfl, hp, wF_no (by decide +kernel) (by decide +kernel) _ _, _, rfl, t, _, _, _, rfl, rfl, ht, atI_nat (j := 0) rfl, ?_⟩
    exact ⟨p, g, a, [x], rfl, rfl, ⟨dx, l, hp, hl⟩, hg, ok, k⟩
end
end Fw
/-! piece D3 -/
namespace Fw
open PySem PySem.Spec PyProof.Rows L2
/-- what stands at p for the specification's state -/
def StAt (C g : Addr) (H : Hp) (p : Addr) (s : Kh407Neutral.S) : Prop := At C g H p (s.getD ⟨0, []⟩) ∧ ∀ a, s = some a → OkA a
section
variable {P : Program} {w : World} {K : PySem.W.Frag} {mg : Str → Option Value} {base : Heap} {A : Adr}
def sp_f_answer (K : PySem.W.Frag) (C : Addr) : Sp := fun vs H Q _ => ∃ (p g t : Addr) (m : Nat) (xs : List Nat) (s : Kh407Neutral.S), vs = [.ref p, .int (m : Int), .ref t] ∧ StAt C g H p s ∧ H g ≠ none ∧ SqL K H t (nV xs) ∧ m < 23 ∧ told[m]? = some xs.length ∧
  ∀ H' q, StAt C g H' p (Kh407Neutral.step s (call1 m xs)).1 → Els p H H' → q ≠ g → H' q = some (.lst ((Kh407Neutral.step s (call1 m xs)).2.map V.int)) → Q (.ref q) H'
theorem step_begin (s : Kh407Neutral.S) (x : Nat) : Kh407Neutral.step s (call1 0 [x]) = if x < 1 ∨ 6 < x then (s, [-22]) else (some ⟨x, []⟩, [0]) := by
  show ((Kh407.doing s (.begin_ x)).1, (Kh407.doing s (.begin_ x)).2.ret :: (Kh407.doing s (.begin_ x)).2.out) = _
  unfold Kh407.doing Kh407.BITS
  simp only
  split <;> rfl
theorem callOf_not {m : Nat} {xs : List Nat} (h0 : m ≠ 0) (n : Nat) : callOf m xs ≠ .begin_ n := by
  unfold callOf Kh407Neutral.callOf1 call1
  simp only [List.getD_cons_zero]
  have e : Kh407Neutral.nat (((m : Nat) : Int)) = m := Int.toNat_natCast m
  rw [e]
  split <;> intro z <;> first | exact absurd rfl h0 | cases z
theorem step_none {m : Nat} {xs : List Nat} (h0 : m ≠ 0) : Kh407Neutral.step none (call1 m xs) = (none, [-61]) := by
  show ((Kh407.doing none (callOf m xs)).1, (Kh407.doing none (callOf m xs)).2.ret :: (Kh407.doing none (callOf m xs)).2.out) = _
  have h := fun n => callOf_not (xs := xs) h0 n
  cases e : callOf m xs <;> first | rfl | exact absurd e (h _)
theorem step_some {m : Nat} {xs : List Nat} (h0 : m ≠ 0) (a : Kh407.Abs) : Kh407Neutral.step (some a) (call1 m xs) = (some (Kh407.does a (callOf m xs)).1, (Kh407.does a (callOf m xs)).2.ret :: (Kh407.does a (callOf m xs)).2.out) := by
  show ((Kh407.doing (some a) (callOf m xs)).1, (Kh407.doing (some a) (callOf m xs)).2.ret :: (Kh407.doing (some a) (callOf m xs)).2.out) = _
  have h := fun n => callOf_not (xs := xs) h0 n
  cases e : callOf m xs <;> first | rfl | exact absurd e (h _)
theorem ok_f_answer (T : Txt K mg A) : FnOk P w K mg base CX0 7 A.a_f_answer A.d_f_answer ["held", "number", "told"] (sp_f_answer K A.C_WordSet) := by
  refine T.f_answer.ok sc_f_answer (fun vs H Q E h => ?_) (fun cdv Ar outer s H vs Q E hr h => ⟨_, (pss_cons (ps_if (pt_cmpR op_eq (pv 1) (pe_gi (by rfl) T.c_BEGIN) (nomark _)) (pss_one (ps_ret (pe_meth (pv 0) T.cl_WordSet T.mt_m_begin (ok_m_begin T) (hr.mono (by decide)) T.b_m_begin .nil pass0 (pa_cons (pe_ix (ix_listK (K := K) rfl) (pv 2) pe_int (fun _ _ => rfl)) pa_nil)))) pss_nil)
    (pss_cons (ps_if (pt_not (pt_val (pe_meth0 (pv 0) T.cl_WordSet T.mt_m_is_begun (ok_m_is_begun T) (hr.mono (by decide)) T.b_m_is_begun .nil pass0))) (pss_one (ps_ret (pe_lst (pa_cons (pe_gi (by rfl) T.c_NOT_BEGUN) pa_nil)))) pss_nil)
    (pss_cons (ps_if (pt_cmpR op_le (pv 1) (pe_gi (by rfl) T.c_CLOSE) (nomark _)) (pss_one (ps_ret (pe_call (ok_f_change T) (hr.mono (by decide)) (by rfl) T.g_f_change T.f_change.kp T.b_f_change .nil pass0 (pa_cons (pv 0) (pa_cons (pv 1) (pa_cons (pv 2) pa_nil)))))) pss_nil)
    (pss_cons (ps_if (PW.pt (pw_and (pt_cmpR op_ge (pv 1) (pe_gi (by rfl) T.c_TWOS) (nomark _)) (pw_and1 (pt_cmpR op_le (pv 1) (pe_gi (by rfl) T.c_UNEVEN) (nomark _))))) (pss_one (ps_ret (pe_call (ok_f_reckon T) (hr.mono (by decide)) (by rfl) T.g_f_reckon T.f_reckon.kp T.b_f_reckon .nil pass0 (pa_cons (pv 0) (pa_cons (pv 1) (pa_cons (pv 2) pa_nil)))))) pss_nil)
    (pss_one (ps_ret (pe_call (ok_f_look T) (hr.mono (by decide)) (by rfl) T.g_f_look T.f_look.kp T.b_f_look .nil pass0 (pa_cons (pv 0) (pa_cons (pv 1) (pa_cons (pv 2) pa_nil)))))))))), ?_⟩)
  · obtain ⟨p, g, t, m, xs, s, rfl, _⟩ := h
    rfl
  · obtain ⟨p, g, t, m, xs, st, rfl, ⟨hA, okS⟩, hg, ht, h23, hto, k⟩ := h
    refine ⟨_, rfl, rfl, _, rfl, ?_⟩
    by_cases m0 : m = 0
    · refine ifT (eqT (k := 0) m0) ?_
      subst m0
      obtain ⟨x, rfl⟩ := list1 (told_len hto rfl)
      obtain ⟨dx, l, hp, hl⟩ := hA
      rw [step_begin] at k
      refine ⟨_, rfl, p, dx, _, rfl, hp, wF_no (by decide +kernel) (by decide +kernel) _ _, _, rfl, t, _, _, _, rfl, rfl, ht, atI_nat (j := 0) rfl, ?_⟩
      refine ⟨p, g, _, x, rfl, ⟨dx, l, hp, hl⟩, hg, fun c H' q a1 a2 a3 a4 => ?_, fun c H' q a1 a2 a3 a4 => ?_⟩
      · rw [if_pos c] at k
        exact k H' q ⟨a1, okS⟩ a2 a3 a4
      · rw [if_neg c] at k
        refine k H' q ⟨a1, fun a e => ?_⟩ a2 a3 a4
        cases e
        exact ⟨by show 1 ≤ x; omega, by show x ≤ 6; omega, List.Pairwise.nil, fun y hy => by cases hy⟩
    refine ifF (eqF (k := 0) m0) ?_
    obtain ⟨dx, l, hp, hl⟩ := hA
    refine ⟨_, rfl, p, dx, _, rfl, hp, wF_no (by decide +kernel) (by decide +kernel) _ _, p, g, _, rfl, ⟨dx, l, hp, hl⟩, _, rfl, ?_⟩
    cases st with
    | none =>
      rw [step_none m0] at k
      exact ⟨one_small, fun q hq => k _ q ⟨⟨dx, l, same_new hq _ _ hp, same_new hq _ _ hl.1, hl.2⟩, fun a e => by cases e⟩ (.of (same_new hq)) (ne_g hg hq) upd_same⟩
    | some a =>
      have ok := okS a rfl
      rw [step_some m0] at k
      refine ifF (by show (!decide (0 < a.n)) = false; rw [decide_eq_true (Nat.lt_of_lt_of_le Nat.zero_lt_one ok.lo)]; rfl) ?_
      have k' : ∀ H' q, At A.C_WordSet g H' p (Kh407.does a (callOf m xs)).1 → Els p H H' → q ≠ g → H' q = some (.lst (ansV (Kh407.does a (callOf m xs)).2)) → Q (.ref q) H' := fun H' q a1 a2 a3 a4 => k H' q ⟨a1, fun b e => by cases e; exact does_ok ok _⟩ a2 a3 a4
      refine ⟨_, rfl, _, _, rfl, rfl, _, rfl, ?_⟩
      by_cases m6 : m ≤ 6
      · refine ifT (decide_eq_true (Int.ofNat_le.mpr m6)) ?_
        exact ⟨_, rfl, _, rfl, _, rfl, p, g, t, m, xs, a, rfl, ⟨dx, l, hp, hl⟩, hg, ok, ht, by omega, m6, hto, k'⟩
      refine ifF (decide_eq_false fun z => m6 (Int.ofNat_le.mp z)) ?_
      refine ⟨_, rfl, _, _, rfl, rfl, _, rfl, ?_⟩
      by_cases m12 : 12 ≤ m
      · refine ifT (decide_eq_true (Int.ofNat_le.mpr m12)) ?_
        refine ⟨_, rfl, _, _, rfl, rfl, _, rfl, ?_⟩
        by_cases m19 : m ≤ 19
        · refine ifT (decide_eq_true (Int.ofNat_le.mpr m19)) ?_
          exact ⟨_, rfl, _, rfl, _, rfl, p, g, t, m, xs, a, rfl, ⟨dx, l, hp, hl⟩, hg, ok, ht, m12, m19, hto, k'⟩
        · refine ifF (decide_eq_false fun z => m19 (Int.ofNat_le.mp z)) ?_
          exact ⟨_, rfl, _, rfl, _, rfl, p, g, t, m, xs, a, rfl, ⟨dx, l, hp, hl⟩, hg, ok, ht, by omega, h23, by omega, hto, k'⟩
      · refine ifF (decide_eq_false fun z => m12 (Int.ofNat_le.mp z)) ?_
        exact ⟨_, rfl, _, rfl, _, rfl, p, g, t, m, xs, a, rfl, ⟨dx, l, hp, hl⟩, hg, ok, ht, by omega, h23, by omega, hto, k'⟩
def sp_f_answers (K : PySem.W.Frag) : Sp := fun vs H Q _ => ∃ (a : Addr) (l : List Int), vs = [.ref a] ∧ SqL K H a (l.map V.int) ∧ l.length ≤ 180 ∧ PyKh407.answers_asked l = true ∧ (∀ x ∈ l, 0 ≤ x) ∧
  ∀ (H' : Hp) (p : Addr), H' p = some (.lst ((PyKh407.answers l).map V.int)) → Q (.ref p) H'
theorem told_V {m n : Nat} (h : told[m]? = some n) : v_TOLD[m]? = some (V.int (n : Int)) := by
  have e : v_TOLD = nV told := rfl
  rw [e]
  unfold nV
  rw [List.getElem?_map, h]
  rfl
theorem cut_mid {l : List Int} {i n : Nat} (h : i + 1 + n ≤ l.length) : cutV (l.map V.int) (some ((i + 1 : Nat) : Int)) (some ((i + 1 + n : Nat) : Int)) = ((l.drop (i + 1)).take n).map V.int := by
  unfold cutV
  rw [HT.sIx_nat, HT.sIx_nat, List.length_map, Nat.min_eq_left (show i + 1 ≤ l.length by omega), Nat.min_eq_left h, ← List.map_drop, ← List.map_take]
  congr 2
  omega
theorem ints_nat {l : List Int} (h : ∀ x ∈ l, 0 ≤ x) : l = (l.map Int.toNat).map Int.ofNat := by
  rw [List.map_map]
  conv => lhs; rw [← List.map_id l]
  refine List.map_congr_left fun x hx => ?_
  exact (Int.toNat_of_nonneg (h x hx)).symm
theorem ok_f_answers (T : Txt K mg A) : FnOk P w K mg base CX0 8 A.a_f_answers A.d_f_answers ["calls"] (sp_f_answers K) := by
  refine T.f_answers.ok sc_f_answers (fun vs H Q E h => ?_) (fun cdv Ar outer s H vs Q E hr h => ⟨_, (pss_cons (ps_set (i := 1) sc_f_answers.nd rfl (Or.inl rfl) (pe_make0 T.mk_WordSet (ok_m_init T) (hr.mono (by decide)) (by rfl) T.g_WordSet T.b_m_init .nil pass0))
    (pss_cons (ps_set (i := 2) sc_f_answers.nd rfl (Or.inl rfl) (pe_lst pa_nil))
    (pss_cons (ps_set (i := 3) sc_f_answers.nd rfl (Or.inl rfl) pe_int)
    (pss_cons (ps_while PassesOwn.never (pt_cmpR op_lt (pv 3) (pe_callB (call_lenK (K := K) rfl) (by rfl) T.n_len PySem.boot_len (pa_cons (pv 0) pa_nil)) (nomark _))
    (pss_cons (ps_set (i := 4) sc_f_answers.nd rfl (Or.inl rfl) (pe_ix (ix_listK (K := K) rfl) (pv 0) (pv 3) (fun _ _ => rfl)))
    (pss_cons (ps_set (i := 5) sc_f_answers.nd rfl (Or.inl rfl) (pe_op op_add (pe_op op_add (pv 3) pe_int) (pe_ix (ix_tupK (K := K) rfl) (pe_gr (by rfl) T.c_TOLD) (pv 4) (fun _ _ => rfl))))
    (pss_cons (ps_set (i := 6) sc_f_answers.nd rfl (Or.inl rfl) (pe_call (ok_f_answer T) (hr.mono (by decide)) (by rfl) T.g_f_answer T.f_answer.kp T.b_f_answer .nil pass0 (pa_cons (pv 1) (pa_cons (pv 4) (pa_cons (pe_slice (sl_listK (K := K) rfl) (pv 0) (po_some (pe_op op_add (pv 3) pe_int)) (po_some (pv 5))) pa_nil)))))
    (pss_cons (ps_expr (pe_bm PySem.F.plainAttrs_list PySem.F.slot_list_append PySem.F.type_list_append mt_append (pv 2) (pa_cons (pe_callB (call_lenK (K := K) rfl) (by rfl) T.n_len PySem.boot_len (pa_cons (pv 6) pa_nil)) pa_nil)))
    (pss_cons (ps_expr (pe_bm PySem.F.plainAttrs_list PySem.F.slot_list_extend PySem.F.type_list_extend mt_extend (pv 2) (pa_cons (pv 6) pa_nil)))
    (pss_one (ps_set (i := 3) sc_f_answers.nd rfl (Or.inl rfl) (pv 5)))))))))
    (pss_one (ps_ret (pv 2))))))), ?_⟩)
  · obtain ⟨a, l, rfl, _⟩ := h
    rfl
  · obtain ⟨a, l, rfl, hS, hlen, hask, hpos, k⟩ := h
    obtain ⟨f0, cs0, hc0, hd0, hsz⟩ := asked_due hask
    intro x dx nx nd ne
    refine ⟨x, dx, rfl, upd_same, fun H1 dx1 l1 g1 g2 kp => ⟨rfl, ?_⟩⟩
    have s1 : Same H H1 := Same.made nx nd kp
    refine ⟨(by decide), fun g hg => ?_⟩
    have s2 : Same H (upd H1 g (HO.lst [])) := same_put s1 (s1.free hg)
    refine while_by (fun σ H' => ∃ (i f : Nat) (s : Kh407Neutral.S) (cs : List (List (List Int))) (out : List Int) (v4 v5 v6 : Option V),
      σ = [some (.ref a), some (.ref x), some (.ref g), some (.int (i : Int)), v4, v5, v6] ∧ Same H H' ∧ StAt A.C_WordSet g H' x s ∧ H' g = some (.lst (out.map V.int)) ∧ i ≤ l.length ∧ PyFlat.calls PyKh407.shape f (l.drop i) = some cs ∧ PyKh407.answers l = out ++ due s cs)
      (fun σ _ => match σ with | [_, _, _, some (.int i), _, _, _] => l.length - i.toNat | _ => 0) ?_ ?_ ?_
    · refine ⟨0, f0, none, cs0, [], none, none, none, rfl, s2, ⟨⟨dx1, l1, ?_, ?_, ?_⟩, by intro a e; cases e⟩, upd_same, Nat.zero_le _, hc0, hd0⟩
      · rw [upd_ne (ne_of_none g1 hg)]
        exact g1
      · rw [upd_ne (ne_of_none g2 hg)]
        exact g2
      · exact ne_of_none g2 hg
    · rintro σ H' ⟨i, f, s, cs, out, v4, v5, v6, rfl, s3, st, hg3, hi, hcs, hdue⟩
      refine ⟨_, rfl, _, rfl, a, _, rfl, .inl (s3.seq hS), _, _, rfl, rfl, _, rfl, ?_⟩
      by_cases c : i < l.length
      · refine ifT (decide_eq_true (by rw [List.length_map]; exact Int.ofNat_lt.mpr c)) ?_
        rw [drop_cons c] at hcs
        obtain ⟨f', c1, t1, cs', hcall, hcs', rfl⟩ := calls_cons hcs
        obtain ⟨m, n, em, hm, htold, hn, rfl, rfl⟩ := call_inv hcall
        rw [List.length_drop] at hn
        have hget : (l.map V.int)[i]? = some (V.int (m : Int)) := by
          rw [List.getElem?_map, List.getElem?_eq_getElem c]
          rw [List.getD_eq_getElem?_getD, List.getElem?_eq_getElem c] at em
          exact congrArg (fun z => some (V.int z)) em
        refine ⟨_, rfl, _, rfl, a, _, _, V.int (m : Int), rfl, rfl, s3.seq hS, atI_nat hget, ?_⟩
        refine ⟨_, rfl, _, _, rfl, rfl, _, rfl, A.t_TOLD, _, _, V.int (n : Int), rfl, rfl, T.u_TOLD _, atI_nat (told_V htold), _, _, rfl, rfl, ?_⟩
        refine ⟨_, rfl, _, rfl, _, rfl, _, rfl, _, _, rfl, rfl, _, rfl, _, rfl, _, rfl, a, _, rfl, s3.seq hS, fun t ht => ?_⟩
        have ecut : cutV (l.map V.int) (some ((i : Int) + 1)) (some ((i : Int) + 1 + (n : Int))) = nV (((l.drop (i + 1)).take n).map Int.toNat) := by
          have h1 := cut_mid (l := l) (i := i) (n := n) (by omega)
          have h2 : ((l.drop (i + 1)).take n) = (((l.drop (i + 1)).take n).map Int.toNat).map Int.ofNat := ints_nat fun x hx => hpos x (List.mem_of_mem_drop (List.mem_of_mem_take hx))
          rw [nV_ints, ← h2, ← h1]
          congr 1
        rw [ecut]
        generalize hxs : ((l.drop (i + 1)).take n).map Int.toNat = xs
        have hxl : xs.length = n := by
          rw [← hxs, List.length_map, List.length_take, List.length_drop]
          omega
        have ecall : [l.getD i 0 :: (l.drop (i + 1)).take n] = call1 m xs := by
          unfold call1
          rw [← hxs, ← ints_nat fun x hx => hpos x (List.mem_of_mem_drop (List.mem_of_mem_take hx)), em]
        rw [ecall, due_cons] at hdue
        have hgx : g ≠ x := by
          obtain ⟨⟨_, _, z, _⟩, _⟩ := st
          exact ne_of hg3 z (by intro y; cases y)
        have s4 := same_new (o := .lst (nV xs)) ht
        refine ⟨x, g, t, m, xs, s, rfl, ⟨st.1.same s4, st.2⟩, ?_, SqL.of upd_same, hm, by rw [hxl]; exact htold, fun H5 q st5 e5 hqg h5 => ?_⟩
        · rw [s4 _ _ hg3]
          intro y
          cases y
        generalize Kh407Neutral.step s (call1 m xs) = r at *
        have s5 : Same H H5 := fun b o e => e5 b o (s4 b o (s3 b o e)) (ne_of_none e nx)
        have hg5 : H5 g = some (.lst (out.map V.int)) := e5 g _ (s4 _ _ hg3) hgx
        have hg0 : H g = none := s1.free hg
        have hsz2 : out.length + 1 + r.2.length ≤ 10000000 := by
          rw [hdue, List.length_append, List.length_append, List.length_cons] at hsz
          omega
        refine ⟨_, rfl, .inl ⟨rfl, _, SqL.of hg5⟩, _, rfl, q, _, rfl, .inl (SqL.of h5), g, _, _, rfl, rfl, hg5, ?_, ?_⟩
        · rw [List.length_map]
          exact Nat.lt_of_le_of_lt (by omega : out.length ≤ 10000000) (by decide)
        have h6 : (upd H5 g (HO.lst (out.map V.int ++ [V.int ((r.2.map V.int).length : Int)]))) q = some (.lst (r.2.map V.int)) := by
          rw [upd_ne hqg]
          exact h5
        refine ⟨_, rfl, .inl ⟨rfl, _, SqL.of upd_same⟩, _, rfl, g, q, _, _, rfl, rfl, upd_same, h6, ?_, ?_⟩
        · rw [List.length_append, List.length_map, List.length_map]
          exact Nat.le_trans (by show out.length + 1 + r.2.length ≤ 10000000; exact hsz2) (by decide)
        refine ⟨_, rfl, ⟨i + 1 + n, f', r.1, cs', out ++ ((r.2.length : Int) :: r.2), _, _, _, rfl, ?_, ⟨?_, st5.2⟩, ?_, by omega, ?_, ?_⟩, ?_⟩
        · exact same_put (same_put s5 hg0) hg0
        · obtain ⟨dx7, l7, z1, z2, z3⟩ := st5.1
          refine ⟨dx7, l7, ?_, ?_, z3⟩
          · rw [upd_ne hgx.symm, upd_ne hgx.symm]
            exact z1
          · rw [upd_ne z3, upd_ne z3]
            exact z2
        · rw [upd_same, List.map_append, List.map_cons, List.length_map, List.append_assoc]
          rfl
        · rw [List.drop_drop] at hcs'
          exact hcs'
        · rw [hdue, List.append_assoc]
        · show l.length - ((i : Int) + 1 + (n : Int)).toNat < l.length - (i : Int).toNat
          omega
      · refine ifF (decide_eq_false (by rw [List.length_map]; exact fun z => c (Int.ofNat_lt.mp z))) ?_
        refine ⟨_, rfl, k H' g ?_⟩
        rw [List.drop_eq_nil_of_le (by omega)] at hcs
        rw [hdue, calls_nil hcs, due_nil, List.append_nil]
        exact hg3
    · rintro σ H' Q1 Q2 hq ⟨v, hv, u, hu, p, ys, e0, hs, i, j, e1, e2, b, eb, hQ⟩
      exact ⟨v, hv, u, hu, p, ys, e0, hs, i, j, e1, e2, b, eb, hq _ _ hQ⟩
end
end Fw
/-! piece End -/
namespace Fw
open PySem PySem.Spec PyProof.Rows L2
theorem all_mk {P : Program} {w : World} {K : PySem.W.Frag} {h : Heap} {mg : Str → Option Value} {fa C_WordSet a_f_weight a_f_distance a_f_missing a_f_exchanged a_f_closed_up a_f_distances a_f_least_distance a_f_counts_from a_f_counts_of_twos a_f_sets_of a_f_sign_of a_f_sign_sum a_f_kth_sum a_f_tilt_of a_f_patterns_on a_f_pattern_counts a_f_is_even a_f_first_uneven a_m_init a_m_is_begun a_m_fits a_m_begin a_m_put a_m_take a_m_rest a_m_move a_m_swap a_m_close a_m_many a_m_words a_m_dist a_m_off a_m_least a_m_farthest a_m_alike a_m_closed a_m_twos a_m_sums a_m_sign a_m_tilt a_m_patterns a_m_even a_m_strength a_m_uneven a_f_answers a_f_answer a_f_change a_f_look a_f_reckon t_TOLD : Addr} (X : K.In h) (G : h.Ns mainGlobals mg) (hfa : mg "answers" = some (.ref fa))
    {od_f_weight an_f_weight od_f_distance an_f_distance od_f_missing an_f_missing od_f_exchanged an_f_exchanged od_f_closed_up an_f_closed_up od_f_distances an_f_distances od_f_least_distance an_f_least_distance od_f_counts_from an_f_counts_from od_f_counts_of_twos an_f_counts_of_twos od_f_sets_of an_f_sets_of od_f_sign_of an_f_sign_of od_f_sign_sum an_f_sign_sum od_f_kth_sum an_f_kth_sum od_f_tilt_of an_f_tilt_of od_f_patterns_on an_f_patterns_on od_f_pattern_counts an_f_pattern_counts od_f_is_even an_f_is_even od_f_first_uneven an_f_first_uneven od_m_init an_m_init od_m_is_begun an_m_is_begun od_m_fits an_m_fits od_m_begin an_m_begin od_m_put an_m_put od_m_take an_m_take od_m_rest an_m_rest od_m_move an_m_move od_m_swap an_m_swap od_m_close an_m_close od_m_many an_m_many od_m_words an_m_words od_m_dist an_m_dist od_m_off an_m_off od_m_least an_m_least od_m_farthest an_m_farthest od_m_alike an_m_alike od_m_closed an_m_closed od_m_twos an_m_twos od_m_sums an_m_sums od_m_sign an_m_sign od_m_tilt an_m_tilt od_m_patterns an_m_patterns od_m_even an_m_even od_m_strength an_m_strength od_m_uneven an_m_uneven od_f_answers an_f_answers od_f_answer an_f_answer od_f_change an_f_change od_f_look an_f_look od_f_reckon an_f_reckon od_TOLD : Option Addr} {sl_f_weight sl_f_distance sl_f_missing sl_f_exchanged sl_f_closed_up sl_f_distances sl_f_least_distance sl_f_counts_from sl_f_counts_of_twos sl_f_sets_of sl_f_sign_of sl_f_sign_sum sl_f_kth_sum sl_f_tilt_of sl_f_patterns_on sl_f_pattern_counts sl_f_is_even sl_f_first_uneven sl_m_init sl_m_is_begun sl_m_fits sl_m_begin sl_m_put sl_m_take sl_m_rest sl_m_move sl_m_swap sl_m_close sl_m_many sl_m_words sl_m_dist sl_m_off sl_m_least sl_m_farthest sl_m_alike sl_m_closed sl_m_twos sl_m_sums sl_m_sign sl_m_tilt sl_m_patterns sl_m_even sl_m_strength sl_m_uneven sl_f_answers sl_f_answer sl_f_change sl_f_look sl_f_reckon sl_TOLD : Array (Option Value)} {oc_f_weight kV_f_weight dc_f_weight pm_f_weight cd_f_weight ct_f_weight oc_f_distance kV_f_distance dc_f_distance pm_f_distance cd_f_distance ct_f_distance oc_f_missing kV_f_missing dc_f_missing pm_f_missing cd_f_missing ct_f_missing oc_f_exchanged kV_f_exchanged dc_f_exchanged pm_f_exchanged cd_f_exchanged ct_f_exchanged oc_f_closed_up kV_f_closed_up dc_f_closed_up pm_f_closed_up cd_f_closed_up ct_f_closed_up oc_f_distances kV_f_distances dc_f_distances pm_f_distances cd_f_distances ct_f_distances oc_f_least_distance kV_f_least_distance dc_f_least_distance pm_f_least_distance cd_f_least_distance ct_f_least_distance oc_f_counts_from kV_f_counts_from dc_f_counts_from pm_f_counts_from cd_f_counts_from ct_f_counts_from oc_f_counts_of_twos kV_f_counts_of_twos dc_f_counts_of_twos pm_f_counts_of_twos cd_f_counts_of_twos ct_f_counts_of_twos oc_f_sets_of kV_f_sets_of dc_f_sets_of pm_f_sets_of cd_f_sets_of ct_f_sets_of oc_f_sign_of kV_f_sign_of dc_f_sign_of pm_f_sign_of cd_f_sign_of ct_f_sign_of oc_f_sign_sum kV_f_sign_sum dc_f_sign_sum pm_f_sign_sum cd_f_sign_sum ct_f_sign_sum oc_f_kth_sum kV_f_kth_sum dc_f_kth_sum pm_f_kth_sum cd_f_kth_sum ct_f_kth_sum oc_f_tilt_of kV_f_tilt_of dc_f_tilt_of pm_f_tilt_of cd_f_tilt_of ct_f_tilt_of oc_f_patterns_on kV_f_patterns_on dc_f_patterns_on pm_f_patterns_on cd_f_patterns_on ct_f_patterns_on oc_f_pattern_counts kV_f_pattern_counts dc_f_pattern_counts pm_f_pattern_counts cd_f_pattern_counts ct_f_pattern_counts oc_f_is_even kV_f_is_even dc_f_is_even pm_f_is_even cd_f_is_even ct_f_is_even oc_f_first_uneven kV_f_first_uneven dc_f_first_uneven pm_f_first_uneven cd_f_first_uneven ct_f_first_uneven oc_m_init kV_m_init dc_m_init pm_m_init cd_m_init ct_m_init oc_m_is_begun kV_m_is_begun dc_m_is_begun pm_m_is_begun cd_m_is_begun ct_m_is_begun oc_m_fits kV_m_fits dc_m_fits pm_m_fits cd_m_fits ct_m_fits oc_m_begin kV_m_begin dc_m_begin pm_m_begin cd_m_begin ct_m_begin oc_m_put kV_m_put dc_m_put pm_m_put cd_m_put ct_m_put oc_m_take kV_m_take dc_m_take pm_m_take cd_m_take ct_m_take oc_m_rest kV_m_rest dc_m_rest pm_m_rest cd_m_rest ct_m_rest oc_m_move kV_m_move dc_m_move pm_m_move cd_m_move ct_m_move oc_m_swap kV_m_swap dc_m_swap pm_m_swap cd_m_swap ct_m_swap oc_m_close kV_m_close dc_m_close pm_m_close cd_m_close ct_m_close oc_m_many kV_m_many dc_m_many pm_m_many cd_m_many ct_m_many oc_m_words kV_m_words dc_m_words pm_m_words cd_m_words ct_m_words oc_m_dist kV_m_dist dc_m_dist pm_m_dist cd_m_dist ct_m_dist oc_m_off kV_m_off dc_m_off pm_m_off cd_m_off ct_m_off oc_m_least kV_m_least dc_m_least pm_m_least cd_m_least ct_m_least oc_m_farthest kV_m_farthest dc_m_farthest pm_m_farthest cd_m_farthest ct_m_farthest oc_m_alike kV_m_alike dc_m_alike pm_m_alike cd_m_alike ct_m_alike oc_m_closed kV_m_closed dc_m_closed pm_m_closed cd_m_closed ct_m_closed oc_m_twos kV_m_twos dc_m_twos pm_m_twos cd_m_twos ct_m_twos oc_m_sums kV_m_sums dc_m_sums pm_m_sums cd_m_sums ct_m_sums oc_m_sign kV_m_sign dc_m_sign pm_m_sign cd_m_sign ct_m_sign oc_m_tilt kV_m_tilt dc_m_tilt pm_m_tilt cd_m_tilt ct_m_tilt oc_m_patterns kV_m_patterns dc_m_patterns pm_m_patterns cd_m_patterns ct_m_patterns oc_m_even kV_m_even dc_m_even pm_m_even cd_m_even ct_m_even oc_m_strength kV_m_strength dc_m_strength pm_m_strength cd_m_strength ct_m_strength oc_m_uneven kV_m_uneven dc_m_uneven pm_m_uneven cd_m_uneven ct_m_uneven oc_f_answers kV_f_answers dc_f_answers pm_f_answers cd_f_answers ct_f_answers oc_f_answer kV_f_answer dc_f_answer pm_f_answer cd_f_answer ct_f_answer oc_f_change kV_f_change dc_f_change pm_f_change cd_f_change ct_f_change oc_f_look kV_f_look dc_f_look pm_f_look cd_f_look ct_f_look oc_f_reckon kV_f_reckon dc_f_reckon pm_f_reckon cd_f_reckon ct_f_reckon : Value} {tk_MOST_BITS tk_NOT_THERE tk_NO_WORDS tk_ALREADY_THERE tk_DOES_NOT_FIT tk_NOT_TWO_WORDS tk_EVEN_EVERYWHERE tk_BEGIN tk_PUT tk_TAKE tk_REST tk_MOVE tk_SWAP tk_CLOSE tk_MANY tk_WORDS tk_DIST tk_OFF tk_LEAST tk_TWOS tk_SUMS tk_SIGN tk_TILT tk_PATTERNS tk_EVEN tk_STRENGTH tk_UNEVEN tk_CLOSED tk_FARTHEST tk_NOT_BEGUN : Nat}
    {its_TOLD : Array Value} {m_TOLD : Nat}
    (aC_WordSet : PySem.W.nsIn K mainGlobals "WordSet" = some (some (.ref C_WordSet)))
    (n_f_weight : PySem.W.nsIn K mainGlobals "weight" = some (some (.ref a_f_weight)))
    (l_f_weight : K.lookup a_f_weight = some ⟨oc_f_weight, od_f_weight, .func (PySem.W.fnOf "weight" "weight" (defArgs s_f_weight) (defBody s_f_weight) (defScope s_f_weight) .none kV_f_weight dc_f_weight pm_f_weight an_f_weight cd_f_weight ct_f_weight), sl_f_weight⟩)
    (c_f_weight : PySem.W.codeIn K cd_f_weight "weight" = true)
    (k_f_weight : PySem.W.keepIn K (.ref a_f_weight) = true)
    (n_f_distance : PySem.W.nsIn K mainGlobals "distance" = some (some (.ref a_f_distance)))
    (l_f_distance : K.lookup a_f_distance = some ⟨oc_f_distance, od_f_distance, .func (PySem.W.fnOf "distance" "distance" (defArgs s_f_distance) (defBody s_f_distance) (defScope s_f_distance) .none kV_f_distance dc_f_distance pm_f_distance an_f_distance cd_f_distance ct_f_distance), sl_f_distance⟩)
    (c_f_distance : PySem.W.codeIn K cd_f_distance "distance" = true)
    (k_f_distance : PySem.W.keepIn K (.ref a_f_distance) = true)
    (n_f_missing : PySem.W.nsIn K mainGlobals "missing" = some (some (.ref a_f_missing)))
    (l_f_missing : K.lookup a_f_missing = some ⟨oc_f_missing, od_f_missing, .func (PySem.W.fnOf "missing" "missing" (defArgs s_f_missing) (defBody s_f_missing) (defScope s_f_missing) .none kV_f_missing dc_f_missing pm_f_missing an_f_missing cd_f_missing ct_f_missing), sl_f_missing⟩)
    (c_f_missing : PySem.W.codeIn K cd_f_missing "missing" = true)
    (k_f_missing : PySem.W.keepIn K (.ref a_f_missing) = true)
    (n_f_exchanged : PySem.W.nsIn K mainGlobals "exchanged" = some (some (.ref a_f_exchanged)))
    (l_f_exchanged : K.lookup a_f_exchanged = some ⟨oc_f_exchanged, od_f_exchanged, .func (PySem.W.fnOf "exchanged" "exchanged" (defArgs s_f_exchanged) (defBody s_f_exchanged) (defScope s_f_exchanged) .none kV_f_exchanged dc_f_exchanged pm_f_exchanged an_f_exchanged cd_f_exchanged ct_f_exchanged), sl_f_exchanged⟩)
    (c_f_exchanged : PySem.W.codeIn K cd_f_exchanged "exchanged" = true)
    (k_f_exchanged : PySem.W.keepIn K (.ref a_f_exchanged) = true)
    (n_f_closed_up : PySem.W.nsIn K mainGlobals "closed_up" = some (some (.ref a_f_closed_up)))
    (l_f_closed_up : K.lookup a_f_closed_up = some ⟨oc_f_closed_up, od_f_closed_up, .func (PySem.W.fnOf "closed_up" "closed_up" (defArgs s_f_closed_up) (defBody s_f_closed_up) (defScope s_f_closed_up) .none kV_f_closed_up dc_f_closed_up pm_f_closed_up an_f_closed_up cd_f_closed_up ct_f_closed_up), sl_f_closed_up⟩)
    (c_f_closed_up : PySem.W.codeIn K cd_f_closed_up "closed_up" = true)
    (k_f_closed_up : PySem.W.keepIn K (.ref a_f_closed_up) = true)
    (n_f_distances : PySem.W.nsIn K mainGlobals "distances" = some (some (.ref a_f_distances)))
    (l_f_distances : K.lookup a_f_distances = some ⟨oc_f_distances, od_f_distances, .func (PySem.W.fnOf "distances" "distances" (defArgs s_f_distances) (defBody s_f_distances) (defScope s_f_distances) .none kV_f_distances dc_f_distances pm_f_distances an_f_distances cd_f_distances ct_f_distances), sl_f_distances⟩)
    (c_f_distances : PySem.W.codeIn K cd_f_distances "distances" = true)
    (k_f_distances : PySem.W.keepIn K (.ref a_f_distances) = true)
    (n_f_least_distance : PySem.W.nsIn K mainGlobals "least_distance" = some (some (.ref a_f_least_distance)))
    (l_f_least_distance : K.lookup a_f_least_distance = some ⟨oc_f_least_distance, od_f_least_distance, .func (PySem.W.fnOf "least_distance" "least_distance" (defArgs s_f_least_distance) (defBody s_f_least_distance) (defScope s_f_least_distance) .none kV_f_least_distance dc_f_least_distance pm_f_least_distance an_f_least_distance cd_f_least_distance ct_f_least_distance), sl_f_least_distance⟩)
    (c_f_least_distance : PySem.W.codeIn K cd_f_least_distance "least_distance" = true)
    (k_f_least_distance : PySem.W.keepIn K (.ref a_f_least_distance) = true)
    (n_f_counts_from : PySem.W.nsIn K mainGlobals "counts_from" = some (some (.ref a_f_counts_from)))
    (l_f_counts_from : K.lookup a_f_counts_from = some ⟨oc_f_counts_from, od_f_counts_from, .func (PySem.W.fnOf "counts_from" "counts_from" (defArgs s_f_counts_from) (defBody s_f_counts_from) (defScope s_f_counts_from) .none kV_f_counts_from dc_f_counts_from pm_f_counts_from an_f_counts_from cd_f_counts_from ct_f_counts_from), sl_f_counts_from⟩)
    (c_f_counts_from : PySem.W.codeIn K cd_f_counts_from "counts_from" = true)
    (k_f_counts_from : PySem.W.keepIn K (.ref a_f_counts_from) = true)
    (n_f_counts_of_twos : PySem.W.nsIn K mainGlobals "counts_of_twos" = some (some (.ref a_f_counts_of_twos)))
    (l_f_counts_of_twos : K.lookup a_f_counts_of_twos = some ⟨oc_f_counts_of_twos, od_f_counts_of_twos, .func (PySem.W.fnOf "counts_of_twos" "counts_of_twos" (defArgs s_f_counts_of_twos) (defBody s_f_counts_of_twos) (defScope s_f_counts_of_twos) .none kV_f_counts_of_twos dc_f_counts_of_twos pm_f_counts_of_twos an_f_counts_of_twos cd_f_counts_of_twos ct_f_counts_of_twos), sl_f_counts_of_twos⟩)
    (c_f_counts_of_twos : PySem.W.codeIn K cd_f_counts_of_twos "counts_of_twos" = true)
    (k_f_counts_of_twos : PySem.W.keepIn K (.ref a_f_counts_of_twos) = true)
    (n_f_sets_of : PySem.W.nsIn K mainGlobals "sets_of" = some (some (.ref a_f_sets_of)))
    (l_f_sets_of : K.lookup a_f_sets_of = some ⟨oc_f_sets_of, od_f_sets_of, .func (PySem.W.fnOf "sets_of" "sets_of" (defArgs s_f_sets_of) (defBody s_f_sets_of) (defScope s_f_sets_of) .none kV_f_sets_of dc_f_sets_of pm_f_sets_of an_f_sets_of cd_f_sets_of ct_f_sets_of), sl_f_sets_of⟩)
    (c_f_sets_of : PySem.W.codeIn K cd_f_sets_of "sets_of" = true)
    (k_f_sets_of : PySem.W.keepIn K (.ref a_f_sets_of) = true)
    (n_f_sign_of : PySem.W.nsIn K mainGlobals "sign_of" = some (some (.ref a_f_sign_of)))
    (l_f_sign_of : K.lookup a_f_sign_of = some ⟨oc_f_sign_of, od_f_sign_of, .func (PySem.W.fnOf "sign_of" "sign_of" (defArgs s_f_sign_of) (defBody s_f_sign_of) (defScope s_f_sign_of) .none kV_f_sign_of dc_f_sign_of pm_f_sign_of an_f_sign_of cd_f_sign_of ct_f_sign_of), sl_f_sign_of⟩)
    (c_f_sign_of : PySem.W.codeIn K cd_f_sign_of "sign_of" = true)
    (k_f_sign_of : PySem.W.keepIn K (.ref a_f_sign_of) = true)
    (n_f_sign_sum : PySem.W.nsIn K mainGlobals "sign_sum" = some (some (.ref a_f_sign_sum)))
    (l_f_sign_sum : K.lookup a_f_sign_sum = some ⟨oc_f_sign_sum, od_f_sign_sum, .func (PySem.W.fnOf "sign_sum" "sign_sum" (defArgs s_f_sign_sum) (defBody s_f_sign_sum) (defScope s_f_sign_sum) .none kV_f_sign_sum dc_f_sign_sum pm_f_sign_sum an_f_sign_sum cd_f_sign_sum ct_f_sign_sum), sl_f_sign_sum⟩)
    (c_f_sign_sum : PySem.W.codeIn K cd_f_sign_sum "sign_sum" = true)
    (k_f_sign_sum : PySem.W.keepIn K (.ref a_f_sign_sum) = true)
    (n_f_kth_sum : PySem.W.nsIn K mainGlobals "kth_sum" = some (some (.ref a_f_kth_sum)))
    (l_f_kth_sum : K.lookup a_f_kth_sum = some ⟨oc_f_kth_sum, od_f_kth_sum, .func (PySem.W.fnOf "kth_sum" "kth_sum" (defArgs s_f_kth_sum) (defBody s_f_kth_sum) (defScope s_f_kth_sum) .none kV_f_kth_sum dc_f_kth_sum pm_f_kth_sum an_f_kth_sum cd_f_kth_sum ct_f_kth_sum), sl_f_kth_sum⟩)
    (c_f_kth_sum : PySem.W.codeIn K cd_f_kth_sum "kth_sum" = true)
    (k_f_kth_sum : PySem.W.keepIn K (.ref a_f_kth_sum) = true)
    (n_f_tilt_of : PySem.W.nsIn K mainGlobals "tilt_of" = some (some (.ref a_f_tilt_of)))
    (l_f_tilt_of : K.lookup a_f_tilt_of = some ⟨oc_f_tilt_of, od_f_tilt_of, .func (PySem.W.fnOf "tilt_of" "tilt_of" (defArgs s_f_tilt_of) (defBody s_f_tilt_of) (defScope s_f_tilt_of) .none kV_f_tilt_of dc_f_tilt_of pm_f_tilt_of an_f_tilt_of cd_f_tilt_of ct_f_tilt_of), sl_f_tilt_of⟩)
    (c_f_tilt_of : PySem.W.codeIn K cd_f_tilt_of "tilt_of" = true)
    (k_f_tilt_of : PySem.W.keepIn K (.ref a_f_tilt_of) = true)
    (n_f_patterns_on : PySem.W.nsIn K mainGlobals "patterns_on" = some (some (.ref a_f_patterns_on)))
    (l_f_patterns_on : K.lookup a_f_patterns_on = some ⟨oc_f_patterns_on, od_f_patterns_on, .func (PySem.W.fnOf "patterns_on" "patterns_on" (defArgs s_f_patterns_on) (defBody s_f_patterns_on) (defScope s_f_patterns_on) .none kV_f_patterns_on dc_f_patterns_on pm_f_patterns_on an_f_patterns_on cd_f_patterns_on ct_f_patterns_on), sl_f_patterns_on⟩)
    (c_f_patterns_on : PySem.W.codeIn K cd_f_patterns_on "patterns_on" = true)
    (k_f_patterns_on : PySem.W.keepIn K (.ref a_f_patterns_on) = true)
    (n_f_pattern_counts : PySem.W.nsIn K mainGlobals "pattern_counts" = some (some (.ref a_f_pattern_counts)))
    (l_f_pattern_counts : K.lookup a_f_pattern_counts = some ⟨oc_f_pattern_counts, od_f_pattern_counts, .func (PySem.W.fnOf "pattern_counts" "pattern_counts" (defArgs s_f_pattern_counts) (defBody s_f_pattern_counts) (defScope s_f_pattern_counts) .none kV_f_pattern_counts dc_f_pattern_counts pm_f_pattern_counts an_f_pattern_counts cd_f_pattern_counts ct_f_pattern_counts), sl_f_pattern_counts⟩)
    (c_f_pattern_counts : PySem.W.codeIn K cd_f_pattern_counts "pattern_counts" = true)
    (k_f_pattern_counts : PySem.W.keepIn K (.ref a_f_pattern_counts) = true)
    (n_f_is_even : PySem.W.nsIn K mainGlobals "is_even" = some (some (.ref a_f_is_even)))
    (l_f_is_even : K.lookup a_f_is_even = some ⟨oc_f_is_even, od_f_is_even, .func (PySem.W.fnOf "is_even" "is_even" (defArgs s_f_is_even) (defBody s_f_is_even) (defScope s_f_is_even) .none kV_f_is_even dc_f_is_even pm_f_is_even an_f_is_even cd_f_is_even ct_f_is_even), sl_f_is_even⟩)
    (c_f_is_even : PySem.W.codeIn K cd_f_is_even "is_even" = true)
    (k_f_is_even : PySem.W.keepIn K (.ref a_f_is_even) = true)
    (n_f_first_uneven : PySem.W.nsIn K mainGlobals "first_uneven" = some (some (.ref a_f_first_uneven)))
    (l_f_first_uneven : K.lookup a_f_first_uneven = some ⟨oc_f_first_uneven, od_f_first_uneven, .func (PySem.W.fnOf "first_uneven" "first_uneven" (defArgs s_f_first_uneven) (defBody s_f_first_uneven) (defScope s_f_first_uneven) .none kV_f_first_uneven dc_f_first_uneven pm_f_first_uneven an_f_first_uneven cd_f_first_uneven ct_f_first_uneven), sl_f_first_uneven⟩)
    (c_f_first_uneven : PySem.W.codeIn K cd_f_first_uneven "first_uneven" = true)
    (k_f_first_uneven : PySem.W.keepIn K (.ref a_f_first_uneven) = true)
    (n_m_init : PySem.W.findIn K (.ref C_WordSet) "__init__" = some (some (.ref a_m_init)))
    (i_m_init : PySem.W.isFn K (.ref a_m_init) = true)
    (l_m_init : K.lookup a_m_init = some ⟨oc_m_init, od_m_init, .func (PySem.W.fnOf "__init__" "WordSet.__init__" (defArgs s_m_init) (defBody s_m_init) (defScope s_m_init) .none kV_m_init dc_m_init pm_m_init an_m_init cd_m_init ct_m_init), sl_m_init⟩)
    (c_m_init : PySem.W.codeIn K cd_m_init "WordSet.__init__" = true)
    (k_m_init : PySem.W.keepIn K (.ref a_m_init) = true)
    (n_m_is_begun : PySem.W.findIn K (.ref C_WordSet) "is_begun" = some (some (.ref a_m_is_begun)))
    (i_m_is_begun : PySem.W.isFn K (.ref a_m_is_begun) = true)
    (l_m_is_begun : K.lookup a_m_is_begun = some ⟨oc_m_is_begun, od_m_is_begun, .func (PySem.W.fnOf "is_begun" "WordSet.is_begun" (defArgs s_m_is_begun) (defBody s_m_is_begun) (defScope s_m_is_begun) .none kV_m_is_begun dc_m_is_begun pm_m_is_begun an_m_is_begun cd_m_is_begun ct_m_is_begun), sl_m_is_begun⟩)
    (c_m_is_begun : PySem.W.codeIn K cd_m_is_begun "WordSet.is_begun" = true)
    (k_m_is_begun : PySem.W.keepIn K (.ref a_m_is_begun) = true)
    (n_m_fits : PySem.W.findIn K (.ref C_WordSet) "fits" = some (some (.ref a_m_fits)))
    (i_m_fits : PySem.W.isFn K (.ref a_m_fits) = true)
    (l_m_fits : K.lookup a_m_fits = some ⟨oc_m_fits, od_m_fits, .func (PySem.W.fnOf "fits" "WordSet.fits" (defArgs s_m_fits) (defBody s_m_fits) (defScope s_m_fits) .none kV_m_fits dc_m_fits pm_m_fits an_m_fits cd_m_fits ct_m_fits), sl_m_fits⟩)
    (c_m_fits : PySem.W.codeIn K cd_m_fits "WordSet.fits" = true)
    (k_m_fits : PySem.W.keepIn K (.ref a_m_fits) = true)
    (n_m_begin : PySem.W.findIn K (.ref C_WordSet) "begin" = some (some (.ref a_m_begin)))
    (i_m_begin : PySem.W.isFn K (.ref a_m_begin) = true)
    (l_m_begin : K.lookup a_m_begin = some ⟨oc_m_begin, od_m_begin, .func (PySem.W.fnOf "begin" "WordSet.begin" (defArgs s_m_begin) (defBody s_m_begin) (defScope s_m_begin) .none kV_m_begin dc_m_begin pm_m_begin an_m_begin cd_m_begin ct_m_begin), sl_m_begin⟩)
    (c_m_begin : PySem.W.codeIn K cd_m_begin "WordSet.begin" = true)
    (k_m_begin : PySem.W.keepIn K (.ref a_m_begin) = true)
    (n_m_put : PySem.W.findIn K (.ref C_WordSet) "put" = some (some (.ref a_m_put)))
    (i_m_put : PySem.W.isFn K (.ref a_m_put) = true)
    (l_m_put : K.lookup a_m_put = some ⟨oc_m_put, od_m_put, .func (PySem.W.fnOf "put" "WordSet.put" (defArgs s_m_put) (defBody s_m_put) (defScope s_m_put) .none kV_m_put dc_m_put pm_m_put an_m_put cd_m_put ct_m_put), sl_m_put⟩)
    (c_m_put : PySem.W.codeIn K cd_m_put "WordSet.put" = true)
    (k_m_put : PySem.W.keepIn K (.ref a_m_put) = true)
    (n_m_take : PySem.W.findIn K (.ref C_WordSet) "take" = some (some (.ref a_m_take)))
    (i_m_take : PySem.W.isFn K (.ref a_m_take) = true)
    (l_m_take : K.lookup a_m_take = some ⟨oc_m_take, od_m_take, .func (PySem.W.fnOf "take" "WordSet.take" (defArgs s_m_take) (defBody s_m_take) (defScope s_m_take) .none kV_m_take dc_m_take pm_m_take an_m_take cd_m_take ct_m_take), sl_m_take⟩)
    (c_m_take : PySem.W.codeIn K cd_m_take "WordSet.take" = true)
    (k_m_take : PySem.W.keepIn K (.ref a_m_take) = true)
    (n_m_rest : PySem.W.findIn K (.ref C_WordSet) "rest" = some (some (.ref a_m_rest)))
    (i_m_rest : PySem.W.isFn K (.ref a_m_rest) = true)
    (l_m_rest : K.lookup a_m_rest = some ⟨oc_m_rest, od_m_rest, .func (PySem.W.fnOf "rest" "WordSet.rest" (defArgs s_m_rest) (defBody s_m_rest) (defScope s_m_rest) .none kV_m_rest dc_m_rest pm_m_rest an_m_rest cd_m_rest ct_m_rest), sl_m_rest⟩)
    (c_m_rest : PySem.W.codeIn K cd_m_rest "WordSet.rest" = true)
    (k_m_rest : PySem.W.keepIn K (.ref a_m_rest) = true)
    (n_m_move : PySem.W.findIn K (.ref C_WordSet) "move" = some (some (.ref a_m_move)))
    (i_m_move : PySem.W.isFn K (.ref a_m_move) = true)
    (l_m_move : K.lookup a_m_move = some ⟨oc_m_move, od_m_move, .func (PySem.W.fnOf "move" "WordSet.move" (defArgs s_m_move) (defBody s_m_move) (defScope s_m_move) .none kV_m_move dc_m_move pm_m_move an_m_move cd_m_move ct_m_move), sl_m_move⟩)
    (c_m_move : PySem.W.codeIn K cd_m_move "WordSet.move" = true)
    (k_m_move : PySem.W.keepIn K (.ref a_m_move) = true)
    (n_m_swap : PySem.W.findIn K (.ref C_WordSet) "swap" = some (some (.ref a_m_swap)))
    (i_m_swap : PySem.W.isFn K (.ref a_m_swap) = true)
    (l_m_swap : K.lookup a_m_swap = some ⟨oc_m_swap, od_m_swap, .func (PySem.W.fnOf "swap" "WordSet.swap" (defArgs s_m_swap) (defBody s_m_swap) (defScope s_m_swap) .none kV_m_swap dc_m_swap pm_m_swap an_m_swap cd_m_swap ct_m_swap), sl_m_swap⟩)
    (c_m_swap : PySem.W.codeIn K cd_m_swap "WordSet.swap" = true)
    (k_m_swap : PySem.W.keepIn K (.ref a_m_swap) = true)
    (n_m_close : PySem.W.findIn K (.ref C_WordSet) "close" = some (some (.ref a_m_close)))
    (i_m_close : PySem.W.isFn K (.ref a_m_close) = true)
    (l_m_close : K.lookup a_m_close = some ⟨oc_m_close, od_m_close, .func (PySem.W.fnOf "close" "WordSet.close" (defArgs s_m_close) (defBody s_m_close) (defScope s_m_close) .none kV_m_close dc_m_close pm_m_close an_m_close cd_m_close ct_m_close), sl_m_close⟩)
    (c_m_close : PySem.W.codeIn K cd_m_close "WordSet.close" = true)
    (k_m_close : PySem.W.keepIn K (.ref a_m_close) = true)
    (n_m_many : PySem.W.findIn K (.ref C_WordSet) "many" = some (some (.ref a_m_many)))
    (i_m_many : PySem.W.isFn K (.ref a_m_many) = true)
    (l_m_many : K.lookup a_m_many = some ⟨oc_m_many, od_m_many, .func (PySem.W.fnOf "many" "WordSet.many" (defArgs s_m_many) (defBody s_m_many) (defScope s_m_many) .none kV_m_many dc_m_many pm_m_many an_m_many cd_m_many ct_m_many), sl_m_many⟩)
    (c_m_many : PySem.W.codeIn K cd_m_many "WordSet.many" = true)
    (k_m_many : PySem.W.keepIn K (.ref a_m_many) = true)
    (n_m_words : PySem.W.findIn K (.ref C_WordSet) "words" = some (some (.ref a_m_words)))
    (i_m_words : PySem.W.isFn K (.ref a_m_words) = true)
    (l_m_words : K.lookup a_m_words = some ⟨oc_m_words, od_m_words, .func (PySem.W.fnOf "words" "WordSet.words" (defArgs s_m_words) (defBody s_m_words) (defScope s_m_words) .none kV_m_words dc_m_words pm_m_words an_m_words cd_m_words ct_m_words), sl_m_words⟩)
    (c_m_words : PySem.W.codeIn K cd_m_words "WordSet.words" = true)
    (k_m_words : PySem.W.keepIn K (.ref a_m_words) = true)
    (n_m_dist : PySem.W.findIn K (.ref C_WordSet) "dist" = some (some (.ref a_m_dist)))
    (i_m_dist : PySem.W.isFn K (.ref a_m_dist) = true)
    (l_m_dist : K.lookup a_m_dist = some ⟨oc_m_dist, od_m_dist, .func (PySem.W.fnOf "dist" "WordSet.dist" (defArgs s_m_dist) (defBody s_m_dist) (defScope s_m_dist) .none kV_m_dist dc_m_dist pm_m_dist an_m_dist cd_m_dist ct_m_dist), sl_m_dist⟩)
    (c_m_dist : PySem.W.codeIn K cd_m_dist "WordSet.dist" = true)
    (k_m_dist : PySem.W.keepIn K (.ref a_m_dist) = true)
    (n_m_off : PySem.W.findIn K (.ref C_WordSet) "off" = some (some (.ref a_m_off)))
    (i_m_off : PySem.W.isFn K (.ref a_m_off) = true)
    (l_m_off : K.lookup a_m_off = some ⟨oc_m_off, od_m_off, .func (PySem.W.fnOf "off" "WordSet.off" (defArgs s_m_off) (defBody s_m_off) (defScope s_m_off) .none kV_m_off dc_m_off pm_m_off an_m_off cd_m_off ct_m_off), sl_m_off⟩)
    (c_m_off : PySem.W.codeIn K cd_m_off "WordSet.off" = true)
    (k_m_off : PySem.W.keepIn K (.ref a_m_off) = true)
    (n_m_least : PySem.W.findIn K (.ref C_WordSet) "least" = some (some (.ref a_m_least)))
    (i_m_least : PySem.W.isFn K (.ref a_m_least) = true)
    (l_m_least : K.lookup a_m_least = some ⟨oc_m_least, od_m_least, .func (PySem.W.fnOf "least" "WordSet.least" (defArgs s_m_least) (defBody s_m_least) (defScope s_m_least) .none kV_m_least dc_m_least pm_m_least an_m_least cd_m_least ct_m_least), sl_m_least⟩)
    (c_m_least : PySem.W.codeIn K cd_m_least "WordSet.least" = true)
    (k_m_least : PySem.W.keepIn K (.ref a_m_least) = true)
    (n_m_farthest : PySem.W.findIn K (.ref C_WordSet) "farthest" = some (some (.ref a_m_farthest)))
    (i_m_farthest : PySem.W.isFn K (.ref a_m_farthest) = true)
    (l_m_farthest : K.lookup a_m_farthest = some ⟨oc_m_farthest, od_m_farthest, .func (PySem.W.fnOf "farthest" "WordSet.farthest" (defArgs s_m_farthest) (defBody s_m_farthest) (defScope s_m_farthest) .none kV_m_farthest dc_m_farthest pm_m_farthest an_m_farthest cd_m_farthest ct_m_farthest), sl_m_farthest⟩)
    (c_m_farthest : PySem.W.codeIn K cd_m_farthest "WordSet.farthest" = true)
    (k_m_farthest : PySem.W.keepIn K (.ref a_m_farthest) = true)
    (n_m_alike : PySem.W.findIn K (.ref C_WordSet) "alike" = some (some (.ref a_m_alike)))
    (i_m_alike : PySem.W.isFn K (.ref a_m_alike) = true)
    (l_m_alike : K.lookup a_m_alike = some ⟨oc_m_alike, od_m_alike, .func (PySem.W.fnOf "alike" "WordSet.alike" (defArgs s_m_alike) (defBody s_m_alike) (defScope s_m_alike) .none kV_m_alike dc_m_alike pm_m_alike an_m_alike cd_m_alike ct_m_alike), sl_m_alike⟩)
    (c_m_alike : PySem.W.codeIn K cd_m_alike "WordSet.alike" = true)
    (k_m_alike : PySem.W.keepIn K (.ref a_m_alike) = true)
    (n_m_closed : PySem.W.findIn K (.ref C_WordSet) "closed" = some (some (.ref a_m_closed)))
    (i_m_closed : PySem.W.isFn K (.ref a_m_closed) = true)
    (l_m_closed : K.lookup a_m_closed = some ⟨oc_m_closed, od_m_closed, .func (PySem.W.fnOf "closed" "WordSet.closed" (defArgs s_m_closed) (defBody s_m_closed) (defScope s_m_closed) .none kV_m_closed dc_m_closed pm_m_closed an_m_closed cd_m_closed ct_m_closed), sl_m_closed⟩)
    (c_m_closed : PySem.W.codeIn K cd_m_closed "WordSet.closed" = true)
    (k_m_closed : PySem.W.keepIn K (.ref a_m_closed) = true)
    (n_m_twos : PySem.W.findIn K (.ref C_WordSet) "twos" = some (some (.ref a_m_twos)))
    (i_m_twos : PySem.W.isFn K (.ref a_m_twos) = true)
    (l_m_twos : K.lookup a_m_twos = some ⟨oc_m_twos, od_m_twos, .func (PySem.W.fnOf "twos" "WordSet.twos" (defArgs s_m_twos) (defBody s_m_twos) (defScope s_m_twos) .none kV_m_twos dc_m_twos pm_m_twos an_m_twos cd_m_twos ct_m_twos), sl_m_twos⟩)
    (c_m_twos : PySem.W.codeIn K cd_m_twos "WordSet.twos" = true)
    (k_m_twos : PySem.W.keepIn K (.ref a_m_twos) = true)
    (n_m_sums : PySem.W.findIn K (.ref C_WordSet) "sums" = some (some (.ref a_m_sums)))
    (i_m_sums : PySem.W.isFn K (.ref a_m_sums) = true)
    (l_m_sums : K.lookup a_m_sums = some ⟨oc_m_sums, od_m_sums, .func (PySem.W.fnOf "sums" "WordSet.sums" (defArgs s_m_sums) (defBody s_m_sums) (defScope s_m_sums) .none kV_m_sums dc_m_sums pm_m_sums an_m_sums cd_m_sums ct_m_sums), sl_m_sums⟩)
    (c_m_sums : PySem.W.codeIn K cd_m_sums "WordSet.sums" = true)
    (k_m_sums : PySem.W.keepIn K (.ref a_m_sums) = true)
    (n_m_sign : PySem.W.findIn K (.ref C_WordSet) "sign" = some (some (.ref a_m_sign)))
    (i_m_sign : PySem.W.isFn K (.ref a_m_sign) = true)
    (l_m_sign : K.lookup a_m_sign = some ⟨oc_m_sign, od_m_sign, .func (PySem.W.fnOf "sign" "WordSet.sign" (defArgs s_m_sign) (defBody s_m_sign) (defScope s_m_sign) .none kV_m_sign dc_m_sign pm_m_sign an_m_sign cd_m_sign ct_m_sign), sl_m_sign⟩)
    (c_m_sign : PySem.W.codeIn K cd_m_sign "WordSet.sign" = true)
    (k_m_sign : PySem.W.keepIn K (.ref a_m_sign) = true)
    (n_m_tilt : PySem.W.findIn K (.ref C_WordSet) "tilt" = some (some (.ref a_m_tilt)))
    (i_m_tilt : PySem.W.isFn K (.ref a_m_tilt) = true)
    (l_m_tilt : K.lookup a_m_tilt = some ⟨oc_m_tilt, od_m_tilt, .func (PySem.W.fnOf "tilt" "WordSet.tilt" (defArgs s_m_tilt) (defBody s_m_tilt) (defScope s_m_tilt) .none kV_m_tilt dc_m_tilt pm_m_tilt an_m_tilt cd_m_tilt ct_m_tilt), sl_m_tilt⟩)
    (c_m_tilt : PySem.W.codeIn K cd_m_tilt "WordSet.tilt" = true)
    (k_m_tilt : PySem.W.keepIn K (.ref a_m_tilt) = true)
    (n_m_patterns : PySem.W.findIn K (.ref C_WordSet) "patterns" = some (some (.ref a_m_patterns)))
    (i_m_patterns : PySem.W.isFn K (.ref a_m_patterns) = true)
    (l_m_patterns : K.lookup a_m_patterns = some ⟨oc_m_patterns, od_m_patterns, .func (PySem.W.fnOf "patterns" "WordSet.patterns" (defArgs s_m_patterns) (defBody s_m_patterns) (defScope s_m_patterns) .none kV_m_patterns dc_m_patterns pm_m_patterns an_m_patterns cd_m_patterns ct_m_patterns), sl_m_patterns⟩)
    (c_m_patterns : PySem.W.codeIn K cd_m_patterns "WordSet.patterns" = true)
    (k_m_patterns : PySem.W.keepIn K (.ref a_m_patterns) = true)
    (n_m_even : PySem.W.findIn K (.ref C_WordSet) "even" = some (some (.ref a_m_even)))
    (i_m_even : PySem.W.isFn K (.ref a_m_even) = true)
    (l_m_even : K.lookup a_m_even = some ⟨oc_m_even, od_m_even, .func (PySem.W.fnOf "even" "WordSet.even" (defArgs s_m_even) (defBody s_m_even) (defScope s_m_even) .none kV_m_even dc_m_even pm_m_even an_m_even cd_m_even ct_m_even), sl_m_even⟩)
    (c_m_even : PySem.W.codeIn K cd_m_even "WordSet.even" = true)
    (k_m_even : PySem.W.keepIn K (.ref a_m_even) = true)
    (n_m_strength : PySem.W.findIn K (.ref C_WordSet) "strength" = some (some (.ref a_m_strength)))
    (i_m_strength : PySem.W.isFn K (.ref a_m_strength) = true)
    (l_m_strength : K.lookup a_m_strength = some ⟨oc_m_strength, od_m_strength, .func (PySem.W.fnOf "strength" "WordSet.strength" (defArgs s_m_strength) (defBody s_m_strength) (defScope s_m_strength) .none kV_m_strength dc_m_strength pm_m_strength an_m_strength cd_m_strength ct_m_strength), sl_m_strength⟩)
    (c_m_strength : PySem.W.codeIn K cd_m_strength "WordSet.strength" = true)
    (k_m_strength : PySem.W.keepIn K (.ref a_m_strength) = true)
    (n_m_uneven : PySem.W.findIn K (.ref C_WordSet) "uneven" = some (some (.ref a_m_uneven)))
    (i_m_uneven : PySem.W.isFn K (.ref a_m_uneven) = true)
    (l_m_uneven : K.lookup a_m_uneven = some ⟨oc_m_uneven, od_m_uneven, .func (PySem.W.fnOf "uneven" "WordSet.uneven" (defArgs s_m_uneven) (defBody s_m_uneven) (defScope s_m_uneven) .none kV_m_uneven dc_m_uneven pm_m_uneven an_m_uneven cd_m_uneven ct_m_uneven), sl_m_uneven⟩)
    (c_m_uneven : PySem.W.codeIn K cd_m_uneven "WordSet.uneven" = true)
    (k_m_uneven : PySem.W.keepIn K (.ref a_m_uneven) = true)
    (n_f_answers : PySem.W.nsIn K mainGlobals "answers" = some (some (.ref a_f_answers)))
    (l_f_answers : K.lookup a_f_answers = some ⟨oc_f_answers, od_f_answers, .func (PySem.W.fnOf "answers" "answers" (defArgs s_f_answers) (defBody s_f_answers) (defScope s_f_answers) .none kV_f_answers dc_f_answers pm_f_answers an_f_answers cd_f_answers ct_f_answers), sl_f_answers⟩)
    (c_f_answers : PySem.W.codeIn K cd_f_answers "answers" = true)
    (k_f_answers : PySem.W.keepIn K (.ref a_f_answers) = true)
    (n_f_answer : PySem.W.nsIn K mainGlobals "answer" = some (some (.ref a_f_answer)))
    (l_f_answer : K.lookup a_f_answer = some ⟨oc_f_answer, od_f_answer, .func (PySem.W.fnOf "answer" "answer" (defArgs s_f_answer) (defBody s_f_answer) (defScope s_f_answer) .none kV_f_answer dc_f_answer pm_f_answer an_f_answer cd_f_answer ct_f_answer), sl_f_answer⟩)
    (c_f_answer : PySem.W.codeIn K cd_f_answer "answer" = true)
    (k_f_answer : PySem.W.keepIn K (.ref a_f_answer) = true)
    (n_f_change : PySem.W.nsIn K mainGlobals "change" = some (some (.ref a_f_change)))
    (l_f_change : K.lookup a_f_change = some ⟨oc_f_change, od_f_change, .func (PySem.W.fnOf "change" "change" (defArgs s_f_change) (defBody s_f_change) (defScope s_f_change) .none kV_f_change dc_f_change pm_f_change an_f_change cd_f_change ct_f_change), sl_f_change⟩)
    (c_f_change : PySem.W.codeIn K cd_f_change "change" = true)
    (k_f_change : PySem.W.keepIn K (.ref a_f_change) = true)
    (n_f_look : PySem.W.nsIn K mainGlobals "look" = some (some (.ref a_f_look)))
    (l_f_look : K.lookup a_f_look = some ⟨oc_f_look, od_f_look, .func (PySem.W.fnOf "look" "look" (defArgs s_f_look) (defBody s_f_look) (defScope s_f_look) .none kV_f_look dc_f_look pm_f_look an_f_look cd_f_look ct_f_look), sl_f_look⟩)
    (c_f_look : PySem.W.codeIn K cd_f_look "look" = true)
    (k_f_look : PySem.W.keepIn K (.ref a_f_look) = true)
    (n_f_reckon : PySem.W.nsIn K mainGlobals "reckon" = some (some (.ref a_f_reckon)))
    (l_f_reckon : K.lookup a_f_reckon = some ⟨oc_f_reckon, od_f_reckon, .func (PySem.W.fnOf "reckon" "reckon" (defArgs s_f_reckon) (defBody s_f_reckon) (defScope s_f_reckon) .none kV_f_reckon dc_f_reckon pm_f_reckon an_f_reckon cd_f_reckon ct_f_reckon), sl_f_reckon⟩)
    (c_f_reckon : PySem.W.codeIn K cd_f_reckon "reckon" = true)
    (k_f_reckon : PySem.W.keepIn K (.ref a_f_reckon) = true)
    (pg_WordSet : PySem.W.plainGet K C_WordSet Str.empty = true)
    (hd_WordSet : PySem.W.hasDictIn K C_WordSet = true)
    (po_WordSet : PySem.W.plainOver K C_WordSet = true)
    (sa_WordSet : PySem.W.findIn K (.ref C_WordSet) "__setattr__" = some (some (.builtin "object.__setattr__")))
    (mk_WordSet : PySem.W.makesIn K C_WordSet = true)
    (kc_WordSet : PySem.W.keepIn K (.ref C_WordSet) = true)
    (nf_bits : PySem.W.findIn K (.ref C_WordSet) "bits" = some none)
    (nf_there : PySem.W.findIn K (.ref C_WordSet) "there" = some none)
    (z_len : PySem.W.nsIn K mainGlobals "len" = some none)
    (z_max : PySem.W.nsIn K mainGlobals "max" = some none)
    (z_min : PySem.W.nsIn K mainGlobals "min" = some none)
    (z_range : PySem.W.nsIn K mainGlobals "range" = some none)
    (z_sorted : PySem.W.nsIn K mainGlobals "sorted" = some none)
    (z_sum : PySem.W.nsIn K mainGlobals "sum" = some none)
    (g_MOST_BITS : PySem.W.nsIn K mainGlobals "MOST_BITS" = some (some (.int (6) tk_MOST_BITS)))
    (g_NOT_THERE : PySem.W.nsIn K mainGlobals "NOT_THERE" = some (some (.int (-2) tk_NOT_THERE)))
    (g_NO_WORDS : PySem.W.nsIn K mainGlobals "NO_WORDS" = some (some (.int (-6) tk_NO_WORDS)))
    (g_ALREADY_THERE : PySem.W.nsIn K mainGlobals "ALREADY_THERE" = some (some (.int (-17) tk_ALREADY_THERE)))
    (g_DOES_NOT_FIT : PySem.W.nsIn K mainGlobals "DOES_NOT_FIT" = some (some (.int (-22) tk_DOES_NOT_FIT)))
    (g_NOT_TWO_WORDS : PySem.W.nsIn K mainGlobals "NOT_TWO_WORDS" = some (some (.int (-33) tk_NOT_TWO_WORDS)))
    (g_EVEN_EVERYWHERE : PySem.W.nsIn K mainGlobals "EVEN_EVERYWHERE" = some (some (.int (-33) tk_EVEN_EVERYWHERE)))
    (g_BEGIN : PySem.W.nsIn K mainGlobals "BEGIN" = some (some (.int (0) tk_BEGIN)))
    (g_PUT : PySem.W.nsIn K mainGlobals "PUT" = some (some (.int (1) tk_PUT)))
    (g_TAKE : PySem.W.nsIn K mainGlobals "TAKE" = some (some (.int (2) tk_TAKE)))
    (g_REST : PySem.W.nsIn K mainGlobals "REST" = some (some (.int (3) tk_REST)))
    (g_MOVE : PySem.W.nsIn K mainGlobals "MOVE" = some (some (.int (4) tk_MOVE)))
    (g_SWAP : PySem.W.nsIn K mainGlobals "SWAP" = some (some (.int (5) tk_SWAP)))
    (g_CLOSE : PySem.W.nsIn K mainGlobals "CLOSE" = some (some (.int (6) tk_CLOSE)))
    (g_MANY : PySem.W.nsIn K mainGlobals "MANY" = some (some (.int (7) tk_MANY)))
    (g_WORDS : PySem.W.nsIn K mainGlobals "WORDS" = some (some (.int (8) tk_WORDS)))
    (g_DIST : PySem.W.nsIn K mainGlobals "DIST" = some (some (.int (9) tk_DIST)))
    (g_OFF : PySem.W.nsIn K mainGlobals "OFF" = some (some (.int (10) tk_OFF)))
    (g_LEAST : PySem.W.nsIn K mainGlobals "LEAST" = some (some (.int (11) tk_LEAST)))
    (g_TWOS : PySem.W.nsIn K mainGlobals "TWOS" = some (some (.int (12) tk_TWOS)))
    (g_SUMS : PySem.W.nsIn K mainGlobals "SUMS" = some (some (.int (13) tk_SUMS)))
    (g_SIGN : PySem.W.nsIn K mainGlobals "SIGN" = some (some (.int (14) tk_SIGN)))
    (g_TILT : PySem.W.nsIn K mainGlobals "TILT" = some (some (.int (15) tk_TILT)))
    (g_PATTERNS : PySem.W.nsIn K mainGlobals "PATTERNS" = some (some (.int (16) tk_PATTERNS)))
    (g_EVEN : PySem.W.nsIn K mainGlobals "EVEN" = some (some (.int (17) tk_EVEN)))
    (g_STRENGTH : PySem.W.nsIn K mainGlobals "STRENGTH" = some (some (.int (18) tk_STRENGTH)))
    (g_UNEVEN : PySem.W.nsIn K mainGlobals "UNEVEN" = some (some (.int (19) tk_UNEVEN)))
    (g_CLOSED : PySem.W.nsIn K mainGlobals "CLOSED" = some (some (.int (20) tk_CLOSED)))
    (g_FARTHEST : PySem.W.nsIn K mainGlobals "FARTHEST" = some (some (.int (21) tk_FARTHEST)))
    (g_TOLD : PySem.W.nsIn K mainGlobals "TOLD" = some (some (.ref t_TOLD)))
    (lt_TOLD : K.lookup t_TOLD = some ⟨.type "tuple", od_TOLD, .seq its_TOLD m_TOLD, sl_TOLD⟩)
    (zt_TOLD : its_TOLD.size ≤ sizeLine)
    (vt_TOLD : Vals v_TOLD its_TOLD.toList)
    (g_NOT_BEGUN : PySem.W.nsIn K mainGlobals "NOT_BEGUN" = some (some (.int (-61) tk_NOT_BEGUN)))
    : ∃ fd : FuncData, (∀ (s : Shared) (us : List Value), us.length = (["calls"] : List Str).length → BindsTo s fd ⟨us, []⟩ ((["calls"] : List Str).zip us)) ∧ ∀ base : Heap, K.In base → base.Ns mainGlobals mg → FnOk P w K mg base CX0 8 fa fd ["calls"] (sp_f_answers K) := by
  have e := hfa.symm.trans (PySem.W.mg_of X G n_f_answers)
  cases e
  have F_f_weight := fun_mk (st := s_f_weight) l_f_weight c_f_weight k_f_weight
  have B_f_weight := F_f_weight.binds (ps := ["word"]) fun _ _ _ _ _ _ us hl => match us, hl with | [_], _ => rfl
  have F_f_distance := fun_mk (st := s_f_distance) l_f_distance c_f_distance k_f_distance
  have B_f_distance := F_f_distance.binds (ps := ["x", "y"]) fun _ _ _ _ _ _ us hl => match us, hl with | [_, _], _ => rfl
  have F_f_missing := fun_mk (st := s_f_missing) l_f_missing c_f_missing k_f_missing
  have B_f_missing := F_f_missing.binds (ps := ["bits", "there"]) fun _ _ _ _ _ _ us hl => match us, hl with | [_, _], _ => rfl
  have F_f_exchanged := fun_mk (st := s_f_exchanged) l_f_exchanged c_f_exchanged k_f_exchanged
  have B_f_exchanged := F_f_exchanged.binds (ps := ["word", "i", "j"]) fun _ _ _ _ _ _ us hl => match us, hl with | [_, _, _], _ => rfl
  have F_f_closed_up := fun_mk (st := s_f_closed_up) l_f_closed_up c_f_closed_up k_f_closed_up
  have B_f_closed_up := F_f_closed_up.binds (ps := ["there"]) fun _ _ _ _ _ _ us hl => match us, hl with | [_], _ => rfl
  have F_f_distances := fun_mk (st := s_f_distances) l_f_distances c_f_distances k_f_distances
  have B_f_distances := F_f_distances.binds (ps := ["x", "there"]) fun _ _ _ _ _ _ us hl => match us, hl with | [_, _], _ => rfl
  have F_f_least_distance := fun_mk (st := s_f_least_distance) l_f_least_distance c_f_least_distance k_f_least_distance
  have B_f_least_distance := F_f_least_distance.binds (ps := ["there"]) fun _ _ _ _ _ _ us hl => match us, hl with | [_], _ => rfl
  have F_f_counts_from := fun_mk (st := s_f_counts_from) l_f_counts_from c_f_counts_from k_f_counts_from
  have B_f_counts_from := F_f_counts_from.binds (ps := ["bits", "x", "there"]) fun _ _ _ _ _ _ us hl => match us, hl with | [_, _, _], _ => rfl
  have F_f_counts_of_twos := fun_mk (st := s_f_counts_of_twos) l_f_counts_of_twos c_f_counts_of_twos k_f_counts_of_twos
  have B_f_counts_of_twos := F_f_counts_of_twos.binds (ps := ["bits", "there"]) fun _ _ _ _ _ _ us hl => match us, hl with | [_, _], _ => rfl
  have F_f_sets_of := fun_mk (st := s_f_sets_of) l_f_sets_of c_f_sets_of k_f_sets_of
  have B_f_sets_of := F_f_sets_of.binds (ps := ["bits", "count"]) fun _ _ _ _ _ _ us hl => match us, hl with | [_, _], _ => rfl
  have F_f_sign_of := fun_mk (st := s_f_sign_of) l_f_sign_of c_f_sign_of k_f_sign_of
  have B_f_sign_of := F_f_sign_of.binds (ps := ["places"]) fun _ _ _ _ _ _ us hl => match us, hl with | [_], _ => rfl
  have F_f_sign_sum := fun_mk (st := s_f_sign_sum) l_f_sign_sum c_f_sign_sum k_f_sign_sum
  have B_f_sign_sum := F_f_sign_sum.binds (ps := ["bits", "k", "i"]) fun _ _ _ _ _ _ us hl => match us, hl with | [_, _, _], _ => rfl
  have F_f_kth_sum := fun_mk (st := s_f_kth_sum) l_f_kth_sum c_f_kth_sum k_f_kth_sum
  have B_f_kth_sum := F_f_kth_sum.binds (ps := ["bits", "twos", "k"]) fun _ _ _ _ _ _ us hl => match us, hl with | [_, _, _], _ => rfl
  have F_f_tilt_of := fun_mk (st := s_f_tilt_of) l_f_tilt_of c_f_tilt_of k_f_tilt_of
  have B_f_tilt_of := F_f_tilt_of.binds (ps := ["u", "there"]) fun _ _ _ _ _ _ us hl => match us, hl with | [_, _], _ => rfl
  have F_f_patterns_on := fun_mk (st := s_f_patterns_on) l_f_patterns_on c_f_patterns_on k_f_patterns_on
  have B_f_patterns_on := F_f_patterns_on.binds (ps := ["u"]) fun _ _ _ _ _ _ us hl => match us, hl with | [_], _ => rfl
  have F_f_pattern_counts := fun_mk (st := s_f_pattern_counts) l_f_pattern_counts c_f_pattern_counts k_f_pattern_counts
  have B_f_pattern_counts := F_f_pattern_counts.binds (ps := ["u", "there"]) fun _ _ _ _ _ _ us hl => match us, hl with | [_, _], _ => rfl
  have F_f_is_even := fun_mk (st := s_f_is_even) l_f_is_even c_f_is_even k_f_is_even
  have B_f_is_even := F_f_is_even.binds (ps := ["u", "there"]) fun _ _ _ _ _ _ us hl => match us, hl with | [_, _], _ => rfl
  have F_f_first_uneven := fun_mk (st := s_f_first_uneven) l_f_first_uneven c_f_first_uneven k_f_first_uneven
  have B_f_first_uneven := F_f_first_uneven.binds (ps := ["bits", "there"]) fun _ _ _ _ _ _ us hl => match us, hl with | [_, _], _ => rfl
  have F_m_init := fun_mk (st := s_m_init) l_m_init c_m_init k_m_init
  have B_m_init := F_m_init.binds (ps := ["self"]) fun _ _ _ _ _ _ us hl => match us, hl with | [_], _ => rfl
  have F_m_is_begun := fun_mk (st := s_m_is_begun) l_m_is_begun c_m_is_begun k_m_is_begun
  have B_m_is_begun := F_m_is_begun.binds (ps := ["self"]) fun _ _ _ _ _ _ us hl => match us, hl with | [_], _ => rfl
  have F_m_fits := fun_mk (st := s_m_fits) l_m_fits c_m_fits k_m_fits
  have B_m_fits := F_m_fits.binds (ps := ["self", "word"]) fun _ _ _ _ _ _ us hl => match us, hl with | [_, _], _ => rfl
  have F_m_begin := fun_mk (st := s_m_begin) l_m_begin c_m_begin k_m_begin
  have B_m_begin := F_m_begin.binds (ps := ["self", "bits"]) fun _ _ _ _ _ _ us hl => match us, hl with | [_, _], _ => rfl
  have F_m_put := fun_mk (st := s_m_put) l_m_put c_m_put k_m_put
  have B_m_put := F_m_put.binds (ps := ["self", "x"]) fun _ _ _ _ _ _ us hl => match us, hl with | [_, _], _ => rfl
  have F_m_take := fun_mk (st := s_m_take) l_m_take c_m_take k_m_take
  have B_m_take := F_m_take.binds (ps := ["self", "x"]) fun _ _ _ _ _ _ us hl => match us, hl with | [_, _], _ => rfl
  have F_m_rest := fun_mk (st := s_m_rest) l_m_rest c_m_rest k_m_rest
  have B_m_rest := F_m_rest.binds (ps := ["self"]) fun _ _ _ _ _ _ us hl => match us, hl with | [_], _ => rfl
  have F_m_move := fun_mk (st := s_m_move) l_m_move c_m_move k_m_move
  have B_m_move := F_m_move.binds (ps := ["self", "y"]) fun _ _ _ _ _ _ us hl => match us, hl with | [_, _], _ => rfl
  have F_m_swap := fun_mk (st := s_m_swap) l_m_swap c_m_swap k_m_swap
  have B_m_swap := F_m_swap.binds (ps := ["self", "i", "j"]) fun _ _ _ _ _ _ us hl => match us, hl with | [_, _, _], _ => rfl
  have F_m_close := fun_mk (st := s_m_close) l_m_close c_m_close k_m_close
  have B_m_close := F_m_close.binds (ps := ["self"]) fun _ _ _ _ _ _ us hl => match us, hl with | [_], _ => rfl
  have F_m_many := fun_mk (st := s_m_many) l_m_many c_m_many k_m_many
  have B_m_many := F_m_many.binds (ps := ["self"]) fun _ _ _ _ _ _ us hl => match us, hl with | [_], _ => rfl
  have F_m_words := fun_mk (st := s_m_words) l_m_words c_m_words k_m_words
  have B_m_words := F_m_words.binds (ps := ["self"]) fun _ _ _ _ _ _ us hl => match us, hl with | [_], _ => rfl
  have F_m_dist := fun_mk (st := s_m_dist) l_m_dist c_m_dist k_m_dist
  have B_m_dist := F_m_dist.binds (ps := ["self", "x", "y"]) fun _ _ _ _ _ _ us hl => match us, hl with | [_, _, _], _ => rfl
  have F_m_off := fun_mk (st := s_m_off) l_m_off c_m_off k_m_off
  have B_m_off := F_m_off.binds (ps := ["self", "x"]) fun _ _ _ _ _ _ us hl => match us, hl with | [_, _], _ => rfl
  have F_m_least := fun_mk (st := s_m_least) l_m_least c_m_least k_m_least
  have B_m_least := F_m_least.binds (ps := ["self"]) fun _ _ _ _ _ _ us hl => match us, hl with | [_], _ => rfl
  have F_m_farthest := fun_mk (st := s_m_farthest) l_m_farthest c_m_farthest k_m_farthest
  have B_m_farthest := F_m_farthest.binds (ps := ["self"]) fun _ _ _ _ _ _ us hl => match us, hl with | [_], _ => rfl
  have F_m_alike := fun_mk (st := s_m_alike) l_m_alike c_m_alike k_m_alike
  have B_m_alike := F_m_alike.binds (ps := ["self", "x"]) fun _ _ _ _ _ _ us hl => match us, hl with | [_, _], _ => rfl
  have F_m_closed := fun_mk (st := s_m_closed) l_m_closed c_m_closed k_m_closed
  have B_m_closed := F_m_closed.binds (ps := ["self"]) fun _ _ _ _ _ _ us hl => match us, hl with | [_], _ => rfl
  have F_m_twos := fun_mk (st := s_m_twos) l_m_twos c_m_twos k_m_twos
  have B_m_twos := F_m_twos.binds (ps := ["self"]) fun _ _ _ _ _ _ us hl => match us, hl with | [_], _ => rfl
  have F_m_sums := fun_mk (st := s_m_sums) l_m_sums c_m_sums k_m_sums
  have B_m_sums := F_m_sums.binds (ps := ["self"]) fun _ _ _ _ _ _ us hl => match us, hl with | [_], _ => rfl
  have F_m_sign := fun_mk (st := s_m_sign) l_m_sign c_m_sign k_m_sign
  have B_m_sign := F_m_sign.binds (ps := ["self", "k", "i"]) fun _ _ _ _ _ _ us hl => match us, hl with | [_, _, _], _ => rfl
  have F_m_tilt := fun_mk (st := s_m_tilt) l_m_tilt c_m_tilt k_m_tilt
  have B_m_tilt := F_m_tilt.binds (ps := ["self", "u"]) fun _ _ _ _ _ _ us hl => match us, hl with | [_, _], _ => rfl
  have F_m_patterns := fun_mk (st := s_m_patterns) l_m_patterns c_m_patterns k_m_patterns
  have B_m_patterns := F_m_patterns.binds (ps := ["self", "u"]) fun _ _ _ _ _ _ us hl => match us, hl with | [_, _], _ => rfl
  have F_m_even := fun_mk (st := s_m_even) l_m_even c_m_even k_m_even
  have B_m_even := F_m_even.binds (ps := ["self", "u"]) fun _ _ _ _ _ _ us hl => match us, hl with | [_, _], _ => rfl
  have F_m_strength := fun_mk (st := s_m_strength) l_m_strength c_m_strength k_m_strength
  have B_m_strength := F_m_strength.binds (ps := ["self"]) fun _ _ _ _ _ _ us hl => match us, hl with | [_], _ => rfl
  have F_m_uneven := fun_mk (st := s_m_uneven) l_m_uneven c_m_uneven k_m_uneven
  have B_m_uneven := F_m_uneven.binds (ps := ["self"]) fun _ _ _ _ _ _ us hl => match us, hl with | [_], _ => rfl
  have F_f_answers := fun_mk (st := s_f_answers) l_f_answers c_f_answers k_f_answers
  have B_f_answers := F_f_answers.binds (ps := ["calls"]) fun _ _ _ _ _ _ us hl => match us, hl with | [_], _ => rfl
  have F_f_answer := fun_mk (st := s_f_answer) l_f_answer c_f_answer k_f_answer
  have B_f_answer := F_f_answer.binds (ps := ["held", "number", "told"]) fun _ _ _ _ _ _ us hl => match us, hl with | [_, _, _], _ => rfl
  have F_f_change := fun_mk (st := s_f_change) l_f_change c_f_change k_f_change
  have B_f_change := F_f_change.binds (ps := ["held", "number", "told"]) fun _ _ _ _ _ _ us hl => match us, hl with | [_, _, _], _ => rfl
  have F_f_look := fun_mk (st := s_f_look) l_f_look c_f_look k_f_look
  have B_f_look := F_f_look.binds (ps := ["held", "number", "told"]) fun _ _ _ _ _ _ us hl => match us, hl with | [_, _, _], _ => rfl
  have F_f_reckon := fun_mk (st := s_f_reckon) l_f_reckon c_f_reckon k_f_reckon
  have B_f_reckon := F_f_reckon.binds (ps := ["held", "number", "told"]) fun _ _ _ _ _ _ us hl => match us, hl with | [_, _, _], _ => rfl
  have T : Txt K mg {
    C_WordSet := C_WordSet,
    a_f_weight := a_f_weight,
    d_f_weight := PySem.W.fnOf "weight" "weight" (defArgs s_f_weight) (defBody s_f_weight) (defScope s_f_weight) .none kV_f_weight dc_f_weight pm_f_weight an_f_weight cd_f_weight ct_f_weight,
    a_f_distance := a_f_distance,
    d_f_distance := PySem.W.fnOf "distance" "distance" (defArgs s_f_distance) (defBody s_f_distance) (defScope s_f_distance) .none kV_f_distance dc_f_distance pm_f_distance an_f_distance cd_f_distance ct_f_distance,
    a_f_missing := a_f_missing,
    d_f_missing := PySem.W.fnOf "missing" "missing" (defArgs s_f_missing) (defBody s_f_missing) (defScope s_f_missing) .none kV_f_missing dc_f_missing pm_f_missing an_f_missing cd_f_missing ct_f_missing,
    a_f_exchanged := a_f_exchanged,
    d_f_exchanged := PySem.W.fnOf "exchanged" "exchanged" (defArgs s_f_exchanged) (defBody s_f_exchanged) (defScope s_f_exchanged) .none kV_f_exchanged dc_f_exchanged pm_f_exchanged an_f_exchanged cd_f_exchanged ct_f_exchanged,
    a_f_closed_up := a_f_closed_up,
    d_f_closed_up := PySem.W.fnOf "closed_up" "closed_up" (defArgs s_f_closed_up) (defBody s_f_closed_up) (defScope s_f_closed_up) .none kV_f_closed_up dc_f_closed_up pm_f_closed_up an_f_closed_up cd_f_closed_up ct_f_closed_up,
    a_f_distances := a_f_distances,
    d_f_distances := PySem.W.fnOf "distances" "distances" (defArgs s_f_distances) (defBody s_f_distances) (defScope s_f_distances) .none kV_f_distances dc_f_distances pm_f_distances an_f_distances cd_f_distances ct_f_distances,
    a_f_least_distance := a_f_least_distance,
    d_f_least_distance := PySem.W.fnOf "least_distance" "least_distance" (defArgs s_f_least_distance) (defBody s_f_least_distance) (defScope s_f_least_distance) .none kV_f_least_distance dc_f_least_distance pm_f_least_distance an_f_least_distance cd_f_least_distance ct_f_least_distance,
    a_f_counts_from := a_f_counts_from,
    d_f_counts_from := PySem.W.fnOf "counts_from" "counts_from" (defArgs s_f_counts_from) (defBody s_f_counts_from) (defScope s_f_counts_from) .none kV_f_counts_from dc_f_counts_from pm_f_counts_from an_f_counts_from cd_f_counts_from ct_f_counts_from,
    a_f_counts_of_twos := a_f_counts_of_twos,
    d_f_counts_of_twos := PySem.W.fnOf "counts_of_twos" "counts_of_twos" (defArgs s_f_counts_of_twos) (defBody s_f_counts_of_twos) (defScope s_f_counts_of_twos) .none kV_f_counts_of_twos dc_f_counts_of_twos pm_f_counts_of_twos an_f_counts_of_twos cd_f_counts_of_twos ct_f_counts_of_twos,
    a_f_sets_of := a_f_sets_of,
    d_f_sets_of := PySem.W.fnOf "sets_of" "sets_of" (defArgs s_f_sets_of) (defBody s_f_sets_of) (defScope s_f_sets_of) .none kV_f_sets_of dc_f_sets_of pm_f_sets_of an_f_sets_of cd_f_sets_of ct_f_sets_of,
    a_f_sign_of := a_f_sign_of,
    d_f_sign_of := PySem.W.fnOf "sign_of" "sign_of" (defArgs s_f_sign_of) (defBody s_f_sign_of) (defScope s_f_sign_of) .none kV_f_sign_of dc_f_sign_of pm_f_sign_of an_f_sign_of cd_f_sign_of ct_f_sign_of,
    a_f_sign_sum := a_f_sign_sum,
    d_f_sign_sum := PySem.W.fnOf "sign_sum" "sign_sum" (defArgs s_f_sign_sum) (defBody s_f_sign_sum) (defScope s_f_sign_sum) .none kV_f_sign_sum dc_f_sign_sum pm_f_sign_sum an_f_sign_sum cd_f_sign_sum ct_f_sign_sum,
    a_f_kth_sum := a_f_kth_sum,
    d_f_kth_sum := PySem.W.fnOf "kth_sum" "kth_sum" (defArgs s_f_kth_sum) (defBody s_f_kth_sum) (defScope s_f_kth_sum) .none kV_f_kth_sum dc_f_kth_sum pm_f_kth_sum an_f_kth_sum cd_f_kth_sum ct_f_kth_sum,
    a_f_tilt_of := a_f_tilt_of,
    d_f_tilt_of := PySem.W.fnOf "tilt_of" "tilt_of" (defArgs s_f_tilt_of) (defBody s_f_tilt_of) (defScope s_f_tilt_of) .none kV_f_tilt_of dc_f_tilt_of pm_f_tilt_of an_f_tilt_of cd_f_tilt_of ct_f_tilt_of,
    a_f_patterns_on := a_f_patterns_on,
    d_f_patterns_on := PySem.W.fnOf "patterns_on" "patterns_on" (defArgs s_f_patterns_on) (defBody s_f_patterns_on) (defScope s_f_patterns_on) .none kV_f_patterns_on dc_f_patterns_on pm_f_patterns_on an_f_patterns_on cd_f_patterns_on ct_f_patterns_on,
    a_f_pattern_counts := a_f_pattern_counts,
    d_f_pattern_counts := PySem.W.fnOf "pattern_counts" "pattern_counts" (defArgs s_f_pattern_counts) (defBody s_f_pattern_counts) (defScope s_f_pattern_counts) .none kV_f_pattern_counts dc_f_pattern_counts pm_f_pattern_counts an_f_pattern_counts cd_f_pattern_counts ct_f_pattern_counts,
    a_f_is_even := a_f_is_even,
    d_f_is_even := PySem.W.fnOf "is_even" "is_even" (defArgs s_f_is_even) (defBody s_f_is_even) (defScope s_f_is_even) .none kV_f_is_even dc_f_is_even pm_f_is_even an_f_is_even cd_f_is_even ct_f_is_even,
    a_f_first_uneven := a_f_first_uneven,
    d_f_first_uneven := PySem.W.fnOf "first_uneven" "first_uneven" (defArgs s_f_first_uneven) (defBody s_f_first_uneven) (defScope s_f_first_uneven) .none kV_f_first_uneven dc_f_first_uneven pm_f_first_uneven an_f_first_uneven cd_f_first_uneven ct_f_first_uneven,
    a_m_init := a_m_init,
    d_m_init := PySem.W.fnOf "__init__" "WordSet.__init__" (defArgs s_m_init) (defBody s_m_init) (defScope s_m_init) .none kV_m_init dc_m_init pm_m_init an_m_init cd_m_init ct_m_init,
    a_m_is_begun := a_m_is_begun,
    d_m_is_begun := PySem.W.fnOf "is_begun" "WordSet.is_begun" (defArgs s_m_is_begun) (defBody s_m_is_begun) (defScope s_m_is_begun) .none kV_m_is_begun dc_m_is_begun pm_m_is_begun an_m_is_begun cd_m_is_begun ct_m_is_begun,
    a_m_fits := a_m_fits,
    d_m_fits := PySem.W.fnOf "fits" "WordSet.fits" (defArgs s_m_fits) (defBody s_m_fits) (defScope s_m_fits) .none kV_m_fits dc_m_fits pm_m_fits an_m_fits cd_m_fits ct_m_fits,
    a_m_begin := a_m_begin,
    d_m_begin := PySem.W.fnOf "begin" "WordSet.begin" (defArgs s_m_begin) (defBody s_m_begin) (defScope s_m_begin) .none kV_m_begin dc_m_begin pm_m_begin an_m_begin cd_m_begin ct_m_begin,
    a_m_put := a_m_put,
    d_m_put := PySem.W.fnOf "put" "WordSet.put" (defArgs s_m_put) (defBody s_m_put) (defScope s_m_put) .none kV_m_put dc_m_put pm_m_put an_m_put cd_m_put ct_m_put,
    a_m_take := a_m_take,
    d_m_take := PySem.W.fnOf "take" "WordSet.take" (defArgs s_m_take) (defBody s_m_take) (defScope s_m_take) .none kV_m_take dc_m_take pm_m_take an_m_take cd_m_take ct_m_take,
    a_m_rest := a_m_rest,
    d_m_rest := PySem.W.fnOf "rest" "WordSet.rest" (defArgs s_m_rest) (defBody s_m_rest) (defScope s_m_rest) .none kV_m_rest dc_m_rest pm_m_rest an_m_rest cd_m_rest ct_m_rest,
    a_m_move := a_m_move,
    d_m_move := PySem.W.fnOf "move" "WordSet.move" (defArgs s_m_move) (defBody s_m_move) (defScope s_m_move) .none kV_m_move dc_m_move pm_m_move an_m_move cd_m_move ct_m_move,
    a_m_swap := a_m_swap,
    d_m_swap := PySem.W.fnOf "swap" "WordSet.swap" (defArgs s_m_swap) (defBody s_m_swap) (defScope s_m_swap) .none kV_m_swap dc_m_swap pm_m_swap an_m_swap cd_m_swap ct_m_swap,
    a_m_close := a_m_close,
    d_m_close := PySem.W.fnOf "close" "WordSet.close" (defArgs s_m_close) (defBody s_m_close) (defScope s_m_close) .none kV_m_close dc_m_close pm_m_close an_m_close cd_m_close ct_m_close,
    a_m_many := a_m_many,
    d_m_many := PySem.W.fnOf "many" "WordSet.many" (defArgs s_m_many) (defBody s_m_many) (defScope s_m_many) .none kV_m_many dc_m_many pm_m_many an_m_many cd_m_many ct_m_many,
    a_m_words := a_m_words,
    d_m_words := PySem.W.fnOf "words" "WordSet.words" (defArgs s_m_words) (defBody s_m_words) (defScope s_m_words) .none kV_m_words dc_m_words pm_m_words an_m_words cd_m_words ct_m_words,
    a_m_dist := a_m_dist,
    d_m_dist := PySem.W.fnOf "dist" "WordSet.dist" (defArgs s_m_dist) (defBody s_m_dist) (defScope s_m_dist) .none kV_m_dist dc_m_dist pm_m_dist an_m_dist cd_m_dist ct_m_dist,
    a_m_off := a_m_off,
    d_m_off := PySem.W.fnOf "off" "WordSet.off" (defArgs s_m_off) (defBody s_m_off) (defScope s_m_off) .none kV_m_off dc_m_off pm_m_off an_m_off cd_m_off ct_m_off,
    a_m_least := a_m_least,
    d_m_least := PySem.W.fnOf "least" "WordSet.least" (defArgs s_m_least) (defBody s_m_least) (defScope s_m_least) .none kV_m_least dc_m_least pm_m_least an_m_least cd_m_least ct_m_least,
    a_m_farthest := a_m_farthest,
    d_m_farthest := PySem.W.fnOf "farthest" "WordSet.farthest" (defArgs s_m_farthest) (defBody s_m_farthest) (defScope s_m_farthest) .none kV_m_farthest dc_m_farthest pm_m_farthest an_m_farthest cd_m_farthest ct_m_farthest,
    a_m_alike := a_m_alike,
    d_m_alike := PySem.W.fnOf "alike" "WordSet.alike" (defArgs s_m_alike) (defBody s_m_alike) (defScope s_m_alike) .none kV_m_alike dc_m_alike pm_m_alike an_m_alike cd_m_alike ct_m_alike,
    a_m_closed := a_m_closed,
    d_m_closed := PySem.W.fnOf "closed" "WordSet.closed" (defArgs s_m_closed) (defBody s_m_closed) (defScope s_m_closed) .none kV_m_closed dc_m_closed pm_m_closed an_m_closed cd_m_closed ct_m_closed,
    a_m_twos := a_m_twos,
    d_m_twos := PySem.W.fnOf "twos" "WordSet.twos" (defArgs s_m_twos) (defBody s_m_twos) (defScope s_m_twos) .none kV_m_twos dc_m_twos pm_m_twos an_m_twos cd_m_twos ct_m_twos,
    a_m_sums := a_m_sums,
    d_m_sums := PySem.W.fnOf "sums" "WordSet.sums" (defArgs s_m_sums) (defBody s_m_sums) (defScope s_m_sums) .none kV_m_sums dc_m_sums pm_m_sums an_m_sums cd_m_sums ct_m_sums,
    a_m_sign := a_m_sign,
    d_m_sign := PySem.W.fnOf "sign" "WordSet.sign" (defArgs s_m_sign) (defBody s_m_sign) (defScope s_m_sign) .none kV_m_sign dc_m_sign pm_m_sign an_m_sign cd_m_sign ct_m_sign,
    a_m_tilt := a_m_tilt,
    d_m_tilt := PySem.W.fnOf "tilt" "WordSet.tilt" (defArgs s_m_tilt) (defBody s_m_tilt) (defScope s_m_tilt) .none kV_m_tilt dc_m_tilt pm_m_tilt an_m_tilt cd_m_tilt ct_m_tilt,
    a_m_patterns := a_m_patterns,
    d_m_patterns := PySem.W.fnOf "patterns" "WordSet.patterns" (defArgs s_m_patterns) (defBody s_m_patterns) (defScope s_m_patterns) .none kV_m_patterns dc_m_patterns pm_m_patterns an_m_patterns cd_m_patterns ct_m_patterns,
    a_m_even := a_m_even,
    d_m_even := PySem.W.fnOf "even" "WordSet.even" (defArgs s_m_even) (defBody s_m_even) (defScope s_m_even) .none kV_m_even dc_m_even pm_m_even an_m_even cd_m_even ct_m_even,
    a_m_strength := a_m_strength,
    d_m_strength := PySem.W.fnOf "strength" "WordSet.strength" (defArgs s_m_strength) (defBody s_m_strength) (defScope s_m_strength) .none kV_m_strength dc_m_strength pm_m_strength an_m_strength cd_m_strength ct_m_strength,
    a_m_uneven := a_m_uneven,
    d_m_uneven := PySem.W.fnOf "uneven" "WordSet.uneven" (defArgs s_m_uneven) (defBody s_m_uneven) (defScope s_m_uneven) .none kV_m_uneven dc_m_uneven pm_m_uneven an_m_uneven cd_m_uneven ct_m_uneven,
    a_f_answers := fa,
    d_f_answers := PySem.W.fnOf "answers" "answers" (defArgs s_f_answers) (defBody s_f_answers) (defScope s_f_answers) .none kV_f_answers dc_f_answers pm_f_answers an_f_answers cd_f_answers ct_f_answers,
    a_f_answer := a_f_answer,
    d_f_answer := PySem.W.fnOf "answer" "answer" (defArgs s_f_answer) (defBody s_f_answer) (defScope s_f_answer) .none kV_f_answer dc_f_answer pm_f_answer an_f_answer cd_f_answer ct_f_answer,
    a_f_change := a_f_change,
    d_f_change := PySem.W.fnOf "change" "change" (defArgs s_f_change) (defBody s_f_change) (defScope s_f_change) .none kV_f_change dc_f_change pm_f_change an_f_change cd_f_change ct_f_change,
    a_f_look := a_f_look,
    d_f_look := PySem.W.fnOf "look" "look" (defArgs s_f_look) (defBody s_f_look) (defScope s_f_look) .none kV_f_look dc_f_look pm_f_look an_f_look cd_f_look ct_f_look,
    a_f_reckon := a_f_reckon,
    d_f_reckon := PySem.W.fnOf "reckon" "reckon" (defArgs s_f_reckon) (defBody s_f_reckon) (defScope s_f_reckon) .none kV_f_reckon dc_f_reckon pm_f_reckon an_f_reckon cd_f_reckon ct_f_reckon,
    t_TOLD := t_TOLD } := {
    n_len := PySem.W.mg_none_of X G z_len,
    n_max := PySem.W.mg_none_of X G z_max,
    n_min := PySem.W.mg_none_of X G z_min,
    n_range := PySem.W.mg_none_of X G z_range,
    n_sorted := PySem.W.mg_none_of X G z_sorted,
    n_sum := PySem.W.mg_none_of X G z_sum,
    c_MOST_BITS := ⟨_, PySem.W.mg_of X G g_MOST_BITS⟩,
    c_NOT_THERE := ⟨_, PySem.W.mg_of X G g_NOT_THERE⟩,
    c_NO_WORDS := ⟨_, PySem.W.mg_of X G g_NO_WORDS⟩,
    c_ALREADY_THERE := ⟨_, PySem.W.mg_of X G g_ALREADY_THERE⟩,
    c_DOES_NOT_FIT := ⟨_, PySem.W.mg_of X G g_DOES_NOT_FIT⟩,
    c_NOT_TWO_WORDS := ⟨_, PySem.W.mg_of X G g_NOT_TWO_WORDS⟩,
    c_EVEN_EVERYWHERE := ⟨_, PySem.W.mg_of X G g_EVEN_EVERYWHERE⟩,
    c_BEGIN := ⟨_, PySem.W.mg_of X G g_BEGIN⟩,
    c_PUT := ⟨_, PySem.W.mg_of X G g_PUT⟩,
    c_TAKE := ⟨_, PySem.W.mg_of X G g_TAKE⟩,
    c_REST := ⟨_, PySem.W.mg_of X G g_REST⟩,
    c_MOVE := ⟨_, PySem.W.mg_of X G g_MOVE⟩,
    c_SWAP := ⟨_, PySem.W.mg_of X G g_SWAP⟩,
    c_CLOSE := ⟨_, PySem.W.mg_of X G g_CLOSE⟩,
    c_MANY := ⟨_, PySem.W.mg_of X G g_MANY⟩,
    c_WORDS := ⟨_, PySem.W.mg_of X G g_WORDS⟩,
    c_DIST := ⟨_, PySem.W.mg_of X G g_DIST⟩,
    c_OFF := ⟨_, PySem.W.mg_of X G g_OFF⟩,
    c_LEAST := ⟨_, PySem.W.mg_of X G g_LEAST⟩,
    c_TWOS := ⟨_, PySem.W.mg_of X G g_TWOS⟩,
    c_SUMS := ⟨_, PySem.W.mg_of X G g_SUMS⟩,
    c_SIGN := ⟨_, PySem.W.mg_of X G g_SIGN⟩,
    c_TILT := ⟨_, PySem.W.mg_of X G g_TILT⟩,
    c_PATTERNS := ⟨_, PySem.W.mg_of X G g_PATTERNS⟩,
    c_EVEN := ⟨_, PySem.W.mg_of X G g_EVEN⟩,
    c_STRENGTH := ⟨_, PySem.W.mg_of X G g_STRENGTH⟩,
    c_UNEVEN := ⟨_, PySem.W.mg_of X G g_UNEVEN⟩,
    c_CLOSED := ⟨_, PySem.W.mg_of X G g_CLOSED⟩,
    c_FARTHEST := ⟨_, PySem.W.mg_of X G g_FARTHEST⟩,
    c_TOLD := PySem.W.mg_of X G g_TOLD,
    u_TOLD := fun H => Or.inr ⟨_, its_TOLD, m_TOLD, lt_TOLD, rfl, rfl, zt_TOLD, vt_TOLD⟩,
    c_NOT_BEGUN := ⟨_, PySem.W.mg_of X G g_NOT_BEGUN⟩,
    cl_WordSet := ⟨pg_WordSet, hd_WordSet, po_WordSet, sa_WordSet⟩,
    g_WordSet := PySem.W.mg_of X G aC_WordSet,
    mk_WordSet := ⟨mk_WordSet, n_m_init, i_m_init, kc_WordSet⟩,
    nf_bits := nf_bits,
    nf_there := nf_there,
    f_weight := F_f_weight,
    b_f_weight := B_f_weight,
    g_f_weight := PySem.W.mg_of X G n_f_weight,
    f_distance := F_f_distance,
    b_f_distance := B_f_distance,
    g_f_distance := PySem.W.mg_of X G n_f_distance,
    f_missing := F_f_missing,
    b_f_missing := B_f_missing,
    g_f_missing := PySem.W.mg_of X G n_f_missing,
    f_exchanged := F_f_exchanged,
    b_f_exchanged := B_f_exchanged,
    g_f_exchanged := PySem.W.mg_of X G n_f_exchanged,
    f_closed_up := F_f_closed_up,
    b_f_closed_up := B_f_closed_up,
    g_f_closed_up := PySem.W.mg_of X G n_f_closed_up,
    f_distances := F_f_distances,
    b_f_distances := B_f_distances,
    g_f_distances := PySem.W.mg_of X G n_f_distances,
    f_least_distance := F_f_least_distance,
    b_f_least_distance := B_f_least_distance,
    g_f_least_distance := PySem.W.mg_of X G n_f_least_distance,
    f_counts_from := F_f_counts_from,
    b_f_counts_from := B_f_counts_from,
    g_f_counts_from := PySem.W.mg_of X G n_f_counts_from,
    f_counts_of_twos := F_f_counts_of_twos,
    b_f_counts_of_twos := B_f_counts_of_twos,
    g_f_counts_of_twos := PySem.W.mg_of X G n_f_counts_of_twos,
    f_sets_of := F_f_sets_of,
    b_f_sets_of := B_f_sets_of,
    g_f_sets_of := PySem.W.mg_of X G n_f_sets_of,
    f_sign_of := F_f_sign_of,
    b_f_sign_of := B_f_sign_of,
    g_f_sign_of := PySem.W.mg_of X G n_f_sign_of,
    f_sign_sum := F_f_sign_sum,
    b_f_sign_sum := B_f_sign_sum,
    g_f_sign_sum := PySem.W.mg_of X G n_f_sign_sum,
    f_kth_sum := F_f_kth_sum,
    b_f_kth_sum := B_f_kth_sum,
    g_f_kth_sum := PySem.W.mg_of X G n_f_kth_sum,
    f_tilt_of := F_f_tilt_of,
    b_f_tilt_of := B_f_tilt_of,
    g_f_tilt_of := PySem.W.mg_of X G n_f_tilt_of,
    f_patterns_on := F_f_patterns_on,
    b_f_patterns_on := B_f_patterns_on,
    g_f_patterns_on := PySem.W.mg_of X G n_f_patterns_on,
    f_pattern_counts := F_f_pattern_counts,
    b_f_pattern_counts := B_f_pattern_counts,
    g_f_pattern_counts := PySem.W.mg_of X G n_f_pattern_counts,
    f_is_even := F_f_is_even,
    b_f_is_even := B_f_is_even,
    g_f_is_even := PySem.W.mg_of X G n_f_is_even,
    f_first_uneven := F_f_first_uneven,
    b_f_first_uneven := B_f_first_uneven,
    g_f_first_uneven := PySem.W.mg_of X G n_f_first_uneven,
    m_init := F_m_init,
    b_m_init := B_m_init,
    m_is_begun := F_m_is_begun,
    b_m_is_begun := B_m_is_begun,
    mt_m_is_begun := ⟨n_m_is_begun, i_m_is_begun, k_m_is_begun⟩,
    m_fits := F_m_fits,
    b_m_fits := B_m_fits,
    mt_m_fits := ⟨n_m_fits, i_m_fits, k_m_fits⟩,
    m_begin := F_m_begin,
    b_m_begin := B_m_begin,
    mt_m_begin := ⟨n_m_begin, i_m_begin, k_m_begin⟩,
    m_put := F_m_put,
    b_m_put := B_m_put,
    mt_m_put := ⟨n_m_put, i_m_put, k_m_put⟩,
    m_take := F_m_take,
    b_m_take := B_m_take,
    mt_m_take := ⟨n_m_take, i_m_take, k_m_take⟩,
    m_rest := F_m_rest,
    b_m_rest := B_m_rest,
    mt_m_rest := ⟨n_m_rest, i_m_rest, k_m_rest⟩,
    m_move := F_m_move,
    b_m_move := B_m_move,
    mt_m_move := ⟨n_m_move, i_m_move, k_m_move⟩,
    m_swap := F_m_swap,
    b_m_swap := B_m_swap,
    mt_m_swap := ⟨n_m_swap, i_m_swap, k_m_swap⟩,
    m_close := F_m_close,
    b_m_close := B_m_close,
    mt_m_close := ⟨n_m_close, i_m_close, k_m_close⟩,
    m_many := F_m_many,
    b_m_many := B_m_many,
    mt_m_many := ⟨n_m_many, i_m_many, k_m_many⟩,
    m_words := F_m_words,
    b_m_words := B_m_words,
    mt_m_words := ⟨n_m_words, i_m_words, k_m_words⟩,
    m_dist := F_m_dist,
    b_m_dist := B_m_dist,
    mt_m_dist := ⟨n_m_dist, i_m_dist, k_m_dist⟩,
    m_off := F_m_off,
    b_m_off := B_m_off,
    mt_m_off := ⟨n_m_off, i_m_off, k_m_off⟩,
    m_least := F_m_least,
    b_m_least := B_m_least,
    mt_m_least := ⟨n_m_least, i_m_least, k_m_least⟩,
    m_farthest := F_m_farthest,
    b_m_farthest := B_m_farthest,
    mt_m_farthest := ⟨n_m_farthest, i_m_farthest, k_m_farthest⟩,
    m_alike := F_m_alike,
    b_m_alike := B_m_alike,
    mt_m_alike := ⟨n_m_alike, i_m_alike, k_m_alike⟩,
    m_closed := F_m_closed,
    b_m_closed := B_m_closed,
    mt_m_closed := ⟨n_m_closed, i_m_closed, k_m_closed⟩,
    m_twos := F_m_twos,
    b_m_twos := B_m_twos,
    mt_m_twos := ⟨n_m_twos, i_m_twos, k_m_twos⟩,
    m_sums := F_m_sums,
    b_m_sums := B_m_sums,
    mt_m_sums := ⟨n_m_sums, i_m_sums, k_m_sums⟩,
    m_sign := F_m_sign,
    b_m_sign := B_m_sign,
    mt_m_sign := ⟨n_m_sign, i_m_sign, k_m_sign⟩,
    m_tilt := F_m_tilt,
    b_m_tilt := B_m_tilt,
    mt_m_tilt := ⟨n_m_tilt, i_m_tilt, k_m_tilt⟩,
    m_patterns := F_m_patterns,
    b_m_patterns := B_m_patterns,
    mt_m_patterns := ⟨n_m_patterns, i_m_patterns, k_m_patterns⟩,
    m_even := F_m_even,
    b_m_even := B_m_even,
    mt_m_even := ⟨n_m_even, i_m_even, k_m_even⟩,
    m_strength := F_m_strength,
    b_m_strength := B_m_strength,
    mt_m_strength := ⟨n_m_strength, i_m_strength, k_m_strength⟩,
    m_uneven := F_m_uneven,
    b_m_uneven := B_m_uneven,
    mt_m_uneven := ⟨n_m_uneven, i_m_uneven, k_m_uneven⟩,
    f_answers := F_f_answers,
    b_f_answers := B_f_answers,
    g_f_answers := PySem.W.mg_of X G n_f_answers,
    f_answer := F_f_answer,
    b_f_answer := B_f_answer,
    g_f_answer := PySem.W.mg_of X G n_f_answer,
    f_change := F_f_change,
    b_f_change := B_f_change,
    g_f_change := PySem.W.mg_of X G n_f_change,
    f_look := F_f_look,
    b_f_look := B_f_look,
    g_f_look := PySem.W.mg_of X G n_f_look,
    f_reckon := F_f_reckon,
    b_f_reckon := B_f_reckon,
    g_f_reckon := PySem.W.mg_of X G n_f_reckon }
  exact ⟨_, fun s us hu => match us, hu with | [_], _ => .of_eq rfl, fun base _ _ => ok_f_answers T⟩
end Fw
open PySem PySem.W PyProof.Rows
set_option maxRecDepth 100000 in
set_option maxHeartbeats 8000000 in
theorem PySem.Challenge.cw_farwords_s01_answers_holds : PySem.Challenge.rw_farwords_s01_answers.Holds := by
  w_on; k_headS; (case hw => exact ⟨[.list [.int 7]], by decide +kernel, by decide +kernel⟩)
  k_fillS
  refine L2.walk_specK (r := PySem.Challenge.rw_farwords_s01_answers) (k := 8) (CX := L2.CX0) (ps := ["calls"]) (sp := Fw.sp_f_answers) (by decide +kernel) rfl rfl ⟨rfl, by decide, by decide⟩ (fun w h Y => PySem.W.kIn_of Y) ?F ?S (fun _ _ _ _ z => z)
  case F =>
    intro w mg fa h Y KX G hmg
    refine' Fw.all_mk KX G hmg ?aC_WordSet ?n_f_weight ?l_f_weight ?c_f_weight ?k_f_weight ?n_f_distance ?l_f_distance ?c_f_distance ?k_f_distance ?n_f_missing ?l_f_missing ?c_f_missing ?k_f_missing ?n_f_exchanged ?l_f_exchanged ?c_f_exchanged ?k_f_exchanged ?n_f_closed_up ?l_f_closed_up ?c_f_closed_up ?k_f_closed_up ?n_f_distances ?l_f_distances ?c_f_distances ?k_f_distances ?n_f_least_distance ?l_f_least_distance ?c_f_least_distance ?k_f_least_distance ?n_f_counts_from ?l_f_counts_from ?c_f_counts_from ?k_f_counts_from ?n_f_counts_of_twos ?l_f_counts_of_twos ?c_f_counts_of_twos ?k_f_counts_of_twos ?n_f_sets_of ?l_f_sets_of ?c_f_sets_of ?k_f_sets_of ?n_f_sign_of ?l_f_sign_of ?c_f_sign_of ?k_f_sign_of ?n_f_sign_sum ?l_f_sign_sum ?c_f_sign_sum ?k_f_sign_sum ?n_f_kth_sum ?l_f_kth_sum ?c_f_kth_sum ?k_f_kth_sum ?n_f_tilt_of ?l_f_tilt_of ?c_f_tilt_of ?k_f_tilt_of ?n_f_patterns_on ?l_f_patterns_on ?c_f_patterns_on ?k_f_patterns_on ?n_f_pattern_counts ?l_f_pattern_counts ?c_f_pattern_counts ?k_f_pattern_counts ?n_f_is_even ?l_f_is_even ?c_f_is_even ?k_f_is_even ?n_f_first_uneven ?l_f_first_uneven ?c_f_first_uneven ?k_f_first_uneven ?n_m_init ?i_m_init ?l_m_init ?c_m_init ?k_m_init ?n_m_is_begun ?i_m_is_begun ?l_m_is_begun ?c_m_is_begun ?k_m_is_begun ?n_m_fits ?i_m_fits ?l_m_fits ?c_m_fits ?k_m_fits ?n_m_begin ?i_m_begin ?l_m_begin ?c_m_begin ?k_m_begin ?n_m_put ?i_m_put ?l_m_put ?c_m_put ?k_m_put ?n_m_take ?i_m_take ?l_m_take ?c_m_take ?k_m_take ?n_m_rest ?i_m_rest ?l_m_rest ?c_m_rest ?k_m_rest ?n_m_move ?i_m_move ?l_m_move ?c_m_move ?k_m_move ?n_m_swap ?i_m_swap ?l_m_swap ?c_m_swap ?k_m_swap ?n_m_close ?i_m_close ?l_m_close ?c_m_close ?k_m_close ?n_m_many ?i_m_many ?l_m_many ?c_m_many ?k_m_many ?n_m_words ?i_m_words ?l_m_words ?c_m_words ?k_m_words ?n_m_dist ?i_m_dist ?l_m_dist ?c_m_dist ?k_m_dist ?n_m_off ?i_m_off ?l_m_off ?c_m_off ?k_m_off ?n_m_least ?i_m_least ?l_m_least ?c_m_least ?k_m_least ?n_m_farthest ?i_m_farthest ?l_m_farthest ?c_m_farthest ?k_m_farthest ?n_m_alike ?i_m_alike ?l_m_alike ?c_m_alike ?k_m_alike ?n_m_closed ?i_m_closed ?l_m_closed ?c_m_closed ?k_m_closed ?n_m_twos ?i_m_twos ?l_m_twos ?c_m_twos ?k_m_twos ?n_m_sums ?i_m_sums ?l_m_sums ?c_m_sums ?k_m_sums ?n_m_sign ?i_m_sign ?l_m_sign ?c_m_sign ?k_m_sign ?n_m_tilt ?i_m_tilt ?l_m_tilt ?c_m_tilt ?k_m_tilt ?n_m_patterns ?i_m_patterns ?l_m_patterns ?c_m_patterns ?k_m_patterns ?n_m_even ?i_m_even ?l_m_even ?c_m_even ?k_m_even ?n_m_strength ?i_m_strength ?l_m_strength ?c_m_strength ?k_m_strength ?n_m_uneven ?i_m_uneven ?l_m_uneven ?c_m_uneven ?k_m_uneven ?n_f_answers ?l_f_answers ?c_f_answers ?k_f_answers ?n_f_answer ?l_f_answer ?c_f_answer ?k_f_answer ?n_f_change ?l_f_change ?c_f_change ?k_f_change ?n_f_look ?l_f_look ?c_f_look ?k_f_look ?n_f_reckon ?l_f_reckon ?c_f_reckon ?k_f_reckon ?pg_WordSet ?hd_WordSet ?po_WordSet ?sa_WordSet ?mk_WordSet ?kc_WordSet ?nf_bits ?nf_there ?z_len ?z_max ?z_min ?z_range ?z_sorted ?z_sum ?g_MOST_BITS ?g_NOT_THERE ?g_NO_WORDS ?g_ALREADY_THERE ?g_DOES_NOT_FIT ?g_NOT_TWO_WORDS ?g_EVEN_EVERYWHERE ?g_BEGIN ?g_PUT ?g_TAKE ?g_REST ?g_MOVE ?g_SWAP ?g_CLOSE ?g_MANY ?g_WORDS ?g_DIST ?g_OFF ?g_LEAST ?g_TWOS ?g_SUMS ?g_SIGN ?g_TILT ?g_PATTERNS ?g_EVEN ?g_STRENGTH ?g_UNEVEN ?g_CLOSED ?g_FARTHEST ?g_TOLD ?lt_TOLD ?zt_TOLD ?vt_TOLD ?g_NOT_BEGUN
    (case aC_WordSet => k_is)
    (case n_f_weight => k_is)
    (case l_f_weight => k_is)
    (case c_f_weight => k_is)
    (case k_f_weight => k_is)
    (case n_f_distance => k_is)
    (case l_f_distance => k_is)
    (case c_f_distance => k_is)
    (case k_f_distance => k_is)
    (case n_f_missing => k_is)
    (case l_f_missing => k_is)
    (case c_f_missing => k_is)
    (case k_f_missing => k_is)
    (case n_f_exchanged => k_is)
    (case l_f_exchanged => k_is)
    (case c_f_exchanged => k_is)
    (case k_f_exchanged => k_is)
    (case n_f_closed_up => k_is)
    (case l_f_closed_up => k_is)
    (case c_f_closed_up => k_is)
    (case k_f_closed_up => k_is)
    (case n_f_distances => k_is)
    (case l_f_distances => k_is)
    (case c_f_distances => k_is)
    (case k_f_distances => k_is)
    (case n_f_least_distance => k_is)
    (case l_f_least_distance => k_is)
    (case c_f_least_distance => k_is)
    (case k_f_least_distance => k_is)
    (case n_f_counts_from => k_is)
    (case l_f_counts_from => k_is)
    (case c_f_counts_from => k_is)
    (case k_f_counts_from => k_is)
    (case n_f_counts_of_twos => k_is)
    (case l_f_counts_of_twos => k_is)
    (case c_f_counts_of_twos => k_is)
    (case k_f_counts_of_twos => k_is)
    (case n_f_sets_of => k_is)
    (case l_f_sets_of => k_is)
    (case c_f_sets_of => k_is)
    (case k_f_sets_of => k_is)
    (case n_f_sign_of => k_is)
    (case l_f_sign_of => k_is)
    (case c_f_sign_of => k_is)
    (case k_f_sign_of => k_is)
    (case n_f_sign_sum => k_is)
    (case l_f_sign_sum => k_is)
    (case c_f_sign_sum => k_is)
    (case k_f_sign_sum => k_is)
    (case n_f_kth_sum => k_is)
    (case l_f_kth_sum => k_is)
    (case c_f_kth_sum => k_is)
    (case k_f_kth_sum => k_is)
    (case n_f_tilt_of => k_is)
    (case l_f_tilt_of => k_is)
    (case c_f_tilt_of => k_is)
    (case k_f_tilt_of => k_is)
    (case n_f_patterns_on => k_is)
    (case l_f_patterns_on => k_is)
    (case c_f_patterns_on => k_is)
    (case k_f_patterns_on => k_is)
    (case n_f_pattern_counts => k_is)
    (case l_f_pattern_counts => k_is)
    (case c_f_pattern_counts => k_is)
    (case k_f_pattern_counts => k_is)
    (case n_f_is_even => k_is)
    (case l_f_is_even => k_is)
    (case c_f_is_even => k_is)
    (case k_f_is_even => k_is)
    (case n_f_first_uneven => k_is)
    (case l_f_first_uneven => k_is)
    (case c_f_first_uneven => k_is)
    (case k_f_first_uneven => k_is)
    (case n_m_init => k_is)
    (case i_m_init => k_is)
    (case l_m_init => k_is)
    (case c_m_init => k_is)
    (case k_m_init => k_is)
    (case n_m_is_begun => k_is)
    (case i_m_is_begun => k_is)
    (case l_m_is_begun => k_is)
    (case c_m_is_begun => k_is)
    (case k_m_is_begun => k_is)
    (case n_m_fits => k_is)
    (case i_m_fits => k_is)
    (case l_m_fits => k_is)
    (case c_m_fits => k_is)
    (case k_m_fits => k_is)
    (case n_m_begin => k_is)
    (case i_m_begin => k_is)
    (case l_m_begin => k_is)
    (case c_m_begin => k_is)
    (case k_m_begin => k_is)
    (case n_m_put => k_is)
    (case i_m_put => k_is)
    (case l_m_put => k_is)
    (case c_m_put => k_is)
    (case k_m_put => k_is)
    (case n_m_take => k_is)
    (case i_m_take => k_is)
    (case l_m_take => k_is)
    (case c_m_take => k_is)
    (case k_m_take => k_is)
    (case n_m_rest => k_is)
    (case i_m_rest => k_is)
    (case l_m_rest => k_is)
    (case c_m_rest => k_is)
    (case k_m_rest => k_is)
    (case n_m_move => k_is)
    (case i_m_move => k_is)
    (case l_m_move => k_is)
    (case c_m_move => k_is)
    (case k_m_move => k_is)
    (case n_m_swap => k_is)
    (case i_m_swap => k_is)
    (case l_m_swap => k_is)
    (case c_m_swap => k_is)
    (case k_m_swap => k_is)
    (case n_m_close => k_is)
    (case i_m_close => k_is)
    (case l_m_close => k_is)
    (case c_m_close => k_is)
    (case k_m_close => k_is)
    (case n_m_many => k_is)
    (case i_m_many => k_is)
    (case l_m_many => k_is)
    (case c_m_many => k_is)
    (case k_m_many => k_is)
    (case n_m_words => k_is)
    (case i_m_words => k_is)
    (case l_m_words => k_is)
    (case c_m_words => k_is)
    (case k_m_words => k_is)
    (case n_m_dist => k_is)
    (case i_m_dist => k_is)
    (case l_m_dist => k_is)
    (case c_m_dist => k_is)
    (case k_m_dist => k_is)
    (case n_m_off => k_is)
    (case i_m_off => k_is)
    (case l_m_off => k_is)
    (case c_m_off => k_is)
    (case k_m_off => k_is)
    (case n_m_least => k_is)
    (case i_m_least => k_is)
    (case l_m_least => k_is)
    (case c_m_least => k_is)
    (case k_m_least => k_is)
    (case n_m_farthest => k_is)
    (case i_m_farthest => k_is)
    (case l_m_farthest => k_is)
    (case c_m_farthest => k_is)
    (case k_m_farthest => k_is)
    (case n_m_alike => k_is)
    (case i_m_alike => k_is)
    (case l_m_alike => k_is)
    (case c_m_alike => k_is)
    (case k_m_alike => k_is)
    (case n_m_closed => k_is)
    (case i_m_closed => k_is)
    (case l_m_closed => k_is)
    (case c_m_closed => k_is)
    (case k_m_closed => k_is)
    (case n_m_twos => k_is)
    (case i_m_twos => k_is)
    (case l_m_twos => k_is)
    (case c_m_twos => k_is)
    (case k_m_twos => k_is)
    (case n_m_sums => k_is)
    (case i_m_sums => k_is)
    (case l_m_sums => k_is)
    (case c_m_sums => k_is)
    (case k_m_sums => k_is)
    (case n_m_sign => k_is)
    (case i_m_sign => k_is)
    (case l_m_sign => k_is)
    (case c_m_sign => k_is)
    (case k_m_sign => k_is)
    (case n_m_tilt => k_is)
    (case i_m_tilt => k_is)
    (case l_m_tilt => k_is)
    (case c_m_tilt => k_is)
    (case k_m_tilt => k_is)
    (case n_m_patterns => k_is)
    (case i_m_patterns => k_is)
    (case l_m_patterns => k_is)
    (case c_m_patterns => k_is)
    (case k_m_patterns => k_is)
    (case n_m_even => k_is)
    (case i_m_even => k_is)
    (case l_m_even => k_is)
    (case c_m_even => k_is)
    (case k_m_even => k_is)
    (case n_m_strength => k_is)
    (case i_m_strength => k_is)
    (case l_m_strength => k_is)
    (case c_m_strength => k_is)
    (case k_m_strength => k_is)
    (case n_m_uneven => k_is)
    (case i_m_uneven => k_is)
    (case l_m_uneven => k_is)
    (case c_m_uneven => k_is)
    (case k_m_uneven => k_is)
    (case n_f_answers => k_is)
    (case l_f_answers => k_is)
    (case c_f_answers => k_is)
    (case k_f_answers => k_is)
    (case n_f_answer => k_is)
    (case l_f_answer => k_is)
    (case c_f_answer => k_is)
    (case k_f_answer => k_is)
    (case n_f_change => k_is)
    (case l_f_change => k_is)
    (case c_f_change => k_is)
    (case k_f_change => k_is)
    (case n_f_look => k_is)
    (case l_f_look => k_is)
    (case c_f_look => k_is)
    (case k_f_look => k_is)
    (case n_f_reckon => k_is)
    (case l_f_reckon => k_is)
    (case c_f_reckon => k_is)
    (case k_f_reckon => k_is)
    (case pg_WordSet => k_is)
    (case hd_WordSet => k_is)
    (case po_WordSet => k_is)
    (case sa_WordSet => k_is)
    (case mk_WordSet => k_is)
    (case kc_WordSet => k_is)
    (case nf_bits => k_is)
    (case nf_there => k_is)
    (case z_len => k_is)
    (case z_max => k_is)
    (case z_min => k_is)
    (case z_range => k_is)
    (case z_sorted => k_is)
    (case z_sum => k_is)
    (case g_MOST_BITS => k_is)
    (case g_NOT_THERE => k_is)
    (case g_NO_WORDS => k_is)
    (case g_ALREADY_THERE => k_is)
    (case g_DOES_NOT_FIT => k_is)
    (case g_NOT_TWO_WORDS => k_is)
    (case g_EVEN_EVERYWHERE => k_is)
    (case g_BEGIN => k_is)
    (case g_PUT => k_is)
    (case g_TAKE => k_is)
    (case g_REST => k_is)
    (case g_MOVE => k_is)
    (case g_SWAP => k_is)
    (case g_CLOSE => k_is)
    (case g_MANY => k_is)
    (case g_WORDS => k_is)
    (case g_DIST => k_is)
    (case g_OFF => k_is)
    (case g_LEAST => k_is)
    (case g_TWOS => k_is)
    (case g_SUMS => k_is)
    (case g_SIGN => k_is)
    (case g_TILT => k_is)
    (case g_PATTERNS => k_is)
    (case g_EVEN => k_is)
    (case g_STRENGTH => k_is)
    (case g_UNEVEN => k_is)
    (case g_CLOSED => k_is)
    (case g_FARTHEST => k_is)
    (case g_TOLD => k_is)
    (case lt_TOLD => k_is)
    (case zt_TOLD => decide)
    (case vt_TOLD => exact (.cons ⟨_, rfl⟩ (.cons ⟨_, rfl⟩ (.cons ⟨_, rfl⟩ (.cons ⟨_, rfl⟩ (.cons ⟨_, rfl⟩ (.cons ⟨_, rfl⟩ (.cons ⟨_, rfl⟩ (.cons ⟨_, rfl⟩ (.cons ⟨_, rfl⟩ (.cons ⟨_, rfl⟩ (.cons ⟨_, rfl⟩ (.cons ⟨_, rfl⟩ (.cons ⟨_, rfl⟩ (.cons ⟨_, rfl⟩ (.cons ⟨_, rfl⟩ (.cons ⟨_, rfl⟩ (.cons ⟨_, rfl⟩ (.cons ⟨_, rfl⟩ (.cons ⟨_, rfl⟩ (.cons ⟨_, rfl⟩ (.cons ⟨_, rfl⟩ (.cons ⟨_, rfl⟩ (.cons ⟨_, rfl⟩ .nil))))))))))))))))))))))))
    (case g_NOT_BEGUN => k_is)
  case S =>
    intro K H xs a hO hwi hask hx
    cases hx with
    | cons h1 h2 =>
      cases h2
      cases h1 with
      | lst hs ha =>
        have e := L2.ints_dw a.1 _ ha
        subst e
        have q : ((Codec.inLen 0 180 a.1 && a.1.all (Codec.inInt 0 2147483647)) && true) = true := hwi
        rw [Bool.and_eq_true, Bool.and_eq_true] at q
        refine ⟨_, a.1, rfl, hs, (Codec.inNat_iff.mp q.1.1).2, hask, fun x hx => ?_, fun H' p hp => .lst (L2.SqL.of hp) (L2.dw_ints _)⟩
        have z := List.all_eq_true.mp q.1.2 x hx
        exact (Codec.inInt_iff.mp z).1
