import PyProof.Rows.All
import Wide.All
import OpenK.AllK
import Wide.FinOn
import PyProof.EqAt
import PyProof.EqKinds
import Open.SpecLaws
import KE.OsGo
import KE.OsArith
import HandS.ForSpec
import HandS.ForMost
import HandS.Walk
import HandS.WideBits
import HandS.SortInts
import HandS.More
import HandS.Evl
import PySem.Challenge.RW_noasking_s01_answers
/-! Bits: what the specification says place by place, as Lean's own bit operations. -/
namespace Na
theorem has_tb (x i : Nat) : Kh411.has x i = x.testBit i := by
  unfold Kh411.has
  rw [Nat.testBit_eq_decide_div_mod_eq]
  by_cases h : x / 2 ^ i % 2 = 1
  · simp [h]
  · simp [h]
theorem has_tb2 (x i : Nat) : Kh412.has x i = x.testBit i := has_tb x i
theorem each_succ (m : Nat) (f : Bool → Bool → Bool) (x y : Nat) :
    Kh411.each (m + 1) f x y = Kh411.each m f x y + (if f (Kh411.has x m) (Kh411.has y m) then 2 ^ m else 0) := by
  unfold Kh411.each
  rw [List.range_succ, List.foldl_append]
  rfl
theorem each_lt (f : Bool → Bool → Bool) (x y : Nat) : ∀ m, Kh411.each m f x y < 2 ^ m
  | 0 => by simp [Kh411.each]
  | m + 1 => by
    rw [each_succ, Nat.pow_succ]
    have := each_lt f x y m
    split <;> omega
theorem each_tb (f : Bool → Bool → Bool) (x y : Nat) : ∀ m i, (Kh411.each m f x y).testBit i = (decide (i < m) && f (x.testBit i) (y.testBit i))
  | 0, i => by simp [Kh411.each]
  | m + 1, i => by
    rw [each_succ, has_tb, has_tb]
    have hl := each_lt f x y m
    have ih := each_tb f x y m i
    by_cases c : f (x.testBit m) (y.testBit m) = true
    · rw [if_pos c, Nat.add_comm]
      by_cases e : i = m
      · subst e
        rw [Nat.testBit_two_pow_add_eq, Nat.testBit_lt_two_pow hl]
        simp [c]
      · by_cases l : i < m
        · rw [Nat.testBit_two_pow_add_gt l, ih]
          simp [l, Nat.lt_succ_of_lt l]
        · have g : 2 ^ m + Kh411.each m f x y < 2 ^ i := by
            have : 2 ^ (m + 1) ≤ 2 ^ i := Nat.pow_le_pow_right (by decide) (by omega)
            rw [Nat.pow_succ] at this
            omega
          rw [Nat.testBit_lt_two_pow g]
          have : ¬ i < m + 1 := by omega
          simp [this]
    · rw [if_neg c, Nat.add_zero, ih]
      by_cases e : i = m
      · subst e
        have : f (x.testBit i) (y.testBit i) = false := by simpa using c
        simp [this]
      · by_cases l : i < m
        · simp [l, Nat.lt_succ_of_lt l]
        · have : ¬ i < m + 1 := by omega
          simp [l, this]
theorem tb_lt {x m i : Nat} (h : x < 2 ^ m) : x.testBit i = (decide (i < m) && x.testBit i) := by
  by_cases l : i < m
  · simp [l]
  · have : x < 2 ^ i := Nat.lt_of_lt_of_le h (Nat.pow_le_pow_right (by decide) (by omega))
    simp [l, Nat.testBit_lt_two_pow this]
theorem join_eq {m x y : Nat} (hx : x < 2 ^ m) (hy : y < 2 ^ m) : Kh411.join m x y = x ||| y := by
  apply Nat.eq_of_testBit_eq
  intro i
  unfold Kh411.join
  rw [each_tb, Nat.testBit_or]
  by_cases l : i < m
  · simp [l]
  · rw [tb_lt hx, tb_lt hy]
    simp [l]
theorem meet_eq {m x y : Nat} (hx : x < 2 ^ m) : Kh411.meet m x y = x &&& y := by
  apply Nat.eq_of_testBit_eq
  intro i
  unfold Kh411.meet
  rw [each_tb, Nat.testBit_and]
  by_cases l : i < m
  · simp [l]
  · rw [tb_lt hx]
    simp [l]
theorem meet_eq' {m x y : Nat} (hy : y < 2 ^ m) : Kh411.meet m x y = x &&& y := by
  apply Nat.eq_of_testBit_eq
  intro i
  unfold Kh411.meet
  rw [each_tb, Nat.testBit_and]
  by_cases l : i < m
  · simp [l]
  · rw [tb_lt hy]
    simp [l]
theorem flips_eq {m x y : Nat} (hx : x < 2 ^ m) (hy : y < 2 ^ m) : Kh411.flips m x y = x ^^^ y := by
  apply Nat.eq_of_testBit_eq
  intro i
  unfold Kh411.flips
  rw [each_tb, Nat.testBit_xor]
  by_cases l : i < m
  · simp [l]
  · rw [tb_lt hx, tb_lt hy]
    simp [l]
theorem or_add : ∀ (x y : Nat), x &&& y = 0 → x ||| y = x + y := by
  intro x
  induction x using Nat.strongRecOn with
  | ind x ih =>
    intro y h
    by_cases z : x = 0
    · subst z
      simp
    · have h2 : (x &&& y) / 2 = x / 2 &&& y / 2 := Nat.and_div_two
      have o2 : (x ||| y) / 2 = x / 2 ||| y / 2 := Nat.or_div_two
      rw [h] at h2
      have i := ih (x / 2) (by omega) (y / 2) h2.symm
      have hm : (x &&& y) % 2 = (x % 2) &&& (y % 2) := Nat.and_mod_two_pow (n := 1)
      have om : (x ||| y) % 2 = (x % 2) ||| (y % 2) := Nat.or_mod_two_pow (n := 1)
      rw [h] at hm
      rw [i] at o2
      have a1 : x % 2 = 0 ∨ x % 2 = 1 := by omega
      have a2 : y % 2 = 0 ∨ y % 2 = 1 := by omega
      rcases a1 with a | a <;> rcases a2 with b | b <;> rw [a, b] at hm om
      · have om' : (x ||| y) % 2 = 0 := om
        omega
      · have om' : (x ||| y) % 2 = 1 := om
        omega
      · have om' : (x ||| y) % 2 = 1 := om
        omega
      · cases hm
/-- what the program says by (s | on) & ~off -/
def sub (x y : Nat) : Nat := x - (x &&& y)
theorem sub_add (x y : Nat) : ∀ k, x < 2 ^ k → (x &&& y) + Kh411.less k x y = x := by
  intro k h
  have e : (x &&& y) &&& Kh411.less k x y = 0 := by
    apply Nat.eq_of_testBit_eq
    intro i
    unfold Kh411.less
    rw [Nat.testBit_and, Nat.testBit_and, each_tb]
    cases x.testBit i <;> cases y.testBit i <;> simp
  have o : (x &&& y) ||| Kh411.less k x y = x := by
    apply Nat.eq_of_testBit_eq
    intro i
    unfold Kh411.less
    rw [Nat.testBit_or, Nat.testBit_and, each_tb]
    by_cases l : i < k
    · cases x.testBit i <;> cases y.testBit i <;> simp [l]
    · rw [tb_lt h]
      simp [l]
  rw [or_add _ _ e] at o
  exact o
theorem less_eq {m x y : Nat} (hx : x < 2 ^ m) : Kh411.less m x y = sub x y := by
  have := sub_add x y m hx
  unfold sub
  omega
theorem sub_tb (x y i : Nat) : (sub x y).testBit i = (x.testBit i && !y.testBit i) := by
  have h : x < 2 ^ x := Nat.lt_two_pow_self
  rw [← less_eq h]
  unfold Kh411.less
  rw [each_tb]
  by_cases l : i < x
  · simp [l]
  · have := tb_lt (i := i) h
    rw [this]
    simp [l]
theorem join2_eq {m x y : Nat} (hx : x < 2 ^ m) (hy : y < 2 ^ m) : Kh412.join m x y = x ||| y := join_eq hx hy
theorem meet2_eq {m x y : Nat} (hx : x < 2 ^ m) : Kh412.meet m x y = x &&& y := meet_eq hx
theorem flips_lt (m x y : Nat) : Kh411.flips m x y < 2 ^ m := each_lt _ _ _ _
theorem join_lt (m x y : Nat) : Kh411.join m x y < 2 ^ m := each_lt _ _ _ _
theorem meet_lt (m x y : Nat) : Kh411.meet m x y < 2 ^ m := each_lt _ _ _ _
end Na

/-! To what a copy may come: the specification's rounds are the least closed set; lists in order with the same members are one. -/
namespace Na
open Kh411 (Abs Deed)
theorem sorted_ext : ∀ {l r : List Nat}, l.Pairwise (· < ·) → r.Pairwise (· < ·) → (∀ t, t ∈ l ↔ t ∈ r) → l = r
  | [], [], _, _, _ => rfl
  | [], y :: r, _, _, h => absurd ((h y).mpr (List.mem_cons_self)) (by simp)
  | x :: l, [], _, _, h => absurd ((h x).mp (List.mem_cons_self)) (by simp)
  | x :: l, y :: r, hl, hr, h => by
    rw [List.pairwise_cons] at hl hr
    have e : x = y := by
      have a := (h x).mp List.mem_cons_self
      have b := (h y).mpr List.mem_cons_self
      rw [List.mem_cons] at a b
      rcases a with a | a
      · exact a
      · rcases b with b | b
        · exact b.symm
        · have := hr.1 x a
          have := hl.1 y b
          omega
    subst e
    congr 1
    refine sorted_ext hl.2 hr.2 fun t => ?_
    have ht := h t
    rw [List.mem_cons, List.mem_cons] at ht
    constructor
    · intro q
      rcases ht.mp (Or.inr q) with z | z
      · have := hl.1 t q
        omega
      · exact z
    · intro q
      rcases ht.mpr (Or.inr q) with z | z
      · have := hr.1 t q
        omega
      · exact z
/-- one deed, done there -/
def Step (a : Abs) (s t : Nat) : Prop := ∃ d, d ∈ a.deeds ∧ Kh411.done a s d = some t
inductive Reach (a : Abs) (s : Nat) : Nat → Prop
  | here : Reach a s s
  | more {t u : Nat} : Reach a s t → Step a t u → Reach a s u
theorem after_lt (a : Abs) (d : Deed) (s : Nat) : Kh411.after a d s < 2 ^ a.m := join_lt _ _ _
theorem done_eq {a : Abs} {s t : Nat} {d : Deed} (h : Kh411.done a s d = some t) : Kh411.can a d s = true ∧ Kh411.let_ a t = true ∧ t = Kh411.after a d s := by
  unfold Kh411.done at h
  split at h
  · rename_i c
    cases h
    rw [Bool.and_eq_true] at c
    exact ⟨c.1, c.2, rfl⟩
  · cases h
theorem step_lt {a : Abs} {s t : Nat} (h : Step a s t) : t < 2 ^ a.m := by
  obtain ⟨d, _, e⟩ := h
  rw [(done_eq e).2.2]
  exact after_lt a d s
theorem step_let {a : Abs} {s t : Nat} (h : Step a s t) : Kh411.let_ a t = true := by
  obtain ⟨d, _, e⟩ := h
  exact (done_eq e).2.1
theorem reach_lt {a : Abs} {s t : Nat} (hs : s < 2 ^ a.m) (h : Reach a s t) : t < 2 ^ a.m := by
  cases h with
  | here => exact hs
  | more _ q => exact step_lt q
theorem reach_let {a : Abs} {s t : Nat} (hs : Kh411.let_ a s = true) (h : Reach a s t) : Kh411.let_ a t = true := by
  cases h with
  | here => exact hs
  | more _ q => exact step_let q
theorem mem_next {a : Abs} {l : List Nat} {t : Nat} : t ∈ Kh411.next a l ↔ t < 2 ^ a.m ∧ (t ∈ l ∨ ∃ s, s ∈ l ∧ Step a s t) := by
  unfold Kh411.next Kh411.states
  rw [List.mem_filter, List.mem_range, Bool.or_eq_true, List.contains_iff_mem, List.any_eq_true]
  refine and_congr Iff.rfl (or_congr Iff.rfl ?_)
  constructor
  · rintro ⟨s, hs, q⟩
    rw [List.any_eq_true] at q
    obtain ⟨d, hd, e⟩ := q
    exact ⟨s, hs, d, hd, by simpa using e⟩
  · rintro ⟨s, hs, d, hd, e⟩
    refine ⟨s, hs, ?_⟩
    rw [List.any_eq_true]
    exact ⟨d, hd, by simpa using e⟩
theorem closing_succ (a : Abs) : ∀ (k : Nat) (l : List Nat), Kh411.closing (k + 1) a l = Kh411.next a (Kh411.closing k a l)
  | 0, _ => rfl
  | k + 1, l => by
    show Kh411.closing (k + 1) a (Kh411.next a l) = _
    rw [closing_succ a k]
    rfl
theorem closing_reach (a : Abs) (s : Nat) : ∀ (k t : Nat), t ∈ Kh411.closing k a [s] → Reach a s t
  | 0, t, h => by
    have e : t = s := by simpa [Kh411.closing] using h
    subst e
    exact .here
  | k + 1, t, h => by
    rw [closing_succ, mem_next] at h
    rcases h.2 with q | ⟨u, hu, q⟩
    · exact closing_reach a s k t q
    · exact .more (closing_reach a s k u hu) q
theorem range_sorted (n : Nat) : (List.range n).Pairwise (· < ·) := List.pairwise_lt_range
theorem next_sorted (a : Abs) (l : List Nat) : (Kh411.next a l).Pairwise (· < ·) := (range_sorted _).filter _
theorem closing_here {a : Abs} {s : Nat} (hs : s < 2 ^ a.m) : ∀ k, s ∈ Kh411.closing k a [s]
  | 0 => by simp [Kh411.closing]
  | k + 1 => by
    rw [closing_succ, mem_next]
    exact ⟨hs, .inl (closing_here hs k)⟩
theorem sub_len : ∀ {l r : List Nat}, l.Pairwise (· < ·) → r.Pairwise (· < ·) → (∀ t, t ∈ l → t ∈ r) → l.length ≤ r.length
  | [], _, _, _, _ => Nat.zero_le _
  | x :: l, r, hl, hr, h => by
    have hx : x ∈ r := h x List.mem_cons_self
    rw [List.pairwise_cons] at hl
    have e : (r.erase x).length = r.length - 1 := List.length_erase_of_mem hx
    have p : 0 < r.length := List.length_pos_of_mem hx
    have i := sub_len (l := l) (r := r.erase x) hl.2 (hr.sublist List.erase_sublist) fun t ht => by
      have n : t ≠ x := by
        have := hl.1 t ht
        omega
      exact (List.mem_erase_of_ne n).mpr (h t (List.mem_cons_of_mem _ ht))
    rw [List.length_cons]
    omega
theorem same_of_len : ∀ {l r : List Nat}, l.Pairwise (· < ·) → r.Pairwise (· < ·) → (∀ t, t ∈ l → t ∈ r) → r.length ≤ l.length → ∀ t, t ∈ r → t ∈ l
  | l, r, hl, hr, h, n, t, ht => by
    refine Classical.byContradiction fun c => ?_
    have e : (r.erase t).length = r.length - 1 := List.length_erase_of_mem ht
    have p : 0 < r.length := List.length_pos_of_mem ht
    have i := sub_len hl (hr.sublist List.erase_sublist : (r.erase t).Pairwise (· < ·)) fun u hu => by
      have n : u ≠ t := fun z => c (z ▸ hu)
      exact (List.mem_erase_of_ne n).mpr (h u hu)
    omega
theorem sorted_len {l : List Nat} {n : Nat} (hl : l.Pairwise (· < ·)) (h : ∀ t, t ∈ l → t < n) : l.length ≤ n := by
  have := sub_len hl (range_sorted n) fun t ht => List.mem_range.mpr (h t ht)
  rwa [List.length_range] at this
/-- either the rounds have come to rest, or more than so many states are there -/
theorem closing_rest {a : Abs} {s : Nat} (hs : s < 2 ^ a.m) : ∀ k, (∀ t u, t ∈ Kh411.closing (k + 1) a [s] → Step a t u → u ∈ Kh411.closing (k + 1) a [s]) ∨ k < (Kh411.closing (k + 1) a [s]).length
  | 0 => .inr (List.length_pos_of_mem (closing_here hs 1))
  | k + 1 => by
    have up : ∀ t, t ∈ Kh411.closing (k + 1) a [s] → t ∈ Kh411.closing (k + 1 + 1) a [s] := fun t ht => by
      rw [closing_succ a (k + 1), mem_next]
      exact ⟨reach_lt hs (closing_reach a s _ t ht), .inl ht⟩
    have so : ∀ j, (Kh411.closing (j + 1) a [s]).Pairwise (· < ·) := fun j => by
      rw [closing_succ]
      exact next_sorted a _
    rcases closing_rest hs k with q | q
    · refine .inl fun t u ht hu => ?_
      rw [closing_succ a (k + 1), mem_next] at ht
      rcases ht.2 with z | ⟨v, hv, z⟩
      · exact up u (q t u z hu)
      · exact up u (q t u (q v t hv z) hu)
    · by_cases c : (Kh411.closing (k + 1 + 1) a [s]).length ≤ (Kh411.closing (k + 1) a [s]).length
      · have down := same_of_len (so k) (so (k + 1)) up c
        refine .inl fun t u ht hu => ?_
        rw [closing_succ a (k + 1), mem_next]
        exact ⟨step_lt hu, .inr ⟨t, down t ht, hu⟩⟩
      · exact .inr (by omega)
theorem closed_reach {a : Abs} {s : Nat} {l : List Nat} (h0 : s ∈ l) (h : ∀ t u, t ∈ l → Step a t u → u ∈ l) {t : Nat} (q : Reach a s t) : t ∈ l := by
  induction q with
  | here => exact h0
  | more _ st ih => exact h _ _ ih st
theorem pow_form (m : Nat) : ∃ k, 2 ^ m = k + 1 := ⟨2 ^ m - 1, by have := Nat.two_pow_pos m; omega⟩
theorem reach_sorted (a : Abs) (s : Nat) : (Kh411.reach a s).Pairwise (· < ·) := by
  unfold Kh411.reach
  obtain ⟨k, e⟩ := pow_form a.m
  rw [e, closing_succ]
  exact next_sorted a _
theorem mem_reach {a : Abs} {s t : Nat} (hs : s < 2 ^ a.m) : t ∈ Kh411.reach a s ↔ Reach a s t := by
  constructor
  · exact closing_reach a s _ t
  · intro q
    unfold Kh411.reach
    obtain ⟨k, e⟩ := pow_form a.m
    rw [e]
    rcases closing_rest hs k with z | z
    · exact closed_reach (closing_here hs _) z q
    · have so : (Kh411.closing (k + 1) a [s]).Pairwise (· < ·) := by
        rw [closing_succ]
        exact next_sorted a _
      have full := same_of_len so (range_sorted (2 ^ a.m)) (fun t ht => List.mem_range.mpr (reach_lt hs (closing_reach a s _ t ht))) (by rw [List.length_range]; omega)
      exact full t (List.mem_range.mpr (reach_lt hs q))
/-- what the program finds: in order, no state twice, the start in it, closed, each one come to -/
theorem reach_is {a : Abs} {s : Nat} {l : List Nat} (hs : s < 2 ^ a.m) (hl : l.Pairwise (· < ·)) (h0 : s ∈ l) (hc : ∀ t u, t ∈ l → Step a t u → u ∈ l) (hr : ∀ t, t ∈ l → Reach a s t) : l = Kh411.reach a s :=
  sorted_ext hl (reach_sorted a s) fun t => ⟨fun q => (mem_reach hs).mpr (hr t q), fun q => closed_reach h0 hc ((mem_reach hs).mp q)⟩
end Na

/-! What comes together of k copies, and whether the rule is kept. -/
namespace Na
open Kh411 (Abs Deed)
def put (c : Nat) (l : List Nat) : Nat := c ^^^ (l.foldl (fun t s => t ||| (s ^^^ c)) 0)
def ready (d : Deed) (s : Nat) : Bool := decide (s &&& d.need = d.be)
def out (d : Deed) (s : Nat) : Nat := sub (s ||| d.on) d.off
theorem xor_lt {m x y : Nat} (hx : x < 2 ^ m) (hy : y < 2 ^ m) : x ^^^ y < 2 ^ m := Nat.xor_lt_two_pow hx hy
theorem or_lt {m x y : Nat} (hx : x < 2 ^ m) (hy : y < 2 ^ m) : x ||| y < 2 ^ m := Nat.or_lt_two_pow hx hy
theorem fold_lt {m c : Nat} (hc : c < 2 ^ m) : ∀ (l : List Nat) (t : Nat), t < 2 ^ m → (∀ s ∈ l, s < 2 ^ m) → l.foldl (fun t s => t ||| (s ^^^ c)) t < 2 ^ m
  | [], t, ht, _ => ht
  | s :: l, t, ht, h => fold_lt hc l _ (or_lt ht (xor_lt (h s List.mem_cons_self) hc)) fun u hu => h u (List.mem_cons_of_mem _ hu)
theorem put_lt {m c : Nat} {l : List Nat} (hc : c < 2 ^ m) (h : ∀ s ∈ l, s < 2 ^ m) : put c l < 2 ^ m := xor_lt hc (fold_lt hc l 0 (Nat.two_pow_pos m) h)
theorem fold_same {m c : Nat} (hc : c < 2 ^ m) : ∀ (l : List Nat) (t : Nat), t < 2 ^ m → (∀ s ∈ l, s < 2 ^ m) →
    l.foldl (fun t y => Kh411.join m t (Kh411.flips m c y)) t = l.foldl (fun t s => t ||| (s ^^^ c)) t
  | [], _, _, _ => rfl
  | s :: l, t, ht, h => by
    have hs := h s List.mem_cons_self
    show l.foldl _ (Kh411.join m t (Kh411.flips m c s)) = l.foldl _ (t ||| (s ^^^ c))
    rw [flips_eq hc hs, join_eq ht (xor_lt hc hs), Nat.xor_comm c s]
    exact fold_same hc l _ (or_lt ht (xor_lt hs hc)) fun u hu => h u (List.mem_cons_of_mem _ hu)
theorem put_eq {m c : Nat} {l : List Nat} (hc : c < 2 ^ m) (h : ∀ s ∈ l, s < 2 ^ m) : put c l = Kh411.together m c l := by
  unfold put Kh411.together
  rw [fold_same hc l 0 (Nat.two_pow_pos m) h, flips_eq hc (fold_lt hc l 0 (Nat.two_pow_pos m) h)]
/-- what the program asks of a deed -/
def okD (m : Nat) (d : Deed) : Prop := d.on < 2 ^ m ∧ d.on &&& d.off = 0
theorem can_eq {a : Abs} {d : Deed} {s : Nat} (hs : s < 2 ^ a.m) : Kh411.can a d s = ready d s := by
  unfold Kh411.can ready
  rw [meet_eq hs]
  by_cases h : s &&& d.need = d.be
  · simp [h]
  · simp [h]
theorem out_eq {a : Abs} {d : Deed} {s : Nat} (hd : okD a.m d) (hs : s < 2 ^ a.m) : Kh411.after a d s = out d s := by
  have hl : sub s d.off < 2 ^ a.m := Nat.lt_of_le_of_lt (Nat.sub_le _ _) hs
  unfold Kh411.after out
  rw [less_eq hs, join_eq hl hd.1]
  apply Nat.eq_of_testBit_eq
  intro i
  rw [Nat.testBit_or, sub_tb, sub_tb, Nat.testBit_or]
  have z : (d.on &&& d.off).testBit i = false := by rw [hd.2]; simp
  rw [Nat.testBit_and] at z
  cases h1 : s.testBit i <;> cases h2 : d.on.testBit i <;> cases h3 : d.off.testBit i <;> simp [h2, h3] at z ⊢
theorem out_lt {m : Nat} {d : Deed} {s : Nat} (hd : okD m d) (hs : s < 2 ^ m) : out d s < 2 ^ m := Nat.lt_of_le_of_lt (Nat.sub_le _ _) (or_lt hs hd.1)
theorem let_tb (a : Abs) (s : Nat) : Kh411.let_ a s = a.rule.testBit s := has_tb _ _
theorem done_is {a : Abs} {d : Deed} {s : Nat} (hd : okD a.m d) (hs : s < 2 ^ a.m) : Kh411.done a s d = if (ready d s && a.rule.testBit (out d s)) = true then some (out d s) else none := by
  unfold Kh411.done
  rw [can_eq hs, out_eq hd hs, let_tb]
/-- what k copies may bring about, from c -/
def Come (a : Abs) (c k t : Nat) : Prop := ∃ f, f ∈ Kh411.unions a.m ((Kh411.reach a c).map (Kh411.flips a.m c)) k ∧ t = Kh411.flips a.m c f
theorem mem_unions {m : Nat} {l : List Nat} {k f : Nat} : f ∈ Kh411.unions m l (k + 1) ↔ ∃ g, g ∈ Kh411.unions m l k ∧ ∃ r, r ∈ l ∧ f = Kh411.join m g r := by
  show f ∈ ((Kh411.unions m l k).flatMap fun f => l.map (Kh411.join m f)).eraseDups ↔ _
  rw [List.mem_eraseDups, List.mem_flatMap]
  constructor
  · rintro ⟨g, hg, q⟩
    obtain ⟨r, hr, e⟩ := List.mem_map.mp q
    exact ⟨g, hg, r, hr, e.symm⟩
  · rintro ⟨g, hg, r, hr, e⟩
    exact ⟨g, hg, List.mem_map.mpr ⟨r, hr, e.symm⟩⟩
theorem unions_lt {m : Nat} {l : List Nat} : ∀ {k f : Nat}, f ∈ Kh411.unions m l k → f < 2 ^ m
  | 0, f, h => by
    have : f = 0 := by simpa [Kh411.unions] using h
    subst this
    exact Nat.two_pow_pos m
  | k + 1, f, h => by
    obtain ⟨g, _, r, _, e⟩ := mem_unions.mp h
    rw [e]
    exact join_lt _ _ _
theorem xx (x y : Nat) : x ^^^ (x ^^^ y) = y := by
  rw [← Nat.xor_assoc, Nat.xor_self, Nat.zero_xor]
theorem xy (x y : Nat) : (x ^^^ y) ^^^ x = y := by
  rw [Nat.xor_comm, xx]
theorem come_zero {a : Abs} {c t : Nat} (hc : c < 2 ^ a.m) : Come a c 0 t ↔ t = c := by
  constructor
  · rintro ⟨f, hf, e⟩
    have : f = 0 := by simpa [Kh411.unions] using hf
    subst this
    rw [e, flips_eq hc (Nat.two_pow_pos _), Nat.xor_zero]
  · intro e
    subst e
    exact ⟨0, by simp [Kh411.unions], by rw [flips_eq hc (Nat.two_pow_pos _), Nat.xor_zero]⟩
theorem put2 {c u r : Nat} : put c [u, r] = c ^^^ ((u ^^^ c) ||| (r ^^^ c)) := by
  unfold put
  show c ^^^ ((0 ||| (u ^^^ c)) ||| (r ^^^ c)) = _
  rw [Nat.zero_or]
theorem come_succ {a : Abs} {c k t : Nat} (hc : c < 2 ^ a.m) : Come a c (k + 1) t ↔ ∃ u, Come a c k u ∧ ∃ r, r ∈ Kh411.reach a c ∧ t = put c [u, r] := by
  constructor
  · rintro ⟨f, hf, e⟩
    obtain ⟨g, hg, q, hq, e2⟩ := mem_unions.mp hf
    obtain ⟨r, hr, e3⟩ := List.mem_map.mp hq
    have lr := reach_lt hc ((mem_reach hc).mp hr)
    have lg := unions_lt hg
    refine ⟨_, ⟨g, hg, rfl⟩, r, hr, ?_⟩
    rw [flips_eq hc lr] at e3
    rw [e, e2, ← e3, join_eq lg (xor_lt hc lr), flips_eq hc (or_lt lg (xor_lt hc lr)), flips_eq hc lg, put2, xy, Nat.xor_comm r c]
  · rintro ⟨u, ⟨g, hg, eu⟩, r, hr, e⟩
    have lr := reach_lt hc ((mem_reach hc).mp hr)
    have lg := unions_lt hg
    refine ⟨Kh411.join a.m g (Kh411.flips a.m c r), mem_unions.mpr ⟨g, hg, _, List.mem_map.mpr ⟨r, hr, rfl⟩, rfl⟩, ?_⟩
    rw [flips_eq hc lr, join_eq lg (xor_lt hc lr), flips_eq hc (or_lt lg (xor_lt hc lr)), e, eu, flips_eq hc lg, put2, xy, Nat.xor_comm r c]
theorem come_lt {a : Abs} {c k t : Nat} (h : Come a c k t) : t < 2 ^ a.m := by
  obtain ⟨f, _, e⟩ := h
  rw [e]
  exact flips_lt _ _ _
theorem keeps_iff {a : Abs} {k : Nat} : Kh411.keeps a k = true ↔ ∀ c, c < 2 ^ a.m → a.rule.testBit c = true → ∀ t, Come a c k t → a.rule.testBit t = true := by
  unfold Kh411.keeps Kh411.states
  rw [List.all_eq_true]
  constructor
  · intro h c hc hr t ⟨f, hf, e⟩
    have q := h c (List.mem_range.mpr hc)
    rw [Bool.or_eq_true, let_tb, hr, List.all_eq_true] at q
    rcases q with q | q
    · cases q
    · have := q f hf
      rw [let_tb] at this
      rw [e]
      exact this
  · intro h c hc
    have hc := List.mem_range.mp hc
    rw [Bool.or_eq_true, let_tb, List.all_eq_true]
    cases e : a.rule.testBit c with
    | false => exact .inl rfl
    | true =>
      refine .inr fun f hf => ?_
      rw [let_tb]
      exact h c hc e _ ⟨f, hf, rfl⟩
/-- numbers in order by the program's sorted -/
theorem srt {l : List Nat} {ns : List Int} (p : ns.Perm (l.map (fun n : Nat => (n : Int)))) (s : ns.Pairwise (· ≤ ·)) (nd : l.Nodup) : ∃ r : List Nat, ns = r.map (fun n : Nat => (n : Int)) ∧ r.Pairwise (· < ·) ∧ ∀ t, t ∈ r ↔ t ∈ l := by
  have e : ns = (ns.map Int.toNat).map (fun n : Nat => (n : Int)) := by
    rw [List.map_map]
    refine (List.map_id ns).symm.trans (List.map_congr_left fun x hx => ?_)
    obtain ⟨n, _, en⟩ := List.mem_map.mp (p.mem_iff.mp hx)
    subst en
    rfl
  have pr : (ns.map Int.toNat).Perm l := by
    have := p.map Int.toNat
    rw [List.map_map] at this
    have i : l.map (Int.toNat ∘ fun n : Nat => (n : Int)) = l := (List.map_congr_left fun x _ => rfl).trans (List.map_id l)
    rw [i] at this
    exact this
  refine ⟨ns.map Int.toNat, e, ?_, fun t => pr.mem_iff⟩
  have nd2 : (ns.map Int.toNat).Nodup := pr.nodup_iff.mpr nd
  have le : (ns.map Int.toNat).Pairwise (· ≤ ·) := by
    rw [List.pairwise_map]
    refine s.imp_of_mem fun {x y} hx hy h => ?_
    omega
  rw [List.nodup_iff_pairwise_ne] at nd2
  exact (le.and nd2).imp fun ⟨h1, h2⟩ => Nat.lt_of_le_of_ne h1 h2
end Na

/-! The search for all states that a copy may come to: what holds between two turns. -/
namespace Na
open Kh411 (Abs Deed)
structure Seek (a : Abs) (s k : Nat) (l : List Nat) : Prop where
  nd : l.Nodup
  le : k ≤ l.length
  st : s ∈ l
  re : ∀ t, t ∈ l → Reach a s t
  cl : ∀ i t u, i < k → l[i]? = some t → Step a t u → u ∈ l
theorem Seek.zero (a : Abs) (s : Nat) : Seek a s 0 [s] where
  nd := by simp
  le := Nat.zero_le _
  st := List.mem_cons_self
  re := fun t h => by
    have e : t = s := by simpa using h
    subst e
    exact .here
  cl := fun i t u h => absurd h (Nat.not_lt_zero i)
theorem get_append_left {l r : List Nat} {i t : Nat} (h : l[i]? = some t) : (l ++ r)[i]? = some t := by
  rw [List.getElem?_append_left (List.getElem?_eq_some_iff.mp h).1]
  exact h
theorem Seek.add {a : Abs} {s k : Nat} {l : List Nat} {u : Nat} (h : Seek a s k l) (hu : Reach a s u) (hn : u ∉ l) : Seek a s k (l ++ [u]) where
  nd := by
    rw [List.nodup_append]
    refine ⟨h.nd, by simp, fun x hx y hy e => hn ?_⟩
    have : y = u := by simpa using hy
    rw [← this, ← e]
    exact hx
  le := by
    rw [List.length_append]
    exact Nat.le_trans h.le (Nat.le_add_right _ _)
  st := List.mem_append.mpr (.inl h.st)
  re := fun t ht => by
    rcases List.mem_append.mp ht with q | q
    · exact h.re t q
    · have : t = u := by simpa using q
      subst this
      exact hu
  cl := fun i t v hi ht st => by
    rw [List.getElem?_append_left (Nat.lt_of_lt_of_le hi h.le)] at ht
    exact List.mem_append.mpr (.inl (h.cl i t v hi ht st))
/-- of the state x, all that the first i deeds lead to is found -/
def Tried (a : Abs) (x i : Nat) (l : List Nat) : Prop := ∀ j d u, j < i → a.deeds[j]? = some d → Kh411.done a x d = some u → u ∈ l
theorem Seek.next {a : Abs} {s k : Nat} {l : List Nat} {x : Nat} (h : Seek a s k l) (hx : l[k]? = some x) (ht : Tried a x a.deeds.length l) : Seek a s (k + 1) l where
  nd := h.nd
  le := (List.getElem?_eq_some_iff.mp hx).1
  st := h.st
  re := h.re
  cl := fun i t u hi e st => by
    by_cases c : i < k
    · exact h.cl i t u c e st
    · have : i = k := by omega
      subst this
      rw [hx] at e
      cases e
      obtain ⟨d, hd, q⟩ := st
      obtain ⟨j, hj⟩ := List.getElem?_of_mem hd
      exact ht j d u (List.getElem?_eq_some_iff.mp hj).1 hj q
theorem nodup_len {l : List Nat} {n : Nat} (nd : l.Nodup) (h : ∀ t, t ∈ l → t < n) : l.length ≤ n := by
  induction n generalizing l with
  | zero =>
    cases l with
    | nil => exact Nat.le_refl _
    | cons x r => exact absurd (h x List.mem_cons_self) (Nat.not_lt_zero x)
  | succ n ih =>
    have nd2 : (l.erase n).Nodup := nd.erase n
    have := ih nd2 fun t ht => by
      have h1 := h t (List.mem_of_mem_erase ht)
      have h2 : t ≠ n := fun e => by
        subst e
        exact absurd ht (List.Nodup.not_mem_erase nd)
      omega
    by_cases c : n ∈ l
    · have e := List.length_erase_of_mem c
      have p := List.length_pos_of_mem c
      omega
    · rw [List.erase_of_not_mem c] at this
      omega
theorem Seek.bound {a : Abs} {s k : Nat} {l : List Nat} (h : Seek a s k l) (hs : s < 2 ^ a.m) : l.length ≤ 2 ^ a.m := nodup_len h.nd fun t ht => reach_lt hs (h.re t ht)
theorem Seek.end_ {a : Abs} {s : Nat} {l r : List Nat} (h : Seek a s l.length l) (hs : s < 2 ^ a.m) (hr : r.Pairwise (· < ·)) (hm : ∀ t, t ∈ r ↔ t ∈ l) : r = Kh411.reach a s := by
  refine reach_is hs hr ((hm s).mpr h.st) (fun t u ht st => ?_) fun t ht => h.re t ((hm t).mp ht)
  obtain ⟨i, hi⟩ := List.getElem?_of_mem ((hm t).mp ht)
  exact (hm u).mpr (h.cl i t u (List.getElem?_eq_some_iff.mp hi).1 hi st)
end Na

/-! Worlds: what the specification's calls give, case by case, and what stays true of a world. -/
namespace Na
open Kh411 (Abs Deed)
open Kh413 (Work say does atOnce set1 given)
/-- what is true of every world that the program keeps -/
structure WF (w : Work) : Prop where
  m1 : 1 ≤ w.a.m
  m4 : w.a.m ≤ 4
  rl : w.a.rule < 2 ^ 2 ^ w.a.m
  dl : w.a.deeds.length ≤ 6
  dk : ∀ d, d ∈ w.a.deeds → okD w.a.m d
  al : w.allowed < 2 ^ w.a.deeds.length
  cm : w.common < 2 ^ w.a.m
  c2 : 2 ≤ w.copies.length
  c4 : w.copies.length ≤ 4
  cs : ∀ s, s ∈ w.copies → s < 2 ^ w.a.m
  an : w.answers.length = 2 ^ w.a.m
  av : ∀ v, v ∈ w.answers → v < 8
  cl : w.a.rule.testBit w.common = true
  fr : Kh411.keeps (Kh411.only w.a w.allowed) w.a.m = true
  rc : ∀ s, s ∈ w.copies → Reach (Kh411.only w.a w.allowed) w.common s
def sound (m : Nat) (d : Deed) : Bool := decide (d.need ||| d.be ||| d.on ||| d.off < 2 ^ m) && (decide (d.be &&& d.need = d.be) && decide (d.on &&& d.off = 0))
theorem or_lt_iff {m x y : Nat} : x ||| y < 2 ^ m ↔ x < 2 ^ m ∧ y < 2 ^ m := by
  constructor
  · intro h
    exact ⟨Nat.lt_of_le_of_lt Nat.left_le_or h, Nat.lt_of_le_of_lt Nat.right_le_or h⟩
  · rintro ⟨a, b⟩
    exact or_lt a b
theorem sound_ok (a : Abs) (d : Deed) : Kh411.okDeed a d = sound a.m d := by
  rw [Bool.eq_iff_iff]
  unfold Kh411.okDeed sound
  simp only [Bool.and_eq_true, decide_eq_true_eq, beq_iff_eq, or_lt_iff]
  constructor
  · rintro ⟨h1, h2, h3, h4, h5, h6⟩
    rw [meet_eq h1] at h2
    rw [meet_eq h4] at h6
    exact ⟨⟨⟨⟨h1, h3⟩, h4⟩, h5⟩, by rw [Nat.and_comm]; exact h2, h6⟩
  · rintro ⟨⟨⟨⟨h1, h3⟩, h4⟩, h5⟩, h2, h6⟩
    rw [meet_eq h1, meet_eq h4]
    exact ⟨h1, by rw [Nat.and_comm]; exact h2, h3, h4, h5, h6⟩
section
variable {w : Work}
theorem change16 {c : Kh411.Call} (h : atOnce w = false) : Kh413.change w c = (w, say (-16)) := by
  unfold Kh413.change
  rw [if_pos h]
theorem changeNo {c : Kh411.Call} (h : atOnce w = true) (z : Int) (hz : z < 0) (e : (Kh411.doesA w.a c).2.ret = z) : Kh413.change w c = (w, say z) := by
  unfold Kh413.change
  rw [if_neg (by rw [h]; decide)]
  subst e
  rw [if_pos hz]
theorem change33 {c : Kh411.Call} (h : atOnce w = true) (hz : 0 ≤ (Kh411.doesA w.a c).2.ret) (hl : Kh411.let_ (Kh411.doesA w.a c).1 w.common = false) : Kh413.change w c = (w, say (-33)) := by
  unfold Kh413.change
  rw [if_neg (by rw [h]; decide)]
  show (if (Kh411.doesA w.a c).2.ret < 0 then _ else _) = _
  rw [if_neg (by omega), if_pos hl]
theorem changeOk {c : Kh411.Call} (h : atOnce w = true) (hz : 0 ≤ (Kh411.doesA w.a c).2.ret) (hl : Kh411.let_ (Kh411.doesA w.a c).1 w.common = true) :
    Kh413.change w c = ({ w with a := (Kh411.doesA w.a c).1, allowed := 0 }, ⟨(Kh411.doesA w.a c).2.ret, (Kh411.doesA w.a c).2.out⟩) := by
  unfold Kh413.change
  rw [if_neg (by rw [h]; decide)]
  show (if (Kh411.doesA w.a c).2.ret < 0 then _ else _) = _
  rw [if_neg (by omega), if_neg (by rw [hl]; decide)]
/-! rule -/
theorem rule16 {r : Nat} (h : atOnce w = false) : does w (.rule r) = (w, say (-16)) := change16 h
theorem rule_no {r : Nat} (q : 2 ^ 2 ^ w.a.m ≤ r) : Kh411.doesA w.a (.rule r) = (w.a, Kh411.say (-22)) := by
  show (if 2 ^ (2 ^ w.a.m) ≤ r then _ else _) = _
  rw [if_pos q]
theorem rule_yes {r : Nat} (q : r < 2 ^ 2 ^ w.a.m) : Kh411.doesA w.a (.rule r) = ({ w.a with rule := r }, Kh411.say 0) := by
  show (if 2 ^ (2 ^ w.a.m) ≤ r then _ else _) = _
  rw [if_neg (by omega)]
theorem rule22 {r : Nat} (h : atOnce w = true) (q : 2 ^ 2 ^ w.a.m ≤ r) : does w (.rule r) = (w, say (-22)) := changeNo h (-22) (by decide) (by rw [rule_no q]; rfl)
theorem rule33 {r : Nat} (h : atOnce w = true) (q : r < 2 ^ 2 ^ w.a.m) (l : r.testBit w.common = false) : does w (.rule r) = (w, say (-33)) :=
  change33 h (by rw [rule_yes q]; exact Int.le_refl 0) (by rw [rule_yes q, let_tb]; exact l)
theorem rule0 {r : Nat} (h : atOnce w = true) (q : r < 2 ^ 2 ^ w.a.m) (l : r.testBit w.common = true) : does w (.rule r) = ({ w with a := { w.a with rule := r }, allowed := 0 }, say 0) := by
  have := changeOk (w := w) (c := .rule r) h (by rw [rule_yes q]; exact Int.le_refl 0) (by rw [rule_yes q, let_tb]; exact l)
  rw [rule_yes q] at this
  exact this
/-! deed -/
theorem deed16 {n b x y : Nat} (h : atOnce w = false) : does w (.deed n b x y) = (w, say (-16)) := change16 h
theorem deed22 {n b x y : Nat} (h : atOnce w = true) (q : sound w.a.m ⟨n, b, x, y⟩ = false) : does w (.deed n b x y) = (w, say (-22)) :=
  changeNo h (-22) (by decide) (by
    have e : Kh411.doesA w.a (.deed n b x y) = (w.a, Kh411.say (-22)) := by
      show (if Kh411.okDeed w.a ⟨n, b, x, y⟩ = false then _ else _) = _
      rw [if_pos (by rw [sound_ok]; exact q)]
    rw [e]
    rfl)
theorem deed28 {n b x y : Nat} (h : atOnce w = true) (q : sound w.a.m ⟨n, b, x, y⟩ = true) (l : w.a.deeds.length = 6) : does w (.deed n b x y) = (w, say (-28)) :=
  changeNo h (-28) (by decide) (by
    have e : Kh411.doesA w.a (.deed n b x y) = (w.a, Kh411.say (-28)) := by
      show (if Kh411.okDeed w.a ⟨n, b, x, y⟩ = false then _ else if Kh411.DEEDS ≤ w.a.deeds.length then _ else _) = _
      rw [if_neg (by rw [sound_ok, q]; decide), if_pos (by rw [l]; decide)]
    rw [e]
    rfl)
theorem deed0 {n b x y : Nat} (f : WF w) (h : atOnce w = true) (q : sound w.a.m ⟨n, b, x, y⟩ = true) (l : w.a.deeds.length ≠ 6) :
    does w (.deed n b x y) = ({ w with a := { w.a with deeds := w.a.deeds ++ [⟨n, b, x, y⟩] }, allowed := 0 }, say w.a.deeds.length) := by
  have e : Kh411.doesA w.a (.deed n b x y) = ({ w.a with deeds := w.a.deeds ++ [⟨n, b, x, y⟩] }, Kh411.say w.a.deeds.length) := by
    show (if Kh411.okDeed w.a ⟨n, b, x, y⟩ = false then _ else if Kh411.DEEDS ≤ w.a.deeds.length then _ else _) = _
    rw [if_neg (by rw [sound_ok, q]; decide), if_neg]
    have := f.dl
    show ¬ 6 ≤ w.a.deeds.length
    omega
  have := changeOk (w := w) (c := .deed n b x y) h (by rw [e]; exact Int.natCast_nonneg _) (by rw [e, let_tb]; exact f.cl)
  rw [e] at this
  exact this
/-! drop -/
theorem drop16 {i : Nat} (h : atOnce w = false) : does w (.drop i) = (w, say (-16)) := change16 h
theorem drop2 {i : Nat} (h : atOnce w = true) (q : w.a.deeds.length ≤ i) : does w (.drop i) = (w, say (-2)) :=
  changeNo h (-2) (by decide) (by
    have e : Kh411.doesA w.a (.drop i) = (w.a, Kh411.say (-2)) := by
      show (if w.a.deeds.length ≤ i then _ else _) = _
      rw [if_pos q]
    rw [e]
    rfl)
theorem drop0 {i : Nat} (f : WF w) (h : atOnce w = true) (q : i < w.a.deeds.length) :
    does w (.drop i) = ({ w with a := { w.a with deeds := w.a.deeds.eraseIdx i }, allowed := 0 }, say (w.a.deeds.length - 1 : Nat)) := by
  have e : Kh411.doesA w.a (.drop i) = ({ w.a with deeds := w.a.deeds.eraseIdx i }, Kh411.say (w.a.deeds.length - 1 : Nat)) := by
    show (if w.a.deeds.length ≤ i then _ else _) = _
    rw [if_neg (by omega)]
  have := changeOk (w := w) (c := .drop i) h (by rw [e]; exact Int.natCast_nonneg _) (by rw [e, let_tb]; exact f.cl)
  rw [e] at this
  exact this
/-! allow -/
theorem allow16 {x : Nat} (h : atOnce w = false) : does w (.allow x) = (w, say (-16)) := by
  show (if atOnce w = false then _ else _) = _
  rw [if_pos h]
theorem allow22 {x : Nat} (h : atOnce w = true) (q : 2 ^ w.a.deeds.length ≤ x) : does w (.allow x) = (w, say (-22)) := by
  show (if atOnce w = false then _ else if 2 ^ w.a.deeds.length ≤ x then _ else _) = _
  rw [if_neg (by rw [h]; decide), if_pos q]
theorem free_eq (f : WF w) (x : Nat) : Kh411.free w.a x = Kh411.keeps (Kh411.only w.a x) w.a.m := by
  unfold Kh411.free
  have := f.m1
  rw [Nat.max_eq_left this]
theorem allow33 {x : Nat} (f : WF w) (h : atOnce w = true) (q : x < 2 ^ w.a.deeds.length) (l : Kh411.keeps (Kh411.only w.a x) w.a.m = false) : does w (.allow x) = (w, say (-33)) := by
  show (if atOnce w = false then _ else if 2 ^ w.a.deeds.length ≤ x then _ else if Kh411.free w.a x = false then _ else _) = _
  rw [if_neg (by rw [h]; decide), if_neg (by omega), if_pos (by rw [free_eq f]; exact l)]
theorem allow0 {x : Nat} (f : WF w) (h : atOnce w = true) (q : x < 2 ^ w.a.deeds.length) (l : Kh411.keeps (Kh411.only w.a x) w.a.m = true) : does w (.allow x) = ({ w with allowed := x }, say w.allowed) := by
  show (if atOnce w = false then _ else if 2 ^ w.a.deeds.length ≤ x then _ else if Kh411.free w.a x = false then _ else _) = _
  rw [if_neg (by rw [h]; decide), if_neg (by omega), if_neg (by rw [free_eq f, l]; decide)]
/-! set -/
theorem set16 {s : Nat} (h : atOnce w = false) : does w (.set s) = (w, say (-16)) := by
  show (if atOnce w = false then _ else _) = _
  rw [if_pos h]
theorem isS_eq (a : Abs) (s : Nat) : Kh411.isS a s = decide (s < 2 ^ a.m) := rfl
theorem set22 {s : Nat} (h : atOnce w = true) (q : 2 ^ w.a.m ≤ s) : does w (.set s) = (w, say (-22)) := by
  show (if atOnce w = false then _ else if Kh411.isS w.a s = false then _ else _) = _
  rw [if_neg (by rw [h]; decide), if_pos (by rw [isS_eq]; exact decide_eq_false (by omega))]
theorem set33 {s : Nat} (h : atOnce w = true) (q : s < 2 ^ w.a.m) (l : w.a.rule.testBit s = false) : does w (.set s) = (w, say (-33)) := by
  show (if atOnce w = false then _ else if Kh411.isS w.a s = false then _ else if Kh411.let_ w.a s = false then _ else _) = _
  rw [if_neg (by rw [h]; decide), if_neg (by rw [isS_eq, decide_eq_true q]; decide), if_pos (by rw [let_tb]; exact l)]
theorem set0 {s : Nat} (h : atOnce w = true) (q : s < 2 ^ w.a.m) (l : w.a.rule.testBit s = true) : does w (.set s) = (set1 w s, say w.common) := by
  show (if atOnce w = false then _ else if Kh411.isS w.a s = false then _ else if Kh411.let_ w.a s = false then _ else _) = _
  rw [if_neg (by rw [h]; decide), if_neg (by rw [isS_eq, decide_eq_true q]; decide), if_neg (by rw [let_tb, l]; decide)]
/-! answer -/
theorem answer22 {s v : Nat} (q : 2 ^ w.a.m ≤ s ∨ 7 < v) : does w (.answer s v) = (w, say (-22)) := by
  show (if Kh411.isS w.a s = false ∨ 2 ^ Kh413.KINDS ≤ v then _ else _) = _
  rw [if_pos]
  rcases q with q | q
  · exact .inl (by rw [isS_eq]; exact decide_eq_false (by omega))
  · exact .inr q
theorem answer0 {s v : Nat} (q : s < 2 ^ w.a.m) (l : v ≤ 7) : does w (.answer s v) = ({ w with answers := w.answers.set s v }, say (given w s)) := by
  show (if Kh411.isS w.a s = false ∨ 2 ^ Kh413.KINDS ≤ v then _ else _) = _
  rw [if_neg]
  rintro (z | z)
  · rw [isS_eq, decide_eq_true q] at z
    cases z
  · have : 8 ≤ v := z
    omega
/-! do, ask, gather: what comes of a deed at a state -/
/-- the number that come_of answers -/
def comes (w : Work) (d : Deed) (s : Nat) : Int := if ready d s = false then -6 else if w.a.rule.testBit (out d s) = false then -33 else (out d s : Int)
theorem do2c {c i : Nat} (q : w.copies.length ≤ c) : does w (.do_ c i) = (w, say (-2)) := by
  show (if w.copies.length ≤ c then _ else _) = _
  rw [if_pos q]
theorem do2i {c i : Nat} (q : w.a.deeds.length ≤ i) : does w (.do_ c i) = (w, say (-2)) := by
  show (if w.copies.length ≤ c then _ else match w.a.deeds[i]? with | none => _ | some d => _) = _
  split
  · rfl
  · rw [List.getElem?_eq_none q]
theorem do35 {c i : Nat} {d : Deed} (q : c < w.copies.length) (e : w.a.deeds[i]? = some d) (l : w.allowed.testBit i = false) : does w (.do_ c i) = (w, say (-35)) := by
  show (if w.copies.length ≤ c then _ else match w.a.deeds[i]? with | none => _ | some d => _) = _
  rw [if_neg (by omega), e]
  show (if Kh411.has w.allowed i = false then _ else _) = _
  rw [if_pos (by rw [has_tb]; exact l)]
theorem do_go {c i s : Nat} {d : Deed} (f : WF w) (q : w.copies[c]? = some s) (e : w.a.deeds[i]? = some d) (l : w.allowed.testBit i = true) :
    does w (.do_ c i) = if 0 ≤ comes w d s then ({ w with copies := w.copies.set c (out d s) }, say (out d s)) else (w, say (comes w d s)) := by
  have hc := (List.getElem?_eq_some_iff.mp q).1
  have hs : s < 2 ^ w.a.m := f.cs s (List.mem_of_getElem? q)
  have hd := f.dk d (List.mem_of_getElem? e)
  have gs : w.copies.getD c 0 = s := by
    rw [List.getD_eq_getElem?_getD, q]
    rfl
  show (if w.copies.length ≤ c then _ else match w.a.deeds[i]? with | none => _ | some d => _) = _
  rw [if_neg (by omega), e]
  show (if Kh411.has w.allowed i = false then _ else (if Kh411.can w.a d (w.copies.getD c 0) = false then _ else if Kh411.let_ w.a (Kh411.after w.a d (w.copies.getD c 0)) = false then _ else _)) = _
  rw [if_neg (by rw [has_tb, l]; decide), gs, can_eq hs, out_eq hd hs, let_tb]
  unfold comes
  cases h1 : ready d s with
  | false => rfl
  | true =>
    cases h2 : w.a.rule.testBit (out d s) with
    | false => rfl
    | true =>
      simp only [Bool.true_eq_false, if_false]
      rw [if_pos (Int.natCast_nonneg _)]
theorem ask2 {i : Nat} (q : w.a.deeds.length ≤ i) : does w (.ask i) = (w, say (-2)) := by
  show (match w.a.deeds[i]? with | none => _ | some d => _) = _
  rw [List.getElem?_eq_none q]
theorem ahead_lt (f : WF w) : Kh413.ahead w < 2 ^ w.a.m := flips_lt _ _ _
theorem ask_go {i : Nat} {d : Deed} (f : WF w) (e : w.a.deeds[i]? = some d) :
    does w (.ask i) = if 0 ≤ comes w d (Kh413.ahead w) then (set1 w (out d (Kh413.ahead w)), say (out d (Kh413.ahead w))) else (w, say (comes w d (Kh413.ahead w))) := by
  have hs := ahead_lt f
  have hd := f.dk d (List.mem_of_getElem? e)
  show (match w.a.deeds[i]? with | none => _ | some d => _) = _
  rw [e]
  show (if Kh411.can w.a d (Kh413.ahead w) = false then _ else if Kh411.let_ w.a (Kh411.after w.a d (Kh413.ahead w)) = false then _ else _) = _
  rw [can_eq hs, out_eq hd hs, let_tb]
  unfold comes
  cases h1 : ready d (Kh413.ahead w) with
  | false => rfl
  | true =>
    cases h2 : w.a.rule.testBit (out d (Kh413.ahead w)) with
    | false => rfl
    | true =>
      simp only [Bool.true_eq_false, if_false]
      rw [if_pos (Int.natCast_nonneg _)]
theorem gather0 : does w .gather = (set1 w (Kh413.ahead w), say (Kh413.ahead w)) := rfl
end
end Na

/-! What is true of a world stays true: the rule is kept, whatever is done, whenever they are gathered. -/
namespace Na
open Kh411 (Abs Deed)
open Kh413 (Work say does atOnce set1 given)
/-- the members of a list whose places are in x -/
def fil {α : Type} (x : Nat) (l : List α) : List α := (l.zipIdx.filter fun p => x.testBit p.2).map (·.1)
theorem fil_snoc {α : Type} (x : Nat) (l : List α) (v : α) : fil x (l ++ [v]) = fil x l ++ (if x.testBit l.length then [v] else []) := by
  unfold fil
  rw [List.zipIdx_append, List.filter_append, List.map_append]
  congr 1
  show ((List.filter (fun p => x.testBit p.2) [(v, 0 + l.length)]).map (·.1)) = _
  rw [Nat.zero_add]
  by_cases c : x.testBit l.length = true
  · simp [c]
  · simp [c]
theorem only_eq (a : Abs) (x : Nat) : Kh411.only a x = ⟨a.m, a.rule, fil x a.deeds⟩ := by
  unfold Kh411.only fil
  congr 1
  congr 1
  refine List.filter_congr fun p _ => ?_
  exact has_tb x p.2
theorem fil_sub {α : Type} {x : Nat} {l : List α} {v : α} (h : v ∈ fil x l) : v ∈ l := by
  unfold fil at h
  obtain ⟨p, hp, e⟩ := List.mem_map.mp h
  have := (List.mem_filter.mp hp).1
  subst e
  obtain ⟨v, i⟩ := p
  exact (List.mem_zipIdx' this).2 ▸ List.getElem_mem _
theorem fil_mem {α : Type} {x : Nat} {l : List α} {i : Nat} {v : α} (e : l[i]? = some v) (h : x.testBit i = true) : v ∈ fil x l := by
  unfold fil
  refine List.mem_map.mpr ⟨(v, i), List.mem_filter.mpr ⟨?_, h⟩, rfl⟩
  exact List.mem_zipIdx_iff_getElem?.mpr e
theorem fil_zero {α : Type} (l : List α) : fil 0 l = [] := by
  unfold fil
  rw [List.map_eq_nil_iff, List.filter_eq_nil_iff]
  intro p _
  simp
theorem only_zero (a : Abs) : Kh411.only a 0 = ⟨a.m, a.rule, []⟩ := by
  rw [only_eq, fil_zero]
/-! ### no deeds -/
theorem reach_none {m r c t : Nat} (h : Reach ⟨m, r, []⟩ c t) : t = c := by
  cases h with
  | here => rfl
  | more _ s =>
    obtain ⟨d, hd, _⟩ := s
    cases hd
theorem come_none {m r c : Nat} (hc : c < 2 ^ m) : ∀ {n t : Nat}, Come ⟨m, r, []⟩ c n t → t = c
  | 0, t, h => (come_zero (a := ⟨m, r, []⟩) hc).mp h
  | n + 1, t, h => by
    obtain ⟨u, hu, y, hy, e⟩ := (come_succ (a := ⟨m, r, []⟩) hc).mp h
    have e1 := come_none hc hu
    have e2 := reach_none ((mem_reach (a := ⟨m, r, []⟩) hc).mp hy)
    subst e1 e2
    rw [e, put2, Nat.xor_self, Nat.or_self, Nat.xor_zero]
theorem keeps_none {m r n : Nat} : Kh411.keeps ⟨m, r, []⟩ n = true := keeps_iff.mpr fun c hc hr t ht => by
  rw [come_none hc ht]
  exact hr
/-! ### more copies than facts bring about nothing new -/
/-- each place of f comes from one of l that lies within f -/
def Cov (l : List Nat) (f : Nat) : Prop := ∀ i, f.testBit i = true → ∃ g, g ∈ l ∧ g.testBit i = true ∧ ∀ j, g.testBit j = true → f.testBit j = true
theorem cov_or {l : List Nat} {f g : Nat} (hf : Cov l f) (hg : g ∈ l) : Cov l (f ||| g) := by
  intro i hi
  rw [Nat.testBit_or, Bool.or_eq_true] at hi
  rcases hi with h | h
  · obtain ⟨k, hk, ki, kj⟩ := hf i h
    exact ⟨k, hk, ki, fun j hj => by rw [Nat.testBit_or, kj j hj, Bool.true_or]⟩
  · exact ⟨g, hg, h, fun j hj => by rw [Nat.testBit_or, hj, Bool.or_true]⟩
theorem cov_part {m : Nat} {l : List Nat} {f : Nat} (h0 : 0 ∈ l) (hl : ∀ g, g ∈ l → g < 2 ^ m) (hf : Cov l f) : ∀ k, ∃ h, h ∈ Kh411.unions m l k ∧ (∀ j, h.testBit j = true → f.testBit j = true) ∧ ∀ j, j < k → h.testBit j = f.testBit j
  | 0 => ⟨0, by simp [Kh411.unions], fun j hj => by simp at hj, fun j hj => absurd hj (Nat.not_lt_zero j)⟩
  | k + 1 => by
    obtain ⟨h, hu, hs, ha⟩ := cov_part h0 hl hf k
    have lh := unions_lt hu
    by_cases c : f.testBit k = true
    · obtain ⟨g, hg, gk, gs⟩ := hf k c
      refine ⟨h ||| g, mem_unions.mpr ⟨h, hu, g, hg, (join_eq lh (hl g hg)).symm⟩, fun j hj => ?_, fun j hj => ?_⟩
      · rw [Nat.testBit_or, Bool.or_eq_true] at hj
        rcases hj with z | z
        · exact hs j z
        · exact gs j z
      · by_cases e : j = k
        · subst e
          rw [Nat.testBit_or, gk, Bool.or_true, c]
        · rw [Nat.testBit_or, ha j (by omega)]
          cases q : g.testBit j with
          | false => rw [Bool.or_false]
          | true => rw [gs j q]; rfl
    · refine ⟨h, mem_unions.mpr ⟨h, hu, 0, h0, by rw [join_eq lh (Nat.two_pow_pos m), Nat.or_zero]⟩, hs, fun j hj => ?_⟩
      by_cases e : j = k
      · subst e
        cases q : h.testBit j with
        | false => simpa using c
        | true => exact absurd (hs j q) c
      · exact ha j (by omega)
theorem cov_mem {m : Nat} {l : List Nat} {f : Nat} (h0 : 0 ∈ l) (hl : ∀ g, g ∈ l → g < 2 ^ m) (hf : Cov l f) (lf : f < 2 ^ m) : f ∈ Kh411.unions m l m := by
  obtain ⟨h, hu, _, ha⟩ := cov_part h0 hl hf m
  have lh := unions_lt hu
  have e : h = f := by
    apply Nat.eq_of_testBit_eq
    intro i
    by_cases c : i < m
    · exact ha i c
    · rw [tb_lt lh, tb_lt lf]
      simp [c]
  exact e ▸ hu
theorem zero_flip {a : Abs} {c : Nat} (hc : c < 2 ^ a.m) : 0 ∈ (Kh411.reach a c).map (Kh411.flips a.m c) :=
  List.mem_map.mpr ⟨c, (mem_reach hc).mpr .here, by rw [flips_eq hc hc, Nat.xor_self]⟩
theorem flips_all {a : Abs} {c : Nat} : ∀ g, g ∈ (Kh411.reach a c).map (Kh411.flips a.m c) → g < 2 ^ a.m := fun g hg => by
  obtain ⟨r, _, e⟩ := List.mem_map.mp hg
  rw [← e]
  exact flips_lt _ _ _
theorem fold_cov {a : Abs} {c : Nat} (hc : c < 2 ^ a.m) : ∀ (l : List Nat) (t : Nat), t < 2 ^ a.m → Cov ((Kh411.reach a c).map (Kh411.flips a.m c)) t → (∀ s, s ∈ l → Reach a c s) →
    Cov ((Kh411.reach a c).map (Kh411.flips a.m c)) (l.foldl (fun t y => Kh411.join a.m t (Kh411.flips a.m c y)) t)
  | [], _, _, h, _ => h
  | s :: l, t, lt, h, hs => by
    have q := (mem_reach hc).mpr (hs s List.mem_cons_self)
    have mf : Kh411.flips a.m c s ∈ (Kh411.reach a c).map (Kh411.flips a.m c) := List.mem_map.mpr ⟨s, q, rfl⟩
    refine fold_cov hc l _ (join_lt _ _ _) ?_ fun u hu => hs u (List.mem_cons_of_mem _ hu)
    show Cov _ (Kh411.join a.m t (Kh411.flips a.m c s))
    rw [join_eq lt (flips_lt _ _ _)]
    exact cov_or h mf
/-- what so many copies bring about, however many they are, is what as many as facts may bring about -/
theorem together_come {a : Abs} {c : Nat} {l : List Nat} (hc : c < 2 ^ a.m) (hs : ∀ s, s ∈ l → Reach a c s) : Come a c a.m (Kh411.together a.m c l) := by
  have lf : ∀ (l : List Nat) (t : Nat), t < 2 ^ a.m → l.foldl (fun t y => Kh411.join a.m t (Kh411.flips a.m c y)) t < 2 ^ a.m := by
    intro l
    induction l with
    | nil => exact fun t h => h
    | cons s l ih => exact fun t _ => ih _ (join_lt _ _ _)
  refine ⟨_, cov_mem (zero_flip hc) flips_all (fold_cov hc l 0 (Nat.two_pow_pos _) (fun i hi => by simp at hi) hs) (lf l 0 (Nat.two_pow_pos _)), rfl⟩
section
variable {w : Work}
theorem ahead_come (h : WF w) : Come (Kh411.only w.a w.allowed) w.common w.a.m (Kh413.ahead w) := together_come (a := Kh411.only w.a w.allowed) h.cm h.rc
theorem ahead_let (h : WF w) : w.a.rule.testBit (Kh413.ahead w) = true :=
  (keeps_iff (a := Kh411.only w.a w.allowed)).mp h.fr w.common h.cm h.cl _ (ahead_come h)
theorem once_eq (h : atOnce w = true) : ∀ s, s ∈ w.copies → s = w.common := fun s hs => by
  unfold Kh413.atOnce at h
  rw [List.all_eq_true] at h
  exact eq_of_beq (h s hs)
theorem wf_set1 (h : WF w) {s : Nat} (hs : s < 2 ^ w.a.m) (hl : w.a.rule.testBit s = true) : WF (set1 w s) where
  m1 := h.m1
  m4 := h.m4
  rl := h.rl
  dl := h.dl
  dk := h.dk
  al := h.al
  cm := hs
  c2 := by
    show 2 ≤ (List.replicate w.copies.length s).length
    rw [List.length_replicate]
    exact h.c2
  c4 := by
    show (List.replicate w.copies.length s).length ≤ 4
    rw [List.length_replicate]
    exact h.c4
  cs := fun t ht => by
    rw [List.eq_of_mem_replicate ht]
    exact hs
  an := h.an
  av := h.av
  cl := hl
  fr := h.fr
  rc := fun t ht => by
    rw [List.eq_of_mem_replicate ht]
    exact .here
theorem wf_new (h : WF w) (o : atOnce w = true) {a : Abs} (em : a.m = w.a.m) (rl : a.rule < 2 ^ 2 ^ w.a.m) (dl : a.deeds.length ≤ 6) (dk : ∀ d, d ∈ a.deeds → okD w.a.m d) (cl : a.rule.testBit w.common = true) : WF { w with a := a, allowed := 0 } where
  m1 := by rw [em]; exact h.m1
  m4 := by rw [em]; exact h.m4
  rl := by rw [em]; exact rl
  dl := dl
  dk := by rw [em]; exact dk
  al := Nat.two_pow_pos _
  cm := by rw [em]; exact h.cm
  c2 := h.c2
  c4 := h.c4
  cs := by rw [em]; exact h.cs
  an := by rw [em]; exact h.an
  av := h.av
  cl := cl
  fr := by
    show Kh411.keeps (Kh411.only a 0) a.m = true
    rw [only_zero]
    exact keeps_none
  rc := fun s hs => by
    rw [once_eq o s hs]
    exact .here
theorem comes_ok {d : Deed} {s : Nat} (h : 0 ≤ comes w d s) : ready d s = true ∧ w.a.rule.testBit (out d s) = true := by
  unfold comes at h
  cases h1 : ready d s with
  | false =>
    rw [h1, if_pos rfl] at h
    exact absurd h (by decide)
  | true =>
    cases h2 : w.a.rule.testBit (out d s) with
    | false =>
      rw [h1, h2, if_neg (by decide), if_pos rfl] at h
      exact absurd h (by decide)
    | true => exact ⟨rfl, rfl⟩
theorem wf_do (h : WF w) {c i s : Nat} {d : Deed} (q : w.copies[c]? = some s) (e : w.a.deeds[i]? = some d) (l : w.allowed.testBit i = true) (k : 0 ≤ comes w d s) : WF { w with copies := w.copies.set c (out d s) } := by
  have ms := List.mem_of_getElem? q
  have hs := h.cs s ms
  have hd := h.dk d (List.mem_of_getElem? e)
  obtain ⟨k1, k2⟩ := comes_ok k
  have mm : ∀ t, t ∈ w.copies.set c (out d s) → t ∈ w.copies ∨ t = out d s := fun t ht => List.mem_or_eq_of_mem_set ht
  refine { h with c2 := ?_, c4 := ?_, cs := fun t ht => ?_, rc := fun t ht => ?_ }
  · show 2 ≤ (w.copies.set c (out d s)).length
    rw [List.length_set]
    exact h.c2
  · show (w.copies.set c (out d s)).length ≤ 4
    rw [List.length_set]
    exact h.c4
  · rcases mm t ht with z | z
    · exact h.cs t z
    · rw [z]
      exact out_lt hd hs
  · rcases mm t ht with z | z
    · exact h.rc t z
    · rw [z]
      refine .more (h.rc s ms) ⟨d, ?_, ?_⟩
      · rw [only_eq]
        exact fil_mem e l
      · have := done_is (a := Kh411.only w.a w.allowed) (d := d) (s := s) hd hs
        rw [this, if_pos]
        show (ready d s && w.a.rule.testBit (out d s)) = true
        rw [k1, k2]
        rfl
theorem wf_answer (h : WF w) {s v : Nat} (hv : v ≤ 7) : WF { w with answers := w.answers.set s v } :=
  { h with
    an := by
      show (w.answers.set s v).length = _
      rw [List.length_set]
      exact h.an
    av := fun x hx => by
      rcases List.mem_or_eq_of_mem_set hx with z | z
      · exact h.av x z
      · omega }
theorem sound_okD {m : Nat} {d : Deed} (h : sound m d = true) : okD m d := by
  unfold sound at h
  simp only [Bool.and_eq_true, decide_eq_true_eq, or_lt_iff] at h
  exact ⟨h.1.1.2, h.2.2⟩
theorem wf_does (h : WF w) {c : Kh413.Call} (hc : Kh413.changes c = true) (hz : 0 ≤ (does w c).2.ret) : WF (does w c).1 := by
  have bad : ∀ {z : Int} {u : Work}, z < 0 → does w c = (u, say z) → WF (does w c).1 := fun hn e => by
    rw [e] at hz
    exact absurd hz (Int.not_le.mpr hn)
  have b1 : atOnce w = false ∨ atOnce w = true := by cases atOnce w <;> simp
  cases c with
  | rule r =>
    rcases b1 with o | o
    · exact bad (by decide) (rule16 o)
    · by_cases q : r < 2 ^ 2 ^ w.a.m
      · cases l : r.testBit w.common with
        | false => exact bad (by decide) (rule33 o q l)
        | true =>
          rw [rule0 o q l]
          exact wf_new h o rfl q h.dl h.dk l
      · exact bad (by decide) (rule22 o (by omega))
  | deed n b x y =>
    rcases b1 with o | o
    · exact bad (by decide) (deed16 o)
    · cases q : sound w.a.m ⟨n, b, x, y⟩ with
      | false => exact bad (by decide) (deed22 o q)
      | true =>
        by_cases l : w.a.deeds.length = 6
        · exact bad (by decide) (deed28 o q l)
        · rw [deed0 h o q l]
          refine wf_new h o rfl h.rl ?_ ?_ h.cl
          · show (w.a.deeds ++ [_]).length ≤ 6
            rw [List.length_append]
            have := h.dl
            show w.a.deeds.length + 1 ≤ 6
            omega
          · intro d hd
            rcases List.mem_append.mp hd with z | z
            · exact h.dk d z
            · rw [List.mem_singleton.mp z]
              exact sound_okD q
  | drop i =>
    rcases b1 with o | o
    · exact bad (by decide) (drop16 o)
    · by_cases q : i < w.a.deeds.length
      · rw [drop0 h o q]
        refine wf_new h o rfl h.rl ?_ (fun d hd => h.dk d (List.mem_of_mem_eraseIdx hd)) h.cl
        show (w.a.deeds.eraseIdx i).length ≤ 6
        rw [List.length_eraseIdx_of_lt q]
        have := h.dl
        omega
      · exact bad (by decide) (drop2 o (by omega))
  | allow x =>
    rcases b1 with o | o
    · exact bad (by decide) (allow16 o)
    · by_cases q : x < 2 ^ w.a.deeds.length
      · cases l : Kh411.keeps (Kh411.only w.a x) w.a.m with
        | false => exact bad (by decide) (allow33 h o q l)
        | true =>
          rw [allow0 h o q l]
          exact { h with
            al := q
            fr := l
            rc := fun s hs => by
              rw [once_eq o s hs]
              exact .here }
      · exact bad (by decide) (allow22 o (by omega))
  | set s =>
    rcases b1 with o | o
    · exact bad (by decide) (set16 o)
    · by_cases q : s < 2 ^ w.a.m
      · cases l : w.a.rule.testBit s with
        | false => exact bad (by decide) (set33 o q l)
        | true =>
          rw [set0 o q l]
          exact wf_set1 h q l
      · exact bad (by decide) (set22 o (by omega))
  | answer s v =>
    by_cases q : s < 2 ^ w.a.m
    · by_cases l : v ≤ 7
      · rw [answer0 q l]
        exact wf_answer h l
      · exact bad (by decide) (answer22 (.inr (by omega)))
    · exact bad (by decide) (answer22 (.inl (by omega)))
  | do_ c i =>
    by_cases q : c < w.copies.length
    · by_cases q2 : i < w.a.deeds.length
      · have e := List.getElem?_eq_getElem q2
        have e1 := List.getElem?_eq_getElem q
        cases l : w.allowed.testBit i with
        | false => exact bad (by decide) (do35 q e l)
        | true =>
          have go := do_go h e1 e l
          by_cases k : 0 ≤ comes w w.a.deeds[i] w.copies[c]
          · rw [if_pos k] at go
            rw [go]
            exact wf_do h e1 e l k
          · rw [if_neg k] at go
            exact bad (by omega) go
      · exact bad (by decide) (do2i (by omega))
    · exact bad (by decide) (do2c (by omega))
  | ask i =>
    by_cases q2 : i < w.a.deeds.length
    · have e := List.getElem?_eq_getElem q2
      have go := ask_go h e
      by_cases k : 0 ≤ comes w w.a.deeds[i] (Kh413.ahead w)
      · rw [if_pos k] at go
        rw [go]
        exact wf_set1 h (out_lt (h.dk _ (List.mem_of_getElem? e)) (ahead_lt h)) (comes_ok k).2
      · rw [if_neg k] at go
        exact bad (by omega) go
    · exact bad (by decide) (ask2 (by omega))
  | gather => exact wf_set1 h (ahead_lt h) (ahead_let h)
  | _ => cases hc
/-- a world right behind begin -/
def fresh (m c : Nat) : Work := ⟨⟨m, 2 ^ 2 ^ m - 1, []⟩, 0, 0, List.replicate c 0, List.replicate (2 ^ m) 0⟩
theorem wf_fresh {m c : Nat} (h1 : 1 ≤ m) (h4 : m ≤ 4) (c2 : 2 ≤ c) (c4 : c ≤ 4) : WF (fresh m c) where
  m1 := h1
  m4 := h4
  rl := Nat.sub_lt (Nat.two_pow_pos _) (by decide)
  dl := Nat.zero_le _
  dk := fun d hd => by cases hd
  al := by show 0 < 2 ^ 0; decide
  cm := Nat.two_pow_pos _
  c2 := by
    show 2 ≤ (List.replicate c 0).length
    rw [List.length_replicate]
    exact c2
  c4 := by
    show (List.replicate c 0).length ≤ 4
    rw [List.length_replicate]
    exact c4
  cs := fun s hs => by
    rw [List.eq_of_mem_replicate hs]
    exact Nat.two_pow_pos _
  an := List.length_replicate
  av := fun v hv => by
    rw [List.eq_of_mem_replicate hv]
    decide
  cl := by
    show (2 ^ 2 ^ m - 1).testBit 0 = true
    rw [Nat.testBit_two_pow_sub_one]
    exact decide_eq_true (Nat.two_pow_pos m)
  fr := by
    show Kh411.keeps (Kh411.only _ 0) m = true
    rw [only_zero]
    exact keeps_none
  rc := fun s hs => by
    rw [List.eq_of_mem_replicate hs]
    exact .here
end
end Na

/-! What the looks answer, said by members alone: in whatever order the program finds it. -/
namespace Na
open Kh411 (Abs Deed)
open Kh413 (Work say does atOnce set1 given)
/-! ### rows that do not fall, and what comes together of them -/
theorem mem_rows {l : List Nat} : ∀ {k f : Nat} {r : List Nat}, r ∈ Kh411.rows l k f ↔ r.length = k ∧ (∀ x, x ∈ r → x ∈ l) ∧ (f :: r).Pairwise (· ≤ ·)
  | 0, f, r => by
    show r ∈ [[]] ↔ _
    rw [List.mem_singleton]
    constructor
    · intro e
      subst e
      exact ⟨rfl, fun x hx => by simp at hx, by simp⟩
    · rintro ⟨e, _⟩
      exact List.eq_nil_of_length_eq_zero e
  | k + 1, f, r => by
    show r ∈ (l.filter fun x => decide (f ≤ x)).flatMap (fun x => (Kh411.rows l k x).map fun r => x :: r) ↔ _
    rw [List.mem_flatMap]
    constructor
    · rintro ⟨x, hx, q⟩
      obtain ⟨s, hs, e⟩ := List.mem_map.mp q
      rw [List.mem_filter] at hx
      obtain ⟨h1, h2, h3⟩ := mem_rows.mp hs
      have fx : f ≤ x := of_decide_eq_true hx.2
      subst e
      refine ⟨by rw [List.length_cons, h1], fun y hy => ?_, ?_⟩
      · rcases List.mem_cons.mp hy with z | z
        · rw [z]
          exact hx.1
        · exact h2 y z
      · rw [List.pairwise_cons]
        refine ⟨fun y hy => ?_, h3⟩
        rcases List.mem_cons.mp hy with z | z
        · rw [z]
          exact fx
        · exact Nat.le_trans fx ((List.pairwise_cons.mp h3).1 y z)
    · rintro ⟨h1, h2, h3⟩
      cases r with
      | nil => simp at h1
      | cons x s =>
        rw [List.pairwise_cons] at h3
        refine ⟨x, List.mem_filter.mpr ⟨h2 x List.mem_cons_self, decide_eq_true (h3.1 x List.mem_cons_self)⟩, List.mem_map.mpr ⟨s, mem_rows.mpr ⟨?_, fun y hy => h2 y (List.mem_cons_of_mem _ hy), h3.2⟩, rfl⟩⟩
        rw [List.length_cons] at h1
        omega
/-- so many copies, each where it may come: what is put together -/
theorem fold_app {m c : Nat} (l : List Nat) (y t : Nat) : (l ++ [y]).foldl (fun t y => Kh411.join m t (Kh411.flips m c y)) t = Kh411.join m (l.foldl (fun t y => Kh411.join m t (Kh411.flips m c y)) t) (Kh411.flips m c y) := by
  rw [List.foldl_append]
  rfl
theorem unions_rows {a : Abs} {c : Nat} : ∀ {k f : Nat}, f ∈ Kh411.unions a.m ((Kh411.reach a c).map (Kh411.flips a.m c)) k ↔ ∃ l : List Nat, l.length = k ∧ (∀ x, x ∈ l → x ∈ Kh411.reach a c) ∧ f = l.foldl (fun t y => Kh411.join a.m t (Kh411.flips a.m c y)) 0
  | 0, f => by
    show f ∈ [0] ↔ _
    rw [List.mem_singleton]
    constructor
    · intro e
      exact ⟨[], rfl, fun x hx => by simp at hx, e⟩
    · rintro ⟨l, h1, _, e⟩
      have : l = [] := List.eq_nil_of_length_eq_zero h1
      subst this
      exact e
  | k + 1, f => by
    rw [mem_unions]
    constructor
    · rintro ⟨g, hg, q, hq, e⟩
      obtain ⟨y, hy, ey⟩ := List.mem_map.mp hq
      obtain ⟨l, h1, h2, h3⟩ := unions_rows.mp hg
      refine ⟨l ++ [y], by rw [List.length_append, h1]; rfl, fun x hx => ?_, ?_⟩
      · rcases List.mem_append.mp hx with z | z
        · exact h2 x z
        · rw [List.mem_singleton.mp z]
          exact hy
      · rw [fold_app, ← h3, ey]
        exact e
    · rintro ⟨l, h1, h2, e⟩
      have ne : l ≠ [] := fun z => by
        rw [z] at h1
        simp at h1
      have el := List.dropLast_concat_getLast ne
      rw [← el] at e h1 h2
      rw [fold_app] at e
      refine ⟨_, unions_rows.mpr ⟨l.dropLast, ?_, fun x hx => h2 x (List.mem_append.mpr (.inl hx)), rfl⟩, _, List.mem_map.mpr ⟨l.getLast ne, h2 _ (List.mem_append.mpr (.inr (by simp))), rfl⟩, e⟩
      rw [List.length_append] at h1
      simpa using h1
theorem come_rows {a : Abs} {c k t : Nat} : Come a c k t ↔ ∃ l : List Nat, l.length = k ∧ (∀ x, x ∈ l → x ∈ Kh411.reach a c) ∧ t = Kh411.together a.m c l := by
  constructor
  · rintro ⟨f, hf, e⟩
    obtain ⟨l, h1, h2, h3⟩ := unions_rows.mp hf
    exact ⟨l, h1, h2, by rw [e, h3]; rfl⟩
  · rintro ⟨l, h1, h2, e⟩
    exact ⟨_, unions_rows.mpr ⟨l, h1, h2, rfl⟩, e⟩
theorem put_perm {c : Nat} {l r : List Nat} (p : l.Perm r) : put c l = put c r := by
  unfold put
  congr 1
  refine p.foldl_eq' (fun x _ y _ z => ?_) 0
  rw [Nat.or_assoc, Nat.or_comm (x ^^^ c), ← Nat.or_assoc]
theorem sort_row (l : List Nat) : ∃ r : List Nat, r.Perm l ∧ r.Pairwise (· ≤ ·) := by
  refine ⟨l.mergeSort, List.mergeSort_perm l _, ?_⟩
  have := List.pairwise_mergeSort (le := fun a b : Nat => decide (a ≤ b)) (fun a b c h1 h2 => by simp at *; omega) (fun a b => by simp; omega) l
  exact this.imp fun h => by simpa using h
/-- what so many copies may bring about, by rows that do not fall -/
theorem come_sorted {a : Abs} {c k t : Nat} (hc : c < 2 ^ a.m) : Come a c k t ↔ ∃ l, l ∈ Kh411.rows (Kh411.reach a c) k 0 ∧ t = Kh411.together a.m c l := by
  rw [come_rows]
  have lt : ∀ x, x ∈ Kh411.reach a c → x < 2 ^ a.m := fun x hx => reach_lt hc ((mem_reach hc).mp hx)
  constructor
  · rintro ⟨l, h1, h2, e⟩
    obtain ⟨r, p, so⟩ := sort_row l
    have h2' : ∀ x, x ∈ r → x ∈ Kh411.reach a c := fun x hx => h2 x (p.mem_iff.mp hx)
    refine ⟨r, mem_rows.mpr ⟨by rw [p.length_eq, h1], h2', List.pairwise_cons.mpr ⟨fun y _ => Nat.zero_le y, so⟩⟩, ?_⟩
    rw [e, ← put_eq hc (fun x hx => lt x (h2 x hx)), ← put_eq hc (fun x hx => lt x (h2' x hx)), put_perm p]
  · rintro ⟨l, hl, e⟩
    obtain ⟨h1, h2, _⟩ := mem_rows.mp hl
    exact ⟨l, h1, h2, e⟩
/-! ### broken, kept, the fewest -/
theorem brokenAt_none {a : Abs} {k s : Nat} (hs : s < 2 ^ a.m) : Kh411.brokenAt a k s = none ↔ (a.rule.testBit s = true → ∀ t, Come a s k t → a.rule.testBit t = true) := by
  unfold Kh411.brokenAt
  rw [let_tb]
  cases h : a.rule.testBit s with
  | false => simp
  | true =>
    rw [if_pos rfl, List.find?_eq_none]
    constructor
    · intro q _ t ht
      obtain ⟨l, hl, e⟩ := (come_sorted hs).mp ht
      have := q l hl
      rw [let_tb, ← e] at this
      simpa using this
    · intro q l hl
      have := q rfl _ ((come_sorted hs).mpr ⟨l, hl, rfl⟩)
      rw [let_tb, this]
      simp
theorem broken_none {a : Abs} {k : Nat} : Kh411.broken a k = none ↔ Kh411.keeps a k = true := by
  unfold Kh411.broken Kh411.states
  rw [List.findSome?_eq_none_iff, keeps_iff]
  constructor
  · intro h c hc hr t ht
    have := h c (List.mem_range.mpr hc)
    rw [Option.map_eq_none_iff] at this
    exact (brokenAt_none hc).mp this hr t ht
  · intro h c hc
    have hc := List.mem_range.mp hc
    rw [Option.map_eq_none_iff]
    exact (brokenAt_none hc).mpr fun hr t ht => h c hc hr t ht
theorem come_here {a : Abs} {c : Nat} (hc : c < 2 ^ a.m) : ∀ k, Come a c k c
  | 0 => (come_zero hc).mpr rfl
  | k + 1 => (come_succ hc).mpr ⟨c, come_here hc k, c, (mem_reach hc).mpr .here, by rw [put2, Nat.xor_self, Nat.or_self, Nat.xor_zero]⟩
theorem come_up {a : Abs} {c k t : Nat} (hc : c < 2 ^ a.m) (h : Come a c k t) : Come a c (k + 1) t := by
  refine (come_succ hc).mpr ⟨t, h, c, (mem_reach hc).mpr .here, ?_⟩
  rw [put2, Nat.xor_self, Nat.or_zero, Nat.xor_comm t c, xx]
theorem keeps_down {a : Abs} {k : Nat} (h : Kh411.keeps a (k + 1) = true) : Kh411.keeps a k = true :=
  keeps_iff.mpr fun c hc hr t ht => keeps_iff.mp h c hc hr t (come_up hc ht)
theorem keeps_le {a : Abs} {k j : Nat} (h : k ≤ j) (q : Kh411.keeps a j = true) : Kh411.keeps a k = true := by
  induction j with
  | zero =>
    have : k = 0 := by omega
    subst this
    exact q
  | succ j ih =>
    by_cases e : k = j + 1
    · subst e
      exact q
    · exact ih (by omega) (keeps_down q)
theorem keeps_all {a : Abs} (q : Kh411.keeps a a.m = true) (k : Nat) : Kh411.keeps a k = true :=
  keeps_iff.mpr fun c hc hr t ht => by
    obtain ⟨l, _, h2, e⟩ := come_rows.mp ht
    have := together_come (a := a) hc (l := l) fun s hs => (mem_reach hc).mp (h2 s hs)
    rw [e]
    exact keeps_iff.mp q c hc hr _ this
theorem keeps_one {a : Abs} : Kh411.keeps a 1 = true := keeps_iff.mpr fun c hc hr t ht => by
  obtain ⟨u, hu, r, hr2, e⟩ := (come_succ hc).mp ht
  have eu := (come_zero hc).mp hu
  have q := (mem_reach hc).mp hr2
  rw [e, eu, put2, Nat.xor_self, Nat.zero_or, Nat.xor_comm r c, xx, ← let_tb]
  exact reach_let (by rw [let_tb]; exact hr) q
theorem keeps_zero {a : Abs} : Kh411.keeps a 0 = true := keeps_down keeps_one
/-! ### what may come, as one copy knows -/
theorem mem_mayCome {w : Work} (h : WF w) {i x t : Nat} (e : w.copies[i]? = some x) : t ∈ Kh413.mayCome w i ↔ ∃ u, Come (Kh411.only w.a w.allowed) w.common (w.copies.length - 1) u ∧ t = put w.common [u, x] := by
  have gx : w.copies.getD i 0 = x := by
    rw [List.getD_eq_getElem?_getD, e]
    rfl
  have hx : x < 2 ^ w.a.m := h.cs x (List.mem_of_getElem? e)
  unfold Kh413.mayCome
  rw [List.mem_eraseDups, List.mem_map]
  constructor
  · rintro ⟨f, hf, q⟩
    have lf : f < 2 ^ w.a.m := unions_lt hf
    refine ⟨Kh411.flips w.a.m w.common f, ⟨f, hf, rfl⟩, ?_⟩
    rw [gx, flips_eq h.cm hx, join_eq lf (xor_lt h.cm hx), flips_eq h.cm (or_lt lf (xor_lt h.cm hx))] at q
    rw [← q, flips_eq h.cm lf, put2, xy, Nat.xor_comm x w.common]
  · rintro ⟨u, ⟨f, hf, eu⟩, q⟩
    have lf : f < 2 ^ w.a.m := unions_lt hf
    refine ⟨f, hf, ?_⟩
    have eu' : u = Kh411.flips w.a.m w.common f := eu
    rw [gx, flips_eq h.cm hx, join_eq lf (xor_lt h.cm hx), flips_eq h.cm (or_lt lf (xor_lt h.cm hx)), q, eu', flips_eq h.cm lf, put2, xy, Nat.xor_comm x w.common]
theorem mayCome_lt {w : Work} {i t : Nat} (h : t ∈ Kh413.mayCome w i) : t < 2 ^ w.a.m := by
  unfold Kh413.mayCome at h
  rw [List.mem_eraseDups, List.mem_map] at h
  obtain ⟨f, _, e⟩ := h
  rw [← e]
  exact flips_lt _ _ _
/-- the answer of may_come: all that may come, in order -/
theorem mayCome_list {w : Work} {i : Nat} {l : List Nat} (so : l.Pairwise (· < ·)) (hm : ∀ t, t ∈ l ↔ t ∈ Kh413.mayCome w i) : (Kh411.states w.a).filter (fun s => (Kh413.mayCome w i).contains s) = l := by
  refine sorted_ext ((range_sorted _).filter _) so fun t => ?_
  rw [List.mem_filter, hm, List.contains_iff_mem]
  constructor
  · exact fun q => q.2
  · exact fun q => ⟨List.mem_range.mpr (mayCome_lt q), q⟩
theorem given_lt {w : Work} (h : WF w) (s : Nat) : given w s < 8 := by
  unfold Kh413.given
  rw [List.getD_eq_getElem?_getD]
  cases e : w.answers[s]? with
  | none => decide
  | some v => exact h.av v (List.mem_of_getElem? e)
theorem meets_tb {g : Nat → Nat} (hg : ∀ s, g s < 8) : ∀ (l : List Nat) (t j : Nat), t < 8 → (l.foldl (fun t s => Kh412.meet 3 t (g s)) t).testBit j = (t.testBit j && l.all fun s => (g s).testBit j) ∧ l.foldl (fun t s => Kh412.meet 3 t (g s)) t < 8
  | [], t, j, ht => by simp [ht]
  | s :: l, t, j, ht => by
    have e : Kh412.meet 3 t (g s) = t &&& g s := meet2_eq (m := 3) ht
    have lt : t &&& g s < 8 := Nat.lt_of_le_of_lt Nat.and_le_left ht
    have ih := meets_tb hg l (t &&& g s) j lt
    rw [List.foldl_cons, e]
    refine ⟨?_, ih.2⟩
    rw [ih.1, Nat.testBit_and, List.all_cons, Bool.and_assoc]
theorem joins_tb {g : Nat → Nat} (hg : ∀ s, g s < 8) : ∀ (l : List Nat) (t j : Nat), t < 8 → (l.foldl (fun t s => Kh412.join 3 t (g s)) t).testBit j = (t.testBit j || l.any fun s => (g s).testBit j) ∧ l.foldl (fun t s => Kh412.join 3 t (g s)) t < 8
  | [], t, j, ht => by simp [ht]
  | s :: l, t, j, ht => by
    have e : Kh412.join 3 t (g s) = t ||| g s := join2_eq (m := 3) ht (hg s)
    have lt : t ||| g s < 8 := or_lt (m := 3) ht (hg s)
    have ih := joins_tb hg l (t ||| g s) j lt
    rw [List.foldl_cons, e]
    refine ⟨?_, ih.2⟩
    rw [ih.1, Nat.testBit_or, List.any_cons, Bool.or_assoc]
/-- sure and may, by whatever list has the same members -/
theorem all_mem {l r : List Nat} (h : ∀ t, t ∈ l ↔ t ∈ r) (p : Nat → Bool) : l.all p = r.all p := by
  rw [Bool.eq_iff_iff, List.all_eq_true, List.all_eq_true]
  exact ⟨fun q t ht => q t ((h t).mpr ht), fun q t ht => q t ((h t).mp ht)⟩
theorem any_mem {l r : List Nat} (h : ∀ t, t ∈ l ↔ t ∈ r) (p : Nat → Bool) : l.any p = r.any p := by
  rw [Bool.eq_iff_iff, List.any_eq_true, List.any_eq_true]
  exact ⟨fun ⟨t, a, b⟩ => ⟨t, (h t).mp a, b⟩, fun ⟨t, a, b⟩ => ⟨t, (h t).mpr a, b⟩⟩
theorem and_tb {g : Nat → Nat} : ∀ (l : List Nat) (t j : Nat), (l.foldl (fun t s => t &&& g s) t).testBit j = (t.testBit j && l.all fun s => (g s).testBit j)
  | [], t, j => by simp
  | s :: l, t, j => by rw [List.foldl_cons, and_tb l, Nat.testBit_and, List.all_cons, Bool.and_assoc]
theorem or_tb {g : Nat → Nat} : ∀ (l : List Nat) (t j : Nat), (l.foldl (fun t s => t ||| g s) t).testBit j = (t.testBit j || l.any fun s => (g s).testBit j)
  | [], t, j => by simp
  | s :: l, t, j => by rw [List.foldl_cons, or_tb l, Nat.testBit_or, List.any_cons, Bool.or_assoc]
theorem sure_eq {w : Work} (h : WF w) {i : Nat} {l : List Nat} (hm : ∀ t, t ∈ l ↔ t ∈ Kh413.mayCome w i) : Kh413.sure w i = l.foldl (fun t s => t &&& given w s) 7 := by
  apply Nat.eq_of_testBit_eq
  intro j
  unfold Kh413.sure
  rw [and_tb, all_mem hm]
  exact (meets_tb (given_lt h) _ 7 j (by decide)).1
theorem may_eq {w : Work} (h : WF w) {i : Nat} {l : List Nat} (hm : ∀ t, t ∈ l ↔ t ∈ Kh413.mayCome w i) : Kh413.may w i = l.foldl (fun t s => t ||| given w s) 0 := by
  apply Nat.eq_of_testBit_eq
  intro j
  unfold Kh413.may
  rw [or_tb, any_mem hm]
  exact (joins_tb (given_lt h) _ 0 j (by decide)).1
end Na

/-! The fewest copies; sets of deeds. -/
namespace Na
open Kh411 (Abs Deed)
def fewestOf (a : Abs) : Option Nat := (List.range (a.m + 1)).find? fun k => decide (2 ≤ k) && !Kh411.keeps a k
theorem fewest_none {a : Abs} (h : Kh411.keeps a a.m = true) : fewestOf a = none := by
  unfold fewestOf
  rw [List.find?_eq_none]
  intro k _
  rw [keeps_all h k]
  simp
theorem fewest_some {a : Abs} {k : Nat} (h : Kh411.keeps a k = false) (hl : ∀ j, j < k → Kh411.keeps a j = true) : fewestOf a = some k := by
  have k2 : 2 ≤ k := by
    refine Nat.le_of_not_lt fun c => ?_
    have : k = 0 ∨ k = 1 := by omega
    rcases this with e | e
    · rw [e, keeps_zero] at h
      cases h
    · rw [e, keeps_one] at h
      cases h
  have km : k ≤ a.m := by
    refine Nat.le_of_not_lt fun c => ?_
    rw [keeps_all (hl a.m c) k] at h
    cases h
  unfold fewestOf
  rw [List.find?_range_eq_some]
  refine ⟨by rw [h]; simp [k2], List.mem_range.mpr (by omega), fun j hj => ?_⟩
  rw [hl j hj]
  simp
theorem fewest_of {a : Abs} {k : Nat} (h : Kh411.keeps a (k + 1) = false) (hl : Kh411.keeps a k = true) : fewestOf a = some (k + 1) :=
  fewest_some h fun j hj => keeps_le (by omega) hl
/-! ### sets of deeds -/
theorem less_full {n x : Nat} (h : x < 2 ^ n) : Kh411.less n (2 ^ n - 1) x = (2 ^ n - 1) ^^^ x := by
  apply Nat.eq_of_testBit_eq
  intro i
  unfold Kh411.less
  rw [each_tb, Nat.testBit_xor, Nat.testBit_two_pow_sub_one]
  by_cases l : i < n
  · simp [l]
  · have := tb_lt (i := i) h
    rw [this]
    simp [l]
theorem less_full_sub {n x : Nat} (h : x < 2 ^ n) : Kh411.less n (2 ^ n - 1) x = 2 ^ n - 1 - x := by
  have hf : 2 ^ n - 1 < 2 ^ n := Nat.sub_lt (Nat.two_pow_pos n) (by decide)
  rw [less_eq hf]
  unfold sub
  have e : (2 ^ n - 1) &&& x = x := by
    rw [Nat.and_comm, Nat.and_two_pow_sub_one_eq_mod, Nat.mod_eq_of_lt h]
  rw [e]
theorem part_eq {a : Abs} {x y : Nat} (hx : x < 2 ^ a.deeds.length) (hy : y < 2 ^ a.deeds.length) : Kh411.part a x y = decide (x &&& y = x) := by
  unfold Kh411.part
  rw [join_eq hx hy, Bool.eq_iff_iff]
  simp only [beq_iff_eq, decide_eq_true_eq]
  constructor
  · intro e
    apply Nat.eq_of_testBit_eq
    intro i
    rw [← e, Nat.testBit_and, Nat.testBit_or]
    cases x.testBit i <;> simp
  · intro e
    apply Nat.eq_of_testBit_eq
    intro i
    rw [← e, Nat.testBit_or, Nat.testBit_and]
    cases x.testBit i <;> cases y.testBit i <;> rfl
theorem free_is {a : Abs} (h : 1 ≤ a.m) (x : Nat) : Kh411.free a x = Kh411.keeps ⟨a.m, a.rule, fil x a.deeds⟩ a.m := by
  unfold Kh411.free
  rw [Nat.max_eq_left h, only_eq]
theorem free_none {a : Abs} : Kh411.free a 0 = true := by
  unfold Kh411.free
  rw [only_zero]
  exact keeps_none
/-- how many places a set has -/
theorem size_eq (a : Abs) (x : Nat) : Kh411.size a x = ((List.range a.deeds.length).filter fun i => x.testBit i).length := by
  unfold Kh411.size
  congr 1
  exact List.filter_congr fun i _ => has_tb x i
/-- asked: the sets of the least size without which the others are free -/
theorem asked_is {a : Abs} {k : Nat} {l : List Nat} (hl : l = (Kh411.sets a).filter fun x => Kh411.size a x == k && Kh411.free a (Kh411.less a.deeds.length (2 ^ a.deeds.length - 1) x))
    (ne : l ≠ []) (kn : k ≤ a.deeds.length) (no : ∀ j, j < k → ∀ x, x < 2 ^ a.deeds.length → Kh411.size a x = j → Kh411.free a (Kh411.less a.deeds.length (2 ^ a.deeds.length - 1) x) = false) : Kh411.askedOf a = l := by
  have ex : ∃ x, x ∈ l := List.exists_mem_of_ne_nil l ne
  obtain ⟨x, hx⟩ := ex
  rw [hl, List.mem_filter] at hx
  have f : ((List.range (a.deeds.length + 1)).find? fun k => (Kh411.sets a).any fun x => Kh411.size a x == k && Kh411.free a (Kh411.less a.deeds.length (2 ^ a.deeds.length - 1) x)) = some k := by
    rw [List.find?_range_eq_some]
    refine ⟨List.any_eq_true.mpr ⟨x, hx.1, hx.2⟩, List.mem_range.mpr (by omega), fun j hj => ?_⟩
    rw [Bool.not_eq_true', List.any_eq_false]
    intro y hy
    rw [Bool.and_eq_true]
    rintro ⟨e1, e2⟩
    rw [no j hj y (List.mem_range.mp hy) (by simpa using e1)] at e2
    cases e2
  unfold Kh411.askedOf
  rw [f, hl]
end Na

/-! Rows of choices; the first state that is broken; closed, clash; sets of deeds counted; the greatest free sets. -/
namespace Na
open Kh411 (Abs Deed)
open Kh413 (Work say does atOnce set1 given)
/-! ### one of each -/
inductive Row : List (List Nat) → List Nat → Prop
  | nil : Row [] []
  | cons {l : List Nat} {ls : List (List Nat)} {x : Nat} {r : List Nat} : x ∈ l → Row ls r → Row (l :: ls) (x :: r)
theorem row_snoc {ls : List (List Nat)} {l : List Nat} {r : List Nat} : Row (ls ++ [l]) r ↔ ∃ s x, r = s ++ [x] ∧ Row ls s ∧ x ∈ l := by
  induction ls generalizing r with
  | nil =>
    constructor
    · intro h
      cases h with
      | cons hx t =>
        cases t
        exact ⟨[], _, rfl, .nil, hx⟩
    · rintro ⟨s, x, rfl, h, hx⟩
      cases h
      exact .cons hx .nil
  | cons k ls ih =>
    constructor
    · intro h
      cases h with
      | cons hy t =>
        obtain ⟨s, x, e, h, hx⟩ := ih.mp t
        exact ⟨_ :: s, x, by rw [e]; rfl, .cons hy h, hx⟩
    · rintro ⟨s, x, e, h, hx⟩
      cases h with
      | cons hy t =>
        rw [e]
        exact .cons hy (ih.mpr ⟨_, x, rfl, t, hx⟩)
theorem row_rep {R : List Nat} : ∀ {k : Nat} {r : List Nat}, Row (List.replicate k R) r ↔ r.length = k ∧ ∀ x, x ∈ r → x ∈ R
  | 0, r => by
    constructor
    · intro h
      cases h
      exact ⟨rfl, fun x hx => by simp at hx⟩
    · rintro ⟨h, _⟩
      have : r = [] := List.eq_nil_of_length_eq_zero h
      subst this
      exact .nil
  | k + 1, r => by
    rw [List.replicate_succ]
    constructor
    · intro h
      cases h with
      | cons hx t =>
        obtain ⟨h1, h2⟩ := row_rep.mp t
        refine ⟨by rw [List.length_cons, h1], fun y hy => ?_⟩
        rcases List.mem_cons.mp hy with z | z
        · exact z ▸ hx
        · exact h2 y z
    · rintro ⟨h1, h2⟩
      cases r with
      | nil => simp at h1
      | cons x s =>
        refine .cons (h2 x List.mem_cons_self) (row_rep.mpr ⟨?_, fun y hy => h2 y (List.mem_cons_of_mem _ hy)⟩)
        rw [List.length_cons] at h1
        omega
theorem row_two {A B r : List Nat} : Row [A, B] r ↔ ∃ y z, r = [y, z] ∧ y ∈ A ∧ z ∈ B := by
  constructor
  · intro h
    cases h with
    | cons hx t =>
      cases t with
      | cons hy u =>
        cases u
        exact ⟨_, _, rfl, hx, hy⟩
  · rintro ⟨y, z, rfl, hy, hz⟩
    exact .cons hy (.cons hz .nil)
theorem row_lt {n : Nat} {ls : List (List Nat)} {r : List Nat} (h : Row ls r) (hl : ∀ l, l ∈ ls → ∀ x, x ∈ l → x < n) : ∀ x, x ∈ r → x < n := by
  induction h with
  | nil =>
    intro x hx
    simp at hx
  | cons hx _ ih =>
    intro y hy
    rcases List.mem_cons.mp hy with z | z
    · exact z ▸ hl _ List.mem_cons_self _ hx
    · exact ih (fun l ml => hl l (List.mem_cons_of_mem _ ml)) y z
/-- which facts are changed by a row -/
def chg (c : Nat) (r : List Nat) : Nat := r.foldl (fun t s => t ||| (s ^^^ c)) 0
theorem chg_snoc (c : Nat) (r : List Nat) (x : Nat) : chg c (r ++ [x]) = chg c r ||| (x ^^^ c) := by
  unfold chg
  rw [List.foldl_append]
  rfl
theorem put_chg (c : Nat) (r : List Nat) : put c r = c ^^^ chg c r := rfl
theorem chg_lt {m c : Nat} {r : List Nat} (hc : c < 2 ^ m) (h : ∀ s ∈ r, s < 2 ^ m) : chg c r < 2 ^ m := fold_lt hc r 0 (Nat.two_pow_pos m) h
/-- what may come of choices -/
def Mix (c : Nat) (ls : List (List Nat)) (t : Nat) : Prop := ∃ r, Row ls r ∧ t = put c r
theorem mix_come {a : Abs} {c k t : Nat} (hc : c < 2 ^ a.m) : Mix c (List.replicate k (Kh411.reach a c)) t ↔ Come a c k t := by
  rw [come_rows]
  have lt : ∀ x, x ∈ Kh411.reach a c → x < 2 ^ a.m := fun x hx => reach_lt hc ((mem_reach hc).mp hx)
  constructor
  · rintro ⟨r, h, e⟩
    obtain ⟨h1, h2⟩ := row_rep.mp h
    exact ⟨r, h1, h2, by rw [e, put_eq hc fun s hs => lt s (h2 s hs)]⟩
  · rintro ⟨r, h1, h2, e⟩
    exact ⟨r, row_rep.mpr ⟨h1, h2⟩, by rw [e, put_eq hc fun s hs => lt s (h2 s hs)]⟩
theorem foldl_or (c : Nat) : ∀ (r : List Nat) (t : Nat), r.foldl (fun t s => t ||| (s ^^^ c)) t = t ||| r.foldl (fun t s => t ||| (s ^^^ c)) 0
  | [], t => by simp
  | x :: r, t => by
    rw [List.foldl_cons, foldl_or c r, List.foldl_cons, foldl_or c r (0 ||| _), Nat.zero_or, Nat.or_assoc]
theorem put_cons (c x : Nat) (r : List Nat) : put c (x :: r) = put c [put c r, x] := by
  rw [put2, put_chg, put_chg, xy]
  unfold chg
  rw [List.foldl_cons, foldl_or c r, Nat.zero_or, Nat.or_comm]
theorem mix_may {w : Work} (h : WF w) {i x t : Nat} (e : w.copies[i]? = some x) :
    Mix w.common ([x] :: List.replicate (w.copies.length - 1) (Kh411.reach (Kh411.only w.a w.allowed) w.common)) t ↔ t ∈ Kh413.mayCome w i := by
  rw [mem_mayCome h e]
  constructor
  · rintro ⟨r, hr, et⟩
    cases hr with
    | cons hx q =>
      have ex := List.mem_singleton.mp hx
      subst ex
      exact ⟨_, (mix_come (a := Kh411.only w.a w.allowed) h.cm).mp ⟨_, q, rfl⟩, by rw [et, put_cons]⟩
  · rintro ⟨u, hu, et⟩
    obtain ⟨r, hr, eu⟩ := (mix_come (a := Kh411.only w.a w.allowed) h.cm).mpr hu
    exact ⟨x :: r, .cons (List.mem_singleton_self x) hr, by rw [et, eu]; exact (put_cons _ _ _).symm⟩
/-! ### states that are let, in order -/
def lets (m r : Nat) : List Nat := (List.range (2 ^ m)).filter fun s => r.testBit s
theorem mem_lets {m r s : Nat} : s ∈ lets m r ↔ s < 2 ^ m ∧ r.testBit s = true := by
  unfold lets
  rw [List.mem_filter, List.mem_range]
theorem lets_sorted (m r : Nat) : (lets m r).Pairwise (· < ·) := (range_sorted _).filter _
theorem lets_len (m r : Nat) : (lets m r).length ≤ 2 ^ m := by
  unfold lets
  refine Nat.le_trans (List.length_filter_le _ _) ?_
  rw [List.length_range]
  exact Nat.le_refl _
theorem sorted_take {l : List Nat} (h : l.Pairwise (· < ·)) : ∀ {i s t : Nat}, l[i]? = some s → t ∈ l → t < s → t ∈ l.take i := by
  induction l with
  | nil =>
    intro i s t e
    simp at e
  | cons x l ih =>
    intro i s t e m lt
    rw [List.pairwise_cons] at h
    cases i with
    | zero =>
      have e' : x = s := by simpa using e
      subst e'
      rcases List.mem_cons.mp m with z | z
      · omega
      · have := h.1 t z
        omega
    | succ i =>
      rw [List.take_succ_cons]
      rcases List.mem_cons.mp m with z | z
      · exact z ▸ List.mem_cons_self
      · exact List.mem_cons_of_mem _ (ih h.2 (by simpa using e) z lt)
/-! ### the first state that is broken -/
def firstB (a : Abs) (k : Nat) : Option Nat := (Kh411.broken a k).map (·.1)
theorem findSome_range {β : Type} {f : Nat → Option β} {n s : Nat} {b : β} (hs : s < n) (e : f s = some b) (no : ∀ j, j < s → f j = none) : (List.range n).findSome? f = some b := by
  have h : List.range n = List.range s ++ (List.range (n - s)).map (s + ·) := by
    rw [← List.range_add]
    congr 1
    omega
  rw [h, List.findSome?_append, List.findSome?_eq_none_iff.mpr fun j hj => no j (List.mem_range.mp hj)]
  obtain ⟨q, eq⟩ : ∃ q, n - s = q + 1 := ⟨n - s - 1, by omega⟩
  rw [eq, List.range_succ_eq_map, List.map_cons, List.findSome?_cons, Nat.add_zero, e]
  rfl
theorem broken_at {a : Abs} {k s : Nat} {l : List Nat} (hs : s < 2 ^ a.m) (e : Kh411.brokenAt a k s = some l) (no : ∀ j, j < s → Kh411.brokenAt a k j = none) : Kh411.broken a k = some (s, l) := by
  unfold Kh411.broken Kh411.states
  exact findSome_range hs (by rw [e]; rfl) fun j hj => by rw [no j hj]; rfl
/-- found by going through the states that are let -/
theorem firstB_some {a : Abs} {k i s : Nat} (e : (lets a.m a.rule)[i]? = some s) (bad : ¬ ∀ t, Come a s k t → a.rule.testBit t = true) (no : ∀ j, j ∈ (lets a.m a.rule).take i → ∀ t, Come a j k t → a.rule.testBit t = true) : firstB a k = some s := by
  obtain ⟨hs, hl⟩ := mem_lets.mp (List.mem_of_getElem? e)
  have ns : ∀ j, j < s → Kh411.brokenAt a k j = none := fun j hj => (brokenAt_none (Nat.lt_trans hj hs)).mpr fun hr => no j (sorted_take (lets_sorted _ _) e (mem_lets.mpr ⟨Nat.lt_trans hj hs, hr⟩) hj)
  cases q : Kh411.brokenAt a k s with
  | none => exact absurd ((brokenAt_none hs).mp q hl) bad
  | some l =>
    unfold firstB
    rw [broken_at hs q ns]
    rfl
theorem firstB_none {a : Abs} {k : Nat} (no : ∀ j, j ∈ lets a.m a.rule → ∀ t, Come a j k t → a.rule.testBit t = true) : firstB a k = none := by
  unfold firstB
  rw [broken_none.mpr (keeps_iff.mpr fun c hc hr t ht => no c (mem_lets.mpr ⟨hc, hr⟩) t ht)]
  rfl
theorem firstB_keeps {a : Abs} {k : Nat} : (firstB a k).isNone = Kh411.keeps a k := by
  unfold firstB
  cases h : Kh411.keeps a k with
  | true =>
    rw [broken_none.mpr h]
    rfl
  | false =>
    cases q : Kh411.broken a k with
    | none =>
      rw [broken_none.mp q] at h
      cases h
    | some x => rfl
/-- the row that is answered -/
theorem firstB_row {a : Abs} {k s : Nat} (h : firstB a k = some s) : s < 2 ^ a.m ∧ ∃ l, Kh411.broken a k = some (s, l) ∧ ((Kh411.rows (Kh411.reach a s) k 0).filter fun l => !a.rule.testBit (put s l)).head? = some l := by
  unfold firstB at h
  cases q : Kh411.broken a k with
  | none =>
    rw [q] at h
    cases h
  | some x =>
    rw [q] at h
    obtain ⟨s', l⟩ := x
    have es : s' = s := Option.some.inj h
    subst es
    have q2 := q
    unfold Kh411.broken Kh411.states at q2
    obtain ⟨j, hj, e⟩ := List.exists_of_findSome?_eq_some q2
    have hj := List.mem_range.mp hj
    cases r : Kh411.brokenAt a k j with
    | none =>
      rw [r] at e
      cases e
    | some l' =>
      rw [r] at e
      have e' := Option.some.inj e
      injection e' with e1 e2
      subst e1 e2
      refine ⟨hj, l', rfl, ?_⟩
      unfold Kh411.brokenAt at r
      split at r
      · rw [List.head?_filter]
        refine Eq.trans ?_ r
        have lt : ∀ x, x ∈ Kh411.reach a j → x < 2 ^ a.m := fun x hx => reach_lt hj ((mem_reach hj).mp hx)
        have cg : ∀ (L : List (List Nat)), (∀ l ∈ L, ∀ x ∈ l, x < 2 ^ a.m) → L.find? (fun l => !a.rule.testBit (put j l)) = L.find? fun l => !Kh411.let_ a (Kh411.together a.m j l) := by
          intro L
          induction L with
          | nil =>
            intro _
            rfl
          | cons y L ih =>
            intro hL
            rw [List.find?_cons, List.find?_cons, let_tb, put_eq hj (hL y List.mem_cons_self), ih fun l hl => hL l (List.mem_cons_of_mem _ hl)]
        exact cg _ fun l hl x hx => lt x ((mem_rows.mp hl).2.1 x hx)
      · cases r
/-! ### closed, clash -/
theorem closed_iff {a : Abs} : Kh411.closedRule a = true ↔ ∀ s, s ∈ lets a.m a.rule → ∀ t, Mix s [lets a.m a.rule, lets a.m a.rule] t → a.rule.testBit t = true := by
  have el : (Kh411.states a).filter (Kh411.let_ a) = lets a.m a.rule := List.filter_congr fun s _ => let_tb a s
  unfold Kh411.closedRule
  simp only [el, List.all_eq_true, let_tb]
  have pe : ∀ s y z, s ∈ lets a.m a.rule → y ∈ lets a.m a.rule → z ∈ lets a.m a.rule → put s [y, z] = Kh411.together a.m s [y, z] := fun s y z hs hy hz => put_eq (mem_lets.mp hs).1 fun x hx => by
    rcases List.mem_cons.mp hx with e | e
    · exact e ▸ (mem_lets.mp hy).1
    · rw [List.mem_singleton.mp e]
      exact (mem_lets.mp hz).1
  constructor
  · rintro h s hs t ⟨r, hr, e⟩
    obtain ⟨y, z, rfl, hy, hz⟩ := row_two.mp hr
    rw [e, pe s y z hs hy hz]
    exact h s hs y hy z hz
  · intro h s hs y hy z hz
    rw [← pe s y z hs hy hz]
    exact h s hs _ ⟨[y, z], row_two.mpr ⟨y, z, rfl, hy, hz⟩, rfl⟩
def canD (r : Nat) (d : Deed) (s : Nat) : Bool := ready d s && r.testBit (out d s)
theorem clash_iff {a : Abs} {d e : Deed} (hd : okD a.m d) (he : okD a.m e) : (Kh411.clash a d e).isSome = true ↔ ∃ s, s ∈ lets a.m a.rule ∧ canD a.rule d s = true ∧ canD a.rule e s = true ∧ a.rule.testBit (put s [out d s, out e s]) = false := by
  unfold Kh411.clash Kh411.states
  rw [List.find?_isSome]
  have two : ∀ s, s < 2 ^ a.m → put s [out d s, out e s] = Kh411.together a.m s [out d s, out e s] := fun s hs => put_eq hs fun x hx => by
    rcases List.mem_cons.mp hx with z | z
    · exact z ▸ out_lt hd hs
    · rw [List.mem_singleton.mp z]
      exact out_lt he hs
  constructor
  · rintro ⟨s, hs, q⟩
    have hs := List.mem_range.mp hs
    rw [Bool.and_eq_true, let_tb, done_is hd hs, done_is he hs] at q
    obtain ⟨q1, q2⟩ := q
    refine ⟨s, mem_lets.mpr ⟨hs, q1⟩, ?_⟩
    unfold canD
    cases c1 : (ready d s && a.rule.testBit (out d s)) with
    | false => simp [c1] at q2
    | true =>
      cases c2 : (ready e s && a.rule.testBit (out e s)) with
      | false => simp [c1, c2] at q2
      | true =>
        refine ⟨rfl, rfl, ?_⟩
        rw [c1, c2] at q2
        simp only [if_true] at q2
        rw [let_tb, ← two s hs] at q2
        simpa using q2
  · rintro ⟨s, hs, c1, c2, q⟩
    obtain ⟨hs, q1⟩ := mem_lets.mp hs
    unfold canD at c1 c2
    refine ⟨s, List.mem_range.mpr hs, ?_⟩
    rw [Bool.and_eq_true, let_tb, done_is hd hs, done_is he hs, c1, c2]
    refine ⟨q1, ?_⟩
    simp only [if_true]
    rw [let_tb, ← two s hs, q]
    rfl
/-! ### how many members -/
def pc (n : Nat) : Nat := if h : n = 0 then 0 else n % 2 + pc (n / 2)
termination_by n
decreasing_by omega
theorem pc_zero : pc 0 = 0 := by
  rw [pc]
  simp
theorem pc_pos {n : Nat} (h : n ≠ 0) : pc n = n % 2 + pc (n / 2) := by
  rw [pc]
  simp [h]
theorem pc_any (n : Nat) : pc n = n % 2 + pc (n / 2) := by
  by_cases h : n = 0
  · subst h
    rw [pc_zero]
  · exact pc_pos h
theorem tb_zero (x : Nat) : x.testBit 0 = decide (x % 2 = 1) := Nat.testBit_zero x
theorem pc_filter : ∀ (n x : Nat), x < 2 ^ n → ((List.range n).filter fun i => x.testBit i).length = pc x
  | 0, x, h => by
    have : x = 0 := by simpa using h
    subst this
    rw [pc_zero]
    rfl
  | n + 1, x, h => by
    rw [Nat.pow_succ] at h
    rw [List.range_succ_eq_map, List.filter_cons, List.filter_map, pc_any x, ← pc_filter n (x / 2) (by omega)]
    have e : ((fun i => x.testBit i) ∘ Nat.succ) = fun i => (x / 2).testBit i := by
      funext i
      show x.testBit (i + 1) = _
      rw [Nat.testBit_succ]
    rw [e, tb_zero]
    by_cases c : x % 2 = 1
    · rw [decide_eq_true c, if_pos rfl, List.length_cons, List.length_map, c]
      omega
    · rw [decide_eq_false c, if_neg (by decide), List.length_map]
      omega
theorem size_pc {a : Abs} {x : Nat} (h : x < 2 ^ a.deeds.length) : Kh411.size a x = pc x := by
  rw [size_eq]
  exact pc_filter _ x h
/-! ### the greatest free sets -/
/-- free and in no greater one that is -/
def Top (F : Nat → Bool) (n x : Nat) : Prop := x < 2 ^ n ∧ F x = true ∧ ∀ y, y < 2 ^ n → x &&& y = x → F y = true → y = x
theorem and_sub_le {x y : Nat} (h : x &&& y = x) : x ≤ y := h ▸ Nat.and_le_right
theorem and_sub_trans {x y z : Nat} (h1 : x &&& y = x) (h2 : y &&& z = y) : x &&& z = x := by
  rw [← h1, Nat.and_assoc, h2]
/-- above each free one there is a greatest -/
theorem top_above {F : Nat → Bool} {n : Nat} : ∀ (k x : Nat), 2 ^ n ≤ x + k → x < 2 ^ n → F x = true → ∃ y, Top F n y ∧ x &&& y = x
  | 0, x, h, hx, _ => absurd hx (by omega)
  | k + 1, x, h, hx, hf => by
    by_cases c : ∀ y, y < 2 ^ n → x &&& y = x → F y = true → y = x
    · exact ⟨x, ⟨hx, hf, c⟩, Nat.and_self x⟩
    · have : ∃ y, y < 2 ^ n ∧ x &&& y = x ∧ F y = true ∧ y ≠ x := by
        refine Classical.byContradiction fun no => c fun y h1 h2 h3 => Classical.byContradiction fun ne => no ⟨y, h1, h2, h3, ne⟩
      obtain ⟨y, h1, h2, h3, ne⟩ := this
      have le := and_sub_le h2
      obtain ⟨z, hz, e⟩ := top_above k y (by omega) h1 h3
      exact ⟨z, hz, and_sub_trans h2 e⟩
theorem mem_mostFree {a : Abs} {x : Nat} : x ∈ Kh411.mostFree a ↔ Top (Kh411.free a) a.deeds.length x := by
  unfold Kh411.mostFree Kh411.sets Top
  rw [List.mem_filter, List.mem_range, Bool.and_eq_true, List.all_eq_true]
  refine and_congr_right fun hx => and_congr_right fun hf => ?_
  constructor
  · intro h y hy e q
    have := h y (List.mem_range.mpr hy)
    rw [part_eq hx hy, decide_eq_true e, q] at this
    simpa using this
  · intro h y hy
    have hy := List.mem_range.mp hy
    rw [part_eq hx hy]
    by_cases e : x &&& y = x
    · cases q : Kh411.free a y with
      | false => simp
      | true =>
        rw [h y hy e q]
        simp
    · rw [decide_eq_false e]
      simp
theorem mostFree_sorted (a : Abs) : (Kh411.mostFree a).Pairwise (· < ·) := (range_sorted _).filter _
theorem mostFree_len (a : Abs) (h : a.deeds.length ≤ 6) : (Kh411.mostFree a).length ≤ 64 := by
  refine sorted_len (mostFree_sorted a) fun t ht => ?_
  have := (mem_mostFree.mp ht).1
  exact Nat.lt_of_lt_of_le this (Nat.le_trans (Nat.pow_le_pow_right (by decide) h) (by decide))
theorem mostFree_ne (a : Abs) : Kh411.mostFree a ≠ [] := by
  obtain ⟨y, hy, _⟩ := top_above (F := Kh411.free a) (n := a.deeds.length) (2 ^ a.deeds.length) 0 (by omega) (Nat.two_pow_pos _) free_none
  exact List.ne_nil_of_mem (mem_mostFree.mpr hy)
/-- one turn of the search, going down: what is found lies above -/
theorem top_turn {F : Nat → Bool} {n x : Nat} {l : List Nat} (hx : x < 2 ^ n) (hl : ∀ t, t ∈ l ↔ Top F n t ∧ x < t) : Top F n x ↔ (∀ y, y ∈ l → x &&& y ≠ x) ∧ F x = true := by
  constructor
  · rintro ⟨_, hf, h⟩
    refine ⟨fun y hy e => ?_, hf⟩
    obtain ⟨⟨hy1, hy2, _⟩, lt⟩ := (hl y).mp hy
    have := h y hy1 e hy2
    omega
  · rintro ⟨h, hf⟩
    refine ⟨hx, hf, fun y hy e q => ?_⟩
    refine Classical.byContradiction fun ne => ?_
    obtain ⟨z, hz, ez⟩ := top_above (F := F) (n := n) (2 ^ n) y (by omega) hy q
    have l1 := and_sub_le e
    have l2 := and_sub_le ez
    exact h z ((hl z).mpr ⟨hz, by omega⟩) (and_sub_trans e ez)
/-! ### the fewest asked for -/
theorem full_tb (n i : Nat) : (2 ^ n - 1).testBit i = decide (i < n) := Nat.testBit_two_pow_sub_one n i
theorem comp_lt {n x : Nat} (h : x < 2 ^ n) : (2 ^ n - 1) ^^^ x < 2 ^ n := xor_lt (Nat.sub_lt (Nat.two_pow_pos n) (by decide)) h
theorem comp_comp (n x : Nat) : (2 ^ n - 1) ^^^ ((2 ^ n - 1) ^^^ x) = x := xx _ _
theorem filter_mono_len {α : Type} {p q : α → Bool} : ∀ {l : List α}, (∀ x ∈ l, p x = true → q x = true) → (l.filter p).length ≤ (l.filter q).length
  | [], _ => Nat.le_refl _
  | x :: l, h => by
    have ih := filter_mono_len (l := l) fun y hy => h y (List.mem_cons_of_mem _ hy)
    have hx := h x List.mem_cons_self
    rw [List.filter_cons, List.filter_cons]
    cases c : p x with
    | true =>
      rw [hx c]
      simp only [if_true, List.length_cons]
      omega
    | false =>
      cases d : q x with
      | true =>
        simp only [if_true, List.length_cons]
        simp
        omega
      | false =>
        simp
        exact ih
theorem filter_strict_len {α : Type} {p q : α → Bool} : ∀ {l : List α}, (∀ x ∈ l, p x = true → q x = true) → (∃ x, x ∈ l ∧ q x = true ∧ p x = false) → (l.filter p).length < (l.filter q).length
  | [], _, ⟨x, hx, _⟩ => by simp at hx
  | x :: l, h, ⟨y, hy, qy, py⟩ => by
    have mono := filter_mono_len (l := l) fun y hy => h y (List.mem_cons_of_mem _ hy)
    have hx := h x List.mem_cons_self
    rw [List.filter_cons, List.filter_cons]
    rcases List.mem_cons.mp hy with z | z
    · subst z
      rw [qy, py]
      simp
      omega
    · have ih := filter_strict_len (l := l) (fun y hy => h y (List.mem_cons_of_mem _ hy)) ⟨y, z, qy, py⟩
      cases c : p x with
      | true =>
        rw [hx c]
        simp
        exact ih
      | false =>
        cases d : q x with
        | true =>
          simp
          omega
        | false =>
          simp
          exact ih
/-- the others of a greater set are fewer -/
theorem comp_fewer {n x y : Nat} (hx : x < 2 ^ n) (hy : y < 2 ^ n) (e : x &&& y = x) (ne : y ≠ x) : pc ((2 ^ n - 1) ^^^ y) < pc ((2 ^ n - 1) ^^^ x) := by
  rw [← pc_filter n _ (comp_lt hx), ← pc_filter n _ (comp_lt hy)]
  have sub : ∀ i, x.testBit i = true → y.testBit i = true := fun i h => by
    rw [← e, Nat.testBit_and, Bool.and_eq_true] at h
    exact h.2
  refine filter_strict_len (fun i _ h => ?_) ?_
  · rw [Nat.testBit_xor, full_tb] at h ⊢
    cases c : x.testBit i with
    | true =>
      rw [sub i c] at h
      exact h
    | false =>
      cases d : y.testBit i with
      | true =>
        rw [d] at h
        have := tb_lt (i := i) hy
        rw [d] at this
        simp at this
        simp [this]
      | false =>
        rw [d] at h
        exact h
  · have : ∃ i, y.testBit i = true ∧ x.testBit i = false := by
      refine Classical.byContradiction fun no => ne (Nat.eq_of_testBit_eq fun i => ?_)
      cases c : x.testBit i with
      | true => exact sub i c
      | false =>
        cases d : y.testBit i with
        | false => rfl
        | true => exact absurd ⟨i, d, c⟩ no
    obtain ⟨i, d, c⟩ := this
    have li : i < n := by
      have := tb_lt (i := i) hy
      rw [d] at this
      simpa using this
    refine ⟨i, List.mem_range.mpr li, ?_, ?_⟩
    · rw [Nat.testBit_xor, full_tb, c]
      simp [li]
    · rw [Nat.testBit_xor, full_tb, d]
      simp [li]
/-- asked: from the greatest free sets -/
theorem asked_of {a : Abs} {k : Nat} {l : List Nat} (kin : ∃ x, x ∈ Kh411.mostFree a ∧ k = pc ((2 ^ a.deeds.length - 1) ^^^ x)) (kle : ∀ x, x ∈ Kh411.mostFree a → k ≤ pc ((2 ^ a.deeds.length - 1) ^^^ x))
    (so : l.Pairwise (· < ·)) (hm : ∀ t, t ∈ l ↔ (∃ x, x ∈ Kh411.mostFree a ∧ t = (2 ^ a.deeds.length - 1) ^^^ x) ∧ pc t = k) : Kh411.askedOf a = l := by
  have up : ∀ x, x < 2 ^ a.deeds.length → Kh411.free a ((2 ^ a.deeds.length - 1) ^^^ x) = true → ∃ y, y ∈ Kh411.mostFree a ∧ ((2 ^ a.deeds.length - 1) ^^^ x) &&& y = ((2 ^ a.deeds.length - 1) ^^^ x) := fun x hx hf => by
    obtain ⟨y, hy, e⟩ := top_above (F := Kh411.free a) (n := a.deeds.length) (2 ^ a.deeds.length) _ (by omega) (comp_lt hx) hf
    exact ⟨y, mem_mostFree.mpr hy, e⟩
  have least : ∀ x, x < 2 ^ a.deeds.length → Kh411.free a ((2 ^ a.deeds.length - 1) ^^^ x) = true → k ≤ pc x ∧ (pc x = k → (2 ^ a.deeds.length - 1) ^^^ x ∈ Kh411.mostFree a) := fun x hx hf => by
    obtain ⟨y, hy, e⟩ := up x hx hf
    have ky := kle y hy
    have hy2 := (mem_mostFree.mp hy).1
    by_cases c : y = (2 ^ a.deeds.length - 1) ^^^ x
    · rw [c, comp_comp] at ky
      exact ⟨ky, fun _ => c ▸ hy⟩
    · have := comp_fewer (comp_lt hx) hy2 e c
      rw [comp_comp] at this
      exact ⟨by omega, fun z => by omega⟩
  obtain ⟨x0, hx0, ek⟩ := kin
  have lx0 := (mem_mostFree.mp hx0).1
  have m0 : (2 ^ a.deeds.length - 1) ^^^ x0 ∈ l := (hm _).mpr ⟨⟨x0, hx0, rfl⟩, ek.symm⟩
  refine asked_is (k := k) ?_ (List.ne_nil_of_mem m0) ?_ ?_
  · refine sorted_ext so ((range_sorted _).filter _) fun t => ?_
    rw [hm, List.mem_filter, Bool.and_eq_true]
    constructor
    · rintro ⟨⟨x, hx, e⟩, ep⟩
      have hx2 := mem_mostFree.mp hx
      have lt : t < 2 ^ a.deeds.length := e ▸ comp_lt hx2.1
      refine ⟨List.mem_range.mpr lt, ?_, ?_⟩
      · rw [size_pc lt, ep]
        simp
      · rw [less_full lt, e, comp_comp]
        exact hx2.2.1
    · rintro ⟨lt, es, ef⟩
      have lt := List.mem_range.mp lt
      rw [size_pc lt] at es
      rw [less_full lt] at ef
      have ep : pc t = k := by simpa using es
      exact ⟨⟨_, (least t lt ef).2 ep, (comp_comp _ _).symm⟩, ep⟩
  · rw [ek, ← pc_filter a.deeds.length _ (comp_lt lx0)]
    refine Nat.le_trans (List.length_filter_le _ _) ?_
    rw [List.length_range]
    exact Nat.le_refl _
  · intro j hj x hx e
    rw [less_full hx]
    rw [size_pc hx] at e
    cases q : Kh411.free a ((2 ^ a.deeds.length - 1) ^^^ x) with
    | false => rfl
    | true =>
      have := (least x hx q).1
      omega
/-! ### rows made longer at their end -/
def lastF : Nat → List Nat → Nat
  | f, [] => f
  | _, x :: r => lastF x r
theorem rows_longer (l : List Nat) : ∀ (k f : Nat), Kh411.rows l (k + 1) f = (Kh411.rows l k f).flatMap fun r => (l.filter fun x => decide (lastF f r ≤ x)).map fun x => r ++ [x]
  | 0, f => by
    show (l.filter fun x => decide (f ≤ x)).flatMap (fun x => [[x]]) = ([[]] : List (List Nat)).flatMap _
    rw [List.flatMap_cons, List.flatMap_nil, List.append_nil]
    show _ = (l.filter fun x => decide (f ≤ x)).map fun x => [x]
    generalize l.filter (fun x => decide (f ≤ x)) = q
    induction q with
    | nil => rfl
    | cons y q ih =>
      rw [List.flatMap_cons, ih]
      rfl
  | k + 1, f => by
    show (l.filter fun x => decide (f ≤ x)).flatMap (fun x => (Kh411.rows l (k + 1) x).map fun r => x :: r) = ((l.filter fun x => decide (f ≤ x)).flatMap fun x => (Kh411.rows l k x).map fun r => x :: r).flatMap _
    rw [List.flatMap_assoc]
    congr 1
    funext x
    rw [rows_longer l k x, List.map_flatMap, List.flatMap_map]
    congr 1
    funext r
    rw [List.map_map]
    rfl
/-! ### twos of deeds -/
theorem range_from (n i : Nat) : (List.range n).filter (fun j => decide (i ≤ j)) = (List.range (n - i)).map (i + ·) := by
  refine sorted_ext ((range_sorted _).filter _) ?_ fun t => ?_
  · rw [List.pairwise_map]
    exact (range_sorted _).imp fun h => by omega
  · rw [List.mem_filter, List.mem_range, decide_eq_true_eq, List.mem_map]
    constructor
    · rintro ⟨h1, h2⟩
      exact ⟨t - i, List.mem_range.mpr (by omega), by omega⟩
    · rintro ⟨j, hj, e⟩
      have := List.mem_range.mp hj
      omega
end Na

/-! What do and ask would answer; what each look answers. -/
namespace Na
open Kh411 (Abs Deed)
open Kh413 (Work say does atOnce set1 given)
section
variable {w : Work}
def doRet (w : Work) (c i : Nat) : Int := (does w (.do_ c i)).2.ret
def askRet (w : Work) (i : Nat) : Int := (does w (.ask i)).2.ret
theorem comes_or (d : Deed) (s : Nat) : comes w d s < 0 ∨ comes w d s = (out d s : Int) := by
  unfold comes
  split
  · exact .inl (by decide)
  · split
    · exact .inl (by decide)
    · exact .inr rfl
theorem do_cases (f : WF w) (c i : Nat) : (doRet w c i < 0 ∧ does w (.do_ c i) = (w, say (doRet w c i))) ∨ ∃ x s : Nat, w.copies[c]? = some x ∧ doRet w c i = (s : Int) ∧ does w (.do_ c i) = ({ w with copies := w.copies.set c s }, say (s : Int)) := by
  have neg : ∀ {z : Int}, z < 0 → does w (.do_ c i) = (w, say z) → (doRet w c i < 0 ∧ does w (.do_ c i) = (w, say (doRet w c i))) := fun {z} hz e => by
    have : doRet w c i = z := by
      unfold doRet
      rw [e]
      rfl
    rw [this]
    exact ⟨hz, e⟩
  by_cases hc : w.copies.length ≤ c
  · exact .inl (neg (by decide) (do2c hc))
  by_cases hi : w.a.deeds.length ≤ i
  · exact .inl (neg (by decide) (do2i hi))
  obtain ⟨d, hd⟩ : ∃ d, w.a.deeds[i]? = some d := ⟨_, List.getElem?_eq_getElem (Nat.lt_of_not_le hi)⟩
  obtain ⟨x, hx⟩ : ∃ x, w.copies[c]? = some x := ⟨_, List.getElem?_eq_getElem (Nat.lt_of_not_le hc)⟩
  cases l : w.allowed.testBit i with
  | false => exact .inl (neg (by decide) (do35 (Nat.lt_of_not_le hc) hd l))
  | true =>
    have go := do_go f hx hd l
    rcases comes_or (w := w) d x with z | z
    · rw [if_neg (by omega)] at go
      exact .inl (neg z go)
    · rw [if_pos (by rw [z]; exact Int.natCast_nonneg _)] at go
      refine .inr ⟨x, out d x, hx, ?_, go⟩
      unfold doRet
      rw [go]
      rfl
theorem do_comes (f : WF w) {c i x : Nat} {d : Deed} (hx : w.copies[c]? = some x) (hd : w.a.deeds[i]? = some d) (l : w.allowed.testBit i = true) : doRet w c i = comes w d x := by
  have go := do_go f hx hd l
  unfold doRet
  rcases comes_or (w := w) d x with z | z
  · rw [if_neg (by omega)] at go
    rw [go]
    rfl
  · rw [if_pos (by rw [z]; exact Int.natCast_nonneg _)] at go
    rw [go, z]
    rfl
theorem do_no2 {c i : Nat} (h : w.copies.length ≤ c ∨ w.a.deeds.length ≤ i) : doRet w c i = -2 := by
  unfold doRet
  rcases h with h | h
  · rw [do2c h]
    rfl
  · rw [do2i h]
    rfl
theorem do_no35 {c i : Nat} {d : Deed} (q : c < w.copies.length) (e : w.a.deeds[i]? = some d) (l : w.allowed.testBit i = false) : doRet w c i = -35 := by
  unfold doRet
  rw [do35 q e l]
  rfl
theorem ask_comes (f : WF w) {i : Nat} {d : Deed} (hd : w.a.deeds[i]? = some d) : askRet w i = comes w d (Kh413.ahead w) := by
  have go := ask_go f hd
  unfold askRet
  rcases comes_or (w := w) d (Kh413.ahead w) with z | z
  · rw [if_neg (by omega)] at go
    rw [go]
    rfl
  · rw [if_pos (by rw [z]; exact Int.natCast_nonneg _)] at go
    rw [go, z]
    rfl
theorem ask_no2 {i : Nat} (h : w.a.deeds.length ≤ i) : askRet w i = -2 := by
  unfold askRet
  rw [ask2 h]
  rfl
theorem ask_cases (f : WF w) (i : Nat) : (askRet w i < 0 ∧ does w (.ask i) = (w, say (askRet w i))) ∨ ∃ s : Nat, askRet w i = (s : Int) ∧ does w (.ask i) = (set1 w s, say (s : Int)) := by
  by_cases hi : w.a.deeds.length ≤ i
  · rw [ask_no2 hi]
    exact .inl ⟨by decide, ask2 hi⟩
  obtain ⟨d, hd⟩ : ∃ d, w.a.deeds[i]? = some d := ⟨_, List.getElem?_eq_getElem (Nat.lt_of_not_le hi)⟩
  rw [ask_comes f hd]
  have go := ask_go f hd
  rcases comes_or (w := w) d (Kh413.ahead w) with z | z
  · rw [if_neg (by omega)] at go
    exact .inl ⟨z, go⟩
  · rw [if_pos (by rw [z]; exact Int.natCast_nonneg _)] at go
    exact .inr ⟨_, z, go⟩
theorem comes_done (f : WF w) {d : Deed} {s : Nat} (hd : d ∈ w.a.deeds) (hs : s < 2 ^ w.a.m) : decide (0 ≤ comes w d s) = (Kh411.done w.a s d).isSome := by
  rw [done_is (f.dk d hd) hs]
  unfold comes
  cases h1 : ready d s with
  | false => rfl
  | true =>
    cases h2 : w.a.rule.testBit (out d s) with
    | false => rfl
    | true =>
      have z : (0 : Int) ≤ (out d s : Int) := Int.natCast_nonneg _
      rw [if_neg (by decide), if_neg (by decide), decide_eq_true z]
      rfl
/-- can_do -/
theorem canDo_list (f : WF w) {c x : Nat} (hx : w.copies[c]? = some x) : ((List.range w.a.deeds.length).filter fun i => (match w.a.deeds[i]? with
      | none => false
      | some d => Kh411.has w.allowed i && (Kh411.done w.a (w.copies.getD c 0) d).isSome)) = (List.range w.a.deeds.length).filter fun i => decide (0 ≤ doRet w c i) := by
  refine List.filter_congr fun i hi => ?_
  have hi := List.mem_range.mp hi
  obtain ⟨d, hd⟩ : ∃ d, w.a.deeds[i]? = some d := ⟨_, List.getElem?_eq_getElem hi⟩
  have gx : w.copies.getD c 0 = x := by
    rw [List.getD_eq_getElem?_getD, hx]
    rfl
  rw [hd]
  show (Kh411.has w.allowed i && (Kh411.done w.a (w.copies.getD c 0) d).isSome) = _
  rw [has_tb, gx]
  cases l : w.allowed.testBit i with
  | false =>
    rw [do_no35 (List.getElem?_eq_some_iff.mp hx).1 hd l]
    rfl
  | true =>
    rw [do_comes f hx hd l, Bool.true_and, comes_done f (List.mem_of_getElem? hd) (f.cs x (List.mem_of_getElem? hx))]
theorem canAsk_list (f : WF w) : ((List.range w.a.deeds.length).filter fun i => (match w.a.deeds[i]? with
      | none => false
      | some d => (Kh411.done w.a (Kh413.ahead w) d).isSome)) = (List.range w.a.deeds.length).filter fun i => decide (0 ≤ askRet w i) := by
  refine List.filter_congr fun i hi => ?_
  have hi := List.mem_range.mp hi
  obtain ⟨d, hd⟩ : ∃ d, w.a.deeds[i]? = some d := ⟨_, List.getElem?_eq_getElem hi⟩
  rw [hd]
  show (Kh411.done w.a (Kh413.ahead w) d).isSome = _
  rw [ask_comes f hd, comes_done f (List.mem_of_getElem? hd) (ahead_lt f)]
/-! ### the answers, as lists of whole numbers -/
abbrev toI (l : List Nat) : List Int := l.map fun n : Nat => (n : Int)
/-- what a look answers -/
def ansL (w : Work) (c : Kh413.Call) : List Int := (does w c).2.ret :: (does w c).2.out
theorem nats_ans (h : Nat) (l : List Nat) : (Kh413.nats h l).ret :: (Kh413.nats h l).out = toI (h :: l) := rfl
theorem a_copies : ansL w .copies = toI (w.copies.length :: w.common :: w.copies) := rfl
theorem a_ahead : ansL w .ahead = toI [Kh413.ahead w] := rfl
theorem a_differ : ansL w .differ = toI (((List.range w.copies.length).filter fun c => w.copies.getD c 0 != w.common).length :: (List.range w.copies.length).filter fun c => w.copies.getD c 0 != w.common) := rfl
theorem a_canAsk (f : WF w) : ansL w .canAsk = toI (((List.range w.a.deeds.length).filter fun i => decide (0 ≤ askRet w i)).length :: (List.range w.a.deeds.length).filter fun i => decide (0 ≤ askRet w i)) := by
  rw [← canAsk_list f]
  rfl
theorem a_state : ansL w .state = toI [w.a.m, w.copies.length, w.a.rule, w.a.deeds.length, w.allowed] := rfl
theorem okC_no {c : Nat} {g : Unit → Kh413.Ans} (h : w.copies.length ≤ c) : Kh413.okC w c g = say (-2) := by
  unfold Kh413.okC
  rw [if_pos h]
theorem okC_yes {c : Nat} {g : Unit → Kh413.Ans} (h : c < w.copies.length) : Kh413.okC w c g = g () := by
  unfold Kh413.okC
  rw [if_neg (by omega)]
/-- the looks at one copy -/
inductive IsO : Nat → Nat → Kh413.Call → Prop
  | canDo (c : Nat) : IsO 15 c (.canDo c)
  | reach (c : Nat) : IsO 17 c (.reach c)
  | told (c : Nat) : IsO 25 c (.told c)
  | sure (c : Nat) : IsO 26 c (.sure c)
  | may (c : Nat) : IsO 27 c (.may c)
  | mayCome (c : Nat) : IsO 28 c (.mayCome c)
inductive IsA : Nat → Kh413.Call → Prop
  | copies : IsA 12 .copies
  | ahead : IsA 13 .ahead
  | differ : IsA 14 .differ
  | canAsk : IsA 16 .canAsk
  | state : IsA 29 .state
inductive IsR : Nat → List Nat → Kh413.Call → Prop
  | keeps (k : Nat) : IsR 18 [k] (.keeps k)
  | broken (k : Nat) : IsR 19 [k] (.broken k)
  | fewest : IsR 20 [] .fewest
  | clashes : IsR 21 [] .clashes
  | mostFree : IsR 22 [] .mostFree
  | asked : IsR 23 [] .asked
  | closed : IsR 24 [] .closed
theorem a_none {n c : Nat} {q : Kh413.Call} (h : IsO n c q) (hc : w.copies.length ≤ c) : ansL w q = [-2] := by
  unfold ansL
  cases h <;> simp only [does, okC_no hc] <;> rfl
theorem a_canDo (f : WF w) {c x : Nat} (hx : w.copies[c]? = some x) : ansL w (.canDo c) = toI (((List.range w.a.deeds.length).filter fun i => decide (0 ≤ doRet w c i)).length :: (List.range w.a.deeds.length).filter fun i => decide (0 ≤ doRet w c i)) := by
  rw [← canDo_list f hx]
  unfold ansL
  simp only [does, okC_yes (List.getElem?_eq_some_iff.mp hx).1]
  rfl
theorem a_reach {c x : Nat} (hx : w.copies[c]? = some x) : ansL w (.reach c) = toI ((Kh411.reach (Kh411.only w.a w.allowed) x).length :: Kh411.reach (Kh411.only w.a w.allowed) x) := by
  have gx : w.copies.getD c 0 = x := by
    rw [List.getD_eq_getElem?_getD, hx]
    rfl
  unfold ansL
  simp only [does, okC_yes (List.getElem?_eq_some_iff.mp hx).1, gx]
  rfl
theorem a_told {c x : Nat} (hx : w.copies[c]? = some x) : ansL w (.told c) = toI [given w x] := by
  have gx : w.copies.getD c 0 = x := by
    rw [List.getD_eq_getElem?_getD, hx]
    rfl
  unfold ansL
  simp only [does, okC_yes (List.getElem?_eq_some_iff.mp hx).1, gx]
  rfl
theorem a_sure {c x : Nat} (hx : w.copies[c]? = some x) : ansL w (.sure c) = toI [Kh413.sure w c] := by
  unfold ansL
  simp only [does, okC_yes (List.getElem?_eq_some_iff.mp hx).1]
  rfl
theorem a_may {c x : Nat} (hx : w.copies[c]? = some x) : ansL w (.may c) = toI [Kh413.may w c] := by
  unfold ansL
  simp only [does, okC_yes (List.getElem?_eq_some_iff.mp hx).1]
  rfl
theorem a_mayCome {c x : Nat} {l : List Nat} (hx : w.copies[c]? = some x) (so : l.Pairwise (· < ·)) (hm : ∀ t, t ∈ l ↔ t ∈ Kh413.mayCome w c) : ansL w (.mayCome c) = toI (l.length :: l) := by
  unfold ansL
  simp only [does, okC_yes (List.getElem?_eq_some_iff.mp hx).1, mayCome_list so hm]
  rfl
/-! the looks at the rule -/
theorem a_k22 {k : Nat} {c : Kh413.Call} (h : IsR 18 [k] c ∨ IsR 19 [k] c) (hk : ¬ (1 ≤ k ∧ k ≤ 4)) : ansL w c = [-22] := by
  have q : k < 1 ∨ 4 < k := by omega
  rcases h with h | h <;> cases h <;> unfold ansL <;> simp only [does, Kh413.look, Kh411.doesA, Kh411.okK, if_pos q] <;> rfl
theorem a_keeps {k : Nat} (h1 : 1 ≤ k) (h4 : k ≤ 4) : ansL w (.keeps k) = [if Kh411.keeps w.a k then 1 else 0] := by
  have q : ¬ (k < 1 ∨ 4 < k) := by omega
  unfold ansL
  simp only [does, Kh413.look, Kh411.doesA, Kh411.okK, if_neg q]
  rfl
theorem a_broken33 {k : Nat} (h1 : 1 ≤ k) (h4 : k ≤ 4) (e : Kh411.broken w.a k = none) : ansL w (.broken k) = [-33] := by
  have q : ¬ (k < 1 ∨ 4 < k) := by omega
  unfold ansL
  simp only [does, Kh413.look, Kh411.doesA, Kh411.okK, if_neg q, e]
  rfl
theorem a_broken {k s : Nat} {l : List Nat} (h1 : 1 ≤ k) (h4 : k ≤ 4) (e : Kh411.broken w.a k = some (s, l)) : ansL w (.broken k) = toI (s :: (l ++ [Kh411.together w.a.m s l])) := by
  have q : ¬ (k < 1 ∨ 4 < k) := by omega
  unfold ansL
  simp only [does, Kh413.look, Kh411.doesA, Kh411.okK, if_neg q, e]
  rfl
theorem a_fewest33 (h : Kh411.keeps w.a w.a.m = true) : ansL w .fewest = [-33] := by
  have e := fewest_none h
  unfold fewestOf at e
  unfold ansL
  simp only [does, Kh413.look, Kh411.doesA, e]
  rfl
theorem a_fewest {k : Nat} (h : Kh411.keeps w.a (k + 1) = false) (hl : Kh411.keeps w.a k = true) : ansL w .fewest = [((k + 1 : Nat) : Int)] := by
  have e := fewest_of h hl
  unfold fewestOf at e
  unfold ansL
  simp only [does, Kh413.look, Kh411.doesA, e]
  rfl
def clashP (a : Abs) (p : Nat × Nat) : Bool := match a.deeds[p.1]?, a.deeds[p.2]? with
  | some d, some e => (Kh411.clash a d e).isSome
  | _, _ => false
def clashL (a : Abs) : List (Nat × Nat) := (Kh411.pairs a.deeds.length).filter (clashP a)
def flat2 (l : List (Nat × Nat)) : List Nat := l.flatMap fun p => [p.1, p.2]
theorem a_clashes : ansL w .clashes = toI ((clashL w.a).length :: flat2 (clashL w.a)) := rfl
theorem a_mostFree : ansL w .mostFree = toI ((Kh411.mostFree w.a).length :: Kh411.mostFree w.a) := rfl
theorem a_asked {x : Nat} {l : List Nat} (e : Kh411.askedOf w.a = x :: l) : ansL w .asked = toI (Kh411.size w.a x :: x :: l) := by
  unfold ansL
  simp only [does, Kh413.look, Kh411.doesA, e]
  rfl
theorem a_closed : ansL w .closed = [if Kh411.closedRule w.a then 1 else 0] := rfl
theorem flat2_len (l : List (Nat × Nat)) : (flat2 l).length = 2 * l.length := by
  induction l with
  | nil => rfl
  | cons x l ih =>
    show (flat2 l).length + 2 = _
    rw [ih, List.length_cons]
    omega
theorem flat2_app (a b : List (Nat × Nat)) : flat2 (a ++ b) = flat2 a ++ flat2 b := List.flatMap_append
/-- the twos with a first deed below i -/
def pairsTo (n i : Nat) : List (Nat × Nat) := (List.range i).flatMap fun i => ((List.range n).filter fun j => decide (i ≤ j)).map fun j => (i, j)
theorem pairs_to (n : Nat) : Kh411.pairs n = pairsTo n n := rfl
def pairsIn (i k : Nat) : List (Nat × Nat) := (List.range k).map fun j => (i, i + j)
theorem pairsTo_succ (n i : Nat) : pairsTo n (i + 1) = pairsTo n i ++ pairsIn i (n - i) := by
  unfold pairsTo pairsIn
  rw [List.range_succ, List.flatMap_append, List.flatMap_cons, List.flatMap_nil, List.append_nil, range_from, List.map_map]
  rfl
theorem pairsIn_succ (i k : Nat) : pairsIn i (k + 1) = pairsIn i k ++ [(i, i + k)] := by
  unfold pairsIn
  rw [List.range_succ, List.map_append]
  rfl
end
end Na

/-! The list of calls, taken apart. -/
set_option maxHeartbeats 4000000
namespace Na
def sizes : List Nat := [2, 1, 4, 1, 1, 1, 2, 2, 1, 0, 0, 0, 0, 0, 0, 1, 0, 1, 1, 1, 0, 0, 0, 0, 0, 1, 1, 1, 1, 0]
abbrev intsN (l : List Nat) : List Int := l.map (fun n : Nat => (n : Int))
theorem shape_lt : ∀ n : Nat, n < 30 → PyKh413.shape (n : Int) = some (sizes.getD n 0, 0) := by decide +kernel
theorem shape_ge {n : Nat} (h : 30 ≤ n) : PyKh413.shape (n : Int) = none := by
  unfold PyKh413.shape
  repeat rw [if_neg (by omega)]
abbrev flatC (cs : List (Nat × List Nat)) : List Nat := cs.flatMap fun c => c.1 :: c.2
def Fits (cs : List (Nat × List Nat)) : Prop := ∀ c, c ∈ cs → c.1 < 30 ∧ c.2.length = sizes.getD c.1 0
def rawOf (c : Nat × List Nat) : List (List Int) := [intsN (c.1 :: c.2)]
theorem calls_par : ∀ (f : Nat) (ns : List Nat) (raw : List (List (List Int))), PyFlat.calls PyKh413.shape f (intsN ns) = some raw → ∃ cs, raw = cs.map rawOf ∧ ns = flatC cs ∧ Fits cs
  | _, [], raw, h => by
    have e : some [] = some raw := by
      rw [← h]
      unfold PyFlat.calls
      rfl
    cases e
    exact ⟨[], rfl, rfl, fun c hc => by cases hc⟩
  | 0, n :: ns, raw, h => by
    have e : none = some raw := h
    cases e
  | f + 1, n :: ns, raw, h => by
    by_cases c : n < 30
    · have hs := shape_lt n c
      have e : (match PyFlat.call PyKh413.shape ((n : Int) :: intsN ns) with
        | none => none
        | some (c, t) => match PyFlat.calls PyKh413.shape f t with
          | none => none
          | some cs => some (c :: cs)) = some raw := h
      have ec : PyFlat.call PyKh413.shape ((n : Int) :: intsN ns) = if (intsN ns).length < sizes.getD n 0 then none else some ([(n : Int) :: (intsN ns).take (sizes.getD n 0)], (intsN ns).drop (sizes.getD n 0)) := by
        show (match PyKh413.shape (n : Int) with | none => none | some (k, j) => if (intsN ns).length < k then none else match PyFlat.rows j ((intsN ns).drop k) with | none => none | some (xs, t) => some (((n : Int) :: (intsN ns).take k) :: xs, t)) = _
        rw [hs]
        rfl
      rw [ec] at e
      by_cases l : (intsN ns).length < sizes.getD n 0
      · rw [if_pos l] at e
        cases e
      · rw [if_neg l] at e
        have l' : sizes.getD n 0 ≤ ns.length := by
          rw [List.length_map] at l
          omega
        have e' : (match PyFlat.calls PyKh413.shape f (intsN (ns.drop (sizes.getD n 0))) with
          | none => none
          | some cs => some ([(n : Int) :: (intsN ns).take (sizes.getD n 0)] :: cs)) = some raw := by
          rw [← e]
          show _ = (match PyFlat.calls PyKh413.shape f ((intsN ns).drop (sizes.getD n 0)) with | none => none | some cs => _)
          rw [← List.map_drop]
        cases q : PyFlat.calls PyKh413.shape f (intsN (ns.drop (sizes.getD n 0))) with
        | none =>
          rw [q] at e'
          cases e'
        | some r =>
          rw [q] at e'
          have e2 := Option.some.inj e'
          obtain ⟨cs, h1, h2, h3⟩ := calls_par f _ r q
          refine ⟨(n, ns.take (sizes.getD n 0)) :: cs, ?_, ?_, ?_⟩
          · rw [← e2, h1]
            show _ = rawOf (n, ns.take (sizes.getD n 0)) :: cs.map rawOf
            unfold rawOf
            show _ = [(n : Int) :: intsN (ns.take (sizes.getD n 0))] :: _
            rw [← List.map_take]
          · show n :: ns = n :: (ns.take (sizes.getD n 0)) ++ flatC cs
            rw [← h2]
            show n :: ns = n :: (ns.take (sizes.getD n 0) ++ ns.drop (sizes.getD n 0))
            rw [List.take_append_drop]
          · intro x hx
            rcases List.mem_cons.mp hx with z | z
            · subst z
              refine ⟨c, ?_⟩
              show (ns.take (sizes.getD n 0)).length = _
              rw [List.length_take]
              exact Nat.min_eq_left l'
            · exact h3 x z
    · have hs := shape_ge (Nat.le_of_not_lt c)
      have e : (match PyFlat.call PyKh413.shape ((n : Int) :: intsN ns) with
        | none => none
        | some (c, t) => match PyFlat.calls PyKh413.shape f t with
          | none => none
          | some cs => some (c :: cs)) = some raw := h
      have ec : PyFlat.call PyKh413.shape ((n : Int) :: intsN ns) = none := by
        show (match PyKh413.shape (n : Int) with | none => none | some (k, j) => if (intsN ns).length < k then none else match PyFlat.rows j ((intsN ns).drop k) with | none => none | some (xs, t) => some (((n : Int) :: (intsN ns).take k) :: xs, t)) = _
        rw [hs]
      rw [ec] at e
      cases e
/-! ### which call it is -/
inductive IsT : Nat → List Nat → Kh413.Call → Prop
  | rule (r : Nat) : IsT 1 [r] (.rule r)
  | deed (n b x y : Nat) : IsT 2 [n, b, x, y] (.deed n b x y)
  | drop (i : Nat) : IsT 3 [i] (.drop i)
  | allow (x : Nat) : IsT 4 [x] (.allow x)
  | set (s : Nat) : IsT 5 [s] (.set s)
  | answer (s v : Nat) : IsT 6 [s, v] (.answer s v)
inductive IsC : Nat → List Nat → Kh413.Call → Prop
  | tell {n : Nat} {ns : List Nat} {c : Kh413.Call} : IsT n ns c → IsC n ns c
  | do_ (c i : Nat) : IsC 7 [c, i] (.do_ c i)
  | ask (i : Nat) : IsC 8 [i] (.ask i)
  | gather : IsC 9 [] .gather
theorem IsC.changes {n : Nat} {ns : List Nat} {c : Kh413.Call} (h : IsC n ns c) : Kh413.changes c = true := by
  cases h with
  | tell t => cases t <;> rfl
  | do_ => rfl
  | ask => rfl
  | gather => rfl
inductive IsL : Nat → List Nat → Kh413.Call → Prop
  | copies : IsL 12 [] .copies
  | ahead : IsL 13 [] .ahead
  | differ : IsL 14 [] .differ
  | canDo (c : Nat) : IsL 15 [c] (.canDo c)
  | canAsk : IsL 16 [] .canAsk
  | reach (c : Nat) : IsL 17 [c] (.reach c)
  | keeps (c : Nat) : IsL 18 [c] (.keeps c)
  | broken (c : Nat) : IsL 19 [c] (.broken c)
  | fewest : IsL 20 [] .fewest
  | clashes : IsL 21 [] .clashes
  | mostFree : IsL 22 [] .mostFree
  | asked : IsL 23 [] .asked
  | closed : IsL 24 [] .closed
  | told (c : Nat) : IsL 25 [c] (.told c)
  | sure (c : Nat) : IsL 26 [c] (.sure c)
  | may (c : Nat) : IsL 27 [c] (.may c)
  | mayCome (c : Nat) : IsL 28 [c] (.mayCome c)
  | state : IsL 29 [] .state
inductive Is : Nat → List Nat → Kh413.Call → Prop
  | begin_ (m c : Nat) : Is 0 [m, c] (.begin_ m c)
  | chg {n : Nat} {ns : List Nat} {c : Kh413.Call} : IsC n ns c → Is n ns c
  | back : Is 10 [] .back
  | again : Is 11 [] .again
  | look {n : Nat} {ns : List Nat} {c : Kh413.Call} : IsL n ns c → Is n ns c
theorem is_of : ∀ (n : Nat) (ns : List Nat), n < 30 → ns.length = sizes.getD n 0 → PyKh413.whole (rawOf (n, ns)) = rawOf (n, ns) ∧ Is n ns (Kh413Neutral.callOf1 (rawOf (n, ns)))
  | 0, [x0, x1], _, _ => ⟨rfl, .begin_ x0 x1⟩
  | 0, [], _, l => absurd l (by simp [sizes])
  | 0, [_], _, l => absurd l (by simp [sizes])
  | 0, _ :: _ :: _ :: _, _, l => absurd l (by simp [sizes])
  | 1, [x0], _, _ => ⟨rfl, .chg (.tell (.rule x0))⟩
  | 1, [], _, l => absurd l (by simp [sizes])
  | 1, _ :: _ :: _, _, l => absurd l (by simp [sizes])
  | 2, [x0, x1, x2, x3], _, _ => ⟨rfl, .chg (.tell (.deed x0 x1 x2 x3))⟩
  | 2, [], _, l => absurd l (by simp [sizes])
  | 2, [_], _, l => absurd l (by simp [sizes])
  | 2, [_, _], _, l => absurd l (by simp [sizes])
  | 2, [_, _, _], _, l => absurd l (by simp [sizes])
  | 2, _ :: _ :: _ :: _ :: _ :: _, _, l => absurd l (by simp [sizes])
  | 3, [x0], _, _ => ⟨rfl, .chg (.tell (.drop x0))⟩
  | 3, [], _, l => absurd l (by simp [sizes])
  | 3, _ :: _ :: _, _, l => absurd l (by simp [sizes])
  | 4, [x0], _, _ => ⟨rfl, .chg (.tell (.allow x0))⟩
  | 4, [], _, l => absurd l (by simp [sizes])
  | 4, _ :: _ :: _, _, l => absurd l (by simp [sizes])
  | 5, [x0], _, _ => ⟨rfl, .chg (.tell (.set x0))⟩
  | 5, [], _, l => absurd l (by simp [sizes])
  | 5, _ :: _ :: _, _, l => absurd l (by simp [sizes])
  | 6, [x0, x1], _, _ => ⟨rfl, .chg (.tell (.answer x0 x1))⟩
  | 6, [], _, l => absurd l (by simp [sizes])
  | 6, [_], _, l => absurd l (by simp [sizes])
  | 6, _ :: _ :: _ :: _, _, l => absurd l (by simp [sizes])
  | 7, [x0, x1], _, _ => ⟨rfl, .chg (.do_ x0 x1)⟩
  | 7, [], _, l => absurd l (by simp [sizes])
  | 7, [_], _, l => absurd l (by simp [sizes])
  | 7, _ :: _ :: _ :: _, _, l => absurd l (by simp [sizes])
  | 8, [x0], _, _ => ⟨rfl, .chg (.ask x0)⟩
  | 8, [], _, l => absurd l (by simp [sizes])
  | 8, _ :: _ :: _, _, l => absurd l (by simp [sizes])
  | 9, [], _, _ => ⟨rfl, .chg .gather⟩
  | 9, _ :: _, _, l => absurd l (by simp [sizes])
  | 10, [], _, _ => ⟨rfl, .back⟩
  | 10, _ :: _, _, l => absurd l (by simp [sizes])
  | 11, [], _, _ => ⟨rfl, .again⟩
  | 11, _ :: _, _, l => absurd l (by simp [sizes])
  | 12, [], _, _ => ⟨rfl, .look .copies⟩
  | 12, _ :: _, _, l => absurd l (by simp [sizes])
  | 13, [], _, _ => ⟨rfl, .look .ahead⟩
  | 13, _ :: _, _, l => absurd l (by simp [sizes])
  | 14, [], _, _ => ⟨rfl, .look .differ⟩
  | 14, _ :: _, _, l => absurd l (by simp [sizes])
  | 15, [x0], _, _ => ⟨rfl, .look (.canDo x0)⟩
  | 15, [], _, l => absurd l (by simp [sizes])
  | 15, _ :: _ :: _, _, l => absurd l (by simp [sizes])
  | 16, [], _, _ => ⟨rfl, .look .canAsk⟩
  | 16, _ :: _, _, l => absurd l (by simp [sizes])
  | 17, [x0], _, _ => ⟨rfl, .look (.reach x0)⟩
  | 17, [], _, l => absurd l (by simp [sizes])
  | 17, _ :: _ :: _, _, l => absurd l (by simp [sizes])
  | 18, [x0], _, _ => ⟨rfl, .look (.keeps x0)⟩
  | 18, [], _, l => absurd l (by simp [sizes])
  | 18, _ :: _ :: _, _, l => absurd l (by simp [sizes])
  | 19, [x0], _, _ => ⟨rfl, .look (.broken x0)⟩
  | 19, [], _, l => absurd l (by simp [sizes])
  | 19, _ :: _ :: _, _, l => absurd l (by simp [sizes])
  | 20, [], _, _ => ⟨rfl, .look .fewest⟩
  | 20, _ :: _, _, l => absurd l (by simp [sizes])
  | 21, [], _, _ => ⟨rfl, .look .clashes⟩
  | 21, _ :: _, _, l => absurd l (by simp [sizes])
  | 22, [], _, _ => ⟨rfl, .look .mostFree⟩
  | 22, _ :: _, _, l => absurd l (by simp [sizes])
  | 23, [], _, _ => ⟨rfl, .look .asked⟩
  | 23, _ :: _, _, l => absurd l (by simp [sizes])
  | 24, [], _, _ => ⟨rfl, .look .closed⟩
  | 24, _ :: _, _, l => absurd l (by simp [sizes])
  | 25, [x0], _, _ => ⟨rfl, .look (.told x0)⟩
  | 25, [], _, l => absurd l (by simp [sizes])
  | 25, _ :: _ :: _, _, l => absurd l (by simp [sizes])
  | 26, [x0], _, _ => ⟨rfl, .look (.sure x0)⟩
  | 26, [], _, l => absurd l (by simp [sizes])
  | 26, _ :: _ :: _, _, l => absurd l (by simp [sizes])
  | 27, [x0], _, _ => ⟨rfl, .look (.may x0)⟩
  | 27, [], _, l => absurd l (by simp [sizes])
  | 27, _ :: _ :: _, _, l => absurd l (by simp [sizes])
  | 28, [x0], _, _ => ⟨rfl, .look (.mayCome x0)⟩
  | 28, [], _, l => absurd l (by simp [sizes])
  | 28, _ :: _ :: _, _, l => absurd l (by simp [sizes])
  | 29, [], _, _ => ⟨rfl, .look .state⟩
  | 29, _ :: _, _, l => absurd l (by simp [sizes])
  | n + 30, _, h, _ => absurd h (by omega)
end Na

/-! What is answered, call by call. -/
namespace Na
abbrev st1 (s : Option Kh413.Abs) (c : Nat × List Nat) : Option Kh413.Abs := (Kh413Neutral.step s (rawOf c)).1
abbrev an1 (s : Option Kh413.Abs) (c : Nat × List Nat) : List Int := (Kh413Neutral.step s (rawOf c)).2
def stAfter (s : Option Kh413.Abs) (cs : List (Nat × List Nat)) : Option Kh413.Abs := cs.foldl st1 s
def outs (s : Option Kh413.Abs) (cs : List (Nat × List Nat)) : List Int := PyFlat.told (PyFlat.played Kh413Neutral.step s (cs.map rawOf))
theorem told_cons (a : List Int) (l : List (List Int)) : PyFlat.told (a :: l) = ((a.length : Int) :: a) ++ PyFlat.told l := rfl
theorem outs_cons (s : Option Kh413.Abs) (c : Nat × List Nat) (cs : List (Nat × List Nat)) : outs s (c :: cs) = (((an1 s c).length : Int) :: an1 s c) ++ outs (st1 s c) cs := rfl
theorem outs_app : ∀ (s : Option Kh413.Abs) (a b : List (Nat × List Nat)), outs s (a ++ b) = outs s a ++ outs (stAfter s a) b
  | _, [], _ => rfl
  | s, c :: a, b => by
    rw [List.cons_append, outs_cons, outs_cons, outs_app (st1 s c) a b, List.append_assoc]
    rfl
theorem outs_one (s : Option Kh413.Abs) (c : Nat × List Nat) : outs s [c] = ((an1 s c).length : Int) :: an1 s c := by
  rw [outs_cons]
  show _ ++ [] = _
  rw [List.append_nil]
theorem st_app (s : Option Kh413.Abs) (a b : List (Nat × List Nat)) : stAfter s (a ++ b) = stAfter (stAfter s a) b := List.foldl_append
theorem take_more {α : Type} {l : List α} {i : Nat} {x : α} (h : l[i]? = some x) : l.take (i + 1) = l.take i ++ [x] := by
  rw [List.take_add_one, h]
  rfl
theorem outs_more {s : Option Kh413.Abs} {cs : List (Nat × List Nat)} {i : Nat} {c : Nat × List Nat} (h : cs[i]? = some c) : outs s (cs.take (i + 1)) = outs s (cs.take i) ++ (((an1 (stAfter s (cs.take i)) c).length : Int) :: an1 (stAfter s (cs.take i)) c) := by
  rw [take_more h, outs_app, outs_one]
theorem st_more {s : Option Kh413.Abs} {cs : List (Nat × List Nat)} {i : Nat} {c : Nat × List Nat} (h : cs[i]? = some c) : stAfter s (cs.take (i + 1)) = st1 (stAfter s (cs.take i)) c := by
  rw [take_more h, st_app]
  rfl
theorem outs_le {s : Option Kh413.Abs} {cs : List (Nat × List Nat)} (i : Nat) : (outs s (cs.take i)).length ≤ (outs s cs).length := by
  have e : outs s cs = outs s (cs.take i ++ cs.drop i) := by rw [List.take_append_drop]
  rw [e, outs_app, List.length_append]
  exact Nat.le_add_right _ _
end Na

/-! Which call it is: what a change answers is one number; a look leaves all as it is. -/
namespace Na
open Kh413 (Work say does atOnce set1 given doing)
theorem change_out {w : Work} {c : Kh411.Call} (h : (Kh411.doesA w.a c).2.out = []) : (Kh413.change w c).2.out = [] := by
  unfold Kh413.change
  split
  · rfl
  · simp only
    split
    · rfl
    · split
      · rfl
      · exact h
theorem does_out {w : Work} {n : Nat} {ns : List Nat} {c : Kh413.Call} (h : IsC n ns c) : (does w c).2.out = [] := by
  cases h with
  | tell t =>
    cases t with
    | rule r =>
      refine change_out ?_
      show (if 2 ^ (2 ^ w.a.m) ≤ r then (w.a, Kh411.say (-22)) else ({ w.a with rule := r }, Kh411.say 0)).2.out = []
      split <;> rfl
    | deed n b x y =>
      refine change_out ?_
      simp only [Kh411.doesA]
      split
      · rfl
      · split <;> rfl
    | drop i =>
      refine change_out ?_
      simp only [Kh411.doesA]
      split <;> rfl
    | allow x =>
      simp only [does]
      split
      · rfl
      · split
        · rfl
        · split <;> rfl
    | set s =>
      simp only [does]
      split
      · rfl
      · split
        · rfl
        · split <;> rfl
    | answer s v =>
      simp only [does]
      split <;> rfl
  | do_ c i =>
    simp only [does]
    split
    · rfl
    · split
      · rfl
      · split
        · rfl
        · split
          · rfl
          · split <;> rfl
  | ask i =>
    simp only [does]
    split
    · rfl
    · split
      · rfl
      · split <;> rfl
  | gather => rfl
theorem doing_chg {a : Kh413.Abs} {n : Nat} {ns : List Nat} {c : Kh413.Call} (h : IsC n ns c) : (doing (some a) c).2 = (does a.now c).2 := by
  have ds : doing (some a) c = if Kh413.changes c && decide (0 ≤ (does a.now c).2.ret) then (some ⟨(does a.now c).1, (a.now :: a.undo).take Kh413.BACK, []⟩, (does a.now c).2) else (some a, (does a.now c).2) := by
    cases h with
    | tell t => cases t <;> rfl
    | do_ => rfl
    | ask => rfl
    | gather => rfl
  rw [ds]
  split <;> rfl
theorem out_begin {s : Option Kh413.Abs} {m c : Nat} : (doing s (.begin_ m c)).2.out = [] := by
  unfold Kh413.doing
  split <;> (try rfl) <;> simp_all
  split
  · rfl
  · split <;> rfl
theorem out_back {a : Kh413.Abs} : (doing (some a) .back).2.out = [] := by
  show (match a.undo with | [] => (some a, say (-2)) | x :: u => (some (⟨x, u, a.now :: a.redo⟩ : Kh413.Abs), say u.length)).2.out = []
  cases a.undo <;> rfl
theorem out_again {a : Kh413.Abs} : (doing (some a) .again).2.out = [] := by
  show (match a.redo with | [] => (some a, say (-2)) | x :: r => (some (⟨x, (a.now :: a.undo).take Kh413.BACK, r⟩ : Kh413.Abs), say r.length)).2.out = []
  cases a.redo <;> rfl
theorem doing_look {a : Kh413.Abs} {n : Nat} {ns : List Nat} {c : Kh413.Call} (h : IsL n ns c) : doing (some a) c = (some a, (does a.now c).2) := by
  cases h <;> rfl
theorem doing_none {n : Nat} {ns : List Nat} {c : Kh413.Call} (h : Is n ns c) (h0 : n ≠ 0) : doing none c = (none, say (-61)) := by
  cases h with
  | begin_ => exact absurd rfl h0
  | chg q =>
    cases q with
    | tell t => cases t <;> rfl
    | do_ => rfl
    | ask => rfl
    | gather => rfl
  | back => rfl
  | again => rfl
  | look q => cases q <;> rfl
theorem IsC.num {n : Nat} {ns : List Nat} {c : Kh413.Call} (h : IsC n ns c) : 1 ≤ n ∧ n ≤ 9 := by
  cases h with
  | tell t => cases t <;> decide
  | do_ => decide
  | ask => decide
  | gather => decide
theorem IsL.num {n : Nat} {ns : List Nat} {c : Kh413.Call} (h : IsL n ns c) : 12 ≤ n := by
  cases h <;> decide
theorem IsL.split {n : Nat} {ns : List Nat} {c : Kh413.Call} (h : IsL n ns c) : (IsR n ns c ∧ 18 ≤ n ∧ n ≤ 24) ∨ ((IsA n c ∧ ns = [] ∨ ∃ x, ns = [x] ∧ IsO n x c) ∧ ¬ (18 ≤ n ∧ n ≤ 24)) := by
  cases h with
  | copies => exact .inr ⟨.inl ⟨.copies, rfl⟩, by decide⟩
  | ahead => exact .inr ⟨.inl ⟨.ahead, rfl⟩, by decide⟩
  | differ => exact .inr ⟨.inl ⟨.differ, rfl⟩, by decide⟩
  | canDo c => exact .inr ⟨.inr ⟨c, rfl, .canDo c⟩, by decide⟩
  | canAsk => exact .inr ⟨.inl ⟨.canAsk, rfl⟩, by decide⟩
  | reach c => exact .inr ⟨.inr ⟨c, rfl, .reach c⟩, by decide⟩
  | keeps c => exact .inl ⟨.keeps c, by decide⟩
  | broken c => exact .inl ⟨.broken c, by decide⟩
  | fewest => exact .inl ⟨.fewest, by decide⟩
  | clashes => exact .inl ⟨.clashes, by decide⟩
  | mostFree => exact .inl ⟨.mostFree, by decide⟩
  | asked => exact .inl ⟨.asked, by decide⟩
  | closed => exact .inl ⟨.closed, by decide⟩
  | told c => exact .inr ⟨.inr ⟨c, rfl, .told c⟩, by decide⟩
  | sure c => exact .inr ⟨.inr ⟨c, rfl, .sure c⟩, by decide⟩
  | may c => exact .inr ⟨.inr ⟨c, rfl, .may c⟩, by decide⟩
  | mayCome c => exact .inr ⟨.inr ⟨c, rfl, .mayCome c⟩, by decide⟩
  | state => exact .inr ⟨.inl ⟨.state, rfl⟩, by decide⟩
end Na

set_option Elab.async false
set_option maxRecDepth 100000
set_option maxHeartbeats 2000000
/-! Words of this program's own proof: defs that stand in the text, defs that keep a promise, lists compared with []. -/
namespace Na
open PySem PySem.Spec PyProof.Rows L2
/-- a def of the top, by its name -/
def Dfn (K : PySem.W.Frag) (mg : Str → Option Value) (x : Str) (st : Stmt) (ps : List Str) : Prop :=
  ∃ (f : Addr) (fd : FuncData), Fun K x x st f fd ∧ Binds K fd ps [] ∧ mg x = some (.ref f)
/-- it keeps a promise -/
def Can (P : Program) (w : World) (K : PySem.W.Frag) (mg : Str → Option Value) (base : Heap) (k : Nat) (x : Str) (sp : Sp) : Prop :=
  ∃ (f : Addr) (fd : FuncData) (ps : List Str), FnOk P w K mg base CX0 k f fd ps sp ∧ Binds K fd ps [] ∧ mg x = some (.ref f) ∧ PySem.W.keepIn K (.ref f) = true
/-- a method -/
def Mth (K : PySem.W.Frag) (C : Addr) (m qual : Str) (st : Stmt) (ps : List Str) : Prop :=
  ∃ (f : Addr) (fd : FuncData), Fun K m qual st f fd ∧ Binds K fd ps [] ∧ Meth K C m f
def CanM (P : Program) (w : World) (K : PySem.W.Frag) (mg : Str → Option Value) (base : Heap) (k : Nat) (C : Addr) (m : Str) (sp : Sp) : Prop :=
  ∃ (f : Addr) (fd : FuncData) (ps : List Str), FnOk P w K mg base CX0 k f fd ps sp ∧ Binds K fd ps [] ∧ Meth K C m f
/-- a class's __init__ -/
def Ini (K : PySem.W.Frag) (mg : Str → Option Value) (x : Str) (C : Addr) (qual : Str) (st : Stmt) (ps : List Str) : Prop :=
  ∃ (f : Addr) (fd : FuncData), Fun K "__init__" qual st f fd ∧ Binds K fd ps [] ∧ Mk K C f ∧ mg x = some (.ref C)
def CanI (P : Program) (w : World) (K : PySem.W.Frag) (mg : Str → Option Value) (base : Heap) (k : Nat) (x : Str) (C : Addr) (sp : Sp) : Prop :=
  ∃ (f : Addr) (fd : FuncData) (ps : List Str), FnOk P w K mg base CX0 k f fd ps sp ∧ Binds K fd ps [] ∧ Mk K C f ∧ mg x = some (.ref C)
def Con (mg : Str → Option Value) (x : Str) (v : Int) : Prop := ∃ t, mg x = some (.int v t)
section
variable {P : Program} {w : World} {K : PySem.W.Frag} {mg : Str → Option Value} {base : Heap}
theorem Dfn.ok {x : Str} {st : Stmt} {N ps : List Str} {k : Nat} {sp : Sp} (D : Dfn K mg x st ps) (S : FnScope N ps (defScope st)) (len : ∀ vs H Q E, sp vs H Q E → vs.length = ps.length)
    (hbody : ∀ (f : Addr) (cdv : Value) (A : Around) (outer : List Env) (s : Shared) (H : Hp) (vs : List V) (Q : VK) (E : XK), Room k (A.deeper (envOfC x (defScope st) s.heap.objs.size f cdv)) → sp vs H Q E →
      ∃ t, PSs (cxOf CX0 P w K mg base N x (defScope st) f cdv A outer s H E).nox (defBody st) t ∧ t { nx := fun _ H' => Q .non H', rt := Q } (start N vs) H) : Can P w K mg base (k + 1) x sp := by
  obtain ⟨f, fd, F, b, g⟩ := D
  exact ⟨f, fd, ps, F.ok S len (hbody f), b, g, F.kp⟩
theorem Mth.ok {C : Addr} {m qual : Str} {st : Stmt} {N ps : List Str} {k : Nat} {sp : Sp} (D : Mth K C m qual st ps) (S : FnScope N ps (defScope st)) (len : ∀ vs H Q E, sp vs H Q E → vs.length = ps.length)
    (hbody : ∀ (f : Addr) (cdv : Value) (A : Around) (outer : List Env) (s : Shared) (H : Hp) (vs : List V) (Q : VK) (E : XK), Room k (A.deeper (envOfC qual (defScope st) s.heap.objs.size f cdv)) → sp vs H Q E →
      ∃ t, PSs (cxOf CX0 P w K mg base N qual (defScope st) f cdv A outer s H E).nox (defBody st) t ∧ t { nx := fun _ H' => Q .non H', rt := Q } (start N vs) H) : CanM P w K mg base (k + 1) C m sp := by
  obtain ⟨f, fd, F, b, g⟩ := D
  exact ⟨f, fd, ps, F.ok S len (hbody f), b, g⟩
theorem Ini.ok {x : Str} {C : Addr} {qual : Str} {st : Stmt} {N ps : List Str} {k : Nat} {sp : Sp} (D : Ini K mg x C qual st ps) (S : FnScope N ps (defScope st)) (len : ∀ vs H Q E, sp vs H Q E → vs.length = ps.length)
    (hbody : ∀ (f : Addr) (cdv : Value) (A : Around) (outer : List Env) (s : Shared) (H : Hp) (vs : List V) (Q : VK) (E : XK), Room k (A.deeper (envOfC qual (defScope st) s.heap.objs.size f cdv)) → sp vs H Q E →
      ∃ t, PSs (cxOf CX0 P w K mg base N qual (defScope st) f cdv A outer s H E).nox (defBody st) t ∧ t { nx := fun _ H' => Q .non H', rt := Q } (start N vs) H) : CanI P w K mg base (k + 1) x C sp := by
  obtain ⟨f, fd, F, b, m, g⟩ := D
  exact ⟨f, fd, ps, F.ok S len (hbody f), b, m, g⟩
end
section
variable {X : Cx} {j k : Nat} {C : Addr} {sp : Sp} {x m : Str} {p pos apos : Pos} {e o : Expr} {es : List Expr} {ta : TE} {t : TA}
theorem pe_can (c : Can X.prog X.w X.K X.mg X.base k x sp) (hr : Room j X.A) (hk : k ≤ j) (hg : Gl X x) (ha : PA X (e :: es) t) (hdb : (x == ("__debug__" : Str)) = false := by decide)
    (he : starEach (e :: es) X.env = (false, eval e X.env) :: starEach es X.env := by rfl) (hpl : (backTo pos (starEach es X.env)).any (·.1) = false := by rfl) :
    PE X (.Call (.Name x p) (e :: es) [] pos) (tCall sp [] E0 t) := by
  obtain ⟨f, fd, ps, F, b, g, kp⟩ := c
  exact pe_call F (hr.mono hk) hg g kp b .nil pass0 ha hdb he hpl
theorem pe_canM {pl : Sem Bool} (c : CanM X.prog X.w X.K X.mg X.base k C m sp) (cl : Cls X.K C) (hr : Room j X.A) (hk : k ≤ j) (ho : PE X o ta) (ha : PA X (e :: es) t)
    (hst : starEach (e :: es) X.env = (false, eval e X.env) :: starEach es X.env := by rfl) (hpl : (backTo pos (starEach es X.env)).any (·.1) = false := by rfl)
    (ht : eval (.Call (.Attribute o m apos) (e :: es) [] pos) X.env = (do
      let ov ← eval o X.env
      standAt apos.atName
      let (f, first) ← holding [ov] (getMethod ov m pl)
      callWith pos f first (backTo pos (starEach (e :: es) X.env)) (backToKw pos (keywordEach [] X.env))) := by rfl) :
    PE X (.Call (.Attribute o m apos) (e :: es) [] pos) (tMeth C m sp [] E0 ta t) := by
  obtain ⟨f, fd, ps, F, b, g⟩ := c
  exact pe_meth ho cl g F (hr.mono hk) b .nil pass0 ha hst hpl ht
theorem pe_canM0 {pl : Sem Bool} (c : CanM X.prog X.w X.K X.mg X.base k C m sp) (cl : Cls X.K C) (hr : Room j X.A) (hk : k ≤ j) (ho : PE X o ta)
    (ht : eval (.Call (.Attribute o m apos) [] [] pos) X.env = (do
      let ov ← eval o X.env
      standAt apos.atName
      let (f, first) ← holding [ov] (getMethod ov m pl)
      callWith pos f first (backTo pos (starEach [] X.env)) (backToKw pos (keywordEach [] X.env))) := by rfl) :
    PE X (.Call (.Attribute o m apos) [] [] pos) (tMeth C m sp [] E0 ta tNil) := by
  obtain ⟨f, fd, ps, F, b, g⟩ := c
  exact pe_meth0 ho cl g F (hr.mono hk) b .nil pass0 ht
theorem pe_canI (c : CanI X.prog X.w X.K X.mg X.base k x C sp) (hr : Room j X.A) (hk : k + 1 ≤ j) (hg : Gl X x) (ha : PA X (e :: es) t) (hdb : (x == ("__debug__" : Str)) = false := by decide)
    (he : starEach (e :: es) X.env = (false, eval e X.env) :: starEach es X.env := by rfl) (hpl : (backTo pos (starEach es X.env)).any (·.1) = false := by rfl) :
    PE X (.Call (.Name x p) (e :: es) [] pos) (tMake C sp [] E0 t) := by
  obtain ⟨f, fd, ps, F, b, M, g⟩ := c
  exact pe_make M F (hr.mono hk) hg g b .nil pass0 ha hdb he hpl
theorem pe_canI0 (c : CanI X.prog X.w X.K X.mg X.base k x C sp) (hr : Room j X.A) (hk : k + 1 ≤ j) (hg : Gl X x) (hdb : (x == ("__debug__" : Str)) = false := by decide) :
    PE X (.Call (.Name x p) [] [] pos) (tMake C sp [] E0 tNil) := by
  obtain ⟨f, fd, ps, F, b, M, g⟩ := c
  exact pe_make0 M F (hr.mono hk) hg g b .nil pass0 hdb
theorem pe_con {v : Int} (c : Con X.mg x v) (hg : Gl X x) (hd : (x == ("__debug__" : Str)) = false := by decide) : PE X (.Name x pos) (tC (.int v)) := by
  obtain ⟨t, h⟩ := c
  exact pe_glob hg h ⟨t, rfl⟩ hd
/-- xs == []: what the items are is not asked -/
def rEqNil : R2 := fun x y H Q => ∃ a b xs, x = .ref a ∧ y = .ref b ∧ H a = some (.lst xs) ∧ H b = some (.lst []) ∧ Q (.bl xs.isEmpty) H
theorem op_eqNil (hu : X.A.units < cLine) : OpR X (compareOp .Eq) rEqNil := by
  intro pins s σ H x y v u Q I rx ry h
  obtain ⟨a, b, xs, rfl, rfl, hA, hB, q⟩ := h
  cases rx
  cases ry
  obtain ⟨z, its, n, r, hl, e⟩ := I.lstM hA
  obtain ⟨z2, its2, n2, r2, hl2, e2⟩ := I.lstM hB
  have n0 : its2 = [] := List.eq_nil_of_length_eq_zero hl2.symm
  subst n0
  cases xs with
  | nil =>
    have m0 : its = [] := List.eq_nil_of_length_eq_zero hl.symm
    subst m0
    refine SeqAt.eq_listAt (items := #[]) (items2 := #[]) (e := fun _ => true) ⟨_, e, rfl, n, rfl⟩ ⟨_, e2, rfl, n2, rfl⟩ rfl hu (fun j h1 _ => absurd h1 (Nat.not_lt_zero j)) ?_
    exact ⟨.bl true, H, I, rfl, q⟩
  | cons c cs =>
    refine SeqAt.eq_list_lengthsAt (items := its.toArray) (items2 := #[]) ⟨_, e, rfl, n, rfl⟩ ⟨_, e2, rfl, n2, rfl⟩ ?_ hu ?_
    · have : its.length = cs.length + 1 := hl.symm
      simp [this]
    · exact ⟨.bl false, H, I, rfl, q⟩
end
end Na

set_option Elab.async false
/-! Whole numbers that are not negative, as the program's bit operations take them. -/
namespace Na
open PySem PySem.Spec PyProof.Rows L2
def nV (n : Nat) : V := V.int (n : Int)
theorem i_and (a b : Nat) : Builtin.bitAnd (a : Int) (b : Int) = ((a &&& b : Nat) : Int) := PySem.W.os_band a b
theorem not_not (x : Int) : Builtin.bitNot (Builtin.bitNot x) = x := by
  unfold Builtin.bitNot
  omega
theorem i_or (a b : Nat) : Builtin.bitOr (a : Int) (b : Int) = ((a ||| b : Nat) : Int) := by
  unfold Builtin.bitOr Builtin.bitAnd
  have ha : decide (0 ≤ Builtin.bitNot (a : Int)) = false := by
    unfold Builtin.bitNot
    exact decide_eq_false (by omega)
  have hb : decide (0 ≤ Builtin.bitNot (b : Int)) = false := by
    unfold Builtin.bitNot
    exact decide_eq_false (by omega)
  rw [ha, hb]
  show Builtin.bitNot (Builtin.bitNot (((Builtin.bitNot (Builtin.bitNot (a : Int))).toNat ||| (Builtin.bitNot (Builtin.bitNot (b : Int))).toNat : Nat) : Int)) = _
  rw [not_not, not_not, not_not, Int.toNat_natCast, Int.toNat_natCast]
theorem or_xor (x y : Nat) : x ||| y = (x ^^^ y) + (x &&& y) := by
  have e : (x ^^^ y) &&& (x &&& y) = 0 := by
    apply Nat.eq_of_testBit_eq
    intro i
    rw [Nat.testBit_and, Nat.testBit_and, Nat.testBit_xor]
    cases x.testBit i <;> cases y.testBit i <;> simp
  rw [← or_add _ _ e]
  apply Nat.eq_of_testBit_eq
  intro i
  rw [Nat.testBit_or, Nat.testBit_or, Nat.testBit_and, Nat.testBit_xor]
  cases x.testBit i <;> cases y.testBit i <;> rfl
theorem i_xor (a b : Nat) : Builtin.bitXor (a : Int) (b : Int) = ((a ^^^ b : Nat) : Int) := by
  unfold Builtin.bitXor
  rw [i_or, i_and, or_xor]
  omega
theorem and_le (x y : Nat) : x &&& y ≤ x := Nat.and_le_left
theorem i_sub (a b : Nat) : Builtin.bitAnd (a : Int) (Builtin.bitNot (b : Int)) = ((sub a b : Nat) : Int) := by
  unfold Builtin.bitAnd
  have ha : decide (0 ≤ (a : Int)) = true := decide_eq_true (by omega)
  have hb : decide (0 ≤ Builtin.bitNot (b : Int)) = false := by
    unfold Builtin.bitNot
    exact decide_eq_false (by omega)
  rw [ha, hb]
  show (a : Int) - (((a : Int).toNat &&& (Builtin.bitNot (Builtin.bitNot (b : Int))).toNat : Nat) : Int) = _
  rw [not_not, Int.toNat_natCast, Int.toNat_natCast]
  unfold sub
  have := and_le a b
  omega
theorem i_shr (a b : Nat) : (a : Int) / 2 ^ (b : Int).toNat = ((a / 2 ^ b : Nat) : Int) := by
  rw [Int.toNat_natCast, Int.natCast_ediv, Int.natCast_pow]
  rfl
theorem i_shl (a b : Nat) : (a : Int) * 2 ^ (b : Int).toNat = ((a * 2 ^ b : Nat) : Int) := by
  rw [Int.toNat_natCast, Int.natCast_mul, Int.natCast_pow]
  rfl
theorem i_eq (a b : Nat) : decide (V.int (a : Int) = V.int (b : Int)) = decide (a = b) := by
  by_cases h : a = b
  · subst h
    simp
  · have : ¬ V.int (a : Int) = V.int (b : Int) := fun e => h (by injection e with e; omega)
    rw [decide_eq_false h, decide_eq_false this]
theorem v_eq (a b : Int) : decide (V.int a = V.int b) = decide (a = b) := by
  by_cases h : a = b
  · subst h
    simp
  · have : ¬ V.int a = V.int b := fun e => h (by injection e)
    rw [decide_eq_false h, decide_eq_false this]
theorem i_has (w n : Nat) : decide (V.int (Builtin.bitAnd ((w : Int) / 2 ^ (n : Int).toNat) 1) = V.int 1) = w.testBit n := by
  rw [i_shr, show (1 : Int) = ((1 : Nat) : Int) from rfl, i_and, i_eq, Nat.and_one_is_mod, Nat.testBit_eq_decide_div_mod_eq]
theorem i_below (w n : Nat) : decide (V.int ((w : Int) / 2 ^ (n : Int).toNat) = V.int 0) = decide (w < 2 ^ n) := by
  rw [i_shr, show (0 : Int) = ((0 : Nat) : Int) from rfl, i_eq]
  have : w / 2 ^ n = 0 ↔ w < 2 ^ n := by
    rw [Nat.div_eq_zero_iff]
    have := Nat.two_pow_pos n
    omega
  exact decide_eq_decide.mpr this
end Na

set_option Elab.async false
set_option maxRecDepth 100000
set_option maxHeartbeats 4000000
namespace Na
open PySem PySem.Spec PyProof.Rows L2
def topS (i : Nat) : Stmt := PySem.Challenge.pw_noasking_s01_answers.main.body.getD i (.Pass ⟨0, 0, 0, 0⟩)
abbrev s_take_apart : Stmt := topS 29
abbrev s_has : Stmt := topS 31
abbrev s_lies_below : Stmt := topS 32
abbrev s_lies_in : Stmt := topS 33
abbrev s_size : Stmt := topS 34
abbrev s_Deed_init : Stmt := inClass (topS 36) 0
abbrev s_is_sound : Stmt := topS 37
abbrev s_is_ready : Stmt := topS 38
abbrev s_outcome : Stmt := topS 39
abbrev s_chosen_of : Stmt := topS 40
abbrev s_put_together : Stmt := topS 51
abbrev s_let_states : Stmt := topS 52
abbrev s_can_be_done : Stmt := topS 53
abbrev s_may_come_to : Stmt := topS 54
abbrev s_joined : Stmt := topS 55
abbrev s_come_together : Stmt := topS 56
abbrev s_is_kept_from : Stmt := topS 57
abbrev s_first_broken : Stmt := topS 58
abbrev s_is_kept : Stmt := topS 59
abbrev s_is_closed : Stmt := topS 60
abbrev s_do_clash : Stmt := topS 61
abbrev s_World_init : Stmt := inClass (topS 64) 0
abbrev s_twin : Stmt := topS 65
abbrev s_straying : Stmt := topS 66
abbrev s_are_together : Stmt := topS 67
abbrev s_lies_ahead : Stmt := topS 68
abbrev s_reached_from : Stmt := topS 69
abbrev s_may_come_of : Stmt := topS 70
abbrev s_make_common : Stmt := topS 71
abbrev s_come_of : Stmt := topS 73
abbrev s_come_of_doing : Stmt := topS 74
abbrev s_come_of_asking : Stmt := topS 75
abbrev s_do_deed : Stmt := topS 76
abbrev s_ask_deed : Stmt := topS 77
abbrev s_gather : Stmt := topS 78
abbrev s_History_init : Stmt := inClass (topS 81) 0
abbrev s_History_start_with : Stmt := inClass (topS 81) 1
abbrev s_History_go_on_with : Stmt := inClass (topS 81) 2
abbrev s_History_take_back : Stmt := inClass (topS 81) 3
abbrev s_History_do_again : Stmt := inClass (topS 81) 4
abbrev s_is_free : Stmt := topS 83
abbrev s_lies_in_one : Stmt := topS 84
abbrev s_greatest_free : Stmt := topS 85
abbrev s_fewest_without : Stmt := topS 86
abbrev s_one_longer : Stmt := topS 89
abbrev s_rows_not_falling : Stmt := topS 90
abbrev s_rows_that_break : Stmt := topS 91
abbrev s_how_broken : Stmt := topS 92
abbrev s_fewest_that_break : Stmt := topS 93
abbrev s_which_clash : Stmt := topS 94
abbrev s_which_are_free : Stmt := topS 95
abbrev s_which_are_asked : Stmt := topS 96
abbrev s_look_by_copies : Stmt := topS 97
abbrev s_look_at_rule : Stmt := topS 98
abbrev s_counted : Stmt := topS 100
abbrev s_what_can_be_done : Stmt := topS 101
abbrev s_what_can_be_asked : Stmt := topS 102
abbrev s_what_is_sure : Stmt := topS 103
abbrev s_what_may_be : Stmt := topS 104
abbrev s_look_at_one : Stmt := topS 105
abbrev s_look_at_all : Stmt := topS 106
abbrev s_tell_rule : Stmt := topS 109
abbrev s_tell_deed : Stmt := topS 110
abbrev s_drop_deed : Stmt := topS 111
abbrev s_allow_deeds : Stmt := topS 112
abbrev s_set_state : Stmt := topS 113
abbrev s_tell_answer : Stmt := topS 114
abbrev s_begin : Stmt := topS 116
abbrev s_tell : Stmt := topS 117
abbrev s_change : Stmt := topS 118
abbrev s_change_and_keep : Stmt := topS 119
abbrev s_look : Stmt := topS 120
abbrev s_answer_call : Stmt := topS 121
abbrev s_answers : Stmt := topS 122
abbrev N_take_apart : List Str := ["calls", "found", "at", "behind"]
theorem sc_take_apart : FnScope N_take_apart ["calls"] (defScope s_take_apart) := ⟨rfl, rfl, rfl, by decide +kernel, rfl, by decide +kernel, by decide +kernel⟩
abbrev N_has : List Str := ["whole", "number"]
theorem sc_has : FnScope N_has ["whole", "number"] (defScope s_has) := ⟨rfl, rfl, rfl, by decide +kernel, rfl, by decide +kernel, by decide +kernel⟩
abbrev N_lies_below : List Str := ["whole", "bound"]
theorem sc_lies_below : FnScope N_lies_below ["whole", "bound"] (defScope s_lies_below) := ⟨rfl, rfl, rfl, by decide +kernel, rfl, by decide +kernel, by decide +kernel⟩
abbrev N_lies_in : List Str := ["part", "whole"]
theorem sc_lies_in : FnScope N_lies_in ["part", "whole"] (defScope s_lies_in) := ⟨rfl, rfl, rfl, by decide +kernel, rfl, by decide +kernel, by decide +kernel⟩
abbrev N_size : List Str := ["whole", "many"]
theorem sc_size : FnScope N_size ["whole"] (defScope s_size) := ⟨rfl, rfl, rfl, by decide +kernel, rfl, by decide +kernel, by decide +kernel⟩
abbrev N_Deed_init : List Str := ["self", "need", "be", "on", "off"]
theorem sc_Deed_init : FnScope N_Deed_init ["self", "need", "be", "on", "off"] (defScope s_Deed_init) := ⟨rfl, rfl, rfl, by decide +kernel, rfl, by decide +kernel, by decide +kernel⟩
abbrev N_is_sound : List Str := ["deed", "facts", "named"]
theorem sc_is_sound : FnScope N_is_sound ["deed", "facts"] (defScope s_is_sound) := ⟨rfl, rfl, rfl, by decide +kernel, rfl, by decide +kernel, by decide +kernel⟩
abbrev N_is_ready : List Str := ["deed", "state"]
theorem sc_is_ready : FnScope N_is_ready ["deed", "state"] (defScope s_is_ready) := ⟨rfl, rfl, rfl, by decide +kernel, rfl, by decide +kernel, by decide +kernel⟩
abbrev N_outcome : List Str := ["deed", "state"]
theorem sc_outcome : FnScope N_outcome ["deed", "state"] (defScope s_outcome) := ⟨rfl, rfl, rfl, by decide +kernel, rfl, by decide +kernel, by decide +kernel⟩
abbrev N_chosen_of : List Str := ["deeds", "chosen", "number", "deed"]
theorem sc_chosen_of : FnScope N_chosen_of ["deeds", "chosen"] (defScope s_chosen_of) := ⟨rfl, rfl, rfl, by decide +kernel, rfl, by decide +kernel, by decide +kernel⟩
abbrev N_put_together : List Str := ["common", "states", "changed", "state"]
theorem sc_put_together : FnScope N_put_together ["common", "states"] (defScope s_put_together) := ⟨rfl, rfl, rfl, by decide +kernel, rfl, by decide +kernel, by decide +kernel⟩
abbrev N_let_states : List Str := ["rule", "facts", "state"]
theorem sc_let_states : FnScope N_let_states ["rule", "facts"] (defScope s_let_states) := ⟨rfl, rfl, rfl, by decide +kernel, rfl, by decide +kernel, by decide +kernel⟩
abbrev N_can_be_done : List Str := ["rule", "deed", "state"]
theorem sc_can_be_done : FnScope N_can_be_done ["rule", "deed", "state"] (defScope s_can_be_done) := ⟨rfl, rfl, rfl, by decide +kernel, rfl, by decide +kernel, by decide +kernel⟩
abbrev N_may_come_to : List Str := ["rule", "deeds", "state", "found", "at", "deed", "after"]
theorem sc_may_come_to : FnScope N_may_come_to ["rule", "deeds", "state"] (defScope s_may_come_to) := ⟨rfl, rfl, rfl, by decide +kernel, rfl, by decide +kernel, by decide +kernel⟩
abbrev N_joined : List Str := ["first", "second", "found", "one", "other"]
theorem sc_joined : FnScope N_joined ["first", "second"] (defScope s_joined) := ⟨rfl, rfl, rfl, by decide +kernel, rfl, by decide +kernel, by decide +kernel⟩
abbrev N_come_together : List Str := ["common", "choices", "changed", "states", "change", "state"]
theorem sc_come_together : FnScope N_come_together ["common", "choices"] (defScope s_come_together) := ⟨rfl, rfl, rfl, by decide +kernel, rfl, by decide +kernel, by decide +kernel⟩
abbrev N_is_kept_from : List Str := ["rule", "deeds", "common", "copies", "reached", "state"]
theorem sc_is_kept_from : FnScope N_is_kept_from ["rule", "deeds", "common", "copies"] (defScope s_is_kept_from) := ⟨rfl, rfl, rfl, by decide +kernel, rfl, by decide +kernel, by decide +kernel⟩
abbrev N_first_broken : List Str := ["rule", "deeds", "facts", "copies", "common"]
theorem sc_first_broken : FnScope N_first_broken ["rule", "deeds", "facts", "copies"] (defScope s_first_broken) := ⟨rfl, rfl, rfl, by decide +kernel, rfl, by decide +kernel, by decide +kernel⟩
abbrev N_is_kept : List Str := ["rule", "deeds", "facts", "copies"]
theorem sc_is_kept : FnScope N_is_kept ["rule", "deeds", "facts", "copies"] (defScope s_is_kept) := ⟨rfl, rfl, rfl, by decide +kernel, rfl, by decide +kernel, by decide +kernel⟩
abbrev N_is_closed : List Str := ["rule", "facts", "let", "common", "state"]
theorem sc_is_closed : FnScope N_is_closed ["rule", "facts"] (defScope s_is_closed) := ⟨rfl, rfl, rfl, by decide +kernel, rfl, by decide +kernel, by decide +kernel⟩
abbrev N_do_clash : List Str := ["rule", "facts", "first", "second", "common", "states"]
theorem sc_do_clash : FnScope N_do_clash ["rule", "facts", "first", "second"] (defScope s_do_clash) := ⟨rfl, rfl, rfl, by decide +kernel, rfl, by decide +kernel, by decide +kernel⟩
abbrev N_World_init : List Str := ["self", "facts", "copies"]
theorem sc_World_init : FnScope N_World_init ["self", "facts", "copies"] (defScope s_World_init) := ⟨rfl, rfl, rfl, by decide +kernel, rfl, by decide +kernel, by decide +kernel⟩
abbrev N_twin : List Str := ["world", "other"]
theorem sc_twin : FnScope N_twin ["world"] (defScope s_twin) := ⟨rfl, rfl, rfl, by decide +kernel, rfl, by decide +kernel, by decide +kernel⟩
abbrev N_straying : List Str := ["world", "copy", "state"]
theorem sc_straying : FnScope N_straying ["world"] (defScope s_straying) := ⟨rfl, rfl, rfl, by decide +kernel, rfl, by decide +kernel, by decide +kernel⟩
abbrev N_are_together : List Str := ["world"]
theorem sc_are_together : FnScope N_are_together ["world"] (defScope s_are_together) := ⟨rfl, rfl, rfl, by decide +kernel, rfl, by decide +kernel, by decide +kernel⟩
abbrev N_lies_ahead : List Str := ["world"]
theorem sc_lies_ahead : FnScope N_lies_ahead ["world"] (defScope s_lies_ahead) := ⟨rfl, rfl, rfl, by decide +kernel, rfl, by decide +kernel, by decide +kernel⟩
abbrev N_reached_from : List Str := ["world", "state"]
theorem sc_reached_from : FnScope N_reached_from ["world", "state"] (defScope s_reached_from) := ⟨rfl, rfl, rfl, by decide +kernel, rfl, by decide +kernel, by decide +kernel⟩
abbrev N_may_come_of : List Str := ["world", "copy", "others"]
theorem sc_may_come_of : FnScope N_may_come_of ["world", "copy"] (defScope s_may_come_of) := ⟨rfl, rfl, rfl, by decide +kernel, rfl, by decide +kernel, by decide +kernel⟩
abbrev N_make_common : List Str := ["world", "state"]
theorem sc_make_common : FnScope N_make_common ["world", "state"] (defScope s_make_common) := ⟨rfl, rfl, rfl, by decide +kernel, rfl, by decide +kernel, by decide +kernel⟩
abbrev N_come_of : List Str := ["world", "number", "state", "deed", "after"]
theorem sc_come_of : FnScope N_come_of ["world", "number", "state"] (defScope s_come_of) := ⟨rfl, rfl, rfl, by decide +kernel, rfl, by decide +kernel, by decide +kernel⟩
abbrev N_come_of_doing : List Str := ["world", "copy", "number"]
theorem sc_come_of_doing : FnScope N_come_of_doing ["world", "copy", "number"] (defScope s_come_of_doing) := ⟨rfl, rfl, rfl, by decide +kernel, rfl, by decide +kernel, by decide +kernel⟩
abbrev N_come_of_asking : List Str := ["world", "number"]
theorem sc_come_of_asking : FnScope N_come_of_asking ["world", "number"] (defScope s_come_of_asking) := ⟨rfl, rfl, rfl, by decide +kernel, rfl, by decide +kernel, by decide +kernel⟩
abbrev N_do_deed : List Str := ["world", "copy", "number", "after"]
theorem sc_do_deed : FnScope N_do_deed ["world", "copy", "number"] (defScope s_do_deed) := ⟨rfl, rfl, rfl, by decide +kernel, rfl, by decide +kernel, by decide +kernel⟩
abbrev N_ask_deed : List Str := ["world", "number", "after"]
theorem sc_ask_deed : FnScope N_ask_deed ["world", "number"] (defScope s_ask_deed) := ⟨rfl, rfl, rfl, by decide +kernel, rfl, by decide +kernel, by decide +kernel⟩
abbrev N_gather : List Str := ["world"]
theorem sc_gather : FnScope N_gather ["world"] (defScope s_gather) := ⟨rfl, rfl, rfl, by decide +kernel, rfl, by decide +kernel, by decide +kernel⟩
abbrev N_History_init : List Str := ["self"]
theorem sc_History_init : FnScope N_History_init ["self"] (defScope s_History_init) := ⟨rfl, rfl, rfl, by decide +kernel, rfl, by decide +kernel, by decide +kernel⟩
abbrev N_History_start_with : List Str := ["self", "world"]
theorem sc_History_start_with : FnScope N_History_start_with ["self", "world"] (defScope s_History_start_with) := ⟨rfl, rfl, rfl, by decide +kernel, rfl, by decide +kernel, by decide +kernel⟩
abbrev N_History_go_on_with : List Str := ["self", "world"]
theorem sc_History_go_on_with : FnScope N_History_go_on_with ["self", "world"] (defScope s_History_go_on_with) := ⟨rfl, rfl, rfl, by decide +kernel, rfl, by decide +kernel, by decide +kernel⟩
abbrev N_History_take_back : List Str := ["self"]
theorem sc_History_take_back : FnScope N_History_take_back ["self"] (defScope s_History_take_back) := ⟨rfl, rfl, rfl, by decide +kernel, rfl, by decide +kernel, by decide +kernel⟩
abbrev N_History_do_again : List Str := ["self"]
theorem sc_History_do_again : FnScope N_History_do_again ["self"] (defScope s_History_do_again) := ⟨rfl, rfl, rfl, by decide +kernel, rfl, by decide +kernel, by decide +kernel⟩
abbrev N_is_free : List Str := ["rule", "deeds", "facts"]
theorem sc_is_free : FnScope N_is_free ["rule", "deeds", "facts"] (defScope s_is_free) := ⟨rfl, rfl, rfl, by decide +kernel, rfl, by decide +kernel, by decide +kernel⟩
abbrev N_lies_in_one : List Str := ["part", "wholes", "whole"]
theorem sc_lies_in_one : FnScope N_lies_in_one ["part", "wholes"] (defScope s_lies_in_one) := ⟨rfl, rfl, rfl, by decide +kernel, rfl, by decide +kernel, by decide +kernel⟩
abbrev N_greatest_free : List Str := ["rule", "deeds", "facts", "found", "chosen"]
theorem sc_greatest_free : FnScope N_greatest_free ["rule", "deeds", "facts"] (defScope s_greatest_free) := ⟨rfl, rfl, rfl, by decide +kernel, rfl, by decide +kernel, by decide +kernel⟩
abbrev N_fewest_without : List Str := ["rule", "deeds", "facts", "everything", "left_out", "fewest", "chosen"]
theorem sc_fewest_without : FnScope N_fewest_without ["rule", "deeds", "facts"] (defScope s_fewest_without) := ⟨rfl, rfl, rfl, by decide +kernel, rfl, by decide +kernel, by decide +kernel⟩
abbrev N_one_longer : List Str := ["rows", "states", "longer", "row", "state"]
theorem sc_one_longer : FnScope N_one_longer ["rows", "states"] (defScope s_one_longer) := ⟨rfl, rfl, rfl, by decide +kernel, rfl, by decide +kernel, by decide +kernel⟩
abbrev N_rows_not_falling : List Str := ["states", "many", "rows", "turn"]
theorem sc_rows_not_falling : FnScope N_rows_not_falling ["states", "many"] (defScope s_rows_not_falling) := ⟨rfl, rfl, rfl, by decide +kernel, rfl, by decide +kernel, by decide +kernel⟩
abbrev N_rows_that_break : List Str := ["world", "common", "copies", "reached", "row"]
theorem sc_rows_that_break : FnScope N_rows_that_break ["world", "common", "copies"] (defScope s_rows_that_break) := ⟨rfl, rfl, rfl, by decide +kernel, rfl, by decide +kernel, by decide +kernel⟩
abbrev N_how_broken : List Str := ["world", "copies", "common", "row"]
theorem sc_how_broken : FnScope N_how_broken ["world", "copies"] (defScope s_how_broken) := ⟨rfl, rfl, rfl, by decide +kernel, rfl, by decide +kernel, by decide +kernel⟩
abbrev N_fewest_that_break : List Str := ["world", "copies"]
theorem sc_fewest_that_break : FnScope N_fewest_that_break ["world"] (defScope s_fewest_that_break) := ⟨rfl, rfl, rfl, by decide +kernel, rfl, by decide +kernel, by decide +kernel⟩
abbrev N_which_clash : List Str := ["world", "found", "first", "second"]
theorem sc_which_clash : FnScope N_which_clash ["world"] (defScope s_which_clash) := ⟨rfl, rfl, rfl, by decide +kernel, rfl, by decide +kernel, by decide +kernel⟩
abbrev N_which_are_free : List Str := ["world", "found"]
theorem sc_which_are_free : FnScope N_which_are_free ["world"] (defScope s_which_are_free) := ⟨rfl, rfl, rfl, by decide +kernel, rfl, by decide +kernel, by decide +kernel⟩
abbrev N_which_are_asked : List Str := ["world", "found"]
theorem sc_which_are_asked : FnScope N_which_are_asked ["world"] (defScope s_which_are_asked) := ⟨rfl, rfl, rfl, by decide +kernel, rfl, by decide +kernel, by decide +kernel⟩
abbrev N_look_by_copies : List Str := ["world", "call", "copies"]
theorem sc_look_by_copies : FnScope N_look_by_copies ["world", "call", "copies"] (defScope s_look_by_copies) := ⟨rfl, rfl, rfl, by decide +kernel, rfl, by decide +kernel, by decide +kernel⟩
abbrev N_look_at_rule : List Str := ["world", "call", "numbers"]
theorem sc_look_at_rule : FnScope N_look_at_rule ["world", "call", "numbers"] (defScope s_look_at_rule) := ⟨rfl, rfl, rfl, by decide +kernel, rfl, by decide +kernel, by decide +kernel⟩
abbrev N_counted : List Str := ["found"]
theorem sc_counted : FnScope N_counted ["found"] (defScope s_counted) := ⟨rfl, rfl, rfl, by decide +kernel, rfl, by decide +kernel, by decide +kernel⟩
abbrev N_what_can_be_done : List Str := ["world", "copy", "number"]
theorem sc_what_can_be_done : FnScope N_what_can_be_done ["world", "copy"] (defScope s_what_can_be_done) := ⟨rfl, rfl, rfl, by decide +kernel, rfl, by decide +kernel, by decide +kernel⟩
abbrev N_what_can_be_asked : List Str := ["world", "number"]
theorem sc_what_can_be_asked : FnScope N_what_can_be_asked ["world"] (defScope s_what_can_be_asked) := ⟨rfl, rfl, rfl, by decide +kernel, rfl, by decide +kernel, by decide +kernel⟩
abbrev N_what_is_sure : List Str := ["world", "copy", "things", "state"]
theorem sc_what_is_sure : FnScope N_what_is_sure ["world", "copy"] (defScope s_what_is_sure) := ⟨rfl, rfl, rfl, by decide +kernel, rfl, by decide +kernel, by decide +kernel⟩
abbrev N_what_may_be : List Str := ["world", "copy", "things", "state"]
theorem sc_what_may_be : FnScope N_what_may_be ["world", "copy"] (defScope s_what_may_be) := ⟨rfl, rfl, rfl, by decide +kernel, rfl, by decide +kernel, by decide +kernel⟩
abbrev N_look_at_one : List Str := ["world", "call", "copy"]
theorem sc_look_at_one : FnScope N_look_at_one ["world", "call", "copy"] (defScope s_look_at_one) := ⟨rfl, rfl, rfl, by decide +kernel, rfl, by decide +kernel, by decide +kernel⟩
abbrev N_look_at_all : List Str := ["world", "call"]
theorem sc_look_at_all : FnScope N_look_at_all ["world", "call"] (defScope s_look_at_all) := ⟨rfl, rfl, rfl, by decide +kernel, rfl, by decide +kernel, by decide +kernel⟩
abbrev N_tell_rule : List Str := ["world", "rule"]
theorem sc_tell_rule : FnScope N_tell_rule ["world", "rule"] (defScope s_tell_rule) := ⟨rfl, rfl, rfl, by decide +kernel, rfl, by decide +kernel, by decide +kernel⟩
abbrev N_tell_deed : List Str := ["world", "deed"]
theorem sc_tell_deed : FnScope N_tell_deed ["world", "deed"] (defScope s_tell_deed) := ⟨rfl, rfl, rfl, by decide +kernel, rfl, by decide +kernel, by decide +kernel⟩
abbrev N_drop_deed : List Str := ["world", "number"]
theorem sc_drop_deed : FnScope N_drop_deed ["world", "number"] (defScope s_drop_deed) := ⟨rfl, rfl, rfl, by decide +kernel, rfl, by decide +kernel, by decide +kernel⟩
abbrev N_allow_deeds : List Str := ["world", "chosen", "before"]
theorem sc_allow_deeds : FnScope N_allow_deeds ["world", "chosen"] (defScope s_allow_deeds) := ⟨rfl, rfl, rfl, by decide +kernel, rfl, by decide +kernel, by decide +kernel⟩
abbrev N_set_state : List Str := ["world", "state", "before"]
theorem sc_set_state : FnScope N_set_state ["world", "state"] (defScope s_set_state) := ⟨rfl, rfl, rfl, by decide +kernel, rfl, by decide +kernel, by decide +kernel⟩
abbrev N_tell_answer : List Str := ["world", "state", "things", "before"]
theorem sc_tell_answer : FnScope N_tell_answer ["world", "state", "things"] (defScope s_tell_answer) := ⟨rfl, rfl, rfl, by decide +kernel, rfl, by decide +kernel, by decide +kernel⟩
abbrev N_begin : List Str := ["history", "facts", "copies"]
theorem sc_begin : FnScope N_begin ["history", "facts", "copies"] (defScope s_begin) := ⟨rfl, rfl, rfl, by decide +kernel, rfl, by decide +kernel, by decide +kernel⟩
abbrev N_tell : List Str := ["world", "call", "numbers"]
theorem sc_tell : FnScope N_tell ["world", "call", "numbers"] (defScope s_tell) := ⟨rfl, rfl, rfl, by decide +kernel, rfl, by decide +kernel, by decide +kernel⟩
abbrev N_change : List Str := ["world", "call", "numbers"]
theorem sc_change : FnScope N_change ["world", "call", "numbers"] (defScope s_change) := ⟨rfl, rfl, rfl, by decide +kernel, rfl, by decide +kernel, by decide +kernel⟩
abbrev N_change_and_keep : List Str := ["history", "call", "numbers", "after", "answer"]
theorem sc_change_and_keep : FnScope N_change_and_keep ["history", "call", "numbers"] (defScope s_change_and_keep) := ⟨rfl, rfl, rfl, by decide +kernel, rfl, by decide +kernel, by decide +kernel⟩
abbrev N_look : List Str := ["world", "call", "numbers"]
theorem sc_look : FnScope N_look ["world", "call", "numbers"] (defScope s_look) := ⟨rfl, rfl, rfl, by decide +kernel, rfl, by decide +kernel, by decide +kernel⟩
abbrev N_answer_call : List Str := ["history", "call", "numbers"]
theorem sc_answer_call : FnScope N_answer_call ["history", "call", "numbers"] (defScope s_answer_call) := ⟨rfl, rfl, rfl, by decide +kernel, rfl, by decide +kernel, by decide +kernel⟩
abbrev N_answers : List Str := ["calls", "history", "found", "call", "numbers", "answered"]
theorem sc_answers : FnScope N_answers ["calls"] (defScope s_answers) := ⟨rfl, rfl, rfl, by decide +kernel, rfl, by decide +kernel, by decide +kernel⟩
structure Txt (K : PySem.W.Frag) (mg : Str → Option Value) (C_Deed C_World C_History Z_SIZES : Addr) : Prop where
  b_all : mg "all" = none
  b_any : mg "any" = none
  b_enumerate : mg "enumerate" = none
  b_int : mg "int" = none
  b_len : mg "len" = none
  b_list : mg "list" = none
  b_min : mg "min" = none
  b_range : mg "range" = none
  b_sorted : mg "sorted" = none
  c_BEGIN : Con mg "BEGIN" (0)
  c_RULE : Con mg "RULE" (1)
  c_DEED : Con mg "DEED" (2)
  c_DROP : Con mg "DROP" (3)
  c_ALLOW : Con mg "ALLOW" (4)
  c_SET : Con mg "SET" (5)
  c_DO : Con mg "DO" (7)
  c_ASK : Con mg "ASK" (8)
  c_GATHER : Con mg "GATHER" (9)
  c_BACK : Con mg "BACK" (10)
  c_AGAIN : Con mg "AGAIN" (11)
  c_COPIES : Con mg "COPIES" (12)
  c_AHEAD : Con mg "AHEAD" (13)
  c_DIFFER : Con mg "DIFFER" (14)
  c_CAN_DO : Con mg "CAN_DO" (15)
  c_CAN_ASK : Con mg "CAN_ASK" (16)
  c_REACH : Con mg "REACH" (17)
  c_KEEPS : Con mg "KEEPS" (18)
  c_BROKEN : Con mg "BROKEN" (19)
  c_FEWEST : Con mg "FEWEST" (20)
  c_CLASHES : Con mg "CLASHES" (21)
  c_MOST_FREE : Con mg "MOST_FREE" (22)
  c_ASKED : Con mg "ASKED" (23)
  c_CLOSED : Con mg "CLOSED" (24)
  c_TOLD : Con mg "TOLD" (25)
  c_SURE : Con mg "SURE" (26)
  c_MAY : Con mg "MAY" (27)
  c_NONE_SUCH : Con mg "NONE_SUCH" (-2)
  c_NEED_NOT_SO : Con mg "NEED_NOT_SO" (-6)
  c_NOT_TOGETHER : Con mg "NOT_TOGETHER" (-16)
  c_NOT_AS_TOLD : Con mg "NOT_AS_TOLD" (-22)
  c_TOO_MANY : Con mg "TOO_MANY" (-28)
  c_NOT_LET : Con mg "NOT_LET" (-33)
  c_KEPT : Con mg "KEPT" (-33)
  c_NOT_ALLOWED : Con mg "NOT_ALLOWED" (-35)
  c_NOT_BEGUN : Con mg "NOT_BEGUN" (-61)
  c_ALL_THINGS : Con mg "ALL_THINGS" (7)
  c_MOST_TAKEN_BACK : Con mg "MOST_TAKEN_BACK" (10)
  c_MOST_COPIES : Con mg "MOST_COPIES" (4)
  c_MOST_DEEDS : Con mg "MOST_DEEDS" (6)
  g_SIZES : mg "SIZES" = some (.ref Z_SIZES)
  t_SIZES : ∀ H : Hp, SqT K H Z_SIZES [.int 2, .int 1, .int 4, .int 1, .int 1, .int 1, .int 2, .int 2, .int 1, .int 0, .int 0, .int 0, .int 0, .int 0, .int 0, .int 1, .int 0, .int 1, .int 1, .int 1, .int 0, .int 0, .int 0, .int 0, .int 0, .int 1, .int 1, .int 1, .int 1, .int 0]
  cl_Deed : Cls K C_Deed
  n_Deed_need : NoAttr K C_Deed "need"
  n_Deed_be : NoAttr K C_Deed "be"
  n_Deed_on : NoAttr K C_Deed "on"
  n_Deed_off : NoAttr K C_Deed "off"
  cl_World : Cls K C_World
  n_World_facts : NoAttr K C_World "facts"
  n_World_rule : NoAttr K C_World "rule"
  n_World_deeds : NoAttr K C_World "deeds"
  n_World_allowed : NoAttr K C_World "allowed"
  n_World_told : NoAttr K C_World "told"
  n_World_common : NoAttr K C_World "common"
  n_World_states : NoAttr K C_World "states"
  cl_History : Cls K C_History
  n_History_world : NoAttr K C_History "world"
  n_History_past : NoAttr K C_History "past"
  n_History_undone : NoAttr K C_History "undone"
  d_take_apart : Dfn K mg "take_apart" s_take_apart ["calls"]
  d_has : Dfn K mg "has" s_has ["whole", "number"]
  d_lies_below : Dfn K mg "lies_below" s_lies_below ["whole", "bound"]
  d_lies_in : Dfn K mg "lies_in" s_lies_in ["part", "whole"]
  d_size : Dfn K mg "size" s_size ["whole"]
  d_Deed_init : Ini K mg "Deed" C_Deed "Deed.__init__" s_Deed_init ["self", "need", "be", "on", "off"]
  d_is_sound : Dfn K mg "is_sound" s_is_sound ["deed", "facts"]
  d_is_ready : Dfn K mg "is_ready" s_is_ready ["deed", "state"]
  d_outcome : Dfn K mg "outcome" s_outcome ["deed", "state"]
  d_chosen_of : Dfn K mg "chosen_of" s_chosen_of ["deeds", "chosen"]
  d_put_together : Dfn K mg "put_together" s_put_together ["common", "states"]
  d_let_states : Dfn K mg "let_states" s_let_states ["rule", "facts"]
  d_can_be_done : Dfn K mg "can_be_done" s_can_be_done ["rule", "deed", "state"]
  d_may_come_to : Dfn K mg "may_come_to" s_may_come_to ["rule", "deeds", "state"]
  d_joined : Dfn K mg "joined" s_joined ["first", "second"]
  d_come_together : Dfn K mg "come_together" s_come_together ["common", "choices"]
  d_is_kept_from : Dfn K mg "is_kept_from" s_is_kept_from ["rule", "deeds", "common", "copies"]
  d_first_broken : Dfn K mg "first_broken" s_first_broken ["rule", "deeds", "facts", "copies"]
  d_is_kept : Dfn K mg "is_kept" s_is_kept ["rule", "deeds", "facts", "copies"]
  d_is_closed : Dfn K mg "is_closed" s_is_closed ["rule", "facts"]
  d_do_clash : Dfn K mg "do_clash" s_do_clash ["rule", "facts", "first", "second"]
  d_World_init : Ini K mg "World" C_World "World.__init__" s_World_init ["self", "facts", "copies"]
  d_twin : Dfn K mg "twin" s_twin ["world"]
  d_straying : Dfn K mg "straying" s_straying ["world"]
  d_are_together : Dfn K mg "are_together" s_are_together ["world"]
  d_lies_ahead : Dfn K mg "lies_ahead" s_lies_ahead ["world"]
  d_reached_from : Dfn K mg "reached_from" s_reached_from ["world", "state"]
  d_may_come_of : Dfn K mg "may_come_of" s_may_come_of ["world", "copy"]
  d_make_common : Dfn K mg "make_common" s_make_common ["world", "state"]
  d_come_of : Dfn K mg "come_of" s_come_of ["world", "number", "state"]
  d_come_of_doing : Dfn K mg "come_of_doing" s_come_of_doing ["world", "copy", "number"]
  d_come_of_asking : Dfn K mg "come_of_asking" s_come_of_asking ["world", "number"]
  d_do_deed : Dfn K mg "do_deed" s_do_deed ["world", "copy", "number"]
  d_ask_deed : Dfn K mg "ask_deed" s_ask_deed ["world", "number"]
  d_gather : Dfn K mg "gather" s_gather ["world"]
  d_History_init : Ini K mg "History" C_History "History.__init__" s_History_init ["self"]
  d_History_start_with : Mth K C_History "start_with" "History.start_with" s_History_start_with ["self", "world"]
  d_History_go_on_with : Mth K C_History "go_on_with" "History.go_on_with" s_History_go_on_with ["self", "world"]
  d_History_take_back : Mth K C_History "take_back" "History.take_back" s_History_take_back ["self"]
  d_History_do_again : Mth K C_History "do_again" "History.do_again" s_History_do_again ["self"]
  d_is_free : Dfn K mg "is_free" s_is_free ["rule", "deeds", "facts"]
  d_lies_in_one : Dfn K mg "lies_in_one" s_lies_in_one ["part", "wholes"]
  d_greatest_free : Dfn K mg "greatest_free" s_greatest_free ["rule", "deeds", "facts"]
  d_fewest_without : Dfn K mg "fewest_without" s_fewest_without ["rule", "deeds", "facts"]
  d_one_longer : Dfn K mg "one_longer" s_one_longer ["rows", "states"]
  d_rows_not_falling : Dfn K mg "rows_not_falling" s_rows_not_falling ["states", "many"]
  d_rows_that_break : Dfn K mg "rows_that_break" s_rows_that_break ["world", "common", "copies"]
  d_how_broken : Dfn K mg "how_broken" s_how_broken ["world", "copies"]
  d_fewest_that_break : Dfn K mg "fewest_that_break" s_fewest_that_break ["world"]
  d_which_clash : Dfn K mg "which_clash" s_which_clash ["world"]
  d_which_are_free : Dfn K mg "which_are_free" s_which_are_free ["world"]
  d_which_are_asked : Dfn K mg "which_are_asked" s_which_are_asked ["world"]
  d_look_by_copies : Dfn K mg "look_by_copies" s_look_by_copies ["world", "call", "copies"]
  d_look_at_rule : Dfn K mg "look_at_rule" s_look_at_rule ["world", "call", "numbers"]
  d_counted : Dfn K mg "counted" s_counted ["found"]
  d_what_can_be_done : Dfn K mg "what_can_be_done" s_what_can_be_done ["world", "copy"]
  d_what_can_be_asked : Dfn K mg "what_can_be_asked" s_what_can_be_asked ["world"]
  d_what_is_sure : Dfn K mg "what_is_sure" s_what_is_sure ["world", "copy"]
  d_what_may_be : Dfn K mg "what_may_be" s_what_may_be ["world", "copy"]
  d_look_at_one : Dfn K mg "look_at_one" s_look_at_one ["world", "call", "copy"]
  d_look_at_all : Dfn K mg "look_at_all" s_look_at_all ["world", "call"]
  d_tell_rule : Dfn K mg "tell_rule" s_tell_rule ["world", "rule"]
  d_tell_deed : Dfn K mg "tell_deed" s_tell_deed ["world", "deed"]
  d_drop_deed : Dfn K mg "drop_deed" s_drop_deed ["world", "number"]
  d_allow_deeds : Dfn K mg "allow_deeds" s_allow_deeds ["world", "chosen"]
  d_set_state : Dfn K mg "set_state" s_set_state ["world", "state"]
  d_tell_answer : Dfn K mg "tell_answer" s_tell_answer ["world", "state", "things"]
  d_begin : Dfn K mg "begin" s_begin ["history", "facts", "copies"]
  d_tell : Dfn K mg "tell" s_tell ["world", "call", "numbers"]
  d_change : Dfn K mg "change" s_change ["world", "call", "numbers"]
  d_change_and_keep : Dfn K mg "change_and_keep" s_change_and_keep ["history", "call", "numbers"]
  d_look : Dfn K mg "look" s_look ["world", "call", "numbers"]
  d_answer_call : Dfn K mg "answer_call" s_answer_call ["history", "call", "numbers"]
  d_answers : Dfn K mg "answers" s_answers ["calls"]
end Na

set_option Elab.async false
set_option maxRecDepth 100000
set_option maxHeartbeats 2000000
/-! How the program's objects lie in the heap. -/
namespace Na
open PySem PySem.Spec PyProof.Rows L2
theorem if_true_of {c : Bool} {A B : Prop} (hc : c = true) (h : A) : if c = true then A else B := by
  rw [if_pos hc]
  exact h
theorem if_false_of {c : Bool} {A B : Prop} (hc : c = false) (h : B) : if c = true then A else B := by
  rw [hc, if_neg Bool.false_ne_true]
  exact h
theorem if_both {c : Bool} {A B : Prop} (h1 : c = true → A) (h2 : c = false → B) : if c = true then A else B := by
  cases c with
  | true => exact if_true_of rfl (h1 rfl)
  | false => exact if_false_of rfl (h2 rfl)
theorem lk_here {k : Str} {v : V} {r : List (Str × V)} : List.lookup k ((k, v) :: r) = some v := by
  have e : (k == k) = true := beq_self_eq_true k
  simp only [List.lookup, e]
theorem lk_past {k g : Str} {v : V} {r : List (Str × V)} (h : (k == g) = false) : List.lookup k ((g, v) :: r) = List.lookup k r := by
  simp only [List.lookup, h]
theorem put_here {f : Str} {v x : V} {r : List (Str × V)} : putF f v ((f, x) :: r) = (f, v) :: r := if_pos rfl
theorem put_past {f g : Str} {v x : V} {r : List (Str × V)} (h : ¬ g = f) : putF f v ((g, x) :: r) = (g, x) :: putF f v r := if_neg h
theorem plen {f : Str} {v : V} : ∀ {fs : List (Str × V)} {n : Nat}, fs.length ≤ n → (putF f v fs).length ≤ n + 1
  | [], n, _ => Nat.succ_le_succ (Nat.zero_le n)
  | (g, x) :: r, n, h => by
    by_cases c : g = f
    · subst c
      rw [put_here]
      exact Nat.le_succ_of_le h
    · rw [put_past c]
      cases n with
      | zero => exact absurd h (by simp)
      | succ m => exact Nat.succ_le_succ (plen (Nat.le_of_succ_le_succ h))
theorem p1000 {f : Str} {v : V} {fs : List (Str × V)} {n : Nat} (h : fs.length ≤ n) (q : n + 1 < 1000 := by decide) : (putF f v fs).length < 1000 := Nat.lt_of_le_of_lt (plen h) q

def DL (v0 v1 v2 v3 : V) : List (Str × V) := [("need", v0), ("be", v1), ("on", v2), ("off", v3)]
theorem D_lk_need {v0 v1 v2 v3 : V} : (DL v0 v1 v2 v3).lookup ("need" : Str) = some v0 := lk_here
theorem D_lk_be {v0 v1 v2 v3 : V} : (DL v0 v1 v2 v3).lookup ("be" : Str) = some v1 := (lk_past (by decide +kernel)).trans (lk_here)
theorem D_lk_on {v0 v1 v2 v3 : V} : (DL v0 v1 v2 v3).lookup ("on" : Str) = some v2 := (lk_past (by decide +kernel)).trans ((lk_past (by decide +kernel)).trans (lk_here))
theorem D_lk_off {v0 v1 v2 v3 : V} : (DL v0 v1 v2 v3).lookup ("off" : Str) = some v3 := (lk_past (by decide +kernel)).trans ((lk_past (by decide +kernel)).trans ((lk_past (by decide +kernel)).trans (lk_here)))
theorem D_put_need {v0 v1 v2 v3 y : V} : putF "need" y (DL v0 v1 v2 v3) = DL y v1 v2 v3 := put_here
theorem D_put_be {v0 v1 v2 v3 y : V} : putF "be" y (DL v0 v1 v2 v3) = DL v0 y v2 v3 := (put_past (by decide +kernel)).trans (congrArg _ (put_here))
theorem D_put_on {v0 v1 v2 v3 y : V} : putF "on" y (DL v0 v1 v2 v3) = DL v0 v1 y v3 := (put_past (by decide +kernel)).trans (congrArg _ ((put_past (by decide +kernel)).trans (congrArg _ (put_here))))
theorem D_put_off {v0 v1 v2 v3 y : V} : putF "off" y (DL v0 v1 v2 v3) = DL v0 v1 v2 y := (put_past (by decide +kernel)).trans (congrArg _ ((put_past (by decide +kernel)).trans (congrArg _ ((put_past (by decide +kernel)).trans (congrArg _ (put_here))))))
theorem D_new {v0 v1 v2 v3 : V} : (putF "off" v3 (putF "on" v2 (putF "be" v1 (putF "need" v0 [])))) = DL v0 v1 v2 v3 := by
  rw [show putF "need" v0 ([] : List (Str × V)) = ([("need", v0)] : List (Str × V)) from rfl]
  rw [show putF "be" v1 ([("need", v0)] : List (Str × V)) = ([("need", v0), ("be", v1)] : List (Str × V)) from (put_past (by decide +kernel)).trans (congrArg _ (rfl))]
  rw [show putF "on" v2 ([("need", v0), ("be", v1)] : List (Str × V)) = ([("need", v0), ("be", v1), ("on", v2)] : List (Str × V)) from (put_past (by decide +kernel)).trans (congrArg _ ((put_past (by decide +kernel)).trans (congrArg _ (rfl))))]
  rw [show putF "off" v3 ([("need", v0), ("be", v1), ("on", v2)] : List (Str × V)) = ([("need", v0), ("be", v1), ("on", v2), ("off", v3)] : List (Str × V)) from (put_past (by decide +kernel)).trans (congrArg _ ((put_past (by decide +kernel)).trans (congrArg _ ((put_past (by decide +kernel)).trans (congrArg _ (rfl))))))]
  rfl
theorem D_len {v0 v1 v2 v3 : V} : (DL v0 v1 v2 v3).length < 1000 := by
  show 4 < 1000
  decide
def WL (v0 v1 v2 v3 v4 v5 v6 : V) : List (Str × V) := [("facts", v0), ("rule", v1), ("deeds", v2), ("allowed", v3), ("told", v4), ("common", v5), ("states", v6)]
theorem W_lk_facts {v0 v1 v2 v3 v4 v5 v6 : V} : (WL v0 v1 v2 v3 v4 v5 v6).lookup ("facts" : Str) = some v0 := lk_here
theorem W_lk_rule {v0 v1 v2 v3 v4 v5 v6 : V} : (WL v0 v1 v2 v3 v4 v5 v6).lookup ("rule" : Str) = some v1 := (lk_past (by decide +kernel)).trans (lk_here)
theorem W_lk_deeds {v0 v1 v2 v3 v4 v5 v6 : V} : (WL v0 v1 v2 v3 v4 v5 v6).lookup ("deeds" : Str) = some v2 := (lk_past (by decide +kernel)).trans ((lk_past (by decide +kernel)).trans (lk_here))
theorem W_lk_allowed {v0 v1 v2 v3 v4 v5 v6 : V} : (WL v0 v1 v2 v3 v4 v5 v6).lookup ("allowed" : Str) = some v3 := (lk_past (by decide +kernel)).trans ((lk_past (by decide +kernel)).trans ((lk_past (by decide +kernel)).trans (lk_here)))
theorem W_lk_told {v0 v1 v2 v3 v4 v5 v6 : V} : (WL v0 v1 v2 v3 v4 v5 v6).lookup ("told" : Str) = some v4 := (lk_past (by decide +kernel)).trans ((lk_past (by decide +kernel)).trans ((lk_past (by decide +kernel)).trans ((lk_past (by decide +kernel)).trans (lk_here))))
theorem W_lk_common {v0 v1 v2 v3 v4 v5 v6 : V} : (WL v0 v1 v2 v3 v4 v5 v6).lookup ("common" : Str) = some v5 := (lk_past (by decide +kernel)).trans ((lk_past (by decide +kernel)).trans ((lk_past (by decide +kernel)).trans ((lk_past (by decide +kernel)).trans ((lk_past (by decide +kernel)).trans (lk_here)))))
theorem W_lk_states {v0 v1 v2 v3 v4 v5 v6 : V} : (WL v0 v1 v2 v3 v4 v5 v6).lookup ("states" : Str) = some v6 := (lk_past (by decide +kernel)).trans ((lk_past (by decide +kernel)).trans ((lk_past (by decide +kernel)).trans ((lk_past (by decide +kernel)).trans ((lk_past (by decide +kernel)).trans ((lk_past (by decide +kernel)).trans (lk_here))))))
theorem W_put_facts {v0 v1 v2 v3 v4 v5 v6 y : V} : putF "facts" y (WL v0 v1 v2 v3 v4 v5 v6) = WL y v1 v2 v3 v4 v5 v6 := put_here
theorem W_put_rule {v0 v1 v2 v3 v4 v5 v6 y : V} : putF "rule" y (WL v0 v1 v2 v3 v4 v5 v6) = WL v0 y v2 v3 v4 v5 v6 := (put_past (by decide +kernel)).trans (congrArg _ (put_here))
theorem W_put_deeds {v0 v1 v2 v3 v4 v5 v6 y : V} : putF "deeds" y (WL v0 v1 v2 v3 v4 v5 v6) = WL v0 v1 y v3 v4 v5 v6 := (put_past (by decide +kernel)).trans (congrArg _ ((put_past (by decide +kernel)).trans (congrArg _ (put_here))))
theorem W_put_allowed {v0 v1 v2 v3 v4 v5 v6 y : V} : putF "allowed" y (WL v0 v1 v2 v3 v4 v5 v6) = WL v0 v1 v2 y v4 v5 v6 := (put_past (by decide +kernel)).trans (congrArg _ ((put_past (by decide +kernel)).trans (congrArg _ ((put_past (by decide +kernel)).trans (congrArg _ (put_here))))))
theorem W_put_told {v0 v1 v2 v3 v4 v5 v6 y : V} : putF "told" y (WL v0 v1 v2 v3 v4 v5 v6) = WL v0 v1 v2 v3 y v5 v6 := (put_past (by decide +kernel)).trans (congrArg _ ((put_past (by decide +kernel)).trans (congrArg _ ((put_past (by decide +kernel)).trans (congrArg _ ((put_past (by decide +kernel)).trans (congrArg _ (put_here))))))))
theorem W_put_common {v0 v1 v2 v3 v4 v5 v6 y : V} : putF "common" y (WL v0 v1 v2 v3 v4 v5 v6) = WL v0 v1 v2 v3 v4 y v6 := (put_past (by decide +kernel)).trans (congrArg _ ((put_past (by decide +kernel)).trans (congrArg _ ((put_past (by decide +kernel)).trans (congrArg _ ((put_past (by decide +kernel)).trans (congrArg _ ((put_past (by decide +kernel)).trans (congrArg _ (put_here))))))))))
theorem W_put_states {v0 v1 v2 v3 v4 v5 v6 y : V} : putF "states" y (WL v0 v1 v2 v3 v4 v5 v6) = WL v0 v1 v2 v3 v4 v5 y := (put_past (by decide +kernel)).trans (congrArg _ ((put_past (by decide +kernel)).trans (congrArg _ ((put_past (by decide +kernel)).trans (congrArg _ ((put_past (by decide +kernel)).trans (congrArg _ ((put_past (by decide +kernel)).trans (congrArg _ ((put_past (by decide +kernel)).trans (congrArg _ (put_here))))))))))))
theorem W_new {v0 v1 v2 v3 v4 v5 v6 : V} : (putF "states" v6 (putF "common" v5 (putF "told" v4 (putF "allowed" v3 (putF "deeds" v2 (putF "rule" v1 (putF "facts" v0 []))))))) = WL v0 v1 v2 v3 v4 v5 v6 := by
  rw [show putF "facts" v0 ([] : List (Str × V)) = ([("facts", v0)] : List (Str × V)) from rfl]
  rw [show putF "rule" v1 ([("facts", v0)] : List (Str × V)) = ([("facts", v0), ("rule", v1)] : List (Str × V)) from (put_past (by decide +kernel)).trans (congrArg _ (rfl))]
  rw [show putF "deeds" v2 ([("facts", v0), ("rule", v1)] : List (Str × V)) = ([("facts", v0), ("rule", v1), ("deeds", v2)] : List (Str × V)) from (put_past (by decide +kernel)).trans (congrArg _ ((put_past (by decide +kernel)).trans (congrArg _ (rfl))))]
  rw [show putF "allowed" v3 ([("facts", v0), ("rule", v1), ("deeds", v2)] : List (Str × V)) = ([("facts", v0), ("rule", v1), ("deeds", v2), ("allowed", v3)] : List (Str × V)) from (put_past (by decide +kernel)).trans (congrArg _ ((put_past (by decide +kernel)).trans (congrArg _ ((put_past (by decide +kernel)).trans (congrArg _ (rfl))))))]
  rw [show putF "told" v4 ([("facts", v0), ("rule", v1), ("deeds", v2), ("allowed", v3)] : List (Str × V)) = ([("facts", v0), ("rule", v1), ("deeds", v2), ("allowed", v3), ("told", v4)] : List (Str × V)) from (put_past (by decide +kernel)).trans (congrArg _ ((put_past (by decide +kernel)).trans (congrArg _ ((put_past (by decide +kernel)).trans (congrArg _ ((put_past (by decide +kernel)).trans (congrArg _ (rfl))))))))]
  rw [show putF "common" v5 ([("facts", v0), ("rule", v1), ("deeds", v2), ("allowed", v3), ("told", v4)] : List (Str × V)) = ([("facts", v0), ("rule", v1), ("deeds", v2), ("allowed", v3), ("told", v4), ("common", v5)] : List (Str × V)) from (put_past (by decide +kernel)).trans (congrArg _ ((put_past (by decide +kernel)).trans (congrArg _ ((put_past (by decide +kernel)).trans (congrArg _ ((put_past (by decide +kernel)).trans (congrArg _ ((put_past (by decide +kernel)).trans (congrArg _ (rfl))))))))))]
  rw [show putF "states" v6 ([("facts", v0), ("rule", v1), ("deeds", v2), ("allowed", v3), ("told", v4), ("common", v5)] : List (Str × V)) = ([("facts", v0), ("rule", v1), ("deeds", v2), ("allowed", v3), ("told", v4), ("common", v5), ("states", v6)] : List (Str × V)) from (put_past (by decide +kernel)).trans (congrArg _ ((put_past (by decide +kernel)).trans (congrArg _ ((put_past (by decide +kernel)).trans (congrArg _ ((put_past (by decide +kernel)).trans (congrArg _ ((put_past (by decide +kernel)).trans (congrArg _ ((put_past (by decide +kernel)).trans (congrArg _ (rfl))))))))))))]
  rfl
theorem W_len {v0 v1 v2 v3 v4 v5 v6 : V} : (WL v0 v1 v2 v3 v4 v5 v6).length < 1000 := by
  show 7 < 1000
  decide
def SL (v0 v1 v2 : V) : List (Str × V) := [("world", v0), ("past", v1), ("undone", v2)]
theorem S_lk_world {v0 v1 v2 : V} : (SL v0 v1 v2).lookup ("world" : Str) = some v0 := lk_here
theorem S_lk_past {v0 v1 v2 : V} : (SL v0 v1 v2).lookup ("past" : Str) = some v1 := (lk_past (by decide +kernel)).trans (lk_here)
theorem S_lk_undone {v0 v1 v2 : V} : (SL v0 v1 v2).lookup ("undone" : Str) = some v2 := (lk_past (by decide +kernel)).trans ((lk_past (by decide +kernel)).trans (lk_here))
theorem S_put_world {v0 v1 v2 y : V} : putF "world" y (SL v0 v1 v2) = SL y v1 v2 := put_here
theorem S_put_past {v0 v1 v2 y : V} : putF "past" y (SL v0 v1 v2) = SL v0 y v2 := (put_past (by decide +kernel)).trans (congrArg _ (put_here))
theorem S_put_undone {v0 v1 v2 y : V} : putF "undone" y (SL v0 v1 v2) = SL v0 v1 y := (put_past (by decide +kernel)).trans (congrArg _ ((put_past (by decide +kernel)).trans (congrArg _ (put_here))))
theorem S_new {v0 v1 v2 : V} : (putF "undone" v2 (putF "past" v1 (putF "world" v0 []))) = SL v0 v1 v2 := by
  rw [show putF "world" v0 ([] : List (Str × V)) = ([("world", v0)] : List (Str × V)) from rfl]
  rw [show putF "past" v1 ([("world", v0)] : List (Str × V)) = ([("world", v0), ("past", v1)] : List (Str × V)) from (put_past (by decide +kernel)).trans (congrArg _ (rfl))]
  rw [show putF "undone" v2 ([("world", v0), ("past", v1)] : List (Str × V)) = ([("world", v0), ("past", v1), ("undone", v2)] : List (Str × V)) from (put_past (by decide +kernel)).trans (congrArg _ ((put_past (by decide +kernel)).trans (congrArg _ (rfl))))]
  rfl
theorem S_len {v0 v1 v2 : V} : (SL v0 v1 v2).length < 1000 := by
  show 3 < 1000
  decide
theorem S_no_start_with {v0 v1 v2 : V} : (SL v0 v1 v2).lookup ("start_with" : Str) = none := (lk_past (by decide +kernel)).trans ((lk_past (by decide +kernel)).trans ((lk_past (by decide +kernel)).trans (rfl)))
theorem S_no_go_on_with {v0 v1 v2 : V} : (SL v0 v1 v2).lookup ("go_on_with" : Str) = none := (lk_past (by decide +kernel)).trans ((lk_past (by decide +kernel)).trans ((lk_past (by decide +kernel)).trans (rfl)))
theorem S_no_take_back {v0 v1 v2 : V} : (SL v0 v1 v2).lookup ("take_back" : Str) = none := (lk_past (by decide +kernel)).trans ((lk_past (by decide +kernel)).trans ((lk_past (by decide +kernel)).trans (rfl)))
theorem S_no_do_again {v0 v1 v2 : V} : (SL v0 v1 v2).lookup ("do_again" : Str) = none := (lk_past (by decide +kernel)).trans ((lk_past (by decide +kernel)).trans ((lk_past (by decide +kernel)).trans (rfl)))

abbrev nVs (l : List Nat) : List V := l.map nV
/-- a deed -/
def DeedAt (CD : Addr) (H : Hp) (a : Addr) (d : Kh411.Deed) : Prop := ∃ dx, H a = some (.ins CD dx (DL (nV d.need) (nV d.be) (nV d.on) (nV d.off)))
inductive DsAt (CD : Addr) (H : Hp) : List V → List Kh411.Deed → Prop
  | nil : DsAt CD H [] []
  | cons {a : Addr} {d : Kh411.Deed} {vs : List V} {ds : List Kh411.Deed} : DeedAt CD H a d → DsAt CD H vs ds → DsAt CD H (.ref a :: vs) (d :: ds)
/-- a world: its lists at ld, lt, ls -/
def WorldAt (CD CW : Addr) (H : Hp) (a ld lt ls : Addr) (w : Kh413.Work) : Prop :=
  ∃ dx vs, H a = some (.ins CW dx (WL (nV w.a.m) (nV w.a.rule) (.ref ld) (nV w.allowed) (.ref lt) (nV w.common) (.ref ls))) ∧ H ld = some (.lst vs) ∧ DsAt CD H vs w.a.deeds ∧
    H lt = some (.lst (nVs w.answers)) ∧ H ls = some (.lst (nVs w.copies)) ∧ ld ≠ lt ∧ ld ≠ ls ∧ lt ≠ ls
theorem DeedAt.mono {CD : Addr} {H H' : Hp} {a : Addr} {d : Kh411.Deed} (s : Same H H') (h : DeedAt CD H a d) : DeedAt CD H' a d := by
  obtain ⟨dx, e⟩ := h
  exact ⟨dx, s _ _ e⟩
theorem DsAt.mono {CD : Addr} {H H' : Hp} {vs : List V} {ds : List Kh411.Deed} (s : Same H H') (h : DsAt CD H vs ds) : DsAt CD H' vs ds := by
  induction h with
  | nil => exact .nil
  | cons a _ ih => exact .cons (a.mono s) ih
theorem DsAt.len {CD : Addr} {H : Hp} {vs : List V} {ds : List Kh411.Deed} (h : DsAt CD H vs ds) : vs.length = ds.length := by
  induction h with
  | nil => rfl
  | cons _ _ ih => simp [ih]
theorem DsAt.get {CD : Addr} {H : Hp} {vs : List V} {ds : List Kh411.Deed} (h : DsAt CD H vs ds) : ∀ {i : Nat} {d : Kh411.Deed}, ds[i]? = some d → ∃ a, vs[i]? = some (.ref a) ∧ DeedAt CD H a d := by
  induction h with
  | nil =>
    intro i d e
    simp at e
  | cons a _ ih =>
    intro i d e
    cases i with
    | zero =>
      have e' := Option.some.inj e
      subst e'
      exact ⟨_, rfl, a⟩
    | succ i => exact ih e
theorem DsAt.getV {CD : Addr} {H : Hp} {vs : List V} {ds : List Kh411.Deed} (h : DsAt CD H vs ds) {i : Nat} {v : V} (e : vs[i]? = some v) : ∃ a d, v = .ref a ∧ ds[i]? = some d ∧ DeedAt CD H a d := by
  have l := h.len
  have hi : i < ds.length := by
    rw [← l]
    exact (List.getElem?_eq_some_iff.mp e).1
  obtain ⟨a, q, k⟩ := h.get (i := i) (d := ds[i]) (List.getElem?_eq_getElem hi)
  rw [e] at q
  cases q
  exact ⟨a, ds[i], rfl, List.getElem?_eq_getElem hi, k⟩
theorem WorldAt.mono {CD CW : Addr} {H H' : Hp} {a ld lt ls : Addr} {w : Kh413.Work} (s : Same H H') (h : WorldAt CD CW H a ld lt ls w) : WorldAt CD CW H' a ld lt ls w := by
  obtain ⟨dx, vs, h1, h2, h3, h4, h5, n⟩ := h
  exact ⟨dx, vs, s _ _ h1, s _ _ h2, h3.mono s, s _ _ h4, s _ _ h5, n⟩
theorem nVs_get {l : List Nat} {i : Nat} {v : V} (h : (nVs l)[i]? = some v) : ∃ n, l[i]? = some n ∧ v = nV n := by
  rw [List.getElem?_map] at h
  cases e : l[i]? with
  | none =>
    rw [e] at h
    cases h
  | some z =>
    rw [e] at h
    exact ⟨z, rfl, (Option.some.inj h).symm⟩
theorem nVs_at {l : List Nat} {i n : Nat} (h : l[i]? = some n) : atI (nVs l) (i : Int) = some (nV n) := atI_nat (by rw [List.getElem?_map, h]; rfl)
theorem same_new {H : Hp} {p : Addr} {o : HO} (h : H p = Option.none) : Same H (upd H p o) := fun b u e => by
  rw [upd_ne (ne_of_none e h)]
  exact e
/-- a list that a def has made itself may change -/
theorem same_mut {H H' : Hp} {p : Addr} {o : HO} (s : Same H H') (h : H p = Option.none) : Same H (upd H' p o) := fun b u e => by
  rw [upd_ne (ne_of_none e h)]
  exact s b u e
/-! ### the forms of promises -/
/-- a value, nothing changed -/
abbrev Gives (H : Hp) (Q : VK) (v : V) : Prop := ∀ H', Same H H' → Q v H'
/-- a new list -/
abbrev Makes (H : Hp) (Q : VK) (xs : List V) : Prop := ∀ H' p, Same H H' → H p = Option.none → H' p = some (.lst xs) → Q (.ref p) H'
/-- all but these stand as they stood -/
def But (H H' : Hp) (own : List Addr) : Prop := ∀ b o, H b = some o → b ∉ own → H' b = some o
theorem But.refl (H : Hp) (own : List Addr) : But H H own := fun _ _ e _ => e
theorem But.of_same {H H' : Hp} {own : List Addr} (s : Same H H') : But H H' own := fun b o e _ => s b o e
theorem But.trans {H H1 H2 : Hp} {own : List Addr} (a : But H H1 own) (b : But H1 H2 own) : But H H2 own := fun x o e n => b x o (a x o e n) n
theorem But.set {H H' : Hp} {own : List Addr} {p : Addr} {o : HO} (a : But H H' own) (h : p ∈ own) : But H (upd H' p o) own := fun b u e n => by
  have z : b ≠ p := fun z => n (by rw [z]; exact h)
  rw [upd_ne z]
  exact a b u e n
theorem upd_free {H : Hp} {p t : Addr} {o : HO} : upd H p o t = Option.none ↔ t ≠ p ∧ H t = Option.none := by
  constructor
  · intro h
    by_cases c : t = p
    · rw [c, upd_same] at h
      cases h
    · rw [upd_ne c] at h
      exact ⟨c, h⟩
  · rintro ⟨c, h⟩
    rw [upd_ne c]
    exact h
theorem But.new {H H' : Hp} {own : List Addr} {p : Addr} {o : HO} (a : But H H' own) (h : H p = Option.none) : But H (upd H' p o) own := fun b u e n => by
  rw [upd_ne (ne_of_none e h)]
  exact a b u e n
end Na

set_option Elab.async false
set_option maxRecDepth 100000
set_option maxHeartbeats 4000000
namespace Na
open PySem PySem.Spec PyProof.Rows L2
/-! ### promises: bits and deeds -/
def sp_has : Sp := fun vs H Q _ => ∃ a b : Nat, vs = [nV a, nV b] ∧ Gives H Q (.bl (a.testBit b))
def sp_lies_below : Sp := fun vs H Q _ => ∃ a b : Nat, vs = [nV a, nV b] ∧ Gives H Q (.bl (decide (a < 2 ^ b)))
def sp_lies_in : Sp := fun vs H Q _ => ∃ a b : Nat, vs = [nV a, nV b] ∧ Gives H Q (.bl (decide (a &&& b = a)))
def sp_Deed_init (CD : Addr) : Sp := fun vs H Q _ => ∃ (p dx : Addr) (d : Kh411.Deed), vs = [.ref p, nV d.need, nV d.be, nV d.on, nV d.off] ∧ H p = some (.ins CD dx []) ∧
  ∀ H', DeedAt CD H' p d → (∀ b o, H b = some o → b ≠ p → H' b = some o) → Q .non H'
def sp_is_sound (CD : Addr) : Sp := fun vs H Q _ => ∃ (p : Addr) (d : Kh411.Deed) (m : Nat), vs = [.ref p, nV m] ∧ DeedAt CD H p d ∧ Gives H Q (.bl (sound m d))
def sp_is_ready (CD : Addr) : Sp := fun vs H Q _ => ∃ (p : Addr) (d : Kh411.Deed) (s : Nat), vs = [.ref p, nV s] ∧ DeedAt CD H p d ∧ Gives H Q (.bl (ready d s))
def sp_outcome (CD : Addr) : Sp := fun vs H Q _ => ∃ (p : Addr) (d : Kh411.Deed) (s : Nat), vs = [.ref p, nV s] ∧ DeedAt CD H p d ∧ Gives H Q (nV (out d s))
def sp_can_be_done (CD : Addr) : Sp := fun vs H Q _ => ∃ (r : Nat) (p : Addr) (d : Kh411.Deed) (s : Nat), vs = [nV r, .ref p, nV s] ∧ DeedAt CD H p d ∧ Gives H Q (.bl (ready d s && r.testBit (out d s)))
def sp_put_together (K : PySem.W.Frag) : Sp := fun vs H Q _ => ∃ (c : Nat) (p : Addr) (l : List Nat), vs = [nV c, .ref p] ∧ SqL K H p (nVs l) ∧ Gives H Q (nV (put c l))
section
variable {P : Program} {w : World} {K : PySem.W.Frag} {mg : Str → Option Value} {base : Heap} {C_Deed C_World C_History Z_SIZES : Addr}
theorem ok_has (T : Txt K mg C_Deed C_World C_History Z_SIZES) : Can P w K mg base 1 "has" (sp_has) := by
  refine T.d_has.ok sc_has (fun vs H Q E h => ?_) (fun f cdv A outer s H vs Q E hr h => ⟨_, (pss_one (ps_ret (pe_cmpR op_eq (pe_op op_and (pe_op op_shr (pv 0) (pv 1)) pe_int) pe_int (nomark _)))), ?_⟩)
  · obtain ⟨a, b, rfl, _⟩ := h
    rfl
  · obtain ⟨a, b, rfl, k⟩ := h
    refine ⟨_, rfl, _, rfl, _, _, rfl, rfl, Int.natCast_nonneg _, _, _, rfl, rfl, rfl, ?_⟩
    rw [i_has]
    exact k H (Same.refl H)
theorem ok_lies_below (T : Txt K mg C_Deed C_World C_History Z_SIZES) : Can P w K mg base 1 "lies_below" (sp_lies_below) := by
  refine T.d_lies_below.ok sc_lies_below (fun vs H Q E h => ?_) (fun f cdv A outer s H vs Q E hr h => ⟨_, (pss_one (ps_ret (pe_cmpR op_eq (pe_op op_shr (pv 0) (pv 1)) pe_int (nomark _)))), ?_⟩)
  · obtain ⟨a, b, rfl, _⟩ := h
    rfl
  · obtain ⟨a, b, rfl, k⟩ := h
    refine ⟨_, rfl, _, rfl, _, _, rfl, rfl, Int.natCast_nonneg _, rfl, ?_⟩
    rw [i_below]
    exact k H (Same.refl H)
theorem ok_lies_in (T : Txt K mg C_Deed C_World C_History Z_SIZES) : Can P w K mg base 1 "lies_in" (sp_lies_in) := by
  refine T.d_lies_in.ok sc_lies_in (fun vs H Q E h => ?_) (fun f cdv A outer s H vs Q E hr h => ⟨_, (pss_one (ps_ret (pe_cmpR op_eq (pe_op op_and (pv 0) (pv 1)) (pv 0) (nomark _)))), ?_⟩)
  · obtain ⟨a, b, rfl, _⟩ := h
    rfl
  · obtain ⟨a, b, rfl, k⟩ := h
    refine ⟨_, rfl, _, rfl, _, _, rfl, rfl, _, rfl, rfl, ?_⟩
    show Q (V.bl (decide (V.int (Builtin.bitAnd (a : Int) (b : Int)) = V.int (a : Int)))) H
    rw [i_and, i_eq]
    exact k H (Same.refl H)
theorem ok_Deed_init (T : Txt K mg C_Deed C_World C_History Z_SIZES) : CanI P w K mg base 1 "Deed" C_Deed (sp_Deed_init C_Deed) := by
  refine T.d_Deed_init.ok sc_Deed_init (fun vs H Q E h => ?_) (fun f cdv A outer s H vs Q E hr h => ⟨_, (pss_cons (ps_fld (pv 0) (pv 1) rfl)
      (pss_cons (ps_fld (pv 0) (pv 2) rfl)
      (pss_cons (ps_fld (pv 0) (pv 3) rfl)
      (pss_one (ps_fld (pv 0) (pv 4) rfl))))), ?_⟩)
  · obtain ⟨p, dx, d, rfl, _⟩ := h
    rfl
  · obtain ⟨p, dx, d, rfl, hp, k⟩ := h
    refine ⟨_, rfl, _, rfl, p, C_Deed, dx, _, rfl, hp, T.cl_Deed, T.n_Deed_need, (by decide), ?_⟩
    refine ⟨_, rfl, _, rfl, p, C_Deed, dx, _, rfl, upd_same, T.cl_Deed, T.n_Deed_be, p1000 (n := 0) (Nat.le_refl 0), ?_⟩
    refine ⟨_, rfl, _, rfl, p, C_Deed, dx, _, rfl, upd_same, T.cl_Deed, T.n_Deed_on, p1000 (plen (n := 0) (Nat.le_refl 0)), ?_⟩
    refine ⟨_, rfl, _, rfl, p, C_Deed, dx, _, rfl, upd_same, T.cl_Deed, T.n_Deed_off, p1000 (plen (plen (n := 0) (Nat.le_refl 0))), ?_⟩
    refine k _ ⟨dx, Eq.trans upd_same (congrArg (fun q => some (HO.ins C_Deed dx q)) D_new)⟩ fun b o e hb => ?_
    rw [upd_ne hb, upd_ne hb, upd_ne hb, upd_ne hb]
    exact e
theorem ok_is_ready (T : Txt K mg C_Deed C_World C_History Z_SIZES) : Can P w K mg base 1 "is_ready" (sp_is_ready C_Deed) := by
  refine T.d_is_ready.ok sc_is_ready (fun vs H Q E h => ?_) (fun f cdv A outer s H vs Q E hr h => ⟨_, (pss_one (ps_ret (pe_cmpR op_eq (pe_op op_and (pv 1) (pe_fld (pv 0) rfl)) (pe_fld (pv 0) rfl) (nomark _)))), ?_⟩)
  · obtain ⟨p, d, s, rfl, _⟩ := h
    rfl
  · obtain ⟨p, d, s, rfl, ⟨dx, hp⟩, k⟩ := h
    refine ⟨_, rfl, _, rfl, p, C_Deed, dx, _, _, rfl, hp, T.cl_Deed, T.n_Deed_need, D_lk_need, _, _, rfl, rfl, _, rfl, p, C_Deed, dx, _, _, rfl, hp, T.cl_Deed, T.n_Deed_be, D_lk_be, rfl, ?_⟩
    show Q (V.bl (decide (V.int (Builtin.bitAnd (s : Int) (d.need : Int)) = V.int (d.be : Int)))) H
    rw [i_and, i_eq]
    exact k H (Same.refl H)
theorem ok_outcome (T : Txt K mg C_Deed C_World C_History Z_SIZES) : Can P w K mg base 1 "outcome" (sp_outcome C_Deed) := by
  refine T.d_outcome.ok sc_outcome (fun vs H Q E h => ?_) (fun f cdv A outer s H vs Q E hr h => ⟨_, (pss_one (ps_ret (pe_op op_and (pe_op op_or (pv 1) (pe_fld (pv 0) rfl)) (pe_un un_inv (pe_fld (pv 0) rfl))))), ?_⟩)
  · obtain ⟨p, d, s, rfl, _⟩ := h
    rfl
  · obtain ⟨p, d, s, rfl, ⟨dx, hp⟩, k⟩ := h
    refine ⟨_, rfl, _, rfl, p, C_Deed, dx, _, _, rfl, hp, T.cl_Deed, T.n_Deed_on, D_lk_on, _, _, rfl, rfl, _, rfl, p, C_Deed, dx, _, _, rfl, hp, T.cl_Deed, T.n_Deed_off, D_lk_off, _, rfl, _, _, rfl, rfl, ?_⟩
    show Q (V.int (Builtin.bitAnd (Builtin.bitOr (s : Int) (d.on : Int)) (Builtin.bitNot (d.off : Int)))) H
    rw [i_or, i_sub]
    exact k H (Same.refl H)
theorem ok_put_together (T : Txt K mg C_Deed C_World C_History Z_SIZES) : Can P w K mg base 1 "put_together" (sp_put_together K) := by
  refine T.d_put_together.ok sc_put_together (fun vs H Q E h => ?_) (fun f cdv A outer s H vs Q E hr h => ⟨_, (pss_cons (ps_set (i := 2) sc_put_together.nd rfl (Or.inl rfl) pe_int)
      (pss_cons (ps_for PassesOwn.never rfl (pi_list (pv 1)) (pg_name (i := 3) sc_put_together.nd rfl (Or.inl rfl))
      (pss_one (ps_set (i := 2) sc_put_together.nd rfl (Or.inl rfl) (pe_op op_or (pv 2) (pe_op op_xor (pv 3) (pv 0))))))
      (pss_one (ps_ret (pe_op op_xor (pv 0) (pv 2)))))), ?_⟩)
  · obtain ⟨c, p, l, rfl, _⟩ := h
    rfl
  · obtain ⟨c, p, l, rfl, hl, k⟩ := h
    refine ⟨_, rfl, p, rfl, ⟨_, hl⟩, for_list (K := K) (a := p) (xs := nVs l) (fun i σ H' => H' = H ∧ ∃ v : Option V, σ = [some (nV c), some (.ref p), some (nV ((l.take i).foldl (fun t s => t ||| (s ^^^ c)) 0)), v])
      ⟨rfl, none, rfl⟩ (fun i σ H' _ ⟨e, _⟩ => e ▸ hl) ?_ ?_⟩
    · rintro i y σ H' hi ⟨rfl, v, rfl⟩
      obtain ⟨z, hz, rfl⟩ := nVs_get hi
      refine ⟨_, rfl, _, rfl, _, rfl, _, _, rfl, rfl, _, _, rfl, rfl, rfl, some (nV z), ?_⟩
      show [some (nV c), some (V.ref p), some (V.int (Builtin.bitOr _ (Builtin.bitXor (z : Int) (c : Int)))), some (nV z)] = _
      rw [i_xor, i_or, List.take_add_one, hz, List.foldl_append]
      rfl
    · rintro σ H' ⟨rfl, v, rfl⟩
      refine ⟨_, rfl, _, rfl, _, _, rfl, rfl, ?_⟩
      rw [List.length_map, List.take_length]
      show Q (V.int (Builtin.bitXor (c : Int) ((l.foldl (fun t s => t ||| (s ^^^ c)) 0 : Nat) : Int))) H'
      rw [i_xor]
      exact k H' (Same.refl H')
theorem ok_is_sound (T : Txt K mg C_Deed C_World C_History Z_SIZES) : Can P w K mg base 2 "is_sound" (sp_is_sound C_Deed) := by
  refine T.d_is_sound.ok sc_is_sound (fun vs H Q E h => ?_) (fun f cdv A outer s H vs Q E hr h => ⟨_, (pss_cons (ps_set (i := 2) sc_is_sound.nd rfl (Or.inl rfl) (pe_op op_or (pe_op op_or (pe_op op_or (pe_fld (pv 0) rfl) (pe_fld (pv 0) rfl)) (pe_fld (pv 0) rfl)) (pe_fld (pv 0) rfl)))
      (pss_one (ps_ret (pe_and (pe_can (ok_lies_below T) hr (by decide) rfl (pa_cons (pv 2) (pa_cons (pv 1) pa_nil))) (pe_and (pe_can (ok_lies_in T) hr (by decide) rfl (pa_cons (pe_fld (pv 0) rfl) (pa_cons (pe_fld (pv 0) rfl) pa_nil))) (pe_one (pe_cmpR op_eq (pe_op op_and (pe_fld (pv 0) rfl) (pe_fld (pv 0) rfl)) pe_int (nomark _)))))))), ?_⟩)
  · obtain ⟨p, d, m, rfl, _⟩ := h
    rfl
  · obtain ⟨p, d, m, rfl, ⟨dx, hp⟩, k⟩ := h
    refine ⟨_, rfl, p, C_Deed, dx, _, _, rfl, hp, T.cl_Deed, T.n_Deed_need, D_lk_need, _, rfl, p, C_Deed, dx, _, _, rfl, hp, T.cl_Deed, T.n_Deed_be, D_lk_be, _, _, rfl, rfl,
      _, rfl, p, C_Deed, dx, _, _, rfl, hp, T.cl_Deed, T.n_Deed_on, D_lk_on, _, _, rfl, rfl, _, rfl, p, C_Deed, dx, _, _, rfl, hp, T.cl_Deed, T.n_Deed_off, D_lk_off, _, _, rfl, rfl, ?_⟩
    refine ⟨_, rfl, _, rfl, d.need ||| d.be ||| d.on ||| d.off, m, ?_, fun H1 s1 => ⟨_, rfl, if_both (fun c1 => ?_) (fun c1 => ?_)⟩⟩
    · show [V.int (Builtin.bitOr (Builtin.bitOr (Builtin.bitOr (d.need : Int) (d.be : Int)) (d.on : Int)) (d.off : Int)), nV m] = _
      rw [i_or, i_or, i_or]
      rfl
    · have h1 := s1 _ _ hp
      refine ⟨_, rfl, p, C_Deed, dx, _, _, rfl, h1, T.cl_Deed, T.n_Deed_be, D_lk_be, _, rfl, p, C_Deed, dx, _, _, rfl, h1, T.cl_Deed, T.n_Deed_need, D_lk_need, d.be, d.need, rfl, fun H2 s2 => ⟨_, rfl, if_both (fun c2 => ?_) (fun c2 => ?_)⟩⟩
      · have h2 := s2 _ _ h1
        refine ⟨_, rfl, p, C_Deed, dx, _, _, rfl, h2, T.cl_Deed, T.n_Deed_on, D_lk_on, _, rfl, p, C_Deed, dx, _, _, rfl, h2, T.cl_Deed, T.n_Deed_off, D_lk_off, _, _, rfl, rfl, rfl, ?_⟩
        show Q (V.bl (decide (V.int (Builtin.bitAnd (d.on : Int) (d.off : Int)) = V.int ((0 : Nat) : Int)))) H2
        rw [i_and, i_eq]
        have := k H2 (s1.trans s2)
        unfold sound at this
        rw [c1, c2] at this
        exact this
      · have := k H2 (s1.trans s2)
        unfold sound at this
        rw [c1, c2] at this
        exact this
    · have := k H1 s1
      unfold sound at this
      rw [c1] at this
      exact this
theorem ok_can_be_done (T : Txt K mg C_Deed C_World C_History Z_SIZES) : Can P w K mg base 2 "can_be_done" (sp_can_be_done C_Deed) := by
  refine T.d_can_be_done.ok sc_can_be_done (fun vs H Q E h => ?_) (fun f cdv A outer s H vs Q E hr h => ⟨_, (pss_one (ps_ret (pe_and (pe_can (ok_is_ready T) hr (by decide) rfl (pa_cons (pv 1) (pa_cons (pv 2) pa_nil))) (pe_one (pe_can (ok_has T) hr (by decide) rfl (pa_cons (pv 0) (pa_cons (pe_can (ok_outcome T) hr (by decide) rfl (pa_cons (pv 1) (pa_cons (pv 2) pa_nil))) pa_nil))))))), ?_⟩)
  · obtain ⟨r, p, d, s, rfl, _⟩ := h
    rfl
  · obtain ⟨r, p, d, s, rfl, hp, k⟩ := h
    refine ⟨_, rfl, _, rfl, p, d, s, rfl, hp, fun H1 s1 => ⟨_, rfl, if_both (fun c => ?_) (fun c => ?_)⟩⟩
    · refine ⟨_, rfl, _, rfl, _, rfl, p, d, s, rfl, hp.mono s1, fun H2 s2 => ⟨r, out d s, rfl, fun H3 s3 => ?_⟩⟩
      have := k H3 ((s1.trans s2).trans s3)
      rw [c] at this
      exact this
    · have := k H1 s1
      rw [c] at this
      exact this
end
end Na

set_option Elab.async false
set_option maxRecDepth 100000
set_option maxHeartbeats 4000000
namespace Na
open PySem PySem.Spec PyProof.Rows L2
theorem in_nV (n : Nat) : ∀ l : List Nat, inV (nV n) (nVs l) = decide (n ∈ l)
  | [] => by simp [inV]
  | x :: l => by
    have ih := in_nV n l
    unfold inV at ih ⊢
    rw [show nVs (x :: l) = nV x :: nVs l from rfl, List.any_cons, ih]
    show ((x : Int) == (n : Int) || decide (n ∈ l)) = decide (n ∈ x :: l)
    by_cases e : n = x
    · subst e
      simp
    · have : ((x : Int) == (n : Int)) = false := by
        simp
        omega
      rw [this, Bool.false_or]
      simp [e]
theorem flat_nVs : ∀ l : List Nat, (nVs l).all flatV = true
  | [] => rfl
  | x :: l => by
    rw [show nVs (x :: l) = nV x :: nVs l from rfl, List.all_cons, flat_nVs l]
    rfl
theorem nVs_snoc (l : List Nat) (x : Nat) : nVs (l ++ [x]) = nVs l ++ [nV x] := by
  show List.map nV (l ++ [x]) = _
  rw [List.map_append]
  rfl
theorem nVs_int (l : List Nat) : nVs l = (l.map (fun n : Nat => (n : Int))).map V.int := by
  rw [List.map_map]
  rfl
def slotN (σ : L2.St) (i : Nat) : Nat := match σ[i]? with
  | some (some (.int z)) => z.toNat
  | _ => 0
def sp_may_come_to (K : PySem.W.Frag) (CD : Addr) : Sp := fun vs H Q _ => ∃ (r s m : Nat) (p : Addr) (us : List V) (ds : List Kh411.Deed), vs = [nV r, .ref p, nV s] ∧ SqL K H p us ∧ DsAt CD H us ds ∧ (∀ d, d ∈ ds → okD m d) ∧ s < 2 ^ m ∧ m ≤ 4 ∧
  Makes H Q (nVs (Kh411.reach ⟨m, r, ds⟩ s))
theorem pow16 {m : Nat} (h : m ≤ 4) : 2 ^ m ≤ 16 := Nat.le_trans (Nat.pow_le_pow_right (by decide) h) (by decide)
theorem sz300 {n : Nat} (h : n ≤ 300) : n < sizeLine := Nat.lt_of_le_of_lt h (by decide)
theorem sz64 {n : Nat} (h : n ≤ 64) : n < sizeLine := Nat.lt_of_le_of_lt h (by decide)
section
variable {P : Program} {w : World} {K : PySem.W.Frag} {mg : Str → Option Value} {base : Heap} {C_Deed C_World C_History Z_SIZES : Addr}
theorem ok_may_come_to (T : Txt K mg C_Deed C_World C_History Z_SIZES) : Can P w K mg base 3 "may_come_to" (sp_may_come_to K C_Deed) := by
  refine T.d_may_come_to.ok sc_may_come_to (fun vs H Q E h => ?_) (fun f cdv A outer s H vs Q E hr h => ⟨_, (pss_cons (ps_set (i := 3) sc_may_come_to.nd rfl (Or.inl rfl) (pe_lst (pa_cons (pv 2) pa_nil)))
      (pss_cons (ps_set (i := 4) sc_may_come_to.nd rfl (Or.inl rfl) pe_int)
      (pss_cons (ps_while PassesOwn.never (pt_cmpR op_lt (pv 4) (pe_callB call_len_seq (by rfl) T.b_len PySem.boot_len (pa_cons (pv 3) pa_nil)) (nomark _))
      (pss_cons (ps_for PassesOwn.never rfl (pi_list (pv 1)) (pg_name (i := 5) sc_may_come_to.nd rfl (Or.inl rfl))
      (pss_cons (ps_set (i := 6) sc_may_come_to.nd rfl (Or.inl rfl) (pe_can (ok_outcome T) hr (by decide) rfl (pa_cons (pv 5) (pa_cons (pe_ix ix_list (pv 3) (pv 4) (fun _ _ => rfl)) pa_nil))))
      (pss_one (ps_if (PW.pt (pw_and (pt_cmpR op_notIn_seq (pv 6) (pv 3) (by rfl)) (pw_and1 (pt_val (pe_can (ok_can_be_done T) hr (by decide) rfl (pa_cons (pv 0) (pa_cons (pv 5) (pa_cons (pe_ix ix_list (pv 3) (pv 4) (fun _ _ => rfl)) pa_nil))))))))
      (pss_one (ps_expr (pe_bm PySem.F.plainAttrs_list PySem.F.slot_list_append PySem.F.type_list_append mt_append (pv 3) (pa_cons (pv 6) pa_nil))))
      pss_nil))))
      (pss_one (ps_set (i := 4) sc_may_come_to.nd rfl (Or.inl rfl) (pe_op op_add (pv 4) pe_int)))))
      (pss_one (ps_ret (pe_callB cr_sortedI (by rfl) T.b_sorted (by decide +kernel) (pa_cons (pv 3) pa_nil))))))), ?_⟩)
  · obtain ⟨r, s, m, p, us, ds, rfl, _⟩ := h
    rfl
  · obtain ⟨r, s, m, p, us, ds, rfl, hp, hds, hok, hs, hm, k⟩ := h
    have e16 := pow16 hm
    have one : ∀ d ∈ ds, ∀ x, x < 2 ^ m → Kh411.done ⟨m, r, ds⟩ x d = if (ready d x && r.testBit (out d x)) = true then some (out d x) else none := fun d hd x hx => done_is (a := ⟨m, r, ds⟩) (hok d hd) hx
    refine ⟨_, rfl, (by show 1 ≤ sizeLine; decide), fun F hF => ?_⟩
    refine while_by (fun σ H' => ∃ (l : List Nat) (j : Nat) (v1 v2 : Option V), σ = [some (nV r), some (.ref p), some (nV s), some (.ref F), some (nV j), v1, v2] ∧ Same H H' ∧ H' F = some (.lst (nVs l)) ∧ Seek ⟨m, r, ds⟩ s j l)
      (fun σ _ => 2 ^ m - slotN σ 4) ⟨[s], 0, none, none, rfl, same_new hF, upd_same, Seek.zero _ s⟩ ?_ ?_
    · rintro σ H1 ⟨l, j, v1, v2, rfl, s1, h1, sk⟩
      refine ⟨_, rfl, _, rfl, F, _, rfl, .inl (SqL.of h1), _, _, rfl, rfl, _, rfl, if_both (fun c => ?_) (fun c => ?_)⟩
      · have hj : j < l.length := by
          have := of_decide_eq_true c
          rw [List.length_map] at this
          omega
        obtain ⟨x, hx⟩ : ∃ x, l[j]? = some x := ⟨l[j], List.getElem?_eq_getElem hj⟩
        have rx : Reach ⟨m, r, ds⟩ s x := sk.re x (List.mem_of_getElem? hx)
        have lx : x < 2 ^ m := reach_lt (a := ⟨m, r, ds⟩) hs rx
        refine ⟨_, rfl, p, rfl, ⟨_, s1.seq hp⟩, for_list (K := K) (a := p) (xs := us) (fun i σ H2 => ∃ (l2 : List Nat) (v3 v4 : Option V), σ = [some (nV r), some (.ref p), some (nV s), some (.ref F), some (nV j), v3, v4] ∧ Same H H2 ∧ H2 F = some (.lst (nVs l2)) ∧
            Seek ⟨m, r, ds⟩ s j l2 ∧ l2[j]? = some x ∧ Tried ⟨m, r, ds⟩ x i l2)
          ⟨l, v1, v2, rfl, s1, h1, sk, hx, fun i d u hi => absurd hi (Nat.not_lt_zero i)⟩ (fun i σ H2 _ ⟨_, _, _, _, s2, _⟩ => s2.seq hp) ?_ ?_⟩
        · rintro i y σ H2 hi ⟨l2, v3, v4, rfl, s2, h2, sk2, hx2, tr⟩
          obtain ⟨ad, d, rfl, hd, had⟩ := hds.getV hi
          have md : d ∈ ds := List.mem_of_getElem? hd
          refine ⟨_, rfl, _, rfl, _, rfl, F, _, _, _, rfl, rfl, SqL.of h2, nVs_at hx2, ad, d, x, rfl, had.mono s2, fun H3 s3 => ?_⟩
          have h3 := s3 _ _ h2
          have s03 := s2.trans s3
          have dn := one d md x lx
          have keepTr : ∀ {l3 : List Nat}, (∀ t, t ∈ l2 → t ∈ l3) → (∀ u, Kh411.done ⟨m, r, ds⟩ x d = some u → u ∈ l3) → Tried ⟨m, r, ds⟩ x (i + 1) l3 := fun {l3} h1 h2 j' d' u hj' e1 e2 => by
            by_cases q : j' < i
            · exact h1 u (tr j' d' u q e1 e2)
            · have : j' = i := by omega
              subst this
              have e1' : ds[j']? = some d' := e1
              rw [hd] at e1'
              cases e1'
              exact h2 u e2
          refine ⟨_, rfl, _, rfl, F, _, rfl, .inl (SqL.of h3), rfl, flat_nVs l2, _, rfl, ?_⟩
          show if (!inV (nV (out d x)) (nVs l2)) = true then _ else _
          rw [in_nV]
          refine if_both (fun c2 => ?_) (fun c2 => ?_)
          · have nin : out d x ∉ l2 := by simpa using c2
            refine ⟨_, rfl, _, rfl, _, rfl, _, rfl, F, _, _, _, rfl, rfl, SqL.of h3, nVs_at hx2, r, ad, d, x, rfl, had.mono s03, fun H4 s4 => ?_⟩
            have h4 := s4 _ _ h3
            have s04 := s03.trans s4
            refine ⟨_, rfl, if_both (fun c1 => ?_) (fun c1 => ?_)⟩
            · rw [if_pos c1] at dn
              refine ⟨_, rfl, .inl ⟨rfl, _, SqL.of h4⟩, _, rfl, F, _, _, rfl, rfl, h4, ?_, ?_⟩
              · rw [List.length_map]
                have := sk2.bound (a := ⟨m, r, ds⟩) hs
                exact sz64 (Nat.le_trans this (Nat.le_trans e16 (by decide)))
              · have st : Step ⟨m, r, ds⟩ x (out d x) := ⟨d, md, dn⟩
                refine ⟨l2 ++ [out d x], _, _, rfl, same_mut s04 hF, ?_, sk2.add (.more rx st) nin, get_append_left hx2, keepTr (fun t ht => List.mem_append.mpr (.inl ht)) fun u e2 => ?_⟩
                · rw [upd_same, nVs_snoc]
                · rw [dn] at e2
                  cases e2
                  exact List.mem_append.mpr (.inr (by simp))
            · rw [if_neg (by rw [c1]; exact Bool.false_ne_true)] at dn
              refine ⟨l2, _, _, rfl, s04, h4, sk2, hx2, keepTr (fun t ht => ht) fun u e2 => ?_⟩
              rw [dn] at e2
              cases e2
          · have isin : out d x ∈ l2 := by simpa using c2
            refine if_false_of rfl ⟨l2, _, _, rfl, s03, h3, sk2, hx2, keepTr (fun t ht => ht) fun u e2 => ?_⟩
            rw [dn] at e2
            split at e2
            · cases e2
              exact isin
            · cases e2
        · rintro σ H2 ⟨l2, v3, v4, rfl, s2, h2, sk2, hx2, tr⟩
          rw [hds.len] at tr
          refine ⟨_, rfl, _, _, rfl, rfl, ⟨l2, j + 1, v3, v4, rfl, s2, h2, sk2.next hx2 tr⟩, ?_⟩
          have b2 := sk.bound (a := ⟨m, r, ds⟩) hs
          show 2 ^ m - ((j : Int) + 1).toNat < 2 ^ m - (j : Int).toNat
          have : l.length ≤ 2 ^ m := b2
          omega
      · have hj : j = l.length := by
          have q := of_decide_eq_false c
          rw [List.length_map] at q
          have := sk.le
          omega
        subst hj
        have bd : l.length ≤ 2 ^ m := sk.bound (a := ⟨m, r, ds⟩) hs
        refine ⟨_, rfl, F, l.map (fun n : Nat => (n : Int)), rfl, ?_, fun ns q pm so hq => ?_⟩
        · rw [← nVs_int]
          exact SqL.of h1
        · obtain ⟨t, et, st, mt⟩ := srt pm so sk.nd
          have e := sk.end_ (a := ⟨m, r, ds⟩) hs st mt
          subst e
          refine k _ q (s1.trans (same_new hq)) (s1.free hq) ?_
          rw [upd_same, et, nVs_int]
    · rintro σ H1 Q1 Q2 hq ⟨v, e, v', e', a1, ys, e1, sq, i1, j1, e2, e3, b, e4, q⟩
      exact ⟨v, e, v', e', a1, ys, e1, sq, i1, j1, e2, e3, b, e4, hq _ _ q⟩
end
end Na

set_option Elab.async false
set_option maxRecDepth 100000
set_option maxHeartbeats 4000000
namespace Na
open PySem PySem.Spec PyProof.Rows L2
/-! ### a dict used as a set of numbers -/
abbrev kN (n : Nat) : Key := Sum.inl (n : Int)
theorem any_keys {kvs : List (Key × V)} {ks : List Nat} (h : kvs.map (·.1) = ks.map kN) (n : Nat) : (kvs.any fun kv => decide (kv.1 = kN n)) = decide (n ∈ ks) := by
  have e : (kvs.any fun kv => decide (kv.1 = kN n)) = (kvs.map (·.1)).any fun k => decide (k = kN n) := by
    rw [List.any_map]
    rfl
  rw [e, h, List.any_map]
  by_cases c : n ∈ ks
  · rw [decide_eq_true c, List.any_eq_true]
    exact ⟨n, c, by simp⟩
  · rw [decide_eq_false c, List.any_eq_false]
    intro x hx
    simp
    intro q
    have : x = n := by omega
    exact c (this ▸ hx)
theorem put_keys {kvs : List (Key × V)} {ks : List Nat} (h : kvs.map (·.1) = ks.map kN) (n : Nat) (v : V) : (putK kvs (kN n) v).map (·.1) = (if n ∈ ks then ks else ks ++ [n]).map kN := by
  unfold putK
  rw [any_keys h]
  by_cases c : n ∈ ks
  · rw [if_pos (decide_eq_true c), if_pos c, List.map_map, ← h]
    refine List.map_congr_left fun kv _ => ?_
    show (if kv.1 = kN n then (kv.1, v) else kv).1 = kv.1
    split <;> rfl
  · rw [if_neg (by simp [c]), if_neg c, List.map_append, List.map_append, h]
    rfl
theorem keys_nV {kvs : List (Key × V)} {ks : List Nat} (h : kvs.map (·.1) = ks.map kN) : (kvs.map fun kv => kV kv.1) = nVs ks := by
  have e : (kvs.map fun kv => kV kv.1) = (kvs.map (·.1)).map kV := by
    rw [List.map_map]
    rfl
  rw [e, h, List.map_map]
  rfl
theorem add_nd {ks : List Nat} {n : Nat} (h : ks.Nodup) : (if n ∈ ks then ks else ks ++ [n]).Nodup := by
  split
  · exact h
  · rename_i c
    rw [List.nodup_append]
    refine ⟨h, by simp, fun x hx y hy e => c ?_⟩
    have : y = n := by simpa using hy
    rw [← this, ← e]
    exact hx
theorem add_mem {ks : List Nat} {n t : Nat} : t ∈ (if n ∈ ks then ks else ks ++ [n]) ↔ t ∈ ks ∨ t = n := by
  split
  · rename_i c
    constructor
    · exact .inl
    · rintro (q | q)
      · exact q
      · exact q ▸ c
  · rw [List.mem_append, List.mem_singleton]
theorem mem_take_succ {l : List Nat} {i x z : Nat} (h : l[i]? = some z) : x ∈ l.take (i + 1) ↔ x ∈ l.take i ∨ x = z := by
  rw [List.take_add_one, h, List.mem_append]
  simp
theorem flat_rep (n : Nat) (v : V) : (List.replicate n [v]).flatten = List.replicate n v := by
  induction n with
  | zero => rfl
  | succ n ih =>
    rw [List.replicate_succ, List.flatten_cons, ih]
    rfl
theorem nVs_rep (n x : Nat) : nVs (List.replicate n x) = List.replicate n (nV x) := List.map_replicate
theorem nVs_len (l : List Nat) : (nVs l).length = l.length := List.length_map ..
theorem one_shl (m : Nat) : (1 : Int) * 2 ^ (m : Int).toNat = ((2 ^ m : Nat) : Int) := by
  have := i_shl 1 m
  rw [Nat.one_mul] at this
  exact this
theorem take_one {α : Type} {l : List α} {i : Nat} {x : α} (h : l[i]? = some x) : l.take (i + 1) = l.take i ++ [x] := by
  rw [List.take_add_one, h]
  rfl
theorem len_take_lt {α : Type} {l : List α} {i : Nat} {x : α} (h : l[i]? = some x) : (l.take i).length < l.length := by
  have := (List.getElem?_eq_some_iff.mp h).1
  rw [List.length_take]
  omega
theorem filt_yes {p : Nat → Bool} {i : Nat} (h : p i = true) : (List.range (i + 1)).filter p = (List.range i).filter p ++ [i] := by
  rw [List.range_succ, List.filter_append]
  simp [h]
theorem filt_no {p : Nat → Bool} {i : Nat} (h : p i = false) : (List.range (i + 1)).filter p = (List.range i).filter p := by
  rw [List.range_succ, List.filter_append]
  simp [h]
theorem filt_len (p : Nat → Bool) (i : Nat) : ((List.range i).filter p).length ≤ i := by
  refine Nat.le_trans (List.length_filter_le _ _) ?_
  rw [List.length_range]
  exact Nat.le_refl _
theorem if_not {c : Bool} {A B : Prop} (h1 : c = false → A) (h2 : c = true → B) : if (!c) = true then A else B := by
  cases c with
  | true => exact if_false_of rfl (h2 rfl)
  | false => exact if_true_of rfl (h1 rfl)
/-- lists of numbers, by their places -/
inductive LsAt (H : Hp) : List V → List (List Nat) → Prop
  | nil : LsAt H [] []
  | cons {a : Addr} {l : List Nat} {vs : List V} {ls : List (List Nat)} : H a = some (.lst (nVs l)) → LsAt H vs ls → LsAt H (.ref a :: vs) (l :: ls)
theorem LsAt.mono {H H' : Hp} {vs : List V} {ls : List (List Nat)} (s : Same H H') (h : LsAt H vs ls) : LsAt H' vs ls := by
  induction h with
  | nil => exact .nil
  | cons a _ ih => exact .cons (s _ _ a) ih
theorem LsAt.len {H : Hp} {vs : List V} {ls : List (List Nat)} (h : LsAt H vs ls) : vs.length = ls.length := by
  induction h with
  | nil => rfl
  | cons _ _ ih => simp [ih]
theorem LsAt.getV {H : Hp} {vs : List V} {ls : List (List Nat)} (h : LsAt H vs ls) : ∀ {i : Nat} {v : V}, vs[i]? = some v → ∃ a l, v = .ref a ∧ ls[i]? = some l ∧ H a = some (.lst (nVs l)) := by
  induction h with
  | nil =>
    intro i v e
    simp at e
  | cons a _ ih =>
    intro i v e
    cases i with
    | zero =>
      have e' := Option.some.inj e
      subst e'
      exact ⟨_, _, rfl, rfl, a⟩
    | succ i => exact ih e
theorem LsAt.rep {H : Hp} {a : Addr} {l : List Nat} (h : H a = some (.lst (nVs l))) : ∀ k, LsAt H (List.replicate k (.ref a)) (List.replicate k l)
  | 0 => .nil
  | k + 1 => .cons h (LsAt.rep h k)
theorem LsAt.snoc {H : Hp} {vs : List V} {ls : List (List Nat)} {a : Addr} {l : List Nat} (h : LsAt H vs ls) (e : H a = some (.lst (nVs l))) : LsAt H (vs ++ [V.ref a]) (ls ++ [l]) := by
  induction h with
  | nil => exact .cons e .nil
  | cons a _ ih => exact .cons a ih
theorem LsAt.app {H : Hp} {vs us : List V} {ls ks : List (List Nat)} (h : LsAt H vs ls) (e : LsAt H us ks) : LsAt H (vs ++ us) (ls ++ ks) := by
  induction h with
  | nil => exact e
  | cons a _ ih => exact .cons a ih
def vO : Option Nat → V
  | none => .non
  | some s => nV s
def sp_size : Sp := fun vs H Q _ => ∃ a : Nat, vs = [nV a] ∧ Gives H Q (nV (pc a))
def sp_chosen_of (K : PySem.W.Frag) : Sp := fun vs H Q _ => ∃ (x : Nat) (p : Addr) (us : List V), vs = [.ref p, nV x] ∧ SqL K H p us ∧ us.length ≤ 64 ∧ Makes H Q (fil x us)
def sp_let_states : Sp := fun vs H Q _ => ∃ r m : Nat, vs = [nV r, nV m] ∧ m ≤ 4 ∧ Makes H Q (nVs (lets m r))
def sp_joined (K : PySem.W.Frag) : Sp := fun vs H Q _ => ∃ (m : Nat) (p q : Addr) (a b : List Nat), vs = [.ref p, .ref q] ∧ SqL K H p (nVs a) ∧ SqL K H q (nVs b) ∧ m ≤ 4 ∧ (∀ x, x ∈ a → x < 2 ^ m) ∧ (∀ x, x ∈ b → x < 2 ^ m) ∧
  ∀ r : List Nat, r.Nodup → (∀ t, t ∈ r ↔ ∃ x, x ∈ a ∧ ∃ y, y ∈ b ∧ t = x ||| y) → Makes H Q (nVs r)
def sp_come_together (K : PySem.W.Frag) : Sp := fun vs H Q _ => ∃ (c m : Nat) (p : Addr) (us : List V) (ls : List (List Nat)), vs = [nV c, .ref p] ∧ SqL K H p us ∧ LsAt H us ls ∧ c < 2 ^ m ∧ m ≤ 4 ∧ (∀ l, l ∈ ls → l.length ≤ 16 ∧ ∀ x, x ∈ l → x < 2 ^ m) ∧
  ∀ l : List Nat, l.Pairwise (· < ·) → (∀ t, t ∈ l ↔ Mix c ls t) → Makes H Q (nVs l)
def sp_is_kept_from (K : PySem.W.Frag) (CD : Addr) : Sp := fun vs H Q _ => ∃ (r c k m : Nat) (p : Addr) (us : List V) (ds : List Kh411.Deed), vs = [nV r, .ref p, nV c, nV k] ∧ SqL K H p us ∧ DsAt CD H us ds ∧ (∀ d, d ∈ ds → okD m d) ∧ c < 2 ^ m ∧ m ≤ 4 ∧ k ≤ 1000 ∧
  ∀ b : Bool, (b = true ↔ ∀ t, Come ⟨m, r, ds⟩ c k t → r.testBit t = true) → Gives H Q (.bl b)
def sp_first_broken (K : PySem.W.Frag) (CD : Addr) : Sp := fun vs H Q _ => ∃ (r m k : Nat) (p : Addr) (us : List V) (ds : List Kh411.Deed), vs = [nV r, .ref p, nV m, nV k] ∧ SqL K H p us ∧ DsAt CD H us ds ∧ (∀ d, d ∈ ds → okD m d) ∧ m ≤ 4 ∧ k ≤ 1000 ∧
  Gives H Q (vO (firstB ⟨m, r, ds⟩ k))
def sp_is_kept (K : PySem.W.Frag) (CD : Addr) : Sp := fun vs H Q _ => ∃ (r m k : Nat) (p : Addr) (us : List V) (ds : List Kh411.Deed), vs = [nV r, .ref p, nV m, nV k] ∧ SqL K H p us ∧ DsAt CD H us ds ∧ (∀ d, d ∈ ds → okD m d) ∧ m ≤ 4 ∧ k ≤ 1000 ∧
  Gives H Q (.bl (Kh411.keeps ⟨m, r, ds⟩ k))
def sp_is_free (K : PySem.W.Frag) (CD : Addr) : Sp := fun vs H Q _ => ∃ (r m : Nat) (p : Addr) (us : List V) (ds : List Kh411.Deed), vs = [nV r, .ref p, nV m] ∧ SqL K H p us ∧ DsAt CD H us ds ∧ (∀ d, d ∈ ds → okD m d) ∧ m ≤ 4 ∧
  Gives H Q (.bl (Kh411.keeps ⟨m, r, ds⟩ m))
def sp_is_closed : Sp := fun vs H Q _ => ∃ (r m : Nat) (ds : List Kh411.Deed), vs = [nV r, nV m] ∧ m ≤ 4 ∧ Gives H Q (.bl (Kh411.closedRule ⟨m, r, ds⟩))
def sp_do_clash (CD : Addr) : Sp := fun vs H Q _ => ∃ (r m : Nat) (p q : Addr) (d e : Kh411.Deed) (ds : List Kh411.Deed), vs = [nV r, nV m, .ref p, .ref q] ∧ DeedAt CD H p d ∧ DeedAt CD H q e ∧ okD m d ∧ okD m e ∧ m ≤ 4 ∧ Gives H Q (.bl (Kh411.clash ⟨m, r, ds⟩ d e).isSome)
section
variable {P : Program} {w : World} {K : PySem.W.Frag} {mg : Str → Option Value} {base : Heap} {C_Deed C_World C_History Z_SIZES : Addr}
theorem ok_size (T : Txt K mg C_Deed C_World C_History Z_SIZES) : Can P w K mg base 1 "size" (sp_size) := by
  refine T.d_size.ok sc_size (fun vs H Q E h => ?_) (fun f cdv A outer s H vs Q E hr h => ⟨_, (pss_cons (ps_set (i := 1) sc_size.nd rfl (Or.inl rfl) pe_int)
      (pss_cons (ps_while PassesOwn.never (pt_cmpR op_gt (pv 0) pe_int (nomark _))
      (pss_cons (ps_set (i := 1) sc_size.nd rfl (Or.inl rfl) (pe_op op_add (pv 1) (pe_op op_and (pv 0) pe_int)))
      (pss_one (ps_set (i := 0) sc_size.nd rfl (Or.inl rfl) (pe_op op_shr (pv 0) pe_int)))))
      (pss_one (ps_ret (pv 1))))), ?_⟩)
  · obtain ⟨a, rfl, _⟩ := h
    rfl
  · obtain ⟨a, rfl, k⟩ := h
    refine while_by (fun σ H' => ∃ x y : Nat, σ = [some (nV x), some (nV y)] ∧ H' = H ∧ y + pc x = pc a) (fun σ _ => slotN σ 0) ⟨a, 0, rfl, rfl, Nat.zero_add _⟩ ?_ ?_
    · rintro σ H1 ⟨x, y, rfl, rfl, e⟩
      refine ⟨_, rfl, _, _, rfl, rfl, _, rfl, if_both (fun c => ?_) (fun c => ?_)⟩
      · have hx : 0 < x := by
          have := of_decide_eq_true c
          omega
        refine ⟨_, rfl, _, rfl, _, _, rfl, rfl, _, _, rfl, rfl, ?_⟩
        refine ⟨_, rfl, _, _, rfl, rfl, (by show (0 : Int) ≤ 1; decide), ⟨x / 2, y + x % 2, ?_, rfl, ?_⟩, ?_⟩
        · show [some (V.int ((x : Int) / 2 ^ (1 : Int).toNat)), some (V.int ((y : Int) + Builtin.bitAnd (x : Int) ((1 : Nat) : Int)))] = _
          rw [i_and, Nat.and_one_is_mod]
          rfl
        · have := pc_any x
          omega
        · show ((x : Int) / 2 ^ (1 : Int).toNat).toNat < (x : Int).toNat
          have : (x : Int) / 2 ^ (1 : Int).toNat = ((x / 2 : Nat) : Int) := rfl
          rw [this]
          omega
      · have hx : x = 0 := by
          have := of_decide_eq_false c
          omega
        subst hx
        rw [pc_zero] at e
        refine ⟨_, rfl, ?_⟩
        have := k H1 (Same.refl _)
        rw [← e] at this
        exact this
    · rintro σ H1 Q1 Q2 hq ⟨v, e, i1, j1, e2, e3, b, e4, q⟩
      exact ⟨v, e, i1, j1, e2, e3, b, e4, hq _ _ q⟩
theorem ok_chosen_of (T : Txt K mg C_Deed C_World C_History Z_SIZES) : Can P w K mg base 2 "chosen_of" (sp_chosen_of K) := by
  refine T.d_chosen_of.ok sc_chosen_of (fun vs H Q E h => ?_) (fun f cdv A outer s H vs Q E hr h => ⟨_, (pss_one (ps_ret (pe_lc (own := [("number", 2), ("deed", 3)]) (g := gTup K 2 (gCons (gName 2) (gCons (gName 3) gNil))) (tt := (tB (tCall (sp_has) [] E0 (tCons (tVar 1) (tCons (tVar 2) tNil))))) (te := (tVar 3)) rfl sc_chosen_of.nd (pi_enum (by rfl) T.b_enumerate (pa_cons (pv 0) pa_nil)) (blkOk_by (own := [("number", 2), ("deed", 3)]) (N := N_chosen_of) (sc := defScope s_chosen_of) (by decide +kernel)) (fun _ _ _ _ _ => by exact (pg_tup rfl (pgs_cons (pg_name (i := 2) sc_chosen_of.nd rfl (Or.inl rfl)) (pgs_cons (pg_name (i := 3) sc_chosen_of.nd rfl (Or.inl rfl)) pgs_nil)))) (fun _ _ _ _ _ => by exact (pts_one (pt_val (pe_can (ok_has T) hr (by decide) rfl (pa_cons (pv 1) (pa_cons (pv 2) pa_nil)))))) (fun _ _ _ _ _ => by exact (pv 3))))), ?_⟩)
  · obtain ⟨x, p, us, rfl, _⟩ := h
    rfl
  · obtain ⟨x, p, us, rfl, hp, hl, k⟩ := h
    refine ⟨_, rfl, p, us, rfl, hp, fun D hN => lc_it (walk_enum (K := K) (a := p) (xs := us)) (fun i H' => Same H H' ∧ H' D = some (.lst (fil x (us.take i))))
      ⟨same_new hN, upd_same⟩ (fun i H' _ ⟨s3, _⟩ => s3.seq hp) ?_ ?_⟩
    · rintro i y H3 H4 hi ⟨s3, h3⟩ ⟨t, u, v, rfl, ht, rfl, e1, e2⟩
      cases e1
      have ti : D ≠ t := ne_of_none h3 ht
      have s4 := s3.trans (same_new (o := HO.tup [V.int (i : Nat), v]) ht)
      have h4 : upd H3 t (HO.tup [V.int (i : Nat), v]) D = _ := (upd_ne ti).trans h3
      have e2' : us[i]? = some v := e2
      have tk : us.take (i + 1) = us.take i ++ [v] := take_one e2'
      have lt' : (us.take i).length = i := by
        rw [List.length_take]
        omega
      refine ⟨t, _, rfl, SqT.of upd_same, rfl, _, _, rfl, _, _, rfl, rfl, rfl, _, rfl, _, rfl, x, i, rfl, fun H5 s5 => ⟨_, rfl, if_both (fun c => ?_) (fun c => ?_)⟩⟩
      · refine ⟨_, rfl, _, s5 _ _ h4, ?_, same_mut (s4.trans s5) hN, ?_⟩
        · refine sz64 ?_
          unfold fil
          rw [List.length_map]
          refine Nat.le_trans (List.length_filter_le _ _) ?_
          rw [List.length_zipIdx, lt']
          omega
        · rw [upd_same, tk, fil_snoc, lt', if_pos c]
      · refine ⟨s4.trans s5, (s5 _ _ h4).trans ?_⟩
        rw [tk, fil_snoc, lt', if_neg (by rw [c]; decide), List.append_nil]
    · rintro H3 ⟨s3, h3⟩
      rw [List.take_length] at h3
      exact k H3 D s3 hN h3
theorem ok_let_states (T : Txt K mg C_Deed C_World C_History Z_SIZES) : Can P w K mg base 2 "let_states" (sp_let_states) := by
  refine T.d_let_states.ok sc_let_states (fun vs H Q E h => ?_) (fun f cdv A outer s H vs Q E hr h => ⟨_, (pss_one (ps_ret (pe_lc (own := [("state", 2)]) (g := gName 2) (tt := (tB (tCall (sp_has) [] E0 (tCons (tVar 0) (tCons (tVar 2) tNil))))) (te := (tVar 2)) rfl sc_let_states.nd (pi_range1 (by rfl) T.b_range (pa_cons (pe_op op_shl pe_int (pv 1)) pa_nil)) (blkOk_by (own := [("state", 2)]) (N := N_let_states) (sc := defScope s_let_states) (by decide +kernel)) (fun _ _ _ _ _ => by exact (pg_name (i := 2) sc_let_states.nd rfl (Or.inl rfl))) (fun _ _ _ _ _ => by exact (pts_one (pt_val (pe_can (ok_has T) hr (by decide) rfl (pa_cons (pv 0) (pa_cons (pv 2) pa_nil)))))) (fun _ _ _ _ _ => by exact (pv 2))))), ?_⟩)
  · obtain ⟨r, m, rfl, _⟩ := h
    rfl
  · obtain ⟨r, m, rfl, hm, k⟩ := h
    have e16 := pow16 hm
    refine ⟨_, rfl, _, _, rfl, rfl, ⟨Int.natCast_nonneg _, by omega, by decide⟩, _, rfl, ?_, ?_, ?_⟩
    · rw [one_shl]
      exact Int.le_trans (by decide) (Int.natCast_nonneg _)
    · rw [one_shl]
      exact Int.lt_of_le_of_lt (Int.ofNat_le.mpr e16) (by decide)
    · rw [one_shl]
      intro D hD
      refine lc_range (lo := 0) (n := 2 ^ m) (fun i H' => Same H H' ∧ H' D = some (.lst (nVs ((List.range i).filter fun s => r.testBit s)))) ⟨same_new hD, upd_same⟩ ?_ ?_
      · rintro i H1 hi ⟨s1, h1⟩
        refine ⟨rfl, _, rfl, _, rfl, r, i, ?_, fun H2 s2 => ⟨_, rfl, if_both (fun c => ?_) (fun c => ?_)⟩⟩
        · show [nV r, V.int (0 + (i : Int))] = _
          rw [Int.zero_add]
          rfl
        · refine ⟨_, rfl, _, s2 _ _ h1, ?_, same_mut (s1.trans s2) hD, ?_⟩
          · rw [nVs_len]
            exact sz64 (Nat.le_trans (filt_len _ i) (by omega))
          · rw [upd_same, filt_yes c, nVs_snoc]
            show some (HO.lst (nVs _ ++ [V.int (0 + (i : Int))])) = _
            rw [Int.zero_add]
            rfl
        · refine ⟨s1.trans s2, ?_⟩
          rw [filt_no c]
          exact s2 _ _ h1
      · rintro H1 ⟨s1, h1⟩
        exact k H1 D s1 hD h1
theorem ok_joined (T : Txt K mg C_Deed C_World C_History Z_SIZES) : Can P w K mg base 1 "joined" (sp_joined K) := by
  refine T.d_joined.ok sc_joined (fun vs H Q E h => ?_) (fun f cdv A outer s H vs Q E hr h => ⟨_, (pss_cons (ps_set (i := 2) sc_joined.nd rfl (Or.inl rfl) pe_dnewK)
      (pss_cons (ps_for PassesOwn.never rfl (pi_list (pv 0)) (pg_name (i := 3) sc_joined.nd rfl (Or.inl rfl))
      (pss_one (ps_for PassesOwn.never rfl (pi_list (pv 1)) (pg_name (i := 4) sc_joined.nd rfl (Or.inl rfl))
      (pss_one (ps_dput (hu_of hr) (pv 2) (pe_op op_or (pv 3) (pv 4)) pe_bl rfl)))))
      (pss_one (ps_ret (pe_callTy (call_listD rfl) (by rfl) T.b_list (by decide +kernel) (pa_cons (pv 2) pa_nil)))))), ?_⟩)
  · obtain ⟨m, p, q, a, b, rfl, _⟩ := h
    rfl
  · obtain ⟨m, p, q, a, b, rfl, hp, hq, hm, ha, hb, k⟩ := h
    have e16 := pow16 hm
    intro F hF
    have lt : ∀ {ks : List Nat} {x y : Nat}, (∀ t, t ∈ ks → t < 2 ^ m) → x ∈ a → y ∈ b → ∀ t, t ∈ (if x ||| y ∈ ks then ks else ks ++ [x ||| y]) → t < 2 ^ m := fun {ks x y} h hx hy t ht => by
      rcases add_mem.mp ht with z | z
      · exact h t z
      · rw [z]
        exact or_lt (ha x hx) (hb y hy)
    refine ⟨_, rfl, p, rfl, ⟨_, (same_new hF).seq hp⟩, for_list (K := K) (a := p) (xs := nVs a) (fun i σ H' => ∃ (v1 v2 : Option V) (kvs : List (Key × V)) (ks : List Nat), σ = [some (.ref p), some (.ref q), some (.ref F), v1, v2] ∧ Same H H' ∧ H' F = some (.dK kvs) ∧
        kvs.map (·.1) = ks.map kN ∧ ks.Nodup ∧ (∀ t, t ∈ ks → t < 2 ^ m) ∧ ∀ t, t ∈ ks ↔ ∃ x, x ∈ a.take i ∧ ∃ y, y ∈ b ∧ t = x ||| y)
      ⟨none, none, [], [], rfl, same_new hF, upd_same, rfl, List.nodup_nil, (fun t ht => absurd ht (by simp)), fun t => by simp⟩ (fun i σ H' _ ⟨_, _, _, _, _, s1, _⟩ => s1.seq hp) ?_ ?_⟩
    · rintro i y σ H1 hi ⟨v1, v2, kvs, ks, rfl, s1, h1, hk, nd, hl, hmem⟩
      obtain ⟨x, hx, rfl⟩ := nVs_get hi
      have xa : x ∈ a := List.mem_of_getElem? hx
      refine ⟨_, rfl, q, rfl, ⟨_, s1.seq hq⟩, for_list (K := K) (a := q) (xs := nVs b) (fun j σ H' => ∃ (v2 : Option V) (kvs : List (Key × V)) (ks : List Nat), σ = [some (.ref p), some (.ref q), some (.ref F), some (nV x), v2] ∧ Same H H' ∧ H' F = some (.dK kvs) ∧
        kvs.map (·.1) = ks.map kN ∧ ks.Nodup ∧ (∀ t, t ∈ ks → t < 2 ^ m) ∧ ∀ t, t ∈ ks ↔ (∃ x, x ∈ a.take i ∧ ∃ y, y ∈ b ∧ t = x ||| y) ∨ ∃ y, y ∈ b.take j ∧ t = x ||| y)
        ⟨v2, kvs, ks, rfl, s1, h1, hk, nd, hl, fun t => by rw [hmem]; simp⟩ (fun j σ H' _ ⟨_, _, _, _, s2, _⟩ => s2.seq hq) ?_ ?_⟩
      · rintro j y σ H2 hj ⟨v3, kv2, ks2, rfl, s2, h2, hk2, nd2, hl2, hmem2⟩
        obtain ⟨z, hz, rfl⟩ := nVs_get hj
        have zb : z ∈ b := List.mem_of_getElem? hz
        have len2 : kv2.length = ks2.length := by
          have := congrArg List.length hk2
          rw [List.length_map, List.length_map] at this
          exact this
        have b16 : ks2.length ≤ 2 ^ m := nodup_len nd2 hl2
        have dp : DPut H2 F (V.int (Builtin.bitOr (x : Int) (z : Int))) (V.bl true) (upd H2 F (HO.dK (putK kv2 (kN (x ||| z)) (V.bl true)))) := by
          rw [i_or]
          exact DPut.k (k := kN (x ||| z)) h2 (sz64 (by omega))
        refine ⟨_, rfl, _, rfl, _, rfl, _, _, rfl, rfl, F, _, rfl, dp, _, _, _, rfl, same_mut s2 hF, upd_same, put_keys hk2 _ _, add_nd nd2, lt hl2 xa zb, fun t => ?_⟩
        rw [add_mem, hmem2]
        constructor
        · rintro ((e | ⟨y, hy, e⟩) | e)
          · exact .inl e
          · exact .inr ⟨y, (mem_take_succ hz).mpr (.inl hy), e⟩
          · exact .inr ⟨z, (mem_take_succ hz).mpr (.inr rfl), e⟩
        · rintro (e | ⟨y, hy, e⟩)
          · exact .inl (.inl e)
          · rcases (mem_take_succ hz).mp hy with g | g
            · exact .inl (.inr ⟨y, g, e⟩)
            · exact .inr (g ▸ e)
      · rintro σ H2 ⟨v3, kv2, ks2, rfl, s2, h2, hk2, nd2, hl2, hmem2⟩
        refine ⟨_, _, kv2, ks2, rfl, s2, h2, hk2, nd2, hl2, fun t => ?_⟩
        rw [hmem2, List.length_map, List.take_length]
        constructor
        · rintro (⟨u, hu, e⟩ | e)
          · exact ⟨u, (mem_take_succ hx).mpr (.inl hu), e⟩
          · exact ⟨x, (mem_take_succ hx).mpr (.inr rfl), e⟩
        · rintro ⟨u, hu, e⟩
          rcases (mem_take_succ hx).mp hu with g | g
          · exact .inl ⟨u, g, e⟩
          · exact .inr (g ▸ e)
    · rintro σ H1 ⟨v1, v2, kvs, ks, rfl, s1, h1, hk, nd, hl, hmem⟩
      rw [List.length_map, List.take_length] at hmem
      refine ⟨_, rfl, F, kvs, rfl, .inl h1, fun g hg => ?_⟩
      refine k ks nd hmem _ g (s1.trans (same_new hg)) (s1.free hg) ?_
      rw [upd_same, keys_nV hk]
theorem ok_come_together (T : Txt K mg C_Deed C_World C_History Z_SIZES) : Can P w K mg base 2 "come_together" (sp_come_together K) := by
  refine T.d_come_together.ok sc_come_together (fun vs H Q E h => ?_) (fun f cdv A outer s H vs Q E hr h => ⟨_, (pss_cons (ps_set (i := 2) sc_come_together.nd rfl (Or.inl rfl) (pe_lst (pa_cons pe_int pa_nil)))
      (pss_cons (ps_for PassesOwn.never rfl (pi_list (pv 1)) (pg_name (i := 3) sc_come_together.nd rfl (Or.inl rfl))
      (pss_one (ps_set (i := 2) sc_come_together.nd rfl (Or.inl rfl) (pe_can (ok_joined T) hr (by decide) rfl (pa_cons (pv 2) (pa_cons (pe_lc (own := [("state", 5)]) (g := gName 5) (tt := tYes) (te := (tOp (rI0 fun i j => .int (Builtin.bitXor i j)) (tVar 5) (tVar 0))) rfl sc_come_together.nd (pi_list (pv 3)) (blkOk_by (own := [("state", 5)]) (N := N_come_together) (sc := defScope s_come_together) (by decide +kernel)) (fun _ _ _ _ _ => by exact (pg_name (i := 5) sc_come_together.nd rfl (Or.inl rfl))) (fun _ _ _ _ _ => by exact pts_nil) (fun _ _ _ _ _ => by exact (pe_op op_xor (pv 5) (pv 0)))) pa_nil))))))
      (pss_one (ps_ret (pe_callB cr_sortedI (by rfl) T.b_sorted (by decide +kernel) (pa_cons (pe_lc (own := [("change", 4)]) (g := gName 4) (tt := tYes) (te := (tOp (rI0 fun i j => .int (Builtin.bitXor i j)) (tVar 0) (tVar 4))) rfl sc_come_together.nd (pi_list (pv 2)) (blkOk_by (own := [("change", 4)]) (N := N_come_together) (sc := defScope s_come_together) (by decide +kernel)) (fun _ _ _ _ _ => by exact (pg_name (i := 4) sc_come_together.nd rfl (Or.inl rfl))) (fun _ _ _ _ _ => by exact pts_nil) (fun _ _ _ _ _ => by exact (pe_op op_xor (pv 0) (pv 4)))) pa_nil)))))), ?_⟩)
  · obtain ⟨c, m, p, us, ls, rfl, _⟩ := h
    rfl
  · obtain ⟨c, m, p, us, ls, rfl, hp, hls, hc, hm, hl, k⟩ := h
    have e16 := pow16 hm
    have bnd : ∀ {i : Nat} {r : List Nat}, Row (ls.take i) r → ∀ x, x ∈ r → x < 2 ^ m := fun h => row_lt h fun l ml => (hl l (List.mem_of_mem_take ml)).2
    refine ⟨(by show 1 ≤ sizeLine; decide), fun F hF => ?_⟩
    refine ⟨_, rfl, p, rfl, ⟨_, (same_new hF).seq hp⟩, for_list (K := K) (a := p) (xs := us) (fun i σ H' => ∃ (ch : List Nat) (G : Addr) (v1 : Option V), σ = [some (nV c), some (.ref p), some (.ref G), v1, none, none] ∧ Same H H' ∧ H G = none ∧ H' G = some (.lst (nVs ch)) ∧ ch.Nodup ∧ ∀ f, f ∈ ch ↔ ∃ r, Row (ls.take i) r ∧ f = chg c r)
      ⟨[0], F, none, rfl, same_new hF, hF, upd_same, by simp, fun f => ?_⟩ (fun i σ H' _ ⟨_, _, _, _, s1, _⟩ => s1.seq hp) ?_ ?_⟩
    · rw [List.mem_singleton]
      constructor
      · intro e
        exact ⟨[], .nil, e⟩
      · rintro ⟨r, hr, e⟩
        cases hr
        exact e
    · rintro i y σ H1 hi ⟨ch, G, v1, rfl, s1, fG, hG, nd, hmem⟩
      obtain ⟨a, l, rfl, hli, ha⟩ := hls.getV hi
      have ml := List.mem_of_getElem? hli
      obtain ⟨l16, lx⟩ := hl l ml
      have ha1 := s1 _ _ ha
      refine ⟨_, rfl, _, rfl, a, rfl, ⟨_, SqL.of ha1⟩, fun D hD => lc_list (K := K) (a := a) (xs := nVs l) (fun j H' => Same H1 H' ∧ H' D = some (.lst (nVs ((l.take j).map (· ^^^ c))))) ⟨same_new hD, upd_same⟩ (fun j H' _ ⟨s2, _⟩ => SqL.of (s2 _ _ ha1)) ?_ ?_⟩
      · rintro j y H2 hj ⟨s2, h2⟩
        obtain ⟨x, hx, rfl⟩ := nVs_get hj
        refine ⟨rfl, _, rfl, _, rfl, _, _, rfl, rfl, _, h2, ?_, same_mut s2 hD, ?_⟩
        · rw [nVs_len, List.length_map]
          have := len_take_lt hx
          exact sz64 (by omega)
        · rw [upd_same, take_one hx, List.map_append]
          show some (HO.lst (nVs _ ++ [V.int (Builtin.bitXor (x : Int) (c : Int))])) = _
          rw [i_xor]
          show _ = some (HO.lst (nVs (_ ++ [x ^^^ c])))
          rw [nVs_snoc]
          rfl
      · rintro H2 ⟨s2, h2⟩
        rw [nVs_len, List.take_length] at h2
        have s02 := s1.trans s2
        refine ⟨m, G, D, ch, l.map (· ^^^ c), rfl, SqL.of (s2 _ _ hG), SqL.of h2, hm, fun f hf => ?_, fun f hf => ?_, fun r nd2 mem2 H3 G2 s3 fG2 hG2 => ?_⟩
        · obtain ⟨r, hr, e⟩ := (hmem f).mp hf
          rw [e]
          exact chg_lt hc (bnd hr)
        · obtain ⟨x, hx, e⟩ := List.mem_map.mp hf
          rw [← e]
          exact xor_lt (lx x hx) hc
        · refine ⟨r, G2, _, rfl, s02.trans s3, s02.free fG2, hG2, nd2, fun f => ?_⟩
          rw [mem2, take_one hli]
          constructor
          · rintro ⟨x, hx, y, hy, e⟩
            obtain ⟨r1, hr1, e1⟩ := (hmem x).mp hx
            obtain ⟨z, hz, e2⟩ := List.mem_map.mp hy
            exact ⟨r1 ++ [z], row_snoc.mpr ⟨r1, z, rfl, hr1, hz⟩, by rw [e, e1, ← e2, chg_snoc]⟩
          · rintro ⟨r1, hr1, e⟩
            obtain ⟨r2, z, e1, hr2, hz⟩ := row_snoc.mp hr1
            exact ⟨chg c r2, (hmem _).mpr ⟨r2, hr2, rfl⟩, z ^^^ c, List.mem_map.mpr ⟨z, hz, rfl⟩, by rw [e, e1, chg_snoc]⟩
    · rintro σ H1 ⟨ch, G, v1, rfl, s1, fG, hG, nd, hmem⟩
      rw [hls.len] at hmem
      have blt : ∀ f, f ∈ ch → f < 2 ^ m := fun f hf => by
        obtain ⟨r, hr, e⟩ := (hmem f).mp hf
        rw [e]
        exact chg_lt hc (bnd hr)
      have b16 : ch.length ≤ 2 ^ m := nodup_len nd blt
      rw [List.take_length] at hmem
      refine ⟨_, rfl, G, rfl, ⟨_, SqL.of hG⟩, fun D hD => lc_list (K := K) (a := G) (xs := nVs ch) (fun j H' => Same H1 H' ∧ H' D = some (.lst (nVs ((ch.take j).map (c ^^^ ·))))) ⟨same_new hD, upd_same⟩ (fun j H' _ ⟨s2, _⟩ => SqL.of (s2 _ _ hG)) ?_ ?_⟩
      · rintro j y H2 hj ⟨s2, h2⟩
        obtain ⟨x, hx, rfl⟩ := nVs_get hj
        refine ⟨rfl, _, rfl, _, rfl, _, _, rfl, rfl, _, h2, ?_, same_mut s2 hD, ?_⟩
        · rw [nVs_len, List.length_map]
          have := len_take_lt hx
          exact sz64 (by omega)
        · rw [upd_same, take_one hx, List.map_append]
          show some (HO.lst (nVs _ ++ [V.int (Builtin.bitXor (c : Int) (x : Int))])) = _
          rw [i_xor]
          show _ = some (HO.lst (nVs (_ ++ [c ^^^ x])))
          rw [nVs_snoc]
          rfl
      · rintro H2 ⟨s2, h2⟩
        rw [nVs_len, List.take_length] at h2
        have s02 := s1.trans s2
        refine ⟨D, (ch.map (c ^^^ ·)).map (fun n : Nat => (n : Int)), rfl, ?_, fun ns q pm so hq => ?_⟩
        · rw [← nVs_int]
          exact SqL.of h2
        · have nd2 : (ch.map (c ^^^ ·)).Nodup := by
            rw [List.nodup_iff_pairwise_ne, List.pairwise_map]
            rw [List.nodup_iff_pairwise_ne] at nd
            exact nd.imp fun {x y} h e => h (by rw [← xx c x, ← xx c y, e])
          obtain ⟨t, et, st, mt⟩ := srt pm so nd2
          refine k t st (fun u => ?_) _ q (s02.trans (same_new hq)) (s02.free hq) ?_
          · rw [mt, List.mem_map]
            constructor
            · rintro ⟨f, hf, e⟩
              obtain ⟨r, hr, e1⟩ := (hmem f).mp hf
              exact ⟨r, hr, by rw [← e, e1, put_chg]⟩
            · rintro ⟨r, hr, e⟩
              exact ⟨chg c r, (hmem _).mpr ⟨r, hr, rfl⟩, by rw [e, put_chg]⟩
          · rw [upd_same, et, nVs_int]
theorem ok_is_kept_from (T : Txt K mg C_Deed C_World C_History Z_SIZES) : Can P w K mg base 4 "is_kept_from" (sp_is_kept_from K C_Deed) := by
  refine T.d_is_kept_from.ok sc_is_kept_from (fun vs H Q E h => ?_) (fun f cdv A outer s H vs Q E hr h => ⟨_, (pss_cons (ps_set (i := 4) sc_is_kept_from.nd rfl (Or.inl rfl) (pe_can (ok_may_come_to T) hr (by decide) rfl (pa_cons (pv 0) (pa_cons (pv 1) (pa_cons (pv 2) pa_nil)))))
      (pss_one (ps_ret (pe_callB (cr_all rfl) (by rfl) T.b_all (by decide +kernel) (pa_cons (pe_lc (own := [("state", 5)]) (g := gName 5) (tt := tYes) (te := (tCall (sp_has) [] E0 (tCons (tVar 0) (tCons (tVar 5) tNil)))) rfl sc_is_kept_from.nd (pi_list (pe_can (ok_come_together T) hr (by decide) rfl (pa_cons (pv 2) (pa_cons (pe_op op_rep (pe_lst (pa_cons (pv 4) pa_nil)) (pv 3)) pa_nil)))) (blkOk_by (own := [("state", 5)]) (N := N_is_kept_from) (sc := defScope s_is_kept_from) (by decide +kernel)) (fun _ _ _ _ _ => by exact (pg_name (i := 5) sc_is_kept_from.nd rfl (Or.inl rfl))) (fun _ _ _ _ _ => by exact pts_nil) (fun _ _ _ _ _ => by exact (pe_can (ok_has T) hr (by decide) rfl (pa_cons (pv 0) (pa_cons (pv 5) pa_nil))))) pa_nil))))), ?_⟩)
  · obtain ⟨r, c, k, m, p, us, ds, rfl, _⟩ := h
    rfl
  · obtain ⟨r, c, n, m, p, us, ds, rfl, hp, hds, hok, hc, hm, hn, k⟩ := h
    have e16 := pow16 hm
    have rlt : ∀ x, x ∈ Kh411.reach ⟨m, r, ds⟩ c → x < 2 ^ m := fun x hx => reach_lt (a := ⟨m, r, ds⟩) hc ((mem_reach (a := ⟨m, r, ds⟩) hc).mp hx)
    have rlen : (Kh411.reach ⟨m, r, ds⟩ c).length ≤ 16 := Nat.le_trans (sorted_len (reach_sorted _ _) rlt) e16
    refine ⟨_, rfl, _, rfl, _, rfl, r, c, m, p, us, ds, rfl, hp, hds, hok, hc, hm, fun H1 S s1 fS hS => ?_⟩
    refine ⟨_, rfl, _, rfl, (by show 1 ≤ sizeLine; decide), fun t ht => ⟨_, rfl, t, _, _, rfl, rfl, upd_same, by omega, by omega, ?_, fun q hq => ?_⟩⟩
    · rw [Int.toNat_natCast]
      exact Nat.le_trans (show 1 * n ≤ 1000 by omega) (by decide)
    · have s2 := (same_new (o := HO.lst [V.ref S]) ht).trans (same_new (o := HO.lst (List.replicate (n : Int).toNat [V.ref S]).flatten) hq)
      refine ⟨c, m, q, List.replicate n (V.ref S), List.replicate n (Kh411.reach ⟨m, r, ds⟩ c), rfl, ?_, LsAt.rep (s2 _ _ hS) n, hc, hm, fun l ml => ?_, fun l so mem H2 G s3 fG hG => ?_⟩
      · refine SqL.of ?_
        rw [upd_same, Int.toNat_natCast, flat_rep]
      · rw [List.eq_of_mem_replicate ml]
        exact ⟨rlen, rlt⟩
      · have s03 := (s1.trans s2).trans s3
        have llt : ∀ t, t ∈ l → t < 2 ^ m := fun t ht => come_lt (a := ⟨m, r, ds⟩) ((mix_come (a := ⟨m, r, ds⟩) hc).mp ((mem t).mp ht))
        have llen : l.length ≤ 2 ^ m := sorted_len so llt
        refine ⟨G, rfl, ⟨_, SqL.of hG⟩, fun D hD => lc_list (K := K) (a := G) (xs := nVs l) (fun j H' => Same H2 H' ∧ H' D = some (.lst (((l.take j).map fun t => r.testBit t).map V.bl))) ⟨same_new hD, upd_same⟩ (fun j H' _ ⟨s4, _⟩ => SqL.of (s4 _ _ hG)) ?_ ?_⟩
        · rintro j y H3 hj ⟨s4, h4⟩
          obtain ⟨x, hx, rfl⟩ := nVs_get hj
          refine ⟨rfl, _, rfl, _, rfl, r, x, rfl, fun H4 s5 => ⟨_, s5 _ _ h4, ?_, same_mut (s4.trans s5) hD, ?_⟩⟩
          · rw [List.length_map, List.length_map]
            have := len_take_lt hx
            exact sz64 (by omega)
          · rw [upd_same, take_one hx, List.map_append, List.map_append]
            rfl
        · rintro H3 ⟨s4, h4⟩
          rw [nVs_len, List.take_length] at h4
          refine ⟨D, _, rfl, SqL.of h4, k _ ?_ _ (s03.trans s4)⟩
          rw [List.all_eq_true]
          constructor
          · intro h t ht
            exact h _ (List.mem_map.mpr ⟨t, (mem t).mpr ((mix_come (a := ⟨m, r, ds⟩) hc).mpr ht), rfl⟩)
          · intro h b hb
            obtain ⟨t, ht, e⟩ := List.mem_map.mp hb
            rw [← e]
            exact h t ((mix_come (a := ⟨m, r, ds⟩) hc).mp ((mem t).mp ht))
theorem ok_first_broken (T : Txt K mg C_Deed C_World C_History Z_SIZES) : Can P w K mg base 5 "first_broken" (sp_first_broken K C_Deed) := by
  refine T.d_first_broken.ok sc_first_broken (fun vs H Q E h => ?_) (fun f cdv A outer s H vs Q E hr h => ⟨_, (pss_cons (ps_for PassesOwn.never rfl (pi_list (pe_can (ok_let_states T) hr (by decide) rfl (pa_cons (pv 0) (pa_cons (pv 2) pa_nil)))) (pg_name (i := 4) sc_first_broken.nd rfl (Or.inl rfl))
      (pss_one (ps_if (pt_not (pt_val (pe_can (ok_is_kept_from T) hr (by decide) rfl (pa_cons (pv 0) (pa_cons (pv 1) (pa_cons (pv 4) (pa_cons (pv 3) pa_nil)))))))
      (pss_one (ps_ret (pv 4)))
      pss_nil)))
      (pss_one (ps_ret pe_non))), ?_⟩)
  · obtain ⟨r, m, k, p, us, ds, rfl, _⟩ := h
    rfl
  · obtain ⟨r, m, n, p, us, ds, rfl, hp, hds, hok, hm, hn, k⟩ := h
    refine ⟨_, rfl, _, rfl, r, m, rfl, hm, fun H1 L s1 fL hL => ?_⟩
    refine ⟨L, rfl, ⟨_, SqL.of hL⟩, for_list (K := K) (a := L) (xs := nVs (lets m r)) (fun i σ H' => ∃ (v1 : Option V), σ = [some (nV r), some (.ref p), some (nV m), some (nV n), v1] ∧ Same H1 H' ∧ ∀ j, j ∈ (lets m r).take i → ∀ t, Come ⟨m, r, ds⟩ j n t → r.testBit t = true)
      ⟨none, rfl, Same.refl _, fun j hj => absurd hj (by simp)⟩ (fun i σ H' _ ⟨_, _, s2, _⟩ => SqL.of (s2 _ _ hL)) ?_ ?_⟩
    · rintro i y σ H2 hi ⟨v1, rfl, s2, hk⟩
      obtain ⟨c, hc, rfl⟩ := nVs_get hi
      have mc := mem_lets.mp (List.mem_of_getElem? hc)
      have s02 := s1.trans s2
      by_cases hb' : ∀ t, Come ⟨m, r, ds⟩ c n t → r.testBit t = true
      · refine ⟨_, rfl, _, rfl, _, rfl, _, rfl, r, c, n, m, p, us, ds, rfl, s02.seq hp, hds.mono s02, hok, mc.1, hm, hn, fun b eb H3 s3 => ?_⟩
        have et := eb.mpr hb'
        subst et
        refine ⟨_, rfl, if_false_of rfl ⟨_, rfl, s2.trans s3, fun j hj => ?_⟩⟩
        rcases (mem_take_succ hc).mp hj with z | z
        · exact hk j z
        · exact z ▸ hb'
      · refine ⟨_, rfl, _, rfl, _, rfl, _, rfl, r, c, n, m, p, us, ds, rfl, s02.seq hp, hds.mono s02, hok, mc.1, hm, hn, fun b eb H3 s3 => ?_⟩
        have et : b = false := by
          cases b with
          | false => rfl
          | true => exact absurd (eb.mp rfl) hb'
        subst et
        refine ⟨_, rfl, if_true_of rfl ⟨_, rfl, ?_⟩⟩
        have := k H3 (s02.trans s3)
        rw [firstB_some (a := ⟨m, r, ds⟩) hc hb' hk] at this
        exact this
    · rintro σ H2 ⟨v1, rfl, s2, hk⟩
      rw [nVs_len, List.take_length] at hk
      have := k H2 (s1.trans s2)
      rw [firstB_none (a := ⟨m, r, ds⟩) hk] at this
      exact this
theorem ok_is_kept (T : Txt K mg C_Deed C_World C_History Z_SIZES) : Can P w K mg base 6 "is_kept" (sp_is_kept K C_Deed) := by
  refine T.d_is_kept.ok sc_is_kept (fun vs H Q E h => ?_) (fun f cdv A outer s H vs Q E hr h => ⟨_, (pss_one (ps_ret (pe_cmpR op_isN (pe_can (ok_first_broken T) hr (by decide) rfl (pa_cons (pv 0) (pa_cons (pv 1) (pa_cons (pv 2) (pa_cons (pv 3) pa_nil))))) pe_non (nomark _)))), ?_⟩)
  · obtain ⟨r, m, k, p, us, ds, rfl, _⟩ := h
    rfl
  · obtain ⟨r, m, n, p, us, ds, rfl, hp, hds, hok, hm, hn, k⟩ := h
    refine ⟨_, rfl, _, rfl, _, rfl, _, rfl, r, m, n, p, us, ds, rfl, hp, hds, hok, hm, hn, fun H1 s1 => ⟨rfl, ?_⟩⟩
    have := k H1 s1
    rw [← firstB_keeps] at this
    cases e : firstB ⟨m, r, ds⟩ n with
    | none =>
      rw [e] at this
      exact this
    | some s =>
      rw [e] at this
      exact this
theorem ok_is_free (T : Txt K mg C_Deed C_World C_History Z_SIZES) : Can P w K mg base 7 "is_free" (sp_is_free K C_Deed) := by
  refine T.d_is_free.ok sc_is_free (fun vs H Q E h => ?_) (fun f cdv A outer s H vs Q E hr h => ⟨_, (pss_one (ps_ret (pe_can (ok_is_kept T) hr (by decide) rfl (pa_cons (pv 0) (pa_cons (pv 1) (pa_cons (pv 2) (pa_cons (pv 2) pa_nil))))))), ?_⟩)
  · obtain ⟨r, m, p, us, ds, rfl, _⟩ := h
    rfl
  · obtain ⟨r, m, p, us, ds, rfl, hp, hds, hok, hm, k⟩ := h
    exact ⟨_, rfl, _, rfl, _, rfl, _, rfl, r, m, m, p, us, ds, rfl, hp, hds, hok, hm, by omega, k⟩
theorem ok_is_closed (T : Txt K mg C_Deed C_World C_History Z_SIZES) : Can P w K mg base 3 "is_closed" (sp_is_closed) := by
  refine T.d_is_closed.ok sc_is_closed (fun vs H Q E h => ?_) (fun f cdv A outer s H vs Q E hr h => ⟨_, (pss_cons (ps_set (i := 2) sc_is_closed.nd rfl (Or.inl rfl) (pe_can (ok_let_states T) hr (by decide) rfl (pa_cons (pv 0) (pa_cons (pv 1) pa_nil))))
      (pss_cons (ps_for PassesOwn.never rfl (pi_list (pv 2)) (pg_name (i := 3) sc_is_closed.nd rfl (Or.inl rfl))
      (pss_one (ps_for PassesOwn.never rfl (pi_list (pe_can (ok_come_together T) hr (by decide) rfl (pa_cons (pv 3) (pa_cons (pe_lst (pa_cons (pv 2) (pa_cons (pv 2) pa_nil))) pa_nil)))) (pg_name (i := 4) sc_is_closed.nd rfl (Or.inl rfl))
      (pss_one (ps_if (pt_not (pt_val (pe_can (ok_has T) hr (by decide) rfl (pa_cons (pv 0) (pa_cons (pv 4) pa_nil)))))
      (pss_one (ps_ret pe_bl))
      pss_nil)))))
      (pss_one (ps_ret pe_bl)))), ?_⟩)
  · obtain ⟨r, m, ds, rfl, _⟩ := h
    rfl
  · obtain ⟨r, m, ds, rfl, hm, k⟩ := h
    have e16 := pow16 hm
    refine ⟨_, rfl, _, rfl, r, m, rfl, hm, fun H1 L s1 fL hL => ?_⟩
    refine ⟨_, rfl, L, rfl, ⟨_, SqL.of hL⟩, for_list (K := K) (a := L) (xs := nVs (lets m r)) (fun i σ H' => ∃ (v1 v2 : Option V), σ = [some (nV r), some (nV m), some (.ref L), v1, v2] ∧ Same H1 H' ∧ ∀ j, j ∈ (lets m r).take i → ∀ t, Mix j [lets m r, lets m r] t → r.testBit t = true)
      ⟨none, none, rfl, Same.refl _, fun j hj => absurd hj (by simp)⟩ (fun i σ H' _ ⟨_, _, _, s2, _⟩ => SqL.of (s2 _ _ hL)) ?_ ?_⟩
    · rintro i y σ H2 hi ⟨v1, v2, rfl, s2, hk⟩
      obtain ⟨c, hc, rfl⟩ := nVs_get hi
      have mc := mem_lets.mp (List.mem_of_getElem? hc)
      refine ⟨_, rfl, _, rfl, _, rfl, (by show 2 ≤ sizeLine; decide), fun t ht => ?_⟩
      have hL3 := (same_new (o := HO.lst [V.ref L, V.ref L]) ht) _ _ (s2 _ _ hL)
      refine ⟨c, m, t, _, [lets m r, lets m r], rfl, SqL.of upd_same, .cons hL3 (.cons hL3 .nil), mc.1, hm, fun l ml => ?_, fun l so mem H3 G s3 fG hG => ?_⟩
      · have : l = lets m r := by
          rcases List.mem_cons.mp ml with z | z
          · exact z
          · exact List.mem_singleton.mp z
        rw [this]
        exact ⟨Nat.le_trans (lets_len m r) e16, fun x hx => (mem_lets.mp hx).1⟩
      · have s13 := s2.trans ((same_new ht).trans s3)
        refine ⟨G, rfl, ⟨_, SqL.of hG⟩, for_list (K := K) (a := G) (xs := nVs l) (fun j σ H' => ∃ (v2 : Option V), σ = [some (nV r), some (nV m), some (.ref L), some (nV c), v2] ∧ Same H3 H' ∧ ∀ t, t ∈ l.take j → r.testBit t = true)
          ⟨_, rfl, Same.refl _, fun t ht => absurd ht (by simp)⟩ (fun j σ H' _ ⟨_, _, s4, _⟩ => SqL.of (s4 _ _ hG)) ?_ ?_⟩
        · rintro j y σ H4 hj ⟨v3, rfl, s4, ht⟩
          obtain ⟨z, hz, rfl⟩ := nVs_get hj
          refine ⟨_, rfl, _, rfl, r, z, rfl, fun H5 s5 => ⟨_, rfl, if_not (fun q => ?_) (fun q => ?_)⟩⟩
          · have no : Kh411.closedRule ⟨m, r, ds⟩ = false := by
              cases e : Kh411.closedRule ⟨m, r, ds⟩ with
              | false => rfl
              | true =>
                have := (closed_iff (a := ⟨m, r, ds⟩)).mp e c (List.mem_of_getElem? hc) z ((mem z).mp (List.mem_of_getElem? hz))
                exact absurd (this.symm.trans q) (by decide)
            rw [no] at k
            exact k H5 (((s1.trans s13).trans s4).trans s5)
          · refine ⟨_, rfl, s4.trans s5, fun t hh => ?_⟩
            rcases (mem_take_succ hz).mp hh with g | g
            · exact ht t g
            · exact g ▸ q
        · rintro σ H4 ⟨v3, rfl, s4, ht⟩
          rw [nVs_len, List.take_length] at ht
          refine ⟨_, _, rfl, s13.trans s4, fun j hj => ?_⟩
          rcases (mem_take_succ hc).mp hj with z | z
          · exact hk j z
          · subst z
            exact fun t hm' => ht t ((mem t).mpr hm')
    · rintro σ H2 ⟨v1, v2, rfl, s2, hk⟩
      rw [nVs_len, List.take_length] at hk
      have yes : Kh411.closedRule ⟨m, r, ds⟩ = true := (closed_iff (a := ⟨m, r, ds⟩)).mpr hk
      rw [yes] at k
      exact k H2 (s1.trans s2)
theorem ok_do_clash (T : Txt K mg C_Deed C_World C_History Z_SIZES) : Can P w K mg base 3 "do_clash" (sp_do_clash C_Deed) := by
  refine T.d_do_clash.ok sc_do_clash (fun vs H Q E h => ?_) (fun f cdv A outer s H vs Q E hr h => ⟨_, (pss_cons (ps_for PassesOwn.never rfl (pi_list (pe_can (ok_let_states T) hr (by decide) rfl (pa_cons (pv 0) (pa_cons (pv 1) pa_nil)))) (pg_name (i := 4) sc_do_clash.nd rfl (Or.inl rfl))
      (pss_one (ps_if (PW.pt (pw_and (pt_val (pe_can (ok_can_be_done T) hr (by decide) rfl (pa_cons (pv 0) (pa_cons (pv 2) (pa_cons (pv 4) pa_nil))))) (pw_and1 (pt_val (pe_can (ok_can_be_done T) hr (by decide) rfl (pa_cons (pv 0) (pa_cons (pv 3) (pa_cons (pv 4) pa_nil))))))))
      (pss_cons (ps_set (i := 5) sc_do_clash.nd rfl (Or.inl rfl) (pe_lst (pa_cons (pe_can (ok_outcome T) hr (by decide) rfl (pa_cons (pv 2) (pa_cons (pv 4) pa_nil))) (pa_cons (pe_can (ok_outcome T) hr (by decide) rfl (pa_cons (pv 3) (pa_cons (pv 4) pa_nil))) pa_nil))))
      (pss_one (ps_if (pt_not (pt_val (pe_can (ok_has T) hr (by decide) rfl (pa_cons (pv 0) (pa_cons (pe_can (ok_put_together T) hr (by decide) rfl (pa_cons (pv 4) (pa_cons (pv 5) pa_nil))) pa_nil)))))
      (pss_one (ps_ret pe_bl))
      pss_nil)))
      pss_nil)))
      (pss_one (ps_ret pe_bl))), ?_⟩)
  · obtain ⟨r, m, p, q, d, e, ds, rfl, _⟩ := h
    rfl
  · obtain ⟨r, m, p, q, d, e, ds, rfl, hp, hq, hd, he, hm, k⟩ := h
    refine ⟨_, rfl, _, rfl, r, m, rfl, hm, fun H1 L s1 fL hL => ?_⟩
    refine ⟨L, rfl, ⟨_, SqL.of hL⟩, for_list (K := K) (a := L) (xs := nVs (lets m r)) (fun i σ H' => ∃ (v1 v2 : Option V), σ = [some (nV r), some (nV m), some (.ref p), some (.ref q), v1, v2] ∧ Same H1 H' ∧ ∀ j, j ∈ (lets m r).take i → canD r d j = true → canD r e j = true → r.testBit (put j [out d j, out e j]) = true)
      ⟨none, none, rfl, Same.refl _, fun j hj => absurd hj (by simp)⟩ (fun i σ H' _ ⟨_, _, _, s2, _⟩ => SqL.of (s2 _ _ hL)) ?_ ?_⟩
    · rintro i y σ H2 hi ⟨v1, v2, rfl, s2, hk⟩
      obtain ⟨c, hc, rfl⟩ := nVs_get hi
      have mc := List.mem_of_getElem? hc
      have s02 := s1.trans s2
      have next : ∀ {H3 : Hp} {w1 w2 : Option V}, Same H2 H3 → (canD r d c = true → canD r e c = true → r.testBit (put c [out d c, out e c]) = true) → ∃ (v1 v2 : Option V), [some (nV r), some (nV m), some (V.ref p), some (V.ref q), w1, w2] = [some (nV r), some (nV m), some (V.ref p), some (V.ref q), v1, v2] ∧ Same H1 H3 ∧ ∀ j, j ∈ (lets m r).take (i + 1) → canD r d j = true → canD r e j = true → r.testBit (put j [out d j, out e j]) = true := fun s3 h => ⟨_, _, rfl, s2.trans s3, fun j hj => by
        rcases (mem_take_succ hc).mp hj with z | z
        · exact hk j z
        · exact z ▸ h⟩
      refine ⟨_, rfl, _, rfl, _, rfl, r, p, d, c, rfl, hp.mono s02, fun H3 s3 => ⟨_, rfl, if_both (fun c1 => ?_) (fun c1 => ?_)⟩⟩
      · refine ⟨_, rfl, _, rfl, _, rfl, r, q, e, c, rfl, hq.mono (s02.trans s3), fun H4 s4 => ⟨_, rfl, if_both (fun c2 => ?_) (fun c2 => ?_)⟩⟩
        · have s04 := s02.trans (s3.trans s4)
          refine ⟨_, rfl, _, rfl, p, d, c, rfl, hp.mono s04, fun H5 s5 => ⟨_, rfl, _, rfl, q, e, c, rfl, hq.mono (s04.trans s5), fun H6 s6 => ?_⟩⟩
          refine ⟨(by show 2 ≤ sizeLine; decide), fun t ht => ?_⟩
          refine ⟨_, rfl, _, rfl, _, rfl, c, t, [out d c, out e c], rfl, SqL.of upd_same, fun H7 s7 => ⟨r, _, rfl, fun H8 s8 => ⟨_, rfl, if_not (fun c3 => ?_) (fun c3 => ?_)⟩⟩⟩
          · have yes : (Kh411.clash ⟨m, r, ds⟩ d e).isSome = true := (clash_iff (a := ⟨m, r, ds⟩) hd he).mpr ⟨c, mc, c1, c2, c3⟩
            rw [yes] at k
            exact k H8 (((((s04.trans s5).trans s6).trans (same_new ht)).trans s7).trans s8)
          · exact next ((((((s3.trans s4).trans s5).trans s6).trans (same_new ht)).trans s7).trans s8) fun _ _ => c3
        · exact next (s3.trans s4) fun _ h => absurd (h.symm.trans c2) (by decide)
      · exact if_false_of rfl (next s3 fun h => absurd (h.symm.trans c1) (by decide))
    · rintro σ H2 ⟨v1, v2, rfl, s2, hk⟩
      rw [nVs_len, List.take_length] at hk
      have no : (Kh411.clash ⟨m, r, ds⟩ d e).isSome = false := by
        cases z : (Kh411.clash ⟨m, r, ds⟩ d e).isSome with
        | false => rfl
        | true =>
          obtain ⟨s, hs, h1, h2, h3⟩ := (clash_iff (a := ⟨m, r, ds⟩) hd he).mp z
          exact absurd ((hk s hs h1 h2).symm.trans h3) (by decide)
      rw [no] at k
      exact k H2 (s1.trans s2)
end
end Na

set_option Elab.async false
set_option maxRecDepth 100000
set_option maxHeartbeats 4000000
namespace Na
open PySem PySem.Spec PyProof.Rows L2
def sp_World_init (CD CW : Addr) : Sp := fun vs H Q _ => ∃ (p dx : Addr) (m c : Nat), vs = [.ref p, nV m, nV c] ∧ H p = some (.ins CW dx []) ∧ m ≤ 4 ∧ c ≤ 4 ∧
  ∀ H' ld lt ls, WorldAt CD CW H' p ld lt ls (fresh m c) → But H H' [p] → H ld = none → H lt = none → H ls = none → Q .non H'
def sp_twin (CD CW : Addr) : Sp := fun vs H Q _ => ∃ (a ld lt ls : Addr) (w : Kh413.Work), vs = [.ref a] ∧ WorldAt CD CW H a ld lt ls w ∧ WF w ∧
  ∀ H' a' ld' lt' ls', Same H H' → WorldAt CD CW H' a' ld' lt' ls' w → H a' = none → H ld' = none → H lt' = none → H ls' = none → Q (.ref a') H'
def strays (w : Kh413.Work) : List Nat := (List.range w.copies.length).filter fun c => w.copies.getD c 0 != w.common
def sp_straying (CD CW : Addr) : Sp := fun vs H Q _ => ∃ (a ld lt ls : Addr) (w : Kh413.Work), vs = [.ref a] ∧ WorldAt CD CW H a ld lt ls w ∧ WF w ∧ Makes H Q (nVs (strays w))
def sp_are_together (CD CW : Addr) : Sp := fun vs H Q _ => ∃ (a ld lt ls : Addr) (w : Kh413.Work), vs = [.ref a] ∧ WorldAt CD CW H a ld lt ls w ∧ WF w ∧ Gives H Q (.bl (Kh413.atOnce w))
def sp_lies_ahead (CD CW : Addr) : Sp := fun vs H Q _ => ∃ (a ld lt ls : Addr) (w : Kh413.Work), vs = [.ref a] ∧ WorldAt CD CW H a ld lt ls w ∧ WF w ∧ Gives H Q (nV (Kh413.ahead w))
def sp_make_common (CD CW : Addr) : Sp := fun vs H Q _ => ∃ (a ld lt ls s : Nat) (w : Kh413.Work), vs = [.ref a, nV s] ∧ WorldAt CD CW H a ld lt ls w ∧ WF w ∧
  ∀ H' ls', WorldAt CD CW H' a ld lt ls' (Kh413.set1 w s) → But H H' [a] → H ls' = none → Q .non H'
def sp_reached_from (CD CW : Addr) : Sp := fun vs H Q _ => ∃ (a ld lt ls : Addr) (w : Kh413.Work) (s : Nat), vs = [.ref a, nV s] ∧ WorldAt CD CW H a ld lt ls w ∧ WF w ∧ s < 2 ^ w.a.m ∧ Makes H Q (nVs (Kh411.reach (Kh411.only w.a w.allowed) s))
def sp_may_come_of (CD CW : Addr) : Sp := fun vs H Q _ => ∃ (a ld lt ls : Addr) (w : Kh413.Work) (c x : Nat), vs = [.ref a, nV c] ∧ WorldAt CD CW H a ld lt ls w ∧ WF w ∧ w.copies[c]? = some x ∧
  ∀ l : List Nat, l.Pairwise (· < ·) → (∀ t, t ∈ l ↔ t ∈ Kh413.mayCome w c) → Makes H Q (nVs l)
theorem ahead_eq {w : Kh413.Work} (h : WF w) : put w.common w.copies = Kh413.ahead w := put_eq h.cm h.cs
theorem strays_nil (w : Kh413.Work) : (nVs (strays w)).isEmpty = Kh413.atOnce w := by
  have e : (nVs (strays w)).isEmpty = (strays w).isEmpty := by
    cases strays w <;> rfl
  rw [e]
  unfold strays Kh413.atOnce
  cases h : w.copies.all fun s => s == w.common with
  | true =>
    rw [List.isEmpty_iff, List.filter_eq_nil_iff]
    intro c hc
    rw [List.all_eq_true] at h
    have hl := List.mem_range.mp hc
    have := h w.copies[c] (List.getElem_mem hl)
    rw [List.getD_eq_getElem?_getD, List.getElem?_eq_getElem hl]
    simpa using this
  | false =>
    rw [List.all_eq_false] at h
    obtain ⟨x, hx, q⟩ := h
    obtain ⟨i, hi⟩ := List.getElem?_of_mem hx
    have hl := (List.getElem?_eq_some_iff.mp hi).1
    have ne : (List.range w.copies.length).filter (fun c => w.copies.getD c 0 != w.common) ≠ [] := fun z => by
      rw [List.filter_eq_nil_iff] at z
      have := z i (List.mem_range.mpr hl)
      rw [List.getD_eq_getElem?_getD, hi] at this
      simp at this q
      exact q this
    simpa using ne
theorem strays_len (w : Kh413.Work) : (strays w).length ≤ w.copies.length := by
  unfold strays
  refine Nat.le_trans (List.length_filter_le _ _) ?_
  rw [List.length_range]
  exact Nat.le_refl _
theorem DsAt.but {CD : Addr} {H H' : Hp} {own : List Addr} {vs : List V} {ds : List Kh411.Deed} (h : DsAt CD H vs ds) (s : But H H' own) (n : ∀ a d, DeedAt CD H a d → a ∉ own) : DsAt CD H' vs ds := by
  induction h with
  | nil => exact .nil
  | cons a _ ih =>
    obtain ⟨dx, e⟩ := id a
    exact .cons ⟨dx, s _ _ e (n _ _ a)⟩ ih
theorem DsAt.filt {CD : Addr} {H : Hp} {vs : List V} {ds : List Kh411.Deed} (x : Nat) (h : DsAt CD H vs ds) : DsAt CD H (fil x vs) (fil x ds) := by
  unfold fil
  have go : ∀ k, DsAt CD H (((vs.zipIdx k).filter fun p => x.testBit p.2).map (·.1)) (((ds.zipIdx k).filter fun p => x.testBit p.2).map (·.1)) := by
    induction h with
    | nil =>
      intro k
      exact .nil
    | cons a _ ih =>
      intro k
      rw [List.zipIdx_cons, List.zipIdx_cons, List.filter_cons, List.filter_cons]
      by_cases c : x.testBit k = true
      · simp only [c, if_true]
        exact .cons a (ih (k + 1))
      · simp only [c, if_false]
        exact ih (k + 1)
  exact go 0
/-- a deed is no world -/
theorem deed_world {CD C dx a : Addr} {H : Hp} {d : Kh411.Deed} {v0 v1 v2 v3 v4 v5 v6 : V} (h : DeedAt CD H a d) (e : H a = some (.ins C dx (WL v0 v1 v2 v3 v4 v5 v6))) : False := by
  obtain ⟨dy, q⟩ := h
  rw [q] at e
  injection e with e
  injection e with _ _ e
  exact absurd (congrArg List.length e) (by show ¬ (4 = 7); decide)
section
variable {P : Program} {w : World} {K : PySem.W.Frag} {mg : Str → Option Value} {base : Heap} {C_Deed C_World C_History Z_SIZES : Addr}
theorem ok_World_init (T : Txt K mg C_Deed C_World C_History Z_SIZES) : CanI P w K mg base 1 "World" C_World (sp_World_init C_Deed C_World) := by
  refine T.d_World_init.ok sc_World_init (fun vs H Q E h => ?_) (fun f cdv A outer s H vs Q E hr h => ⟨_, (pss_cons (ps_fld (pv 0) (pv 1) rfl)
      (pss_cons (ps_fld (pv 0) (pe_op op_sub (pe_op op_shl pe_int (pe_op op_shl pe_int (pv 1))) pe_int) rfl)
      (pss_cons (ps_fld (pv 0) (pe_lst pa_nil) rfl)
      (pss_cons (ps_fld (pv 0) pe_int rfl)
      (pss_cons (ps_fld (pv 0) (pe_op op_rep (pe_lst (pa_cons pe_int pa_nil)) (pe_op op_shl pe_int (pv 1))) rfl)
      (pss_cons (ps_fld (pv 0) pe_int rfl)
      (pss_one (ps_fld (pv 0) (pe_op op_rep (pe_lst (pa_cons pe_int pa_nil)) (pv 2)) rfl)))))))), ?_⟩)
  · obtain ⟨p, dx, m, c, rfl, _⟩ := h
    rfl
  · obtain ⟨p, dx, m, c, rfl, hp, hm, hc, k⟩ := h
    have e16 := pow16 hm
    have z : ∀ {n : Nat}, n ≤ 16 → (1 : Nat) * n ≤ sizeLine := fun h => by
      rw [Nat.one_mul]
      exact Nat.le_trans h (by decide)
    have full : (1 : Int) * 2 ^ ((1 : Int) * 2 ^ (m : Int).toNat).toNat - 1 = ((2 ^ 2 ^ m - 1 : Nat) : Int) := by
      rw [one_shl, one_shl]
      have := Nat.two_pow_pos (2 ^ m)
      omega
    have pw : ((1 : Int) * 2 ^ (m : Int).toNat) ≤ 16 := by
      rw [one_shl]
      exact Int.ofNat_le.mpr e16
    have pw0 : 0 ≤ ((1 : Int) * 2 ^ (m : Int).toNat) := by
      rw [one_shl]
      exact Int.natCast_nonneg _
    refine ⟨_, rfl, _, rfl, p, C_World, dx, _, rfl, hp, T.cl_World, T.n_World_facts, (by decide), ?_⟩
    refine ⟨_, rfl, _, _, rfl, rfl, ⟨Int.natCast_nonneg _, by omega, by decide⟩, _, _, rfl, rfl, ⟨pw0, by omega, by decide⟩, _, _, rfl, rfl, _, rfl, p, C_World, dx, _, rfl, upd_same, T.cl_World, T.n_World_rule, p1000 (n := 0) (Nat.le_refl 0), ?_⟩
    refine ⟨Nat.zero_le _, fun l1 h1 => ⟨_, rfl, p, C_World, dx, _, rfl, (upd_ne (upd_free.mp h1).1.symm).trans upd_same, T.cl_World, T.n_World_deeds, p1000 (plen (n := 0) (Nat.le_refl 0)), ?_⟩⟩
    refine ⟨_, rfl, p, C_World, dx, _, rfl, upd_same, T.cl_World, T.n_World_allowed, p1000 (plen (plen (n := 0) (Nat.le_refl 0))), ?_⟩
    refine ⟨(by show 1 ≤ sizeLine; decide), fun t1 g1 => ⟨_, rfl, _, _, rfl, rfl, ⟨Int.natCast_nonneg _, by omega, by decide⟩, t1, _, _, rfl, rfl, upd_same, by omega, by omega, z (by omega), fun l2 h2 => ⟨_, rfl, p, C_World, dx, _, rfl, (upd_ne (upd_free.mp (upd_free.mp h2).2).1.symm).trans ((upd_ne (upd_free.mp g1).1.symm).trans upd_same), T.cl_World, T.n_World_told, p1000 (plen (plen (plen (n := 0) (Nat.le_refl 0)))), ?_⟩⟩⟩
    refine ⟨_, rfl, p, C_World, dx, _, rfl, upd_same, T.cl_World, T.n_World_common, p1000 (plen (plen (plen (plen (n := 0) (Nat.le_refl 0))))), ?_⟩
    refine ⟨(by show 1 ≤ sizeLine; decide), fun t2 g2 => ⟨_, rfl, t2, _, _, rfl, rfl, upd_same, by omega, by omega, z (by omega), fun l3 h3 => ⟨_, rfl, p, C_World, dx, _, rfl, (upd_ne (upd_free.mp (upd_free.mp h3).2).1.symm).trans ((upd_ne (upd_free.mp g2).1.symm).trans upd_same), T.cl_World, T.n_World_states, p1000 (plen (plen (plen (plen (plen (n := 0) (Nat.le_refl 0)))))), ?_⟩⟩⟩
    simp only [upd_free] at h1 g1 h2 g2 h3
    obtain ⟨l1p, _, f1⟩ := h1
    obtain ⟨t1p, _, t1l1, _, _, ft1⟩ := g1
    obtain ⟨l2t1, l2p, _, l2l1, _, _, f2⟩ := h2
    obtain ⟨t2p, _, t2l2, t2t1, _, _, t2l1, _, _, ft2⟩ := g2
    obtain ⟨l3t2, l3p, _, l3l2, l3t1, _, _, l3l1, _, _, f3⟩ := h3
    have mp : p ∈ [p] := List.mem_singleton_self p
    refine k _ l1 l2 l3 ⟨dx, [], ?_, ?_, .nil, ?_, ?_, l2l1.symm, l3l1.symm, l3l2.symm⟩ ((((((((((((But.refl H [p]).set mp).set mp).new f1).set mp).set mp).new ft1).new f2).set mp).set mp).new ft2).new f3 |>.set mp) f1 f2 f3
    · rw [upd_same, W_new]
      show some (HO.ins C_World dx (WL (nV m) (V.int ((1 : Int) * 2 ^ ((1 : Int) * 2 ^ (m : Int).toNat).toNat - 1)) (.ref l1) (nV 0) (.ref l2) (nV 0) (.ref l3))) = _
      rw [full]
      rfl
    · rw [upd_ne l1p, upd_ne l3l1.symm, upd_ne t2l1.symm, upd_ne l1p, upd_ne l1p, upd_ne l2l1.symm, upd_ne t1l1.symm, upd_ne l1p, upd_ne l1p, upd_same]
    · rw [upd_ne l2p, upd_ne l3l2.symm, upd_ne t2l2.symm, upd_ne l2p, upd_ne l2p, upd_same, one_shl, Int.toNat_natCast, flat_rep]
      exact congrArg (fun q => some (HO.lst q)) (nVs_rep _ 0).symm
    · rw [upd_ne l3p, upd_same, Int.toNat_natCast, flat_rep]
      exact congrArg (fun q => some (HO.lst q)) (nVs_rep _ 0).symm
theorem ok_twin (T : Txt K mg C_Deed C_World C_History Z_SIZES) : Can P w K mg base 3 "twin" (sp_twin C_Deed C_World) := by
  refine T.d_twin.ok sc_twin (fun vs H Q E h => ?_) (fun f cdv A outer s H vs Q E hr h => ⟨_, (pss_cons (ps_set (i := 1) sc_twin.nd rfl (Or.inl rfl) (pe_canI (ok_World_init T) hr (by decide) rfl (pa_cons (pe_fld (pv 0) rfl) (pa_cons (pe_callB call_len_seq (by rfl) T.b_len PySem.boot_len (pa_cons (pe_fld (pv 0) rfl) pa_nil)) pa_nil))))
      (pss_cons (ps_fld (pv 1) (pe_fld (pv 0) rfl) rfl)
      (pss_cons (ps_fld (pv 1) (pe_callTy call_list_of (by rfl) T.b_list (by decide +kernel) (pa_cons (pe_fld (pv 0) rfl) pa_nil)) rfl)
      (pss_cons (ps_fld (pv 1) (pe_fld (pv 0) rfl) rfl)
      (pss_cons (ps_fld (pv 1) (pe_callTy call_list_of (by rfl) T.b_list (by decide +kernel) (pa_cons (pe_fld (pv 0) rfl) pa_nil)) rfl)
      (pss_cons (ps_fld (pv 1) (pe_fld (pv 0) rfl) rfl)
      (pss_cons (ps_fld (pv 1) (pe_callTy call_list_of (by rfl) T.b_list (by decide +kernel) (pa_cons (pe_fld (pv 0) rfl) pa_nil)) rfl)
      (pss_one (ps_ret (pv 1)))))))))), ?_⟩)
  · obtain ⟨a, ld, lt, ls, w, rfl, _⟩ := h
    rfl
  · obtain ⟨a, ld, lt, ls, w, rfl, hW, hf, k⟩ := h
    obtain ⟨dx, vs, hA, hD, hDs, hT, hS, n⟩ := hW
    refine ⟨_, rfl, a, C_World, dx, _, _, rfl, hA, T.cl_World, T.n_World_facts, W_lk_facts, _, rfl, a, C_World, dx, _, _, rfl, hA, T.cl_World, T.n_World_states, W_lk_states, ls, _, rfl, .inl (SqL.of hS), fun x dy nx nd ne => ?_⟩
    refine ⟨x, dy, w.a.m, w.copies.length, ?_, upd_same, hf.m4, hf.c4, fun H1 e1 e2 e3 hW1 b1 f1 f2 f3 => ⟨rfl, ?_⟩⟩
    · show [V.ref x, nV w.a.m, V.int ((nVs w.copies).length : Nat)] = _
      rw [nVs_len]
      rfl
    · have s1 : Same H H1 := fun b o e => b1 b o (by rw [upd_ne (ne_of_none e nx), upd_ne (ne_of_none e nd)]; exact e) (by simpa using ne_of_none e nx)
      obtain ⟨dz, _, hX, _⟩ := hW1
      refine ⟨_, rfl, a, C_World, dx, _, _, rfl, s1 _ _ hA, T.cl_World, T.n_World_rule, W_lk_rule, _, rfl, x, C_World, dz, _, rfl, hX, T.cl_World, T.n_World_rule, W_len, ?_⟩
      rw [W_put_rule]
      have s2 := same_mut (o := HO.ins C_World dz (WL (nV w.a.m) (nV w.a.rule) (.ref e1) (nV 0) (.ref e2) (nV 0) (.ref e3))) s1 nx
      refine ⟨_, rfl, a, C_World, dx, _, _, rfl, s2 _ _ hA, T.cl_World, T.n_World_deeds, W_lk_deeds, ld, vs, rfl, .inl (SqL.of (s2 _ _ hD)), fun l1 g1 => ⟨_, rfl, x, C_World, dz, _, rfl, (upd_ne (upd_free.mp g1).1.symm).trans upd_same, T.cl_World, T.n_World_deeds, W_len, ?_⟩⟩
      rw [W_put_deeds]
      have s3 := same_mut (o := HO.ins C_World dz (WL (nV w.a.m) (nV w.a.rule) (.ref l1) (nV 0) (.ref e2) (nV 0) (.ref e3))) (s2.trans (same_new (o := HO.lst vs) g1)) nx
      refine ⟨_, rfl, a, C_World, dx, _, _, rfl, s3 _ _ hA, T.cl_World, T.n_World_allowed, W_lk_allowed, _, rfl, x, C_World, dz, _, rfl, upd_same, T.cl_World, T.n_World_allowed, W_len, ?_⟩
      rw [W_put_allowed]
      have s4 := same_mut (o := HO.ins C_World dz (WL (nV w.a.m) (nV w.a.rule) (.ref l1) (nV w.allowed) (.ref e2) (nV 0) (.ref e3))) s3 nx
      refine ⟨_, rfl, a, C_World, dx, _, _, rfl, s4 _ _ hA, T.cl_World, T.n_World_told, W_lk_told, lt, _, rfl, .inl (SqL.of (s4 _ _ hT)), fun l2 g2 => ⟨_, rfl, x, C_World, dz, _, rfl, (upd_ne (upd_free.mp g2).1.symm).trans upd_same, T.cl_World, T.n_World_told, W_len, ?_⟩⟩
      rw [W_put_told]
      have s5 := same_mut (o := HO.ins C_World dz (WL (nV w.a.m) (nV w.a.rule) (.ref l1) (nV w.allowed) (.ref l2) (nV 0) (.ref e3))) (s4.trans (same_new (o := HO.lst (nVs w.answers)) g2)) nx
      refine ⟨_, rfl, a, C_World, dx, _, _, rfl, s5 _ _ hA, T.cl_World, T.n_World_common, W_lk_common, _, rfl, x, C_World, dz, _, rfl, upd_same, T.cl_World, T.n_World_common, W_len, ?_⟩
      rw [W_put_common]
      have s6 := same_mut (o := HO.ins C_World dz (WL (nV w.a.m) (nV w.a.rule) (.ref l1) (nV w.allowed) (.ref l2) (nV w.common) (.ref e3))) s5 nx
      refine ⟨_, rfl, a, C_World, dx, _, _, rfl, s6 _ _ hA, T.cl_World, T.n_World_states, W_lk_states, ls, _, rfl, .inl (SqL.of (s6 _ _ hS)), fun l3 g3 => ⟨_, rfl, x, C_World, dz, _, rfl, (upd_ne (upd_free.mp g3).1.symm).trans upd_same, T.cl_World, T.n_World_states, W_len, ?_⟩⟩
      rw [W_put_states]
      have s7 := same_mut (o := HO.ins C_World dz (WL (nV w.a.m) (nV w.a.rule) (.ref l1) (nV w.allowed) (.ref l2) (nV w.common) (.ref l3))) (s6.trans (same_new (o := HO.lst (nVs w.copies)) g3)) nx
      have F1 : H l1 = none := s2.free g1
      have F2 : H l2 = none := s4.free g2
      have F3 : H l3 = none := s6.free g3
      simp only [upd_free] at g1 g2 g3
      obtain ⟨l1x, _⟩ := g1
      obtain ⟨l2x, _, l2l1, _⟩ := g2
      obtain ⟨l3x, _, l3l2, _, _, l3l1, _⟩ := g3
      refine ⟨_, rfl, k _ x l1 l2 l3 s7 ⟨dz, vs, upd_same, ?_, hDs.mono s7, ?_, ?_, l2l1.symm, l3l1.symm, l3l2.symm⟩ nx F1 F2 F3⟩
      · rw [upd_ne l1x, upd_ne l3l1.symm, upd_ne l1x, upd_ne l1x, upd_ne l2l1.symm, upd_ne l1x, upd_ne l1x, upd_same]
      · rw [upd_ne l2x, upd_ne l3l2.symm, upd_ne l2x, upd_ne l2x, upd_same]
      · rw [upd_ne l3x, upd_same]
theorem ok_straying (T : Txt K mg C_Deed C_World C_History Z_SIZES) : Can P w K mg base 1 "straying" (sp_straying C_Deed C_World) := by
  refine T.d_straying.ok sc_straying (fun vs H Q E h => ?_) (fun f cdv A outer s H vs Q E hr h => ⟨_, (pss_one (ps_ret (pe_lc (own := [("copy", 1), ("state", 2)]) (g := gTup K 2 (gCons (gName 1) (gCons (gName 2) gNil))) (tt := (tTest (tOp rNe (tVar 2) (tFld K (tVar 0) "common")))) (te := (tVar 1)) rfl sc_straying.nd (pi_enum (by rfl) T.b_enumerate (pa_cons (pe_fld (pv 0) rfl) pa_nil)) (blkOk_by (own := [("copy", 1), ("state", 2)]) (N := N_straying) (sc := defScope s_straying) (by decide +kernel)) (fun _ _ _ _ _ => by exact (pg_tup rfl (pgs_cons (pg_name (i := 1) sc_straying.nd rfl (Or.inl rfl)) (pgs_cons (pg_name (i := 2) sc_straying.nd rfl (Or.inl rfl)) pgs_nil)))) (fun _ _ _ _ _ => by exact (pts_one (pt_cmpR op_ne (pv 2) (pe_fld (pv 0) rfl) (nomark _)))) (fun _ _ _ _ _ => by exact (pv 1))))), ?_⟩)
  · obtain ⟨a, ld, lt, ls, w, rfl, _⟩ := h
    rfl
  · obtain ⟨a, ld, lt, ls, w, rfl, hW, hf, k⟩ := h
    obtain ⟨dx, vs, hA, hD, hDs, hT, hS, n⟩ := hW
    refine ⟨_, rfl, a, C_World, dx, _, _, rfl, hA, T.cl_World, T.n_World_states, W_lk_states, ls, _, rfl, SqL.of hS, fun D hD => lc_it (walk_enum (K := K) (a := ls) (xs := nVs w.copies)) (fun i H' => Same H H' ∧ H' D = some (.lst (nVs ((List.range i).filter fun c => w.copies.getD c 0 != w.common))))
      ⟨same_new hD, upd_same⟩ (fun i H' _ ⟨s1, _⟩ => SqL.of (s1 _ _ hS)) ?_ ?_⟩
    · rintro i x H1 H2 hi ⟨s1, h1⟩ ⟨t, u, v, rfl, ht, rfl, e1, e2⟩
      cases e1
      obtain ⟨x, hx, rfl⟩ := nVs_get e2
      have ti : D ≠ t := ne_of_none h1 ht
      have s2 := s1.trans (same_new (o := HO.tup [V.int (i : Nat), nV x]) ht)
      have h2 : upd H1 t (HO.tup [V.int (i : Nat), nV x]) D = _ := (upd_ne ti).trans h1
      have gx : w.copies.getD i 0 = x := by
        rw [List.getD_eq_getElem?_getD, hx]
        rfl
      refine ⟨t, _, rfl, SqT.of upd_same, rfl, _, _, rfl, _, _, rfl, rfl, rfl, _, rfl, _, rfl, a, C_World, dx, _, _, rfl, s2 _ _ hA, T.cl_World, T.n_World_common, W_lk_common, rfl, _, rfl, ?_⟩
      show if (!decide (V.int (x : Int) = V.int (w.common : Int))) = true then _ else _
      rw [i_eq]
      refine if_both (fun c => ?_) (fun c => ?_)
      · refine ⟨_, rfl, _, h2, ?_, same_mut s2 hD, ?_⟩
        · rw [nVs_len]
          refine sz64 (Nat.le_trans (List.length_filter_le _ _) ?_)
          rw [List.length_range]
          rw [nVs_len] at hi
          have := hf.c4
          omega
        · rw [upd_same, filt_yes (p := fun c => w.copies.getD c 0 != w.common) (by show (w.copies.getD i 0 != w.common) = true; rw [gx]; simpa using c), nVs_snoc]
          rfl
      · refine ⟨s2, h2.trans ?_⟩
        rw [filt_no (p := fun c => w.copies.getD c 0 != w.common) (by show (w.copies.getD i 0 != w.common) = false; rw [gx]; simpa using c)]
    · rintro H1 ⟨s1, h1⟩
      rw [nVs_len] at h1
      exact k H1 D s1 hD h1
theorem ok_are_together (T : Txt K mg C_Deed C_World C_History Z_SIZES) : Can P w K mg base 2 "are_together" (sp_are_together C_Deed C_World) := by
  refine T.d_are_together.ok sc_are_together (fun vs H Q E h => ?_) (fun f cdv A outer s H vs Q E hr h => ⟨_, (pss_one (ps_ret (pe_cmpR (op_eqNil (Nat.lt_of_succ_lt (hu_of hr))) (pe_can (ok_straying T) hr (by decide) rfl (pa_cons (pv 0) pa_nil)) (pe_lst pa_nil) (nomark _)))), ?_⟩)
  · obtain ⟨a, ld, lt, ls, w, rfl, _⟩ := h
    rfl
  · obtain ⟨a, ld, lt, ls, w, rfl, hW, hf, k⟩ := h
    refine ⟨_, rfl, a, ld, lt, ls, w, rfl, hW, hf, fun H1 p s1 fp hp => ⟨Nat.zero_le _, fun e he => ⟨p, e, _, rfl, rfl, (upd_ne (ne_of_none hp he)).trans hp, upd_same, ?_⟩⟩⟩
    rw [strays_nil]
    exact k _ (s1.trans (same_new he))
theorem ok_lies_ahead (T : Txt K mg C_Deed C_World C_History Z_SIZES) : Can P w K mg base 2 "lies_ahead" (sp_lies_ahead C_Deed C_World) := by
  refine T.d_lies_ahead.ok sc_lies_ahead (fun vs H Q E h => ?_) (fun f cdv A outer s H vs Q E hr h => ⟨_, (pss_one (ps_ret (pe_can (ok_put_together T) hr (by decide) rfl (pa_cons (pe_fld (pv 0) rfl) (pa_cons (pe_fld (pv 0) rfl) pa_nil))))), ?_⟩)
  · obtain ⟨a, ld, lt, ls, w, rfl, _⟩ := h
    rfl
  · obtain ⟨a, ld, lt, ls, w, rfl, hW, hf, k⟩ := h
    obtain ⟨dx, vs, hA, hD, hDs, hT, hS, n⟩ := hW
    refine ⟨_, rfl, a, C_World, dx, _, _, rfl, hA, T.cl_World, T.n_World_common, W_lk_common, _, rfl, a, C_World, dx, _, _, rfl, hA, T.cl_World, T.n_World_states, W_lk_states, w.common, ls, w.copies, rfl, SqL.of hS, ?_⟩
    rw [ahead_eq hf]
    exact k
theorem ok_make_common (T : Txt K mg C_Deed C_World C_History Z_SIZES) : Can P w K mg base 1 "make_common" (sp_make_common C_Deed C_World) := by
  refine T.d_make_common.ok sc_make_common (fun vs H Q E h => ?_) (fun f cdv A outer s H vs Q E hr h => ⟨_, (pss_cons (ps_fld (pv 0) (pv 1) rfl)
      (pss_one (ps_fld (pv 0) (pe_op op_rep (pe_lst (pa_cons (pv 1) pa_nil)) (pe_callB call_len_seq (by rfl) T.b_len PySem.boot_len (pa_cons (pe_fld (pv 0) rfl) pa_nil))) rfl))), ?_⟩)
  · obtain ⟨a, ld, lt, ls, s, w, rfl, _⟩ := h
    rfl
  · obtain ⟨a, ld, lt, ls, s, w, rfl, hW, hf, k⟩ := h
    obtain ⟨dx, vs, hA, hD, hDs, hT, hS, n⟩ := hW
    refine ⟨_, rfl, _, rfl, a, C_World, dx, _, rfl, hA, T.cl_World, T.n_World_common, W_len, ?_⟩
    rw [W_put_common]
    have al : ∀ {b : Addr} {xs : List V}, H b = some (.lst xs) → b ≠ a := fun e z => by
      rw [z, hA] at e
      cases e
    refine ⟨_, rfl, (by show 1 ≤ sizeLine; decide), fun t g1 => ?_⟩
    have ta := (upd_free.mp g1).1
    refine ⟨_, rfl, a, C_World, dx, _, _, rfl, (upd_ne ta.symm).trans upd_same, T.cl_World, T.n_World_states, W_lk_states, ls, nVs w.copies, rfl, .inl (SqL.of ?_), t, _, _, rfl, rfl, upd_same, ?_, ?_, ?_, fun l g2 => ?_⟩
    · rw [upd_ne (ne_of_none hS (upd_free.mp g1).2), upd_ne (al hS)]
      exact hS
    · omega
    · rw [nVs_len]
      have := hf.c4
      omega
    · rw [nVs_len, Int.toNat_natCast]
      show 1 * w.copies.length ≤ sizeLine
      have := hf.c4
      exact Nat.le_trans (by omega : 1 * w.copies.length ≤ 4) (by decide)
    · simp only [upd_free] at g1 g2
      obtain ⟨_, ft⟩ := g1
      obtain ⟨lt1, la, fl⟩ := g2
      refine ⟨_, rfl, a, C_World, dx, _, rfl, (upd_ne la.symm).trans ((upd_ne ta.symm).trans upd_same), T.cl_World, T.n_World_states, W_len, ?_⟩
      rw [W_put_states]
      have ma : a ∈ [a] := List.mem_singleton_self a
      have bb := ((((But.refl H [a]).set (o := HO.ins C_World dx (WL (nV w.a.m) (nV w.a.rule) (.ref ld) (nV w.allowed) (.ref lt) (nV s) (.ref ls))) ma).new (o := HO.lst [nV s]) ft).new (o := HO.lst (List.replicate (((nVs w.copies).length : Nat) : Int).toNat [nV s]).flatten) fl).set (o := HO.ins C_World dx (WL (nV w.a.m) (nV w.a.rule) (.ref ld) (nV w.allowed) (.ref lt) (nV s) (.ref l))) ma
      refine k _ l ⟨dx, vs, upd_same, bb _ _ hD (by simpa using al hD), DsAt.but hDs bb ?_, bb _ _ hT (by simpa using al hT), ?_, n.1, ne_of_none hD fl, ne_of_none hT fl⟩ bb fl
      · intro b d hb
        simp only [List.mem_singleton]
        rintro rfl
        exact deed_world hb hA
      · rw [upd_ne la, upd_same, nVs_len, Int.toNat_natCast, flat_rep]
        exact congrArg (fun q => some (HO.lst q)) (nVs_rep _ s).symm
theorem ok_reached_from (T : Txt K mg C_Deed C_World C_History Z_SIZES) : Can P w K mg base 4 "reached_from" (sp_reached_from C_Deed C_World) := by
  refine T.d_reached_from.ok sc_reached_from (fun vs H Q E h => ?_) (fun f cdv A outer s H vs Q E hr h => ⟨_, (pss_one (ps_ret (pe_can (ok_may_come_to T) hr (by decide) rfl (pa_cons (pe_fld (pv 0) rfl) (pa_cons (pe_can (ok_chosen_of T) hr (by decide) rfl (pa_cons (pe_fld (pv 0) rfl) (pa_cons (pe_fld (pv 0) rfl) pa_nil))) (pa_cons (pv 1) pa_nil)))))), ?_⟩)
  · obtain ⟨a, ld, lt, ls, w, x, rfl, _⟩ := h
    rfl
  · obtain ⟨a, ld, lt, ls, w, x, rfl, hW, hf, hx, k⟩ := h
    obtain ⟨dx, vs, hA, hD, hDs, hT, hS, n⟩ := hW
    refine ⟨_, rfl, a, C_World, dx, _, _, rfl, hA, T.cl_World, T.n_World_rule, W_lk_rule, _, rfl, a, C_World, dx, _, _, rfl, hA, T.cl_World, T.n_World_deeds, W_lk_deeds, _, rfl, a, C_World, dx, _, _, rfl, hA, T.cl_World, T.n_World_allowed, W_lk_allowed, w.allowed, ld, vs, rfl, SqL.of hD, ?_, fun H1 D s1 fD hD1 => ?_⟩
    · rw [hDs.len]
      have := hf.dl
      omega
    · refine ⟨_, rfl, w.a.rule, x, w.a.m, D, fil w.allowed vs, fil w.allowed w.a.deeds, rfl, SqL.of hD1, (hDs.mono s1).filt w.allowed, fun d hd => hf.dk d (fil_sub hd), hx, hf.m4, fun H2 p s2 fp hp => ?_⟩
      rw [only_eq] at k
      exact k H2 p (s1.trans s2) (s1.free fp) hp
theorem ok_may_come_of (T : Txt K mg C_Deed C_World C_History Z_SIZES) : Can P w K mg base 5 "may_come_of" (sp_may_come_of C_Deed C_World) := by
  refine T.d_may_come_of.ok sc_may_come_of (fun vs H Q E h => ?_) (fun f cdv A outer s H vs Q E hr h => ⟨_, (pss_cons (ps_set (i := 2) sc_may_come_of.nd rfl (Or.inl rfl) (pe_op op_rep (pe_lst (pa_cons (pe_can (ok_reached_from T) hr (by decide) rfl (pa_cons (pv 0) (pa_cons (pe_fld (pv 0) rfl) pa_nil))) pa_nil)) (pe_op op_sub (pe_callB call_len_seq (by rfl) T.b_len PySem.boot_len (pa_cons (pe_fld (pv 0) rfl) pa_nil)) pe_int)))
      (pss_one (ps_ret (pe_can (ok_come_together T) hr (by decide) rfl (pa_cons (pe_fld (pv 0) rfl) (pa_cons (pe_op op_cat (pe_lst (pa_cons (pe_lst (pa_cons (pe_ix ix_list (pe_fld (pv 0) rfl) (pv 1) (fun _ _ => rfl)) pa_nil)) pa_nil)) (pv 2)) pa_nil)))))), ?_⟩)
  · obtain ⟨a, ld, lt, ls, w, c, x, rfl, _⟩ := h
    rfl
  · obtain ⟨a, ld, lt, ls, w, c, x, rfl, hW, hf, hx, k⟩ := h
    obtain ⟨dx, vs, hA, hD, hDs, hT, hS, n⟩ := id hW
    have e16 := pow16 hf.m4
    have c2 := hf.c2
    have c4 := hf.c4
    have lx : x < 2 ^ w.a.m := hf.cs x (List.mem_of_getElem? hx)
    have rlt : ∀ y, y ∈ Kh411.reach (Kh411.only w.a w.allowed) w.common → y < 2 ^ w.a.m := fun y hy => reach_lt (a := Kh411.only w.a w.allowed) hf.cm ((mem_reach (a := Kh411.only w.a w.allowed) hf.cm).mp hy)
    have rlen : (Kh411.reach (Kh411.only w.a w.allowed) w.common).length ≤ 16 := Nat.le_trans (sorted_len (reach_sorted _ _) rlt) e16
    have cnt : (((nVs w.copies).length : Nat) : Int) - 1 = ((w.copies.length - 1 : Nat) : Int) := by
      rw [nVs_len]
      omega
    refine ⟨_, rfl, _, rfl, a, C_World, dx, _, _, rfl, hA, T.cl_World, T.n_World_common, W_lk_common, a, ld, lt, ls, w, w.common, rfl, hW, hf, hf.cm, fun H1 R s1 fR hR => ?_⟩
    refine ⟨(by show 1 ≤ sizeLine; decide), fun t ht => ?_⟩
    have s2 := s1.trans (same_new (o := HO.lst [V.ref R]) ht)
    have hR2 := (same_new (o := HO.lst [V.ref R]) ht) _ _ hR
    refine ⟨_, rfl, a, C_World, dx, _, _, rfl, s2 _ _ hA, T.cl_World, T.n_World_states, W_lk_states, ls, _, rfl, .inl (SqL.of (s2 _ _ hS)), _, _, rfl, rfl, t, _, _, rfl, rfl, upd_same, ?_, ?_, ?_, fun o ho => ?_⟩
    · omega
    · rw [cnt]
      omega
    · rw [cnt, Int.toNat_natCast]
      exact Nat.le_trans (show 1 * (w.copies.length - 1) ≤ 4 by omega) (by decide)
    · have s3 := s2.trans (same_new (o := HO.lst (List.replicate ((((nVs w.copies).length : Nat) : Int) - 1).toNat [V.ref R]).flatten) ho)
      have hO : upd (upd H1 t (HO.lst [V.ref R])) o (HO.lst (List.replicate ((((nVs w.copies).length : Nat) : Int) - 1).toNat [V.ref R]).flatten) o = some (HO.lst (List.replicate (w.copies.length - 1) (V.ref R))) := by
        rw [upd_same, cnt, Int.toNat_natCast, flat_rep]
      have hR3 := (same_new (o := HO.lst (List.replicate ((((nVs w.copies).length : Nat) : Int) - 1).toNat [V.ref R]).flatten) ho) _ _ hR2
      refine ⟨_, rfl, a, C_World, dx, _, _, rfl, s3 _ _ hA, T.cl_World, T.n_World_common, W_lk_common, _, rfl, a, C_World, dx, _, _, rfl, s3 _ _ hA, T.cl_World, T.n_World_states, W_lk_states, _, rfl, ls, _, _, _, rfl, rfl, SqL.of (s3 _ _ hS), nVs_at hx, (by show 1 ≤ sizeLine; decide), fun i hi => ?_⟩
      have s4 := s3.trans (same_new (o := HO.lst [nV x]) hi)
      refine ⟨(by show 1 ≤ sizeLine; decide), fun j hj => ?_⟩
      have s5 := s4.trans (same_new (o := HO.lst [V.ref i]) hj)
      have s35 := (same_new (o := HO.lst [nV x]) hi).trans (same_new (o := HO.lst [V.ref i]) hj)
      refine ⟨_, rfl, j, o, [V.ref i], List.replicate (w.copies.length - 1) (V.ref R), rfl, rfl, upd_same, s35 _ _ hO, ?_, fun q hq => ?_⟩
      · rw [List.length_replicate]
        exact Nat.le_trans (show 1 + (w.copies.length - 1) ≤ 4 by omega) (by decide)
      · have s57 := same_new (o := HO.lst ([V.ref i] ++ List.replicate (w.copies.length - 1) (V.ref R))) hq
        have s7 := s5.trans s57
        have hI := s57 _ _ ((same_new (o := HO.lst [V.ref i]) hj) _ _ (upd_same (a := i) (o := HO.lst [nV x])))
        refine ⟨w.common, w.a.m, q, _, [x] :: List.replicate (w.copies.length - 1) (Kh411.reach (Kh411.only w.a w.allowed) w.common), rfl, SqL.of upd_same, .cons hI (LsAt.rep (s57 _ _ (s35 _ _ hR3)) _), hf.cm, hf.m4, fun l ml => ?_, fun l so mem H2 p s8 fp hp => ?_⟩
        · rcases List.mem_cons.mp ml with z | z
          · subst z
            exact ⟨(by show 1 ≤ 16; decide), fun y hy => by rw [List.mem_singleton.mp hy]; exact lx⟩
          · rw [List.eq_of_mem_replicate z]
            exact ⟨rlen, rlt⟩
        · exact k l so (fun t => (mem t).trans (mix_may hf hx)) H2 p (s7.trans s8) (s7.free fp) hp
end
end Na

set_option Elab.async false
set_option maxRecDepth 100000
set_option maxHeartbeats 4000000
namespace Na
open PySem PySem.Spec PyProof.Rows L2
open Kh413 (say does atOnce set1 given)
/-- the world at a is w' now; its lists are those it had, or new -/
def After (CD CW : Addr) (H H' : Hp) (a ld lt ls : Addr) (w' : Kh413.Work) : Prop :=
  ∃ ld' lt' ls', WorldAt CD CW H' a ld' lt' ls' w' ∧ (ld' = ld ∨ H ld' = none) ∧ (lt' = lt ∨ H lt' = none) ∧ (ls' = ls ∨ H ls' = none)
def Changes (CD CW : Addr) (H : Hp) (Q : VK) (a ld lt ls : Addr) (r : Kh413.Work × Kh413.Ans) : Prop :=
  ∀ H', But H H' [a, ld, lt, ls] → (0 ≤ r.2.ret → After CD CW H H' a ld lt ls r.1) → Q (.int r.2.ret) H'
theorem Changes.no {CD CW : Addr} {H H' : Hp} {Q : VK} {a ld lt ls : Addr} {r : Kh413.Work × Kh413.Ans} {w : Kh413.Work} {z : Int} (k : Changes CD CW H Q a ld lt ls r) (e : r = (w, say z)) (hz : z < 0) (b : But H H' [a, ld, lt, ls]) : Q (.int z) H' := by
  subst e
  exact k H' b fun q => absurd q (Int.not_le.mpr hz)
theorem Changes.yes {CD CW : Addr} {H H' : Hp} {Q : VK} {a ld lt ls : Addr} {r : Kh413.Work × Kh413.Ans} {w : Kh413.Work} {z : Int} (k : Changes CD CW H Q a ld lt ls r) (e : r = (w, say z)) (b : But H H' [a, ld, lt, ls]) (f : After CD CW H H' a ld lt ls w) : Q (.int z) H' := by
  subst e
  exact k H' b fun _ => f
theorem lst_ne {CW dx a b : Addr} {H : Hp} {fs : List (Str × V)} {xs : List V} (hA : H a = some (.ins CW dx fs)) (e : H b = some (.lst xs)) : b ≠ a := fun z => by
  rw [z, hA] at e
  cases e
theorem deed_lst {CD a : Addr} {H : Hp} {d : Kh411.Deed} {xs : List V} (h : DeedAt CD H a d) (e : H a = some (.lst xs)) : False := by
  obtain ⟨dy, q⟩ := h
  rw [q] at e
  cases e
/-- the world's own numbers are stored -/
theorem world_put {CD CW dx a ld lt ls : Addr} {H : Hp} {w w' : Kh413.Work} {vs : List V} {v0 v1 v2 v3 v4 v5 v6 : V} (hA : H a = some (.ins CW dx (WL v0 v1 v2 v3 v4 v5 v6))) (hD : H ld = some (.lst vs)) (hDs : DsAt CD H vs w.a.deeds)
    (hT : H lt = some (.lst (nVs w.answers))) (hS : H ls = some (.lst (nVs w.copies))) (n : ld ≠ lt ∧ ld ≠ ls ∧ lt ≠ ls) (e1 : w'.a.deeds = w.a.deeds) (e2 : w'.answers = w.answers) (e3 : w'.copies = w.copies) :
    WorldAt CD CW (upd H a (.ins CW dx (WL (nV w'.a.m) (nV w'.a.rule) (.ref ld) (nV w'.allowed) (.ref lt) (nV w'.common) (.ref ls)))) a ld lt ls w' := by
  refine ⟨dx, vs, upd_same, (upd_ne (lst_ne hA hD)).trans hD, ?_, ?_, ?_, n⟩
  · rw [e1]
    exact hDs.but ((But.refl H [a]).set (List.mem_singleton_self a)) fun b d hb => by
      simp only [List.mem_singleton]
      rintro rfl
      exact deed_world hb hA
  · rw [e2]
    exact (upd_ne (lst_ne hA hT)).trans hT
  · rw [e3]
    exact (upd_ne (lst_ne hA hS)).trans hS
def sp_come_of (CD CW : Addr) : Sp := fun vs H Q _ => ∃ (a ld lt ls : Addr) (w : Kh413.Work) (i s : Nat) (d : Kh411.Deed), vs = [.ref a, nV i, nV s] ∧ WorldAt CD CW H a ld lt ls w ∧ WF w ∧ w.a.deeds[i]? = some d ∧ Gives H Q (.int (comes w d s))
def sp_come_of_doing (CD CW : Addr) : Sp := fun vs H Q _ => ∃ (a ld lt ls : Addr) (w : Kh413.Work) (c i : Nat), vs = [.ref a, nV c, nV i] ∧ WorldAt CD CW H a ld lt ls w ∧ WF w ∧ Gives H Q (.int (doRet w c i))
def sp_come_of_asking (CD CW : Addr) : Sp := fun vs H Q _ => ∃ (a ld lt ls : Addr) (w : Kh413.Work) (i : Nat), vs = [.ref a, nV i] ∧ WorldAt CD CW H a ld lt ls w ∧ WF w ∧ Gives H Q (.int (askRet w i))
def sp_do_deed (CD CW : Addr) : Sp := fun vs H Q _ => ∃ (a ld lt ls : Addr) (w : Kh413.Work) (c i : Nat), vs = [.ref a, nV c, nV i] ∧ WorldAt CD CW H a ld lt ls w ∧ WF w ∧ Changes CD CW H Q a ld lt ls (does w (.do_ c i))
def sp_ask_deed (CD CW : Addr) : Sp := fun vs H Q _ => ∃ (a ld lt ls : Addr) (w : Kh413.Work) (i : Nat), vs = [.ref a, nV i] ∧ WorldAt CD CW H a ld lt ls w ∧ WF w ∧ Changes CD CW H Q a ld lt ls (does w (.ask i))
def sp_gather (CD CW : Addr) : Sp := fun vs H Q _ => ∃ (a ld lt ls : Addr) (w : Kh413.Work), vs = [.ref a] ∧ WorldAt CD CW H a ld lt ls w ∧ WF w ∧ Changes CD CW H Q a ld lt ls (does w .gather)
def sp_tell_rule (CD CW : Addr) : Sp := fun vs H Q _ => ∃ (a ld lt ls : Addr) (w : Kh413.Work) (r : Nat), vs = [.ref a, nV r] ∧ WorldAt CD CW H a ld lt ls w ∧ WF w ∧ Changes CD CW H Q a ld lt ls (does w (.rule r))
def sp_tell_deed (CD CW : Addr) : Sp := fun vs H Q _ => ∃ (a ld lt ls p : Addr) (w : Kh413.Work) (d : Kh411.Deed), vs = [.ref a, .ref p] ∧ WorldAt CD CW H a ld lt ls w ∧ WF w ∧ DeedAt CD H p d ∧ Changes CD CW H Q a ld lt ls (does w (.deed d.need d.be d.on d.off))
def sp_drop_deed (CD CW : Addr) : Sp := fun vs H Q _ => ∃ (a ld lt ls : Addr) (w : Kh413.Work) (i : Nat), vs = [.ref a, nV i] ∧ i < 2 ^ 31 ∧ WorldAt CD CW H a ld lt ls w ∧ WF w ∧ Changes CD CW H Q a ld lt ls (does w (.drop i))
def sp_allow_deeds (CD CW : Addr) : Sp := fun vs H Q _ => ∃ (a ld lt ls : Addr) (w : Kh413.Work) (x : Nat), vs = [.ref a, nV x] ∧ WorldAt CD CW H a ld lt ls w ∧ WF w ∧ Changes CD CW H Q a ld lt ls (does w (.allow x))
def sp_set_state (CD CW : Addr) : Sp := fun vs H Q _ => ∃ (a ld lt ls : Addr) (w : Kh413.Work) (s : Nat), vs = [.ref a, nV s] ∧ WorldAt CD CW H a ld lt ls w ∧ WF w ∧ Changes CD CW H Q a ld lt ls (does w (.set s))
def sp_tell_answer (CD CW : Addr) : Sp := fun vs H Q _ => ∃ (a ld lt ls : Addr) (w : Kh413.Work) (s v : Nat), vs = [.ref a, nV s, nV v] ∧ WorldAt CD CW H a ld lt ls w ∧ WF w ∧ Changes CD CW H Q a ld lt ls (does w (.answer s v))
theorem comes_case {w : Kh413.Work} {d : Kh411.Deed} {s : Nat} : comes w d s < 0 ∨ comes w d s = (out d s : Int) := by
  unfold comes
  split
  · exact .inl (by decide)
  · split
    · exact .inl (by decide)
    · exact .inr rfl
theorem DsAt.snoc {CD : Addr} {H : Hp} {vs : List V} {ds : List Kh411.Deed} {p : Addr} {d : Kh411.Deed} (h : DsAt CD H vs ds) (hp : DeedAt CD H p d) : DsAt CD H (vs ++ [V.ref p]) (ds ++ [d]) := by
  induction h with
  | nil => exact .cons hp .nil
  | cons a _ ih => exact .cons a ih
theorem DsAt.erase {CD : Addr} {H : Hp} {vs : List V} {ds : List Kh411.Deed} (h : DsAt CD H vs ds) : ∀ i, DsAt CD H (vs.eraseIdx i) (ds.eraseIdx i) := by
  induction h with
  | nil =>
    intro i
    exact .nil
  | cons a t ih =>
    intro i
    cases i with
    | zero => exact t
    | succ i => exact .cons a (ih i)
theorem seqIx {n i : Nat} (h : i < n) : seqIndex? (i : Int) n = some i := (ixN_seq (Evl.ixN_nat h)).1
section
variable {P : Program} {w : World} {K : PySem.W.Frag} {mg : Str → Option Value} {base : Heap} {C_Deed C_World C_History Z_SIZES : Addr}
theorem ok_come_of (T : Txt K mg C_Deed C_World C_History Z_SIZES) : Can P w K mg base 2 "come_of" (sp_come_of C_Deed C_World) := by
  refine T.d_come_of.ok sc_come_of (fun vs H Q E h => ?_) (fun f cdv A outer s H vs Q E hr h => ⟨_, (pss_cons (ps_set (i := 3) sc_come_of.nd rfl (Or.inl rfl) (pe_ix ix_list (pe_fld (pv 0) rfl) (pv 1) (fun _ _ => rfl)))
      (pss_cons (ps_if (pt_not (pt_val (pe_can (ok_is_ready T) hr (by decide) rfl (pa_cons (pv 3) (pa_cons (pv 2) pa_nil)))))
      (pss_one (ps_ret (pe_con T.c_NEED_NOT_SO rfl)))
      pss_nil)
      (pss_cons (ps_set (i := 4) sc_come_of.nd rfl (Or.inl rfl) (pe_can (ok_outcome T) hr (by decide) rfl (pa_cons (pv 3) (pa_cons (pv 2) pa_nil))))
      (pss_cons (ps_if (pt_not (pt_val (pe_can (ok_has T) hr (by decide) rfl (pa_cons (pe_fld (pv 0) rfl) (pa_cons (pv 4) pa_nil)))))
      (pss_one (ps_ret (pe_con T.c_NOT_LET rfl)))
      pss_nil)
      (pss_one (ps_ret (pv 4))))))), ?_⟩)
  · obtain ⟨a, ld, lt, ls, w, i, s, d, rfl, _⟩ := h
    rfl
  · obtain ⟨a, ld, lt, ls, w, i, s, d, rfl, hW, hf, hd, k⟩ := h
    obtain ⟨dx, vs, hA, hD, hDs, hT, hS, n⟩ := hW
    obtain ⟨ad, hi, had⟩ := hDs.get hd
    refine ⟨_, rfl, a, C_World, dx, _, _, rfl, hA, T.cl_World, T.n_World_deeds, W_lk_deeds, _, rfl, ld, _, _, _, rfl, rfl, SqL.of hD, atI_nat hi, ?_⟩
    refine ⟨_, rfl, _, rfl, ad, d, s, rfl, had, fun H1 s1 => ⟨_, rfl, if_not (fun c1 => ?_) (fun c1 => ?_)⟩⟩
    · have := k H1 s1
      unfold comes at this
      rw [if_pos c1] at this
      exact this
    · refine ⟨_, rfl, _, rfl, ad, d, s, rfl, had.mono s1, fun H2 s2 => ?_⟩
      have s02 := s1.trans s2
      refine ⟨_, rfl, a, C_World, dx, _, _, rfl, s02 _ _ hA, T.cl_World, T.n_World_rule, W_lk_rule, _, rfl, _, _, rfl, fun H3 s3 => ⟨_, rfl, if_not (fun c2 => ?_) (fun c2 => ?_)⟩⟩
      · have := k H3 (s02.trans s3)
        unfold comes at this
        rw [if_neg (by rw [c1]; decide), if_pos c2] at this
        exact this
      · have := k H3 (s02.trans s3)
        unfold comes at this
        rw [if_neg (by rw [c1]; decide), if_neg (by rw [c2]; decide)] at this
        exact ⟨_, rfl, this⟩
theorem ok_come_of_doing (T : Txt K mg C_Deed C_World C_History Z_SIZES) : Can P w K mg base 3 "come_of_doing" (sp_come_of_doing C_Deed C_World) := by
  refine T.d_come_of_doing.ok sc_come_of_doing (fun vs H Q E h => ?_) (fun f cdv A outer s H vs Q E hr h => ⟨_, (pss_cons (ps_if (PW.pt (pw_or (pt_cmpR op_ge (pv 1) (pe_callB call_len_seq (by rfl) T.b_len PySem.boot_len (pa_cons (pe_fld (pv 0) rfl) pa_nil)) (nomark _)) (pw_or1 (pt_cmpR op_ge (pv 2) (pe_callB call_len_seq (by rfl) T.b_len PySem.boot_len (pa_cons (pe_fld (pv 0) rfl) pa_nil)) (nomark _)))))
      (pss_one (ps_ret (pe_con T.c_NONE_SUCH rfl)))
      pss_nil)
      (pss_cons (ps_if (pt_not (pt_val (pe_can (ok_has T) hr (by decide) rfl (pa_cons (pe_fld (pv 0) rfl) (pa_cons (pv 2) pa_nil)))))
      (pss_one (ps_ret (pe_con T.c_NOT_ALLOWED rfl)))
      pss_nil)
      (pss_one (ps_ret (pe_can (ok_come_of T) hr (by decide) rfl (pa_cons (pv 0) (pa_cons (pv 2) (pa_cons (pe_ix ix_list (pe_fld (pv 0) rfl) (pv 1) (fun _ _ => rfl)) pa_nil)))))))), ?_⟩)
  · obtain ⟨a, ld, lt, ls, w, c, i, rfl, _⟩ := h
    rfl
  · obtain ⟨a, ld, lt, ls, w, c, i, rfl, hW, hf, k⟩ := h
    obtain ⟨dx, vs, hA, hD, hDs, hT, hS, n⟩ := id hW
    refine ⟨_, rfl, _, rfl, a, C_World, dx, _, _, rfl, hA, T.cl_World, T.n_World_states, W_lk_states, ls, _, rfl, .inl (SqL.of hS), _, _, rfl, rfl, _, rfl, if_both (fun c1 => if_true_of rfl ?_) (fun c1 => ?_)⟩
    · have q := of_decide_eq_true c1
      rw [nVs_len] at q
      rw [do_no2 (.inl (by omega))] at k
      exact k H (Same.refl H)
    · have q := of_decide_eq_false c1
      rw [nVs_len] at q
      refine ⟨_, rfl, _, rfl, a, C_World, dx, _, _, rfl, hA, T.cl_World, T.n_World_deeds, W_lk_deeds, ld, _, rfl, .inl (SqL.of hD), _, _, rfl, rfl, _, rfl, if_both (fun c2 => ?_) (fun c2 => ?_)⟩
      · have q2 := of_decide_eq_true c2
        rw [hDs.len] at q2
        rw [do_no2 (.inr (by omega))] at k
        exact k H (Same.refl H)
      · have q2 := of_decide_eq_false c2
        rw [hDs.len] at q2
        have hi : i < w.a.deeds.length := by omega
        have hc : c < w.copies.length := by omega
        obtain ⟨d, hd⟩ : ∃ d, w.a.deeds[i]? = some d := ⟨_, List.getElem?_eq_getElem hi⟩
        obtain ⟨x, hx⟩ : ∃ x, w.copies[c]? = some x := ⟨_, List.getElem?_eq_getElem hc⟩
        refine ⟨_, rfl, a, C_World, dx, _, _, rfl, hA, T.cl_World, T.n_World_allowed, W_lk_allowed, _, rfl, _, _, rfl, fun H1 s1 => ⟨_, rfl, if_not (fun c3 => ?_) (fun c3 => ?_)⟩⟩
        · rw [do_no35 hc hd c3] at k
          exact k H1 s1
        · refine ⟨_, rfl, _, rfl, _, rfl, a, C_World, dx, _, _, rfl, s1 _ _ hA, T.cl_World, T.n_World_states, W_lk_states, _, rfl, ls, _, _, _, rfl, rfl, SqL.of (s1 _ _ hS), nVs_at hx, a, ld, lt, ls, w, i, x, d, rfl, hW.mono s1, hf, hd, fun H2 s2 => ?_⟩
          rw [do_comes hf hx hd c3] at k
          exact k H2 (s1.trans s2)
theorem ok_come_of_asking (T : Txt K mg C_Deed C_World C_History Z_SIZES) : Can P w K mg base 3 "come_of_asking" (sp_come_of_asking C_Deed C_World) := by
  refine T.d_come_of_asking.ok sc_come_of_asking (fun vs H Q E h => ?_) (fun f cdv A outer s H vs Q E hr h => ⟨_, (pss_cons (ps_if (pt_cmpR op_ge (pv 1) (pe_callB call_len_seq (by rfl) T.b_len PySem.boot_len (pa_cons (pe_fld (pv 0) rfl) pa_nil)) (nomark _))
      (pss_one (ps_ret (pe_con T.c_NONE_SUCH rfl)))
      pss_nil)
      (pss_one (ps_ret (pe_can (ok_come_of T) hr (by decide) rfl (pa_cons (pv 0) (pa_cons (pv 1) (pa_cons (pe_can (ok_lies_ahead T) hr (by decide) rfl (pa_cons (pv 0) pa_nil)) pa_nil))))))), ?_⟩)
  · obtain ⟨a, ld, lt, ls, w, i, rfl, _⟩ := h
    rfl
  · obtain ⟨a, ld, lt, ls, w, i, rfl, hW, hf, k⟩ := h
    obtain ⟨dx, vs, hA, hD, hDs, hT, hS, n⟩ := id hW
    refine ⟨_, rfl, _, rfl, a, C_World, dx, _, _, rfl, hA, T.cl_World, T.n_World_deeds, W_lk_deeds, ld, _, rfl, .inl (SqL.of hD), _, _, rfl, rfl, _, rfl, if_both (fun c2 => ?_) (fun c2 => ?_)⟩
    · have q2 := of_decide_eq_true c2
      rw [hDs.len] at q2
      rw [ask_no2 (by omega)] at k
      exact k H (Same.refl H)
    · have q2 := of_decide_eq_false c2
      rw [hDs.len] at q2
      have hi : i < w.a.deeds.length := by omega
      obtain ⟨d, hd⟩ : ∃ d, w.a.deeds[i]? = some d := ⟨_, List.getElem?_eq_getElem hi⟩
      refine ⟨_, rfl, _, rfl, _, rfl, a, ld, lt, ls, w, rfl, hW, hf, fun H1 s1 => ⟨a, ld, lt, ls, w, i, Kh413.ahead w, d, rfl, hW.mono s1, hf, hd, fun H2 s2 => ?_⟩⟩
      rw [ask_comes hf hd] at k
      exact k H2 (s1.trans s2)
theorem ok_do_deed (T : Txt K mg C_Deed C_World C_History Z_SIZES) : Can P w K mg base 4 "do_deed" (sp_do_deed C_Deed C_World) := by
  refine T.d_do_deed.ok sc_do_deed (fun vs H Q E h => ?_) (fun f cdv A outer s H vs Q E hr h => ⟨_, (pss_cons (ps_set (i := 3) sc_do_deed.nd rfl (Or.inl rfl) (pe_can (ok_come_of_doing T) hr (by decide) rfl (pa_cons (pv 0) (pa_cons (pv 1) (pa_cons (pv 2) pa_nil)))))
      (pss_cons (ps_if (pt_cmpR op_ge (pv 3) pe_int (nomark _))
      (pss_one (ps_asg (pv 3) (pg_sub (pe_fld (pv 0) rfl) (pv 1) set_list)))
      pss_nil)
      (pss_one (ps_ret (pv 3))))), ?_⟩)
  · obtain ⟨a, ld, lt, ls, w, c, i, rfl, _⟩ := h
    rfl
  · obtain ⟨a, ld, lt, ls, w, c, i, rfl, hW, hf, k⟩ := h
    obtain ⟨dx, vs, hA, hD, hDs, hT, hS, n⟩ := id hW
    refine ⟨_, rfl, _, rfl, _, rfl, a, ld, lt, ls, w, c, i, rfl, hW, hf, fun H2 s02 => ⟨_, rfl, _, _, rfl, rfl, _, rfl, if_both (fun c4 => ?_) (fun c4 => ?_)⟩⟩
    · have q4 : 0 ≤ doRet w c i := of_decide_eq_true c4
      rcases do_cases hf c i with ⟨z, _⟩ | ⟨x, s, hx, ce, go⟩
      · omega
      · have hc := (List.getElem?_eq_some_iff.mp hx).1
        rw [ce]
        refine ⟨_, rfl, _, rfl, a, C_World, dx, _, _, rfl, s02 _ _ hA, T.cl_World, T.n_World_states, W_lk_states, _, rfl, ls, _, _, c, rfl, rfl, s02 _ _ hS, Evl.ixN_nat (by rw [nVs_len]; exact hc), _, rfl, ?_⟩
        refine k.yes go ((But.of_same s02).set (by simp)) ⟨ld, lt, ls, ⟨dx, vs, ?_, ?_, ?_, ?_, ?_, n⟩, .inl rfl, .inl rfl, .inl rfl⟩
        · exact (upd_ne (lst_ne hA hS).symm).trans (s02 _ _ hA)
        · exact (upd_ne n.2.1).trans (s02 _ _ hD)
        · exact (hDs.mono s02).but ((But.refl H2 [ls]).set (List.mem_singleton_self ls)) fun b d hb => by
            simp only [List.mem_singleton]
            rintro rfl
            exact deed_lst hb (s02 _ _ hS)
        · exact (upd_ne n.2.2).trans (s02 _ _ hT)
        · rw [upd_same]
          show some (HO.lst ((List.map nV w.copies).set c (nV s))) = some (HO.lst (List.map nV (w.copies.set c s)))
          rw [List.map_set]
    · have q4 : ¬ 0 ≤ doRet w c i := of_decide_eq_false c4
      rcases do_cases hf c i with ⟨z, go⟩ | ⟨x, s, hx, ce, go⟩
      · exact ⟨_, rfl, k.no go z (But.of_same s02)⟩
      · omega
theorem ok_ask_deed (T : Txt K mg C_Deed C_World C_History Z_SIZES) : Can P w K mg base 4 "ask_deed" (sp_ask_deed C_Deed C_World) := by
  refine T.d_ask_deed.ok sc_ask_deed (fun vs H Q E h => ?_) (fun f cdv A outer s H vs Q E hr h => ⟨_, (pss_cons (ps_set (i := 2) sc_ask_deed.nd rfl (Or.inl rfl) (pe_can (ok_come_of_asking T) hr (by decide) rfl (pa_cons (pv 0) (pa_cons (pv 1) pa_nil))))
      (pss_cons (ps_if (pt_cmpR op_ge (pv 2) pe_int (nomark _))
      (pss_one (ps_expr (pe_can (ok_make_common T) hr (by decide) rfl (pa_cons (pv 0) (pa_cons (pv 2) pa_nil)))))
      pss_nil)
      (pss_one (ps_ret (pv 2))))), ?_⟩)
  · obtain ⟨a, ld, lt, ls, w, i, rfl, _⟩ := h
    rfl
  · obtain ⟨a, ld, lt, ls, w, i, rfl, hW, hf, k⟩ := h
    refine ⟨_, rfl, _, rfl, a, ld, lt, ls, w, i, rfl, hW, hf, fun H2 s02 => ⟨_, rfl, _, _, rfl, rfl, _, rfl, if_both (fun c4 => ?_) (fun c4 => ?_)⟩⟩
    · have q4 : 0 ≤ askRet w i := of_decide_eq_true c4
      rcases ask_cases hf i with ⟨z, _⟩ | ⟨s, ce, go⟩
      · omega
      · rw [ce]
        refine ⟨_, rfl, _, rfl, a, ld, lt, ls, s, w, rfl, hW.mono s02, hf, fun H3 ls' hW3 b3 f3 => ⟨_, rfl, ?_⟩⟩
        refine k.yes go (fun b o e nb => b3 b o (s02 b o e) (fun z => nb ?_)) ⟨ld, lt, ls', hW3, .inl rfl, .inl rfl, .inr (s02.free f3)⟩
        rw [List.mem_singleton.mp z]
        simp
    · have q4 : ¬ 0 ≤ askRet w i := of_decide_eq_false c4
      rcases ask_cases hf i with ⟨z, go⟩ | ⟨s, ce, go⟩
      · exact ⟨_, rfl, k.no go z (But.of_same s02)⟩
      · omega
theorem ok_gather (T : Txt K mg C_Deed C_World C_History Z_SIZES) : Can P w K mg base 3 "gather" (sp_gather C_Deed C_World) := by
  refine T.d_gather.ok sc_gather (fun vs H Q E h => ?_) (fun f cdv A outer s H vs Q E hr h => ⟨_, (pss_cons (ps_expr (pe_can (ok_make_common T) hr (by decide) rfl (pa_cons (pv 0) (pa_cons (pe_can (ok_lies_ahead T) hr (by decide) rfl (pa_cons (pv 0) pa_nil)) pa_nil))))
      (pss_one (ps_ret (pe_fld (pv 0) rfl)))), ?_⟩)
  · obtain ⟨a, ld, lt, ls, w, rfl, _⟩ := h
    rfl
  · obtain ⟨a, ld, lt, ls, w, rfl, hW, hf, k⟩ := h
    refine ⟨_, rfl, _, rfl, a, ld, lt, ls, w, rfl, hW, hf, fun H1 s1 => ⟨a, ld, lt, ls, Kh413.ahead w, w, rfl, hW.mono s1, hf, fun H3 ls' hW3 b3 f3 => ?_⟩⟩
    obtain ⟨dx, vs, hA, hD, hDs, hT, hS, n⟩ := id hW3
    refine ⟨_, rfl, a, C_World, dx, _, _, rfl, hA, T.cl_World, T.n_World_common, W_lk_common, ?_⟩
    refine k.yes gather0 (fun b o e nb => b3 b o (s1 b o e) (fun z => nb ?_)) ⟨ld, lt, ls', hW3, .inl rfl, .inl rfl, .inr (s1.free f3)⟩
    rw [List.mem_singleton.mp z]
    simp
theorem ok_tell_rule (T : Txt K mg C_Deed C_World C_History Z_SIZES) : Can P w K mg base 3 "tell_rule" (sp_tell_rule C_Deed C_World) := by
  refine T.d_tell_rule.ok sc_tell_rule (fun vs H Q E h => ?_) (fun f cdv A outer s H vs Q E hr h => ⟨_, (pss_cons (ps_if (pt_not (pt_val (pe_can (ok_are_together T) hr (by decide) rfl (pa_cons (pv 0) pa_nil))))
      (pss_one (ps_ret (pe_con T.c_NOT_TOGETHER rfl)))
      pss_nil)
      (pss_cons (ps_if (pt_not (pt_val (pe_can (ok_lies_below T) hr (by decide) rfl (pa_cons (pv 1) (pa_cons (pe_op op_shl pe_int (pe_fld (pv 0) rfl)) pa_nil)))))
      (pss_one (ps_ret (pe_con T.c_NOT_AS_TOLD rfl)))
      pss_nil)
      (pss_cons (ps_if (pt_not (pt_val (pe_can (ok_has T) hr (by decide) rfl (pa_cons (pv 1) (pa_cons (pe_fld (pv 0) rfl) pa_nil)))))
      (pss_one (ps_ret (pe_con T.c_NOT_LET rfl)))
      pss_nil)
      (pss_cons (ps_fld (pv 0) (pv 1) rfl)
      (pss_cons (ps_fld (pv 0) pe_int rfl)
      (pss_one (ps_ret pe_int))))))), ?_⟩)
  · obtain ⟨a, ld, lt, ls, w, r, rfl, _⟩ := h
    rfl
  · obtain ⟨a, ld, lt, ls, w, r, rfl, hW, hf, k⟩ := h
    obtain ⟨dx, vs, hA, hD, hDs, hT, hS, n⟩ := id hW
    refine ⟨_, rfl, a, ld, lt, ls, w, rfl, hW, hf, fun H1 s1 => ⟨_, rfl, if_not (fun c1 => ?_) (fun c1 => ?_)⟩⟩
    · exact k.no (rule16 c1) (by decide) (But.of_same s1)
    · refine ⟨_, rfl, _, rfl, a, C_World, dx, _, _, rfl, s1 _ _ hA, T.cl_World, T.n_World_facts, W_lk_facts, _, _, rfl, rfl, ⟨Int.natCast_nonneg _, ?_, by decide⟩, r, 2 ^ w.a.m, ?_, fun H2 s2 => ⟨_, rfl, if_not (fun c2 => ?_) (fun c2 => ?_)⟩⟩
      · have := hf.m4
        omega
      · show [nV r, V.int ((1 : Int) * 2 ^ (w.a.m : Int).toNat)] = _
        rw [one_shl]
        rfl
      · have q := of_decide_eq_false c2
        exact k.no (rule22 c1 (by omega)) (by decide) (But.of_same (s1.trans s2))
      · have q : r < 2 ^ 2 ^ w.a.m := of_decide_eq_true c2
        have s02 := s1.trans s2
        refine ⟨_, rfl, _, rfl, a, C_World, dx, _, _, rfl, s02 _ _ hA, T.cl_World, T.n_World_common, W_lk_common, _, _, rfl, fun H3 s3 => ⟨_, rfl, if_not (fun c3 => ?_) (fun c3 => ?_)⟩⟩
        · exact k.no (rule33 c1 q c3) (by decide) (But.of_same (s02.trans s3))
        · have s03 := s02.trans s3
          refine ⟨_, rfl, _, rfl, a, C_World, dx, _, rfl, s03 _ _ hA, T.cl_World, T.n_World_rule, W_len, ?_⟩
          rw [W_put_rule]
          refine ⟨_, rfl, a, C_World, dx, _, rfl, upd_same, T.cl_World, T.n_World_allowed, W_len, ?_⟩
          rw [W_put_allowed]
          have w1 := world_put (w' := { w with a := { w.a with rule := r } }) (s03 _ _ hA) (s03 _ _ hD) (hDs.mono s03) (s03 _ _ hT) (s03 _ _ hS) n rfl rfl rfl
          obtain ⟨dx', vs', hA', hD', hDs', hT', hS', n'⟩ := w1
          have w2 := world_put (w := { w with a := { w.a with rule := r } }) (w' := { w with a := { w.a with rule := r }, allowed := 0 }) hA' hD' hDs' hT' hS' n rfl rfl rfl
          rw [upd_same] at hA'
          injection hA' with hA'
          injection hA' with _ edx _
          subst edx
          exact k.yes (rule0 c1 q c3) (((But.of_same s03).set (by simp)).set (by simp)) ⟨ld, lt, ls, w2, .inl rfl, .inl rfl, .inl rfl⟩
theorem ok_tell_deed (T : Txt K mg C_Deed C_World C_History Z_SIZES) : Can P w K mg base 3 "tell_deed" (sp_tell_deed C_Deed C_World) := by
  refine T.d_tell_deed.ok sc_tell_deed (fun vs H Q E h => ?_) (fun f cdv A outer s H vs Q E hr h => ⟨_, (pss_cons (ps_if (pt_not (pt_val (pe_can (ok_are_together T) hr (by decide) rfl (pa_cons (pv 0) pa_nil))))
      (pss_one (ps_ret (pe_con T.c_NOT_TOGETHER rfl)))
      pss_nil)
      (pss_cons (ps_if (pt_not (pt_val (pe_can (ok_is_sound T) hr (by decide) rfl (pa_cons (pv 1) (pa_cons (pe_fld (pv 0) rfl) pa_nil)))))
      (pss_one (ps_ret (pe_con T.c_NOT_AS_TOLD rfl)))
      pss_nil)
      (pss_cons (ps_if (pt_cmpR op_eq (pe_callB call_len_seq (by rfl) T.b_len PySem.boot_len (pa_cons (pe_fld (pv 0) rfl) pa_nil)) (pe_con T.c_MOST_DEEDS rfl) (nomark _))
      (pss_one (ps_ret (pe_con T.c_TOO_MANY rfl)))
      pss_nil)
      (pss_cons (ps_expr (pe_bm PySem.F.plainAttrs_list PySem.F.slot_list_append PySem.F.type_list_append mt_append (pe_fld (pv 0) rfl) (pa_cons (pv 1) pa_nil)))
      (pss_cons (ps_fld (pv 0) pe_int rfl)
      (pss_one (ps_ret (pe_op op_sub (pe_callB call_len_seq (by rfl) T.b_len PySem.boot_len (pa_cons (pe_fld (pv 0) rfl) pa_nil)) pe_int)))))))), ?_⟩)
  · obtain ⟨a, ld, lt, ls, p, w, d, rfl, _⟩ := h
    rfl
  · obtain ⟨a, ld, lt, ls, p, w, d, rfl, hW, hf, hp, k⟩ := h
    obtain ⟨dx, vs, hA, hD, hDs, hT, hS, n⟩ := id hW
    refine ⟨_, rfl, a, ld, lt, ls, w, rfl, hW, hf, fun H1 s1 => ⟨_, rfl, if_not (fun c1 => ?_) (fun c1 => ?_)⟩⟩
    · exact k.no (deed16 c1) (by decide) (But.of_same s1)
    · refine ⟨_, rfl, _, rfl, a, C_World, dx, _, _, rfl, s1 _ _ hA, T.cl_World, T.n_World_facts, W_lk_facts, p, d, w.a.m, rfl, hp.mono s1, fun H2 s2 => ⟨_, rfl, if_not (fun c2 => ?_) (fun c2 => ?_)⟩⟩
      · exact k.no (deed22 c1 c2) (by decide) (But.of_same (s1.trans s2))
      · have s02 := s1.trans s2
        refine ⟨_, rfl, a, C_World, dx, _, _, rfl, s02 _ _ hA, T.cl_World, T.n_World_deeds, W_lk_deeds, ld, _, rfl, .inl (SqL.of (s02 _ _ hD)), rfl, _, rfl, ?_⟩
        show if decide (V.int ((vs.length : Nat) : Int) = V.int ((6 : Nat) : Int)) = true then _ else _
        rw [i_eq, hDs.len]
        refine if_both (fun c3 => ?_) (fun c3 => ?_)
        · exact k.no (deed28 c1 c2 (of_decide_eq_true c3)) (by decide) (But.of_same s02)
        · have q3 : w.a.deeds.length ≠ 6 := of_decide_eq_false c3
          refine ⟨_, rfl, a, C_World, dx, _, _, rfl, s02 _ _ hA, T.cl_World, T.n_World_deeds, W_lk_deeds, .inl ⟨rfl, _, SqL.of (s02 _ _ hD)⟩, _, rfl, ld, _, _, rfl, rfl, s02 _ _ hD, ?_, ?_⟩
          · rw [hDs.len]
            have := hf.dl
            exact sz64 (by omega)
          · have al := lst_ne hA hD
            refine ⟨_, rfl, a, C_World, dx, _, rfl, (upd_ne al.symm).trans (s02 _ _ hA), T.cl_World, T.n_World_allowed, W_len, ?_⟩
            rw [W_put_allowed]
            have hDs2 : DsAt C_Deed (upd H2 ld (HO.lst (vs ++ [V.ref p]))) (vs ++ [V.ref p]) (w.a.deeds ++ [d]) := by
              refine DsAt.snoc ((hDs.mono s02).but ((But.refl H2 [ld]).set (List.mem_singleton_self ld)) fun b d hb => ?_) ?_
              · simp only [List.mem_singleton]
                rintro rfl
                exact deed_lst hb (s02 _ _ hD)
              · obtain ⟨dp, ep⟩ := hp.mono s02
                exact ⟨dp, (upd_ne (lst_ne ep (s02 _ _ hD)).symm).trans ep⟩
            have w2 := world_put (CD := C_Deed) (w := { w with a := { w.a with deeds := w.a.deeds ++ [d] } }) (w' := { w with a := { w.a with deeds := w.a.deeds ++ [d] }, allowed := 0 }) ((upd_ne al.symm).trans (s02 _ _ hA)) upd_same hDs2 ((upd_ne n.1.symm).trans (s02 _ _ hT)) ((upd_ne n.2.1.symm).trans (s02 _ _ hS)) n rfl rfl rfl
            refine ⟨_, rfl, a, C_World, dx, _, _, rfl, upd_same, T.cl_World, T.n_World_deeds, W_lk_deeds, ld, _, rfl, .inl (SqL.of ((upd_ne al).trans upd_same)), _, _, rfl, rfl, ?_⟩
            have ez : (((vs ++ [V.ref p]).length : Nat) : Int) - 1 = (w.a.deeds.length : Int) := by
              rw [List.length_append, hDs.len]
              show ((w.a.deeds.length + 1 : Nat) : Int) - 1 = _
              omega
            show Q (V.int ((((vs ++ [V.ref p]).length : Nat) : Int) - 1)) _
            rw [ez]
            exact k.yes (deed0 hf c1 c2 q3) (((But.of_same s02).set (by simp)).set (by simp)) ⟨ld, lt, ls, w2, .inl rfl, .inl rfl, .inl rfl⟩
theorem ok_drop_deed (T : Txt K mg C_Deed C_World C_History Z_SIZES) : Can P w K mg base 3 "drop_deed" (sp_drop_deed C_Deed C_World) := by
  refine T.d_drop_deed.ok sc_drop_deed (fun vs H Q E h => ?_) (fun f cdv A outer s H vs Q E hr h => ⟨_, (pss_cons (ps_if (pt_not (pt_val (pe_can (ok_are_together T) hr (by decide) rfl (pa_cons (pv 0) pa_nil))))
      (pss_one (ps_ret (pe_con T.c_NOT_TOGETHER rfl)))
      pss_nil)
      (pss_cons (ps_if (pt_cmpR op_ge (pv 1) (pe_callB call_len_seq (by rfl) T.b_len PySem.boot_len (pa_cons (pe_fld (pv 0) rfl) pa_nil)) (nomark _))
      (pss_one (ps_ret (pe_con T.c_NONE_SUCH rfl)))
      pss_nil)
      (pss_cons (ps_expr (pe_bm PySem.F.plainAttrs_list PySem.F.slot_list_pop PySem.F.type_list_pop mt_popAt (pe_fld (pv 0) rfl) (pa_cons (pv 1) pa_nil)))
      (pss_cons (ps_fld (pv 0) pe_int rfl)
      (pss_one (ps_ret (pe_callB call_len_seq (by rfl) T.b_len PySem.boot_len (pa_cons (pe_fld (pv 0) rfl) pa_nil)))))))), ?_⟩)
  · obtain ⟨a, ld, lt, ls, w, i, rfl, _⟩ := h
    rfl
  · obtain ⟨a, ld, lt, ls, w, i, rfl, i31, hW, hf, k⟩ := h
    obtain ⟨dx, vs, hA, hD, hDs, hT, hS, n⟩ := id hW
    refine ⟨_, rfl, a, ld, lt, ls, w, rfl, hW, hf, fun H1 s1 => ⟨_, rfl, if_not (fun c1 => ?_) (fun c1 => ?_)⟩⟩
    · exact k.no (drop16 c1) (by decide) (But.of_same s1)
    · refine ⟨_, rfl, _, rfl, a, C_World, dx, _, _, rfl, s1 _ _ hA, T.cl_World, T.n_World_deeds, W_lk_deeds, ld, _, rfl, .inl (SqL.of (s1 _ _ hD)), _, _, rfl, rfl, _, rfl, if_both (fun c2 => ?_) (fun c2 => ?_)⟩
      · have q2 := of_decide_eq_true c2
        rw [hDs.len] at q2
        exact k.no (drop2 c1 (by omega)) (by decide) (But.of_same s1)
      · have q2 := of_decide_eq_false c2
        have q3 : i < vs.length := by omega
        have q4 : i < w.a.deeds.length := by rw [← hDs.len]; exact q3
        refine ⟨_, rfl, a, C_World, dx, _, _, rfl, s1 _ _ hA, T.cl_World, T.n_World_deeds, W_lk_deeds, .inl ⟨rfl, _, SqL.of (s1 _ _ hD)⟩, _, rfl, ld, vs, _, i, _, rfl, rfl, s1 _ _ hD, by omega, by omega, seqIx q3, List.getElem?_eq_getElem q3, ?_⟩
        have al := lst_ne hA hD
        refine ⟨_, rfl, a, C_World, dx, _, rfl, (upd_ne al.symm).trans (s1 _ _ hA), T.cl_World, T.n_World_allowed, W_len, ?_⟩
        rw [W_put_allowed]
        have hDs2 : DsAt C_Deed (upd H1 ld (HO.lst (vs.eraseIdx i))) (vs.eraseIdx i) (w.a.deeds.eraseIdx i) := by
          refine DsAt.erase ((hDs.mono s1).but ((But.refl H1 [ld]).set (List.mem_singleton_self ld)) fun b d hb => ?_) i
          simp only [List.mem_singleton]
          rintro rfl
          exact deed_lst hb (s1 _ _ hD)
        have w2 := world_put (CD := C_Deed) (w := { w with a := { w.a with deeds := w.a.deeds.eraseIdx i } }) (w' := { w with a := { w.a with deeds := w.a.deeds.eraseIdx i }, allowed := 0 }) ((upd_ne al.symm).trans (s1 _ _ hA)) upd_same hDs2 ((upd_ne n.1.symm).trans (s1 _ _ hT)) ((upd_ne n.2.1.symm).trans (s1 _ _ hS)) n rfl rfl rfl
        refine ⟨_, rfl, a, C_World, dx, _, _, rfl, upd_same, T.cl_World, T.n_World_deeds, W_lk_deeds, ld, _, rfl, .inl (SqL.of ((upd_ne al).trans upd_same)), ?_⟩
        have ez : ((vs.eraseIdx i).length : Nat) = w.a.deeds.length - 1 := by
          rw [List.length_eraseIdx_of_lt q3, hDs.len]
        show Q (V.int (((vs.eraseIdx i).length : Nat) : Int)) _
        rw [ez]
        exact k.yes (drop0 hf c1 q4) (((But.of_same s1).set (by simp)).set (by simp)) ⟨ld, lt, ls, w2, .inl rfl, .inl rfl, .inl rfl⟩
theorem ok_set_state (T : Txt K mg C_Deed C_World C_History Z_SIZES) : Can P w K mg base 3 "set_state" (sp_set_state C_Deed C_World) := by
  refine T.d_set_state.ok sc_set_state (fun vs H Q E h => ?_) (fun f cdv A outer s H vs Q E hr h => ⟨_, (pss_cons (ps_if (pt_not (pt_val (pe_can (ok_are_together T) hr (by decide) rfl (pa_cons (pv 0) pa_nil))))
      (pss_one (ps_ret (pe_con T.c_NOT_TOGETHER rfl)))
      pss_nil)
      (pss_cons (ps_if (pt_not (pt_val (pe_can (ok_lies_below T) hr (by decide) rfl (pa_cons (pv 1) (pa_cons (pe_fld (pv 0) rfl) pa_nil)))))
      (pss_one (ps_ret (pe_con T.c_NOT_AS_TOLD rfl)))
      pss_nil)
      (pss_cons (ps_if (pt_not (pt_val (pe_can (ok_has T) hr (by decide) rfl (pa_cons (pe_fld (pv 0) rfl) (pa_cons (pv 1) pa_nil)))))
      (pss_one (ps_ret (pe_con T.c_NOT_LET rfl)))
      pss_nil)
      (pss_cons (ps_set (i := 2) sc_set_state.nd rfl (Or.inl rfl) (pe_fld (pv 0) rfl))
      (pss_cons (ps_expr (pe_can (ok_make_common T) hr (by decide) rfl (pa_cons (pv 0) (pa_cons (pv 1) pa_nil))))
      (pss_one (ps_ret (pv 2)))))))), ?_⟩)
  · obtain ⟨a, ld, lt, ls, w, s, rfl, _⟩ := h
    rfl
  · obtain ⟨a, ld, lt, ls, w, s, rfl, hW, hf, k⟩ := h
    obtain ⟨dx, vs, hA, hD, hDs, hT, hS, n⟩ := id hW
    refine ⟨_, rfl, a, ld, lt, ls, w, rfl, hW, hf, fun H1 s1 => ⟨_, rfl, if_not (fun c1 => ?_) (fun c1 => ?_)⟩⟩
    · exact k.no (set16 c1) (by decide) (But.of_same s1)
    · refine ⟨_, rfl, _, rfl, a, C_World, dx, _, _, rfl, s1 _ _ hA, T.cl_World, T.n_World_facts, W_lk_facts, s, w.a.m, rfl, fun H2 s2 => ⟨_, rfl, if_not (fun c2 => ?_) (fun c2 => ?_)⟩⟩
      · have q := of_decide_eq_false c2
        exact k.no (set22 c1 (by omega)) (by decide) (But.of_same (s1.trans s2))
      · have q : s < 2 ^ w.a.m := of_decide_eq_true c2
        have s02 := s1.trans s2
        refine ⟨_, rfl, a, C_World, dx, _, _, rfl, s02 _ _ hA, T.cl_World, T.n_World_rule, W_lk_rule, _, rfl, _, _, rfl, fun H3 s3 => ⟨_, rfl, if_not (fun c3 => ?_) (fun c3 => ?_)⟩⟩
        · exact k.no (set33 c1 q c3) (by decide) (But.of_same (s02.trans s3))
        · have s03 := s02.trans s3
          refine ⟨_, rfl, a, C_World, dx, _, _, rfl, s03 _ _ hA, T.cl_World, T.n_World_common, W_lk_common, ?_⟩
          refine ⟨_, rfl, _, rfl, a, ld, lt, ls, s, w, rfl, hW.mono s03, hf, fun H4 ls' hW4 b4 f4 => ⟨_, rfl, ?_⟩⟩
          refine k.yes (set0 c1 q c3) (fun b o e nb => b4 b o (s03 b o e) (fun z => nb ?_)) ⟨ld, lt, ls', hW4, .inl rfl, .inl rfl, .inr (s03.free f4)⟩
          rw [List.mem_singleton.mp z]
          simp
theorem ok_tell_answer (T : Txt K mg C_Deed C_World C_History Z_SIZES) : Can P w K mg base 2 "tell_answer" (sp_tell_answer C_Deed C_World) := by
  refine T.d_tell_answer.ok sc_tell_answer (fun vs H Q E h => ?_) (fun f cdv A outer s H vs Q E hr h => ⟨_, (pss_cons (ps_if (PW.pt (pw_or (pt_not (pt_val (pe_can (ok_lies_below T) hr (by decide) rfl (pa_cons (pv 1) (pa_cons (pe_fld (pv 0) rfl) pa_nil))))) (pw_or1 (pt_cmpR op_gt (pv 2) (pe_con T.c_ALL_THINGS rfl) (nomark _)))))
      (pss_one (ps_ret (pe_con T.c_NOT_AS_TOLD rfl)))
      pss_nil)
      (pss_cons (ps_set (i := 3) sc_tell_answer.nd rfl (Or.inl rfl) (pe_ix ix_list (pe_fld (pv 0) rfl) (pv 1) (fun _ _ => rfl)))
      (pss_cons (ps_asg (pv 2) (pg_sub (pe_fld (pv 0) rfl) (pv 1) set_list))
      (pss_one (ps_ret (pv 3)))))), ?_⟩)
  · obtain ⟨a, ld, lt, ls, w, s, v, rfl, _⟩ := h
    rfl
  · obtain ⟨a, ld, lt, ls, w, s, v, rfl, hW, hf, k⟩ := h
    obtain ⟨dx, vs, hA, hD, hDs, hT, hS, n⟩ := id hW
    refine ⟨_, rfl, _, rfl, a, C_World, dx, _, _, rfl, hA, T.cl_World, T.n_World_facts, W_lk_facts, s, w.a.m, rfl, fun H1 s1 => ⟨_, rfl, if_not (fun c1 => ?_) (fun c1 => ?_)⟩⟩
    · have q := of_decide_eq_false c1
      exact if_true_of rfl (k.no (answer22 (.inl (by omega))) (by decide) (But.of_same s1))
    · have q : s < 2 ^ w.a.m := of_decide_eq_true c1
      refine ⟨_, rfl, _, _, rfl, rfl, _, rfl, if_both (fun c2 => ?_) (fun c2 => ?_)⟩
      · have q2 := of_decide_eq_true c2
        exact k.no (answer22 (.inr (by omega))) (by decide) (But.of_same s1)
      · have q2 := of_decide_eq_false c2
        have hs : s < w.answers.length := by rw [hf.an]; exact q
        obtain ⟨x, hx⟩ : ∃ x, w.answers[s]? = some x := ⟨_, List.getElem?_eq_getElem hs⟩
        have gx : given w s = x := by
          unfold Kh413.given
          rw [List.getD_eq_getElem?_getD, hx]
          rfl
        refine ⟨_, rfl, a, C_World, dx, _, _, rfl, s1 _ _ hA, T.cl_World, T.n_World_told, W_lk_told, _, rfl, lt, _, _, _, rfl, rfl, SqL.of (s1 _ _ hT), nVs_at hx, ?_⟩
        refine ⟨_, rfl, _, rfl, a, C_World, dx, _, _, rfl, s1 _ _ hA, T.cl_World, T.n_World_told, W_lk_told, _, rfl, lt, _, _, s, rfl, rfl, s1 _ _ hT, Evl.ixN_nat (by rw [nVs_len]; exact hs), _, rfl, ?_⟩
        have go := answer0 (w := w) (v := v) q (by omega)
        rw [gx] at go
        refine k.yes go ((But.of_same s1).set (by simp)) ⟨ld, lt, ls, ⟨dx, vs, ?_, ?_, ?_, ?_, ?_, n⟩, .inl rfl, .inl rfl, .inl rfl⟩
        · exact (upd_ne (lst_ne hA hT).symm).trans (s1 _ _ hA)
        · exact (upd_ne n.1).trans (s1 _ _ hD)
        · exact (hDs.mono s1).but ((But.refl H1 [lt]).set (List.mem_singleton_self lt)) fun b d hb => by
            simp only [List.mem_singleton]
            rintro rfl
            exact deed_lst hb (s1 _ _ hT)
        · rw [upd_same]
          show some (HO.lst ((List.map nV w.answers).set s (nV v))) = some (HO.lst (List.map nV (w.answers.set s v)))
          rw [List.map_set]
        · exact (upd_ne n.2.2.symm).trans (s1 _ _ hS)
end
end Na

set_option Elab.async false
set_option maxRecDepth 100000
set_option maxHeartbeats 4000000
namespace Na
open PySem PySem.Spec PyProof.Rows L2
open Kh413 (say does atOnce set1 given)
section
variable {P : Program} {w : World} {K : PySem.W.Frag} {mg : Str → Option Value} {base : Heap} {C_Deed C_World C_History Z_SIZES : Addr}
theorem ok_allow_deeds (T : Txt K mg C_Deed C_World C_History Z_SIZES) : Can P w K mg base 8 "allow_deeds" (sp_allow_deeds C_Deed C_World) := by
  refine T.d_allow_deeds.ok sc_allow_deeds (fun vs H Q E h => ?_) (fun f cdv A outer s H vs Q E hr h => ⟨_, (pss_cons (ps_if (pt_not (pt_val (pe_can (ok_are_together T) hr (by decide) rfl (pa_cons (pv 0) pa_nil))))
      (pss_one (ps_ret (pe_con T.c_NOT_TOGETHER rfl)))
      pss_nil)
      (pss_cons (ps_if (pt_not (pt_val (pe_can (ok_lies_below T) hr (by decide) rfl (pa_cons (pv 1) (pa_cons (pe_callB call_len_seq (by rfl) T.b_len PySem.boot_len (pa_cons (pe_fld (pv 0) rfl) pa_nil)) pa_nil)))))
      (pss_one (ps_ret (pe_con T.c_NOT_AS_TOLD rfl)))
      pss_nil)
      (pss_cons (ps_if (pt_not (pt_val (pe_can (ok_is_free T) hr (by decide) rfl (pa_cons (pe_fld (pv 0) rfl) (pa_cons (pe_can (ok_chosen_of T) hr (by decide) rfl (pa_cons (pe_fld (pv 0) rfl) (pa_cons (pv 1) pa_nil))) (pa_cons (pe_fld (pv 0) rfl) pa_nil))))))
      (pss_one (ps_ret (pe_con T.c_NOT_LET rfl)))
      pss_nil)
      (pss_cons (ps_set (i := 2) sc_allow_deeds.nd rfl (Or.inl rfl) (pe_fld (pv 0) rfl))
      (pss_cons (ps_fld (pv 0) (pv 1) rfl)
      (pss_one (ps_ret (pv 2)))))))), ?_⟩)
  · obtain ⟨a, ld, lt, ls, w, x, rfl, _⟩ := h
    rfl
  · obtain ⟨a, ld, lt, ls, w, x, rfl, hW, hf, k⟩ := h
    obtain ⟨dx, vs, hA, hD, hDs, hT, hS, n⟩ := id hW
    refine ⟨_, rfl, a, ld, lt, ls, w, rfl, hW, hf, fun H1 s1 => ⟨_, rfl, if_not (fun c1 => ?_) (fun c1 => ?_)⟩⟩
    · exact k.no (allow16 c1) (by decide) (But.of_same s1)
    · refine ⟨_, rfl, _, rfl, a, C_World, dx, _, _, rfl, s1 _ _ hA, T.cl_World, T.n_World_deeds, W_lk_deeds, ld, _, rfl, .inl (SqL.of (s1 _ _ hD)), x, vs.length, rfl, fun H2 s2 => ⟨_, rfl, if_not (fun c2 => ?_) (fun c2 => ?_)⟩⟩
      · have q := of_decide_eq_false c2
        rw [hDs.len] at q
        exact k.no (allow22 c1 (by omega)) (by decide) (But.of_same (s1.trans s2))
      · have q : x < 2 ^ w.a.deeds.length := by
          rw [← hDs.len]
          exact of_decide_eq_true c2
        have s02 := s1.trans s2
        have hk : ∀ d, d ∈ fil x w.a.deeds → okD w.a.m d := fun d hd => hf.dk d (fil_sub hd)
        refine ⟨_, rfl, a, C_World, dx, _, _, rfl, s02 _ _ hA, T.cl_World, T.n_World_rule, W_lk_rule, _, rfl, a, C_World, dx, _, _, rfl, s02 _ _ hA, T.cl_World, T.n_World_deeds, W_lk_deeds, _, rfl, x, ld, vs, rfl, SqL.of (s02 _ _ hD), ?_, fun H3 D s23 fD h3 => ?_⟩
        · rw [hDs.len]
          have := hf.dl
          omega
        · have s3 := s02.trans s23
          refine ⟨_, rfl, a, C_World, dx, _, _, rfl, s3 _ _ hA, T.cl_World, T.n_World_facts, W_lk_facts, w.a.rule, w.a.m, D, fil x vs, fil x w.a.deeds, rfl, SqL.of h3, (hDs.mono s3).filt x, hk, hf.m4, fun H4 s4 => ⟨_, rfl, if_not (fun c3 => ?_) (fun c3 => ?_)⟩⟩
          · rw [← only_eq] at c3
            exact k.no (allow33 hf c1 q c3) (by decide) (But.of_same (s3.trans s4))
          · rw [← only_eq] at c3
            have s04 := s3.trans s4
            refine ⟨_, rfl, a, C_World, dx, _, _, rfl, s04 _ _ hA, T.cl_World, T.n_World_allowed, W_lk_allowed, ?_⟩
            refine ⟨_, rfl, _, rfl, a, C_World, dx, _, rfl, s04 _ _ hA, T.cl_World, T.n_World_allowed, W_len, ?_⟩
            rw [W_put_allowed]
            have w2 := world_put (w' := { w with allowed := x }) (s04 _ _ hA) (s04 _ _ hD) (hDs.mono s04) (s04 _ _ hT) (s04 _ _ hS) n rfl rfl rfl
            exact ⟨_, rfl, k.yes (allow0 hf c1 q c3) ((But.of_same s04).set (by simp)) ⟨ld, lt, ls, w2, .inl rfl, .inl rfl, .inl rfl⟩⟩
end
end Na

set_option Elab.async false
set_option maxRecDepth 100000
set_option maxHeartbeats 4000000
namespace Na
open PySem PySem.Spec PyProof.Rows L2
open Kh413 (say does atOnce set1 given doing)
/-! ### the history -/
/-- a world that is kept: its lists are not the history's own -/
def Kept (CD CW : Addr) (H : Hp) (A : List Addr) (lp lu r : Addr) (w : Kh413.Work) : Prop := ∃ ld lt ls, WorldAt CD CW H r ld lt ls w ∧ WF w ∧ (ld ≠ lp ∧ ld ≠ lu ∧ ld ∉ A) ∧ (lt ≠ lp ∧ lt ≠ lu ∧ lt ∉ A) ∧ (ls ≠ lp ∧ ls ≠ lu ∧ ls ∉ A)
/-- lists that the history has nothing to do with -/
def Fre (H : Hp) (A : List Addr) (lp lu : Addr) : Prop := (∀ p, p ∈ A → ∃ xs, H p = some (.lst xs)) ∧ lp ∉ A ∧ lu ∉ A
inductive KsAt (CD CW : Addr) (H : Hp) (A : List Addr) (lp lu : Addr) : List V → List Kh413.Work → Prop
  | nil : KsAt CD CW H A lp lu [] []
  | cons {r : Addr} {w : Kh413.Work} {vs : List V} {ws : List Kh413.Work} : Kept CD CW H A lp lu r w → KsAt CD CW H A lp lu vs ws → KsAt CD CW H A lp lu (.ref r :: vs) (w :: ws)
def HistAt (CD CW CH : Addr) (H : Hp) (A : List Addr) (hx lp lu : Addr) : Option Kh413.Abs → Prop
  | none => ∃ dx, H hx = some (.ins CH dx (SL .non (.ref lp) (.ref lu))) ∧ H lp = some (.lst []) ∧ H lu = some (.lst []) ∧ lp ≠ lu ∧ Fre H A lp lu
  | some a => ∃ dx r vp vu, H hx = some (.ins CH dx (SL (.ref r) (.ref lp) (.ref lu))) ∧ H lp = some (.lst vp) ∧ H lu = some (.lst vu) ∧ lp ≠ lu ∧ Kept CD CW H A lp lu r a.now ∧
      KsAt CD CW H A lp lu vp a.undo.reverse ∧ KsAt CD CW H A lp lu vu a.redo.reverse ∧ a.undo.length + a.redo.length ≤ 10 ∧ Fre H A lp lu
section
variable {CD CW CH : Addr} {H H' : Hp} {A : List Addr} {hx lp lu lp' lu' : Addr}
theorem KsAt.len {vs : List V} {ws : List Kh413.Work} (h : KsAt CD CW H A lp lu vs ws) : vs.length = ws.length := by
  induction h with
  | nil => rfl
  | cons _ _ ih => simp [ih]
theorem KsAt.snoc {vs : List V} {ws : List Kh413.Work} {r : Addr} {w : Kh413.Work} (h : KsAt CD CW H A lp lu vs ws) (k : Kept CD CW H A lp lu r w) : KsAt CD CW H A lp lu (vs ++ [V.ref r]) (ws ++ [w]) := by
  induction h with
  | nil => exact .cons k .nil
  | cons a _ ih => exact .cons a ih
theorem KsAt.tail {vs : List V} {ws : List Kh413.Work} (h : KsAt CD CW H A lp lu vs ws) : KsAt CD CW H A lp lu vs.tail ws.tail := by
  cases h with
  | nil => exact .nil
  | cons _ t => exact t
theorem KsAt.last {vs : List V} {ws : List Kh413.Work} {w : Kh413.Work} (h : KsAt CD CW H A lp lu vs (ws ++ [w])) : ∃ (us : List V) (r : Addr), vs = us ++ [V.ref r] ∧ KsAt CD CW H A lp lu us ws ∧ Kept CD CW H A lp lu r w := by
  induction ws generalizing vs with
  | nil =>
    cases h with
    | cons k t =>
      cases t
      exact ⟨[], _, rfl, .nil, k⟩
  | cons x ws ih =>
    cases h with
    | cons k t =>
      obtain ⟨us, r, e, a, b⟩ := ih t
      exact ⟨_ :: us, r, by rw [e]; rfl, .cons k a, b⟩
theorem Kept.but {r : Addr} {w : Kh413.Work} {dx : Addr} {v0 v1 v2 : V} {xs ys : List V} (h : Kept CD CW H A lp lu r w) (b : But H H' [hx, lp, lu]) (e1 : H hx = some (.ins CH dx (SL v0 v1 v2))) (e2 : H lp = some (.lst xs)) (e3 : H lu = some (.lst ys))
    (n1 : lp' = lp ∨ H lp' = none) (n2 : lu' = lu ∨ H lu' = none) : Kept CD CW H' A lp' lu' r w := by
  obtain ⟨ld, lt, ls, ⟨dy, vs, hA, hD, hDs, hT, hS, n⟩, f, a1, a2, a3⟩ := h
  have inn : ∀ {p : Addr} {o : HO}, H p = some o → (p = hx → False) → (p = lp → False) → (p = lu → False) → p ∉ [hx, lp, lu] := fun _ h1 h2 h3 z => by
    simp only [List.mem_cons, List.not_mem_nil, or_false] at z
    rcases z with z | z | z
    · exact h1 z
    · exact h2 z
    · exact h3 z
  have far : ∀ {p : Addr} {xs : List V}, H p = some (.lst xs) → p ≠ lp → p ≠ lu → p ∉ [hx, lp, lu] := fun e q1 q2 => inn e (fun z => by rw [z, e1] at e; cases e) q1 q2
  have sepL : ∀ {p : Addr} {xs : List V}, H p = some (.lst xs) → p ≠ lp → p ≠ lp' := fun e q z => by
    rcases n1 with y | y
    · exact q (z.trans y)
    · rw [z, y] at e
      cases e
  have sepU : ∀ {p : Addr} {xs : List V}, H p = some (.lst xs) → p ≠ lu → p ≠ lu' := fun e q z => by
    rcases n2 with y | y
    · exact q (z.trans y)
    · rw [z, y] at e
      cases e
  refine ⟨ld, lt, ls, ⟨dy, vs, b _ _ hA ?_, b _ _ hD (far hD a1.1 a1.2.1), hDs.but b fun p d hp => ?_, b _ _ hT (far hT a2.1 a2.2.1), b _ _ hS (far hS a3.1 a3.2.1), n⟩, f, ⟨sepL hD a1.1, sepU hD a1.2.1, a1.2.2⟩, ⟨sepL hT a2.1, sepU hT a2.2.1, a2.2.2⟩, ⟨sepL hS a3.1, sepU hS a3.2.1, a3.2.2⟩⟩
  · refine inn hA (fun z => ?_) (fun z => by rw [z, e2] at hA; cases hA) (fun z => by rw [z, e3] at hA; cases hA)
    rw [z, e1] at hA
    injection hA with hA
    injection hA with _ _ hA
    exact absurd (congrArg List.length hA) (by show ¬ (3 = 7); decide)
  · obtain ⟨dz, ep⟩ := hp
    refine inn ep (fun z => ?_) (fun z => by rw [z, e2] at ep; cases ep) (fun z => by rw [z, e3] at ep; cases ep)
    rw [z, e1] at ep
    injection ep with ep
    injection ep with _ _ ep
    exact absurd (congrArg List.length ep) (by show ¬ (3 = 4); decide)
theorem KsAt.but {vs : List V} {ws : List Kh413.Work} {dx : Addr} {v0 v1 v2 : V} {xs ys : List V} (h : KsAt CD CW H A lp lu vs ws) (b : But H H' [hx, lp, lu]) (e1 : H hx = some (.ins CH dx (SL v0 v1 v2))) (e2 : H lp = some (.lst xs)) (e3 : H lu = some (.lst ys))
    (n1 : lp' = lp ∨ H lp' = none) (n2 : lu' = lu ∨ H lu' = none) : KsAt CD CW H' A lp' lu' vs ws := by
  induction h with
  | nil => exact .nil
  | cons k _ ih => exact .cons (k.but b e1 e2 e3 n1 n2) ih
theorem Fre.but {dx : Addr} {fs : List (Str × V)} (h : Fre H A lp lu) (b : But H H' [hx, lp, lu]) (e1 : H hx = some (.ins CH dx fs)) (n1 : lp' = lp ∨ H lp' = none) (n2 : lu' = lu ∨ H lu' = none) : Fre H' A lp' lu' := by
  refine ⟨fun p hp => ?_, fun z => ?_, fun z => ?_⟩
  · obtain ⟨xs, e⟩ := h.1 p hp
    refine ⟨xs, b _ _ e fun z => ?_⟩
    simp only [List.mem_cons, List.not_mem_nil, or_false] at z
    rcases z with z | z | z
    · rw [z, e1] at e
      cases e
    · exact h.2.1 (z ▸ hp)
    · exact h.2.2 (z ▸ hp)
  · rcases n1 with y | y
    · exact h.2.1 (y ▸ z)
    · obtain ⟨xs, e⟩ := h.1 _ z
      rw [y] at e
      cases e
  · rcases n2 with y | y
    · exact h.2.2 (y ▸ z)
    · obtain ⟨xs, e⟩ := h.1 _ z
      rw [y] at e
      cases e
theorem Fre.new {p : Addr} (h : Fre H A lp lu) (e : H p = none) : p ∉ A := fun z => by
  obtain ⟨xs, q⟩ := h.1 p z
  rw [e] at q
  cases q
theorem Fre.mono (h : Fre H A lp lu) (s : Same H H') : Fre H' A lp lu := ⟨fun p hp => by
  obtain ⟨xs, e⟩ := h.1 p hp
  exact ⟨xs, s _ _ e⟩, h.2⟩
/-- a history, whatever it holds, has its three places -/
theorem HistAt.places {s : Option Kh413.Abs} (h : HistAt CD CW CH H A hx lp lu s) : ∃ dx v xs ys, H hx = some (.ins CH dx (SL v (.ref lp) (.ref lu))) ∧ H lp = some (.lst xs) ∧ H lu = some (.lst ys) ∧ lp ≠ lu ∧ Fre H A lp lu := by
  cases s with
  | none =>
    obtain ⟨dx, a, b, c, d⟩ := h
    exact ⟨dx, _, _, _, a, b, c, d⟩
  | some a =>
    obtain ⟨dx, r, vp, vu, a, b, c, d, _, _, _, _, g⟩ := h
    exact ⟨dx, _, _, _, a, b, c, d, g⟩
theorem HistAt.mono {s : Option Kh413.Abs} (q : Same H H') (h : HistAt CD CW CH H A hx lp lu s) : HistAt CD CW CH H' A hx lp lu s := by
  have b : But H H' [hx, lp, lu] := But.of_same q
  cases s with
  | none =>
    obtain ⟨dx, e1, e2, e3, n⟩ := h
    exact ⟨dx, q _ _ e1, q _ _ e2, q _ _ e3, n.1, n.2.mono q⟩
  | some a =>
    obtain ⟨dx, r, vp, vu, e1, e2, e3, n, k, ku, kr, l, g⟩ := h
    exact ⟨dx, r, vp, vu, q _ _ e1, q _ _ e2, q _ _ e3, n, k.but b e1 e2 e3 (.inl rfl) (.inl rfl), ku.but b e1 e2 e3 (.inl rfl) (.inl rfl), kr.but b e1 e2 e3 (.inl rfl) (.inl rfl), l, g.mono q⟩
end
/-- the history may have changed, and what hangs on it -/
def HChg (CD CW CH : Addr) (H : Hp) (A : List Addr) (Q : VK) (hx lp lu : Addr) (s' : Option Kh413.Abs) (v : V) : Prop :=
  ∀ H' lp' lu', But H H' [hx, lp, lu] → HistAt CD CW CH H' A hx lp' lu' s' → (lp' = lp ∨ H lp' = none) → (lu' = lu ∨ H lu' = none) → Q v H'
def sp_History_init (CD CW CH : Addr) : Sp := fun vs H Q _ => ∃ (p dx : Addr), vs = [.ref p] ∧ H p = some (.ins CH dx []) ∧
  ∀ H' lp lu, HistAt CD CW CH H' [] p lp lu none → But H H' [p] → H lp = none → H lu = none → Q .non H'
def sp_start_with (CD CW CH : Addr) : Sp := fun vs H Q _ => ∃ (A : List Addr) (hx lp lu r ld lt ls : Addr) (s : Option Kh413.Abs) (w : Kh413.Work), vs = [.ref hx, .ref r] ∧ HistAt CD CW CH H A hx lp lu s ∧ WorldAt CD CW H r ld lt ls w ∧ WF w ∧ ld ∉ A ∧ lt ∉ A ∧ ls ∉ A ∧
  HChg CD CW CH H A Q hx lp lu (some ⟨w, [], []⟩) .non
def sp_go_on_with (CD CW CH : Addr) : Sp := fun vs H Q _ => ∃ (A : List Addr) (hx lp lu r : Addr) (a : Kh413.Abs) (w : Kh413.Work), vs = [.ref hx, .ref r] ∧ HistAt CD CW CH H A hx lp lu (some a) ∧ Kept CD CW H A lp lu r w ∧
  HChg CD CW CH H A Q hx lp lu (some ⟨w, (a.now :: a.undo).take 10, []⟩) .non
def sp_take_back (CD CW CH : Addr) : Sp := fun vs H Q _ => ∃ (A : List Addr) (hx lp lu : Addr) (a : Kh413.Abs), vs = [.ref hx] ∧ HistAt CD CW CH H A hx lp lu (some a) ∧
  HChg CD CW CH H A Q hx lp lu (doing (some a) .back).1 (.int (doing (some a) .back).2.ret)
def sp_do_again (CD CW CH : Addr) : Sp := fun vs H Q _ => ∃ (A : List Addr) (hx lp lu : Addr) (a : Kh413.Abs), vs = [.ref hx] ∧ HistAt CD CW CH H A hx lp lu (some a) ∧
  HChg CD CW CH H A Q hx lp lu (doing (some a) .again).1 (.int (doing (some a) .again).2.ret)
theorem ins_ne {H : Hp} {C dx p q : Addr} {fs : List (Str × V)} {xs : List V} (e : H p = some (.ins C dx fs)) (l : H q = some (.lst xs)) : p ≠ q := fun z => by
  rw [z, l] at e
  cases e
section
variable {P : Program} {w : World} {K : PySem.W.Frag} {mg : Str → Option Value} {base : Heap} {C_Deed C_World C_History Z_SIZES : Addr}
theorem ok_History_init (T : Txt K mg C_Deed C_World C_History Z_SIZES) : CanI P w K mg base 1 "History" C_History (sp_History_init C_Deed C_World C_History) := by
  refine T.d_History_init.ok sc_History_init (fun vs H Q E h => ?_) (fun f cdv A outer s H vs Q E hr h => ⟨_, (pss_cons (ps_fld (pv 0) pe_non rfl)
      (pss_cons (ps_fld (pv 0) (pe_lst pa_nil) rfl)
      (pss_one (ps_fld (pv 0) (pe_lst pa_nil) rfl)))), ?_⟩)
  · obtain ⟨p, dx, rfl, _⟩ := h
    rfl
  · obtain ⟨p, dx, rfl, hp, k⟩ := h
    refine ⟨_, rfl, p, C_History, dx, _, rfl, hp, T.cl_History, T.n_History_world, (by decide), ?_⟩
    refine ⟨Nat.zero_le _, fun l1 h1 => ⟨_, rfl, p, C_History, dx, _, rfl, (upd_ne (upd_free.mp h1).1.symm).trans upd_same, T.cl_History, T.n_History_past, p1000 (n := 0) (Nat.le_refl 0), ?_⟩⟩
    refine ⟨Nat.zero_le _, fun l2 h2 => ⟨_, rfl, p, C_History, dx, _, rfl, (upd_ne (upd_free.mp h2).1.symm).trans upd_same, T.cl_History, T.n_History_undone, p1000 (plen (n := 0) (Nat.le_refl 0)), ?_⟩⟩
    simp only [upd_free] at h1 h2
    obtain ⟨l1p, f1⟩ := h1
    obtain ⟨l2p, l2l1, _, f2⟩ := h2
    have mp : p ∈ [p] := List.mem_singleton_self p
    refine k _ l1 l2 ⟨dx, ?_, ?_, ?_, l2l1.symm, fun _ z => (by cases z), (by simp), by simp⟩ ((((((But.refl H [p]).set mp).new f1).set mp).new f2).set mp) f1 f2
    · rw [upd_same, S_new]
    · rw [upd_ne l1p, upd_ne l2l1.symm, upd_ne l1p, upd_same]
    · rw [upd_ne l2p, upd_same]
theorem ok_History_start_with (T : Txt K mg C_Deed C_World C_History Z_SIZES) : CanM P w K mg base 1 C_History "start_with" (sp_start_with C_Deed C_World C_History) := by
  refine T.d_History_start_with.ok sc_History_start_with (fun vs H Q E h => ?_) (fun f cdv A outer s H vs Q E hr h => ⟨_, (pss_cons (ps_fld (pv 0) (pv 1) rfl)
      (pss_cons (ps_fld (pv 0) (pe_lst pa_nil) rfl)
      (pss_one (ps_fld (pv 0) (pe_lst pa_nil) rfl)))), ?_⟩)
  · obtain ⟨B, hx, lp, lu, r, ld, lt, ls, s, w, rfl, _⟩ := h
    rfl
  · obtain ⟨B, hx, lp, lu, r, ld, lt, ls, s, w, rfl, hH, hW, hf, x1, x2, x3, k⟩ := h
    obtain ⟨dx, v, xs, ys, e1, e2, e3, n, fre⟩ := hH.places
    refine ⟨_, rfl, _, rfl, hx, C_History, dx, _, rfl, e1, T.cl_History, T.n_History_world, S_len, ?_⟩
    rw [S_put_world]
    refine ⟨Nat.zero_le _, fun l1 h1 => ⟨_, rfl, hx, C_History, dx, _, rfl, (upd_ne (upd_free.mp h1).1.symm).trans upd_same, T.cl_History, T.n_History_past, S_len, ?_⟩⟩
    rw [S_put_past]
    refine ⟨Nat.zero_le _, fun l2 h2 => ⟨_, rfl, hx, C_History, dx, _, rfl, (upd_ne (upd_free.mp h2).1.symm).trans upd_same, T.cl_History, T.n_History_undone, S_len, ?_⟩⟩
    rw [S_put_undone]
    simp only [upd_free] at h1 h2
    obtain ⟨l1p, f1⟩ := h1
    obtain ⟨l2p, l2l1, _, f2⟩ := h2
    have mp : hx ∈ [hx, lp, lu] := by simp
    have b := ((((((But.refl H [hx, lp, lu]).set (o := HO.ins C_History dx (SL (.ref r) (.ref lp) (.ref lu))) mp).new (o := HO.lst []) f1).set (o := HO.ins C_History dx (SL (.ref r) (.ref l1) (.ref lu))) mp).new (o := HO.lst []) f2).set (o := HO.ins C_History dx (SL (.ref r) (.ref l1) (.ref l2))) mp)
    have b1 := ((((((But.refl H [hx]).set (o := HO.ins C_History dx (SL (.ref r) (.ref lp) (.ref lu))) (List.mem_singleton_self hx)).new (o := HO.lst []) f1).set (o := HO.ins C_History dx (SL (.ref r) (.ref l1) (.ref lu))) (List.mem_singleton_self hx)).new (o := HO.lst []) f2).set (o := HO.ins C_History dx (SL (.ref r) (.ref l1) (.ref l2))) (List.mem_singleton_self hx))
    obtain ⟨dy, vs, hA, hD, hDs, hT, hS, nn⟩ := hW
    have w1 : WorldAt C_Deed C_World _ r ld lt ls w := ⟨dy, vs, b1 _ _ hA (by
        simp only [List.mem_singleton]
        rintro rfl
        rw [e1] at hA
        injection hA with hA
        injection hA with _ _ hA
        exact absurd (congrArg List.length hA) (by show ¬ (3 = 7); decide)), b1 _ _ hD (by simpa using (ins_ne e1 hD).symm), hDs.but b1 (fun p d hp => by
        simp only [List.mem_singleton]
        rintro rfl
        obtain ⟨dz, ep⟩ := hp
        rw [e1] at ep
        injection ep with ep
        injection ep with _ _ ep
        exact absurd (congrArg List.length ep) (by show ¬ (3 = 4); decide)), b1 _ _ hT (by simpa using (ins_ne e1 hT).symm), b1 _ _ hS (by simpa using (ins_ne e1 hS).symm), nn⟩
    refine k _ l1 l2 b ⟨dx, r, [], [], upd_same, ?_, ?_, l2l1.symm, ⟨ld, lt, ls, w1, hf, ⟨ne_of_none hD f1, ne_of_none hD f2, x1⟩, ⟨ne_of_none hT f1, ne_of_none hT f2, x2⟩, ⟨ne_of_none hS f1, ne_of_none hS f2, x3⟩⟩, .nil, .nil, Nat.zero_le _, fre.but b e1 (.inr f1) (.inr f2)⟩ (.inr f1) (.inr f2)
    · rw [upd_ne l1p, upd_ne l2l1.symm, upd_ne l1p, upd_same]
    · rw [upd_ne l2p, upd_same]
theorem ok_History_take_back (T : Txt K mg C_Deed C_World C_History Z_SIZES) : CanM P w K mg base 1 C_History "take_back" (sp_take_back C_Deed C_World C_History) := by
  refine T.d_History_take_back.ok sc_History_take_back (fun vs H Q E h => ?_) (fun f cdv A outer s H vs Q E hr h => ⟨_, (pss_cons (ps_if (pt_cmpR (op_eqNil (Nat.lt_of_succ_lt (hu_of hr))) (pe_fld (pv 0) rfl) (pe_lst pa_nil) (nomark _))
      (pss_one (ps_ret (pe_con T.c_NONE_SUCH rfl)))
      pss_nil)
      (pss_cons (ps_expr (pe_bm PySem.F.plainAttrs_list PySem.F.slot_list_append PySem.F.type_list_append mt_append (pe_fld (pv 0) rfl) (pa_cons (pe_fld (pv 0) rfl) pa_nil)))
      (pss_cons (ps_fld (pv 0) (pe_bm0 PySem.F.plainAttrs_list PySem.F.slot_list_pop PySem.F.type_list_pop mt_pop (pe_fld (pv 0) rfl)) rfl)
      (pss_one (ps_ret (pe_callB call_len_seq (by rfl) T.b_len PySem.boot_len (pa_cons (pe_fld (pv 0) rfl) pa_nil))))))), ?_⟩)
  · obtain ⟨B, hx, lp, lu, a, rfl, _⟩ := h
    rfl
  · obtain ⟨B, hx, lp, lu, a, rfl, hH, k⟩ := h
    obtain ⟨dx, r, vp, vu, e1, e2, e3, n, kn, ku, kr, l10, fre⟩ := id hH
    refine ⟨_, rfl, hx, C_History, dx, _, _, rfl, e1, T.cl_History, T.n_History_past, S_lk_past, Nat.zero_le _, fun t ht => ⟨lp, t, vp, rfl, rfl, (upd_ne (ne_of_none e2 ht)).trans e2, upd_same, _, rfl, ?_⟩⟩
    have s1 := same_new (o := HO.lst []) ht
    obtain ⟨now, undo, redo⟩ := a
    cases undo with
    | nil =>
      have ku' : KsAt C_Deed C_World H B lp lu vp [] := ku
      cases ku'
      refine if_true_of rfl ?_
      exact k _ lp lu (But.of_same s1) (hH.mono s1) (.inl rfl) (.inl rfl)
    | cons x u =>
      have ku' : KsAt C_Deed C_World H B lp lu vp (u.reverse ++ [x]) := by
        have := ku
        rw [show (Kh413.Abs.mk now (x :: u) redo).undo = x :: u from rfl, List.reverse_cons] at this
        exact this
      obtain ⟨us, q, rfl, ka, kx⟩ := ku'.last
      have l10' : (u.length + 1) + redo.length ≤ 10 := l10
      have lr : vu.length = redo.length := by
        have := kr.len
        rw [List.length_reverse] at this
        exact this
      have lus : us.length = u.length := by
        have := ka.len
        rw [List.length_reverse] at this
        exact this
      refine if_false_of (by cases us <;> rfl) ?_
      refine ⟨_, rfl, hx, C_History, dx, _, _, rfl, s1 _ _ e1, T.cl_History, T.n_History_undone, S_lk_undone, .inl ⟨rfl, _, SqL.of (s1 _ _ e3)⟩, _, rfl, hx, C_History, dx, _, _, rfl, s1 _ _ e1, T.cl_History, T.n_History_world, S_lk_world, lu, _, _, rfl, rfl, s1 _ _ e3, sz64 (by omega), ?_⟩
      have hl := ins_ne e1 e3
      have hp := ins_ne e1 e2
      have e1' : upd (upd H t (HO.lst [])) lu (HO.lst (vu ++ [V.ref r])) hx = some (HO.ins C_History dx (SL (.ref r) (.ref lp) (.ref lu))) := (upd_ne hl).trans (s1 _ _ e1)
      have e2' : upd (upd H t (HO.lst [])) lu (HO.lst (vu ++ [V.ref r])) lp = some (HO.lst (us ++ [V.ref q])) := (upd_ne n).trans (s1 _ _ e2)
      refine ⟨_, rfl, hx, C_History, dx, _, _, rfl, e1', T.cl_History, T.n_History_past, S_lk_past, .inl ⟨rfl, _, SqL.of e2'⟩, lp, _, V.ref q, rfl, rfl, e2', ?_, _, rfl, hx, C_History, dx, _, rfl, (upd_ne hp).trans e1', T.cl_History, T.n_History_world, S_len, ?_⟩
      · rw [List.length_append]
        simp
      · rw [S_put_world, List.dropLast_concat]
        have b : But H (upd (upd (upd (upd H t (HO.lst [])) lu (HO.lst (vu ++ [V.ref r]))) lp (HO.lst us)) hx (HO.ins C_History dx (SL (.ref q) (.ref lp) (.ref lu)))) [hx, lp, lu] := (((But.of_same s1).set (by simp)).set (by simp)).set (by simp)
        refine ⟨_, rfl, hx, C_History, dx, _, _, rfl, upd_same, T.cl_History, T.n_History_past, S_lk_past, lp, us, rfl, .inl (SqL.of ((upd_ne hp.symm).trans upd_same)), ?_⟩
        show Q (V.int ((us.length : Nat) : Int)) _
        rw [lus]
        refine k _ lp lu b ⟨dx, q, us, vu ++ [V.ref r], upd_same, (upd_ne hp.symm).trans upd_same, ?_, n, kx.but b e1 e2 e3 (.inl rfl) (.inl rfl), ka.but b e1 e2 e3 (.inl rfl) (.inl rfl), ?_, ?_, fre.but b e1 (.inl rfl) (.inl rfl)⟩ (.inl rfl) (.inl rfl)
        · rw [upd_ne hl.symm, upd_ne n.symm, upd_same]
        · show KsAt C_Deed C_World _ B lp lu (vu ++ [V.ref r]) (now :: redo).reverse
          rw [List.reverse_cons]
          exact (kr.but b e1 e2 e3 (.inl rfl) (.inl rfl)).snoc (kn.but b e1 e2 e3 (.inl rfl) (.inl rfl))
        · show u.length + (redo.length + 1) ≤ 10
          omega
theorem ok_History_do_again (T : Txt K mg C_Deed C_World C_History Z_SIZES) : CanM P w K mg base 1 C_History "do_again" (sp_do_again C_Deed C_World C_History) := by
  refine T.d_History_do_again.ok sc_History_do_again (fun vs H Q E h => ?_) (fun f cdv A outer s H vs Q E hr h => ⟨_, (pss_cons (ps_if (pt_cmpR (op_eqNil (Nat.lt_of_succ_lt (hu_of hr))) (pe_fld (pv 0) rfl) (pe_lst pa_nil) (nomark _))
      (pss_one (ps_ret (pe_con T.c_NONE_SUCH rfl)))
      pss_nil)
      (pss_cons (ps_expr (pe_bm PySem.F.plainAttrs_list PySem.F.slot_list_append PySem.F.type_list_append mt_append (pe_fld (pv 0) rfl) (pa_cons (pe_fld (pv 0) rfl) pa_nil)))
      (pss_cons (ps_fld (pv 0) (pe_bm0 PySem.F.plainAttrs_list PySem.F.slot_list_pop PySem.F.type_list_pop mt_pop (pe_fld (pv 0) rfl)) rfl)
      (pss_one (ps_ret (pe_callB call_len_seq (by rfl) T.b_len PySem.boot_len (pa_cons (pe_fld (pv 0) rfl) pa_nil))))))), ?_⟩)
  · obtain ⟨B, hx, lp, lu, a, rfl, _⟩ := h
    rfl
  · obtain ⟨B, hx, lp, lu, a, rfl, hH, k⟩ := h
    obtain ⟨dx, r, vp, vu, e1, e2, e3, n, kn, ku, kr, l10, fre⟩ := id hH
    refine ⟨_, rfl, hx, C_History, dx, _, _, rfl, e1, T.cl_History, T.n_History_undone, S_lk_undone, Nat.zero_le _, fun t ht => ⟨lu, t, vu, rfl, rfl, (upd_ne (ne_of_none e3 ht)).trans e3, upd_same, _, rfl, ?_⟩⟩
    have s1 := same_new (o := HO.lst []) ht
    obtain ⟨now, undo, redo⟩ := a
    cases redo with
    | nil =>
      have kr' : KsAt C_Deed C_World H B lp lu vu [] := kr
      cases kr'
      refine if_true_of rfl ?_
      exact k _ lp lu (But.of_same s1) (hH.mono s1) (.inl rfl) (.inl rfl)
    | cons x u =>
      have kr' : KsAt C_Deed C_World H B lp lu vu (u.reverse ++ [x]) := by
        have := kr
        rw [show (Kh413.Abs.mk now undo (x :: u)).redo = x :: u from rfl, List.reverse_cons] at this
        exact this
      obtain ⟨us, q, rfl, ka, kx⟩ := kr'.last
      have l10' : undo.length + (u.length + 1) ≤ 10 := l10
      have lr : vp.length = undo.length := by
        have := ku.len
        rw [List.length_reverse] at this
        exact this
      have lus : us.length = u.length := by
        have := ka.len
        rw [List.length_reverse] at this
        exact this
      refine if_false_of (by cases us <;> rfl) ?_
      refine ⟨_, rfl, hx, C_History, dx, _, _, rfl, s1 _ _ e1, T.cl_History, T.n_History_past, S_lk_past, .inl ⟨rfl, _, SqL.of (s1 _ _ e2)⟩, _, rfl, hx, C_History, dx, _, _, rfl, s1 _ _ e1, T.cl_History, T.n_History_world, S_lk_world, lp, _, _, rfl, rfl, s1 _ _ e2, sz64 (by omega), ?_⟩
      have hl := ins_ne e1 e3
      have hp := ins_ne e1 e2
      have e1' : upd (upd H t (HO.lst [])) lp (HO.lst (vp ++ [V.ref r])) hx = some (HO.ins C_History dx (SL (.ref r) (.ref lp) (.ref lu))) := (upd_ne hp).trans (s1 _ _ e1)
      have e3' : upd (upd H t (HO.lst [])) lp (HO.lst (vp ++ [V.ref r])) lu = some (HO.lst (us ++ [V.ref q])) := (upd_ne n.symm).trans (s1 _ _ e3)
      refine ⟨_, rfl, hx, C_History, dx, _, _, rfl, e1', T.cl_History, T.n_History_undone, S_lk_undone, .inl ⟨rfl, _, SqL.of e3'⟩, lu, _, V.ref q, rfl, rfl, e3', ?_, _, rfl, hx, C_History, dx, _, rfl, (upd_ne hl).trans e1', T.cl_History, T.n_History_world, S_len, ?_⟩
      · rw [List.length_append]
        simp
      · rw [S_put_world, List.dropLast_concat]
        have b : But H (upd (upd (upd (upd H t (HO.lst [])) lp (HO.lst (vp ++ [V.ref r]))) lu (HO.lst us)) hx (HO.ins C_History dx (SL (.ref q) (.ref lp) (.ref lu)))) [hx, lp, lu] := (((But.of_same s1).set (by simp)).set (by simp)).set (by simp)
        refine ⟨_, rfl, hx, C_History, dx, _, _, rfl, upd_same, T.cl_History, T.n_History_undone, S_lk_undone, lu, us, rfl, .inl (SqL.of ((upd_ne hl.symm).trans upd_same)), ?_⟩
        show Q (V.int ((us.length : Nat) : Int)) _
        rw [lus]
        have tk : (now :: undo).take Kh413.BACK = now :: undo := by
          refine List.take_of_length_le ?_
          show undo.length + 1 ≤ 10
          omega
        refine k _ lp lu b ⟨dx, q, vp ++ [V.ref r], us, upd_same, ?_, (upd_ne hl.symm).trans upd_same, n, kx.but b e1 e2 e3 (.inl rfl) (.inl rfl), ?_, ka.but b e1 e2 e3 (.inl rfl) (.inl rfl), ?_, fre.but b e1 (.inl rfl) (.inl rfl)⟩ (.inl rfl) (.inl rfl)
        · rw [upd_ne hp.symm, upd_ne n, upd_same]
        · show KsAt C_Deed C_World _ B lp lu (vp ++ [V.ref r]) ((now :: undo).take Kh413.BACK).reverse
          rw [tk, List.reverse_cons]
          exact (ku.but b e1 e2 e3 (.inl rfl) (.inl rfl)).snoc (kn.but b e1 e2 e3 (.inl rfl) (.inl rfl))
        · show ((now :: undo).take Kh413.BACK).length + u.length ≤ 10
          rw [tk]
          show undo.length + 1 + u.length ≤ 10
          omega
end
end Na

set_option Elab.async false
set_option maxRecDepth 100000
set_option maxHeartbeats 4000000
namespace Na
open PySem PySem.Spec PyProof.Rows L2
open Kh413 (say does atOnce set1 given doing)
theorem begin22 {s : Option Kh413.Abs} {m c : Nat} (h : ¬ ((1 ≤ m ∧ m ≤ 4) ∧ (2 ≤ c ∧ c ≤ 4))) : doing s (.begin_ m c) = (s, say (-22)) := by
  show (match (Kh411.doing none (.begin_ m)).1 with | none => _ | some a => _) = _
  show (match (if m < 1 ∨ Kh411.FACTS < m then ((none : Option Kh411.Abs), Kh411.say (-22)) else (some ⟨m, 2 ^ (2 ^ m) - 1, []⟩, Kh411.say 0)).1 with | none => _ | some a => _) = _
  by_cases q : m < 1 ∨ Kh411.FACTS < m
  · rw [if_pos q]
  · rw [if_neg q]
    show (if c < 2 ∨ Kh413.COPIES < c then _ else _) = _
    rw [if_pos]
    have q' : ¬ (m < 1 ∨ 4 < m) := q
    show c < 2 ∨ 4 < c
    omega
theorem begin0 {s : Option Kh413.Abs} {m c : Nat} (h1 : 1 ≤ m) (h4 : m ≤ 4) (c2 : 2 ≤ c) (c4 : c ≤ 4) : doing s (.begin_ m c) = (some ⟨fresh m c, [], []⟩, say 0) := by
  show (match (if m < 1 ∨ Kh411.FACTS < m then ((none : Option Kh411.Abs), Kh411.say (-22)) else (some ⟨m, 2 ^ (2 ^ m) - 1, []⟩, Kh411.say 0)).1 with | none => _ | some a => _) = _
  have q : ¬ (m < 1 ∨ Kh411.FACTS < m) := by
    show ¬ (m < 1 ∨ 4 < m)
    omega
  rw [if_neg q]
  show (if c < 2 ∨ Kh413.COPIES < c then _ else _) = _
  rw [if_neg]
  · rfl
  · show ¬ (c < 2 ∨ 4 < c)
    omega
def sp_begin (CD CW CH : Addr) : Sp := fun vs H Q _ => ∃ (A : List Addr) (hx lp lu : Addr) (s : Option Kh413.Abs) (m c : Nat), vs = [.ref hx, nV m, nV c] ∧ HistAt CD CW CH H A hx lp lu s ∧ HChg CD CW CH H A Q hx lp lu (doing s (.begin_ m c)).1 (.int (doing s (.begin_ m c)).2.ret)
def sp_tell (K : PySem.W.Frag) (CD CW : Addr) : Sp := fun vs H Q _ => ∃ (a ld lt ls p : Addr) (w : Kh413.Work) (n : Nat) (ns : List Nat) (c : Kh413.Call), vs = [.ref a, nV n, .ref p] ∧ SqL K H p (nVs ns) ∧ IsT n ns c ∧ (∀ x, x ∈ ns → x < 2 ^ 31) ∧ WorldAt CD CW H a ld lt ls w ∧ WF w ∧
  Changes CD CW H Q a ld lt ls (does w c)
def sp_change (K : PySem.W.Frag) (CD CW : Addr) : Sp := fun vs H Q _ => ∃ (a ld lt ls p : Addr) (w : Kh413.Work) (n : Nat) (ns : List Nat) (c : Kh413.Call), vs = [.ref a, nV n, .ref p] ∧ SqL K H p (nVs ns) ∧ IsC n ns c ∧ (∀ x, x ∈ ns → x < 2 ^ 31) ∧ WorldAt CD CW H a ld lt ls w ∧ WF w ∧
  Changes CD CW H Q a ld lt ls (does w c)
def sp_change_and_keep (K : PySem.W.Frag) (CD CW CH : Addr) : Sp := fun vs H Q _ => ∃ (A : List Addr) (hx lp lu p : Addr) (a : Kh413.Abs) (n : Nat) (ns : List Nat) (c : Kh413.Call), vs = [.ref hx, nV n, .ref p] ∧ HistAt CD CW CH H A hx lp lu (some a) ∧ SqL K H p (nVs ns) ∧ IsC n ns c ∧ (∀ x, x ∈ ns → x < 2 ^ 31) ∧
  HChg CD CW CH H A Q hx lp lu (doing (some a) c).1 (.int (doing (some a) c).2.ret)
theorem at0 {x : Nat} {r : List Nat} : atI (nVs (x :: r)) ((0 : Int)) = some (nV x) := nVs_at (i := 0) rfl
theorem at1 {x y : Nat} {r : List Nat} : atI (nVs (x :: y :: r)) ((1 : Int)) = some (nV y) := nVs_at (i := 1) rfl
theorem at2 {x y z : Nat} {r : List Nat} : atI (nVs (x :: y :: z :: r)) ((2 : Int)) = some (nV z) := nVs_at (i := 2) rfl
theorem at3 {x y z u : Nat} {r : List Nat} : atI (nVs (x :: y :: z :: u :: r)) ((3 : Int)) = some (nV u) := nVs_at (i := 3) rfl
/-- lo <= x <= hi, as a test -/
theorem ch {lo hi : Int} {i x : Nat} {σ : L2.St} {H : Hp} {Q : Bool → Hp → Prop} (e : σ[i]? = some (some (nV x))) (h : Q (decide (lo ≤ (x : Int)) && decide ((x : Int) ≤ hi)) H) :
    tTest (tChain (rI0 fun i j => V.bl (decide (i ≤ j))) (rI0 fun i j => V.bl (decide (i ≤ j))) (tC (V.int lo)) (tVar i) (tC (V.int hi))) σ H Q := by
  refine ⟨_, e, _, _, rfl, rfl, _, rfl, ?_⟩
  cases c : decide (lo ≤ (x : Int)) with
  | true =>
    rw [c] at h
    exact if_true_of rfl ⟨_, _, rfl, rfl, _, rfl, h⟩
  | false =>
    rw [c] at h
    exact if_false_of rfl ⟨_, rfl, h⟩
section
variable {P : Program} {w : World} {K : PySem.W.Frag} {mg : Str → Option Value} {base : Heap} {C_Deed C_World C_History Z_SIZES : Addr}
theorem ok_History_go_on_with (T : Txt K mg C_Deed C_World C_History Z_SIZES) : CanM P w K mg base 1 C_History "go_on_with" (sp_go_on_with C_Deed C_World C_History) := by
  refine T.d_History_go_on_with.ok sc_History_go_on_with (fun vs H Q E h => ?_) (fun f cdv A outer s H vs Q E hr h => ⟨_, (pss_cons (ps_fld (pv 0) (pe_lst pa_nil) rfl)
      (pss_cons (ps_expr (pe_bm PySem.F.plainAttrs_list PySem.F.slot_list_append PySem.F.type_list_append mt_append (pe_fld (pv 0) rfl) (pa_cons (pe_fld (pv 0) rfl) pa_nil)))
      (pss_cons (ps_if (pt_cmpR op_gt (pe_callB call_len_seq (by rfl) T.b_len PySem.boot_len (pa_cons (pe_fld (pv 0) rfl) pa_nil)) (pe_con T.c_MOST_TAKEN_BACK rfl) (nomark _))
      (pss_one (ps_expr (pe_bm PySem.F.plainAttrs_list PySem.F.slot_list_pop PySem.F.type_list_pop mt_popAt (pe_fld (pv 0) rfl) (pa_cons pe_int pa_nil))))
      pss_nil)
      (pss_one (ps_fld (pv 0) (pv 1) rfl))))), ?_⟩)
  · obtain ⟨B, hx, lp, lu, r, a, w, rfl, _⟩ := h
    rfl
  · obtain ⟨B, hx, lp, lu, r, a, w, rfl, hH, kw, k⟩ := h
    obtain ⟨dx, r0, vp, vu, e1, e2, e3, n, kn, ku, kr, l10, fre⟩ := id hH
    obtain ⟨now, undo, redo⟩ := a
    have hp := ins_ne e1 e2
    have lr : vp.length = undo.length := by
      have := ku.len
      rw [List.length_reverse] at this
      exact this
    have l10' : undo.length + redo.length ≤ 10 := l10
    refine ⟨Nat.zero_le _, fun l1 h1 => ⟨_, rfl, hx, C_History, dx, _, rfl, (upd_ne (ne_of_none e1 h1)).trans e1, T.cl_History, T.n_History_undone, S_len, ?_⟩⟩
    rw [S_put_undone]
    have l1x : l1 ≠ hx := (ne_of_none e1 h1).symm
    have l1p : l1 ≠ lp := (ne_of_none e2 h1).symm
    have b1 : But H (upd (upd H l1 (HO.lst [])) hx (HO.ins C_History dx (SL (.ref r0) (.ref lp) (.ref l1)))) [hx, lp, lu] := ((But.refl H _).new h1).set (by simp)
    have e2' : upd (upd H l1 (HO.lst [])) hx (HO.ins C_History dx (SL (.ref r0) (.ref lp) (.ref l1))) lp = some (HO.lst vp) := (upd_ne hp.symm).trans ((upd_ne l1p.symm).trans e2)
    refine ⟨_, rfl, hx, C_History, dx, _, _, rfl, upd_same, T.cl_History, T.n_History_past, S_lk_past, .inl ⟨rfl, _, SqL.of e2'⟩, _, rfl, hx, C_History, dx, _, _, rfl, upd_same, T.cl_History, T.n_History_world, S_lk_world, lp, _, _, rfl, rfl, e2', sz64 (by omega), ?_⟩
    have b2 := b1.set (p := lp) (o := HO.lst (vp ++ [V.ref r0])) (by simp)
    refine ⟨_, rfl, hx, C_History, dx, _, _, rfl, (upd_ne hp).trans upd_same, T.cl_History, T.n_History_past, S_lk_past, lp, _, rfl, .inl (SqL.of upd_same), _, _, rfl, rfl, _, rfl, if_both (fun c => ?_) (fun c => ?_)⟩
    · have q := of_decide_eq_true c
      rw [List.length_append] at q
      have lu10 : undo.length = 10 := by
        have : ((vp.length + 1 : Nat) : Int) > 10 := q
        omega
      refine ⟨_, rfl, hx, C_History, dx, _, _, rfl, (upd_ne hp).trans upd_same, T.cl_History, T.n_History_past, S_lk_past, .inl ⟨rfl, _, SqL.of upd_same⟩, lp, _, _, 0, _, rfl, rfl, upd_same, by decide, by decide, seqIx (i := 0) (by rw [List.length_append]; exact Nat.succ_pos _), List.getElem?_eq_getElem (by rw [List.length_append]; exact Nat.succ_pos _), ?_⟩
      refine ⟨_, rfl, _, rfl, hx, C_History, dx, _, rfl, (upd_ne hp).trans ((upd_ne hp).trans upd_same), T.cl_History, T.n_History_world, S_len, ?_⟩
      rw [S_put_world, List.eraseIdx_zero]
      have b := (b2.set (p := lp) (o := HO.lst (vp ++ [V.ref r0]).tail) (by simp)).set (p := hx) (o := HO.ins C_History dx (SL (.ref r) (.ref lp) (.ref l1))) (by simp)
      have tk : ((now :: undo).take 10).reverse = (undo.reverse ++ [now]).tail := by
        rw [List.reverse_take, List.reverse_cons, List.length_cons, lu10, List.drop_one]
      refine k _ lp l1 b ⟨dx, r, (vp ++ [V.ref r0]).tail, [], upd_same, (upd_ne hp.symm).trans upd_same, ?_, l1p.symm, kw.but b e1 e2 e3 (.inl rfl) (.inr h1), ?_, .nil, ?_, fre.but b e1 (.inl rfl) (.inr h1)⟩ (.inl rfl) (.inr h1)
      · rw [upd_ne l1x, upd_ne l1p, upd_ne l1p, upd_ne l1x, upd_same]
      · show KsAt C_Deed C_World _ B lp l1 _ ((now :: undo).take 10).reverse
        rw [tk]
        exact ((ku.but b e1 e2 e3 (.inl rfl) (.inr h1)).snoc (kn.but b e1 e2 e3 (.inl rfl) (.inr h1))).tail
      · show ((now :: undo).take 10).length + 0 ≤ 10
        rw [List.length_take]
        omega
    · have q := of_decide_eq_false c
      rw [List.length_append] at q
      have lu10 : undo.length < 10 := by
        have : ¬ ((vp.length + 1 : Nat) : Int) > 10 := q
        omega
      refine ⟨_, rfl, _, rfl, hx, C_History, dx, _, rfl, (upd_ne hp).trans upd_same, T.cl_History, T.n_History_world, S_len, ?_⟩
      rw [S_put_world]
      have b := b2.set (p := hx) (o := HO.ins C_History dx (SL (.ref r) (.ref lp) (.ref l1))) (by simp)
      have tk : (now :: undo).take 10 = now :: undo := List.take_of_length_le (by rw [List.length_cons]; omega)
      refine k _ lp l1 b ⟨dx, r, vp ++ [V.ref r0], [], upd_same, (upd_ne hp.symm).trans upd_same, ?_, l1p.symm, kw.but b e1 e2 e3 (.inl rfl) (.inr h1), ?_, .nil, ?_, fre.but b e1 (.inl rfl) (.inr h1)⟩ (.inl rfl) (.inr h1)
      · rw [upd_ne l1x, upd_ne l1p, upd_ne l1x, upd_same]
      · show KsAt C_Deed C_World _ B lp l1 _ ((now :: undo).take 10).reverse
        rw [tk, List.reverse_cons]
        exact (ku.but b e1 e2 e3 (.inl rfl) (.inr h1)).snoc (kn.but b e1 e2 e3 (.inl rfl) (.inr h1))
      · show ((now :: undo).take 10).length + 0 ≤ 10
        rw [tk, List.length_cons]
        omega
theorem ok_begin (T : Txt K mg C_Deed C_World C_History Z_SIZES) : Can P w K mg base 3 "begin" (sp_begin C_Deed C_World C_History) := by
  refine T.d_begin.ok sc_begin (fun vs H Q E h => ?_) (fun f cdv A outer s H vs Q E hr h => ⟨_, (pss_cons (ps_if (PW.pt (pw_or (pt_not (pt_chain op_le op_le pe_int (pv 1) pe_int)) (pw_or1 (pt_not (pt_chain op_le op_le pe_int (pv 2) pe_int)))))
      (pss_one (ps_ret (pe_con T.c_NOT_AS_TOLD rfl)))
      pss_nil)
      (pss_cons (ps_expr (pe_canM (ok_History_start_with T) T.cl_History hr (by decide) (pv 0) (pa_cons (pe_canI (ok_World_init T) hr (by decide) rfl (pa_cons (pv 1) (pa_cons (pv 2) pa_nil))) pa_nil)))
      (pss_one (ps_ret pe_int)))), ?_⟩)
  · obtain ⟨B, hx, lp, lu, s, m, c, rfl, _⟩ := h
    rfl
  · obtain ⟨B, hx, lp, lu, s, m, c, rfl, hH, k⟩ := h
    obtain ⟨dx, v, xs, ys, e1, e2, e3, n, fre⟩ := hH.places
    have no : ¬ ((1 ≤ m ∧ m ≤ 4) ∧ (2 ≤ c ∧ c ≤ 4)) → Q (.int (-22)) H := fun q => by
      rw [begin22 q] at k
      exact k H lp lu (But.refl _ _) hH (.inl rfl) (.inl rfl)
    refine ch rfl ?_
    refine if_both (fun c1 => if_true_of rfl (no ?_)) (fun c1 => ?_)
    · intro q
      simp only [Bool.not_eq_true', Bool.and_eq_false_iff, decide_eq_false_iff_not] at c1
      omega
    · have m14 : 1 ≤ m ∧ m ≤ 4 := by
        simp only [Bool.not_eq_false', Bool.and_eq_true, decide_eq_true_eq] at c1
        omega
      refine ch rfl ?_
      refine if_both (fun c2 => no ?_) (fun c2 => ?_)
      · intro q
        simp only [Bool.not_eq_true', Bool.and_eq_false_iff, decide_eq_false_iff_not] at c2
        omega
      · have c24 : 2 ≤ c ∧ c ≤ 4 := by
          simp only [Bool.not_eq_false', Bool.and_eq_true, decide_eq_true_eq] at c2
          omega
        rw [begin0 m14.1 m14.2 c24.1 c24.2] at k
        refine ⟨_, rfl, hx, dx, _, rfl, e1, S_no_start_with, _, rfl, _, rfl, fun x dy nx nd ne => ?_⟩
        refine ⟨x, dy, m, c, rfl, upd_same, m14.2, c24.2, fun H1 l1 l2 l3 hW b1 f1 f2 f3 => ⟨rfl, ?_⟩⟩
        have s1 : Same H H1 := fun b o e => b1 b o (by rw [upd_ne (ne_of_none e nx), upd_ne (ne_of_none e nd)]; exact e) (by simpa using ne_of_none e nx)
        have q1 := upd_free.mp f1
        have q2 := upd_free.mp f2
        have q3 := upd_free.mp f3
        refine ⟨B, hx, lp, lu, x, l1, l2, l3, s, fresh m c, rfl, hH.mono s1, hW, wf_fresh m14.1 m14.2 c24.1 c24.2, fre.new (upd_free.mp q1.2).2, fre.new (upd_free.mp q2.2).2, fre.new (upd_free.mp q3.2).2, fun H2 lp' lu' b2 hH2 n1 n2 => ?_⟩
        refine k H2 lp' lu' (fun b o e nb => b2 b o (s1 b o e) nb) hH2 ?_ ?_
        · exact n1.imp id s1.free
        · exact n2.imp id s1.free
theorem ok_tell (T : Txt K mg C_Deed C_World C_History Z_SIZES) : Can P w K mg base 9 "tell" (sp_tell K C_Deed C_World) := by
  refine T.d_tell.ok sc_tell (fun vs H Q E h => ?_) (fun f cdv A outer s H vs Q E hr h => ⟨_, (pss_cons (ps_if (pt_cmpR op_eq (pv 1) (pe_con T.c_RULE rfl) (nomark _))
      (pss_one (ps_ret (pe_can (ok_tell_rule T) hr (by decide) rfl (pa_cons (pv 0) (pa_cons (pe_ix ix_list (pv 2) pe_int (fun _ _ => rfl)) pa_nil)))))
      pss_nil)
      (pss_cons (ps_if (pt_cmpR op_eq (pv 1) (pe_con T.c_DEED rfl) (nomark _))
      (pss_one (ps_ret (pe_can (ok_tell_deed T) hr (by decide) rfl (pa_cons (pv 0) (pa_cons (pe_canI (ok_Deed_init T) hr (by decide) rfl (pa_cons (pe_ix ix_list (pv 2) pe_int (fun _ _ => rfl)) (pa_cons (pe_ix ix_list (pv 2) pe_int (fun _ _ => rfl)) (pa_cons (pe_ix ix_list (pv 2) pe_int (fun _ _ => rfl)) (pa_cons (pe_ix ix_list (pv 2) pe_int (fun _ _ => rfl)) pa_nil))))) pa_nil)))))
      pss_nil)
      (pss_cons (ps_if (pt_cmpR op_eq (pv 1) (pe_con T.c_DROP rfl) (nomark _))
      (pss_one (ps_ret (pe_can (ok_drop_deed T) hr (by decide) rfl (pa_cons (pv 0) (pa_cons (pe_ix ix_list (pv 2) pe_int (fun _ _ => rfl)) pa_nil)))))
      pss_nil)
      (pss_cons (ps_if (pt_cmpR op_eq (pv 1) (pe_con T.c_ALLOW rfl) (nomark _))
      (pss_one (ps_ret (pe_can (ok_allow_deeds T) hr (by decide) rfl (pa_cons (pv 0) (pa_cons (pe_ix ix_list (pv 2) pe_int (fun _ _ => rfl)) pa_nil)))))
      pss_nil)
      (pss_cons (ps_if (pt_cmpR op_eq (pv 1) (pe_con T.c_SET rfl) (nomark _))
      (pss_one (ps_ret (pe_can (ok_set_state T) hr (by decide) rfl (pa_cons (pv 0) (pa_cons (pe_ix ix_list (pv 2) pe_int (fun _ _ => rfl)) pa_nil)))))
      pss_nil)
      (pss_one (ps_ret (pe_can (ok_tell_answer T) hr (by decide) rfl (pa_cons (pv 0) (pa_cons (pe_ix ix_list (pv 2) pe_int (fun _ _ => rfl)) (pa_cons (pe_ix ix_list (pv 2) pe_int (fun _ _ => rfl)) pa_nil))))))))))), ?_⟩)
  · obtain ⟨a, ld, lt, ls, p, w, n, ns, c, rfl, _⟩ := h
    rfl
  · obtain ⟨a, ld, lt, ls, p, w, n, ns, c, rfl, hp, ht, h31, hW, hf, k⟩ := h
    cases ht with
    | rule r =>
      refine ⟨_, rfl, rfl, _, rfl, if_true_of rfl ?_⟩
      exact ⟨_, rfl, _, rfl, p, _, _, _, rfl, rfl, hp, at0, a, ld, lt, ls, w, r, rfl, hW, hf, k⟩
    | deed x0 x1 x2 x3 =>
      refine ⟨_, rfl, rfl, _, rfl, if_false_of rfl ?_⟩
      refine ⟨_, rfl, rfl, _, rfl, if_true_of rfl ?_⟩
      refine ⟨_, rfl, _, rfl, p, _, _, _, rfl, rfl, hp, at0, _, rfl, p, _, _, _, rfl, rfl, hp, at1, _, rfl, p, _, _, _, rfl, rfl, hp, at2, _, rfl, p, _, _, _, rfl, rfl, hp, at3, fun x dy nx nd ne => ?_⟩
      refine ⟨x, dy, ⟨x0, x1, x2, x3⟩, rfl, upd_same, fun H1 hd b1 => ⟨rfl, ?_⟩⟩
      have s1 : Same H H1 := fun b o e => b1 b o (by rw [upd_ne (ne_of_none e nx), upd_ne (ne_of_none e nd)]; exact e) (ne_of_none e nx)
      refine ⟨a, ld, lt, ls, x, w, ⟨x0, x1, x2, x3⟩, rfl, hW.mono s1, hf, hd, fun H2 b2 af => k H2 (fun b o e nb => b2 b o (s1 b o e) nb) fun z => ?_⟩
      obtain ⟨ld', lt', ls', w', q1, q2, q3⟩ := af z
      exact ⟨ld', lt', ls', w', q1.imp id s1.free, q2.imp id s1.free, q3.imp id s1.free⟩
    | drop i =>
      refine ⟨_, rfl, rfl, _, rfl, if_false_of rfl ?_⟩
      refine ⟨_, rfl, rfl, _, rfl, if_false_of rfl ?_⟩
      refine ⟨_, rfl, rfl, _, rfl, if_true_of rfl ?_⟩
      exact ⟨_, rfl, _, rfl, p, _, _, _, rfl, rfl, hp, at0, a, ld, lt, ls, w, i, rfl, h31 i List.mem_cons_self, hW, hf, k⟩
    | allow x =>
      refine ⟨_, rfl, rfl, _, rfl, if_false_of rfl ?_⟩
      refine ⟨_, rfl, rfl, _, rfl, if_false_of rfl ?_⟩
      refine ⟨_, rfl, rfl, _, rfl, if_false_of rfl ?_⟩
      refine ⟨_, rfl, rfl, _, rfl, if_true_of rfl ?_⟩
      exact ⟨_, rfl, _, rfl, p, _, _, _, rfl, rfl, hp, at0, a, ld, lt, ls, w, x, rfl, hW, hf, k⟩
    | set s =>
      refine ⟨_, rfl, rfl, _, rfl, if_false_of rfl ?_⟩
      refine ⟨_, rfl, rfl, _, rfl, if_false_of rfl ?_⟩
      refine ⟨_, rfl, rfl, _, rfl, if_false_of rfl ?_⟩
      refine ⟨_, rfl, rfl, _, rfl, if_false_of rfl ?_⟩
      refine ⟨_, rfl, rfl, _, rfl, if_true_of rfl ?_⟩
      exact ⟨_, rfl, _, rfl, p, _, _, _, rfl, rfl, hp, at0, a, ld, lt, ls, w, s, rfl, hW, hf, k⟩
    | answer s v =>
      refine ⟨_, rfl, rfl, _, rfl, if_false_of rfl ?_⟩
      refine ⟨_, rfl, rfl, _, rfl, if_false_of rfl ?_⟩
      refine ⟨_, rfl, rfl, _, rfl, if_false_of rfl ?_⟩
      refine ⟨_, rfl, rfl, _, rfl, if_false_of rfl ?_⟩
      refine ⟨_, rfl, rfl, _, rfl, if_false_of rfl ?_⟩
      exact ⟨_, rfl, _, rfl, p, _, _, _, rfl, rfl, hp, at0, _, rfl, p, _, _, _, rfl, rfl, hp, at1, a, ld, lt, ls, w, s, v, rfl, hW, hf, k⟩
theorem ok_change (T : Txt K mg C_Deed C_World C_History Z_SIZES) : Can P w K mg base 10 "change" (sp_change K C_Deed C_World) := by
  refine T.d_change.ok sc_change (fun vs H Q E h => ?_) (fun f cdv A outer s H vs Q E hr h => ⟨_, (pss_cons (ps_if (pt_cmpR op_eq (pv 1) (pe_con T.c_DO rfl) (nomark _))
      (pss_one (ps_ret (pe_can (ok_do_deed T) hr (by decide) rfl (pa_cons (pv 0) (pa_cons (pe_ix ix_list (pv 2) pe_int (fun _ _ => rfl)) (pa_cons (pe_ix ix_list (pv 2) pe_int (fun _ _ => rfl)) pa_nil))))))
      pss_nil)
      (pss_cons (ps_if (pt_cmpR op_eq (pv 1) (pe_con T.c_ASK rfl) (nomark _))
      (pss_one (ps_ret (pe_can (ok_ask_deed T) hr (by decide) rfl (pa_cons (pv 0) (pa_cons (pe_ix ix_list (pv 2) pe_int (fun _ _ => rfl)) pa_nil)))))
      pss_nil)
      (pss_cons (ps_if (pt_cmpR op_eq (pv 1) (pe_con T.c_GATHER rfl) (nomark _))
      (pss_one (ps_ret (pe_can (ok_gather T) hr (by decide) rfl (pa_cons (pv 0) pa_nil))))
      pss_nil)
      (pss_one (ps_ret (pe_can (ok_tell T) hr (by decide) rfl (pa_cons (pv 0) (pa_cons (pv 1) (pa_cons (pv 2) pa_nil))))))))), ?_⟩)
  · obtain ⟨a, ld, lt, ls, p, w, n, ns, c, rfl, _⟩ := h
    rfl
  · obtain ⟨a, ld, lt, ls, p, w, n, ns, c, rfl, hp, ht, h31, hW, hf, k⟩ := h
    cases ht with
    | do_ c i =>
      refine ⟨_, rfl, rfl, _, rfl, if_true_of rfl ?_⟩
      exact ⟨_, rfl, _, rfl, p, _, _, _, rfl, rfl, hp, at0, _, rfl, p, _, _, _, rfl, rfl, hp, at1, a, ld, lt, ls, w, c, i, rfl, hW, hf, k⟩
    | ask i =>
      refine ⟨_, rfl, rfl, _, rfl, if_false_of rfl ?_⟩
      refine ⟨_, rfl, rfl, _, rfl, if_true_of rfl ?_⟩
      exact ⟨_, rfl, _, rfl, p, _, _, _, rfl, rfl, hp, at0, a, ld, lt, ls, w, i, rfl, hW, hf, k⟩
    | gather =>
      refine ⟨_, rfl, rfl, _, rfl, if_false_of rfl ?_⟩
      refine ⟨_, rfl, rfl, _, rfl, if_false_of rfl ?_⟩
      refine ⟨_, rfl, rfl, _, rfl, if_true_of rfl ?_⟩
      exact ⟨_, rfl, a, ld, lt, ls, w, rfl, hW, hf, k⟩
    | tell t =>
      have lo : n = 1 ∨ n = 2 ∨ n = 3 ∨ n = 4 ∨ n = 5 ∨ n = 6 := by cases t <;> simp
      have d7 : decide (nV n = V.int 7) = false := by rcases lo with rfl | rfl | rfl | rfl | rfl | rfl <;> rfl
      have d8 : decide (nV n = V.int 8) = false := by rcases lo with rfl | rfl | rfl | rfl | rfl | rfl <;> rfl
      have d9 : decide (nV n = V.int 9) = false := by rcases lo with rfl | rfl | rfl | rfl | rfl | rfl <;> rfl
      refine ⟨_, rfl, rfl, _, rfl, if_false_of d7 ?_⟩
      refine ⟨_, rfl, rfl, _, rfl, if_false_of d8 ?_⟩
      refine ⟨_, rfl, rfl, _, rfl, if_false_of d9 ?_⟩
      exact ⟨_, rfl, _, rfl, _, rfl, a, ld, lt, ls, p, w, n, ns, c, rfl, hp, t, h31, hW, hf, k⟩
theorem ok_change_and_keep (T : Txt K mg C_Deed C_World C_History Z_SIZES) : Can P w K mg base 11 "change_and_keep" (sp_change_and_keep K C_Deed C_World C_History) := by
  refine T.d_change_and_keep.ok sc_change_and_keep (fun vs H Q E h => ?_) (fun f cdv A outer s H vs Q E hr h => ⟨_, (pss_cons (ps_set (i := 3) sc_change_and_keep.nd rfl (Or.inl rfl) (pe_can (ok_twin T) hr (by decide) rfl (pa_cons (pe_fld (pv 0) rfl) pa_nil)))
      (pss_cons (ps_set (i := 4) sc_change_and_keep.nd rfl (Or.inl rfl) (pe_can (ok_change T) hr (by decide) rfl (pa_cons (pv 3) (pa_cons (pv 1) (pa_cons (pv 2) pa_nil)))))
      (pss_cons (ps_if (pt_cmpR op_ge (pv 4) pe_int (nomark _))
      (pss_one (ps_expr (pe_canM (ok_History_go_on_with T) T.cl_History hr (by decide) (pv 0) (pa_cons (pv 3) pa_nil))))
      pss_nil)
      (pss_one (ps_ret (pv 4)))))), ?_⟩)
  · obtain ⟨B, hx, lp, lu, p, a, n, ns, c, rfl, _⟩ := h
    rfl
  · obtain ⟨B, hx, lp, lu, p, a, n, ns, c, rfl, hH, hp, hc, h31, k⟩ := h
    obtain ⟨dx, r, vp, vu, e1, e2, e3, nn, kn, ku, kr, l10, fre⟩ := id hH
    obtain ⟨ld, lt, ls, hW, hf, _⟩ := kn
    refine ⟨_, rfl, hx, C_History, dx, _, _, rfl, e1, T.cl_History, T.n_History_world, S_lk_world, r, ld, lt, ls, a.now, rfl, hW, hf, fun H1 a1 d1 t1 q1 s1 hW1 fa fd ft fq => ?_⟩
    refine ⟨_, rfl, _, rfl, _, rfl, a1, d1, t1, q1, p, a.now, n, ns, c, rfl, s1.seq hp, hc, h31, hW1, hf, fun H2 b2 af => ?_⟩
    have s2 : Same H H2 := fun b o e => b2 b o (s1 b o e) (by
      simp only [List.mem_cons, List.not_mem_nil, or_false]
      rintro (z | z | z | z)
      · rw [z, fa] at e; cases e
      · rw [z, fd] at e; cases e
      · rw [z, ft] at e; cases e
      · rw [z, fq] at e; cases e)
    have ds : doing (some a) c = if Kh413.changes c && decide (0 ≤ (does a.now c).2.ret) then (some ⟨(does a.now c).1, (a.now :: a.undo).take Kh413.BACK, []⟩, (does a.now c).2) else (some a, (does a.now c).2) := by
      cases hc with
      | tell t => cases t <;> rfl
      | do_ => rfl
      | ask => rfl
      | gather => rfl
    rw [hc.changes, Bool.true_and] at ds
    refine ⟨_, rfl, _, _, rfl, rfl, _, rfl, if_both (fun c1 => ?_) (fun c1 => ?_)⟩
    · rw [if_pos c1] at ds
      have hz : 0 ≤ (does a.now c).2.ret := of_decide_eq_true c1
      obtain ⟨ld', lt', ls', hW2, g1, g2, g3⟩ := af hz
      have sep : ∀ {x y : Addr}, (x = y ∨ H1 x = none) → H y = none → H x = none := fun h1 h2 => by
        rcases h1 with z | z
        · rw [z]; exact h2
        · exact s1.free z
      have f1 := sep g1 fd
      have f2 := sep g2 ft
      have f3 := sep g3 fq
      have e1' := s2 _ _ e1
      refine ⟨_, rfl, hx, dx, _, rfl, e1', S_no_go_on_with, _, rfl, B, hx, lp, lu, a1, a, (does a.now c).1, rfl, hH.mono s2, ⟨ld', lt', ls', hW2, wf_does hf hc.changes hz, ⟨(ne_of_none e2 f1).symm, (ne_of_none e3 f1).symm, fre.new f1⟩, ⟨(ne_of_none e2 f2).symm, (ne_of_none e3 f2).symm, fre.new f2⟩, ⟨(ne_of_none e2 f3).symm, (ne_of_none e3 f3).symm, fre.new f3⟩⟩, fun H3 lp' lu' b3 hH3 n1 n2 => ⟨_, rfl, ?_⟩⟩
      rw [ds] at k
      exact k H3 lp' lu' (fun b o e nb => b3 b o (s2 b o e) nb) hH3 (n1.imp id s2.free) (n2.imp id s2.free)
    · rw [if_neg (by rw [c1]; decide)] at ds
      rw [ds] at k
      exact ⟨_, rfl, k H2 lp lu (But.of_same s2) (hH.mono s2) (.inl rfl) (.inl rfl)⟩
end
end Na

set_option Elab.async false
set_option maxRecDepth 100000
set_option maxHeartbeats 4000000
namespace Na
open PySem PySem.Spec PyProof.Rows L2
open Kh413 (say does atOnce set1 given doing)
/-- the calls, taken apart: tuples of a number and a list; the lists are in A -/
inductive CallsAt (H : Hp) (A : List Addr) : List V → List (Nat × List Nat) → Prop
  | nil : CallsAt H A [] []
  | cons {t q : Addr} {c : Nat × List Nat} {ts : List V} {cs : List (Nat × List Nat)} : H t = some (.tup [nV c.1, .ref q]) → H q = some (.lst (nVs c.2)) → q ∈ A → CallsAt H A ts cs → CallsAt H A (.ref t :: ts) (c :: cs)
theorem CallsAt.len {H : Hp} {A : List Addr} {ts : List V} {cs : List (Nat × List Nat)} (h : CallsAt H A ts cs) : ts.length = cs.length := by
  induction h with
  | nil => rfl
  | cons _ _ _ _ ih => simp [ih]
theorem CallsAt.get {H : Hp} {A : List Addr} {ts : List V} {cs : List (Nat × List Nat)} (h : CallsAt H A ts cs) : ∀ {i : Nat} {v : V}, ts[i]? = some v → ∃ t q c, v = .ref t ∧ cs[i]? = some c ∧ H t = some (.tup [nV c.1, .ref q]) ∧ H q = some (.lst (nVs c.2)) ∧ q ∈ A := by
  induction h with
  | nil =>
    intro i v e
    simp at e
  | cons a b m _ ih =>
    intro i v e
    cases i with
    | zero =>
      have e' := Option.some.inj e
      subst e'
      exact ⟨_, _, _, rfl, rfl, a, b, m⟩
    | succ i => exact ih e
/-- it stands where its tuples and lists stand -/
theorem CallsAt.move {H H' : Hp} {A A' : List Addr} {ts : List V} {cs : List (Nat × List Nat)} (h : CallsAt H A ts cs) (h1 : ∀ t xs, H t = some (.tup xs) → H' t = some (.tup xs)) (h2 : ∀ q xs, q ∈ A → H q = some (.lst xs) → H' q = some (.lst xs)) (h3 : ∀ q, q ∈ A → q ∈ A') : CallsAt H' A' ts cs := by
  induction h with
  | nil => exact .nil
  | cons a b m _ ih => exact .cons (h1 _ _ a) (h2 _ _ m b) (h3 _ m) ih
theorem CallsAt.snoc {H : Hp} {A : List Addr} {ts : List V} {cs : List (Nat × List Nat)} {t q : Addr} {c : Nat × List Nat} (h : CallsAt H A ts cs) (a : H t = some (.tup [nV c.1, .ref q])) (b : H q = some (.lst (nVs c.2))) (m : q ∈ A) : CallsAt H A (ts ++ [V.ref t]) (cs ++ [c]) := by
  induction h with
  | nil => exact .cons a b m .nil
  | cons a' b' m' _ ih => exact .cons a' b' m' ih
theorem flat_app (a b : List (Nat × List Nat)) : flatC (a ++ b) = flatC a ++ flatC b := List.flatMap_append
theorem flat_one (c : Nat × List Nat) : flatC [c] = c.1 :: c.2 := by
  show (c.1 :: c.2) ++ [] = _
  rw [List.append_nil]
theorem flat_len : ∀ cs : List (Nat × List Nat), cs.length ≤ (flatC cs).length
  | [] => Nat.le_refl _
  | x :: r => by
    show r.length + 1 ≤ ((x.1 :: x.2) ++ flatC r).length
    rw [List.length_append, List.length_cons]
    have := flat_len r
    omega
def sp_take_apart (K : PySem.W.Frag) : Sp := fun vs H Q _ => ∃ (a : Addr) (cs : List (Nat × List Nat)), vs = [.ref a] ∧ SqL K H a (nVs (flatC cs)) ∧ Fits cs ∧ (flatC cs).length ≤ 300 ∧
  ∀ H' p ts A, Same H H' → H p = none → H' p = some (.lst ts) → CallsAt H' A ts cs → (∀ q, q ∈ A → H q = none ∧ q ≠ p ∧ ∃ xs, H' q = some (.lst xs)) → Q (.ref p) H'
theorem cut_nV {l : List Nat} {i j : Nat} : cutV (nVs l) (some (i : Int)) (some (j : Int)) = nVs ((l.drop (min i l.length)).take (min j l.length - min i l.length)) := by
  unfold cutV
  rw [HT.sIx_nat, HT.sIx_nat, nVs_len]
  show ((List.map nV l).drop _).take _ = List.map nV _
  rw [List.map_take, List.map_drop]
theorem cut_call {pre rest : List Nat} {n : Nat} {ns : List Nat} : cutV (nVs (pre ++ (n :: ns) ++ rest)) (some ((pre.length + 1 : Nat) : Int)) (some ((pre.length + 1 + ns.length : Nat) : Int)) = nVs ns := by
  rw [cut_nV]
  congr 1
  have l : (pre ++ (n :: ns) ++ rest).length = pre.length + 1 + ns.length + rest.length := by
    simp only [List.length_append, List.length_cons]
    omega
  rw [l, Nat.min_eq_left (by omega), Nat.min_eq_left (by omega)]
  have e : pre ++ (n :: ns) ++ rest = (pre ++ [n]) ++ (ns ++ rest) := by simp
  rw [e, List.drop_left' (by simp), List.take_left' (by omega)]
section
variable {P : Program} {w : World} {K : PySem.W.Frag} {mg : Str → Option Value} {base : Heap} {C_Deed C_World C_History Z_SIZES : Addr}
theorem ok_take_apart (T : Txt K mg C_Deed C_World C_History Z_SIZES) : Can P w K mg base 1 "take_apart" (sp_take_apart K) := by
  refine T.d_take_apart.ok sc_take_apart (fun vs H Q E h => ?_) (fun f cdv A outer s H vs Q E hr h => ⟨_, (pss_cons (ps_set (i := 1) sc_take_apart.nd rfl (Or.inl rfl) (pe_lst pa_nil))
      (pss_cons (ps_set (i := 2) sc_take_apart.nd rfl (Or.inl rfl) pe_int)
      (pss_cons (ps_while PassesOwn.never (pt_cmpR op_lt (pv 2) (pe_callB call_len_seq (by rfl) T.b_len PySem.boot_len (pa_cons (pv 0) pa_nil)) (nomark _))
      (pss_cons (ps_set (i := 3) sc_take_apart.nd rfl (Or.inl rfl) (pe_op op_add (pe_op op_add (pv 2) pe_int) (pe_ix ix_tup (pe_glob (v := .ref Z_SIZES) rfl T.g_SIZES rfl) (pe_ix ix_list (pv 0) (pv 2) (fun _ _ => rfl)) (fun _ _ => rfl))))
      (pss_cons (ps_expr (pe_bm PySem.F.plainAttrs_list PySem.F.slot_list_append PySem.F.type_list_append mt_append (pv 1) (pa_cons (pe_tup (pa_cons (pe_ix ix_list (pv 0) (pv 2) (fun _ _ => rfl)) (pa_cons (pe_slice sl_list (pv 0) (po_some (pe_op op_add (pv 2) pe_int)) (po_some (pv 3))) pa_nil))) pa_nil)))
      (pss_one (ps_set (i := 2) sc_take_apart.nd rfl (Or.inl rfl) (pv 3))))))
      (pss_one (ps_ret (pv 1)))))), ?_⟩)
  · obtain ⟨a, cs, rfl, _⟩ := h
    rfl
  · obtain ⟨a, cs, rfl, ha, fit, l300, k⟩ := h
    refine ⟨Nat.zero_le _, fun F hF => ?_⟩
    refine while_by (fun σ H' => ∃ (done todo : List (Nat × List Nat)) (ts : List V) (A : List Addr) (v : Option V), cs = done ++ todo ∧ σ = [some (.ref a), some (.ref F), some (nV (flatC done).length), v] ∧ Same H H' ∧ H' F = some (.lst ts) ∧ CallsAt H' A ts done ∧ ∀ q, q ∈ A → H q = none ∧ q ≠ F ∧ ∃ xs, H' q = some (.lst xs))
      (fun σ _ => 300 - slotN σ 2) ⟨[], cs, [], [], none, rfl, rfl, same_new hF, upd_same, .nil, fun q z => by cases z⟩ ?_ ?_
    · rintro σ H1 ⟨dn, todo, ts, A, v, ecs, rfl, s1, h1, cA, sep⟩
      refine ⟨_, rfl, _, rfl, a, _, rfl, .inl (s1.seq ha), _, _, rfl, rfl, _, rfl, if_both (fun c => ?_) (fun c => ?_)⟩
      · have q := of_decide_eq_true c
        rw [nVs_len, ecs, flat_app, List.length_append] at q
        cases todo with
        | nil =>
          exact absurd q (by show ¬ ((flatC dn).length : Int) < (((flatC dn).length + 0 : Nat) : Int); omega)
        | cons x rest =>
          obtain ⟨n, ns⟩ := x
          obtain ⟨n30, nl⟩ := fit (n, ns) (by rw [ecs]; exact List.mem_append.mpr (.inr List.mem_cons_self))
          have nl' : ns.length = sizes.getD n 0 := nl
          have ef : flatC cs = flatC dn ++ (n :: ns) ++ flatC rest := by
            rw [ecs, flat_app, List.append_assoc]
            rfl
          have hat : (flatC cs)[(flatC dn).length]? = some n := by
            rw [ef, List.append_assoc, List.getElem?_append_right (Nat.le_refl _), Nat.sub_self]
            rfl
          have hsz : sizes[n]? = some ns.length := by
            have hl : n < sizes.length := n30
            rw [nl', List.getElem?_eq_getElem hl, List.getD_eq_getElem?_getD, List.getElem?_eq_getElem hl]
            rfl
          have l1 : ts.length = dn.length := cA.len
          have ldn : dn.length ≤ (flatC dn).length := flat_len dn
          have lall : (flatC dn).length + 1 + ns.length ≤ 300 := by
            rw [ef] at l300
            simp only [List.length_append, List.length_cons] at l300
            omega
          refine ⟨_, rfl, _, _, rfl, rfl, _, rfl, _, rfl, a, _, _, _, rfl, rfl, s1.seq ha, nVs_at hat, Z_SIZES, nVs sizes, _, _, rfl, rfl, T.t_SIZES H1, nVs_at hsz, _, _, rfl, rfl, ?_⟩
          refine ⟨_, rfl, .inl ⟨rfl, _, SqL.of h1⟩, _, rfl, _, rfl, a, _, _, _, rfl, rfl, s1.seq ha, nVs_at hat, _, rfl, _, rfl, _, _, rfl, rfl, _, rfl, _, rfl, _, rfl, a, _, rfl, s1.seq ha, fun L hL => ?_⟩
          have ec : cutV (nVs (flatC cs)) (some (((flatC dn).length : Int) + 1)) (some (((flatC dn).length : Int) + 1 + (ns.length : Int))) = nVs ns := by
            rw [ef]
            exact cut_call (pre := flatC dn) (n := n) (ns := ns) (rest := flatC rest)
          refine ⟨(by show 2 ≤ sizeLine; decide), fun t ht => ?_⟩
          simp only [upd_free] at ht
          have sL := same_new (o := HO.lst (cutV (nVs (flatC cs)) (some (((flatC dn).length : Int) + 1)) (some (((flatC dn).length : Int) + 1 + (ns.length : Int))))) hL
          have LF : L ≠ F := (ne_of_none h1 hL).symm
          have tF : t ≠ F := (ne_of_none h1 ht.2).symm
          refine ⟨F, ts, _, rfl, rfl, (upd_ne tF.symm).trans ((upd_ne LF.symm).trans h1), sz300 (by omega), ?_⟩
          refine ⟨_, rfl, ⟨dn ++ [(n, ns)], rest, ts ++ [V.ref t], L :: A, some (V.int (((flatC dn).length : Int) + 1 + (ns.length : Int))), ?_, ?_, ?_, upd_same, ?_, ?_⟩, ?_⟩
          · rw [ecs, List.append_assoc]
            rfl
          · rw [flat_app, List.length_append, flat_one]
            show [_, _, some (V.int (((flatC dn).length : Int) + 1 + (ns.length : Int))), _] = [_, _, some (V.int ((((flatC dn).length + (ns.length + 1) : Nat)) : Int)), _]
            have : (((flatC dn).length + (ns.length + 1) : Nat) : Int) = ((flatC dn).length : Int) + 1 + (ns.length : Int) := by omega
            rw [this]
          · exact same_mut ((s1.trans sL).trans (same_new (by rw [upd_free]; exact ht))) hF
          · refine CallsAt.snoc (cA.move (fun u xs e => ?_) (fun u xs m e => ?_) fun u m => List.mem_cons_of_mem _ m) ?_ ?_ List.mem_cons_self
            · have uF : u ≠ F := fun z => by rw [z, h1] at e; cases e
              rw [upd_ne uF, upd_ne (ne_of_none e ht.2), upd_ne (ne_of_none e hL)]
              exact e
            · rw [upd_ne (sep u m).2.1, upd_ne (ne_of_none e ht.2), upd_ne (ne_of_none e hL)]
              exact e
            · rw [upd_ne tF, upd_same]
            · rw [upd_ne LF, upd_ne ht.1.symm, upd_same, ec]
          · intro u m
            rcases List.mem_cons.mp m with z | z
            · rw [z]
              refine ⟨s1.free hL, LF, nVs ns, ?_⟩
              rw [upd_ne LF, upd_ne ht.1.symm, upd_same, ec]
            · obtain ⟨g1, g2, xs, g3⟩ := sep u z
              refine ⟨g1, g2, xs, ?_⟩
              rw [upd_ne g2, upd_ne (ne_of_none g3 ht.2), upd_ne (ne_of_none g3 hL)]
              exact g3
          · show 300 - (((flatC dn).length : Int) + 1 + (ns.length : Int)).toNat < 300 - ((flatC dn).length : Int).toNat
            omega
      · have q := of_decide_eq_false c
        rw [nVs_len, ecs, flat_app, List.length_append] at q
        cases todo with
        | cons x rest =>
          exact absurd (by show ((flatC dn).length : Int) < (((flatC dn).length + ((x.1 :: x.2) ++ flatC rest).length : Nat) : Int); rw [List.length_append, List.length_cons]; omega) q
        | nil =>
          rw [List.append_nil] at ecs
          subst ecs
          exact ⟨_, rfl, k H1 F ts A s1 hF h1 cA sep⟩
    · rintro σ H1 Q1 Q2 hq ⟨v, e, v', e', a1, ys, e1, sq, i1, j1, e2, e3, b, e4, q⟩
      exact ⟨v, e, v', e', a1, ys, e1, sq, i1, j1, e2, e3, b, e4, hq _ _ q⟩
end
end Na

set_option Elab.async false
set_option maxRecDepth 100000
set_option maxHeartbeats 4000000
namespace Na
open PySem PySem.Spec PyProof.Rows L2
open Kh413 (say does atOnce set1 given doing)
/-! ### the looks at the copies -/
abbrev iVs (l : List Int) : List V := l.map V.int
theorem iVs_toI (l : List Nat) : iVs (toI l) = nVs l := (nVs_int l).symm
def sp_counted : Sp := fun vs H Q _ => ∃ (p : Addr) (l : List Nat), vs = [.ref p] ∧ H p = some (.lst (nVs l)) ∧ l.length ≤ 1000 ∧ Makes H Q (nVs (l.length :: l))
def dos (w : Kh413.Work) (c : Nat) : List Nat := (List.range w.a.deeds.length).filter fun i => decide (0 ≤ doRet w c i)
def asks (w : Kh413.Work) : List Nat := (List.range w.a.deeds.length).filter fun i => decide (0 ≤ askRet w i)
def sp_what_can_be_done (CD CW : Addr) : Sp := fun vs H Q _ => ∃ (a ld lt ls : Addr) (w : Kh413.Work) (c : Nat), vs = [.ref a, nV c] ∧ WorldAt CD CW H a ld lt ls w ∧ WF w ∧ Makes H Q (nVs (dos w c))
def sp_what_can_be_asked (CD CW : Addr) : Sp := fun vs H Q _ => ∃ (a ld lt ls : Addr) (w : Kh413.Work), vs = [.ref a] ∧ WorldAt CD CW H a ld lt ls w ∧ WF w ∧ Makes H Q (nVs (asks w))
def sp_what_is_sure (CD CW : Addr) : Sp := fun vs H Q _ => ∃ (a ld lt ls : Addr) (w : Kh413.Work) (c x : Nat), vs = [.ref a, nV c] ∧ WorldAt CD CW H a ld lt ls w ∧ WF w ∧ w.copies[c]? = some x ∧ Gives H Q (nV (Kh413.sure w c))
def sp_what_may_be (CD CW : Addr) : Sp := fun vs H Q _ => ∃ (a ld lt ls : Addr) (w : Kh413.Work) (c x : Nat), vs = [.ref a, nV c] ∧ WorldAt CD CW H a ld lt ls w ∧ WF w ∧ w.copies[c]? = some x ∧ Gives H Q (nV (Kh413.may w c))
def sp_look_at_one (CD CW : Addr) : Sp := fun vs H Q _ => ∃ (a ld lt ls : Addr) (w : Kh413.Work) (n c : Nat) (q : Kh413.Call), vs = [.ref a, nV n, nV c] ∧ WorldAt CD CW H a ld lt ls w ∧ WF w ∧ IsO n c q ∧ Makes H Q (iVs (ansL w q))
def sp_look_at_all (CD CW : Addr) : Sp := fun vs H Q _ => ∃ (a ld lt ls : Addr) (w : Kh413.Work) (n : Nat) (q : Kh413.Call), vs = [.ref a, nV n] ∧ WorldAt CD CW H a ld lt ls w ∧ WF w ∧ IsA n q ∧ Makes H Q (iVs (ansL w q))
theorem given_at {w : Kh413.Work} (h : WF w) {s : Nat} (hs : s < 2 ^ w.a.m) : w.answers[s]? = some (given w s) := by
  have hl : s < w.answers.length := by
    rw [h.an]
    exact hs
  unfold Kh413.given
  rw [List.getD_eq_getElem?_getD, List.getElem?_eq_getElem hl]
  rfl
theorem dos_len {w : Kh413.Work} (h : WF w) (c : Nat) : (dos w c).length ≤ 6 := Nat.le_trans (filt_len _ _) h.dl
theorem asks_len {w : Kh413.Work} (h : WF w) : (asks w).length ≤ 6 := Nat.le_trans (filt_len _ _) h.dl
theorem strays_len4 {w : Kh413.Work} (h : WF w) : (strays w).length ≤ 4 := Nat.le_trans (strays_len w) h.c4
section
variable {P : Program} {w : World} {K : PySem.W.Frag} {mg : Str → Option Value} {base : Heap} {C_Deed C_World C_History Z_SIZES : Addr}
theorem ok_counted (T : Txt K mg C_Deed C_World C_History Z_SIZES) : Can P w K mg base 1 "counted" (sp_counted) := by
  refine T.d_counted.ok sc_counted (fun vs H Q E h => ?_) (fun f cdv A outer s H vs Q E hr h => ⟨_, (pss_one (ps_ret (pe_op op_cat (pe_lst (pa_cons (pe_callB call_len_seq (by rfl) T.b_len PySem.boot_len (pa_cons (pv 0) pa_nil)) pa_nil)) (pv 0)))), ?_⟩)
  · obtain ⟨p, l, rfl, _⟩ := h
    rfl
  · obtain ⟨p, l, rfl, hp, hl, k⟩ := h
    refine ⟨_, rfl, p, _, rfl, .inl (SqL.of hp), (by show 1 ≤ sizeLine; decide), fun t g1 => ⟨_, rfl, t, p, _, _, rfl, rfl, upd_same, (upd_ne (ne_of_none hp g1)).trans hp, ?_, fun q g2 => ?_⟩⟩
    · rw [nVs_len]
      exact Nat.le_trans (show 1 + l.length ≤ 1001 by omega) (by decide)
    · refine k _ q ((same_new g1).trans (same_new g2)) ((same_new g1).free g2) ?_
      rw [upd_same, nVs_len]
      rfl
theorem ok_what_can_be_done (T : Txt K mg C_Deed C_World C_History Z_SIZES) : Can P w K mg base 4 "what_can_be_done" (sp_what_can_be_done C_Deed C_World) := by
  refine T.d_what_can_be_done.ok sc_what_can_be_done (fun vs H Q E h => ?_) (fun f cdv A outer s H vs Q E hr h => ⟨_, (pss_one (ps_ret (pe_lc (own := [("number", 2)]) (g := gName 2) (tt := (tTest (tOp (rI0 fun i j => .bl (decide (j ≤ i))) (tCall (sp_come_of_doing C_Deed C_World) [] E0 (tCons (tVar 0) (tCons (tVar 1) (tCons (tVar 2) tNil)))) (tC (.int 0))))) (te := (tVar 2)) rfl sc_what_can_be_done.nd (pi_range1 (by rfl) T.b_range (pa_cons (pe_callB call_len_seq (by rfl) T.b_len PySem.boot_len (pa_cons (pe_fld (pv 0) rfl) pa_nil)) pa_nil)) (blkOk_by (own := [("number", 2)]) (N := N_what_can_be_done) (sc := defScope s_what_can_be_done) (by decide +kernel)) (fun _ _ _ _ _ => by exact (pg_name (i := 2) sc_what_can_be_done.nd rfl (Or.inl rfl))) (fun _ _ _ _ _ => by exact (pts_one (pt_cmpR op_ge (pe_can (ok_come_of_doing T) hr (by decide) rfl (pa_cons (pv 0) (pa_cons (pv 1) (pa_cons (pv 2) pa_nil)))) pe_int (nomark _)))) (fun _ _ _ _ _ => by exact (pv 2))))), ?_⟩)
  · obtain ⟨a, ld, lt, ls, w, c, rfl, _⟩ := h
    rfl
  · obtain ⟨a, ld, lt, ls, w, c, rfl, hW, hf, k⟩ := h
    obtain ⟨dx, vs, hA, hD, hDs, hT, hS, n⟩ := id hW
    have dl := hf.dl
    have len := hDs.len
    refine ⟨_, rfl, a, C_World, dx, _, _, rfl, hA, T.cl_World, T.n_World_deeds, W_lk_deeds, ld, _, rfl, .inl (SqL.of hD), _, rfl, by omega, by omega, fun D hN => ?_⟩
    refine lc_range (lo := 0) (n := vs.length) (fun i H' => Same H H' ∧ H' D = some (.lst (nVs ((List.range i).filter fun i => decide (0 ≤ doRet w c i))))) ⟨same_new hN, upd_same⟩ ?_ ?_
    · rintro i H1 hi ⟨s1, h1⟩
      refine ⟨rfl, _, rfl, _, rfl, _, rfl, a, ld, lt, ls, w, c, i, ?_, hW.mono s1, hf, fun H2 s2 => ⟨_, _, rfl, rfl, _, rfl, if_both (fun q => ?_) (fun q => ?_)⟩⟩
      · show [V.ref a, nV c, V.int (0 + (i : Int))] = _
        rw [Int.zero_add]
        rfl
      · refine ⟨_, rfl, _, s2 _ _ h1, ?_, same_mut (s1.trans s2) hN, ?_⟩
        · rw [nVs_len]
          exact sz64 (Nat.le_trans (filt_len _ i) (by omega))
        · rw [upd_same, filt_yes (p := fun i => decide (0 ≤ doRet w c i)) q, nVs_snoc]
          show some (HO.lst (nVs _ ++ [V.int (0 + (i : Int))])) = _
          rw [Int.zero_add]
          rfl
      · refine ⟨s1.trans s2, ?_⟩
        rw [filt_no (p := fun i => decide (0 ≤ doRet w c i)) q]
        exact s2 _ _ h1
    · rintro H1 ⟨s1, h1⟩
      rw [len] at h1
      exact k H1 D s1 hN h1
theorem ok_what_can_be_asked (T : Txt K mg C_Deed C_World C_History Z_SIZES) : Can P w K mg base 4 "what_can_be_asked" (sp_what_can_be_asked C_Deed C_World) := by
  refine T.d_what_can_be_asked.ok sc_what_can_be_asked (fun vs H Q E h => ?_) (fun f cdv A outer s H vs Q E hr h => ⟨_, (pss_one (ps_ret (pe_lc (own := [("number", 1)]) (g := gName 1) (tt := (tTest (tOp (rI0 fun i j => .bl (decide (j ≤ i))) (tCall (sp_come_of_asking C_Deed C_World) [] E0 (tCons (tVar 0) (tCons (tVar 1) tNil))) (tC (.int 0))))) (te := (tVar 1)) rfl sc_what_can_be_asked.nd (pi_range1 (by rfl) T.b_range (pa_cons (pe_callB call_len_seq (by rfl) T.b_len PySem.boot_len (pa_cons (pe_fld (pv 0) rfl) pa_nil)) pa_nil)) (blkOk_by (own := [("number", 1)]) (N := N_what_can_be_asked) (sc := defScope s_what_can_be_asked) (by decide +kernel)) (fun _ _ _ _ _ => by exact (pg_name (i := 1) sc_what_can_be_asked.nd rfl (Or.inl rfl))) (fun _ _ _ _ _ => by exact (pts_one (pt_cmpR op_ge (pe_can (ok_come_of_asking T) hr (by decide) rfl (pa_cons (pv 0) (pa_cons (pv 1) pa_nil))) pe_int (nomark _)))) (fun _ _ _ _ _ => by exact (pv 1))))), ?_⟩)
  · obtain ⟨a, ld, lt, ls, w, rfl, _⟩ := h
    rfl
  · obtain ⟨a, ld, lt, ls, w, rfl, hW, hf, k⟩ := h
    obtain ⟨dx, vs, hA, hD, hDs, hT, hS, n⟩ := id hW
    have dl := hf.dl
    have len := hDs.len
    refine ⟨_, rfl, a, C_World, dx, _, _, rfl, hA, T.cl_World, T.n_World_deeds, W_lk_deeds, ld, _, rfl, .inl (SqL.of hD), _, rfl, by omega, by omega, fun D hN => ?_⟩
    refine lc_range (lo := 0) (n := vs.length) (fun i H' => Same H H' ∧ H' D = some (.lst (nVs ((List.range i).filter fun i => decide (0 ≤ askRet w i))))) ⟨same_new hN, upd_same⟩ ?_ ?_
    · rintro i H1 hi ⟨s1, h1⟩
      refine ⟨rfl, _, rfl, _, rfl, a, ld, lt, ls, w, i, ?_, hW.mono s1, hf, fun H2 s2 => ⟨_, _, rfl, rfl, _, rfl, if_both (fun q => ?_) (fun q => ?_)⟩⟩
      · show [V.ref a, V.int (0 + (i : Int))] = _
        rw [Int.zero_add]
        rfl
      · refine ⟨_, rfl, _, s2 _ _ h1, ?_, same_mut (s1.trans s2) hN, ?_⟩
        · rw [nVs_len]
          exact sz64 (Nat.le_trans (filt_len _ i) (by omega))
        · rw [upd_same, filt_yes (p := fun i => decide (0 ≤ askRet w i)) q, nVs_snoc]
          show some (HO.lst (nVs _ ++ [V.int (0 + (i : Int))])) = _
          rw [Int.zero_add]
          rfl
      · refine ⟨s1.trans s2, ?_⟩
        rw [filt_no (p := fun i => decide (0 ≤ askRet w i)) q]
        exact s2 _ _ h1
    · rintro H1 ⟨s1, h1⟩
      rw [len] at h1
      exact k H1 D s1 hN h1
theorem ok_what_is_sure (T : Txt K mg C_Deed C_World C_History Z_SIZES) : Can P w K mg base 6 "what_is_sure" (sp_what_is_sure C_Deed C_World) := by
  refine T.d_what_is_sure.ok sc_what_is_sure (fun vs H Q E h => ?_) (fun f cdv A outer s H vs Q E hr h => ⟨_, (pss_cons (ps_set (i := 2) sc_what_is_sure.nd rfl (Or.inl rfl) (pe_con T.c_ALL_THINGS rfl))
      (pss_cons (ps_for PassesOwn.never rfl (pi_list (pe_can (ok_may_come_of T) hr (by decide) rfl (pa_cons (pv 0) (pa_cons (pv 1) pa_nil)))) (pg_name (i := 3) sc_what_is_sure.nd rfl (Or.inl rfl))
      (pss_one (ps_set (i := 2) sc_what_is_sure.nd rfl (Or.inl rfl) (pe_op op_and (pv 2) (pe_ix ix_list (pe_fld (pv 0) rfl) (pv 3) (fun _ _ => rfl))))))
      (pss_one (ps_ret (pv 2))))), ?_⟩)
  · obtain ⟨a, ld, lt, ls, w, c, x, rfl, _⟩ := h
    rfl
  · obtain ⟨a, ld, lt, ls, w, c, x, rfl, hW, hf, hx, k⟩ := h
    obtain ⟨dx, vs, hA, hD, hDs, hT, hS, n⟩ := id hW
    refine ⟨_, rfl, _, rfl, a, ld, lt, ls, w, c, x, rfl, hW, hf, hx, fun l so hm H1 G s1 fG hG => ?_⟩
    rw [sure_eq hf hm] at k
    refine ⟨G, rfl, ⟨_, SqL.of hG⟩, for_list (K := K) (a := G) (xs := nVs l) (fun i σ H' => Same H1 H' ∧ ∃ v : Option V, σ = [some (.ref a), some (nV c), some (nV ((l.take i).foldl (fun t s => t &&& given w s) 7)), v])
      ⟨Same.refl _, none, rfl⟩ (fun i σ H' _ ⟨s2, _⟩ => SqL.of (s2 _ _ hG)) ?_ ?_⟩
    · rintro i y σ H2 hi ⟨s2, v, rfl⟩
      obtain ⟨z, hz, rfl⟩ := nVs_get hi
      have s02 := s1.trans s2
      have zl : z < 2 ^ w.a.m := mayCome_lt ((hm z).mp (List.mem_of_getElem? hz))
      refine ⟨_, rfl, _, rfl, a, C_World, dx, _, _, rfl, s02 _ _ hA, T.cl_World, T.n_World_told, W_lk_told, _, rfl, lt, _, _, _, rfl, rfl, SqL.of (s02 _ _ hT), nVs_at (given_at hf zl), _, _, rfl, rfl, s2, some (nV z), ?_⟩
      show [some (V.ref a), some (nV c), some (V.int (Builtin.bitAnd _ ((given w z : Nat) : Int))), some (nV z)] = _
      rw [i_and, take_one hz, List.foldl_append]
      rfl
    · rintro σ H2 ⟨s2, v, rfl⟩
      rw [nVs_len, List.take_length]
      exact ⟨_, rfl, k H2 (s1.trans s2)⟩
theorem ok_what_may_be (T : Txt K mg C_Deed C_World C_History Z_SIZES) : Can P w K mg base 6 "what_may_be" (sp_what_may_be C_Deed C_World) := by
  refine T.d_what_may_be.ok sc_what_may_be (fun vs H Q E h => ?_) (fun f cdv A outer s H vs Q E hr h => ⟨_, (pss_cons (ps_set (i := 2) sc_what_may_be.nd rfl (Or.inl rfl) pe_int)
      (pss_cons (ps_for PassesOwn.never rfl (pi_list (pe_can (ok_may_come_of T) hr (by decide) rfl (pa_cons (pv 0) (pa_cons (pv 1) pa_nil)))) (pg_name (i := 3) sc_what_may_be.nd rfl (Or.inl rfl))
      (pss_one (ps_set (i := 2) sc_what_may_be.nd rfl (Or.inl rfl) (pe_op op_or (pv 2) (pe_ix ix_list (pe_fld (pv 0) rfl) (pv 3) (fun _ _ => rfl))))))
      (pss_one (ps_ret (pv 2))))), ?_⟩)
  · obtain ⟨a, ld, lt, ls, w, c, x, rfl, _⟩ := h
    rfl
  · obtain ⟨a, ld, lt, ls, w, c, x, rfl, hW, hf, hx, k⟩ := h
    obtain ⟨dx, vs, hA, hD, hDs, hT, hS, n⟩ := id hW
    refine ⟨_, rfl, _, rfl, a, ld, lt, ls, w, c, x, rfl, hW, hf, hx, fun l so hm H1 G s1 fG hG => ?_⟩
    rw [may_eq hf hm] at k
    refine ⟨G, rfl, ⟨_, SqL.of hG⟩, for_list (K := K) (a := G) (xs := nVs l) (fun i σ H' => Same H1 H' ∧ ∃ v : Option V, σ = [some (.ref a), some (nV c), some (nV ((l.take i).foldl (fun t s => t ||| given w s) 0)), v])
      ⟨Same.refl _, none, rfl⟩ (fun i σ H' _ ⟨s2, _⟩ => SqL.of (s2 _ _ hG)) ?_ ?_⟩
    · rintro i y σ H2 hi ⟨s2, v, rfl⟩
      obtain ⟨z, hz, rfl⟩ := nVs_get hi
      have s02 := s1.trans s2
      have zl : z < 2 ^ w.a.m := mayCome_lt ((hm z).mp (List.mem_of_getElem? hz))
      refine ⟨_, rfl, _, rfl, a, C_World, dx, _, _, rfl, s02 _ _ hA, T.cl_World, T.n_World_told, W_lk_told, _, rfl, lt, _, _, _, rfl, rfl, SqL.of (s02 _ _ hT), nVs_at (given_at hf zl), _, _, rfl, rfl, s2, some (nV z), ?_⟩
      show [some (V.ref a), some (nV c), some (V.int (Builtin.bitOr _ ((given w z : Nat) : Int))), some (nV z)] = _
      rw [i_or, take_one hz, List.foldl_append]
      rfl
    · rintro σ H2 ⟨s2, v, rfl⟩
      rw [nVs_len, List.take_length]
      exact ⟨_, rfl, k H2 (s1.trans s2)⟩
theorem ok_look_at_one (T : Txt K mg C_Deed C_World C_History Z_SIZES) : Can P w K mg base 7 "look_at_one" (sp_look_at_one C_Deed C_World) := by
  refine T.d_look_at_one.ok sc_look_at_one (fun vs H Q E h => ?_) (fun f cdv A outer s H vs Q E hr h => ⟨_, (pss_cons (ps_if (pt_cmpR op_ge (pv 2) (pe_callB call_len_seq (by rfl) T.b_len PySem.boot_len (pa_cons (pe_fld (pv 0) rfl) pa_nil)) (nomark _))
      (pss_one (ps_ret (pe_lst (pa_cons (pe_con T.c_NONE_SUCH rfl) pa_nil))))
      pss_nil)
      (pss_cons (ps_if (pt_cmpR op_eq (pv 1) (pe_con T.c_CAN_DO rfl) (nomark _))
      (pss_one (ps_ret (pe_can (ok_counted T) hr (by decide) rfl (pa_cons (pe_can (ok_what_can_be_done T) hr (by decide) rfl (pa_cons (pv 0) (pa_cons (pv 2) pa_nil))) pa_nil))))
      pss_nil)
      (pss_cons (ps_if (pt_cmpR op_eq (pv 1) (pe_con T.c_REACH rfl) (nomark _))
      (pss_one (ps_ret (pe_can (ok_counted T) hr (by decide) rfl (pa_cons (pe_can (ok_reached_from T) hr (by decide) rfl (pa_cons (pv 0) (pa_cons (pe_ix ix_list (pe_fld (pv 0) rfl) (pv 2) (fun _ _ => rfl)) pa_nil))) pa_nil))))
      pss_nil)
      (pss_cons (ps_if (pt_cmpR op_eq (pv 1) (pe_con T.c_TOLD rfl) (nomark _))
      (pss_one (ps_ret (pe_lst (pa_cons (pe_ix ix_list (pe_fld (pv 0) rfl) (pe_ix ix_list (pe_fld (pv 0) rfl) (pv 2) (fun _ _ => rfl)) (fun _ _ => rfl)) pa_nil))))
      pss_nil)
      (pss_cons (ps_if (pt_cmpR op_eq (pv 1) (pe_con T.c_SURE rfl) (nomark _))
      (pss_one (ps_ret (pe_lst (pa_cons (pe_can (ok_what_is_sure T) hr (by decide) rfl (pa_cons (pv 0) (pa_cons (pv 2) pa_nil))) pa_nil))))
      pss_nil)
      (pss_cons (ps_if (pt_cmpR op_eq (pv 1) (pe_con T.c_MAY rfl) (nomark _))
      (pss_one (ps_ret (pe_lst (pa_cons (pe_can (ok_what_may_be T) hr (by decide) rfl (pa_cons (pv 0) (pa_cons (pv 2) pa_nil))) pa_nil))))
      pss_nil)
      (pss_one (ps_ret (pe_can (ok_counted T) hr (by decide) rfl (pa_cons (pe_can (ok_may_come_of T) hr (by decide) rfl (pa_cons (pv 0) (pa_cons (pv 2) pa_nil))) pa_nil)))))))))), ?_⟩)
  · obtain ⟨a, ld, lt, ls, w, n, c, q, rfl, _⟩ := h
    rfl
  · obtain ⟨a, ld, lt, ls, w, n, c, q, rfl, hW, hf, hq, k⟩ := h
    obtain ⟨dx, vs, hA, hD, hDs, hT, hS, nn⟩ := id hW
    refine ⟨_, rfl, _, rfl, a, C_World, dx, _, _, rfl, hA, T.cl_World, T.n_World_states, W_lk_states, ls, _, rfl, .inl (SqL.of hS), _, _, rfl, rfl, _, rfl, if_both (fun c1 => ?_) (fun c1 => ?_)⟩
    · have z := of_decide_eq_true c1
      rw [nVs_len] at z
      rw [a_none hq (by omega)] at k
      exact ⟨(by show 1 ≤ sizeLine; decide), fun p hp => k _ p (same_new hp) hp upd_same⟩
    · have z := of_decide_eq_false c1
      rw [nVs_len] at z
      obtain ⟨x, hx⟩ : ∃ x, w.copies[c]? = some x := ⟨_, List.getElem?_eq_getElem (show c < w.copies.length by omega)⟩
      have lx : x < 2 ^ w.a.m := hf.cs x (List.mem_of_getElem? hx)
      have e16 := pow16 hf.m4
      cases hq with
      | canDo =>
        rw [a_canDo hf hx, iVs_toI] at k
        refine ⟨_, rfl, rfl, _, rfl, if_true_of rfl ?_⟩
        exact ⟨_, rfl, _, rfl, a, ld, lt, ls, w, c, rfl, hW, hf, fun H1 p s1 fp hp => ⟨p, _, rfl, hp, Nat.le_trans (dos_len hf c) (by decide), fun H2 q s2 fq hq => k H2 q (s1.trans s2) (s1.free fq) hq⟩⟩
      | reach =>
        rw [a_reach hx, iVs_toI] at k
        have rlt : ∀ y, y ∈ Kh411.reach (Kh411.only w.a w.allowed) x → y < 2 ^ w.a.m := fun y hy => reach_lt (a := Kh411.only w.a w.allowed) lx ((mem_reach (a := Kh411.only w.a w.allowed) lx).mp hy)
        have rlen : (Kh411.reach (Kh411.only w.a w.allowed) x).length ≤ 16 := Nat.le_trans (sorted_len (reach_sorted _ _) rlt) e16
        refine ⟨_, rfl, rfl, _, rfl, if_false_of rfl ?_⟩
        refine ⟨_, rfl, rfl, _, rfl, if_true_of rfl ?_⟩
        exact ⟨_, rfl, _, rfl, a, C_World, dx, _, _, rfl, hA, T.cl_World, T.n_World_states, W_lk_states, _, rfl, ls, _, _, _, rfl, rfl, SqL.of hS, nVs_at hx, a, ld, lt, ls, w, x, rfl, hW, hf, lx, fun H1 p s1 fp hp => ⟨p, _, rfl, hp, Nat.le_trans rlen (by decide), fun H2 q s2 fq hq => k H2 q (s1.trans s2) (s1.free fq) hq⟩⟩
      | told =>
        rw [a_told hx, iVs_toI] at k
        refine ⟨_, rfl, rfl, _, rfl, if_false_of rfl ?_⟩
        refine ⟨_, rfl, rfl, _, rfl, if_false_of rfl ?_⟩
        refine ⟨_, rfl, rfl, _, rfl, if_true_of rfl ?_⟩
        exact ⟨_, rfl, a, C_World, dx, _, _, rfl, hA, T.cl_World, T.n_World_told, W_lk_told, _, rfl, a, C_World, dx, _, _, rfl, hA, T.cl_World, T.n_World_states, W_lk_states, _, rfl, ls, _, _, _, rfl, rfl, SqL.of hS, nVs_at hx, lt, _, _, _, rfl, rfl, SqL.of hT, nVs_at (given_at hf lx), (by show 1 ≤ sizeLine; decide), fun p hp => k _ p (same_new hp) hp upd_same⟩
      | sure =>
        rw [a_sure hx, iVs_toI] at k
        refine ⟨_, rfl, rfl, _, rfl, if_false_of rfl ?_⟩
        refine ⟨_, rfl, rfl, _, rfl, if_false_of rfl ?_⟩
        refine ⟨_, rfl, rfl, _, rfl, if_false_of rfl ?_⟩
        refine ⟨_, rfl, rfl, _, rfl, if_true_of rfl ?_⟩
        exact ⟨_, rfl, _, rfl, a, ld, lt, ls, w, c, x, rfl, hW, hf, hx, fun H1 s1 => ⟨(by show 1 ≤ sizeLine; decide), fun p hp => k _ p (s1.trans (same_new hp)) (s1.free hp) upd_same⟩⟩
      | may =>
        rw [a_may hx, iVs_toI] at k
        refine ⟨_, rfl, rfl, _, rfl, if_false_of rfl ?_⟩
        refine ⟨_, rfl, rfl, _, rfl, if_false_of rfl ?_⟩
        refine ⟨_, rfl, rfl, _, rfl, if_false_of rfl ?_⟩
        refine ⟨_, rfl, rfl, _, rfl, if_false_of rfl ?_⟩
        refine ⟨_, rfl, rfl, _, rfl, if_true_of rfl ?_⟩
        exact ⟨_, rfl, _, rfl, a, ld, lt, ls, w, c, x, rfl, hW, hf, hx, fun H1 s1 => ⟨(by show 1 ≤ sizeLine; decide), fun p hp => k _ p (s1.trans (same_new hp)) (s1.free hp) upd_same⟩⟩
      | mayCome =>
        refine ⟨_, rfl, rfl, _, rfl, if_false_of rfl ?_⟩
        refine ⟨_, rfl, rfl, _, rfl, if_false_of rfl ?_⟩
        refine ⟨_, rfl, rfl, _, rfl, if_false_of rfl ?_⟩
        refine ⟨_, rfl, rfl, _, rfl, if_false_of rfl ?_⟩
        refine ⟨_, rfl, rfl, _, rfl, if_false_of rfl ?_⟩
        refine ⟨_, rfl, _, rfl, a, ld, lt, ls, w, c, x, rfl, hW, hf, hx, fun l so hm H1 p s1 fp hp => ?_⟩
        rw [a_mayCome hx so hm, iVs_toI] at k
        have ll : l.length ≤ 2 ^ w.a.m := sorted_len so fun t ht => mayCome_lt ((hm t).mp ht)
        exact ⟨p, _, rfl, hp, by omega, fun H2 q s2 fq hq => k H2 q (s1.trans s2) (s1.free fq) hq⟩
theorem ok_look_at_all (T : Txt K mg C_Deed C_World C_History Z_SIZES) : Can P w K mg base 5 "look_at_all" (sp_look_at_all C_Deed C_World) := by
  refine T.d_look_at_all.ok sc_look_at_all (fun vs H Q E h => ?_) (fun f cdv A outer s H vs Q E hr h => ⟨_, (pss_cons (ps_if (pt_cmpR op_eq (pv 1) (pe_con T.c_COPIES rfl) (nomark _))
      (pss_one (ps_ret (pe_op op_cat (pe_lst (pa_cons (pe_callB call_len_seq (by rfl) T.b_len PySem.boot_len (pa_cons (pe_fld (pv 0) rfl) pa_nil)) (pa_cons (pe_fld (pv 0) rfl) pa_nil))) (pe_fld (pv 0) rfl))))
      pss_nil)
      (pss_cons (ps_if (pt_cmpR op_eq (pv 1) (pe_con T.c_AHEAD rfl) (nomark _))
      (pss_one (ps_ret (pe_lst (pa_cons (pe_can (ok_lies_ahead T) hr (by decide) rfl (pa_cons (pv 0) pa_nil)) pa_nil))))
      pss_nil)
      (pss_cons (ps_if (pt_cmpR op_eq (pv 1) (pe_con T.c_DIFFER rfl) (nomark _))
      (pss_one (ps_ret (pe_can (ok_counted T) hr (by decide) rfl (pa_cons (pe_can (ok_straying T) hr (by decide) rfl (pa_cons (pv 0) pa_nil)) pa_nil))))
      pss_nil)
      (pss_cons (ps_if (pt_cmpR op_eq (pv 1) (pe_con T.c_CAN_ASK rfl) (nomark _))
      (pss_one (ps_ret (pe_can (ok_counted T) hr (by decide) rfl (pa_cons (pe_can (ok_what_can_be_asked T) hr (by decide) rfl (pa_cons (pv 0) pa_nil)) pa_nil))))
      pss_nil)
      (pss_one (ps_ret (pe_lst (pa_cons (pe_fld (pv 0) rfl) (pa_cons (pe_callB call_len_seq (by rfl) T.b_len PySem.boot_len (pa_cons (pe_fld (pv 0) rfl) pa_nil)) (pa_cons (pe_fld (pv 0) rfl) (pa_cons (pe_callB call_len_seq (by rfl) T.b_len PySem.boot_len (pa_cons (pe_fld (pv 0) rfl) pa_nil)) (pa_cons (pe_fld (pv 0) rfl) pa_nil)))))))))))), ?_⟩)
  · obtain ⟨a, ld, lt, ls, w, n, q, rfl, _⟩ := h
    rfl
  · obtain ⟨a, ld, lt, ls, w, n, q, rfl, hW, hf, hq, k⟩ := h
    obtain ⟨dx, vs, hA, hD, hDs, hT, hS, nn⟩ := id hW
    have c4 := hf.c4
    cases hq with
    | copies =>
      rw [a_copies, iVs_toI] at k
      refine ⟨_, rfl, rfl, _, rfl, if_true_of rfl ?_⟩
      refine ⟨_, rfl, a, C_World, dx, _, _, rfl, hA, T.cl_World, T.n_World_states, W_lk_states, ls, _, rfl, .inl (SqL.of hS), _, rfl, a, C_World, dx, _, _, rfl, hA, T.cl_World, T.n_World_common, W_lk_common, (by show 2 ≤ sizeLine; decide), fun t g1 => ?_⟩
      have s1 := same_new (o := HO.lst [V.int ((nVs w.copies).length : Nat), nV w.common]) g1
      refine ⟨_, rfl, a, C_World, dx, _, _, rfl, s1 _ _ hA, T.cl_World, T.n_World_states, W_lk_states, t, ls, _, _, rfl, rfl, upd_same, s1 _ _ hS, ?_, fun p g2 => ?_⟩
      · rw [nVs_len]
        exact Nat.le_of_lt (sz64 (by show 2 + w.copies.length ≤ 64; omega))
      · refine k _ p (s1.trans (same_new g2)) (s1.free g2) ?_
        rw [upd_same, nVs_len]
        rfl
    | ahead =>
      rw [a_ahead, iVs_toI] at k
      refine ⟨_, rfl, rfl, _, rfl, if_false_of rfl ?_⟩
      refine ⟨_, rfl, rfl, _, rfl, if_true_of rfl ?_⟩
      exact ⟨_, rfl, a, ld, lt, ls, w, rfl, hW, hf, fun H1 s1 => ⟨(by show 1 ≤ sizeLine; decide), fun p hp => k _ p (s1.trans (same_new hp)) (s1.free hp) upd_same⟩⟩
    | differ =>
      rw [a_differ, iVs_toI] at k
      refine ⟨_, rfl, rfl, _, rfl, if_false_of rfl ?_⟩
      refine ⟨_, rfl, rfl, _, rfl, if_false_of rfl ?_⟩
      refine ⟨_, rfl, rfl, _, rfl, if_true_of rfl ?_⟩
      exact ⟨_, rfl, a, ld, lt, ls, w, rfl, hW, hf, fun H1 p s1 fp hp => ⟨p, _, rfl, hp, Nat.le_trans (strays_len4 hf) (by decide), fun H2 q s2 fq hq => k H2 q (s1.trans s2) (s1.free fq) hq⟩⟩
    | canAsk =>
      rw [a_canAsk hf, iVs_toI] at k
      refine ⟨_, rfl, rfl, _, rfl, if_false_of rfl ?_⟩
      refine ⟨_, rfl, rfl, _, rfl, if_false_of rfl ?_⟩
      refine ⟨_, rfl, rfl, _, rfl, if_false_of rfl ?_⟩
      refine ⟨_, rfl, rfl, _, rfl, if_true_of rfl ?_⟩
      exact ⟨_, rfl, a, ld, lt, ls, w, rfl, hW, hf, fun H1 p s1 fp hp => ⟨p, _, rfl, hp, Nat.le_trans (asks_len hf) (by decide), fun H2 q s2 fq hq => k H2 q (s1.trans s2) (s1.free fq) hq⟩⟩
    | state =>
      rw [a_state, iVs_toI] at k
      refine ⟨_, rfl, rfl, _, rfl, if_false_of rfl ?_⟩
      refine ⟨_, rfl, rfl, _, rfl, if_false_of rfl ?_⟩
      refine ⟨_, rfl, rfl, _, rfl, if_false_of rfl ?_⟩
      refine ⟨_, rfl, rfl, _, rfl, if_false_of rfl ?_⟩
      refine ⟨_, rfl, a, C_World, dx, _, _, rfl, hA, T.cl_World, T.n_World_facts, W_lk_facts, _, rfl, a, C_World, dx, _, _, rfl, hA, T.cl_World, T.n_World_states, W_lk_states, ls, _, rfl, .inl (SqL.of hS), _, rfl, a, C_World, dx, _, _, rfl, hA, T.cl_World, T.n_World_rule, W_lk_rule,
        _, rfl, a, C_World, dx, _, _, rfl, hA, T.cl_World, T.n_World_deeds, W_lk_deeds, ld, _, rfl, .inl (SqL.of hD), _, rfl, a, C_World, dx, _, _, rfl, hA, T.cl_World, T.n_World_allowed, W_lk_allowed, (by show 5 ≤ sizeLine; decide), fun p hp => k _ p (same_new hp) hp ?_⟩
      rw [upd_same, nVs_len, hDs.len]
      rfl
end
end Na

set_option Elab.async false
set_option maxRecDepth 100000
set_option maxHeartbeats 4000000
namespace Na
open PySem PySem.Spec PyProof.Rows L2
open Kh413 (say does atOnce set1 given doing)
/-! ### which sets of deeds are free -/
def sp_lies_in_one (K : PySem.W.Frag) : Sp := fun vs H Q _ => ∃ (x : Nat) (p : Addr) (l : List Nat), vs = [nV x, .ref p] ∧ SqL K H p (nVs l) ∧ l.length ≤ 64 ∧ Gives H Q (.bl (l.any fun y => decide (x &&& y = x)))
def sp_greatest_free (K : PySem.W.Frag) (CD : Addr) : Sp := fun vs H Q _ => ∃ (r m : Nat) (p : Addr) (us : List V) (ds : List Kh411.Deed), vs = [nV r, .ref p, nV m] ∧ SqL K H p us ∧ DsAt CD H us ds ∧ (∀ d, d ∈ ds → okD m d) ∧ 1 ≤ m ∧ m ≤ 4 ∧ ds.length ≤ 6 ∧ Makes H Q (nVs (Kh411.mostFree ⟨m, r, ds⟩))
def sp_fewest_without (K : PySem.W.Frag) (CD : Addr) : Sp := fun vs H Q _ => ∃ (r m : Nat) (p : Addr) (us : List V) (ds : List Kh411.Deed), vs = [nV r, .ref p, nV m] ∧ SqL K H p us ∧ DsAt CD H us ds ∧ (∀ d, d ∈ ds → okD m d) ∧ 1 ≤ m ∧ m ≤ 4 ∧ ds.length ≤ 6 ∧ Makes H Q (nVs (Kh411.askedOf ⟨m, r, ds⟩))
theorem pow64 {n : Nat} (h : n ≤ 6) : 2 ^ n ≤ 64 := Nat.le_trans (Nat.pow_le_pow_right (by decide) h) (by decide)
theorem full_int (n : Nat) : (1 : Int) * 2 ^ ((n : Nat) : Int).toNat - 1 = ((2 ^ n - 1 : Nat) : Int) := by
  rw [one_shl]
  have := Nat.two_pow_pos n
  omega
section
variable {P : Program} {w : World} {K : PySem.W.Frag} {mg : Str → Option Value} {base : Heap} {C_Deed C_World C_History Z_SIZES : Addr}
theorem ok_lies_in_one (T : Txt K mg C_Deed C_World C_History Z_SIZES) : Can P w K mg base 2 "lies_in_one" (sp_lies_in_one K) := by
  refine T.d_lies_in_one.ok sc_lies_in_one (fun vs H Q E h => ?_) (fun f cdv A outer s H vs Q E hr h => ⟨_, (pss_one (ps_ret (pe_callB (cr_any rfl) (by rfl) T.b_any (by decide +kernel) (pa_cons (pe_lc (own := [("whole", 2)]) (g := gName 2) (tt := tYes) (te := (tCall (sp_lies_in) [] E0 (tCons (tVar 0) (tCons (tVar 2) tNil)))) rfl sc_lies_in_one.nd (pi_list (pv 1)) (blkOk_by (own := [("whole", 2)]) (N := N_lies_in_one) (sc := defScope s_lies_in_one) (by decide +kernel)) (fun _ _ _ _ _ => by exact (pg_name (i := 2) sc_lies_in_one.nd rfl (Or.inl rfl))) (fun _ _ _ _ _ => by exact pts_nil) (fun _ _ _ _ _ => by exact (pe_can (ok_lies_in T) hr (by decide) rfl (pa_cons (pv 0) (pa_cons (pv 2) pa_nil))))) pa_nil)))), ?_⟩)
  · obtain ⟨x, p, l, rfl, _⟩ := h
    rfl
  · obtain ⟨x, p, l, rfl, hp, hl, k⟩ := h
    refine ⟨_, rfl, p, rfl, ⟨_, hp⟩, fun D hD => lc_list (K := K) (a := p) (xs := nVs l) (fun j H' => Same H H' ∧ H' D = some (.lst (((l.take j).map fun y => decide (x &&& y = x)).map V.bl))) ⟨same_new hD, upd_same⟩ (fun j H' _ ⟨s4, _⟩ => s4.seq hp) ?_ ?_⟩
    · rintro j y H3 hj ⟨s4, h4⟩
      obtain ⟨z, hz, rfl⟩ := nVs_get hj
      refine ⟨rfl, _, rfl, _, rfl, x, z, rfl, fun H4 s5 => ⟨_, s5 _ _ h4, ?_, same_mut (s4.trans s5) hD, ?_⟩⟩
      · rw [List.length_map, List.length_map]
        have := len_take_lt hz
        exact sz64 (by omega)
      · rw [upd_same, take_one hz, List.map_append, List.map_append]
        rfl
    · rintro H3 ⟨s4, h4⟩
      rw [nVs_len, List.take_length] at h4
      refine ⟨D, _, rfl, SqL.of h4, ?_⟩
      rw [List.any_map]
      exact k H3 s4
theorem ok_greatest_free (T : Txt K mg C_Deed C_World C_History Z_SIZES) : Can P w K mg base 8 "greatest_free" (sp_greatest_free K C_Deed) := by
  refine T.d_greatest_free.ok sc_greatest_free (fun vs H Q E h => ?_) (fun f cdv A outer s H vs Q E hr h => ⟨_, (pss_cons (ps_set (i := 3) sc_greatest_free.nd rfl (Or.inl rfl) (pe_lst pa_nil))
      (pss_cons (ps_for PassesOwn.never rfl (pi_range3 (by rfl) T.b_range (pa_cons (pe_op op_sub (pe_op op_shl pe_int (pe_callB call_len_seq (by rfl) T.b_len PySem.boot_len (pa_cons (pv 1) pa_nil))) pe_int) (pa_cons (pe_un un_neg pe_int) (pa_cons (pe_un un_neg pe_int) pa_nil)))) (pg_name (i := 4) sc_greatest_free.nd rfl (Or.inl rfl))
      (pss_one (ps_if (PW.pt (pw_and (pt_not (pt_val (pe_can (ok_lies_in_one T) hr (by decide) rfl (pa_cons (pv 4) (pa_cons (pv 3) pa_nil))))) (pw_and1 (pt_val (pe_can (ok_is_free T) hr (by decide) rfl (pa_cons (pv 0) (pa_cons (pe_can (ok_chosen_of T) hr (by decide) rfl (pa_cons (pv 1) (pa_cons (pv 4) pa_nil))) (pa_cons (pv 2) pa_nil))))))))
      (pss_one (ps_expr (pe_bm PySem.F.plainAttrs_list PySem.F.slot_list_append PySem.F.type_list_append mt_append (pv 3) (pa_cons (pv 4) pa_nil))))
      pss_nil)))
      (pss_one (ps_ret (pe_callB cr_sortedI (by rfl) T.b_sorted (by decide +kernel) (pa_cons (pv 3) pa_nil)))))), ?_⟩)
  · obtain ⟨r, m, p, us, ds, rfl, _⟩ := h
    rfl
  · obtain ⟨r, m, p, us, ds, rfl, hp, hds, hok, h1, hm, hd6, k⟩ := h
    have len := hds.len
    have p64 := pow64 hd6
    have p1 := Nat.two_pow_pos ds.length
    refine ⟨Nat.zero_le _, fun F hF => ?_⟩
    have s0 := same_new (o := HO.lst []) hF
    have rg : RgC ((2 ^ ds.length - 1 : Nat) : Int) (-1) (-1) (2 ^ ds.length) := by
      have := RgC.neg (i := ((2 ^ ds.length - 1 : Nat) : Int)) (j := -1) (by omega) (by omega) (by decide) (by decide)
      have e : (((2 ^ ds.length - 1 : Nat) : Int) - -1).toNat = 2 ^ ds.length := by omega
      rw [e] at this
      exact this
    refine ⟨_, rfl, p, us, rfl, .inl (s0.seq hp), _, _, rfl, rfl, ⟨Int.natCast_nonneg _, by omega, by decide⟩, _, _, rfl, rfl, _, rfl, _, rfl, ((2 ^ ds.length - 1 : Nat) : Int), -1, -1, 2 ^ ds.length, ?_, rg, ?_⟩
    · show [V.int ((1 : Int) * 2 ^ ((us.length : Nat) : Int).toNat - 1), V.int (-1), V.int (-1)] = _
      rw [full_int, len]
    refine for_rangeC (lo := ((2 ^ ds.length - 1 : Nat) : Int)) (c := -1) (n := 2 ^ ds.length) (fun i σ H' => ∃ (l : List Nat) (v : Option V), σ = [some (nV r), some (.ref p), some (nV m), some (.ref F), v] ∧ Same H H' ∧ H' F = some (.lst (nVs l)) ∧ l.Nodup ∧ ∀ t, t ∈ l ↔ Top (Kh411.free ⟨m, r, ds⟩) ds.length t ∧ 2 ^ ds.length ≤ t + i)
      ⟨[], none, rfl, s0, upd_same, List.nodup_nil, fun t => ?_⟩ ?_ ?_
    · constructor
      · intro h
        simp at h
      · rintro ⟨⟨h, _⟩, q⟩
        omega
    · rintro i σ H1 hi ⟨l, v, rfl, s1, hF1, nd, hmem⟩
      have ev : V.int (((2 ^ ds.length - 1 : Nat) : Int) + ((i : Nat) : Int) * (-1)) = nV (2 ^ ds.length - 1 - i) := by
        unfold nV
        congr 1
        omega
      rw [ev]
      generalize ex : 2 ^ ds.length - 1 - i = x
      have lx : x < 2 ^ ds.length := by omega
      have turn := top_turn (F := Kh411.free ⟨m, r, ds⟩) (n := ds.length) (l := l) lx fun t => (hmem t).trans (and_congr_right fun _ => by omega)
      have lb : ∀ t, t ∈ l → t < 2 ^ ds.length := fun t ht => ((hmem t).mp ht).1.1
      have ll : l.length ≤ 2 ^ ds.length := nodup_len nd lb
      have nin : x ∉ l := fun h => by
        have := ((hmem x).mp h).2
        omega
      have any_is : (l.any fun y => decide (x &&& y = x)) = false ↔ ∀ y, y ∈ l → x &&& y ≠ x := by
        rw [List.any_eq_false]
        simp
      have fr : Kh411.free ⟨m, r, ds⟩ x = Kh411.keeps ⟨m, r, fil x ds⟩ m := free_is (a := ⟨m, r, ds⟩) h1 x
      have same : ¬ Top (Kh411.free ⟨m, r, ds⟩) ds.length x → ∀ t, t ∈ l ↔ Top (Kh411.free ⟨m, r, ds⟩) ds.length t ∧ 2 ^ ds.length ≤ t + (i + 1) := fun no t => by
        rw [hmem]
        refine and_congr_right fun ht => ?_
        constructor
        · intro h
          omega
        · intro h
          by_cases e : t = x
          · exact absurd (e ▸ ht) no
          · omega
      refine ⟨_, rfl, _, rfl, x, F, l, rfl, SqL.of hF1, by omega, fun H2 s2 => ⟨_, rfl, if_not (fun c1 => ?_) (fun c1 => ?_)⟩⟩
      · have s02 := s1.trans s2
        refine ⟨_, rfl, _, rfl, _, rfl, x, p, us, rfl, s02.seq hp, by omega, fun H3 D s3 fD hD => ?_⟩
        have s03 := s02.trans s3
        refine ⟨_, rfl, r, m, D, fil x us, fil x ds, rfl, SqL.of hD, (hds.mono s03).filt x, fun d hd => hok d (fil_sub hd), hm, fun H4 s4 => ⟨_, rfl, if_both (fun c2 => ?_) (fun c2 => ?_)⟩⟩
        · have s04 := s03.trans s4
          have hF4 := s4 _ _ (s3 _ _ (s2 _ _ hF1))
          have top := turn.mpr ⟨any_is.mp c1, fr.trans c2⟩
          refine ⟨_, rfl, .inl ⟨rfl, _, SqL.of hF4⟩, _, rfl, F, _, _, rfl, rfl, hF4, ?_, l ++ [x], _, rfl, same_mut s04 hF, ?_, ?_, fun t => ?_⟩
          · rw [nVs_len]
            exact sz64 (by omega)
          · rw [upd_same, nVs_snoc]
          · rw [List.nodup_append]
            refine ⟨nd, by simp, fun y hy z hz e => nin ?_⟩
            have : z = x := by simpa using hz
            rw [← this, ← e]
            exact hy
          · rw [List.mem_append, List.mem_singleton, hmem]
            constructor
            · rintro (⟨q1, q2⟩ | q)
              · exact ⟨q1, by omega⟩
              · rw [q]
                exact ⟨top, by omega⟩
            · rintro ⟨q1, q2⟩
              by_cases e : t = x
              · exact .inr e
              · exact .inl ⟨q1, by omega⟩
        · refine ⟨l, _, rfl, s03.trans s4, s4 _ _ (s3 _ _ (s2 _ _ hF1)), nd, same fun top => ?_⟩
          have := (turn.mp top).2
          rw [fr, c2] at this
          cases this
      · refine if_false_of rfl ⟨l, _, rfl, s1.trans s2, s2 _ _ hF1, nd, same fun top => ?_⟩
        have := any_is.mpr (turn.mp top).1
        rw [this] at c1
        cases c1
    · rintro σ H1 ⟨l, v, rfl, s1, hF1, nd, hmem⟩
      refine ⟨_, rfl, F, l.map (fun n : Nat => (n : Int)), rfl, ?_, fun ns q pm so hq => ?_⟩
      · rw [← nVs_int]
        exact SqL.of hF1
      · obtain ⟨t, et, st, mt⟩ := srt pm so nd
        have e : t = Kh411.mostFree ⟨m, r, ds⟩ := sorted_ext st (mostFree_sorted _) fun u => by
          rw [mt, hmem, mem_mostFree]
          exact ⟨fun h => h.1, fun h => ⟨h, by omega⟩⟩
        subst e
        refine k _ q (s1.trans (same_new hq)) (s1.free hq) ?_
        rw [upd_same, et, nVs_int]
theorem ok_fewest_without (T : Txt K mg C_Deed C_World C_History Z_SIZES) : Can P w K mg base 9 "fewest_without" (sp_fewest_without K C_Deed) := by
  refine T.d_fewest_without.ok sc_fewest_without (fun vs H Q E h => ?_) (fun f cdv A outer s H vs Q E hr h => ⟨_, (pss_cons (ps_set (i := 3) sc_fewest_without.nd rfl (Or.inr rfl) (pe_op op_sub (pe_op op_shl pe_int (pe_callB call_len_seq (by rfl) T.b_len PySem.boot_len (pa_cons (pv 1) pa_nil))) pe_int))
      (pss_cons (ps_setLc (i := 4) (own := [("chosen", 6)]) (g := gName 6) (tt := tYes) (te := (tOp (rI0 fun i j => .int (Builtin.bitXor i j)) (tVar 3) (tVar 6))) rfl sc_fewest_without.nd rfl rfl (sw_true rfl rfl rfl (by decide +kernel)) (pi_list (pe_can (ok_greatest_free T) hr (by decide) rfl (pa_cons (pv 0) (pa_cons (pv 1) (pa_cons (pv 2) pa_nil))))) (blkOk_by (own := [("chosen", 6)]) (N := N_fewest_without) (sc := defScope s_fewest_without) (by decide +kernel)) (fun _ _ _ _ _ => by exact (pg_name (i := 6) sc_fewest_without.nd rfl (Or.inl rfl))) (fun _ _ _ _ _ => by exact pts_nil) (fun _ _ _ _ _ => by exact (pe_op op_xor (pv 3) (pv 6))))
      (pss_cons (ps_set (i := 5) sc_fewest_without.nd rfl (Or.inr rfl) (pe_callB (cr_min rfl) (by rfl) T.b_min (by decide +kernel) (pa_cons (pe_lc (own := [("chosen", 6)]) (g := gName 6) (tt := tYes) (te := (tCall (sp_size) [] E0 (tCons (tVar 6) tNil))) rfl sc_fewest_without.nd (pi_list (pv 4)) (blkOk_by (own := [("chosen", 6)]) (N := N_fewest_without) (sc := defScope s_fewest_without) (by decide +kernel)) (fun _ _ _ _ _ => by exact (pg_name (i := 6) sc_fewest_without.nd rfl (Or.inl rfl))) (fun _ _ _ _ _ => by exact pts_nil) (fun _ _ _ _ _ => by exact (pe_can (ok_size T) hr (by decide) rfl (pa_cons (pv 6) pa_nil)))) pa_nil)))
      (pss_one (ps_ret (pe_callB cr_sortedI (by rfl) T.b_sorted (by decide +kernel) (pa_cons (pe_lc (own := [("chosen", 6)]) (g := gName 6) (tt := (tTest (tOp rEq (tCall (sp_size) [] E0 (tCons (tVar 6) tNil)) (tVar 5)))) (te := (tVar 6)) rfl sc_fewest_without.nd (pi_list (pv 4)) (blkOk_by (own := [("chosen", 6)]) (N := N_fewest_without) (sc := defScope s_fewest_without) (by decide +kernel)) (fun _ _ _ _ _ => by exact (pg_name (i := 6) sc_fewest_without.nd rfl (Or.inl rfl))) (fun _ _ _ _ _ => by exact (pts_one (pt_cmpR op_eq (pe_can (ok_size T) hr (by decide) rfl (pa_cons (pv 6) pa_nil)) (pv 5) (nomark _)))) (fun _ _ _ _ _ => by exact (pv 6))) pa_nil))))))), ?_⟩)
  · obtain ⟨r, m, p, us, ds, rfl, _⟩ := h
    rfl
  · obtain ⟨r, m, p, us, ds, rfl, hp, hds, hok, h1, hm, hd6, k⟩ := h
    have len := hds.len
    refine ⟨_, rfl, p, us, rfl, .inl hp, _, _, rfl, rfl, ⟨Int.natCast_nonneg _, by omega, by decide⟩, _, _, rfl, rfl, ?_⟩
    have ef : V.int ((1 : Int) * 2 ^ ((us.length : Nat) : Int).toNat - 1) = nV (2 ^ ds.length - 1) := by
      rw [full_int, len]
      rfl
    refine ⟨_, rfl, _, rfl, _, rfl, r, m, p, us, ds, rfl, hp, hds, hok, h1, hm, hd6, fun H1 M s1 fM hM => ?_⟩
    have ml := mostFree_len ⟨m, r, ds⟩ hd6
    generalize eM : Kh411.mostFree ⟨m, r, ds⟩ = M0 at hM ml
    generalize eL : M0.map ((2 ^ ds.length - 1) ^^^ ·) = L
    have Ll : L.length = M0.length := by
      rw [← eL, List.length_map]
    refine ⟨M, rfl, ⟨_, SqL.of hM⟩, fun D hD => lc_list (K := K) (a := M) (xs := nVs M0) (fun j H' => Same H1 H' ∧ H' D = some (.lst (nVs ((M0.take j).map ((2 ^ ds.length - 1) ^^^ ·))))) ⟨same_new hD, upd_same⟩ (fun j H' _ ⟨s2, _⟩ => SqL.of (s2 _ _ hM)) ?_ ?_⟩
    · rintro j y H2 hj ⟨s2, h2⟩
      obtain ⟨x, hx, rfl⟩ := nVs_get hj
      refine ⟨rfl, _, rfl, _, rfl, (2 ^ ds.length - 1 : Nat), x, ef, rfl, _, h2, ?_, same_mut s2 hD, ?_⟩
      · rw [nVs_len, List.length_map]
        have := len_take_lt hx
        exact sz64 (by omega)
      · rw [upd_same, take_one hx, List.map_append]
        show some (HO.lst (nVs _ ++ [V.int (Builtin.bitXor ((2 ^ ds.length - 1 : Nat) : Int) (x : Int))])) = _
        rw [i_xor]
        show _ = some (HO.lst (nVs (_ ++ [(2 ^ ds.length - 1) ^^^ x])))
        rw [nVs_snoc]
        rfl
    · rintro H2 ⟨s2, h2⟩
      rw [nVs_len, List.take_length, eL] at h2
      have s02 := s1.trans s2
      refine ⟨_, rfl, D, rfl, ⟨_, SqL.of h2⟩, fun E hE => lc_list (K := K) (a := D) (xs := nVs L) (fun j H' => Same H2 H' ∧ H' E = some (.lst (nVs ((L.take j).map pc)))) ⟨same_new hE, upd_same⟩ (fun j H' _ ⟨s3, _⟩ => SqL.of (s3 _ _ h2)) ?_ ?_⟩
      · rintro j y H3 hj ⟨s3, h3⟩
        obtain ⟨x, hx, rfl⟩ := nVs_get hj
        refine ⟨rfl, _, rfl, x, rfl, fun H4 s4 => ⟨_, s4 _ _ h3, ?_, same_mut (s3.trans s4) hE, ?_⟩⟩
        · rw [nVs_len, List.length_map]
          have := len_take_lt hx
          exact sz64 (by omega)
        · rw [upd_same, take_one hx, List.map_append]
          show _ = some (HO.lst (nVs (_ ++ [pc x])))
          rw [nVs_snoc]
      · rintro H3 ⟨s3, h3⟩
        rw [nVs_len, List.take_length] at h3
        have s03 := s02.trans s3
        refine ⟨E, (L.map pc).map (fun n : Nat => (n : Int)), rfl, ?_, ?_, fun z hz hle => ?_⟩
        · rw [← nVs_int]
          exact SqL.of h3
        · rw [List.length_map, List.length_map, Ll, ← eM]
          exact List.length_pos_iff.mpr (mostFree_ne _)
        · obtain ⟨kk, hkk, rfl⟩ := List.mem_map.mp hz
          obtain ⟨t0, ht0, et0⟩ := List.mem_map.mp hkk
          have h23 := s3 _ _ h2
          refine ⟨_, rfl, D, rfl, ⟨_, SqL.of h23⟩, fun G hG => lc_list (K := K) (a := D) (xs := nVs L) (fun j H' => Same H3 H' ∧ H' G = some (.lst (nVs ((L.take j).filter fun t => decide (pc t = kk))))) ⟨same_new hG, upd_same⟩ (fun j H' _ ⟨s4, _⟩ => SqL.of (s4 _ _ h23)) ?_ ?_⟩
          · rintro j y H4 hj ⟨s4, h4⟩
            obtain ⟨x, hx, rfl⟩ := nVs_get hj
            refine ⟨rfl, _, rfl, x, rfl, fun H5 s5 => ⟨_, rfl, rfl, _, rfl, ?_⟩⟩
            show if decide (V.int ((pc x : Nat) : Int) = V.int ((kk : Nat) : Int)) = true then _ else _
            rw [i_eq]
            refine if_both (fun c => ?_) (fun c => ?_)
            · refine ⟨_, rfl, _, s5 _ _ h4, ?_, same_mut (s4.trans s5) hG, ?_⟩
              · rw [nVs_len]
                have := len_take_lt hx
                exact sz64 (Nat.le_trans (List.length_filter_le _ _) (by omega))
              · rw [upd_same, take_one hx, List.filter_append, List.filter_cons, if_pos c]
                show _ = some (HO.lst (nVs (_ ++ [x])))
                rw [nVs_snoc]
            · refine ⟨s4.trans s5, ?_⟩
              rw [take_one hx, List.filter_append, List.filter_cons, if_neg (by rw [c]; decide), List.filter_nil, List.append_nil]
              exact s5 _ _ h4
          · rintro H4 ⟨s4, h4⟩
            rw [nVs_len, List.take_length] at h4
            have s04 := s03.trans s4
            refine ⟨G, (L.filter fun t => decide (pc t = kk)).map (fun n : Nat => (n : Int)), rfl, ?_, fun ns q pm so hq => ?_⟩
            · rw [← nVs_int]
              exact SqL.of h4
            · have ndM : M0.Nodup := by
                rw [← eM, List.nodup_iff_pairwise_ne]
                exact (mostFree_sorted _).imp fun h => Nat.ne_of_lt h
              have ndL : L.Nodup := by
                rw [← eL, List.nodup_iff_pairwise_ne, List.pairwise_map]
                rw [List.nodup_iff_pairwise_ne] at ndM
                exact ndM.imp fun {x y} h e => h (by rw [← xx (2 ^ ds.length - 1) x, ← xx (2 ^ ds.length - 1) y, e])
              obtain ⟨t, et, st, mt⟩ := srt pm so (ndL.filter _)
              have memL : ∀ u, u ∈ L ↔ ∃ x, x ∈ Kh411.mostFree ⟨m, r, ds⟩ ∧ u = (2 ^ ds.length - 1) ^^^ x := fun u => by
                rw [← eL, eM, List.mem_map]
                exact ⟨fun ⟨x, a, b⟩ => ⟨x, a, b.symm⟩, fun ⟨x, a, b⟩ => ⟨x, a, b.symm⟩⟩
              have e : Kh411.askedOf ⟨m, r, ds⟩ = t := by
                refine asked_of (k := kk) ?_ (fun x hx => ?_) st fun u => ?_
                · obtain ⟨x, hx, ex⟩ := (memL t0).mp ht0
                  exact ⟨x, hx, by rw [← et0, ex]⟩
                · have := hle _ (List.mem_map.mpr ⟨pc ((2 ^ ds.length - 1) ^^^ x), List.mem_map.mpr ⟨_, (memL _).mpr ⟨x, hx, rfl⟩, rfl⟩, rfl⟩)
                  exact Int.ofNat_le.mp this
                · rw [mt, List.mem_filter, memL, decide_eq_true_eq]
              rw [e] at k
              refine k _ q (s04.trans (same_new hq)) (s04.free hq) ?_
              rw [upd_same, et, nVs_int]
end
end Na

set_option Elab.async false
set_option maxRecDepth 100000
set_option maxHeartbeats 4000000
namespace Na
open PySem PySem.Spec PyProof.Rows L2
open Kh413 (say does atOnce set1 given doing)
/-! ### rows, by places of which something is true -/
inductive LsIn (P : Addr → Prop) (H : Hp) : List V → List (List Nat) → Prop
  | nil : LsIn P H [] []
  | cons {a : Addr} {l : List Nat} {vs : List V} {ls : List (List Nat)} : P a → H a = some (.lst (nVs l)) → LsIn P H vs ls → LsIn P H (.ref a :: vs) (l :: ls)
theorem LsIn.move {P P' : Addr → Prop} {H H' : Hp} {vs : List V} {ls : List (List Nat)} (h : LsIn P H vs ls) (h1 : ∀ a o, P a → H a = some o → H' a = some o) (h2 : ∀ a, P a → P' a) : LsIn P' H' vs ls := by
  induction h with
  | nil => exact .nil
  | cons p e _ ih => exact .cons (h2 _ p) (h1 _ _ p e) ih
theorem LsIn.at {P : Addr → Prop} {H : Hp} {vs : List V} {ls : List (List Nat)} (h : LsIn P H vs ls) : LsAt H vs ls := by
  induction h with
  | nil => exact .nil
  | cons p e _ ih => exact .cons e ih
theorem LsIn.len {P : Addr → Prop} {H : Hp} {vs : List V} {ls : List (List Nat)} (h : LsIn P H vs ls) : vs.length = ls.length := h.at.len
theorem LsIn.snoc {P : Addr → Prop} {H : Hp} {vs : List V} {ls : List (List Nat)} {a : Addr} {l : List Nat} (h : LsIn P H vs ls) (p : P a) (e : H a = some (.lst (nVs l))) : LsIn P H (vs ++ [V.ref a]) (ls ++ [l]) := by
  induction h with
  | nil => exact .cons p e .nil
  | cons q a _ ih => exact .cons q a ih
theorem LsIn.app {P : Addr → Prop} {H : Hp} {vs us : List V} {ls ks : List (List Nat)} (h : LsIn P H vs ls) (e : LsIn P H us ks) : LsIn P H (vs ++ us) (ls ++ ks) := by
  induction h with
  | nil => exact e
  | cons q a _ ih => exact .cons q a ih
def grown (l r : List Nat) : List (List Nat) := (l.filter fun x => decide (lastF 0 r ≤ x)).map fun x => r ++ [x]
def longer (rows : List (List Nat)) (l : List Nat) : List (List Nat) := rows.flatMap (grown l)
theorem grown_len (l r : List Nat) : (grown l r).length ≤ l.length := by
  unfold grown
  rw [List.length_map]
  exact List.length_filter_le _ _
theorem longer_len (l : List Nat) : ∀ rows : List (List Nat), (longer rows l).length ≤ rows.length * l.length
  | [] => Nat.zero_le _
  | r :: rows => by
    have := longer_len l rows
    have g := grown_len l r
    show (grown l r ++ longer rows l).length ≤ (rows.length + 1) * l.length
    rw [List.length_append, Nat.add_mul, Nat.one_mul]
    omega
theorem longer_snoc (rows : List (List Nat)) (l r : List Nat) : longer (rows ++ [r]) l = longer rows l ++ grown l r := by
  unfold longer
  rw [List.flatMap_append, List.flatMap_cons, List.flatMap_nil, List.append_nil]
theorem rows_longer0 (l : List Nat) (k : Nat) : Kh411.rows l (k + 1) 0 = longer (Kh411.rows l k 0) l := rows_longer l k 0
theorem rows_len16 {l : List Nat} (h : l.length ≤ 16) : ∀ k, (Kh411.rows l k 0).length ≤ 16 ^ k
  | 0 => Nat.le_refl _
  | k + 1 => by
    rw [rows_longer0, Nat.pow_succ]
    exact Nat.le_trans (longer_len l _) (Nat.mul_le_mul (rows_len16 h k) h)
theorem lastF_snoc (f : Nat) : ∀ (r : List Nat) (x : Nat), lastF f (r ++ [x]) = x
  | [], _ => rfl
  | y :: r, x => lastF_snoc y r x
theorem last_form (r : List Nat) (h : r ≠ []) : ∃ s, r = s ++ [lastF 0 r] := by
  have e := List.dropLast_concat_getLast h
  refine ⟨r.dropLast, ?_⟩
  rw [← e, lastF_snoc, List.dropLast_concat]
def sp_one_longer (K : PySem.W.Frag) : Sp := fun vs H Q _ => ∃ (p q : Addr) (us : List V) (rows : List (List Nat)) (l : List Nat), vs = [.ref p, .ref q] ∧ SqL K H p us ∧ LsAt H us rows ∧ SqL K H q (nVs l) ∧ rows.length ≤ 4096 ∧ l.length ≤ 16 ∧ (∀ r, r ∈ rows → r.length ≤ 4) ∧
  ∀ H' g ws, Same H H' → H g = none → H' g = some (.lst ws) → LsAt H' ws (longer rows l) → Q (.ref g) H'
def sp_rows_not_falling (K : PySem.W.Frag) : Sp := fun vs H Q _ => ∃ (q : Addr) (l : List Nat) (k : Nat), vs = [.ref q, nV k] ∧ SqL K H q (nVs l) ∧ l.length ≤ 16 ∧ k ≤ 4 ∧
  ∀ H' g ws, Same H H' → H g = none → H' g = some (.lst ws) → LsAt H' ws (Kh411.rows l k 0) → Q (.ref g) H'
def bad (a : Kh411.Abs) (s k : Nat) : List (List Nat) := (Kh411.rows (Kh411.reach a s) k 0).filter fun l => !a.rule.testBit (put s l)
def sp_rows_that_break (CD CW : Addr) : Sp := fun vs H Q _ => ∃ (a ld lt ls : Addr) (w : Kh413.Work) (s k : Nat), vs = [.ref a, nV s, nV k] ∧ WorldAt CD CW H a ld lt ls w ∧ WF w ∧ s < 2 ^ w.a.m ∧ k ≤ 4 ∧
  ∀ H' g ws, Same H H' → H g = none → H' g = some (.lst ws) → LsAt H' ws (bad w.a s k) → Q (.ref g) H'
def sp_how_broken (CD CW : Addr) : Sp := fun vs H Q _ => ∃ (a ld lt ls : Addr) (w : Kh413.Work) (k : Nat), vs = [.ref a, nV k] ∧ WorldAt CD CW H a ld lt ls w ∧ WF w ∧ 1 ≤ k ∧ k ≤ 4 ∧ Makes H Q (iVs (ansL w (.broken k)))
def sp_fewest_that_break (CD CW : Addr) : Sp := fun vs H Q _ => ∃ (a ld lt ls : Addr) (w : Kh413.Work), vs = [.ref a] ∧ WorldAt CD CW H a ld lt ls w ∧ WF w ∧ ∀ z, ansL w .fewest = [z] → Gives H Q (.int z)
def sp_which_clash (CD CW : Addr) : Sp := fun vs H Q _ => ∃ (a ld lt ls : Addr) (w : Kh413.Work), vs = [.ref a] ∧ WorldAt CD CW H a ld lt ls w ∧ WF w ∧ Makes H Q (iVs (ansL w .clashes))
def sp_which_are_free (CD CW : Addr) : Sp := fun vs H Q _ => ∃ (a ld lt ls : Addr) (w : Kh413.Work), vs = [.ref a] ∧ WorldAt CD CW H a ld lt ls w ∧ WF w ∧ Makes H Q (iVs (ansL w .mostFree))
def sp_which_are_asked (CD CW : Addr) : Sp := fun vs H Q _ => ∃ (a ld lt ls : Addr) (w : Kh413.Work), vs = [.ref a] ∧ WorldAt CD CW H a ld lt ls w ∧ WF w ∧ Makes H Q (iVs (ansL w .asked))
def sp_look_by_copies (CD CW : Addr) : Sp := fun vs H Q _ => ∃ (a ld lt ls : Addr) (w : Kh413.Work) (n k : Nat) (c : Kh413.Call), vs = [.ref a, nV n, nV k] ∧ WorldAt CD CW H a ld lt ls w ∧ WF w ∧ (n = 18 ∨ n = 19) ∧ IsR n [k] c ∧ Makes H Q (iVs (ansL w c))
def sp_look_at_rule (K : PySem.W.Frag) (CD CW : Addr) : Sp := fun vs H Q _ => ∃ (a ld lt ls p : Addr) (w : Kh413.Work) (n : Nat) (ns : List Nat) (c : Kh413.Call), vs = [.ref a, nV n, .ref p] ∧ SqL K H p (nVs ns) ∧ WorldAt CD CW H a ld lt ls w ∧ WF w ∧ IsR n ns c ∧ Makes H Q (iVs (ansL w c))
theorem asked_ne {a : Kh411.Abs} : Kh411.askedOf a ≠ [] := by
  have ne := mostFree_ne a
  obtain ⟨x0, hx0⟩ := List.exists_mem_of_ne_nil _ ne
  -- the least size among the greatest free sets
  have ex : ∃ k, (∃ x, x ∈ Kh411.mostFree a ∧ k = pc ((2 ^ a.deeds.length - 1) ^^^ x)) ∧ ∀ x, x ∈ Kh411.mostFree a → k ≤ pc ((2 ^ a.deeds.length - 1) ^^^ x) := by
    have go : ∀ (n : Nat), (∃ x, x ∈ Kh411.mostFree a ∧ pc ((2 ^ a.deeds.length - 1) ^^^ x) ≤ n) → ∃ k, (∃ x, x ∈ Kh411.mostFree a ∧ k = pc ((2 ^ a.deeds.length - 1) ^^^ x)) ∧ ∀ x, x ∈ Kh411.mostFree a → k ≤ pc ((2 ^ a.deeds.length - 1) ^^^ x) := by
      intro n
      induction n with
      | zero =>
        rintro ⟨x, hx, h⟩
        exact ⟨0, ⟨x, hx, by omega⟩, fun _ _ => Nat.zero_le _⟩
      | succ n ih =>
        rintro ⟨x, hx, h⟩
        by_cases c : ∃ x, x ∈ Kh411.mostFree a ∧ pc ((2 ^ a.deeds.length - 1) ^^^ x) ≤ n
        · exact ih c
        · have all : ∀ y, y ∈ Kh411.mostFree a → n + 1 ≤ pc ((2 ^ a.deeds.length - 1) ^^^ y) := fun y hy => Nat.lt_of_not_le fun q => c ⟨y, hy, q⟩
          exact ⟨n + 1, ⟨x, hx, by have := all x hx; omega⟩, all⟩
    exact go _ ⟨x0, hx0, Nat.le_refl _⟩
  obtain ⟨k, kin, kle⟩ := ex
  have L := asked_of (a := a) (k := k) (l := (List.range (2 ^ a.deeds.length)).filter fun t => decide ((∃ x, x ∈ Kh411.mostFree a ∧ t = (2 ^ a.deeds.length - 1) ^^^ x) ∧ pc t = k)) kin kle ((range_sorted _).filter _) fun t => by
    rw [List.mem_filter, List.mem_range, decide_eq_true_eq]
    exact ⟨fun h => h.2, fun h => ⟨by obtain ⟨⟨x, hx, e⟩, _⟩ := h; rw [e]; exact comp_lt (mem_mostFree.mp hx).1, h⟩⟩
  rw [L]
  obtain ⟨x, hx, e⟩ := kin
  refine List.ne_nil_of_mem (a := (2 ^ a.deeds.length - 1) ^^^ x) (List.mem_filter.mpr ⟨List.mem_range.mpr (comp_lt (mem_mostFree.mp hx).1), decide_eq_true ⟨⟨x, hx, rfl⟩, e.symm⟩⟩)
theorem asked_lt {a : Kh411.Abs} {x : Nat} (h : x ∈ Kh411.askedOf a) : x < 2 ^ a.deeds.length := by
  unfold Kh411.askedOf at h
  split at h
  · simp at h
  · exact List.mem_range.mp (List.mem_filter.mp h).1
theorem asked_len {a : Kh411.Abs} : (Kh411.askedOf a).length ≤ 2 ^ a.deeds.length := by
  unfold Kh411.askedOf
  split
  · exact Nat.zero_le _
  · exact Nat.le_trans (List.length_filter_le _ _) (by unfold Kh411.sets; rw [List.length_range]; exact Nat.le_refl _)
section
variable {P : Program} {w : World} {K : PySem.W.Frag} {mg : Str → Option Value} {base : Heap} {C_Deed C_World C_History Z_SIZES : Addr}
theorem ok_one_longer (T : Txt K mg C_Deed C_World C_History Z_SIZES) : Can P w K mg base 1 "one_longer" (sp_one_longer K) := by
  refine T.d_one_longer.ok sc_one_longer (fun vs H Q E h => ?_) (fun f cdv A outer s H vs Q E hr h => ⟨_, (pss_cons (ps_set (i := 2) sc_one_longer.nd rfl (Or.inl rfl) (pe_lst pa_nil))
      (pss_cons (ps_for PassesOwn.never rfl (pi_list (pv 0)) (pg_name (i := 3) sc_one_longer.nd rfl (Or.inr rfl))
      (pss_one (ps_expr (pe_bm PySem.F.plainAttrs_list PySem.F.slot_list_extend PySem.F.type_list_extend mt_extend (pv 2) (pa_cons (pe_lc (own := [("state", 4)]) (g := gName 4) (tt := (tOr (tTest (tOp rEqNil (tVar 3) (tLst tNil))) (tTest (tOp (rI0 fun i j => .bl (decide (i ≤ j))) (tOp (rIxL K) (tVar 3) (tUn (rU fun i => .int (-i)) (tC (.int 1)))) (tVar 4))))) (te := (tOp rCat (tVar 3) (tLst (tCons (tVar 4) tNil)))) rfl sc_one_longer.nd (pi_list (pv 1)) (blkOk_by (own := [("state", 4)]) (N := N_one_longer) (sc := defScope s_one_longer) (by decide +kernel)) (fun _ _ _ _ _ => by exact (pg_name (i := 4) sc_one_longer.nd rfl (Or.inl rfl))) (fun _ _ _ _ _ => by exact (pts_one (PW.pt (pw_or (pt_cmpR (op_eqNil (Nat.lt_of_succ_lt (hu_of hr))) (pv 3) (pe_lst pa_nil) (nomark _)) (pw_or1 (pt_cmpR op_le (pe_ix ix_list (pv 3) (pe_un un_neg pe_int) (fun _ _ => rfl)) (pv 4) (nomark _))))))) (fun _ _ _ _ _ => by exact (pe_op op_cat (pv 3) (pe_lst (pa_cons (pv 4) pa_nil))))) pa_nil)))))
      (pss_one (ps_ret (pv 2))))), ?_⟩)
  · obtain ⟨p, q, us, rows, l, rfl, _⟩ := h
    rfl
  · obtain ⟨p, q, us, rows, l, rfl, hp, hus, hq, r4, l16, row4, k⟩ := h
    refine ⟨Nat.zero_le _, fun F hF => ?_⟩
    have s0 := same_new (o := HO.lst []) hF
    refine ⟨_, rfl, p, rfl, ⟨_, s0.seq hp⟩, for_list (K := K) (a := p) (xs := us) (fun i σ H' => ∃ (v : Option V) (acc : List V), σ = [some (.ref p), some (.ref q), some (.ref F), v, none] ∧ Same H H' ∧ H' F = some (.lst acc) ∧ LsIn (fun a => a ≠ F) H' acc (longer (rows.take i) l))
      ⟨none, [], rfl, s0, upd_same, .nil⟩ (fun i σ H' _ ⟨_, _, _, s1, _⟩ => s1.seq hp) ?_ ?_⟩
    · rintro i y σ H1 hi ⟨v, acc, rfl, s1, hF1, hL1⟩
      obtain ⟨ra, row, rfl, hri, hra⟩ := hus.getV hi
      have hra1 := s1 _ _ hra
      have mr := List.mem_of_getElem? hri
      have rl := row4 row mr
      refine ⟨_, rfl, .inl ⟨rfl, _, SqL.of hF1⟩, _, rfl, q, rfl, ⟨_, s1.seq hq⟩, fun D hD => lc_list (K := K) (a := q) (xs := nVs l) (fun j H' => Same H1 H' ∧ ∃ zs, H' D = some (.lst zs) ∧ LsIn (fun a => H1 a = none ∧ a ≠ D) H' zs (grown (l.take j) row))
        ⟨same_new hD, [], upd_same, .nil⟩ (fun j H' _ ⟨s2, _⟩ => (s1.trans s2).seq hq) ?_ ?_⟩
      · rintro j y H2 hj ⟨s2, zs, h2, hL2⟩
        obtain ⟨x, hx, rfl⟩ := nVs_get hj
        have hra2 := s2 _ _ hra1
        have lj := len_take_lt hx
        have zl : zs.length ≤ 16 := by
          have e1 := hL2.len
          have e2 := grown_len (l.take j) row
          omega
        have tk : grown (l.take (j + 1)) row = grown (l.take j) row ++ (if decide (lastF 0 row ≤ x) = true then [row ++ [x]] else []) := by
          unfold grown
          rw [take_one hx, List.filter_append, List.map_append, List.filter_cons, List.filter_nil]
          split <;> rfl
        refine ⟨rfl, _, rfl, Nat.zero_le _, fun e he => ?_⟩
        have s3 := same_new (o := HO.lst []) he
        have hra3 := s3 _ _ hra2
        have h3 := s3 _ _ h2
        have yes : decide (lastF 0 row ≤ x) = true → ∀ {H3 : Hp}, Same H2 H3 → H3 ra = some (.lst (nVs row)) → H3 D = some (.lst zs) →
            tOp rCat (tVar 3) (tLst (tCons (tVar 4) tNil)) [some (V.ref p), some (V.ref q), some (V.ref F), some (V.ref ra), some (nV x)] H3 fun y H4 => ∃ acc, H4 D = some (.lst acc) ∧ acc.length < sizeLine ∧ Same H1 (upd H4 D (.lst (acc ++ [y]))) ∧ ∃ zs, upd H4 D (.lst (acc ++ [y])) D = some (.lst zs) ∧ LsIn (fun a => H1 a = none ∧ a ≠ D) (upd H4 D (.lst (acc ++ [y]))) zs (grown (l.take (j + 1)) row) := by
          intro c H3 s23 hr3 hd3
          refine ⟨_, rfl, _, rfl, (by show 1 ≤ sizeLine; decide), fun g hg => ?_⟩
          have s4 := same_new (o := HO.lst [nV x]) hg
          refine ⟨ra, g, _, _, rfl, rfl, s4 _ _ hr3, upd_same, ?_, fun b hb => ?_⟩
          · rw [nVs_len]
            exact Nat.le_trans (show row.length + 1 ≤ 64 by omega) (by decide)
          · have s5 := same_new (o := HO.lst (nVs row ++ [nV x])) hb
            have s15 := s2.trans (s23.trans (s4.trans s5))
            have hd5 := s5 _ _ (s4 _ _ hd3)
            have bD : b ≠ D := fun z => by
              have := s4 _ _ hd3
              rw [← z, hb] at this
              cases this
            have fb : H1 b = none := (s2.trans (s23.trans s4)).free hb
            refine ⟨zs, hd5, Nat.lt_of_le_of_lt zl (by decide), same_mut s15 hD, _, upd_same, ?_⟩
            rw [tk, if_pos c]
            refine LsIn.snoc (hL2.move (fun a o pa ea => ?_) fun a pa => pa) ⟨fb, bD⟩ ?_
            · rw [upd_ne pa.2]
              exact (s23.trans (s4.trans s5)) _ _ ea
            · rw [upd_ne bD, upd_same, nVs_snoc]
        have no : decide (lastF 0 row ≤ x) = false → ∀ {H3 : Hp}, Same H2 H3 → H3 D = some (.lst zs) → Same H1 H3 ∧ ∃ zs, H3 D = some (.lst zs) ∧ LsIn (fun a => H1 a = none ∧ a ≠ D) H3 zs (grown (l.take (j + 1)) row) := by
          intro c H3 s23 hd3
          refine ⟨s2.trans s23, zs, hd3, ?_⟩
          rw [tk, if_neg (by rw [c]; decide), List.append_nil]
          exact hL2.move (fun a o _ ea => s23 _ _ ea) fun a pa => pa
        refine ⟨ra, e, _, rfl, rfl, hra3, upd_same, _, rfl, if_both (fun c1 => if_true_of rfl ?_) (fun c1 => ?_)⟩
        · have rn : row = [] := by
            cases row with
            | nil => rfl
            | cons y s => cases c1
          exact yes (by rw [rn]; exact decide_eq_true (Nat.zero_le x)) s3 hra3 h3
        · have rn : row ≠ [] := fun z => by
            rw [z] at c1
            cases c1
          obtain ⟨s, es⟩ := last_form row rn
          have ai : atI (nVs row) (-1) = some (nV (lastF 0 row)) := by
            rw [es, nVs_snoc, atI_last, ← es]
          refine ⟨_, rfl, _, rfl, ra, _, _, _, rfl, rfl, SqL.of hra3, ai, _, rfl, _, _, rfl, rfl, _, rfl, ?_⟩
          have ei : decide (((lastF 0 row : Nat) : Int) ≤ (x : Int)) = decide (lastF 0 row ≤ x) := decide_eq_decide.mpr Int.ofNat_le
          show if decide (((lastF 0 row : Nat) : Int) ≤ (x : Int)) = true then _ else _
          rw [ei]
          exact if_both (fun c2 => yes c2 s3 hra3 h3) fun c2 => no c2 s3 h3
      · rintro H2 ⟨s2, zs, h2, hL2⟩
        rw [nVs_len, List.take_length] at hL2
        have DF : D ≠ F := fun z => by
          rw [z, hF1] at hD
          cases hD
        have e1 := hL1.len
        have e2 := hL2.len
        have g1 := longer_len l (rows.take i)
        have g2 := grown_len l row
        have ri := len_take_lt hri
        have b1 : (rows.take i).length * l.length ≤ 4096 * 16 := Nat.mul_le_mul (by omega) l16
        refine ⟨F, D, acc, zs, rfl, rfl, s2 _ _ hF1, h2, Nat.le_trans (show acc.length + zs.length ≤ 65552 by omega) (by decide), _, acc ++ zs, rfl, same_mut (s1.trans s2) hF, upd_same, ?_⟩
        rw [take_one hri, longer_snoc]
        refine LsIn.app (hL1.move (fun a o pa ea => ?_) fun a pa => pa) (hL2.move (fun a o pa ea => ?_) fun a pa z => ?_)
        · rw [upd_ne pa]
          exact s2 _ _ ea
        · have : a ≠ F := fun z => by
            have := pa.1
            rw [z, hF1] at this
            cases this
          rw [upd_ne this]
          exact ea
        · have := pa.1
          rw [z, hF1] at this
          cases this
    · rintro σ H1 ⟨v, acc, rfl, s1, hF1, hL1⟩
      rw [hus.len, List.take_length] at hL1
      exact ⟨_, rfl, k H1 F acc s1 hF hF1 hL1.at⟩
theorem ok_rows_not_falling (T : Txt K mg C_Deed C_World C_History Z_SIZES) : Can P w K mg base 2 "rows_not_falling" (sp_rows_not_falling K) := by
  refine T.d_rows_not_falling.ok sc_rows_not_falling (fun vs H Q E h => ?_) (fun f cdv A outer s H vs Q E hr h => ⟨_, (pss_cons (ps_set (i := 2) sc_rows_not_falling.nd rfl (Or.inl rfl) (pe_lst (pa_cons (pe_lst pa_nil) pa_nil)))
      (pss_cons (ps_for PassesOwn.never rfl (pi_range1 (by rfl) T.b_range (pa_cons (pv 1) pa_nil)) (pg_name (i := 3) sc_rows_not_falling.nd rfl (Or.inl rfl))
      (pss_one (ps_set (i := 2) sc_rows_not_falling.nd rfl (Or.inl rfl) (pe_can (ok_one_longer T) hr (by decide) rfl (pa_cons (pv 2) (pa_cons (pv 0) pa_nil))))))
      (pss_one (ps_ret (pv 2))))), ?_⟩)
  · obtain ⟨q, l, k, rfl, _⟩ := h
    rfl
  · obtain ⟨q, l, n, rfl, hq, l16, n4, k⟩ := h
    refine ⟨Nat.zero_le _, fun e he => ⟨(by show 1 ≤ sizeLine; decide), fun F hF => ?_⟩⟩
    have s0 := (same_new (o := HO.lst []) he).trans (same_new (o := HO.lst [V.ref e]) hF)
    refine ⟨_, rfl, _, rfl, (by omega), (by omega), for_range (lo := 0) (n := n) (fun i σ H' => ∃ (G : Addr) (ws : List V) (v : Option V), σ = [some (.ref q), some (nV n), some (.ref G), v] ∧ Same H H' ∧ H G = none ∧ H' G = some (.lst ws) ∧ LsAt H' ws (Kh411.rows l i 0))
      ⟨F, _, none, rfl, s0, (same_new he).free hF, upd_same, .cons ((same_new (o := HO.lst [V.ref e]) hF) _ _ upd_same) .nil⟩ ?_ ?_⟩
    · rintro i σ H1 hi ⟨G, ws, v, rfl, s1, fG, hG, hL⟩
      have b : (Kh411.rows l i 0).length ≤ 16 ^ i := rows_len16 l16 i
      have b2 : 16 ^ i ≤ 16 ^ 3 := Nat.pow_le_pow_right (by decide) (by omega)
      refine ⟨_, rfl, _, rfl, G, q, ws, Kh411.rows l i 0, l, rfl, SqL.of hG, hL, s1.seq hq, Nat.le_trans b (Nat.le_trans b2 (by decide)), l16, fun r hr => ?_, fun H2 G2 ws2 s2 fG2 hG2 hL2 => ?_⟩
      · have := (mem_rows.mp hr).1
        omega
      · refine ⟨G2, ws2, _, rfl, s1.trans s2, s1.free fG2, hG2, ?_⟩
        rw [rows_longer0]
        exact hL2
    · rintro σ H1 ⟨G, ws, v, rfl, s1, fG, hG, hL⟩
      exact ⟨_, rfl, k H1 G ws s1 fG hG hL⟩
theorem ok_rows_that_break (T : Txt K mg C_Deed C_World C_History Z_SIZES) : Can P w K mg base 4 "rows_that_break" (sp_rows_that_break C_Deed C_World) := by
  refine T.d_rows_that_break.ok sc_rows_that_break (fun vs H Q E h => ?_) (fun f cdv A outer s H vs Q E hr h => ⟨_, (pss_cons (ps_set (i := 3) sc_rows_that_break.nd rfl (Or.inl rfl) (pe_can (ok_may_come_to T) hr (by decide) rfl (pa_cons (pe_fld (pv 0) rfl) (pa_cons (pe_fld (pv 0) rfl) (pa_cons (pv 1) pa_nil)))))
      (pss_one (ps_ret (pe_lc (own := [("row", 4)]) (g := gName 4) (tt := (tNot (tB (tCall (sp_has) [] E0 (tCons (tFld K (tVar 0) "rule") (tCons (tCall (sp_put_together K) [] E0 (tCons (tVar 1) (tCons (tVar 4) tNil))) tNil)))))) (te := (tVar 4)) rfl sc_rows_that_break.nd (pi_list (pe_can (ok_rows_not_falling T) hr (by decide) rfl (pa_cons (pv 3) (pa_cons (pv 2) pa_nil)))) (blkOk_by (own := [("row", 4)]) (N := N_rows_that_break) (sc := defScope s_rows_that_break) (by decide +kernel)) (fun _ _ _ _ _ => by exact (pg_name (i := 4) sc_rows_that_break.nd rfl (Or.inl rfl))) (fun _ _ _ _ _ => by exact (pts_one (pt_not (pt_val (pe_can (ok_has T) hr (by decide) rfl (pa_cons (pe_fld (pv 0) rfl) (pa_cons (pe_can (ok_put_together T) hr (by decide) rfl (pa_cons (pv 1) (pa_cons (pv 4) pa_nil))) pa_nil))))))) (fun _ _ _ _ _ => by exact (pv 4)))))), ?_⟩)
  · obtain ⟨a, ld, lt, ls, w, s, k, rfl, _⟩ := h
    rfl
  · obtain ⟨a, ld, lt, ls, w, c, n, rfl, hW, hf, hc, n4, k⟩ := h
    obtain ⟨dx, vs, hA, hD, hDs, hT, hS, nn⟩ := id hW
    have e16 := pow16 hf.m4
    have rlt : ∀ x, x ∈ Kh411.reach w.a c → x < 2 ^ w.a.m := fun x hx => reach_lt hc ((mem_reach hc).mp hx)
    have rlen : (Kh411.reach w.a c).length ≤ 16 := Nat.le_trans (sorted_len (reach_sorted _ _) rlt) e16
    have qlen : (Kh411.rows (Kh411.reach w.a c) n 0).length ≤ 65536 := Nat.le_trans (rows_len16 rlen n) (Nat.le_trans (Nat.pow_le_pow_right (by decide) n4) (by decide))
    refine ⟨_, rfl, a, C_World, dx, _, _, rfl, hA, T.cl_World, T.n_World_rule, W_lk_rule, _, rfl, a, C_World, dx, _, _, rfl, hA, T.cl_World, T.n_World_deeds, W_lk_deeds, _, rfl, w.a.rule, c, w.a.m, ld, vs, w.a.deeds, rfl, SqL.of hD, hDs, hf.dk, hc, hf.m4, fun H1 R s1 fR hR => ?_⟩
    refine ⟨_, rfl, _, rfl, R, _, n, rfl, SqL.of hR, rlen, n4, fun H2 G ws s2 fG hG hL0 => ?_⟩
    have hL : LsAt H2 ws (Kh411.rows (Kh411.reach w.a c) n 0) := hL0
    have s02 := s1.trans s2
    refine ⟨G, rfl, ⟨_, SqL.of hG⟩, fun D hN => lc_list (K := K) (a := G) (xs := ws) (fun j H' => Same H2 H' ∧ ∃ us, H' D = some (.lst us) ∧ LsAt H2 us (((Kh411.rows (Kh411.reach w.a c) n 0).take j).filter fun l => !w.a.rule.testBit (put c l))) ⟨same_new hN, [], upd_same, .nil⟩ (fun j H' _ ⟨s4, _⟩ => SqL.of (s4 _ _ hG)) ?_ ?_⟩
    · rintro j y H3 hj ⟨s3, us, h3, hU⟩
      obtain ⟨ra, row, rfl, hri, hra⟩ := hL.getV hj
      have s03 := s02.trans s3
      have lj := len_take_lt hri
      have ul : us.length ≤ 65536 := by
        have e1 := hU.len
        have e2 := List.length_filter_le (fun l => !w.a.rule.testBit (put c l)) ((Kh411.rows (Kh411.reach w.a c) n 0).take j)
        omega
      refine ⟨rfl, _, rfl, a, C_World, dx, _, _, rfl, s03 _ _ hA, T.cl_World, T.n_World_rule, W_lk_rule, _, rfl, _, rfl, c, ra, row, rfl, SqL.of (s3 _ _ hra), fun H4 s4 => ⟨w.a.rule, _, rfl, fun H5 s5 => ⟨_, rfl, if_both (fun c1 => ?_) (fun c1 => ?_)⟩⟩⟩
      · have s35 := s4.trans s5
        refine ⟨_, rfl, us, s35 _ _ h3, Nat.lt_of_le_of_lt ul (by decide), same_mut (s3.trans s35) hN, _, upd_same, ?_⟩
        rw [take_one hri, List.filter_append, List.filter_cons, if_pos c1]
        exact hU.snoc hra
      · have s35 := s4.trans s5
        refine ⟨s3.trans s35, us, s35 _ _ h3, ?_⟩
        rw [take_one hri, List.filter_append, List.filter_cons, if_neg (by rw [c1]; decide), List.filter_nil, List.append_nil]
        exact hU
    · rintro H3 ⟨s3, us, h3, hU⟩
      rw [hL.len, List.take_length] at hU
      exact k H3 D us (s02.trans s3) (s02.free hN) h3 (hU.mono s3)
theorem ok_how_broken (T : Txt K mg C_Deed C_World C_History Z_SIZES) : Can P w K mg base 6 "how_broken" (sp_how_broken C_Deed C_World) := by
  refine T.d_how_broken.ok sc_how_broken (fun vs H Q E h => ?_) (fun f cdv A outer s H vs Q E hr h => ⟨_, (pss_cons (ps_set (i := 2) sc_how_broken.nd rfl (Or.inl rfl) (pe_can (ok_first_broken T) hr (by decide) rfl (pa_cons (pe_fld (pv 0) rfl) (pa_cons (pe_fld (pv 0) rfl) (pa_cons (pe_fld (pv 0) rfl) (pa_cons (pv 1) pa_nil))))))
      (pss_cons (ps_if (pt_cmpR op_isN (pv 2) pe_non (nomark _))
      (pss_one (ps_ret (pe_lst (pa_cons (pe_con T.c_KEPT rfl) pa_nil))))
      pss_nil)
      (pss_cons (ps_set (i := 3) sc_how_broken.nd rfl (Or.inl rfl) (pe_ix ix_list (pe_can (ok_rows_that_break T) hr (by decide) rfl (pa_cons (pv 0) (pa_cons (pv 2) (pa_cons (pv 1) pa_nil)))) pe_int (fun _ _ => rfl)))
      (pss_one (ps_ret (pe_op op_cat (pe_op op_cat (pe_lst (pa_cons (pv 2) pa_nil)) (pv 3)) (pe_lst (pa_cons (pe_can (ok_put_together T) hr (by decide) rfl (pa_cons (pv 2) (pa_cons (pv 3) pa_nil))) pa_nil)))))))), ?_⟩)
  · obtain ⟨a, ld, lt, ls, w, k, rfl, _⟩ := h
    rfl
  · obtain ⟨a, ld, lt, ls, w, n, rfl, hW, hf, n1, n4, k⟩ := h
    obtain ⟨dx, vs, hA, hD, hDs, hT, hS, nn⟩ := id hW
    refine ⟨_, rfl, a, C_World, dx, _, _, rfl, hA, T.cl_World, T.n_World_rule, W_lk_rule, _, rfl, a, C_World, dx, _, _, rfl, hA, T.cl_World, T.n_World_deeds, W_lk_deeds, _, rfl, a, C_World, dx, _, _, rfl, hA, T.cl_World, T.n_World_facts, W_lk_facts, _, rfl, w.a.rule, w.a.m, n, ld, vs, w.a.deeds, rfl, SqL.of hD, hDs, hf.dk, hf.m4, by omega, fun H1 s1 => ?_⟩
    cases e : firstB ⟨w.a.m, w.a.rule, w.a.deeds⟩ n with
    | none =>
      have nb : Kh411.broken w.a n = none := by
        have e' : (Kh411.broken w.a n).map (·.1) = none := e
        exact Option.map_eq_none_iff.mp e'
      rw [a_broken33 n1 n4 nb] at k
      refine ⟨_, rfl, rfl, _, rfl, if_true_of rfl ⟨(by show 1 ≤ sizeLine; decide), fun p hp => k _ p (s1.trans (same_new hp)) (s1.free hp) upd_same⟩⟩
    | some s =>
      obtain ⟨hs, l, hb, hh⟩ := firstB_row (a := w.a) e
      rw [a_broken n1 n4 hb, iVs_toI] at k
      refine ⟨_, rfl, rfl, _, rfl, if_false_of rfl ?_⟩
      refine ⟨_, rfl, _, rfl, _, rfl, a, ld, lt, ls, w, s, n, rfl, hW.mono s1, hf, hs, n4, fun H2 G ws s2 fG hG hL => ?_⟩
      obtain ⟨rest, er⟩ : ∃ rest, bad w.a s n = l :: rest := by
        have hh' : (bad w.a s n).head? = some l := hh
        cases q : bad w.a s n with
        | nil =>
          rw [q] at hh'
          cases hh'
        | cons y rest =>
          rw [q] at hh'
          cases hh'
          exact ⟨rest, rfl⟩
      have ml : l ∈ Kh411.rows (Kh411.reach w.a s) n 0 := (List.mem_filter.mp (show l ∈ bad w.a s n by rw [er]; exact List.mem_cons_self)).1
      obtain ⟨ll, lm, _⟩ := mem_rows.mp ml
      have lt' : ∀ x, x ∈ l → x < 2 ^ w.a.m := fun x hx => reach_lt hs ((mem_reach hs).mp (lm x hx))
      rw [er] at hL
      cases hL with
      | @cons ra _ us0 _ hra _ =>
        have s02 := s1.trans s2
        refine ⟨G, _, _, _, rfl, rfl, SqL.of hG, atI_nat (j := 0) rfl, ?_⟩
        refine ⟨_, rfl, (by show 1 ≤ sizeLine; decide), fun t ht => ?_⟩
        have s3 := same_new (o := HO.lst [nV s]) ht
        refine ⟨_, rfl, t, ra, _, _, rfl, rfl, upd_same, s3 _ _ hra, ?_, fun u hu => ?_⟩
        · rw [nVs_len]
          exact Nat.le_trans (show 1 + l.length ≤ 64 by omega) (by decide)
        · have s4 := same_new (o := HO.lst ([nV s] ++ nVs l)) hu
          refine ⟨_, rfl, _, rfl, s, ra, l, rfl, SqL.of (s4 _ _ (s3 _ _ hra)), fun H3 s5 => ?_⟩
          refine ⟨(by show 1 ≤ sizeLine; decide), fun v hv => ?_⟩
          have s6 := same_new (o := HO.lst [nV (put s l)]) hv
          refine ⟨u, v, _, _, rfl, rfl, s6 _ _ (s5 _ _ upd_same), upd_same, ?_, fun q hq => ?_⟩
          · rw [List.length_append, nVs_len]
            exact Nat.le_trans (show 1 + l.length + 1 ≤ 64 by omega) (by decide)
          · have s07 := s02.trans (s3.trans (s4.trans (s5.trans s6)))
            refine k _ q (s07.trans (same_new hq)) (s07.free hq) ?_
            rw [upd_same, ← put_eq hs lt']
            show _ = some (HO.lst (nV s :: nVs (l ++ [put s l])))
            rw [nVs_snoc]
            rfl
theorem ok_fewest_that_break (T : Txt K mg C_Deed C_World C_History Z_SIZES) : Can P w K mg base 7 "fewest_that_break" (sp_fewest_that_break C_Deed C_World) := by
  refine T.d_fewest_that_break.ok sc_fewest_that_break (fun vs H Q E h => ?_) (fun f cdv A outer s H vs Q E hr h => ⟨_, (pss_cons (ps_for PassesOwn.never rfl (pi_range2 (by rfl) T.b_range (pa_cons pe_int (pa_cons (pe_op op_add (pe_fld (pv 0) rfl) pe_int) pa_nil))) (pg_name (i := 1) sc_fewest_that_break.nd rfl (Or.inl rfl))
      (pss_one (ps_if (pt_not (pt_val (pe_can (ok_is_kept T) hr (by decide) rfl (pa_cons (pe_fld (pv 0) rfl) (pa_cons (pe_fld (pv 0) rfl) (pa_cons (pe_fld (pv 0) rfl) (pa_cons (pv 1) pa_nil)))))))
      (pss_one (ps_ret (pv 1)))
      pss_nil)))
      (pss_one (ps_ret (pe_con T.c_KEPT rfl)))), ?_⟩)
  · obtain ⟨a, ld, lt, ls, w, rfl, _⟩ := h
    rfl
  · obtain ⟨a, ld, lt, ls, w, rfl, hW, hf, k⟩ := h
    obtain ⟨dx, vs, hA, hD, hDs, hT, hS, nn⟩ := id hW
    have m4 := hf.m4
    refine ⟨_, rfl, a, C_World, dx, _, _, rfl, hA, T.cl_World, T.n_World_facts, W_lk_facts, _, _, rfl, rfl, 1, (w.a.m : Int) + 1, rfl, ⟨by decide, by decide, by omega, by omega⟩, ?_⟩
    have cnt : ((w.a.m : Int) + 1 - 1).toNat = w.a.m := by omega
    rw [cnt]
    refine for_range (lo := 1) (n := w.a.m) (fun i σ H' => ∃ (v : Option V), σ = [some (.ref a), v] ∧ Same H H' ∧ Kh411.keeps w.a i = true) ⟨none, rfl, Same.refl H, keeps_zero⟩ ?_ ?_
    · rintro i σ H1 hi ⟨v, rfl, s1, hk⟩
      have ev : V.int ((1 : Int) + (i : Int)) = nV (i + 1) := by
        unfold nV
        congr 1
        omega
      rw [ev]
      refine ⟨_, rfl, a, C_World, dx, _, _, rfl, s1 _ _ hA, T.cl_World, T.n_World_rule, W_lk_rule, _, rfl, a, C_World, dx, _, _, rfl, s1 _ _ hA, T.cl_World, T.n_World_deeds, W_lk_deeds, _, rfl, a, C_World, dx, _, _, rfl, s1 _ _ hA, T.cl_World, T.n_World_facts, W_lk_facts, _, rfl, w.a.rule, w.a.m, i + 1, ld, vs, w.a.deeds, rfl, SqL.of (s1 _ _ hD), hDs.mono s1, hf.dk, m4, by omega, fun H2 s2 => ⟨_, rfl, if_not (fun c => ?_) (fun c => ?_)⟩⟩
      · exact ⟨_, rfl, k _ (a_fewest c hk) H2 (s1.trans s2)⟩
      · exact ⟨_, rfl, s1.trans s2, c⟩
    · rintro σ H1 ⟨v, rfl, s1, hk⟩
      exact k _ (a_fewest33 hk) H1 s1
theorem ok_which_clash (T : Txt K mg C_Deed C_World C_History Z_SIZES) : Can P w K mg base 4 "which_clash" (sp_which_clash C_Deed C_World) := by
  refine T.d_which_clash.ok sc_which_clash (fun vs H Q E h => ?_) (fun f cdv A outer s H vs Q E hr h => ⟨_, (pss_cons (ps_set (i := 1) sc_which_clash.nd rfl (Or.inl rfl) (pe_lst pa_nil))
      (pss_cons (ps_for PassesOwn.never rfl (pi_range1 (by rfl) T.b_range (pa_cons (pe_callB call_len_seq (by rfl) T.b_len PySem.boot_len (pa_cons (pe_fld (pv 0) rfl) pa_nil)) pa_nil)) (pg_name (i := 2) sc_which_clash.nd rfl (Or.inl rfl))
      (pss_one (ps_for PassesOwn.never rfl (pi_range2 (by rfl) T.b_range (pa_cons (pv 2) (pa_cons (pe_callB call_len_seq (by rfl) T.b_len PySem.boot_len (pa_cons (pe_fld (pv 0) rfl) pa_nil)) pa_nil))) (pg_name (i := 3) sc_which_clash.nd rfl (Or.inl rfl))
      (pss_one (ps_if (pt_val (pe_can (ok_do_clash T) hr (by decide) rfl (pa_cons (pe_fld (pv 0) rfl) (pa_cons (pe_fld (pv 0) rfl) (pa_cons (pe_ix ix_list (pe_fld (pv 0) rfl) (pv 2) (fun _ _ => rfl)) (pa_cons (pe_ix ix_list (pe_fld (pv 0) rfl) (pv 3) (fun _ _ => rfl)) pa_nil))))))
      (pss_one (ps_expr (pe_bm PySem.F.plainAttrs_list PySem.F.slot_list_extend PySem.F.type_list_extend mt_extend (pv 1) (pa_cons (pe_lst (pa_cons (pv 2) (pa_cons (pv 3) pa_nil))) pa_nil))))
      pss_nil)))))
      (pss_one (ps_ret (pe_op op_cat (pe_lst (pa_cons (pe_op op_fdivN (pe_callB call_len_seq (by rfl) T.b_len PySem.boot_len (pa_cons (pv 1) pa_nil)) pe_int) pa_nil)) (pv 1)))))), ?_⟩)
  · obtain ⟨a, ld, lt, ls, w, rfl, _⟩ := h
    rfl
  · obtain ⟨a, ld, lt, ls, w, rfl, hW, hf, k⟩ := h
    obtain ⟨dx, vs, hA, hD, hDs, hT, hS, nn⟩ := id hW
    have dl := hf.dl
    have len := hDs.len
    rw [a_clashes, iVs_toI] at k
    generalize en : w.a.deeds.length = n at dl len
    have small : ∀ {l : List (Nat × Nat)} {i j : Nat}, l = (pairsTo n i ++ pairsIn i j).filter (clashP w.a) → i < n → j ≤ n → (flat2 l).length ≤ 1000 := fun {l i j} e hi hj => by
      rw [flat2_len, e]
      have h1 := List.length_filter_le (clashP w.a) (pairsTo n i ++ pairsIn i j)
      have h2 : (pairsIn i j).length = j := by
        unfold pairsIn
        rw [List.length_map, List.length_range]
      have h3 : ∀ i, (pairsTo n i).length ≤ i * n := fun i => by
        induction i with
        | zero => exact Nat.zero_le _
        | succ i ih =>
          rw [pairsTo_succ, List.length_append, Nat.add_mul, Nat.one_mul]
          have : (pairsIn i (n - i)).length = n - i := by
            unfold pairsIn
            rw [List.length_map, List.length_range]
          omega
      have h4 := h3 i
      have h5 : i * n ≤ 6 * 6 := Nat.mul_le_mul (by omega) dl
      rw [List.length_append] at h1
      omega
    refine ⟨Nat.zero_le _, fun F hF => ?_⟩
    have s0 := same_new (o := HO.lst []) hF
    refine ⟨_, rfl, a, C_World, dx, _, _, rfl, s0 _ _ hA, T.cl_World, T.n_World_deeds, W_lk_deeds, ld, _, rfl, .inl (SqL.of (s0 _ _ hD)), _, rfl, by omega, by omega, ?_⟩
    rw [Int.toNat_natCast, len]
    refine for_range (lo := 0) (n := n) (fun i σ H' => ∃ (v1 v2 : Option V), σ = [some (.ref a), some (.ref F), v1, v2] ∧ Same H H' ∧ H' F = some (.lst (nVs (flat2 ((pairsTo n i).filter (clashP w.a))))))
      ⟨none, none, rfl, s0, upd_same⟩ ?_ ?_
    · rintro i σ H1 hi ⟨v1, v2, rfl, s1, h1⟩
      have ev : V.int ((0 : Int) + (i : Int)) = nV i := by
        rw [Int.zero_add]
        rfl
      rw [ev]
      refine ⟨_, rfl, _, rfl, a, C_World, dx, _, _, rfl, s1 _ _ hA, T.cl_World, T.n_World_deeds, W_lk_deeds, ld, _, rfl, .inl (SqL.of (s1 _ _ hD)), (i : Int), (vs.length : Int), rfl, ⟨by omega, by omega, by omega, by omega⟩, ?_⟩
      have cnt : ((vs.length : Int) - (i : Int)).toNat = n - i := by omega
      rw [cnt]
      refine for_range (lo := (i : Int)) (n := n - i) (fun j σ H' => ∃ (v2 : Option V), σ = [some (.ref a), some (.ref F), some (nV i), v2] ∧ Same H H' ∧ H' F = some (.lst (nVs (flat2 ((pairsTo n i ++ pairsIn i j).filter (clashP w.a))))))
        ⟨v2, rfl, s1, by rw [show pairsIn i 0 = [] from rfl, List.append_nil]; exact h1⟩ ?_ ?_
      · rintro j σ H2 hj ⟨v3, rfl, s2, h2⟩
        have ev2 : V.int ((i : Int) + (j : Int)) = nV (i + j) := rfl
        rw [ev2]
        obtain ⟨d, hd⟩ : ∃ d, w.a.deeds[i]? = some d := ⟨_, List.getElem?_eq_getElem (by omega)⟩
        obtain ⟨e, he⟩ : ∃ e, w.a.deeds[i + j]? = some e := ⟨_, List.getElem?_eq_getElem (by omega)⟩
        obtain ⟨pd, vd, ad⟩ := hDs.get hd
        obtain ⟨pe, ve, ae⟩ := hDs.get he
        have cl : clashP w.a (i, i + j) = (Kh411.clash w.a d e).isSome := by
          unfold clashP
          rw [hd, he]
        have step : (pairsTo n i ++ pairsIn i (j + 1)).filter (clashP w.a) = (pairsTo n i ++ pairsIn i j).filter (clashP w.a) ++ (if clashP w.a (i, i + j) = true then [(i, i + j)] else []) := by
          rw [pairsIn_succ, ← List.append_assoc, List.filter_append, List.filter_cons, List.filter_nil]
        refine ⟨_, rfl, a, C_World, dx, _, _, rfl, s2 _ _ hA, T.cl_World, T.n_World_rule, W_lk_rule, _, rfl, a, C_World, dx, _, _, rfl, s2 _ _ hA, T.cl_World, T.n_World_facts, W_lk_facts, _, rfl, a, C_World, dx, _, _, rfl, s2 _ _ hA, T.cl_World, T.n_World_deeds, W_lk_deeds, _, rfl, ld, _, _, _, rfl, rfl, SqL.of (s2 _ _ hD), atI_nat vd,
          _, rfl, a, C_World, dx, _, _, rfl, s2 _ _ hA, T.cl_World, T.n_World_deeds, W_lk_deeds, _, rfl, ld, _, _, _, rfl, rfl, SqL.of (s2 _ _ hD), atI_nat ve, w.a.rule, w.a.m, pd, pe, d, e, w.a.deeds, rfl, ad.mono s2, ae.mono s2, hf.dk d (List.mem_of_getElem? hd), hf.dk e (List.mem_of_getElem? he), hf.m4, fun H3 s3 => ⟨_, rfl, if_both (fun c => ?_) (fun c => ?_)⟩⟩
        · have c' : clashP w.a (i, i + j) = true := cl.trans c
          have s03 := s2.trans s3
          have h3 := s3 _ _ h2
          refine ⟨_, rfl, .inl ⟨rfl, _, SqL.of h3⟩, _, rfl, _, rfl, (by show 2 ≤ sizeLine; decide), fun t ht => ?_⟩
          have s4 := same_new (o := HO.lst [nV i, nV (i + j)]) ht
          refine ⟨F, t, _, _, rfl, rfl, s4 _ _ h3, upd_same, ?_, _, rfl, same_mut (s03.trans s4) hF, ?_⟩
          · have := small (l := (pairsTo n i ++ pairsIn i j).filter (clashP w.a)) rfl hi (by omega)
            rw [nVs_len]
            exact Nat.le_trans (show _ + 2 ≤ 1002 by omega) (by decide)
          · rw [upd_same, step, if_pos c', flat2_app]
            show _ = some (HO.lst (List.map nV (_ ++ [i, i + j])))
            rw [List.map_append]
            rfl
        · have c' : clashP w.a (i, i + j) = false := cl.trans c
          refine ⟨_, rfl, s2.trans s3, ?_⟩
          rw [step, if_neg (by rw [c']; decide), List.append_nil]
          exact s3 _ _ h2
      · rintro σ H2 ⟨v3, rfl, s2, h2⟩
        refine ⟨_, _, rfl, s2, ?_⟩
        rw [pairsTo_succ]
        exact h2
    · rintro σ H1 ⟨v1, v2, rfl, s1, h1⟩
      have eL : (pairsTo n n).filter (clashP w.a) = clashL w.a := by
        unfold clashL
        rw [en, pairs_to]
      rw [eL] at h1
      have ln : (flat2 (clashL w.a)).length ≤ 1000 := by
        cases n with
        | zero =>
          rw [← eL]
          exact Nat.zero_le _
        | succ n =>
          refine small (i := n) (j := n + 1 - n) ?_ (by omega) (by omega)
          rw [← eL, pairsTo_succ]
      refine ⟨_, rfl, F, _, rfl, .inl (SqL.of h1), _, _, rfl, rfl, ⟨by decide, by decide⟩, (by show 1 ≤ sizeLine; decide), fun t ht => ?_⟩
      have ec : V.int ((((nVs (flat2 (clashL w.a))).length : Nat) : Int).fdiv 2) = nV (clashL w.a).length := by
        rw [nVs_len, flat2_len]
        unfold nV
        congr 1
        rw [Int.fdiv_eq_ediv_of_nonneg _ (by decide)]
        omega
      have s2 := same_new (o := HO.lst [V.int ((((nVs (flat2 (clashL w.a))).length : Nat) : Int).fdiv 2)]) ht
      refine ⟨_, rfl, t, F, _, _, rfl, rfl, upd_same, s2 _ _ h1, ?_, fun q hq => ?_⟩
      · rw [nVs_len]
        exact Nat.le_trans (show 1 + (flat2 (clashL w.a)).length ≤ 1001 by omega) (by decide)
      · refine k _ q (s1.trans (s2.trans (same_new hq))) (s1.free (s2.free hq)) ?_
        rw [upd_same]
        show some (HO.lst (V.int ((((nVs (flat2 (clashL w.a))).length : Nat) : Int).fdiv 2) :: nVs (flat2 (clashL w.a)))) = _
        rw [ec]
        rfl
theorem ok_which_are_free (T : Txt K mg C_Deed C_World C_History Z_SIZES) : Can P w K mg base 9 "which_are_free" (sp_which_are_free C_Deed C_World) := by
  refine T.d_which_are_free.ok sc_which_are_free (fun vs H Q E h => ?_) (fun f cdv A outer s H vs Q E hr h => ⟨_, (pss_cons (ps_set (i := 1) sc_which_are_free.nd rfl (Or.inl rfl) (pe_can (ok_greatest_free T) hr (by decide) rfl (pa_cons (pe_fld (pv 0) rfl) (pa_cons (pe_fld (pv 0) rfl) (pa_cons (pe_fld (pv 0) rfl) pa_nil)))))
      (pss_one (ps_ret (pe_op op_cat (pe_lst (pa_cons (pe_callB call_len_seq (by rfl) T.b_len PySem.boot_len (pa_cons (pv 1) pa_nil)) pa_nil)) (pv 1))))), ?_⟩)
  · obtain ⟨a, ld, lt, ls, w, rfl, _⟩ := h
    rfl
  · obtain ⟨a, ld, lt, ls, w, rfl, hW, hf, k⟩ := h
    obtain ⟨dx, vs, hA, hD, hDs, hT, hS, nn⟩ := id hW
    rw [a_mostFree, iVs_toI] at k
    refine ⟨_, rfl, a, C_World, dx, _, _, rfl, hA, T.cl_World, T.n_World_rule, W_lk_rule, _, rfl, a, C_World, dx, _, _, rfl, hA, T.cl_World, T.n_World_deeds, W_lk_deeds, _, rfl, a, C_World, dx, _, _, rfl, hA, T.cl_World, T.n_World_facts, W_lk_facts, w.a.rule, w.a.m, ld, vs, w.a.deeds, rfl, SqL.of hD, hDs, hf.dk, hf.m1, hf.m4, hf.dl, fun H1 p s1 fp hp => ?_⟩
    have ml := mostFree_len w.a hf.dl
    refine ⟨_, rfl, p, _, rfl, .inl (SqL.of hp), (by show 1 ≤ sizeLine; decide), fun t g1 => ⟨_, rfl, t, p, _, _, rfl, rfl, upd_same, (upd_ne (ne_of_none hp g1)).trans hp, ?_, fun q g2 => ?_⟩⟩
    · rw [nVs_len]
      exact Nat.le_trans (show 1 + (Kh411.mostFree w.a).length ≤ 1001 by omega) (by decide)
    · refine k _ q (s1.trans ((same_new g1).trans (same_new g2))) (s1.free ((same_new g1).free g2)) ?_
      rw [upd_same, nVs_len]
      rfl
theorem ok_which_are_asked (T : Txt K mg C_Deed C_World C_History Z_SIZES) : Can P w K mg base 10 "which_are_asked" (sp_which_are_asked C_Deed C_World) := by
  refine T.d_which_are_asked.ok sc_which_are_asked (fun vs H Q E h => ?_) (fun f cdv A outer s H vs Q E hr h => ⟨_, (pss_cons (ps_set (i := 1) sc_which_are_asked.nd rfl (Or.inl rfl) (pe_can (ok_fewest_without T) hr (by decide) rfl (pa_cons (pe_fld (pv 0) rfl) (pa_cons (pe_fld (pv 0) rfl) (pa_cons (pe_fld (pv 0) rfl) pa_nil)))))
      (pss_one (ps_ret (pe_op op_cat (pe_lst (pa_cons (pe_can (ok_size T) hr (by decide) rfl (pa_cons (pe_ix ix_list (pv 1) pe_int (fun _ _ => rfl)) pa_nil)) pa_nil)) (pv 1))))), ?_⟩)
  · obtain ⟨a, ld, lt, ls, w, rfl, _⟩ := h
    rfl
  · obtain ⟨a, ld, lt, ls, w, rfl, hW, hf, k⟩ := h
    obtain ⟨dx, vs, hA, hD, hDs, hT, hS, nn⟩ := id hW
    refine ⟨_, rfl, a, C_World, dx, _, _, rfl, hA, T.cl_World, T.n_World_rule, W_lk_rule, _, rfl, a, C_World, dx, _, _, rfl, hA, T.cl_World, T.n_World_deeds, W_lk_deeds, _, rfl, a, C_World, dx, _, _, rfl, hA, T.cl_World, T.n_World_facts, W_lk_facts, w.a.rule, w.a.m, ld, vs, w.a.deeds, rfl, SqL.of hD, hDs, hf.dk, hf.m1, hf.m4, hf.dl, fun H1 p s1 fp hp => ?_⟩
    have al := asked_len (a := w.a)
    have p64 := pow64 hf.dl
    have hp' : H1 p = some (.lst (nVs (Kh411.askedOf w.a))) := hp
    cases ea : Kh411.askedOf w.a with
    | nil => exact absurd ea asked_ne
    | cons x l =>
      rw [a_asked ea, iVs_toI] at k
      have lx := asked_lt (a := w.a) (x := x) (by rw [ea]; exact List.mem_cons_self)
      rw [size_pc lx] at k
      rw [ea] at hp' al
      rw [List.length_cons] at al
      refine ⟨_, rfl, p, _, _, _, rfl, rfl, SqL.of hp', at0, x, rfl, fun H2 s2 => ⟨(by show 1 ≤ sizeLine; decide), fun t g1 => ?_⟩⟩
      have hp2 := s2 _ _ hp'
      have s3 := same_new (o := HO.lst [nV (pc x)]) g1
      refine ⟨_, rfl, t, p, _, _, rfl, rfl, upd_same, s3 _ _ hp2, ?_, fun q g2 => ?_⟩
      · rw [nVs_len, List.length_cons]
        exact Nat.le_trans (show 1 + (l.length + 1) ≤ 1001 by omega) (by decide)
      · refine k _ q (s1.trans (s2.trans (s3.trans (same_new g2)))) (s1.free (s2.free (s3.free g2))) ?_
        rw [upd_same]
        rfl
theorem ok_look_by_copies (T : Txt K mg C_Deed C_World C_History Z_SIZES) : Can P w K mg base 7 "look_by_copies" (sp_look_by_copies C_Deed C_World) := by
  refine T.d_look_by_copies.ok sc_look_by_copies (fun vs H Q E h => ?_) (fun f cdv A outer s H vs Q E hr h => ⟨_, (pss_cons (ps_if (pt_not (pt_chain op_le op_le pe_int (pv 2) (pe_con T.c_MOST_COPIES rfl)))
      (pss_one (ps_ret (pe_lst (pa_cons (pe_con T.c_NOT_AS_TOLD rfl) pa_nil))))
      pss_nil)
      (pss_cons (ps_if (pt_cmpR op_eq (pv 1) (pe_con T.c_BROKEN rfl) (nomark _))
      (pss_one (ps_ret (pe_can (ok_how_broken T) hr (by decide) rfl (pa_cons (pv 0) (pa_cons (pv 2) pa_nil)))))
      pss_nil)
      (pss_one (ps_ret (pe_lst (pa_cons (pe_callTy call_int1 (by rfl) T.b_int (by decide +kernel) (pa_cons (pe_can (ok_is_kept T) hr (by decide) rfl (pa_cons (pe_fld (pv 0) rfl) (pa_cons (pe_fld (pv 0) rfl) (pa_cons (pe_fld (pv 0) rfl) (pa_cons (pv 2) pa_nil))))) pa_nil)) pa_nil)))))), ?_⟩)
  · obtain ⟨a, ld, lt, ls, w, n, k, c, rfl, _⟩ := h
    rfl
  · obtain ⟨a, ld, lt, ls, w, n, j, c, rfl, hW, hf, hn, hc, k⟩ := h
    obtain ⟨dx, vs, hA, hD, hDs, hT, hS, nn⟩ := id hW
    refine ch rfl ?_
    refine if_both (fun c1 => ?_) (fun c1 => ?_)
    · have no : ¬ (1 ≤ j ∧ j ≤ 4) := by
        simp only [Bool.not_eq_true', Bool.and_eq_false_iff, decide_eq_false_iff_not] at c1
        omega
      have e22 : ansL w c = [-22] := by
        rcases hn with z | z
        · subst z
          exact a_k22 (.inl hc) no
        · subst z
          exact a_k22 (.inr hc) no
      rw [e22] at k
      exact ⟨(by show 1 ≤ sizeLine; decide), fun p hp => k _ p (same_new hp) hp upd_same⟩
    · have yes : 1 ≤ j ∧ j ≤ 4 := by
        simp only [Bool.not_eq_false', Bool.and_eq_true, decide_eq_true_eq] at c1
        omega
      rcases hn with z | z
      · subst z
        cases hc
        rw [a_keeps yes.1 yes.2] at k
        refine ⟨_, rfl, rfl, _, rfl, if_false_of rfl ?_⟩
        refine ⟨_, rfl, a, C_World, dx, _, _, rfl, hA, T.cl_World, T.n_World_rule, W_lk_rule, _, rfl, a, C_World, dx, _, _, rfl, hA, T.cl_World, T.n_World_deeds, W_lk_deeds, _, rfl, a, C_World, dx, _, _, rfl, hA, T.cl_World, T.n_World_facts, W_lk_facts, _, rfl, w.a.rule, w.a.m, j, ld, vs, w.a.deeds, rfl, SqL.of hD, hDs, hf.dk, hf.m4, by omega, fun H1 s1 => .inr ⟨_, rfl, (by show 1 ≤ sizeLine; decide), fun p hp => k _ p (s1.trans (same_new hp)) (s1.free hp) upd_same⟩⟩
      · subst z
        cases hc
        refine ⟨_, rfl, rfl, _, rfl, if_true_of rfl ?_⟩
        exact ⟨_, rfl, _, rfl, a, ld, lt, ls, w, j, rfl, hW, hf, yes.1, yes.2, k⟩
theorem ok_look_at_rule (T : Txt K mg C_Deed C_World C_History Z_SIZES) : Can P w K mg base 11 "look_at_rule" (sp_look_at_rule K C_Deed C_World) := by
  refine T.d_look_at_rule.ok sc_look_at_rule (fun vs H Q E h => ?_) (fun f cdv A outer s H vs Q E hr h => ⟨_, (pss_cons (ps_if (PW.pt (pw_or (pt_cmpR op_eq (pv 1) (pe_con T.c_KEEPS rfl) (nomark _)) (pw_or1 (pt_cmpR op_eq (pv 1) (pe_con T.c_BROKEN rfl) (nomark _)))))
      (pss_one (ps_ret (pe_can (ok_look_by_copies T) hr (by decide) rfl (pa_cons (pv 0) (pa_cons (pv 1) (pa_cons (pe_ix ix_list (pv 2) pe_int (fun _ _ => rfl)) pa_nil))))))
      pss_nil)
      (pss_cons (ps_if (pt_cmpR op_eq (pv 1) (pe_con T.c_FEWEST rfl) (nomark _))
      (pss_one (ps_ret (pe_lst (pa_cons (pe_can (ok_fewest_that_break T) hr (by decide) rfl (pa_cons (pv 0) pa_nil)) pa_nil))))
      pss_nil)
      (pss_cons (ps_if (pt_cmpR op_eq (pv 1) (pe_con T.c_CLASHES rfl) (nomark _))
      (pss_one (ps_ret (pe_can (ok_which_clash T) hr (by decide) rfl (pa_cons (pv 0) pa_nil))))
      pss_nil)
      (pss_cons (ps_if (pt_cmpR op_eq (pv 1) (pe_con T.c_MOST_FREE rfl) (nomark _))
      (pss_one (ps_ret (pe_can (ok_which_are_free T) hr (by decide) rfl (pa_cons (pv 0) pa_nil))))
      pss_nil)
      (pss_cons (ps_if (pt_cmpR op_eq (pv 1) (pe_con T.c_ASKED rfl) (nomark _))
      (pss_one (ps_ret (pe_can (ok_which_are_asked T) hr (by decide) rfl (pa_cons (pv 0) pa_nil))))
      pss_nil)
      (pss_one (ps_ret (pe_lst (pa_cons (pe_callTy call_int1 (by rfl) T.b_int (by decide +kernel) (pa_cons (pe_can (ok_is_closed T) hr (by decide) rfl (pa_cons (pe_fld (pv 0) rfl) (pa_cons (pe_fld (pv 0) rfl) pa_nil))) pa_nil)) pa_nil))))))))), ?_⟩)
  · obtain ⟨a, ld, lt, ls, p, w, n, ns, c, rfl, _⟩ := h
    rfl
  · obtain ⟨a, ld, lt, ls, p, w, n, ns, c, rfl, hp, hW, hf, hc, k⟩ := h
    obtain ⟨dx, vs, hA, hD, hDs, hT, hS, nn⟩ := id hW
    cases hc with
    | keeps j =>
      refine ⟨_, rfl, rfl, _, rfl, if_true_of rfl (if_true_of rfl ?_)⟩
      exact ⟨_, rfl, _, rfl, _, rfl, p, _, _, _, rfl, rfl, hp, at0, a, ld, lt, ls, w, 18, j, _, rfl, hW, hf, .inl rfl, .keeps j, k⟩
    | broken j =>
      refine ⟨_, rfl, rfl, _, rfl, if_false_of rfl ?_⟩
      refine ⟨_, rfl, rfl, _, rfl, if_true_of rfl ?_⟩
      exact ⟨_, rfl, _, rfl, _, rfl, p, _, _, _, rfl, rfl, hp, at0, a, ld, lt, ls, w, 19, j, _, rfl, hW, hf, .inr rfl, .broken j, k⟩
    | fewest =>
      refine ⟨_, rfl, rfl, _, rfl, if_false_of rfl ⟨_, rfl, rfl, _, rfl, if_false_of rfl ?_⟩⟩
      refine ⟨_, rfl, rfl, _, rfl, if_true_of rfl ?_⟩
      refine ⟨_, rfl, a, ld, lt, ls, w, rfl, hW, hf, fun z ez H1 s1 => ⟨(by show 1 ≤ sizeLine; decide), fun q hq => ?_⟩⟩
      rw [ez] at k
      exact k _ q (s1.trans (same_new hq)) (s1.free hq) upd_same
    | clashes =>
      refine ⟨_, rfl, rfl, _, rfl, if_false_of rfl ⟨_, rfl, rfl, _, rfl, if_false_of rfl ?_⟩⟩
      refine ⟨_, rfl, rfl, _, rfl, if_false_of rfl ?_⟩
      refine ⟨_, rfl, rfl, _, rfl, if_true_of rfl ?_⟩
      exact ⟨_, rfl, a, ld, lt, ls, w, rfl, hW, hf, k⟩
    | mostFree =>
      refine ⟨_, rfl, rfl, _, rfl, if_false_of rfl ⟨_, rfl, rfl, _, rfl, if_false_of rfl ?_⟩⟩
      refine ⟨_, rfl, rfl, _, rfl, if_false_of rfl ?_⟩
      refine ⟨_, rfl, rfl, _, rfl, if_false_of rfl ?_⟩
      refine ⟨_, rfl, rfl, _, rfl, if_true_of rfl ?_⟩
      exact ⟨_, rfl, a, ld, lt, ls, w, rfl, hW, hf, k⟩
    | asked =>
      refine ⟨_, rfl, rfl, _, rfl, if_false_of rfl ⟨_, rfl, rfl, _, rfl, if_false_of rfl ?_⟩⟩
      refine ⟨_, rfl, rfl, _, rfl, if_false_of rfl ?_⟩
      refine ⟨_, rfl, rfl, _, rfl, if_false_of rfl ?_⟩
      refine ⟨_, rfl, rfl, _, rfl, if_false_of rfl ?_⟩
      refine ⟨_, rfl, rfl, _, rfl, if_true_of rfl ?_⟩
      exact ⟨_, rfl, a, ld, lt, ls, w, rfl, hW, hf, k⟩
    | closed =>
      rw [a_closed] at k
      refine ⟨_, rfl, rfl, _, rfl, if_false_of rfl ⟨_, rfl, rfl, _, rfl, if_false_of rfl ?_⟩⟩
      refine ⟨_, rfl, rfl, _, rfl, if_false_of rfl ?_⟩
      refine ⟨_, rfl, rfl, _, rfl, if_false_of rfl ?_⟩
      refine ⟨_, rfl, rfl, _, rfl, if_false_of rfl ?_⟩
      refine ⟨_, rfl, rfl, _, rfl, if_false_of rfl ?_⟩
      refine ⟨_, rfl, a, C_World, dx, _, _, rfl, hA, T.cl_World, T.n_World_rule, W_lk_rule, _, rfl, a, C_World, dx, _, _, rfl, hA, T.cl_World, T.n_World_facts, W_lk_facts, w.a.rule, w.a.m, w.a.deeds, rfl, hf.m4, fun H1 s1 => .inr ⟨_, rfl, (by show 1 ≤ sizeLine; decide), fun q hq => k _ q (s1.trans (same_new hq)) (s1.free hq) upd_same⟩⟩
end
end Na

set_option Elab.async false
set_option maxRecDepth 100000
set_option maxHeartbeats 4000000
namespace Na
open PySem PySem.Spec PyProof.Rows L2
open Kh413 (say does atOnce set1 given doing)
def sp_look (K : PySem.W.Frag) (CD CW : Addr) : Sp := fun vs H Q _ => ∃ (a ld lt ls p : Addr) (w : Kh413.Work) (n : Nat) (ns : List Nat) (c : Kh413.Call), vs = [.ref a, nV n, .ref p] ∧ H p = some (.lst (nVs ns)) ∧ WorldAt CD CW H a ld lt ls w ∧ WF w ∧ IsL n ns c ∧ Makes H Q (iVs (ansL w c))
def sp_answer_call (K : PySem.W.Frag) (CD CW CH : Addr) : Sp := fun vs H Q _ => ∃ (A : List Addr) (hx lp lu p : Addr) (s : Option Kh413.Abs) (n : Nat) (ns : List Nat) (c : Kh413.Call), vs = [.ref hx, nV n, .ref p] ∧ HistAt CD CW CH H A hx lp lu s ∧ H p = some (.lst (nVs ns)) ∧ Is n ns c ∧ (∀ x, x ∈ ns → x < 2 ^ 31) ∧
  ∀ H' lp' lu' q, But H H' [hx, lp, lu] → HistAt CD CW CH H' A hx lp' lu' (doing s c).1 → (lp' = lp ∨ H lp' = none) → (lu' = lu ∨ H lu' = none) → q ∉ A → H' q = some (.lst (iVs ((doing s c).2.ret :: (doing s c).2.out))) → Q (.ref q) H'
def sp_answers (K : PySem.W.Frag) : Sp := fun vs H Q _ => ∃ (a : Addr) (cs : List (Nat × List Nat)), vs = [.ref a] ∧ SqL K H a (nVs (flatC cs)) ∧ Fits cs ∧ (flatC cs).length ≤ 300 ∧ (∀ c, c ∈ cs → ∀ x, x ∈ c.2 → x < 2 ^ 31) ∧ (outs none cs).length ≤ 10000000 ∧
  ∀ H' p, H' p = some (.lst (iVs (outs none cs))) → Q (.ref p) H'
section
variable {CD CW CH : Addr} {H : Hp} {A : List Addr} {hx lp lu F : Addr}
theorem Kept.at {r : Addr} {w : Kh413.Work} {xs ys : List V} (h : Kept CD CW H A lp lu r w) (m : F ∈ A) (e : H F = some (.lst xs)) : Kept CD CW (upd H F (.lst ys)) A lp lu r w := by
  obtain ⟨ld, lt, ls, ⟨dy, vs, hA, hD, hDs, hT, hS, n⟩, f, a1, a2, a3⟩ := h
  have ne : ∀ {p : Addr}, p ∉ A → p ≠ F := fun q z => q (z ▸ m)
  refine ⟨ld, lt, ls, ⟨dy, vs, (upd_ne (ins_ne hA e)).trans hA, (upd_ne (ne a1.2.2)).trans hD, hDs.but ((But.refl H [F]).set (List.mem_singleton_self F)) fun p d hp => ?_, (upd_ne (ne a2.2.2)).trans hT, (upd_ne (ne a3.2.2)).trans hS, n⟩, f, a1, a2, a3⟩
  simp only [List.mem_singleton]
  rintro rfl
  exact deed_lst hp e
theorem KsAt.at {vs : List V} {ws : List Kh413.Work} {xs ys : List V} (h : KsAt CD CW H A lp lu vs ws) (m : F ∈ A) (e : H F = some (.lst xs)) : KsAt CD CW (upd H F (.lst ys)) A lp lu vs ws := by
  induction h with
  | nil => exact .nil
  | cons k _ ih => exact .cons (k.at m e) ih
theorem Fre.at {ys : List V} (h : Fre H A lp lu) : Fre (upd H F (.lst ys)) A lp lu := ⟨fun p hp => by
  by_cases z : p = F
  · exact ⟨ys, by rw [z, upd_same]⟩
  · obtain ⟨xs, e⟩ := h.1 p hp
    exact ⟨xs, (upd_ne z).trans e⟩, h.2⟩
theorem HistAt.at {s : Option Kh413.Abs} {xs ys : List V} (h : HistAt CD CW CH H A hx lp lu s) (m : F ∈ A) (e : H F = some (.lst xs)) : HistAt CD CW CH (upd H F (.lst ys)) A hx lp lu s := by
  cases s with
  | none =>
    obtain ⟨dx, e1, e2, e3, n, g⟩ := h
    have np : lp ≠ F := fun z => g.2.1 (z ▸ m)
    have nu : lu ≠ F := fun z => g.2.2 (z ▸ m)
    exact ⟨dx, (upd_ne (ins_ne e1 e)).trans e1, (upd_ne np).trans e2, (upd_ne nu).trans e3, n, g.at⟩
  | some a =>
    obtain ⟨dx, r, vp, vu, e1, e2, e3, n, k, ku, kr, l, g⟩ := h
    have np : lp ≠ F := fun z => g.2.1 (z ▸ m)
    have nu : lu ≠ F := fun z => g.2.2 (z ▸ m)
    exact ⟨dx, r, vp, vu, (upd_ne (ins_ne e1 e)).trans e1, (upd_ne np).trans e2, (upd_ne nu).trans e3, n, k.at m e, ku.at m e, kr.at m e, l, g.at⟩
end
theorem iVs_app (a b : List Int) : iVs (a ++ b) = iVs a ++ iVs b := List.map_append
theorem iVs_len (a : List Int) : (iVs a).length = a.length := List.length_map ..
section
variable {P : Program} {w : World} {K : PySem.W.Frag} {mg : Str → Option Value} {base : Heap} {C_Deed C_World C_History Z_SIZES : Addr}
theorem ok_look (T : Txt K mg C_Deed C_World C_History Z_SIZES) : Can P w K mg base 12 "look" (sp_look K C_Deed C_World) := by
  refine T.d_look.ok sc_look (fun vs H Q E h => ?_) (fun f cdv A outer s H vs Q E hr h => ⟨_, (pss_cons (ps_if (pt_chain op_le op_le (pe_con T.c_KEEPS rfl) (pv 1) (pe_con T.c_CLOSED rfl))
      (pss_one (ps_ret (pe_can (ok_look_at_rule T) hr (by decide) rfl (pa_cons (pv 0) (pa_cons (pv 1) (pa_cons (pv 2) pa_nil))))))
      pss_nil)
      (pss_cons (ps_if (pt_cmpR (op_eqNil (Nat.lt_of_succ_lt (hu_of hr))) (pv 2) (pe_lst pa_nil) (nomark _))
      (pss_one (ps_ret (pe_can (ok_look_at_all T) hr (by decide) rfl (pa_cons (pv 0) (pa_cons (pv 1) pa_nil)))))
      pss_nil)
      (pss_one (ps_ret (pe_can (ok_look_at_one T) hr (by decide) rfl (pa_cons (pv 0) (pa_cons (pv 1) (pa_cons (pe_ix ix_list (pv 2) pe_int (fun _ _ => rfl)) pa_nil)))))))), ?_⟩)
  · obtain ⟨a, ld, lt, ls, p, w, n, ns, c, rfl, _⟩ := h
    rfl
  · obtain ⟨a, ld, lt, ls, p, w, n, ns, c, rfl, hp, hW, hf, hc, k⟩ := h
    refine ch rfl ?_
    rcases hc.split with ⟨hr', lo, hi⟩ | ⟨hq, no⟩
    · have c1 : (decide ((18 : Int) ≤ (n : Int)) && decide ((n : Int) ≤ 24)) = true := by
        rw [Bool.and_eq_true, decide_eq_true_eq, decide_eq_true_eq]
        omega
      exact if_true_of c1 ⟨_, rfl, _, rfl, _, rfl, a, ld, lt, ls, p, w, n, ns, c, rfl, SqL.of hp, hW, hf, hr', k⟩
    · have c1 : (decide ((18 : Int) ≤ (n : Int)) && decide ((n : Int) ≤ 24)) = false := by
        rw [Bool.and_eq_false_iff, decide_eq_false_iff_not, decide_eq_false_iff_not]
        omega
      refine if_false_of c1 ⟨_, rfl, Nat.zero_le _, fun e he => ?_⟩
      have s1 := same_new (o := HO.lst []) he
      refine ⟨p, e, _, rfl, rfl, s1 _ _ hp, upd_same, _, rfl, ?_⟩
      rcases hq with ⟨ha, en⟩ | ⟨x, en, ho⟩
      · subst en
        exact if_true_of rfl ⟨_, rfl, _, rfl, a, ld, lt, ls, w, n, c, rfl, hW.mono s1, hf, ha, fun H' q s fq hq => k H' q (s1.trans s) (s1.free fq) hq⟩
      · subst en
        exact if_false_of rfl ⟨_, rfl, _, rfl, _, rfl, p, _, _, _, rfl, rfl, SqL.of (s1 _ _ hp), at0, a, ld, lt, ls, w, n, x, c, rfl, hW.mono s1, hf, ho, fun H' q s fq hq => k H' q (s1.trans s) (s1.free fq) hq⟩
theorem ok_answer_call (T : Txt K mg C_Deed C_World C_History Z_SIZES) : Can P w K mg base 13 "answer_call" (sp_answer_call K C_Deed C_World C_History) := by
  refine T.d_answer_call.ok sc_answer_call (fun vs H Q E h => ?_) (fun f cdv A outer s H vs Q E hr h => ⟨_, (pss_cons (ps_if (pt_cmpR op_eq (pv 1) (pe_con T.c_BEGIN rfl) (nomark _))
      (pss_one (ps_ret (pe_lst (pa_cons (pe_can (ok_begin T) hr (by decide) rfl (pa_cons (pv 0) (pa_cons (pe_ix ix_list (pv 2) pe_int (fun _ _ => rfl)) (pa_cons (pe_ix ix_list (pv 2) pe_int (fun _ _ => rfl)) pa_nil)))) pa_nil))))
      pss_nil)
      (pss_cons (ps_if (pt_cmpR op_isN (pe_fld (pv 0) rfl) pe_non (nomark _))
      (pss_one (ps_ret (pe_lst (pa_cons (pe_con T.c_NOT_BEGUN rfl) pa_nil))))
      pss_nil)
      (pss_cons (ps_if (pt_cmpR op_eq (pv 1) (pe_con T.c_BACK rfl) (nomark _))
      (pss_one (ps_ret (pe_lst (pa_cons (pe_canM0 (ok_History_take_back T) T.cl_History hr (by decide) (pv 0)) pa_nil))))
      pss_nil)
      (pss_cons (ps_if (pt_cmpR op_eq (pv 1) (pe_con T.c_AGAIN rfl) (nomark _))
      (pss_one (ps_ret (pe_lst (pa_cons (pe_canM0 (ok_History_do_again T) T.cl_History hr (by decide) (pv 0)) pa_nil))))
      pss_nil)
      (pss_cons (ps_if (pt_chain op_le op_le (pe_con T.c_RULE rfl) (pv 1) (pe_con T.c_GATHER rfl))
      (pss_one (ps_ret (pe_lst (pa_cons (pe_can (ok_change_and_keep T) hr (by decide) rfl (pa_cons (pv 0) (pa_cons (pv 1) (pa_cons (pv 2) pa_nil)))) pa_nil))))
      pss_nil)
      (pss_one (ps_ret (pe_can (ok_look T) hr (by decide) rfl (pa_cons (pe_fld (pv 0) rfl) (pa_cons (pv 1) (pa_cons (pv 2) pa_nil))))))))))), ?_⟩)
  · obtain ⟨B, hx, lp, lu, p, s, n, ns, c, rfl, _⟩ := h
    rfl
  · obtain ⟨B, hx, lp, lu, p, s, n, ns, c, rfl, hH, hp, hc, h31, k⟩ := h
    obtain ⟨dx, v, xs, ys, e1, e2, e3, nn, fre⟩ := hH.places
    have off : ∀ {H1 : Hp} {lp' lu' q : Addr} {s' : Option Kh413.Abs}, HistAt C_Deed C_World C_History H1 B hx lp' lu' s' → H1 q = none → q ∉ B := fun h e => by
      obtain ⟨_, _, _, _, _, _, _, _, f⟩ := h.places
      exact f.new e
    have one : ∀ {H1 : Hp} {lp' lu' : Addr} {z : Int}, But H H1 [hx, lp, lu] → HistAt C_Deed C_World C_History H1 B hx lp' lu' (doing s c).1 → (lp' = lp ∨ H lp' = none) → (lu' = lu ∨ H lu' = none) → (doing s c).2.ret = z → (doing s c).2.out = [] →
        [V.int z].length ≤ sizeLine ∧ ∀ q, H1 q = none → Q (.ref q) (upd H1 q (.lst [V.int z])) := fun {H1 lp' lu' z} b1 h1 n1 n2 ez eo => ⟨(by show 1 ≤ sizeLine; decide), fun q hq => by
      refine k _ lp' lu' q (fun b o e nb => (same_new hq) _ _ (b1 b o e nb)) (h1.mono (same_new hq)) n1 n2 (off h1 hq) ?_
      rw [upd_same, ez, eo]
      rfl⟩
    by_cases h0 : n = 0
    · cases hc with
      | begin_ m c =>
        refine ⟨_, rfl, rfl, _, rfl, if_true_of rfl ?_⟩
        exact ⟨_, rfl, _, rfl, p, _, _, _, rfl, rfl, SqL.of hp, at0, _, rfl, p, _, _, _, rfl, rfl, SqL.of hp, at1, B, hx, lp, lu, s, m, c, rfl, hH, fun H1 lp' lu' b1 h1 n1 n2 => one b1 h1 n1 n2 rfl out_begin⟩
      | chg q =>
        have := q.num
        omega
      | back => cases h0
      | again => cases h0
      | look q =>
        have := q.num
        omega
    · have d0 : decide (nV n = V.int 0) = false := (i_eq n 0).trans (decide_eq_false h0)
      refine ⟨_, rfl, rfl, _, rfl, if_false_of d0 ?_⟩
      cases s with
      | none =>
        obtain ⟨dy, q1, _⟩ := id hH
        refine ⟨_, rfl, hx, C_History, dy, _, _, rfl, q1, T.cl_History, T.n_History_world, S_lk_world, rfl, _, rfl, if_true_of rfl ?_⟩
        have dn := doing_none hc h0
        rw [dn] at one
        exact one (But.refl _ _) hH (.inl rfl) (.inl rfl) rfl rfl
      | some ab =>
        obtain ⟨dy, r, vp, vu, q1, q2, q3, qn, kn, ku, kr, l10, fre2⟩ := id hH
        refine ⟨_, rfl, hx, C_History, dy, _, _, rfl, q1, T.cl_History, T.n_History_world, S_lk_world, rfl, _, rfl, if_false_of rfl ?_⟩
        cases hc with
        | begin_ m c => exact absurd rfl h0
        | back =>
          refine ⟨_, rfl, rfl, _, rfl, if_true_of rfl ?_⟩
          exact ⟨_, rfl, hx, dy, _, rfl, q1, S_no_take_back, B, hx, lp, lu, ab, rfl, hH, fun H1 lp' lu' b1 h1 n1 n2 => one b1 h1 n1 n2 rfl out_back⟩
        | again =>
          refine ⟨_, rfl, rfl, _, rfl, if_false_of rfl ?_⟩
          refine ⟨_, rfl, rfl, _, rfl, if_true_of rfl ?_⟩
          exact ⟨_, rfl, hx, dy, _, rfl, q1, S_no_do_again, B, hx, lp, lu, ab, rfl, hH, fun H1 lp' lu' b1 h1 n1 n2 => one b1 h1 n1 n2 rfl out_again⟩
        | chg q =>
          have nm := q.num
          have d10 : decide (nV n = V.int 10) = false := (i_eq n 10).trans (decide_eq_false (by omega))
          have d11 : decide (nV n = V.int 11) = false := (i_eq n 11).trans (decide_eq_false (by omega))
          refine ⟨_, rfl, rfl, _, rfl, if_false_of d10 ?_⟩
          refine ⟨_, rfl, rfl, _, rfl, if_false_of d11 ?_⟩
          refine ch rfl ?_
          have c1 : (decide ((1 : Int) ≤ (n : Int)) && decide ((n : Int) ≤ 9)) = true := by
            rw [Bool.and_eq_true, decide_eq_true_eq, decide_eq_true_eq]
            omega
          refine if_true_of c1 ?_
          exact ⟨_, rfl, _, rfl, _, rfl, B, hx, lp, lu, p, ab, n, ns, c, rfl, hH, SqL.of hp, q, h31, fun H1 lp' lu' b1 h1 n1 n2 => one b1 h1 n1 n2 rfl (by rw [doing_chg q]; exact does_out q)⟩
        | look q =>
          have nm := q.num
          have d10 : decide (nV n = V.int 10) = false := (i_eq n 10).trans (decide_eq_false (by omega))
          have d11 : decide (nV n = V.int 11) = false := (i_eq n 11).trans (decide_eq_false (by omega))
          refine ⟨_, rfl, rfl, _, rfl, if_false_of d10 ?_⟩
          refine ⟨_, rfl, rfl, _, rfl, if_false_of d11 ?_⟩
          refine ch rfl ?_
          have c1 : (decide ((1 : Int) ≤ (n : Int)) && decide ((n : Int) ≤ 9)) = false := by
            rw [Bool.and_eq_false_iff, decide_eq_false_iff_not, decide_eq_false_iff_not]
            omega
          refine if_false_of c1 ?_
          obtain ⟨ld, lt, ls, hW, hf, _⟩ := kn
          rw [doing_look q] at k
          refine ⟨_, rfl, hx, C_History, dy, _, _, rfl, q1, T.cl_History, T.n_History_world, S_lk_world, _, rfl, _, rfl, r, ld, lt, ls, p, ab.now, n, ns, c, rfl, hp, hW, hf, q, fun H1 g s1 fg hg => ?_⟩
          exact k H1 lp lu g (But.of_same s1) (hH.mono s1) (.inl rfl) (.inl rfl) (fre.new fg) hg
theorem ok_answers (T : Txt K mg C_Deed C_World C_History Z_SIZES) {f : Addr} {fd : FuncData} (F : Fun K "answers" "answers" s_answers f fd) : FnOk P w K mg base CX0 14 f fd ["calls"] (sp_answers K) := by
  refine F.ok sc_answers (fun vs H Q E h => ?_) (fun cdv A outer s H vs Q E hr h => ⟨_, (pss_cons (ps_set (i := 1) sc_answers.nd rfl (Or.inl rfl) (pe_canI0 (ok_History_init T) hr (by decide) rfl))
      (pss_cons (ps_set (i := 2) sc_answers.nd rfl (Or.inl rfl) (pe_lst pa_nil))
      (pss_cons (ps_for PassesOwn.never rfl (pi_list (pe_can (ok_take_apart T) hr (by decide) rfl (pa_cons (pv 0) pa_nil))) (pg_tup rfl (pgs_cons (pg_name (i := 3) sc_answers.nd rfl (Or.inl rfl)) (pgs_cons (pg_name (i := 4) sc_answers.nd rfl (Or.inl rfl)) pgs_nil)))
      (pss_cons (ps_set (i := 5) sc_answers.nd rfl (Or.inl rfl) (pe_can (ok_answer_call T) hr (by decide) rfl (pa_cons (pv 1) (pa_cons (pv 3) (pa_cons (pv 4) pa_nil)))))
      (pss_cons (ps_expr (pe_bm PySem.F.plainAttrs_list PySem.F.slot_list_append PySem.F.type_list_append mt_append (pv 2) (pa_cons (pe_callB call_len_seq (by rfl) T.b_len PySem.boot_len (pa_cons (pv 5) pa_nil)) pa_nil)))
      (pss_one (ps_expr (pe_bm PySem.F.plainAttrs_list PySem.F.slot_list_extend PySem.F.type_list_extend mt_extend (pv 2) (pa_cons (pv 5) pa_nil)))))))
      (pss_one (ps_ret (pv 2)))))), ?_⟩)
  · obtain ⟨a, cs, rfl, _⟩ := h
    rfl
  · obtain ⟨a, cs, rfl, ha, fit, l300, l31, l10, k⟩ := h
    intro hx dh nx nd ne
    refine ⟨hx, dh, rfl, upd_same, fun H1 lp0 lu0 hH1 b1 f1 f2 => ⟨rfl, ?_⟩⟩
    have s1 : Same H H1 := fun b o e => b1 b o (by rw [upd_ne (ne_of_none e nx), upd_ne (ne_of_none e nd)]; exact e) (by simpa using ne_of_none e nx)
    refine ⟨Nat.zero_le _, fun F hF => ?_⟩
    have s2 := same_new (o := HO.lst []) hF
    refine ⟨_, rfl, a, cs, rfl, (s1.trans s2).seq ha, fit, l300, fun H3 G ts A0 s3 fG hG cA sepA => ?_⟩
    obtain ⟨dx0, v0, xs0, ys0, e1, e2, e3, n0, _⟩ := hH1.places
    have s13 := s2.trans s3
    have F3 : H3 F = some (.lst []) := s3 _ _ upd_same
    have FG : F ≠ G := fun z => by rw [← z, upd_same] at fG; cases fG
    have fresh1 : ∀ {p : Addr}, upd H1 F (HO.lst []) p = none → p ≠ F ∧ H1 p = none := fun h => upd_free.mp h
    have hH3 : HistAt C_Deed C_World C_History H3 (F :: G :: A0) hx lp0 lu0 none := by
      obtain ⟨dx, q1, q2, q3, nn, _⟩ := hH1
      have np : ∀ {p : Addr} {o : HO}, H1 p = some o → p ∉ F :: G :: A0 := fun e z => by
        rcases List.mem_cons.mp z with z | z
        · rw [z, hF] at e; cases e
        · rcases List.mem_cons.mp z with z | z
          · rw [z, (fresh1 fG).2] at e; cases e
          · rw [(fresh1 (sepA _ z).1).2] at e; cases e
      refine ⟨dx, s13 _ _ q1, s13 _ _ q2, s13 _ _ q3, nn, ⟨fun p hp => ?_, np q2, np q3⟩⟩
      rcases List.mem_cons.mp hp with z | z
      · rw [z]; exact ⟨_, F3⟩
      · rcases List.mem_cons.mp z with z | z
        · rw [z]; exact ⟨_, hG⟩
        · exact (sepA _ z).2.2
    refine ⟨G, rfl, ⟨_, SqL.of hG⟩, for_list (K := K) (a := G) (xs := ts) (fun i σ H' => ∃ (lp lu : Addr) (v1 v2 v3 : Option V), σ = [some (.ref a), some (.ref hx), some (.ref F), v1, v2, v3] ∧ HistAt C_Deed C_World C_History H' (F :: G :: A0) hx lp lu (stAfter none (cs.take i)) ∧
        H' F = some (.lst (iVs (outs none (cs.take i)))) ∧ H' G = some (.lst ts) ∧ CallsAt H' A0 ts cs)
      ⟨lp0, lu0, none, none, none, rfl, hH3, F3, hG, cA⟩ (fun i σ H' _ ⟨_, _, _, _, _, _, _, _, h4, _⟩ => SqL.of h4) ?_ ?_⟩
    · rintro i y σ H4 hi ⟨lp, lu, v1, v2, v3, rfl, hH4, hF4, hG4, cA4⟩
      obtain ⟨t, q, c, rfl, hc, ht, hq, mq⟩ := cA4.get hi
      obtain ⟨n, ns⟩ := c
      have mc := List.mem_of_getElem? hc
      obtain ⟨n30, nl⟩ := fit _ mc
      have isc := (is_of n ns n30 nl).2
      obtain ⟨dx, v, xs, ys, g1, g2, g3, g4, fre⟩ := hH4.places
      refine ⟨t, _, rfl, SqT.of ht, rfl, _, _, rfl, _, _, rfl, rfl, ?_⟩
      refine ⟨_, rfl, _, rfl, _, rfl, F :: G :: A0, hx, lp, lu, q, _, n, ns, _, rfl, hH4, hq, isc, l31 _ mc, fun H5 lp' lu' r b5 hH5 n1 n2 fr hr5 => ?_⟩
      have own : ∀ {p : Addr}, p ∈ F :: G :: A0 → p ∉ [hx, lp, lu] := fun {p} hp z => by
        simp only [List.mem_cons, List.not_mem_nil, or_false] at z
        rcases z with z | z | z
        · obtain ⟨us, e⟩ := fre.1 p hp
          rw [z, g1] at e
          cases e
        · exact fre.2.1 (z ▸ hp)
        · exact fre.2.2 (z ▸ hp)
      have tup : ∀ {p : Addr} {us : List V}, H4 p = some (.tup us) → p ∉ [hx, lp, lu] := fun {p us} e z => by
        simp only [List.mem_cons, List.not_mem_nil, or_false] at z
        rcases z with z | z | z
        · rw [z, g1] at e; cases e
        · rw [z, g2] at e; cases e
        · rw [z, g3] at e; cases e
      have mF : F ∈ F :: G :: A0 := List.mem_cons_self
      have mG : G ∈ F :: G :: A0 := List.mem_cons_of_mem _ List.mem_cons_self
      have hF5 := b5 _ _ hF4 (own mF)
      have hG5 := b5 _ _ hG4 (own mG)
      have bnd : (outs none (cs.take (i + 1))).length ≤ 10000000 := Nat.le_trans (outs_le (i + 1)) l10
      rw [outs_more hc, List.length_append, List.length_cons] at bnd
      have rF : r ≠ F := fun z => fr (z ▸ mF)
      refine ⟨_, rfl, .inl ⟨rfl, _, SqL.of hF5⟩, _, rfl, r, _, rfl, .inl (SqL.of hr5), F, _, _, rfl, rfl, hF5, ?_, ?_⟩
      · rw [iVs_len]
        exact Nat.lt_of_le_of_lt (show _ ≤ 10000000 by omega) (by decide)
      · refine ⟨_, rfl, .inl ⟨rfl, _, SqL.of upd_same⟩, _, rfl, F, r, _, _, rfl, rfl, upd_same, (upd_ne rF).trans hr5, ?_, ?_⟩
        · rw [List.length_append, iVs_len, iVs_len]
          refine Nat.le_trans (show _ ≤ 10000000 from ?_) (by decide)
          show (outs none (cs.take i)).length + 1 + (an1 (stAfter none (cs.take i)) (n, ns)).length ≤ 10000000
          omega
        · refine ⟨lp', lu', _, _, _, rfl, ?_, ?_, ?_, ?_⟩
          · rw [st_more hc]
            exact (hH5.at mF hF5).at mF upd_same
          · rw [upd_same, outs_more hc, iVs_app, iVs_len]
            show some (HO.lst ((iVs _ ++ [V.int _]) ++ iVs _)) = some (HO.lst (iVs _ ++ (V.int _ :: iVs _)))
            rw [List.append_assoc]
            rfl
          · rw [upd_ne FG.symm, upd_ne FG.symm]
            exact hG5
          · refine cA4.move (fun u us e => ?_) (fun u us m e => ?_) fun u m => m
            · have uF : u ≠ F := fun z => by rw [z, hF4] at e; cases e
              rw [upd_ne uF, upd_ne uF]
              exact b5 _ _ e (tup e)
            · have uF : u ≠ F := (fresh1 (sepA u m).1).1
              rw [upd_ne uF, upd_ne uF]
              exact b5 _ _ e (own (List.mem_cons_of_mem _ (List.mem_cons_of_mem _ m)))
    · rintro σ H4 ⟨lp, lu, v1, v2, v3, rfl, hH4, hF4, hG4, cA4⟩
      rw [cA.len, List.take_length] at hF4
      exact ⟨_, rfl, k H4 F hF4⟩
end
end Na

set_option Elab.async false
set_option maxRecDepth 100000
set_option maxHeartbeats 4000000
namespace Na
open PySem PySem.Spec PyProof.Rows L2
open PySem.W (Codec)
theorem intsN_back {l : List Int} (h : ∀ x, x ∈ l → 0 ≤ x) : l = intsN (l.map Int.toNat) := by
  show l = List.map _ _
  rw [List.map_map]
  refine (List.map_id l).symm.trans (List.map_congr_left fun x hx => ?_)
  have := h x hx
  show x = ((x.toNat : Nat) : Int)
  omega
theorem asked_par {l : List Int} (h : PyKh413.answers_asked l = true) (h0 : ∀ x, x ∈ l → 0 ≤ x) : ∃ cs, l = intsN (flatC cs) ∧ Fits cs ∧ PyKh413.answers l = outs none cs ∧ (outs none cs).length ≤ 10000000 := by
  have e := intsN_back h0
  unfold PyKh413.answers_asked at h
  cases q : PyFlat.calls PyKh413.shape l.length l with
  | none =>
    rw [q] at h
    cases h
  | some raw =>
    rw [q] at h
    have h' : (!raw.isEmpty && PyFlat.atMost 60 raw && PyInside.calls PyKh413.bound raw && Kh413Neutral.asked (raw.map PyKh413.whole) && PyFlat.short 10000000 (PyKh413.answers l)) = true := h
    rw [Bool.and_eq_true] at h'
    have sh : (PyKh413.answers l).length ≤ 10000000 := of_decide_eq_true h'.2
    have q2 := q
    rw [e, List.length_map] at q2
    obtain ⟨cs, h1, h2, h3⟩ := calls_par _ _ raw q2
    have wh : raw.map PyKh413.whole = cs.map rawOf := by
      rw [h1, List.map_map]
      refine List.map_congr_left fun c hc => ?_
      obtain ⟨a, b⟩ := h3 c hc
      exact (is_of c.1 c.2 a b).1
    have ea : PyKh413.answers l = outs none cs := by
      unfold PyKh413.answers PyKh413.calls
      rw [q]
      show PyFlat.told (PyFlat.played Kh413Neutral.step Kh413Neutral.start (raw.map PyKh413.whole)) = _
      rw [wh]
      rfl
    refine ⟨cs, ?_, h3, ea, ?_⟩
    · rw [← h2]
      exact e
    · rw [← ea]
      exact sh
theorem mem_flat {cs : List (Nat × List Nat)} {c : Nat × List Nat} {x : Nat} (hc : c ∈ cs) (hx : x ∈ c.2) : x ∈ flatC cs := List.mem_flatMap.mpr ⟨c, hc, List.mem_cons_of_mem _ hx⟩
theorem request {K : PySem.W.Frag} {H : Hp} {p : Addr} {l : List Int} (hw : ((Codec.inLen 0 300 l && l.all (Codec.inInt 0 2147483647)) && true) = true) (ha : PyKh413.answers_asked l = true) (hs : SqL K H p (l.map V.int)) :
    sp_answers K [.ref p] H (fun v H' => Dw K H' v (Codec.enc PySem.Challenge.fr_noasking_s01_answers (PyKh413.answers l))) fun _ _ _ => False := by
  rw [Bool.and_eq_true, Bool.and_eq_true] at hw
  have len := (Codec.inNat_iff.mp hw.1.1).2
  have all := List.all_eq_true.mp hw.1.2
  have bd : ∀ x, x ∈ l → 0 ≤ x ∧ x ≤ 2147483647 := fun x hx => by
    have := all x hx
    exact Codec.inInt_iff.mp this
  obtain ⟨cs, e, fit, ea, l10⟩ := asked_par ha fun x hx => (bd x hx).1
  refine ⟨p, cs, rfl, ?_, fit, ?_, ?_, l10, fun H' q hq => ?_⟩
  · rw [e] at hs
    rw [nVs_int]
    exact hs
  · rw [e, List.length_map] at len
    exact len
  · intro c hc x hx
    have m := mem_flat hc hx
    have := (bd (x : Int) (by rw [e]; exact List.mem_map.mpr ⟨x, m, rfl⟩)).2
    omega
  · rw [ea]
    exact .lst (SqL.of hq) (dw_ints _)
end Na

set_option Elab.async false
set_option maxRecDepth 100000
set_option maxHeartbeats 8000000
namespace Na
open PySem PySem.Spec PyProof.Rows L2
theorem all_mk {P : Program} {w : World} {K : PySem.W.Frag} {h : Heap} {mg : Str → Option Value} {fa C_Deed C_World C_History Z_SIZES f0 f1 f2 f3 f4 f5 f6 f7 f8 f9 f10 f11 f12 f13 f14 f15 f16 f17 f18 f19 f20 f21 f22 f23 f24 f25 f26 f27 f28 f29 f30 f31 f32 f33 f34 f35 f36 f37 f38 f39 f40 f41 f42 f43 f44 f45 f46 f47 f48 f49 f50 f51 f52 f53 f54 f55 f56 f57 f58 f59 f60 f61 f62 f63 f64 f65 f66 f67 f68 f69 f70 f71 f72 f73 : Addr} (X : K.In h) (G : h.Ns mainGlobals mg) (hfa : mg "answers" = some (.ref fa))
    {odz_SIZES : Option Addr} {itz_SIZES : Array Value} {ez_SIZES : Nat} {slz_SIZES : Array (Option Value)}
    {t_BEGIN t_RULE t_DEED t_DROP t_ALLOW t_SET t_DO t_ASK t_GATHER t_BACK t_AGAIN t_COPIES t_AHEAD t_DIFFER t_CAN_DO t_CAN_ASK t_REACH t_KEEPS t_BROKEN t_FEWEST t_CLASHES t_MOST_FREE t_ASKED t_CLOSED t_TOLD t_SURE t_MAY t_NONE_SUCH t_NEED_NOT_SO t_NOT_TOGETHER t_NOT_AS_TOLD t_TOO_MANY t_NOT_LET t_KEPT t_NOT_ALLOWED t_NOT_BEGUN t_ALL_THINGS t_MOST_TAKEN_BACK t_MOST_COPIES t_MOST_DEEDS : Tok}
    {od0 an0 od1 an1 od2 an2 od3 an3 od4 an4 od5 an5 od6 an6 od7 an7 od8 an8 od9 an9 od10 an10 od11 an11 od12 an12 od13 an13 od14 an14 od15 an15 od16 an16 od17 an17 od18 an18 od19 an19 od20 an20 od21 an21 od22 an22 od23 an23 od24 an24 od25 an25 od26 an26 od27 an27 od28 an28 od29 an29 od30 an30 od31 an31 od32 an32 od33 an33 od34 an34 od35 an35 od36 an36 od37 an37 od38 an38 od39 an39 od40 an40 od41 an41 od42 an42 od43 an43 od44 an44 od45 an45 od46 an46 od47 an47 od48 an48 od49 an49 od50 an50 od51 an51 od52 an52 od53 an53 od54 an54 od55 an55 od56 an56 od57 an57 od58 an58 od59 an59 od60 an60 od61 an61 od62 an62 od63 an63 od64 an64 od65 an65 od66 an66 od67 an67 od68 an68 od69 an69 od70 an70 od71 an71 od72 an72 od73 an73 : Option Addr} {sl0 sl1 sl2 sl3 sl4 sl5 sl6 sl7 sl8 sl9 sl10 sl11 sl12 sl13 sl14 sl15 sl16 sl17 sl18 sl19 sl20 sl21 sl22 sl23 sl24 sl25 sl26 sl27 sl28 sl29 sl30 sl31 sl32 sl33 sl34 sl35 sl36 sl37 sl38 sl39 sl40 sl41 sl42 sl43 sl44 sl45 sl46 sl47 sl48 sl49 sl50 sl51 sl52 sl53 sl54 sl55 sl56 sl57 sl58 sl59 sl60 sl61 sl62 sl63 sl64 sl65 sl66 sl67 sl68 sl69 sl70 sl71 sl72 sl73 : Array (Option Value)} {oc0 kV0 dc0 pm0 cd0 ct0 oc1 kV1 dc1 pm1 cd1 ct1 oc2 kV2 dc2 pm2 cd2 ct2 oc3 kV3 dc3 pm3 cd3 ct3 oc4 kV4 dc4 pm4 cd4 ct4 oc5 kV5 dc5 pm5 cd5 ct5 oc6 kV6 dc6 pm6 cd6 ct6 oc7 kV7 dc7 pm7 cd7 ct7 oc8 kV8 dc8 pm8 cd8 ct8 oc9 kV9 dc9 pm9 cd9 ct9 oc10 kV10 dc10 pm10 cd10 ct10 oc11 kV11 dc11 pm11 cd11 ct11 oc12 kV12 dc12 pm12 cd12 ct12 oc13 kV13 dc13 pm13 cd13 ct13 oc14 kV14 dc14 pm14 cd14 ct14 oc15 kV15 dc15 pm15 cd15 ct15 oc16 kV16 dc16 pm16 cd16 ct16 oc17 kV17 dc17 pm17 cd17 ct17 oc18 kV18 dc18 pm18 cd18 ct18 oc19 kV19 dc19 pm19 cd19 ct19 oc20 kV20 dc20 pm20 cd20 ct20 oc21 kV21 dc21 pm21 cd21 ct21 oc22 kV22 dc22 pm22 cd22 ct22 oc23 kV23 dc23 pm23 cd23 ct23 oc24 kV24 dc24 pm24 cd24 ct24 oc25 kV25 dc25 pm25 cd25 ct25 oc26 kV26 dc26 pm26 cd26 ct26 oc27 kV27 dc27 pm27 cd27 ct27 oc28 kV28 dc28 pm28 cd28 ct28 oc29 kV29 dc29 pm29 cd29 ct29 oc30 kV30 dc30 pm30 cd30 ct30 oc31 kV31 dc31 pm31 cd31 ct31 oc32 kV32 dc32 pm32 cd32 ct32 oc33 kV33 dc33 pm33 cd33 ct33 oc34 kV34 dc34 pm34 cd34 ct34 oc35 kV35 dc35 pm35 cd35 ct35 oc36 kV36 dc36 pm36 cd36 ct36 oc37 kV37 dc37 pm37 cd37 ct37 oc38 kV38 dc38 pm38 cd38 ct38 oc39 kV39 dc39 pm39 cd39 ct39 oc40 kV40 dc40 pm40 cd40 ct40 oc41 kV41 dc41 pm41 cd41 ct41 oc42 kV42 dc42 pm42 cd42 ct42 oc43 kV43 dc43 pm43 cd43 ct43 oc44 kV44 dc44 pm44 cd44 ct44 oc45 kV45 dc45 pm45 cd45 ct45 oc46 kV46 dc46 pm46 cd46 ct46 oc47 kV47 dc47 pm47 cd47 ct47 oc48 kV48 dc48 pm48 cd48 ct48 oc49 kV49 dc49 pm49 cd49 ct49 oc50 kV50 dc50 pm50 cd50 ct50 oc51 kV51 dc51 pm51 cd51 ct51 oc52 kV52 dc52 pm52 cd52 ct52 oc53 kV53 dc53 pm53 cd53 ct53 oc54 kV54 dc54 pm54 cd54 ct54 oc55 kV55 dc55 pm55 cd55 ct55 oc56 kV56 dc56 pm56 cd56 ct56 oc57 kV57 dc57 pm57 cd57 ct57 oc58 kV58 dc58 pm58 cd58 ct58 oc59 kV59 dc59 pm59 cd59 ct59 oc60 kV60 dc60 pm60 cd60 ct60 oc61 kV61 dc61 pm61 cd61 ct61 oc62 kV62 dc62 pm62 cd62 ct62 oc63 kV63 dc63 pm63 cd63 ct63 oc64 kV64 dc64 pm64 cd64 ct64 oc65 kV65 dc65 pm65 cd65 ct65 oc66 kV66 dc66 pm66 cd66 ct66 oc67 kV67 dc67 pm67 cd67 ct67 oc68 kV68 dc68 pm68 cd68 ct68 oc69 kV69 dc69 pm69 cd69 ct69 oc70 kV70 dc70 pm70 cd70 ct70 oc71 kV71 dc71 pm71 cd71 ct71 oc72 kV72 dc72 pm72 cd72 ct72 oc73 kV73 dc73 pm73 cd73 ct73 : Value}
    (b_all : PySem.W.nsIn K mainGlobals "all" = some none)
    (b_any : PySem.W.nsIn K mainGlobals "any" = some none)
    (b_enumerate : PySem.W.nsIn K mainGlobals "enumerate" = some none)
    (b_int : PySem.W.nsIn K mainGlobals "int" = some none)
    (b_len : PySem.W.nsIn K mainGlobals "len" = some none)
    (b_list : PySem.W.nsIn K mainGlobals "list" = some none)
    (b_min : PySem.W.nsIn K mainGlobals "min" = some none)
    (b_range : PySem.W.nsIn K mainGlobals "range" = some none)
    (b_sorted : PySem.W.nsIn K mainGlobals "sorted" = some none)
    (c_BEGIN : PySem.W.nsIn K mainGlobals "BEGIN" = some (some (.int (0) t_BEGIN)))
    (c_RULE : PySem.W.nsIn K mainGlobals "RULE" = some (some (.int (1) t_RULE)))
    (c_DEED : PySem.W.nsIn K mainGlobals "DEED" = some (some (.int (2) t_DEED)))
    (c_DROP : PySem.W.nsIn K mainGlobals "DROP" = some (some (.int (3) t_DROP)))
    (c_ALLOW : PySem.W.nsIn K mainGlobals "ALLOW" = some (some (.int (4) t_ALLOW)))
    (c_SET : PySem.W.nsIn K mainGlobals "SET" = some (some (.int (5) t_SET)))
    (c_DO : PySem.W.nsIn K mainGlobals "DO" = some (some (.int (7) t_DO)))
    (c_ASK : PySem.W.nsIn K mainGlobals "ASK" = some (some (.int (8) t_ASK)))
    (c_GATHER : PySem.W.nsIn K mainGlobals "GATHER" = some (some (.int (9) t_GATHER)))
    (c_BACK : PySem.W.nsIn K mainGlobals "BACK" = some (some (.int (10) t_BACK)))
    (c_AGAIN : PySem.W.nsIn K mainGlobals "AGAIN" = some (some (.int (11) t_AGAIN)))
    (c_COPIES : PySem.W.nsIn K mainGlobals "COPIES" = some (some (.int (12) t_COPIES)))
    (c_AHEAD : PySem.W.nsIn K mainGlobals "AHEAD" = some (some (.int (13) t_AHEAD)))
    (c_DIFFER : PySem.W.nsIn K mainGlobals "DIFFER" = some (some (.int (14) t_DIFFER)))
    (c_CAN_DO : PySem.W.nsIn K mainGlobals "CAN_DO" = some (some (.int (15) t_CAN_DO)))
    (c_CAN_ASK : PySem.W.nsIn K mainGlobals "CAN_ASK" = some (some (.int (16) t_CAN_ASK)))
    (c_REACH : PySem.W.nsIn K mainGlobals "REACH" = some (some (.int (17) t_REACH)))
    (c_KEEPS : PySem.W.nsIn K mainGlobals "KEEPS" = some (some (.int (18) t_KEEPS)))
    (c_BROKEN : PySem.W.nsIn K mainGlobals "BROKEN" = some (some (.int (19) t_BROKEN)))
    (c_FEWEST : PySem.W.nsIn K mainGlobals "FEWEST" = some (some (.int (20) t_FEWEST)))
    (c_CLASHES : PySem.W.nsIn K mainGlobals "CLASHES" = some (some (.int (21) t_CLASHES)))
    (c_MOST_FREE : PySem.W.nsIn K mainGlobals "MOST_FREE" = some (some (.int (22) t_MOST_FREE)))
    (c_ASKED : PySem.W.nsIn K mainGlobals "ASKED" = some (some (.int (23) t_ASKED)))
    (c_CLOSED : PySem.W.nsIn K mainGlobals "CLOSED" = some (some (.int (24) t_CLOSED)))
    (c_TOLD : PySem.W.nsIn K mainGlobals "TOLD" = some (some (.int (25) t_TOLD)))
    (c_SURE : PySem.W.nsIn K mainGlobals "SURE" = some (some (.int (26) t_SURE)))
    (c_MAY : PySem.W.nsIn K mainGlobals "MAY" = some (some (.int (27) t_MAY)))
    (c_NONE_SUCH : PySem.W.nsIn K mainGlobals "NONE_SUCH" = some (some (.int (-2) t_NONE_SUCH)))
    (c_NEED_NOT_SO : PySem.W.nsIn K mainGlobals "NEED_NOT_SO" = some (some (.int (-6) t_NEED_NOT_SO)))
    (c_NOT_TOGETHER : PySem.W.nsIn K mainGlobals "NOT_TOGETHER" = some (some (.int (-16) t_NOT_TOGETHER)))
    (c_NOT_AS_TOLD : PySem.W.nsIn K mainGlobals "NOT_AS_TOLD" = some (some (.int (-22) t_NOT_AS_TOLD)))
    (c_TOO_MANY : PySem.W.nsIn K mainGlobals "TOO_MANY" = some (some (.int (-28) t_TOO_MANY)))
    (c_NOT_LET : PySem.W.nsIn K mainGlobals "NOT_LET" = some (some (.int (-33) t_NOT_LET)))
    (c_KEPT : PySem.W.nsIn K mainGlobals "KEPT" = some (some (.int (-33) t_KEPT)))
    (c_NOT_ALLOWED : PySem.W.nsIn K mainGlobals "NOT_ALLOWED" = some (some (.int (-35) t_NOT_ALLOWED)))
    (c_NOT_BEGUN : PySem.W.nsIn K mainGlobals "NOT_BEGUN" = some (some (.int (-61) t_NOT_BEGUN)))
    (c_ALL_THINGS : PySem.W.nsIn K mainGlobals "ALL_THINGS" = some (some (.int (7) t_ALL_THINGS)))
    (c_MOST_TAKEN_BACK : PySem.W.nsIn K mainGlobals "MOST_TAKEN_BACK" = some (some (.int (10) t_MOST_TAKEN_BACK)))
    (c_MOST_COPIES : PySem.W.nsIn K mainGlobals "MOST_COPIES" = some (some (.int (4) t_MOST_COPIES)))
    (c_MOST_DEEDS : PySem.W.nsIn K mainGlobals "MOST_DEEDS" = some (some (.int (6) t_MOST_DEEDS)))
    (g_SIZES : PySem.W.nsIn K mainGlobals "SIZES" = some (some (.ref Z_SIZES)))
    (t_SIZES : K.lookup Z_SIZES = some ⟨.type "tuple", odz_SIZES, .seq itz_SIZES ez_SIZES, slz_SIZES⟩) (v_SIZES : Vals (nVs sizes) itz_SIZES.toList) (y_SIZES : itz_SIZES.size ≤ sizeLine)
    (a_Deed : PySem.W.nsIn K mainGlobals "Deed" = some (some (.ref C_Deed)))
    (pg_Deed : PySem.W.plainGet K C_Deed Str.empty = true)
    (hd_Deed : PySem.W.hasDictIn K C_Deed = true)
    (po_Deed : PySem.W.plainOver K C_Deed = true)
    (sa_Deed : PySem.W.findIn K (.ref C_Deed) "__setattr__" = some (some (.builtin "object.__setattr__")))
    (mk_Deed : PySem.W.makesIn K C_Deed = true)
    (kc_Deed : PySem.W.keepIn K (.ref C_Deed) = true)
    (n_Deed_need : PySem.W.findIn K (.ref C_Deed) "need" = some none)
    (n_Deed_be : PySem.W.findIn K (.ref C_Deed) "be" = some none)
    (n_Deed_on : PySem.W.findIn K (.ref C_Deed) "on" = some none)
    (n_Deed_off : PySem.W.findIn K (.ref C_Deed) "off" = some none)
    (a_World : PySem.W.nsIn K mainGlobals "World" = some (some (.ref C_World)))
    (pg_World : PySem.W.plainGet K C_World Str.empty = true)
    (hd_World : PySem.W.hasDictIn K C_World = true)
    (po_World : PySem.W.plainOver K C_World = true)
    (sa_World : PySem.W.findIn K (.ref C_World) "__setattr__" = some (some (.builtin "object.__setattr__")))
    (mk_World : PySem.W.makesIn K C_World = true)
    (kc_World : PySem.W.keepIn K (.ref C_World) = true)
    (n_World_facts : PySem.W.findIn K (.ref C_World) "facts" = some none)
    (n_World_rule : PySem.W.findIn K (.ref C_World) "rule" = some none)
    (n_World_deeds : PySem.W.findIn K (.ref C_World) "deeds" = some none)
    (n_World_allowed : PySem.W.findIn K (.ref C_World) "allowed" = some none)
    (n_World_told : PySem.W.findIn K (.ref C_World) "told" = some none)
    (n_World_common : PySem.W.findIn K (.ref C_World) "common" = some none)
    (n_World_states : PySem.W.findIn K (.ref C_World) "states" = some none)
    (a_History : PySem.W.nsIn K mainGlobals "History" = some (some (.ref C_History)))
    (pg_History : PySem.W.plainGet K C_History Str.empty = true)
    (hd_History : PySem.W.hasDictIn K C_History = true)
    (po_History : PySem.W.plainOver K C_History = true)
    (sa_History : PySem.W.findIn K (.ref C_History) "__setattr__" = some (some (.builtin "object.__setattr__")))
    (mk_History : PySem.W.makesIn K C_History = true)
    (kc_History : PySem.W.keepIn K (.ref C_History) = true)
    (n_History_world : PySem.W.findIn K (.ref C_History) "world" = some none)
    (n_History_past : PySem.W.findIn K (.ref C_History) "past" = some none)
    (n_History_undone : PySem.W.findIn K (.ref C_History) "undone" = some none)
    (a0 : PySem.W.nsIn K mainGlobals "take_apart" = some (some (.ref f0)))
    (l0 : K.lookup f0 = some ⟨oc0, od0, .func (PySem.W.fnOf "take_apart" "take_apart" (defArgs s_take_apart) (defBody s_take_apart) (defScope s_take_apart) .none kV0 dc0 pm0 an0 cd0 ct0), sl0⟩)
    (q0 : PySem.W.codeIn K cd0 "take_apart" = true)
    (k0 : PySem.W.keepIn K (.ref f0) = true)
    (a1 : PySem.W.nsIn K mainGlobals "has" = some (some (.ref f1)))
    (l1 : K.lookup f1 = some ⟨oc1, od1, .func (PySem.W.fnOf "has" "has" (defArgs s_has) (defBody s_has) (defScope s_has) .none kV1 dc1 pm1 an1 cd1 ct1), sl1⟩)
    (q1 : PySem.W.codeIn K cd1 "has" = true)
    (k1 : PySem.W.keepIn K (.ref f1) = true)
    (a2 : PySem.W.nsIn K mainGlobals "lies_below" = some (some (.ref f2)))
    (l2 : K.lookup f2 = some ⟨oc2, od2, .func (PySem.W.fnOf "lies_below" "lies_below" (defArgs s_lies_below) (defBody s_lies_below) (defScope s_lies_below) .none kV2 dc2 pm2 an2 cd2 ct2), sl2⟩)
    (q2 : PySem.W.codeIn K cd2 "lies_below" = true)
    (k2 : PySem.W.keepIn K (.ref f2) = true)
    (a3 : PySem.W.nsIn K mainGlobals "lies_in" = some (some (.ref f3)))
    (l3 : K.lookup f3 = some ⟨oc3, od3, .func (PySem.W.fnOf "lies_in" "lies_in" (defArgs s_lies_in) (defBody s_lies_in) (defScope s_lies_in) .none kV3 dc3 pm3 an3 cd3 ct3), sl3⟩)
    (q3 : PySem.W.codeIn K cd3 "lies_in" = true)
    (k3 : PySem.W.keepIn K (.ref f3) = true)
    (a4 : PySem.W.nsIn K mainGlobals "size" = some (some (.ref f4)))
    (l4 : K.lookup f4 = some ⟨oc4, od4, .func (PySem.W.fnOf "size" "size" (defArgs s_size) (defBody s_size) (defScope s_size) .none kV4 dc4 pm4 an4 cd4 ct4), sl4⟩)
    (q4 : PySem.W.codeIn K cd4 "size" = true)
    (k4 : PySem.W.keepIn K (.ref f4) = true)
    (a5 : PySem.W.findIn K (.ref C_Deed) "__init__" = some (some (.ref f5)))
    (i5 : PySem.W.isFn K (.ref f5) = true)
    (l5 : K.lookup f5 = some ⟨oc5, od5, .func (PySem.W.fnOf "__init__" "Deed.__init__" (defArgs s_Deed_init) (defBody s_Deed_init) (defScope s_Deed_init) .none kV5 dc5 pm5 an5 cd5 ct5), sl5⟩)
    (q5 : PySem.W.codeIn K cd5 "Deed.__init__" = true)
    (k5 : PySem.W.keepIn K (.ref f5) = true)
    (a6 : PySem.W.nsIn K mainGlobals "is_sound" = some (some (.ref f6)))
    (l6 : K.lookup f6 = some ⟨oc6, od6, .func (PySem.W.fnOf "is_sound" "is_sound" (defArgs s_is_sound) (defBody s_is_sound) (defScope s_is_sound) .none kV6 dc6 pm6 an6 cd6 ct6), sl6⟩)
    (q6 : PySem.W.codeIn K cd6 "is_sound" = true)
    (k6 : PySem.W.keepIn K (.ref f6) = true)
    (a7 : PySem.W.nsIn K mainGlobals "is_ready" = some (some (.ref f7)))
    (l7 : K.lookup f7 = some ⟨oc7, od7, .func (PySem.W.fnOf "is_ready" "is_ready" (defArgs s_is_ready) (defBody s_is_ready) (defScope s_is_ready) .none kV7 dc7 pm7 an7 cd7 ct7), sl7⟩)
    (q7 : PySem.W.codeIn K cd7 "is_ready" = true)
    (k7 : PySem.W.keepIn K (.ref f7) = true)
    (a8 : PySem.W.nsIn K mainGlobals "outcome" = some (some (.ref f8)))
    (l8 : K.lookup f8 = some ⟨oc8, od8, .func (PySem.W.fnOf "outcome" "outcome" (defArgs s_outcome) (defBody s_outcome) (defScope s_outcome) .none kV8 dc8 pm8 an8 cd8 ct8), sl8⟩)
    (q8 : PySem.W.codeIn K cd8 "outcome" = true)
    (k8 : PySem.W.keepIn K (.ref f8) = true)
    (a9 : PySem.W.nsIn K mainGlobals "chosen_of" = some (some (.ref f9)))
    (l9 : K.lookup f9 = some ⟨oc9, od9, .func (PySem.W.fnOf "chosen_of" "chosen_of" (defArgs s_chosen_of) (defBody s_chosen_of) (defScope s_chosen_of) .none kV9 dc9 pm9 an9 cd9 ct9), sl9⟩)
    (q9 : PySem.W.codeIn K cd9 "chosen_of" = true)
    (k9 : PySem.W.keepIn K (.ref f9) = true)
    (a10 : PySem.W.nsIn K mainGlobals "put_together" = some (some (.ref f10)))
    (l10 : K.lookup f10 = some ⟨oc10, od10, .func (PySem.W.fnOf "put_together" "put_together" (defArgs s_put_together) (defBody s_put_together) (defScope s_put_together) .none kV10 dc10 pm10 an10 cd10 ct10), sl10⟩)
    (q10 : PySem.W.codeIn K cd10 "put_together" = true)
    (k10 : PySem.W.keepIn K (.ref f10) = true)
    (a11 : PySem.W.nsIn K mainGlobals "let_states" = some (some (.ref f11)))
    (l11 : K.lookup f11 = some ⟨oc11, od11, .func (PySem.W.fnOf "let_states" "let_states" (defArgs s_let_states) (defBody s_let_states) (defScope s_let_states) .none kV11 dc11 pm11 an11 cd11 ct11), sl11⟩)
    (q11 : PySem.W.codeIn K cd11 "let_states" = true)
    (k11 : PySem.W.keepIn K (.ref f11) = true)
    (a12 : PySem.W.nsIn K mainGlobals "can_be_done" = some (some (.ref f12)))
    (l12 : K.lookup f12 = some ⟨oc12, od12, .func (PySem.W.fnOf "can_be_done" "can_be_done" (defArgs s_can_be_done) (defBody s_can_be_done) (defScope s_can_be_done) .none kV12 dc12 pm12 an12 cd12 ct12), sl12⟩)
    (q12 : PySem.W.codeIn K cd12 "can_be_done" = true)
    (k12 : PySem.W.keepIn K (.ref f12) = true)
    (a13 : PySem.W.nsIn K mainGlobals "may_come_to" = some (some (.ref f13)))
    (l13 : K.lookup f13 = some ⟨oc13, od13, .func (PySem.W.fnOf "may_come_to" "may_come_to" (defArgs s_may_come_to) (defBody s_may_come_to) (defScope s_may_come_to) .none kV13 dc13 pm13 an13 cd13 ct13), sl13⟩)
    (q13 : PySem.W.codeIn K cd13 "may_come_to" = true)
    (k13 : PySem.W.keepIn K (.ref f13) = true)
    (a14 : PySem.W.nsIn K mainGlobals "joined" = some (some (.ref f14)))
    (l14 : K.lookup f14 = some ⟨oc14, od14, .func (PySem.W.fnOf "joined" "joined" (defArgs s_joined) (defBody s_joined) (defScope s_joined) .none kV14 dc14 pm14 an14 cd14 ct14), sl14⟩)
    (q14 : PySem.W.codeIn K cd14 "joined" = true)
    (k14 : PySem.W.keepIn K (.ref f14) = true)
    (a15 : PySem.W.nsIn K mainGlobals "come_together" = some (some (.ref f15)))
    (l15 : K.lookup f15 = some ⟨oc15, od15, .func (PySem.W.fnOf "come_together" "come_together" (defArgs s_come_together) (defBody s_come_together) (defScope s_come_together) .none kV15 dc15 pm15 an15 cd15 ct15), sl15⟩)
    (q15 : PySem.W.codeIn K cd15 "come_together" = true)
    (k15 : PySem.W.keepIn K (.ref f15) = true)
    (a16 : PySem.W.nsIn K mainGlobals "is_kept_from" = some (some (.ref f16)))
    (l16 : K.lookup f16 = some ⟨oc16, od16, .func (PySem.W.fnOf "is_kept_from" "is_kept_from" (defArgs s_is_kept_from) (defBody s_is_kept_from) (defScope s_is_kept_from) .none kV16 dc16 pm16 an16 cd16 ct16), sl16⟩)
    (q16 : PySem.W.codeIn K cd16 "is_kept_from" = true)
    (k16 : PySem.W.keepIn K (.ref f16) = true)
    (a17 : PySem.W.nsIn K mainGlobals "first_broken" = some (some (.ref f17)))
    (l17 : K.lookup f17 = some ⟨oc17, od17, .func (PySem.W.fnOf "first_broken" "first_broken" (defArgs s_first_broken) (defBody s_first_broken) (defScope s_first_broken) .none kV17 dc17 pm17 an17 cd17 ct17), sl17⟩)
    (q17 : PySem.W.codeIn K cd17 "first_broken" = true)
    (k17 : PySem.W.keepIn K (.ref f17) = true)
    (a18 : PySem.W.nsIn K mainGlobals "is_kept" = some (some (.ref f18)))
    (l18 : K.lookup f18 = some ⟨oc18, od18, .func (PySem.W.fnOf "is_kept" "is_kept" (defArgs s_is_kept) (defBody s_is_kept) (defScope s_is_kept) .none kV18 dc18 pm18 an18 cd18 ct18), sl18⟩)
    (q18 : PySem.W.codeIn K cd18 "is_kept" = true)
    (k18 : PySem.W.keepIn K (.ref f18) = true)
    (a19 : PySem.W.nsIn K mainGlobals "is_closed" = some (some (.ref f19)))
    (l19 : K.lookup f19 = some ⟨oc19, od19, .func (PySem.W.fnOf "is_closed" "is_closed" (defArgs s_is_closed) (defBody s_is_closed) (defScope s_is_closed) .none kV19 dc19 pm19 an19 cd19 ct19), sl19⟩)
    (q19 : PySem.W.codeIn K cd19 "is_closed" = true)
    (k19 : PySem.W.keepIn K (.ref f19) = true)
    (a20 : PySem.W.nsIn K mainGlobals "do_clash" = some (some (.ref f20)))
    (l20 : K.lookup f20 = some ⟨oc20, od20, .func (PySem.W.fnOf "do_clash" "do_clash" (defArgs s_do_clash) (defBody s_do_clash) (defScope s_do_clash) .none kV20 dc20 pm20 an20 cd20 ct20), sl20⟩)
    (q20 : PySem.W.codeIn K cd20 "do_clash" = true)
    (k20 : PySem.W.keepIn K (.ref f20) = true)
    (a21 : PySem.W.findIn K (.ref C_World) "__init__" = some (some (.ref f21)))
    (i21 : PySem.W.isFn K (.ref f21) = true)
    (l21 : K.lookup f21 = some ⟨oc21, od21, .func (PySem.W.fnOf "__init__" "World.__init__" (defArgs s_World_init) (defBody s_World_init) (defScope s_World_init) .none kV21 dc21 pm21 an21 cd21 ct21), sl21⟩)
    (q21 : PySem.W.codeIn K cd21 "World.__init__" = true)
    (k21 : PySem.W.keepIn K (.ref f21) = true)
    (a22 : PySem.W.nsIn K mainGlobals "twin" = some (some (.ref f22)))
    (l22 : K.lookup f22 = some ⟨oc22, od22, .func (PySem.W.fnOf "twin" "twin" (defArgs s_twin) (defBody s_twin) (defScope s_twin) .none kV22 dc22 pm22 an22 cd22 ct22), sl22⟩)
    (q22 : PySem.W.codeIn K cd22 "twin" = true)
    (k22 : PySem.W.keepIn K (.ref f22) = true)
    (a23 : PySem.W.nsIn K mainGlobals "straying" = some (some (.ref f23)))
    (l23 : K.lookup f23 = some ⟨oc23, od23, .func (PySem.W.fnOf "straying" "straying" (defArgs s_straying) (defBody s_straying) (defScope s_straying) .none kV23 dc23 pm23 an23 cd23 ct23), sl23⟩)
    (q23 : PySem.W.codeIn K cd23 "straying" = true)
    (k23 : PySem.W.keepIn K (.ref f23) = true)
    (a24 : PySem.W.nsIn K mainGlobals "are_together" = some (some (.ref f24)))
    (l24 : K.lookup f24 = some ⟨oc24, od24, .func (PySem.W.fnOf "are_together" "are_together" (defArgs s_are_together) (defBody s_are_together) (defScope s_are_together) .none kV24 dc24 pm24 an24 cd24 ct24), sl24⟩)
    (q24 : PySem.W.codeIn K cd24 "are_together" = true)
    (k24 : PySem.W.keepIn K (.ref f24) = true)
    (a25 : PySem.W.nsIn K mainGlobals "lies_ahead" = some (some (.ref f25)))
    (l25 : K.lookup f25 = some ⟨oc25, od25, .func (PySem.W.fnOf "lies_ahead" "lies_ahead" (defArgs s_lies_ahead) (defBody s_lies_ahead) (defScope s_lies_ahead) .none kV25 dc25 pm25 an25 cd25 ct25), sl25⟩)
    (q25 : PySem.W.codeIn K cd25 "lies_ahead" = true)
    (k25 : PySem.W.keepIn K (.ref f25) = true)
    (a26 : PySem.W.nsIn K mainGlobals "reached_from" = some (some (.ref f26)))
    (l26 : K.lookup f26 = some ⟨oc26, od26, .func (PySem.W.fnOf "reached_from" "reached_from" (defArgs s_reached_from) (defBody s_reached_from) (defScope s_reached_from) .none kV26 dc26 pm26 an26 cd26 ct26), sl26⟩)
    (q26 : PySem.W.codeIn K cd26 "reached_from" = true)
    (k26 : PySem.W.keepIn K (.ref f26) = true)
    (a27 : PySem.W.nsIn K mainGlobals "may_come_of" = some (some (.ref f27)))
    (l27 : K.lookup f27 = some ⟨oc27, od27, .func (PySem.W.fnOf "may_come_of" "may_come_of" (defArgs s_may_come_of) (defBody s_may_come_of) (defScope s_may_come_of) .none kV27 dc27 pm27 an27 cd27 ct27), sl27⟩)
    (q27 : PySem.W.codeIn K cd27 "may_come_of" = true)
    (k27 : PySem.W.keepIn K (.ref f27) = true)
    (a28 : PySem.W.nsIn K mainGlobals "make_common" = some (some (.ref f28)))
    (l28 : K.lookup f28 = some ⟨oc28, od28, .func (PySem.W.fnOf "make_common" "make_common" (defArgs s_make_common) (defBody s_make_common) (defScope s_make_common) .none kV28 dc28 pm28 an28 cd28 ct28), sl28⟩)
    (q28 : PySem.W.codeIn K cd28 "make_common" = true)
    (k28 : PySem.W.keepIn K (.ref f28) = true)
    (a29 : PySem.W.nsIn K mainGlobals "come_of" = some (some (.ref f29)))
    (l29 : K.lookup f29 = some ⟨oc29, od29, .func (PySem.W.fnOf "come_of" "come_of" (defArgs s_come_of) (defBody s_come_of) (defScope s_come_of) .none kV29 dc29 pm29 an29 cd29 ct29), sl29⟩)
    (q29 : PySem.W.codeIn K cd29 "come_of" = true)
    (k29 : PySem.W.keepIn K (.ref f29) = true)
    (a30 : PySem.W.nsIn K mainGlobals "come_of_doing" = some (some (.ref f30)))
    (l30 : K.lookup f30 = some ⟨oc30, od30, .func (PySem.W.fnOf "come_of_doing" "come_of_doing" (defArgs s_come_of_doing) (defBody s_come_of_doing) (defScope s_come_of_doing) .none kV30 dc30 pm30 an30 cd30 ct30), sl30⟩)
    (q30 : PySem.W.codeIn K cd30 "come_of_doing" = true)
    (k30 : PySem.W.keepIn K (.ref f30) = true)
    (a31 : PySem.W.nsIn K mainGlobals "come_of_asking" = some (some (.ref f31)))
    (l31 : K.lookup f31 = some ⟨oc31, od31, .func (PySem.W.fnOf "come_of_asking" "come_of_asking" (defArgs s_come_of_asking) (defBody s_come_of_asking) (defScope s_come_of_asking) .none kV31 dc31 pm31 an31 cd31 ct31), sl31⟩)
    (q31 : PySem.W.codeIn K cd31 "come_of_asking" = true)
    (k31 : PySem.W.keepIn K (.ref f31) = true)
    (a32 : PySem.W.nsIn K mainGlobals "do_deed" = some (some (.ref f32)))
    (l32 : K.lookup f32 = some ⟨oc32, od32, .func (PySem.W.fnOf "do_deed" "do_deed" (defArgs s_do_deed) (defBody s_do_deed) (defScope s_do_deed) .none kV32 dc32 pm32 an32 cd32 ct32), sl32⟩)
    (q32 : PySem.W.codeIn K cd32 "do_deed" = true)
    (k32 : PySem.W.keepIn K (.ref f32) = true)
    (a33 : PySem.W.nsIn K mainGlobals "ask_deed" = some (some (.ref f33)))
    (l33 : K.lookup f33 = some ⟨oc33, od33, .func (PySem.W.fnOf "ask_deed" "ask_deed" (defArgs s_ask_deed) (defBody s_ask_deed) (defScope s_ask_deed) .none kV33 dc33 pm33 an33 cd33 ct33), sl33⟩)
    (q33 : PySem.W.codeIn K cd33 "ask_deed" = true)
    (k33 : PySem.W.keepIn K (.ref f33) = true)
    (a34 : PySem.W.nsIn K mainGlobals "gather" = some (some (.ref f34)))
    (l34 : K.lookup f34 = some ⟨oc34, od34, .func (PySem.W.fnOf "gather" "gather" (defArgs s_gather) (defBody s_gather) (defScope s_gather) .none kV34 dc34 pm34 an34 cd34 ct34), sl34⟩)
    (q34 : PySem.W.codeIn K cd34 "gather" = true)
    (k34 : PySem.W.keepIn K (.ref f34) = true)
    (a35 : PySem.W.findIn K (.ref C_History) "__init__" = some (some (.ref f35)))
    (i35 : PySem.W.isFn K (.ref f35) = true)
    (l35 : K.lookup f35 = some ⟨oc35, od35, .func (PySem.W.fnOf "__init__" "History.__init__" (defArgs s_History_init) (defBody s_History_init) (defScope s_History_init) .none kV35 dc35 pm35 an35 cd35 ct35), sl35⟩)
    (q35 : PySem.W.codeIn K cd35 "History.__init__" = true)
    (k35 : PySem.W.keepIn K (.ref f35) = true)
    (a36 : PySem.W.findIn K (.ref C_History) "start_with" = some (some (.ref f36)))
    (i36 : PySem.W.isFn K (.ref f36) = true)
    (l36 : K.lookup f36 = some ⟨oc36, od36, .func (PySem.W.fnOf "start_with" "History.start_with" (defArgs s_History_start_with) (defBody s_History_start_with) (defScope s_History_start_with) .none kV36 dc36 pm36 an36 cd36 ct36), sl36⟩)
    (q36 : PySem.W.codeIn K cd36 "History.start_with" = true)
    (k36 : PySem.W.keepIn K (.ref f36) = true)
    (a37 : PySem.W.findIn K (.ref C_History) "go_on_with" = some (some (.ref f37)))
    (i37 : PySem.W.isFn K (.ref f37) = true)
    (l37 : K.lookup f37 = some ⟨oc37, od37, .func (PySem.W.fnOf "go_on_with" "History.go_on_with" (defArgs s_History_go_on_with) (defBody s_History_go_on_with) (defScope s_History_go_on_with) .none kV37 dc37 pm37 an37 cd37 ct37), sl37⟩)
    (q37 : PySem.W.codeIn K cd37 "History.go_on_with" = true)
    (k37 : PySem.W.keepIn K (.ref f37) = true)
    (a38 : PySem.W.findIn K (.ref C_History) "take_back" = some (some (.ref f38)))
    (i38 : PySem.W.isFn K (.ref f38) = true)
    (l38 : K.lookup f38 = some ⟨oc38, od38, .func (PySem.W.fnOf "take_back" "History.take_back" (defArgs s_History_take_back) (defBody s_History_take_back) (defScope s_History_take_back) .none kV38 dc38 pm38 an38 cd38 ct38), sl38⟩)
    (q38 : PySem.W.codeIn K cd38 "History.take_back" = true)
    (k38 : PySem.W.keepIn K (.ref f38) = true)
    (a39 : PySem.W.findIn K (.ref C_History) "do_again" = some (some (.ref f39)))
    (i39 : PySem.W.isFn K (.ref f39) = true)
    (l39 : K.lookup f39 = some ⟨oc39, od39, .func (PySem.W.fnOf "do_again" "History.do_again" (defArgs s_History_do_again) (defBody s_History_do_again) (defScope s_History_do_again) .none kV39 dc39 pm39 an39 cd39 ct39), sl39⟩)
    (q39 : PySem.W.codeIn K cd39 "History.do_again" = true)
    (k39 : PySem.W.keepIn K (.ref f39) = true)
    (a40 : PySem.W.nsIn K mainGlobals "is_free" = some (some (.ref f40)))
    (l40 : K.lookup f40 = some ⟨oc40, od40, .func (PySem.W.fnOf "is_free" "is_free" (defArgs s_is_free) (defBody s_is_free) (defScope s_is_free) .none kV40 dc40 pm40 an40 cd40 ct40), sl40⟩)
    (q40 : PySem.W.codeIn K cd40 "is_free" = true)
    (k40 : PySem.W.keepIn K (.ref f40) = true)
    (a41 : PySem.W.nsIn K mainGlobals "lies_in_one" = some (some (.ref f41)))
    (l41 : K.lookup f41 = some ⟨oc41, od41, .func (PySem.W.fnOf "lies_in_one" "lies_in_one" (defArgs s_lies_in_one) (defBody s_lies_in_one) (defScope s_lies_in_one) .none kV41 dc41 pm41 an41 cd41 ct41), sl41⟩)
    (q41 : PySem.W.codeIn K cd41 "lies_in_one" = true)
    (k41 : PySem.W.keepIn K (.ref f41) = true)
    (a42 : PySem.W.nsIn K mainGlobals "greatest_free" = some (some (.ref f42)))
    (l42 : K.lookup f42 = some ⟨oc42, od42, .func (PySem.W.fnOf "greatest_free" "greatest_free" (defArgs s_greatest_free) (defBody s_greatest_free) (defScope s_greatest_free) .none kV42 dc42 pm42 an42 cd42 ct42), sl42⟩)
    (q42 : PySem.W.codeIn K cd42 "greatest_free" = true)
    (k42 : PySem.W.keepIn K (.ref f42) = true)
    (a43 : PySem.W.nsIn K mainGlobals "fewest_without" = some (some (.ref f43)))
    (l43 : K.lookup f43 = some ⟨oc43, od43, .func (PySem.W.fnOf "fewest_without" "fewest_without" (defArgs s_fewest_without) (defBody s_fewest_without) (defScope s_fewest_without) .none kV43 dc43 pm43 an43 cd43 ct43), sl43⟩)
    (q43 : PySem.W.codeIn K cd43 "fewest_without" = true)
    (k43 : PySem.W.keepIn K (.ref f43) = true)
    (a44 : PySem.W.nsIn K mainGlobals "one_longer" = some (some (.ref f44)))
    (l44 : K.lookup f44 = some ⟨oc44, od44, .func (PySem.W.fnOf "one_longer" "one_longer" (defArgs s_one_longer) (defBody s_one_longer) (defScope s_one_longer) .none kV44 dc44 pm44 an44 cd44 ct44), sl44⟩)
    (q44 : PySem.W.codeIn K cd44 "one_longer" = true)
    (k44 : PySem.W.keepIn K (.ref f44) = true)
    (a45 : PySem.W.nsIn K mainGlobals "rows_not_falling" = some (some (.ref f45)))
    (l45 : K.lookup f45 = some ⟨oc45, od45, .func (PySem.W.fnOf "rows_not_falling" "rows_not_falling" (defArgs s_rows_not_falling) (defBody s_rows_not_falling) (defScope s_rows_not_falling) .none kV45 dc45 pm45 an45 cd45 ct45), sl45⟩)
    (q45 : PySem.W.codeIn K cd45 "rows_not_falling" = true)
    (k45 : PySem.W.keepIn K (.ref f45) = true)
    (a46 : PySem.W.nsIn K mainGlobals "rows_that_break" = some (some (.ref f46)))
    (l46 : K.lookup f46 = some ⟨oc46, od46, .func (PySem.W.fnOf "rows_that_break" "rows_that_break" (defArgs s_rows_that_break) (defBody s_rows_that_break) (defScope s_rows_that_break) .none kV46 dc46 pm46 an46 cd46 ct46), sl46⟩)
    (q46 : PySem.W.codeIn K cd46 "rows_that_break" = true)
    (k46 : PySem.W.keepIn K (.ref f46) = true)
    (a47 : PySem.W.nsIn K mainGlobals "how_broken" = some (some (.ref f47)))
    (l47 : K.lookup f47 = some ⟨oc47, od47, .func (PySem.W.fnOf "how_broken" "how_broken" (defArgs s_how_broken) (defBody s_how_broken) (defScope s_how_broken) .none kV47 dc47 pm47 an47 cd47 ct47), sl47⟩)
    (q47 : PySem.W.codeIn K cd47 "how_broken" = true)
    (k47 : PySem.W.keepIn K (.ref f47) = true)
    (a48 : PySem.W.nsIn K mainGlobals "fewest_that_break" = some (some (.ref f48)))
    (l48 : K.lookup f48 = some ⟨oc48, od48, .func (PySem.W.fnOf "fewest_that_break" "fewest_that_break" (defArgs s_fewest_that_break) (defBody s_fewest_that_break) (defScope s_fewest_that_break) .none kV48 dc48 pm48 an48 cd48 ct48), sl48⟩)
    (q48 : PySem.W.codeIn K cd48 "fewest_that_break" = true)
    (k48 : PySem.W.keepIn K (.ref f48) = true)
    (a49 : PySem.W.nsIn K mainGlobals "which_clash" = some (some (.ref f49)))
    (l49 : K.lookup f49 = some ⟨oc49, od49, .func (PySem.W.fnOf "which_clash" "which_clash" (defArgs s_which_clash) (defBody s_which_clash) (defScope s_which_clash) .none kV49 dc49 pm49 an49 cd49 ct49), sl49⟩)
    (q49 : PySem.W.codeIn K cd49 "which_clash" = true)
    (k49 : PySem.W.keepIn K (.ref f49) = true)
    (a50 : PySem.W.nsIn K mainGlobals "which_are_free" = some (some (.ref f50)))
    (l50 : K.lookup f50 = some ⟨oc50, od50, .func (PySem.W.fnOf "which_are_free" "which_are_free" (defArgs s_which_are_free) (defBody s_which_are_free) (defScope s_which_are_free) .none kV50 dc50 pm50 an50 cd50 ct50), sl50⟩)
    (q50 : PySem.W.codeIn K cd50 "which_are_free" = true)
    (k50 : PySem.W.keepIn K (.ref f50) = true)
    (a51 : PySem.W.nsIn K mainGlobals "which_are_asked" = some (some (.ref f51)))
    (l51 : K.lookup f51 = some ⟨oc51, od51, .func (PySem.W.fnOf "which_are_asked" "which_are_asked" (defArgs s_which_are_asked) (defBody s_which_are_asked) (defScope s_which_are_asked) .none kV51 dc51 pm51 an51 cd51 ct51), sl51⟩)
    (q51 : PySem.W.codeIn K cd51 "which_are_asked" = true)
    (k51 : PySem.W.keepIn K (.ref f51) = true)
    (a52 : PySem.W.nsIn K mainGlobals "look_by_copies" = some (some (.ref f52)))
    (l52 : K.lookup f52 = some ⟨oc52, od52, .func (PySem.W.fnOf "look_by_copies" "look_by_copies" (defArgs s_look_by_copies) (defBody s_look_by_copies) (defScope s_look_by_copies) .none kV52 dc52 pm52 an52 cd52 ct52), sl52⟩)
    (q52 : PySem.W.codeIn K cd52 "look_by_copies" = true)
    (k52 : PySem.W.keepIn K (.ref f52) = true)
    (a53 : PySem.W.nsIn K mainGlobals "look_at_rule" = some (some (.ref f53)))
    (l53 : K.lookup f53 = some ⟨oc53, od53, .func (PySem.W.fnOf "look_at_rule" "look_at_rule" (defArgs s_look_at_rule) (defBody s_look_at_rule) (defScope s_look_at_rule) .none kV53 dc53 pm53 an53 cd53 ct53), sl53⟩)
    (q53 : PySem.W.codeIn K cd53 "look_at_rule" = true)
    (k53 : PySem.W.keepIn K (.ref f53) = true)
    (a54 : PySem.W.nsIn K mainGlobals "counted" = some (some (.ref f54)))
    (l54 : K.lookup f54 = some ⟨oc54, od54, .func (PySem.W.fnOf "counted" "counted" (defArgs s_counted) (defBody s_counted) (defScope s_counted) .none kV54 dc54 pm54 an54 cd54 ct54), sl54⟩)
    (q54 : PySem.W.codeIn K cd54 "counted" = true)
    (k54 : PySem.W.keepIn K (.ref f54) = true)
    (a55 : PySem.W.nsIn K mainGlobals "what_can_be_done" = some (some (.ref f55)))
    (l55 : K.lookup f55 = some ⟨oc55, od55, .func (PySem.W.fnOf "what_can_be_done" "what_can_be_done" (defArgs s_what_can_be_done) (defBody s_what_can_be_done) (defScope s_what_can_be_done) .none kV55 dc55 pm55 an55 cd55 ct55), sl55⟩)
    (q55 : PySem.W.codeIn K cd55 "what_can_be_done" = true)
    (k55 : PySem.W.keepIn K (.ref f55) = true)
    (a56 : PySem.W.nsIn K mainGlobals "what_can_be_asked" = some (some (.ref f56)))
    (l56 : K.lookup f56 = some ⟨oc56, od56, .func (PySem.W.fnOf "what_can_be_asked" "what_can_be_asked" (defArgs s_what_can_be_asked) (defBody s_what_can_be_asked) (defScope s_what_can_be_asked) .none kV56 dc56 pm56 an56 cd56 ct56), sl56⟩)
    (q56 : PySem.W.codeIn K cd56 "what_can_be_asked" = true)
    (k56 : PySem.W.keepIn K (.ref f56) = true)
    (a57 : PySem.W.nsIn K mainGlobals "what_is_sure" = some (some (.ref f57)))
    (l57 : K.lookup f57 = some ⟨oc57, od57, .func (PySem.W.fnOf "what_is_sure" "what_is_sure" (defArgs s_what_is_sure) (defBody s_what_is_sure) (defScope s_what_is_sure) .none kV57 dc57 pm57 an57 cd57 ct57), sl57⟩)
    (q57 : PySem.W.codeIn K cd57 "what_is_sure" = true)
    (k57 : PySem.W.keepIn K (.ref f57) = true)
    (a58 : PySem.W.nsIn K mainGlobals "what_may_be" = some (some (.ref f58)))
    (l58 : K.lookup f58 = some ⟨oc58, od58, .func (PySem.W.fnOf "what_may_be" "what_may_be" (defArgs s_what_may_be) (defBody s_what_may_be) (defScope s_what_may_be) .none kV58 dc58 pm58 an58 cd58 ct58), sl58⟩)
    (q58 : PySem.W.codeIn K cd58 "what_may_be" = true)
    (k58 : PySem.W.keepIn K (.ref f58) = true)
    (a59 : PySem.W.nsIn K mainGlobals "look_at_one" = some (some (.ref f59)))
    (l59 : K.lookup f59 = some ⟨oc59, od59, .func (PySem.W.fnOf "look_at_one" "look_at_one" (defArgs s_look_at_one) (defBody s_look_at_one) (defScope s_look_at_one) .none kV59 dc59 pm59 an59 cd59 ct59), sl59⟩)
    (q59 : PySem.W.codeIn K cd59 "look_at_one" = true)
    (k59 : PySem.W.keepIn K (.ref f59) = true)
    (a60 : PySem.W.nsIn K mainGlobals "look_at_all" = some (some (.ref f60)))
    (l60 : K.lookup f60 = some ⟨oc60, od60, .func (PySem.W.fnOf "look_at_all" "look_at_all" (defArgs s_look_at_all) (defBody s_look_at_all) (defScope s_look_at_all) .none kV60 dc60 pm60 an60 cd60 ct60), sl60⟩)
    (q60 : PySem.W.codeIn K cd60 "look_at_all" = true)
    (k60 : PySem.W.keepIn K (.ref f60) = true)
    (a61 : PySem.W.nsIn K mainGlobals "tell_rule" = some (some (.ref f61)))
    (l61 : K.lookup f61 = some ⟨oc61, od61, .func (PySem.W.fnOf "tell_rule" "tell_rule" (defArgs s_tell_rule) (defBody s_tell_rule) (defScope s_tell_rule) .none kV61 dc61 pm61 an61 cd61 ct61), sl61⟩)
    (q61 : PySem.W.codeIn K cd61 "tell_rule" = true)
    (k61 : PySem.W.keepIn K (.ref f61) = true)
    (a62 : PySem.W.nsIn K mainGlobals "tell_deed" = some (some (.ref f62)))
    (l62 : K.lookup f62 = some ⟨oc62, od62, .func (PySem.W.fnOf "tell_deed" "tell_deed" (defArgs s_tell_deed) (defBody s_tell_deed) (defScope s_tell_deed) .none kV62 dc62 pm62 an62 cd62 ct62), sl62⟩)
    (q62 : PySem.W.codeIn K cd62 "tell_deed" = true)
    (k62 : PySem.W.keepIn K (.ref f62) = true)
    (a63 : PySem.W.nsIn K mainGlobals "drop_deed" = some (some (.ref f63)))
    (l63 : K.lookup f63 = some ⟨oc63, od63, .func (PySem.W.fnOf "drop_deed" "drop_deed" (defArgs s_drop_deed) (defBody s_drop_deed) (defScope s_drop_deed) .none kV63 dc63 pm63 an63 cd63 ct63), sl63⟩)
    (q63 : PySem.W.codeIn K cd63 "drop_deed" = true)
    (k63 : PySem.W.keepIn K (.ref f63) = true)
    (a64 : PySem.W.nsIn K mainGlobals "allow_deeds" = some (some (.ref f64)))
    (l64 : K.lookup f64 = some ⟨oc64, od64, .func (PySem.W.fnOf "allow_deeds" "allow_deeds" (defArgs s_allow_deeds) (defBody s_allow_deeds) (defScope s_allow_deeds) .none kV64 dc64 pm64 an64 cd64 ct64), sl64⟩)
    (q64 : PySem.W.codeIn K cd64 "allow_deeds" = true)
    (k64 : PySem.W.keepIn K (.ref f64) = true)
    (a65 : PySem.W.nsIn K mainGlobals "set_state" = some (some (.ref f65)))
    (l65 : K.lookup f65 = some ⟨oc65, od65, .func (PySem.W.fnOf "set_state" "set_state" (defArgs s_set_state) (defBody s_set_state) (defScope s_set_state) .none kV65 dc65 pm65 an65 cd65 ct65), sl65⟩)
    (q65 : PySem.W.codeIn K cd65 "set_state" = true)
    (k65 : PySem.W.keepIn K (.ref f65) = true)
    (a66 : PySem.W.nsIn K mainGlobals "tell_answer" = some (some (.ref f66)))
    (l66 : K.lookup f66 = some ⟨oc66, od66, .func (PySem.W.fnOf "tell_answer" "tell_answer" (defArgs s_tell_answer) (defBody s_tell_answer) (defScope s_tell_answer) .none kV66 dc66 pm66 an66 cd66 ct66), sl66⟩)
    (q66 : PySem.W.codeIn K cd66 "tell_answer" = true)
    (k66 : PySem.W.keepIn K (.ref f66) = true)
    (a67 : PySem.W.nsIn K mainGlobals "begin" = some (some (.ref f67)))
    (l67 : K.lookup f67 = some ⟨oc67, od67, .func (PySem.W.fnOf "begin" "begin" (defArgs s_begin) (defBody s_begin) (defScope s_begin) .none kV67 dc67 pm67 an67 cd67 ct67), sl67⟩)
    (q67 : PySem.W.codeIn K cd67 "begin" = true)
    (k67 : PySem.W.keepIn K (.ref f67) = true)
    (a68 : PySem.W.nsIn K mainGlobals "tell" = some (some (.ref f68)))
    (l68 : K.lookup f68 = some ⟨oc68, od68, .func (PySem.W.fnOf "tell" "tell" (defArgs s_tell) (defBody s_tell) (defScope s_tell) .none kV68 dc68 pm68 an68 cd68 ct68), sl68⟩)
    (q68 : PySem.W.codeIn K cd68 "tell" = true)
    (k68 : PySem.W.keepIn K (.ref f68) = true)
    (a69 : PySem.W.nsIn K mainGlobals "change" = some (some (.ref f69)))
    (l69 : K.lookup f69 = some ⟨oc69, od69, .func (PySem.W.fnOf "change" "change" (defArgs s_change) (defBody s_change) (defScope s_change) .none kV69 dc69 pm69 an69 cd69 ct69), sl69⟩)
    (q69 : PySem.W.codeIn K cd69 "change" = true)
    (k69 : PySem.W.keepIn K (.ref f69) = true)
    (a70 : PySem.W.nsIn K mainGlobals "change_and_keep" = some (some (.ref f70)))
    (l70 : K.lookup f70 = some ⟨oc70, od70, .func (PySem.W.fnOf "change_and_keep" "change_and_keep" (defArgs s_change_and_keep) (defBody s_change_and_keep) (defScope s_change_and_keep) .none kV70 dc70 pm70 an70 cd70 ct70), sl70⟩)
    (q70 : PySem.W.codeIn K cd70 "change_and_keep" = true)
    (k70 : PySem.W.keepIn K (.ref f70) = true)
    (a71 : PySem.W.nsIn K mainGlobals "look" = some (some (.ref f71)))
    (l71 : K.lookup f71 = some ⟨oc71, od71, .func (PySem.W.fnOf "look" "look" (defArgs s_look) (defBody s_look) (defScope s_look) .none kV71 dc71 pm71 an71 cd71 ct71), sl71⟩)
    (q71 : PySem.W.codeIn K cd71 "look" = true)
    (k71 : PySem.W.keepIn K (.ref f71) = true)
    (a72 : PySem.W.nsIn K mainGlobals "answer_call" = some (some (.ref f72)))
    (l72 : K.lookup f72 = some ⟨oc72, od72, .func (PySem.W.fnOf "answer_call" "answer_call" (defArgs s_answer_call) (defBody s_answer_call) (defScope s_answer_call) .none kV72 dc72 pm72 an72 cd72 ct72), sl72⟩)
    (q72 : PySem.W.codeIn K cd72 "answer_call" = true)
    (k72 : PySem.W.keepIn K (.ref f72) = true)
    (a73 : PySem.W.nsIn K mainGlobals "answers" = some (some (.ref f73)))
    (l73 : K.lookup f73 = some ⟨oc73, od73, .func (PySem.W.fnOf "answers" "answers" (defArgs s_answers) (defBody s_answers) (defScope s_answers) .none kV73 dc73 pm73 an73 cd73 ct73), sl73⟩)
    (q73 : PySem.W.codeIn K cd73 "answers" = true)
    (k73 : PySem.W.keepIn K (.ref f73) = true)
    : ∃ fd : FuncData, (∀ (s : Shared) (us : List Value), us.length = (["calls"] : List Str).length → BindsTo s fd ⟨us, []⟩ ((["calls"] : List Str).zip us)) ∧ ∀ base : Heap, K.In base → base.Ns mainGlobals mg → FnOk P w K mg base CX0 14 fa fd ["calls"] (sp_answers K) := by
  have e := hfa.symm.trans (PySem.W.mg_of X G a73)
  cases e
  have F0 := fun_mk (st := s_take_apart) l0 q0 k0
  have B0 := F0.binds (ps := ["calls"]) fun _ _ _ _ _ _ us hl => match us, hl with | [_], _ => rfl
  have F1 := fun_mk (st := s_has) l1 q1 k1
  have B1 := F1.binds (ps := ["whole", "number"]) fun _ _ _ _ _ _ us hl => match us, hl with | [_, _], _ => rfl
  have F2 := fun_mk (st := s_lies_below) l2 q2 k2
  have B2 := F2.binds (ps := ["whole", "bound"]) fun _ _ _ _ _ _ us hl => match us, hl with | [_, _], _ => rfl
  have F3 := fun_mk (st := s_lies_in) l3 q3 k3
  have B3 := F3.binds (ps := ["part", "whole"]) fun _ _ _ _ _ _ us hl => match us, hl with | [_, _], _ => rfl
  have F4 := fun_mk (st := s_size) l4 q4 k4
  have B4 := F4.binds (ps := ["whole"]) fun _ _ _ _ _ _ us hl => match us, hl with | [_], _ => rfl
  have F5 := fun_mk (st := s_Deed_init) l5 q5 k5
  have B5 := F5.binds (ps := ["self", "need", "be", "on", "off"]) fun _ _ _ _ _ _ us hl => match us, hl with | [_, _, _, _, _], _ => rfl
  have F6 := fun_mk (st := s_is_sound) l6 q6 k6
  have B6 := F6.binds (ps := ["deed", "facts"]) fun _ _ _ _ _ _ us hl => match us, hl with | [_, _], _ => rfl
  have F7 := fun_mk (st := s_is_ready) l7 q7 k7
  have B7 := F7.binds (ps := ["deed", "state"]) fun _ _ _ _ _ _ us hl => match us, hl with | [_, _], _ => rfl
  have F8 := fun_mk (st := s_outcome) l8 q8 k8
  have B8 := F8.binds (ps := ["deed", "state"]) fun _ _ _ _ _ _ us hl => match us, hl with | [_, _], _ => rfl
  have F9 := fun_mk (st := s_chosen_of) l9 q9 k9
  have B9 := F9.binds (ps := ["deeds", "chosen"]) fun _ _ _ _ _ _ us hl => match us, hl with | [_, _], _ => rfl
  have F10 := fun_mk (st := s_put_together) l10 q10 k10
  have B10 := F10.binds (ps := ["common", "states"]) fun _ _ _ _ _ _ us hl => match us, hl with | [_, _], _ => rfl
  have F11 := fun_mk (st := s_let_states) l11 q11 k11
  have B11 := F11.binds (ps := ["rule", "facts"]) fun _ _ _ _ _ _ us hl => match us, hl with | [_, _], _ => rfl
  have F12 := fun_mk (st := s_can_be_done) l12 q12 k12
  have B12 := F12.binds (ps := ["rule", "deed", "state"]) fun _ _ _ _ _ _ us hl => match us, hl with | [_, _, _], _ => rfl
  have F13 := fun_mk (st := s_may_come_to) l13 q13 k13
  have B13 := F13.binds (ps := ["rule", "deeds", "state"]) fun _ _ _ _ _ _ us hl => match us, hl with | [_, _, _], _ => rfl
  have F14 := fun_mk (st := s_joined) l14 q14 k14
  have B14 := F14.binds (ps := ["first", "second"]) fun _ _ _ _ _ _ us hl => match us, hl with | [_, _], _ => rfl
  have F15 := fun_mk (st := s_come_together) l15 q15 k15
  have B15 := F15.binds (ps := ["common", "choices"]) fun _ _ _ _ _ _ us hl => match us, hl with | [_, _], _ => rfl
  have F16 := fun_mk (st := s_is_kept_from) l16 q16 k16
  have B16 := F16.binds (ps := ["rule", "deeds", "common", "copies"]) fun _ _ _ _ _ _ us hl => match us, hl with | [_, _, _, _], _ => rfl
  have F17 := fun_mk (st := s_first_broken) l17 q17 k17
  have B17 := F17.binds (ps := ["rule", "deeds", "facts", "copies"]) fun _ _ _ _ _ _ us hl => match us, hl with | [_, _, _, _], _ => rfl
  have F18 := fun_mk (st := s_is_kept) l18 q18 k18
  have B18 := F18.binds (ps := ["rule", "deeds", "facts", "copies"]) fun _ _ _ _ _ _ us hl => match us, hl with | [_, _, _, _], _ => rfl
  have F19 := fun_mk (st := s_is_closed) l19 q19 k19
  have B19 := F19.binds (ps := ["rule", "facts"]) fun _ _ _ _ _ _ us hl => match us, hl with | [_, _], _ => rfl
  have F20 := fun_mk (st := s_do_clash) l20 q20 k20
  have B20 := F20.binds (ps := ["rule", "facts", "first", "second"]) fun _ _ _ _ _ _ us hl => match us, hl with | [_, _, _, _], _ => rfl
  have F21 := fun_mk (st := s_World_init) l21 q21 k21
  have B21 := F21.binds (ps := ["self", "facts", "copies"]) fun _ _ _ _ _ _ us hl => match us, hl with | [_, _, _], _ => rfl
  have F22 := fun_mk (st := s_twin) l22 q22 k22
  have B22 := F22.binds (ps := ["world"]) fun _ _ _ _ _ _ us hl => match us, hl with | [_], _ => rfl
  have F23 := fun_mk (st := s_straying) l23 q23 k23
  have B23 := F23.binds (ps := ["world"]) fun _ _ _ _ _ _ us hl => match us, hl with | [_], _ => rfl
  have F24 := fun_mk (st := s_are_together) l24 q24 k24
  have B24 := F24.binds (ps := ["world"]) fun _ _ _ _ _ _ us hl => match us, hl with | [_], _ => rfl
  have F25 := fun_mk (st := s_lies_ahead) l25 q25 k25
  have B25 := F25.binds (ps := ["world"]) fun _ _ _ _ _ _ us hl => match us, hl with | [_], _ => rfl
  have F26 := fun_mk (st := s_reached_from) l26 q26 k26
  have B26 := F26.binds (ps := ["world", "state"]) fun _ _ _ _ _ _ us hl => match us, hl with | [_, _], _ => rfl
  have F27 := fun_mk (st := s_may_come_of) l27 q27 k27
  have B27 := F27.binds (ps := ["world", "copy"]) fun _ _ _ _ _ _ us hl => match us, hl with | [_, _], _ => rfl
  have F28 := fun_mk (st := s_make_common) l28 q28 k28
  have B28 := F28.binds (ps := ["world", "state"]) fun _ _ _ _ _ _ us hl => match us, hl with | [_, _], _ => rfl
  have F29 := fun_mk (st := s_come_of) l29 q29 k29
  have B29 := F29.binds (ps := ["world", "number", "state"]) fun _ _ _ _ _ _ us hl => match us, hl with | [_, _, _], _ => rfl
  have F30 := fun_mk (st := s_come_of_doing) l30 q30 k30
  have B30 := F30.binds (ps := ["world", "copy", "number"]) fun _ _ _ _ _ _ us hl => match us, hl with | [_, _, _], _ => rfl
  have F31 := fun_mk (st := s_come_of_asking) l31 q31 k31
  have B31 := F31.binds (ps := ["world", "number"]) fun _ _ _ _ _ _ us hl => match us, hl with | [_, _], _ => rfl
  have F32 := fun_mk (st := s_do_deed) l32 q32 k32
  have B32 := F32.binds (ps := ["world", "copy", "number"]) fun _ _ _ _ _ _ us hl => match us, hl with | [_, _, _], _ => rfl
  have F33 := fun_mk (st := s_ask_deed) l33 q33 k33
  have B33 := F33.binds (ps := ["world", "number"]) fun _ _ _ _ _ _ us hl => match us, hl with | [_, _], _ => rfl
  have F34 := fun_mk (st := s_gather) l34 q34 k34
  have B34 := F34.binds (ps := ["world"]) fun _ _ _ _ _ _ us hl => match us, hl with | [_], _ => rfl
  have F35 := fun_mk (st := s_History_init) l35 q35 k35
  have B35 := F35.binds (ps := ["self"]) fun _ _ _ _ _ _ us hl => match us, hl with | [_], _ => rfl
  have F36 := fun_mk (st := s_History_start_with) l36 q36 k36
  have B36 := F36.binds (ps := ["self", "world"]) fun _ _ _ _ _ _ us hl => match us, hl with | [_, _], _ => rfl
  have F37 := fun_mk (st := s_History_go_on_with) l37 q37 k37
  have B37 := F37.binds (ps := ["self", "world"]) fun _ _ _ _ _ _ us hl => match us, hl with | [_, _], _ => rfl
  have F38 := fun_mk (st := s_History_take_back) l38 q38 k38
  have B38 := F38.binds (ps := ["self"]) fun _ _ _ _ _ _ us hl => match us, hl with | [_], _ => rfl
  have F39 := fun_mk (st := s_History_do_again) l39 q39 k39
  have B39 := F39.binds (ps := ["self"]) fun _ _ _ _ _ _ us hl => match us, hl with | [_], _ => rfl
  have F40 := fun_mk (st := s_is_free) l40 q40 k40
  have B40 := F40.binds (ps := ["rule", "deeds", "facts"]) fun _ _ _ _ _ _ us hl => match us, hl with | [_, _, _], _ => rfl
  have F41 := fun_mk (st := s_lies_in_one) l41 q41 k41
  have B41 := F41.binds (ps := ["part", "wholes"]) fun _ _ _ _ _ _ us hl => match us, hl with | [_, _], _ => rfl
  have F42 := fun_mk (st := s_greatest_free) l42 q42 k42
  have B42 := F42.binds (ps := ["rule", "deeds", "facts"]) fun _ _ _ _ _ _ us hl => match us, hl with | [_, _, _], _ => rfl
  have F43 := fun_mk (st := s_fewest_without) l43 q43 k43
  have B43 := F43.binds (ps := ["rule", "deeds", "facts"]) fun _ _ _ _ _ _ us hl => match us, hl with | [_, _, _], _ => rfl
  have F44 := fun_mk (st := s_one_longer) l44 q44 k44
  have B44 := F44.binds (ps := ["rows", "states"]) fun _ _ _ _ _ _ us hl => match us, hl with | [_, _], _ => rfl
  have F45 := fun_mk (st := s_rows_not_falling) l45 q45 k45
  have B45 := F45.binds (ps := ["states", "many"]) fun _ _ _ _ _ _ us hl => match us, hl with | [_, _], _ => rfl
  have F46 := fun_mk (st := s_rows_that_break) l46 q46 k46
  have B46 := F46.binds (ps := ["world", "common", "copies"]) fun _ _ _ _ _ _ us hl => match us, hl with | [_, _, _], _ => rfl
  have F47 := fun_mk (st := s_how_broken) l47 q47 k47
  have B47 := F47.binds (ps := ["world", "copies"]) fun _ _ _ _ _ _ us hl => match us, hl with | [_, _], _ => rfl
  have F48 := fun_mk (st := s_fewest_that_break) l48 q48 k48
  have B48 := F48.binds (ps := ["world"]) fun _ _ _ _ _ _ us hl => match us, hl with | [_], _ => rfl
  have F49 := fun_mk (st := s_which_clash) l49 q49 k49
  have B49 := F49.binds (ps := ["world"]) fun _ _ _ _ _ _ us hl => match us, hl with | [_], _ => rfl
  have F50 := fun_mk (st := s_which_are_free) l50 q50 k50
  have B50 := F50.binds (ps := ["world"]) fun _ _ _ _ _ _ us hl => match us, hl with | [_], _ => rfl
  have F51 := fun_mk (st := s_which_are_asked) l51 q51 k51
  have B51 := F51.binds (ps := ["world"]) fun _ _ _ _ _ _ us hl => match us, hl with | [_], _ => rfl
  have F52 := fun_mk (st := s_look_by_copies) l52 q52 k52
  have B52 := F52.binds (ps := ["world", "call", "copies"]) fun _ _ _ _ _ _ us hl => match us, hl with | [_, _, _], _ => rfl
  have F53 := fun_mk (st := s_look_at_rule) l53 q53 k53
  have B53 := F53.binds (ps := ["world", "call", "numbers"]) fun _ _ _ _ _ _ us hl => match us, hl with | [_, _, _], _ => rfl
  have F54 := fun_mk (st := s_counted) l54 q54 k54
  have B54 := F54.binds (ps := ["found"]) fun _ _ _ _ _ _ us hl => match us, hl with | [_], _ => rfl
  have F55 := fun_mk (st := s_what_can_be_done) l55 q55 k55
  have B55 := F55.binds (ps := ["world", "copy"]) fun _ _ _ _ _ _ us hl => match us, hl with | [_, _], _ => rfl
  have F56 := fun_mk (st := s_what_can_be_asked) l56 q56 k56
  have B56 := F56.binds (ps := ["world"]) fun _ _ _ _ _ _ us hl => match us, hl with | [_], _ => rfl
  have F57 := fun_mk (st := s_what_is_sure) l57 q57 k57
  have B57 := F57.binds (ps := ["world", "copy"]) fun _ _ _ _ _ _ us hl => match us, hl with | [_, _], _ => rfl
  have F58 := fun_mk (st := s_what_may_be) l58 q58 k58
  have B58 := F58.binds (ps := ["world", "copy"]) fun _ _ _ _ _ _ us hl => match us, hl with | [_, _], _ => rfl
  have F59 := fun_mk (st := s_look_at_one) l59 q59 k59
  have B59 := F59.binds (ps := ["world", "call", "copy"]) fun _ _ _ _ _ _ us hl => match us, hl with | [_, _, _], _ => rfl
  have F60 := fun_mk (st := s_look_at_all) l60 q60 k60
  have B60 := F60.binds (ps := ["world", "call"]) fun _ _ _ _ _ _ us hl => match us, hl with | [_, _], _ => rfl
  have F61 := fun_mk (st := s_tell_rule) l61 q61 k61
  have B61 := F61.binds (ps := ["world", "rule"]) fun _ _ _ _ _ _ us hl => match us, hl with | [_, _], _ => rfl
  have F62 := fun_mk (st := s_tell_deed) l62 q62 k62
  have B62 := F62.binds (ps := ["world", "deed"]) fun _ _ _ _ _ _ us hl => match us, hl with | [_, _], _ => rfl
  have F63 := fun_mk (st := s_drop_deed) l63 q63 k63
  have B63 := F63.binds (ps := ["world", "number"]) fun _ _ _ _ _ _ us hl => match us, hl with | [_, _], _ => rfl
  have F64 := fun_mk (st := s_allow_deeds) l64 q64 k64
  have B64 := F64.binds (ps := ["world", "chosen"]) fun _ _ _ _ _ _ us hl => match us, hl with | [_, _], _ => rfl
  have F65 := fun_mk (st := s_set_state) l65 q65 k65
  have B65 := F65.binds (ps := ["world", "state"]) fun _ _ _ _ _ _ us hl => match us, hl with | [_, _], _ => rfl
  have F66 := fun_mk (st := s_tell_answer) l66 q66 k66
  have B66 := F66.binds (ps := ["world", "state", "things"]) fun _ _ _ _ _ _ us hl => match us, hl with | [_, _, _], _ => rfl
  have F67 := fun_mk (st := s_begin) l67 q67 k67
  have B67 := F67.binds (ps := ["history", "facts", "copies"]) fun _ _ _ _ _ _ us hl => match us, hl with | [_, _, _], _ => rfl
  have F68 := fun_mk (st := s_tell) l68 q68 k68
  have B68 := F68.binds (ps := ["world", "call", "numbers"]) fun _ _ _ _ _ _ us hl => match us, hl with | [_, _, _], _ => rfl
  have F69 := fun_mk (st := s_change) l69 q69 k69
  have B69 := F69.binds (ps := ["world", "call", "numbers"]) fun _ _ _ _ _ _ us hl => match us, hl with | [_, _, _], _ => rfl
  have F70 := fun_mk (st := s_change_and_keep) l70 q70 k70
  have B70 := F70.binds (ps := ["history", "call", "numbers"]) fun _ _ _ _ _ _ us hl => match us, hl with | [_, _, _], _ => rfl
  have F71 := fun_mk (st := s_look) l71 q71 k71
  have B71 := F71.binds (ps := ["world", "call", "numbers"]) fun _ _ _ _ _ _ us hl => match us, hl with | [_, _, _], _ => rfl
  have F72 := fun_mk (st := s_answer_call) l72 q72 k72
  have B72 := F72.binds (ps := ["history", "call", "numbers"]) fun _ _ _ _ _ _ us hl => match us, hl with | [_, _, _], _ => rfl
  have F73 := fun_mk (st := s_answers) l73 q73 k73
  have B73 := F73.binds (ps := ["calls"]) fun _ _ _ _ _ _ us hl => match us, hl with | [_], _ => rfl
  have T : Txt K mg C_Deed C_World C_History Z_SIZES := {
    b_all := PySem.W.mg_none_of X G b_all
    b_any := PySem.W.mg_none_of X G b_any
    b_enumerate := PySem.W.mg_none_of X G b_enumerate
    b_int := PySem.W.mg_none_of X G b_int
    b_len := PySem.W.mg_none_of X G b_len
    b_list := PySem.W.mg_none_of X G b_list
    b_min := PySem.W.mg_none_of X G b_min
    b_range := PySem.W.mg_none_of X G b_range
    b_sorted := PySem.W.mg_none_of X G b_sorted
    c_BEGIN := ⟨_, PySem.W.mg_of X G c_BEGIN⟩
    c_RULE := ⟨_, PySem.W.mg_of X G c_RULE⟩
    c_DEED := ⟨_, PySem.W.mg_of X G c_DEED⟩
    c_DROP := ⟨_, PySem.W.mg_of X G c_DROP⟩
    c_ALLOW := ⟨_, PySem.W.mg_of X G c_ALLOW⟩
    c_SET := ⟨_, PySem.W.mg_of X G c_SET⟩
    c_DO := ⟨_, PySem.W.mg_of X G c_DO⟩
    c_ASK := ⟨_, PySem.W.mg_of X G c_ASK⟩
    c_GATHER := ⟨_, PySem.W.mg_of X G c_GATHER⟩
    c_BACK := ⟨_, PySem.W.mg_of X G c_BACK⟩
    c_AGAIN := ⟨_, PySem.W.mg_of X G c_AGAIN⟩
    c_COPIES := ⟨_, PySem.W.mg_of X G c_COPIES⟩
    c_AHEAD := ⟨_, PySem.W.mg_of X G c_AHEAD⟩
    c_DIFFER := ⟨_, PySem.W.mg_of X G c_DIFFER⟩
    c_CAN_DO := ⟨_, PySem.W.mg_of X G c_CAN_DO⟩
    c_CAN_ASK := ⟨_, PySem.W.mg_of X G c_CAN_ASK⟩
    c_REACH := ⟨_, PySem.W.mg_of X G c_REACH⟩
    c_KEEPS := ⟨_, PySem.W.mg_of X G c_KEEPS⟩
    c_BROKEN := ⟨_, PySem.W.mg_of X G c_BROKEN⟩
    c_FEWEST := ⟨_, PySem.W.mg_of X G c_FEWEST⟩
    c_CLASHES := ⟨_, PySem.W.mg_of X G c_CLASHES⟩
    c_MOST_FREE := ⟨_, PySem.W.mg_of X G c_MOST_FREE⟩
    c_ASKED := ⟨_, PySem.W.mg_of X G c_ASKED⟩
    c_CLOSED := ⟨_, PySem.W.mg_of X G c_CLOSED⟩
    c_TOLD := ⟨_, PySem.W.mg_of X G c_TOLD⟩
    c_SURE := ⟨_, PySem.W.mg_of X G c_SURE⟩
    c_MAY := ⟨_, PySem.W.mg_of X G c_MAY⟩
    c_NONE_SUCH := ⟨_, PySem.W.mg_of X G c_NONE_SUCH⟩
    c_NEED_NOT_SO := ⟨_, PySem.W.mg_of X G c_NEED_NOT_SO⟩
    c_NOT_TOGETHER := ⟨_, PySem.W.mg_of X G c_NOT_TOGETHER⟩
    c_NOT_AS_TOLD := ⟨_, PySem.W.mg_of X G c_NOT_AS_TOLD⟩
    c_TOO_MANY := ⟨_, PySem.W.mg_of X G c_TOO_MANY⟩
    c_NOT_LET := ⟨_, PySem.W.mg_of X G c_NOT_LET⟩
    c_KEPT := ⟨_, PySem.W.mg_of X G c_KEPT⟩
    c_NOT_ALLOWED := ⟨_, PySem.W.mg_of X G c_NOT_ALLOWED⟩
    c_NOT_BEGUN := ⟨_, PySem.W.mg_of X G c_NOT_BEGUN⟩
    c_ALL_THINGS := ⟨_, PySem.W.mg_of X G c_ALL_THINGS⟩
    c_MOST_TAKEN_BACK := ⟨_, PySem.W.mg_of X G c_MOST_TAKEN_BACK⟩
    c_MOST_COPIES := ⟨_, PySem.W.mg_of X G c_MOST_COPIES⟩
    c_MOST_DEEDS := ⟨_, PySem.W.mg_of X G c_MOST_DEEDS⟩
    g_SIZES := PySem.W.mg_of X G g_SIZES
    t_SIZES := fun H => .inr ⟨_, itz_SIZES, ez_SIZES, t_SIZES, rfl, rfl, y_SIZES, v_SIZES⟩
    cl_Deed := ⟨pg_Deed, hd_Deed, po_Deed, sa_Deed⟩
    n_Deed_need := n_Deed_need
    n_Deed_be := n_Deed_be
    n_Deed_on := n_Deed_on
    n_Deed_off := n_Deed_off
    cl_World := ⟨pg_World, hd_World, po_World, sa_World⟩
    n_World_facts := n_World_facts
    n_World_rule := n_World_rule
    n_World_deeds := n_World_deeds
    n_World_allowed := n_World_allowed
    n_World_told := n_World_told
    n_World_common := n_World_common
    n_World_states := n_World_states
    cl_History := ⟨pg_History, hd_History, po_History, sa_History⟩
    n_History_world := n_History_world
    n_History_past := n_History_past
    n_History_undone := n_History_undone
    d_take_apart := ⟨_, _, F0, B0, PySem.W.mg_of X G a0⟩
    d_has := ⟨_, _, F1, B1, PySem.W.mg_of X G a1⟩
    d_lies_below := ⟨_, _, F2, B2, PySem.W.mg_of X G a2⟩
    d_lies_in := ⟨_, _, F3, B3, PySem.W.mg_of X G a3⟩
    d_size := ⟨_, _, F4, B4, PySem.W.mg_of X G a4⟩
    d_Deed_init := ⟨_, _, F5, B5, ⟨mk_Deed, a5, i5, kc_Deed⟩, PySem.W.mg_of X G a_Deed⟩
    d_is_sound := ⟨_, _, F6, B6, PySem.W.mg_of X G a6⟩
    d_is_ready := ⟨_, _, F7, B7, PySem.W.mg_of X G a7⟩
    d_outcome := ⟨_, _, F8, B8, PySem.W.mg_of X G a8⟩
    d_chosen_of := ⟨_, _, F9, B9, PySem.W.mg_of X G a9⟩
    d_put_together := ⟨_, _, F10, B10, PySem.W.mg_of X G a10⟩
    d_let_states := ⟨_, _, F11, B11, PySem.W.mg_of X G a11⟩
    d_can_be_done := ⟨_, _, F12, B12, PySem.W.mg_of X G a12⟩
    d_may_come_to := ⟨_, _, F13, B13, PySem.W.mg_of X G a13⟩
    d_joined := ⟨_, _, F14, B14, PySem.W.mg_of X G a14⟩
    d_come_together := ⟨_, _, F15, B15, PySem.W.mg_of X G a15⟩
    d_is_kept_from := ⟨_, _, F16, B16, PySem.W.mg_of X G a16⟩
    d_first_broken := ⟨_, _, F17, B17, PySem.W.mg_of X G a17⟩
    d_is_kept := ⟨_, _, F18, B18, PySem.W.mg_of X G a18⟩
    d_is_closed := ⟨_, _, F19, B19, PySem.W.mg_of X G a19⟩
    d_do_clash := ⟨_, _, F20, B20, PySem.W.mg_of X G a20⟩
    d_World_init := ⟨_, _, F21, B21, ⟨mk_World, a21, i21, kc_World⟩, PySem.W.mg_of X G a_World⟩
    d_twin := ⟨_, _, F22, B22, PySem.W.mg_of X G a22⟩
    d_straying := ⟨_, _, F23, B23, PySem.W.mg_of X G a23⟩
    d_are_together := ⟨_, _, F24, B24, PySem.W.mg_of X G a24⟩
    d_lies_ahead := ⟨_, _, F25, B25, PySem.W.mg_of X G a25⟩
    d_reached_from := ⟨_, _, F26, B26, PySem.W.mg_of X G a26⟩
    d_may_come_of := ⟨_, _, F27, B27, PySem.W.mg_of X G a27⟩
    d_make_common := ⟨_, _, F28, B28, PySem.W.mg_of X G a28⟩
    d_come_of := ⟨_, _, F29, B29, PySem.W.mg_of X G a29⟩
    d_come_of_doing := ⟨_, _, F30, B30, PySem.W.mg_of X G a30⟩
    d_come_of_asking := ⟨_, _, F31, B31, PySem.W.mg_of X G a31⟩
    d_do_deed := ⟨_, _, F32, B32, PySem.W.mg_of X G a32⟩
    d_ask_deed := ⟨_, _, F33, B33, PySem.W.mg_of X G a33⟩
    d_gather := ⟨_, _, F34, B34, PySem.W.mg_of X G a34⟩
    d_History_init := ⟨_, _, F35, B35, ⟨mk_History, a35, i35, kc_History⟩, PySem.W.mg_of X G a_History⟩
    d_History_start_with := ⟨_, _, F36, B36, ⟨a36, i36, k36⟩⟩
    d_History_go_on_with := ⟨_, _, F37, B37, ⟨a37, i37, k37⟩⟩
    d_History_take_back := ⟨_, _, F38, B38, ⟨a38, i38, k38⟩⟩
    d_History_do_again := ⟨_, _, F39, B39, ⟨a39, i39, k39⟩⟩
    d_is_free := ⟨_, _, F40, B40, PySem.W.mg_of X G a40⟩
    d_lies_in_one := ⟨_, _, F41, B41, PySem.W.mg_of X G a41⟩
    d_greatest_free := ⟨_, _, F42, B42, PySem.W.mg_of X G a42⟩
    d_fewest_without := ⟨_, _, F43, B43, PySem.W.mg_of X G a43⟩
    d_one_longer := ⟨_, _, F44, B44, PySem.W.mg_of X G a44⟩
    d_rows_not_falling := ⟨_, _, F45, B45, PySem.W.mg_of X G a45⟩
    d_rows_that_break := ⟨_, _, F46, B46, PySem.W.mg_of X G a46⟩
    d_how_broken := ⟨_, _, F47, B47, PySem.W.mg_of X G a47⟩
    d_fewest_that_break := ⟨_, _, F48, B48, PySem.W.mg_of X G a48⟩
    d_which_clash := ⟨_, _, F49, B49, PySem.W.mg_of X G a49⟩
    d_which_are_free := ⟨_, _, F50, B50, PySem.W.mg_of X G a50⟩
    d_which_are_asked := ⟨_, _, F51, B51, PySem.W.mg_of X G a51⟩
    d_look_by_copies := ⟨_, _, F52, B52, PySem.W.mg_of X G a52⟩
    d_look_at_rule := ⟨_, _, F53, B53, PySem.W.mg_of X G a53⟩
    d_counted := ⟨_, _, F54, B54, PySem.W.mg_of X G a54⟩
    d_what_can_be_done := ⟨_, _, F55, B55, PySem.W.mg_of X G a55⟩
    d_what_can_be_asked := ⟨_, _, F56, B56, PySem.W.mg_of X G a56⟩
    d_what_is_sure := ⟨_, _, F57, B57, PySem.W.mg_of X G a57⟩
    d_what_may_be := ⟨_, _, F58, B58, PySem.W.mg_of X G a58⟩
    d_look_at_one := ⟨_, _, F59, B59, PySem.W.mg_of X G a59⟩
    d_look_at_all := ⟨_, _, F60, B60, PySem.W.mg_of X G a60⟩
    d_tell_rule := ⟨_, _, F61, B61, PySem.W.mg_of X G a61⟩
    d_tell_deed := ⟨_, _, F62, B62, PySem.W.mg_of X G a62⟩
    d_drop_deed := ⟨_, _, F63, B63, PySem.W.mg_of X G a63⟩
    d_allow_deeds := ⟨_, _, F64, B64, PySem.W.mg_of X G a64⟩
    d_set_state := ⟨_, _, F65, B65, PySem.W.mg_of X G a65⟩
    d_tell_answer := ⟨_, _, F66, B66, PySem.W.mg_of X G a66⟩
    d_begin := ⟨_, _, F67, B67, PySem.W.mg_of X G a67⟩
    d_tell := ⟨_, _, F68, B68, PySem.W.mg_of X G a68⟩
    d_change := ⟨_, _, F69, B69, PySem.W.mg_of X G a69⟩
    d_change_and_keep := ⟨_, _, F70, B70, PySem.W.mg_of X G a70⟩
    d_look := ⟨_, _, F71, B71, PySem.W.mg_of X G a71⟩
    d_answer_call := ⟨_, _, F72, B72, PySem.W.mg_of X G a72⟩
    d_answers := ⟨_, _, F73, B73, PySem.W.mg_of X G a73⟩ }
  exact ⟨_, fun s us hu => match us, hu with | [_], _ => .of_eq rfl, fun base _ _ => ok_answers T F73⟩
end Na
open PySem PySem.W PyProof.Rows
set_option maxRecDepth 100000 in
set_option maxHeartbeats 0 in
theorem PySem.Challenge.cw_noasking_s01_answers_holds : PySem.Challenge.rw_noasking_s01_answers.Holds := by
  w_on; k_headS; (case hw => exact ⟨[.list [.int 12]], by decide +kernel, by decide +kernel⟩)
  k_fillS
  refine L2.walk_specK (r := PySem.Challenge.rw_noasking_s01_answers) (k := 14) (CX := L2.CX0) (ps := ["calls"]) (sp := Na.sp_answers) (by decide +kernel) rfl rfl ⟨rfl, by decide, by decide⟩ (fun w h Y => PySem.W.kIn_of Y) ?F ?S (fun _ _ _ _ z => z)
  case F =>
    intro w mg fa h Y KX G hmg
    refine' Na.all_mk KX G hmg ?b_all ?b_any ?b_enumerate ?b_int ?b_len ?b_list ?b_min ?b_range ?b_sorted ?c_BEGIN ?c_RULE ?c_DEED ?c_DROP ?c_ALLOW ?c_SET ?c_DO ?c_ASK ?c_GATHER ?c_BACK ?c_AGAIN ?c_COPIES ?c_AHEAD ?c_DIFFER ?c_CAN_DO ?c_CAN_ASK ?c_REACH ?c_KEEPS ?c_BROKEN ?c_FEWEST ?c_CLASHES ?c_MOST_FREE ?c_ASKED ?c_CLOSED ?c_TOLD ?c_SURE ?c_MAY ?c_NONE_SUCH ?c_NEED_NOT_SO ?c_NOT_TOGETHER ?c_NOT_AS_TOLD ?c_TOO_MANY ?c_NOT_LET ?c_KEPT ?c_NOT_ALLOWED ?c_NOT_BEGUN ?c_ALL_THINGS ?c_MOST_TAKEN_BACK ?c_MOST_COPIES ?c_MOST_DEEDS ?g_SIZES ?t_SIZES ?v_SIZES ?y_SIZES ?a_Deed ?pg_Deed ?hd_Deed ?po_Deed ?sa_Deed ?mk_Deed ?kc_Deed ?n_Deed_need ?n_Deed_be ?n_Deed_on ?n_Deed_off ?a_World ?pg_World ?hd_World ?po_World ?sa_World ?mk_World ?kc_World ?n_World_facts ?n_World_rule ?n_World_deeds ?n_World_allowed ?n_World_told ?n_World_common ?n_World_states ?a_History ?pg_History ?hd_History ?po_History ?sa_History ?mk_History ?kc_History ?n_History_world ?n_History_past ?n_History_undone ?a0 ?l0 ?q0 ?k0 ?a1 ?l1 ?q1 ?k1 ?a2 ?l2 ?q2 ?k2 ?a3 ?l3 ?q3 ?k3 ?a4 ?l4 ?q4 ?k4 ?a5 ?i5 ?l5 ?q5 ?k5 ?a6 ?l6 ?q6 ?k6 ?a7 ?l7 ?q7 ?k7 ?a8 ?l8 ?q8 ?k8 ?a9 ?l9 ?q9 ?k9 ?a10 ?l10 ?q10 ?k10 ?a11 ?l11 ?q11 ?k11 ?a12 ?l12 ?q12 ?k12 ?a13 ?l13 ?q13 ?k13 ?a14 ?l14 ?q14 ?k14 ?a15 ?l15 ?q15 ?k15 ?a16 ?l16 ?q16 ?k16 ?a17 ?l17 ?q17 ?k17 ?a18 ?l18 ?q18 ?k18 ?a19 ?l19 ?q19 ?k19 ?a20 ?l20 ?q20 ?k20 ?a21 ?i21 ?l21 ?q21 ?k21 ?a22 ?l22 ?q22 ?k22 ?a23 ?l23 ?q23 ?k23 ?a24 ?l24 ?q24 ?k24 ?a25 ?l25 ?q25 ?k25 ?a26 ?l26 ?q26 ?k26 ?a27 ?l27 ?q27 ?k27 ?a28 ?l28 ?q28 ?k28 ?a29 ?l29 ?q29 ?k29 ?a30 ?l30 ?q30 ?k30 ?a31 ?l31 ?q31 ?k31 ?a32 ?l32 ?q32 ?k32 ?a33 ?l33 ?q33 ?k33 ?a34 ?l34 ?q34 ?k34 ?a35 ?i35 ?l35 ?q35 ?k35 ?a36 ?i36 ?l36 ?q36 ?k36 ?a37 ?i37 ?l37 ?q37 ?k37 ?a38 ?i38 ?l38 ?q38 ?k38 ?a39 ?i39 ?l39 ?q39 ?k39 ?a40 ?l40 ?q40 ?k40 ?a41 ?l41 ?q41 ?k41 ?a42 ?l42 ?q42 ?k42 ?a43 ?l43 ?q43 ?k43 ?a44 ?l44 ?q44 ?k44 ?a45 ?l45 ?q45 ?k45 ?a46 ?l46 ?q46 ?k46 ?a47 ?l47 ?q47 ?k47 ?a48 ?l48 ?q48 ?k48 ?a49 ?l49 ?q49 ?k49 ?a50 ?l50 ?q50 ?k50 ?a51 ?l51 ?q51 ?k51 ?a52 ?l52 ?q52 ?k52 ?a53 ?l53 ?q53 ?k53 ?a54 ?l54 ?q54 ?k54 ?a55 ?l55 ?q55 ?k55 ?a56 ?l56 ?q56 ?k56 ?a57 ?l57 ?q57 ?k57 ?a58 ?l58 ?q58 ?k58 ?a59 ?l59 ?q59 ?k59 ?a60 ?l60 ?q60 ?k60 ?a61 ?l61 ?q61 ?k61 ?a62 ?l62 ?q62 ?k62 ?a63 ?l63 ?q63 ?k63 ?a64 ?l64 ?q64 ?k64 ?a65 ?l65 ?q65 ?k65 ?a66 ?l66 ?q66 ?k66 ?a67 ?l67 ?q67 ?k67 ?a68 ?l68 ?q68 ?k68 ?a69 ?l69 ?q69 ?k69 ?a70 ?l70 ?q70 ?k70 ?a71 ?l71 ?q71 ?k71 ?a72 ?l72 ?q72 ?k72 ?a73 ?l73 ?q73 ?k73
    (case b_all => k_is)
    (case b_any => k_is)
    (case b_enumerate => k_is)
    (case b_int => k_is)
    (case b_len => k_is)
    (case b_list => k_is)
    (case b_min => k_is)
    (case b_range => k_is)
    (case b_sorted => k_is)
    (case c_BEGIN => k_is)
    (case c_RULE => k_is)
    (case c_DEED => k_is)
    (case c_DROP => k_is)
    (case c_ALLOW => k_is)
    (case c_SET => k_is)
    (case c_DO => k_is)
    (case c_ASK => k_is)
    (case c_GATHER => k_is)
    (case c_BACK => k_is)
    (case c_AGAIN => k_is)
    (case c_COPIES => k_is)
    (case c_AHEAD => k_is)
    (case c_DIFFER => k_is)
    (case c_CAN_DO => k_is)
    (case c_CAN_ASK => k_is)
    (case c_REACH => k_is)
    (case c_KEEPS => k_is)
    (case c_BROKEN => k_is)
    (case c_FEWEST => k_is)
    (case c_CLASHES => k_is)
    (case c_MOST_FREE => k_is)
    (case c_ASKED => k_is)
    (case c_CLOSED => k_is)
    (case c_TOLD => k_is)
    (case c_SURE => k_is)
    (case c_MAY => k_is)
    (case c_NONE_SUCH => k_is)
    (case c_NEED_NOT_SO => k_is)
    (case c_NOT_TOGETHER => k_is)
    (case c_NOT_AS_TOLD => k_is)
    (case c_TOO_MANY => k_is)
    (case c_NOT_LET => k_is)
    (case c_KEPT => k_is)
    (case c_NOT_ALLOWED => k_is)
    (case c_NOT_BEGUN => k_is)
    (case c_ALL_THINGS => k_is)
    (case c_MOST_TAKEN_BACK => k_is)
    (case c_MOST_COPIES => k_is)
    (case c_MOST_DEEDS => k_is)
    (case g_SIZES => k_is)
    (case t_SIZES => k_is)
    (case v_SIZES => exact .cons ⟨_, rfl⟩ (.cons ⟨_, rfl⟩ (.cons ⟨_, rfl⟩ (.cons ⟨_, rfl⟩ (.cons ⟨_, rfl⟩ (.cons ⟨_, rfl⟩ (.cons ⟨_, rfl⟩ (.cons ⟨_, rfl⟩ (.cons ⟨_, rfl⟩ (.cons ⟨_, rfl⟩ (.cons ⟨_, rfl⟩ (.cons ⟨_, rfl⟩ (.cons ⟨_, rfl⟩ (.cons ⟨_, rfl⟩ (.cons ⟨_, rfl⟩ (.cons ⟨_, rfl⟩ (.cons ⟨_, rfl⟩ (.cons ⟨_, rfl⟩ (.cons ⟨_, rfl⟩ (.cons ⟨_, rfl⟩ (.cons ⟨_, rfl⟩ (.cons ⟨_, rfl⟩ (.cons ⟨_, rfl⟩ (.cons ⟨_, rfl⟩ (.cons ⟨_, rfl⟩ (.cons ⟨_, rfl⟩ (.cons ⟨_, rfl⟩ (.cons ⟨_, rfl⟩ (.cons ⟨_, rfl⟩ (.cons ⟨_, rfl⟩ (.nil)))))))))))))))))))))))))))))))
    (case y_SIZES => exact (by decide))
    (case a_Deed => k_is)
    (case pg_Deed => k_is)
    (case hd_Deed => k_is)
    (case po_Deed => k_is)
    (case sa_Deed => k_is)
    (case mk_Deed => k_is)
    (case kc_Deed => k_is)
    (case n_Deed_need => k_is)
    (case n_Deed_be => k_is)
    (case n_Deed_on => k_is)
    (case n_Deed_off => k_is)
    (case a_World => k_is)
    (case pg_World => k_is)
    (case hd_World => k_is)
    (case po_World => k_is)
    (case sa_World => k_is)
    (case mk_World => k_is)
    (case kc_World => k_is)
    (case n_World_facts => k_is)
    (case n_World_rule => k_is)
    (case n_World_deeds => k_is)
    (case n_World_allowed => k_is)
    (case n_World_told => k_is)
    (case n_World_common => k_is)
    (case n_World_states => k_is)
    (case a_History => k_is)
    (case pg_History => k_is)
    (case hd_History => k_is)
    (case po_History => k_is)
    (case sa_History => k_is)
    (case mk_History => k_is)
    (case kc_History => k_is)
    (case n_History_world => k_is)
    (case n_History_past => k_is)
    (case n_History_undone => k_is)
    (case a0 => k_is)
    (case l0 => k_is)
    (case q0 => k_is)
    (case k0 => k_is)
    (case a1 => k_is)
    (case l1 => k_is)
    (case q1 => k_is)
    (case k1 => k_is)
    (case a2 => k_is)
    (case l2 => k_is)
    (case q2 => k_is)
    (case k2 => k_is)
    (case a3 => k_is)
    (case l3 => k_is)
    (case q3 => k_is)
    (case k3 => k_is)
    (case a4 => k_is)
    (case l4 => k_is)
    (case q4 => k_is)
    (case k4 => k_is)
    (case a5 => k_is)
    (case i5 => k_is)
    (case l5 => k_is)
    (case q5 => k_is)
    (case k5 => k_is)
    (case a6 => k_is)
    (case l6 => k_is)
    (case q6 => k_is)
    (case k6 => k_is)
    (case a7 => k_is)
    (case l7 => k_is)
    (case q7 => k_is)
    (case k7 => k_is)
    (case a8 => k_is)
    (case l8 => k_is)
    (case q8 => k_is)
    (case k8 => k_is)
    (case a9 => k_is)
    (case l9 => k_is)
    (case q9 => k_is)
    (case k9 => k_is)
    (case a10 => k_is)
    (case l10 => k_is)
    (case q10 => k_is)
    (case k10 => k_is)
    (case a11 => k_is)
    (case l11 => k_is)
    (case q11 => k_is)
    (case k11 => k_is)
    (case a12 => k_is)
    (case l12 => k_is)
    (case q12 => k_is)
    (case k12 => k_is)
    (case a13 => k_is)
    (case l13 => k_is)
    (case q13 => k_is)
    (case k13 => k_is)
    (case a14 => k_is)
    (case l14 => k_is)
    (case q14 => k_is)
    (case k14 => k_is)
    (case a15 => k_is)
    (case l15 => k_is)
    (case q15 => k_is)
    (case k15 => k_is)
    (case a16 => k_is)
    (case l16 => k_is)
    (case q16 => k_is)
    (case k16 => k_is)
    (case a17 => k_is)
    (case l17 => k_is)
    (case q17 => k_is)
    (case k17 => k_is)
    (case a18 => k_is)
    (case l18 => k_is)
    (case q18 => k_is)
    (case k18 => k_is)
    (case a19 => k_is)
    (case l19 => k_is)
    (case q19 => k_is)
    (case k19 => k_is)
    (case a20 => k_is)
    (case l20 => k_is)
    (case q20 => k_is)
    (case k20 => k_is)
    (case a21 => k_is)
    (case i21 => k_is)
    (case l21 => k_is)
    (case q21 => k_is)
    (case k21 => k_is)
    (case a22 => k_is)
    (case l22 => k_is)
    (case q22 => k_is)
    (case k22 => k_is)
    (case a23 => k_is)
    (case l23 => k_is)
    (case q23 => k_is)
    (case k23 => k_is)
    (case a24 => k_is)
    (case l24 => k_is)
    (case q24 => k_is)
    (case k24 => k_is)
    (case a25 => k_is)
    (case l25 => k_is)
    (case q25 => k_is)
    (case k25 => k_is)
    (case a26 => k_is)
    (case l26 => k_is)
    (case q26 => k_is)
    (case k26 => k_is)
    (case a27 => k_is)
    (case l27 => k_is)
    (case q27 => k_is)
    (case k27 => k_is)
    (case a28 => k_is)
    (case l28 => k_is)
    (case q28 => k_is)
    (case k28 => k_is)
    (case a29 => k_is)
    (case l29 => k_is)
    (case q29 => k_is)
    (case k29 => k_is)
    (case a30 => k_is)
    (case l30 => k_is)
    (case q30 => k_is)
    (case k30 => k_is)
    (case a31 => k_is)
    (case l31 => k_is)
    (case q31 => k_is)
    (case k31 => k_is)
    (case a32 => k_is)
    (case l32 => k_is)
    (case q32 => k_is)
    (case k32 => k_is)
    (case a33 => k_is)
    (case l33 => k_is)
    (case q33 => k_is)
    (case k33 => k_is)
    (case a34 => k_is)
    (case l34 => k_is)
    (case q34 => k_is)
    (case k34 => k_is)
    (case a35 => k_is)
    (case i35 => k_is)
    (case l35 => k_is)
    (case q35 => k_is)
    (case k35 => k_is)
    (case a36 => k_is)
    (case i36 => k_is)
    (case l36 => k_is)
    (case q36 => k_is)
    (case k36 => k_is)
    (case a37 => k_is)
    (case i37 => k_is)
    (case l37 => k_is)
    (case q37 => k_is)
    (case k37 => k_is)
    (case a38 => k_is)
    (case i38 => k_is)
    (case l38 => k_is)
    (case q38 => k_is)
    (case k38 => k_is)
    (case a39 => k_is)
    (case i39 => k_is)
    (case l39 => k_is)
    (case q39 => k_is)
    (case k39 => k_is)
    (case a40 => k_is)
    (case l40 => k_is)
    (case q40 => k_is)
    (case k40 => k_is)
    (case a41 => k_is)
    (case l41 => k_is)
    (case q41 => k_is)
    (case k41 => k_is)
    (case a42 => k_is)
    (case l42 => k_is)
    (case q42 => k_is)
    (case k42 => k_is)
    (case a43 => k_is)
    (case l43 => k_is)
    (case q43 => k_is)
    (case k43 => k_is)
    (case a44 => k_is)
    (case l44 => k_is)
    (case q44 => k_is)
    (case k44 => k_is)
    (case a45 => k_is)
    (case l45 => k_is)
    (case q45 => k_is)
    (case k45 => k_is)
    (case a46 => k_is)
    (case l46 => k_is)
    (case q46 => k_is)
    (case k46 => k_is)
    (case a47 => k_is)
    (case l47 => k_is)
    (case q47 => k_is)
    (case k47 => k_is)
    (case a48 => k_is)
    (case l48 => k_is)
    (case q48 => k_is)
    (case k48 => k_is)
    (case a49 => k_is)
    (case l49 => k_is)
    (case q49 => k_is)
    (case k49 => k_is)
    (case a50 => k_is)
    (case l50 => k_is)
    (case q50 => k_is)
    (case k50 => k_is)
    (case a51 => k_is)
    (case l51 => k_is)
    (case q51 => k_is)
    (case k51 => k_is)
    (case a52 => k_is)
    (case l52 => k_is)
    (case q52 => k_is)
    (case k52 => k_is)
    (case a53 => k_is)
    (case l53 => k_is)
    (case q53 => k_is)
    (case k53 => k_is)
    (case a54 => k_is)
    (case l54 => k_is)
    (case q54 => k_is)
    (case k54 => k_is)
    (case a55 => k_is)
    (case l55 => k_is)
    (case q55 => k_is)
    (case k55 => k_is)
    (case a56 => k_is)
    (case l56 => k_is)
    (case q56 => k_is)
    (case k56 => k_is)
    (case a57 => k_is)
    (case l57 => k_is)
    (case q57 => k_is)
    (case k57 => k_is)
    (case a58 => k_is)
    (case l58 => k_is)
    (case q58 => k_is)
    (case k58 => k_is)
    (case a59 => k_is)
    (case l59 => k_is)
    (case q59 => k_is)
    (case k59 => k_is)
    (case a60 => k_is)
    (case l60 => k_is)
    (case q60 => k_is)
    (case k60 => k_is)
    (case a61 => k_is)
    (case l61 => k_is)
    (case q61 => k_is)
    (case k61 => k_is)
    (case a62 => k_is)
    (case l62 => k_is)
    (case q62 => k_is)
    (case k62 => k_is)
    (case a63 => k_is)
    (case l63 => k_is)
    (case q63 => k_is)
    (case k63 => k_is)
    (case a64 => k_is)
    (case l64 => k_is)
    (case q64 => k_is)
    (case k64 => k_is)
    (case a65 => k_is)
    (case l65 => k_is)
    (case q65 => k_is)
    (case k65 => k_is)
    (case a66 => k_is)
    (case l66 => k_is)
    (case q66 => k_is)
    (case k66 => k_is)
    (case a67 => k_is)
    (case l67 => k_is)
    (case q67 => k_is)
    (case k67 => k_is)
    (case a68 => k_is)
    (case l68 => k_is)
    (case q68 => k_is)
    (case k68 => k_is)
    (case a69 => k_is)
    (case l69 => k_is)
    (case q69 => k_is)
    (case k69 => k_is)
    (case a70 => k_is)
    (case l70 => k_is)
    (case q70 => k_is)
    (case k70 => k_is)
    (case a71 => k_is)
    (case l71 => k_is)
    (case q71 => k_is)
    (case k71 => k_is)
    (case a72 => k_is)
    (case l72 => k_is)
    (case q72 => k_is)
    (case k72 => k_is)
    (case a73 => k_is)
    (case l73 => k_is)
    (case q73 => k_is)
    (case k73 => k_is)
  case S =>
    intro K H xs a hO hwi hask hx
    cases hx with
    | cons h1 h2 =>
      cases h2
      cases h1 with
      | lst hs ha =>
        have e := L2.ints_dw a.1 _ ha
        subst e
        exact Na.request hwi hask hs
#print axioms PySem.Challenge.cw_noasking_s01_answers_holds
