/- How many limbs and bits are used: the numbers, and divide for all numbers. -/
import Derived.Test.YtfoojpfgeicolaaWw
namespace Go.Proofs.Ytfoojpfgeicolaa
open Go.RowKit

theorem used_spec (x k : Nat) (h : x < 2 ^ (64 * k)) : x < 2 ^ (64 * usedTo x k) ∧ ∀ j, usedTo x k = j + 1 → 2 ^ (64 * j) ≤ x := by
  induction k with
  | zero => exact ⟨by simpa [usedTo] using h, fun j hj => by simp [usedTo] at hj⟩
  | succ k ih =>
    have hP : 0 < 2 ^ (64 * k) := Nat.pow_pos (by decide)
    unfold usedTo
    by_cases hz : lm x k = 0
    · rw [if_pos hz]
      refine ih ?_
      have h1 : x / 2 ^ (64 * k) < 18446744073709551616 := by
        rw [Nat.div_lt_iff_lt_mul hP, Nat.mul_comm, ← pow_step]; exact h
      have h2 : x / 2 ^ (64 * k) = 0 := by
        unfold lm at hz
        generalize x / 2 ^ (64 * k) = q at *
        omega
      rcases Nat.lt_or_ge x (2 ^ (64 * k)) with h3 | h3
      · exact h3
      · have := Nat.div_pos h3 hP; omega
    · rw [if_neg hz]
      refine ⟨h, fun j hj => ?_⟩
      have e : j = k := by omega
      subst e
      rcases Nat.lt_or_ge x (2 ^ (64 * j)) with h3 | h3
      · exfalso; apply hz; unfold lm; rw [Nat.div_eq_of_lt h3]; rfl
      · exact h3

/-- The bits that the divisor is raised by. -/
structure Norm (y n s : Nat) : Prop where
  eq : 64 - blen (lmN y n) = s
  s64 : s < 64
  lt : y * 2 ^ s < 2 ^ (64 * (n + 1))
  top : 9223372036854775808 ≤ lmN (y * 2 ^ s) n

theorem norm_of (y n : Nat) (h1 : y < 2 ^ (64 * (n + 1))) (h2 : 2 ^ (64 * n) ≤ y) : Norm y n (64 - blen (lmN y n)) := by
  have hP : 0 < 2 ^ (64 * n) := Nat.pow_pos (by decide)
  have ht : y / 2 ^ (64 * n) < 18446744073709551616 := by rw [Nat.div_lt_iff_lt_mul hP, Nat.mul_comm, ← pow_step]; exact h1
  have hl : lmN y n = y / 2 ^ (64 * n) := by unfold lmN; rw [Nat.mod_eq_of_lt ht]
  have hpos : 1 ≤ lmN y n := by rw [hl]; exact Nat.div_pos h2 hP
  have hb1 : blen (lmN y n) ≤ 64 := (blen_lt _ _).2 (lmN_lt _ _)
  have hb0 : 1 ≤ blen (lmN y n) := by
    rcases Nat.eq_zero_or_pos (blen (lmN y n)) with h | h
    · have := (blen_lt (lmN y n) 0).1 (by omega); simp at this; omega
    · exact h
  have hu := (blen_lt (lmN y n) (blen (lmN y n))).1 (Nat.le_refl _)
  have hd : 2 ^ (blen (lmN y n) - 1) ≤ lmN y n := by
    rcases Nat.lt_or_ge (lmN y n) (2 ^ (blen (lmN y n) - 1)) with h | h
    · have := (blen_lt (lmN y n) (blen (lmN y n) - 1)).2 h; omega
    · exact h
  generalize hbb : blen (lmN y n) = b at *
  rw [hl] at hu hd hpos
  have hs : (64 - b) + b = 64 := by omega
  have e1 : 2 ^ (b - 1) * 2 ^ (64 - b) = 9223372036854775808 := by rw [← Nat.pow_add, show b - 1 + (64 - b) = 63 by omega]
  have e2 : 2 ^ b * 2 ^ (64 - b) = 18446744073709551616 := by rw [← Nat.pow_add, show b + (64 - b) = 64 by omega]
  have hS : 0 < 2 ^ (64 - b) := Nat.pow_pos (by decide)
  have hlt : y * 2 ^ (64 - b) < 2 ^ (64 * (n + 1)) := by
    have : y < 2 ^ b * 2 ^ (64 * n) := (Nat.div_lt_iff_lt_mul hP).1 hu
    rw [pow_step, ← e2]
    have h3 := Nat.mul_lt_mul_of_pos_right this hS
    rw [show 2 ^ (64 * n) * (2 ^ b * 2 ^ (64 - b)) = 2 ^ b * 2 ^ (64 * n) * 2 ^ (64 - b) by rw [← Nat.mul_assoc, Nat.mul_comm (2 ^ (64 * n))]]
    exact h3
  refine ⟨by rw [hbb], by omega, hlt, ?_⟩
  have ht2 : y * 2 ^ (64 - b) / 2 ^ (64 * n) < 18446744073709551616 := by rw [Nat.div_lt_iff_lt_mul hP, Nat.mul_comm 18446744073709551616, ← pow_step]; exact hlt
  unfold lmN
  rw [Nat.mod_eq_of_lt ht2, Nat.le_div_iff_mul_le hP, ← e1]
  have h4 : 2 ^ (b - 1) * 2 ^ (64 * n) ≤ y := Nat.le_trans (Nat.mul_le_mul_right _ hd) (Nat.div_mul_le_self _ _)
  rw [Nat.mul_right_comm]
  exact Nat.mul_le_mul_right _ h4

theorem lm_above (x s k k' : Nat) (hk : k' = k + 1) (hx : x < 2 ^ (64 * k')) (hs : s < 64) : lm (x * 2 ^ s) k' = lm x k / 2 ^ (64 - s) := by
  subst hk
  have hP : 0 < 2 ^ (64 * k) := Nat.pow_pos (by decide)
  have hS : 0 < 2 ^ s := Nat.pow_pos (by decide)
  have e2 : 2 ^ s * 2 ^ (64 - s) = 18446744073709551616 := by rw [← Nat.pow_add, show s + (64 - s) = 64 by omega]
  have ht : x / 2 ^ (64 * k) < 18446744073709551616 := by rw [Nat.div_lt_iff_lt_mul hP, Nat.mul_comm, ← pow_step]; exact hx
  have h1 : x * 2 ^ s / 2 ^ (64 * (k + 1)) = x / 2 ^ (64 * k) / 2 ^ (64 - s) := by
    rw [pow_step, ← e2, show 2 ^ (64 * k) * (2 ^ s * 2 ^ (64 - s)) = 2 ^ s * (2 ^ (64 * k) * 2 ^ (64 - s)) by rw [Nat.mul_left_comm], ← Nat.div_div_eq_div_mul, Nat.mul_div_cancel _ hS, Nat.div_div_eq_div_mul]
  unfold lm
  rw [h1, Nat.mod_eq_of_lt ht, Nat.mod_eq_of_lt (Nat.lt_of_le_of_lt (Nat.div_le_self _ _) ht), Int.natCast_ediv, Int.natCast_pow]
  rfl

theorem divide_any (x y : Nat) (w : World) (hx : x < M) (hy : y < M) (hy0 : 0 < y) :
    Calls Try.prog 71 #[W x, W y] w fun e w' => e = .returned (.tuple #[.agg (cells8 (x / y)), .agg (cells8 (x % y))]) ∧ Below w.heap.size w w' := by
  have hx8 : ∀ k, k = 8 → x < 2 ^ (64 * k) := fun k hk => by rw [hk, ← M_pow8]; exact hx
  have hy8 : y < 2 ^ (64 * 8) := by rw [← M_pow8]; exact hy
  obtain ⟨hxu, hxj⟩ := used_spec x 8 (hx8 8 rfl)
  obtain ⟨hyu, hyj⟩ := used_spec y 8 hy8
  have hu8 := usedTo_le y 8
  cases hn : usedTo y 8 with
  | zero => rw [hn] at hyu; simp at hyu; omega
  | succ n =>
    rw [hn] at hyu hu8
    have hlow := hyj n hn
    have N := norm_of y n hyu hlow
    refine divide_core x y n (usedTo x 8) _ w hn rfl N.eq N.s64 (by omega) hx hy N.top N.lt hy0 ?_ (lm_above x _ 7 8 rfl (hx8 8 rfl) N.s64)
    show x < y * 2 ^ (64 * (usedTo x 8 - n))
    refine Nat.lt_of_lt_of_le hxu (Nat.le_trans ?_ (Nat.mul_le_mul_right _ hlow))
    rw [← Nat.pow_add]
    exact Nat.pow_le_pow_right (by decide) (by omega)

end Go.Proofs.Ytfoojpfgeicolaa
