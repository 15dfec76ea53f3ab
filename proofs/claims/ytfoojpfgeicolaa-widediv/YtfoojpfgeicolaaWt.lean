/- The numbers of takeAll: what is taken, what is left. No Go in this text. -/
import Derived.Test.YtfoojpfgeicolaaWr
namespace Go.Proofs.Ytfoojpfgeicolaa
open Go.RowKit

/-- The limbs below k make the number modulo 2^(64 k): two numbers with the same limbs are the same. -/
theorem low_eq (a b k : Nat) (ha : a < 2 ^ (64 * k)) (hb : b < 2 ^ (64 * k)) (h : ∀ i, i < k → lm a i = lm b i) : a = b := by
  have hm : ∀ k, (∀ i, i < k → lm a i = lm b i) → a % 2 ^ (64 * k) = b % 2 ^ (64 * k) := by
    intro k
    induction k with
    | zero => intro _; simp [Nat.mod_one]
    | succ k ih =>
      intro h
      have h1 := ih fun i hi => h i (by omega)
      have h2 := h k (by omega)
      unfold lm at h2
      rw [mod_step, mod_step, h1, Int.ofNat_inj.1 h2]
  have := hm k h
  rwa [Nat.mod_eq_of_lt ha, Nat.mod_eq_of_lt hb] at this

/-- A guess by the top limbs is not too small. -/
theorem gs_ge (V Y n : Nat) (hn : 1 ≤ n) (hV : V < 18446744073709551616 * Y) (hY : Y < 2 ^ (64 * n)) (ht : 9223372036854775808 ≤ lmN Y (n - 1)) :
    V / Y ≤ gs (lmN V n) (lmN V (n - 1)) (lmN Y (n - 1)) := by
  obtain ⟨m, rfl⟩ : ∃ m, n = m + 1 := ⟨n - 1, by omega⟩
  simp only [Nat.add_sub_cancel] at *
  have hP : 0 < 2 ^ (64 * m) := Nat.pow_pos (by decide)
  have hY0 : 0 < Y := by
    rcases Nat.eq_zero_or_pos Y with h | h
    · subst h; simp [lmN] at ht
    · exact h
  have hq : V / Y < 18446744073709551616 := by rw [Nat.div_lt_iff_lt_mul hY0]; exact hV
  unfold gs
  split
  · omega
  · rename_i hlt
    rw [Nat.le_div_iff_mul_le (by omega)]
    have hYm : lmN Y m * 2 ^ (64 * m) ≤ Y := by
      unfold lmN
      have h1 : Y / 2 ^ (64 * m) % 18446744073709551616 ≤ Y / 2 ^ (64 * m) := Nat.mod_le _ _
      exact Nat.le_trans (Nat.mul_le_mul_right _ h1) (Nat.div_mul_le_self _ _)
    have hVb : V < 18446744073709551616 * (2 ^ (64 * m) * 18446744073709551616) := by
      rw [pow_step] at hY
      exact Nat.lt_trans hV (Nat.mul_lt_mul_of_pos_left hY (by decide))
    have hVm : V / 2 ^ (64 * m) = lmN V (m + 1) * 18446744073709551616 + lmN V m := by
      unfold lmN
      rw [pow_step, ← Nat.div_div_eq_div_mul]
      have hb : V / 2 ^ (64 * m) < 18446744073709551616 * 18446744073709551616 := by
        rw [Nat.div_lt_iff_lt_mul hP]
        generalize 2 ^ (64 * m) = P at *
        rw [Nat.mul_assoc, Nat.mul_comm _ P]
        exact hVb
      generalize V / 2 ^ (64 * m) = z at *
      omega
    rw [← hVm, Nat.le_div_iff_mul_le hP, Nat.mul_assoc]
    exact Nat.le_trans (Nat.mul_le_mul_left _ hYm) (Nat.div_mul_le_self _ _)

theorem cpl_limb (z k j : Nat) (hz : z < 2 ^ (64 * k)) (hj : j < k) : bits .xor .u64 IntKind.u64.max (lmN z j : Int) = lm (2 ^ (64 * k) - 1 - z) j := by
  have hK : 2 ^ (64 * k) = 2 ^ (64 * j) * (18446744073709551616 * 2 ^ (64 * (k - j - 1))) := by
    rw [show (18446744073709551616 : Nat) = 2 ^ 64 by decide, ← Nat.pow_add, ← Nat.pow_add]; congr 1; omega
  have hP : 0 < 2 ^ (64 * j) := Nat.pow_pos (by decide)
  rw [xor_all _ (lmN_lt z j)]
  unfold lm lmN
  rw [hK] at hz ⊢
  rw [cpl_div _ _ _ hP hz, cpl_mod _ _ (Nat.div_lt_of_lt_mul hz)]

theorem cy_big (a b c k : Nat) (ha : a < 2 ^ (64 * k)) (hb : b < 2 ^ (64 * k)) : cy a b c k = (((a + b + c) / 2 ^ (64 * k) : Nat) : Int) := by
  unfold cy
  rw [Nat.mod_eq_of_lt ha, Nat.mod_eq_of_lt hb]

theorem lm_over (z k j : Nat) (hj : j < k) : lm (2 ^ (64 * k) + z) j = lm z j := by
  unfold lm
  rw [show 64 * k = 64 * j + (64 + 64 * (k - j - 1)) by omega, Nat.pow_add, Nat.pow_add, Nat.mul_add_div (Nat.pow_pos (by decide)), show (2 : Nat) ^ 64 = 18446744073709551616 by decide, Nat.mul_add_mod]

theorem winF_same (F : Nat → Int) (off s s' k n : Nat) (h : ∀ j, j < k → lm s j = lm s' j) : rowF (winF F off s k) n = rowF (winF F off s' k) n := by
  apply rowF_congr
  intro p _
  unfold winF
  by_cases hp : off ≤ p ∧ p < off + k
  · rw [if_pos hp, if_pos hp, h _ (by omega)]
  · rw [if_neg hp, if_neg hp]

theorem winF_again (F : Nat → Int) (off s s' k n : Nat) : rowF (winF (winF F off s k) off s' k) n = rowF (winF F off s' k) n := by
  apply rowF_congr
  intro p _
  unfold winF
  by_cases hp : off ≤ p ∧ p < off + k
  · rw [if_pos hp, if_pos hp]
  · rw [if_neg hp, if_neg hp, if_neg hp]

end Go.Proofs.Ytfoojpfgeicolaa
