/- The order of numbers by their limbs, and Newton's way to the root: the numbers. No Go in this text. -/
import Derived.Test.YtfoojpfgeicolaaYb
namespace Go.Proofs.Ytfoojpfgeicolaa
open Go.RowKit

theorem low_step (x k : Nat) : x % 2 ^ (64 * (k + 1)) = x % 2 ^ (64 * k) + 2 ^ (64 * k) * lmN x k := by
  unfold lmN
  rw [pow_step, Nat.mod_mul]

theorem cmp_low (x y k : Nat) : cmpTo x y k = if x % 2 ^ (64 * k) < y % 2 ^ (64 * k) then -1 else if y % 2 ^ (64 * k) < x % 2 ^ (64 * k) then 1 else 0 := by
  induction k with
  | zero => simp [cmpTo, Nat.mod_one]
  | succ k ih =>
    have hP : 0 < 2 ^ (64 * k) := Nat.pow_pos (by decide)
    have hx := Nat.mod_lt x hP
    have hy := Nat.mod_lt y hP
    have ex : lm x k = (lmN x k : Int) := rfl
    have ey : lm y k = (lmN y k : Int) := rfl
    rw [low_step, low_step]
    unfold cmpTo
    rw [ih, ex, ey]
    generalize lmN x k = a at *
    generalize lmN y k = b at *
    generalize x % 2 ^ (64 * k) = u at *
    generalize y % 2 ^ (64 * k) = v at *
    generalize 2 ^ (64 * k) = P at *
    rcases Nat.lt_trichotomy a b with h | h | h
    · have : P * (a + 1) ≤ P * b := Nat.mul_le_mul_left _ h
      rw [Nat.mul_add, Nat.mul_one] at this
      rw [if_pos (by omega), if_pos (by omega)]
    · subst h
      rw [if_neg (by omega), if_neg (by omega)]
      simp
    · have : P * (b + 1) ≤ P * a := Nat.mul_le_mul_left _ h
      rw [Nat.mul_add, Nat.mul_one] at this
      rw [if_neg (by omega), if_pos (by omega), if_neg (by omega), if_pos (by omega)]

theorem cmp_of (x y : Nat) (hx : x < M) (hy : y < M) : cmpTo x y 8 = if x < y then -1 else if y < x then 1 else 0 := by
  rw [cmp_low, ← M_pow8, Nat.mod_eq_of_lt hx, Nat.mod_eq_of_lt hy]

theorem amgm (A B t : Nat) (h : A + B ≤ 2 * t) : A * B ≤ t * t := by
  rcases Nat.le_total A t with ha | ha
  · obtain ⟨d, rfl⟩ := Nat.exists_eq_add_of_le ha
    have h1 : A * B ≤ A * (A + 2 * d) := Nat.mul_le_mul_left _ (by omega)
    have h2 : A * (A + 2 * d) = A * A + 2 * (A * d) := by rw [Nat.mul_add, Nat.mul_left_comm]
    have h3 : (A + d) * (A + d) = A * A + 2 * (A * d) + d * d := by rw [Nat.add_mul, Nat.mul_add, Nat.mul_add, Nat.mul_comm d A]; omega
    omega
  · have hb : B ≤ t := by omega
    obtain ⟨d, rfl⟩ := Nat.exists_eq_add_of_le hb
    have h1 : A * B ≤ (B + 2 * d) * B := Nat.mul_le_mul_right _ (by omega)
    have h2 : (B + 2 * d) * B = B * B + 2 * (B * d) := by rw [Nat.add_mul, Nat.mul_assoc, Nat.mul_comm d B]
    have h3 : (B + d) * (B + d) = B * B + 2 * (B * d) + d * d := by rw [Nat.add_mul, Nat.mul_add, Nat.mul_add, Nat.mul_comm d B]; omega
    omega

/-- What Newton's step leaves: the root is not above it. -/
theorem newton_down (x r : Nat) (hr : 0 < r) : x < ((r + x / r) / 2 + 1) * ((r + x / r) / 2 + 1) := by
  have h1 : x < r * (x / r + 1) := Nat.lt_mul_div_succ x hr
  exact Nat.lt_of_lt_of_le h1 (amgm r (x / r + 1) _ (by omega))

theorem newton_stop (x r : Nat) (hr : 0 < r) (h : r ≤ (r + x / r) / 2) : r * r ≤ x := by
  have : r ≤ x / r := by omega
  exact (Nat.le_div_iff_mul_le hr).1 this

theorem newton_pos (x r : Nat) (hr : 0 < r) (hx : 0 < x) : 0 < (r + x / r) / 2 := by
  rcases Nat.lt_or_ge 1 r with h | h
  · generalize x / r = q
    omega
  · have : r = 1 := by omega
    subst this
    rw [Nat.div_one]
    omega

/-- The quotient is hardly above the divisor. -/
theorem newton_small (x r : Nat) (hr : 0 < r) (h : x < (r + 1) * (r + 1)) : x / r ≤ r + 2 := by
  have : x / r < r + 3 := by
    rw [Nat.div_lt_iff_lt_mul hr]
    have h1 : (r + 1) * (r + 1) = r * r + 2 * r + 1 := by rw [Nat.add_mul, Nat.mul_add]; omega
    have h2 : (r + 3) * r = r * r + 3 * r := by rw [Nat.add_mul]
    omega
  omega

theorem newton_start (x : Nat) : x < (2 ^ ((blen x + 1) / 2) + 1) * (2 ^ ((blen x + 1) / 2) + 1) := by
  have h1 := (blen_lt x (blen x)).1 (Nat.le_refl _)
  have h2 : 2 ^ blen x ≤ 2 ^ ((blen x + 1) / 2) * 2 ^ ((blen x + 1) / 2) := by
    rw [← Nat.pow_add]; exact Nat.pow_le_pow_right (by decide) (by omega)
  exact Nat.lt_of_lt_of_le h1 (Nat.le_trans h2 (Nat.mul_le_mul (by omega) (by omega)))

/-- There is one root alone. -/
theorem root_one (x a b : Nat) (ha : a * a ≤ x) (hb : x < (b + 1) * (b + 1)) : a ≤ b := by
  rcases Nat.lt_or_ge b a with h | h
  · have : (b + 1) * (b + 1) ≤ a * a := Nat.mul_le_mul h h
    omega
  · exact h

end Go.Proofs.Ytfoojpfgeicolaa
