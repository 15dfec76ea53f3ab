/- Integers as bits, one by one, the lowest first, the sign's without end: sums and opposites with their carries. No Go in this text. -/
import Derived.Test.YtfoojpfgeicolaaZf
namespace Go.Proofs.Ytfoojpfgeicolaa
open Go.RowKit

/-- The bit number i of an integer. -/
def bz (z : Int) (i : Nat) : Int := z / ((2 ^ i : Nat) : Int) % 2
theorem bz_01 (z : Int) (i : Nat) : bz z i = 0 ∨ bz z i = 1 := by unfold bz; omega
theorem pow_two (i : Nat) : ((2 ^ (i + 1) : Nat) : Int) = ((2 ^ i : Nat) : Int) * 2 := by rw [Nat.pow_succ, Int.natCast_mul]; rfl
/-- What is below the bit i + 1 is what is below the bit i, and the bit i. -/
theorem bz_low (z : Int) (i : Nat) : z % ((2 ^ (i + 1) : Nat) : Int) = z % ((2 ^ i : Nat) : Int) + ((2 ^ i : Nat) : Int) * bz z i := by
  have hp := two_pow_pos i
  unfold bz
  rw [pow_two]
  generalize ((2 ^ i : Nat) : Int) = P at *
  have h1 := Int.emod_add_mul_ediv z P
  have h2 := Int.emod_add_mul_ediv (z / P) 2
  have h3 : z = (z % P + P * (z / P % 2)) + P * 2 * (z / P / 2) := by
    have e : P * (z / P % 2) + P * 2 * (z / P / 2) = P * (z / P) := by
      rw [Int.mul_assoc, ← Int.mul_add, h2]
    omega
  have b1 := Int.emod_nonneg z (show P ≠ 0 by omega)
  have b2 := Int.emod_lt_of_pos z hp
  have hlt : z % P + P * (z / P % 2) < P * 2 ∧ 0 ≤ z % P + P * (z / P % 2) := by
    rcases (show z / P % 2 = 0 ∨ z / P % 2 = 1 by omega) with h | h
    · rw [h]; omega
    · rw [h]; omega
  have h4 : z % (P * 2) = ((z % P + P * (z / P % 2)) + P * 2 * (z / P / 2)) % (P * 2) := congrArg (· % (P * 2)) h3
  rw [h4, Int.add_mul_emod_self_left]
  exact Int.emod_eq_of_lt hlt.2 hlt.1
/-- The carry of a sum below the bit i, c coming in. -/
def cz (x y c : Int) (i : Nat) : Int := (x % ((2 ^ i : Nat) : Int) + y % ((2 ^ i : Nat) : Int) + c) / ((2 ^ i : Nat) : Int)
theorem cz_step (x y c : Int) (i : Nat) : cz x y c (i + 1) = (bz x i + bz y i + cz x y c i) / 2 := by
  have hp := two_pow_pos i
  unfold cz
  rw [bz_low, bz_low, pow_two]
  generalize bz x i = u
  generalize bz y i = v
  generalize ((2 ^ i : Nat) : Int) = P at *
  rw [← Int.ediv_ediv_of_nonneg (show 0 ≤ P by omega)]
  have e : x % P + P * u + (y % P + P * v) + c = (x % P + y % P + c) + P * (u + v) := by rw [Int.mul_add]; omega
  rw [e, Int.add_mul_ediv_left _ _ (show P ≠ 0 by omega)]
  congr 1
  omega
theorem bz_sum (x y c : Int) (i : Nat) : bz (x + y + c) i = (bz x i + bz y i + cz x y c i) % 2 := by
  have hp := two_pow_pos i
  unfold bz cz
  generalize ((2 ^ i : Nat) : Int) = P at *
  have hx := Int.emod_add_mul_ediv x P
  have hy := Int.emod_add_mul_ediv y P
  have e : x + y + c = (x % P + y % P + c) + P * (x / P + y / P) := by rw [Int.mul_add]; omega
  rw [e, Int.add_mul_ediv_left _ _ (show P ≠ 0 by omega)]
  omega
theorem cz_zero (x y c : Int) : cz x y c 0 = c := by
  unfold cz
  simp [Int.emod_one]
/-- The bits of the opposite: those turned over, and 1. -/
theorem bz_not (x : Int) (i : Nat) : bz (-x - 1) i = 1 - bz x i := by
  have hp := two_pow_pos i
  unfold bz
  generalize ((2 ^ i : Nat) : Int) = P at *
  have hx := Int.emod_add_mul_ediv x P
  have b1 := Int.emod_nonneg x (show P ≠ 0 by omega)
  have b2 := Int.emod_lt_of_pos x hp
  have e : -x - 1 = (P - 1 - x % P) + P * (-(x / P) - 1) := by
    rw [Int.mul_sub, Int.mul_neg, Int.mul_one]
    omega
  rw [e, Int.add_mul_ediv_left _ _ (show P ≠ 0 by omega), Int.ediv_eq_zero_of_lt (by omega) (by omega)]
  omega
theorem bit_limb (n j r : Nat) (hr : r < 64) : n / 2 ^ (64 * j) % 18446744073709551616 / 2 ^ r % 2 = n / 2 ^ (64 * j + r) % 2 := by
  rw [Nat.pow_add, ← Nat.div_div_eq_div_mul]
  generalize n / 2 ^ (64 * j) = m
  obtain ⟨d, hd⟩ : ∃ d, 64 = r + (d + 1) := ⟨63 - r, by omega⟩
  have h64 : (18446744073709551616 : Nat) = 2 ^ r * (2 ^ d * 2) := by
    rw [show (18446744073709551616 : Nat) = 2 ^ 64 by decide, hd, Nat.pow_add, Nat.pow_succ]
  rw [h64, Nat.mod_mul_right_div_self, Nat.mod_mod_of_dvd _ ⟨2 ^ d, Nat.mul_comm _ _⟩]
theorem M_split (k : Nat) (hk : k < 512) : ∃ c : Nat, M = 2 ^ k * (2 * c) := by
  obtain ⟨e, he, h5⟩ : ∃ e, M = 2 ^ e ∧ e = 512 := ⟨64 * 8, M_pow8, by omega⟩
  obtain ⟨d, hd⟩ : ∃ d, e = k + (d + 1) := ⟨511 - k, by omega⟩
  exact ⟨2 ^ d, by rw [he, hd, Nat.pow_add, Nat.pow_succ, Nat.mul_comm (2 ^ d)]⟩
/-- A bit below the 512th does not hang on what is above. -/
theorem bz_enc (x : Int) (k : Nat) (hk : k < 512) : bz (enc x : Int) k = bz x k := by
  obtain ⟨c, hc⟩ := M_split k hk
  have hp := two_pow_pos k
  have hx := Int.emod_add_mul_ediv x (M : Int)
  rw [enc_int]
  unfold bz
  have hM : (M : Int) = ((2 ^ k : Nat) : Int) * (2 * (c : Int)) := by rw [hc, Int.natCast_mul, Int.natCast_mul]; rfl
  generalize x / (M : Int) = q at hx
  rw [hM] at hx ⊢
  generalize ((2 ^ k : Nat) : Int) = P at *
  have e : x = x % (P * (2 * (c : Int))) + P * (2 * ((c : Int) * q)) := by
    have : P * (2 * (c : Int)) * q = P * (2 * ((c : Int) * q)) := by rw [Int.mul_assoc, Int.mul_assoc]
    omega
  have e2 : x / P = x % (P * (2 * (c : Int))) / P + 2 * ((c : Int) * q) := by
    have h7 : x / P = (x % (P * (2 * (c : Int))) + P * (2 * ((c : Int) * q))) / P := congrArg (fun z => z / P) e
    rw [Int.add_mul_ediv_left _ _ (show P ≠ 0 by omega)] at h7
    exact h7
  rw [e2]
  omega

end Go.Proofs.Ytfoojpfgeicolaa
