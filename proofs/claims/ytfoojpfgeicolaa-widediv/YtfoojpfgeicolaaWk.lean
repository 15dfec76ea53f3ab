/- The window's numbers: what window answers, as a natural number. No Go in this text but the names of Wi. -/
import Derived.Test.YtfoojpfgeicolaaWi
namespace Go.Proofs.Ytfoojpfgeicolaa
open Go.RowKit

theorem or_add (a b k : Nat) (ha : a < 2 ^ k) : a ||| (2 ^ k * b) = a + 2 ^ k * b := by
  rw [Nat.or_comm, ← Nat.two_pow_add_eq_or_of_lt ha, Nat.add_comm]

/-- Two limbs of Z, shifted by p bits: the low limb of Z by 2^p. -/
theorem or_shift (Z p : Nat) (hp : p < 64) :
    bits .or .u64 (((Z % 18446744073709551616 : Nat) : Int) / 2 ^ min p 64) (IntKind.u64.wrap (((Z / 18446744073709551616 % 18446744073709551616 : Nat) : Int) * 2 ^ (64 - p))) = ((Z / 2 ^ p % 18446744073709551616 : Nat) : Int) := by
  rw [show min p 64 = p by omega]
  have e1 : (((Z % 18446744073709551616 : Nat) : Int) / 2 ^ p) = ((Z % 18446744073709551616 / 2 ^ p : Nat) : Int) := by
    rw [Int.natCast_ediv]; simp
  have e2 : (((Z / 18446744073709551616 % 18446744073709551616 : Nat) : Int) * 2 ^ (64 - p)) = ((Z / 18446744073709551616 % 18446744073709551616 * 2 ^ (64 - p) : Nat) : Int) := by
    rw [Int.natCast_mul]; simp
  have e3 : ∀ n : Nat, IntKind.u64.wrap (n : Int) = ((n % 18446744073709551616 : Nat) : Int) := fun n => by rw [IntKind.wrap_u64]; omega
  rw [e1, e2, e3]
  have hpow : 2 ^ (64 - p) * 2 ^ p = 18446744073709551616 := by rw [← Nat.pow_add, show 64 - p + p = 64 by omega]
  have hP : 0 < 2 ^ p := Nat.pow_pos (by decide)
  have hQ : 0 < 2 ^ (64 - p) := Nat.pow_pos (by decide)
  have ha : Z % 18446744073709551616 / 2 ^ p < 2 ^ (64 - p) := by
    rw [Nat.div_lt_iff_lt_mul hP, hpow]; exact Nat.mod_lt _ (by decide)
  have hb : Z / 18446744073709551616 % 18446744073709551616 * 2 ^ (64 - p) % 18446744073709551616 = 2 ^ (64 - p) * (Z / 18446744073709551616 % 2 ^ p) := by
    rw [Nat.mul_comm, ← hpow, Nat.mul_mod_mul_left, Nat.mod_mul_left_mod]
  have hlt : 2 ^ (64 - p) * (Z / 18446744073709551616 % 2 ^ p) < 18446744073709551616 := by
    rw [← hb]; exact Nat.mod_lt _ (by decide)
  have hor : bits .or .u64 ((Z % 18446744073709551616 / 2 ^ p : Nat) : Int) ((2 ^ (64 - p) * (Z / 18446744073709551616 % 2 ^ p) : Nat) : Int) = ((Z % 18446744073709551616 / 2 ^ p ||| 2 ^ (64 - p) * (Z / 18446744073709551616 % 2 ^ p) : Nat) : Int) := by
    have h1 : Z % 18446744073709551616 / 2 ^ p < 18446744073709551616 := Nat.lt_of_le_of_lt (Nat.div_le_self _ _) (Nat.mod_lt _ (by decide))
    generalize Z % 18446744073709551616 / 2 ^ p = a at *
    generalize 2 ^ (64 - p) * (Z / 18446744073709551616 % 2 ^ p) = b at *
    have h : bits .or .u64 (a : Int) (b : Int) = IntKind.u64.wrap (((BitVec.ofInt 64 (a : Int) ||| BitVec.ofInt 64 (b : Int)).toNat : Nat) : Int) := rfl
    rw [h, u64_wrap_nat _ (BitVec.isLt _), BitVec.ofInt_natCast, BitVec.ofInt_natCast, BitVec.toNat_or, BitVec.toNat_ofNat, BitVec.toNat_ofNat, Nat.mod_eq_of_lt h1, Nat.mod_eq_of_lt hlt]
  rw [hb, hor, or_add _ _ _ ha]
  congr 1
  -- Z = low + 2^64 * rest
  have hz := Nat.mod_add_div Z 18446744073709551616
  generalize Z % 18446744073709551616 = lo at *
  generalize Z / 18446744073709551616 = hi at *
  rw [← hz, ← hpow, Nat.mul_comm (2 ^ (64 - p)) (2 ^ p), Nat.mul_assoc, Nat.add_mul_div_left _ _ hP]
  have : (lo / 2 ^ p + 2 ^ (64 - p) * hi) % (2 ^ p * 2 ^ (64 - p)) = lo / 2 ^ p + 2 ^ (64 - p) * (hi % 2 ^ p) := by
    rw [Nat.mul_comm (2 ^ p), Nat.mod_mul]
    rw [Nat.add_mul_mod_self_left, Nat.mod_eq_of_lt ha, Nat.add_mul_div_left _ _ hQ, Nat.div_eq_of_lt ha, Nat.zero_add]
  rw [this]

theorem lm_shift (X a k : Nat) : lm (X / 2 ^ (64 * a)) k = lm X (a + k) := by
  unfold lm
  rw [Nat.div_div_eq_div_mul, ← Nat.pow_add, Nat.mul_add]
theorem lm0 (X : Nat) : lm X 0 = ((X % 18446744073709551616 : Nat) : Int) := by simp [lm]
theorem lm1 (X : Nat) : lm X 1 = ((X / 18446744073709551616 % 18446744073709551616 : Nat) : Int) := rfl

/-- The limb k of X by 2^(64 a + p), out of two limbs of X. -/
theorem or_limbs (X a p k : Nat) (hp : p < 64) (u v : Int) (hu : u = lm X (a + k)) (hv : v = lm X (a + k + 1)) :
    bits .or .u64 (u / 2 ^ min p 64) (IntKind.u64.wrap (v * 2 ^ (64 - p))) = lm (X / 2 ^ (64 * a + p)) k := by
  have h := or_shift (X / 2 ^ (64 * (a + k))) p hp
  rw [← lm0, ← lm1, lm_shift, lm_shift, Nat.add_zero] at h
  rw [hu, hv, h]
  unfold lm
  congr 2
  rw [Nat.div_div_eq_div_mul, Nat.div_div_eq_div_mul, ← Nat.pow_add, ← Nat.pow_add]
  congr 2
  omega

theorem pow64_le {a b : Nat} (h : a ≤ b) : 2 ^ (64 * a) ≤ 2 ^ (64 * b) := Nat.pow_le_pow_right (by decide) (by omega)

theorem M_le {i : Nat} (h : 8 ≤ i) : M ≤ 2 ^ (64 * i) := by
  have h1 := pow64_le h
  rw [← M_pow8] at h1
  exact h1

/-- A window to the right, 0 above: x by a power of two. -/
theorem wl_right (x p q : Nat) (hx : x < M) (hp : p < 64) (k : Nat) : wl x 0 (q : Int) p k = lm (x / 2 ^ (64 * q + p)) k := by
  have hz : ∀ i, 8 ≤ i → lm x i = 0 := fun i hi => by
    unfold lm
    rw [Nat.div_eq_of_lt]
    · rfl
    · exact Nat.lt_of_lt_of_le hx (M_le hi)
  have hat : ∀ i : Nat, atL x 0 (i : Int) = lm x i := fun i => by
    unfold atL
    rw [if_neg (by omega)]
    by_cases h : 8 ≤ i
    · rw [if_pos (by omega), hz i h]
    · rw [if_neg (by omega)]; rfl
  unfold wl
  refine or_limbs x q p k hp _ _ ?_ ?_
  · rw [← hat]; congr 1; omega
  · rw [← hat]; congr 1; omega

/-- A window to the left: x times a power of two. q limbs to the left, p bits back. -/
theorem wl_left (x p q : Nat) (f : Int) (hp : p < 64) (hq : 1 ≤ q) (k : Nat) (hk : k < 8) : wl x f (-(q : Int)) p k = lm (x * 2 ^ (64 * q) / 2 ^ p) k := by
  have hlo : ∀ i, i < q → lm (x * 2 ^ (64 * q)) i = 0 := fun i hi => by
    unfold lm
    rw [show 64 * q = 64 * i + (64 + 64 * (q - i - 1)) by omega, Nat.pow_add, Nat.pow_add, Nat.mul_left_comm, Nat.mul_div_cancel_left _ (Nat.pow_pos (by decide)), Nat.mul_left_comm, show (2 : Nat) ^ 64 = 18446744073709551616 by decide, Nat.mul_mod_right]
    rfl
  have hhi : ∀ i, lm (x * 2 ^ (64 * q)) (q + i) = lm x i := fun i => by
    rw [← lm_shift, Nat.mul_div_cancel _ (Nat.pow_pos (by decide))]
  have hat : ∀ i : Nat, i < q + 8 → atL x f ((i : Int) - q) = lm (x * 2 ^ (64 * q)) i := fun i hi => by
    unfold atL
    by_cases h : i < q
    · rw [if_pos (by omega), hlo i h]
    · rw [if_neg (by omega), if_neg (by omega), show i = q + (i - q) by omega, hhi]
      congr 1
      omega
  unfold wl
  have h := or_limbs (x * 2 ^ (64 * q)) 0 p k hp (atL x f ((k : Int) - q)) (atL x f (((k + 1 : Nat) : Int) - q)) (by rw [hat k (by omega), Nat.zero_add]) (by rw [hat (k + 1) (by omega), Nat.zero_add])
  rw [Nat.mul_zero, Nat.zero_add] at h
  rw [← h]
  congr 2
  · congr 2; omega

end Go.Proofs.Ytfoojpfgeicolaa
