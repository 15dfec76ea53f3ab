/- The contracts of window, by numbers: to the left, to the right. -/
import Derived.Test.YtfoojpfgeicolaaWk
namespace Go.Proofs.Ytfoojpfgeicolaa
open Go.RowKit

theorem and63 (n : Int) : bits .and .i64 n 63 = n % 64 := by
  have h : bits .and .i64 n 63 = IntKind.i64.wrap (((BitVec.ofInt 64 n &&& BitVec.ofInt 64 63).toNat : Nat) : Int) := rfl
  rw [h, BitVec.toNat_and, show (BitVec.ofInt 64 63).toNat = 2 ^ 6 - 1 from by decide, Nat.and_two_pow_sub_one_eq_mod, BitVec.toNat_ofInt, IntKind.wrap_i64]
  omega

theorem window_of (x : Nat) (first f : Int) (r : Nat) (h0 : -9223372036854775808 ≤ first) (h1 : first < 9223372036854775808) (hr : ∀ k, k < 8 → wl x f (first / 64) (first % 64).toNat k = lm r k) (w : World) :
    Calls Try.prog 56 #[W x, .int .i64 first, .int .u64 f] w fun e w' => e = .returned (.agg (cells8 r)) ∧ Below w.heap.size w w' := by
  have hp : bits .and .i64 first 63 = (((first % 64).toNat : Nat) : Int) := by rw [and63]; omega
  have hs : IntKind.i64.wrap (64 - (((first % 64).toNat : Nat) : Int)) = ((64 - (first % 64).toNat : Nat) : Int) := by rw [IntKind.wrap_i64]; omega
  exact window_core x (first % 64).toNat first f (first / 64) w rfl hp hs ⟨by omega, by omega⟩ r hr

/-- To the right, whatever stands above: X has the limbs of x, and f above them. -/
theorem wl_rightX (x X p q : Nat) (f : Int) (hp : p < 64) (k : Nat) (h : ∀ i : Nat, i ≤ q + k + 1 → atL x f (i : Int) = lm X i) : wl x f (q : Int) p k = lm (X / 2 ^ (64 * q + p)) k := by
  unfold wl
  refine or_limbs X q p k hp _ _ ?_ ?_
  · rw [← h (q + k) (by omega)]; congr 1; omega
  · rw [← h (q + k + 1) (by omega)]; congr 1; omega

theorem win_right0 (x n : Nat) (hx : x < M) (hn : (n : Int) < 9223372036854775808) (w : World) :
    Calls Try.prog 56 #[W x, .int .i64 (n : Int), .int .u64 0] w fun e w' => e = .returned (.agg (cells8 (x / 2 ^ n))) ∧ Below w.heap.size w w' := by
  refine window_of x n 0 _ (by omega) hn (fun k _ => ?_) w
  have h := wl_right x (n % 64) (n / 64) hx (Nat.mod_lt _ (by decide)) k
  rw [show 64 * (n / 64) + n % 64 = n by omega] at h
  rw [← h]
  congr 1

theorem win_left (x n : Nat) (hx : x < M) (hn : (n : Int) < 9223372036854775808) (w : World) :
    Calls Try.prog 56 #[W x, .int .i64 (-(n : Int)), .int .u64 0] w fun e w' => e = .returned (.agg (cells8 (x * 2 ^ n))) ∧ Below w.heap.size w w' := by
  rcases Nat.eq_zero_or_pos n with h0 | h0
  · subst h0
    have h := win_right0 x 0 hx (by decide) w
    simpa using h
  · obtain ⟨q, p, hp, hq, e⟩ : ∃ q p, p < 64 ∧ 1 ≤ q ∧ n + p = 64 * q := ⟨(n + 63) / 64, 64 * ((n + 63) / 64) - n, by omega, by omega, by omega⟩
    refine window_of x (-(n : Int)) 0 _ (by omega) (by omega) (fun k hk => ?_) w
    have h := wl_left x p q 0 hp hq k hk
    rw [show (-(n : Int)) / 64 = -(q : Int) by omega, show ((-(n : Int)) % 64).toNat = p by omega, h, ← e, Nat.pow_add, ← Nat.mul_assoc, Nat.mul_div_cancel _ (Nat.pow_pos (by decide))]

/-- x, and ones above. -/
def up (x n : Nat) : Nat := x + (2 ^ (64 * (n / 64 + 2)) - 1) * M

theorem lm_up (x n : Nat) (hx : x < M) (i : Nat) (hi : i ≤ n / 64 + 8) : atL x 18446744073709551615 (i : Int) = lm (up x n) i := by
  unfold atL up
  rw [if_neg (by omega)]
  by_cases h : 8 ≤ i
  · rw [if_pos (by omega)]
    obtain ⟨j, rfl⟩ : ∃ j, i = 8 + j := ⟨i - 8, by omega⟩
    rw [← lm_shift, ← M_pow8, Nat.add_mul_div_right _ _ (by decide), Nat.div_eq_of_lt hx, Nat.zero_add]
    have hb : (0 : Nat) < 2 ^ (64 * (n / 64 + 2)) := Nat.pow_pos (by decide)
    have hK : 2 ^ (64 * (n / 64 + 2)) = 2 ^ (64 * j) * (18446744073709551616 * 2 ^ (64 * (n / 64 + 2 - j - 1))) := by
      rw [show (18446744073709551616 : Nat) = 2 ^ 64 by decide, ← Nat.pow_add, ← Nat.pow_add]; congr 1; omega
    have hP : 0 < 2 ^ (64 * j) := Nat.pow_pos (by decide)
    unfold lm
    have h1 := cpl_div (2 ^ (64 * j)) (18446744073709551616 * 2 ^ (64 * (n / 64 + 2 - j - 1))) 0 hP (by rw [← hK]; exact hb)
    rw [← hK, Nat.sub_zero, Nat.zero_div, Nat.sub_zero] at h1
    rw [h1]
    have hQ : 0 < 2 ^ (64 * (n / 64 + 2 - j - 1)) := Nat.pow_pos (by decide)
    generalize 2 ^ (64 * (n / 64 + 2 - j - 1)) = Q at *
    omega
  · rw [if_neg (by omega)]
    have e : lm (x + (2 ^ (64 * (n / 64 + 2)) - 1) * M) i = lm ((x + (2 ^ (64 * (n / 64 + 2)) - 1) * M) % M) i := (lm_mod _ i (by omega)).symm
    rw [e, Nat.add_mul_mod_self_right, Nat.mod_eq_of_lt hx]
    rfl

theorem win_rightF (x n : Nat) (hx : x < M) (hn : (n : Int) < 9223372036854775808) (w : World) :
    Calls Try.prog 56 #[W x, .int .i64 (n : Int), .int .u64 18446744073709551615] w fun e w' => e = .returned (.agg (cells8 (up x n / 2 ^ n))) ∧ Below w.heap.size w w' := by
  refine window_of x n _ _ (by omega) hn (fun k hk => ?_) w
  have h := wl_rightX x (up x n) (n % 64) (n / 64) 18446744073709551615 (Nat.mod_lt _ (by decide)) k (fun i hi => lm_up x n hx i (by omega))
  rw [show 64 * (n / 64) + n % 64 = n by omega] at h
  rw [← h]
  congr 1

end Go.Proofs.Ytfoojpfgeicolaa
