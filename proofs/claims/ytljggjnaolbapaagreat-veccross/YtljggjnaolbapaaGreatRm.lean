/- The document's Mul: of the absolute values, by adding, bit by bit; then with its sign. -/
import Derived.Test.YtljggjnaolbapaaGreatRk
namespace Go.Proofs.YtljggjnaolbapaaGreat
open Go.RowKit
set_option maxRecDepth 4000

/-- What the loops know: the numbers' blocks, the bits of the factors, and those of the sum. -/
structure Mw (w0 : World) (l : List (Nat × Nat)) (gx gy gs : Nat) (X Y : Int) (f : Nat → Int) (w : World) : Prop where
  e : Env w0 l w
  x : Ints w gx 520 (bz X)
  y : Ints w gy 520 (bz Y)
  s : Ints w gs 1040 f
  nx : gx ≠ gs
  ny : gy ≠ gs
  nl : ∀ p ∈ l, p.1 ≠ gs
  ng : w0.heap.size ≤ gs
theorem Env.setCell {w0 w : World} {l : List (Nat × Nat)} (d : Env w0 l w) {a : Addr} (hg : w0.heap.size ≤ a.block) (hne : ∀ p ∈ l, p.1 ≠ a.block) (v : Value) : Env w0 l (w.setCell a v) :=
  ⟨fun p hp => (d.at_ p hp).other a v (hne p hp), d.o.setCell hg v⟩
/-- The sum with x further up added, as far as the place i + k. -/
def gz (S X : Int) (i k j : Nat) : Int := if j < i + k then bz (S + X * ((2 ^ i : Nat) : Int)) j else bz S j
theorem Mw.next {w0 w : World} {l : List (Nat × Nat)} {gx gy gs : Nat} {X Y S : Int} {i k : Nat} {v : Int} (h : Mw w0 l gx gy gs X Y (gz S X i k) w) (hv : v = bz (S + X * ((2 ^ i : Nat) : Int)) (i + k)) :
    Mw w0 l gx gy gs X Y (gz S X i (k + 1)) (w.setCell ⟨gs, i + k, none⟩ (.int .i64 v)) := by
  subst hv
  refine ⟨h.e.setCell h.ng h.nl _, World.rowIs.setOther h.x (by exact h.nx) _, World.rowIs.setOther h.y (by exact h.ny) _, ?_, h.nx, h.ny, h.nl, h.ng⟩
  refine World.rowIs.congr (World.rowIs.set h.s (i + k) _) fun j _ => ?_
  unfold gz
  by_cases e : j = i + k
  · rw [if_pos e, if_pos (by omega), e]
  · rw [if_neg e]
    by_cases h2 : j < i + k
    · rw [if_pos h2, if_pos (by omega)]
    · rw [if_neg h2, if_neg (by omega)]
theorem bz_add_low (S X : Int) (i j : Nat) (h : j < i) : bz (S + X * ((2 ^ i : Nat) : Int)) j = bz S j := by
  obtain ⟨d, hd⟩ : ∃ d, i = j + (d + 1) := ⟨i - j - 1, by omega⟩
  have hp := two_pow_pos j
  unfold bz
  have e : X * ((2 ^ i : Nat) : Int) = ((2 ^ j : Nat) : Int) * (2 * (X * ((2 ^ d : Nat) : Int))) := by
    rw [hd, Nat.pow_add, Nat.pow_succ, Int.natCast_mul, Int.natCast_mul]
    generalize ((2 ^ j : Nat) : Int) = P
    generalize ((2 ^ d : Nat) : Int) = D
    rw [Int.mul_left_comm, Int.mul_comm D, Int.mul_left_comm X]; rfl
  rw [e, Int.add_mul_ediv_left _ _ (by omega)]
  omega
theorem gz_zero (S X : Int) (i j : Nat) : gz S X i 0 j = bz S j := by
  unfold gz
  by_cases h : j < i + 0
  · rw [if_pos h, bz_add_low _ _ _ _ (by omega)]
  · rw [if_neg h]
theorem bz_zero_of_lt {z : Int} {n : Nat} (h0 : 0 ≤ z) (h : z < ((2 ^ n : Nat) : Int)) (k : Nat) (hk : n ≤ k) : bz z k = 0 := by
  have h1 : 2 ^ n ≤ 2 ^ k := Nat.pow_le_pow_right (by decide) hk
  unfold bz
  rw [Int.ediv_eq_zero_of_lt h0 (by omega)]
  rfl
/-- What the inner loop's round adds up. -/
theorem gz_step (S X : Int) (i k : Nat) : bz (S + X * ((2 ^ i : Nat) : Int)) (i + k) = (bz S (i + k) + bz X k + cz (S / ((2 ^ i : Nat) : Int)) X 0 k) % 2 := by
  have hp := two_pow_pos i
  rw [bz_shift, bz_shift, Int.add_mul_ediv_right _ _ (by omega)]
  have := bz_sum (S / ((2 ^ i : Nat) : Int)) X 0 k
  rwa [Int.add_zero] at this
theorem gz_carry (S X : Int) (i k : Nat) : cz (S / ((2 ^ i : Nat) : Int)) X 0 (k + 1) = (bz S (i + k) + bz X k + cz (S / ((2 ^ i : Nat) : Int)) X 0 k) / 2 := by
  rw [cz_step, bz_shift]
/-- The carry is gone behind the last place. -/
theorem cz_gone {T X : Int} {B k : Nat} (h0 : 0 ≤ T) (h1 : T ≤ X) (hX : X < ((2 ^ B : Nat) : Int)) (hk : B + 1 ≤ k) : cz T X 0 k = 0 := by
  have h2 : 2 ^ (B + 1) ≤ 2 ^ k := Nat.pow_le_pow_right (by decide) hk
  rw [Nat.pow_succ] at h2
  unfold cz
  rw [Int.emod_eq_of_lt h0 (by omega), Int.emod_eq_of_lt (by omega) (by omega), Int.ediv_eq_zero_of_lt (by omega) (by omega)]
theorem gz_full {S X : Int} {i k B : Nat} (h0 : 0 ≤ S) (hX0 : 0 ≤ X) (h1 : S ≤ X * ((2 ^ i : Nat) : Int)) (hX : X < ((2 ^ B : Nat) : Int)) (hk : B ≤ k) (hc : cz (S / ((2 ^ i : Nat) : Int)) X 0 k = 0) (j : Nat) :
    gz S X i k j = bz (S + X * ((2 ^ i : Nat) : Int)) j := by
  have hp := two_pow_pos i
  have hpk := two_pow_pos k
  have h2 : 2 ^ B ≤ 2 ^ k := Nat.pow_le_pow_right (by decide) hk
  unfold gz
  by_cases h : j < i + k
  · rw [if_pos h]
  · rw [if_neg h]
    have hT : S / ((2 ^ i : Nat) : Int) ≤ X := by
      have h3 := Int.ediv_le_ediv hp h1
      rwa [Int.mul_ediv_cancel _ (by omega)] at h3
    have hT0 : 0 ≤ S / ((2 ^ i : Nat) : Int) := Int.ediv_nonneg h0 (by omega)
    unfold cz at hc
    rw [Int.emod_eq_of_lt hT0 (by omega), Int.emod_eq_of_lt hX0 (by omega), Int.add_zero] at hc
    have hlt : S / ((2 ^ i : Nat) : Int) + X < ((2 ^ k : Nat) : Int) := by
      have h4 := Int.emod_add_mul_ediv (S / ((2 ^ i : Nat) : Int) + X) ((2 ^ k : Nat) : Int)
      rw [hc, Int.mul_zero, Int.add_zero] at h4
      have h5 := Int.emod_lt_of_pos (S / ((2 ^ i : Nat) : Int) + X) hpk
      omega
    obtain ⟨d, hd⟩ : ∃ d, j = i + d := ⟨j - i, by omega⟩
    rw [hd, bz_shift, bz_shift, Int.add_mul_ediv_right _ _ (by omega), bz_zero_of_lt hT0 (show S / ((2 ^ i : Nat) : Int) < ((2 ^ k : Nat) : Int) by omega) d (by omega),
      bz_zero_of_lt (by omega) hlt d (by omega)]

end Go.Proofs.YtljggjnaolbapaaGreat
