/- Package fix over integers: products, quotients, roots. -/
import Derived.Test.YtnknejdmoghmiaaFc
namespace Go.Proofs.Ytnknejdmoghmiaa
open Go.RowKit
set_option maxRecDepth 4000
set_option linter.unusedVariables false

theorem mul_told {j k : Nat} (x y : Int) (hx : Sz j x) (hy : Sz k y) (h : j + k ≤ 510) : Ans 88 #[V x, V y] (.tuple #[V (x * y), .bool true]) := by
  intro u
  have k := MulZ x y (hx.fit (by omega)) (hy.fit (by omega)) u
  rw [toldZ_fit ((hx.mul hy).fit h)] at k
  exact k
theorem shr_32 (x : Int) (hx : Fit x) : Ans 121 #[V x, .int .i64 32] (V (x / 4294967296)) := fun u => ShrZ x 32 hx (by decide) u
theorem wrap_low (z : Int) : (wrap64 z % 4294967296 == 0) = decide (z % 4294967296 = 0) := by
  have : wrap64 z % 4294967296 = z % 4294967296 := by unfold wrap64; omega
  rw [this]
  by_cases h : z % 4294967296 = 0
  · rw [h]; rfl
  · rw [decide_eq_false h]; simp [h]
def mulD (x y : Int) : Int := cl (x * y / 4294967296)
def mulU (x y : Int) : Int := cl (upN (x * y / 4294967296) (decide (x * y % 4294967296 = 0)))
theorem prod_sz {x y : Int} (hx : I64 x) (hy : I64 y) : Sz 126 (x * y) := hx.sz.mul hy.sz
/-! Quotients. -/
def divD (x y : Int) : Int := if x = 0 then 0 else if y = 0 then lim (decide (x < 0)) else cl ((x * 4294967296).fdiv y)
def divU (x y : Int) : Int := if x = 0 then 0 else if y = 0 then lim (decide (x < 0)) else cl (upN ((x * 4294967296).fdiv y) (decide ((x * 4294967296).fmod y = 0)))
theorem raise_sz {x : Int} (hx : I64 x) : Sz 95 (x * 4294967296) := hx.sz.mul (Sz.pow 32)
theorem fdiv_abs (x y : Int) (h0 : y ≠ 0) : (x.fdiv y).natAbs ≤ x.natAbs + 1 := by
  obtain ⟨hq, _⟩ := div_math x y h0
  have h1 := Nat.div_le_self x.natAbs y.natAbs
  have hl : byN x y ≤ x.natAbs + 1 := by unfold byN; split <;> omega
  rw [← hq]
  cases (!(decide (x < 0) == decide (y < 0)))
  · simp only [cond_false]; omega
  · simp only [cond_true]; omega
theorem Sz.fdiv {k : Nat} {x y : Int} (hx : Sz k x) (h0 : y ≠ 0) : Sz (k + 1) (x.fdiv y) := by
  have h := fdiv_abs x y h0
  have hp := Nat.pow_pos (n := k) (show 0 < 2 by decide)
  unfold Sz at *
  rw [Nat.pow_succ]
  omega
theorem fmod_abs (x y : Int) (h0 : y ≠ 0) : (x.fmod y).natAbs < y.natAbs := by
  obtain ⟨_, hr⟩ := div_math x y h0
  have hl := leftN_lt x y h0
  rw [← hr]
  cases decide (y < 0)
  · simp only [cond_false]; omega
  · simp only [cond_true]; omega
theorem Sz.fmod {k : Nat} {x y : Int} (hy : Sz k y) (h0 : y ≠ 0) : Sz k (x.fmod y) := Nat.le_trans (Nat.le_of_lt (fmod_abs x y h0)) hy
theorem div_told {j k : Nat} (x y : Int) (hx : Sz j x) (hy : Sz k y) (hj : j ≤ 500) (hk : k ≤ 500) (h0 : y ≠ 0) : Ans 50 #[V x, V y] (.tuple #[V (x.fdiv y), V (x.fmod y), .bool true]) := by
  intro u
  have k := DivZ x y (hx.fit (by omega)) (hy.fit (by omega)) u
  have hd : dq x y = true := by
    unfold dq
    rw [fit_true ((hx.fdiv h0).fit (by omega))]
    simp [h0]
  rw [hd] at k
  exact k
theorem same_zero {x : Int} (hx : Fit x) : same (enc x) 0 = decide (x = 0) := by
  have := same_enc hx fit_zero
  rw [show enc 0 = 0 from rfl] at this
  exact this
/-! Roots. -/
/-- The root of a number, as an integer. -/
def rt (x : Int) : Int := (isq x.toNat : Nat)
theorem isq_sz {k : Nat} {x : Int} (hx : Sz k x) : Sz k (rt x) := by
  unfold rt Sz at *
  have := isq_le x.toNat
  rw [Int.natAbs_natCast]
  omega
theorem isq_sq (x : Int) (h : 0 ≤ x) : rt x * rt x ≤ x ∧ x < (rt x + 1) * (rt x + 1) ∧ 0 ≤ rt x := by
  obtain ⟨i1, i2⟩ := isq_spec x.toNat
  unfold rt
  generalize isq x.toNat = r at *
  have e1 : ((r * r : Nat) : Int) = (r : Int) * (r : Int) := Int.natCast_mul r r
  have e2 : (((r + 1) * (r + 1) : Nat) : Int) = ((r : Int) + 1) * ((r : Int) + 1) := by rw [Int.natCast_mul]; rfl
  refine ⟨by rw [← e1]; omega, by rw [← e2]; omega, by omega⟩
theorem sq_sz {k : Nat} {x : Int} (h : 0 ≤ x) (hx : Sz k x) : Sz k (rt x * rt x) := by
  obtain ⟨h1, _, h3⟩ := isq_sq x h
  have h4 := Int.mul_nonneg h3 h3
  unfold Sz at *
  omega
theorem sq_told {k : Nat} (x : Int) (h : 0 ≤ x) (hx : Sz k x) (hk : k ≤ 510) : Ans 88 #[V (rt x), V (rt x)] (.tuple #[V (rt x * rt x), .bool true]) := by
  intro u
  have k := MulZ (rt x) (rt x) ((isq_sz hx).fit hk) ((isq_sz hx).fit hk) u
  rw [toldZ_fit ((sq_sz h hx).fit hk)] at k
  exact k
def sqD (x : Int) : Int := if x < 0 then 0 else cl (rt (x * 4294967296))
def sqU (x : Int) : Int := if x < 0 then 0 else cl (upN (rt (x * 4294967296)) (decide (rt (x * 4294967296) * rt (x * 4294967296) = x * 4294967296)))
/-! The faces. -/
end Go.Proofs.Ytnknejdmoghmiaa
