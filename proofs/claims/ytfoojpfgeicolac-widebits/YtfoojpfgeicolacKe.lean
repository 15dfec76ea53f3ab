/- The bits of numbers. -/
import Derived.Test.YtfoojpfgeicolacKb
namespace Go.Proofs.Ytfoojpfgeicolac
open Go.RowKit

theorem BitsN (a : Nat) (w : World) : Calls Try.prog 4 #[W a] w fun e w' => e = .returned (.int .i64 (blen (sv a).natAbs : Nat)) ∧ Below w.heap.size w w' := by
  rw [W_sv a]
  exact BitsZ (sv a) (sv_fit a) w
theorem blen_zero (n : Nat) : blen n = 0 ↔ n = 0 := by
  have h := blen_lt n 0
  constructor
  · intro hb
    have := h.1 (by omega)
    simpa using this
  · intro hn
    have := h.2 (by rw [hn]; decide)
    omega
theorem blen_le_of {n k : Nat} (h : n < 2 ^ k) : blen n ≤ k := (blen_lt n k).2 h
theorem lt_blen (n : Nat) : n < 2 ^ blen n := (blen_lt n _).1 (Nat.le_refl _)
theorem ge_blen (n k : Nat) (h : k < blen n) : 2 ^ k ≤ n := by
  rcases Nat.lt_or_ge n (2 ^ k) with h1 | h1
  · have := blen_le_of h1; omega
  · exact h1
theorem H_two : ∃ e, e = 511 ∧ H = 2 ^ e := by
  obtain ⟨e, he, h5⟩ : ∃ e, M = 2 ^ e ∧ e = 511 + 1 := ⟨64 * 8, M_pow8, by omega⟩
  refine ⟨511, rfl, ?_⟩
  have h2 := M_H
  rw [he, h5] at h2
  generalize 511 = k at *
  rw [Nat.pow_succ] at h2
  omega
theorem abs_le (a : Nat) : (sv a).natAbs ≤ H := by
  obtain ⟨h1, h2⟩ := sv_fit a
  omega
theorem bits_le (a : Nat) : blen (sv a).natAbs ≤ 512 := by
  obtain ⟨e, he, hH⟩ := H_two
  have h := abs_le a
  have : (sv a).natAbs < 2 ^ (e + 1) := by rw [Nat.pow_succ, ← hH]; have := H_pos; omega
  have := blen_le_of this
  omega

theorem bt3 (a : Nat) : ((blen (sv a).natAbs : Int) = 0 ∧ sgn (sv a) = 0) ∨ (1 ≤ (blen (sv a).natAbs : Int) ∧ (sgn (sv a) = 1 ∨ sgn (sv a) = -1)) := by
  have hb := blen_zero (sv a).natAbs
  unfold sgn
  rcases (show sv a < 0 ∨ sv a = 0 ∨ 0 < sv a by omega) with h | h | h
  · right
    rw [if_pos h]
    exact ⟨by omega, .inr rfl⟩
  · left
    rw [if_neg (by omega), if_pos h]
    exact ⟨by omega, rfl⟩
  · right
    rw [if_neg (by omega), if_neg (by omega)]
    exact ⟨by omega, .inl rfl⟩
theorem neg_sv' {a : Nat} (h : negB a = true) : sv (negN a) = -sv a := by
  unfold negN negB at *
  rw [h]
  exact sv_enc (Fit.of h)
theorem bt4 (a : Nat) (h : negB a = true) : (blen (sv (negN a)).natAbs : Int) = (blen (sv a).natAbs : Int) := by
  rw [neg_sv' h, Int.natAbs_neg]
theorem top_sv (k : Nat) (hk : k ≤ 510) (z : Int) (hz : z = (k : Int)) : shlB z (enc 1) = true ∧ sv (shlN z (enc 1)) = ((2 ^ k : Nat) : Int) := by
  have hn : ¬ z < 0 := by omega
  have h1 : shlB z (enc 1) = true := by
    rw [shlB_of hn, sv_one, Int.one_mul]
    exact fit_true (pow_fit _ (by omega))
  refine ⟨h1, ?_⟩
  rw [shl_sv h1, sv_one, Int.one_mul, show z.toNat = k by omega]
theorem cmp_lt {x y : Int} (h : x < y) : cmpI x y < 0 := by unfold cmpI; rw [if_pos h]; decide
theorem cmp_ge {x y : Int} (h : y ≤ x) : ¬ cmpI x y < 0 := by
  unfold cmpI
  rw [if_neg (by omega)]
  split <;> decide
theorem bt5 (a : Nat) (h : (blen (sv a).natAbs : Int) < 511) : shlB (blen (sv a).natAbs : Int) (enc 1) = true ∧ cmpI (sv a) (sv (shlN (blen (sv a).natAbs : Int) (enc 1))) < 0 ∧
    (negB a = true → cmpI (sv (negN a)) (sv (shlN (blen (sv a).natAbs : Int) (enc 1))) < 0) := by
  obtain ⟨h1, h2⟩ := top_sv (blen (sv a).natAbs) (by omega) _ rfl
  have h3 := lt_blen (sv a).natAbs
  rw [h2]
  generalize 2 ^ blen (sv a).natAbs = P at *
  refine ⟨h1, cmp_lt (by omega), fun hn => ?_⟩
  rw [neg_sv' hn]
  exact cmp_lt (by omega)
theorem bt6 (a : Nat) (h0 : 1 ≤ (blen (sv a).natAbs : Int)) (h : (blen (sv a).natAbs : Int) ≤ 511) : shlB ((blen (sv a).natAbs : Int) - 1) (enc 1) = true ∧
    (sgn (sv a) = 1 → ¬ cmpI (sv a) (sv (shlN ((blen (sv a).natAbs : Int) - 1) (enc 1))) < 0) ∧ (sgn (sv a) = -1 → ¬ cmpI (sv (negN a)) (sv (shlN ((blen (sv a).natAbs : Int) - 1) (enc 1))) < 0) := by
  obtain ⟨h1, h2⟩ := top_sv (blen (sv a).natAbs - 1) (by omega) ((blen (sv a).natAbs : Int) - 1) (by omega)
  have h3 := ge_blen (sv a).natAbs (blen (sv a).natAbs - 1) (by omega)
  obtain ⟨e, he, hH⟩ := H_two
  have h4 : (sv a).natAbs < H := by
    have := lt_blen (sv a).natAbs
    have h5 : 2 ^ blen (sv a).natAbs ≤ 2 ^ e := Nat.pow_le_pow_right (by decide) (by omega)
    omega
  rw [h2]
  generalize 2 ^ (blen (sv a).natAbs - 1) = P at *
  refine ⟨h1, fun hs => ?_, fun hs => ?_⟩
  · have : 0 < sv a := by
      unfold sgn at hs
      rcases (show sv a < 0 ∨ sv a = 0 ∨ 0 < sv a by omega) with h | h | h
      · rw [if_pos h] at hs; omega
      · rw [if_neg (by omega), if_pos h] at hs; omega
      · exact h
    exact cmp_ge (by omega)
  · have hneg : sv a < 0 := by
      unfold sgn at hs
      rcases (show sv a < 0 ∨ sv a = 0 ∨ 0 < sv a by omega) with h | h | h
      · exact h
      · rw [if_neg (by omega), if_pos h] at hs; omega
      · rw [if_neg (by omega), if_neg (by omega)] at hs; omega
    have hn : negB a = true := by
      unfold negB
      exact fit_true ⟨by omega, by omega⟩
    rw [neg_sv' hn]
    exact cmp_ge (by omega)
theorem bt7 (a b : Nat) (h : mulB a b = true) : sgn (sv (mulN a b)) = 0 ∨ (¬ sgn (sv (mulN a b)) = 0 ∧ ((blen (sv (mulN a b)).natAbs : Int) = (blen (sv a).natAbs : Int) + (blen (sv b).natAbs : Int) ∨ (blen (sv (mulN a b)).natAbs : Int) = (blen (sv a).natAbs : Int) + (blen (sv b).natAbs : Int) - 1)) := by
  rw [mul_sv h, Int.natAbs_mul]
  by_cases h0 : sv a * sv b = 0
  · left
    unfold sgn
    rw [if_neg (by omega), if_pos h0]
  · right
    have hx : (sv a).natAbs ≠ 0 := fun e => h0 (by rw [Int.natAbs_eq_zero.1 e, Int.zero_mul])
    have hy : (sv b).natAbs ≠ 0 := fun e => h0 (by rw [Int.natAbs_eq_zero.1 e, Int.mul_zero])
    refine ⟨?_, ?_⟩
    · unfold sgn
      by_cases hn : sv a * sv b < 0
      · rw [if_pos hn]; decide
      · rw [if_neg hn, if_neg h0]; decide
    · generalize (sv a).natAbs = x at *
      generalize (sv b).natAbs = y at *
      have bx := blen_zero x
      have by' := blen_zero y
      have u1 := lt_blen x
      have u2 := lt_blen y
      have g1 := ge_blen x (blen x - 1) (by omega)
      have g2 := ge_blen y (blen y - 1) (by omega)
      have up : x * y < 2 ^ (blen x + blen y) := by rw [Nat.pow_add]; exact Nat.mul_lt_mul'' u1 u2
      have lo : 2 ^ (blen x - 1 + (blen y - 1)) ≤ x * y := by rw [Nat.pow_add]; exact Nat.mul_le_mul g1 g2
      have c1 := blen_le_of up
      have c2 : blen x - 1 + (blen y - 1) < blen (x * y) := by
        rcases Nat.lt_or_ge (blen x - 1 + (blen y - 1)) (blen (x * y)) with h | h
        · exact h
        · have := (blen_lt (x * y) _).1 h
          omega
      omega
theorem bt_wrap (z : Int) (h0 : -2000 ≤ z) (h1 : z ≤ 2000) : IntKind.i64.wrap z = z := by rw [IntKind.wrap_i64]; omega

end Go.Proofs.Ytfoojpfgeicolac
