/- Shifts add up. -/
import Derived.Test.YtfoojpfgeicolacKa
namespace Go.Proofs.Ytfoojpfgeicolac
open Go.RowKit

theorem pow_sum {m n : Int} (hm : ¬ m < 0) (hn : ¬ n < 0) : ((2 ^ (m + n).toNat : Nat) : Int) = ((2 ^ m.toNat : Nat) : Int) * ((2 ^ n.toNat : Nat) : Int) := by
  rw [show (m + n).toNat = m.toNat + n.toNat by omega, Nat.pow_add, Int.natCast_mul]
theorem tw1 (a : Nat) (m n : Int) (hm : ¬ m < 0) (hn : ¬ n < 0) : same (shrN n (shrN m a)) (shrN (m + n) a) = true := by
  have hp := two_pow_pos m.toNat
  rw [same_iff, shr_sv, shr_sv, shr_sv, pow_sum hm hn, Int.ediv_ediv_of_nonneg (by omega)]
  simp
theorem shlB_of {n : Int} (hn : ¬ n < 0) (a : Nat) : shlB n a = fit (sv a * ((2 ^ n.toNat : Nat) : Int)) := by
  unfold shlB
  simp [hn]
theorem tw2 (a : Nat) (m n : Int) (hm : ¬ m < 0) (hn : ¬ n < 0) (h : shlB m a = true) : shlB n (shlN m a) = shlB (m + n) a ∧ same (shlN n (shlN m a)) (shlN (m + n) a) = true := by
  have hmn : ¬ m + n < 0 := by omega
  have e : sv (shlN m a) * ((2 ^ n.toNat : Nat) : Int) = sv a * ((2 ^ (m + n).toNat : Nat) : Int) := by rw [shl_sv h, pow_sum hm hn, Int.mul_assoc]
  have e1 : shlB n (shlN m a) = shlB (m + n) a := by rw [shlB_of hn, shlB_of hmn, e]
  refine ⟨e1, same_of_eq ?_⟩
  show (bif shlB n (shlN m a) then enc (sv (shlN m a) * ((2 ^ n.toNat : Nat) : Int)) else 0) = (bif shlB (m + n) a then enc (sv a * ((2 ^ (m + n).toNat : Nat) : Int)) else 0)
  rw [e1, e]
theorem fit_less {z p : Int} (hp : 0 < p) (h : Fit (z * p)) : Fit z := by
  obtain ⟨h1, h2⟩ := h
  rcases (show z < 0 ∨ 0 ≤ z by omega) with hz | hz
  · have : z * p ≤ z * 1 := Int.mul_le_mul_of_nonpos_left (by omega) (by omega)
    have := H_pos
    exact ⟨by omega, by omega⟩
  · have : z * 1 ≤ z * p := Int.mul_le_mul_of_nonneg_left (by omega) hz
    exact ⟨by omega, by omega⟩
theorem tw3 (a : Nat) (m n : Int) (hm : ¬ m < 0) (hn : ¬ n < 0) (h : shlB m a = false) : shlB (m + n) a = false := by
  have hmn : ¬ m + n < 0 := by omega
  rw [shlB_of hm] at h
  rw [shlB_of hmn]
  cases hf : fit (sv a * ((2 ^ (m + n).toNat : Nat) : Int)) with
  | false => rfl
  | true =>
    have h1 := Fit.of hf
    rw [pow_sum hm hn, ← Int.mul_assoc] at h1
    rw [fit_true (fit_less (two_pow_pos _) h1)] at h
    cases h
theorem pow_fit (k : Nat) (hk : k ≤ 510) : Fit ((2 ^ k : Nat) : Int) := by
  obtain ⟨e, he, h5⟩ : ∃ e, M = 2 ^ e ∧ k + 2 ≤ e := ⟨64 * 8, M_pow8, by omega⟩
  have h1 : 2 ^ (k + 2) ≤ M := by rw [he]; exact Nat.pow_le_pow_right (by decide) h5
  rw [Nat.pow_add] at h1
  have h2 := M_H
  have h3 := H_pos
  generalize 2 ^ k = P at *
  exact ⟨by omega, by omega⟩
theorem tw4 (a : Nat) (m : Int) (hm : ¬ m < 0) (h : m ≤ 510) : shlB m (enc 1) = true ∧ mulB a (shlN m (enc 1)) = shlB m a ∧ same (mulN a (shlN m (enc 1))) (shlN m a) = true := by
  have h1 : shlB m (enc 1) = true := by
    rw [shlB_of hm, sv_one, Int.one_mul]
    exact fit_true (pow_fit _ (by omega))
  have e : sv a * sv (shlN m (enc 1)) = sv a * ((2 ^ m.toNat : Nat) : Int) := by rw [shl_sv h1, sv_one, Int.one_mul]
  have e1 : mulB a (shlN m (enc 1)) = shlB m a := by unfold mulB; rw [shlB_of hm, e]
  refine ⟨h1, e1, same_of_eq ?_⟩
  show (bif fit (sv a * sv (shlN m (enc 1))) then enc (sv a * sv (shlN m (enc 1))) else 0) = (bif shlB m a then enc (sv a * ((2 ^ m.toNat : Nat) : Int)) else 0)
  rw [shlB_of hm, e]

end Go.Proofs.Ytfoojpfgeicolac
