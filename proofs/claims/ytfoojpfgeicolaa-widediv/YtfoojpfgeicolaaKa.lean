/- The other answers over limbs: differences, opposites, shifts, roots, signs, comparisons, quotients; and what undoes what. -/
import Derived.Test.YtfoojpfgeicolaaZp
namespace Go.Proofs.Ytfoojpfgeicolaa
open Go.RowKit

theorem same_sv (a : Nat) : same (enc (sv a)) a = true := by
  rw [same_of (x := sv a) (y := sv a) (by rw [enc_int, Int.emod_emod]) (sv_mod a) (sv_fit a) (sv_fit a)]
  simp
theorem same_iff (a b : Nat) : same a b = decide (sv a = sv b) := same_of (sv_mod a) (sv_mod b) (sv_fit a) (sv_fit b)

theorem SubN (a b : Nat) (w : World) : Calls Try.prog 20 #[W a, W b] w fun e w' => e = .returned (.tuple #[.agg (cells8 (subN a b)), .bool (subB a b)]) ∧ Below w.heap.size w w' := by
  rw [W_sv a, W_sv b]
  refine (SubZ (sv a) (sv b) (sv_fit a) (sv_fit b) w).mono fun e w' ⟨he, hb⟩ => ⟨?_, hb⟩
  rw [he]
  exact congrArg Ending.returned (told_bif _ _)
def negN (a : Nat) : Nat := bif fit (-sv a) then enc (-sv a) else 0
def negB (a : Nat) : Bool := fit (-sv a)
theorem NegN (a : Nat) (w : World) : Calls Try.prog 21 #[W a] w fun e w' => e = .returned (.tuple #[.agg (cells8 (negN a)), .bool (negB a)]) ∧ Below w.heap.size w w' := by
  rw [W_sv a]
  refine (NegZ (sv a) (sv_fit a) w).mono fun e w' ⟨he, hb⟩ => ⟨?_, hb⟩
  rw [he]
  exact congrArg Ending.returned (told_bif _ _)
def shlB (n : Int) (a : Nat) : Bool := !decide (n < 0) && fit (sv a * ((2 ^ n.toNat : Nat) : Int))
def shlN (n : Int) (a : Nat) : Nat := bif shlB n a then enc (sv a * ((2 ^ n.toNat : Nat) : Int)) else 0
def shrN (n : Int) (a : Nat) : Nat := enc (sv a / ((2 ^ n.toNat : Nat) : Int))
theorem ShlN (n : Int) (h0 : -9223372036854775808 ≤ n) (h1 : n < 9223372036854775808) (a : Nat) (w : World) : Calls Try.prog 26 #[W a, .int .i64 n] w fun e w' => e = .returned (.tuple #[.agg (cells8 (shlN n a)), .bool (shlB n a)]) ∧ Below w.heap.size w w' := by
  rw [W_sv a]
  refine (ShlZ (sv a) n (sv_fit a) h0 h1 w).mono fun e w' ⟨he, hb⟩ => ⟨?_, hb⟩
  rw [he]
  have e1 : (decide (n < 0) || !fit (sv a * ((2 ^ n.toNat : Nat) : Int))) = !shlB n a := by unfold shlB; cases decide (n < 0) <;> cases fit (sv a * ((2 ^ n.toNat : Nat) : Int)) <;> rfl
  rw [e1]
  exact congrArg Ending.returned (told_bif _ _)
theorem ShrN (n : Int) (h1 : n < 9223372036854775808) (a : Nat) (w : World) : Calls Try.prog 28 #[W a, .int .i64 n] w fun e w' => e = .returned (.agg (cells8 (shrN n a))) ∧ Below w.heap.size w w' := by
  rw [W_sv a]
  exact ShrZ (sv a) n (sv_fit a) h1 w
def sqB (a : Nat) : Bool := !decide (sv a < 0)
def sqN (a : Nat) : Nat := bif sqB a then enc (isq (sv a).toNat : Nat) else 0
theorem SqrtN (a : Nat) (w : World) : Calls Try.prog 32 #[W a] w fun e w' => e = .returned (.tuple #[.agg (cells8 (sqN a)), .bool (sqB a)]) ∧ Below w.heap.size w w' := by
  rw [W_sv a]
  refine (SqrtZ (sv a) (sv_fit a) w).mono fun e w' ⟨he, hb⟩ => ⟨?_, hb⟩
  rw [he]
  have e1 : decide (sv a < 0) = !sqB a := by unfold sqB; simp
  rw [e1]
  exact congrArg Ending.returned (told_bif _ _)
theorem SignN (a : Nat) (w : World) : Calls Try.prog 12 #[W a] w fun e w' => e = .returned (.int .i64 (sgn (sv a))) ∧ Below w.heap.size w w' := by
  rw [W_sv a]
  exact SignZ (sv a) (sv_fit a) w
theorem CmpN (a b : Nat) (w : World) : Calls Try.prog 14 #[W a, W b] w fun e w' => e = .returned (.int .i64 (cmpI (sv a) (sv b))) ∧ Below w.heap.size w w' := by
  rw [W_sv a, W_sv b]
  exact CmpZ (sv a) (sv b) (sv_fit a) (sv_fit b) w
def dqB (a b : Nat) : Bool := dq (sv a) (sv b)
def dqN (a b : Nat) : Nat := bif dq (sv a) (sv b) then enc ((sv a).fdiv (sv b)) else 0
def drN (a b : Nat) : Nat := bif dq (sv a) (sv b) then enc ((sv a).fmod (sv b)) else 0
theorem DivN (a b : Nat) (w : World) : Calls Try.prog 30 #[W a, W b] w fun e w' => e = .returned (.tuple #[.agg (cells8 (dqN a b)), .agg (cells8 (drN a b)), .bool (dqB a b)]) ∧ Below w.heap.size w w' := by
  rw [W_sv a, W_sv b]
  exact DivZ (sv a) (sv b) (sv_fit a) (sv_fit b) w

/-! What undoes what. -/
theorem und1 (a b : Nat) (h : addB a b = true) : subB (addN a b) b = true ∧ same (subN (addN a b) b) a = true := by
  have e : sv (addN a b) - sv b = sv a := by rw [add_sv h]; omega
  have hf : fit (sv a) = true := fit_true (sv_fit a)
  refine ⟨by unfold subB; rw [e]; exact hf, ?_⟩
  have : subN (addN a b) b = enc (sv a) := by unfold subN; rw [e, hf]; rfl
  rw [this]
  exact same_sv a
theorem und2 (a : Nat) (h : negB a = true) : negB (negN a) = true ∧ same (negN (negN a)) a = true := by
  have e1 : sv (negN a) = -sv a := by unfold negN negB at *; rw [h]; exact sv_enc (Fit.of h)
  have e : -sv (negN a) = sv a := by rw [e1]; omega
  have hf : fit (sv a) = true := fit_true (sv_fit a)
  refine ⟨by unfold negB; rw [e]; exact hf, ?_⟩
  have : negN (negN a) = enc (sv a) := by
    show (bif fit (-sv (negN a)) then enc (-sv (negN a)) else 0) = _
    rw [e, hf]
    rfl
  rw [this]
  exact same_sv a
theorem shl_sv {n : Int} {a : Nat} (h : shlB n a = true) : sv (shlN n a) = sv a * ((2 ^ n.toNat : Nat) : Int) := by
  unfold shlN
  rw [h]
  unfold shlB at h
  rw [Bool.and_eq_true] at h
  exact sv_enc (Fit.of h.2)
theorem shr_sv (n : Int) (a : Nat) : sv (shrN n a) = sv a / ((2 ^ n.toNat : Nat) : Int) := sv_enc (fit_div (sv_fit a) _ (two_pow_pos _))
theorem und3 (n : Int) (a : Nat) (h : shlB n a = true) : same (shrN n (shlN n a)) a = true := by
  have hp := two_pow_pos n.toNat
  rw [same_iff, shr_sv, shl_sv h, Int.mul_ediv_cancel _ (by omega)]
  simp

/-! The root. -/
theorem rt1 (a : Nat) (h : sqB a = false) : sgn (sv a) < 0 ∧ same (sqN a) 0 = true := by
  have h1 : sv a < 0 := by unfold sqB at h; simpa using h
  refine ⟨by unfold sgn; rw [if_pos h1]; decide, ?_⟩
  unfold sqN
  rw [h]
  exact same_self 0
theorem fit_one : Fit 1 := by have hH : 1000 < (H : Int) := by decide
                              exact ⟨by omega, by omega⟩
theorem sv_one : sv (enc 1) = 1 := sv_enc fit_one
theorem rt2 (a : Nat) (h : sqB a = true) : mulB (sqN a) (sqN a) = true ∧ addB (sqN a) (enc 1) = true ∧ 0 ≤ sgn (sv (sqN a)) ∧ cmpI (sv (mulN (sqN a) (sqN a))) (sv a) ≤ 0 ∧
    (mulB (addN (sqN a) (enc 1)) (addN (sqN a) (enc 1)) = true → 0 < cmpI (sv (mulN (addN (sqN a) (enc 1)) (addN (sqN a) (enc 1)))) (sv a)) := by
  have h0 : ¬ sv a < 0 := by unfold sqB at h; simpa using h
  have hfa := sv_fit a
  obtain ⟨f1, f2⟩ := hfa
  have hH : 1000 < (H : Int) := by decide
  obtain ⟨i1, i2⟩ := isq_spec (sv a).toNat
  have hle := isq_le (sv a).toNat
  have hr : sv (sqN a) = (isq (sv a).toNat : Nat) := by
    unfold sqN
    rw [h]
    exact sv_enc ⟨by omega, by omega⟩
  have hx : ((sv a).toNat : Int) = sv a := by omega
  generalize hq : isq (sv a).toNat = r at *
  have i1' : (r : Int) * (r : Int) ≤ sv a := by rw [← hx, ← Int.natCast_mul]; omega
  have i2' : sv a < ((r : Int) + 1) * ((r : Int) + 1) := by
    have : (((r + 1) * (r + 1) : Nat) : Int) = ((r : Int) + 1) * ((r : Int) + 1) := by rw [Int.natCast_mul]; rfl
    rw [← hx, ← this]
    omega
  have hrr : 0 ≤ (r : Int) * (r : Int) := Int.mul_nonneg (by omega) (by omega)
  have hr1 : (r : Int) + 1 < (H : Int) := by
    rcases Nat.lt_or_ge r 2 with h2 | h2
    · omega
    · have : (r : Int) * 2 ≤ (r : Int) * (r : Int) := Int.mul_le_mul_of_nonneg_left (by omega) (by omega)
      omega
  have hm : mulB (sqN a) (sqN a) = true := by
    unfold mulB
    rw [hr]
    exact fit_true ⟨by omega, by omega⟩
  have ha : addB (sqN a) (enc 1) = true := by
    unfold addB
    rw [hr, sv_one]
    exact fit_true ⟨by omega, by omega⟩
  refine ⟨hm, ha, ?_, ?_, fun hg => ?_⟩
  · rw [hr]
    unfold sgn
    rw [if_neg (by omega)]
    split <;> decide
  · rw [mul_sv hm, hr]
    unfold cmpI
    split
    · decide
    · rw [if_neg (by omega)]
      decide
  · rw [mul_sv hg, add_sv ha, hr, sv_one]
    unfold cmpI
    rw [if_neg (by omega), if_pos (by omega)]
    decide

end Go.Proofs.Ytfoojpfgeicolaa
