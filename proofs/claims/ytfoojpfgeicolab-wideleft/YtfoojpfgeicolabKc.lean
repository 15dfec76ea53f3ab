/- What a quotient is, and that a shift to the right is one. -/
import Derived.Test.YtfoojpfgeicolabKb
namespace Go.Proofs.Ytfoojpfgeicolab
open Go.RowKit

theorem dq_true {a b : Nat} (h : dqB a b = true) : sv b ≠ 0 ∧ Fit ((sv a).fdiv (sv b)) := by
  unfold dqB dq at h
  rw [Bool.and_eq_true] at h
  refine ⟨?_, Fit.of h.2⟩
  have := h.1
  simpa using this
theorem dqN_sv {a b : Nat} (h : dqB a b = true) : sv (dqN a b) = (sv a).fdiv (sv b) := by
  have h1 : dq (sv a) (sv b) = true := h
  unfold dqN
  rw [h1]
  exact sv_enc (dq_true h).2
/-- What is left lies between 0 and the divisor. -/
theorem fmod_side (x y : Int) (hy : y ≠ 0) : (0 < y ∧ 0 ≤ x.fmod y ∧ x.fmod y < y) ∨ (y < 0 ∧ y < x.fmod y ∧ x.fmod y ≤ 0) := by
  rcases (show 0 < y ∨ y < 0 by omega) with h | h
  · have := (Int.fdiv_fmod_unique (a := x) (b := y) (r := x.fmod y) (q := x.fdiv y) h).1 ⟨rfl, rfl⟩
    exact .inl ⟨h, this.2.1, this.2.2⟩
  · have := (Int.fdiv_fmod_unique' (a := x) (b := y) (r := x.fmod y) (q := x.fdiv y) h).1 ⟨rfl, rfl⟩
    exact .inr ⟨h, this.2.1, this.2.2⟩
theorem fmod_fit (x y : Int) (hy : Fit y) (h0 : y ≠ 0) : Fit (x.fmod y) := by
  obtain ⟨h1, h2⟩ := hy
  rcases fmod_side x y h0 with h | h
  · exact ⟨by omega, by omega⟩
  · exact ⟨by omega, by omega⟩
theorem drN_sv {a b : Nat} (h : dqB a b = true) : sv (drN a b) = (sv a).fmod (sv b) := by
  have h1 : dq (sv a) (sv b) = true := h
  unfold drN
  rw [h1]
  exact sv_enc (fmod_fit _ _ (sv_fit b) (dq_true h).1)

theorem lf1 (a b : Nat) (h : dqB a b = true) (hm : mulB (dqN a b) b = true) : addB (mulN (dqN a b) b) (drN a b) = true ∧ same (addN (mulN (dqN a b) b) (drN a b)) a = true := by
  have e : sv (mulN (dqN a b) b) + sv (drN a b) = sv a := by
    rw [mul_sv hm, dqN_sv h, drN_sv h, Int.mul_comm]
    exact Int.mul_fdiv_add_fmod (sv a) (sv b)
  have hf : fit (sv a) = true := fit_true (sv_fit a)
  refine ⟨by unfold addB; rw [e]; exact hf, ?_⟩
  have : addN (mulN (dqN a b) b) (drN a b) = enc (sv a) := by unfold addN; rw [e, hf]; rfl
  rw [this]
  exact same_sv a
theorem sgn_cases (x : Int) : (x < 0 ∧ sgn x = -1) ∨ (x = 0 ∧ sgn x = 0) ∨ (0 < x ∧ sgn x = 1) := by
  unfold sgn
  rcases (show x < 0 ∨ x = 0 ∨ 0 < x by omega) with h | h | h
  · exact .inl ⟨h, if_pos h⟩
  · exact .inr (.inl ⟨h, by rw [if_neg (by omega), if_pos h]⟩)
  · exact .inr (.inr ⟨h, by rw [if_neg (by omega), if_neg (by omega)]⟩)
theorem sgn_wrap (x y : Int) : IntKind.i64.wrap (sgn x * sgn y) = sgn x * sgn y := by
  rcases sgn_cases x with ⟨_, h⟩ | ⟨_, h⟩ | ⟨_, h⟩ <;> rcases sgn_cases y with ⟨_, k⟩ | ⟨_, k⟩ | ⟨_, k⟩ <;> rw [h, k] <;> rfl
theorem lf2 (a b : Nat) (h : dqB a b = true) : ¬ sgn (sv (drN a b)) * sgn (sv b) < 0 := by
  rw [drN_sv h]
  rcases fmod_side (sv a) (sv b) (dq_true h).1 with h1 | h1
  · rcases sgn_cases ((sv a).fmod (sv b)) with ⟨h2, h3⟩ | ⟨h2, h3⟩ | ⟨h2, h3⟩ <;> rcases sgn_cases (sv b) with ⟨h4, h5⟩ | ⟨h4, h5⟩ | ⟨h4, h5⟩ <;> rw [h3, h5] <;> first | decide | omega
  · rcases sgn_cases ((sv a).fmod (sv b)) with ⟨h2, h3⟩ | ⟨h2, h3⟩ | ⟨h2, h3⟩ <;> rcases sgn_cases (sv b) with ⟨h4, h5⟩ | ⟨h4, h5⟩ | ⟨h4, h5⟩ <;> rw [h3, h5] <;> first | decide | omega
theorem lf3 (a b : Nat) (h : dqB a b = true) : (sgn (sv b) = 1 ∧ cmpI (sv (drN a b)) (sv b) = -1) ∨ (sgn (sv b) = -1 ∧ cmpI (sv (drN a b)) (sv b) = 1) := by
  rw [drN_sv h]
  unfold cmpI
  rcases fmod_side (sv a) (sv b) (dq_true h).1 with h1 | h1
  · left
    refine ⟨?_, if_pos h1.2.2⟩
    rcases sgn_cases (sv b) with ⟨h4, h5⟩ | ⟨h4, h5⟩ | ⟨h4, h5⟩
    · omega
    · omega
    · exact h5
  · right
    refine ⟨?_, by rw [if_neg (by omega), if_pos h1.2.1]⟩
    rcases sgn_cases (sv b) with ⟨h4, h5⟩ | ⟨h4, h5⟩ | ⟨h4, h5⟩
    · exact h5
    · omega
    · omega
theorem lf5 (a : Nat) (n : Int) (h0 : 0 ≤ n) (h1 : n ≤ 510) : shlB n (enc 1) = true ∧ dqB a (shlN n (enc 1)) = true ∧ same (dqN a (shlN n (enc 1))) (shrN n a) = true := by
  have hs : shlB n (enc 1) = true := (tw4 a n (by omega) h1).1
  have e : sv (shlN n (enc 1)) = ((2 ^ n.toNat : Nat) : Int) := by rw [shl_sv hs, sv_one, Int.one_mul]
  have hp := two_pow_pos n.toNat
  have hd : (sv a).fdiv (sv (shlN n (enc 1))) = sv a / ((2 ^ n.toNat : Nat) : Int) := by rw [e, Int.fdiv_eq_ediv_of_nonneg _ (by omega)]
  have hb : dqB a (shlN n (enc 1)) = true := by
    unfold dqB dq
    rw [hd, fit_true (fit_div (sv_fit a) _ hp), e]
    have hne : ¬ ((2 ^ n.toNat : Nat) : Int) = 0 := by omega
    simp only [hne, decide_false, Bool.not_false, Bool.and_self]
  refine ⟨hs, hb, ?_⟩
  rw [same_iff, dqN_sv hb, hd, shr_sv]
  simp

end Go.Proofs.Ytfoojpfgeicolab
