/- The sums and products of limbs keep the ring's laws, where they fit. -/
import Derived.Test.YtfoojpfgeicolaaZn
namespace Go.Proofs.Ytfoojpfgeicolaa
open Go.RowKit

theorem sv_enc {z : Int} (h : Fit z) : sv (enc z) = z := by
  refine fit_unique (sv_fit _) h ?_
  rw [← sv_mod, enc_int, Int.emod_emod]
theorem same_of_eq {n m : Nat} (h : n = m) : same n m = true := by subst h; exact same_self n
theorem add_sv {a b : Nat} (h : addB a b = true) : sv (addN a b) = sv a + sv b := by
  unfold addN addB at *
  rw [h]
  exact sv_enc (Fit.of h)
theorem sub_sv {a b : Nat} (h : subB a b = true) : sv (subN a b) = sv a - sv b := by
  unfold subN subB at *
  rw [h]
  exact sv_enc (Fit.of h)
theorem mul_sv {a b : Nat} (h : mulB a b = true) : sv (mulN a b) = sv a * sv b := by
  unfold mulN mulB at *
  rw [h]
  exact sv_enc (Fit.of h)
theorem addN_of {a b c d : Nat} (h : sv a + sv b = sv c + sv d) : addN a b = addN c d ∧ addB a b = addB c d := by
  unfold addN addB
  rw [h]
  exact ⟨rfl, rfl⟩
theorem ring1 (a b : Nat) : addN a b = addN b a ∧ addB a b = addB b a := addN_of (Int.add_comm _ _)
theorem ring2 (a b : Nat) : mulN a b = mulN b a ∧ mulB a b = mulB b a := by
  unfold mulN mulB
  rw [Int.mul_comm]
  exact ⟨rfl, rfl⟩
theorem ring3 (a b c : Nat) (h1 : addB a b = true) (h2 : addB b c = true) : addB (addN a b) c = addB a (addN b c) ∧ (addB a (addN b c) = true → same (addN (addN a b) c) (addN a (addN b c)) = true) := by
  have h := addN_of (a := addN a b) (b := c) (c := a) (d := addN b c) (by rw [add_sv h1, add_sv h2, Int.add_assoc])
  exact ⟨h.2, fun _ => same_of_eq h.1⟩
theorem ring6 (a b c : Nat) (h1 : addB b c = true) (h2 : mulB a b = true) (h3 : mulB a c = true) : mulB a (addN b c) = addB (mulN a b) (mulN a c) ∧ same (mulN a (addN b c)) (addN (mulN a b) (mulN a c)) = true := by
  have e : sv a * sv (addN b c) = sv (mulN a b) + sv (mulN a c) := by rw [add_sv h1, mul_sv h2, mul_sv h3, Int.mul_add]
  refine ⟨?_, same_of_eq ?_⟩
  · unfold mulB addB; rw [e]
  · show (bif fit (sv a * sv (addN b c)) then enc (sv a * sv (addN b c)) else 0) = (bif fit (sv (mulN a b) + sv (mulN a c)) then enc (sv (mulN a b) + sv (mulN a c)) else 0)
    rw [e]
theorem ring7 (a b c : Nat) (h1 : mulB a b = true) (h2 : mulB b c = true) : mulB (mulN a b) c = mulB a (mulN b c) ∧ same (mulN (mulN a b) c) (mulN a (mulN b c)) = true := by
  have e : sv (mulN a b) * sv c = sv a * sv (mulN b c) := by rw [mul_sv h1, mul_sv h2, Int.mul_assoc]
  refine ⟨?_, same_of_eq ?_⟩
  · unfold mulB; rw [e]
  · show (bif fit (sv (mulN a b) * sv c) then enc (sv (mulN a b) * sv c) else 0) = (bif fit (sv a * sv (mulN b c)) then enc (sv a * sv (mulN b c)) else 0)
    rw [e]

end Go.Proofs.Ytfoojpfgeicolaa
