/- The comparison is an order. -/
import Derived.Test.YtfoojpfgeicolabKa
namespace Go.Proofs.Ytfoojpfgeicolab
open Go.RowKit

theorem cmp_cases (x y : Int) : (x < y ∧ cmpI x y = -1) ∨ (x = y ∧ cmpI x y = 0) ∨ (y < x ∧ cmpI x y = 1) := by
  unfold cmpI
  rcases (show x < y ∨ x = y ∨ y < x by omega) with h | h | h
  · exact .inl ⟨h, if_pos h⟩
  · exact .inr (.inl ⟨h, by rw [if_neg (by omega), if_neg (by omega)]⟩)
  · exact .inr (.inr ⟨h, by rw [if_neg (by omega), if_pos h]⟩)
theorem od1 (x y : Int) : cmpI x y = -1 ∨ cmpI x y = 0 ∨ cmpI x y = 1 := by
  rcases cmp_cases x y with ⟨_, h⟩ | ⟨_, h⟩ | ⟨_, h⟩ <;> simp [h]
theorem od2 (x y : Int) : cmpI y x = -cmpI x y := by
  rcases cmp_cases x y with ⟨h1, h⟩ | ⟨h1, h⟩ | ⟨h1, h⟩ <;> rcases cmp_cases y x with ⟨k1, k⟩ | ⟨k1, k⟩ | ⟨k1, k⟩ <;> first | omega
theorem od3 (a b : Nat) : same a b = decide (cmpI (sv a) (sv b) = 0) := by
  rw [same_iff]
  congr 1
  apply propext
  rcases cmp_cases (sv a) (sv b) with ⟨h1, h⟩ | ⟨h1, h⟩ | ⟨h1, h⟩ <;> omega
theorem od4 (x y z : Int) (h1 : cmpI x y ≤ 0) (h2 : cmpI y z ≤ 0) : cmpI x z ≤ 0 ∧ (cmpI x y < 0 → cmpI x z < 0) := by
  rcases cmp_cases x y with ⟨a1, a⟩ | ⟨a1, a⟩ | ⟨a1, a⟩ <;> rcases cmp_cases y z with ⟨b1, b⟩ | ⟨b1, b⟩ | ⟨b1, b⟩ <;> rcases cmp_cases x z with ⟨c1, c⟩ | ⟨c1, c⟩ | ⟨c1, c⟩ <;> omega
theorem cmp_iff {x y x' y' : Int} (h1 : x < y ↔ x' < y') (h2 : y < x ↔ y' < x') : cmpI x y = cmpI x' y' := by
  unfold cmpI
  simp only [h1, h2]
theorem od5 (a b c : Nat) (h1 : addB a c = true) (h2 : addB b c = true) : cmpI (sv (addN a c)) (sv (addN b c)) = cmpI (sv a) (sv b) := by
  rw [add_sv h1, add_sv h2]
  exact cmp_iff (by omega) (by omega)
theorem neg_sv {a : Nat} (h : negB a = true) : sv (negN a) = -sv a := by
  unfold negN negB at *
  rw [h]
  exact sv_enc (Fit.of h)
theorem od6 (a b : Nat) (h1 : negB a = true) (h2 : negB b = true) : cmpI (sv (negN a)) (sv (negN b)) = -cmpI (sv a) (sv b) := by
  rw [neg_sv h1, neg_sv h2, ← od2]
  exact cmp_iff (by omega) (by omega)
theorem od7 (m n : Int) (hm : -9223372036854775808 ≤ m ∧ m < 9223372036854775808) (hn : -9223372036854775808 ≤ n ∧ n < 9223372036854775808) :
    (m < n ∧ cmpI (sv (enc m)) (sv (enc n)) = -1) ∨ (m = n ∧ cmpI (sv (enc m)) (sv (enc n)) = 0) ∨ (n < m ∧ cmpI (sv (enc m)) (sv (enc n)) = 1) := by
  have hH : 18446744073709551616 < (H : Int) := by decide
  rw [sv_enc (show Fit m from ⟨by omega, by omega⟩), sv_enc (show Fit n from ⟨by omega, by omega⟩)]
  exact cmp_cases m n

end Go.Proofs.Ytfoojpfgeicolab
