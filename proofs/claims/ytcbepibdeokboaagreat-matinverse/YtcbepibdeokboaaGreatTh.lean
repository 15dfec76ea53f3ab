/- Package quat: share, Unit, Spin, Back. Package quat: turn, quotient. -/
import Derived.Test.YtcbepibdeokboaaGreatTf
namespace Go.Proofs.YtcbepibdeokboaaGreat
open Go.RowKit
set_option maxRecDepth 4000
set_option linter.unusedVariables false

theorem sgn_ge (x : Int) : decide (0 ≤ sgn x) = decide (0 ≤ x) := by
  unfold sgn
  by_cases h : x < 0
  · rw [if_pos h, decide_eq_false (show ¬ 0 ≤ x by omega)]; decide
  · rw [if_neg h, decide_eq_true (show 0 ≤ x by omega)]
    split <;> decide
theorem sz_le4 {k : Nat} {a b : Int} (h0 : 0 ≤ a) (h : a ≤ b) (hb : Sz k b) : Sz k a := by
  unfold Sz at *
  omega
theorem neg_up {x r S : Int} (h : PartU x (wrap64 (-(cl (r + 1)))) S) (h0 : 0 ≤ r) : wrap64 (-(wrap64 (cl r + 1))) = wrap64 (-(cl (r + 1))) := by
  have l := h.l
  have r' := h.r
  clear h
  revert l r'
  unfold cl wrap64
  intro l r'
  repeat' split at l
  all_goals (repeat' split at r')
  all_goals (repeat' split)
  all_goals omega
theorem sq4_ge (a b c d : Int) : a * a ≤ sq4 a b c d ∧ b * b ≤ sq4 a b c d ∧ c * c ≤ sq4 a b c d ∧ d * d ≤ sq4 a b c d := by
  have := sq0 a
  have := sq0 b
  have := sq0 c
  have := sq0 d
  unfold sq4
  omega
theorem chk_pos {n : Int} (h : chk n = 0) : 4611686018427387904 ≤ n ∧ n ≤ 73786976294838206464 := by
  unfold chk at h
  split at h
  · omega
  · split at h <;> omega
theorem chk_cases (n : Int) : chk n = 0 ∨ chk n = 9 := by
  unfold chk
  split
  · exact .inr rfl
  · split
    · exact .inr rfl
    · exact .inl rfl
end Go.Proofs.YtcbepibdeokboaaGreat

namespace Go.Proofs.YtcbepibdeokboaaGreat
open Go.RowKit
set_option maxRecDepth 4000
set_option linter.unusedVariables false

/-- The parts of a matrix: which number, the sign, which two. -/
def tnL : List (Nat × Int × Nat × Nat) := [(0, 1, 0, 0), (0, 1, 1, 1), (0, -1, 2, 2), (0, -1, 3, 3), (1, 2, 1, 2), (1, -2, 0, 3), (2, 2, 1, 3), (2, 2, 0, 2), (3, 2, 1, 2), (3, 2, 0, 3), (4, 1, 0, 0), (4, -1, 1, 1), (4, 1, 2, 2), (4, -1, 3, 3), (5, 2, 2, 3), (5, -2, 0, 1), (6, 2, 1, 3), (6, -2, 0, 2), (7, 2, 2, 3), (7, 2, 0, 1), (8, 1, 0, 0), (8, -1, 1, 1), (8, -1, 2, 2), (8, 1, 3, 3)]
def tnA (k : Nat) : Nat := (tnL.getD k (0, 0, 0, 0)).1
def tnS (k : Nat) : Int := (tnL.getD k (0, 0, 0, 0)).2.1
def tnF (k : Nat) : Nat := (tnL.getD k (0, 0, 0, 0)).2.2.1
def tnG (k : Nat) : Nat := (tnL.getD k (0, 0, 0, 0)).2.2.2
def tabT : Array Value := (tnL.flatMap fun p => [.int .i64 p.1, .int .i64 p.2.1, .int .i64 p.2.2.1, .int .i64 p.2.2.2]).toArray
theorem lt24 {k : Nat} (h : k < 24) : k = 0 ∨ k = 1 ∨ k = 2 ∨ k = 3 ∨ k = 4 ∨ k = 5 ∨ k = 6 ∨ k = 7 ∨ k = 8 ∨ k = 9 ∨ k = 10 ∨ k = 11 ∨ k = 12 ∨ k = 13 ∨ k = 14 ∨ k = 15 ∨ k = 16 ∨ k = 17 ∨ k = 18 ∨ k = 19 ∨ k = 20 ∨ k = 21 ∨ k = 22 ∨ k = 23 := by omega
theorem tnA_lt (k : Nat) (h : k < 24) : tnA k < 9 := by
  rcases lt24 h with rfl | rfl | rfl | rfl | rfl | rfl | rfl | rfl | rfl | rfl | rfl | rfl | rfl | rfl | rfl | rfl | rfl | rfl | rfl | rfl | rfl | rfl | rfl | rfl <;> decide
theorem tnF_lt (k : Nat) (h : k < 24) : tnF k < 4 := by
  rcases lt24 h with rfl | rfl | rfl | rfl | rfl | rfl | rfl | rfl | rfl | rfl | rfl | rfl | rfl | rfl | rfl | rfl | rfl | rfl | rfl | rfl | rfl | rfl | rfl | rfl <;> decide
theorem tnG_lt (k : Nat) (h : k < 24) : tnG k < 4 := by
  rcases lt24 h with rfl | rfl | rfl | rfl | rfl | rfl | rfl | rfl | rfl | rfl | rfl | rfl | rfl | rfl | rfl | rfl | rfl | rfl | rfl | rfl | rfl | rfl | rfl | rfl <;> decide
theorem tnS_sz (k : Nat) (h : k < 24) : -2 ≤ tnS k ∧ tnS k ≤ 2 := by
  rcases lt24 h with rfl | rfl | rfl | rfl | rfl | rfl | rfl | rfl | rfl | rfl | rfl | rfl | rfl | rfl | rfl | rfl | rfl | rfl | rfl | rfl | rfl | rfl | rfl | rfl <;> decide
def ac9 (f : Nat → Int) : List Nat := [enc (f 0), enc (f 1), enc (f 2), enc (f 3), enc (f 4), enc (f 5), enc (f 6), enc (f 7), enc (f 8)]
theorem lt9 {k : Nat} (h : k < 9) : k = 0 ∨ k = 1 ∨ k = 2 ∨ k = 3 ∨ k = 4 ∨ k = 5 ∨ k = 6 ∨ k = 7 ∨ k = 8 := by omega
theorem ac9_get {f : Nat → Int} {k : Nat} (h : k < 9) : (ac9 f)[k]? = some (enc (f k)) := by
  rcases lt9 h with rfl | rfl | rfl | rfl | rfl | rfl | rfl | rfl | rfl <;> rfl
theorem ac9_set {f g : Nat → Int} {m : Nat} (hm : m < 9) (he : ∀ j, j ≠ m → g j = f j) : ac9 g = (ac9 f).set m (enc (g m)) := by
  unfold ac9
  rcases lt9 hm with rfl | rfl | rfl | rfl | rfl | rfl | rfl | rfl | rfl
  · rw [he 1 (by omega), he 2 (by omega), he 3 (by omega), he 4 (by omega), he 5 (by omega), he 6 (by omega), he 7 (by omega), he 8 (by omega)]; rfl
  · rw [he 0 (by omega), he 2 (by omega), he 3 (by omega), he 4 (by omega), he 5 (by omega), he 6 (by omega), he 7 (by omega), he 8 (by omega)]; rfl
  · rw [he 0 (by omega), he 1 (by omega), he 3 (by omega), he 4 (by omega), he 5 (by omega), he 6 (by omega), he 7 (by omega), he 8 (by omega)]; rfl
  · rw [he 0 (by omega), he 1 (by omega), he 2 (by omega), he 4 (by omega), he 5 (by omega), he 6 (by omega), he 7 (by omega), he 8 (by omega)]; rfl
  · rw [he 0 (by omega), he 1 (by omega), he 2 (by omega), he 3 (by omega), he 5 (by omega), he 6 (by omega), he 7 (by omega), he 8 (by omega)]; rfl
  · rw [he 0 (by omega), he 1 (by omega), he 2 (by omega), he 3 (by omega), he 4 (by omega), he 6 (by omega), he 7 (by omega), he 8 (by omega)]; rfl
  · rw [he 0 (by omega), he 1 (by omega), he 2 (by omega), he 3 (by omega), he 4 (by omega), he 5 (by omega), he 7 (by omega), he 8 (by omega)]; rfl
  · rw [he 0 (by omega), he 1 (by omega), he 2 (by omega), he 3 (by omega), he 4 (by omega), he 5 (by omega), he 6 (by omega), he 8 (by omega)]; rfl
  · rw [he 0 (by omega), he 1 (by omega), he 2 (by omega), he 3 (by omega), he 4 (by omega), he 5 (by omega), he 6 (by omega), he 7 (by omega)]; rfl
/-- The numbers of a matrix, times the square. -/
def trn (q0 q1 q2 q3 : Int) (k j : Nat) : Int := acc tnA tnF tnG tnS (n4 q0 q1 q2 q3) (n4 q0 q1 q2 q3) k j
theorem trn_sz {q0 q1 q2 q3 : Int} (hq : ∀ j, Sz 63 (n4 q0 q1 q2 q3 j)) (k j : Nat) (h : k ≤ 24) : Sz (128 + k) (trn q0 q1 q2 q3 k j) :=
  acc_sz hq hq (n := 24) (fun k hk => sz_two (tnS_sz k hk)) k j h
/-- A quotient, brought in. -/
def quo (n d : Int) : Int := cl ((n * 4294967296).fdiv d)
end Go.Proofs.YtcbepibdeokboaaGreat
