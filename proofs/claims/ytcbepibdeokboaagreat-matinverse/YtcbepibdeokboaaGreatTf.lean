/- Package quat: square, check, Check, One, Back; each; Mul. Package quat: each with its closures; Mul, Spin, Back. -/
import Derived.Test.YtcbepibdeokboaaGreatTa
import Derived.Test.YtcbepibdeokboaaGreatVu
namespace Go.Proofs.YtcbepibdeokboaaGreat
open Go.RowKit
set_option maxRecDepth 4000
set_option linter.unusedVariables false

/-- A quaternion's square. -/
def sq4 (a b c d : Int) : Int := a * a + b * b + c * c + d * d
def sqk (a b c d : Int) : Nat → Int
  | 0 => 0
  | k + 1 => sqk a b c d k + n4 a b c d k * n4 a b c d k
theorem sqk_sz {a b c d : Int} (h : ∀ j, Sz 63 (n4 a b c d j)) : ∀ k, Sz (126 + k) (sqk a b c d k)
  | 0 => by unfold sqk Sz; exact Nat.zero_le _
  | k + 1 => (sqk_sz h k).add (((h k).mul (h k)).mono (by omega))
theorem sqk_4 (a b c d : Int) : sqk a b c d 4 = sq4 a b c d := by
  show 0 + a * a + b * b + c * c + d * d = _
  unfold sq4
  omega
theorem n4_getD (a b c d : Int) (k : Nat) (h : k < 4) : [enc a, enc b, enc c, enc d].getD k 0 = enc (n4 a b c d k) := by
  rcases (show k = 0 ∨ k = 1 ∨ k = 2 ∨ k = 3 by omega) with rfl | rfl | rfl | rfl <;> rfl
/-- Is it a rotation's square? -/
def chk (n : Int) : Int := if n < 4611686018427387904 then 9 else if 73786976294838206464 < n then 9 else 0
theorem shl_1 (k : Int) (n : Int) (hn : (1 : Int) * ((2 ^ k.toNat : Nat) : Int) = n) (hf : Fit n) (h0 : 0 ≤ k) (h1 : k < 9223372036854775808) : Ans 47 #[V 1, .int .i64 k] (.tuple #[V n, .bool true]) := fun u => by
  have t := ShlZ 1 k fit_one (by omega) h1 u
  rw [hn, fit_true hf, decide_eq_false (show ¬ k < 0 by omega)] at t
  exact t
theorem n4_I64 {a b c d : Int} (h0 : I64 a) (h1 : I64 b) (h2 : I64 c) (h3 : I64 d) (j : Nat) : Sz 63 (n4 a b c d j) := n4_all (P := Sz 63) h0.sz h1.sz h2.sz h3.sz j
theorem sq4_sz {a b c d : Int} (h : ∀ j, Sz 63 (n4 a b c d j)) : Sz 130 (sq4 a b c d) := by
  rw [← sqk_4]
  exact (sqk_sz h 4)
end Go.Proofs.YtcbepibdeokboaaGreat

namespace Go.Proofs.YtcbepibdeokboaaGreat
open Go.RowKit
set_option maxRecDepth 4000
set_option linter.unusedVariables false

/-- A number of a product, brought in. -/
def mulQ (p0 p1 p2 p3 q0 q1 q2 q3 : Int) (j : Nat) : Int := cl (prd p0 p1 p2 p3 q0 q1 q2 q3 16 j / 4294967296)
end Go.Proofs.YtcbepibdeokboaaGreat
