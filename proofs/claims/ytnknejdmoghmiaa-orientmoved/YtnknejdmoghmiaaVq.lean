/- Package vec: Near. -/
import Derived.Test.YtnknejdmoghmiaaVn
namespace Go.Proofs.Ytnknejdmoghmiaa
open Go.RowKit
set_option maxRecDepth 4000
set_option linter.unusedVariables false

theorem cmpI_is_le (x y : Int) : decide (cmpI x y ≤ 0) = decide (x ≤ y) := by
  unfold cmpI
  by_cases h1 : x < y
  · rw [if_pos h1, decide_eq_true (by decide), decide_eq_true (by omega)]
  · rw [if_neg h1]
    by_cases h2 : y < x
    · rw [if_pos h2, decide_eq_false (by decide), decide_eq_false (by omega)]
    · rw [if_neg h2, decide_eq_true (by decide), decide_eq_true (by omega)]
theorem NearSub (x y : Int) (hx : I64 x) (hy : I64 y) : Ans 129 #[V x, V y] (.tuple #[V (x - y), .bool true]) := fun u => by
  have k := SubZ x y hx.fit hy.fit u
  rw [toldZ_fit ((hx.sz.sub hy.sz).fit (by decide))] at k
  exact k
/-- Near? -/
def nearB (ax ay az bx b_y bz_ r : Int) : Bool := decide (0 ≤ r ∧ sqr (ax - bx) (ay - b_y) (az - bz_) ≤ r * r)
end Go.Proofs.Ytnknejdmoghmiaa
