/- Package vec: Dot over integers; the axes; each with the closures of Add, Sub, Scale. -/
import Derived.Test.YtnknejdmoghmiaaVa
namespace Go.Proofs.Ytnknejdmoghmiaa
open Go.RowKit
set_option maxRecDepth 4000
set_option linter.unusedVariables false

theorem v3_one (x y z : Int) : (v3 x y z).all (·.oneCell') = true := by simp [Value.oneCell']
theorem dot3 (x1 x2 x3 y1 y2 y3 : Int) : dotZ (nth3 x1 x2 x3) (nth3 y1 y2 y3) 3 = x1 * y1 + x2 * y2 + x3 * y3 := by
  show 0 + x1 * y1 + x2 * y2 + x3 * y3 = _
  rw [Int.zero_add]
theorem nth3_all {P : Int → Prop} {x y z : Int} (hx : P x) (hy : P y) (hz : P z) (k : Nat) : P (nth3 x y z k) := by
  unfold nth3
  split
  · exact hx
  · split
    · exact hy
    · exact hz
end Go.Proofs.Ytnknejdmoghmiaa
