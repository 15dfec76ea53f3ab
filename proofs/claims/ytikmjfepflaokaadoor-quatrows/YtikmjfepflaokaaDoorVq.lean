/- Package vec: Near. -/
import Derived.Test.YtikmjfepflaokaaDoorVn
namespace Go.Proofs.YtikmjfepflaokaaDoor
open Go.RowKit
set_option maxRecDepth 4000
set_option linter.unusedVariables false

theorem cmpI_is_le (x y : Int) : decide (cmpI x y ≤ 0) = decide (x ≤ y) := by
  unfold cmpI
  by_cases h1 : x < y
  · rw [if_pos h1, decide_eq_true (by decide), decide_eq_true (by omega)]
  · rw [if_neg h1]
    by_cases h2 : y < x
    · rw [if_pos h2, decide_eq_false (by decide), decide_eq_false (by omega)]
    · rw [if_neg h2, decide_eq_true (by decide), decide_eq_true (by omega)]
theorem NearSub (x y : Int) (hx : I64 x) (hy : I64 y) : Ans 49 #[V x, V y] (.tuple #[V (x - y), .bool true]) := fun u => by
  have k := SubZ x y hx.fit hy.fit u
  rw [toldZ_fit ((hx.sz.sub hy.sz).fit (by decide))] at k
  exact k
theorem NearSum (x y z : Int) (hx : Sz 70 x) (hy : Sz 70 y) (hz : Sz 70 z) (u : World) (g : Nat) (hB : Blk u g 110 (prs [(enc x, enc x), (enc y, enc y), (enc z, enc z)]).toArray) :
    Calls Tryd.prog 117 #[.slice (some ⟨g, 0, none⟩) 3 3] u fun e w' => e = .returned (V (sqr x y z)) ∧ Below u.heap.size u w' := by
  have k := SumZ 3 g (nth3 x y z) (nth3 x y z) u (by decide) hB.lt (fun k _ => nth3_all (P := Sz 70) hx hy hz k) (fun k _ => nth3_all (P := Sz 70) hx hy hz k) (fun k hk => ?_)
  · rw [dot3] at k
    exact k
  · refine prs_range hB ?_
    rcases (show k = 0 ∨ k = 1 ∨ k = 2 by omega) with rfl | rfl | rfl <;> rfl
/-- Near? -/
def nearB (ax ay az bx b_y bz_ r : Int) : Bool := decide (0 ≤ r ∧ sqr (ax - bx) (ay - b_y) (az - bz_) ≤ r * r)
end Go.Proofs.YtikmjfepflaokaaDoor
