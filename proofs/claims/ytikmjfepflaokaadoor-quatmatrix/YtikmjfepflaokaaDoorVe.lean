/- Package vec: Dot over integers; the axes; each with the closures of Add, Sub, Scale. -/
import Derived.Test.YtikmjfepflaokaaDoorVa
namespace Go.Proofs.YtikmjfepflaokaaDoor
open Go.RowKit
set_option maxRecDepth 4000
set_option linter.unusedVariables false

theorem v3_one (x y z : Int) : (v3 x y z).all (·.oneCell') = true := by simp [Value.oneCell']
theorem dot3 (x1 x2 x3 y1 y2 y3 : Int) : dotZ (nth3 x1 x2 x3) (nth3 y1 y2 y3) 3 = x1 * y1 + x2 * y2 + x3 * y3 := by
  show 0 + x1 * y1 + x2 * y2 + x3 * y3 = _
  rw [Int.zero_add]
theorem nth3_all {P : Int → Prop} {x y z : Int} (hx : P x) (hy : P y) (hz : P z) (k : Nat) : P (nth3 x y z k) := by
  unfold nth3
  split
  · exact hx
  · split
    · exact hy
    · exact hz
theorem DotZ (ax ay az bx b_y bz_ : Int) (h1 : I64 ax) (h2 : I64 ay) (h3 : I64 az) (h4 : I64 bx) (h5 : I64 b_y) (h6 : I64 bz_) :
    Ans 56 #[.agg (v3 ax ay az), .agg (v3 bx b_y bz_)] (.int .i64 (cl ((ax * bx + ay * b_y + az * bz_) / 4294967296))) := by
  intro w
  refine dot_core ax ay az bx b_y bz_ _ (enc ax) (enc ay) (enc az) (enc bx) (enc b_y) (enc bz_) w (TimesZ ax bx h1 h4) (TimesZ ay b_y h2 h5) (TimesZ az bz_ h3 h6) (fun u p hB => ?_)
  have k := VBroughtZ 3 p (nth3 ax ay az) (nth3 bx b_y bz_) u (by decide) hB.lt (fun k _ => nth3_all (P := Sz 70) (h1.sz.mono (by decide)) (h2.sz.mono (by decide)) (h3.sz.mono (by decide)) k) (fun k _ => nth3_all (P := Sz 70) (h4.sz.mono (by decide)) (h5.sz.mono (by decide)) (h6.sz.mono (by decide)) k) (fun k hk => ?_)
  · rw [dot3] at k
    exact k
  · refine prs_range hB ?_
    rcases (show k = 0 ∨ k = 1 ∨ k = 2 by omega) with rfl | rfl | rfl <;> rfl

end Go.Proofs.YtikmjfepflaokaaDoor
