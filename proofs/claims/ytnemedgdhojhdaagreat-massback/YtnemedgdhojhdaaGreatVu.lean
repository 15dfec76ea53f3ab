/- Package vec: Near. Package vec: what holds of roots, lengths and units, over integers. Package vec's laws: awake. Package vec's laws: VecTriangle. Package vec's laws: VecSame. -/
import Derived.Test.YtnemedgdhojhdaaGreatVn
namespace Go.Proofs.YtnemedgdhojhdaaGreat
open Go.RowKit
set_option maxRecDepth 4000
set_option linter.unusedVariables false

/-- Near? -/
def nearB (ax ay az bx b_y bz_ r : Int) : Bool := decide (0 ≤ r ∧ sqr (ax - bx) (ay - b_y) (az - bz_) ≤ r * r)
end Go.Proofs.YtnemedgdhojhdaaGreat

namespace Go.Proofs.YtnemedgdhojhdaaGreat
open Go.RowKit
set_option maxRecDepth 4000
set_option linter.unusedVariables false

theorem sq0 (x : Int) : 0 ≤ x * x := by
  rcases Int.le_total 0 x with h | h
  · exact Int.mul_nonneg h h
  · exact Int.mul_nonneg_of_nonpos_of_nonpos h h
/-- Rounded up. -/
def upc (n d : Int) : Int := if rex n d then rfl' n d else rfl' n d + 1
/-- What is known of each number of a unit. -/
structure PartU (x u S : Int) : Prop where
  lo : u * u * S - 2 * (if u < 0 then -u else u) * S ≤ x * x * 18446744073709551616
  hi : x * x * 18446744073709551616 ≤ u * u * S + 2 * (if u < 0 then -u else u) * S + S
  sg : (u < 0) ↔ (x < 0)
  l : -4294967296 ≤ u
  r : u ≤ 4294967296
end Go.Proofs.YtnemedgdhojhdaaGreat

namespace Go.Proofs.YtnemedgdhojhdaaGreat
open Go.RowKit
set_option maxRecDepth 4000
set_option linter.unusedVariables false

end Go.Proofs.YtnemedgdhojhdaaGreat

namespace Go.Proofs.YtnemedgdhojhdaaGreat
open Go.RowKit
set_option maxRecDepth 4000
set_option linter.unusedVariables false

section
variable {o : Oper} {a : Act} (w : World) (p q : Operand) {x y : Int} {k : IntKind} {ty ty' : TypeId} {b : Bool}
theorem exec_leqZ (hb : decide (x ≤ y) = b) (ho : o.op = .binOp .leq ty p q ty') (hx : a.eval p = .int k x) (hy : a.eval q = .int k y) : (execOp a.eval o).run Tryz.prog w = .ok (.value (.bool b)) w := by
  subst hb
  unfold execOp
  simp only [ho, hx, hy]
  go_simp
end
end Go.Proofs.YtnemedgdhojhdaaGreat

namespace Go.Proofs.YtnemedgdhojhdaaGreat
open Go.RowKit
set_option maxRecDepth 4000
set_option linter.unusedVariables false

section
variable {o : Oper} {a : Act} {w : World} (p q : Operand) {x y : Int} {k : IntKind} {ty ty' : TypeId} {b : Bool} {ops : Array Oper} {rest : List Oper} {Q : Exit → Act → World → Prop}
theorem exec_lssZ (hb : decide (x < y) = b) (ho : o.op = .binOp .lss ty p q ty') (hx : a.eval p = .int k x) (hy : a.eval q = .int k y) : (execOp a.eval o).run Tryz.prog w = .ok (.value (.bool b)) w := by
  subst hb
  unfold execOp
  simp only [ho, hx, hy]
  go_simp
theorem lssZ (hb : decide (x < y) = b) (ho : o.op = .binOp .lss ty p q ty') (hgd : o.guard = none) (hx : a.eval p = .int k x) (hy : a.eval q = .int k y)
    (h : wpList Tryz.prog ops Q rest (a.put o.dst (.bool b)) w) : wpList Tryz.prog ops Q (o :: rest) a w := wpList_value hgd (exec_lssZ p q hb ho hx hy) h
theorem leqZ (hb : decide (x ≤ y) = b) (ho : o.op = .binOp .leq ty p q ty') (hgd : o.guard = none) (hx : a.eval p = .int k x) (hy : a.eval q = .int k y)
    (h : wpList Tryz.prog ops Q rest (a.put o.dst (.bool b)) w) : wpList Tryz.prog ops Q (o :: rest) a w := wpList_value hgd (exec_leqZ w p q hb ho hx hy) h
end
theorem i0 : I64 0 := ⟨by decide, by decide⟩
end Go.Proofs.YtnemedgdhojhdaaGreat
