/- Package shape's laws: awake; reaches in numbers; ShapeHalves. -/
import Derived.Test.YtnemedgdhojhdaaGreatIe
namespace Go.Proofs.YtnemedgdhojhdaaGreat
open Go.RowKit
set_option maxRecDepth 4000
set_option linter.unusedVariables false

def p000 : Nat → Pt := fun _ => (0, 0, 0)
end Go.Proofs.YtnemedgdhojhdaaGreat
