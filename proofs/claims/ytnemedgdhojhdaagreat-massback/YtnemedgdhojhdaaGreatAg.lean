/- Package grid: size, common, divisor, Prime. Package grid: divisor. Package grid: divisor over integers, Prime. Package grid: Prime over integers; the law's awake. -/
import Derived.Test.YtnemedgdhojhdaaGreatAe
namespace Go.Proofs.YtnemedgdhojhdaaGreat
open Go.RowKit
set_option maxRecDepth 4000
set_option linter.unusedVariables false

section
variable {ops : Array Oper} {rest : List Oper} {o : Oper} {a : Act} {w : World} {Q : Exit → Act → World → Prop}
end

section
variable {ops : Array Oper} {rest : List Oper} {o : Oper} {a : Act} {w : World} {Q : Exit → Act → World → Prop}
end

end Go.Proofs.YtnemedgdhojhdaaGreat

namespace Go.Proofs.YtnemedgdhojhdaaGreat
open Go.RowKit
set_option maxRecDepth 4000
set_option linter.unusedVariables false

end Go.Proofs.YtnemedgdhojhdaaGreat

namespace Go.Proofs.YtnemedgdhojhdaaGreat
open Go.RowKit
set_option maxRecDepth 4000
set_option linter.unusedVariables false

/-- The divisor behind k numbers. -/
def wd (x y z : Int) : Nat → Nat
  | 0 => 0
  | k + 1 => Nat.gcd (wd x y z k) (nth3 x y z k).natAbs
end Go.Proofs.YtnemedgdhojhdaaGreat

namespace Go.Proofs.YtnemedgdhojhdaaGreat
open Go.RowKit
set_option maxRecDepth 4000
set_option linter.unusedVariables false

/-- A span has a primitive one. -/
def prOk (x y z : Int) : Bool := fit (x.natAbs : Int) && fit (y.natAbs : Int) && fit (z.natAbs : Int) && !decide (wd x y z 3 = 0)
end Go.Proofs.YtnemedgdhojhdaaGreat
