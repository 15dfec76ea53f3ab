/- Package vec: Scale, Move. -/
import Derived.Test.YtnknejdmoghmiaaVf
namespace Go.Proofs.Ytnknejdmoghmiaa
open Go.RowKit
set_option maxRecDepth 4000
set_option linter.unusedVariables false

theorem Gen.three {u : World} {g0 g1 g2 : Nat} {t0 t1 t2 : TypeId} {c0 c1 c2 : Array Value} (h0 : Blk u g0 t0 c0) (h1 : Blk u g1 t1 c1) (h2 : Blk u g2 t2 c2) : Gen u [(g0, t0, c0), (g1, t1, c1), (g2, t2, c2)] u := by
  refine ⟨fun p hp => ?_, Below.refl _ _⟩
  simp only [List.mem_cons, List.not_mem_nil, or_false] at hp
  rcases hp with rfl | rfl | rfl
  · exact h0
  · exact h1
  · exact h2
/-- a, and s times v, brought in. -/
def movI (a v s : Int) : Int := cl ((a * 4294967296 + v * s) / 4294967296)
theorem oneI : I64 4294967296 := ⟨by decide, by decide⟩
end Go.Proofs.Ytnknejdmoghmiaa
