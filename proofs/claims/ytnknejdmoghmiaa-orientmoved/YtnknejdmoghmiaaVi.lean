/- Package vec: the closure of Cross; Cross over integers. -/
import Derived.Test.YtnknejdmoghmiaaVh
namespace Go.Proofs.Ytnknejdmoghmiaa
open Go.RowKit
set_option maxRecDepth 4000
set_option linter.unusedVariables false

theorem Gen.four {u : World} {g0 g1 g2 g3 : Nat} {t0 t1 t2 t3 : TypeId} {c0 c1 c2 c3 : Array Value} (h0 : Blk u g0 t0 c0) (h1 : Blk u g1 t1 c1) (h2 : Blk u g2 t2 c2) (h3 : Blk u g3 t3 c3) : Gen u [(g0, t0, c0), (g1, t1, c1), (g2, t2, c2), (g3, t3, c3)] u := by
  refine ⟨fun p hp => ?_, Below.refl _ _⟩
  simp only [List.mem_cons, List.not_mem_nil, or_false] at hp
  rcases hp with rfl | rfl | rfl | rfl
  · exact h0
  · exact h1
  · exact h2
  · exact h3

/-- p q less r s, brought in. -/
def crI (p q r s : Int) : Int := cl ((p * q + -r * s) / 4294967296)
end Go.Proofs.Ytnknejdmoghmiaa
