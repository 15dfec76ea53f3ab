/- Package vec: Cross. -/
import Derived.Test.YtnknejdmoghmiaaVg
namespace Go.Proofs.Ytnknejdmoghmiaa
open Go.RowKit
set_option maxRecDepth 4000
set_option linter.unusedVariables false

structure GenZ (w0 : World) (l : List (Nat × TypeId × Array Value)) (B : Nat) (w : World) : Prop where
  e : Gen w0 l w
  s : B ≤ w.heap.size
theorem GenZ.keep {w0 w w' : World} {l : List (Nat × TypeId × Array Value)} {B : Nat} (d : GenZ w0 l B w) (hb : Below w.heap.size w w') : GenZ w0 l B w' := ⟨d.e.keep hb, Nat.le_trans d.s hb.size⟩
theorem Gen.third {u w0 : World} {g0 g1 g2 : Nat} {t0 t1 t2 : TypeId} {c0 c1 c2 : Array Value} (h0 : Blk u g0 t0 c0) (h1 : Blk u g1 t1 c1) (h2 : Blk u g2 t2 c2) (o : Below w0.heap.size w0 u) : Gen w0 [(g0, t0, c0), (g1, t1, c1), (g2, t2, c2)] u := by
  refine ⟨fun p hp => ?_, o⟩
  simp only [List.mem_cons, List.not_mem_nil, or_false] at hp
  rcases hp with rfl | rfl | rfl
  · exact h0
  · exact h1
  · exact h2
theorem iVec3 : (Try.prog.info? 24).map (·.size) = some 3 := by kernel_rfl

end Go.Proofs.Ytnknejdmoghmiaa
