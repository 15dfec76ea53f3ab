/- Package vec: Add, Sub, Scale. -/
import Derived.Test.YtnknejdmoghmiaaVe
namespace Go.Proofs.Ytnknejdmoghmiaa
open Go.RowKit
set_option maxRecDepth 4000
set_option linter.unusedVariables false

theorem exec_loadG {o : Oper} {a : Act} {w w0 : World} {l : List (Nat × TypeId × Array Value)} (d : Gen w0 l w) {ty : TypeId} {k g : Nat} {t : TypeId} {cs : Array Value} (hr : Rw ty k) (x : Operand) (ho : o.op = .load ty x) (hx : a.eval x = ptr g) (hm : (g, t, cs) ∈ l) (hk : cs.size = k) :
    (execOp a.eval o).run Try.prog w = .ok (.value (.agg cs)) w := by
  obtain ⟨⟨dd, hu, hd⟩, hi⟩ := hr
  unfold execOp
  simp only [ho, hx, Instr.loadAt, Instr.sureAddr, Sem.run_bind, Sem.run_pure, Result.andThen_ok, run_loadVar_row w g t ty cs (0, 0) dd (d.blk hm) hu (by cases dd <;> first | rfl | cases hd) (hk ▸ hi)]
theorem Gen.two {u : World} {g0 g1 : Nat} {t0 t1 : TypeId} {c0 c1 : Array Value} (h0 : Blk u g0 t0 c0) (h1 : Blk u g1 t1 c1) : Gen u [(g0, t0, c0), (g1, t1, c1)] u := by
  refine ⟨fun p hp => ?_, Below.refl _ _⟩
  simp only [List.mem_cons, List.not_mem_nil, or_false] at hp
  rcases hp with rfl | rfl
  · exact h0
  · exact h1

end Go.Proofs.Ytnknejdmoghmiaa
