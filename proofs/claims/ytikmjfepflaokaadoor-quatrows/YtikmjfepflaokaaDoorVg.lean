/- Package vec: Scale, Move. -/
import Derived.Test.YtikmjfepflaokaaDoorVf
namespace Go.Proofs.YtikmjfepflaokaaDoor
open Go.RowKit
set_option maxRecDepth 4000
set_option linter.unusedVariables false

theorem exec_bs2 {o : Oper} {a : Act} (w : World) (p q : Operand) {x1 y1 x2 y2 : Nat} (ho : o.op = .buildSlice 133 2 #[(0, p), (1, q)]) (hp : a.eval p = .agg (c16 x1 y1)) (hq : a.eval q = .agg (c16 x2 y2)) :
    (execOp a.eval o).run Tryd.prog w = .ok (.value (.slice (some ⟨w.heap.size, 0, none⟩) 2 2)) (w.alloc (.cells (prs [(x1, y1), (x2, y2)]).toArray 110)) := by
  unfold execOp
  have e : (#[(0, p), (1, q)].map fun (i, x) => (i, a.eval x)) = #[(0, .agg (c16 x1 y1)), (1, .agg (c16 x2 y2))] := by simp [hp, hq]
  simp only [ho, Sem.run_bind, e, bs2, Result.andThen_ok, Sem.run_pure]
theorem Gen.three {u : World} {g0 g1 g2 : Nat} {t0 t1 t2 : TypeId} {c0 c1 c2 : Array Value} (h0 : Blk u g0 t0 c0) (h1 : Blk u g1 t1 c1) (h2 : Blk u g2 t2 c2) : Gen u [(g0, t0, c0), (g1, t1, c1), (g2, t2, c2)] u := by
  refine ⟨fun p hp => ?_, Below.refl _ _⟩
  simp only [List.mem_cons, List.not_mem_nil, or_false] at hp
  rcases hp with rfl | rfl | rfl
  · exact h0
  · exact h1
  · exact h2
/-- Two products. -/
theorem TwoProd (x1 y1 x2 y2 : Int) (h1 : Sz 70 x1) (h2 : Sz 70 y1) (h3 : Sz 70 x2) (h4 : Sz 70 y2) (u : World) (p : Nat) (hB : Blk u p 110 (prs [(enc x1, enc y1), (enc x2, enc y2)]).toArray) :
    Calls Tryd.prog 92 #[.slice (some ⟨p, 0, none⟩) 2 2] u fun e w' => e = .returned (.int .i64 (cl ((x1 * y1 + x2 * y2) / 4294967296))) ∧ Below u.heap.size u w' := by
  have k := VBroughtZ 2 p (nth3 x1 x2 0) (nth3 y1 y2 0) u (by decide) hB.lt (fun k hk => ?_) (fun k hk => ?_) (fun k hk => ?_)
  · have e : dotZ (nth3 x1 x2 0) (nth3 y1 y2 0) 2 = x1 * y1 + x2 * y2 := by
      show 0 + x1 * y1 + x2 * y2 = _
      rw [Int.zero_add]
    rw [e] at k
    exact k
  · rcases (show k = 0 ∨ k = 1 by omega) with rfl | rfl
    · exact h1
    · exact h3
  · rcases (show k = 0 ∨ k = 1 by omega) with rfl | rfl
    · exact h2
    · exact h4
  · refine prs_range hB ?_
    rcases (show k = 0 ∨ k = 1 by omega) with rfl | rfl <;> rfl

/-- a, and s times v, brought in. -/
def movI (a v s : Int) : Int := cl ((a * 4294967296 + v * s) / 4294967296)
theorem oneI : I64 4294967296 := ⟨by decide, by decide⟩
theorem MoveTwo (a v s : Int) (h1 : I64 a) (h2 : I64 v) (h3 : I64 s) (u : World) (p : Nat) (hB : Blk u p 110 (prs [(enc a, enc 4294967296), (enc v, enc s)]).toArray) :
    Calls Tryd.prog 92 #[.slice (some ⟨p, 0, none⟩) 2 2] u fun e w' => e = .returned (.int .i64 (movI a v s)) ∧ Below u.heap.size u w' :=
  TwoProd a 4294967296 v s (h1.sz.mono (by decide)) (oneI.sz.mono (by decide)) (h2.sz.mono (by decide)) (h3.sz.mono (by decide)) u p hB
end Go.Proofs.YtikmjfepflaokaaDoor
