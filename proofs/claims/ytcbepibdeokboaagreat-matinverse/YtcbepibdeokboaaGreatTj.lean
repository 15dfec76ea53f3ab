/- Package quat: Matrix. Package quat: Spin, Back. -/
import Derived.Test.YtcbepibdeokboaaGreatTh
namespace Go.Proofs.YtcbepibdeokboaaGreat
open Go.RowKit
set_option maxRecDepth 4000
set_option linter.unusedVariables false

/-- The cells of a matrix. -/
abbrev m9 (f : Nat → Int) : Array Value := #[.int .i64 (f 0), .int .i64 (f 1), .int .i64 (f 2), .int .i64 (f 3), .int .i64 (f 4), .int .i64 (f 5), .int .i64 (f 6), .int .i64 (f 7), .int .i64 (f 8)]
abbrev zM : Array Value := #[.int .i64 0, .int .i64 0, .int .i64 0, .int .i64 0, .int .i64 0, .int .i64 0, .int .i64 0, .int .i64 0, .int .i64 0]
theorem m9_one (f : Nat → Int) : (m9 f).all (·.oneCell') = true := by simp [Value.oneCell']
theorem rMat : Rw 27 9 := ⟨⟨_, Tryz.underlying27, rfl⟩, by kernel_rfl⟩
/-- The first k rows of X, the others zero. -/
def rows9 (X : Nat → Int) (k j : Nat) : Int := if j < 3 * k then X j else 0
theorem m9_put (X : Nat → Int) (k : Nat) (hk : k < 3) : putC (m9 (rows9 X k)) (k * 3) (v3 (X (k * 3)) (X (k * 3 + 1)) (X (k * 3 + 2))).toList = m9 (rows9 X (k + 1)) := by
  rcases (show k = 0 ∨ k = 1 ∨ k = 2 by omega) with rfl | rfl | rfl <;> rfl
theorem m9_there {w : World} {g : Nat} {t : TypeId} {f : Nat → Int} (h : Blk w g t (m9 f)) {k : Nat} (hk : k < 3) : w.there g (k * 3) 3 := by
  intro j hj
  refine ⟨?_, h.frozen _⟩
  have hs : (m9 f).size = 9 := rfl
  rw [h.cell, Array.getElem?_eq_getElem (by rw [hs]; omega)]
  rfl
theorem Gen.setM {w0 w : World} {l : List (Nat × TypeId × Array Value)} {g k : Nat} {t : TypeId} {X : Nat → Int} (d : Gen w0 ((g, t, m9 (rows9 X k)) :: l) w) (hk : k < 3) (hg : w0.heap.size ≤ g) (hl : ∀ p ∈ l, p.1 ≠ g) : Gen w0 ((g, t, m9 (rows9 X (k + 1))) :: l) (w.setCells g (k * 3) (v3 (X (k * 3)) (X (k * 3 + 1)) (X (k * 3 + 2))).toList) := by
  refine ⟨fun p hp => ?_, below_cells hg _ _ _ d.o⟩
  rcases List.mem_cons.1 hp with e | hp
  · subst e
    have h := Blk.putC (v3 (X (k * 3)) (X (k * 3 + 1)) (X (k * 3 + 2))).toList (k * 3) _ _ (d.at_ _ List.mem_cons_self)
    rwa [m9_put X k hk] at h
  · exact Blk.putOther (hl p hp) _ _ _ (d.at_ p (List.mem_cons_of_mem _ hp))
theorem arrThree : Tryz.prog.underlying 25 = some (.array (Tryz.prog.arrayLen 25) (Tryz.prog.elem 25)) := by kernel_rfl
theorem lenThree : Tryz.prog.arrayLen 25 = 3 := by kernel_rfl
theorem elThree : (Tryz.prog.info? (Tryz.prog.elem 25)).map (·.size) = some 3 := by kernel_rfl
theorem exec_ix3 {o : Oper} {a : Act} (w : World) {g k : Nat} (x y : Operand) (hk : k < 3) (ho : o.op = .indexAddr 25 x y) (hx : a.eval x = .pointer (some ⟨g, 0, none⟩)) (hy : a.eval y = .int .i64 k) : (execOp a.eval o).run Tryz.prog w = .ok (.value (.pointer (some ⟨g, k * 3, none⟩))) w := by
  unfold execOp
  simp only [ho, hx, hy, Sem.run_bind, run_indexAt_array w _ _ _ _ arrThree, lenThree]
  rw [if_pos ⟨by omega, by omega⟩, run_sizeOf elThree]
  simp only [Result.andThen_ok, Sem.run_pure, Addr.add_mid, Int.toNat_natCast, Nat.zero_add]
theorem exec_mulI {o : Oper} {a : Act} (w : World) (p q : Operand) {x y z : Int} (hz : wrap64 (x * y) = z) (ho : o.op = .binOp .mul 3 p q 3) (hx : a.eval p = .int .i64 x) (hy : a.eval q = .int .i64 y) : (execOp a.eval o).run Tryz.prog w = .ok (.value (.int .i64 z)) w := by
  subst hz
  unfold execOp
  simp only [ho, hx, hy]
  go_simp
  unfold wrap64
  exact IntKind.wrap_i64 _
theorem exec_addI {o : Oper} {a : Act} (w : World) (p q : Operand) {x y z : Int} (hz : wrap64 (x + y) = z) (ho : o.op = .binOp .add 3 p q 3) (hx : a.eval p = .int .i64 x) (hy : a.eval q = .int .i64 y) : (execOp a.eval o).run Tryz.prog w = .ok (.value (.int .i64 z)) w := by
  subst hz
  unfold execOp
  simp only [ho, hx, hy]
  go_simp
  unfold wrap64
  exact IntKind.wrap_i64 _
/-- A number of the matrix. -/
def matQ (a b c d : Int) (j : Nat) : Int := quo (trn a b c d 24 j) (sq4 a b c d)
end Go.Proofs.YtcbepibdeokboaaGreat

namespace Go.Proofs.YtcbepibdeokboaaGreat
open Go.RowKit
set_option maxRecDepth 4000
set_option linter.unusedVariables false

/-- A number that is turned. -/
def spn (a p t : Int) : Int := cl ((a * 36893488147419103232 + p * t) / 36893488147419103232)
end Go.Proofs.YtcbepibdeokboaaGreat
