/- Package vec's laws: VecTriangle. Package vec's laws: VecSame. -/
import Derived.Test.YtnknejdmoghmiaaVr
namespace Go.Proofs.Ytnknejdmoghmiaa
open Go.RowKit
set_option maxRecDepth 4000
set_option linter.unusedVariables false

section
variable {o : Oper} {a : Act} (w : World) (p q : Operand) {x y : Int} {k : IntKind} {ty ty' : TypeId} {b : Bool}
theorem exec_leqZ (hb : decide (x ≤ y) = b) (ho : o.op = .binOp .leq ty p q ty') (hx : a.eval p = .int k x) (hy : a.eval q = .int k y) : (execOp a.eval o).run Try.prog w = .ok (.value (.bool b)) w := by
  subst hb
  unfold execOp
  simp only [ho, hx, hy]
  go_simp
theorem exec_geqZ (hb : decide (y ≤ x) = b) (ho : o.op = .binOp .geq ty p q ty') (hx : a.eval p = .int k x) (hy : a.eval q = .int k y) : (execOp a.eval o).run Try.prog w = .ok (.value (.bool b)) w := by
  subst hb
  unfold execOp
  simp only [ho, hx, hy]
  go_simp
theorem exec_eqlZ (hb : (x == y) = b) (ho : o.op = .binOp .eql ty p q ty') (hx : a.eval p = .int k x) (hy : a.eval q = .int k y) : (execOp a.eval o).run Try.prog w = .ok (.value (.bool b)) w := by
  subst hb
  unfold execOp
  simp only [ho, hx, hy]
  go_simp
end
theorem upR_1 (n : Int) : upR n 1 = cl (upc n 1) := by
  show inI (upc n 1) 32 = _
  exact inI_32 _
theorem upc_nn (n d : Int) : 0 ≤ upc n d := by
  have : 0 ≤ rfl' n d := by unfold rfl' rt; omega
  unfold upc
  split <;> omega
theorem sqr_cl (x y z : Int) : sqr (cl x) (cl y) (cl z) ≤ sqr x y z := by
  have := cl_sq x
  have := cl_sq y
  have := cl_sq z
  unfold sqr
  omega
theorem tri_math (ax ay az bx b_y bz_ : Int) : upR (sqr (cl (ax + bx)) (cl (ay + b_y)) (cl (az + bz_))) 1 ≤ cl (upR (sqr ax ay az) 1 + upR (sqr bx b_y bz_) 1) := by
  rw [upR_1, upR_1, upR_1]
  obtain ⟨a1, -⟩ := upc_spec (sqr_nn ax ay az) (show (0 : Int) < 1 by decide)
  obtain ⟨b1, -⟩ := upc_spec (sqr_nn bx b_y bz_) (show (0 : Int) < 1 by decide)
  have a0 := upc_nn (sqr ax ay az) 1
  have b0 := upc_nn (sqr bx b_y bz_) 1
  rw [Int.mul_one] at a1 b1
  have k := upc_le (sqr_nn (cl (ax + bx)) (cl (ay + b_y)) (cl (az + bz_))) (show 0 ≤ upc (sqr ax ay az) 1 + upc (sqr bx b_y bz_) 1 by omega) (Int.le_trans (sqr_cl _ _ _) (tri_sq a0 b0 a1 b1))
  generalize upc (sqr (cl (ax + bx)) (cl (ay + b_y)) (cl (az + bz_))) 1 = s at *
  generalize upc (sqr ax ay az) 1 = A at *
  generalize upc (sqr bx b_y bz_) 1 = B at *
  clear a1 b1
  unfold cl
  repeat' split
  all_goals omega
theorem len_le (ax ay az : Int) : inI (rfl' (sqr ax ay az) 1) 32 ≤ upR (sqr ax ay az) 1 := by
  rw [inI_32, upR_1]
  exact cl_mono (upc_spec (sqr_nn ax ay az) (show (0 : Int) < 1 by decide)).2.1
theorem upR_I64 (n d : Int) : I64 (upR n d) := by
  show I64 (inI _ 32)
  rw [inI_32]
  exact cl_I64 _
end Go.Proofs.Ytnknejdmoghmiaa

namespace Go.Proofs.Ytnknejdmoghmiaa
open Go.RowKit
set_option maxRecDepth 4000
set_option linter.unusedVariables false

section
variable {o : Oper} {a : Act} {w : World} (p q : Operand) {x y : Int} {k : IntKind} {ty ty' : TypeId} {b : Bool} {ops : Array Oper} {rest : List Oper} {Q : Exit → Act → World → Prop}
theorem exec_gtrZ (hb : decide (y < x) = b) (ho : o.op = .binOp .gtr ty p q ty') (hx : a.eval p = .int k x) (hy : a.eval q = .int k y) : (execOp a.eval o).run Try.prog w = .ok (.value (.bool b)) w := by
  subst hb
  unfold execOp
  simp only [ho, hx, hy]
  go_simp
theorem gtrZ (hb : decide (y < x) = b) (ho : o.op = .binOp .gtr ty p q ty') (hgd : o.guard = none) (hx : a.eval p = .int k x) (hy : a.eval q = .int k y)
    (h : wpList Try.prog ops Q rest (a.put o.dst (.bool b)) w) : wpList Try.prog ops Q (o :: rest) a w := wpList_value hgd (exec_gtrZ p q hb ho hx hy) h
theorem gtrZw (hb : decide (y < x) = b) (ho : o.op = .binOp .gtr ty p q ty') (hgd : Region.wanted o (yielded ops a.tmps) = true) (hx : a.eval p = .int k x) (hy : a.eval q = .int k y)
    (h : wpList Try.prog ops Q rest (a.put o.dst (.bool b)) w) : wpList Try.prog ops Q (o :: rest) a w := wpList_valuew hgd (exec_gtrZ p q hb ho hx hy) h
theorem exec_lssZ (hb : decide (x < y) = b) (ho : o.op = .binOp .lss ty p q ty') (hx : a.eval p = .int k x) (hy : a.eval q = .int k y) : (execOp a.eval o).run Try.prog w = .ok (.value (.bool b)) w := by
  subst hb
  unfold execOp
  simp only [ho, hx, hy]
  go_simp
theorem lssZ (hb : decide (x < y) = b) (ho : o.op = .binOp .lss ty p q ty') (hgd : o.guard = none) (hx : a.eval p = .int k x) (hy : a.eval q = .int k y)
    (h : wpList Try.prog ops Q rest (a.put o.dst (.bool b)) w) : wpList Try.prog ops Q (o :: rest) a w := wpList_value hgd (exec_lssZ p q hb ho hx hy) h
theorem lssZw (hb : decide (x < y) = b) (ho : o.op = .binOp .lss ty p q ty') (hgd : Region.wanted o (yielded ops a.tmps) = true) (hx : a.eval p = .int k x) (hy : a.eval q = .int k y)
    (h : wpList Try.prog ops Q rest (a.put o.dst (.bool b)) w) : wpList Try.prog ops Q (o :: rest) a w := wpList_valuew hgd (exec_lssZ p q hb ho hx hy) h
theorem eqlZ (hb : (x == y) = b) (ho : o.op = .binOp .eql ty p q ty') (hgd : o.guard = none) (hx : a.eval p = .int k x) (hy : a.eval q = .int k y)
    (h : wpList Try.prog ops Q rest (a.put o.dst (.bool b)) w) : wpList Try.prog ops Q (o :: rest) a w := wpList_value hgd (exec_eqlZ w p q hb ho hx hy) h
theorem eqlZw (hb : (x == y) = b) (ho : o.op = .binOp .eql ty p q ty') (hgd : Region.wanted o (yielded ops a.tmps) = true) (hx : a.eval p = .int k x) (hy : a.eval q = .int k y)
    (h : wpList Try.prog ops Q rest (a.put o.dst (.bool b)) w) : wpList Try.prog ops Q (o :: rest) a w := wpList_valuew hgd (exec_eqlZ w p q hb ho hx hy) h
theorem leqZ (hb : decide (x ≤ y) = b) (ho : o.op = .binOp .leq ty p q ty') (hgd : o.guard = none) (hx : a.eval p = .int k x) (hy : a.eval q = .int k y)
    (h : wpList Try.prog ops Q rest (a.put o.dst (.bool b)) w) : wpList Try.prog ops Q (o :: rest) a w := wpList_value hgd (exec_leqZ w p q hb ho hx hy) h
theorem leqZw (hb : decide (x ≤ y) = b) (ho : o.op = .binOp .leq ty p q ty') (hgd : Region.wanted o (yielded ops a.tmps) = true) (hx : a.eval p = .int k x) (hy : a.eval q = .int k y)
    (h : wpList Try.prog ops Q rest (a.put o.dst (.bool b)) w) : wpList Try.prog ops Q (o :: rest) a w := wpList_valuew hgd (exec_leqZ w p q hb ho hx hy) h
theorem geqZ (hb : decide (y ≤ x) = b) (ho : o.op = .binOp .geq ty p q ty') (hgd : o.guard = none) (hx : a.eval p = .int k x) (hy : a.eval q = .int k y)
    (h : wpList Try.prog ops Q rest (a.put o.dst (.bool b)) w) : wpList Try.prog ops Q (o :: rest) a w := wpList_value hgd (exec_geqZ w p q hb ho hx hy) h
theorem geqZw (hb : decide (y ≤ x) = b) (ho : o.op = .binOp .geq ty p q ty') (hgd : Region.wanted o (yielded ops a.tmps) = true) (hx : a.eval p = .int k x) (hy : a.eval q = .int k y)
    (h : wpList Try.prog ops Q rest (a.put o.dst (.bool b)) w) : wpList Try.prog ops Q (o :: rest) a w := wpList_valuew hgd (exec_geqZ w p q hb ho hx hy) h
end
theorem mulD_1 {a : Int} (h : I64 a) : mulD a 4294967296 = a := by
  unfold mulD
  rw [Int.mul_ediv_cancel _ (by decide)]
  exact cl_self h
theorem movI_0 {a : Int} (v : Int) (h : I64 a) : movI a v 0 = a := by
  unfold movI
  rw [Int.mul_zero, Int.add_zero, Int.mul_ediv_cancel _ (by decide)]
  exact cl_self h
theorem movI_v {a : Int} (s : Int) (h : I64 a) : movI a 0 s = a := by
  unfold movI
  rw [Int.zero_mul, Int.add_zero, Int.mul_ediv_cancel _ (by decide)]
  exact cl_self h
theorem cl_neg {a : Int} (h : I64 a) (h0 : -9223372036854775808 < a) : cl (0 - a) = -a := by
  rw [Int.zero_sub]
  exact cl_self ⟨by have := h.2; omega, by omega⟩
theorem sqr_neg (x y z : Int) : sqr (-x) (-y) (-z) = sqr x y z := by
  unfold sqr
  rw [Int.neg_mul_neg, Int.neg_mul_neg, Int.neg_mul_neg]
theorem i0 : I64 0 := ⟨by decide, by decide⟩
end Go.Proofs.Ytnknejdmoghmiaa
