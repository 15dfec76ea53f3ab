/- Package vec: Near. Package vec: what holds of roots, lengths and units, over integers. Package vec's laws: awake. Package vec's laws: VecTriangle. Package vec's laws: VecSame. -/
import Derived.Test.YtnemedgdhojhdaaGreatVn
namespace Go.Proofs.YtnemedgdhojhdaaGreat
open Go.RowKit
set_option maxRecDepth 4000
set_option linter.unusedVariables false

/-- Near? -/
def nearB (ax ay az bx b_y bz_ r : Int) : Bool := decide (0 ≤ r ∧ sqr (ax - bx) (ay - b_y) (az - bz_) ≤ r * r)
end Go.Proofs.YtnemedgdhojhdaaGreat

namespace Go.Proofs.YtnemedgdhojhdaaGreat
open Go.RowKit
set_option maxRecDepth 4000
set_option linter.unusedVariables false

theorem le_of_sq {x n : Int} (hn : 0 ≤ n) (h : x * x ≤ n * n) : x ≤ n := by
  rcases Int.lt_or_le n x with g | g
  · have h1 : n * n < x * x := by
      have h1 : n * n ≤ n * x := Int.mul_le_mul_of_nonneg_left (by omega) hn
      have h2 : n * x < x * x := Int.mul_lt_mul_of_pos_right g (by omega)
      omega
    omega
  · exact g
theorem lt_of_sq {x n : Int} (hn : 0 ≤ n) (h : x * x < n * n) : x < n := by
  rcases Int.lt_or_le x n with g | g
  · exact g
  · have := Int.mul_le_mul g g hn (by omega)
    omega
/-- The root of n by d, rounded down. -/
theorem rfl_spec {n d : Int} (hn : 0 ≤ n) (hd : 0 < d) : rfl' n d * rfl' n d * d ≤ n ∧ n < (rfl' n d + 1) * (rfl' n d + 1) * d ∧ 0 ≤ rfl' n d := by
  unfold rfl'
  have e : n.fdiv d = n / d := Int.fdiv_eq_ediv_of_nonneg n (by omega)
  rw [e]
  obtain ⟨h1, h2, h3⟩ := isq_sq (n / d) (Int.ediv_nonneg hn (by omega))
  generalize rt (n / d) = r at *
  have k1 : n / d * d ≤ n := Int.ediv_mul_le n (by omega)
  have k2 : n < (n / d + 1) * d := Int.lt_ediv_add_one_mul_self n hd
  refine ⟨?_, ?_, h3⟩
  · exact Int.le_trans (Int.mul_le_mul_of_nonneg_right h1 (by omega)) k1
  · exact Int.lt_of_lt_of_le k2 (Int.mul_le_mul_of_nonneg_right (by omega) (by omega))
/-- Rounded up. -/
def upc (n d : Int) : Int := if rex n d then rfl' n d else rfl' n d + 1
theorem upc_spec {n d : Int} (hn : 0 ≤ n) (hd : 0 < d) : n ≤ upc n d * upc n d * d ∧ rfl' n d ≤ upc n d ∧ upc n d ≤ rfl' n d + 1 ∧ (0 < n → 0 < upc n d ∧ (upc n d - 1) * (upc n d - 1) * d < n) ∧ (upc n d = rfl' n d ↔ rfl' n d * rfl' n d * d = n) := by
  obtain ⟨h1, h2, h3⟩ := rfl_spec hn hd
  unfold upc rex
  generalize rfl' n d = r at *
  by_cases he : r * r * d = n
  · rw [if_pos (by simpa using he)]
    refine ⟨by omega, by omega, by omega, fun h0 => ?_, by simp [he]⟩
    have hr : 0 < r := by
      rcases Int.lt_or_le 0 r with g | g
      · exact g
      · have : r = 0 := by omega
        subst this
        omega
    refine ⟨hr, ?_⟩
    have : (r - 1) * (r - 1) < r * r := by grind
    exact he ▸ Int.mul_lt_mul_of_pos_right this hd
  · rw [if_neg (by simpa using he)]
    refine ⟨by omega, by omega, by omega, fun h0 => ⟨by omega, ?_⟩, ⟨fun h => by omega, fun h => absurd h he⟩⟩
    rw [show r + 1 - 1 = r by omega]
    omega
theorem upc_le {n m : Int} (hn : 0 ≤ n) (hm : 0 ≤ m) (h : n ≤ m * m) : upc n 1 ≤ m := by
  obtain ⟨h1, h2, h3⟩ := rfl_spec hn (show (0 : Int) < 1 by decide)
  unfold upc rex
  generalize rfl' n 1 = r at *
  by_cases he : r * r * 1 = n
  · rw [if_pos (by simpa using he)]
    exact le_of_sq hm (by omega)
  · rw [if_neg (by simpa using he)]
    have := lt_of_sq (x := r) hm (by omega)
    omega
/-- What is known of each number of a unit. -/
structure PartU (x u S : Int) : Prop where
  lo : u * u * S - 2 * (if u < 0 then -u else u) * S ≤ x * x * 18446744073709551616
  hi : x * x * 18446744073709551616 ≤ u * u * S + 2 * (if u < 0 then -u else u) * S + S
  sg : (u < 0) ↔ (x < 0)
  l : -4294967296 ≤ u
  r : u ≤ 4294967296
end Go.Proofs.YtnemedgdhojhdaaGreat

namespace Go.Proofs.YtnemedgdhojhdaaGreat
open Go.RowKit
set_option maxRecDepth 4000
set_option linter.unusedVariables false

end Go.Proofs.YtnemedgdhojhdaaGreat

namespace Go.Proofs.YtnemedgdhojhdaaGreat
open Go.RowKit
set_option maxRecDepth 4000
set_option linter.unusedVariables false

section
variable {o : Oper} {a : Act} (w : World) (p q : Operand) {x y : Int} {k : IntKind} {ty ty' : TypeId} {b : Bool}
theorem exec_leqZ (hb : decide (x ≤ y) = b) (ho : o.op = .binOp .leq ty p q ty') (hx : a.eval p = .int k x) (hy : a.eval q = .int k y) : (execOp a.eval o).run Tryz.prog w = .ok (.value (.bool b)) w := by
  subst hb
  unfold execOp
  simp only [ho, hx, hy]
  go_simp
end
theorem upR_1 (n : Int) : upR n 1 = cl (upc n 1) := by
  show inI (upc n 1) 32 = _
  exact inI_32 _
theorem upc_nn (n d : Int) : 0 ≤ upc n d := by
  have : 0 ≤ rfl' n d := by unfold rfl' rt; omega
  unfold upc
  split <;> omega
theorem upR_I64 (n d : Int) : I64 (upR n d) := by
  show I64 (inI _ 32)
  rw [inI_32]
  exact cl_I64 _
end Go.Proofs.YtnemedgdhojhdaaGreat

namespace Go.Proofs.YtnemedgdhojhdaaGreat
open Go.RowKit
set_option maxRecDepth 4000
set_option linter.unusedVariables false

section
variable {o : Oper} {a : Act} {w : World} (p q : Operand) {x y : Int} {k : IntKind} {ty ty' : TypeId} {b : Bool} {ops : Array Oper} {rest : List Oper} {Q : Exit → Act → World → Prop}
theorem exec_lssZ (hb : decide (x < y) = b) (ho : o.op = .binOp .lss ty p q ty') (hx : a.eval p = .int k x) (hy : a.eval q = .int k y) : (execOp a.eval o).run Tryz.prog w = .ok (.value (.bool b)) w := by
  subst hb
  unfold execOp
  simp only [ho, hx, hy]
  go_simp
theorem lssZ (hb : decide (x < y) = b) (ho : o.op = .binOp .lss ty p q ty') (hgd : o.guard = none) (hx : a.eval p = .int k x) (hy : a.eval q = .int k y)
    (h : wpList Tryz.prog ops Q rest (a.put o.dst (.bool b)) w) : wpList Tryz.prog ops Q (o :: rest) a w := wpList_value hgd (exec_lssZ p q hb ho hx hy) h
theorem leqZ (hb : decide (x ≤ y) = b) (ho : o.op = .binOp .leq ty p q ty') (hgd : o.guard = none) (hx : a.eval p = .int k x) (hy : a.eval q = .int k y)
    (h : wpList Tryz.prog ops Q rest (a.put o.dst (.bool b)) w) : wpList Tryz.prog ops Q (o :: rest) a w := wpList_value hgd (exec_leqZ w p q hb ho hx hy) h
end
theorem i0 : I64 0 := ⟨by decide, by decide⟩
end Go.Proofs.YtnemedgdhojhdaaGreat
