/- Package grid: size, common, divisor, Prime. Package grid: divisor. Package grid: divisor over integers, Prime. Package grid: Prime over integers; the law's awake. -/
import Derived.Test.YtnemedgdhojhdaaGreatAe
namespace Go.Proofs.YtnemedgdhojhdaaGreat
open Go.RowKit
set_option maxRecDepth 4000
set_option linter.unusedVariables false

section
variable {ops : Array Oper} {rest : List Oper} {o : Oper} {a : Act} {w : World} {Q : Exit → Act → World → Prop}
theorem neqWd {n m : Nat} {b : Bool} (hb : same n m = b) (x y : Operand) {ty' : TypeId} (ho : o.op = .binOp .neq 75 x y ty') (hgd : o.guard = none) (hx : a.eval x = .agg (cells8 n)) (hy : a.eval y = .agg (cells8 m))
    (h : wpList Tryz.prog ops Q rest (a.put o.dst (.bool (!b))) w) : wpList Tryz.prog ops Q (o :: rest) a w := wpList_value hgd (exec_neq_wide_is hb w x y ho hx hy) h
end

theorem DivN6 (p q : Nat) (hp : (p : Int) < (H : Int)) (hq : (q : Int) < (H : Int)) (h0 : q ≠ 0) : Ans 97 #[V (p : Int), V (q : Int)] (.tuple #[V ((p / q : Nat) : Int), V ((p % q : Nat) : Int), .bool true]) := by
  intro w
  have hH := H_pos
  have f1 : Fit (p : Int) := ⟨by omega, hp⟩
  have f2 : Fit (q : Int) := ⟨by omega, hq⟩
  have k := DivZ (p : Int) (q : Int) f1 f2 w
  have e1 : (p : Int).fdiv (q : Int) = ((p / q : Nat) : Int) := by rw [Int.fdiv_eq_ediv_of_nonneg _ (by omega)]; rfl
  have e2 : (p : Int).fmod (q : Int) = ((p % q : Nat) : Int) := by rw [Int.fmod_eq_emod_of_nonneg _ (by omega)]; rfl
  have hle : ((p / q : Nat) : Int) ≤ (p : Int) := Int.ofNat_le.2 (Nat.div_le_self p q)
  have hnn : (0 : Int) ≤ ((p / q : Nat) : Int) := Int.natCast_nonneg _
  have e3 : dq (p : Int) (q : Int) = true := by
    unfold dq
    rw [e1, fit_true ⟨Int.le_trans (by omega) hnn, Int.lt_of_le_of_lt hle hp⟩]
    simp
    omega
  rw [e3, e1, e2] at k
  exact k

section
variable {ops : Array Oper} {rest : List Oper} {o : Oper} {a : Act} {w : World} {Q : Exit → Act → World → Prop}
theorem at_st (p : Tmp) {y : Operand} {P : Program} (ho : o.op = .store 75 (.tmp p) y) (h : Stop (wpList P ops Q (o :: rest) a w)) : wpList P ops Q (o :: rest) a w := h
end

end Go.Proofs.YtnemedgdhojhdaaGreat

namespace Go.Proofs.YtnemedgdhojhdaaGreat
open Go.RowKit
set_option maxRecDepth 4000
set_option linter.unusedVariables false

end Go.Proofs.YtnemedgdhojhdaaGreat

namespace Go.Proofs.YtnemedgdhojhdaaGreat
open Go.RowKit
set_option maxRecDepth 4000
set_option linter.unusedVariables false

/-- The divisor behind k numbers. -/
def wd (x y z : Int) : Nat → Nat
  | 0 => 0
  | k + 1 => Nat.gcd (wd x y z k) (nth3 x y z k).natAbs
theorem wd_lt {x y z : Int} {m : Nat} (hf : ∀ k, k < m → fit ((nth3 x y z k).natAbs : Int) = true) : ∀ k, k ≤ m → ((wd x y z k : Nat) : Int) < (H : Int)
  | 0, _ => by have := H_pos; show ((0 : Nat) : Int) < _; omega
  | k + 1, h => by
    have ih := wd_lt hf k (by omega)
    have h1 := (Fit.of (hf k (by omega))).2
    show ((Nat.gcd (wd x y z k) (nth3 x y z k).natAbs : Nat) : Int) < _
    rcases Nat.eq_zero_or_pos (nth3 x y z k).natAbs with h0 | h0
    · rw [h0, Nat.gcd_zero_right]; exact ih
    · exact Int.lt_of_le_of_lt (Int.ofNat_le.2 (Nat.gcd_le_right _ h0)) h1
theorem walk_store {P : Program} {ops : Array Oper} {S : World → Prop} {Q : Exit → Act → World → Prop} {tn : Nat → Bool} {i : Nat} {r : List Nat} {a : Act} {w w' : World} {o : Oper} (ho : ops[i]? = some o) (hw : Region.wanted o (yielded ops a.tmps) = true) (ht : tn i = true)
    (h : (execOp a.eval o).run P w = .ok .skip w') (hS : S w') (hr : Walk P ops S Q tn r (a.put o.dst undef) w') : Walk P ops S Q tn (i :: r) a w :=
  ⟨o, ho, .inr (.inr ⟨hw, ht, by rw [h]; exact ⟨hS, hr⟩⟩)⟩
theorem bSpan0 : Tryz.prog.built 121 [] = some (c24 0 0 0) := by kernel_rfl
end Go.Proofs.YtnemedgdhojhdaaGreat

namespace Go.Proofs.YtnemedgdhojhdaaGreat
open Go.RowKit
set_option maxRecDepth 4000
set_option linter.unusedVariables false

/-- A span has a primitive one. -/
def prOk (x y z : Int) : Bool := fit (x.natAbs : Int) && fit (y.natAbs : Int) && fit (z.natAbs : Int) && !decide (wd x y z 3 = 0)
theorem DivP (x : Int) (g : Nat) (hx : Fit x) (hg : (g : Int) < (H : Int)) (h0 : g ≠ 0) : Ans 97 #[V x, V (g : Int)] (.tuple #[V (x / (g : Int)), V (x % (g : Int)), .bool true]) := by
  intro w
  have hH := H_pos
  have k := DivZ x (g : Int) hx ⟨by omega, hg⟩ w
  have e1 : x.fdiv (g : Int) = x / (g : Int) := Int.fdiv_eq_ediv_of_nonneg _ (by omega)
  have e2 : x.fmod (g : Int) = x % (g : Int) := Int.fmod_eq_emod_of_nonneg _ (by omega)
  have e3 : dq x (g : Int) = true := by
    unfold dq
    rw [e1, fit_true (fit_div hx _ (by omega))]
    simp
    omega
  rw [e3, e1, e2] at k
  exact k
theorem bSpan2 (x y : Nat) : Tryz.prog.built 121 [(0, .agg (cells8 x)), (1, .agg (cells8 y))] = some (c24 x y 0) := by kernel_rfl
theorem bdSpan2 {ops : Array Oper} {rest : List Oper} {o : Oper} {a : Act} {w : World} {Q : Exit → Act → World → Prop} (p q : Operand) {x y : Nat} (ho : o.op = .build 121 #[(0, p), (1, q)]) (hgd : o.guard = none) (hx : a.eval p = .agg (cells8 x)) (hy : a.eval q = .agg (cells8 y))
    (h : wpList Tryz.prog ops Q rest (a.put o.dst (.agg (c24 x y 0))) w) : wpList Tryz.prog ops Q (o :: rest) a w := wpList_value hgd (exec_build2 w 121 p q ho hx hy (bSpan2 x y)) h
theorem enc_0 : enc 0 = 0 := rfl
end Go.Proofs.YtnemedgdhojhdaaGreat
