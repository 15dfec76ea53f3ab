/- Package vec: roots. Package vec: square, length, Len, LenUp. Package vec: roots and lengths over the integers. Package vec: a root rounded up, Len, LenUp. -/
import Derived.Test.YtnknejdmoghmiaaVi
namespace Go.Proofs.Ytnknejdmoghmiaa
open Go.RowKit
set_option maxRecDepth 4000
set_option linter.unusedVariables false

/-- The cells of a root: a number, and whether it is exact. -/
def c9 (n : Nat) (b : Bool) : Array Value := #[.int .u64 (lm n 0), .int .u64 (lm n 1), .int .u64 (lm n 2), .int .u64 (lm n 3), .int .u64 (lm n 4), .int .u64 (lm n 5), .int .u64 (lm n 6), .int .u64 (lm n 7), .bool b]
abbrev z9 : Array Value := #[.int .u64 0, .int .u64 0, .int .u64 0, .int .u64 0, .int .u64 0, .int .u64 0, .int .u64 0, .int .u64 0, .bool false]
theorem c9_one (n : Nat) (b : Bool) : (c9 n b).all (·.oneCell') = true := by simp [c9, Value.oneCell']
theorem Gen.two2 {w0 w : World} {l : List (Nat × TypeId × Array Value)} (d : Gen w0 l w) (n m : Nat) {c1 c2 : Array Value} :
    Gen w0 ((w.heap.size + 1, 40, cells8 m) :: (w.heap.size, 40, cells8 n) :: l) ((((w.alloc (.cells c1 40)).alloc (.cells c2 40)).setRow w.heap.size (cells8 n)).setRow (w.heap.size + 1) (cells8 m)) := by
  refine ⟨fun p hp => ?_, d.o.trans ((two_new w _ _ _ _).mono d.o.size)⟩
  rcases List.mem_cons.1 hp with e | hp
  · subst e; exact ((Blk.second2 w 40 _ _).rowOther _ (by omega)).row _
  · rcases List.mem_cons.1 hp with e | hp
    · subst e; exact ((Blk.first2 w 40 _ _).row _).rowOther _ (by show w.heap.size ≠ _; omega)
    · have hl := (d.at_ p hp).lt
      exact ((((d.at_ p hp).alloc _).alloc _).rowOther _ (by omega)).rowOther _ (by omega)
section
variable {ops : Array Oper} {rest : List Oper} {o : Oper} {a : Act} {w w0 : World} {Q : Exit → Act → World → Prop} {l : List (Nat × TypeId × Array Value)} {g n m : Nat}
theorem stTwoG {c1 c2 : Array Value} (d : Gen w0 l w) (h8 : c2.size = 8) (x y : Operand) (ho : o.op = .store 40 x y) (hgd : o.guard = none) (hx : a.eval x = ptr (w.heap.size + 1)) (hy : a.eval y = .agg (cells8 m))
    (h : ∀ w', Hid (Gen w0 ((w.heap.size + 1, 40, cells8 m) :: (w.heap.size, 40, cells8 n) :: l) w') → wpList Try.prog ops Q rest (a.put o.dst undef) w') : wpList Try.prog ops Q (o :: rest) a (((w.alloc (.cells c1 40)).alloc (.cells c2 40)).setRow w.heap.size (cells8 n)) :=
  st8 40 x y ((Blk.second2 w 40 _ _).rowOther _ (by omega)) h8 ho hgd hx hy iWide (h _ (d.two2 n m))
/-- A number into the block that stands first. -/
theorem stSetG {old : Array Value} (d : Gen w0 ((g, 40, old) :: l) w) (hg : w0.heap.size ≤ g) (hl : ∀ p ∈ l, p.1 ≠ g) (x y : Operand) (ho : o.op = .store 40 x y) (hgd : o.guard = none) (hx : a.eval x = ptr g) (hy : a.eval y = .agg (cells8 n)) (hold : old.size = 8)
    (h : ∀ w', Hid (Gen w0 ((g, 40, cells8 n) :: l) w') → wpList Try.prog ops Q rest (a.put o.dst undef) w') : wpList Try.prog ops Q (o :: rest) a w :=
  st8 40 x y (d.blk List.mem_cons_self) hold ho hgd hx hy iWide (h _ (d.set hg hl _))
end

end Go.Proofs.Ytnknejdmoghmiaa

namespace Go.Proofs.Ytnknejdmoghmiaa
open Go.RowKit
set_option maxRecDepth 4000
set_option linter.unusedVariables false

section
variable {ops : Array Oper} {Q : Exit → Act → World → Prop} {S : World → Prop} {tn : Nat → Bool} {i : Nat} {r : List Nat} {a : Act} {w : World} {o : Oper}
theorem walk_st8 {old : Array Value} {n g : Nat} {t : TypeId} (ty : TypeId) (x y : Operand) (ho : ops[i]? = some o) (hw : Region.wanted o (yielded ops a.tmps) = true) (ht : tn i = true) (hg : Blk w g t old) (hold : old.size = 8) (hop : o.op = .store ty x y) (hx : a.eval x = .pointer (some ⟨g, 0, none⟩)) (hy : a.eval y = .agg (cells8 n))
    (hi : (Try.prog.info? ty).map (·.size) = some 8) (hS : S (w.setRow g (cells8 n))) (hr : Walk Try.prog ops S Q tn r (a.put o.dst undef) (w.setRow g (cells8 n))) : Walk Try.prog ops S Q tn (i :: r) a w :=
  ⟨o, ho, .inr (.inr ⟨hw, ht, by rw [exec_store8 ty x y hg hold hop hx hy hi]; exact ⟨hS, hr⟩⟩)⟩
end
/-- The square of a vector. -/
def sqr (x y z : Int) : Int := x * x + y * y + z * z
theorem sqr_sz {x y z : Int} (h1 : I64 x) (h2 : I64 y) (h3 : I64 z) : Sz 130 (sqr x y z) := ((((h1.sz.mul h1.sz).add (h2.sz.mul h2.sz)).add ((h3.sz.mul h3.sz).mono (by decide))).mono (by decide))
theorem sqr_nn (x y z : Int) : 0 ≤ sqr x y z := by
  have a : ∀ x : Int, 0 ≤ x * x := fun x => by
    rcases Int.le_total 0 x with h | h
    · exact Int.mul_nonneg h h
    · exact Int.mul_nonneg_of_nonpos_of_nonpos h h
  have h1 := a x
  have h2 := a y
  have h3 := a z
  unfold sqr
  omega
theorem range_c9 {w : World} {g n : Nat} {b : Bool} {t : TypeId} (h : Blk w g t (c9 n b)) : w.rangeAt g 0 (cells8 n).toList := by
  intro j v hv
  have hj : j < 8 := by
    have := (List.getElem?_eq_some_iff.1 hv).1
    simpa [cells8] using this
  rw [Nat.zero_add, h.cell j]
  rcases lt8 hj with rfl | rfl | rfl | rfl | rfl | rfl | rfl | rfl <;> exact hv
end Go.Proofs.Ytnknejdmoghmiaa

namespace Go.Proofs.Ytnknejdmoghmiaa
open Go.RowKit
set_option maxRecDepth 4000
set_option linter.unusedVariables false

/-- The floor of the root of n by d, and whether it is exact. -/
def rfl' (n d : Int) : Int := rt (n.fdiv d)
def rex (n d : Int) : Bool := decide (rfl' n d * rfl' n d * d = n)
abbrev R9 (n d : Int) : Value := .agg (c9 (enc (rfl' n d)) (rex n d))
theorem fdiv_nn {n d : Int} (h : 0 ≤ n) (hd : 0 < d) : 0 ≤ n.fdiv d := by
  rw [Int.fdiv_eq_ediv_of_nonneg _ (Int.le_of_lt hd)]
  exact Int.ediv_nonneg h (Int.le_of_lt hd)
end Go.Proofs.Ytnknejdmoghmiaa

namespace Go.Proofs.Ytnknejdmoghmiaa
open Go.RowKit
set_option maxRecDepth 4000
set_option linter.unusedVariables false

theorem exec_loadB {o : Oper} {a : Act} {w : World} {g i : Nat} {b : Bool} (x : Operand) (ho : o.op = .load 4 x) (hx : a.eval x = .pointer (some ⟨g, i, none⟩)) (hc : w.cell? ⟨g, i, none⟩ = some (.bool b)) : (execOp a.eval o).run Try.prog w = .ok (.value (.bool b)) w := by
  unfold execOp
  simp only [ho, hx]
  go_simp
theorem exec_ldMid {o : Oper} {a : Act} {w : World} {g k n : Nat} (x : Operand) (ho : o.op = .load 40 x) (hx : a.eval x = .pointer (some ⟨g, k, none⟩)) (hr : w.rangeAt g k (cells8 n).toList) : (execOp a.eval o).run Try.prog w = .ok (.value (.agg (cells8 n))) w := by
  unfold execOp
  simp only [ho, hx, Instr.loadAt, Instr.sureAddr, Sem.run_bind, Sem.run_pure, Result.andThen_ok, run_loadVar_mid w g k 40 (cells8 n).toList _ hr Try.underlying40 rfl iWide]
theorem c9_bool {w : World} {g n : Nat} {b : Bool} {t : TypeId} (h : Blk w g t (c9 n b)) : w.cell? ⟨g, 8, none⟩ = some (.bool b) := by rw [h.cell 8]; rfl
theorem Gen.fillZ {w0 w : World} {l : List (Nat × TypeId × Array Value)} {B c : Nat} {t : TypeId} {old cs : Array Value} (d : Gen w0 l w) (hl : ∀ p ∈ l, p.1 < B) (h0 : w0.heap.size ≤ B) (hb : Blk w c t old) (hc : B ≤ c) : Gen w0 ((c, t, cs) :: l) (w.setRow c cs) := by
  refine ⟨fun p hp => ?_, below_row d.o (by omega) _⟩
  rcases List.mem_cons.1 hp with e | hp
  · subst e; exact hb.row _
  · have := hl p hp
    exact (d.at_ p hp).rowOther _ (by omega)
/-- The number above a root. -/
def upR (n d : Int) : Int := inI (if rex n d then rfl' n d else rfl' n d + 1) 32
theorem rfl_sz {k : Nat} {n d : Int} (hn : Sz k n) (h0 : 0 < d) : Sz (k + 1) (rfl' n d) := isq_sz (hn.fdiv (by omega))
end Go.Proofs.Ytnknejdmoghmiaa
