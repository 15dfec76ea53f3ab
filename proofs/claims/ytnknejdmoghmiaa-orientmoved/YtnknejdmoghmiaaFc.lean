/- Package fix over integers: the two ways a number goes, brought, raised. -/
import Derived.Test.YtnknejdmoghmiaaFb
namespace Go.Proofs.Ytnknejdmoghmiaa
open Go.RowKit
set_option maxRecDepth 4000
set_option linter.unusedVariables false

theorem szA (w : World) (o : Obj) : (w.alloc o).heap.size = w.heap.size + 1 := by simp
theorem Env.other {w0 w : World} {l : List (Nat × Nat)} (d : Env w0 l w) (o : Obj) : Env w0 l (w.alloc o) := d.keep ((Below.refl _ w).alloc (Nat.le_refl _) o)
/-- Numbers, in a world of at least so many blocks. -/
structure EnvZ (w0 : World) (l : List (Nat × Nat)) (B : Nat) (w : World) : Prop where
  e : Env w0 l w
  s : B ≤ w.heap.size
theorem EnvZ.keep {w0 w w' : World} {l : List (Nat × Nat)} {B : Nat} (d : EnvZ w0 l B w) (hb : Below w.heap.size w w') : EnvZ w0 l B w' := ⟨d.e.keep hb, Nat.le_trans d.s hb.size⟩
theorem Env.fillZ {w0 w : World} {l : List (Nat × Nat)} {B c n : Nat} {old : Array Value} (d : Env w0 l w) (hl : ∀ p ∈ l, p.1 < B) (h0 : w0.heap.size ≤ B) (hb : Blk w c 40 old) (hc : B ≤ c) : Env w0 ((c, n) :: l) (w.setRow c (cells8 n)) := by
  refine ⟨fun p hp => ?_, below_row d.o (by omega) _⟩
  rcases List.mem_cons.1 hp with e | hp
  · subst e; exact hb.row _
  · have := hl p hp
    exact (d.at_ p hp).rowOther _ (by omega)
theorem Env.zero {w0 w : World} {l : List (Nat × Nat)} (d : Env w0 l w) : Env w0 ((w.heap.size, 0) :: l) (w.alloc (.cells #[.int .u64 0, .int .u64 0, .int .u64 0, .int .u64 0, .int .u64 0, .int .u64 0, .int .u64 0, .int .u64 0] 40)) := by
  have h := d.push 0
  rw [cells8_0] at h
  exact h
theorem Env.two2 {w0 w : World} {l : List (Nat × Nat)} (d : Env w0 l w) (n m : Nat) {c1 c2 : Array Value} :
    Env w0 ((w.heap.size + 1, m) :: (w.heap.size, n) :: l) ((((w.alloc (.cells c1 40)).alloc (.cells c2 40)).setRow w.heap.size (cells8 n)).setRow (w.heap.size + 1) (cells8 m)) := by
  refine ⟨fun p hp => ?_, d.o.trans ((two_new w _ _ _ _).mono d.o.size)⟩
  rcases List.mem_cons.1 hp with e | hp
  · subst e; exact ((Blk.second2 w 40 _ _).rowOther _ (by omega)).row _
  · rcases List.mem_cons.1 hp with e | hp
    · subst e; exact ((Blk.first2 w 40 _ _).row _).rowOther _ (by show w.heap.size ≠ _; omega)
    · have hl := (d.at_ p hp).lt
      exact ((((d.at_ p hp).alloc _).alloc _).rowOther _ (by omega)).rowOther _ (by omega)
section
variable {ops : Array Oper} {rest : List Oper} {o : Oper} {a : Act} {w w0 : World} {Q : Exit → Act → World → Prop} {l : List (Nat × Nat)} {n m g : Nat}
/-- The answer into its block. -/
theorem stEnd (d : Env w0 l w) (x y : Operand) (ho : o.op = .store 40 x y) (hgd : o.guard = none) (hx : a.eval x = ptr g) (hy : a.eval y = .agg (cells8 n)) (hm : (g, m) ∈ l) (hg : w0.heap.size ≤ g)
    (h : Hid (Blk (w.setRow g (cells8 n)) g 40 (cells8 n)) → Hid (Below w0.heap.size w0 (w.setRow g (cells8 n))) → wpList Try.prog ops Q rest (a.put o.dst undef) (w.setRow g (cells8 n))) : wpList Try.prog ops Q (o :: rest) a w :=
  st8 40 x y (d.blk hm) rfl ho hgd hx hy iWide (h ((d.blk hm).row _) (below_row d.o hg _))
/-- A number into a block that was asked for, and another one behind it. -/
theorem stOne {c1 c2 : Array Value} (h8 : c1.size = 8) (x y : Operand) (ho : o.op = .store 40 x y) (hgd : o.guard = none) (hx : a.eval x = ptr w.heap.size) (hy : a.eval y = .agg (cells8 n))
    (h : wpList Try.prog ops Q rest (a.put o.dst undef) (((w.alloc (.cells c1 40)).alloc (.cells c2 40)).setRow w.heap.size (cells8 n))) : wpList Try.prog ops Q (o :: rest) a ((w.alloc (.cells c1 40)).alloc (.cells c2 40)) :=
  st8 40 x y (Blk.first2 w 40 _ _) h8 ho hgd hx hy iWide h
theorem stTwo {c1 c2 : Array Value} (d : Env w0 l w) (h8 : c2.size = 8) (x y : Operand) (ho : o.op = .store 40 x y) (hgd : o.guard = none) (hx : a.eval x = ptr (w.heap.size + 1)) (hy : a.eval y = .agg (cells8 m))
    (h : ∀ w', Hid (Env w0 ((w.heap.size + 1, m) :: (w.heap.size, n) :: l) w') → wpList Try.prog ops Q rest (a.put o.dst undef) w') : wpList Try.prog ops Q (o :: rest) a (((w.alloc (.cells c1 40)).alloc (.cells c2 40)).setRow w.heap.size (cells8 n)) :=
  st8 40 x y ((Blk.second2 w 40 _ _).rowOther _ (by omega)) h8 ho hgd hx hy iWide (h _ (d.two2 n m))
end

/-- The next one, where it is not exact. -/
def upN (z : Int) (b : Bool) : Int := bif b then z else z + 1

theorem shl_told (x : Int) (k : Nat) (hx : Fit x) (hk : (k : Int) < 9223372036854775808) (hf : Fit (x * ((2 ^ k : Nat) : Int))) : Ans 122 #[V x, .int .i64 k] (.tuple #[V (x * ((2 ^ k : Nat) : Int)), .bool true]) := by
  intro u
  have h := ShlZ x k hx (by omega) hk u
  rw [decide_eq_false (show ¬ (k : Int) < 0 by omega), Int.toNat_natCast, fit_true hf] at h
  exact h
end Go.Proofs.Ytnknejdmoghmiaa
