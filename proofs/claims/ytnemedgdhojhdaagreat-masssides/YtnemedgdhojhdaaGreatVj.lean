/- Package vec: roots. Package vec: square, length, Len, LenUp. Package vec: roots and lengths over the integers. Package vec: a root rounded up, Len, LenUp. -/
import Derived.Test.YtnemedgdhojhdaaGreatVi
namespace Go.Proofs.YtnemedgdhojhdaaGreat
open Go.RowKit
set_option maxRecDepth 4000
set_option linter.unusedVariables false

/-- The cells of a root: a number, and whether it is exact. -/
def c9 (n : Nat) (b : Bool) : Array Value := #[.int .u64 (lm n 0), .int .u64 (lm n 1), .int .u64 (lm n 2), .int .u64 (lm n 3), .int .u64 (lm n 4), .int .u64 (lm n 5), .int .u64 (lm n 6), .int .u64 (lm n 7), .bool b]
abbrev z9 : Array Value := #[.int .u64 0, .int .u64 0, .int .u64 0, .int .u64 0, .int .u64 0, .int .u64 0, .int .u64 0, .int .u64 0, .bool false]
theorem Gen.two2 {w0 w : World} {l : List (Nat × TypeId × Array Value)} (d : Gen w0 l w) (n m : Nat) {c1 c2 : Array Value} :
    Gen w0 ((w.heap.size + 1, 75, cells8 m) :: (w.heap.size, 75, cells8 n) :: l) ((((w.alloc (.cells c1 75)).alloc (.cells c2 75)).setRow w.heap.size (cells8 n)).setRow (w.heap.size + 1) (cells8 m)) := by
  refine ⟨fun p hp => ?_, d.o.trans ((two_new w _ _ _ _).mono d.o.size)⟩
  rcases List.mem_cons.1 hp with e | hp
  · subst e; exact ((Blk.second2 w 75 _ _).rowOther _ (by omega)).row _
  · rcases List.mem_cons.1 hp with e | hp
    · subst e; exact ((Blk.first2 w 75 _ _).row _).rowOther _ (by show w.heap.size ≠ _; omega)
    · have hl := (d.at_ p hp).lt
      exact ((((d.at_ p hp).alloc _).alloc _).rowOther _ (by omega)).rowOther _ (by omega)
section
variable {ops : Array Oper} {rest : List Oper} {o : Oper} {a : Act} {w w0 : World} {Q : Exit → Act → World → Prop} {l : List (Nat × TypeId × Array Value)} {g n m : Nat}
end

end Go.Proofs.YtnemedgdhojhdaaGreat

namespace Go.Proofs.YtnemedgdhojhdaaGreat
open Go.RowKit
set_option maxRecDepth 4000
set_option linter.unusedVariables false

section
variable {ops : Array Oper} {Q : Exit → Act → World → Prop} {S : World → Prop} {tn : Nat → Bool} {i : Nat} {r : List Nat} {a : Act} {w : World} {o : Oper}
end
/-- The square of a vector. -/
def sqr (x y z : Int) : Int := x * x + y * y + z * z
end Go.Proofs.YtnemedgdhojhdaaGreat

namespace Go.Proofs.YtnemedgdhojhdaaGreat
open Go.RowKit
set_option maxRecDepth 4000
set_option linter.unusedVariables false

/-- The floor of the root of n by d, and whether it is exact. -/
def rfl' (n d : Int) : Int := rt (n.fdiv d)
def rex (n d : Int) : Bool := decide (rfl' n d * rfl' n d * d = n)
abbrev R9 (n d : Int) : Value := .agg (c9 (enc (rfl' n d)) (rex n d))
end Go.Proofs.YtnemedgdhojhdaaGreat

namespace Go.Proofs.YtnemedgdhojhdaaGreat
open Go.RowKit
set_option maxRecDepth 4000
set_option linter.unusedVariables false

theorem Gen.fillZ {w0 w : World} {l : List (Nat × TypeId × Array Value)} {B c : Nat} {t : TypeId} {old cs : Array Value} (d : Gen w0 l w) (hl : ∀ p ∈ l, p.1 < B) (h0 : w0.heap.size ≤ B) (hb : Blk w c t old) (hc : B ≤ c) : Gen w0 ((c, t, cs) :: l) (w.setRow c cs) := by
  refine ⟨fun p hp => ?_, below_row d.o (by omega) _⟩
  rcases List.mem_cons.1 hp with e | hp
  · subst e; exact hb.row _
  · have := hl p hp
    exact (d.at_ p hp).rowOther _ (by omega)
/-- The number above a root. -/
def upR (n d : Int) : Int := inI (if rex n d then rfl' n d else rfl' n d + 1) 32
end Go.Proofs.YtnemedgdhojhdaaGreat
