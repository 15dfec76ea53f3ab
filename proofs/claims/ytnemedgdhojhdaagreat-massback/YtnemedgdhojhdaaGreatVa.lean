/- Products of two wide numbers as blocks; package vec: raw, times, less, sum, brought. Package vec: the sum of products. Package vec: sums of products as integers; brought; slices of products. Package vec: Dot. -/
import Derived.Test.YtnemedgdhojhdaaGreatFd
import Derived.Deep.MidRow
import Derived.Great.BuildSlice
import Derived.Test.YtnemedgdhojhdaaGreatRd
namespace Go.Proofs.YtnemedgdhojhdaaGreat
open Go.RowKit
set_option maxRecDepth 4000
set_option linter.unusedVariables false

/-- The cells of a product. -/
def pr (x y : Nat) : List Value := [.int .u64 (lm x 0), .int .u64 (lm x 1), .int .u64 (lm x 2), .int .u64 (lm x 3), .int .u64 (lm x 4), .int .u64 (lm x 5), .int .u64 (lm x 6), .int .u64 (lm x 7), .int .u64 (lm y 0), .int .u64 (lm y 1), .int .u64 (lm y 2), .int .u64 (lm y 3), .int .u64 (lm y 4), .int .u64 (lm y 5), .int .u64 (lm y 6), .int .u64 (lm y 7)]
def c16 (x y : Nat) : Array Value := (pr x y).toArray
section
variable {ops : Array Oper} {rest : List Oper} {o : Oper} {a : Act} {w : World} {Q : Exit → Act → World → Prop}
end
/-! Blocks of whatever cells. -/
structure Gen (w0 : World) (l : List (Nat × TypeId × Array Value)) (w : World) : Prop where
  at_ : ∀ p ∈ l, Blk w p.1 p.2.1 p.2.2
  o : Below w0.heap.size w0 w
theorem Gen.start (w : World) : Gen w [] w := ⟨fun _ hp => (List.not_mem_nil hp).elim, Below.refl _ _⟩
theorem Gen.keep {w0 w w' : World} {l : List (Nat × TypeId × Array Value)} (d : Gen w0 l w) (hb : Below w.heap.size w w') : Gen w0 l w' :=
  ⟨fun p hp => (d.at_ p hp).below hb (d.at_ p hp).lt, d.o.trans (hb.mono d.o.size)⟩
theorem Gen.push {w0 w : World} {l : List (Nat × TypeId × Array Value)} (d : Gen w0 l w) (t : TypeId) (cs : Array Value) : Gen w0 ((w.heap.size, t, cs) :: l) (w.alloc (.cells cs t)) := by
  refine ⟨fun p hp => ?_, d.o.alloc d.o.size _⟩
  rcases List.mem_cons.1 hp with e | hp
  · subst e; exact Blk.new _ _ _
  · exact (d.at_ p hp).alloc _
theorem Gen.drew {w0 w : World} {l : List (Nat × TypeId × Array Value)} (d : Gen w0 l w) : Gen w0 l w.drew := ⟨fun p hp => (d.at_ p hp).drew, d.o.drew⟩
theorem Gen.blk {w0 w : World} {l : List (Nat × TypeId × Array Value)} {g : Nat} {t : TypeId} {cs : Array Value} (d : Gen w0 l w) (hm : (g, t, cs) ∈ l) : Blk w g t cs := d.at_ (g, t, cs) hm
/-- The first block of the list, filled anew. -/
theorem Gen.set {w0 w : World} {l : List (Nat × TypeId × Array Value)} {g : Nat} {t : TypeId} {cs : Array Value} (d : Gen w0 ((g, t, cs) :: l) w) (hg : w0.heap.size ≤ g) (hl : ∀ p ∈ l, p.1 ≠ g) (cs' : Array Value) : Gen w0 ((g, t, cs') :: l) (w.setRow g cs') := by
  refine ⟨fun p hp => ?_, below_row d.o hg _⟩
  rcases List.mem_cons.1 hp with e | hp
  · subst e; exact (d.at_ _ List.mem_cons_self).row _
  · exact (d.at_ p (List.mem_cons_of_mem _ hp)).rowOther _ (hl p hp)
/-- A type whose values are so many cells. -/
structure Rw (ty : TypeId) (k : Nat) : Prop where
  u : ∃ d, Tryz.prog.underlying ty = some d ∧ d.isRow = true
  i : (Tryz.prog.info? ty).map (·.size) = some k
theorem rWide : Rw 75 8 := ⟨⟨_, Tryz.underlying75, rfl⟩, iWide⟩
theorem rVec : Rw 24 3 := ⟨⟨_, Tryz.underlying24, rfl⟩, by kernel_rfl⟩
section
variable {ops : Array Oper} {rest : List Oper} {o : Oper} {a : Act} {w w0 : World} {Q : Exit → Act → World → Prop} {l : List (Nat × TypeId × Array Value)} {g : Nat} {t : TypeId} {cs : Array Value}
/-- A whole block, out of it. -/
theorem ldG (d : Gen w0 l w) {ty : TypeId} {k : Nat} (hr : Rw ty k) (x : Operand) (ho : o.op = .load ty x) (hgd : o.guard = none) (hx : a.eval x = ptr g) (hm : (g, t, cs) ∈ l) (hk : cs.size = k)
    (h : wpList Tryz.prog ops Q rest (a.put o.dst (.agg cs)) w) : wpList Tryz.prog ops Q (o :: rest) a w := by
  obtain ⟨⟨dd, hu, hd⟩, hi⟩ := hr
  exact wpList_load_row hgd ty x ho g hx t cs (0, 0) dd (d.blk hm) hu (by cases dd <;> first | rfl | cases hd) (hk ▸ hi) h
/-- Cells into the block that was made last. -/
theorem stG {old : Array Value} (d : Gen w0 l w) {ty : TypeId} {k : Nat} (hr : Rw ty k) (x y : Operand) (ho : o.op = .store ty x y) (hgd : o.guard = none) (hx : a.eval x = ptr w.heap.size) (hy : a.eval y = .agg cs) (hold : old.size = k) (hk : cs.size = k) (h1 : cs.all (·.oneCell') = true)
    (h : Gen w0 ((w.heap.size, t, cs) :: l) (w.alloc (.cells cs t)) → wpList Tryz.prog ops Q rest (a.put o.dst undef) (w.alloc (.cells cs t))) : wpList Tryz.prog ops Q (o :: rest) a (w.alloc (.cells old t)) :=
  wpList_store_row hgd ty x y ho w.heap.size cs hx hy t old (Blk.new w t old) (hk ▸ hr.i) (hold.trans hk.symm) h1 (by rw [World.setRow_alloc_new]; exact h (d.push t cs))
/-- The answer's cells into its block. -/
theorem stGend {old : Array Value} (d : Gen w0 l w) {ty : TypeId} {k : Nat} (hr : Rw ty k) (x y : Operand) (ho : o.op = .store ty x y) (hgd : o.guard = none) (hx : a.eval x = ptr g) (hy : a.eval y = .agg cs) (hm : (g, t, old) ∈ l) (hg : w0.heap.size ≤ g) (hold : old.size = k) (hk : cs.size = k) (h1 : cs.all (·.oneCell') = true)
    (h : Hid (Blk (w.setRow g cs) g t cs) → Hid (Below w0.heap.size w0 (w.setRow g cs)) → wpList Tryz.prog ops Q rest (a.put o.dst undef) (w.setRow g cs)) : wpList Tryz.prog ops Q (o :: rest) a w :=
  wpList_store_row hgd ty x y ho g cs hx hy t old (d.blk hm) (hk ▸ hr.i) (hold.trans hk.symm) h1 (h ((d.blk hm).row _) (below_row d.o hg _))
end
theorem resG {fn : Func} {R : Ending → World → Prop} {p : Tmp} {ty : TypeId} {k : Nat} {a : Act} {w : World} {cs : Array Value} {g : Nat} {t : TypeId} (hr : Rw ty k) (hg : Blk w g t cs) (hk : cs.size = k) (h : fn.results = #[.cell p ty]) (hp : a.tmps.getD p undef = .pointer (some ⟨g, 0, none⟩)) (hdf : a.defers = [])
    (hR : R (.returned (.agg cs)) w) : bodyPost Tryz.prog fn R .ret a w := by
  obtain ⟨⟨dd, hu, hd⟩, hi⟩ := hr
  exact bodyPost_ret (results_cell_row h _ w g t cs (0, 0) dd hp hg hu (by cases dd <;> first | rfl | cases hd) (hk ▸ hi)) hdf hR
abbrev z8 : Array Value := #[.int .u64 0, .int .u64 0, .int .u64 0, .int .u64 0, .int .u64 0, .int .u64 0, .int .u64 0, .int .u64 0]
abbrev z16 : Array Value := #[.int .u64 0, .int .u64 0, .int .u64 0, .int .u64 0, .int .u64 0, .int .u64 0, .int .u64 0, .int .u64 0, .int .u64 0, .int .u64 0, .int .u64 0, .int .u64 0, .int .u64 0, .int .u64 0, .int .u64 0, .int .u64 0]

end Go.Proofs.YtnemedgdhojhdaaGreat

namespace Go.Proofs.YtnemedgdhojhdaaGreat
open Go.RowKit
set_option maxRecDepth 4000
set_option linter.unusedVariables false

end Go.Proofs.YtnemedgdhojhdaaGreat

namespace Go.Proofs.YtnemedgdhojhdaaGreat
open Go.RowKit
set_option maxRecDepth 4000
set_option linter.unusedVariables false

def dotZ (x y : Nat → Int) : Nat → Int
  | 0 => 0
  | k + 1 => dotZ x y k + x k * y k
/-! Slices of products. -/
def prs : List (Nat × Nat) → List Value
  | [] => []
  | p :: l => pr p.1 p.2 ++ prs l
end Go.Proofs.YtnemedgdhojhdaaGreat

namespace Go.Proofs.YtnemedgdhojhdaaGreat
open Go.RowKit
set_option maxRecDepth 4000
set_option linter.unusedVariables false

/-- The cells of a vector. -/
abbrev v3 (x y z : Int) : Array Value := #[.int .i64 x, .int .i64 y, .int .i64 z]
theorem exec_loadF {o : Oper} {a : Act} {w : World} {g i : Nat} {z : Int} (x : Operand) (ho : o.op = .load 22 x) (hx : a.eval x = .pointer (some ⟨g, i, none⟩)) (hc : w.cell? ⟨g, i, none⟩ = some (.int .i64 z)) : (execOp a.eval o).run Tryz.prog w = .ok (.value (.int .i64 z)) w := by
  unfold execOp
  simp only [ho, hx]
  go_simp
theorem Gen.tail {w0 w : World} {p : Nat × TypeId × Array Value} {l : List (Nat × TypeId × Array Value)} (d : Gen w0 (p :: l) w) : Gen w0 l w := ⟨fun q hq => d.at_ q (List.mem_cons_of_mem _ hq), d.o⟩
theorem exec_loadFG {o : Oper} {a : Act} {w w0 : World} {l : List (Nat × TypeId × Array Value)} (d : Gen w0 l w) {g i : Nat} {t : TypeId} {cs : Array Value} {z : Int} (x : Operand) (ho : o.op = .load 22 x) (hx : a.eval x = .pointer (some ⟨g, i, none⟩)) (hm : (g, t, cs) ∈ l) (hc : cs[i]? = some (.int .i64 z)) :
    (execOp a.eval o).run Tryz.prog w = .ok (.value (.int .i64 z)) w := exec_loadF x ho hx ((d.blk hm).cell i ▸ hc)
def nth3 (x y z : Int) (k : Nat) : Int := if k = 0 then x else if k = 1 then y else z
end Go.Proofs.YtnemedgdhojhdaaGreat
