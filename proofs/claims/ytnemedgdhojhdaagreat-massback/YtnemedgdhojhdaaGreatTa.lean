/- Arrays of wide numbers in blocks. Package quat: numbers, raw, part.added. Package quat: part.added. Package quat: product. Package quat: product over integers; Mul. -/
import Derived.Test.YtnemedgdhojhdaaGreatVn
namespace Go.Proofs.YtnemedgdhojhdaaGreat
open Go.RowKit
set_option maxRecDepth 4000
set_option linter.unusedVariables false

/-- The cells of some numbers, one behind the other. -/
def wsL : List Nat → List Value
  | [] => []
  | n :: r => (cells8 n).toList ++ wsL r
def ws (l : List Nat) : Array Value := (wsL l).toArray
/-- Cells from o on, others in their places. -/
def putC (cs : Array Value) : Nat → List Value → Array Value
  | _, [] => cs
  | o, v :: r => putC (cs.setIfInBounds o v) (o + 1) r
theorem Blk.putC {t : TypeId} {g : Nat} : ∀ (vs : List Value) (o : Nat) (cs : Array Value) (w : World), Blk w g t cs → Blk (w.setCells g o vs) g t (putC cs o vs)
  | [], _, _, _, h => h
  | v :: r, o, cs, w, h => Blk.putC r (o + 1) _ _ (h.set o v)
end Go.Proofs.YtnemedgdhojhdaaGreat

namespace Go.Proofs.YtnemedgdhojhdaaGreat
open Go.RowKit
set_option maxRecDepth 4000
set_option linter.unusedVariables false

/-- The cells of a quaternion, of a part. -/
abbrev q4 (a b c d : Int) : Array Value := #[.int .i64 a, .int .i64 b, .int .i64 c, .int .i64 d]
abbrev z32 : Array Value := #[.int .u64 0, .int .u64 0, .int .u64 0, .int .u64 0, .int .u64 0, .int .u64 0, .int .u64 0, .int .u64 0, .int .u64 0, .int .u64 0, .int .u64 0, .int .u64 0, .int .u64 0, .int .u64 0, .int .u64 0, .int .u64 0, .int .u64 0, .int .u64 0, .int .u64 0, .int .u64 0, .int .u64 0, .int .u64 0, .int .u64 0, .int .u64 0, .int .u64 0, .int .u64 0, .int .u64 0, .int .u64 0, .int .u64 0, .int .u64 0, .int .u64 0, .int .u64 0]
end Go.Proofs.YtnemedgdhojhdaaGreat

namespace Go.Proofs.YtnemedgdhojhdaaGreat
open Go.RowKit
set_option maxRecDepth 4000
set_option linter.unusedVariables false

theorem run_sizeOf {P : Program} {t : TypeId} {n : Nat} (h : (P.info? t).map (·.size) = some n) (w : World) : (sizeOf t).run P w = .ok n w := by
  cases hq : P.info? t with
  | none => simp [hq] at h
  | some i => simp [hq] at h; simp [sizeOf, typeInfo, hq, h]
end Go.Proofs.YtnemedgdhojhdaaGreat

namespace Go.Proofs.YtnemedgdhojhdaaGreat
open Go.RowKit
set_option maxRecDepth 4000
set_option linter.unusedVariables false

/-- A table of parts in the variable's block. -/
def Tab (g : Nat) (T : Array Value) (w : World) : Prop := ∃ t fr, w.heap[g]? = some (.cells T t fr)
theorem Tab.below {g : Nat} {T : Array Value} {w w' : World} {B : Nat} (h : Tab g T w) (hb : Below B w w') (hg : g < B) : Tab g T w' := by
  obtain ⟨t, fr, h⟩ := h
  exact ⟨t, fr, (hb.block g hg).trans h⟩
theorem Tab.lt {g : Nat} {T : Array Value} {w : World} (h : Tab g T w) : g < w.heap.size := by
  obtain ⟨t, fr, h⟩ := h
  exact (Array.getElem?_eq_some_iff.1 h).1
end Go.Proofs.YtnemedgdhojhdaaGreat

namespace Go.Proofs.YtnemedgdhojhdaaGreat
open Go.RowKit
set_option maxRecDepth 4000
set_option linter.unusedVariables false

/-- The parts of a product: which number, the sign, which two. -/
def ptL : List (Nat × Int × Nat × Nat) := [(0, 1, 0, 0), (0, -1, 1, 1), (0, -1, 2, 2), (0, -1, 3, 3), (1, 1, 0, 1), (1, 1, 1, 0), (1, 1, 2, 3), (1, -1, 3, 2), (2, 1, 0, 2), (2, 1, 2, 0), (2, 1, 3, 1), (2, -1, 1, 3), (3, 1, 0, 3), (3, 1, 3, 0), (3, 1, 1, 2), (3, -1, 2, 1)]
def ptA (k : Nat) : Nat := (ptL.getD k (0, 0, 0, 0)).1
def ptS (k : Nat) : Int := (ptL.getD k (0, 0, 0, 0)).2.1
def ptF (k : Nat) : Nat := (ptL.getD k (0, 0, 0, 0)).2.2.1
def ptG (k : Nat) : Nat := (ptL.getD k (0, 0, 0, 0)).2.2.2
def tabP : Array Value := (ptL.flatMap fun p => [.int .i64 p.1, .int .i64 p.2.1, .int .i64 p.2.2.1, .int .i64 p.2.2.2]).toArray
/-- Four numbers, by their places. -/
def n4 (a b c d : Int) (k : Nat) : Int := if k = 0 then a else if k = 1 then b else if k = 2 then c else d
/-- A sum's numbers behind so many parts. -/
def acc (A F G : Nat → Nat) (S : Nat → Int) (p q : Nat → Int) : Nat → Nat → Int
  | 0, _ => 0
  | k + 1, j => if j = A k then acc A F G S p q k j + p (F k) * q (G k) * S k else acc A F G S p q k j
def ac4 (f : Nat → Int) : List Nat := [enc (f 0), enc (f 1), enc (f 2), enc (f 3)]
/-- The numbers of a product. -/
def prd (p0 p1 p2 p3 q0 q1 q2 q3 : Int) (k j : Nat) : Int := acc ptA ptF ptG ptS (n4 p0 p1 p2 p3) (n4 q0 q1 q2 q3) k j
end Go.Proofs.YtnemedgdhojhdaaGreat
