/- The contract of awake: it is true. -/
import Derived.Test.YtnknejdmoghmiaaZj
import Derived.Test.YtnknejdmoghmiaaZl
namespace Go.Proofs.Ytnknejdmoghmiaa
open Go.RowKit
set_option maxRecDepth 4000

theorem same_self (n : Nat) : same n n = true := decide_eq_true rfl
/-- Two new blocks, each filled. -/
theorem two_new (w : World) (o1 o2 : Obj) (cs cs' : Array Value) : Below w.heap.size w ((((w.alloc o1).alloc o2).setRow w.heap.size cs).setRow (w.heap.size + 1) cs') :=
  below_row (below_row (below2 w o1 o2) (Nat.le_refl _) cs) (by omega) cs'

/-- As st8, the operation asked first. -/
theorem st8o {P : Program} {ops : Array Oper} {rest : List Oper} {o : Oper} {a : Act} {w : World} {Q : Exit → Act → World → Prop} (ty : TypeId) (x y : Operand) {n g : Nat} {t : TypeId} {old : Array Value}
    (ho : o.op = .store ty x y) (hgd : o.guard = none) (hx : a.eval x = .pointer (some ⟨g, 0, none⟩)) (hy : a.eval y = .agg (cells8 n)) (hi : (P.info? ty).map (·.size) = some 8)
    (hg : Blk w g t old) (hold : old.size = 8)
    (h : wpList P ops Q rest (a.put o.dst undef) (w.setRow g (cells8 n))) : wpList P ops Q (o :: rest) a w := st8 ty x y hg hold ho hgd hx hy hi h

/-- What awake knows of its blocks. -/
structure Aw (w0 : World) (g h k q r s : Nat) (w : World) : Prop where
  q : Blk w g 40 (cells8 q)
  r : Blk w h 40 (cells8 r)
  s : Blk w k 40 (cells8 s)
  o : Below w0.heap.size w0 w
theorem Aw.keep {w0 w w' : World} {g h k q r s : Nat} (d : Aw w0 g h k q r s w) (hb : Below w.heap.size w w') : Aw w0 g h k q r s w' :=
  ⟨d.q.below hb d.q.lt, d.r.below hb d.r.lt, d.s.below hb d.s.lt, d.o.trans (hb.mono d.o.size)⟩

structure Aw2 (w0 : World) (g q r : Nat) (w : World) : Prop where
  q : Blk w g 40 (cells8 q)
  r : Blk w (g + 1) 40 (cells8 r)
  o : Below w0.heap.size w0 w
theorem Aw2.keep {w0 w w' : World} {g q r : Nat} (d : Aw2 w0 g q r w) (hb : Below w.heap.size w w') : Aw2 w0 g q r w' :=
  ⟨d.q.below hb d.q.lt, d.r.below hb d.r.lt, d.o.trans (hb.mono d.o.size)⟩

end Go.Proofs.Ytnknejdmoghmiaa
