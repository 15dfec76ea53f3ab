/- What a law knows of its numbers: a list of blocks and what lies in them. -/
import Derived.Test.YtfoojpfgeicolaaZm
namespace Go.Proofs.Ytfoojpfgeicolaa
open Go.RowKit

/-- Each block of the list holds its number; what was is as it was. -/
structure Env (w0 : World) (l : List (Nat × Nat)) (w : World) : Prop where
  at_ : ∀ p ∈ l, Blk w p.1 25 (cells8 p.2)
  o : Below w0.heap.size w0 w
theorem Env.keep {w0 w w' : World} {l : List (Nat × Nat)} (d : Env w0 l w) (hb : Below w.heap.size w w') : Env w0 l w' :=
  ⟨fun p hp => (d.at_ p hp).below hb (d.at_ p hp).lt, d.o.trans (hb.mono d.o.size)⟩
theorem Env.push {w0 w : World} {l : List (Nat × Nat)} (d : Env w0 l w) (n : Nat) : Env w0 ((w.heap.size, n) :: l) (w.alloc (.cells (cells8 n) 25)) := by
  refine ⟨fun p hp => ?_, d.o.alloc d.o.size _⟩
  rcases List.mem_cons.1 hp with e | hp
  · subst e; exact Blk.new _ _ _
  · exact (d.at_ p hp).alloc _
theorem Env.drew {w0 w : World} {l : List (Nat × Nat)} (d : Env w0 l w) : Env w0 l w.drew := ⟨fun p hp => (d.at_ p hp).drew, d.o.drew⟩
theorem Env.start (w : World) : Env w [] w := ⟨fun _ hp => (List.not_mem_nil hp).elim, Below.refl _ _⟩
theorem Env.one (w : World) (a : Nat) : Env w [(w.heap.size, a)] (w.alloc (.cells (cells8 a) 25)) := (Env.start w).push a
theorem Env.two (w : World) (a b : Nat) : Env w [(w.heap.size + 1, b), (w.heap.size, a)] ((w.alloc (.cells (cells8 a) 25)).alloc (.cells (cells8 b) 25)) := by
  have h := (Env.one w a).push b
  simpa using h
theorem Env.three (w : World) (a b c : Nat) : Env w [(w.heap.size + 1 + 1, c), (w.heap.size + 1, b), (w.heap.size, a)] (((w.alloc (.cells (cells8 a) 25)).alloc (.cells (cells8 b) 25)).alloc (.cells (cells8 c) 25)) := by
  have h := (Env.two w a b).push c
  simpa using h
theorem Env.blk {w0 w : World} {l : List (Nat × Nat)} {g n : Nat} (d : Env w0 l w) (hm : (g, n) ∈ l) : Blk w g 25 (cells8 n) := d.at_ (g, n) hm

theorem at_list {P : Program} {ops : Array Oper} {Q : Exit → Act → World → Prop} {l : List Oper} {a : Act} {w : World} (h : wpList P ops Q l a w) : wpList P ops Q l a w := h

section
variable {ops : Array Oper} {rest : List Oper} {o : Oper} {a : Act} {w w0 : World} {Q : Exit → Act → World → Prop} {l : List (Nat × Nat)} {n m g : Nat}
/-- A number out of its block. -/
theorem ldE (d : Env w0 l w) (x : Operand) (ho : o.op = .load 25 x) (hgd : o.guard = none) (hx : a.eval x = ptr g) (hm : (g, n) ∈ l)
    (h : wpList Try.prog ops Q rest (a.put o.dst (.agg (cells8 n))) w) : wpList Try.prog ops Q (o :: rest) a w :=
  ld8 25 x (d.blk hm) ho hgd hx Try.underlying25 rfl iWide h
theorem ldEw (d : Env w0 l w) (x : Operand) (ho : o.op = .load 25 x) (hgd : Region.wanted o (yielded ops a.tmps) = true) (hx : a.eval x = ptr g) (hm : (g, n) ∈ l)
    (h : wpList Try.prog ops Q rest (a.put o.dst (.agg (cells8 n))) w) : wpList Try.prog ops Q (o :: rest) a w :=
  ld8w 25 x (d.blk hm) ho hgd hx Try.underlying25 rfl iWide h
/-- A number into a new block. -/
theorem stE {old : Array Value} (d : Env w0 l w) (x y : Operand) (hold : old.size = 8) (ho : o.op = .store 25 x y) (hgd : o.guard = none) (hx : a.eval x = ptr w.heap.size) (hy : a.eval y = .agg (cells8 n))
    (h : Env w0 ((w.heap.size, n) :: l) (w.alloc (.cells (cells8 n) 25)) → wpList Try.prog ops Q rest (a.put o.dst undef) (w.alloc (.cells (cells8 n) 25))) : wpList Try.prog ops Q (o :: rest) a (w.alloc (.cells old 25)) :=
  st8new 25 x y hold ho hgd hx hy iWide (h (d.push n))
theorem exec_neq_wide_is {ty' : TypeId} {b : Bool} (hb : same n m = b) (w : World) (x y : Operand) (ho : o.op = .binOp .neq 25 x y ty') (hx : a.eval x = .agg (cells8 n)) (hy : a.eval y = .agg (cells8 m)) :
    (execOp a.eval o).run Try.prog w = .ok (.value (.bool (!b))) w := hb ▸ exec_neq_wide w x y ho hx hy
/-- Two numbers held against each other. -/
theorem neqE {ty' : TypeId} {b : Bool} (hb : same n m = b) (x y : Operand) (ho : o.op = .binOp .neq 25 x y ty') (hgd : o.guard = none) (hx : a.eval x = .agg (cells8 n)) (hy : a.eval y = .agg (cells8 m))
    (h : wpList Try.prog ops Q rest (a.put o.dst (.bool (!b))) w) : wpList Try.prog ops Q (o :: rest) a w :=
  wpList_value hgd (exec_neq_wide_is hb w x y ho hx hy) h
theorem neqEw {ty' : TypeId} {b : Bool} (hb : same n m = b) (x y : Operand) (ho : o.op = .binOp .neq 25 x y ty') (hgd : Region.wanted o (yielded ops a.tmps) = true) (hx : a.eval x = .agg (cells8 n)) (hy : a.eval y = .agg (cells8 m))
    (h : wpList Try.prog ops Q rest (a.put o.dst (.bool (!b))) w) : wpList Try.prog ops Q (o :: rest) a w :=
  wpList_valuew hgd (exec_neq_wide_is hb w x y ho hx hy) h
theorem eqlE {ty' : TypeId} {b : Bool} (hb : same n m = b) (x y : Operand) (ho : o.op = .binOp .eql 25 x y ty') (hgd : o.guard = none) (hx : a.eval x = .agg (cells8 n)) (hy : a.eval y = .agg (cells8 m))
    (h : wpList Try.prog ops Q rest (a.put o.dst (.bool b)) w) : wpList Try.prog ops Q (o :: rest) a w :=
  wpList_value hgd (exec_eql_wide_is w x y hb ho hx hy) h
theorem eqlEw {ty' : TypeId} {b : Bool} (hb : same n m = b) (x y : Operand) (ho : o.op = .binOp .eql 25 x y ty') (hgd : Region.wanted o (yielded ops a.tmps) = true) (hx : a.eval x = .agg (cells8 n)) (hy : a.eval y = .agg (cells8 m))
    (h : wpList Try.prog ops Q rest (a.put o.dst (.bool b)) w) : wpList Try.prog ops Q (o :: rest) a w :=
  wpList_valuew hgd (exec_eql_wide_is w x y hb ho hx hy) h
end

/-- awake is true. -/
theorem awakeZ (w : World) : Calls Try.prog 18 #[] w fun e w' => e = .returned (.bool true) ∧ Below w.heap.size w w' := by
  have f : ∀ z : Int, -100 ≤ z → z ≤ 100 → Fit z := fun z h1 h2 => by
    have hH : 1000 < (H : Int) := by decide
    exact ⟨by omega, by omega⟩
  refine awake_core enc (enc (-4)) (enc (-1)) (enc 2) (enc (-3)) w (fun n u h0 h1 => OfZ n h0 h1 u) ?_ ?_ ?_ (SmallZ (-4) (by decide) (by decide)) (SmallZ (-1) (by decide) (by decide)) (SmallZ 2 (by decide) (by decide)) (SmallZ (-3) (by decide) (by decide)) ?_ ?_
  · intro u
    refine (DivZ 7 (-2) (f _ (by decide) (by decide)) (f _ (by decide) (by decide)) u).mono fun e w' ⟨he, hb⟩ => ⟨?_, hb⟩
    have hq : (7 : Int).fdiv (-2) = -4 := by decide
    have hr : (7 : Int).fmod (-2) = -1 := by decide
    have hd : dq 7 (-2) = true := by
      unfold dq
      rw [hq, fit_true (f _ (by decide) (by decide))]
      rfl
    rw [he, hd, hq, hr]
    rfl
  · intro u
    refine (DivZ 7 0 (f _ (by decide) (by decide)) (f _ (by decide) (by decide)) u).mono fun e w' ⟨he, hb⟩ => ⟨?_, hb⟩
    have hd : dq 7 0 = false := by
      unfold dq
      simp
    rw [he, hd]
    rfl
  · intro u
    refine (SqrtZ 8 (f _ (by decide) (by decide)) u).mono fun e w' ⟨he, hb⟩ => ⟨?_, hb⟩
    rw [he]
    have : isq (8 : Int).toNat = 2 := by decide
    rw [this]
    rfl
  · intro u
    have := ShrZ (-5) 1 (f _ (by decide) (by decide)) (by decide) u
    have e1 : (-5 : Int) / ((2 ^ (1 : Int).toNat : Nat) : Int) = -3 := by decide
    rw [e1] at this
    exact this
  · intro u
    have := BitsZ (-4) (f _ (by decide) (by decide)) u
    have e1 : blen (-4 : Int).natAbs = 3 := by decide
    rw [e1] at this
    exact this

/-- The sums and products of limbs: what is answered, and whether it fits. -/
def addN (a b : Nat) : Nat := bif fit (sv a + sv b) then enc (sv a + sv b) else 0
def addB (a b : Nat) : Bool := fit (sv a + sv b)
def subN (a b : Nat) : Nat := bif fit (sv a - sv b) then enc (sv a - sv b) else 0
def subB (a b : Nat) : Bool := fit (sv a - sv b)
def mulN (a b : Nat) : Nat := bif fit (sv a * sv b) then enc (sv a * sv b) else 0
def mulB (a b : Nat) : Bool := fit (sv a * sv b)
theorem W_sv (a : Nat) : W a = V (sv a) := by show Value.agg _ = Value.agg _; rw [cells8_sv a]
theorem told_bif (b : Bool) (n : Nat) : told (!b) n = .tuple #[.agg (cells8 (bif b then n else 0)), .bool b] := by cases b <;> rfl
theorem AddN (a b : Nat) (w : World) : Calls Try.prog 19 #[W a, W b] w fun e w' => e = .returned (.tuple #[.agg (cells8 (addN a b)), .bool (addB a b)]) ∧ Below w.heap.size w w' := by
  rw [W_sv a, W_sv b]
  refine (AddZ (sv a) (sv b) (sv_fit a) (sv_fit b) w).mono fun e w' ⟨he, hb⟩ => ⟨?_, hb⟩
  rw [he]
  exact congrArg Ending.returned (told_bif _ _)
theorem MulN (a b : Nat) (w : World) : Calls Try.prog 24 #[W a, W b] w fun e w' => e = .returned (.tuple #[.agg (cells8 (mulN a b)), .bool (mulB a b)]) ∧ Below w.heap.size w w' := by
  rw [W_sv a, W_sv b]
  refine (MulZ (sv a) (sv b) (sv_fit a) (sv_fit b) w).mono fun e w' ⟨he, hb⟩ => ⟨?_, hb⟩
  rw [he]
  exact congrArg Ending.returned (told_bif _ _)

end Go.Proofs.Ytfoojpfgeicolaa
