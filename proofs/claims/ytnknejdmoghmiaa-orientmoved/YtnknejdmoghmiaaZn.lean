/- What a law knows of its numbers: a list of blocks and what lies in them. The sums and products of limbs keep the ring's laws, where they fit. The other answers over limbs: differences, opposites, shifts, roots, signs, comparisons, quotients; and what undoes what. -/
import Derived.Test.YtnknejdmoghmiaaZm
namespace Go.Proofs.Ytnknejdmoghmiaa
open Go.RowKit
set_option maxRecDepth 4000

/-- Each block of the list holds its number; what was is as it was. -/
structure Env (w0 : World) (l : List (Nat × Nat)) (w : World) : Prop where
  at_ : ∀ p ∈ l, Blk w p.1 40 (cells8 p.2)
  o : Below w0.heap.size w0 w
theorem Env.keep {w0 w w' : World} {l : List (Nat × Nat)} (d : Env w0 l w) (hb : Below w.heap.size w w') : Env w0 l w' :=
  ⟨fun p hp => (d.at_ p hp).below hb (d.at_ p hp).lt, d.o.trans (hb.mono d.o.size)⟩
theorem Env.push {w0 w : World} {l : List (Nat × Nat)} (d : Env w0 l w) (n : Nat) : Env w0 ((w.heap.size, n) :: l) (w.alloc (.cells (cells8 n) 40)) := by
  refine ⟨fun p hp => ?_, d.o.alloc d.o.size _⟩
  rcases List.mem_cons.1 hp with e | hp
  · subst e; exact Blk.new _ _ _
  · exact (d.at_ p hp).alloc _
theorem Env.drew {w0 w : World} {l : List (Nat × Nat)} (d : Env w0 l w) : Env w0 l w.drew := ⟨fun p hp => (d.at_ p hp).drew, d.o.drew⟩
theorem Env.start (w : World) : Env w [] w := ⟨fun _ hp => (List.not_mem_nil hp).elim, Below.refl _ _⟩
theorem Env.one (w : World) (a : Nat) : Env w [(w.heap.size, a)] (w.alloc (.cells (cells8 a) 40)) := (Env.start w).push a
theorem Env.two (w : World) (a b : Nat) : Env w [(w.heap.size + 1, b), (w.heap.size, a)] ((w.alloc (.cells (cells8 a) 40)).alloc (.cells (cells8 b) 40)) := by
  have h := (Env.one w a).push b
  simpa using h
theorem Env.three (w : World) (a b c : Nat) : Env w [(w.heap.size + 1 + 1, c), (w.heap.size + 1, b), (w.heap.size, a)] (((w.alloc (.cells (cells8 a) 40)).alloc (.cells (cells8 b) 40)).alloc (.cells (cells8 c) 40)) := by
  have h := (Env.two w a b).push c
  simpa using h
theorem Env.blk {w0 w : World} {l : List (Nat × Nat)} {g n : Nat} (d : Env w0 l w) (hm : (g, n) ∈ l) : Blk w g 40 (cells8 n) := d.at_ (g, n) hm

theorem at_list {P : Program} {ops : Array Oper} {Q : Exit → Act → World → Prop} {l : List Oper} {a : Act} {w : World} (h : wpList P ops Q l a w) : wpList P ops Q l a w := h

section
variable {ops : Array Oper} {rest : List Oper} {o : Oper} {a : Act} {w w0 : World} {Q : Exit → Act → World → Prop} {l : List (Nat × Nat)} {n m g : Nat}
/-- A number out of its block. -/
theorem ldE (d : Env w0 l w) (x : Operand) (ho : o.op = .load 40 x) (hgd : o.guard = none) (hx : a.eval x = ptr g) (hm : (g, n) ∈ l)
    (h : wpList Try.prog ops Q rest (a.put o.dst (.agg (cells8 n))) w) : wpList Try.prog ops Q (o :: rest) a w :=
  ld8 40 x (d.blk hm) ho hgd hx Try.underlying40 rfl iWide h
theorem ldEw (d : Env w0 l w) (x : Operand) (ho : o.op = .load 40 x) (hgd : Region.wanted o (yielded ops a.tmps) = true) (hx : a.eval x = ptr g) (hm : (g, n) ∈ l)
    (h : wpList Try.prog ops Q rest (a.put o.dst (.agg (cells8 n))) w) : wpList Try.prog ops Q (o :: rest) a w :=
  ld8w 40 x (d.blk hm) ho hgd hx Try.underlying40 rfl iWide h
/-- A number into a new block. -/
theorem stE {old : Array Value} (d : Env w0 l w) (x y : Operand) (hold : old.size = 8) (ho : o.op = .store 40 x y) (hgd : o.guard = none) (hx : a.eval x = ptr w.heap.size) (hy : a.eval y = .agg (cells8 n))
    (h : Env w0 ((w.heap.size, n) :: l) (w.alloc (.cells (cells8 n) 40)) → wpList Try.prog ops Q rest (a.put o.dst undef) (w.alloc (.cells (cells8 n) 40))) : wpList Try.prog ops Q (o :: rest) a (w.alloc (.cells old 40)) :=
  st8new 40 x y hold ho hgd hx hy iWide (h (d.push n))
theorem exec_neq_wide_is {ty' : TypeId} {b : Bool} (hb : same n m = b) (w : World) (x y : Operand) (ho : o.op = .binOp .neq 40 x y ty') (hx : a.eval x = .agg (cells8 n)) (hy : a.eval y = .agg (cells8 m)) :
    (execOp a.eval o).run Try.prog w = .ok (.value (.bool (!b))) w := hb ▸ exec_neq_wide w x y ho hx hy
/-- Two numbers held against each other. -/
theorem neqE {ty' : TypeId} {b : Bool} (hb : same n m = b) (x y : Operand) (ho : o.op = .binOp .neq 40 x y ty') (hgd : o.guard = none) (hx : a.eval x = .agg (cells8 n)) (hy : a.eval y = .agg (cells8 m))
    (h : wpList Try.prog ops Q rest (a.put o.dst (.bool (!b))) w) : wpList Try.prog ops Q (o :: rest) a w :=
  wpList_value hgd (exec_neq_wide_is hb w x y ho hx hy) h
theorem neqEw {ty' : TypeId} {b : Bool} (hb : same n m = b) (x y : Operand) (ho : o.op = .binOp .neq 40 x y ty') (hgd : Region.wanted o (yielded ops a.tmps) = true) (hx : a.eval x = .agg (cells8 n)) (hy : a.eval y = .agg (cells8 m))
    (h : wpList Try.prog ops Q rest (a.put o.dst (.bool (!b))) w) : wpList Try.prog ops Q (o :: rest) a w :=
  wpList_valuew hgd (exec_neq_wide_is hb w x y ho hx hy) h
theorem eqlE {ty' : TypeId} {b : Bool} (hb : same n m = b) (x y : Operand) (ho : o.op = .binOp .eql 40 x y ty') (hgd : o.guard = none) (hx : a.eval x = .agg (cells8 n)) (hy : a.eval y = .agg (cells8 m))
    (h : wpList Try.prog ops Q rest (a.put o.dst (.bool b)) w) : wpList Try.prog ops Q (o :: rest) a w :=
  wpList_value hgd (exec_eql_wide_is w x y hb ho hx hy) h
theorem eqlEw {ty' : TypeId} {b : Bool} (hb : same n m = b) (x y : Operand) (ho : o.op = .binOp .eql 40 x y ty') (hgd : Region.wanted o (yielded ops a.tmps) = true) (hx : a.eval x = .agg (cells8 n)) (hy : a.eval y = .agg (cells8 m))
    (h : wpList Try.prog ops Q rest (a.put o.dst (.bool b)) w) : wpList Try.prog ops Q (o :: rest) a w :=
  wpList_valuew hgd (exec_eql_wide_is w x y hb ho hx hy) h
end

/-- The sums and products of limbs: what is answered, and whether it fits. -/
def addN (a b : Nat) : Nat := bif fit (sv a + sv b) then enc (sv a + sv b) else 0
def addB (a b : Nat) : Bool := fit (sv a + sv b)
def subN (a b : Nat) : Nat := bif fit (sv a - sv b) then enc (sv a - sv b) else 0
def subB (a b : Nat) : Bool := fit (sv a - sv b)
def mulN (a b : Nat) : Nat := bif fit (sv a * sv b) then enc (sv a * sv b) else 0
def mulB (a b : Nat) : Bool := fit (sv a * sv b)
theorem W_sv (a : Nat) : W a = V (sv a) := by show Value.agg _ = Value.agg _; rw [cells8_sv a]
theorem told_bif (b : Bool) (n : Nat) : told (!b) n = .tuple #[.agg (cells8 (bif b then n else 0)), .bool b] := by cases b <;> rfl
theorem AddN (a b : Nat) (w : World) : Calls Try.prog 67 #[W a, W b] w fun e w' => e = .returned (.tuple #[.agg (cells8 (addN a b)), .bool (addB a b)]) ∧ Below w.heap.size w w' := by
  rw [W_sv a, W_sv b]
  refine (AddZ (sv a) (sv b) (sv_fit a) (sv_fit b) w).mono fun e w' ⟨he, hb⟩ => ⟨?_, hb⟩
  rw [he]
  exact congrArg Ending.returned (told_bif _ _)
theorem MulN (a b : Nat) (w : World) : Calls Try.prog 88 #[W a, W b] w fun e w' => e = .returned (.tuple #[.agg (cells8 (mulN a b)), .bool (mulB a b)]) ∧ Below w.heap.size w w' := by
  rw [W_sv a, W_sv b]
  refine (MulZ (sv a) (sv b) (sv_fit a) (sv_fit b) w).mono fun e w' ⟨he, hb⟩ => ⟨?_, hb⟩
  rw [he]
  exact congrArg Ending.returned (told_bif _ _)

end Go.Proofs.Ytnknejdmoghmiaa

namespace Go.Proofs.Ytnknejdmoghmiaa
open Go.RowKit
set_option maxRecDepth 4000

theorem sv_enc {z : Int} (h : Fit z) : sv (enc z) = z := by
  refine fit_unique (sv_fit _) h ?_
  rw [← sv_mod, enc_int, Int.emod_emod]
theorem same_of_eq {n m : Nat} (h : n = m) : same n m = true := by subst h; exact same_self n
theorem add_sv {a b : Nat} (h : addB a b = true) : sv (addN a b) = sv a + sv b := by
  unfold addN addB at *
  rw [h]
  exact sv_enc (Fit.of h)
theorem sub_sv {a b : Nat} (h : subB a b = true) : sv (subN a b) = sv a - sv b := by
  unfold subN subB at *
  rw [h]
  exact sv_enc (Fit.of h)
theorem mul_sv {a b : Nat} (h : mulB a b = true) : sv (mulN a b) = sv a * sv b := by
  unfold mulN mulB at *
  rw [h]
  exact sv_enc (Fit.of h)
theorem addN_of {a b c d : Nat} (h : sv a + sv b = sv c + sv d) : addN a b = addN c d ∧ addB a b = addB c d := by
  unfold addN addB
  rw [h]
  exact ⟨rfl, rfl⟩
theorem ring1 (a b : Nat) : addN a b = addN b a ∧ addB a b = addB b a := addN_of (Int.add_comm _ _)
theorem ring2 (a b : Nat) : mulN a b = mulN b a ∧ mulB a b = mulB b a := by
  unfold mulN mulB
  rw [Int.mul_comm]
  exact ⟨rfl, rfl⟩
theorem ring3 (a b c : Nat) (h1 : addB a b = true) (h2 : addB b c = true) : addB (addN a b) c = addB a (addN b c) ∧ (addB a (addN b c) = true → same (addN (addN a b) c) (addN a (addN b c)) = true) := by
  have h := addN_of (a := addN a b) (b := c) (c := a) (d := addN b c) (by rw [add_sv h1, add_sv h2, Int.add_assoc])
  exact ⟨h.2, fun _ => same_of_eq h.1⟩
theorem ring6 (a b c : Nat) (h1 : addB b c = true) (h2 : mulB a b = true) (h3 : mulB a c = true) : mulB a (addN b c) = addB (mulN a b) (mulN a c) ∧ same (mulN a (addN b c)) (addN (mulN a b) (mulN a c)) = true := by
  have e : sv a * sv (addN b c) = sv (mulN a b) + sv (mulN a c) := by rw [add_sv h1, mul_sv h2, mul_sv h3, Int.mul_add]
  refine ⟨?_, same_of_eq ?_⟩
  · unfold mulB addB; rw [e]
  · show (bif fit (sv a * sv (addN b c)) then enc (sv a * sv (addN b c)) else 0) = (bif fit (sv (mulN a b) + sv (mulN a c)) then enc (sv (mulN a b) + sv (mulN a c)) else 0)
    rw [e]
theorem ring7 (a b c : Nat) (h1 : mulB a b = true) (h2 : mulB b c = true) : mulB (mulN a b) c = mulB a (mulN b c) ∧ same (mulN (mulN a b) c) (mulN a (mulN b c)) = true := by
  have e : sv (mulN a b) * sv c = sv a * sv (mulN b c) := by rw [mul_sv h1, mul_sv h2, Int.mul_assoc]
  refine ⟨?_, same_of_eq ?_⟩
  · unfold mulB; rw [e]
  · show (bif fit (sv (mulN a b) * sv c) then enc (sv (mulN a b) * sv c) else 0) = (bif fit (sv a * sv (mulN b c)) then enc (sv a * sv (mulN b c)) else 0)
    rw [e]

end Go.Proofs.Ytnknejdmoghmiaa

namespace Go.Proofs.Ytnknejdmoghmiaa
open Go.RowKit
set_option maxRecDepth 4000

theorem same_sv (a : Nat) : same (enc (sv a)) a = true := by
  rw [same_of (x := sv a) (y := sv a) (by rw [enc_int, Int.emod_emod]) (sv_mod a) (sv_fit a) (sv_fit a)]
  simp
theorem same_iff (a b : Nat) : same a b = decide (sv a = sv b) := same_of (sv_mod a) (sv_mod b) (sv_fit a) (sv_fit b)

theorem SubN (a b : Nat) (w : World) : Calls Try.prog 129 #[W a, W b] w fun e w' => e = .returned (.tuple #[.agg (cells8 (subN a b)), .bool (subB a b)]) ∧ Below w.heap.size w w' := by
  rw [W_sv a, W_sv b]
  refine (SubZ (sv a) (sv b) (sv_fit a) (sv_fit b) w).mono fun e w' ⟨he, hb⟩ => ⟨?_, hb⟩
  rw [he]
  exact congrArg Ending.returned (told_bif _ _)
def negN (a : Nat) : Nat := bif fit (-sv a) then enc (-sv a) else 0
def negB (a : Nat) : Bool := fit (-sv a)
theorem NegN (a : Nat) (w : World) : Calls Try.prog 48 #[W a] w fun e w' => e = .returned (.tuple #[.agg (cells8 (negN a)), .bool (negB a)]) ∧ Below w.heap.size w w' := by
  rw [W_sv a]
  refine (NegZ (sv a) (sv_fit a) w).mono fun e w' ⟨he, hb⟩ => ⟨?_, hb⟩
  rw [he]
  exact congrArg Ending.returned (told_bif _ _)
def shlB (n : Int) (a : Nat) : Bool := !decide (n < 0) && fit (sv a * ((2 ^ n.toNat : Nat) : Int))
def shlN (n : Int) (a : Nat) : Nat := bif shlB n a then enc (sv a * ((2 ^ n.toNat : Nat) : Int)) else 0
def shrN (n : Int) (a : Nat) : Nat := enc (sv a / ((2 ^ n.toNat : Nat) : Int))
theorem ShlN (n : Int) (h0 : -9223372036854775808 ≤ n) (h1 : n < 9223372036854775808) (a : Nat) (w : World) : Calls Try.prog 122 #[W a, .int .i64 n] w fun e w' => e = .returned (.tuple #[.agg (cells8 (shlN n a)), .bool (shlB n a)]) ∧ Below w.heap.size w w' := by
  rw [W_sv a]
  refine (ShlZ (sv a) n (sv_fit a) h0 h1 w).mono fun e w' ⟨he, hb⟩ => ⟨?_, hb⟩
  rw [he]
  have e1 : (decide (n < 0) || !fit (sv a * ((2 ^ n.toNat : Nat) : Int))) = !shlB n a := by unfold shlB; cases decide (n < 0) <;> cases fit (sv a * ((2 ^ n.toNat : Nat) : Int)) <;> rfl
  rw [e1]
  exact congrArg Ending.returned (told_bif _ _)
theorem ShrN (n : Int) (h1 : n < 9223372036854775808) (a : Nat) (w : World) : Calls Try.prog 121 #[W a, .int .i64 n] w fun e w' => e = .returned (.agg (cells8 (shrN n a))) ∧ Below w.heap.size w w' := by
  rw [W_sv a]
  exact ShrZ (sv a) n (sv_fit a) h1 w
def sqB (a : Nat) : Bool := !decide (sv a < 0)
def sqN (a : Nat) : Nat := bif sqB a then enc (isq (sv a).toNat : Nat) else 0
theorem SignN (a : Nat) (w : World) : Calls Try.prog 46 #[W a] w fun e w' => e = .returned (.int .i64 (sgn (sv a))) ∧ Below w.heap.size w w' := by
  rw [W_sv a]
  exact SignZ (sv a) (sv_fit a) w
def dqB (a b : Nat) : Bool := dq (sv a) (sv b)
def dqN (a b : Nat) : Nat := bif dq (sv a) (sv b) then enc ((sv a).fdiv (sv b)) else 0
def drN (a b : Nat) : Nat := bif dq (sv a) (sv b) then enc ((sv a).fmod (sv b)) else 0
theorem DivN (a b : Nat) (w : World) : Calls Try.prog 50 #[W a, W b] w fun e w' => e = .returned (.tuple #[.agg (cells8 (dqN a b)), .agg (cells8 (drN a b)), .bool (dqB a b)]) ∧ Below w.heap.size w w' := by
  rw [W_sv a, W_sv b]
  exact DivZ (sv a) (sv b) (sv_fit a) (sv_fit b) w

/-! What undoes what. -/
theorem und1 (a b : Nat) (h : addB a b = true) : subB (addN a b) b = true ∧ same (subN (addN a b) b) a = true := by
  have e : sv (addN a b) - sv b = sv a := by rw [add_sv h]; omega
  have hf : fit (sv a) = true := fit_true (sv_fit a)
  refine ⟨by unfold subB; rw [e]; exact hf, ?_⟩
  have : subN (addN a b) b = enc (sv a) := by unfold subN; rw [e, hf]; rfl
  rw [this]
  exact same_sv a
theorem und2 (a : Nat) (h : negB a = true) : negB (negN a) = true ∧ same (negN (negN a)) a = true := by
  have e1 : sv (negN a) = -sv a := by unfold negN negB at *; rw [h]; exact sv_enc (Fit.of h)
  have e : -sv (negN a) = sv a := by rw [e1]; omega
  have hf : fit (sv a) = true := fit_true (sv_fit a)
  refine ⟨by unfold negB; rw [e]; exact hf, ?_⟩
  have : negN (negN a) = enc (sv a) := by
    show (bif fit (-sv (negN a)) then enc (-sv (negN a)) else 0) = _
    rw [e, hf]
    rfl
  rw [this]
  exact same_sv a
theorem shl_sv {n : Int} {a : Nat} (h : shlB n a = true) : sv (shlN n a) = sv a * ((2 ^ n.toNat : Nat) : Int) := by
  unfold shlN
  rw [h]
  unfold shlB at h
  rw [Bool.and_eq_true] at h
  exact sv_enc (Fit.of h.2)
theorem shr_sv (n : Int) (a : Nat) : sv (shrN n a) = sv a / ((2 ^ n.toNat : Nat) : Int) := sv_enc (fit_div (sv_fit a) _ (two_pow_pos _))
theorem und3 (n : Int) (a : Nat) (h : shlB n a = true) : same (shrN n (shlN n a)) a = true := by
  have hp := two_pow_pos n.toNat
  rw [same_iff, shr_sv, shl_sv h, Int.mul_ediv_cancel _ (by omega)]
  simp

/-! The root. -/
theorem rt1 (a : Nat) (h : sqB a = false) : sgn (sv a) < 0 ∧ same (sqN a) 0 = true := by
  have h1 : sv a < 0 := by unfold sqB at h; simpa using h
  refine ⟨by unfold sgn; rw [if_pos h1]; decide, ?_⟩
  unfold sqN
  rw [h]
  exact same_self 0
theorem fit_one : Fit 1 := by have hH : 1000 < (H : Int) := by decide
                              exact ⟨by omega, by omega⟩
theorem sv_one : sv (enc 1) = 1 := sv_enc fit_one
theorem rt2 (a : Nat) (h : sqB a = true) : mulB (sqN a) (sqN a) = true ∧ addB (sqN a) (enc 1) = true ∧ 0 ≤ sgn (sv (sqN a)) ∧ cmpI (sv (mulN (sqN a) (sqN a))) (sv a) ≤ 0 ∧
    (mulB (addN (sqN a) (enc 1)) (addN (sqN a) (enc 1)) = true → 0 < cmpI (sv (mulN (addN (sqN a) (enc 1)) (addN (sqN a) (enc 1)))) (sv a)) := by
  have h0 : ¬ sv a < 0 := by unfold sqB at h; simpa using h
  have hfa := sv_fit a
  obtain ⟨f1, f2⟩ := hfa
  have hH : 1000 < (H : Int) := by decide
  obtain ⟨i1, i2⟩ := isq_spec (sv a).toNat
  have hle := isq_le (sv a).toNat
  have hr : sv (sqN a) = (isq (sv a).toNat : Nat) := by
    unfold sqN
    rw [h]
    exact sv_enc ⟨by omega, by omega⟩
  have hx : ((sv a).toNat : Int) = sv a := by omega
  generalize hq : isq (sv a).toNat = r at *
  have i1' : (r : Int) * (r : Int) ≤ sv a := by rw [← hx, ← Int.natCast_mul]; omega
  have i2' : sv a < ((r : Int) + 1) * ((r : Int) + 1) := by
    have : (((r + 1) * (r + 1) : Nat) : Int) = ((r : Int) + 1) * ((r : Int) + 1) := by rw [Int.natCast_mul]; rfl
    rw [← hx, ← this]
    omega
  have hrr : 0 ≤ (r : Int) * (r : Int) := Int.mul_nonneg (by omega) (by omega)
  have hr1 : (r : Int) + 1 < (H : Int) := by
    rcases Nat.lt_or_ge r 2 with h2 | h2
    · omega
    · have : (r : Int) * 2 ≤ (r : Int) * (r : Int) := Int.mul_le_mul_of_nonneg_left (by omega) (by omega)
      omega
  have hm : mulB (sqN a) (sqN a) = true := by
    unfold mulB
    rw [hr]
    exact fit_true ⟨by omega, by omega⟩
  have ha : addB (sqN a) (enc 1) = true := by
    unfold addB
    rw [hr, sv_one]
    exact fit_true ⟨by omega, by omega⟩
  refine ⟨hm, ha, ?_, ?_, fun hg => ?_⟩
  · rw [hr]
    unfold sgn
    rw [if_neg (by omega)]
    split <;> decide
  · rw [mul_sv hm, hr]
    unfold cmpI
    split
    · decide
    · rw [if_neg (by omega)]
      decide
  · rw [mul_sv hg, add_sv ha, hr, sv_one]
    unfold cmpI
    rw [if_neg (by omega), if_pos (by omega)]
    decide

end Go.Proofs.Ytnknejdmoghmiaa
