/- Numbers of eight limbs: how a natural number below 2^512 lies in eight cells. No Go in this text. -/
import Derived.Test.YtfoojpfgeicolaaWa
import Derived.Test.YtfoojpfgeicolaaWp
import Derived.Deep.WholeRow
namespace Go.Proofs.Ytfoojpfgeicolaa
open Go.RowKit

/-- The limb number i of n. -/
def lm (n i : Nat) : Int := ((n / 2 ^ (64 * i) % 18446744073709551616 : Nat) : Int)

theorem lm_nn (n i : Nat) : 0 ≤ lm n i := by unfold lm; omega
theorem lm_lt (n i : Nat) : lm n i < B64 := by unfold lm B64; omega

/-- The eight cells of n. -/
def cells8 (n : Nat) : Array Value := #[.int .u64 (lm n 0), .int .u64 (lm n 1), .int .u64 (lm n 2), .int .u64 (lm n 3), .int .u64 (lm n 4), .int .u64 (lm n 5), .int .u64 (lm n 6), .int .u64 (lm n 7)]

/-- n as a value of eight limbs. -/
abbrev W (n : Nat) : Value := .agg (cells8 n)

/-- 2^512, written out. -/
def M : Nat := 13407807929942597099574024998205846127479365820592393377723561443721764030073546976801874298166903427690031858186486050853753882811946569946433649006084096
theorem M_pows (e f : Nat) (hf : f = 256) (he : e = f + f) : M = 2 ^ e := by
  subst he
  rw [Nat.pow_add]
  subst hf
  rfl
theorem M_pow8 : M = 2 ^ (64 * 8) := by
  generalize h : 64 * 8 = e
  exact M_pows e 256 rfl (h.symm.trans rfl)

/-- The carry behind k limbs of a sum, c coming in. -/
def cy (x y c k : Nat) : Int := (((x % 2 ^ (64 * k) + y % 2 ^ (64 * k) + c) / 2 ^ (64 * k) : Nat) : Int)

theorem cy_nn (x y c k : Nat) : 0 ≤ cy x y c k := by unfold cy; exact Int.natCast_nonneg _
theorem cy_le (x y c k : Nat) (hc : c ≤ 1) : cy x y c k ≤ 1 := by
  unfold cy
  have h1 : x % 2 ^ (64 * k) < 2 ^ (64 * k) := Nat.mod_lt _ (Nat.pow_pos (by decide))
  have h2 : y % 2 ^ (64 * k) < 2 ^ (64 * k) := Nat.mod_lt _ (Nat.pow_pos (by decide))
  have : (x % 2 ^ (64 * k) + y % 2 ^ (64 * k) + c) / 2 ^ (64 * k) < 2 := by
    rw [Nat.div_lt_iff_lt_mul (Nat.pow_pos (by decide))]; omega
  omega
theorem cy_zero (x y c : Nat) : cy x y c 0 = c := by simp [cy, Nat.mod_one]

theorem pow_step (k : Nat) : 2 ^ (64 * (k + 1)) = 2 ^ (64 * k) * 18446744073709551616 := by
  rw [show 64 * (k + 1) = 64 * k + 64 by omega, Nat.pow_add]

/-- What is below the limb k + 1 is what is below the limb k, and the limb k. -/
theorem mod_step (x k : Nat) : x % 2 ^ (64 * (k + 1)) = x % 2 ^ (64 * k) + 2 ^ (64 * k) * (x / 2 ^ (64 * k) % 18446744073709551616) := by
  rw [pow_step, Nat.mod_mul]

theorem sum_step (P a b x y c : Nat) (hP : 0 < P) :
    (a + P * x + (b + P * y) + c) / P = x + y + (a + b + c) / P := by
  rw [show a + P * x + (b + P * y) + c = (a + b + c) + P * (x + y) by rw [Nat.mul_add]; omega, Nat.add_mul_div_left _ _ hP]; omega

theorem cy_step (x y c k : Nat) : (lm x k + lm y k + cy x y c k) / B64 = cy x y c (k + 1) := by
  unfold lm cy B64
  have hP : 0 < 2 ^ (64 * k) := Nat.pow_pos (by decide)
  rw [mod_step x k, mod_step y k, pow_step, ← Nat.div_div_eq_div_mul, sum_step _ _ _ _ _ _ hP]
  omega

theorem lm_add (x y c k : Nat) : (lm x k + lm y k + cy x y c k) % B64 = lm (x + y + c) k := by
  unfold lm cy B64
  have hP : 0 < 2 ^ (64 * k) := Nat.pow_pos (by decide)
  have e : (x + y + c) / 2 ^ (64 * k) = x / 2 ^ (64 * k) + y / 2 ^ (64 * k) + (x % 2 ^ (64 * k) + y % 2 ^ (64 * k) + c) / 2 ^ (64 * k) := by
    have h1 := Nat.mod_add_div x (2 ^ (64 * k))
    have h2 := Nat.mod_add_div y (2 ^ (64 * k))
    rw [← sum_step _ _ _ _ _ _ hP, h1, h2]
  rw [e]
  omega

/-- A limb below the 512th bit does not hang on what is above. -/
theorem lm_mod (n i : Nat) (h : i < 8) : lm (n % M) i = lm n i := by
  unfold lm
  rw [M_pow8, show (2 : Nat) ^ (64 * 8) = 2 ^ (64 * i) * 2 ^ (64 * 8 - 64 * i) by rw [← Nat.pow_add]; congr 1; omega]
  rw [Nat.mod_mul_right_div_self]
  have : (18446744073709551616 : Nat) ∣ 2 ^ (64 * 8 - 64 * i) := by
    rw [show (18446744073709551616 : Nat) = 2 ^ 64 by decide]
    exact Nat.pow_dvd_pow 2 (by omega)
  rw [Nat.mod_mod_of_dvd _ this]

theorem W_mod (n : Nat) : W (n % M) = W n := by
  unfold W cells8
  simp only [lm_mod n _ (by decide : 0 < 8), lm_mod n _ (by decide : 1 < 8), lm_mod n _ (by decide : 2 < 8), lm_mod n _ (by decide : 3 < 8), lm_mod n _ (by decide : 4 < 8), lm_mod n _ (by decide : 5 < 8), lm_mod n _ (by decide : 6 < 8), lm_mod n _ (by decide : 7 < 8)]

theorem cells8_one (n : Nat) : (cells8 n).all (·.oneCell') = true := by
  simp [cells8, Value.oneCell']

theorem iLimbs : (Try.prog.info? 50).map (·.size) = some 8 := by kernel_rfl
theorem iWide : (Try.prog.info? 25).map (·.size) = some 8 := by kernel_rfl
theorem iArr : (Try.prog.info? 23).map (·.size) = some 8 := by kernel_rfl

/-- A whole number out of its block. -/
theorem ld8 {P : Program} {ops : Array Oper} {rest : List Oper} {o : Oper} {a : Act} {w : World} {Q : Exit → Act → World → Prop} (ty : TypeId) (x : Operand) {n g : Nat} {t : TypeId} {d : TypeDesc}
    (hg : Blk w g t (cells8 n)) (ho : o.op = .load ty x) (hgd : o.guard = none) (hx : a.eval x = .pointer (some ⟨g, 0, none⟩))
    (hu : P.underlying ty = some d) (hd : (match d with | .struct _ | .array _ _ => true | _ => false) = true) (hi : (P.info? ty).map (·.size) = some 8)
    (h : wpList P ops Q rest (a.put o.dst (.agg (cells8 n))) w) : wpList P ops Q (o :: rest) a w :=
  wpList_load_row hgd ty x ho g hx t (cells8 n) (0, 0) d hg hu hd hi h

/-- The same, where a guard says yes. -/
theorem ld8w {P : Program} {ops : Array Oper} {rest : List Oper} {o : Oper} {a : Act} {w : World} {Q : Exit → Act → World → Prop} (ty : TypeId) (x : Operand) {n g : Nat} {t : TypeId} {d : TypeDesc}
    (hg : Blk w g t (cells8 n)) (ho : o.op = .load ty x) (hgd : Region.wanted o (yielded ops a.tmps) = true) (hx : a.eval x = .pointer (some ⟨g, 0, none⟩))
    (hu : P.underlying ty = some d) (hd : (match d with | .struct _ | .array _ _ => true | _ => false) = true) (hi : (P.info? ty).map (·.size) = some 8)
    (h : wpList P ops Q rest (a.put o.dst (.agg (cells8 n))) w) : wpList P ops Q (o :: rest) a w :=
  by
    unfold wpList
    rw [if_pos hgd]
    exact .inl (wp_load_row ty x ho g hx t (cells8 n) (0, 0) d hg hu hd hi h)

/-- A whole number into a block of eight cells. -/
theorem st8 {P : Program} {ops : Array Oper} {rest : List Oper} {o : Oper} {a : Act} {w : World} {Q : Exit → Act → World → Prop} (ty : TypeId) (x y : Operand) {n g : Nat} {t : TypeId} {old : Array Value}
    (hg : Blk w g t old) (hold : old.size = 8) (ho : o.op = .store ty x y) (hgd : o.guard = none) (hx : a.eval x = .pointer (some ⟨g, 0, none⟩)) (hy : a.eval y = .agg (cells8 n))
    (hi : (P.info? ty).map (·.size) = some 8)
    (h : wpList P ops Q rest (a.put o.dst undef) (w.setRow g (cells8 n))) : wpList P ops Q (o :: rest) a w :=
  wpList_store_row hgd ty x y ho g (cells8 n) hx hy t old hg hi hold (cells8_one n) h

/-- A whole number into the block that was made last. -/
theorem st8new {P : Program} {ops : Array Oper} {rest : List Oper} {o : Oper} {a : Act} {w : World} {Q : Exit → Act → World → Prop} (ty : TypeId) (x y : Operand) {n : Nat} {t : TypeId} {old : Array Value}
    (hold : old.size = 8) (ho : o.op = .store ty x y) (hgd : o.guard = none) (hx : a.eval x = .pointer (some ⟨w.heap.size, 0, none⟩)) (hy : a.eval y = .agg (cells8 n))
    (hi : (P.info? ty).map (·.size) = some 8)
    (h : wpList P ops Q rest (a.put o.dst undef) (w.alloc (.cells (cells8 n) t))) : wpList P ops Q (o :: rest) a (w.alloc (.cells old t)) :=
  st8 ty x y (n := n) (Blk.new w t old) hold ho hgd hx hy hi (by rw [World.setRow_alloc_new]; exact h)

/-- A result that is a whole number, read out of its block. -/
theorem res8 {P : Program} {fn : Func} {R : Ending → World → Prop} {p : Tmp} {ty : TypeId} {a : Act} {w : World} {n g : Nat} {t : TypeId} {d : TypeDesc}
    (hg : Blk w g t (cells8 n)) (h : fn.results = #[.cell p ty]) (hp : a.tmps.getD p undef = .pointer (some ⟨g, 0, none⟩)) (hdf : a.defers = [])
    (hu : P.underlying ty = some d) (hd : (match d with | .struct _ | .array _ _ => true | _ => false) = true) (hi : (P.info? ty).map (·.size) = some 8)
    (hR : R (.returned (W n)) w) : bodyPost P fn R .ret a w :=
  bodyPost_ret (results_cell_row h _ w g t (cells8 n) (0, 0) d hp hg hu hd hi) hdf hR

theorem bWide (n : Nat) : Try.prog.built 25 [(0, .agg (cells8 n))] = some (cells8 n) := by kernel_rfl
theorem bWide0 : Try.prog.built 25 [] = some (cells8 0) := by kernel_rfl
theorem bLimbs0 : Try.prog.built 50 [] = some (cells8 0) := by kernel_rfl

theorem exec_build1 {P : Program} {o : Oper} {a : Act} (w : World) (ty : TypeId) (x : Operand) {v : Value} {cs : Array Value} (ho : o.op = .build ty #[(0, x)]) (hx : a.eval x = v) (hb : P.built ty [(0, v)] = some cs) :
    (execOp a.eval o).run P w = .ok (.value (.agg cs)) w := by
  subst hx
  unfold execOp
  simp only [ho, Sem.run_bind, run_build w ty (#[(0, x)].map fun (i, x) => (i, a.eval x)) cs (by simpa using hb), Result.andThen_ok, Sem.run_pure]
theorem exec_build0 {P : Program} {o : Oper} {a : Act} (w : World) (ty : TypeId) {cs : Array Value} (ho : o.op = .build ty #[]) (hb : P.built ty [] = some cs) :
    (execOp a.eval o).run P w = .ok (.value (.agg cs)) w := by
  unfold execOp
  simp only [ho, Sem.run_bind, run_build w ty (#[].map fun (i, x) => (i, a.eval x)) cs (by simpa using hb), Result.andThen_ok, Sem.run_pure]

/-- An operation that ends in a value and leaves the world as it was. -/
theorem wpList_value {P : Program} {ops : Array Oper} {rest : List Oper} {o : Oper} {a : Act} {w : World} {Q : Exit → Act → World → Prop} {v : Value} (hg : o.guard = none)
    (he : (execOp a.eval o).run P w = .ok (.value v) w) (h : wpList P ops Q rest (a.put o.dst v) w) : wpList P ops Q (o :: rest) a w :=
  wpList_plain hg fun K hK => by unfold Oper.wp; rw [he]; exact hK _ _ h

theorem bd1 {P : Program} {ops : Array Oper} {rest : List Oper} {o : Oper} {a : Act} {w : World} {Q : Exit → Act → World → Prop} (ty : TypeId) (x : Operand) {v : Value} {cs : Array Value} (ho : o.op = .build ty #[(0, x)]) (hg : o.guard = none) (hx : a.eval x = v) (hb : P.built ty [(0, v)] = some cs)
    (h : wpList P ops Q rest (a.put o.dst (.agg cs)) w) : wpList P ops Q (o :: rest) a w := wpList_value hg (exec_build1 w ty x ho hx hb) h
theorem bd0 {P : Program} {ops : Array Oper} {rest : List Oper} {o : Oper} {a : Act} {w : World} {Q : Exit → Act → World → Prop} (ty : TypeId) {cs : Array Value} (ho : o.op = .build ty #[]) (hg : o.guard = none) (hb : P.built ty [] = some cs)
    (h : wpList P ops Q rest (a.put o.dst (.agg cs)) w) : wpList P ops Q (o :: rest) a w := wpList_value hg (exec_build0 w ty ho hb) h

theorem exec_load8 {P : Program} {o : Oper} {a : Act} {w : World} (ty : TypeId) (x : Operand) {n g : Nat} {t : TypeId} {d : TypeDesc}
    (hg : Blk w g t (cells8 n)) (ho : o.op = .load ty x) (hx : a.eval x = .pointer (some ⟨g, 0, none⟩))
    (hu : P.underlying ty = some d) (hd : (match d with | .struct _ | .array _ _ => true | _ => false) = true) (hi : (P.info? ty).map (·.size) = some 8) :
    (execOp a.eval o).run P w = .ok (.value (.agg (cells8 n))) w := by
  unfold execOp
  simp only [ho, hx, Instr.loadAt, Instr.sureAddr, Sem.run_bind, Sem.run_pure, Result.andThen_ok, run_loadVar_row w g t ty (cells8 n) (0, 0) d hg hu hd hi]

end Go.Proofs.Ytfoojpfgeicolaa
