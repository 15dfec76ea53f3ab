/- Numbers of eight limbs: how a natural number below 2^512 lies in eight cells. No Go in this text. The contracts of plus and minus of package wide: the sum and the difference, modulo 2^512. The contracts of the signs of package wide: below, fill, size, sum, difference. Numbers of eight limbs held against each other: == and != of two of them. The contracts of compare and used of package wide. -/
import Derived.Test.YtnemedgdhojhdaaGreatWp
import Derived.Deep.WholeRow
namespace Go.Proofs.YtnemedgdhojhdaaGreat
open Go.RowKit
set_option maxRecDepth 4000

/-- The limb number i of n. -/
def lm (n i : Nat) : Int := ((n / 2 ^ (64 * i) % 18446744073709551616 : Nat) : Int)

theorem lm_nn (n i : Nat) : 0 ≤ lm n i := by unfold lm; omega
theorem lm_lt (n i : Nat) : lm n i < B64 := by unfold lm B64; omega

/-- The eight cells of n. -/
def cells8 (n : Nat) : Array Value := #[.int .u64 (lm n 0), .int .u64 (lm n 1), .int .u64 (lm n 2), .int .u64 (lm n 3), .int .u64 (lm n 4), .int .u64 (lm n 5), .int .u64 (lm n 6), .int .u64 (lm n 7)]

/-- n as a value of eight limbs. -/
abbrev W (n : Nat) : Value := .agg (cells8 n)

/-- 2^512, written out. -/
def M : Nat := 13407807929942597099574024998205846127479365820592393377723561443721764030073546976801874298166903427690031858186486050853753882811946569946433649006084096
theorem M_pows (e f : Nat) (hf : f = 256) (he : e = f + f) : M = 2 ^ e := by
  subst he
  rw [Nat.pow_add]
  subst hf
  rfl
theorem M_pow8 : M = 2 ^ (64 * 8) := by
  generalize h : 64 * 8 = e
  exact M_pows e 256 rfl (h.symm.trans rfl)

/-- The carry behind k limbs of a sum, c coming in. -/
def cy (x y c k : Nat) : Int := (((x % 2 ^ (64 * k) + y % 2 ^ (64 * k) + c) / 2 ^ (64 * k) : Nat) : Int)

theorem cy_nn (x y c k : Nat) : 0 ≤ cy x y c k := by unfold cy; exact Int.natCast_nonneg _
theorem cy_le (x y c k : Nat) (hc : c ≤ 1) : cy x y c k ≤ 1 := by
  unfold cy
  have h1 : x % 2 ^ (64 * k) < 2 ^ (64 * k) := Nat.mod_lt _ (Nat.pow_pos (by decide))
  have h2 : y % 2 ^ (64 * k) < 2 ^ (64 * k) := Nat.mod_lt _ (Nat.pow_pos (by decide))
  have : (x % 2 ^ (64 * k) + y % 2 ^ (64 * k) + c) / 2 ^ (64 * k) < 2 := by
    rw [Nat.div_lt_iff_lt_mul (Nat.pow_pos (by decide))]; omega
  omega
theorem cy_zero (x y c : Nat) : cy x y c 0 = c := by simp [cy, Nat.mod_one]

theorem pow_step (k : Nat) : 2 ^ (64 * (k + 1)) = 2 ^ (64 * k) * 18446744073709551616 := by
  rw [show 64 * (k + 1) = 64 * k + 64 by omega, Nat.pow_add]

/-- What is below the limb k + 1 is what is below the limb k, and the limb k. -/
theorem mod_step (x k : Nat) : x % 2 ^ (64 * (k + 1)) = x % 2 ^ (64 * k) + 2 ^ (64 * k) * (x / 2 ^ (64 * k) % 18446744073709551616) := by
  rw [pow_step, Nat.mod_mul]

theorem sum_step (P a b x y c : Nat) (hP : 0 < P) :
    (a + P * x + (b + P * y) + c) / P = x + y + (a + b + c) / P := by
  rw [show a + P * x + (b + P * y) + c = (a + b + c) + P * (x + y) by rw [Nat.mul_add]; omega, Nat.add_mul_div_left _ _ hP]; omega

theorem cy_step (x y c k : Nat) : (lm x k + lm y k + cy x y c k) / B64 = cy x y c (k + 1) := by
  unfold lm cy B64
  have hP : 0 < 2 ^ (64 * k) := Nat.pow_pos (by decide)
  rw [mod_step x k, mod_step y k, pow_step, ← Nat.div_div_eq_div_mul, sum_step _ _ _ _ _ _ hP]
  omega

theorem lm_add (x y c k : Nat) : (lm x k + lm y k + cy x y c k) % B64 = lm (x + y + c) k := by
  unfold lm cy B64
  have hP : 0 < 2 ^ (64 * k) := Nat.pow_pos (by decide)
  have e : (x + y + c) / 2 ^ (64 * k) = x / 2 ^ (64 * k) + y / 2 ^ (64 * k) + (x % 2 ^ (64 * k) + y % 2 ^ (64 * k) + c) / 2 ^ (64 * k) := by
    have h1 := Nat.mod_add_div x (2 ^ (64 * k))
    have h2 := Nat.mod_add_div y (2 ^ (64 * k))
    rw [← sum_step _ _ _ _ _ _ hP, h1, h2]
  rw [e]
  omega

/-- A limb below the 512th bit does not hang on what is above. -/
theorem lm_mod (n i : Nat) (h : i < 8) : lm (n % M) i = lm n i := by
  unfold lm
  rw [M_pow8, show (2 : Nat) ^ (64 * 8) = 2 ^ (64 * i) * 2 ^ (64 * 8 - 64 * i) by rw [← Nat.pow_add]; congr 1; omega]
  rw [Nat.mod_mul_right_div_self]
  have : (18446744073709551616 : Nat) ∣ 2 ^ (64 * 8 - 64 * i) := by
    rw [show (18446744073709551616 : Nat) = 2 ^ 64 by decide]
    exact Nat.pow_dvd_pow 2 (by omega)
  rw [Nat.mod_mod_of_dvd _ this]

theorem W_mod (n : Nat) : W (n % M) = W n := by
  unfold W cells8
  simp only [lm_mod n _ (by decide : 0 < 8), lm_mod n _ (by decide : 1 < 8), lm_mod n _ (by decide : 2 < 8), lm_mod n _ (by decide : 3 < 8), lm_mod n _ (by decide : 4 < 8), lm_mod n _ (by decide : 5 < 8), lm_mod n _ (by decide : 6 < 8), lm_mod n _ (by decide : 7 < 8)]

theorem cells8_one (n : Nat) : (cells8 n).all (·.oneCell') = true := by
  simp [cells8, Value.oneCell']

theorem iLimbs : (Tryz.prog.info? 157).map (·.size) = some 8 := by kernel_rfl
theorem iWide : (Tryz.prog.info? 75).map (·.size) = some 8 := by kernel_rfl
theorem iArr : (Tryz.prog.info? 73).map (·.size) = some 8 := by kernel_rfl

/-- A whole number out of its block. -/
theorem ld8 {P : Program} {ops : Array Oper} {rest : List Oper} {o : Oper} {a : Act} {w : World} {Q : Exit → Act → World → Prop} (ty : TypeId) (x : Operand) {n g : Nat} {t : TypeId} {d : TypeDesc}
    (hg : Blk w g t (cells8 n)) (ho : o.op = .load ty x) (hgd : o.guard = none) (hx : a.eval x = .pointer (some ⟨g, 0, none⟩))
    (hu : P.underlying ty = some d) (hd : (match d with | .struct _ | .array _ _ => true | _ => false) = true) (hi : (P.info? ty).map (·.size) = some 8)
    (h : wpList P ops Q rest (a.put o.dst (.agg (cells8 n))) w) : wpList P ops Q (o :: rest) a w :=
  wpList_load_row hgd ty x ho g hx t (cells8 n) (0, 0) d hg hu hd hi h

/-- The same, where a guard says yes. -/
theorem ld8w {P : Program} {ops : Array Oper} {rest : List Oper} {o : Oper} {a : Act} {w : World} {Q : Exit → Act → World → Prop} (ty : TypeId) (x : Operand) {n g : Nat} {t : TypeId} {d : TypeDesc}
    (hg : Blk w g t (cells8 n)) (ho : o.op = .load ty x) (hgd : Region.wanted o (yielded ops a.tmps) = true) (hx : a.eval x = .pointer (some ⟨g, 0, none⟩))
    (hu : P.underlying ty = some d) (hd : (match d with | .struct _ | .array _ _ => true | _ => false) = true) (hi : (P.info? ty).map (·.size) = some 8)
    (h : wpList P ops Q rest (a.put o.dst (.agg (cells8 n))) w) : wpList P ops Q (o :: rest) a w :=
  by
    unfold wpList
    rw [if_pos hgd]
    exact .inl (wp_load_row ty x ho g hx t (cells8 n) (0, 0) d hg hu hd hi h)

/-- A whole number into a block of eight cells. -/
theorem st8 {P : Program} {ops : Array Oper} {rest : List Oper} {o : Oper} {a : Act} {w : World} {Q : Exit → Act → World → Prop} (ty : TypeId) (x y : Operand) {n g : Nat} {t : TypeId} {old : Array Value}
    (hg : Blk w g t old) (hold : old.size = 8) (ho : o.op = .store ty x y) (hgd : o.guard = none) (hx : a.eval x = .pointer (some ⟨g, 0, none⟩)) (hy : a.eval y = .agg (cells8 n))
    (hi : (P.info? ty).map (·.size) = some 8)
    (h : wpList P ops Q rest (a.put o.dst undef) (w.setRow g (cells8 n))) : wpList P ops Q (o :: rest) a w :=
  wpList_store_row hgd ty x y ho g (cells8 n) hx hy t old hg hi hold (cells8_one n) h

/-- A whole number into the block that was made last. -/
theorem st8new {P : Program} {ops : Array Oper} {rest : List Oper} {o : Oper} {a : Act} {w : World} {Q : Exit → Act → World → Prop} (ty : TypeId) (x y : Operand) {n : Nat} {t : TypeId} {old : Array Value}
    (hold : old.size = 8) (ho : o.op = .store ty x y) (hgd : o.guard = none) (hx : a.eval x = .pointer (some ⟨w.heap.size, 0, none⟩)) (hy : a.eval y = .agg (cells8 n))
    (hi : (P.info? ty).map (·.size) = some 8)
    (h : wpList P ops Q rest (a.put o.dst undef) (w.alloc (.cells (cells8 n) t))) : wpList P ops Q (o :: rest) a (w.alloc (.cells old t)) :=
  st8 ty x y (n := n) (Blk.new w t old) hold ho hgd hx hy hi (by rw [World.setRow_alloc_new]; exact h)

/-- A result that is a whole number, read out of its block. -/
theorem res8 {P : Program} {fn : Func} {R : Ending → World → Prop} {p : Tmp} {ty : TypeId} {a : Act} {w : World} {n g : Nat} {t : TypeId} {d : TypeDesc}
    (hg : Blk w g t (cells8 n)) (h : fn.results = #[.cell p ty]) (hp : a.tmps.getD p undef = .pointer (some ⟨g, 0, none⟩)) (hdf : a.defers = [])
    (hu : P.underlying ty = some d) (hd : (match d with | .struct _ | .array _ _ => true | _ => false) = true) (hi : (P.info? ty).map (·.size) = some 8)
    (hR : R (.returned (W n)) w) : bodyPost P fn R .ret a w :=
  bodyPost_ret (results_cell_row h _ w g t (cells8 n) (0, 0) d hp hg hu hd hi) hdf hR

theorem bWide (n : Nat) : Tryz.prog.built 75 [(0, .agg (cells8 n))] = some (cells8 n) := by kernel_rfl
theorem bWide0 : Tryz.prog.built 75 [] = some (cells8 0) := by kernel_rfl
theorem bLimbs0 : Tryz.prog.built 157 [] = some (cells8 0) := by kernel_rfl

theorem exec_build1 {P : Program} {o : Oper} {a : Act} (w : World) (ty : TypeId) (x : Operand) {v : Value} {cs : Array Value} (ho : o.op = .build ty #[(0, x)]) (hx : a.eval x = v) (hb : P.built ty [(0, v)] = some cs) :
    (execOp a.eval o).run P w = .ok (.value (.agg cs)) w := by
  subst hx
  unfold execOp
  simp only [ho, Sem.run_bind, run_build w ty (#[(0, x)].map fun (i, x) => (i, a.eval x)) cs (by simpa using hb), Result.andThen_ok, Sem.run_pure]
theorem exec_build0 {P : Program} {o : Oper} {a : Act} (w : World) (ty : TypeId) {cs : Array Value} (ho : o.op = .build ty #[]) (hb : P.built ty [] = some cs) :
    (execOp a.eval o).run P w = .ok (.value (.agg cs)) w := by
  unfold execOp
  simp only [ho, Sem.run_bind, run_build w ty (#[].map fun (i, x) => (i, a.eval x)) cs (by simpa using hb), Result.andThen_ok, Sem.run_pure]

/-- An operation that ends in a value and leaves the world as it was. -/
theorem wpList_value {P : Program} {ops : Array Oper} {rest : List Oper} {o : Oper} {a : Act} {w : World} {Q : Exit → Act → World → Prop} {v : Value} (hg : o.guard = none)
    (he : (execOp a.eval o).run P w = .ok (.value v) w) (h : wpList P ops Q rest (a.put o.dst v) w) : wpList P ops Q (o :: rest) a w :=
  wpList_plain hg fun K hK => by unfold Oper.wp; rw [he]; exact hK _ _ h

theorem bd1 {P : Program} {ops : Array Oper} {rest : List Oper} {o : Oper} {a : Act} {w : World} {Q : Exit → Act → World → Prop} (ty : TypeId) (x : Operand) {v : Value} {cs : Array Value} (ho : o.op = .build ty #[(0, x)]) (hg : o.guard = none) (hx : a.eval x = v) (hb : P.built ty [(0, v)] = some cs)
    (h : wpList P ops Q rest (a.put o.dst (.agg cs)) w) : wpList P ops Q (o :: rest) a w := wpList_value hg (exec_build1 w ty x ho hx hb) h
theorem bd0 {P : Program} {ops : Array Oper} {rest : List Oper} {o : Oper} {a : Act} {w : World} {Q : Exit → Act → World → Prop} (ty : TypeId) {cs : Array Value} (ho : o.op = .build ty #[]) (hg : o.guard = none) (hb : P.built ty [] = some cs)
    (h : wpList P ops Q rest (a.put o.dst (.agg cs)) w) : wpList P ops Q (o :: rest) a w := wpList_value hg (exec_build0 w ty ho hb) h

theorem exec_load8 {P : Program} {o : Oper} {a : Act} {w : World} (ty : TypeId) (x : Operand) {n g : Nat} {t : TypeId} {d : TypeDesc}
    (hg : Blk w g t (cells8 n)) (ho : o.op = .load ty x) (hx : a.eval x = .pointer (some ⟨g, 0, none⟩))
    (hu : P.underlying ty = some d) (hd : (match d with | .struct _ | .array _ _ => true | _ => false) = true) (hi : (P.info? ty).map (·.size) = some 8) :
    (execOp a.eval o).run P w = .ok (.value (.agg (cells8 n))) w := by
  unfold execOp
  simp only [ho, hx, Instr.loadAt, Instr.sureAddr, Sem.run_bind, Sem.run_pure, Result.andThen_ok, run_loadVar_row w g t ty (cells8 n) (0, 0) d hg hu hd hi]

end Go.Proofs.YtnemedgdhojhdaaGreat

namespace Go.Proofs.YtnemedgdhojhdaaGreat
open Go.RowKit
set_option maxRecDepth 4000

/-- Behind k rounds: limbs below k are s's, the others x's. -/
def mx (x s k j : Nat) : Int := if j < k then lm s j else lm x j

theorem mx_zero (x s j : Nat) : mx x s 0 j = lm x j := by simp [mx]
theorem mx_at (x s k : Nat) : mx x s k k = lm x k := by simp [mx]
theorem mx_full (x s j : Nat) (h : j < 8) : mx x s 8 j = lm s j := by simp [mx, h]
theorem mx_set (x s k : Nat) : mx x s (k + 1) k = lm s k := by simp [mx]
theorem mx_other (x s k j : Nat) (h : j ≠ k) : mx x s (k + 1) j = mx x s k j := by
  unfold mx
  by_cases h1 : j < k
  · rw [if_pos h1, if_pos (by omega)]
  · rw [if_neg h1, if_neg (by omega)]

def mix8 (x s k : Nat) : Array Value := #[.int .u64 (mx x s k 0), .int .u64 (mx x s k 1), .int .u64 (mx x s k 2), .int .u64 (mx x s k 3), .int .u64 (mx x s k 4), .int .u64 (mx x s k 5), .int .u64 (mx x s k 6), .int .u64 (mx x s k 7)]

theorem lt8 {k : Nat} (h : k < 8) : k = 0 ∨ k = 1 ∨ k = 2 ∨ k = 3 ∨ k = 4 ∨ k = 5 ∨ k = 6 ∨ k = 7 := by omega
theorem lm_zero (i : Nat) : lm 0 i = 0 := by simp [lm]
theorem cells8_0 : cells8 0 = #[.int .u64 0, .int .u64 0, .int .u64 0, .int .u64 0, .int .u64 0, .int .u64 0, .int .u64 0, .int .u64 0] := by simp only [cells8, lm_zero]
theorem mix8_zero (x s : Nat) : mix8 x s 0 = cells8 x := by simp only [mix8, mx_zero]; rfl
theorem mix8_full (x s : Nat) : mix8 x s 8 = cells8 s := by simp [mix8, cells8, mx_full]
theorem mix8_get (x s k j : Nat) (hj : j < 8) : (mix8 x s k)[j]? = some (.int .u64 (mx x s k j)) := by
  rcases lt8 hj with rfl | rfl | rfl | rfl | rfl | rfl | rfl | rfl <;> rfl
theorem cells8_get (x j : Nat) (hj : j < 8) : (cells8 x)[j]? = some (.int .u64 (lm x j)) := by
  rcases lt8 hj with rfl | rfl | rfl | rfl | rfl | rfl | rfl | rfl <;> rfl
theorem mix8_set (x s k : Nat) (hk : k < 8) : (mix8 x s k).setIfInBounds k (.int .u64 (lm s k)) = mix8 x s (k + 1) := by
  apply Array.ext_getElem?
  intro j
  rw [Array.getElem?_setIfInBounds]
  by_cases h8 : j < 8
  · rw [mix8_get _ _ _ _ h8]
    by_cases e : k = j
    · subst e; rw [if_pos rfl, if_pos (by exact hk), mix8_get _ _ _ _ h8, mx_set]
    · rw [if_neg e, mix8_get _ _ _ _ h8, mx_other _ _ _ _ (Ne.symm e)]
  · rw [if_neg (by omega), Array.getElem?_eq_none (by show 8 ≤ j; omega), Array.getElem?_eq_none (by show 8 ≤ j; omega)]

/-- What a round of the loop knows of the world: the blocks of x, y, the answer and the carry. -/
structure Round (w wr : World) (g x y yb s c k : Nat) : Prop where
  xb : Blk wr g 157 (mix8 x s k)
  yb : Blk wr (g + 1) 157 (cells8 yb)
  rb : Blk wr (g + 2) 157 (cells8 0)
  cb : Blk wr (g + 3) 72 #[.int .u64 (cy x y c k)]
  bl : Below g w wr

theorem Round.next {w wr : World} {g x y yb s c k : Nat} (h : Round w wr g x y yb s c k) (hk : k < 8) (v u : Int) (hv : v = lm s k) (hu : u = cy x y c (k + 1)) :
    Round w ((wr.setCell ⟨g + 3, 0, none⟩ (.int .u64 u)).setCell ⟨g, k, none⟩ (.int .u64 v)).drew g x y yb s c (k + 1) := by
  subst hv hu
  refine ⟨?_, ?_, ?_, ?_, ?_⟩
  · rw [← mix8_set _ _ _ hk]
    exact ((h.xb.other _ _ (by simp)).set k _).drew
  · exact ((h.yb.other _ _ (by simp)).other _ _ (by simp)).drew
  · exact ((h.rb.other _ _ (by simp)).other _ _ (by simp)).drew
  · exact ((h.cb.set 0 _).other _ _ (by simp)).drew
  · exact ((h.bl.setCell (by simp) _).setCell (by simp) _).drew

set_option maxHeartbeats 1000000 in
theorem plus_any (x y : Nat) (w : World) :
    Calls Tryz.prog 162 #[W x, W y] w fun e w' => e = .returned (.agg (cells8 (x + y))) ∧ Below w.heap.size w w' := by
  unfold W
  go_enter Tryz.func162, Tryz.ntmps162
  go_wp2_with (first | (go_at_call 178; refine (adder_any _ _).mono ?_; rintro e w' ⟨rfl, rfl⟩))
  go_loopw [8] (fun i wr => ∃ k : Nat, k ≤ 8 ∧ i = .int .i64 k ∧ Round w wr w.heap.size x y y (x + y) 0 k) (fun i _ => 8 - (intOf i).toNat)
  case atStart =>
    refine ⟨0, by omega, rfl, ?_, ?_, ?_, ?_, ?_⟩
    · rw [mix8_zero]; exact (((Blk.new w _ _).alloc _).alloc _).alloc _
    · exact ((Blk.at (by simp) rfl).alloc _).alloc _
    · exact (Blk.at (by simp) cells8_0.symm).alloc _
    · rw [cy_zero]; exact Blk.at (by simp) rfl
    · exact ((((Below.refl _ _).alloc (Nat.le_refl _) _).alloc (by simp) _).alloc (by simp; omega) _).alloc (by simp; omega) _
  case round =>
    obtain ⟨k, hk, rfl, R⟩ := hrel
    by_cases hlt : k < 8
    · have h1 := R.xb.cell k
      rw [mix8_get _ _ _ _ hlt, mx_at] at h1
      have h2 := R.yb.cell k
      rw [cells8_get _ _ hlt] at h2
      have h3 := R.xb.frozen k
      have h4 : wr.cell? ⟨w.heap.size + 1 + 1 + 1, 0, none⟩ = some (.int .u64 (cy x y 0 k)) := R.cb.cell 0
      have h5 : wr.frozen? ⟨w.heap.size + 1 + 1 + 1, 0, none⟩ = false := R.cb.frozen 0
      have hg : (k : Int) < 8 := by omega
      have HR : Hid (Round w wr w.heap.size x y y (x + y) 0 k) := R
      clear R
      go_wp2
      go_region_with (go_at_call 191; refine (adder1_any (lm x k) (lm y k) (cy x y 0 k) ⟨w.heap.size + 1 + 1 + 1, 0, none⟩ _ (lm_nn _ _) (lm_nn _ _) (cy_nn _ _ _ _) (cy_le _ _ _ _ (by decide)) ?_ ?_).mono ?_; exact h4; exact h5; rintro e w' ⟨rfl, rfl⟩)
      all_goals (
        go_wp2
        go_roundw
        case rel => exact ⟨k + 1, by omega, by go_num, HR.out.next hlt _ _ (by rw [lm_add]; rfl) (cy_step _ _ _ _)⟩
        case measure => simp [intOf]; omega)
    · have e8 : k = 8 := by omega
      subst e8
      have X := R.xb
      rw [mix8_full] at X
      have Y : Blk wr (w.heap.size + 1 + 1) 157 (cells8 0) := R.rb
      have HR : Hid (Round w wr w.heap.size x y y (x + y) 0 8) := R
      clear R
      have HX : Hid (Blk wr w.heap.size 157 (cells8 (x + y))) := X
      have HY : Hid (Blk wr (w.heap.size + 1 + 1) 157 (cells8 0)) := Y
      clear X Y
      go_wp2_with (first
        | refine ld8 157 _ HX.out rfl rfl rfl Tryz.underlying157 rfl iLimbs ?_
        | refine st8 (n := x + y) 157 _ _ HY.out rfl rfl rfl rfl rfl iLimbs ?_)
      exact res8 (HY.out.row _) rfl rfl rfl Tryz.underlying157 rfl iLimbs ⟨rfl, below_row HR.out.bl (by omega) _⟩


theorem u64_wrap_nat (n : Nat) (h : n < 18446744073709551616) : IntKind.u64.wrap (n : Int) = n := by
  simp [IntKind.wrap, IntKind.signed, IntKind.bits]
  omega
theorem bits_nn (op : BinOp) (a b : Int) : 0 ≤ bits op .u64 a b := by
  unfold bits
  rw [u64_wrap_nat _ (by exact BitVec.isLt _)]
  exact Int.natCast_nonneg _
theorem xor_all (a : Nat) (ha : a < 18446744073709551616) : bits .xor .u64 IntKind.u64.max (a : Int) = ((18446744073709551615 - a : Nat) : Int) := by
  have h : bits .xor .u64 IntKind.u64.max (a : Int) = IntKind.u64.wrap (((BitVec.ofInt 64 18446744073709551615 ^^^ BitVec.ofInt 64 (a : Int)).toNat : Nat) : Int) := rfl
  rw [h, u64_wrap_nat _ (BitVec.isLt _), show BitVec.ofInt 64 18446744073709551615 = BitVec.allOnes 64 from by decide, BitVec.ofInt_natCast, BitVec.allOnes_xor, BitVec.toNat_not, BitVec.toNat_ofNat]
  congr 1
  omega

/-- The complement of a number below P times Q, by P. -/
theorem cpl_div (P Q y : Nat) (hP : 0 < P) (hy : y < P * Q) : (P * Q - 1 - y) / P = Q - 1 - y / P := by
  have h1 := Nat.div_add_mod y P
  have h2 := Nat.mod_lt y hP
  have h3 : y / P < Q := Nat.div_lt_of_lt_mul hy
  generalize y / P = q at *
  generalize y % P = r at *
  have e : P * Q - 1 - y = (P - 1 - r) + P * (Q - 1 - q) := by
    have : P * Q = P * (Q - 1 - q) + P * q + P := by
      rw [← Nat.mul_add, ← Nat.mul_succ]; congr 1; omega
    omega
  rw [e, Nat.add_mul_div_left _ _ hP, Nat.div_eq_of_lt (by omega)]
  omega
theorem cpl_mod (Q q : Nat) (hq : q < 18446744073709551616 * Q) : (18446744073709551616 * Q - 1 - q) % 18446744073709551616 = 18446744073709551615 - q % 18446744073709551616 := by
  omega

theorem lm_cpl (y k : Nat) (hy : y < M) (hk : k < 8) : lm (M - 1 - y) k = ((18446744073709551615 - (y / 2 ^ (64 * k) % 18446744073709551616) : Nat) : Int) := by
  have hM : M = 2 ^ (64 * k) * (18446744073709551616 * 2 ^ (448 - 64 * k)) := by
    rw [M_pow8, show (18446744073709551616 : Nat) = 2 ^ 64 by decide, ← Nat.pow_add, ← Nat.pow_add]; congr 1; omega
  have hP : 0 < 2 ^ (64 * k) := Nat.pow_pos (by decide)
  unfold lm
  rw [hM] at hy ⊢
  rw [cpl_div _ _ _ hP hy, cpl_mod _ _ (Nat.div_lt_of_lt_mul hy)]

theorem xor_lm (y k : Nat) (hy : y < M) (hk : k < 8) : bits .xor .u64 IntKind.u64.max (lm y k) = lm (M - 1 - y) k := by
  rw [lm_cpl y k hy hk]
  exact xor_all _ (Nat.mod_lt _ (by decide))

set_option maxHeartbeats 1000000 in
theorem minus_core (x y y' : Nat) (hy : Hid (∀ k, k < 8 → bits .xor .u64 IntKind.u64.max (lm y k) = lm y' k)) (w : World) :
    Calls Tryz.prog 169 #[W x, W y] w fun e w' => e = .returned (.agg (cells8 (x + y' + 1))) ∧ Below w.heap.size w w' := by
  unfold W
  go_enter Tryz.func169, Tryz.ntmps169
  go_wp2_with (first | (go_at_call 178; refine (adder_any _ _).mono ?_; rintro e w' ⟨rfl, rfl⟩))
  go_loopw [8] (fun i wr => ∃ k : Nat, k ≤ 8 ∧ i = .int .i64 k ∧ Round w wr w.heap.size x y' y (x + y' + 1) 1 k) (fun i _ => 8 - (intOf i).toNat)
  case atStart =>
    refine ⟨0, by omega, rfl, ?_, ?_, ?_, ?_, ?_⟩
    · rw [mix8_zero]; exact (((Blk.new w _ _).alloc _).alloc _).alloc _
    · exact ((Blk.at (by simp) rfl).alloc _).alloc _
    · exact (Blk.at (by simp) cells8_0.symm).alloc _
    · rw [cy_zero]; exact Blk.at (by simp) rfl
    · exact ((((Below.refl _ _).alloc (Nat.le_refl _) _).alloc (by simp) _).alloc (by simp; omega) _).alloc (by simp; omega) _
  case round =>
    obtain ⟨k, hk, rfl, R⟩ := hrel
    by_cases hlt : k < 8
    · have h1 := R.xb.cell k
      rw [mix8_get _ _ _ _ hlt, mx_at] at h1
      have h2 := R.yb.cell k
      rw [cells8_get _ _ hlt] at h2
      have h3 := R.xb.frozen k
      have h4 : wr.cell? ⟨w.heap.size + 1 + 1 + 1, 0, none⟩ = some (.int .u64 (cy x y' 1 k)) := R.cb.cell 0
      have h5 : wr.frozen? ⟨w.heap.size + 1 + 1 + 1, 0, none⟩ = false := R.cb.frozen 0
      have hg : (k : Int) < 8 := by omega
      have HR : Hid (Round w wr w.heap.size x y' y (x + y' + 1) 1 k) := R
      clear R
      go_wp2
      go_region_with (go_at_call 191; refine (adder1_any (lm x k) _ (cy x y' 1 k) ⟨w.heap.size + 1 + 1 + 1, 0, none⟩ _ (lm_nn _ _) (bits_nn _ _ _) (cy_nn _ _ _ _) (cy_le _ _ _ _ (by decide)) ?_ ?_).mono ?_; exact h4; exact h5; rintro e w' ⟨rfl, rfl⟩)
      all_goals (
        go_wp2
        go_roundw
        case rel => exact ⟨k + 1, by omega, by go_num, HR.out.next hlt _ _ (by rw [hy.out k hlt, lm_add]) (by rw [hy.out k hlt, cy_step])⟩
        case measure => simp [intOf]; omega)
    · have e8 : k = 8 := by omega
      subst e8
      have X := R.xb
      rw [mix8_full] at X
      have Y : Blk wr (w.heap.size + 1 + 1) 157 (cells8 0) := R.rb
      have HR : Hid (Round w wr w.heap.size x y' y (x + y' + 1) 1 8) := R
      clear R
      have HX : Hid (Blk wr w.heap.size 157 (cells8 (x + y' + 1))) := X
      have HY : Hid (Blk wr (w.heap.size + 1 + 1) 157 (cells8 0)) := Y
      clear X Y
      go_wp2_with (first
        | refine ld8 157 _ HX.out rfl rfl rfl Tryz.underlying157 rfl iLimbs ?_
        | refine st8 (n := x + y' + 1) 157 _ _ HY.out rfl rfl rfl rfl rfl iLimbs ?_)
      exact res8 (HY.out.row _) rfl rfl rfl Tryz.underlying157 rfl iLimbs ⟨rfl, below_row HR.out.bl (by omega) _⟩

end Go.Proofs.YtnemedgdhojhdaaGreat

namespace Go.Proofs.YtnemedgdhojhdaaGreat
open Go.RowKit
set_option maxRecDepth 4000

/-- Is the number below 0, of which n is the form? -/
def neg (n : Nat) : Bool := decide (M / 2 ≤ n % M)

theorem and_bit (a i : Nat) : a &&& 2 ^ i = if a.testBit i then 2 ^ i else 0 := by
  apply Nat.eq_of_testBit_eq
  intro j
  rw [Nat.testBit_and, Nat.testBit_two_pow]
  by_cases e : i = j
  · subst e
    cases h : a.testBit i <;> simp
  · cases h : a.testBit i <;> simp [e]
theorem and_top (a : Nat) (ha : a < 18446744073709551616) : bits .and .u64 (a : Int) 9223372036854775808 = if 9223372036854775808 ≤ a then 9223372036854775808 else 0 := by
  have h : bits .and .u64 (a : Int) 9223372036854775808 = IntKind.u64.wrap (((BitVec.ofInt 64 (a : Int) &&& BitVec.ofInt 64 9223372036854775808).toNat : Nat) : Int) := rfl
  rw [h, u64_wrap_nat _ (BitVec.isLt _), BitVec.ofInt_natCast, BitVec.toNat_and, show (BitVec.ofInt 64 9223372036854775808).toNat = 2 ^ 63 from by decide, BitVec.toNat_ofNat, Nat.mod_eq_of_lt ha, and_bit]
  have e : a.testBit 63 = decide (9223372036854775808 ≤ a) := by
    rw [Nat.testBit_eq_decide_div_mod_eq]
    congr 1
    rw [show (2 : Nat) ^ 63 = 9223372036854775808 by decide]
    apply propext
    omega
  rw [e]
  by_cases hle : 9223372036854775808 ≤ a
  · simp [hle]
  · simp [hle]

theorem pow64_pos (k : Nat) : 0 < 2 ^ (64 * k) := Nat.pow_pos (by decide)
theorem M_pow (k : Nat) (hk : k < 8) : M = 2 ^ (64 * k) * (18446744073709551616 * 2 ^ (448 - 64 * k)) := by
  rw [M_pow8, show (18446744073709551616 : Nat) = 2 ^ 64 by decide, ← Nat.pow_add, ← Nat.pow_add]; congr 1; omega
theorem top_half (P m : Nat) (hP : 0 < P) (hM : M = P * 18446744073709551616) : (M / 2 ≤ m) ↔ 9223372036854775808 ≤ m / P := by
  rw [Nat.le_div_iff_mul_le hP, hM]
  omega
theorem lm_top (n P : Nat) (hPe : P = 2 ^ (64 * 7)) (hP : 0 < P) (hM : M = P * 18446744073709551616) : lm n 7 = ((n % M / P : Nat) : Int) := by
  rw [← lm_mod n 7 (by decide)]
  unfold lm
  rw [← hPe]
  congr 1
  apply Nat.mod_eq_of_lt
  rw [Nat.div_lt_iff_lt_mul hP, Nat.mul_comm, ← hM]
  exact Nat.mod_lt _ (by decide)
theorem neg_top (n : Nat) : neg n = decide (9223372036854775808 ≤ lm n 7) := by
  obtain ⟨P, hPe⟩ : ∃ P, P = 2 ^ (64 * 7) := ⟨_, rfl⟩
  have hP : 0 < P := by rw [hPe]; exact pow64_pos 7
  have hM : M = P * 18446744073709551616 := by rw [M_pow 7 (by decide), ← hPe]
  unfold neg
  rw [lm_top n P hPe hP hM]
  congr 1
  apply propext
  rw [top_half P _ hP hM]
  omega

theorem neg_bits (n : Nat) : (bits .and .u64 (lm n 7) 9223372036854775808 != 0) = neg n := by
  rw [neg_top]
  have h1 := lm_nn n 7
  have h2 := lm_lt n 7
  unfold B64 at h2
  obtain ⟨k, hk⟩ := Int.eq_ofNat_of_zero_le h1
  rw [hk] at h2 ⊢
  rw [and_top k (by omega)]
  by_cases h : 9223372036854775808 ≤ k
  · rw [if_pos h]; simp; omega
  · rw [if_neg h]; simp; omega

theorem below_any (n : Nat) (w : World) :
    Calls Tryz.prog 154 #[W n] w fun e w' => e = .returned (.bool (neg n)) ∧ w' = w.alloc (.cells (cells8 n) 75) := by
  unfold W
  have h7 : ∀ (w : World), (w.alloc (.cells (cells8 n) 75)).cell? ⟨w.heap.size, 7, none⟩ = some (.int .u64 (lm n 7)) := fun w => (Blk.new w 75 (cells8 n)).cell 7
  have hb := neg_bits n
  go_enter Tryz.func154, Tryz.ntmps154
  go_wp2
  go_ret
  exact ⟨rfl, rfl⟩

theorem below_below (n : Nat) (w : World) :
    Calls Tryz.prog 154 #[W n] w fun e w' => e = .returned (.bool (neg n)) ∧ Below w.heap.size w w' :=
  (below_any n w).mono fun _ _ ⟨he, hw⟩ => ⟨he, by subst hw; exact (Below.refl _ _).alloc (Nat.le_refl _) _⟩

/-- What sum and difference know while they ask for signs. -/
structure Three (w0 : World) (g ga gb gc a b c : Nat) (w : World) : Prop where
  a : Blk w ga 75 (cells8 a)
  b : Blk w gb 75 (cells8 b)
  c : Blk w gc 75 (cells8 c)
  r : Blk w (g + 1 + 1) 75 (cells8 0)
  o : Below g w0 w
theorem Three.keep {w0 w w' : World} {g ga gb gc a b c : Nat} (h : Three w0 g ga gb gc a b c w) (hb : Below w.heap.size w w') (hg : g ≤ w.heap.size) : Three w0 g ga gb gc a b c w' :=
  ⟨h.a.below hb h.a.lt, h.b.below hb h.b.lt, h.c.below hb h.c.lt, h.r.below hb h.r.lt, h.o.trans (hb.mono hg)⟩

theorem Three.start {w w' : World} {a b c : Nat} {z : Obj} (hz : z = .cells (cells8 0) 75) (hb : Below (((w.alloc (.cells (cells8 a) 75)).alloc (.cells (cells8 b) 75)).alloc z).heap.size (((w.alloc (.cells (cells8 a) 75)).alloc (.cells (cells8 b) 75)).alloc z) w') :
    Three w w.heap.size w.heap.size (w.heap.size + 1) w'.heap.size a b c (w'.alloc (.cells (cells8 c) 75)).drew := by
  subst hz
  have h3 := below3 w (.cells (cells8 a) 75) (.cells (cells8 b) 75) (.cells (cells8 0) 75)
  have hs : w.heap.size ≤ w'.heap.size := by have := hb.size; simp at this; omega
  exact ⟨((Blk.first3 w _ _ _ _).below hb (Blk.first3 w _ _ _ _).lt).alloc _, ((Blk.second3 w _ _ _ _).below hb (Blk.second3 w _ _ _ _).lt).alloc _, Blk.new _ _ _, ((Blk.third3 w _ _ _ _).below hb (Blk.third3 w _ _ _ _).lt).alloc _,
    ((h3.trans (hb.mono (by simp; omega))).alloc hs _).drew⟩

/-- What leaves by panic where there is no answer. -/
def noAnswer : List PanicEntry := [{ v := .iface 9 (.string ⟨#[119, 105, 100, 101, 58, 32, 110, 111, 32, 97, 110, 115, 119, 101, 114]⟩), recovered := false }]
/-- A number, or the panic. -/
def Ends (bad : Bool) (n : Nat) (e : Ending) : Prop := e = if bad then .panicked noAnswer else .returned (.agg (cells8 n))

set_option maxHeartbeats 1000000 in
theorem sum_any (a b : Nat) (w : World) :
    Calls Tryz.prog 131 #[W a, W b] w fun e w' => Ends (neg a == neg b && !(neg (a + b) == neg a)) (a + b) e ∧ Below w.heap.size w w' := by
  unfold W
  go_enter Tryz.func131, Tryz.ntmps131
  go_wp2_with (first
    | refine ld8 73 (.tmp 6) (Blk.first3 _ _ _ _ _) rfl rfl rfl Tryz.underlying73 rfl iArr ?_
    | refine ld8 73 (.tmp 8) (Blk.second3 _ _ _ _ _) rfl rfl rfl Tryz.underlying73 rfl iArr ?_
    | refine bd1 75 (.tmp 10) rfl rfl rfl (bWide (a + b)) ?_
    | refine st8new (n := a + b) 75 (.tmp 5) (.tmp 11) rfl rfl rfl rfl rfl iWide ?_
    | (go_at_call 162; refine (plus_any a b _).mono ?_; rintro e w' ⟨he, hb⟩; subst he))
  have hsz : w.heap.size ≤ w'.heap.size := by have := hb.size; simp at this; omega
  refine region_plan (S := Three w w.heap.size w.heap.size (w.heap.size + 1) w'.heap.size a b (a + b)) (l := [0, 1, 2, 3, 4, 5, 6, 7, 8, 9, 10, 11]) (by kernel_rfl) (by kernel_rfl) (by kernel_rfl) (by kernel_rfl) (by kernel_rfl) (by kernel_rfl) (by kernel_rfl) ?_ ?_
  · exact Three.start (by rw [cells8_0]) hb
  have keep : ∀ {u u' : World}, Three w w.heap.size w.heap.size (w.heap.size + 1) w'.heap.size a b (a + b) u → Below u.heap.size u u' → Three w w.heap.size w.heap.size (w.heap.size + 1) w'.heap.size a b (a + b) u' := fun h hb => h.keep hb (Nat.le_of_lt h.a.lt)
  have K : Hid (∀ {u u' : World}, Three w w.heap.size w.heap.size (w.heap.size + 1) w'.heap.size a b (a + b) u → Below u.heap.size u u' → Three w w.heap.size w.heap.size (w.heap.size + 1) w'.heap.size a b (a + b) u') := keep
  clear keep hb
  refine plan_read rfl rfl (fun w hS => exec_load8 75 (.tmp 2) hS.a rfl rfl Tryz.underlying75 rfl iWide) ?_
  refine plan_call (v := .bool (neg a)) (f := 154) (args := #[W a]) rfl rfl (fun w hS => by go_simp) (fun w hS => (below_below a w).mono fun _ _ ⟨he, hb⟩ => ⟨he, K.out hS hb⟩) ?_
  refine plan_read rfl rfl (fun w hS => exec_load8 75 (.tmp 3) hS.b rfl rfl Tryz.underlying75 rfl iWide) ?_
  refine plan_call (v := .bool (neg b)) (f := 154) (args := #[W b]) rfl rfl (fun w hS => by go_simp) (fun w hS => (below_below b w).mono fun _ _ ⟨he, hb⟩ => ⟨he, K.out hS hb⟩) ?_
  refine plan_read (v := .bool (neg a == neg b)) rfl rfl (fun w hS => by go_simp) ?_
  refine plan_read (v := .bool (neg a == neg b)) rfl rfl (fun w hS => by go_simp) ?_
  cases t : (neg a == neg b)
  · go_simp
    refine plan_skip rfl rfl ?_
    refine plan_skip rfl rfl ?_
    refine plan_skip rfl rfl ?_
    refine plan_skip rfl rfl ?_
    refine plan_skip rfl rfl ?_
    refine plan_read (v := .bool false) rfl rfl (fun w hS => by go_simp) ?_
    refine plan_end (fun u hS => ?_)
    go_simp
    have HC := hide hS.c
    have HR := hide hS.r
    have HO := hide hS.o
    clear hS K
    go_wp2_with (first
      | refine ld8 75 (.tmp 5) (unhide HC) rfl rfl rfl Tryz.underlying75 rfl iWide ?_
      | refine st8 (n := a + b) 75 (.tmp 4) (.tmp 25) (unhide HR) rfl rfl rfl rfl rfl iWide ?_)
    exact res8 ((unhide HR).row _) rfl rfl rfl Tryz.underlying75 rfl iWide ⟨by simp [Ends, t], below_row (unhide HO) (by omega) _⟩
  · go_simp
    refine plan_read rfl rfl (fun w hS => exec_load8 75 (.tmp 5) hS.c rfl rfl Tryz.underlying75 rfl iWide) ?_
    refine plan_call (v := .bool (neg (a + b))) (f := 154) (args := #[W (a + b)]) rfl rfl (fun w hS => by go_simp) (fun w hS => (below_below (a + b) w).mono fun _ _ ⟨he, hb⟩ => ⟨he, K.out hS hb⟩) ?_
    refine plan_read rfl rfl (fun w hS => exec_load8 75 (.tmp 2) hS.a rfl rfl Tryz.underlying75 rfl iWide) ?_
    refine plan_call (v := .bool (neg a)) (f := 154) (args := #[W a]) rfl rfl (fun w hS => by go_simp) (fun w hS => (below_below a w).mono fun _ _ ⟨he, hb⟩ => ⟨he, K.out hS hb⟩) ?_
    refine plan_read (v := .bool (!(neg (a + b) == neg a))) rfl rfl (fun w hS => by go_simp) ?_
    refine plan_read (v := .bool (!(neg (a + b) == neg a))) rfl rfl (fun w hS => by go_simp) ?_
    cases t2 : (neg (a + b) == neg a)
    · refine plan_end (fun u hS => ?_)
      go_simp
      have HO := hide hS.o
      clear hS K
      go_wp2
      exact ⟨rfl, by simp [Ends, t, t2, noAnswer], unhide HO⟩
    · refine plan_end (fun u hS => ?_)
      go_simp
      have HC := hide hS.c
      have HR := hide hS.r
      have HO := hide hS.o
      clear hS K
      go_wp2_with (first
        | refine ld8 75 (.tmp 5) (unhide HC) rfl rfl rfl Tryz.underlying75 rfl iWide ?_
        | refine st8 (n := a + b) 75 (.tmp 4) (.tmp 25) (unhide HR) rfl rfl rfl rfl rfl iWide ?_)
      exact res8 ((unhide HR).row _) rfl rfl rfl Tryz.underlying75 rfl iWide ⟨by simp [Ends, t, t2], below_row (unhide HO) (by omega) _⟩

set_option maxHeartbeats 1000000 in
theorem difference_core (a b y' : Nat) (hy : Hid (∀ k, k < 8 → bits .xor .u64 IntKind.u64.max (lm b k) = lm y' k)) (w : World) :
    Calls Tryz.prog 209 #[W a, W b] w fun e w' => Ends (!(neg a == neg b) && !(neg (a + y' + 1) == neg a)) (a + y' + 1) e ∧ Below w.heap.size w w' := by
  unfold W
  go_enter Tryz.func209, Tryz.ntmps209
  go_wp2_with (first
    | refine ld8 73 (.tmp 6) (Blk.first3 _ _ _ _ _) rfl rfl rfl Tryz.underlying73 rfl iArr ?_
    | refine ld8 73 (.tmp 8) (Blk.second3 _ _ _ _ _) rfl rfl rfl Tryz.underlying73 rfl iArr ?_
    | refine bd1 75 (.tmp 10) rfl rfl rfl (bWide (a + y' + 1)) ?_
    | refine st8new (n := a + y' + 1) 75 (.tmp 5) (.tmp 11) rfl rfl rfl rfl rfl iWide ?_
    | (go_at_call 169; refine (minus_core a b y' hy _).mono ?_; rintro e w' ⟨he, hb⟩; subst he))
  have hsz : w.heap.size ≤ w'.heap.size := by have := hb.size; simp at this; omega
  refine region_plan (S := Three w w.heap.size w.heap.size (w.heap.size + 1) w'.heap.size a b (a + y' + 1)) (l := [0, 1, 2, 3, 4, 5, 6, 7, 8, 9, 10, 11]) (by kernel_rfl) (by kernel_rfl) (by kernel_rfl) (by kernel_rfl) (by kernel_rfl) (by kernel_rfl) (by kernel_rfl) ?_ ?_
  · exact Three.start (by rw [cells8_0]) hb
  have keep : ∀ {u u' : World}, Three w w.heap.size w.heap.size (w.heap.size + 1) w'.heap.size a b (a + y' + 1) u → Below u.heap.size u u' → Three w w.heap.size w.heap.size (w.heap.size + 1) w'.heap.size a b (a + y' + 1) u' := fun h hb => h.keep hb (Nat.le_of_lt h.a.lt)
  have K : Hid (∀ {u u' : World}, Three w w.heap.size w.heap.size (w.heap.size + 1) w'.heap.size a b (a + y' + 1) u → Below u.heap.size u u' → Three w w.heap.size w.heap.size (w.heap.size + 1) w'.heap.size a b (a + y' + 1) u') := keep
  clear keep hb
  refine plan_read rfl rfl (fun w hS => exec_load8 75 (.tmp 2) hS.a rfl rfl Tryz.underlying75 rfl iWide) ?_
  refine plan_call (v := .bool (neg a)) (f := 154) (args := #[W a]) rfl rfl (fun w hS => by go_simp) (fun w hS => (below_below a w).mono fun _ _ ⟨he, hb⟩ => ⟨he, K.out hS hb⟩) ?_
  refine plan_read rfl rfl (fun w hS => exec_load8 75 (.tmp 3) hS.b rfl rfl Tryz.underlying75 rfl iWide) ?_
  refine plan_call (v := .bool (neg b)) (f := 154) (args := #[W b]) rfl rfl (fun w hS => by go_simp) (fun w hS => (below_below b w).mono fun _ _ ⟨he, hb⟩ => ⟨he, K.out hS hb⟩) ?_
  refine plan_read (v := .bool (!(neg a == neg b))) rfl rfl (fun w hS => by go_simp) ?_
  refine plan_read (v := .bool (!(neg a == neg b))) rfl rfl (fun w hS => by go_simp) ?_
  cases t : (!(neg a == neg b))
  · go_simp
    refine plan_skip rfl rfl ?_
    refine plan_skip rfl rfl ?_
    refine plan_skip rfl rfl ?_
    refine plan_skip rfl rfl ?_
    refine plan_skip rfl rfl ?_
    refine plan_read (v := .bool false) rfl rfl (fun w hS => by go_simp) ?_
    refine plan_end (fun u hS => ?_)
    go_simp
    have HC := hide hS.c
    have HR := hide hS.r
    have HO := hide hS.o
    clear hS K
    go_wp2_with (first
      | refine ld8 75 (.tmp 5) (unhide HC) rfl rfl rfl Tryz.underlying75 rfl iWide ?_
      | refine st8 (n := a + y' + 1) 75 (.tmp 4) (.tmp 25) (unhide HR) rfl rfl rfl rfl rfl iWide ?_)
    exact res8 ((unhide HR).row _) rfl rfl rfl Tryz.underlying75 rfl iWide ⟨by simp [Ends, t], below_row (unhide HO) (by omega) _⟩
  · go_simp
    refine plan_read rfl rfl (fun w hS => exec_load8 75 (.tmp 5) hS.c rfl rfl Tryz.underlying75 rfl iWide) ?_
    refine plan_call (v := .bool (neg (a + y' + 1))) (f := 154) (args := #[W (a + y' + 1)]) rfl rfl (fun w hS => by go_simp) (fun w hS => (below_below (a + y' + 1) w).mono fun _ _ ⟨he, hb⟩ => ⟨he, K.out hS hb⟩) ?_
    refine plan_read rfl rfl (fun w hS => exec_load8 75 (.tmp 2) hS.a rfl rfl Tryz.underlying75 rfl iWide) ?_
    refine plan_call (v := .bool (neg a)) (f := 154) (args := #[W a]) rfl rfl (fun w hS => by go_simp) (fun w hS => (below_below a w).mono fun _ _ ⟨he, hb⟩ => ⟨he, K.out hS hb⟩) ?_
    refine plan_read (v := .bool (!(neg (a + y' + 1) == neg a))) rfl rfl (fun w hS => by go_simp) ?_
    refine plan_read (v := .bool (!(neg (a + y' + 1) == neg a))) rfl rfl (fun w hS => by go_simp) ?_
    cases t2 : (neg (a + y' + 1) == neg a)
    · refine plan_end (fun u hS => ?_)
      go_simp
      have HO := hide hS.o
      clear hS K
      go_wp2
      exact ⟨rfl, by simp [Ends, t, t2, noAnswer], unhide HO⟩
    · refine plan_end (fun u hS => ?_)
      go_simp
      have HC := hide hS.c
      have HR := hide hS.r
      have HO := hide hS.o
      clear hS K
      go_wp2_with (first
        | refine ld8 75 (.tmp 5) (unhide HC) rfl rfl rfl Tryz.underlying75 rfl iWide ?_
        | refine st8 (n := a + y' + 1) 75 (.tmp 4) (.tmp 25) (unhide HR) rfl rfl rfl rfl rfl iWide ?_)
      exact res8 ((unhide HR).row _) rfl rfl rfl Tryz.underlying75 rfl iWide ⟨by simp [Ends, t, t2], below_row (unhide HO) (by omega) _⟩

end Go.Proofs.YtnemedgdhojhdaaGreat

namespace Go.Proofs.YtnemedgdhojhdaaGreat
open Go.RowKit
set_option maxRecDepth 4000

theorem part_u64 (n i : Nat) (hi : i < 8) (w : World) : (part 72 (cells8 n) i).run Tryz.prog w = .ok (.int .u64 (lm n i)) w := by
  unfold part
  have hagg : (isAgg 72).run Tryz.prog w = .ok false w := by
    unfold isAgg
    rw [Sem.run_bind, run_underlying Tryz.underlying72 w]
    rfl
  simp only [Sem.run_bind, hagg, Result.andThen_ok, Bool.false_eq_true, if_false, cells8_get n i hi, Sem.run_pure]

theorem size_u64 (w : World) : (sizeOf 72).run Tryz.prog w = .ok 1 w := by
  have h : (Tryz.prog.info? 72).map (·.size) = some 1 := by kernel_rfl
  cases hq : Tryz.prog.info? 72 with
  | none => simp [hq] at h
  | some i => simp [hq] at h; simp [sizeOf, typeInfo, hq, h]

theorem eq_arr (t : TypeId) (ht : Tryz.prog.underlying t = some (.array 8 72)) (D n m : Nat)
    (hE : ∀ (w : World) (a b : Int), (Op.equalIn D 72 (.int .u64 a) (.int .u64 b)).run Tryz.prog w = .ok (a == b) w) (w : World) :
    (Op.equalIn (D + 1) t (.agg (cells8 n)) (.agg (cells8 m))).run Tryz.prog w = .ok ((List.range 8).all fun i => lm n i == lm m i) w := by
  simp only [Op.equalIn, Sem.run_bind, run_underlying ht, Result.andThen_ok, size_u64]
  rw [List.range_eq_range']
  simp only [Std.Legacy.Range.forIn_eq_forIn_range', Nat.mul_one, Std.Legacy.Range.size, Nat.sub_zero, Nat.add_sub_cancel, Nat.div_one]
  have key : ∀ (l : List Nat), (∀ i ∈ l, i < 8) → ∀ w, (forIn l (none, ()) (fun i (s : Option Bool × Unit) => (do
      let a ← part 72 (cells8 n) i
      let b ← part 72 (cells8 m) i
      let c ← Op.equalIn D 72 a b
      if (!c) = true then pure (ForInStep.done (some false, ())) else pure (ForInStep.yield (none, ())) : Sem (ForInStep (Option Bool × Unit))))).run Tryz.prog w =
      .ok (if l.all (fun i => lm n i == lm m i) then (none, ()) else (some false, ())) w := by
    intro l
    induction l with
    | nil => intro _ w; rfl
    | cons i l ih =>
      intro hl w
      have hi : i < 8 := hl i (by simp)
      simp only [List.forIn_cons, Sem.run_bind, part_u64 _ _ hi, Result.andThen_ok, hE]
      cases e : (lm n i == lm m i)
      · simp only [Bool.not_false, if_true, Sem.run_pure, Result.andThen_ok, List.all_cons, e, Bool.false_and, Bool.false_eq_true, if_false]
      · simp only [Bool.not_true, Bool.false_eq_true, if_false, Sem.run_pure, Result.andThen_ok, List.all_cons, e, Bool.true_and]
        exact ih (fun k hk => hl k (by simp [hk])) w
  rw [key _ (by decide) w]
  cases e : ((List.range' 0 8).all fun i => lm n i == lm m i)
  · simp
  · simp

/-- Numbers whose first k limbs are the same are the same modulo 2^(64 k). -/
theorem mod_of_limbs (n m : Nat) : ∀ k, (∀ i, i < k → lm n i = lm m i) → n % 2 ^ (64 * k) = m % 2 ^ (64 * k)
  | 0, _ => by simp [Nat.mod_one]
  | k + 1, h => by
    have h1 := mod_of_limbs n m k fun i hi => h i (by omega)
    have h2 := h k (by omega)
    unfold lm at h2
    rw [mod_step, mod_step, h1, Int.ofNat_inj.1 h2]
theorem eq8_mod (n m : Nat) : ((List.range 8).all fun i => lm n i == lm m i) = decide (n % M = m % M) := by
  rw [Bool.eq_iff_iff]
  simp only [List.all_eq_true, List.mem_range, beq_iff_eq, decide_eq_true_eq]
  constructor
  · intro h
    rw [M_pow8]
    exact mod_of_limbs n m 8 h
  · intro h i hi
    rw [← lm_mod n i hi, ← lm_mod m i hi, h]

theorem run_limbs (n m : Nat) (w : World) : (Op.equalIn 10000 157 (.agg (cells8 n)) (.agg (cells8 m))).run Tryz.prog w = .ok (decide (n % M = m % M)) w := by
  rw [show (10000 : Nat) = 9998 + 1 + 1 from rfl, eq_arr 157 Tryz.underlying157 _ n m (fun w a b => run_equalIn_int w 9998 72 _ _ _ _ Tryz.underlying72) w, eq8_mod]

theorem part_L (n : Nat) (w : World) : (part 73 (cells8 n) 0).run Tryz.prog w = .ok (.agg (cells8 n)) w := by
  unfold part
  have hagg : (isAgg 73).run Tryz.prog w = .ok true w := by
    unfold isAgg
    rw [Sem.run_bind, run_underlying Tryz.underlying73 w]
    rfl
  have hsz : (sizeOf 73).run Tryz.prog w = .ok 8 w := by
    have h := iArr
    cases hq : Tryz.prog.info? 73 with
    | none => simp [hq] at h
    | some i => simp [hq] at h; simp [sizeOf, typeInfo, hq, h]
  simp only [Sem.run_bind, hagg, Result.andThen_ok, if_true, hsz, Sem.run_pure]
  rfl

theorem run_wide (n m : Nat) (w : World) : (Op.equalIn 10000 75 (.agg (cells8 n)) (.agg (cells8 m))).run Tryz.prog w = .ok (decide (n % M = m % M)) w := by
  have hf : ((Tryz.prog.fieldsOf 75).toList.map fun f => (f.name, f.type, f.offset)) = [("L", 73, 0)] := by kernel_rfl
  obtain ⟨f, hl, h1, h2, h3⟩ : ∃ f, (Tryz.prog.fieldsOf 75).toList = [f] ∧ f.name = "L" ∧ f.type = 73 ∧ f.offset = 0 := by
    cases hq : (Tryz.prog.fieldsOf 75).toList with
    | nil => rw [hq] at hf; cases hf
    | cons f r =>
      rw [hq] at hf
      simp only [List.map_cons, List.cons.injEq, Prod.mk.injEq, List.map_eq_nil_iff] at hf
      obtain ⟨⟨h1, h2, h3⟩, h4⟩ := hf
      subst h4
      exact ⟨f, rfl, h1, h2, h3⟩
  rw [show (10000 : Nat) = 9997 + 1 + 1 + 1 from rfl, run_equalIn_struct w _ 75 _ _ (by kernel_rfl) (by kernel_rfl), hl]
  have hE := eq_arr 73 Tryz.underlying73 _ n m (fun w a b => run_equalIn_int w 9997 72 _ _ _ _ Tryz.underlying72)
  have hne : f.name ≠ "_" := by rw [h1]; decide
  simp only [Op.eqFields, if_pos hne, h2, h3, Sem.run_bind, part_L, Result.andThen_ok, hE, eq8_mod]
  cases e : decide (n % M = m % M)
  · simp
  · simp

theorem glimbs : Tryz.prog.eqGuardType Tryz.prog.depth 157 = false := by kernel_rfl
theorem gWide : Tryz.prog.eqGuardType Tryz.prog.depth 75 = false := by kernel_rfl

/-- The two numbers have the same limbs. -/
def same (n m : Nat) : Bool := decide (n % M = m % M)

section
variable {o : Oper} {a : Act} (w : World) (x y : Operand) {n m : Nat} {ty' : TypeId}
theorem exec_neq_limbs (ho : o.op = .binOp .neq 157 x y ty') (hx : a.eval x = .agg (cells8 n)) (hy : a.eval y = .agg (cells8 m)) : (execOp a.eval o).run Tryz.prog w = .ok (.value (.bool (!same n m))) w := by
  unfold execOp
  simp only [ho, hx, hy, Sem.run_bind, run_eqGuard_agg w _ 157 _ _ _ _ glimbs, run_neq_struct, run_limbs, Result.andThen_ok, Sem.run_pure, same]
theorem exec_eql_wide (ho : o.op = .binOp .eql 75 x y ty') (hx : a.eval x = .agg (cells8 n)) (hy : a.eval y = .agg (cells8 m)) : (execOp a.eval o).run Tryz.prog w = .ok (.value (.bool (same n m))) w := by
  unfold execOp
  simp only [ho, hx, hy, Sem.run_bind, run_eqGuard_agg w _ 75 _ _ _ _ gWide, run_eql_struct, run_wide, Result.andThen_ok, Sem.run_pure, same]
theorem exec_neq_wide (ho : o.op = .binOp .neq 75 x y ty') (hx : a.eval x = .agg (cells8 n)) (hy : a.eval y = .agg (cells8 m)) : (execOp a.eval o).run Tryz.prog w = .ok (.value (.bool (!same n m))) w := by
  unfold execOp
  simp only [ho, hx, hy, Sem.run_bind, run_eqGuard_agg w _ 75 _ _ _ _ gWide, run_neq_struct, run_wide, Result.andThen_ok, Sem.run_pure, same]
end

end Go.Proofs.YtnemedgdhojhdaaGreat

namespace Go.Proofs.YtnemedgdhojhdaaGreat
open Go.RowKit
set_option maxRecDepth 4000

/-- x against y by the limbs below k, from above. -/
def cmpTo (x y : Nat) : Nat → Int
  | 0 => 0
  | k + 1 => if lm x k < lm y k then -1 else if lm y k < lm x k then 1 else cmpTo x y k
/-- How many of the limbs below k there are up to the highest one that is not 0. -/
def usedTo (x : Nat) : Nat → Nat
  | 0 => 0
  | k + 1 => if lm x k = 0 then usedTo x k else k + 1
theorem usedTo_le (x : Nat) : ∀ k, usedTo x k ≤ k
  | 0 => Nat.le_refl _
  | k + 1 => by
    unfold usedTo
    split
    · have := usedTo_le x k; omega
    · exact Nat.le_refl _

set_option maxHeartbeats 1000000 in
theorem used_any (x : Nat) (w : World) :
    Calls Tryz.prog 176 #[W x] w fun e w' => e = .returned (.int .i64 (usedTo x 8 : Nat)) ∧ Below w.heap.size w w' := by
  go_enter Tryz.func176, Tryz.ntmps176
  go_wp2
  go_loop [3] (fun n => ∃ k : Nat, k ≤ 8 ∧ n = .int .i64 k ∧ usedTo x k = usedTo x 8) (fun n => (intOf n).toNat)
  case atStart => exact ⟨8, by omega, rfl, rfl⟩
  case round =>
    obtain ⟨k, hk, rfl, hu⟩ := hrel
    have HU := hide hu
    clear hu
    cases k with
    | zero =>
      go_wp2
      go_ret
      exact ⟨by rw [← unhide HU]; rfl, (Below.refl _ _).alloc (Nat.le_refl _) _⟩
    | succ m =>
      have e1 : ((m + 1 : Nat) : Int) = (m : Int) + 1 := by omega
      rw [e1]
      have h8 : (m : Int) < 8 := by omega
      have hc : (w.alloc (.cells (cells8 x) 157)).cell? ⟨w.heap.size, m, none⟩ = some (.int .u64 (lm x m)) := by
        rw [(Blk.new w 157 (cells8 x)).cell m, cells8_get x m (by omega)]
      by_cases hz : lm x m = 0
      · have hb : (lm x m == 0) = true := by simp [hz]
        have HZ := hide hz
        clear hz
        go_wp2
        go_round
        case rel => exact ⟨m, by omega, by go_num, by rw [← unhide HU]; simp [usedTo, unhide HZ]⟩
        case measure => simp [intOf]
      · have hb : (lm x m == 0) = false := by simp [hz]
        have HZ := hide hz
        clear hz
        go_wp2
        go_ret
        exact ⟨by rw [← unhide HU]; simp [usedTo, unhide HZ], (Below.refl _ _).alloc (Nat.le_refl _) _⟩

/-- What compare knows: both numbers in their blocks. -/
structure Two (w0 : World) (g x y : Nat) (w : World) : Prop where
  x : Blk w g 157 (cells8 x)
  y : Blk w (g + 1) 157 (cells8 y)
  o : Below g w0 w

end Go.Proofs.YtnemedgdhojhdaaGreat
