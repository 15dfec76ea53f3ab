/- Numbers of eight limbs: how a natural number below 2^512 lies in eight cells. No Go in this text. The contracts of plus and minus of package wide: the sum and the difference, modulo 2^512. -/
import Derived.Test.YtnknejdmoghmiaaWp
import Derived.Deep.WholeRow
namespace Go.Proofs.Ytnknejdmoghmiaa
open Go.RowKit
set_option maxRecDepth 4000

/-- The limb number i of n. -/
def lm (n i : Nat) : Int := ((n / 2 ^ (64 * i) % 18446744073709551616 : Nat) : Int)

theorem lm_nn (n i : Nat) : 0 ≤ lm n i := by unfold lm; omega
theorem lm_lt (n i : Nat) : lm n i < B64 := by unfold lm B64; omega

/-- The eight cells of n. -/
def cells8 (n : Nat) : Array Value := #[.int .u64 (lm n 0), .int .u64 (lm n 1), .int .u64 (lm n 2), .int .u64 (lm n 3), .int .u64 (lm n 4), .int .u64 (lm n 5), .int .u64 (lm n 6), .int .u64 (lm n 7)]

/-- n as a value of eight limbs. -/
abbrev W (n : Nat) : Value := .agg (cells8 n)

/-- 2^512, written out. -/
def M : Nat := 13407807929942597099574024998205846127479365820592393377723561443721764030073546976801874298166903427690031858186486050853753882811946569946433649006084096
theorem M_pows (e f : Nat) (hf : f = 256) (he : e = f + f) : M = 2 ^ e := by
  subst he
  rw [Nat.pow_add]
  subst hf
  rfl
theorem M_pow8 : M = 2 ^ (64 * 8) := by
  generalize h : 64 * 8 = e
  exact M_pows e 256 rfl (h.symm.trans rfl)

/-- The carry behind k limbs of a sum, c coming in. -/
def cy (x y c k : Nat) : Int := (((x % 2 ^ (64 * k) + y % 2 ^ (64 * k) + c) / 2 ^ (64 * k) : Nat) : Int)

theorem cy_nn (x y c k : Nat) : 0 ≤ cy x y c k := by unfold cy; exact Int.natCast_nonneg _
theorem cy_le (x y c k : Nat) (hc : c ≤ 1) : cy x y c k ≤ 1 := by
  unfold cy
  have h1 : x % 2 ^ (64 * k) < 2 ^ (64 * k) := Nat.mod_lt _ (Nat.pow_pos (by decide))
  have h2 : y % 2 ^ (64 * k) < 2 ^ (64 * k) := Nat.mod_lt _ (Nat.pow_pos (by decide))
  have : (x % 2 ^ (64 * k) + y % 2 ^ (64 * k) + c) / 2 ^ (64 * k) < 2 := by
    rw [Nat.div_lt_iff_lt_mul (Nat.pow_pos (by decide))]; omega
  omega
theorem cy_zero (x y c : Nat) : cy x y c 0 = c := by simp [cy, Nat.mod_one]

theorem pow_step (k : Nat) : 2 ^ (64 * (k + 1)) = 2 ^ (64 * k) * 18446744073709551616 := by
  rw [show 64 * (k + 1) = 64 * k + 64 by omega, Nat.pow_add]

/-- What is below the limb k + 1 is what is below the limb k, and the limb k. -/
theorem mod_step (x k : Nat) : x % 2 ^ (64 * (k + 1)) = x % 2 ^ (64 * k) + 2 ^ (64 * k) * (x / 2 ^ (64 * k) % 18446744073709551616) := by
  rw [pow_step, Nat.mod_mul]

theorem sum_step (P a b x y c : Nat) (hP : 0 < P) :
    (a + P * x + (b + P * y) + c) / P = x + y + (a + b + c) / P := by
  rw [show a + P * x + (b + P * y) + c = (a + b + c) + P * (x + y) by rw [Nat.mul_add]; omega, Nat.add_mul_div_left _ _ hP]; omega

theorem cy_step (x y c k : Nat) : (lm x k + lm y k + cy x y c k) / B64 = cy x y c (k + 1) := by
  unfold lm cy B64
  have hP : 0 < 2 ^ (64 * k) := Nat.pow_pos (by decide)
  rw [mod_step x k, mod_step y k, pow_step, ← Nat.div_div_eq_div_mul, sum_step _ _ _ _ _ _ hP]
  omega

theorem lm_add (x y c k : Nat) : (lm x k + lm y k + cy x y c k) % B64 = lm (x + y + c) k := by
  unfold lm cy B64
  have hP : 0 < 2 ^ (64 * k) := Nat.pow_pos (by decide)
  have e : (x + y + c) / 2 ^ (64 * k) = x / 2 ^ (64 * k) + y / 2 ^ (64 * k) + (x % 2 ^ (64 * k) + y % 2 ^ (64 * k) + c) / 2 ^ (64 * k) := by
    have h1 := Nat.mod_add_div x (2 ^ (64 * k))
    have h2 := Nat.mod_add_div y (2 ^ (64 * k))
    rw [← sum_step _ _ _ _ _ _ hP, h1, h2]
  rw [e]
  omega

/-- A limb below the 512th bit does not hang on what is above. -/
theorem lm_mod (n i : Nat) (h : i < 8) : lm (n % M) i = lm n i := by
  unfold lm
  rw [M_pow8, show (2 : Nat) ^ (64 * 8) = 2 ^ (64 * i) * 2 ^ (64 * 8 - 64 * i) by rw [← Nat.pow_add]; congr 1; omega]
  rw [Nat.mod_mul_right_div_self]
  have : (18446744073709551616 : Nat) ∣ 2 ^ (64 * 8 - 64 * i) := by
    rw [show (18446744073709551616 : Nat) = 2 ^ 64 by decide]
    exact Nat.pow_dvd_pow 2 (by omega)
  rw [Nat.mod_mod_of_dvd _ this]

theorem W_mod (n : Nat) : W (n % M) = W n := by
  unfold W cells8
  simp only [lm_mod n _ (by decide : 0 < 8), lm_mod n _ (by decide : 1 < 8), lm_mod n _ (by decide : 2 < 8), lm_mod n _ (by decide : 3 < 8), lm_mod n _ (by decide : 4 < 8), lm_mod n _ (by decide : 5 < 8), lm_mod n _ (by decide : 6 < 8), lm_mod n _ (by decide : 7 < 8)]

theorem cells8_one (n : Nat) : (cells8 n).all (·.oneCell') = true := by
  simp [cells8, Value.oneCell']

theorem iLimbs : (Try.prog.info? 128).map (·.size) = some 8 := by kernel_rfl
theorem iWide : (Try.prog.info? 40).map (·.size) = some 8 := by kernel_rfl
theorem iArr : (Try.prog.info? 38).map (·.size) = some 8 := by kernel_rfl

/-- A whole number out of its block. -/
theorem ld8 {P : Program} {ops : Array Oper} {rest : List Oper} {o : Oper} {a : Act} {w : World} {Q : Exit → Act → World → Prop} (ty : TypeId) (x : Operand) {n g : Nat} {t : TypeId} {d : TypeDesc}
    (hg : Blk w g t (cells8 n)) (ho : o.op = .load ty x) (hgd : o.guard = none) (hx : a.eval x = .pointer (some ⟨g, 0, none⟩))
    (hu : P.underlying ty = some d) (hd : (match d with | .struct _ | .array _ _ => true | _ => false) = true) (hi : (P.info? ty).map (·.size) = some 8)
    (h : wpList P ops Q rest (a.put o.dst (.agg (cells8 n))) w) : wpList P ops Q (o :: rest) a w :=
  wpList_load_row hgd ty x ho g hx t (cells8 n) (0, 0) d hg hu hd hi h

/-- The same, where a guard says yes. -/
theorem ld8w {P : Program} {ops : Array Oper} {rest : List Oper} {o : Oper} {a : Act} {w : World} {Q : Exit → Act → World → Prop} (ty : TypeId) (x : Operand) {n g : Nat} {t : TypeId} {d : TypeDesc}
    (hg : Blk w g t (cells8 n)) (ho : o.op = .load ty x) (hgd : Region.wanted o (yielded ops a.tmps) = true) (hx : a.eval x = .pointer (some ⟨g, 0, none⟩))
    (hu : P.underlying ty = some d) (hd : (match d with | .struct _ | .array _ _ => true | _ => false) = true) (hi : (P.info? ty).map (·.size) = some 8)
    (h : wpList P ops Q rest (a.put o.dst (.agg (cells8 n))) w) : wpList P ops Q (o :: rest) a w :=
  by
    unfold wpList
    rw [if_pos hgd]
    exact .inl (wp_load_row ty x ho g hx t (cells8 n) (0, 0) d hg hu hd hi h)

/-- A whole number into a block of eight cells. -/
theorem st8 {P : Program} {ops : Array Oper} {rest : List Oper} {o : Oper} {a : Act} {w : World} {Q : Exit → Act → World → Prop} (ty : TypeId) (x y : Operand) {n g : Nat} {t : TypeId} {old : Array Value}
    (hg : Blk w g t old) (hold : old.size = 8) (ho : o.op = .store ty x y) (hgd : o.guard = none) (hx : a.eval x = .pointer (some ⟨g, 0, none⟩)) (hy : a.eval y = .agg (cells8 n))
    (hi : (P.info? ty).map (·.size) = some 8)
    (h : wpList P ops Q rest (a.put o.dst undef) (w.setRow g (cells8 n))) : wpList P ops Q (o :: rest) a w :=
  wpList_store_row hgd ty x y ho g (cells8 n) hx hy t old hg hi hold (cells8_one n) h

/-- A whole number into the block that was made last. -/
theorem st8new {P : Program} {ops : Array Oper} {rest : List Oper} {o : Oper} {a : Act} {w : World} {Q : Exit → Act → World → Prop} (ty : TypeId) (x y : Operand) {n : Nat} {t : TypeId} {old : Array Value}
    (hold : old.size = 8) (ho : o.op = .store ty x y) (hgd : o.guard = none) (hx : a.eval x = .pointer (some ⟨w.heap.size, 0, none⟩)) (hy : a.eval y = .agg (cells8 n))
    (hi : (P.info? ty).map (·.size) = some 8)
    (h : wpList P ops Q rest (a.put o.dst undef) (w.alloc (.cells (cells8 n) t))) : wpList P ops Q (o :: rest) a (w.alloc (.cells old t)) :=
  st8 ty x y (n := n) (Blk.new w t old) hold ho hgd hx hy hi (by rw [World.setRow_alloc_new]; exact h)

/-- A result that is a whole number, read out of its block. -/
theorem res8 {P : Program} {fn : Func} {R : Ending → World → Prop} {p : Tmp} {ty : TypeId} {a : Act} {w : World} {n g : Nat} {t : TypeId} {d : TypeDesc}
    (hg : Blk w g t (cells8 n)) (h : fn.results = #[.cell p ty]) (hp : a.tmps.getD p undef = .pointer (some ⟨g, 0, none⟩)) (hdf : a.defers = [])
    (hu : P.underlying ty = some d) (hd : (match d with | .struct _ | .array _ _ => true | _ => false) = true) (hi : (P.info? ty).map (·.size) = some 8)
    (hR : R (.returned (W n)) w) : bodyPost P fn R .ret a w :=
  bodyPost_ret (results_cell_row h _ w g t (cells8 n) (0, 0) d hp hg hu hd hi) hdf hR

theorem bWide (n : Nat) : Try.prog.built 40 [(0, .agg (cells8 n))] = some (cells8 n) := by kernel_rfl
theorem bWide0 : Try.prog.built 40 [] = some (cells8 0) := by kernel_rfl
theorem bLimbs0 : Try.prog.built 128 [] = some (cells8 0) := by kernel_rfl

theorem exec_build1 {P : Program} {o : Oper} {a : Act} (w : World) (ty : TypeId) (x : Operand) {v : Value} {cs : Array Value} (ho : o.op = .build ty #[(0, x)]) (hx : a.eval x = v) (hb : P.built ty [(0, v)] = some cs) :
    (execOp a.eval o).run P w = .ok (.value (.agg cs)) w := by
  subst hx
  unfold execOp
  simp only [ho, Sem.run_bind, run_build w ty (#[(0, x)].map fun (i, x) => (i, a.eval x)) cs (by simpa using hb), Result.andThen_ok, Sem.run_pure]
theorem exec_build0 {P : Program} {o : Oper} {a : Act} (w : World) (ty : TypeId) {cs : Array Value} (ho : o.op = .build ty #[]) (hb : P.built ty [] = some cs) :
    (execOp a.eval o).run P w = .ok (.value (.agg cs)) w := by
  unfold execOp
  simp only [ho, Sem.run_bind, run_build w ty (#[].map fun (i, x) => (i, a.eval x)) cs (by simpa using hb), Result.andThen_ok, Sem.run_pure]

/-- An operation that ends in a value and leaves the world as it was. -/
theorem wpList_value {P : Program} {ops : Array Oper} {rest : List Oper} {o : Oper} {a : Act} {w : World} {Q : Exit → Act → World → Prop} {v : Value} (hg : o.guard = none)
    (he : (execOp a.eval o).run P w = .ok (.value v) w) (h : wpList P ops Q rest (a.put o.dst v) w) : wpList P ops Q (o :: rest) a w :=
  wpList_plain hg fun K hK => by unfold Oper.wp; rw [he]; exact hK _ _ h

theorem bd1 {P : Program} {ops : Array Oper} {rest : List Oper} {o : Oper} {a : Act} {w : World} {Q : Exit → Act → World → Prop} (ty : TypeId) (x : Operand) {v : Value} {cs : Array Value} (ho : o.op = .build ty #[(0, x)]) (hg : o.guard = none) (hx : a.eval x = v) (hb : P.built ty [(0, v)] = some cs)
    (h : wpList P ops Q rest (a.put o.dst (.agg cs)) w) : wpList P ops Q (o :: rest) a w := wpList_value hg (exec_build1 w ty x ho hx hb) h
theorem bd0 {P : Program} {ops : Array Oper} {rest : List Oper} {o : Oper} {a : Act} {w : World} {Q : Exit → Act → World → Prop} (ty : TypeId) {cs : Array Value} (ho : o.op = .build ty #[]) (hg : o.guard = none) (hb : P.built ty [] = some cs)
    (h : wpList P ops Q rest (a.put o.dst (.agg cs)) w) : wpList P ops Q (o :: rest) a w := wpList_value hg (exec_build0 w ty ho hb) h

theorem exec_load8 {P : Program} {o : Oper} {a : Act} {w : World} (ty : TypeId) (x : Operand) {n g : Nat} {t : TypeId} {d : TypeDesc}
    (hg : Blk w g t (cells8 n)) (ho : o.op = .load ty x) (hx : a.eval x = .pointer (some ⟨g, 0, none⟩))
    (hu : P.underlying ty = some d) (hd : (match d with | .struct _ | .array _ _ => true | _ => false) = true) (hi : (P.info? ty).map (·.size) = some 8) :
    (execOp a.eval o).run P w = .ok (.value (.agg (cells8 n))) w := by
  unfold execOp
  simp only [ho, hx, Instr.loadAt, Instr.sureAddr, Sem.run_bind, Sem.run_pure, Result.andThen_ok, run_loadVar_row w g t ty (cells8 n) (0, 0) d hg hu hd hi]

end Go.Proofs.Ytnknejdmoghmiaa

namespace Go.Proofs.Ytnknejdmoghmiaa
open Go.RowKit
set_option maxRecDepth 4000

/-- Behind k rounds: limbs below k are s's, the others x's. -/
def mx (x s k j : Nat) : Int := if j < k then lm s j else lm x j

theorem mx_zero (x s j : Nat) : mx x s 0 j = lm x j := by simp [mx]
theorem mx_at (x s k : Nat) : mx x s k k = lm x k := by simp [mx]
theorem mx_full (x s j : Nat) (h : j < 8) : mx x s 8 j = lm s j := by simp [mx, h]
theorem mx_set (x s k : Nat) : mx x s (k + 1) k = lm s k := by simp [mx]
theorem mx_other (x s k j : Nat) (h : j ≠ k) : mx x s (k + 1) j = mx x s k j := by
  unfold mx
  by_cases h1 : j < k
  · rw [if_pos h1, if_pos (by omega)]
  · rw [if_neg h1, if_neg (by omega)]

def mix8 (x s k : Nat) : Array Value := #[.int .u64 (mx x s k 0), .int .u64 (mx x s k 1), .int .u64 (mx x s k 2), .int .u64 (mx x s k 3), .int .u64 (mx x s k 4), .int .u64 (mx x s k 5), .int .u64 (mx x s k 6), .int .u64 (mx x s k 7)]

theorem lt8 {k : Nat} (h : k < 8) : k = 0 ∨ k = 1 ∨ k = 2 ∨ k = 3 ∨ k = 4 ∨ k = 5 ∨ k = 6 ∨ k = 7 := by omega
theorem lm_zero (i : Nat) : lm 0 i = 0 := by simp [lm]
theorem cells8_0 : cells8 0 = #[.int .u64 0, .int .u64 0, .int .u64 0, .int .u64 0, .int .u64 0, .int .u64 0, .int .u64 0, .int .u64 0] := by simp only [cells8, lm_zero]
theorem mix8_zero (x s : Nat) : mix8 x s 0 = cells8 x := by simp only [mix8, mx_zero]; rfl
theorem mix8_full (x s : Nat) : mix8 x s 8 = cells8 s := by simp [mix8, cells8, mx_full]
theorem mix8_get (x s k j : Nat) (hj : j < 8) : (mix8 x s k)[j]? = some (.int .u64 (mx x s k j)) := by
  rcases lt8 hj with rfl | rfl | rfl | rfl | rfl | rfl | rfl | rfl <;> rfl
theorem cells8_get (x j : Nat) (hj : j < 8) : (cells8 x)[j]? = some (.int .u64 (lm x j)) := by
  rcases lt8 hj with rfl | rfl | rfl | rfl | rfl | rfl | rfl | rfl <;> rfl
theorem mix8_set (x s k : Nat) (hk : k < 8) : (mix8 x s k).setIfInBounds k (.int .u64 (lm s k)) = mix8 x s (k + 1) := by
  apply Array.ext_getElem?
  intro j
  rw [Array.getElem?_setIfInBounds]
  by_cases h8 : j < 8
  · rw [mix8_get _ _ _ _ h8]
    by_cases e : k = j
    · subst e; rw [if_pos rfl, if_pos (by exact hk), mix8_get _ _ _ _ h8, mx_set]
    · rw [if_neg e, mix8_get _ _ _ _ h8, mx_other _ _ _ _ (Ne.symm e)]
  · rw [if_neg (by omega), Array.getElem?_eq_none (by show 8 ≤ j; omega), Array.getElem?_eq_none (by show 8 ≤ j; omega)]

/-- What a round of the loop knows of the world: the blocks of x, y, the answer and the carry. -/
structure Round (w wr : World) (g x y yb s c k : Nat) : Prop where
  xb : Blk wr g 128 (mix8 x s k)
  yb : Blk wr (g + 1) 128 (cells8 yb)
  rb : Blk wr (g + 2) 128 (cells8 0)
  cb : Blk wr (g + 3) 37 #[.int .u64 (cy x y c k)]
  bl : Below g w wr

theorem Round.next {w wr : World} {g x y yb s c k : Nat} (h : Round w wr g x y yb s c k) (hk : k < 8) (v u : Int) (hv : v = lm s k) (hu : u = cy x y c (k + 1)) :
    Round w ((wr.setCell ⟨g + 3, 0, none⟩ (.int .u64 u)).setCell ⟨g, k, none⟩ (.int .u64 v)).drew g x y yb s c (k + 1) := by
  subst hv hu
  refine ⟨?_, ?_, ?_, ?_, ?_⟩
  · rw [← mix8_set _ _ _ hk]
    exact ((h.xb.other _ _ (by simp)).set k _).drew
  · exact ((h.yb.other _ _ (by simp)).other _ _ (by simp)).drew
  · exact ((h.rb.other _ _ (by simp)).other _ _ (by simp)).drew
  · exact ((h.cb.set 0 _).other _ _ (by simp)).drew
  · exact ((h.bl.setCell (by simp) _).setCell (by simp) _).drew

set_option maxHeartbeats 1000000 in
theorem plus_any (x y : Nat) (w : World) :
    Calls Try.prog 150 #[W x, W y] w fun e w' => e = .returned (.agg (cells8 (x + y))) ∧ Below w.heap.size w w' := by
  unfold W
  go_enter Try.func150, Try.ntmps150
  go_wp2_with (first | (go_at_call 168; refine (adder_any _ _).mono ?_; rintro e w' ⟨rfl, rfl⟩))
  go_loopw [8] (fun i wr => ∃ k : Nat, k ≤ 8 ∧ i = .int .i64 k ∧ Round w wr w.heap.size x y y (x + y) 0 k) (fun i _ => 8 - (intOf i).toNat)
  case atStart =>
    refine ⟨0, by omega, rfl, ?_, ?_, ?_, ?_, ?_⟩
    · rw [mix8_zero]; exact (((Blk.new w _ _).alloc _).alloc _).alloc _
    · exact ((Blk.at (by simp) rfl).alloc _).alloc _
    · exact (Blk.at (by simp) cells8_0.symm).alloc _
    · rw [cy_zero]; exact Blk.at (by simp) rfl
    · exact ((((Below.refl _ _).alloc (Nat.le_refl _) _).alloc (by simp) _).alloc (by simp; omega) _).alloc (by simp; omega) _
  case round =>
    obtain ⟨k, hk, rfl, R⟩ := hrel
    by_cases hlt : k < 8
    · have h1 := R.xb.cell k
      rw [mix8_get _ _ _ _ hlt, mx_at] at h1
      have h2 := R.yb.cell k
      rw [cells8_get _ _ hlt] at h2
      have h3 := R.xb.frozen k
      have h4 : wr.cell? ⟨w.heap.size + 1 + 1 + 1, 0, none⟩ = some (.int .u64 (cy x y 0 k)) := R.cb.cell 0
      have h5 : wr.frozen? ⟨w.heap.size + 1 + 1 + 1, 0, none⟩ = false := R.cb.frozen 0
      have hg : (k : Int) < 8 := by omega
      have HR : Hid (Round w wr w.heap.size x y y (x + y) 0 k) := R
      clear R
      go_wp2
      go_region_with (go_at_call 180; refine (adder1_any (lm x k) (lm y k) (cy x y 0 k) ⟨w.heap.size + 1 + 1 + 1, 0, none⟩ _ (lm_nn _ _) (lm_nn _ _) (cy_nn _ _ _ _) (cy_le _ _ _ _ (by decide)) ?_ ?_).mono ?_; exact h4; exact h5; rintro e w' ⟨rfl, rfl⟩)
      all_goals (
        go_wp2
        go_roundw
        case rel => exact ⟨k + 1, by omega, by go_num, HR.out.next hlt _ _ (by rw [lm_add]; rfl) (cy_step _ _ _ _)⟩
        case measure => simp [intOf]; omega)
    · have e8 : k = 8 := by omega
      subst e8
      have X := R.xb
      rw [mix8_full] at X
      have Y : Blk wr (w.heap.size + 1 + 1) 128 (cells8 0) := R.rb
      have HR : Hid (Round w wr w.heap.size x y y (x + y) 0 8) := R
      clear R
      have HX : Hid (Blk wr w.heap.size 128 (cells8 (x + y))) := X
      have HY : Hid (Blk wr (w.heap.size + 1 + 1) 128 (cells8 0)) := Y
      clear X Y
      go_wp2_with (first
        | refine ld8 128 _ HX.out rfl rfl rfl Try.underlying128 rfl iLimbs ?_
        | refine st8 (n := x + y) 128 _ _ HY.out rfl rfl rfl rfl rfl iLimbs ?_)
      exact res8 (HY.out.row _) rfl rfl rfl Try.underlying128 rfl iLimbs ⟨rfl, below_row HR.out.bl (by omega) _⟩


theorem u64_wrap_nat (n : Nat) (h : n < 18446744073709551616) : IntKind.u64.wrap (n : Int) = n := by
  simp [IntKind.wrap, IntKind.signed, IntKind.bits]
  omega
theorem bits_nn (op : BinOp) (a b : Int) : 0 ≤ bits op .u64 a b := by
  unfold bits
  rw [u64_wrap_nat _ (by exact BitVec.isLt _)]
  exact Int.natCast_nonneg _
theorem xor_all (a : Nat) (ha : a < 18446744073709551616) : bits .xor .u64 IntKind.u64.max (a : Int) = ((18446744073709551615 - a : Nat) : Int) := by
  have h : bits .xor .u64 IntKind.u64.max (a : Int) = IntKind.u64.wrap (((BitVec.ofInt 64 18446744073709551615 ^^^ BitVec.ofInt 64 (a : Int)).toNat : Nat) : Int) := rfl
  rw [h, u64_wrap_nat _ (BitVec.isLt _), show BitVec.ofInt 64 18446744073709551615 = BitVec.allOnes 64 from by decide, BitVec.ofInt_natCast, BitVec.allOnes_xor, BitVec.toNat_not, BitVec.toNat_ofNat]
  congr 1
  omega

/-- The complement of a number below P times Q, by P. -/
theorem cpl_div (P Q y : Nat) (hP : 0 < P) (hy : y < P * Q) : (P * Q - 1 - y) / P = Q - 1 - y / P := by
  have h1 := Nat.div_add_mod y P
  have h2 := Nat.mod_lt y hP
  have h3 : y / P < Q := Nat.div_lt_of_lt_mul hy
  generalize y / P = q at *
  generalize y % P = r at *
  have e : P * Q - 1 - y = (P - 1 - r) + P * (Q - 1 - q) := by
    have : P * Q = P * (Q - 1 - q) + P * q + P := by
      rw [← Nat.mul_add, ← Nat.mul_succ]; congr 1; omega
    omega
  rw [e, Nat.add_mul_div_left _ _ hP, Nat.div_eq_of_lt (by omega)]
  omega
theorem cpl_mod (Q q : Nat) (hq : q < 18446744073709551616 * Q) : (18446744073709551616 * Q - 1 - q) % 18446744073709551616 = 18446744073709551615 - q % 18446744073709551616 := by
  omega

theorem lm_cpl (y k : Nat) (hy : y < M) (hk : k < 8) : lm (M - 1 - y) k = ((18446744073709551615 - (y / 2 ^ (64 * k) % 18446744073709551616) : Nat) : Int) := by
  have hM : M = 2 ^ (64 * k) * (18446744073709551616 * 2 ^ (448 - 64 * k)) := by
    rw [M_pow8, show (18446744073709551616 : Nat) = 2 ^ 64 by decide, ← Nat.pow_add, ← Nat.pow_add]; congr 1; omega
  have hP : 0 < 2 ^ (64 * k) := Nat.pow_pos (by decide)
  unfold lm
  rw [hM] at hy ⊢
  rw [cpl_div _ _ _ hP hy, cpl_mod _ _ (Nat.div_lt_of_lt_mul hy)]

theorem xor_lm (y k : Nat) (hy : y < M) (hk : k < 8) : bits .xor .u64 IntKind.u64.max (lm y k) = lm (M - 1 - y) k := by
  rw [lm_cpl y k hy hk]
  exact xor_all _ (Nat.mod_lt _ (by decide))

set_option maxHeartbeats 1000000 in
theorem minus_core (x y y' : Nat) (hy : Hid (∀ k, k < 8 → bits .xor .u64 IntKind.u64.max (lm y k) = lm y' k)) (w : World) :
    Calls Try.prog 148 #[W x, W y] w fun e w' => e = .returned (.agg (cells8 (x + y' + 1))) ∧ Below w.heap.size w w' := by
  unfold W
  go_enter Try.func148, Try.ntmps148
  go_wp2_with (first | (go_at_call 168; refine (adder_any _ _).mono ?_; rintro e w' ⟨rfl, rfl⟩))
  go_loopw [8] (fun i wr => ∃ k : Nat, k ≤ 8 ∧ i = .int .i64 k ∧ Round w wr w.heap.size x y' y (x + y' + 1) 1 k) (fun i _ => 8 - (intOf i).toNat)
  case atStart =>
    refine ⟨0, by omega, rfl, ?_, ?_, ?_, ?_, ?_⟩
    · rw [mix8_zero]; exact (((Blk.new w _ _).alloc _).alloc _).alloc _
    · exact ((Blk.at (by simp) rfl).alloc _).alloc _
    · exact (Blk.at (by simp) cells8_0.symm).alloc _
    · rw [cy_zero]; exact Blk.at (by simp) rfl
    · exact ((((Below.refl _ _).alloc (Nat.le_refl _) _).alloc (by simp) _).alloc (by simp; omega) _).alloc (by simp; omega) _
  case round =>
    obtain ⟨k, hk, rfl, R⟩ := hrel
    by_cases hlt : k < 8
    · have h1 := R.xb.cell k
      rw [mix8_get _ _ _ _ hlt, mx_at] at h1
      have h2 := R.yb.cell k
      rw [cells8_get _ _ hlt] at h2
      have h3 := R.xb.frozen k
      have h4 : wr.cell? ⟨w.heap.size + 1 + 1 + 1, 0, none⟩ = some (.int .u64 (cy x y' 1 k)) := R.cb.cell 0
      have h5 : wr.frozen? ⟨w.heap.size + 1 + 1 + 1, 0, none⟩ = false := R.cb.frozen 0
      have hg : (k : Int) < 8 := by omega
      have HR : Hid (Round w wr w.heap.size x y' y (x + y' + 1) 1 k) := R
      clear R
      go_wp2
      go_region_with (go_at_call 180; refine (adder1_any (lm x k) _ (cy x y' 1 k) ⟨w.heap.size + 1 + 1 + 1, 0, none⟩ _ (lm_nn _ _) (bits_nn _ _ _) (cy_nn _ _ _ _) (cy_le _ _ _ _ (by decide)) ?_ ?_).mono ?_; exact h4; exact h5; rintro e w' ⟨rfl, rfl⟩)
      all_goals (
        go_wp2
        go_roundw
        case rel => exact ⟨k + 1, by omega, by go_num, HR.out.next hlt _ _ (by rw [hy.out k hlt, lm_add]) (by rw [hy.out k hlt, cy_step])⟩
        case measure => simp [intOf]; omega)
    · have e8 : k = 8 := by omega
      subst e8
      have X := R.xb
      rw [mix8_full] at X
      have Y : Blk wr (w.heap.size + 1 + 1) 128 (cells8 0) := R.rb
      have HR : Hid (Round w wr w.heap.size x y' y (x + y' + 1) 1 8) := R
      clear R
      have HX : Hid (Blk wr w.heap.size 128 (cells8 (x + y' + 1))) := X
      have HY : Hid (Blk wr (w.heap.size + 1 + 1) 128 (cells8 0)) := Y
      clear X Y
      go_wp2_with (first
        | refine ld8 128 _ HX.out rfl rfl rfl Try.underlying128 rfl iLimbs ?_
        | refine st8 (n := x + y' + 1) 128 _ _ HY.out rfl rfl rfl rfl rfl iLimbs ?_)
      exact res8 (HY.out.row _) rfl rfl rfl Try.underlying128 rfl iLimbs ⟨rfl, below_row HR.out.bl (by omega) _⟩

/-- The difference, and 2^512 more. -/
theorem minus_any (x y : Nat) (hy : y < M) (w : World) :
    Calls Try.prog 148 #[W x, W y] w fun e w' => e = .returned (W (x + (M - y))) ∧ Below w.heap.size w w' := by
  have h := minus_core x y (M - 1 - y) (fun k hk => xor_lm y k hy hk) w
  rwa [show x + (M - 1 - y) + 1 = x + (M - y) by omega] at h

end Go.Proofs.Ytnknejdmoghmiaa
