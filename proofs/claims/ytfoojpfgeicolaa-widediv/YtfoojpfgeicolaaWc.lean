/- The contracts of plus and minus of package wide: the sum and the difference, modulo 2^512. -/
import Derived.Test.YtfoojpfgeicolaaWb
namespace Go.Proofs.Ytfoojpfgeicolaa
open Go.RowKit

/-- Behind k rounds: limbs below k are s's, the others x's. -/
def mx (x s k j : Nat) : Int := if j < k then lm s j else lm x j

theorem mx_zero (x s j : Nat) : mx x s 0 j = lm x j := by simp [mx]
theorem mx_at (x s k : Nat) : mx x s k k = lm x k := by simp [mx]
theorem mx_full (x s j : Nat) (h : j < 8) : mx x s 8 j = lm s j := by simp [mx, h]
theorem mx_set (x s k : Nat) : mx x s (k + 1) k = lm s k := by simp [mx]
theorem mx_other (x s k j : Nat) (h : j ≠ k) : mx x s (k + 1) j = mx x s k j := by
  unfold mx
  by_cases h1 : j < k
  · rw [if_pos h1, if_pos (by omega)]
  · rw [if_neg h1, if_neg (by omega)]

def mix8 (x s k : Nat) : Array Value := #[.int .u64 (mx x s k 0), .int .u64 (mx x s k 1), .int .u64 (mx x s k 2), .int .u64 (mx x s k 3), .int .u64 (mx x s k 4), .int .u64 (mx x s k 5), .int .u64 (mx x s k 6), .int .u64 (mx x s k 7)]

theorem lt8 {k : Nat} (h : k < 8) : k = 0 ∨ k = 1 ∨ k = 2 ∨ k = 3 ∨ k = 4 ∨ k = 5 ∨ k = 6 ∨ k = 7 := by omega
theorem lm_zero (i : Nat) : lm 0 i = 0 := by simp [lm]
theorem cells8_0 : cells8 0 = #[.int .u64 0, .int .u64 0, .int .u64 0, .int .u64 0, .int .u64 0, .int .u64 0, .int .u64 0, .int .u64 0] := by simp only [cells8, lm_zero]
theorem mix8_zero (x s : Nat) : mix8 x s 0 = cells8 x := by simp only [mix8, mx_zero]; rfl
theorem mix8_full (x s : Nat) : mix8 x s 8 = cells8 s := by simp [mix8, cells8, mx_full]
theorem mix8_get (x s k j : Nat) (hj : j < 8) : (mix8 x s k)[j]? = some (.int .u64 (mx x s k j)) := by
  rcases lt8 hj with rfl | rfl | rfl | rfl | rfl | rfl | rfl | rfl <;> rfl
theorem cells8_get (x j : Nat) (hj : j < 8) : (cells8 x)[j]? = some (.int .u64 (lm x j)) := by
  rcases lt8 hj with rfl | rfl | rfl | rfl | rfl | rfl | rfl | rfl <;> rfl
theorem mix8_set (x s k : Nat) (hk : k < 8) : (mix8 x s k).setIfInBounds k (.int .u64 (lm s k)) = mix8 x s (k + 1) := by
  apply Array.ext_getElem?
  intro j
  rw [Array.getElem?_setIfInBounds]
  by_cases h8 : j < 8
  · rw [mix8_get _ _ _ _ h8]
    by_cases e : k = j
    · subst e; rw [if_pos rfl, if_pos (by exact hk), mix8_get _ _ _ _ h8, mx_set]
    · rw [if_neg e, mix8_get _ _ _ _ h8, mx_other _ _ _ _ (Ne.symm e)]
  · rw [if_neg (by omega), Array.getElem?_eq_none (by show 8 ≤ j; omega), Array.getElem?_eq_none (by show 8 ≤ j; omega)]

/-- What a round of the loop knows of the world: the blocks of x, y, the answer and the carry. -/
structure Round (w wr : World) (g x y yb s c k : Nat) : Prop where
  xb : Blk wr g 50 (mix8 x s k)
  yb : Blk wr (g + 1) 50 (cells8 yb)
  rb : Blk wr (g + 2) 50 (cells8 0)
  cb : Blk wr (g + 3) 22 #[.int .u64 (cy x y c k)]
  bl : Below g w wr

theorem Round.next {w wr : World} {g x y yb s c k : Nat} (h : Round w wr g x y yb s c k) (hk : k < 8) (v u : Int) (hv : v = lm s k) (hu : u = cy x y c (k + 1)) :
    Round w ((wr.setCell ⟨g + 3, 0, none⟩ (.int .u64 u)).setCell ⟨g, k, none⟩ (.int .u64 v)).drew g x y yb s c (k + 1) := by
  subst hv hu
  refine ⟨?_, ?_, ?_, ?_, ?_⟩
  · rw [← mix8_set _ _ _ hk]
    exact ((h.xb.other _ _ (by simp)).set k _).drew
  · exact ((h.yb.other _ _ (by simp)).other _ _ (by simp)).drew
  · exact ((h.rb.other _ _ (by simp)).other _ _ (by simp)).drew
  · exact ((h.cb.set 0 _).other _ _ (by simp)).drew
  · exact ((h.bl.setCell (by simp) _).setCell (by simp) _).drew

set_option maxHeartbeats 1000000 in
theorem plus_any (x y : Nat) (w : World) :
    Calls Try.prog 68 #[W x, W y] w fun e w' => e = .returned (.agg (cells8 (x + y))) ∧ Below w.heap.size w w' := by
  unfold W
  go_enter Try.func68, Try.ntmps68
  go_wp2_with (first | (go_at_call 72; refine (adder_any _ _).mono ?_; rintro e w' ⟨rfl, rfl⟩))
  go_loopw [8] (fun i wr => ∃ k : Nat, k ≤ 8 ∧ i = .int .i64 k ∧ Round w wr w.heap.size x y y (x + y) 0 k) (fun i _ => 8 - (intOf i).toNat)
  case atStart =>
    refine ⟨0, by omega, rfl, ?_, ?_, ?_, ?_, ?_⟩
    · rw [mix8_zero]; exact (((Blk.new w _ _).alloc _).alloc _).alloc _
    · exact ((Blk.at (by simp) rfl).alloc _).alloc _
    · exact (Blk.at (by simp) cells8_0.symm).alloc _
    · rw [cy_zero]; exact Blk.at (by simp) rfl
    · exact ((((Below.refl _ _).alloc (Nat.le_refl _) _).alloc (by simp) _).alloc (by simp; omega) _).alloc (by simp; omega) _
  case round =>
    obtain ⟨k, hk, rfl, R⟩ := hrel
    by_cases hlt : k < 8
    · have h1 := R.xb.cell k
      rw [mix8_get _ _ _ _ hlt, mx_at] at h1
      have h2 := R.yb.cell k
      rw [cells8_get _ _ hlt] at h2
      have h3 := R.xb.frozen k
      have h4 : wr.cell? ⟨w.heap.size + 1 + 1 + 1, 0, none⟩ = some (.int .u64 (cy x y 0 k)) := R.cb.cell 0
      have h5 : wr.frozen? ⟨w.heap.size + 1 + 1 + 1, 0, none⟩ = false := R.cb.frozen 0
      have hg : (k : Int) < 8 := by omega
      have HR : Hid (Round w wr w.heap.size x y y (x + y) 0 k) := R
      clear R
      go_wp2
      go_region_with (go_at_call 78; refine (adder1_any (lm x k) (lm y k) (cy x y 0 k) ⟨w.heap.size + 1 + 1 + 1, 0, none⟩ _ (lm_nn _ _) (lm_nn _ _) (cy_nn _ _ _ _) (cy_le _ _ _ _ (by decide)) ?_ ?_).mono ?_; exact h4; exact h5; rintro e w' ⟨rfl, rfl⟩)
      all_goals (
        go_wp2
        go_roundw
        case rel => exact ⟨k + 1, by omega, by go_num, HR.out.next hlt _ _ (by rw [lm_add]; rfl) (cy_step _ _ _ _)⟩
        case measure => simp [intOf]; omega)
    · have e8 : k = 8 := by omega
      subst e8
      have X := R.xb
      rw [mix8_full] at X
      have Y : Blk wr (w.heap.size + 1 + 1) 50 (cells8 0) := R.rb
      have HR : Hid (Round w wr w.heap.size x y y (x + y) 0 8) := R
      clear R
      have HX : Hid (Blk wr w.heap.size 50 (cells8 (x + y))) := X
      have HY : Hid (Blk wr (w.heap.size + 1 + 1) 50 (cells8 0)) := Y
      clear X Y
      go_wp2_with (first
        | refine ld8 50 _ HX.out rfl rfl rfl Try.underlying50 rfl iLimbs ?_
        | refine st8 (n := x + y) 50 _ _ HY.out rfl rfl rfl rfl rfl iLimbs ?_)
      exact res8 (HY.out.row _) rfl rfl rfl Try.underlying50 rfl iLimbs ⟨rfl, below_row HR.out.bl (by omega) _⟩


theorem u64_wrap_nat (n : Nat) (h : n < 18446744073709551616) : IntKind.u64.wrap (n : Int) = n := by
  simp [IntKind.wrap, IntKind.signed, IntKind.bits]
  omega
theorem bits_nn (op : BinOp) (a b : Int) : 0 ≤ bits op .u64 a b := by
  unfold bits
  rw [u64_wrap_nat _ (by exact BitVec.isLt _)]
  exact Int.natCast_nonneg _
theorem xor_all (a : Nat) (ha : a < 18446744073709551616) : bits .xor .u64 IntKind.u64.max (a : Int) = ((18446744073709551615 - a : Nat) : Int) := by
  have h : bits .xor .u64 IntKind.u64.max (a : Int) = IntKind.u64.wrap (((BitVec.ofInt 64 18446744073709551615 ^^^ BitVec.ofInt 64 (a : Int)).toNat : Nat) : Int) := rfl
  rw [h, u64_wrap_nat _ (BitVec.isLt _), show BitVec.ofInt 64 18446744073709551615 = BitVec.allOnes 64 from by decide, BitVec.ofInt_natCast, BitVec.allOnes_xor, BitVec.toNat_not, BitVec.toNat_ofNat]
  congr 1
  omega

/-- The complement of a number below P times Q, by P. -/
theorem cpl_div (P Q y : Nat) (hP : 0 < P) (hy : y < P * Q) : (P * Q - 1 - y) / P = Q - 1 - y / P := by
  have h1 := Nat.div_add_mod y P
  have h2 := Nat.mod_lt y hP
  have h3 : y / P < Q := Nat.div_lt_of_lt_mul hy
  generalize y / P = q at *
  generalize y % P = r at *
  have e : P * Q - 1 - y = (P - 1 - r) + P * (Q - 1 - q) := by
    have : P * Q = P * (Q - 1 - q) + P * q + P := by
      rw [← Nat.mul_add, ← Nat.mul_succ]; congr 1; omega
    omega
  rw [e, Nat.add_mul_div_left _ _ hP, Nat.div_eq_of_lt (by omega)]
  omega
theorem cpl_mod (Q q : Nat) (hq : q < 18446744073709551616 * Q) : (18446744073709551616 * Q - 1 - q) % 18446744073709551616 = 18446744073709551615 - q % 18446744073709551616 := by
  omega

theorem lm_cpl (y k : Nat) (hy : y < M) (hk : k < 8) : lm (M - 1 - y) k = ((18446744073709551615 - (y / 2 ^ (64 * k) % 18446744073709551616) : Nat) : Int) := by
  have hM : M = 2 ^ (64 * k) * (18446744073709551616 * 2 ^ (448 - 64 * k)) := by
    rw [M_pow8, show (18446744073709551616 : Nat) = 2 ^ 64 by decide, ← Nat.pow_add, ← Nat.pow_add]; congr 1; omega
  have hP : 0 < 2 ^ (64 * k) := Nat.pow_pos (by decide)
  unfold lm
  rw [hM] at hy ⊢
  rw [cpl_div _ _ _ hP hy, cpl_mod _ _ (Nat.div_lt_of_lt_mul hy)]

theorem xor_lm (y k : Nat) (hy : y < M) (hk : k < 8) : bits .xor .u64 IntKind.u64.max (lm y k) = lm (M - 1 - y) k := by
  rw [lm_cpl y k hy hk]
  exact xor_all _ (Nat.mod_lt _ (by decide))

set_option maxHeartbeats 1000000 in
theorem minus_core (x y y' : Nat) (hy : Hid (∀ k, k < 8 → bits .xor .u64 IntKind.u64.max (lm y k) = lm y' k)) (w : World) :
    Calls Try.prog 66 #[W x, W y] w fun e w' => e = .returned (.agg (cells8 (x + y' + 1))) ∧ Below w.heap.size w w' := by
  unfold W
  go_enter Try.func66, Try.ntmps66
  go_wp2_with (first | (go_at_call 72; refine (adder_any _ _).mono ?_; rintro e w' ⟨rfl, rfl⟩))
  go_loopw [8] (fun i wr => ∃ k : Nat, k ≤ 8 ∧ i = .int .i64 k ∧ Round w wr w.heap.size x y' y (x + y' + 1) 1 k) (fun i _ => 8 - (intOf i).toNat)
  case atStart =>
    refine ⟨0, by omega, rfl, ?_, ?_, ?_, ?_, ?_⟩
    · rw [mix8_zero]; exact (((Blk.new w _ _).alloc _).alloc _).alloc _
    · exact ((Blk.at (by simp) rfl).alloc _).alloc _
    · exact (Blk.at (by simp) cells8_0.symm).alloc _
    · rw [cy_zero]; exact Blk.at (by simp) rfl
    · exact ((((Below.refl _ _).alloc (Nat.le_refl _) _).alloc (by simp) _).alloc (by simp; omega) _).alloc (by simp; omega) _
  case round =>
    obtain ⟨k, hk, rfl, R⟩ := hrel
    by_cases hlt : k < 8
    · have h1 := R.xb.cell k
      rw [mix8_get _ _ _ _ hlt, mx_at] at h1
      have h2 := R.yb.cell k
      rw [cells8_get _ _ hlt] at h2
      have h3 := R.xb.frozen k
      have h4 : wr.cell? ⟨w.heap.size + 1 + 1 + 1, 0, none⟩ = some (.int .u64 (cy x y' 1 k)) := R.cb.cell 0
      have h5 : wr.frozen? ⟨w.heap.size + 1 + 1 + 1, 0, none⟩ = false := R.cb.frozen 0
      have hg : (k : Int) < 8 := by omega
      have HR : Hid (Round w wr w.heap.size x y' y (x + y' + 1) 1 k) := R
      clear R
      go_wp2
      go_region_with (go_at_call 78; refine (adder1_any (lm x k) _ (cy x y' 1 k) ⟨w.heap.size + 1 + 1 + 1, 0, none⟩ _ (lm_nn _ _) (bits_nn _ _ _) (cy_nn _ _ _ _) (cy_le _ _ _ _ (by decide)) ?_ ?_).mono ?_; exact h4; exact h5; rintro e w' ⟨rfl, rfl⟩)
      all_goals (
        go_wp2
        go_roundw
        case rel => exact ⟨k + 1, by omega, by go_num, HR.out.next hlt _ _ (by rw [hy.out k hlt, lm_add]) (by rw [hy.out k hlt, cy_step])⟩
        case measure => simp [intOf]; omega)
    · have e8 : k = 8 := by omega
      subst e8
      have X := R.xb
      rw [mix8_full] at X
      have Y : Blk wr (w.heap.size + 1 + 1) 50 (cells8 0) := R.rb
      have HR : Hid (Round w wr w.heap.size x y' y (x + y' + 1) 1 8) := R
      clear R
      have HX : Hid (Blk wr w.heap.size 50 (cells8 (x + y' + 1))) := X
      have HY : Hid (Blk wr (w.heap.size + 1 + 1) 50 (cells8 0)) := Y
      clear X Y
      go_wp2_with (first
        | refine ld8 50 _ HX.out rfl rfl rfl Try.underlying50 rfl iLimbs ?_
        | refine st8 (n := x + y' + 1) 50 _ _ HY.out rfl rfl rfl rfl rfl iLimbs ?_)
      exact res8 (HY.out.row _) rfl rfl rfl Try.underlying50 rfl iLimbs ⟨rfl, below_row HR.out.bl (by omega) _⟩

/-- The difference, and 2^512 more. -/
theorem minus_any (x y : Nat) (hy : y < M) (w : World) :
    Calls Try.prog 66 #[W x, W y] w fun e w' => e = .returned (W (x + (M - y))) ∧ Below w.heap.size w w' := by
  have h := minus_core x y (M - 1 - y) (fun k hk => xor_lm y k hy hk) w
  rwa [show x + (M - 1 - y) + 1 = x + (M - y) by omega] at h

end Go.Proofs.Ytfoojpfgeicolaa
