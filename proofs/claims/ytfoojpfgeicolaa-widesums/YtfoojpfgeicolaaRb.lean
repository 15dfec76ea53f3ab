/- Rows of bits, an int each, and the document's Long: so many bits of a number. -/
import Derived.Test.YtfoojpfgeicolaaRa
import Derived.Test.YtfoojpfgeicolaaZl
import Derived.Deep.OwnRows
namespace Go.Proofs.Ytfoojpfgeicolaa
open Go.RowKit

theorem iInt : (Try.prog.info? 3).map (fun i => (i.zero, i.size, i.bytes)) = some (some (.int .i64 0), 1, 8) := by kernel_rfl
/-- Block b is a row of n ints, the i-th is f i. -/
abbrev Ints (w : World) (b n : Nat) (f : Nat → Int) : Prop := w.rowIs b 3 n (fun i => .int .i64 (f i))
/-- The bits below k, zeros from there on. -/
def pz (z : Int) (k i : Nat) : Int := if i < k then bz z i else 0
theorem pz_set (z : Int) (k : Nat) : (fun j => if j = k then Value.int .i64 (bz z k) else .int .i64 (pz z k j)) = fun j => .int .i64 (pz z (k + 1) j) := by
  funext j
  unfold pz
  by_cases h : j = k
  · subst h; rw [if_pos rfl, if_pos (by omega)]
  · rw [if_neg h]
    by_cases h2 : j < k
    · rw [if_pos h2, if_pos (by omega)]
    · rw [if_neg h2, if_neg (by omega)]
theorem Ints.next {w : World} {b n : Nat} {z v : Int} {k : Nat} (h : Ints w b n (pz z k)) (hv : v = bz z k) : Ints (w.setCell ⟨b, k, none⟩ (.int .i64 v)) b n (pz z (k + 1)) := by
  subst hv
  have h2 := World.rowIs.set h k (.int .i64 (bz z k))
  rw [pz_set] at h2
  exact h2
theorem Ints.full {w : World} {b n : Nat} {z : Int} (h : Ints w b n (pz z n)) : Ints w b n (bz z) := World.rowIs.congr h (fun i hi => by unfold pz; rw [if_pos hi])
theorem Ints.zero (w : World) (n : Nat) (z : Int) : Ints (w.alloc (.cells (madeCells #[.int .i64 0] n) 3)) w.heap.size n (pz z 0) := World.rowIs_made w (.int .i64 0) n 3

theorem e63 : (2 : Int) ^ (511 % 64) = 9223372036854775808 := by decide
theorem e7 : 511 / 64 = 7 := by decide
set_option maxRecDepth 4000 in
set_option maxHeartbeats 1000000 in
theorem long_any (x n : Nat) (z : Int) (hn : n ≤ 4000) (hz : Hid (∀ k : Nat, k < n → wrap64 ((lm x (min k 511 / 64) / 2 ^ (min k 511 % 64)).tmod 2) = bz z k)) (w : World) :
    Calls Try.prog 38 #[W x, .int .i64 n] w fun e w' => ∃ g, w.heap.size ≤ g ∧ e = .returned (.slice (some ⟨g, 0, none⟩) n n) ∧ Ints w' g n (bz z) ∧ Below w.heap.size w w' := by
  have hmk := run_make_row' (P := Try.prog) 45 3 (.int .i64 0) 8 Try.underlying45 iInt rfl .i64 .i64 n (by omega) (by omega)
  unfold W
  go_enter Try.func38, Try.ntmps38
  go_wp2_with fail
  go_loopw [6] (fun i wr => ∃ k : Nat, k ≤ n ∧ i = .int .i64 k ∧ Blk wr w.heap.size 25 (cells8 x) ∧ Ints wr (w.heap.size + 1) n (pz z k) ∧ Below w.heap.size w wr) (fun i _ => n - (intOf i).toNat)
  case atStart =>
    refine ⟨0, by omega, rfl, (Blk.new w _ _).alloc _, ?_, ((Below.refl _ _).alloc (Nat.le_refl _) _).alloc (by simp) _⟩
    have := Ints.zero (w.alloc (.cells (cells8 x) 25)) n z
    simpa using this
  case round =>
    obtain ⟨k, hk, rfl, hb, hr, hw⟩ := hrel
    by_cases hlt : k < n
    · have h3 := World.rowIs.frozen hr k
      have h4 := World.rowIs.cell hr hlt
      have HR : Hid (Blk wr w.heap.size 25 (cells8 x) ∧ Ints wr (w.heap.size + 1) n (pz z k) ∧ Below w.heap.size w wr) := ⟨hb, hr, hw⟩
      clear hr hw
      rcases (show k < 511 ∨ k = 511 ∨ 511 < k by omega) with h5 | h5 | h5
      · have h1 := hb.cell (k / 64)
        rw [cells8_get _ _ (by omega)] at h1
        clear hb
        obtain ⟨L, hL⟩ : ∃ L, L = lm x (k / 64) := ⟨_, rfl⟩
        rw [← hL] at h1
        have HL : Hid (L = lm x (k / 64)) := hL
        clear hL
        have h6 : (k : Int) < 511 := by omega
        go_wp2
        go_roundw
        case rel => exact ⟨k + 1, by omega, by go_num, HR.out.1.other _ _ (by simp), HR.out.2.1.next (by have := hz.out k hlt; rw [Nat.min_eq_left (by omega), ← HL.out] at this; exact this), HR.out.2.2.setCell (by simp) _⟩
        case measure => simp [intOf]; omega
      · subst h5
        have h1 := hb.cell 7
        rw [cells8_get _ _ (by omega)] at h1
        clear hb
        obtain ⟨L, hL⟩ : ∃ L, L = lm x 7 := ⟨_, rfl⟩
        rw [← hL] at h1
        have HL : Hid (L = lm x 7) := hL
        clear hL
        go_wp2
        go_roundw
        case rel => exact ⟨512, by omega, by go_num, HR.out.1.other _ _ (by simp), HR.out.2.1.next (by have := hz.out 511 hlt; rw [Nat.min_eq_left (by omega)] at this; rw [← this, HL.out, e63, e7]), HR.out.2.2.setCell (by simp) _⟩
        case measure => simp [intOf]; omega
      · have h1 := hb.cell 7
        rw [cells8_get _ _ (by omega)] at h1
        clear hb
        obtain ⟨L, hL⟩ : ∃ L, L = lm x 7 := ⟨_, rfl⟩
        rw [← hL] at h1
        have HL : Hid (L = lm x 7) := hL
        clear hL
        have h6 : 511 < (k : Int) := by omega
        go_wp2
        go_roundw
        case rel => exact ⟨k + 1, by omega, by go_num, HR.out.1.other _ _ (by simp), HR.out.2.1.next (by have := hz.out k hlt; rw [Nat.min_eq_right (by omega)] at this; rw [← this, HL.out, e63, e7]), HR.out.2.2.setCell (by simp) _⟩
        case measure => simp [intOf]; omega
    · have e : k = n := by omega
      subst e
      go_wp2
      go_ret
      exact ⟨_, by omega, rfl, hr.full, hw⟩

theorem H_511 (e : Nat) (he : e = 511) : H = 2 ^ e := by
  have h := M_H
  have h2 := M_pow8
  rw [show 64 * 8 = e + 1 by omega, Nat.pow_succ] at h2
  omega
/-- From the 511th on the bits of a number that fits are the same. -/
theorem bz_high {z : Int} (hz : Fit z) (k : Nat) (hk : 511 ≤ k) : bz z k = if z < 0 then 1 else 0 := by
  have hH : ((2 ^ k : Nat) : Int) = (H : Int) * ((2 ^ (k - 511) : Nat) : Int) := by
    obtain ⟨e, he⟩ : ∃ e, e = 511 := ⟨_, rfl⟩
    rw [H_511 e he, ← Int.natCast_mul, ← Nat.pow_add, show e + (k - 511) = k by omega]
  have hp := two_pow_pos (k - 511)
  have hle : (H : Int) ≤ ((2 ^ k : Nat) : Int) := by
    rw [hH]
    have hh := H_pos
    have := Int.mul_le_mul_of_nonneg_left (show (1 : Int) ≤ ((2 ^ (k - 511) : Nat) : Int) by omega) (show (0 : Int) ≤ (H : Int) by omega)
    omega
  have h1 := hz.1
  have h2 := hz.2
  unfold bz
  generalize ((2 ^ k : Nat) : Int) = P at *
  by_cases h0 : z < 0
  · rw [if_pos h0]
    have e : z = (z + P) + P * (-1) := by omega
    have h9 : z / P = ((z + P) + P * (-1)) / P := congrArg (· / P) e
    rw [h9, Int.add_mul_ediv_left _ _ (show P ≠ 0 by omega), Int.ediv_eq_zero_of_lt (by omega) (by omega)]
    omega
  · rw [if_neg h0, Int.ediv_eq_zero_of_lt (by omega) (by omega)]
    omega
theorem wrap64_01 {v : Int} (h : v = 0 ∨ v = 1) : wrap64 v = v := by rcases h with rfl | rfl <;> simp [wrap64]
theorem long_bit (z : Int) (hz : Fit z) (k : Nat) : wrap64 ((lm (enc z) (min k 511 / 64) / 2 ^ (min k 511 % 64)).tmod 2) = bz z k := by
  have h1 : (lm (enc z) (min k 511 / 64) / 2 ^ (min k 511 % 64)).tmod 2 = bz z (min k 511) := by
    rw [← bz_enc z (min k 511) (by omega)]
    unfold lm bz
    generalize hm : min k 511 = m
    have hb := bit_limb (enc z) (m / 64) (m % 64) (by omega)
    rw [show 64 * (m / 64) + m % 64 = m by omega] at hb
    have h2 : ((enc z / 2 ^ (64 * (m / 64)) % 18446744073709551616 : Nat) : Int) / 2 ^ (m % 64) = ((enc z / 2 ^ (64 * (m / 64)) % 18446744073709551616 / 2 ^ (m % 64) : Nat) : Int) := by
      rw [Int.natCast_ediv, Int.natCast_pow]; rfl
    rw [h2, Int.tmod_eq_emod_of_nonneg (Int.natCast_nonneg _)]
    have h3 : ((enc z / 2 ^ (64 * (m / 64)) % 18446744073709551616 / 2 ^ (m % 64) % 2 : Nat) : Int) = ((enc z / 2 ^ m % 2 : Nat) : Int) := congrArg Nat.cast hb
    rw [Int.natCast_emod, Int.natCast_emod, Int.natCast_ediv (enc z) (2 ^ m)] at h3
    exact h3
  have h2 : bz z (min k 511) = bz z k := by
    by_cases h : k < 511
    · rw [Nat.min_eq_left (by omega)]
    · rw [Nat.min_eq_right (by omega), bz_high hz _ (by omega), bz_high hz _ (by omega)]
  rw [h1, h2]
  exact wrap64_01 (bz_01 z k)
/-- So many bits of a number. -/
theorem longZ (z : Int) (hz : Fit z) (n : Nat) (hn : n ≤ 4000) (w : World) :
    Calls Try.prog 38 #[V z, .int .i64 n] w fun e w' => ∃ g, w.heap.size ≤ g ∧ e = .returned (.slice (some ⟨g, 0, none⟩) n n) ∧ Ints w' g n (bz z) ∧ Below w.heap.size w w' :=
  long_any (enc z) n z hn (fun k _ => long_bit z hz k) w

end Go.Proofs.Ytfoojpfgeicolaa
