/- Integers as bits, one by one, the lowest first, the sign's without end: sums and opposites with their carries. No Go in this text. Rows of bits, an int each, and the document's Long: so many bits of a number. The document's plus and minus: the sum of bits, and the bits of the number that is 0 with another one. A region that draws its order, by one walk: reads, whose value hangs on no turn of the world that may come between, and turns, which come up one behind the other. No Go in this text. The document's Of: the number of bits; false: it does not fit. -/
import Derived.Test.YtnemedgdhojhdaaGreatZf
import Derived.Test.YtnemedgdhojhdaaGreatZn
import Derived.Deep.OwnRows
import Derived.Test.YtnemedgdhojhdaaGreatWp
namespace Go.Proofs.YtnemedgdhojhdaaGreat
open Go.RowKit
set_option maxRecDepth 4000

/-- The bit number i of an integer. -/
def bz (z : Int) (i : Nat) : Int := z / ((2 ^ i : Nat) : Int) % 2
theorem bz_01 (z : Int) (i : Nat) : bz z i = 0 ∨ bz z i = 1 := by unfold bz; omega
theorem pow_two (i : Nat) : ((2 ^ (i + 1) : Nat) : Int) = ((2 ^ i : Nat) : Int) * 2 := by rw [Nat.pow_succ, Int.natCast_mul]; rfl
/-- What is below the bit i + 1 is what is below the bit i, and the bit i. -/
theorem bz_low (z : Int) (i : Nat) : z % ((2 ^ (i + 1) : Nat) : Int) = z % ((2 ^ i : Nat) : Int) + ((2 ^ i : Nat) : Int) * bz z i := by
  have hp := two_pow_pos i
  unfold bz
  rw [pow_two]
  generalize ((2 ^ i : Nat) : Int) = P at *
  have h1 := Int.emod_add_mul_ediv z P
  have h2 := Int.emod_add_mul_ediv (z / P) 2
  have h3 : z = (z % P + P * (z / P % 2)) + P * 2 * (z / P / 2) := by
    have e : P * (z / P % 2) + P * 2 * (z / P / 2) = P * (z / P) := by
      rw [Int.mul_assoc, ← Int.mul_add, h2]
    omega
  have b1 := Int.emod_nonneg z (show P ≠ 0 by omega)
  have b2 := Int.emod_lt_of_pos z hp
  have hlt : z % P + P * (z / P % 2) < P * 2 ∧ 0 ≤ z % P + P * (z / P % 2) := by
    rcases (show z / P % 2 = 0 ∨ z / P % 2 = 1 by omega) with h | h
    · rw [h]; omega
    · rw [h]; omega
  have h4 : z % (P * 2) = ((z % P + P * (z / P % 2)) + P * 2 * (z / P / 2)) % (P * 2) := congrArg (· % (P * 2)) h3
  rw [h4, Int.add_mul_emod_self_left]
  exact Int.emod_eq_of_lt hlt.2 hlt.1
/-- The carry of a sum below the bit i, c coming in. -/
def cz (x y c : Int) (i : Nat) : Int := (x % ((2 ^ i : Nat) : Int) + y % ((2 ^ i : Nat) : Int) + c) / ((2 ^ i : Nat) : Int)
theorem cz_step (x y c : Int) (i : Nat) : cz x y c (i + 1) = (bz x i + bz y i + cz x y c i) / 2 := by
  have hp := two_pow_pos i
  unfold cz
  rw [bz_low, bz_low, pow_two]
  generalize bz x i = u
  generalize bz y i = v
  generalize ((2 ^ i : Nat) : Int) = P at *
  rw [← Int.ediv_ediv_of_nonneg (show 0 ≤ P by omega)]
  have e : x % P + P * u + (y % P + P * v) + c = (x % P + y % P + c) + P * (u + v) := by rw [Int.mul_add]; omega
  rw [e, Int.add_mul_ediv_left _ _ (show P ≠ 0 by omega)]
  congr 1
  omega
theorem bz_sum (x y c : Int) (i : Nat) : bz (x + y + c) i = (bz x i + bz y i + cz x y c i) % 2 := by
  have hp := two_pow_pos i
  unfold bz cz
  generalize ((2 ^ i : Nat) : Int) = P at *
  have hx := Int.emod_add_mul_ediv x P
  have hy := Int.emod_add_mul_ediv y P
  have e : x + y + c = (x % P + y % P + c) + P * (x / P + y / P) := by rw [Int.mul_add]; omega
  rw [e, Int.add_mul_ediv_left _ _ (show P ≠ 0 by omega)]
  omega
theorem cz_zero (x y c : Int) : cz x y c 0 = c := by
  unfold cz
  simp [Int.emod_one]
/-- The bits of the opposite: those turned over, and 1. -/
theorem bz_not (x : Int) (i : Nat) : bz (-x - 1) i = 1 - bz x i := by
  have hp := two_pow_pos i
  unfold bz
  generalize ((2 ^ i : Nat) : Int) = P at *
  have hx := Int.emod_add_mul_ediv x P
  have b1 := Int.emod_nonneg x (show P ≠ 0 by omega)
  have b2 := Int.emod_lt_of_pos x hp
  have e : -x - 1 = (P - 1 - x % P) + P * (-(x / P) - 1) := by
    rw [Int.mul_sub, Int.mul_neg, Int.mul_one]
    omega
  rw [e, Int.add_mul_ediv_left _ _ (show P ≠ 0 by omega), Int.ediv_eq_zero_of_lt (by omega) (by omega)]
  omega
theorem bit_limb (n j r : Nat) (hr : r < 64) : n / 2 ^ (64 * j) % 18446744073709551616 / 2 ^ r % 2 = n / 2 ^ (64 * j + r) % 2 := by
  rw [Nat.pow_add, ← Nat.div_div_eq_div_mul]
  generalize n / 2 ^ (64 * j) = m
  obtain ⟨d, hd⟩ : ∃ d, 64 = r + (d + 1) := ⟨63 - r, by omega⟩
  have h64 : (18446744073709551616 : Nat) = 2 ^ r * (2 ^ d * 2) := by
    rw [show (18446744073709551616 : Nat) = 2 ^ 64 by decide, hd, Nat.pow_add, Nat.pow_succ]
  rw [h64, Nat.mod_mul_right_div_self, Nat.mod_mod_of_dvd _ ⟨2 ^ d, Nat.mul_comm _ _⟩]
theorem M_split (k : Nat) (hk : k < 512) : ∃ c : Nat, M = 2 ^ k * (2 * c) := by
  obtain ⟨e, he, h5⟩ : ∃ e, M = 2 ^ e ∧ e = 512 := ⟨64 * 8, M_pow8, by omega⟩
  obtain ⟨d, hd⟩ : ∃ d, e = k + (d + 1) := ⟨511 - k, by omega⟩
  exact ⟨2 ^ d, by rw [he, hd, Nat.pow_add, Nat.pow_succ, Nat.mul_comm (2 ^ d)]⟩
/-- A bit below the 512th does not hang on what is above. -/
theorem bz_enc (x : Int) (k : Nat) (hk : k < 512) : bz (enc x : Int) k = bz x k := by
  obtain ⟨c, hc⟩ := M_split k hk
  have hp := two_pow_pos k
  have hx := Int.emod_add_mul_ediv x (M : Int)
  rw [enc_int]
  unfold bz
  have hM : (M : Int) = ((2 ^ k : Nat) : Int) * (2 * (c : Int)) := by rw [hc, Int.natCast_mul, Int.natCast_mul]; rfl
  generalize x / (M : Int) = q at hx
  rw [hM] at hx ⊢
  generalize ((2 ^ k : Nat) : Int) = P at *
  have e : x = x % (P * (2 * (c : Int))) + P * (2 * ((c : Int) * q)) := by
    have : P * (2 * (c : Int)) * q = P * (2 * ((c : Int) * q)) := by rw [Int.mul_assoc, Int.mul_assoc]
    omega
  have e2 : x / P = x % (P * (2 * (c : Int))) / P + 2 * ((c : Int) * q) := by
    have h7 : x / P = (x % (P * (2 * (c : Int))) + P * (2 * ((c : Int) * q))) / P := congrArg (fun z => z / P) e
    rw [Int.add_mul_ediv_left _ _ (show P ≠ 0 by omega)] at h7
    exact h7
  rw [e2]
  omega

theorem iInt : (Tryz.prog.info? 3).map (fun i => (i.zero, i.size, i.bytes)) = some (some (.int .i64 0), 1, 8) := by kernel_rfl
/-- Block b is a row of n ints, the i-th is f i. -/
abbrev Ints (w : World) (b n : Nat) (f : Nat → Int) : Prop := w.rowIs b 3 n (fun i => .int .i64 (f i))
/-- The bits below k, zeros from there on. -/
def pz (z : Int) (k i : Nat) : Int := if i < k then bz z i else 0
theorem pz_set (z : Int) (k : Nat) : (fun j => if j = k then Value.int .i64 (bz z k) else .int .i64 (pz z k j)) = fun j => .int .i64 (pz z (k + 1) j) := by
  funext j
  unfold pz
  by_cases h : j = k
  · subst h; rw [if_pos rfl, if_pos (by omega)]
  · rw [if_neg h]
    by_cases h2 : j < k
    · rw [if_pos h2, if_pos (by omega)]
    · rw [if_neg h2, if_neg (by omega)]
theorem Ints.next {w : World} {b n : Nat} {z v : Int} {k : Nat} (h : Ints w b n (pz z k)) (hv : v = bz z k) : Ints (w.setCell ⟨b, k, none⟩ (.int .i64 v)) b n (pz z (k + 1)) := by
  subst hv
  have h2 := World.rowIs.set h k (.int .i64 (bz z k))
  rw [pz_set] at h2
  exact h2
theorem Ints.full {w : World} {b n : Nat} {z : Int} (h : Ints w b n (pz z n)) : Ints w b n (bz z) := World.rowIs.congr h (fun i hi => by unfold pz; rw [if_pos hi])
theorem Ints.zero (w : World) (n : Nat) (z : Int) : Ints (w.alloc (.cells (madeCells #[.int .i64 0] n) 3)) w.heap.size n (pz z 0) := World.rowIs_made w (.int .i64 0) n 3

theorem e63 : (2 : Int) ^ (511 % 64) = 9223372036854775808 := by decide
theorem e7 : 511 / 64 = 7 := by decide
set_option maxRecDepth 4000 in
set_option maxHeartbeats 1000000 in
theorem long_any (x n : Nat) (z : Int) (hn : n ≤ 4000) (hz : Hid (∀ k : Nat, k < n → wrap64 ((lm x (min k 511 / 64) / 2 ^ (min k 511 % 64)).tmod 2) = bz z k)) (w : World) :
    Calls Tryz.prog 118 #[W x, .int .i64 n] w fun e w' => ∃ g, w.heap.size ≤ g ∧ e = .returned (.slice (some ⟨g, 0, none⟩) n n) ∧ Ints w' g n (bz z) ∧ Below w.heap.size w w' := by
  have hmk := run_make_row' (P := Tryz.prog) 116 3 (.int .i64 0) 8 Tryz.underlying116 iInt rfl .i64 .i64 n (by omega) (by omega)
  unfold W
  go_enter Tryz.func118, Tryz.ntmps118
  go_wp2_with fail
  go_loopw [6] (fun i wr => ∃ k : Nat, k ≤ n ∧ i = .int .i64 k ∧ Blk wr w.heap.size 75 (cells8 x) ∧ Ints wr (w.heap.size + 1) n (pz z k) ∧ Below w.heap.size w wr) (fun i _ => n - (intOf i).toNat)
  case atStart =>
    refine ⟨0, by omega, rfl, (Blk.new w _ _).alloc _, ?_, ((Below.refl _ _).alloc (Nat.le_refl _) _).alloc (by simp) _⟩
    have := Ints.zero (w.alloc (.cells (cells8 x) 75)) n z
    simpa using this
  case round =>
    obtain ⟨k, hk, rfl, hb, hr, hw⟩ := hrel
    by_cases hlt : k < n
    · have h3 := World.rowIs.frozen hr k
      have h4 := World.rowIs.cell hr hlt
      have HR : Hid (Blk wr w.heap.size 75 (cells8 x) ∧ Ints wr (w.heap.size + 1) n (pz z k) ∧ Below w.heap.size w wr) := ⟨hb, hr, hw⟩
      clear hr hw
      rcases (show k < 511 ∨ k = 511 ∨ 511 < k by omega) with h5 | h5 | h5
      · have h1 := hb.cell (k / 64)
        rw [cells8_get _ _ (by omega)] at h1
        clear hb
        obtain ⟨L, hL⟩ : ∃ L, L = lm x (k / 64) := ⟨_, rfl⟩
        rw [← hL] at h1
        have HL : Hid (L = lm x (k / 64)) := hL
        clear hL
        have h6 : (k : Int) < 511 := by omega
        go_wp2
        go_roundw
        case rel => exact ⟨k + 1, by omega, by go_num, HR.out.1.other _ _ (by simp), HR.out.2.1.next (by have := hz.out k hlt; rw [Nat.min_eq_left (by omega), ← HL.out] at this; exact this), HR.out.2.2.setCell (by simp) _⟩
        case measure => simp [intOf]; omega
      · subst h5
        have h1 := hb.cell 7
        rw [cells8_get _ _ (by omega)] at h1
        clear hb
        obtain ⟨L, hL⟩ : ∃ L, L = lm x 7 := ⟨_, rfl⟩
        rw [← hL] at h1
        have HL : Hid (L = lm x 7) := hL
        clear hL
        go_wp2
        go_roundw
        case rel => exact ⟨512, by omega, by go_num, HR.out.1.other _ _ (by simp), HR.out.2.1.next (by have := hz.out 511 hlt; rw [Nat.min_eq_left (by omega)] at this; rw [← this, HL.out, e63, e7]), HR.out.2.2.setCell (by simp) _⟩
        case measure => simp [intOf]; omega
      · have h1 := hb.cell 7
        rw [cells8_get _ _ (by omega)] at h1
        clear hb
        obtain ⟨L, hL⟩ : ∃ L, L = lm x 7 := ⟨_, rfl⟩
        rw [← hL] at h1
        have HL : Hid (L = lm x 7) := hL
        clear hL
        have h6 : 511 < (k : Int) := by omega
        go_wp2
        go_roundw
        case rel => exact ⟨k + 1, by omega, by go_num, HR.out.1.other _ _ (by simp), HR.out.2.1.next (by have := hz.out k hlt; rw [Nat.min_eq_right (by omega)] at this; rw [← this, HL.out, e63, e7]), HR.out.2.2.setCell (by simp) _⟩
        case measure => simp [intOf]; omega
    · have e : k = n := by omega
      subst e
      go_wp2
      go_ret
      exact ⟨_, by omega, rfl, hr.full, hw⟩

theorem H_511 (e : Nat) (he : e = 511) : H = 2 ^ e := by
  have h := M_H
  have h2 := M_pow8
  rw [show 64 * 8 = e + 1 by omega, Nat.pow_succ] at h2
  omega
/-- From the 511th on the bits of a number that fits are the same. -/
theorem bz_high {z : Int} (hz : Fit z) (k : Nat) (hk : 511 ≤ k) : bz z k = if z < 0 then 1 else 0 := by
  have hH : ((2 ^ k : Nat) : Int) = (H : Int) * ((2 ^ (k - 511) : Nat) : Int) := by
    obtain ⟨e, he⟩ : ∃ e, e = 511 := ⟨_, rfl⟩
    rw [H_511 e he, ← Int.natCast_mul, ← Nat.pow_add, show e + (k - 511) = k by omega]
  have hp := two_pow_pos (k - 511)
  have hle : (H : Int) ≤ ((2 ^ k : Nat) : Int) := by
    rw [hH]
    have hh := H_pos
    have := Int.mul_le_mul_of_nonneg_left (show (1 : Int) ≤ ((2 ^ (k - 511) : Nat) : Int) by omega) (show (0 : Int) ≤ (H : Int) by omega)
    omega
  have h1 := hz.1
  have h2 := hz.2
  unfold bz
  generalize ((2 ^ k : Nat) : Int) = P at *
  by_cases h0 : z < 0
  · rw [if_pos h0]
    have e : z = (z + P) + P * (-1) := by omega
    have h9 : z / P = ((z + P) + P * (-1)) / P := congrArg (· / P) e
    rw [h9, Int.add_mul_ediv_left _ _ (show P ≠ 0 by omega), Int.ediv_eq_zero_of_lt (by omega) (by omega)]
    omega
  · rw [if_neg h0, Int.ediv_eq_zero_of_lt (by omega) (by omega)]
    omega
theorem wrap64_01 {v : Int} (h : v = 0 ∨ v = 1) : wrap64 v = v := by rcases h with rfl | rfl <;> simp [wrap64]
theorem long_bit (z : Int) (hz : Fit z) (k : Nat) : wrap64 ((lm (enc z) (min k 511 / 64) / 2 ^ (min k 511 % 64)).tmod 2) = bz z k := by
  have h1 : (lm (enc z) (min k 511 / 64) / 2 ^ (min k 511 % 64)).tmod 2 = bz z (min k 511) := by
    rw [← bz_enc z (min k 511) (by omega)]
    unfold lm bz
    generalize hm : min k 511 = m
    have hb := bit_limb (enc z) (m / 64) (m % 64) (by omega)
    rw [show 64 * (m / 64) + m % 64 = m by omega] at hb
    have h2 : ((enc z / 2 ^ (64 * (m / 64)) % 18446744073709551616 : Nat) : Int) / 2 ^ (m % 64) = ((enc z / 2 ^ (64 * (m / 64)) % 18446744073709551616 / 2 ^ (m % 64) : Nat) : Int) := by
      rw [Int.natCast_ediv, Int.natCast_pow]; rfl
    rw [h2, Int.tmod_eq_emod_of_nonneg (Int.natCast_nonneg _)]
    have h3 : ((enc z / 2 ^ (64 * (m / 64)) % 18446744073709551616 / 2 ^ (m % 64) % 2 : Nat) : Int) = ((enc z / 2 ^ m % 2 : Nat) : Int) := congrArg Nat.cast hb
    rw [Int.natCast_emod, Int.natCast_emod, Int.natCast_ediv (enc z) (2 ^ m)] at h3
    exact h3
  have h2 : bz z (min k 511) = bz z k := by
    by_cases h : k < 511
    · rw [Nat.min_eq_left (by omega)]
    · rw [Nat.min_eq_right (by omega), bz_high hz _ (by omega), bz_high hz _ (by omega)]
  rw [h1, h2]
  exact wrap64_01 (bz_01 z k)
/-- So many bits of a number. -/
theorem longZ (z : Int) (hz : Fit z) (n : Nat) (hn : n ≤ 4000) (w : World) :
    Calls Tryz.prog 118 #[V z, .int .i64 n] w fun e w' => ∃ g, w.heap.size ≤ g ∧ e = .returned (.slice (some ⟨g, 0, none⟩) n n) ∧ Ints w' g n (bz z) ∧ Below w.heap.size w w' :=
  long_any (enc z) n z hn (fun k _ => long_bit z hz k) w

theorem cz_01 (x y c : Int) (hc : c = 0 ∨ c = 1) (i : Nat) : cz x y c i = 0 ∨ cz x y c i = 1 := by
  induction i with
  | zero => rw [cz_zero]; exact hc
  | succ i ih =>
    rw [cz_step]
    have h1 := bz_01 x i
    have h2 := bz_01 y i
    omega

set_option maxRecDepth 4000 in
set_option maxHeartbeats 1000000 in
theorem plus_bits (x y : Int) (n p q o1 o2 c1 c2 : Nat) (hn : n ≤ 4000) (w : World) (hp : ∀ k, k < n → w.cell? ⟨p, o1 + k, none⟩ = some (.int .i64 (bz x k))) (hq : ∀ k, k < n → w.cell? ⟨q, o2 + k, none⟩ = some (.int .i64 (bz y k)))
    (hpw : p < w.heap.size) (hqw : q < w.heap.size) :
    Calls Tryz.prog 120 #[.slice (some ⟨p, o1, none⟩) n c1, .slice (some ⟨q, o2, none⟩) n c2] w fun e w' => ∃ g, w.heap.size ≤ g ∧ e = .returned (.slice (some ⟨g, 0, none⟩) n n) ∧ Ints w' g n (bz (x + y)) ∧ Below w.heap.size w w' := by
  have hmk := run_make_row' (P := Tryz.prog) 116 3 (.int .i64 0) 8 Tryz.underlying116 iInt rfl .i64 .i64 n (by omega) (by omega)
  have HP : Hid (∀ k, k < n → w.cell? ⟨p, o1 + k, none⟩ = some (.int .i64 (bz x k))) := hp
  have HQ : Hid (∀ k, k < n → w.cell? ⟨q, o2 + k, none⟩ = some (.int .i64 (bz y k))) := hq
  clear hp hq
  go_enter Tryz.func120, Tryz.ntmps120
  go_wp2_with fail
  go_loopw [6, 7] (fun c i wr => ∃ k : Nat, k ≤ n ∧ i = .int .i64 k ∧ c = .int .i64 (cz x y 0 k) ∧ Ints wr w.heap.size n (pz (x + y) k) ∧ Below w.heap.size w wr) (fun _ i _ => n - (intOf i).toNat)
  case atStart =>
    exact ⟨0, by omega, rfl, by rw [cz_zero], Ints.zero w n _, (Below.refl _ _).alloc (Nat.le_refl _) _⟩
  case round =>
    obtain ⟨k, hk, rfl, rfl, hr, hw⟩ := hrel
    by_cases hlt : k < n
    · have h3 := World.rowIs.frozen hr k
      have h4 := World.rowIs.cell hr hlt
      have h1 : wr.cell? ⟨p, o1 + k, none⟩ = some (.int .i64 (bz x k)) := (hw.cell (by exact hpw)).trans (HP.out k hlt)
      have h2 : wr.cell? ⟨q, o2 + k, none⟩ = some (.int .i64 (bz y k)) := (hw.cell (by exact hqw)).trans (HQ.out k hlt)
      have HR : Hid (Ints wr w.heap.size n (pz (x + y) k) ∧ Below w.heap.size w wr) := ⟨hr, hw⟩
      clear hr hw
      have HC : Hid (cz x y 0 (k + 1) = (bz x k + bz y k + cz x y 0 k) / 2 ∧ bz (x + y) k = (bz x k + bz y k + cz x y 0 k) % 2) := ⟨cz_step x y 0 k, by have := bz_sum x y 0 k; rwa [Int.add_zero] at this⟩
      have a1 := bz_01 x k
      have a2 := bz_01 y k
      have a3 := cz_01 x y 0 (.inl rfl) k
      generalize bz x k = u at *
      generalize bz y k = v at *
      generalize cz x y 0 k = c at *
      go_wp2
      go_region
      all_goals (
        go_wp2
        go_roundw
        case rel => exact ⟨k + 1, by omega, by go_num, by rw [HC.out.1], World.rowIs.drew (Ints.next HR.out.1 HC.out.2.symm), (HR.out.2.setCell (by simp) _).drew⟩
        case measure => simp [intOf]; omega)
    · have e : k = n := by omega
      subst e
      go_wp2
      go_ret
      exact ⟨_, by omega, rfl, hr.full, hw⟩

set_option maxRecDepth 4000 in
set_option maxHeartbeats 1000000 in
theorem minus_bits (x : Int) (n p o1 c1 : Nat) (hn : n ≤ 4000) (w : World) (hp : ∀ k, k < n → w.cell? ⟨p, o1 + k, none⟩ = some (.int .i64 (bz x k))) (hpw : p < w.heap.size) :
    Calls Tryz.prog 121 #[.slice (some ⟨p, o1, none⟩) n c1] w fun e w' => ∃ g, w.heap.size ≤ g ∧ e = .returned (.slice (some ⟨g, 0, none⟩) n n) ∧ Ints w' g n (bz (-x)) ∧ Below w.heap.size w w' := by
  have hmk := run_make_row' (P := Tryz.prog) 116 3 (.int .i64 0) 8 Tryz.underlying116 iInt rfl .i64 .i64 n (by omega) (by omega)
  have HP : Hid (∀ k, k < n → w.cell? ⟨p, o1 + k, none⟩ = some (.int .i64 (bz x k))) := hp
  clear hp
  go_enter Tryz.func121, Tryz.ntmps121
  go_wp2_with fail
  go_loopw [4, 5] (fun c i wr => ∃ k : Nat, k ≤ n ∧ i = .int .i64 k ∧ c = .int .i64 (cz (-x - 1) 0 1 k) ∧ Ints wr w.heap.size n (pz (-x) k) ∧ Below w.heap.size w wr) (fun _ i _ => n - (intOf i).toNat)
  case atStart =>
    exact ⟨0, by omega, rfl, by rw [cz_zero], Ints.zero w n _, (Below.refl _ _).alloc (Nat.le_refl _) _⟩
  case round =>
    obtain ⟨k, hk, rfl, rfl, hr, hw⟩ := hrel
    by_cases hlt : k < n
    · have h3 := World.rowIs.frozen hr k
      have h4 := World.rowIs.cell hr hlt
      have h1 : wr.cell? ⟨p, o1 + k, none⟩ = some (.int .i64 (bz x k)) := (hw.cell (by exact hpw)).trans (HP.out k hlt)
      have HR : Hid (Ints wr w.heap.size n (pz (-x) k) ∧ Below w.heap.size w wr) := ⟨hr, hw⟩
      clear hr hw
      have e0 : bz 0 k = 0 := by unfold bz; rw [Int.zero_ediv]; rfl
      have HC : Hid (cz (-x - 1) 0 1 (k + 1) = (1 - bz x k + cz (-x - 1) 0 1 k) / 2 ∧ bz (-x) k = (1 - bz x k + cz (-x - 1) 0 1 k) % 2) :=
        ⟨by rw [cz_step, bz_not, e0, Int.add_zero], by have := bz_sum (-x - 1) 0 1 k; rw [show -x - 1 + 0 + 1 = -x by omega, bz_not, e0, Int.add_zero] at this; exact this⟩
      clear e0
      have a1 := bz_01 x k
      have a3 := cz_01 (-x - 1) 0 1 (.inr rfl) k
      generalize bz x k = u at *
      generalize cz (-x - 1) 0 1 k = c at *
      go_wp2
      go_roundw
      case rel => exact ⟨k + 1, by omega, by go_num, by rw [HC.out.1], Ints.next HR.out.1 HC.out.2.symm, HR.out.2.setCell (by simp) _⟩
      case measure => simp [intOf]; omega
    · have e : k = n := by omega
      subst e
      go_wp2
      go_ret
      exact ⟨_, by omega, rfl, hr.full, hw⟩

section
variable {P : Program} {ops : Array Oper} {Q : Exit → Act → World → Prop} {S : World → Prop} {tn : Nat → Bool}

/-- What an operation ends in meets K. -/
def GivesK (P : Program) (K : Value → World → Prop) : Result Next → Prop
  | .ok (.value u) w => K u w
  | .ok .skip w => K undef w
  | .ok (.enter f args) w => Calls P f args w fun e w' => ∃ v, e = .returned v ∧ K v w'
  | _ => False
theorem GivesK.mono {K K' : Value → World → Prop} {r : Result Next} (h : GivesK P K r) (hk : ∀ v w, K v w → K' v w) : GivesK P K' r := by
  cases r with
  | ok n w' =>
    cases n <;> simp only [GivesK] at h ⊢
    case value u => exact hk _ _ h
    case skip => exact hk _ _ h
    case enter f args => exact Calls.mono h fun e w'' ⟨v, he, hs⟩ => ⟨v, he, hk _ _ hs⟩
  | halt x w' => exact h.elim
theorem GivesK.wp {o : Oper} {a : Act} {w : World} {K : Act → World → Prop} (h : GivesK P (fun v w' => K (a.put o.dst v) w') ((execOp a.eval o).run P w)) : o.wp P a w K Q := by
  unfold Oper.wp
  generalize (execOp a.eval o).run P w = r at *
  cases r with
  | ok n w' =>
    cases n <;> simp only [GivesK, Oper.upon] at h ⊢
    case value u => exact h
    case skip => exact h
    case enter f args => exact Calls.mono h fun e w'' ⟨v, he, hs⟩ => by subst he; exact hs
  | halt x w' => exact h.elim

/-- The operations of the list, one behind the other, from this frame and this world. -/
def Walk (P : Program) (ops : Array Oper) (S : World → Prop) (Q : Exit → Act → World → Prop) (tn : Nat → Bool) : List Nat → Act → World → Prop
  | [], a, w => Q .normal a w
  | i :: r, a, w => ∃ o, ops[i]? = some o ∧
    ((Region.wanted o (yielded ops a.tmps) = false ∧ Walk P ops S Q tn r (a.put o.dst undef) w) ∨
     (Region.wanted o (yielded ops a.tmps) = true ∧ tn i = false ∧ ∃ v, (∀ u, S u → (execOp a.eval o).run P u = .ok (.value v) u) ∧ Walk P ops S Q tn r (a.put o.dst v) w) ∨
     (Region.wanted o (yielded ops a.tmps) = true ∧ tn i = true ∧ GivesK P (fun v w' => S w' ∧ Walk P ops S Q tn r (a.put o.dst v) w') ((execOp a.eval o).run P w)))

/-- What is behind a turn waits for it, or for another that is behind it. -/
def okWalk (ops : Array Oper) (tn : Nat → Bool) : List Nat → Bool
  | [] => true
  | i :: r => (!tn i || r.all fun j => (i :: r).any (waits ops j)) && okWalk ops tn r

theorem okWalk.reads : ∀ {l : List Nat} {s : List Nat}, okWalk ops tn (l ++ s) = true → okWalk ops tn s = true
  | [], _, h => h
  | _ :: l, _, h => okWalk.reads (l := l) (by simp only [List.cons_append, okWalk, Bool.and_eq_true] at h; exact h.2)
theorem okWalk.join : ∀ {l : List Nat} {s : List Nat}, (∀ i ∈ l, tn i = false) → okWalk ops tn s = true → okWalk ops tn (l ++ s) = true
  | [], _, _, h => h
  | i :: l, s, hl, h => by
    simp only [List.cons_append, okWalk, hl i (List.mem_cons_self ..), Bool.not_false, Bool.true_or, Bool.true_and]
    exact okWalk.join (fun k hk => hl k (List.mem_cons_of_mem _ hk)) h
theorem okWalk.at : ∀ {l : List Nat} {i : Nat} {s : List Nat}, okWalk ops tn (l ++ i :: s) = true → tn i = true → ∀ j ∈ s, ∃ k ∈ i :: s, waits ops j k = true := by
  intro l i s h ht j hj
  have h2 := okWalk.reads (l := l) h
  simp only [okWalk, ht, Bool.not_true, Bool.false_or, Bool.and_eq_true, List.all_eq_true] at h2
  have := h2.1 j hj
  simpa only [List.any_eq_true] using this

theorem Walk.front (hs : Region.noSelect ops = true) : ∀ (l : List Nat) (j : Nat) (r : List Nat) (a : Act) (w : World), (∀ i ∈ l, tn i = false) → (∀ i ∈ l, apartAt ops i j = true) → Walk P ops S Q tn (l ++ j :: r) a w → Walk P ops S Q tn (j :: (l ++ r)) a w
  | [], _, _, _, _, _, _, h => h
  | i :: l, j, r, a, w, hl, hap, h => by
    have IH := fun a => Walk.front hs l j r a w (fun k hk => hl k (List.mem_cons_of_mem _ hk)) (fun k hk => hap k (List.mem_cons_of_mem _ hk))
    obtain ⟨oi, hoi, hi⟩ := h
    have hti := hl i (List.mem_cons_self ..)
    have main : ∀ vi : Value, Walk P ops S Q tn (j :: (l ++ r)) (a.put oi.dst vi) w →
        (∀ a' : Act, (execOp a'.eval oi = execOp a.eval oi) → (Region.wanted oi (yielded ops a'.tmps) = Region.wanted oi (yielded ops a.tmps)) → ∀ w', Walk P ops S Q tn (l ++ r) (a'.put oi.dst vi) w' → Walk P ops S Q tn (i :: (l ++ r)) a' w') →
        Walk P ops S Q tn (j :: (i :: l ++ r)) a w := by
      intro vi hw back
      obtain ⟨oj, hoj, hj⟩ := hw
      have hx : oi.apart ops oj = true := by have := hap i (List.mem_cons_self ..); simpa [apartAt, hoi, hoj] using this
      obtain ⟨h1, h2, h3⟩ := Oper.apart_spec hx
      have e1 : execOp a.eval oj = execOp (a.put oi.dst vi).eval oj := (execOp_put oj (fun cs b => Region.noSelect_spec hs j oj cs b hoj) a oi.dst vi h1).symm
      have e2 : Region.wanted oj (yielded ops a.tmps) = Region.wanted oj (yielded ops (a.put oi.dst vi).tmps) := (wanted_put oj a oi.dst vi h1).symm
      have e3 : ∀ vj, execOp (a.put oj.dst vj).eval oi = execOp a.eval oi := fun vj => execOp_put oi (fun cs b => Region.noSelect_spec hs i oi cs b hoi) a oj.dst vj h3
      have e4 : ∀ vj, Region.wanted oi (yielded ops (a.put oj.dst vj).tmps) = Region.wanted oi (yielded ops a.tmps) := fun vj => wanted_put oi a oj.dst vj h3
      have e5 : ∀ vj, (a.put oi.dst vi).put oj.dst vj = (a.put oj.dst vj).put oi.dst vi := fun vj => Act.put_comm a vi vj h2
      refine ⟨oj, hoj, ?_⟩
      rcases hj with ⟨hw, hr⟩ | ⟨hw, ht, v, hv, hr⟩ | ⟨hw, ht, hg⟩
      · exact .inl ⟨e2.trans hw, back _ (e3 _) (e4 _) _ (e5 _ ▸ hr)⟩
      · exact .inr (.inl ⟨e2.trans hw, ht, v, fun u hu => by rw [e1]; exact hv u hu, back _ (e3 _) (e4 _) _ (e5 _ ▸ hr)⟩)
      · exact .inr (.inr ⟨e2.trans hw, ht, by rw [e1]; exact hg.mono fun v w' ⟨hS, hr⟩ => ⟨hS, back _ (e3 _) (e4 _) _ (e5 _ ▸ hr)⟩⟩)
    rcases hi with ⟨hw, hr⟩ | ⟨hw, ht, v, hv, hr⟩ | ⟨_, ht, _⟩
    · exact main undef (IH _ hr) fun a' he hwt w' hr' => ⟨oi, hoi, .inl ⟨hwt.trans hw, hr'⟩⟩
    · exact main v (IH _ hr) fun a' he hwt w' hr' => ⟨oi, hoi, .inr (.inl ⟨hwt.trans hw, ht, v, fun u hu => by rw [he]; exact hv u hu, hr'⟩)⟩
    · rw [hti] at ht; cases ht

theorem walk_any (hs : Region.noSelect ops = true) (he2 : edgesOk ops = true) :
    ∀ (fuel : Nat) (l : List Nat) (listed : Array Bool) (a : Act) (w : World), fuel = l.length → Left ops l [] listed → okWalk ops tn l = true → Walk P ops S Q tn l a w → S w → wpAny P .any ops Q fuel listed a w := by
  intro fuel
  induction fuel with
  | zero =>
    intro l listed a w hf hl hg hp hS
    have h1 : l = [] := List.eq_nil_of_length_eq_zero (by omega)
    subst h1
    refine ⟨?_, hp⟩
    apply List.eq_nil_iff_forall_not_mem.2
    intro k hk
    rcases hl.all k (mem_ready.1 hk).1 with h | h
    · cases h
    · cases h
  | succ fuel ih =>
    intro l listed a w hf hl hg hp hS
    refine ⟨fun hr => ?_, fun j hj => ?_⟩
    · cases l with
      | nil => exact hp
      | cons i r =>
        exfalso
        have hi := hl.un i (by simp)
        have hlt : i < ops.size := by
          rcases Nat.lt_or_ge i listed.size with h' | h'
          · have := hl.sz; omega
          · simp [Array.getElem?_eq_none h'] at hi
        obtain ⟨o, ho⟩ := Option.isSome_iff_exists.1 (show (ops[i]?).isSome = true by simp [hlt])
        have : i ∈ Region.ready .any ops listed := by
          refine mem_ready.2 ⟨hi, o, ho, fun e he hbd => ?_⟩
          by_cases hu : listed.getD e.on true = false
          · exfalso
            have hw : waits ops i e.on = true := by
              unfold waits
              rw [ho]
              simp only [Option.map_some, Option.getD_some, Array.any_eq_true']
              exact ⟨e, he, by simp [hbd]⟩
            have hok := hl.ok
            simp only [okPlan, Bool.and_eq_true, List.all_eq_true] at hok
            rcases hl.all _ hu with hm | hm
            · rcases List.mem_cons.1 hm with hm | hm
              · rw [hm] at hw; rw [hw] at hok; simp at hok
              · have := hok.1.2 _ hm
                simp [ahead, hw] at this
            · cases hm
          · have : listed.getD e.on true = true := by simpa using hu
            rcases Nat.lt_or_ge e.on listed.size with h' | h'
            · simpa [h'] using this
            · have := edgesOk_spec he2 ho he
              have := hl.sz
              omega
        rw [hr] at this
        cases this
    · obtain ⟨hju, _⟩ := mem_ready.1 hj
      rcases hl.all j hju with hm | hm
      · obtain ⟨l1, r, rfl⟩ := List.append_of_mem hm
        have hw : ∀ i ∈ l1, waits ops j i = false := fun i hi => not_waits hj (hl.un i (by simp [hi]))
        have hap : ∀ i ∈ l1, apartAt ops i j = true := fun i hi => by
          have := (okPlan.tail hl.ok).2.1 i hi
          simp only [ahead, Bool.and_eq_true, Bool.or_eq_true, hw i hi] at this
          simpa using this.2
        have hrd : ∀ i ∈ l1, tn i = false := fun i hi => by
          cases ht : tn i with
          | false => rfl
          | true =>
            exfalso
            obtain ⟨p, q, rfl⟩ := List.append_of_mem hi
            rw [List.append_assoc, List.cons_append] at hg
            obtain ⟨k, hk, hwk⟩ := okWalk.at hg ht j (by simp)
            have hku : k ∈ p ++ i :: q ++ j :: r := by
              rcases List.mem_cons.1 hk with e | hk
              · subst e; simp
              · rcases List.mem_append.1 hk with hk | hk
                · simp [hk]
                · rcases List.mem_cons.1 hk with e | hk
                  · subst e; simp
                  · simp [hk]
            rw [not_waits hj (hl.un k hku)] at hwk
            cases hwk
        have hok2 : okWalk ops tn (l1 ++ r) = true := okWalk.join hrd (by have := okWalk.reads (l := l1) hg; simp only [okWalk, Bool.and_eq_true] at this; exact this.2)
        have hln : fuel = (l1 ++ r).length := by simp at hf ⊢; omega
        obtain ⟨o, ho, hcase⟩ := hp.front hs l1 j r a w hrd hap
        unfold wpOp
        simp only [ho]
        rcases hcase with ⟨hwt, hr⟩ | ⟨hwt, _, v, hv, hr⟩ | ⟨hwt, _, hg2⟩
        · simp only [hwt, Bool.false_eq_true, if_false]
          exact ih (l1 ++ r) _ _ w hln hl.next hok2 hr hS
        · simp only [hwt, if_true]
          refine .inl (GivesK.wp ?_)
          rw [hv w hS]
          exact ih (l1 ++ r) _ _ w hln hl.next hok2 hr hS
        · simp only [hwt, if_true]
          exact .inl (GivesK.wp (hg2.mono fun v w' ⟨hS', hr⟩ => ih (l1 ++ r) _ _ w' hln hl.next hok2 hr hS'))
      · cases hm

/-- The whole region, by one walk: the list, and which of it are turns. -/
theorem region_walk {id : Nat} {l t : List Nat} {a : Act} {w : World} (hm : P.follows .mixedOrders = true) (hs : Region.noSelect ops = true) (he2 : edgesOk ops = true)
    (hok : okPlan ops l = true) (hall : (List.range ops.size).all (fun k => l.contains k || [].contains k) = true) (hlt : l.all (fun k => decide (k < ops.size)) = true) (hlen : ops.size = l.length)
    (hw : okWalk ops t.contains l = true) (hS : S w.drew) (hp : Walk P ops S Q t.contains l a w.drew) : (Code.region id ops true).wp P Q a w := by
  refine wp_region_any hm ?_
  exact walk_any hs he2 ops.size l _ a _ hlen (left_of_replicate hok hall (by simpa using hlt) (by simp)) hw hp hS

theorem walk_end {a : Act} {w : World} (h : Q .normal a w) : Walk P ops S Q tn [] a w := h
theorem walk_read {i : Nat} {r : List Nat} {a : Act} {w : World} {o : Oper} {v : Value} (ho : ops[i]? = some o) (hw : Region.wanted o (yielded ops a.tmps) = true) (ht : tn i = false)
    (h : ∀ u, S u → (execOp a.eval o).run P u = .ok (.value v) u) (hr : Walk P ops S Q tn r (a.put o.dst v) w) : Walk P ops S Q tn (i :: r) a w :=
  ⟨o, ho, .inr (.inl ⟨hw, ht, v, h, hr⟩)⟩
theorem walk_call {i : Nat} {r : List Nat} {a : Act} {w : World} {o : Oper} {f : FuncId} {args : Array Value} (ho : ops[i]? = some o) (hw : Region.wanted o (yielded ops a.tmps) = true) (ht : tn i = true)
    (h : (execOp a.eval o).run P w = .ok (.enter f args) w) (hc : Calls P f args w fun e w' => ∃ v, e = .returned v ∧ S w' ∧ Walk P ops S Q tn r (a.put o.dst v) w') : Walk P ops S Q tn (i :: r) a w :=
  ⟨o, ho, .inr (.inr ⟨hw, ht, by rw [h]; exact hc⟩)⟩
theorem walk_turn {i : Nat} {r : List Nat} {a : Act} {w w' : World} {o : Oper} {v : Value} (ho : ops[i]? = some o) (hw : Region.wanted o (yielded ops a.tmps) = true) (ht : tn i = true)
    (h : (execOp a.eval o).run P w = .ok (.value v) w') (hS : S w') (hr : Walk P ops S Q tn r (a.put o.dst v) w') : Walk P ops S Q tn (i :: r) a w :=
  ⟨o, ho, .inr (.inr ⟨hw, ht, by rw [h]; exact ⟨hS, hr⟩⟩)⟩
end

/-- The limb j of what the bits from k on make. -/
def ob (x k j : Nat) : Int := ((x % 2 ^ (64 * (j + 1)) / 2 ^ (max (64 * j) k) : Nat) : Int)
theorem ob_zero (x j : Nat) : ob x 0 j = lm x j := by
  unfold ob lm
  rw [Nat.max_eq_left (Nat.zero_le _), pow_step, Nat.mod_mul_right_div_self]
theorem ob_high (x k j : Nat) (h : 64 * (j + 1) ≤ k) : ob x k j = 0 := by
  unfold ob
  rw [Nat.max_eq_right (by omega), Nat.div_eq_of_lt]
  · rfl
  · exact Nat.lt_of_lt_of_le (Nat.mod_lt _ (Nat.pow_pos (by decide))) (Nat.pow_le_pow_right (by decide) h)
theorem ob_other (x k j : Nat) (h : j ≠ k / 64) : ob x k j = ob x (k + 1) j := by
  rcases (show 64 * (j + 1) ≤ k ∨ k + 1 ≤ 64 * j by omega) with h1 | h1
  · rw [ob_high _ _ _ h1, ob_high _ _ _ (by omega)]
  · unfold ob
    rw [Nat.max_eq_left (by omega), Nat.max_eq_left (by omega)]
theorem ob_step (x k : Nat) : ob x k (k / 64) = ob x (k + 1) (k / 64) * 2 + bz (x : Int) k := by
  unfold ob bz
  rw [Nat.max_eq_right (by omega), Nat.max_eq_right (by omega)]
  obtain ⟨d, hd⟩ : ∃ d, 64 * (k / 64 + 1) = k + 1 + d := ⟨64 * (k / 64 + 1) - (k + 1), by omega⟩
  rw [hd, Nat.pow_succ, ← Nat.div_div_eq_div_mul]
  have h1 : x % 2 ^ (k + 1 + d) / 2 ^ k % 2 = x / 2 ^ k % 2 := by
    rw [show k + 1 + d = k + (d + 1) by omega, Nat.pow_add, Nat.mod_mul_right_div_self, Nat.pow_succ, Nat.mod_mod_of_dvd _ ⟨2 ^ d, Nat.mul_comm _ _⟩]
  have h2 : ((x / 2 ^ k % 2 : Nat) : Int) = (x : Int) / ((2 ^ k : Nat) : Int) % 2 := by rw [Int.natCast_emod, Int.natCast_ediv]; rfl
  rw [← h2, ← h1]
  omega
theorem ob_lt (x k j : Nat) : 0 ≤ ob x k j ∧ ob x k j < 18446744073709551616 := by
  unfold ob
  have h1 : x % 2 ^ (64 * (j + 1)) / 2 ^ (max (64 * j) k) ≤ x % 2 ^ (64 * (j + 1)) / 2 ^ (64 * j) :=
    Nat.div_le_div_left (Nat.pow_le_pow_right (by decide) (Nat.le_max_left _ _)) (Nat.pow_pos (by decide))
  have h2 : x % 2 ^ (64 * (j + 1)) / 2 ^ (64 * j) < 18446744073709551616 := by
    rw [pow_step, Nat.mod_mul_right_div_self]
    exact Nat.mod_lt _ (by decide)
  generalize x % 2 ^ (64 * (j + 1)) / 2 ^ (max (64 * j) k) = d at *
  omega

/-- Eight limbs of what the bits from k on make. -/
abbrev Obs (w : World) (b x k : Nat) : Prop := w.rowIs b 75 8 (fun j => .int .u64 (ob x k j))
theorem Obs.next {w : World} {b x k : Nat} {v : Int} (h : Obs w b x (k + 1)) (hv : v = ob x k (k / 64)) : Obs (w.setCell ⟨b, k / 64, none⟩ (.int .u64 v)) b x k := by
  subst hv
  refine World.rowIs.congr (World.rowIs.set h (k / 64) _) fun i _ => ?_
  by_cases e : i = k / 64
  · rw [if_pos e, e]
  · rw [if_neg e, ob_other _ _ _ e]
theorem Obs.blk {w : World} {b x : Nat} (h : Obs w b x 0) : Blk w b 75 (cells8 x) := by
  obtain ⟨c, hb, hs, hc⟩ := h
  have e : c = cells8 x := by
    apply Array.ext_getElem?
    intro i
    by_cases hi : i < 8
    · rw [hc i hi, cells8_get _ _ hi]; show some (Value.int .u64 (ob x 0 i)) = _; rw [ob_zero]
    · rw [Array.getElem?_eq_none (by omega), Array.getElem?_eq_none (by show 8 ≤ i; omega)]
  rw [e] at hb
  exact hb
theorem Obs.start (w : World) (b x k : Nat) (hk : 512 ≤ k) (h : Blk w b 75 (cells8 0)) : Obs w b x k := by
  refine ⟨cells8 0, h, rfl, fun i hi => ?_⟩
  rw [cells8_get _ _ hi, lm_zero]
  show _ = some (Value.int .u64 (ob x k i))
  rw [ob_high _ _ _ (by omega)]

set_option maxRecDepth 4000 in
set_option maxHeartbeats 1000000 in
theorem of_any (z : Int) (x y n p o1 c1 : Nat) (F : Bool) (hn : n ≤ 4000) (h5 : 512 ≤ n) (w : World) (hp : ∀ k, k < n → w.cell? ⟨p, o1 + k, none⟩ = some (.int .i64 (bz z k))) (hpw : p < w.heap.size)
    (hx : Hid (∀ k, k < 512 → bz z k = bz (x : Int) k)) (hF : Hid (F = true ↔ ∀ k, 511 ≤ k → k < n → bz z k = bz z 511)) (hy : Hid (y = if F then x else 0)) :
    Calls Tryz.prog 122 #[.slice (some ⟨p, o1, none⟩) n c1] w fun e w' => e = .returned (.tuple #[.agg (cells8 y), .bool F]) ∧ Below w.heap.size w w' := by
  have HP : Hid (∀ k, k < n → w.cell? ⟨p, o1 + k, none⟩ = some (.int .i64 (bz z k))) := hp
  clear hp
  go_enter Tryz.func122, Tryz.ntmps122
  go_wp2_with fail
  go_loopw [5] (fun i wr => ∃ k : Nat, 511 ≤ k ∧ k ≤ n ∧ i = .int .i64 k ∧ (∀ m, 511 ≤ m → m < k → bz z m = bz z 511) ∧ Blk wr w.heap.size 75 (cells8 0) ∧ Blk wr (w.heap.size + 1) 75 (cells8 0) ∧ Below w.heap.size w wr) (fun i _ => n - (intOf i).toNat)
  case atStart =>
    refine ⟨511, by omega, by omega, rfl, fun m h1 h2 => by omega, (Blk.at rfl cells8_0.symm).alloc _, Blk.at (by simp) cells8_0.symm, ((Below.refl _ _).alloc (Nat.le_refl _) _).alloc (by simp) _⟩
  case round =>
    obtain ⟨k, hk1, hk, rfl, hm, hb1, hb2, hw⟩ := hrel
    have HM : Hid (∀ m, 511 ≤ m → m < k → bz z m = bz z 511) := hm
    have HB : Hid (Blk wr w.heap.size 75 (cells8 0) ∧ Blk wr (w.heap.size + 1) 75 (cells8 0) ∧ Below w.heap.size w wr) := ⟨hb1, hb2, hw⟩
    clear hm
    by_cases hlt : k < n
    · have h1 : wr.cell? ⟨p, o1 + k, none⟩ = some (.int .i64 (bz z k)) := (hw.cell (by exact hpw)).trans (HP.out k hlt)
      have h2 : wr.cell? ⟨p, o1 + 511, none⟩ = some (.int .i64 (bz z 511)) := (hw.cell (by exact hpw)).trans (HP.out 511 (by omega))
      clear hb1 hb2 hw
      by_cases he : bz z k = bz z 511
      · rw [he] at h1
        have HE : Hid (bz z k = bz z 511) := he
        clear he
        obtain ⟨u, hu⟩ : ∃ u, u = bz z 511 := ⟨_, rfl⟩
        rw [← hu] at h1 h2
        clear hu
        go_wp2
        go_region
        all_goals (
          go_wp2
          go_roundw
          case rel =>
            refine ⟨k + 1, by omega, by omega, by go_num, fun m h1 h2 => ?_, HB.out.1.drew, HB.out.2.1.drew, HB.out.2.2.drew⟩
            rcases (show m < k ∨ m = k by omega) with h | h
            · exact HM.out m h1 h
            · rw [h]; exact HE.out
          case measure => simp [intOf]; omega)
      · have HE : Hid (F = false ∧ y = 0) := by
          have hy' := hy.out
          cases F
          · exact ⟨rfl, hy'⟩
          · exact absurd ((hF.out.1 rfl) k hk1 hlt) he
        obtain ⟨u, hu⟩ : ∃ u, u = bz z 511 := ⟨_, rfl⟩
        obtain ⟨v, hv⟩ : ∃ v, v = bz z k := ⟨_, rfl⟩
        rw [← hv] at h1 he
        rw [← hu] at h2 he
        clear hu hv
        have he2 : decide (v = u) = false := by simp [he]
        go_wp2
        go_region
        all_goals (
          go_wp2_with (first
            | refine bd0 75 rfl rfl bWide0 ?_
            | refine st8 (n := 0) 75 (.tmp 2) (.tmp 21) HB.out.1.drew rfl rfl rfl rfl rfl iWide ?_)
          exact res8s (n := 0) (HB.out.1.drew.row _) rfl rfl rfl rfl Tryz.underlying75 rfl iWide ⟨by rw [HE.out.1, HE.out.2]; rfl, below_row HB.out.2.2.drew (Nat.le_refl _) _⟩)
    · clear hb1 hb2 hw
      have HT : Hid (F = true ∧ y = x) := by
        have h1 : F = true := hF.out.2 fun m h1 h2 => HM.out m h1 (by omega)
        have hy' := hy.out
        subst h1
        exact ⟨rfl, hy'⟩
      go_wp2_with fail
      go_loopw [6] (fun i wr => ∃ k : Nat, k ≤ 512 ∧ i = .int .i64 ((k : Int) - 1) ∧ Blk wr w.heap.size 75 (cells8 0) ∧ Obs wr (w.heap.size + 1) x k ∧ Below w.heap.size w wr) (fun i _ => (intOf i + 1).toNat)
      case atStart => exact ⟨512, Nat.le_refl _, by go_num, HB.out.1, Obs.start _ _ _ _ (Nat.le_refl _) HB.out.2.1, HB.out.2.2⟩
      case round =>
        obtain ⟨k, hk5, rfl, hb1, hb2, hw⟩ := hrel
        have HB2 : Hid (Blk wr w.heap.size 75 (cells8 0) ∧ Obs wr (w.heap.size + 1) x k ∧ Below w.heap.size w wr) := ⟨hb1, hb2, hw⟩
        rcases Nat.eq_zero_or_pos k with rfl | hpos
        · clear hb1 hb2 hw
          have D := hide HB2.out.2.1.blk
          go_wp2_with (first
            | refine ld8 75 (.tmp 4) (unhide D) rfl rfl rfl Tryz.underlying75 rfl iWide ?_
            | refine st8 (n := x) 75 (.tmp 2) (.tmp 42) HB2.out.1 rfl rfl rfl rfl rfl iWide ?_)
          exact res8s (n := x) (HB2.out.1.row _) rfl rfl rfl rfl Tryz.underlying75 rfl iWide ⟨by rw [HT.out.1, HT.out.2]; rfl, below_row HB2.out.2.2 (Nat.le_refl _) _⟩
        · obtain ⟨m, rfl⟩ : ∃ m, k = m + 1 := ⟨k - 1, by omega⟩
          rw [show ((m + 1 : Nat) : Int) - 1 = (m : Int) by omega]
          have h1 : wr.cell? ⟨p, o1 + m, none⟩ = some (.int .i64 (bz z m)) := (hw.cell (by exact hpw)).trans (HP.out m (by omega))
          have h2 := World.rowIs.cell hb2 (show m / 64 < 8 by omega)
          have h3 := World.rowIs.frozen hb2 (m / 64)
          clear hb1 hb2 hw
          have h4 := ob_lt x (m + 1) (m / 64)
          have h5 := bz_01 z m
          have HS : Hid (ob x m (m / 64) = ob x (m + 1) (m / 64) * 2 + bz z m) := by
            rw [hx.out m (by omega)]; exact ob_step x m
          have h6 := ob_lt x m (m / 64)
          rw [HS.out] at h6
          have hm5 : (m : Int) < 512 := by omega
          generalize bz z m = v at *
          generalize ob x (m + 1) (m / 64) = L at *
          go_wp2
          go_region
          all_goals (
            go_wp2
            go_roundw
            case rel => exact ⟨m, by omega, rfl, (HB2.out.1.other _ _ (by simp)).drew, World.rowIs.drew (Obs.next HB2.out.2.1 HS.out.symm), (HB2.out.2.2.setCell (by simp) _).drew⟩
            case measure => simp [intOf])

theorem bz_succ (z : Int) (i : Nat) : bz z (i + 1) = bz (z / 2) i := by
  unfold bz
  rw [pow_two, Int.mul_comm, ← Int.ediv_ediv_of_nonneg (by decide)]
theorem bz_bit0 (z : Int) : bz z 0 = z % 2 := by
  unfold bz
  rw [show ((2 ^ 0 : Nat) : Int) = 1 from rfl, Int.ediv_one]
/-- A number of which all bits are the same. -/
theorem bz_const (m : Nat) : ∀ q : Int, -((2 ^ m : Nat) : Int) ≤ q → q < ((2 ^ m : Nat) : Int) → (∀ i, i ≤ m → bz q i = bz q 0) → q = 0 ∨ q = -1 := by
  induction m with
  | zero => intro q h1 h2 _; rw [show ((2 ^ 0 : Nat) : Int) = 1 from rfl] at h1 h2; omega
  | succ m ih =>
    intro q h1 h2 hb
    rw [pow_two] at h1 h2
    have hb1 := hb 1 (by omega)
    have hq := ih (q / 2) (by omega) (by omega) (fun i hi => by rw [← bz_succ, hb (i + 1) (by omega), ← hb 1 (by omega), bz_succ])
    rw [bz_succ, bz_bit0, bz_bit0] at hb1
    omega
theorem bz_from511 (z : Int) (i : Nat) : bz z (511 + i) = bz (z / (H : Int)) i := by
  obtain ⟨e, he⟩ : ∃ e, e = 511 := ⟨_, rfl⟩
  rw [← he, H_511 e he]
  unfold bz
  rw [Nat.pow_add, Int.natCast_mul, ← Int.ediv_ediv_of_nonneg (Int.natCast_nonneg _)]
theorem fit_bits (z : Int) (m : Nat) (h1 : -((H : Int) * ((2 ^ m : Nat) : Int)) ≤ z) (h2 : z < (H : Int) * ((2 ^ m : Nat) : Int)) :
    fit z = true ↔ ∀ k, 511 ≤ k → k < 512 + m → bz z k = bz z 511 := by
  constructor
  · intro hf k hk _
    rw [bz_high (Fit.of hf) k hk, bz_high (Fit.of hf) 511 (Nat.le_refl _)]
  · intro hb
    have hH : 0 < (H : Int) := by have := H_pos; omega
    have hq : z / (H : Int) = 0 ∨ z / (H : Int) = -1 := by
      refine bz_const m _ ?_ ?_ ?_
      · apply (Int.le_ediv_iff_mul_le hH).2
        rw [Int.neg_mul, Int.mul_comm]
        exact h1
      · exact Int.ediv_lt_of_lt_mul hH (by rw [Int.mul_comm]; exact h2)
      · intro i hi
        rw [← bz_from511, ← bz_from511]
        exact hb _ (by omega) (by omega)
    apply fit_true
    have h3 := Int.emod_add_mul_ediv z (H : Int)
    have h4 := Int.emod_nonneg z (show (H : Int) ≠ 0 by omega)
    have h5 := Int.emod_lt_of_pos z hH
    unfold Fit
    rcases hq with h | h <;> rw [h] at h3 <;> omega
/-- The number of bits, or that it does not fit. -/
theorem ofZ (z : Int) (m n p o1 c1 : Nat) (hm : n = 512 + m) (hn : n ≤ 4000) (h1 : -((H : Int) * ((2 ^ m : Nat) : Int)) ≤ z) (h2 : z < (H : Int) * ((2 ^ m : Nat) : Int)) (w : World)
    (hp : ∀ k, k < n → w.cell? ⟨p, o1 + k, none⟩ = some (.int .i64 (bz z k))) (hpw : p < w.heap.size) :
    Calls Tryz.prog 122 #[.slice (some ⟨p, o1, none⟩) n c1] w fun e w' => e = .returned (.tuple #[V (if fit z then z else 0), .bool (fit z)]) ∧ Below w.heap.size w w' := by
  refine of_any z (enc z) (enc (if fit z then z else 0)) n p o1 c1 (fit z) hn (by omega) w hp hpw (fun k hk => (bz_enc z k hk).symm) (by rw [hm]; exact fit_bits z m h1 h2) ?_
  show enc (if fit z then z else 0) = if fit z then enc z else 0
  cases fit z
  · rfl
  · rfl

end Go.Proofs.YtnemedgdhojhdaaGreat
