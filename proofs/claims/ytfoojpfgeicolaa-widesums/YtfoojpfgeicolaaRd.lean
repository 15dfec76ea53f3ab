/- The document's Of: the number of bits; false: it does not fit. -/
import Derived.Test.YtfoojpfgeicolaaRc
namespace Go.Proofs.Ytfoojpfgeicolaa
open Go.RowKit

/-- The limb j of what the bits from k on make. -/
def ob (x k j : Nat) : Int := ((x % 2 ^ (64 * (j + 1)) / 2 ^ (max (64 * j) k) : Nat) : Int)
theorem ob_zero (x j : Nat) : ob x 0 j = lm x j := by
  unfold ob lm
  rw [Nat.max_eq_left (Nat.zero_le _), pow_step, Nat.mod_mul_right_div_self]
theorem ob_high (x k j : Nat) (h : 64 * (j + 1) ≤ k) : ob x k j = 0 := by
  unfold ob
  rw [Nat.max_eq_right (by omega), Nat.div_eq_of_lt]
  · rfl
  · exact Nat.lt_of_lt_of_le (Nat.mod_lt _ (Nat.pow_pos (by decide))) (Nat.pow_le_pow_right (by decide) h)
theorem ob_other (x k j : Nat) (h : j ≠ k / 64) : ob x k j = ob x (k + 1) j := by
  rcases (show 64 * (j + 1) ≤ k ∨ k + 1 ≤ 64 * j by omega) with h1 | h1
  · rw [ob_high _ _ _ h1, ob_high _ _ _ (by omega)]
  · unfold ob
    rw [Nat.max_eq_left (by omega), Nat.max_eq_left (by omega)]
theorem ob_step (x k : Nat) : ob x k (k / 64) = ob x (k + 1) (k / 64) * 2 + bz (x : Int) k := by
  unfold ob bz
  rw [Nat.max_eq_right (by omega), Nat.max_eq_right (by omega)]
  obtain ⟨d, hd⟩ : ∃ d, 64 * (k / 64 + 1) = k + 1 + d := ⟨64 * (k / 64 + 1) - (k + 1), by omega⟩
  rw [hd, Nat.pow_succ, ← Nat.div_div_eq_div_mul]
  have h1 : x % 2 ^ (k + 1 + d) / 2 ^ k % 2 = x / 2 ^ k % 2 := by
    rw [show k + 1 + d = k + (d + 1) by omega, Nat.pow_add, Nat.mod_mul_right_div_self, Nat.pow_succ, Nat.mod_mod_of_dvd _ ⟨2 ^ d, Nat.mul_comm _ _⟩]
  have h2 : ((x / 2 ^ k % 2 : Nat) : Int) = (x : Int) / ((2 ^ k : Nat) : Int) % 2 := by rw [Int.natCast_emod, Int.natCast_ediv]; rfl
  rw [← h2, ← h1]
  omega
theorem ob_lt (x k j : Nat) : 0 ≤ ob x k j ∧ ob x k j < 18446744073709551616 := by
  unfold ob
  have h1 : x % 2 ^ (64 * (j + 1)) / 2 ^ (max (64 * j) k) ≤ x % 2 ^ (64 * (j + 1)) / 2 ^ (64 * j) :=
    Nat.div_le_div_left (Nat.pow_le_pow_right (by decide) (Nat.le_max_left _ _)) (Nat.pow_pos (by decide))
  have h2 : x % 2 ^ (64 * (j + 1)) / 2 ^ (64 * j) < 18446744073709551616 := by
    rw [pow_step, Nat.mod_mul_right_div_self]
    exact Nat.mod_lt _ (by decide)
  generalize x % 2 ^ (64 * (j + 1)) / 2 ^ (max (64 * j) k) = d at *
  omega

/-- Eight limbs of what the bits from k on make. -/
abbrev Obs (w : World) (b x k : Nat) : Prop := w.rowIs b 25 8 (fun j => .int .u64 (ob x k j))
theorem Obs.next {w : World} {b x k : Nat} {v : Int} (h : Obs w b x (k + 1)) (hv : v = ob x k (k / 64)) : Obs (w.setCell ⟨b, k / 64, none⟩ (.int .u64 v)) b x k := by
  subst hv
  refine World.rowIs.congr (World.rowIs.set h (k / 64) _) fun i _ => ?_
  by_cases e : i = k / 64
  · rw [if_pos e, e]
  · rw [if_neg e, ob_other _ _ _ e]
theorem Obs.blk {w : World} {b x : Nat} (h : Obs w b x 0) : Blk w b 25 (cells8 x) := by
  obtain ⟨c, hb, hs, hc⟩ := h
  have e : c = cells8 x := by
    apply Array.ext_getElem?
    intro i
    by_cases hi : i < 8
    · rw [hc i hi, cells8_get _ _ hi]; show some (Value.int .u64 (ob x 0 i)) = _; rw [ob_zero]
    · rw [Array.getElem?_eq_none (by omega), Array.getElem?_eq_none (by show 8 ≤ i; omega)]
  rw [e] at hb
  exact hb
theorem Obs.start (w : World) (b x k : Nat) (hk : 512 ≤ k) (h : Blk w b 25 (cells8 0)) : Obs w b x k := by
  refine ⟨cells8 0, h, rfl, fun i hi => ?_⟩
  rw [cells8_get _ _ hi, lm_zero]
  show _ = some (Value.int .u64 (ob x k i))
  rw [ob_high _ _ _ (by omega)]

set_option maxRecDepth 4000 in
set_option maxHeartbeats 1000000 in
theorem of_any (z : Int) (x y n p o1 c1 : Nat) (F : Bool) (hn : n ≤ 4000) (h5 : 512 ≤ n) (w : World) (hp : ∀ k, k < n → w.cell? ⟨p, o1 + k, none⟩ = some (.int .i64 (bz z k))) (hpw : p < w.heap.size)
    (hx : Hid (∀ k, k < 512 → bz z k = bz (x : Int) k)) (hF : Hid (F = true ↔ ∀ k, 511 ≤ k → k < n → bz z k = bz z 511)) (hy : Hid (y = if F then x else 0)) :
    Calls Try.prog 50 #[.slice (some ⟨p, o1, none⟩) n c1] w fun e w' => e = .returned (.tuple #[.agg (cells8 y), .bool F]) ∧ Below w.heap.size w w' := by
  have HP : Hid (∀ k, k < n → w.cell? ⟨p, o1 + k, none⟩ = some (.int .i64 (bz z k))) := hp
  clear hp
  go_enter Try.func50, Try.ntmps50
  go_wp2_with fail
  go_loopw [5] (fun i wr => ∃ k : Nat, 511 ≤ k ∧ k ≤ n ∧ i = .int .i64 k ∧ (∀ m, 511 ≤ m → m < k → bz z m = bz z 511) ∧ Blk wr w.heap.size 25 (cells8 0) ∧ Blk wr (w.heap.size + 1) 25 (cells8 0) ∧ Below w.heap.size w wr) (fun i _ => n - (intOf i).toNat)
  case atStart =>
    refine ⟨511, by omega, by omega, rfl, fun m h1 h2 => by omega, (Blk.at rfl cells8_0.symm).alloc _, Blk.at (by simp) cells8_0.symm, ((Below.refl _ _).alloc (Nat.le_refl _) _).alloc (by simp) _⟩
  case round =>
    obtain ⟨k, hk1, hk, rfl, hm, hb1, hb2, hw⟩ := hrel
    have HM : Hid (∀ m, 511 ≤ m → m < k → bz z m = bz z 511) := hm
    have HB : Hid (Blk wr w.heap.size 25 (cells8 0) ∧ Blk wr (w.heap.size + 1) 25 (cells8 0) ∧ Below w.heap.size w wr) := ⟨hb1, hb2, hw⟩
    clear hm
    by_cases hlt : k < n
    · have h1 : wr.cell? ⟨p, o1 + k, none⟩ = some (.int .i64 (bz z k)) := (hw.cell (by exact hpw)).trans (HP.out k hlt)
      have h2 : wr.cell? ⟨p, o1 + 511, none⟩ = some (.int .i64 (bz z 511)) := (hw.cell (by exact hpw)).trans (HP.out 511 (by omega))
      clear hb1 hb2 hw
      by_cases he : bz z k = bz z 511
      · rw [he] at h1
        have HE : Hid (bz z k = bz z 511) := he
        clear he
        obtain ⟨u, hu⟩ : ∃ u, u = bz z 511 := ⟨_, rfl⟩
        rw [← hu] at h1 h2
        clear hu
        go_wp2
        go_region
        all_goals (
          go_wp2
          go_roundw
          case rel =>
            refine ⟨k + 1, by omega, by omega, by go_num, fun m h1 h2 => ?_, HB.out.1.drew, HB.out.2.1.drew, HB.out.2.2.drew⟩
            rcases (show m < k ∨ m = k by omega) with h | h
            · exact HM.out m h1 h
            · rw [h]; exact HE.out
          case measure => simp [intOf]; omega)
      · have HE : Hid (F = false ∧ y = 0) := by
          have hy' := hy.out
          cases F
          · exact ⟨rfl, hy'⟩
          · exact absurd ((hF.out.1 rfl) k hk1 hlt) he
        obtain ⟨u, hu⟩ : ∃ u, u = bz z 511 := ⟨_, rfl⟩
        obtain ⟨v, hv⟩ : ∃ v, v = bz z k := ⟨_, rfl⟩
        rw [← hv] at h1 he
        rw [← hu] at h2 he
        clear hu hv
        have he2 : decide (v = u) = false := by simp [he]
        go_wp2
        go_region
        all_goals (
          go_wp2_with (first
            | refine bd0 25 rfl rfl bWide0 ?_
            | refine st8 (n := 0) 25 (.tmp 2) (.tmp 21) HB.out.1.drew rfl rfl rfl rfl rfl iWide ?_)
          exact res8s (n := 0) (HB.out.1.drew.row _) rfl rfl rfl rfl Try.underlying25 rfl iWide ⟨by rw [HE.out.1, HE.out.2]; rfl, below_row HB.out.2.2.drew (Nat.le_refl _) _⟩)
    · clear hb1 hb2 hw
      have HT : Hid (F = true ∧ y = x) := by
        have h1 : F = true := hF.out.2 fun m h1 h2 => HM.out m h1 (by omega)
        have hy' := hy.out
        subst h1
        exact ⟨rfl, hy'⟩
      go_wp2_with fail
      go_loopw [6] (fun i wr => ∃ k : Nat, k ≤ 512 ∧ i = .int .i64 ((k : Int) - 1) ∧ Blk wr w.heap.size 25 (cells8 0) ∧ Obs wr (w.heap.size + 1) x k ∧ Below w.heap.size w wr) (fun i _ => (intOf i + 1).toNat)
      case atStart => exact ⟨512, Nat.le_refl _, by go_num, HB.out.1, Obs.start _ _ _ _ (Nat.le_refl _) HB.out.2.1, HB.out.2.2⟩
      case round =>
        obtain ⟨k, hk5, rfl, hb1, hb2, hw⟩ := hrel
        have HB2 : Hid (Blk wr w.heap.size 25 (cells8 0) ∧ Obs wr (w.heap.size + 1) x k ∧ Below w.heap.size w wr) := ⟨hb1, hb2, hw⟩
        rcases Nat.eq_zero_or_pos k with rfl | hpos
        · clear hb1 hb2 hw
          have D := hide HB2.out.2.1.blk
          go_wp2_with (first
            | refine ld8 25 (.tmp 4) (unhide D) rfl rfl rfl Try.underlying25 rfl iWide ?_
            | refine st8 (n := x) 25 (.tmp 2) (.tmp 42) HB2.out.1 rfl rfl rfl rfl rfl iWide ?_)
          exact res8s (n := x) (HB2.out.1.row _) rfl rfl rfl rfl Try.underlying25 rfl iWide ⟨by rw [HT.out.1, HT.out.2]; rfl, below_row HB2.out.2.2 (Nat.le_refl _) _⟩
        · obtain ⟨m, rfl⟩ : ∃ m, k = m + 1 := ⟨k - 1, by omega⟩
          rw [show ((m + 1 : Nat) : Int) - 1 = (m : Int) by omega]
          have h1 : wr.cell? ⟨p, o1 + m, none⟩ = some (.int .i64 (bz z m)) := (hw.cell (by exact hpw)).trans (HP.out m (by omega))
          have h2 := World.rowIs.cell hb2 (show m / 64 < 8 by omega)
          have h3 := World.rowIs.frozen hb2 (m / 64)
          clear hb1 hb2 hw
          have h4 := ob_lt x (m + 1) (m / 64)
          have h5 := bz_01 z m
          have HS : Hid (ob x m (m / 64) = ob x (m + 1) (m / 64) * 2 + bz z m) := by
            rw [hx.out m (by omega)]; exact ob_step x m
          have h6 := ob_lt x m (m / 64)
          rw [HS.out] at h6
          have hm5 : (m : Int) < 512 := by omega
          generalize bz z m = v at *
          generalize ob x (m + 1) (m / 64) = L at *
          go_wp2
          go_region
          all_goals (
            go_wp2
            go_roundw
            case rel => exact ⟨m, by omega, rfl, (HB2.out.1.other _ _ (by simp)).drew, World.rowIs.drew (Obs.next HB2.out.2.1 HS.out.symm), (HB2.out.2.2.setCell (by simp) _).drew⟩
            case measure => simp [intOf])

theorem bz_succ (z : Int) (i : Nat) : bz z (i + 1) = bz (z / 2) i := by
  unfold bz
  rw [pow_two, Int.mul_comm, ← Int.ediv_ediv_of_nonneg (by decide)]
theorem bz_bit0 (z : Int) : bz z 0 = z % 2 := by
  unfold bz
  rw [show ((2 ^ 0 : Nat) : Int) = 1 from rfl, Int.ediv_one]
/-- A number of which all bits are the same. -/
theorem bz_const (m : Nat) : ∀ q : Int, -((2 ^ m : Nat) : Int) ≤ q → q < ((2 ^ m : Nat) : Int) → (∀ i, i ≤ m → bz q i = bz q 0) → q = 0 ∨ q = -1 := by
  induction m with
  | zero => intro q h1 h2 _; rw [show ((2 ^ 0 : Nat) : Int) = 1 from rfl] at h1 h2; omega
  | succ m ih =>
    intro q h1 h2 hb
    rw [pow_two] at h1 h2
    have hb1 := hb 1 (by omega)
    have hq := ih (q / 2) (by omega) (by omega) (fun i hi => by rw [← bz_succ, hb (i + 1) (by omega), ← hb 1 (by omega), bz_succ])
    rw [bz_succ, bz_bit0, bz_bit0] at hb1
    omega
theorem bz_from511 (z : Int) (i : Nat) : bz z (511 + i) = bz (z / (H : Int)) i := by
  obtain ⟨e, he⟩ : ∃ e, e = 511 := ⟨_, rfl⟩
  rw [← he, H_511 e he]
  unfold bz
  rw [Nat.pow_add, Int.natCast_mul, ← Int.ediv_ediv_of_nonneg (Int.natCast_nonneg _)]
theorem fit_bits (z : Int) (m : Nat) (h1 : -((H : Int) * ((2 ^ m : Nat) : Int)) ≤ z) (h2 : z < (H : Int) * ((2 ^ m : Nat) : Int)) :
    fit z = true ↔ ∀ k, 511 ≤ k → k < 512 + m → bz z k = bz z 511 := by
  constructor
  · intro hf k hk _
    rw [bz_high (Fit.of hf) k hk, bz_high (Fit.of hf) 511 (Nat.le_refl _)]
  · intro hb
    have hH : 0 < (H : Int) := by have := H_pos; omega
    have hq : z / (H : Int) = 0 ∨ z / (H : Int) = -1 := by
      refine bz_const m _ ?_ ?_ ?_
      · apply (Int.le_ediv_iff_mul_le hH).2
        rw [Int.neg_mul, Int.mul_comm]
        exact h1
      · exact Int.ediv_lt_of_lt_mul hH (by rw [Int.mul_comm]; exact h2)
      · intro i hi
        rw [← bz_from511, ← bz_from511]
        exact hb _ (by omega) (by omega)
    apply fit_true
    have h3 := Int.emod_add_mul_ediv z (H : Int)
    have h4 := Int.emod_nonneg z (show (H : Int) ≠ 0 by omega)
    have h5 := Int.emod_lt_of_pos z hH
    unfold Fit
    rcases hq with h | h <;> rw [h] at h3 <;> omega
/-- The number of bits, or that it does not fit. -/
theorem ofZ (z : Int) (m n p o1 c1 : Nat) (hm : n = 512 + m) (hn : n ≤ 4000) (h1 : -((H : Int) * ((2 ^ m : Nat) : Int)) ≤ z) (h2 : z < (H : Int) * ((2 ^ m : Nat) : Int)) (w : World)
    (hp : ∀ k, k < n → w.cell? ⟨p, o1 + k, none⟩ = some (.int .i64 (bz z k))) (hpw : p < w.heap.size) :
    Calls Try.prog 50 #[.slice (some ⟨p, o1, none⟩) n c1] w fun e w' => e = .returned (.tuple #[V (if fit z then z else 0), .bool (fit z)]) ∧ Below w.heap.size w w' := by
  refine of_any z (enc z) (enc (if fit z then z else 0)) n p o1 c1 (fit z) hn (by omega) w hp hpw (fun k hk => (bz_enc z k hk).symm) (by rw [hm]; exact fit_bits z m h1 h2) ?_
  show enc (if fit z then z else 0) = if fit z then enc z else 0
  cases fit z
  · rfl
  · rfl

end Go.Proofs.Ytfoojpfgeicolaa
