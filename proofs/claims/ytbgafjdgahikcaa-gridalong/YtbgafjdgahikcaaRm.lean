/- The document's Mul: of the absolute values, by adding, bit by bit; then with its sign. The document's Mul: its loops. -/
import Derived.Test.YtbgafjdgahikcaaRk
namespace Go.Proofs.Ytbgafjdgahikcaa
open Go.RowKit
set_option maxRecDepth 4000

/-- What the loops know: the numbers' blocks, the bits of the factors, and those of the sum. -/
structure Mw (w0 : World) (l : List (Nat × Nat)) (gx gy gs : Nat) (X Y : Int) (f : Nat → Int) (w : World) : Prop where
  e : Env w0 l w
  x : Ints w gx 520 (bz X)
  y : Ints w gy 520 (bz Y)
  s : Ints w gs 1040 f
  nx : gx ≠ gs
  ny : gy ≠ gs
  nl : ∀ p ∈ l, p.1 ≠ gs
  ng : w0.heap.size ≤ gs
theorem Env.setCell {w0 w : World} {l : List (Nat × Nat)} (d : Env w0 l w) {a : Addr} (hg : w0.heap.size ≤ a.block) (hne : ∀ p ∈ l, p.1 ≠ a.block) (v : Value) : Env w0 l (w.setCell a v) :=
  ⟨fun p hp => (d.at_ p hp).other a v (hne p hp), d.o.setCell hg v⟩
/-- The sum with x further up added, as far as the place i + k. -/
def gz (S X : Int) (i k j : Nat) : Int := if j < i + k then bz (S + X * ((2 ^ i : Nat) : Int)) j else bz S j
theorem Mw.next {w0 w : World} {l : List (Nat × Nat)} {gx gy gs : Nat} {X Y S : Int} {i k : Nat} {v : Int} (h : Mw w0 l gx gy gs X Y (gz S X i k) w) (hv : v = bz (S + X * ((2 ^ i : Nat) : Int)) (i + k)) :
    Mw w0 l gx gy gs X Y (gz S X i (k + 1)) (w.setCell ⟨gs, i + k, none⟩ (.int .i64 v)) := by
  subst hv
  refine ⟨h.e.setCell h.ng h.nl _, World.rowIs.setOther h.x (by exact h.nx) _, World.rowIs.setOther h.y (by exact h.ny) _, ?_, h.nx, h.ny, h.nl, h.ng⟩
  refine World.rowIs.congr (World.rowIs.set h.s (i + k) _) fun j _ => ?_
  unfold gz
  by_cases e : j = i + k
  · rw [if_pos e, if_pos (by omega), e]
  · rw [if_neg e]
    by_cases h2 : j < i + k
    · rw [if_pos h2, if_pos (by omega)]
    · rw [if_neg h2, if_neg (by omega)]
theorem bz_add_low (S X : Int) (i j : Nat) (h : j < i) : bz (S + X * ((2 ^ i : Nat) : Int)) j = bz S j := by
  obtain ⟨d, hd⟩ : ∃ d, i = j + (d + 1) := ⟨i - j - 1, by omega⟩
  have hp := two_pow_pos j
  unfold bz
  have e : X * ((2 ^ i : Nat) : Int) = ((2 ^ j : Nat) : Int) * (2 * (X * ((2 ^ d : Nat) : Int))) := by
    rw [hd, Nat.pow_add, Nat.pow_succ, Int.natCast_mul, Int.natCast_mul]
    generalize ((2 ^ j : Nat) : Int) = P
    generalize ((2 ^ d : Nat) : Int) = D
    rw [Int.mul_left_comm, Int.mul_comm D, Int.mul_left_comm X]; rfl
  rw [e, Int.add_mul_ediv_left _ _ (by omega)]
  omega
theorem gz_zero (S X : Int) (i j : Nat) : gz S X i 0 j = bz S j := by
  unfold gz
  by_cases h : j < i + 0
  · rw [if_pos h, bz_add_low _ _ _ _ (by omega)]
  · rw [if_neg h]
theorem bz_zero_of_lt {z : Int} {n : Nat} (h0 : 0 ≤ z) (h : z < ((2 ^ n : Nat) : Int)) (k : Nat) (hk : n ≤ k) : bz z k = 0 := by
  have h1 : 2 ^ n ≤ 2 ^ k := Nat.pow_le_pow_right (by decide) hk
  unfold bz
  rw [Int.ediv_eq_zero_of_lt h0 (by omega)]
  rfl
/-- What the inner loop's round adds up. -/
theorem gz_step (S X : Int) (i k : Nat) : bz (S + X * ((2 ^ i : Nat) : Int)) (i + k) = (bz S (i + k) + bz X k + cz (S / ((2 ^ i : Nat) : Int)) X 0 k) % 2 := by
  have hp := two_pow_pos i
  rw [bz_shift, bz_shift, Int.add_mul_ediv_right _ _ (by omega)]
  have := bz_sum (S / ((2 ^ i : Nat) : Int)) X 0 k
  rwa [Int.add_zero] at this
theorem gz_carry (S X : Int) (i k : Nat) : cz (S / ((2 ^ i : Nat) : Int)) X 0 (k + 1) = (bz S (i + k) + bz X k + cz (S / ((2 ^ i : Nat) : Int)) X 0 k) / 2 := by
  rw [cz_step, bz_shift]
/-- The carry is gone behind the last place. -/
theorem cz_gone {T X : Int} {B k : Nat} (h0 : 0 ≤ T) (h1 : T ≤ X) (hX : X < ((2 ^ B : Nat) : Int)) (hk : B + 1 ≤ k) : cz T X 0 k = 0 := by
  have h2 : 2 ^ (B + 1) ≤ 2 ^ k := Nat.pow_le_pow_right (by decide) hk
  rw [Nat.pow_succ] at h2
  unfold cz
  rw [Int.emod_eq_of_lt h0 (by omega), Int.emod_eq_of_lt (by omega) (by omega), Int.ediv_eq_zero_of_lt (by omega) (by omega)]
theorem gz_full {S X : Int} {i k B : Nat} (h0 : 0 ≤ S) (hX0 : 0 ≤ X) (h1 : S ≤ X * ((2 ^ i : Nat) : Int)) (hX : X < ((2 ^ B : Nat) : Int)) (hk : B ≤ k) (hc : cz (S / ((2 ^ i : Nat) : Int)) X 0 k = 0) (j : Nat) :
    gz S X i k j = bz (S + X * ((2 ^ i : Nat) : Int)) j := by
  have hp := two_pow_pos i
  have hpk := two_pow_pos k
  have h2 : 2 ^ B ≤ 2 ^ k := Nat.pow_le_pow_right (by decide) hk
  unfold gz
  by_cases h : j < i + k
  · rw [if_pos h]
  · rw [if_neg h]
    have hT : S / ((2 ^ i : Nat) : Int) ≤ X := by
      have h3 := Int.ediv_le_ediv hp h1
      rwa [Int.mul_ediv_cancel _ (by omega)] at h3
    have hT0 : 0 ≤ S / ((2 ^ i : Nat) : Int) := Int.ediv_nonneg h0 (by omega)
    unfold cz at hc
    rw [Int.emod_eq_of_lt hT0 (by omega), Int.emod_eq_of_lt hX0 (by omega), Int.add_zero] at hc
    have hlt : S / ((2 ^ i : Nat) : Int) + X < ((2 ^ k : Nat) : Int) := by
      have h4 := Int.emod_add_mul_ediv (S / ((2 ^ i : Nat) : Int) + X) ((2 ^ k : Nat) : Int)
      rw [hc, Int.mul_zero, Int.add_zero] at h4
      have h5 := Int.emod_lt_of_pos (S / ((2 ^ i : Nat) : Int) + X) hpk
      omega
    obtain ⟨d, hd⟩ : ∃ d, j = i + d := ⟨j - i, by omega⟩
    rw [hd, bz_shift, bz_shift, Int.add_mul_ediv_right _ _ (by omega), bz_zero_of_lt hT0 (show S / ((2 ^ i : Nat) : Int) < ((2 ^ k : Nat) : Int) by omega) d (by omega),
      bz_zero_of_lt (by omega) hlt d (by omega)]

end Go.Proofs.Ytbgafjdgahikcaa

namespace Go.Proofs.Ytbgafjdgahikcaa
open Go.RowKit
set_option maxRecDepth 4000

set_option maxRecDepth 4000 in
set_option maxHeartbeats 4000000 in
theorem mul_bits (a b o m n B : Nat) (sa sb F : Bool) (w : World)
    (hSa : Hid (∀ u, Calls Try.prog 136 #[.agg (cells8 a)] u fun e w' => ∃ g, u.heap.size ≤ g ∧ e = .returned (sl g 520) ∧ Ints w' g 520 (bz (m : Int)) ∧ Below u.heap.size u w'))
    (hSb : Hid (∀ u, Calls Try.prog 136 #[.agg (cells8 b)] u fun e w' => ∃ g, u.heap.size ≤ g ∧ e = .returned (sl g 520) ∧ Ints w' g 520 (bz (n : Int)) ∧ Below u.heap.size u w'))
    (hT : Hid (∀ u g, Ints u g 520 (bz (m : Int)) → Calls Try.prog 137 #[sl g 520] u fun e w' => e = .returned (.int .i64 B) ∧ w' = u))
    (hBa : Hid (∀ u, Calls Try.prog 138 #[.agg (cells8 a)] u fun e w' => e = .returned (.bool sa) ∧ Below u.heap.size u w'))
    (hBb : Hid (∀ u, Calls Try.prog 138 #[.agg (cells8 b)] u fun e w' => e = .returned (.bool sb) ∧ Below u.heap.size u w'))
    (hO : Hid (∀ u g, Ints u g 1040 (bz (bif sa != sb then -((m : Int) * (n : Int)) else (m : Int) * (n : Int))) → Calls Try.prog 140 #[sl g 1040] u fun e w' => e = .returned (.tuple #[.agg (cells8 o), .bool F]) ∧ Below u.heap.size u w'))
    (hB : B ≤ 512) (hmB : Hid (m < 2 ^ B)) (hnB : Hid (n < 2 ^ 520)) :
    Calls Try.prog 89 #[W a, W b] w fun e w' => e = .returned (.tuple #[.agg (cells8 o), .bool F]) ∧ Below w.heap.size w w' := by
  have hmk : ∀ w : World, (Instr.makeSlice 72 (.int .i64 1040) (.int .i64 1040)).run Try.prog w = .ok (.slice (some ⟨w.heap.size, 0, none⟩) 1040 1040) (w.alloc (.cells (madeCells #[.int .i64 0] 1040) 3)) := run_make_row' (P := Try.prog) 72 3 (.int .i64 0) 8 Try.underlying72 iInt rfl .i64 .i64 1040 (by omega) (by omega)
  unfold W
  go_enter Try.func89, Try.ntmps89
  go_upto_region 1 with fail
  have D := hide (EnvB.of (Env.three w a b 0))
  rw [cells8_0] at D
  refine region_walk (S := Env w _) (l := [0, 2, 1, 3, 4, 5]) (t := [1, 3]) (by kernel_rfl) (by kernel_rfl) (by kernel_rfl) (by kernel_rfl) (by kernel_rfl) (by kernel_rfl) (by kernel_rfl) (by kernel_rfl) (unhide D).drew.e ?_
  refine walk_read rfl rfl rfl (fun u hS => exec_load8 (n := a) 40 (.tmp 2) (hS.blk (by repeat (first | exact List.mem_cons_self | apply List.mem_cons_of_mem))) rfl rfl Try.underlying40 rfl iWide) ?_
  refine walk_read rfl rfl rfl (fun u hS => exec_load8 (n := b) 40 (.tmp 3) (hS.blk (by repeat (first | exact List.mem_cons_self | apply List.mem_cons_of_mem))) rfl rfl Try.underlying40 rfl iWide) ?_
  go_simp
  refine walk_call (f := 136) (args := #[.agg (cells8 a)]) rfl rfl rfl (by go_simp) ?_
  refine (unhide hSa _).mono fun e w1 ⟨g1, hg1, he, hr, hb⟩ => ?_
  have D1 := ((unhide D).drew.keep hb).row hr
  refine ⟨_, he, D1.e, ?_⟩
  go_simp
  refine walk_call (f := 136) (args := #[.agg (cells8 b)]) rfl rfl rfl (by go_simp) ?_
  refine (unhide hSb _).mono fun e w2 ⟨g2, hg2, he2, hr2, hb2⟩ => ?_
  have D2 := (D1.keep hb2).row hr2
  refine ⟨_, he2, D2.e, ?_⟩
  go_simp
  refine walk_read (v := ?_) rfl rfl rfl (fun u hS => by go_simp; rfl) ?_
  refine walk_read (v := ?_) rfl rfl rfl (fun u hS => by go_simp; rfl) ?_
  go_simp
  refine walk_end ?_
  have D := hide D2
  clear hg1 hg2 he he2 hr hr2 hb hb2 D1 D2 hSa hSb
  go_upto_region 3 with (go_at_call 137; refine (unhide hT _ _ ((unhide D).r (g1, 520, (m : Int)) (by repeat (first | exact List.mem_cons_self | apply List.mem_cons_of_mem)))).mono ?_; rintro e w3 ⟨he, hw⟩; subst he; subst hw)
  clear hT
  go_upto_region 4 with fail
  have M0 : Hid (Mw w [(w.heap.size + 1 + 1, 0), (w.heap.size + 1, b), (w.heap.size, a)] g1 g2 w3.heap.size (m : Int) (n : Int) (bz 0) (w3.alloc (.cells (madeCells #[.int .i64 0] 1040) 3))) := by
    refine ⟨((unhide D).keep ((Below.refl _ w3).alloc (Nat.le_refl _) _)).e, ((unhide D).keep ((Below.refl _ w3).alloc (Nat.le_refl _) _)).r (g1, 520, (m : Int)) (by repeat (first | exact List.mem_cons_self | apply List.mem_cons_of_mem)), ((unhide D).keep ((Below.refl _ w3).alloc (Nat.le_refl _) _)).r (g2, 520, (n : Int)) (by repeat (first | exact List.mem_cons_self | apply List.mem_cons_of_mem)), ?_, ?_, ?_, ?_, (unhide D).e.o.size⟩
    · exact World.rowIs.congr (World.rowIs_made w3 (.int .i64 0) 1040 3) fun i _ => by unfold bz; rw [Int.zero_ediv]; rfl
    · have := (unhide D).lt (p := g1) (n := 520) (x := (m : Int)) (by repeat (first | exact List.mem_cons_self | apply List.mem_cons_of_mem)); omega
    · have := (unhide D).lt (p := g2) (n := 520) (x := (n : Int)) (by repeat (first | exact List.mem_cons_self | apply List.mem_cons_of_mem)); omega
    · intro p hp; have := ((unhide D).e.at_ p hp).lt; omega
  clear D
  generalize w3.alloc (.cells (madeCells #[.int .i64 0] 1040) 3) = w4 at M0 ⊢
  generalize w3.heap.size = gs at M0 ⊢
  go_wp2_with fail
  go_loopw [10] (fun i wr => ∃ k : Nat, k ≤ 520 ∧ i = .int .i64 k ∧ Hid (Mw w [(w.heap.size + 1 + 1, 0), (w.heap.size + 1, b), (w.heap.size, a)] g1 g2 gs (m : Int) (n : Int) (bz ((m : Int) * ((n : Int) % ((2 ^ k : Nat) : Int)))) wr)) (fun i _ => 520 - (intOf i).toNat)
  case atStart =>
    refine ⟨0, by omega, rfl, ?_⟩
    rw [show (m : Int) * ((n : Int) % ((2 ^ 0 : Nat) : Int)) = 0 by rw [show ((2 ^ 0 : Nat) : Int) = 1 from rfl, Int.emod_one, Int.mul_zero]]
    exact M0
  case round =>
    obtain ⟨i, hi, rfl, M1⟩ := hrel
    clear M0
    by_cases hlt : i < 520
    · have hg : (i : Int) < 520 := by omega
      have h1 := World.rowIs.cell (unhide M1).y hlt
      have hlow := bz_low (n : Int) i
      by_cases hy : bz (n : Int) i = 1
      · rw [hy] at h1 hlow
        clear hy
        have HS2 : Hid ((m : Int) * ((n : Int) % ((2 ^ (i + 1) : Nat) : Int)) = (m : Int) * ((n : Int) % ((2 ^ i : Nat) : Int)) + (m : Int) * ((2 ^ i : Nat) : Int)) := by
          show _ = _
          rw [hlow, Int.mul_one, Int.mul_add]
        clear hlow
        have HS0 : Hid (0 ≤ (m : Int) * ((n : Int) % ((2 ^ i : Nat) : Int)) ∧ (m : Int) * ((n : Int) % ((2 ^ i : Nat) : Int)) ≤ (m : Int) * ((2 ^ i : Nat) : Int)) := by
          have hp := two_pow_pos i
          have e1 := Int.emod_nonneg (n : Int) (show ((2 ^ i : Nat) : Int) ≠ 0 by omega)
          have e2 := Int.emod_lt_of_pos (n : Int) hp
          exact ⟨Int.mul_nonneg (Int.natCast_nonneg _) e1, Int.mul_le_mul_of_nonneg_left (Int.le_of_lt e2) (Int.natCast_nonneg _)⟩
        generalize (m : Int) * ((n : Int) % ((2 ^ i : Nat) : Int)) = S at *
        have hXB : Hid ((m : Int) < ((2 ^ B : Nat) : Int)) := by have := unhide hmB; show (m : Int) < _; omega
        have hTX : Hid (0 ≤ S / ((2 ^ i : Nat) : Int) ∧ S / ((2 ^ i : Nat) : Int) ≤ (m : Int)) := by
          have hp := two_pow_pos i
          have h3 := Int.ediv_le_ediv hp (unhide HS0).2
          rw [Int.mul_ediv_cancel _ (by omega)] at h3
          exact ⟨Int.ediv_nonneg (unhide HS0).1 (by omega), h3⟩
        go_wp2_with fail
        go_loopw [11, 12] (fun c kk wr2 => ∃ k : Nat, k ≤ B + 1 ∧ kk = .int .i64 k ∧ c = .int .i64 (cz (S / ((2 ^ i : Nat) : Int)) (m : Int) 0 k) ∧ Hid (Mw w [(w.heap.size + 1 + 1, 0), (w.heap.size + 1, b), (w.heap.size, a)] g1 g2 gs (m : Int) (n : Int) (gz S (m : Int) i k) wr2)) (fun _ kk _ => B + 1 - (intOf kk).toNat)
        case atStart =>
          refine ⟨0, by omega, rfl, by rw [cz_zero], ?_⟩
          exact ⟨(unhide M1).e, (unhide M1).x, (unhide M1).y, World.rowIs.congr (unhide M1).s fun j _ => by rw [gz_zero], (unhide M1).nx, (unhide M1).ny, (unhide M1).nl, (unhide M1).ng⟩
        case round =>
          obtain ⟨k, hk, rfl, rfl, M2⟩ := hrel
          clear M1
          have hc := cz_01 (S / ((2 ^ i : Nat) : Int)) (m : Int) 0 (.inl rfl) k
          have hik : i + k < 1040 := by omega
          have h2 := World.rowIs.cell (unhide M2).s hik
          rw [show gz S (m : Int) i k (i + k) = bz S (i + k) from if_neg (by omega)] at h2
          have h3 := World.rowIs.frozen (unhide M2).s (i + k)
          have hu := bz_01 S (i + k)
          have hv := bz_01 (m : Int) k
          have HG := hide (gz_step S (m : Int) i k)
          have HC := hide (gz_carry S (m : Int) i k)
          by_cases hkB : k < B
          · have h4 := World.rowIs.cell (unhide M2).x (show k < 520 by omega)
            have hkB' : (k : Int) < (B : Int) := by omega
            generalize bz S (i + k) = u at *
            generalize bz (m : Int) k = v at *
            generalize cz (S / ((2 ^ i : Nat) : Int)) (m : Int) 0 k = c at *
            go_wp2
            go_roundw
            case rel => exact ⟨k + 1, by omega, by go_num, by rw [unhide HC, show u + v + c = u + c + v by omega], (unhide M2).next (by rw [unhide HG, show u + v + c = u + c + v by omega])⟩
            case measure => simp [intOf]; omega
          · have hv0 : bz (m : Int) k = 0 := bz_zero_of_lt (Int.natCast_nonneg _) (unhide hXB) k (by omega)
            have hkB' : ¬ (k : Int) < (B : Int) := by omega
            have hkB2 : decide ((k : Int) < (B : Int)) = false := decide_eq_false hkB'
            rw [hv0, Int.add_zero] at HG HC
            clear hv hv0
            rcases hc with hc | hc
            · have HF := hide (gz_full (B := B) (unhide HS0).1 (Int.natCast_nonneg m) (unhide HS0).2 (unhide hXB) (show B ≤ k by omega) hc)
              clear HG HC hu
              rw [hc]
              clear hc
              go_wp2
              go_roundw
              case rel => exact ⟨i + 1, by omega, by go_num, ⟨(unhide M2).e, (unhide M2).x, (unhide M2).y, World.rowIs.congr (unhide M2).s fun j _ => by rw [unhide HF, unhide HS2], (unhide M2).nx, (unhide M2).ny, (unhide M2).nl, (unhide M2).ng⟩⟩
              case measure => simp [intOf]; omega
            · have hkB3 : k < B + 1 := by
                rcases (show k < B + 1 ∨ B + 1 ≤ k by omega) with h | h
                · exact h
                · rw [cz_gone (unhide hTX).1 (unhide hTX).2 (unhide hXB) h] at hc; omega
              rw [hc] at HG HC ⊢
              clear hc
              generalize bz S (i + k) = u at *
              go_wp2
              go_roundw
              case rel => exact ⟨k + 1, by omega, by go_num, by rw [unhide HC], (unhide M2).next (by rw [unhide HG])⟩
              case measure => simp [intOf]; omega
      · have hy0 : bz (n : Int) i = 0 := by have := bz_01 (n : Int) i; omega
        rw [hy0] at h1 hlow
        rw [Int.mul_zero, Int.add_zero] at hlow
        have HL := hide hlow
        clear hy hy0 hlow
        go_wp2
        go_roundw
        case rel => exact ⟨i + 1, by omega, by go_num, by rw [unhide HL]; exact M1⟩
        case measure => simp [intOf]; omega
    · have ei : i = 520 := by omega
      subst ei
      clear hlt hi
      have D0 : Hid (EnvB w [(w.heap.size + 1 + 1, 0), (w.heap.size + 1, b), (w.heap.size, a)] [(gs, 1040, (m : Int) * (n : Int))] wr) := by
        refine ⟨(unhide M1).e, fun p hp => ?_⟩
        have e := List.mem_singleton.1 hp
        subst e
        refine World.rowIs.congr (unhide M1).s fun j _ => ?_
        obtain ⟨f, hf⟩ : ∃ f, f = 520 := ⟨_, rfl⟩
        have h := unhide hnB
        rw [← hf] at h ⊢
        rw [Int.emod_eq_of_lt (Int.natCast_nonneg _) (by omega)]
      clear M1
      go_upto_region 17 with fail
      refine region_plan (S := EnvB w [(w.heap.size + 1 + 1, 0), (w.heap.size + 1, b), (w.heap.size, a)] [(gs, 1040, (m : Int) * (n : Int))]) (l := [0, 1, 2, 3, 4]) (by kernel_rfl) (by kernel_rfl) (by kernel_rfl) (by kernel_rfl) (by kernel_rfl) (by kernel_rfl) (by kernel_rfl) ((unhide D0).drew) ?_
      refine plan_read rfl rfl (fun u hS => exec_load8 (n := a) 40 (.tmp 2) (hS.e.blk (by repeat (first | exact List.mem_cons_self | apply List.mem_cons_of_mem))) rfl rfl Try.underlying40 rfl iWide) ?_
      go_simp
      refine plan_call (v := .bool sa) (f := 138) (args := #[.agg (cells8 a)]) rfl rfl (fun u hS => by go_simp) (fun u hS => (unhide hBa u).mono fun _ _ ⟨he, hb⟩ => ⟨he, hS.keep hb⟩) ?_
      go_simp
      refine plan_read rfl rfl (fun u hS => exec_load8 (n := b) 40 (.tmp 3) (hS.e.blk (by repeat (first | exact List.mem_cons_self | apply List.mem_cons_of_mem))) rfl rfl Try.underlying40 rfl iWide) ?_
      go_simp
      refine plan_call (v := .bool sb) (f := 138) (args := #[.agg (cells8 b)]) rfl rfl (fun u hS => by go_simp) (fun u hS => (unhide hBb u).mono fun _ _ ⟨he, hb⟩ => ⟨he, hS.keep hb⟩) ?_
      go_simp
      refine plan_read (v := .bool (sa != sb)) rfl rfl (fun u hS => by cases sa <;> cases sb <;> go_simp) ?_
      go_simp
      refine plan_end (fun u hS => ?_)
      have D := hide hS
      clear hS hBa hBb
      generalize (sa != sb) = sg at hO ⊢
      cases sg
      · go_wp2_with (first
          | (go_at_call 140; refine (unhide hO _ _ ((unhide D).r _ List.mem_cons_self)).mono ?_; rintro e w5 ⟨he, hw⟩; subst he; have D := hide ((unhide D).keep hw); clear hw)
          | (with_reducible refine at_list ?_; apply st8 (n := o) 40 (.tmp 4) (.tmp 76) ((unhide D).e.blk (n := 0) (by repeat (first | exact List.mem_cons_self | apply List.mem_cons_of_mem))) rfl rfl rfl rfl rfl iWide))
        exact res8s (((unhide D).e.blk (n := 0) (g := w.heap.size + 1 + 1) (by repeat (first | exact List.mem_cons_self | apply List.mem_cons_of_mem))).row _) rfl rfl rfl rfl Try.underlying40 rfl iWide ⟨rfl, below_row (unhide D).e.o (by omega) _⟩
      · go_wp2_with (first
          | (go_at_call 139; apply minusE (unhide D) (by decide) (x := (m : Int) * (n : Int)) (by repeat (first | exact List.mem_cons_self | apply List.mem_cons_of_mem)); intro g6 w6 D6; have D := hide D6; clear D6)
          | (go_at_call 140; refine (unhide hO _ _ ((unhide D).r _ List.mem_cons_self)).mono ?_; rintro e w5 ⟨he, hw⟩; subst he; have D := hide ((unhide D).keep hw); clear hw)
          | (with_reducible refine at_list ?_; apply st8 (n := o) 40 (.tmp 4) (.tmp 76) ((unhide D).e.blk (n := 0) (by repeat (first | exact List.mem_cons_self | apply List.mem_cons_of_mem))) rfl rfl rfl rfl rfl iWide))
        exact res8s (((unhide D).e.blk (n := 0) (g := w.heap.size + 1 + 1) (by repeat (first | exact List.mem_cons_self | apply List.mem_cons_of_mem))).row _) rfl rfl rfl rfl Try.underlying40 rfl iWide ⟨rfl, below_row (unhide D).e.o (by omega) _⟩

theorem refMul (x y : Int) (hx : Fit x) (hy : Fit y) (w : World) : Calls Try.prog 89 #[V x, V y] w fun e w' => e = .returned (.tuple #[.agg (cells8 (fitN (x * y))), .bool (fit (x * y))]) ∧ Below w.heap.size w w' := by
  have hH := HI_pos
  have hle : ∀ {z : Int}, Fit z → z.natAbs < 2 ^ 520 := fun hz => by
    have h1 := abs_lt hz
    obtain ⟨e, he, h5⟩ : ∃ e, M = 2 ^ e ∧ e = 512 := ⟨64 * 8, M_pow8, by omega⟩
    rw [he] at h1
    obtain ⟨f, hf⟩ : ∃ f, f = 520 := ⟨_, rfl⟩
    rw [← hf]
    exact Nat.lt_of_lt_of_le h1 (Nat.pow_le_pow_right (by decide) (by omega))
  have hB : blen x.natAbs ≤ 512 := by
    rw [blen_lt]
    have h1 := abs_lt hx
    obtain ⟨e, he, h5⟩ : ∃ e, M = 2 ^ e ∧ e = 512 := ⟨64 * 8, M_pow8, by omega⟩
    rw [he] at h1
    rw [← h5]
    exact h1
  have hz : (bif (decide (x < 0)) != (decide (y < 0)) then -((x.natAbs : Int) * (y.natAbs : Int)) else (x.natAbs : Int) * (y.natAbs : Int)) = x * y := by
    by_cases h1 : x < 0
    · rw [decide_eq_true h1, show (x.natAbs : Int) = -x by omega]
      by_cases h2 : y < 0
      · rw [decide_eq_true h2, show (y.natAbs : Int) = -y by omega]; show -x * -y = x * y; rw [Int.neg_mul_neg]
      · rw [decide_eq_false h2, show (y.natAbs : Int) = y by omega]; show -(-x * y) = x * y; rw [Int.neg_mul, Int.neg_neg]
    · rw [decide_eq_false h1, show (x.natAbs : Int) = x by omega]
      by_cases h2 : y < 0
      · rw [decide_eq_true h2, show (y.natAbs : Int) = -y by omega]; show -(x * -y) = x * y; rw [Int.mul_neg, Int.neg_neg]
      · rw [decide_eq_false h2, show (y.natAbs : Int) = y by omega]; rfl
  have hb : -((H : Int) * (H : Int)) ≤ x * y ∧ x * y ≤ (H : Int) * (H : Int) := by
    have a1 := hx.1; have a2 := hx.2; have b1 := hy.1; have b2 := hy.2
    have h1 : x.natAbs * y.natAbs ≤ H * H := Nat.mul_le_mul (by omega) (by omega)
    rw [← Int.natAbs_mul] at h1
    have h2 : ((H * H : Nat) : Int) = (H : Int) * (H : Int) := Int.natCast_mul H H
    omega
  have hb2 : ∀ m, m = 528 → -((H : Int) * ((2 ^ m : Nat) : Int)) ≤ x * y ∧ x * y < (H : Int) * ((2 ^ m : Nat) : Int) := by
    intro m hm
    obtain ⟨d, hd⟩ : ∃ d, d = 17 := ⟨_, rfl⟩
    rw [show m = 511 + d by omega, pow_H', hd, show ((2 ^ 17 : Nat) : Int) = 131072 from rfl]
    have h3 : (H : Int) * ((H : Int) * 131072) = (H : Int) * (H : Int) * 131072 := (Int.mul_assoc _ _ _).symm
    have h4 := Int.mul_pos hH hH
    omega
  refine mul_bits (enc x) (enc y) (fitN (x * y)) x.natAbs y.natAbs (blen x.natAbs) (decide (x < 0)) (decide (y < 0)) (fit (x * y)) w (fun u => refSize x hx u) (fun u => refSize y hy u) (fun u g hr => ?_)
    (fun u => refBelow x hx u) (fun u => refBelow y hy u) (fun u g hr => ?_) hB ((blen_lt _ _).1 (Nat.le_refl _)) (hle hy)
  · exact top_bits x.natAbs 520 g 0 520 (by decide) (hle hx) u (fun k hk => by rw [Nat.zero_add]; exact World.rowIs.cell hr hk)
  · rw [hz] at hr
    obtain ⟨m, hm⟩ : ∃ m, m = 528 := ⟨_, rfl⟩
    refine (ofZ (x * y) m 1040 g 0 1040 (by omega) (by decide) (hb2 m hm).1 (hb2 m hm).2 u (fun k hk => by rw [Nat.zero_add]; exact World.rowIs.cell hr hk) (World.rowIs.lt hr)).mono fun e w' ⟨he, hb⟩ => ⟨?_, hb⟩
    rw [he]
    unfold fitN
    cases fit (x * y) <;> rfl

end Go.Proofs.Ytbgafjdgahikcaa
