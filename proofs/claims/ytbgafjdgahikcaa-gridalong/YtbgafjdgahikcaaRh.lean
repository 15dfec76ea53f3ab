/- The document's Cmp: the sign of the difference. -/
import Derived.Test.YtbgafjdgahikcaaRe
namespace Go.Proofs.Ytbgafjdgahikcaa
open Go.RowKit
set_option maxRecDepth 4000

theorem low_zero (z : Int) : ∀ n : Nat, (∀ j, j < n → bz z j = 0) → z % ((2 ^ n : Nat) : Int) = 0
  | 0, _ => by rw [show ((2 ^ 0 : Nat) : Int) = 1 from rfl, Int.emod_one]
  | n + 1, h => by rw [bz_low, low_zero z n (fun j hj => h j (by omega)), h n (by omega), Int.mul_zero, Int.add_zero]
theorem pow_H (m : Nat) : ((2 ^ (511 + m) : Nat) : Int) = (H : Int) * ((2 ^ m : Nat) : Int) := by
  obtain ⟨e, he⟩ : ∃ e, e = 511 := ⟨_, rfl⟩
  rw [← he, H_511 e he, Nat.pow_add, Int.natCast_mul]
theorem bz_519 (z : Int) (h1 : -(2 * (H : Int)) ≤ z) (h2 : z ≤ 2 * (H : Int)) : bz z 519 = if z < 0 then 1 else 0 := by
  have hH := HI_pos
  rw [show 519 = 511 + 8 from rfl, bz_from511]
  have h3 := Int.emod_add_mul_ediv z (H : Int)
  have h4 := Int.emod_nonneg z (show (H : Int) ≠ 0 by omega)
  have h5 := Int.emod_lt_of_pos z hH
  have a1 : -2 ≤ z / (H : Int) := (Int.le_ediv_iff_mul_le hH).2 (by omega)
  have a2 : z / (H : Int) < 3 := Int.ediv_lt_of_lt_mul hH (by omega)
  have a3 : z < 0 ↔ z / (H : Int) < 0 := by
    constructor
    · intro h; exact Int.ediv_neg_of_neg_of_pos h hH
    · intro h
      rcases (show z < 0 ∨ 0 ≤ z by omega) with h' | h'
      · exact h'
      · have := Int.ediv_nonneg h' (Int.le_of_lt hH); omega
  unfold bz
  rw [show ((2 ^ 8 : Nat) : Int) = 256 from rfl]
  generalize z / (H : Int) = q at *
  by_cases h : z < 0
  · rw [if_pos h]; have := a3.1 h; omega
  · rw [if_neg h]; have : ¬ q < 0 := fun hc => h (a3.2 hc); omega
theorem bits_none (z : Int) (h0 : 0 ≤ z) (h2 : z ≤ 2 * (H : Int)) : (∀ j, j < 520 → bz z j = 0) ↔ z = 0 := by
  constructor
  · intro h
    obtain ⟨m, hm⟩ : ∃ m, m = 9 := ⟨_, rfl⟩
    have h3 := low_zero z (511 + m) (fun j hj => h j (by omega))
    rw [pow_H, hm, show ((2 ^ 9 : Nat) : Int) = 512 from rfl] at h3
    have hH := HI_pos
    rwa [Int.emod_eq_of_lt h0 (by omega)] at h3
  · rintro rfl j _
    unfold bz
    rw [Int.zero_ediv]; rfl

set_option maxHeartbeats 1000000 in
theorem cmp_bits (x y : Int) (n m : Nat) (s : Int) (Hn : Hid (Fit x ∧ cells8 n = cells8 (enc x))) (Hm : Hid (Fit y ∧ cells8 m = cells8 (enc y)))
    (h1 : Hid (bz (x + -y) 519 = 1 → s = -1)) (h2 : Hid (bz (x + -y) 519 = 0 → (∃ j, j < 520 ∧ bz (x + -y) j = 1) → s = 1)) (h3 : Hid (bz (x + -y) 519 = 0 → (∀ j, j < 520 → bz (x + -y) j = 0) → s = 0)) (w : World) :
    Calls Try.prog 163 #[W n, W m] w fun e w' => e = .returned (.int .i64 s) ∧ Below w.heap.size w w' := by
  unfold W
  have hLx : Hid (∀ u, Calls Try.prog 142 #[.agg (cells8 n), .int .i64 520] u fun e w' => ∃ g, u.heap.size ≤ g ∧ e = .returned (.slice (some ⟨g, 0, none⟩) 520 520) ∧ Ints w' g 520 (bz x) ∧ Below u.heap.size u w') := fun u => by rw [Hn.out.2]; exact longZ x Hn.out.1 520 (by decide) u
  have hLy : Hid (∀ u, Calls Try.prog 142 #[.agg (cells8 m), .int .i64 520] u fun e w' => ∃ g, u.heap.size ≤ g ∧ e = .returned (.slice (some ⟨g, 0, none⟩) 520 520) ∧ Ints w' g 520 (bz y) ∧ Below u.heap.size u w') := fun u => by rw [Hm.out.2]; exact longZ y Hm.out.1 520 (by decide) u
  clear Hn Hm
  go_enter Try.func163, Try.ntmps163
  go_upto_region 1 with fail
  have D := hide (EnvB.of (Env.two w n m))
  refine region_walk (S := Env w [(w.heap.size + 1, m), (w.heap.size, n)]) (l := [0, 2, 1, 3, 4, 5, 6]) (t := [1, 3, 4, 5]) (by kernel_rfl) (by kernel_rfl) (by kernel_rfl) (by kernel_rfl) (by kernel_rfl) (by kernel_rfl) (by kernel_rfl) (by kernel_rfl) ?_ ?_
  · exact (unhide D).drew.e
  refine walk_read rfl rfl rfl (fun u hS => exec_load8 (n := n) 40 (.tmp 2) (hS.blk (by repeat (first | exact List.mem_cons_self | apply List.mem_cons_of_mem))) rfl rfl Try.underlying40 rfl iWide) ?_
  refine walk_read rfl rfl rfl (fun u hS => exec_load8 (n := m) 40 (.tmp 3) (hS.blk (by repeat (first | exact List.mem_cons_self | apply List.mem_cons_of_mem))) rfl rfl Try.underlying40 rfl iWide) ?_
  go_simp
  refine walk_call (f := 142) (args := #[.agg (cells8 n), .int .i64 520]) rfl rfl rfl (by go_simp) ?_
  refine (unhide hLx _).mono fun e w1 ⟨g1, _, he, hr, hb⟩ => ?_
  have D1 := ((unhide D).drew.keep hb).row hr
  refine ⟨_, he, D1.e, ?_⟩
  go_simp
  refine walk_call (f := 142) (args := #[.agg (cells8 m), .int .i64 520]) rfl rfl rfl (by go_simp) ?_
  refine (unhide hLy _).mono fun e w2 ⟨g2, _, he, hr, hb⟩ => ?_
  have D2 := (D1.keep hb).row hr
  refine ⟨_, he, D2.e, ?_⟩
  go_simp
  refine walk_call (f := 139) (args := #[sl g2 520]) rfl rfl rfl (by go_simp) ?_
  apply minusE D2 (by decide) (x := y) (by repeat (first | exact List.mem_cons_self | apply List.mem_cons_of_mem))
  intro g3 w3 D3
  refine ⟨_, rfl, D3.e, ?_⟩
  go_simp
  refine walk_call (f := 141) (args := #[sl g1 520, sl g3 520]) rfl rfl rfl (by go_simp) ?_
  apply plusE D3 (by decide) (x := x) (y := -y) (by repeat (first | exact List.mem_cons_self | apply List.mem_cons_of_mem)) (by repeat (first | exact List.mem_cons_self | apply List.mem_cons_of_mem))
  intro g4 w4 D4
  refine ⟨_, rfl, D4.e, ?_⟩
  go_simp
  refine walk_read (v := ?_) rfl rfl rfl (fun u hS => by go_simp; rfl) ?_
  go_simp
  refine walk_end ?_
  have HO := hide D4.e.o
  have HR := hide (D4.r _ List.mem_cons_self)
  clear D D1 D2 D3 D4 hLx hLy
  have a1 : w4.cell? ⟨g4, 519, none⟩ = some (.int .i64 (bz (x + -y) 519)) := World.rowIs.cell (unhide HR) (show 519 < 520 by decide)
  generalize x + -y = z at *
  by_cases hz : bz z 519 = 1
  · have hs := hide (h1.out hz)
    rw [hz] at a1
    go_wp2
    go_ret
    exact ⟨by rw [hs.out]; rfl, unhide HO⟩
  · have hz0 : bz z 519 = 0 := by have := bz_01 z 519; omega
    rw [hz0] at a1
    have H2 := hide (h2.out hz0)
    have H3 := hide (h3.out hz0)
    clear hz hz0 h1 h2 h3
    go_wp2_with fail
    go_loopw [6] (fun i wr => ∃ k : Nat, k ≤ 520 ∧ i = .int .i64 k ∧ Hid (∀ j, j < k → bz z j = 0) ∧ wr = w4) (fun i _ => 520 - (intOf i).toNat)
    case atStart => exact ⟨0, by omega, rfl, fun j hj => by omega, rfl⟩
    case round =>
      obtain ⟨k, hk, rfl, hy, rfl⟩ := hrel
      by_cases hlt : k < 520
      · have hg : (k : Int) < 520 := by omega
        have a2 := World.rowIs.cell (unhide HR) hlt
        by_cases h4 : bz z k = 1
        · have hs := hide (H2.out ⟨k, hlt, h4⟩)
          rw [h4] at a2
          clear h4
          go_wp2
          go_ret
          exact ⟨by rw [hs.out]; rfl, unhide HO⟩
        · have h5 : bz z k = 0 := by have := bz_01 z k; omega
          rw [h5] at a2
          have H5 := hide h5
          clear h4 h5
          go_wp2
          go_roundw
          case rel => exact ⟨k + 1, by omega, by go_num, fun j hj => by
            rcases (show j < k ∨ j = k by omega) with h | h
            · exact hy.out j h
            · rw [h]; exact H5.out, trivial⟩
          case measure => simp [intOf]; omega
      · have hs := hide (H3.out fun j hj => hy.out j (by omega))
        have e : k = 520 := by omega
        subst e
        clear hlt hy hk H2 H3
        go_wp2
        go_ret
        exact ⟨by rw [hs.out]; rfl, unhide HO⟩
theorem refCmp (x y : Int) (hx : Fit x) (hy : Fit y) (w : World) : Calls Try.prog 163 #[V x, V y] w fun e w' => e = .returned (.int .i64 (cmpI x y)) ∧ Below w.heap.size w w' := by
  have b1 : -(2 * (H : Int)) ≤ x + -y := by have := hx.1; have := hy.2; omega
  have b2 : x + -y ≤ 2 * (H : Int) := by have := hx.2; have := hy.1; omega
  have h5 := bz_519 (x + -y) b1 b2
  refine cmp_bits x y (enc x) (enc y) (cmpI x y) ⟨hx, rfl⟩ ⟨hy, rfl⟩ ?_ ?_ ?_ w
  · intro h
    rw [h5] at h
    unfold cmpI
    by_cases hc : x + -y < 0
    · rw [if_pos (by omega)]
    · rw [if_neg hc] at h; omega
  · intro h hj
    rw [h5] at h
    have h0 : 0 ≤ x + -y := by
      by_cases hc : x + -y < 0
      · rw [if_pos hc] at h; omega
      · omega
    have hn : x + -y ≠ 0 := fun hc => by
      obtain ⟨j, hj8, hjn⟩ := hj
      have := (bits_none _ h0 b2).2 hc j hj8
      omega
    unfold cmpI
    rw [if_neg (by omega), if_pos (by omega)]
  · intro h hj
    rw [h5] at h
    have h0 : 0 ≤ x + -y := by
      by_cases hc : x + -y < 0
      · rw [if_pos hc] at h; omega
      · omega
    have hz := (bits_none _ h0 b2).1 hj
    unfold cmpI
    rw [if_neg (by omega), if_neg (by omega)]

end Go.Proofs.Ytbgafjdgahikcaa
