/- The document's least and further; rows of bits that are the first cells of a block. -/
import Derived.Test.YtljggjnaolbapaaGreatRm
namespace Go.Proofs.YtljggjnaolbapaaGreat
open Go.RowKit
set_option maxRecDepth 4000

theorem top_step (X : Int) (k : Nat) : X / ((2 ^ k : Nat) : Int) = X / ((2 ^ (k + 1) : Nat) : Int) * 2 + bz X k := by
  unfold bz
  rw [pow_two, ← Int.ediv_ediv_of_nonneg (Int.natCast_nonneg _)]
  omega

set_option maxRecDepth 4000 in
set_option maxHeartbeats 1000000 in
/-- Is a number of bits less than another one? -/
theorem least_bits (X Y : Int) (b : Bool) (n p q c1 c2 : Nat) (hn : n ≤ 4000) (w : World) (hp : Hid (∀ k, k < n → w.cell? ⟨p, k, none⟩ = some (.int .i64 (bz X k)))) (hq : Hid (∀ k, k < n → w.cell? ⟨q, k, none⟩ = some (.int .i64 (bz Y k))))
    (hpw : p < w.heap.size) (hqw : q < w.heap.size) (hb : Hid (b = decide (X < Y))) (hXY : Hid (X / ((2 ^ n : Nat) : Int) = Y / ((2 ^ n : Nat) : Int))) :
    Calls Tryz.prog 118 #[.slice (some ⟨p, 0, none⟩) n c1, .slice (some ⟨q, 0, none⟩) n c2] w fun e w' => e = .returned (.bool b) ∧ Below w.heap.size w w' := by
  go_enter Tryz.func118, Tryz.ntmps118
  go_wp2_with fail
  go_loopw [5] (fun i wr => ∃ k : Nat, k ≤ n ∧ i = .int .i64 ((k : Int) - 1) ∧ Hid (X / ((2 ^ k : Nat) : Int) = Y / ((2 ^ k : Nat) : Int)) ∧ Below w.heap.size w wr) (fun i _ => (intOf i + 1).toNat)
  case atStart => exact ⟨n, Nat.le_refl _, rfl, hXY, Below.refl _ _⟩
  case round =>
    obtain ⟨k, hk, rfl, hE, hw⟩ := hrel
    rcases Nat.eq_zero_or_pos k with rfl | hpos
    · have hF : Hid (b = false) := by
        have h := unhide hE
        rw [show ((2 ^ 0 : Nat) : Int) = 1 from rfl, Int.ediv_one, Int.ediv_one] at h
        show b = false
        rw [unhide hb, decide_eq_false_iff_not]
        omega
      have HW := hide hw
      clear hw
      go_wp2
      go_ret
      exact ⟨by rw [unhide hF]; rfl, unhide HW⟩
    · obtain ⟨m, rfl⟩ : ∃ m, k = m + 1 := ⟨k - 1, by omega⟩
      rw [show ((m + 1 : Nat) : Int) - 1 = (m : Int) by omega]
      have h1 : wr.cell? ⟨p, m, none⟩ = some (.int .i64 (bz X m)) := (hw.cell (by exact hpw)).trans (unhide hp m (by omega))
      have h2 : wr.cell? ⟨q, m, none⟩ = some (.int .i64 (bz Y m)) := (hw.cell (by exact hqw)).trans (unhide hq m (by omega))
      have HW := hide hw
      have tX := top_step X m
      have tY := top_step Y m
      rw [unhide hE] at tX
      clear hw hE
      by_cases he : bz X m = bz Y m
      · have HE : Hid (X / ((2 ^ m : Nat) : Int) = Y / ((2 ^ m : Nat) : Int)) := by show _ = _; rw [tX, tY, he]
        rw [he] at h1
        clear tX tY he
        generalize bz Y m = v at *
        go_wp2
        go_region
        all_goals (
          go_wp2
          go_roundw
          case rel => exact ⟨m, by omega, rfl, HE, (unhide HW).drew⟩
          case measure => simp [intOf])
      · have hB : Hid (b = decide (bz X m < bz Y m)) := by
          show b = _
          rw [unhide hb]
          apply decide_eq_decide.2
          have hp2 := two_pow_pos m
          constructor
          · intro h
            have h3 := Int.ediv_le_ediv hp2 (Int.le_of_lt h)
            omega
          · intro h
            rcases (show X < Y ∨ Y ≤ X by omega) with h' | h'
            · exact h'
            · have h3 := Int.ediv_le_ediv hp2 h'
              omega
        clear tX tY
        have he2 : decide (bz X m = bz Y m) = false := decide_eq_false he
        have he3 : (bz X m == bz Y m) = false := by simp [he]
        generalize bz X m = u at *
        generalize bz Y m = v at *
        go_wp2
        go_region
        all_goals (
          go_wp2
          go_region
          all_goals (
            go_wp2
            go_ret
            exact ⟨by rw [unhide hB]; rfl, (unhide HW).drew.drew⟩))

/-- What lies further up, as far as the place n + k. -/
def fz (z : Int) (n k j : Nat) : Int := if j < n + k then after n (fun _ => 0) (bz z) j else 0
theorem fz_next {w : World} {b N n k : Nat} {z v : Int} (h : Ints w b N (fz z n k)) (hv : v = bz z k) : Ints (w.setCell ⟨b, k + n, none⟩ (.int .i64 v)) b N (fz z n (k + 1)) := by
  subst hv
  refine World.rowIs.congr (World.rowIs.set h (k + n) _) fun j _ => ?_
  unfold fz
  by_cases e : j = k + n
  · rw [if_pos e, if_pos (by omega)]
    unfold after
    rw [if_neg (by omega), e, Nat.add_sub_cancel]
  · rw [if_neg e]
    by_cases h2 : j < n + k
    · rw [if_pos h2, if_pos (by omega)]
    · rw [if_neg h2, if_neg (by omega)]

set_option maxRecDepth 4000 in
set_option maxHeartbeats 1000000 in
/-- Bits, n places further up. -/
theorem further_bits (z Z : Int) (N n p c1 : Nat) (hZ : Hid (Z = z * ((2 ^ n : Nat) : Int))) (hN : N ≤ 4000) (hn : n ≤ N) (w : World) (hp : Hid (∀ k, k < N → w.cell? ⟨p, k, none⟩ = some (.int .i64 (bz z k)))) (hpw : p < w.heap.size) :
    Calls Tryz.prog 152 #[.slice (some ⟨p, 0, none⟩) N c1, .int .i64 n] w fun e w' => ∃ g, w.heap.size ≤ g ∧ e = .returned (.slice (some ⟨g, 0, none⟩) N N) ∧ Ints w' g N (bz Z) ∧ Below w.heap.size w w' := by
  have hmk := run_make_row' (P := Tryz.prog) 115 3 (.int .i64 0) 8 Tryz.underlying115 iInt rfl .i64 .i64 N (by omega) (by omega)
  go_enter Tryz.func152, Tryz.ntmps152
  go_wp2_with fail
  go_loopw [6] (fun i wr => ∃ k : Nat, k + n ≤ N ∧ i = .int .i64 k ∧ Ints wr w.heap.size N (fz z n k) ∧ Below w.heap.size w wr) (fun i _ => N - (intOf i).toNat)
  case atStart =>
    refine ⟨0, by omega, rfl, World.rowIs.congr (World.rowIs_made w (.int .i64 0) N 3) fun j _ => ?_, (Below.refl _ _).alloc (Nat.le_refl _) _⟩
    unfold fz after
    by_cases h : j < n + 0
    · rw [if_pos h, if_pos (by omega)]
    · rw [if_neg h]
  case round =>
    obtain ⟨k, hk, rfl, hr, hw⟩ := hrel
    by_cases hlt : k + n < N
    · have h1 : wr.cell? ⟨p, k, none⟩ = some (.int .i64 (bz z k)) := (hw.cell (by exact hpw)).trans (unhide hp k (by omega))
      have h3 := World.rowIs.frozen hr (k + n)
      have h4 := World.rowIs.cell hr hlt
      have HR := hide (And.intro hr hw)
      clear hr hw
      have hb := bz_01 z k
      have HV := hide (rfl : bz z k = bz z k)
      have hlt' : (k : Int) + (n : Int) < (N : Int) := by omega
      go_wp2
      go_roundw
      case rel => exact ⟨k + 1, by omega, by go_num, fz_next (unhide HR).1 rfl, (unhide HR).2.setCell (by simp) _⟩
      case measure => simp [intOf]; omega
    · have HR := hide (And.intro hr hw)
      clear hr hw
      have hlt' : ¬ (k : Int) + (n : Int) < (N : Int) := by omega
      go_wp2
      go_ret
      refine ⟨_, Nat.le_refl _, rfl, World.rowIs.congr (unhide HR).1 fun j hj => ?_, (unhide HR).2⟩
      rw [unhide hZ, bz_mul_pow]
      unfold fz
      rw [if_pos (by omega)]

/-- Numbers in their blocks, and rows of bits that are the first cells of theirs. -/
structure EnvR (w0 : World) (l : List (Nat × Nat)) (rs : List (Nat × Nat × Int)) (w : World) : Prop where
  e : Env w0 l w
  r : ∀ p ∈ rs, Row w p.1 p.2.1 (bz p.2.2)
section
variable {w0 w w' : World} {l : List (Nat × Nat)} {rs : List (Nat × Nat × Int)} {R : Ending → World → Prop} {p q n c c' : Nat} {x y : Int}
theorem EnvR.keep (d : EnvR w0 l rs w) (hb : Below w.heap.size w w') : EnvR w0 l rs w' := ⟨d.e.keep hb, fun p hp => (d.r p hp).below hb⟩
theorem EnvR.row {z : Int} (d : EnvR w0 l rs w) (h : Row w p n (bz z)) : EnvR w0 l ((p, n, z) :: rs) w := by
  refine ⟨d.e, fun p hp => ?_⟩
  rcases List.mem_cons.1 hp with e | hp
  · subst e; exact h
  · exact d.r p hp
theorem EnvR.drew (d : EnvR w0 l rs w) : EnvR w0 l rs w.drew := ⟨d.e.drew, fun p hp => (d.r p hp).drew⟩
theorem EnvR.of (d : Env w0 l w) : EnvR w0 l [] w := ⟨d, fun _ h => (List.not_mem_nil h).elim⟩
theorem EnvR.at (d : EnvR w0 l rs w) (h : (p, n, x) ∈ rs) : Row w p n (bz x) := d.r _ h
abbrev sc (g n c : Nat) : Value := .slice (some ⟨g, 0, none⟩) n c
theorem plusR (d : EnvR w0 l rs w) (hn : n ≤ 4000) (hp : (p, n, x) ∈ rs) (hq : (q, n, y) ∈ rs) (k : ∀ g w', EnvR w0 l ((g, n, x + y) :: rs) w' → R (.returned (sl g n)) w') :
    Calls Tryz.prog 119 #[sc p n c, sc q n c'] w R :=
  (plus_bits x y n p q 0 0 c c' hn w (fun k hk => by rw [Nat.zero_add]; exact (d.at hp).2 k hk) (fun k hk => by rw [Nat.zero_add]; exact (d.at hq).2 k hk) (d.at hp).1 (d.at hq).1).mono fun _ w' ⟨g, _, he, hr, hb⟩ => he ▸ k g w' ((d.keep hb).row hr.row)
theorem minusR (d : EnvR w0 l rs w) (hn : n ≤ 4000) (hp : (p, n, x) ∈ rs) (k : ∀ g w', EnvR w0 l ((g, n, -x) :: rs) w' → R (.returned (sl g n)) w') :
    Calls Tryz.prog 120 #[sc p n c] w R :=
  (minus_bits x n p 0 c hn w (fun k hk => by rw [Nat.zero_add]; exact (d.at hp).2 k hk) (d.at hp).1).mono fun _ w' ⟨g, _, he, hr, hb⟩ => he ▸ k g w' ((d.keep hb).row hr.row)
theorem ofR (d : EnvR w0 l rs w) (m : Nat) (hm : n = 512 + m) (hn : n ≤ 4000) (hp : (p, n, x) ∈ rs) (h1 : -((H : Int) * ((2 ^ m : Nat) : Int)) ≤ x) (h2 : x < (H : Int) * ((2 ^ m : Nat) : Int))
    (k : ∀ w', EnvR w0 l rs w' → R (.returned (.tuple #[.agg (cells8 (fitN x)), .bool (fit x)])) w') :
    Calls Tryz.prog 121 #[sc p n c] w R :=
  (ofZ x m n p 0 c hm hn h1 h2 w (fun k hk => by rw [Nat.zero_add]; exact (d.at hp).2 k hk) (d.at hp).1).mono fun e w' ⟨he, hb⟩ => by rw [he]; have := k w' (d.keep hb); rw [fitN_eq] at this; exact this
theorem leastR (d : EnvR w0 l rs w) (hn : n ≤ 4000) (hp : (p, n, x) ∈ rs) (hq : (q, n, y) ∈ rs) (hx0 : 0 ≤ x) (hy0 : 0 ≤ y) (hx : x < ((2 ^ n : Nat) : Int)) (hy : y < ((2 ^ n : Nat) : Int)) (k : ∀ w', EnvR w0 l rs w' → R (.returned (.bool (decide (x < y)))) w') :
    Calls Tryz.prog 118 #[sc p n c, sc q n c'] w R :=
  (least_bits x y _ n p q c c' hn w (d.at hp).2 (d.at hq).2 (d.at hp).1 (d.at hq).1 rfl (by show _ = _; rw [Int.ediv_eq_zero_of_lt hx0 hx, Int.ediv_eq_zero_of_lt hy0 hy])).mono fun _ w' ⟨he, hb⟩ => he ▸ k w' (d.keep hb)
theorem furtherR (d : EnvR w0 l rs w) (m : Nat) (hn : n ≤ 4000) (hm : m ≤ n) (hp : (p, n, x) ∈ rs) (k : ∀ g w', EnvR w0 l ((g, n, x * ((2 ^ m : Nat) : Int)) :: rs) w' → R (.returned (sl g n)) w') :
    Calls Tryz.prog 152 #[sc p n c, .int .i64 m] w R :=
  (further_bits x _ n m p c rfl hn hm w (d.at hp).2 (d.at hp).1).mono fun _ w' ⟨g, _, he, hr, hb⟩ => he ▸ k g w' ((d.keep hb).row hr.row)
end

end Go.Proofs.YtljggjnaolbapaaGreat
