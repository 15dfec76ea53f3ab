/- The numbers of takeAll: what is taken, what is left. No Go in this text. The contract of takeAll of package wide: the quotient's digit, and what is left. Long division, limb by limb: the numbers. No Go in this text. -/
import Derived.Test.YtnemedgdhojhdaaGreatWs
import Derived.Test.YtnemedgdhojhdaaGreatWv
namespace Go.Proofs.YtnemedgdhojhdaaGreat
open Go.RowKit
set_option maxRecDepth 4000

/-- A guess by the top limbs is not too small. -/
theorem gs_ge (V Y n : Nat) (hn : 1 ≤ n) (hV : V < 18446744073709551616 * Y) (hY : Y < 2 ^ (64 * n)) (ht : 9223372036854775808 ≤ lmN Y (n - 1)) :
    V / Y ≤ gs (lmN V n) (lmN V (n - 1)) (lmN Y (n - 1)) := by
  obtain ⟨m, rfl⟩ : ∃ m, n = m + 1 := ⟨n - 1, by omega⟩
  simp only [Nat.add_sub_cancel] at *
  have hP : 0 < 2 ^ (64 * m) := Nat.pow_pos (by decide)
  have hY0 : 0 < Y := by
    rcases Nat.eq_zero_or_pos Y with h | h
    · subst h; simp [lmN] at ht
    · exact h
  have hq : V / Y < 18446744073709551616 := by rw [Nat.div_lt_iff_lt_mul hY0]; exact hV
  unfold gs
  split
  · omega
  · rename_i hlt
    rw [Nat.le_div_iff_mul_le (by omega)]
    have hYm : lmN Y m * 2 ^ (64 * m) ≤ Y := by
      unfold lmN
      have h1 : Y / 2 ^ (64 * m) % 18446744073709551616 ≤ Y / 2 ^ (64 * m) := Nat.mod_le _ _
      exact Nat.le_trans (Nat.mul_le_mul_right _ h1) (Nat.div_mul_le_self _ _)
    have hVb : V < 18446744073709551616 * (2 ^ (64 * m) * 18446744073709551616) := by
      rw [pow_step] at hY
      exact Nat.lt_trans hV (Nat.mul_lt_mul_of_pos_left hY (by decide))
    have hVm : V / 2 ^ (64 * m) = lmN V (m + 1) * 18446744073709551616 + lmN V m := by
      unfold lmN
      rw [pow_step, ← Nat.div_div_eq_div_mul]
      have hb : V / 2 ^ (64 * m) < 18446744073709551616 * 18446744073709551616 := by
        rw [Nat.div_lt_iff_lt_mul hP]
        generalize 2 ^ (64 * m) = P at *
        rw [Nat.mul_assoc, Nat.mul_comm _ P]
        exact hVb
      generalize V / 2 ^ (64 * m) = z at *
      omega
    rw [← hVm, Nat.le_div_iff_mul_le hP, Nat.mul_assoc]
    exact Nat.le_trans (Nat.mul_le_mul_left _ hYm) (Nat.div_mul_le_self _ _)

theorem cpl_limb (z k j : Nat) (hz : z < 2 ^ (64 * k)) (hj : j < k) : bits .xor .u64 IntKind.u64.max (lmN z j : Int) = lm (2 ^ (64 * k) - 1 - z) j := by
  have hK : 2 ^ (64 * k) = 2 ^ (64 * j) * (18446744073709551616 * 2 ^ (64 * (k - j - 1))) := by
    rw [show (18446744073709551616 : Nat) = 2 ^ 64 by decide, ← Nat.pow_add, ← Nat.pow_add]; congr 1; omega
  have hP : 0 < 2 ^ (64 * j) := Nat.pow_pos (by decide)
  rw [xor_all _ (lmN_lt z j)]
  unfold lm lmN
  rw [hK] at hz ⊢
  rw [cpl_div _ _ _ hP hz, cpl_mod _ _ (Nat.div_lt_of_lt_mul hz)]

theorem cy_big (a b c k : Nat) (ha : a < 2 ^ (64 * k)) (hb : b < 2 ^ (64 * k)) : cy a b c k = (((a + b + c) / 2 ^ (64 * k) : Nat) : Int) := by
  unfold cy
  rw [Nat.mod_eq_of_lt ha, Nat.mod_eq_of_lt hb]

theorem lm_over (z k j : Nat) (hj : j < k) : lm (2 ^ (64 * k) + z) j = lm z j := by
  unfold lm
  rw [show 64 * k = 64 * j + (64 + 64 * (k - j - 1)) by omega, Nat.pow_add, Nat.pow_add, Nat.mul_add_div (Nat.pow_pos (by decide)), show (2 : Nat) ^ 64 = 18446744073709551616 by decide, Nat.mul_add_mod]

theorem winF_same (F : Nat → Int) (off s s' k n : Nat) (h : ∀ j, j < k → lm s j = lm s' j) : rowF (winF F off s k) n = rowF (winF F off s' k) n := by
  apply rowF_congr
  intro p _
  unfold winF
  by_cases hp : off ≤ p ∧ p < off + k
  · rw [if_pos hp, if_pos hp, h _ (by omega)]
  · rw [if_neg hp, if_neg hp]

theorem winF_again (F : Nat → Int) (off s s' k n : Nat) : rowF (winF (winF F off s k) off s' k) n = rowF (winF F off s' k) n := by
  apply rowF_congr
  intro p _
  unfold winF
  by_cases hp : off ≤ p ∧ p < off + k
  · rw [if_pos hp, if_pos hp]
  · rw [if_neg hp, if_neg hp, if_neg hp]

end Go.Proofs.YtnemedgdhojhdaaGreat

namespace Go.Proofs.YtnemedgdhojhdaaGreat
open Go.RowKit
set_option maxRecDepth 4000

/-- What takeAll knows of the world. -/
structure Ta (w0 : World) (g gy Y : Nat) (G : Nat → Int) (w : World) : Prop where
  a : Blk w g 182 (rowF G 9)
  y : Blk w gy 157 (cells8 Y)
  o : But w0.heap.size g w0 w
  hg : g < w0.heap.size
  hgy : gy < w0.heap.size
  hne : gy ≠ g
theorem Ta.keep {w0 w w' : World} {g gy Y : Nat} {G : Nat → Int} (h : Ta w0 g gy Y G w) (hb : Below w.heap.size w w') : Ta w0 g gy Y G w' :=
  ⟨h.a.below hb h.a.lt, h.y.below hb h.y.lt, h.o.trans (But.of_below (hb.mono h.o.size)), h.hg, h.hgy, h.hne⟩
theorem Ta.turn {w0 w w' : World} {g gy Y : Nat} {G G' : Nat → Int} (h : Ta w0 g gy Y G w) (hb : But w.heap.size g w w') (ha : Blk w' g 182 (rowF G' 9)) : Ta w0 g gy Y G' w' :=
  ⟨ha, h.y.but hb h.y.lt h.hne, h.o.trans (hb.mono h.o.size), h.hg, h.hgy, h.hne⟩

set_option maxHeartbeats 2000000 in
theorem takeAll_core (g gy off n V Y capA capY q0 : Nat) (F : Nat → Int) (w : World) (T : Hid (Ta w g gy Y F w)) (hn : off + n < 9) (hn8 : n ≤ 8) (hn1 : 1 ≤ n)
    (hV : Hid (∀ j, j ≤ n → F (off + j) = lm V j)) (hq0 : Hid (gs (lmN V n) (lmN V (n - 1)) (lmN Y (n - 1)) = q0)) (ht : Hid (9223372036854775808 ≤ lmN Y (n - 1)))
    (D : Nat → Nat)
    (hT : Hid (∀ u, Ta w g gy Y F u → Calls Tryz.prog 193 #[.slice (some ⟨g, off, none⟩) (n + 1) capA, .slice (some ⟨gy, 0, none⟩) n capY, .int .u64 (q0 : Int)] u fun e u' =>
      e = .returned (.bool (decide (V < q0 * Y))) ∧ Ta w g gy Y (winF F off (D q0) (n + 1)) u'))
    (hG : Hid (∀ u q, V < q * Y → V / Y ≤ q → q < 18446744073709551616 → Ta w g gy Y (winF F off (D q) (n + 1)) u → Calls Tryz.prog 194 #[.slice (some ⟨g, off, none⟩) (n + 1) capA, .slice (some ⟨gy, 0, none⟩) n capY] u fun e u' =>
      e = .returned (.bool (!decide (V < (q - 1) * Y))) ∧ Ta w g gy Y (winF F off (D (q - 1)) (n + 1)) u'))
    (hq : Hid (V / Y ≤ q0 ∧ q0 < 18446744073709551616 ∧ 0 < Y)) :
    Calls Tryz.prog 181 #[.slice (some ⟨g, off, none⟩) (n + 1) capA, .slice (some ⟨gy, 0, none⟩) n capY] w fun e w' =>
      e = .returned (.int .u64 (V / Y : Nat)) ∧ Ta w g gy Y (winF F off (D (V / Y)) (n + 1)) w' := by
  have hnm : ((n : Int) - 1).toNat = n - 1 := by omega
  have hw1 : IntKind.i64.wrap ((n : Int) - 1) = (n : Int) - 1 := by rw [IntKind.wrap_i64]; omega
  have hi0 : 0 ≤ (n : Int) - 1 := by omega
  have hi1 : (n : Int) - 1 < (n : Int) := by omega
  have hi2 : (n : Int) - 1 < (n : Int) + 1 := by omega
  have hi3 : (n : Int) < (n : Int) + 1 := by omega
  have hi4 : ¬ (n : Int) < 1 := by omega
  go_enter Tryz.func181, Tryz.ntmps181
  go_wp2
  refine region_plan (S := Ta w g gy Y F) (l := [0, 1, 2, 3, 4, 5, 6, 7, 8, 9, 10, 11, 12, 13, 14, 15]) (by kernel_rfl) (by kernel_rfl) (by kernel_rfl) (by kernel_rfl) (by kernel_rfl) (by kernel_rfl) (by kernel_rfl) ?_ ?_
  · exact ⟨(unhide T).a, (unhide T).y, (unhide T).o.drew, (unhide T).hg, (unhide T).hgy, (unhide T).hne⟩
  have c1 : Hid (∀ u, Ta w g gy Y F u → u.cell? ⟨g, off + n, none⟩ = some (.int .u64 (lmN V n : Int))) := fun u h => by rw [h.a.cell, rowF_get _ _ _ (by omega), unhide hV n (Nat.le_refl _)]; rfl
  have c2 : Hid (∀ u, Ta w g gy Y F u → u.cell? ⟨g, off + (n - 1), none⟩ = some (.int .u64 (lmN V (n - 1) : Int))) := fun u h => by rw [h.a.cell, rowF_get _ _ _ (by omega), unhide hV (n - 1) (by omega)]; rfl
  have c3 : Hid (∀ u, Ta w g gy Y F u → u.cell? ⟨gy, n - 1, none⟩ = some (.int .u64 (lmN Y (n - 1) : Int))) := fun u h => by rw [h.y.cell, cells8_get Y (n - 1) (by omega)]; rfl
  refine plan_read (v := ?_) rfl rfl (fun u hS => by go_simp; rfl) ?_
  refine plan_read (v := ?_) rfl rfl (fun u hS => by go_simp; rfl) ?_
  refine plan_read (v := .pointer (some ⟨g, off + n, none⟩)) rfl rfl (fun u hS => by go_simp) ?_
  refine plan_read (v := .int .u64 (lmN V n : Int)) rfl rfl (fun u hS => by have h := unhide c1 u hS; go_simp) ?_
  refine plan_read (v := ?_) rfl rfl (fun u hS => by go_simp; rfl) ?_
  refine plan_read (v := ?_) rfl rfl (fun u hS => by go_simp; rfl) ?_
  refine plan_read (v := .int .i64 ((n : Int) - 1)) rfl rfl (fun u hS => by go_simp) ?_
  refine plan_read (v := .pointer (some ⟨g, off + (n - 1), none⟩)) rfl rfl (fun u hS => by go_simp) ?_
  refine plan_read (v := .int .u64 (lmN V (n - 1) : Int)) rfl rfl (fun u hS => by have h := unhide c2 u hS; go_simp) ?_
  refine plan_read (v := ?_) rfl rfl (fun u hS => by go_simp; rfl) ?_
  refine plan_read (v := ?_) rfl rfl (fun u hS => by go_simp; rfl) ?_
  refine plan_read (v := .int .i64 ((n : Int) - 1)) rfl rfl (fun u hS => by go_simp) ?_
  refine plan_read (v := .pointer (some ⟨gy, n - 1, none⟩)) rfl rfl (fun u hS => by go_simp) ?_
  refine plan_read (v := .int .u64 (lmN Y (n - 1) : Int)) rfl rfl (fun u hS => by have h := unhide c3 u hS; go_simp) ?_
  go_simp
  refine plan_call (v := .int .u64 (q0 : Int)) (f := 192) (args := #[.int .u64 (lmN V n : Int), .int .u64 (lmN V (n - 1) : Int), .int .u64 (lmN Y (n - 1) : Int)]) rfl rfl (fun u hS => by go_simp)
    (fun u hS => (guess_any (lmN V n) (lmN V (n - 1)) (lmN Y (n - 1)) (unhide ht) (lmN_lt _ _) (lmN_lt _ _) u).mono fun _ _ ⟨he, hb⟩ => ⟨by rw [he, unhide hq0], hS.keep hb⟩) ?_
  refine plan_read (v := ?_) rfl rfl (fun u hS => by go_simp; rfl) ?_
  refine plan_end (fun u hS => ?_)
  have HS := hide hS
  clear hS
  go_simp
  go_wp2_with (go_at_call 193; refine (unhide hT _ (unhide HS)).mono ?_; rintro e w1 ⟨he, h1⟩; subst he)
  have H1 := hide h1
  clear h1 c1 c2 c3 hnm hw1 hi0 hi1 hi2 hi3 hi4
  have hnot : ∀ (x : Bool) (w : World), (Op.unary .not (.bool x)).run Tryz.prog w = .ok (.bool (!x)) w := fun _ _ => rfl
  go_loopw [6, 7] (fun s6 s7 wr => ∃ q : Nat, s6 = .int .u64 (q : Int) ∧ s7 = .bool (decide (V < q * Y)) ∧ V / Y ≤ q ∧ q < 18446744073709551616 ∧ Ta w g gy Y (winF F off (D q) (n + 1)) wr) (fun s6 _ _ => (intOf s6).toNat)
  case atStart => exact ⟨q0, rfl, rfl, (unhide hq).1, (unhide hq).2.1, unhide H1⟩
  case round =>
    obtain ⟨q, rfl, rfl, hlo, hhi, R⟩ := hrel
    have HR := hide R
    have HL := hide hlo
    have HH := hide hhi
    clear R hlo hhi
    by_cases hs : V < q * Y
    · have hd : decide (V < q * Y) = true := decide_eq_true hs
      have hgt : V / Y < q := by
        have h1 := (unhide hq).2.2
        rw [Nat.div_lt_iff_lt_mul h1]; exact hs
      have hpos : 0 < q := Nat.lt_of_le_of_lt (Nat.zero_le _) hgt
      have hwq : IntKind.u64.wrap ((q : Int) - 1) = ((q - 1 : Nat) : Int) := by
        have := unhide HH
        rw [IntKind.wrap_u64]; omega
      have HS2 := hide hs
      have HGT := hide hgt
      have HP := hide hpos
      clear hs hgt hpos
      rw [hd]
      clear hd
      generalize hq1 : q - 1 = q1 at hwq
      go_wp2_with (go_at_call 194; refine (unhide hG _ q (unhide HS2) (unhide HL) (unhide HH) (unhide HR)).mono ?_; rintro e w2 ⟨he, h2⟩; rw [hq1] at he h2; subst he)
      go_roundw
      case rel => exact ⟨q1, rfl, rfl, by rw [← hq1]; exact Nat.le_sub_one_of_lt (unhide HGT), by have := unhide HH; omega, h2⟩
      case measure => have := unhide HP; simp [intOf]; omega
    · have hd : decide (V < q * Y) = false := decide_eq_false hs
      have heq : q = V / Y := by
        have h1 := (unhide hq).2.2
        apply Nat.le_antisymm
        · rw [Nat.le_div_iff_mul_le h1]; omega
        · exact unhide HL
      have HE := hide heq
      clear hs heq
      rw [hd]
      clear hd
      go_wp2
      go_ret
      exact ⟨by rw [← unhide HE]; rfl, by rw [← unhide HE]; exact unhide HR⟩

set_option maxHeartbeats 1000000 in
/-- takeAll: the digit V by Y; V modulo Y is left. -/
theorem takeAll_any (g gy off n V Y capA capY : Nat) (F : Nat → Int) (w : World) (ha : Blk w g 182 (rowF F 9)) (hy : Blk w gy 157 (cells8 Y)) (hne : gy ≠ g) (hn : off + n < 9) (hn1 : 1 ≤ n)
    (hV : ∀ j, j ≤ n → F (off + j) = lm V j) (ht : 9223372036854775808 ≤ lmN Y (n - 1)) (hY : Y < 2 ^ (64 * n)) (hlt : V < 18446744073709551616 * Y) :
    Calls Tryz.prog 181 #[.slice (some ⟨g, off, none⟩) (n + 1) capA, .slice (some ⟨gy, 0, none⟩) n capY] w fun e w' =>
      e = .returned (.int .u64 (V / Y : Nat)) ∧ Blk w' g 182 (rowF (winF F off (V % Y) (n + 1)) 9) ∧ But w.heap.size g w w' := by
  have hN : 0 < 2 ^ (64 * n) := Nat.pow_pos (by decide)
  have hK : 2 ^ (64 * (n + 1)) = 2 ^ (64 * n) * 18446744073709551616 := pow_step n
  have hY0 : 0 < Y := by
    rcases Nat.eq_zero_or_pos Y with h | h
    · subst h; omega
    · exact h
  have hYK : Y < 2 ^ (64 * (n + 1)) := by rw [hK]; generalize 2 ^ (64 * n) = N at *; omega
  have hVK : V < 2 ^ (64 * (n + 1)) := by
    rw [hK, Nat.mul_comm]
    exact Nat.lt_trans hlt (Nat.mul_lt_mul_of_pos_left hY (by decide))
  have hqY : ∀ q, q < 18446744073709551616 → q * Y < 2 ^ (64 * (n + 1)) := fun q hq => by
    rw [hK, Nat.mul_comm (2 ^ (64 * n))]
    calc q * Y ≤ q * 2 ^ (64 * n) := Nat.mul_le_mul_left _ (by omega)
      _ < 18446744073709551616 * 2 ^ (64 * n) := Nat.mul_lt_mul_of_pos_right hq hN
  have hlmY : lm Y n = 0 := by
    unfold lm
    rw [Nat.div_eq_of_lt hY]; rfl
  obtain ⟨q0, hq0⟩ : ∃ q0, gs (lmN V n) (lmN V (n - 1)) (lmN Y (n - 1)) = q0 := ⟨_, rfl⟩
  have hge : V / Y ≤ q0 := hq0 ▸ gs_ge V Y n hn1 hlt hY ht
  have hq0lt : q0 < 18446744073709551616 := by
    rw [← hq0]
    unfold gs
    split
    · decide
    · rename_i hc
      rw [Nat.div_lt_iff_lt_mul (by omega)]
      have h1 := lmN_lt V (n - 1)
      generalize lmN V n = a at *
      generalize lmN V (n - 1) = b at *
      generalize lmN Y (n - 1) = t at *
      have : (a + 1) * 18446744073709551616 ≤ t * 18446744073709551616 := Nat.mul_le_mul_right _ (by omega)
      omega
  have T0 : Ta w g gy Y F w := ⟨ha, hy, But.of_below (Below.refl _ _), ha.lt, hy.lt, hne⟩
  have main := takeAll_core g gy off n V Y capA capY q0 F w T0 hn (by omega) hn1 hV hq0 ht (fun q => V + (2 ^ (64 * (n + 1)) - q * Y)) ?_ ?_ ⟨hge, hq0lt, hY0⟩
  · refine main.mono fun e w' ⟨he, h⟩ => ⟨he, ?_, h.o⟩
    have hd := Nat.div_add_mod V Y
    have hqv : V / Y < 18446744073709551616 := by rw [Nat.div_lt_iff_lt_mul hY0]; exact hlt
    have hle := hqY _ hqv
    have e2 : V + (2 ^ (64 * (n + 1)) - V / Y * Y) = 2 ^ (64 * (n + 1)) + V % Y := by
      rw [Nat.mul_comm (V / Y)] at hle ⊢
      omega
    have := h.a
    rw [e2, winF_same F off (2 ^ (64 * (n + 1)) + V % Y) (V % Y) (n + 1) 9 (fun j hj => lm_over _ _ _ hj)] at this
    exact this
  · intro u hu
    have hz := hqY q0 hq0lt
    have h := take_core g gy off n V Y q0 (2 ^ (64 * (n + 1)) - 1 - q0 * Y) capA capY F u hu.a hu.y hu.hne hn (by omega) hV hq0lt hY (fun j hj => cpl_limb _ _ _ hz (by omega))
    refine h.mono fun e u' ⟨he, h1, h2⟩ => ⟨?_, ?_⟩
    · rw [he, cy_big _ _ _ _ hVK (by omega)]
      refine congrArg (fun b => Ending.returned (Value.bool b)) ?_
      apply Bool.eq_iff_iff.2
      rw [decide_eq_true_eq, decide_eq_true_eq]
      rw [show V + (2 ^ (64 * (n + 1)) - 1 - q0 * Y) + 1 = V + (2 ^ (64 * (n + 1)) - q0 * Y) by omega]
      generalize 2 ^ (64 * (n + 1)) = K at *
      generalize q0 * Y = p at *
      constructor
      · intro h0
        have h0' : (V + (K - p)) / K = 0 := by omega
        rcases Nat.lt_or_ge V p with h3 | h3
        · exact h3
        · exfalso
          have : 1 ≤ (V + (K - p)) / K := by rw [Nat.le_div_iff_mul_le (by omega)]; omega
          omega
      · intro h0
        rw [Nat.div_eq_of_lt (by omega)]; rfl
    · refine hu.turn h2 ?_
      rw [show V + (2 ^ (64 * (n + 1)) - 1 - q0 * Y) + 1 = V + (2 ^ (64 * (n + 1)) - q0 * Y) by omega] at h1
      exact h1
  · intro u q hs hlo hhi hu
    have hz := hqY q hhi
    have hq1 : 0 < q := by
      rcases Nat.eq_zero_or_pos q with h | h
      · subst h; omega
      · exact h
    have hmul : (q - 1) * Y + Y = q * Y := by
      obtain ⟨m, rfl⟩ : ∃ m, q = m + 1 := ⟨q - 1, by omega⟩
      rw [Nat.add_sub_cancel, Nat.add_mul, Nat.one_mul]
    have hDK : V + (2 ^ (64 * (n + 1)) - q * Y) < 2 ^ (64 * (n + 1)) := by omega
    have h := giveBack_core g gy off n (V + (2 ^ (64 * (n + 1)) - q * Y)) Y capA capY (winF F off (V + (2 ^ (64 * (n + 1)) - q * Y)) (n + 1)) u hu.a hu.y hu.hne hn (by omega)
      (fun j hj => by unfold winF; rw [if_pos (by omega), show off + j - off = j by omega]) hlmY
    have eD : V + (2 ^ (64 * (n + 1)) - q * Y) + Y = V + (2 ^ (64 * (n + 1)) - (q - 1) * Y) := by omega
    refine h.mono fun e u' ⟨he, h1, h2⟩ => ⟨?_, ?_⟩
    · rw [he, cy_big _ _ _ _ hDK hYK, Nat.add_zero, eD]
      refine congrArg (fun b => Ending.returned (Value.bool b)) ?_
      generalize 2 ^ (64 * (n + 1)) = K at *
      generalize q * Y = p at *
      generalize (q - 1) * Y = p1 at *
      apply Bool.eq_iff_iff.2
      rw [decide_eq_true_eq, Bool.not_eq_true', decide_eq_false_iff_not]
      constructor
      · intro h0 hc
        rw [Nat.div_eq_of_lt (by omega)] at h0
        cases h0
      · intro h0
        have h3 : (V + (K - p1)) / K = 1 := by
          apply Nat.le_antisymm
          · have : (V + (K - p1)) / K < 2 := by rw [Nat.div_lt_iff_lt_mul (by omega)]; omega
            omega
          · rw [Nat.le_div_iff_mul_le (by omega)]; omega
        rw [h3]; rfl
    · refine hu.turn h2 ?_
      rw [winF_again, eD] at h1
      exact h1

end Go.Proofs.YtnemedgdhojhdaaGreat

namespace Go.Proofs.YtnemedgdhojhdaaGreat
open Go.RowKit
set_option maxRecDepth 4000

/-- The numbers on the way: X is Q times Y and R, which is below Y, k limbs up. -/
structure Df (X Y k Q R : Nat) : Prop where
  eq : X = Q * Y + R
  lt : R < Y * 2 ^ (64 * k)
  dv : 2 ^ (64 * k) ∣ Q

theorem Df.v_lt {X Y i Q R : Nat} (h : Df X Y (i + 1) Q R) : R / 2 ^ (64 * i) < 18446744073709551616 * Y := by
  rw [Nat.div_lt_iff_lt_mul (Nat.pow_pos (by decide))]
  have := h.lt
  rw [pow_step] at this
  rw [Nat.mul_comm 18446744073709551616, Nat.mul_assoc, Nat.mul_comm 18446744073709551616]
  exact this

/-- What is left behind a digit. -/
theorem left_eq (Y i R : Nat) : R - R / 2 ^ (64 * i) / Y * Y * 2 ^ (64 * i) = R / 2 ^ (64 * i) % Y * 2 ^ (64 * i) + R % 2 ^ (64 * i) := by
  have h1 := Nat.div_add_mod R (2 ^ (64 * i))
  have h2 := Nat.div_add_mod (R / 2 ^ (64 * i)) Y
  generalize R / 2 ^ (64 * i) = V at *
  generalize R % 2 ^ (64 * i) = z at *
  generalize 2 ^ (64 * i) = P at *
  have e : V * P = V / Y * Y * P + V % Y * P := by
    rw [← Nat.add_mul, Nat.mul_comm (V / Y) Y, h2]
  rw [Nat.mul_comm P V] at h1
  omega

theorem Df.step {X Y i Q R : Nat} (h : Df X Y (i + 1) Q R) (hY : 0 < Y) :
    Df X Y i (Q + R / 2 ^ (64 * i) / Y * 2 ^ (64 * i)) (R - R / 2 ^ (64 * i) / Y * Y * 2 ^ (64 * i)) := by
  have hP : 0 < 2 ^ (64 * i) := Nat.pow_pos (by decide)
  have hle := left_eq Y i R
  have h1 := Nat.div_add_mod R (2 ^ (64 * i))
  have h2 := Nat.div_mul_le_self (R / 2 ^ (64 * i)) Y
  have h3 : R / 2 ^ (64 * i) / Y * Y * 2 ^ (64 * i) ≤ R := Nat.le_trans (Nat.mul_le_mul_right _ h2) (Nat.div_mul_le_self _ _)
  refine ⟨?_, ?_, ?_⟩
  · rw [Nat.add_mul, Nat.mul_right_comm (R / 2 ^ (64 * i) / Y)]
    have := h.eq
    omega
  · rw [hle]
    have h4 := Nat.mod_lt (R / 2 ^ (64 * i)) hY
    have h5 := Nat.mod_lt R hP
    generalize R / 2 ^ (64 * i) % Y = a at *
    generalize R % 2 ^ (64 * i) = b at *
    calc a * 2 ^ (64 * i) + b < a * 2 ^ (64 * i) + 2 ^ (64 * i) := by omega
      _ = (a + 1) * 2 ^ (64 * i) := by rw [Nat.add_mul, Nat.one_mul]
      _ ≤ Y * 2 ^ (64 * i) := Nat.mul_le_mul_right _ (by omega)
  · refine Nat.dvd_add (Nat.dvd_trans ?_ h.dv) (Nat.dvd_mul_left _ _)
    exact Nat.pow_dvd_pow 2 (by omega)

/-- A digit laid into the quotient. -/
theorem cells8_put (Q d i : Nat) (hi : i < 8) (hd : d < 18446744073709551616) (hQ : 2 ^ (64 * (i + 1)) ∣ Q) : (cells8 Q).setIfInBounds i (.int .u64 (d : Int)) = cells8 (Q + d * 2 ^ (64 * i)) := by
  obtain ⟨t, rfl⟩ := hQ
  apply Array.ext_getElem?
  intro j
  rw [Array.getElem?_setIfInBounds]
  by_cases h8 : j < 8
  · rw [cells8_get _ _ h8]
    have key : lm (2 ^ (64 * (i + 1)) * t + d * 2 ^ (64 * i)) j = if i = j then (d : Int) else lm (2 ^ (64 * (i + 1)) * t) j := by
      have hP : 0 < 2 ^ (64 * i) := Nat.pow_pos (by decide)
      unfold lm
      by_cases e : i = j
      · subst e
        rw [if_pos rfl, pow_step, Nat.mul_assoc, Nat.mul_comm d, ← Nat.mul_add, Nat.mul_div_cancel_left _ hP]
        omega
      · rw [if_neg e]
        rcases Nat.lt_or_ge j i with hlt | hge
        · -- below: both 0
          have e1 : 2 ^ (64 * i) = 2 ^ (64 * j) * (18446744073709551616 * 2 ^ (64 * (i - j - 1))) := by
            rw [show (18446744073709551616 : Nat) = 2 ^ 64 by decide, ← Nat.pow_add, ← Nat.pow_add]; congr 1; omega
          have hJ : 0 < 2 ^ (64 * j) := Nat.pow_pos (by decide)
          rw [pow_step, e1]
          generalize 2 ^ (64 * (i - j - 1)) = z
          generalize 2 ^ (64 * j) = J at *
          rw [show J * (18446744073709551616 * z) * 18446744073709551616 * t = J * (18446744073709551616 * (z * 18446744073709551616 * t)) by simp only [Nat.mul_assoc],
            show d * (J * (18446744073709551616 * z)) = J * (18446744073709551616 * (d * z)) by rw [Nat.mul_left_comm, Nat.mul_left_comm d],
            ← Nat.mul_add, Nat.mul_div_cancel_left _ hJ, Nat.mul_div_cancel_left _ hJ, ← Nat.mul_add, Nat.mul_mod_right, Nat.mul_mod_right]
        · -- above: d does not reach
          have e1 : 2 ^ (64 * j) = 2 ^ (64 * (i + 1)) * 2 ^ (64 * (j - i - 1)) := by rw [← Nat.pow_add]; congr 1; omega
          have hI : 0 < 2 ^ (64 * (i + 1)) := Nat.pow_pos (by decide)
          rw [e1, ← Nat.div_div_eq_div_mul, ← Nat.div_div_eq_div_mul, Nat.mul_add_div hI, Nat.mul_div_cancel_left _ hI, Nat.div_eq_of_lt (a := d * 2 ^ (64 * i)), Nat.add_zero]
          rw [pow_step, Nat.mul_comm]
          exact Nat.mul_lt_mul_of_pos_left hd hP
    rw [cells8_get _ _ h8, key]
    by_cases e : i = j
    · subst e; rw [if_pos rfl, if_pos rfl, if_pos (by exact hi)]
    · rw [if_neg e, if_neg e]
  · rw [if_neg (by omega), Array.getElem?_eq_none (by show 8 ≤ j; omega), Array.getElem?_eq_none (by show 8 ≤ j; omega)]

/-- The row behind a digit. -/
theorem row_left (Y i n R : Nat) (hY : Y < 2 ^ (64 * n)) (hY0 : 0 < Y) (hR : R / 2 ^ (64 * i) < 18446744073709551616 * Y) :
    rowF (winF (lm R) i (R / 2 ^ (64 * i) % Y) (n + 1)) 9 = rowF (lm (R - R / 2 ^ (64 * i) / Y * Y * 2 ^ (64 * i))) 9 := by
  have hP : 0 < 2 ^ (64 * i) := Nat.pow_pos (by decide)
  rw [left_eq]
  have hz := Nat.mod_lt R hP
  have hV := Nat.mod_lt (R / 2 ^ (64 * i)) hY0
  have hRV := Nat.div_add_mod R (2 ^ (64 * i))
  have hVb : R / 2 ^ (64 * i) < 2 ^ (64 * (n + 1)) := by
    rw [pow_step, Nat.mul_comm (2 ^ (64 * n))]
    exact Nat.lt_trans hR (Nat.mul_lt_mul_of_pos_left hY (by decide))
  apply rowF_congr
  intro p _
  unfold winF
  generalize hv : R / 2 ^ (64 * i) % Y = v at *
  have hvb : v < 2 ^ (64 * (n + 1)) := by
    rw [pow_step]
    generalize 2 ^ (64 * n) = N at *
    omega
  have hdiv : (v * 2 ^ (64 * i) + R % 2 ^ (64 * i)) / 2 ^ (64 * i) = v := by
    rw [Nat.mul_comm, Nat.mul_add_div hP, Nat.div_eq_of_lt hz, Nat.add_zero]
  by_cases h1 : i ≤ p ∧ p < i + (n + 1)
  · rw [if_pos h1]
    have := lm_shift (v * 2 ^ (64 * i) + R % 2 ^ (64 * i)) i (p - i)
    rw [hdiv, show i + (p - i) = p by omega] at this
    exact this
  · rw [if_neg h1]
    rcases Nat.lt_or_ge p i with h2 | h2
    · -- below the window
      have : ∀ a b : Nat, a % 2 ^ (64 * i) = b % 2 ^ (64 * i) → lm a p = lm b p := fun a b hab => by
        unfold lm
        have e1 : 2 ^ (64 * i) = 2 ^ (64 * p) * (18446744073709551616 * 2 ^ (64 * (i - p - 1))) := by
          rw [show (18446744073709551616 : Nat) = 2 ^ 64 by decide, ← Nat.pow_add, ← Nat.pow_add]; congr 1; omega
        have hx : ∀ c : Nat, c / 2 ^ (64 * p) % 18446744073709551616 = c % 2 ^ (64 * i) / 2 ^ (64 * p) % 18446744073709551616 := fun c => by
          rw [e1, Nat.mod_mul_right_div_self, Nat.mod_mul_right_mod]
        rw [hx a, hx b, hab]
      apply this
      rw [Nat.mul_comm v, Nat.mul_add_mod, Nat.mod_mod]
    · -- above it
      have : ∀ a : Nat, a / 2 ^ (64 * i) < 2 ^ (64 * (n + 1)) → lm a p = 0 := fun a ha => by
        rw [show p = i + (p - i) by omega, ← lm_shift]
        unfold lm
        rw [Nat.div_eq_of_lt (Nat.lt_of_lt_of_le ha (pow64_le (by omega)))]
        rfl
      rw [this R hVb, this _ (by rw [hdiv]; exact hvb)]

end Go.Proofs.YtnemedgdhojhdaaGreat
