/- The document's Div over integers. -/
import Derived.Test.YtljggjnaolbapaaGreatRu
import Derived.Test.YtljggjnaolbapaaGreatZj
import Derived.Deep.DeepCutAuto
namespace Go.Proofs.YtljggjnaolbapaaGreat
open Go.RowKit
set_option maxRecDepth 4000

theorem lft_nat (m n : Nat) : lft m n 0 = ((m % n : Nat) : Int) := by unfold lft; rw [up_zero, Int.natCast_emod]
theorem qut_nat (m n : Nat) : qut m n 0 = ((m / n : Nat) : Int) := by unfold qut; rw [up_zero, show ((2 ^ 0 : Nat) : Int) = 1 from rfl, Int.mul_one, Int.natCast_ediv]
theorem sgn_zero (x : Int) : sgn x = 0 ↔ x = 0 := by
  unfold sgn
  by_cases h : x < 0
  · rw [if_pos h]; omega
  · rw [if_neg h]
    by_cases h0 : x = 0
    · rw [if_pos h0]; omega
    · rw [if_neg h0]; omega
theorem fin_math (x y : Int) (hy : y ≠ 0) :
    qfin ((decide (x < 0)) != (decide (y < 0))) (sgn (lft x.natAbs y.natAbs 0)) (qut x.natAbs y.natAbs 0) = x.fdiv y ∧ rfin ((decide (x < 0)) != (decide (y < 0))) (decide (y < 0)) (sgn (lft x.natAbs y.natAbs 0)) (lft x.natAbs y.natAbs 0) y.natAbs = x.fmod y := by
  obtain ⟨h1, h2⟩ := div_math x y hy
  rw [← h1, ← h2]
  have hl := Nat.mod_lt x.natAbs (show 0 < y.natAbs by omega)
  have hs := sgn_zero (lft x.natAbs y.natAbs 0)
  rw [lft_nat] at hs ⊢
  rw [qut_nat]
  unfold qfin rfin rone byN leftN more
  generalize x.natAbs / y.natAbs = D at *
  generalize x.natAbs % y.natAbs = R at *
  generalize sgn (R : Int) = s at *
  have e : (decide (x < 0) != decide (y < 0)) = !(decide (x < 0) == decide (y < 0)) := rfl
  rw [e]
  generalize (!(decide (x < 0) == decide (y < 0))) = g
  generalize decide (y < 0) = d
  by_cases hR : R = 0
  · have hs0 : s = 0 := hs.2 (by omega)
    subst hs0 hR
    cases g <;> cases d <;> simp
  · have hs0 : s ≠ 0 := fun hc => hR (by have := hs.1 hc; omega)
    cases g <;> cases d <;> simp [hs0, hR] <;> omega


theorem fmod_fit {x y : Int} (hy : Fit y) (h0 : y ≠ 0) : Fit (x.fmod y) := by
  obtain ⟨_, hr⟩ := div_math x y h0
  have hl := leftN_lt x y h0
  obtain ⟨h1, h2⟩ := hy
  rw [← hr]
  by_cases h : y < 0
  · simp only [h, decide_true, cond_true]; constructor <;> omega
  · simp only [h, decide_false, cond_false]; constructor <;> omega
theorem byN_le (x y : Int) : byN x y ≤ x.natAbs + 1 := by
  have h1 := Nat.div_le_self x.natAbs y.natAbs
  unfold byN
  split <;> omega
theorem fdiv_bd {x y : Int} (hx : Fit x) (h0 : y ≠ 0) : Bd (x.fdiv y) := by
  obtain ⟨hq, _⟩ := div_math x y h0
  have hl := byN_le x y
  have hH : 1000 < (H : Int) := by decide
  obtain ⟨h1, h2⟩ := hx
  rw [← hq]
  unfold Bd
  cases (!(decide (x < 0) == decide (y < 0)))
  · simp only [cond_false]; constructor <;> omega
  · simp only [cond_true]; constructor <;> omega
theorem fit_bd {z : Int} (h : Fit z) : Bd z := by
  obtain ⟨h1, h2⟩ := h
  have hH := HI_pos
  unfold Bd
  constructor <;> omega
theorem blen_512 {z : Int} (hz : Fit z) : blen z.natAbs ≤ 512 := by
  rw [blen_lt]
  have h1 := abs_lt hz
  obtain ⟨e, he, h5⟩ : ∃ e, M = 2 ^ e ∧ e = 512 := ⟨64 * 8, M_pow8, by omega⟩
  rw [he] at h1
  rw [← h5]
  exact h1
theorem abs_520 {z : Int} (hz : Fit z) : z.natAbs < 2 ^ 520 := by
  have h1 := abs_lt hz
  obtain ⟨e, he, h5⟩ : ∃ e, M = 2 ^ e ∧ e = 512 := ⟨64 * 8, M_pow8, by omega⟩
  rw [he] at h1
  obtain ⟨f, hf⟩ : ∃ f, f = 520 := ⟨_, rfl⟩
  rw [← hf]
  exact Nat.lt_of_lt_of_le h1 (Nat.pow_le_pow_right (by decide) (by omega))
theorem of_row {z : Int} (hz : Bd z) (u : World) (p c : Nat) (hr : Row u p 520 (bz z)) :
    Calls Tryz.prog 121 #[sc p 520 c] u fun e w' => e = .returned (.tuple #[.agg (cells8 (fitN z)), .bool (fit z)]) ∧ Below u.heap.size u w' := by
  have b := wide8 H z hz.1 hz.2 HI_pos
  refine (ofZ z 8 520 p 0 c rfl (by decide) b.1 b.2 u (fun k hk => by rw [Nat.zero_add]; exact hr.2 k hk) hr.1).mono fun e w' ⟨he, hb⟩ => ⟨?_, hb⟩
  rw [he, fitN_eq]

theorem refDiv (x y : Int) (hx : Fit x) (hy : Fit y) (h0 : y ≠ 0) (w : World) :
    Calls Tryz.prog 125 #[V x, V y] w fun e w' => e = .returned (.tuple #[.agg (cells8 (bif dq x y then enc (x.fdiv y) else 0)), .agg (cells8 (bif dq x y then enc (x.fmod y) else 0)), .bool (dq x y)]) ∧ Below w.heap.size w w' := by
  have hn : 0 < y.natAbs := by omega
  obtain ⟨f1, f2⟩ := fin_math x y h0
  have hl0 : lft x.natAbs y.natAbs 0 = ((x.natAbs % y.natAbs : Nat) : Int) := lft_nat _ _
  have hml := Nat.mod_lt x.natAbs hn
  have hlf : Fit (lft x.natAbs y.natAbs 0) := by
    obtain ⟨h1, h2⟩ := hy
    rw [hl0]
    constructor <;> omega
  have hfm := fmod_fit (x := x) hy h0
  have hd : dq x y = fit (x.fdiv y) := by unfold dq; simp [h0]
  refine div_bits (enc x) (enc y) _ _ x.natAbs y.natAbs (blen x.natAbs) (blen y.natAbs) (enc (lft x.natAbs y.natAbs 0)) (decide (x < 0)) (decide (y < 0)) _ (sgn (lft x.natAbs y.natAbs 0)) (sgn y) w
    (fun u => refSign y hy u) (fun hc => h0 ((sgn_zero y).1 hc)) (fun u => refSize x hx u) (fun u => refSize y hy u)
    (fun u g hr => top_bits x.natAbs 520 g 0 520 (by decide) (abs_520 hx) u (fun k hk => by rw [Nat.zero_add]; exact hr.2 k hk))
    (fun u g hr => top_bits y.natAbs 520 g 0 520 (by decide) (abs_520 hy) u (fun k hk => by rw [Nat.zero_add]; exact hr.2 k hk))
    (fun u => refBelow x hx u) (fun u => refBelow y hy u) (fun u p c hr => ?_) (fun u => refSign _ hlf u) (fun u p c z hz hr => of_row hz u p c hr) ?_
    (blen_512 hx) (blen_512 hy) hn ((blen_lt _ _).1 (Nat.le_refl _)) ((blen_lt _ _).1 (Nat.le_refl _)) ?_
  · have := of_row (fit_bd hlf) u p c hr
    have e1 : fitN (lft x.natAbs y.natAbs 0) = enc (lft x.natAbs y.natAbs 0) := by unfold fitN; rw [fit_true hlf]; rfl
    rw [e1, fit_true hlf] at this
    exact this
  · show DivOk _ _ _ _ _
    rw [f1, f2]
    refine ⟨fdiv_bd hx h0, fit_bd hfm, fit_true hfm, fun h => ?_, fun h => ?_⟩
    · rw [hd, h]
      unfold fitN
      rw [h, fit_true hfm]
      exact ⟨rfl, rfl, rfl⟩
    · rw [hd, h]
      exact ⟨rfl, rfl, rfl⟩
  · intro k hk
    have hB : ¬ blen y.natAbs ≤ blen y.natAbs - 1 := by
      have : blen y.natAbs ≠ 0 := fun hc => by
        have := (blen_lt y.natAbs 0).1 (by omega)
        simp at this
        omega
      omega
    rw [blen_lt] at hB
    exact start_up ((blen_lt _ _).1 (Nat.le_refl _)) (.inr (by omega)) hn (by
      have : blen y.natAbs ≠ 0 := fun hc => by
        have := (blen_lt y.natAbs 0).1 (by omega)
        simp at this
        omega
      omega) hk

set_option maxHeartbeats 1000000 in
theorem div_none (a b : Nat) (w : World) (hSgb : Hid (∀ u, Calls Tryz.prog 99 #[.agg (cells8 b)] u fun e w' => e = .returned (.int .i64 0) ∧ Below u.heap.size u w')) :
    Calls Tryz.prog 125 #[W a, W b] w fun e w' => e = .returned (.tuple #[.agg (cells8 0), .agg (cells8 0), .bool false]) ∧ Below w.heap.size w w' := by
  unfold W
  go_enter Tryz.func125, Tryz.ntmps125
  go_upto_region 1 with fail
  have D := hide (EnvR.of (Env.four w a b 0 0))
  rw [cells8_0] at D
  go_upto_region 2 with (first
    | (with_reducible refine at_list ?_; apply ldE (unhide D).e _ rfl rfl rfl (by repeat (first | exact List.mem_cons_self | apply List.mem_cons_of_mem)))
    | (go_at_call 99; refine (unhide hSgb _).mono ?_; rintro e w1 ⟨he, hw⟩; subst he; have D := hide ((unhide D).keep hw); clear hw))
  have B4 := hide ((unhide D).e.blk (n := 0) (g := w.heap.size + 1 + 1) (by repeat (first | exact List.mem_cons_self | apply List.mem_cons_of_mem)))
  have B5 := hide ((unhide D).e.blk (n := 0) (g := w.heap.size + 1 + 1 + 1) (by repeat (first | exact List.mem_cons_self | apply List.mem_cons_of_mem)))
  have DO := hide (unhide D).e.o
  clear D
  go_wp2_with (first
    | (with_reducible refine at_list ?_; refine bd0 56 rfl rfl bWide0 ?_)
    | (with_reducible refine at_list ?_; refine st8 (n := 0) 56 (.tmp 4) (.tmp 23) (unhide B4) rfl rfl rfl rfl rfl iWide ?_)
    | (with_reducible refine at_list ?_; refine st8 (n := 0) 56 (.tmp 5) (.tmp 24) ((unhide B5).rowOther _ (by omega)) rfl rfl rfl rfl rfl iWide ?_))
  exact res88s (((unhide B4).row _).rowOther _ (by omega)) (((unhide B5).rowOther _ (by omega)).row _) rfl rfl rfl rfl rfl Tryz.underlying56 rfl iWide ⟨rfl, below_row (below_row (unhide DO) (by omega) _) (by omega) _⟩

theorem refDivZ (x y : Int) (hx : Fit x) (hy : Fit y) (w : World) :
    Calls Tryz.prog 125 #[V x, V y] w fun e w' => e = .returned (.tuple #[.agg (cells8 (bif dq x y then enc (x.fdiv y) else 0)), .agg (cells8 (bif dq x y then enc (x.fmod y) else 0)), .bool (dq x y)]) ∧ Below w.heap.size w w' := by
  by_cases h0 : y = 0
  · have hd : dq x y = false := by unfold dq; simp [h0]
    rw [hd]
    exact div_none (enc x) (enc y) w (fun u => by
      have h := refSign y hy u
      rw [show sgn y = 0 from (sgn_zero y).2 h0] at h
      exact h)
  · exact refDiv x y hx hy h0 w


end Go.Proofs.YtljggjnaolbapaaGreat
