/- The law FixOrder. -/
import Derived.Test.YtlekbhdchkdnnaaGreatDoorFh
namespace Go.Proofs.YtlekbhdchkdnnaaGreatDoor
open Go.RowKit
set_option maxRecDepth 4000
set_option linter.unusedVariables false

theorem rt_nn (x : Int) : 0 ≤ rt x := by unfold rt; omega
theorem rt_mono {x y : Int} (h0 : 0 ≤ x) (h : x ≤ y) : rt x ≤ rt y := by
  obtain ⟨a1, _, a3⟩ := isq_sq x h0
  obtain ⟨_, b2, b3⟩ := isq_sq y (by omega)
  rcases Int.lt_or_le (rt y) (rt x) with hc | hc
  · have h1 : (rt y + 1) * (rt y + 1) ≤ rt x * rt x := Int.mul_le_mul (by omega) (by omega) (by omega) (by omega)
    omega
  · exact hc
theorem upN_le (z : Int) (b : Bool) : z ≤ upN z b ∧ upN z b ≤ z + 1 := by
  unfold upN
  cases b
  · exact ⟨by show z ≤ z + 1; omega, Int.le_refl _⟩
  · exact ⟨Int.le_refl _, by show z ≤ z + 1; omega⟩
theorem rtU_mono {x y : Int} (h0 : 0 ≤ x) (h : x ≤ y) : upN (rt x) (decide (rt x * rt x = x)) ≤ upN (rt y) (decide (rt y * rt y = y)) := by
  have hm := rt_mono h0 h
  have h1 := upN_le (rt x) (decide (rt x * rt x = x))
  have h2 := upN_le (rt y) (decide (rt y * rt y = y))
  rcases Int.lt_or_le (rt x) (rt y) with hc | hc
  · omega
  · have e : rt x = rt y := by omega
    obtain ⟨a1, _, _⟩ := isq_sq x h0
    by_cases hy : rt y * rt y = y
    · have hx : rt x * rt x = x := by rw [e] at a1 ⊢; omega
      rw [decide_eq_true hx, decide_eq_true hy, e]
      exact Int.le_refl _
    · rw [decide_eq_false hy, e]
      have := (upN_le (rt y) (decide (rt y * rt y = x))).2
      exact this
theorem sqD_mono {x y : Int} (h : x ≤ y) : sqD x ≤ sqD y := by
  unfold sqD
  by_cases hx : x < 0
  · rw [if_pos hx]
    split
    · exact Int.le_refl _
    · have := cl_mono (rt_nn (y * 4294967296))
      rw [cl_self ⟨by decide, by decide⟩] at this
      exact this
  · rw [if_neg hx, if_neg (by omega)]
    exact cl_mono (rt_mono (by omega) (by omega))
theorem sqU_mono {x y : Int} (h : x ≤ y) : sqU x ≤ sqU y := by
  unfold sqU
  by_cases hx : x < 0
  · rw [if_pos hx]
    split
    · exact Int.le_refl _
    · have := cl_mono (Int.le_trans (rt_nn (y * 4294967296)) (upN_le (rt (y * 4294967296)) (decide (rt (y * 4294967296) * rt (y * 4294967296) = y * 4294967296))).1)
      rw [cl_self ⟨by decide, by decide⟩] at this
      exact this
  · rw [if_neg hx, if_neg (by omega)]
    exact cl_mono (rtU_mono (by omega) (by omega))
theorem up_neg (z c : Int) (hc : 0 < c) : upN (z / c) (decide (z % c = 0)) = -(-z / c) := by
  have h1 := Int.emod_add_mul_ediv z c
  have h2 := Int.emod_nonneg z (show c ≠ 0 by omega)
  have h3 := Int.emod_lt_of_pos z hc
  generalize z % c = r at *
  generalize z / c = q at *
  by_cases hr : r = 0
  · rw [decide_eq_true hr]
    have e : -z = 0 + c * (-q) := by rw [Int.mul_neg]; omega
    rw [e, Int.add_mul_ediv_left _ _ (by omega), Int.zero_ediv]
    show q = _
    omega
  · rw [decide_eq_false hr]
    have e : -z = (c - r) + c * (-q - 1) := by rw [Int.mul_sub, Int.mul_neg, Int.mul_one]; omega
    rw [e, Int.add_mul_ediv_left _ _ (by omega), Int.ediv_eq_zero_of_lt (by omega) (by omega)]
    show q + 1 = _
    omega
theorem upq_mono {x y c : Int} (hc : 0 < c) (h : x ≤ y) : upN (x / c) (decide (x % c = 0)) ≤ upN (y / c) (decide (y % c = 0)) := by
  rw [up_neg x c hc, up_neg y c hc]
  have := Int.ediv_le_ediv hc (show -y ≤ -x by omega)
  omega
theorem divD_pos {x c : Int} (hc : 0 < c) : divD x c = cl (x * 4294967296 / c) := by
  unfold divD
  rw [Int.fdiv_eq_ediv_of_nonneg _ (by omega)]
  split
  · rename_i h
    rw [h, Int.zero_mul, Int.zero_ediv]
    exact (cl_self ⟨by decide, by decide⟩).symm
  · rw [if_neg (by omega)]
theorem divU_pos {x c : Int} (hc : 0 < c) : divU x c = cl (upN (x * 4294967296 / c) (decide (x * 4294967296 % c = 0))) := by
  unfold divU
  rw [Int.fdiv_eq_ediv_of_nonneg _ (by omega), Int.fmod_eq_emod_of_nonneg _ (by omega)]
  split
  · rename_i h
    rw [h, Int.zero_mul, Int.zero_ediv, Int.zero_emod]
    exact (cl_self ⟨by decide, by decide⟩).symm
  · rw [if_neg (by omega)]

set_option maxHeartbeats 2000000 in
theorem order_core (a b c x y ax ay sx sy ux uy fx fy mx my nx ny dx dy ex ey : Int) (A B : Bool) (w : World) (hx : min a b = x) (hy : max a b = y) (hA : decide (0 ≤ c) = A) (hB : decide (c ≤ 0) = B)
    (h1 : decide (ay < ax) = false) (h2 : decide (sy < sx) = false) (h3 : decide (uy < ux) = false) (h4 : decide (fy < fx) = false) (h5 : A = true → decide (my < mx) = false) (h6 : A = true → decide (ny < nx) = false)
    (h7 : B = false → decide (dx ≤ dy) = true) (h8 : B = false → decide (ex ≤ ey) = true)
    (a1 : Hid (Ans 17 #[.int .i64 x, .int .i64 c] (.int .i64 ax))) (a2 : Hid (Ans 17 #[.int .i64 y, .int .i64 c] (.int .i64 ay)))
    (s1 : Hid (Ans 28 #[.int .i64 x] (.int .i64 sx))) (s2 : Hid (Ans 28 #[.int .i64 y] (.int .i64 sy)))
    (u1 : Hid (Ans 30 #[.int .i64 x] (.int .i64 ux))) (u2 : Hid (Ans 30 #[.int .i64 y] (.int .i64 uy)))
    (f1 : Hid (Ans 35 #[.int .i64 x] (.int .i64 fx))) (f2 : Hid (Ans 35 #[.int .i64 y] (.int .i64 fy)))
    (m1 : Hid (Ans 22 #[.int .i64 x, .int .i64 c] (.int .i64 mx))) (m2 : Hid (Ans 22 #[.int .i64 y, .int .i64 c] (.int .i64 my)))
    (n1 : Hid (Ans 24 #[.int .i64 x, .int .i64 c] (.int .i64 nx))) (n2 : Hid (Ans 24 #[.int .i64 y, .int .i64 c] (.int .i64 ny)))
    (d1 : Hid (Ans 25 #[.int .i64 x, .int .i64 c] (.int .i64 dx))) (d2 : Hid (Ans 25 #[.int .i64 y, .int .i64 c] (.int .i64 dy)))
    (e1 : Hid (Ans 27 #[.int .i64 x, .int .i64 c] (.int .i64 ex))) (e2 : Hid (Ans 27 #[.int .i64 y, .int .i64 c] (.int .i64 ey)))
    (hAw : Hid (Ans 21 #[] (.bool true))) :
    Calls Tryz.prog 11 #[.int .i64 a, .int .i64 b, .int .i64 c] w fun e w' => e = .returned (.bool true) ∧ Below w.heap.size w w' := by
  have D := hide (Env.start w)
  go_enter Tryz.func11, Tryz.ntmps11
  cases A
  case' true => have h5 := h5 rfl; have h6 := h6 rfl
  all_goals cases B
  case' false.false => have h7 := h7 rfl; have h8 := h8 rfl
  case' true.false => have h7 := h7 rfl; have h8 := h8 rfl
  all_goals (
    go_wp2_with (first | (go_at_call 17; with_reducible refine (unhide a1 _).mono ?_; rintro e w' ⟨he, hb⟩; subst he; have D := hide ((unhide D).keep hb); clear hb) | (go_at_call 17; with_reducible refine (unhide a2 _).mono ?_; rintro e w' ⟨he, hb⟩; subst he; have D := hide ((unhide D).keep hb); clear hb) | (go_at_call 28; with_reducible refine (unhide s1 _).mono ?_; rintro e w' ⟨he, hb⟩; subst he; have D := hide ((unhide D).keep hb); clear hb) | (go_at_call 28; with_reducible refine (unhide s2 _).mono ?_; rintro e w' ⟨he, hb⟩; subst he; have D := hide ((unhide D).keep hb); clear hb) | (go_at_call 30; with_reducible refine (unhide u1 _).mono ?_; rintro e w' ⟨he, hb⟩; subst he; have D := hide ((unhide D).keep hb); clear hb) | (go_at_call 30; with_reducible refine (unhide u2 _).mono ?_; rintro e w' ⟨he, hb⟩; subst he; have D := hide ((unhide D).keep hb); clear hb) | (go_at_call 35; with_reducible refine (unhide f1 _).mono ?_; rintro e w' ⟨he, hb⟩; subst he; have D := hide ((unhide D).keep hb); clear hb) | (go_at_call 35; with_reducible refine (unhide f2 _).mono ?_; rintro e w' ⟨he, hb⟩; subst he; have D := hide ((unhide D).keep hb); clear hb) | (go_at_call 22; with_reducible refine (unhide m1 _).mono ?_; rintro e w' ⟨he, hb⟩; subst he; have D := hide ((unhide D).keep hb); clear hb) | (go_at_call 22; with_reducible refine (unhide m2 _).mono ?_; rintro e w' ⟨he, hb⟩; subst he; have D := hide ((unhide D).keep hb); clear hb) | (go_at_call 24; with_reducible refine (unhide n1 _).mono ?_; rintro e w' ⟨he, hb⟩; subst he; have D := hide ((unhide D).keep hb); clear hb) | (go_at_call 24; with_reducible refine (unhide n2 _).mono ?_; rintro e w' ⟨he, hb⟩; subst he; have D := hide ((unhide D).keep hb); clear hb) | (go_at_call 25; with_reducible refine (unhide d1 _).mono ?_; rintro e w' ⟨he, hb⟩; subst he; have D := hide ((unhide D).keep hb); clear hb) | (go_at_call 25; with_reducible refine (unhide d2 _).mono ?_; rintro e w' ⟨he, hb⟩; subst he; have D := hide ((unhide D).keep hb); clear hb) | (go_at_call 27; with_reducible refine (unhide e1 _).mono ?_; rintro e w' ⟨he, hb⟩; subst he; have D := hide ((unhide D).keep hb); clear hb) | (go_at_call 27; with_reducible refine (unhide e2 _).mono ?_; rintro e w' ⟨he, hb⟩; subst he; have D := hide ((unhide D).keep hb); clear hb) | (go_at_call 21; with_reducible refine (unhide hAw _).mono ?_; rintro e w' ⟨he, hb⟩; subst he; have D := hide ((unhide D).keep hb); clear hb))
    go_ret
    exact ⟨rfl, (unhide D).o⟩)

theorem not_lt_dec {x y : Int} (h : x ≤ y) : decide (y < x) = false := decide_eq_false (by omega)
theorem fixOrder_walk (a b c : Int) (ha : (Lit.int .i64 a).wf = true) (hb : (Lit.int .i64 b).wf = true) (hc : (Lit.int .i64 c).wf = true) (w : World) : Calls Tryz.prog 11 #[.int .i64 a, .int .i64 b, .int .i64 c] w fun e w' => e = .returned (.bool true) ∧ Below w.heap.size w w' := by
  have ha := I64.wf ha
  have hb := I64.wf hb
  have hc := I64.wf hc
  have hx : I64 (min a b) := by unfold I64 at *; omega
  have hy : I64 (max a b) := by unfold I64 at *; omega
  have hxy : min a b ≤ max a b := by omega
  refine order_core a b c (min a b) (max a b) _ _ _ _ _ _ _ _ _ _ _ _ _ _ _ _ _ _ w rfl rfl rfl rfl (not_lt_dec (cl_mono ?_)) (not_lt_dec (sqD_mono hxy)) (not_lt_dec (sqU_mono hxy)) (not_lt_dec (Int.ediv_le_ediv (by decide) hxy)) (fun h => not_lt_dec ?_) (fun h => not_lt_dec ?_) (fun h => decide_eq_true ?_) (fun h => decide_eq_true ?_)
    (FixAddZ _ c hx hc) (FixAddZ _ c hy hc) (FixSqrtZ _ hx) (FixSqrtZ _ hy) (FixSqrtUpZ _ hx) (FixSqrtUpZ _ hy) (FloorZ _ hx) (FloorZ _ hy) (FixMulZ _ c hx hc) (FixMulZ _ c hy hc) (FixMulUpZ _ c hx hc) (FixMulUpZ _ c hy hc) (FixDivZ _ c hx hc) (FixDivZ _ c hy hc) (FixDivUpZ _ c hx hc) (FixDivUpZ _ c hy hc) awake2
  · omega
  · have h := of_decide_eq_true h
    exact cl_mono (Int.ediv_le_ediv (by decide) (Int.mul_le_mul_of_nonneg_right hxy h))
  · have h := of_decide_eq_true h
    exact cl_mono (upq_mono (by decide) (Int.mul_le_mul_of_nonneg_right hxy h))
  · have h := of_decide_eq_false h
    rw [divD_pos (by omega), divD_pos (by omega)]
    exact cl_mono (Int.ediv_le_ediv (by omega) (by omega))
  · have h := of_decide_eq_false h
    rw [divU_pos (by omega), divU_pos (by omega)]
    exact cl_mono (upq_mono (by omega) (by omega))

end Go.Proofs.YtlekbhdchkdnnaaGreatDoor
