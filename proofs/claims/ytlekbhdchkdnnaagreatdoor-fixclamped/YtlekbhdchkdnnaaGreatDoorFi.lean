/- The laws FixClamped, FixWhole. -/
import Derived.Test.YtlekbhdchkdnnaaGreatDoorFh
namespace Go.Proofs.YtlekbhdchkdnnaaGreatDoor
open Go.RowKit
set_option maxRecDepth 4000
set_option linter.unusedVariables false

theorem clamp_mid {a l h : Int} (hl : l ≤ h) : l ≤ clamp a l h ∧ clamp a l h ≤ h ∧ (l ≤ a → a ≤ h → clamp a l h = a) := by
  unfold clamp
  split
  · exact ⟨by omega, by omega, fun _ _ => by omega⟩
  · split
    · exact ⟨by omega, by omega, fun _ _ => by omega⟩
    · exact ⟨by omega, by omega, fun _ _ => rfl⟩
set_option maxHeartbeats 1000000 in
theorem clamped_core (a b c l h x : Int) (A B : Bool) (w : World) (hmin : min b c = l) (hmax : max b c = h)
    (hA : decide (a < l) = A) (hB : decide (h < a) = B) (h1 : decide (l ≤ x) = true) (h2 : decide (x ≤ h) = true) (h3 : A = false → B = false → x = a)
    (hC : Hid (Ans 33 #[.int .i64 a, .int .i64 l, .int .i64 h] (.int .i64 x))) (hD : Hid (Ans 33 #[.int .i64 x, .int .i64 l, .int .i64 h] (.int .i64 x))) (hAw : Hid (Ans 21 #[] (.bool true))) :
    Calls Tryz.prog 14 #[.int .i64 a, .int .i64 b, .int .i64 c] w fun e w' => e = .returned (.bool true) ∧ Below w.heap.size w w' := by
  have D := hide (Env.start w)
  go_enter Tryz.func14, Tryz.ntmps14
  cases A
  · cases B
    · obtain rfl : x = a := h3 rfl rfl
      go_wp2_with (first | (go_at_call 33; with_reducible refine (unhide hC _).mono ?_; rintro e w' ⟨he, hb⟩; subst he; have D := hide ((unhide D).keep hb); clear hb) | (go_at_call 21; with_reducible refine (unhide hAw _).mono ?_; rintro e w' ⟨he, hb⟩; subst he; have D := hide ((unhide D).keep hb); clear hb))
      go_ret
      exact ⟨rfl, (unhide D).o⟩
    · go_wp2_with (first | (go_at_call 33; with_reducible refine (unhide hC _).mono ?_; rintro e w' ⟨he, hb⟩; subst he; have D := hide ((unhide D).keep hb); clear hb) | (go_at_call 33; with_reducible refine (unhide hD _).mono ?_; rintro e w' ⟨he, hb⟩; subst he; have D := hide ((unhide D).keep hb); clear hb) | (go_at_call 21; with_reducible refine (unhide hAw _).mono ?_; rintro e w' ⟨he, hb⟩; subst he; have D := hide ((unhide D).keep hb); clear hb))
      go_ret
      exact ⟨rfl, (unhide D).o⟩
  · go_wp2_with (first | (go_at_call 33; with_reducible refine (unhide hC _).mono ?_; rintro e w' ⟨he, hb⟩; subst he; have D := hide ((unhide D).keep hb); clear hb) | (go_at_call 33; with_reducible refine (unhide hD _).mono ?_; rintro e w' ⟨he, hb⟩; subst he; have D := hide ((unhide D).keep hb); clear hb) | (go_at_call 21; with_reducible refine (unhide hAw _).mono ?_; rintro e w' ⟨he, hb⟩; subst he; have D := hide ((unhide D).keep hb); clear hb))
    go_ret
    exact ⟨rfl, (unhide D).o⟩
theorem fixClamped_walk (a b c : Int) (w : World) : Calls Tryz.prog 14 #[.int .i64 a, .int .i64 b, .int .i64 c] w fun e w' => e = .returned (.bool true) ∧ Below w.heap.size w w' := by
  have hl : min b c ≤ max b c := by omega
  obtain ⟨h1, h2, h3⟩ := clamp_mid (a := a) hl
  obtain ⟨_, _, h4⟩ := clamp_mid (a := clamp a (min b c) (max b c)) hl
  have hD := ClampZ (clamp a (min b c) (max b c)) (min b c) (max b c)
  rw [h4 h1 h2] at hD
  exact clamped_core a b c _ _ _ _ _ w rfl rfl rfl rfl (decide_eq_true h1) (decide_eq_true h2) (fun hA hB => h3 (by have := of_decide_eq_false hA; omega) (by have := of_decide_eq_false hB; omega)) (ClampZ a _ _) hD awake2

/-! FixWhole. -/
set_option maxHeartbeats 1000000 in
theorem whole_core (n a k lo hi o : Int) (A B G : Bool) (w : World) (hA : decide (-2147483648 ≤ n) = A) (hB : decide (n < 2147483648) = B) (hk : wrap64 (k + 1) = k + 1)
    (hO : Hid (Ans 15 #[.int .i64 n] (.int .i64 o))) (hFo : Hid (A = true → B = true → Ans 35 #[.int .i64 o] (.int .i64 n)))
    (hF : Hid (Ans 35 #[.int .i64 a] (.int .i64 k))) (hL : Hid (Ans 15 #[.int .i64 k] (.int .i64 lo))) (hH : Hid (Ans 15 #[.int .i64 (k + 1)] (.int .i64 hi)))
    (h1 : decide (lo ≤ a) = true) (hG : decide (a < hi) = G) (hG2 : G = false → hi = 9223372036854775807)
    (c1 : Hid (Ans 22 #[.int .i64 a, .int .i64 4294967296] (.int .i64 a))) (c2 : Hid (Ans 24 #[.int .i64 a, .int .i64 4294967296] (.int .i64 a)))
    (c3 : Hid (Ans 25 #[.int .i64 a, .int .i64 4294967296] (.int .i64 a))) (c4 : Hid (Ans 27 #[.int .i64 a, .int .i64 4294967296] (.int .i64 a)))
    (c5 : Hid (Ans 17 #[.int .i64 a, .int .i64 0] (.int .i64 a))) (hAw : Hid (Ans 21 #[] (.bool true))) :
    Calls Tryz.prog 13 #[.int .i64 n, .int .i64 a] w fun e w' => e = .returned (.bool true) ∧ Below w.heap.size w w' := by
  have D := hide (Env.start w)
  go_enter Tryz.func13, Tryz.ntmps13
  cases A
  case' true => cases B
  case' true.true => have hFn := hide (unhide hFo rfl rfl)
  all_goals cases G
  case' false.false => obtain rfl : hi = 9223372036854775807 := hG2 rfl
  case' true.false.false => obtain rfl : hi = 9223372036854775807 := hG2 rfl
  case' true.true.false => obtain rfl : hi = 9223372036854775807 := hG2 rfl
  all_goals clear hFo
  all_goals (
    go_wp2_with (first | (go_at_call 15; with_reducible refine (unhide hO _).mono ?_; rintro e w' ⟨he, hb⟩; subst he; have D := hide ((unhide D).keep hb); clear hb) | (go_at_call 35; with_reducible refine (unhide hF _).mono ?_; rintro e w' ⟨he, hb⟩; subst he; have D := hide ((unhide D).keep hb); clear hb) | (go_at_call 15; with_reducible refine (unhide hL _).mono ?_; rintro e w' ⟨he, hb⟩; subst he; have D := hide ((unhide D).keep hb); clear hb) | (go_at_call 15; with_reducible refine (unhide hH _).mono ?_; rintro e w' ⟨he, hb⟩; subst he; have D := hide ((unhide D).keep hb); clear hb) | (go_at_call 35; with_reducible refine (unhide hFn _).mono ?_; rintro e w' ⟨he, hb⟩; subst he; have D := hide ((unhide D).keep hb); clear hb) | (go_at_call 22; with_reducible refine (unhide c1 _).mono ?_; rintro e w' ⟨he, hb⟩; subst he; have D := hide ((unhide D).keep hb); clear hb) | (go_at_call 24; with_reducible refine (unhide c2 _).mono ?_; rintro e w' ⟨he, hb⟩; subst he; have D := hide ((unhide D).keep hb); clear hb) | (go_at_call 25; with_reducible refine (unhide c3 _).mono ?_; rintro e w' ⟨he, hb⟩; subst he; have D := hide ((unhide D).keep hb); clear hb) | (go_at_call 27; with_reducible refine (unhide c4 _).mono ?_; rintro e w' ⟨he, hb⟩; subst he; have D := hide ((unhide D).keep hb); clear hb) | (go_at_call 17; with_reducible refine (unhide c5 _).mono ?_; rintro e w' ⟨he, hb⟩; subst he; have D := hide ((unhide D).keep hb); clear hb) | (go_at_call 21; with_reducible refine (unhide hAw _).mono ?_; rintro e w' ⟨he, hb⟩; subst he; have D := hide ((unhide D).keep hb); clear hb))
    go_ret
    exact ⟨rfl, (unhide D).o⟩)

theorem mulD_one {a : Int} (h : I64 a) : mulD a 4294967296 = a := by
  unfold mulD
  rw [Int.mul_ediv_cancel _ (by decide), cl_self h]
theorem mulU_one {a : Int} (h : I64 a) : mulU a 4294967296 = a := by
  unfold mulU
  rw [Int.mul_ediv_cancel _ (by decide), decide_eq_true (show a * 4294967296 % 4294967296 = 0 by omega)]
  exact cl_self h
theorem fdiv_one (a : Int) : (a * 4294967296).fdiv 4294967296 = a ∧ (a * 4294967296).fmod 4294967296 = 0 := by
  have h1 : (a * 4294967296).fdiv 4294967296 = a * 4294967296 / 4294967296 := Int.fdiv_eq_ediv_of_nonneg _ (by decide)
  have h2 : (a * 4294967296).fmod 4294967296 = a * 4294967296 % 4294967296 := Int.fmod_eq_emod_of_nonneg _ (by decide)
  rw [h1, h2]
  omega
theorem divD_one {a : Int} (h : I64 a) : divD a 4294967296 = a := by
  unfold divD
  rw [(fdiv_one a).1]
  split
  · omega
  · rw [if_neg (by decide), cl_self h]
theorem divU_one {a : Int} (h : I64 a) : divU a 4294967296 = a := by
  unfold divU
  rw [(fdiv_one a).1, (fdiv_one a).2]
  split
  · omega
  · rw [if_neg (by decide)]
    exact cl_self h
theorem fixWhole_walk (n a : Int) (hn : (Lit.int .i64 n).wf = true) (ha : (Lit.int .i64 a).wf = true) (w : World) : Calls Tryz.prog 13 #[.int .i64 n, .int .i64 a] w fun e w' => e = .returned (.bool true) ∧ Below w.heap.size w w' := by
  have hn := I64.wf hn
  have ha := I64.wf ha
  obtain ⟨a1, a2⟩ := id ha
  have hk : I64 (a / 4294967296) := ⟨by omega, by omega⟩
  have hk1 : I64 (a / 4294967296 + 1) := ⟨by omega, by omega⟩
  have hlo : cl (a / 4294967296 * 4294967296) = a / 4294967296 * 4294967296 := cl_self ⟨by omega, by omega⟩
  have c1 := FixMulZ a 4294967296 ha ⟨by decide, by decide⟩
  have c2 := FixMulUpZ a 4294967296 ha ⟨by decide, by decide⟩
  have c3 := FixDivZ a 4294967296 ha ⟨by decide, by decide⟩
  have c4 := FixDivUpZ a 4294967296 ha ⟨by decide, by decide⟩
  have c5 := FixAddZ a 0 ha ⟨by decide, by decide⟩
  rw [mulD_one ha] at c1
  rw [mulU_one ha] at c2
  rw [divD_one ha] at c3
  rw [divU_one ha] at c4
  rw [Int.add_zero, cl_self ha] at c5
  refine whole_core n a (a / 4294967296) _ _ _ _ _ _ w rfl rfl (wrap_self hk1) (FixOfZ n hn) (fun h1 h2 => ?_) (FloorZ a ha) (FixOfZ _ hk) (FixOfZ _ hk1) (decide_eq_true ?_) rfl (fun hG => ?_) c1 c2 c3 c4 c5 awake2
  · have h1 := of_decide_eq_true h1
    have h2 := of_decide_eq_true h2
    have k := FloorZ (cl (n * 4294967296)) (cl_I64 _)
    rw [cl_self (show I64 (n * 4294967296) from ⟨by omega, by omega⟩)] at k ⊢
    rw [Int.mul_ediv_cancel _ (by decide)] at k
    exact k
  · rw [hlo]; omega
  · have hG := of_decide_eq_false hG
    by_cases h : I64 ((a / 4294967296 + 1) * 4294967296)
    · rw [cl_self h] at hG
      omega
    · unfold I64 at h
      exact cl_hi (by omega)

end Go.Proofs.YtlekbhdchkdnnaaGreatDoor
