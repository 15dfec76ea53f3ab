/- The law FixRoot. -/
import Derived.Test.YtlekbhdchkdnnaaGreatDoorFj
namespace Go.Proofs.YtlekbhdchkdnnaaGreatDoor
open Go.RowKit
set_option maxRecDepth 4000
set_option linter.unusedVariables false

theorem wides_core (a b : Nat) (x : Int) (E : Bool) (w : World) (hO : Hid (Ans 42 #[.int .i64 x] (.agg (cells8 a)))) (hS : Hid (Ans 64 #[.agg (cells8 a), .int .i64 32] (.tuple #[.agg (cells8 b), .bool E]))) :
    Calls Tryz.prog 44 #[.int .i64 x] w fun e w' => e = .returned (.agg (cells8 b)) ∧ Below w.heap.size w w' := by
  go_enter Tryz.func44, Tryz.ntmps44
  go_upto_region 1 with fail
  have D := hide (Env.start w).zero
  go_wp2_with (first | (with_reducible refine at_list ?_; apply ldE (unhide D) _ rfl rfl rfl (by repeat (first | exact List.mem_cons_self | apply List.mem_cons_of_mem))) | (with_reducible refine at_list ?_; refine stE (unhide D) _ _ rfl rfl rfl rfl rfl ?_; intro D'; have D := hide D'; clear D') | (go_at_call 42; with_reducible refine (unhide hO _).mono ?_; rintro e w' ⟨he, hb⟩; subst he; have D := hide ((unhide D).keep hb); clear hb) | (go_at_call 64; with_reducible refine (unhide hS _).mono ?_; rintro e w' ⟨he, hb⟩; subst he; have D := hide ((unhide D).keep hb); clear hb) | (with_reducible refine at_list ?_;  apply stEnd (unhide D) _ _ rfl rfl rfl rfl (by repeat (first | exact List.mem_cons_self | apply List.mem_cons_of_mem)) (by omega); intro B O))
  exact res8 (unhide B) rfl rfl rfl Tryz.underlying35 rfl iWide ⟨rfl, unhide O⟩
theorem WidesZ (x : Int) (hx : I64 x) : Ans 44 #[.int .i64 x] (V (x * 4294967296)) := fun w =>
  wides_core (enc x) _ x true w (fun u => OfZ x hx.1 hx.2 u) (shl_told x 32 hx.fit (by decide) ((hx.sz.mul (Sz.pow 32)).fit (by decide)))

theorem root_below (a : Int) (w : World) (h : a < 0) (h1 : Hid (Ans 28 #[.int .i64 a] (.int .i64 0))) (h2 : Hid (Ans 30 #[.int .i64 a] (.int .i64 0))) (hAw : Hid (Ans 21 #[] (.bool true))) :
    Calls Tryz.prog 10 #[.int .i64 a] w fun e w' => e = .returned (.bool true) ∧ Below w.heap.size w w' := by
  have D := hide (Env.start w)
  go_enter Tryz.func10, Tryz.ntmps10
  go_wp2_with (first | (go_at_call 28; with_reducible refine (unhide h1 _).mono ?_; rintro e w' ⟨he, hb⟩; subst he; have D := hide ((unhide D).keep hb); clear hb) | (go_at_call 30; with_reducible refine (unhide h2 _).mono ?_; rintro e w' ⟨he, hb⟩; subst he; have D := hide ((unhide D).keep hb); clear hb) | (go_at_call 21; with_reducible refine (unhide hAw _).mono ?_; rintro e w' ⟨he, hb⟩; subst he; have D := hide ((unhide D).keep hb); clear hb))
  go_ret
  exact ⟨rfl, (unhide D).o⟩
set_option maxHeartbeats 2000000 in
theorem root_core2 (a r s c1 c2 : Int) (R P R1 Q N : Nat) (E : Bool) (w : World) (h : ¬ a < 0) (hk : wrap64 (r + 1) = r + 1) (hE : Hid (same P N = E)) (hT : E = true → s = r) (hN : E = false → s = r + 1) (hc1 : decide (c1 ≤ 0) = true) (hc2 : decide (0 < c2) = true)
    (h1 : Hid (Ans 28 #[.int .i64 a] (.int .i64 r))) (h2 : Hid (Ans 30 #[.int .i64 a] (.int .i64 s)))
    (o1 : Hid (Ans 42 #[.int .i64 r] (.agg (cells8 R)))) (m1 : Hid (Ans 41 #[.agg (cells8 R), .agg (cells8 R)] (.tuple #[.agg (cells8 P), .bool true])))
    (o2 : Hid (Ans 42 #[.int .i64 (r + 1)] (.agg (cells8 R1)))) (m2 : Hid (Ans 41 #[.agg (cells8 R1), .agg (cells8 R1)] (.tuple #[.agg (cells8 Q), .bool true])))
    (hW : Hid (Ans 44 #[.int .i64 a] (.agg (cells8 N)))) (k1 : Hid (Ans 45 #[.agg (cells8 P), .agg (cells8 N)] (.int .i64 c1))) (k2 : Hid (Ans 45 #[.agg (cells8 Q), .agg (cells8 N)] (.int .i64 c2)))
    (hAw : Hid (Ans 21 #[] (.bool true))) :
    Calls Tryz.prog 10 #[.int .i64 a] w fun e w' => e = .returned (.bool true) ∧ Below w.heap.size w w' := by
  have D := hide (Env.start w)
  go_enter Tryz.func10, Tryz.ntmps10
  cases E
  · obtain rfl : s = r + 1 := hN rfl
    have e1 : (r == r + 1) = false := by simp; omega
    have e2 : decide (r = r + 1) = false := by simp; omega
    clear hT hN
    go_wp2_with (first | (with_reducible refine at_list ?_; apply ldE (unhide D) _ rfl rfl rfl (by repeat (first | exact List.mem_cons_self | apply List.mem_cons_of_mem))) | (with_reducible refine at_list ?_; apply ldEw (unhide D) _ rfl rfl rfl (by repeat (first | exact List.mem_cons_self | apply List.mem_cons_of_mem))) | (with_reducible refine at_list ?_; refine stE (unhide D) _ _ rfl rfl rfl rfl rfl ?_; intro D'; have D := hide D'; clear D') | (go_at_call 28; with_reducible refine (unhide h1 _).mono ?_; rintro e w' ⟨he, hb⟩; subst he; have D := hide ((unhide D).keep hb); clear hb) | (go_at_call 30; with_reducible refine (unhide h2 _).mono ?_; rintro e w' ⟨he, hb⟩; subst he; have D := hide ((unhide D).keep hb); clear hb) | (go_at_call 42; with_reducible refine (unhide o1 _).mono ?_; rintro e w' ⟨he, hb⟩; subst he; have D := hide ((unhide D).keep hb); clear hb) | (go_at_call 42; with_reducible refine (unhide o2 _).mono ?_; rintro e w' ⟨he, hb⟩; subst he; have D := hide ((unhide D).keep hb); clear hb) | (go_at_call 41; with_reducible refine (unhide m1 _).mono ?_; rintro e w' ⟨he, hb⟩; subst he; have D := hide ((unhide D).keep hb); clear hb) | (go_at_call 41; with_reducible refine (unhide m2 _).mono ?_; rintro e w' ⟨he, hb⟩; subst he; have D := hide ((unhide D).keep hb); clear hb) | (go_at_call 44; with_reducible refine (unhide hW _).mono ?_; rintro e w' ⟨he, hb⟩; subst he; have D := hide ((unhide D).keep hb); clear hb) | (go_at_call 45; with_reducible refine (unhide k1 _).mono ?_; rintro e w' ⟨he, hb⟩; subst he; have D := hide ((unhide D).keep hb); clear hb) | (go_at_call 45; with_reducible refine (unhide k2 _).mono ?_; rintro e w' ⟨he, hb⟩; subst he; have D := hide ((unhide D).keep hb); clear hb) | (with_reducible refine at_list ?_; refine eqlEw (unhide hE) _ _ rfl rfl rfl rfl ?_) | (go_at_call 21; with_reducible refine (unhide hAw _).mono ?_; rintro e w' ⟨he, hb⟩; subst he; have D := hide ((unhide D).keep hb); clear hb))
    go_ret
    exact ⟨rfl, (unhide D).o⟩
  · obtain rfl : s = r := hT rfl
    clear hT hN
    go_wp2_with (first | (with_reducible refine at_list ?_; apply ldE (unhide D) _ rfl rfl rfl (by repeat (first | exact List.mem_cons_self | apply List.mem_cons_of_mem))) | (with_reducible refine at_list ?_; apply ldEw (unhide D) _ rfl rfl rfl (by repeat (first | exact List.mem_cons_self | apply List.mem_cons_of_mem))) | (with_reducible refine at_list ?_; refine stE (unhide D) _ _ rfl rfl rfl rfl rfl ?_; intro D'; have D := hide D'; clear D') | (go_at_call 28; with_reducible refine (unhide h1 _).mono ?_; rintro e w' ⟨he, hb⟩; subst he; have D := hide ((unhide D).keep hb); clear hb) | (go_at_call 30; with_reducible refine (unhide h2 _).mono ?_; rintro e w' ⟨he, hb⟩; subst he; have D := hide ((unhide D).keep hb); clear hb) | (go_at_call 42; with_reducible refine (unhide o1 _).mono ?_; rintro e w' ⟨he, hb⟩; subst he; have D := hide ((unhide D).keep hb); clear hb) | (go_at_call 42; with_reducible refine (unhide o2 _).mono ?_; rintro e w' ⟨he, hb⟩; subst he; have D := hide ((unhide D).keep hb); clear hb) | (go_at_call 41; with_reducible refine (unhide m1 _).mono ?_; rintro e w' ⟨he, hb⟩; subst he; have D := hide ((unhide D).keep hb); clear hb) | (go_at_call 41; with_reducible refine (unhide m2 _).mono ?_; rintro e w' ⟨he, hb⟩; subst he; have D := hide ((unhide D).keep hb); clear hb) | (go_at_call 44; with_reducible refine (unhide hW _).mono ?_; rintro e w' ⟨he, hb⟩; subst he; have D := hide ((unhide D).keep hb); clear hb) | (go_at_call 45; with_reducible refine (unhide k1 _).mono ?_; rintro e w' ⟨he, hb⟩; subst he; have D := hide ((unhide D).keep hb); clear hb) | (go_at_call 45; with_reducible refine (unhide k2 _).mono ?_; rintro e w' ⟨he, hb⟩; subst he; have D := hide ((unhide D).keep hb); clear hb) | (with_reducible refine at_list ?_; refine eqlEw (unhide hE) _ _ rfl rfl rfl rfl ?_) | (go_at_call 21; with_reducible refine (unhide hAw _).mono ?_; rintro e w' ⟨he, hb⟩; subst he; have D := hide ((unhide D).keep hb); clear hb))
    go_ret
    exact ⟨rfl, (unhide D).o⟩

theorem cmpI_le {x y : Int} (h : x ≤ y) : decide (cmpI x y ≤ 0) = true := by
  unfold cmpI
  apply decide_eq_true
  split
  · decide
  · rw [if_neg (by omega)]
    decide
theorem cmpI_gt {x y : Int} (h : y < x) : decide (0 < cmpI x y) = true := by
  unfold cmpI
  apply decide_eq_true
  rw [if_neg (by omega), if_pos (by omega)]
  decide
theorem CmpS {j k : Nat} {x y : Int} (hx : Sz j x) (hy : Sz k y) (hj : j ≤ 510) (hk : k ≤ 510) : Ans 45 #[V x, V y] (.int .i64 (cmpI x y)) := fun u => CmpZ x y (hx.fit hj) (hy.fit hk) u
theorem rt_small {a : Int} (h : I64 a) : rt (a * 4294967296) < 4611686018427387904 := by
  rcases Int.lt_or_le a 0 with h0 | h0
  · unfold rt
    rw [show (a * 4294967296).toNat = 0 by omega]
    decide
  · obtain ⟨r1, _, r3⟩ := isq_sq (a * 4294967296) (by omega)
    rcases Int.lt_or_le (rt (a * 4294967296)) 4611686018427387904 with hc | hc
    · exact hc
    · have h2 : 4611686018427387904 * 4611686018427387904 ≤ rt (a * 4294967296) * rt (a * 4294967296) := Int.mul_le_mul hc hc (by decide) (by omega)
      unfold I64 at h
      omega
theorem fixRoot_walk (a : Int) (ha : (Lit.int .i64 a).wf = true) (w : World) : Calls Tryz.prog 10 #[.int .i64 a] w fun e w' => e = .returned (.bool true) ∧ Below w.heap.size w w' := by
  have ha := I64.wf ha
  have s1 := FixSqrtZ a ha
  have s2 := FixSqrtUpZ a ha
  unfold sqD at s1
  unfold sqU at s2
  by_cases h : a < 0
  · rw [if_pos h] at s1 s2
    exact root_below a w h s1 s2 awake2
  · rw [if_neg h] at s1 s2
    have hX : 0 ≤ a * 4294967296 := by omega
    obtain ⟨r1, r2, r3⟩ := isq_sq (a * 4294967296) hX
    have hs := rt_small ha
    have sX := raise_sz ha
    have hr : I64 (rt (a * 4294967296)) := ⟨by omega, by omega⟩
    have hr1 : I64 (rt (a * 4294967296) + 1) := ⟨by omega, by omega⟩
    have hu : cl (upN (rt (a * 4294967296)) (decide (rt (a * 4294967296) * rt (a * 4294967296) = a * 4294967296))) = upN (rt (a * 4294967296)) (decide (rt (a * 4294967296) * rt (a * 4294967296) = a * 4294967296)) := by
      have := upN_le (rt (a * 4294967296)) (decide (rt (a * 4294967296) * rt (a * 4294967296) = a * 4294967296))
      exact cl_self ⟨by omega, by omega⟩
    rw [cl_self hr] at s1
    rw [hu] at s2
    have mp := mul_told _ _ hr.sz hr.sz (by decide)
    have mq := mul_told _ _ hr1.sz hr1.sz (by decide)
    generalize hR : rt (a * 4294967296) = r at *
    refine root_core2 a r _ _ _ (enc r) (enc (r * r)) (enc (r + 1)) (enc ((r + 1) * (r + 1))) (enc (a * 4294967296)) _ w h (wrap_self hr1) (same_enc ((hr.sz.mul hr.sz).fit (by decide)) (sX.fit (by decide))) (fun hT => ?_) (fun hN => ?_) (cmpI_le r1) (cmpI_gt r2) s1 s2
      (fun u => OfZ r hr.1 hr.2 u) mp (fun u => OfZ (r + 1) hr1.1 hr1.2 u) mq (WidesZ a ha) (CmpS (hr.sz.mul hr.sz) sX (by decide) (by decide)) (CmpS (hr1.sz.mul hr1.sz) sX (by decide) (by decide)) awake2
    · rw [hT]; rfl
    · rw [hN]; rfl

end Go.Proofs.YtlekbhdchkdnnaaGreatDoor
