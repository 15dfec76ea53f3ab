/- The document's In, Clamp, Floor; the laws FixSums, FixMul, FixDiv, FixSqrt, FixIn. -/
import Derived.Test.YtlekbhdchkdnnaaGreatDoorFq
namespace Go.Proofs.YtlekbhdchkdnnaaGreatDoor
open Go.RowKit
set_option maxRecDepth 4000
set_option linter.unusedVariables false

/-! In. -/
theorem rin_high (a b : Nat) (s v : Int) (w : World) (hs : 32 ≤ s) (hs2 : wrap64 (s - 32) = s - 32)
    (hR : Hid (Ans 66 #[.agg (cells8 a), .int .i64 (s - 32)] (.agg (cells8 b)))) (hW : Hid (Ans 48 #[.agg (cells8 b)] (.int .i64 v))) :
    Calls Tryz.prog 32 #[W a, .int .i64 s] w fun e w' => e = .returned (.int .i64 v) ∧ Below w.heap.size w w' := by
  have h0 : ¬ s < 0 := by omega
  unfold W
  go_enter Tryz.func32, Tryz.ntmps32
  go_upto_region 1 with fail
  have D := hide (Env.one w a)
  go_wp2_with (first | (with_reducible refine at_list ?_; apply ldE (unhide D) _ rfl rfl rfl (by repeat (first | exact List.mem_cons_self | apply List.mem_cons_of_mem))) | (go_at_call 66; with_reducible refine (unhide hR _).mono ?_; rintro e w' ⟨he, hb⟩; subst he; have D := hide ((unhide D).keep hb); clear hb) | (go_at_call 48; with_reducible refine (unhide hW _).mono ?_; rintro e w' ⟨he, hb⟩; subst he; have D := hide ((unhide D).keep hb); clear hb))
  go_ret
  exact ⟨rfl, (unhide D).o⟩
set_option maxHeartbeats 1000000 in
theorem rin_low (a b : Nat) (s m v : Int) (E c : Bool) (w : World) (hs : ¬ 32 ≤ s) (hm : (if s < 0 then 0 else s) = m) (hm1 : 0 ≤ m) (hm2 : m < 32)
    (hR : Hid (Ans 46 #[.agg (cells8 a), .int .i64 (32 - m)] (.tuple #[.agg (cells8 b), .bool E])))
    (hB : Hid (Ans 67 #[.agg (cells8 a)] (.bool c))) (hW : Hid (Ans 48 #[.agg (cells8 b)] (.int .i64 v))) :
    Calls Tryz.prog 32 #[W a, .int .i64 s] w fun e w' => e = .returned (.int .i64 (bif E then v else lim c)) ∧ Below w.heap.size w w' := by
  unfold W
  go_enter Tryz.func32, Tryz.ntmps32
  go_upto_region 1 with fail
  have D := hide (Env.one w a)
  by_cases h0 : s < 0
  · rw [if_pos h0] at hm
    subst hm
    simp only [Int.sub_zero] at hR
    cases E
    · cases c
      · go_wp2_with (first | (with_reducible refine at_list ?_; apply ldE (unhide D) _ rfl rfl rfl (by repeat (first | exact List.mem_cons_self | apply List.mem_cons_of_mem))) | (with_reducible refine at_list ?_; refine stE (unhide D) _ _ rfl rfl rfl rfl rfl ?_; intro D'; have D := hide D'; clear D') | (go_at_call 46; with_reducible refine (unhide hR _).mono ?_; rintro e w' ⟨he, hb⟩; subst he; have D := hide ((unhide D).keep hb); clear hb) | (go_at_call 67; with_reducible refine (unhide hB _).mono ?_; rintro e w' ⟨he, hb⟩; subst he; have D := hide ((unhide D).keep hb); clear hb))
        go_ret
        exact ⟨rfl, (unhide D).o⟩
      · go_wp2_with (first | (with_reducible refine at_list ?_; apply ldE (unhide D) _ rfl rfl rfl (by repeat (first | exact List.mem_cons_self | apply List.mem_cons_of_mem))) | (with_reducible refine at_list ?_; refine stE (unhide D) _ _ rfl rfl rfl rfl rfl ?_; intro D'; have D := hide D'; clear D') | (go_at_call 46; with_reducible refine (unhide hR _).mono ?_; rintro e w' ⟨he, hb⟩; subst he; have D := hide ((unhide D).keep hb); clear hb) | (go_at_call 67; with_reducible refine (unhide hB _).mono ?_; rintro e w' ⟨he, hb⟩; subst he; have D := hide ((unhide D).keep hb); clear hb))
        go_ret
        exact ⟨rfl, (unhide D).o⟩
    · go_wp2_with (first | (with_reducible refine at_list ?_; apply ldE (unhide D) _ rfl rfl rfl (by repeat (first | exact List.mem_cons_self | apply List.mem_cons_of_mem))) | (with_reducible refine at_list ?_; refine stE (unhide D) _ _ rfl rfl rfl rfl rfl ?_; intro D'; have D := hide D'; clear D') | (go_at_call 46; with_reducible refine (unhide hR _).mono ?_; rintro e w' ⟨he, hb⟩; subst he; have D := hide ((unhide D).keep hb); clear hb) | (go_at_call 48; with_reducible refine (unhide hW _).mono ?_; rintro e w' ⟨he, hb⟩; subst he; have D := hide ((unhide D).keep hb); clear hb))
      go_ret
      exact ⟨rfl, (unhide D).o⟩
  · rw [if_neg h0] at hm
    subst hm
    cases E
    · cases c
      · go_wp2_with (first | (with_reducible refine at_list ?_; apply ldE (unhide D) _ rfl rfl rfl (by repeat (first | exact List.mem_cons_self | apply List.mem_cons_of_mem))) | (with_reducible refine at_list ?_; refine stE (unhide D) _ _ rfl rfl rfl rfl rfl ?_; intro D'; have D := hide D'; clear D') | (go_at_call 46; with_reducible refine (unhide hR _).mono ?_; rintro e w' ⟨he, hb⟩; subst he; have D := hide ((unhide D).keep hb); clear hb) | (go_at_call 67; with_reducible refine (unhide hB _).mono ?_; rintro e w' ⟨he, hb⟩; subst he; have D := hide ((unhide D).keep hb); clear hb))
        go_ret
        exact ⟨rfl, (unhide D).o⟩
      · go_wp2_with (first | (with_reducible refine at_list ?_; apply ldE (unhide D) _ rfl rfl rfl (by repeat (first | exact List.mem_cons_self | apply List.mem_cons_of_mem))) | (with_reducible refine at_list ?_; refine stE (unhide D) _ _ rfl rfl rfl rfl rfl ?_; intro D'; have D := hide D'; clear D') | (go_at_call 46; with_reducible refine (unhide hR _).mono ?_; rintro e w' ⟨he, hb⟩; subst he; have D := hide ((unhide D).keep hb); clear hb) | (go_at_call 67; with_reducible refine (unhide hB _).mono ?_; rintro e w' ⟨he, hb⟩; subst he; have D := hide ((unhide D).keep hb); clear hb))
        go_ret
        exact ⟨rfl, (unhide D).o⟩
    · go_wp2_with (first | (with_reducible refine at_list ?_; apply ldE (unhide D) _ rfl rfl rfl (by repeat (first | exact List.mem_cons_self | apply List.mem_cons_of_mem))) | (with_reducible refine at_list ?_; refine stE (unhide D) _ _ rfl rfl rfl rfl rfl ?_; intro D'; have D := hide D'; clear D') | (go_at_call 46; with_reducible refine (unhide hR _).mono ?_; rintro e w' ⟨he, hb⟩; subst he; have D := hide ((unhide D).keep hb); clear hb) | (go_at_call 48; with_reducible refine (unhide hW _).mono ?_; rintro e w' ⟨he, hb⟩; subst he; have D := hide ((unhide D).keep hb); clear hb))
      go_ret
      exact ⟨rfl, (unhide D).o⟩
theorem InR (x s : Int) (hx : Fit x) (hs : I64 s) : Ans 32 #[V x, .int .i64 s] (.int .i64 (inI x s)) := by
  intro w
  obtain ⟨s1, s2⟩ := hs
  by_cases h : 32 ≤ s
  · have e : inI x s = cl (x / ((2 ^ (s - 32).toNat : Nat) : Int)) := if_pos h
    rw [e]
    exact rin_high (enc x) _ s _ w h (wrap_self ⟨by omega, by omega⟩) (fun u => refShr x (s - 32) hx u) (WithinR _ (fit_div hx _ (two_pow_pos _)))
  · have e : inI x s = cl (x * ((2 ^ (32 - (if s < 0 then 0 else s)).toNat : Nat) : Int)) := if_neg h
    rw [e]
    generalize hm : (if s < 0 then 0 else s) = m
    have hm1 : 0 ≤ m ∧ m < 32 := by
      rw [← hm]
      split <;> omega
    have hR := fun u => refShl x (32 - m) hx u
    rw [decide_eq_false (show ¬ 32 - m < 0 by omega), Bool.not_false, Bool.true_and] at hR
    have hd : 0 < 2 ^ (32 - m).toNat := Nat.pow_pos (by decide)
    generalize hp : 2 ^ (32 - m).toNat = p at *
    generalize hz : x * (p : Int) = z at *
    have hn := mul_neg_iff (x := x) hd
    rw [hz] at hn
    cases hf : fit z with
    | false =>
      rw [hf] at hR
      have hno := fit_not hf
      have hI : ¬ I64 z := fun hc => hno hc.fit
      have k := rin_low (enc x) 0 s m (cl 0) false (decide (x < 0)) w h hm hm1.1 hm1.2 (fun u => hR u) (fun u => refBelow x hx u) (WithinR 0 fit_zero)
      rw [cl_out hI, hn]
      exact k
    | true =>
      rw [hf] at hR
      exact rin_low (enc x) (enc z) s m (cl z) true (decide (x < 0)) w h hm hm1.1 hm1.2 (fun u => hR u) (fun u => refBelow x hx u) (WithinR z (Fit.of hf))

theorem ClampR (a l h : Int) : Ans 34 #[.int .i64 a, .int .i64 l, .int .i64 h] (.int .i64 (clamp a l h)) := by
  intro w
  unfold clamp
  by_cases h1 : a < l
  · rw [if_pos h1]
    go_enter Tryz.func34, Tryz.ntmps34
    go_wp2
    go_ret
    exact ⟨rfl, Below.refl _ _⟩
  · rw [if_neg h1]
    by_cases h2 : h < a
    · rw [if_pos h2]
      go_enter Tryz.func34, Tryz.ntmps34
      go_wp2
      go_ret
      exact ⟨rfl, Below.refl _ _⟩
    · rw [if_neg h2]
      go_enter Tryz.func34, Tryz.ntmps34
      go_wp2
      go_ret
      exact ⟨rfl, Below.refl _ _⟩

/-! The laws. -/
set_option maxHeartbeats 1000000 in
theorem sums_core2 (n a b o s d : Int) (w : World) (h1 : Hid (Ans 15 #[.int .i64 n] (.int .i64 o))) (h2 : Hid (Ans 16 #[.int .i64 n] (.int .i64 o)))
    (h3 : Hid (Ans 17 #[.int .i64 a, .int .i64 b] (.int .i64 s))) (h4 : Hid (Ans 18 #[.int .i64 a, .int .i64 b] (.int .i64 s)))
    (h5 : Hid (Ans 19 #[.int .i64 a, .int .i64 b] (.int .i64 d))) (h6 : Hid (Ans 20 #[.int .i64 a, .int .i64 b] (.int .i64 d))) (hAw : Hid (Ans 21 #[] (.bool true))) :
    Calls Tryz.prog 3 #[.int .i64 n, .int .i64 a, .int .i64 b] w fun e w' => e = .returned (.bool true) ∧ Below w.heap.size w w' := by
  have D := hide (Env.start w)
  go_enter Tryz.func3, Tryz.ntmps3
  go_wp2_with (first | (go_at_call 15; with_reducible refine (unhide h1 _).mono ?_; rintro e w' ⟨he, hb⟩; subst he; have D := hide ((unhide D).keep hb); clear hb) | (go_at_call 16; with_reducible refine (unhide h2 _).mono ?_; rintro e w' ⟨he, hb⟩; subst he; have D := hide ((unhide D).keep hb); clear hb) | (go_at_call 17; with_reducible refine (unhide h3 _).mono ?_; rintro e w' ⟨he, hb⟩; subst he; have D := hide ((unhide D).keep hb); clear hb) | (go_at_call 18; with_reducible refine (unhide h4 _).mono ?_; rintro e w' ⟨he, hb⟩; subst he; have D := hide ((unhide D).keep hb); clear hb) | (go_at_call 19; with_reducible refine (unhide h5 _).mono ?_; rintro e w' ⟨he, hb⟩; subst he; have D := hide ((unhide D).keep hb); clear hb) | (go_at_call 20; with_reducible refine (unhide h6 _).mono ?_; rintro e w' ⟨he, hb⟩; subst he; have D := hide ((unhide D).keep hb); clear hb) | (go_at_call 21; with_reducible refine (unhide hAw _).mono ?_; rintro e w' ⟨he, hb⟩; subst he; have D := hide ((unhide D).keep hb); clear hb))
  go_ret
  exact ⟨rfl, (unhide D).o⟩
theorem fixSums_walk (n a b : Int) (hn : (Lit.int .i64 n).wf = true) (ha : (Lit.int .i64 a).wf = true) (hb : (Lit.int .i64 b).wf = true) (w : World) :
    Calls Tryz.prog 3 #[.int .i64 n, .int .i64 a, .int .i64 b] w fun e w' => e = .returned (.bool true) ∧ Below w.heap.size w w' :=
  sums_core2 n a b _ _ _ w (FixOfZ n (I64.wf hn)) (OfR n (I64.wf hn)) (FixAddZ a b (I64.wf ha) (I64.wf hb)) (AddR a b (I64.wf ha) (I64.wf hb)) (FixSubZ a b (I64.wf ha) (I64.wf hb)) (SubR a b (I64.wf ha) (I64.wf hb)) awake2

theorem Mul_law2 (a b s u : Int) (w : World) (h1 : Hid (Ans 22 #[.int .i64 a, .int .i64 b] (.int .i64 s))) (h2 : Hid (Ans 23 #[.int .i64 a, .int .i64 b, .bool false] (.int .i64 s)))
    (h3 : Hid (Ans 24 #[.int .i64 a, .int .i64 b] (.int .i64 u))) (h4 : Hid (Ans 23 #[.int .i64 a, .int .i64 b, .bool true] (.int .i64 u))) (hAw : Hid (Ans 21 #[] (.bool true))) :
    Calls Tryz.prog 4 #[.int .i64 a, .int .i64 b] w fun e w' => e = .returned (.bool true) ∧ Below w.heap.size w w' := by
  have D := hide (Env.start w)
  go_enter Tryz.func4, Tryz.ntmps4
  go_wp2_with (first | (go_at_call 22; with_reducible refine (unhide h1 _).mono ?_; rintro e w' ⟨he, hb⟩; subst he; have D := hide ((unhide D).keep hb); clear hb) | (go_at_call 23; with_reducible refine (unhide h2 _).mono ?_; rintro e w' ⟨he, hb⟩; subst he; have D := hide ((unhide D).keep hb); clear hb) | (go_at_call 24; with_reducible refine (unhide h3 _).mono ?_; rintro e w' ⟨he, hb⟩; subst he; have D := hide ((unhide D).keep hb); clear hb) | (go_at_call 23; with_reducible refine (unhide h4 _).mono ?_; rintro e w' ⟨he, hb⟩; subst he; have D := hide ((unhide D).keep hb); clear hb) | (go_at_call 21; with_reducible refine (unhide hAw _).mono ?_; rintro e w' ⟨he, hb⟩; subst he; have D := hide ((unhide D).keep hb); clear hb))
  go_ret
  exact ⟨rfl, (unhide D).o⟩
theorem Div_law2 (a b s u : Int) (w : World) (h1 : Hid (Ans 25 #[.int .i64 a, .int .i64 b] (.int .i64 s))) (h2 : Hid (Ans 26 #[.int .i64 a, .int .i64 b, .bool false] (.int .i64 s)))
    (h3 : Hid (Ans 27 #[.int .i64 a, .int .i64 b] (.int .i64 u))) (h4 : Hid (Ans 26 #[.int .i64 a, .int .i64 b, .bool true] (.int .i64 u))) (hAw : Hid (Ans 21 #[] (.bool true))) :
    Calls Tryz.prog 5 #[.int .i64 a, .int .i64 b] w fun e w' => e = .returned (.bool true) ∧ Below w.heap.size w w' := by
  have D := hide (Env.start w)
  go_enter Tryz.func5, Tryz.ntmps5
  go_wp2_with (first | (go_at_call 25; with_reducible refine (unhide h1 _).mono ?_; rintro e w' ⟨he, hb⟩; subst he; have D := hide ((unhide D).keep hb); clear hb) | (go_at_call 26; with_reducible refine (unhide h2 _).mono ?_; rintro e w' ⟨he, hb⟩; subst he; have D := hide ((unhide D).keep hb); clear hb) | (go_at_call 27; with_reducible refine (unhide h3 _).mono ?_; rintro e w' ⟨he, hb⟩; subst he; have D := hide ((unhide D).keep hb); clear hb) | (go_at_call 26; with_reducible refine (unhide h4 _).mono ?_; rintro e w' ⟨he, hb⟩; subst he; have D := hide ((unhide D).keep hb); clear hb) | (go_at_call 21; with_reducible refine (unhide hAw _).mono ?_; rintro e w' ⟨he, hb⟩; subst he; have D := hide ((unhide D).keep hb); clear hb))
  go_ret
  exact ⟨rfl, (unhide D).o⟩
theorem fixMul_walk (a b : Int) (ha : (Lit.int .i64 a).wf = true) (hb : (Lit.int .i64 b).wf = true) (w : World) : Calls Tryz.prog 4 #[.int .i64 a, .int .i64 b] w fun e w' => e = .returned (.bool true) ∧ Below w.heap.size w w' :=
  Mul_law2 a b (mulD a b) (mulU a b) w (FixMulZ a b (I64.wf ha) (I64.wf hb)) (MulR a b false (I64.wf ha) (I64.wf hb)) (FixMulUpZ a b (I64.wf ha) (I64.wf hb)) (MulR a b true (I64.wf ha) (I64.wf hb)) awake2
theorem fixDiv_walk (a b : Int) (ha : (Lit.int .i64 a).wf = true) (hb : (Lit.int .i64 b).wf = true) (w : World) : Calls Tryz.prog 5 #[.int .i64 a, .int .i64 b] w fun e w' => e = .returned (.bool true) ∧ Below w.heap.size w w' :=
  Div_law2 a b (divD a b) (divU a b) w (FixDivZ a b (I64.wf ha) (I64.wf hb)) (DivR a b false (I64.wf ha) (I64.wf hb)) (FixDivUpZ a b (I64.wf ha) (I64.wf hb)) (DivR a b true (I64.wf ha) (I64.wf hb)) awake2
theorem Sqrt_law2 (a s u : Int) (w : World) (h1 : Hid (Ans 28 #[.int .i64 a] (.int .i64 s))) (h2 : Hid (Ans 29 #[.int .i64 a, .bool false] (.int .i64 s)))
    (h3 : Hid (Ans 30 #[.int .i64 a] (.int .i64 u))) (h4 : Hid (Ans 29 #[.int .i64 a, .bool true] (.int .i64 u))) (hAw : Hid (Ans 21 #[] (.bool true))) :
    Calls Tryz.prog 6 #[.int .i64 a] w fun e w' => e = .returned (.bool true) ∧ Below w.heap.size w w' := by
  have D := hide (Env.start w)
  go_enter Tryz.func6, Tryz.ntmps6
  go_wp2_with (first | (go_at_call 28; with_reducible refine (unhide h1 _).mono ?_; rintro e w' ⟨he, hb⟩; subst he; have D := hide ((unhide D).keep hb); clear hb) | (go_at_call 29; with_reducible refine (unhide h2 _).mono ?_; rintro e w' ⟨he, hb⟩; subst he; have D := hide ((unhide D).keep hb); clear hb) | (go_at_call 30; with_reducible refine (unhide h3 _).mono ?_; rintro e w' ⟨he, hb⟩; subst he; have D := hide ((unhide D).keep hb); clear hb) | (go_at_call 29; with_reducible refine (unhide h4 _).mono ?_; rintro e w' ⟨he, hb⟩; subst he; have D := hide ((unhide D).keep hb); clear hb) | (go_at_call 21; with_reducible refine (unhide hAw _).mono ?_; rintro e w' ⟨he, hb⟩; subst he; have D := hide ((unhide D).keep hb); clear hb))
  go_ret
  exact ⟨rfl, (unhide D).o⟩
theorem fixSqrt_walk (a : Int) (ha : (Lit.int .i64 a).wf = true) (w : World) : Calls Tryz.prog 6 #[.int .i64 a] w fun e w' => e = .returned (.bool true) ∧ Below w.heap.size w w' :=
  Sqrt_law2 a (sqD a) (sqU a) w (FixSqrtZ a (I64.wf ha)) (SqrtR a false (I64.wf ha)) (FixSqrtUpZ a (I64.wf ha)) (SqrtR a true (I64.wf ha)) awake2

end Go.Proofs.YtlekbhdchkdnnaaGreatDoor
