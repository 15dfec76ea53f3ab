/- The document's numbers of layer 2, In; of layer 3: integers, exact sums, Add, Sub, Scale, Dot, Cross, Move. -/
import Derived.Test.YtljggjnaolbapaaGreatFo
import Derived.Test.YtljggjnaolbapaaGreatVr
namespace Go.Proofs.YtljggjnaolbapaaGreat
open Go.RowKit
set_option maxRecDepth 4000
set_option linter.unusedVariables false

/-! In. -/
theorem rin_high (a b : Nat) (s v : Int) (w : World) (hs : 32 ≤ s) (hs2 : wrap64 (s - 32) = s - 32)
    (hR : Hid (Ans 110 #[.agg (cells8 a), .int .i64 (s - 32)] (.agg (cells8 b)))) (hW : Hid (Ans 64 #[.agg (cells8 b)] (.int .i64 v))) :
    Calls Tryz.prog 52 #[W a, .int .i64 s] w fun e w' => e = .returned (.int .i64 v) ∧ Below w.heap.size w w' := by
  have h0 : ¬ s < 0 := by omega
  unfold W
  go_enter Tryz.func52, Tryz.ntmps52
  go_upto_region 1 with fail
  have D := hide (Env.one w a)
  go_wp2_with (first | (with_reducible refine at_list ?_; apply ldE (unhide D) _ rfl rfl rfl (by repeat (first | exact List.mem_cons_self | apply List.mem_cons_of_mem))) | (go_at_call 110; with_reducible refine (unhide hR _).mono ?_; rintro e w' ⟨he, hb⟩; subst he; have D := hide ((unhide D).keep hb); clear hb) | (go_at_call 64; with_reducible refine (unhide hW _).mono ?_; rintro e w' ⟨he, hb⟩; subst he; have D := hide ((unhide D).keep hb); clear hb))
  go_ret
  exact ⟨rfl, (unhide D).o⟩
set_option maxHeartbeats 1000000 in
theorem rin_low (a b : Nat) (s m v : Int) (E c : Bool) (w : World) (hs : ¬ 32 ≤ s) (hm : (if s < 0 then 0 else s) = m) (hm1 : 0 ≤ m) (hm2 : m < 32)
    (hR : Hid (Ans 111 #[.agg (cells8 a), .int .i64 (32 - m)] (.tuple #[.agg (cells8 b), .bool E])))
    (hB : Hid (Ans 112 #[.agg (cells8 a)] (.bool c))) (hW : Hid (Ans 64 #[.agg (cells8 b)] (.int .i64 v))) :
    Calls Tryz.prog 52 #[W a, .int .i64 s] w fun e w' => e = .returned (.int .i64 (bif E then v else lim c)) ∧ Below w.heap.size w w' := by
  unfold W
  go_enter Tryz.func52, Tryz.ntmps52
  go_upto_region 1 with fail
  have D := hide (Env.one w a)
  by_cases h0 : s < 0
  · rw [if_pos h0] at hm
    subst hm
    simp only [Int.sub_zero] at hR
    cases E
    · cases c
      · go_wp2_with (first | (with_reducible refine at_list ?_; apply ldE (unhide D) _ rfl rfl rfl (by repeat (first | exact List.mem_cons_self | apply List.mem_cons_of_mem))) | (with_reducible refine at_list ?_; refine stE (unhide D) _ _ rfl rfl rfl rfl rfl ?_; intro D'; have D := hide D'; clear D') | (go_at_call 111; with_reducible refine (unhide hR _).mono ?_; rintro e w' ⟨he, hb⟩; subst he; have D := hide ((unhide D).keep hb); clear hb) | (go_at_call 112; with_reducible refine (unhide hB _).mono ?_; rintro e w' ⟨he, hb⟩; subst he; have D := hide ((unhide D).keep hb); clear hb))
        go_ret
        exact ⟨rfl, (unhide D).o⟩
      · go_wp2_with (first | (with_reducible refine at_list ?_; apply ldE (unhide D) _ rfl rfl rfl (by repeat (first | exact List.mem_cons_self | apply List.mem_cons_of_mem))) | (with_reducible refine at_list ?_; refine stE (unhide D) _ _ rfl rfl rfl rfl rfl ?_; intro D'; have D := hide D'; clear D') | (go_at_call 111; with_reducible refine (unhide hR _).mono ?_; rintro e w' ⟨he, hb⟩; subst he; have D := hide ((unhide D).keep hb); clear hb) | (go_at_call 112; with_reducible refine (unhide hB _).mono ?_; rintro e w' ⟨he, hb⟩; subst he; have D := hide ((unhide D).keep hb); clear hb))
        go_ret
        exact ⟨rfl, (unhide D).o⟩
    · go_wp2_with (first | (with_reducible refine at_list ?_; apply ldE (unhide D) _ rfl rfl rfl (by repeat (first | exact List.mem_cons_self | apply List.mem_cons_of_mem))) | (with_reducible refine at_list ?_; refine stE (unhide D) _ _ rfl rfl rfl rfl rfl ?_; intro D'; have D := hide D'; clear D') | (go_at_call 111; with_reducible refine (unhide hR _).mono ?_; rintro e w' ⟨he, hb⟩; subst he; have D := hide ((unhide D).keep hb); clear hb) | (go_at_call 64; with_reducible refine (unhide hW _).mono ?_; rintro e w' ⟨he, hb⟩; subst he; have D := hide ((unhide D).keep hb); clear hb))
      go_ret
      exact ⟨rfl, (unhide D).o⟩
  · rw [if_neg h0] at hm
    subst hm
    cases E
    · cases c
      · go_wp2_with (first | (with_reducible refine at_list ?_; apply ldE (unhide D) _ rfl rfl rfl (by repeat (first | exact List.mem_cons_self | apply List.mem_cons_of_mem))) | (with_reducible refine at_list ?_; refine stE (unhide D) _ _ rfl rfl rfl rfl rfl ?_; intro D'; have D := hide D'; clear D') | (go_at_call 111; with_reducible refine (unhide hR _).mono ?_; rintro e w' ⟨he, hb⟩; subst he; have D := hide ((unhide D).keep hb); clear hb) | (go_at_call 112; with_reducible refine (unhide hB _).mono ?_; rintro e w' ⟨he, hb⟩; subst he; have D := hide ((unhide D).keep hb); clear hb))
        go_ret
        exact ⟨rfl, (unhide D).o⟩
      · go_wp2_with (first | (with_reducible refine at_list ?_; apply ldE (unhide D) _ rfl rfl rfl (by repeat (first | exact List.mem_cons_self | apply List.mem_cons_of_mem))) | (with_reducible refine at_list ?_; refine stE (unhide D) _ _ rfl rfl rfl rfl rfl ?_; intro D'; have D := hide D'; clear D') | (go_at_call 111; with_reducible refine (unhide hR _).mono ?_; rintro e w' ⟨he, hb⟩; subst he; have D := hide ((unhide D).keep hb); clear hb) | (go_at_call 112; with_reducible refine (unhide hB _).mono ?_; rintro e w' ⟨he, hb⟩; subst he; have D := hide ((unhide D).keep hb); clear hb))
        go_ret
        exact ⟨rfl, (unhide D).o⟩
    · go_wp2_with (first | (with_reducible refine at_list ?_; apply ldE (unhide D) _ rfl rfl rfl (by repeat (first | exact List.mem_cons_self | apply List.mem_cons_of_mem))) | (with_reducible refine at_list ?_; refine stE (unhide D) _ _ rfl rfl rfl rfl rfl ?_; intro D'; have D := hide D'; clear D') | (go_at_call 111; with_reducible refine (unhide hR _).mono ?_; rintro e w' ⟨he, hb⟩; subst he; have D := hide ((unhide D).keep hb); clear hb) | (go_at_call 64; with_reducible refine (unhide hW _).mono ?_; rintro e w' ⟨he, hb⟩; subst he; have D := hide ((unhide D).keep hb); clear hb))
      go_ret
      exact ⟨rfl, (unhide D).o⟩
theorem InR (x s : Int) (hx : Fit x) (hs : I64 s) : Ans 52 #[V x, .int .i64 s] (.int .i64 (inI x s)) := by
  intro w
  obtain ⟨s1, s2⟩ := hs
  by_cases h : 32 ≤ s
  · have e : inI x s = cl (x / ((2 ^ (s - 32).toNat : Nat) : Int)) := if_pos h
    rw [e]
    exact rin_high (enc x) _ s _ w h (wrap_self ⟨by omega, by omega⟩) (fun u => refShr x (s - 32) hx u) (WithinR _ (fit_div hx _ (two_pow_pos _)))
  · have e : inI x s = cl (x * ((2 ^ (32 - (if s < 0 then 0 else s)).toNat : Nat) : Int)) := if_neg h
    rw [e]
    generalize hm : (if s < 0 then 0 else s) = m
    have hm1 : 0 ≤ m ∧ m < 32 := by
      rw [← hm]
      split <;> omega
    have hR := fun u => refShl x (32 - m) hx u
    rw [decide_eq_false (show ¬ 32 - m < 0 by omega), Bool.not_false, Bool.true_and] at hR
    have hd : 0 < 2 ^ (32 - m).toNat := Nat.pow_pos (by decide)
    generalize hp : 2 ^ (32 - m).toNat = p at *
    generalize hz : x * (p : Int) = z at *
    have hn := mul_neg_iff (x := x) hd
    rw [hz] at hn
    cases hf : fit z with
    | false =>
      rw [hf] at hR
      have hno := fit_not hf
      have hI : ¬ I64 z := fun hc => hno hc.fit
      have k := rin_low (enc x) 0 s m (cl 0) false (decide (x < 0)) w h hm hm1.1 hm1.2 (fun u => hR u) (fun u => refBelow x hx u) (WithinR 0 fit_zero)
      rw [cl_out hI, hn]
      exact k
    | true =>
      rw [hf] at hR
      exact rin_low (enc x) (enc z) s m (cl z) true (decide (x < 0)) w h hm hm1.1 hm1.2 (fun u => hR u) (fun u => refBelow x hx u) (WithinR z (Fit.of hf))


theorem raw3_core (a : Nat) (x : Int) (w : World) (hO : Hid (Ans 63 #[.int .i64 x] (.agg (cells8 a)))) :
    Calls Tryz.prog 80 #[.int .i64 x] w fun e w' => e = .returned (.agg (cells8 a)) ∧ Below w.heap.size w w' := by
  go_enter Tryz.func80, Tryz.ntmps80
  go_upto_region 1 with fail
  have D := hide ((Gen.start w).push 56 z8)
  go_wp2_with (first | (go_at_call 63; with_reducible refine (unhide hO _).mono ?_; rintro e w' ⟨he, hb⟩; subst he; have D := hide ((unhide D).keep hb); clear hb) | (with_reducible refine at_list ?_; apply stGend (unhide D) rWide _ _ rfl rfl rfl rfl (by repeat (first | exact List.mem_cons_self | apply List.mem_cons_of_mem)) (by omega) rfl rfl (cells8_one _); intro B O))
  exact resG rWide (unhide B) rfl rfl rfl rfl ⟨rfl, unhide O⟩
theorem Raw3 (x : Int) (hx : I64 x) : Ans 80 #[.int .i64 x] (V x) := fun w => raw3_core (enc x) x w (fun u => SmallZ x hx.1 hx.2 u)
theorem Plus3_core (a b c : Nat) (E : Bool) (w : World) (h : Hid (Ans 103 #[.agg (cells8 a), .agg (cells8 b)] (.tuple #[.agg (cells8 c), .bool E]))) :
    Calls Tryz.prog 62 #[.agg (cells8 a), .agg (cells8 b)] w fun e w' => e = .returned (.agg (cells8 c)) ∧ Below w.heap.size w w' := by
  go_enter Tryz.func62, Tryz.ntmps62
  go_upto_region 1 with fail
  have D := hide ((((Gen.start w).push 56 (cells8 a)).push 56 (cells8 b)).push 56 z8)
  simp only [szA] at D
  go_wp2_with (first | (with_reducible refine at_list ?_; apply ldG (unhide D) rWide _ rfl rfl rfl (by repeat (first | exact List.mem_cons_self | apply List.mem_cons_of_mem)) rfl) | (go_at_call 103; with_reducible refine (unhide h _).mono ?_; rintro e w' ⟨he, hb⟩; subst he; have D := hide ((unhide D).keep hb); clear hb) | (with_reducible refine at_list ?_; refine stG (unhide D) rWide _ _ rfl rfl rfl rfl rfl rfl (cells8_one _) ?_; intro D'; have D := hide D'; clear D') | (with_reducible refine at_list ?_; apply stGend (unhide D) rWide _ _ rfl rfl rfl rfl (by repeat (first | exact List.mem_cons_self | apply List.mem_cons_of_mem)) (by omega) rfl rfl (cells8_one _); intro B O))
  exact resG rWide (unhide B) rfl rfl rfl rfl ⟨rfl, unhide O⟩
theorem Less3_core (a b c : Nat) (E : Bool) (w : World) (h : Hid (Ans 105 #[.agg (cells8 a), .agg (cells8 b)] (.tuple #[.agg (cells8 c), .bool E]))) :
    Calls Tryz.prog 114 #[.agg (cells8 a), .agg (cells8 b)] w fun e w' => e = .returned (.agg (cells8 c)) ∧ Below w.heap.size w w' := by
  go_enter Tryz.func114, Tryz.ntmps114
  go_upto_region 1 with fail
  have D := hide ((((Gen.start w).push 56 (cells8 a)).push 56 (cells8 b)).push 56 z8)
  simp only [szA] at D
  go_wp2_with (first | (with_reducible refine at_list ?_; apply ldG (unhide D) rWide _ rfl rfl rfl (by repeat (first | exact List.mem_cons_self | apply List.mem_cons_of_mem)) rfl) | (go_at_call 105; with_reducible refine (unhide h _).mono ?_; rintro e w' ⟨he, hb⟩; subst he; have D := hide ((unhide D).keep hb); clear hb) | (with_reducible refine at_list ?_; refine stG (unhide D) rWide _ _ rfl rfl rfl rfl rfl rfl (cells8_one _) ?_; intro D'; have D := hide D'; clear D') | (with_reducible refine at_list ?_; apply stGend (unhide D) rWide _ _ rfl rfl rfl rfl (by repeat (first | exact List.mem_cons_self | apply List.mem_cons_of_mem)) (by omega) rfl rfl (cells8_one _); intro B O))
  exact resG rWide (unhide B) rfl rfl rfl rfl ⟨rfl, unhide O⟩
theorem Times3_core (a b c : Nat) (E : Bool) (w : World) (h : Hid (Ans 107 #[.agg (cells8 a), .agg (cells8 b)] (.tuple #[.agg (cells8 c), .bool E]))) :
    Calls Tryz.prog 61 #[.agg (cells8 a), .agg (cells8 b)] w fun e w' => e = .returned (.agg (cells8 c)) ∧ Below w.heap.size w w' := by
  go_enter Tryz.func61, Tryz.ntmps61
  go_upto_region 1 with fail
  have D := hide ((((Gen.start w).push 56 (cells8 a)).push 56 (cells8 b)).push 56 z8)
  simp only [szA] at D
  go_wp2_with (first | (with_reducible refine at_list ?_; apply ldG (unhide D) rWide _ rfl rfl rfl (by repeat (first | exact List.mem_cons_self | apply List.mem_cons_of_mem)) rfl) | (go_at_call 107; with_reducible refine (unhide h _).mono ?_; rintro e w' ⟨he, hb⟩; subst he; have D := hide ((unhide D).keep hb); clear hb) | (with_reducible refine at_list ?_; refine stG (unhide D) rWide _ _ rfl rfl rfl rfl rfl rfl (cells8_one _) ?_; intro D'; have D := hide D'; clear D') | (with_reducible refine at_list ?_; apply stGend (unhide D) rWide _ _ rfl rfl rfl rfl (by repeat (first | exact List.mem_cons_self | apply List.mem_cons_of_mem)) (by omega) rfl rfl (cells8_one _); intro B O))
  exact resG rWide (unhide B) rfl rfl rfl rfl ⟨rfl, unhide O⟩
theorem Twice3_core (a c : Nat) (n : Int) (E : Bool) (w : World) (h : Hid (Ans 111 #[.agg (cells8 a), .int .i64 n] (.tuple #[.agg (cells8 c), .bool E]))) :
    Calls Tryz.prog 124 #[.agg (cells8 a), .int .i64 n] w fun e w' => e = .returned (.agg (cells8 c)) ∧ Below w.heap.size w w' := by
  go_enter Tryz.func124, Tryz.ntmps124
  go_upto_region 1 with fail
  have D := hide (((Gen.start w).push 56 (cells8 a)).push 56 z8)
  simp only [szA] at D
  go_wp2_with (first | (with_reducible refine at_list ?_; apply ldG (unhide D) rWide _ rfl rfl rfl (by repeat (first | exact List.mem_cons_self | apply List.mem_cons_of_mem)) rfl) | (go_at_call 111; with_reducible refine (unhide h _).mono ?_; rintro e w' ⟨he, hb⟩; subst he; have D := hide ((unhide D).keep hb); clear hb) | (with_reducible refine at_list ?_; refine stG (unhide D) rWide _ _ rfl rfl rfl rfl rfl rfl (cells8_one _) ?_; intro D'; have D := hide D'; clear D') | (with_reducible refine at_list ?_; apply stGend (unhide D) rWide _ _ rfl rfl rfl rfl (by repeat (first | exact List.mem_cons_self | apply List.mem_cons_of_mem)) (by omega) rfl rfl (cells8_one _); intro B O))
  exact resG rWide (unhide B) rfl rfl rfl rfl ⟨rfl, unhide O⟩
theorem Plus3 {k : Nat} {x y : Int} (hx : Sz k x) (hy : Sz k y) (hk : k ≤ 500) : Ans 62 #[V x, V y] (V (x + y)) := fun w => Plus3_core _ _ _ true w (add_refS x y hx hy (by omega) (by omega))
theorem Less3 {k : Nat} {x y : Int} (hx : Sz k x) (hy : Sz k y) (hk : k ≤ 500) : Ans 114 #[V x, V y] (V (x - y)) := fun w => Less3_core _ _ _ true w (sub_refS x y hx hy (by omega) (by omega))
theorem Times3 {j k : Nat} {x y : Int} (hx : Sz j x) (hy : Sz k y) (hk : j + k ≤ 500) : Ans 61 #[V x, V y] (V (x * y)) := fun w => Times3_core _ _ _ true w (mul_refS x y hx hy (by omega))
theorem Twice3 {x : Int} (n : Int) (hx : Fit x) (h0 : 0 ≤ n) (hf : Fit (x * ((2 ^ n.toNat : Nat) : Int))) : Ans 124 #[V x, .int .i64 n] (V (x * ((2 ^ n.toNat : Nat) : Int))) := fun w => Twice3_core _ _ n true w (fun u => by
  have t := refShl x n hx u
  rw [fit_true hf, decide_eq_false (show ¬ n < 0 by omega)] at t
  exact t)
set_option maxHeartbeats 2000000 in
theorem exact3_core (ax ay az bx b_y bz_ : Int) (A1 A2 A3 B1 B2 B3 P1 P2 P3 Q R : Nat) (w : World) (r1 : Hid (Ans 80 #[.int .i64 ax] (.agg (cells8 A1)))) (s1 : Hid (Ans 80 #[.int .i64 bx] (.agg (cells8 B1)))) (p1 : Hid (Ans 61 #[.agg (cells8 A1), .agg (cells8 B1)] (.agg (cells8 P1))))
    (r2 : Hid (Ans 80 #[.int .i64 ay] (.agg (cells8 A2)))) (s2 : Hid (Ans 80 #[.int .i64 b_y] (.agg (cells8 B2)))) (p2 : Hid (Ans 61 #[.agg (cells8 A2), .agg (cells8 B2)] (.agg (cells8 P2))))
    (r3 : Hid (Ans 80 #[.int .i64 az] (.agg (cells8 A3)))) (s3 : Hid (Ans 80 #[.int .i64 bz_] (.agg (cells8 B3)))) (p3 : Hid (Ans 61 #[.agg (cells8 A3), .agg (cells8 B3)] (.agg (cells8 P3))))
    (q1 : Hid (Ans 62 #[.agg (cells8 P1), .agg (cells8 P2)] (.agg (cells8 Q)))) (q2 : Hid (Ans 62 #[.agg (cells8 Q), .agg (cells8 P3)] (.agg (cells8 R)))) :
    Calls Tryz.prog 53 #[.agg (v3 ax ay az), .agg (v3 bx b_y bz_)] w fun e w' => e = .returned (.agg (cells8 R)) ∧ Below w.heap.size w w' := by
  go_enter Tryz.func53, Tryz.ntmps53
  go_upto_region 1 with fail
  have D := hide ((((Gen.start w).push 24 (v3 ax ay az)).push 24 (v3 bx b_y bz_)).push 56 z8)
  simp only [szA] at D
  refine region_last (S := Gen w _) (f := 23) (l := [0, 1, 2, 3, 4, 5, 6, 7, 8, 9, 10, 11, 12, 13, 14, 15, 16, 17, 18, 19, 20, 21, 22]) (by kernel_rfl) (by kernel_rfl) (by kernel_rfl) (by kernel_rfl) (by kernel_rfl) (by kernel_rfl) (by kernel_rfl) (by kernel_rfl) (by kernel_rfl) (by kernel_rfl) rfl rfl (unhide D).drew ?_
  clear D
  refine plan_read (v := ?_) rfl rfl (fun u hS => by go_simp; rfl) ?_
  go_simp
  refine plan_read (v := .int .i64 ax) rfl rfl (fun u hS => exec_loadFG hS _ rfl rfl (by repeat (first | exact List.mem_cons_self | apply List.mem_cons_of_mem)) rfl) ?_
  go_simp
  refine plan_call (v := .agg (cells8 A1)) (f := 80) (args := #[.int .i64 ax]) rfl rfl (fun u hS => by go_simp) (fun u hS => (unhide r1 u).mono fun _ _ ⟨he, hb⟩ => ⟨he, hS.keep hb⟩) ?_
  go_simp
  refine plan_read (v := ?_) rfl rfl (fun u hS => by go_simp; rfl) ?_
  go_simp
  refine plan_read (v := .int .i64 bx) rfl rfl (fun u hS => exec_loadFG hS _ rfl rfl (by repeat (first | exact List.mem_cons_self | apply List.mem_cons_of_mem)) rfl) ?_
  go_simp
  refine plan_call (v := .agg (cells8 B1)) (f := 80) (args := #[.int .i64 bx]) rfl rfl (fun u hS => by go_simp) (fun u hS => (unhide s1 u).mono fun _ _ ⟨he, hb⟩ => ⟨he, hS.keep hb⟩) ?_
  go_simp
  refine plan_call (v := .agg (cells8 P1)) (f := 61) (args := #[.agg (cells8 A1), .agg (cells8 B1)]) rfl rfl (fun u hS => by go_simp) (fun u hS => (unhide p1 u).mono fun _ _ ⟨he, hb⟩ => ⟨he, hS.keep hb⟩) ?_
  go_simp
  refine plan_read (v := ?_) rfl rfl (fun u hS => by go_simp; rfl) ?_
  go_simp
  refine plan_read (v := .int .i64 ay) rfl rfl (fun u hS => exec_loadFG hS _ rfl rfl (by repeat (first | exact List.mem_cons_self | apply List.mem_cons_of_mem)) rfl) ?_
  go_simp
  refine plan_call (v := .agg (cells8 A2)) (f := 80) (args := #[.int .i64 ay]) rfl rfl (fun u hS => by go_simp) (fun u hS => (unhide r2 u).mono fun _ _ ⟨he, hb⟩ => ⟨he, hS.keep hb⟩) ?_
  go_simp
  refine plan_read (v := ?_) rfl rfl (fun u hS => by go_simp; rfl) ?_
  go_simp
  refine plan_read (v := .int .i64 b_y) rfl rfl (fun u hS => exec_loadFG hS _ rfl rfl (by repeat (first | exact List.mem_cons_self | apply List.mem_cons_of_mem)) rfl) ?_
  go_simp
  refine plan_call (v := .agg (cells8 B2)) (f := 80) (args := #[.int .i64 b_y]) rfl rfl (fun u hS => by go_simp) (fun u hS => (unhide s2 u).mono fun _ _ ⟨he, hb⟩ => ⟨he, hS.keep hb⟩) ?_
  go_simp
  refine plan_call (v := .agg (cells8 P2)) (f := 61) (args := #[.agg (cells8 A2), .agg (cells8 B2)]) rfl rfl (fun u hS => by go_simp) (fun u hS => (unhide p2 u).mono fun _ _ ⟨he, hb⟩ => ⟨he, hS.keep hb⟩) ?_
  go_simp
  refine plan_call (v := .agg (cells8 Q)) (f := 62) (args := #[.agg (cells8 P1), .agg (cells8 P2)]) rfl rfl (fun u hS => by go_simp) (fun u hS => (unhide q1 u).mono fun _ _ ⟨he, hb⟩ => ⟨he, hS.keep hb⟩) ?_
  go_simp
  refine plan_read (v := ?_) rfl rfl (fun u hS => by go_simp; rfl) ?_
  go_simp
  refine plan_read (v := .int .i64 az) rfl rfl (fun u hS => exec_loadFG hS _ rfl rfl (by repeat (first | exact List.mem_cons_self | apply List.mem_cons_of_mem)) rfl) ?_
  go_simp
  refine plan_call (v := .agg (cells8 A3)) (f := 80) (args := #[.int .i64 az]) rfl rfl (fun u hS => by go_simp) (fun u hS => (unhide r3 u).mono fun _ _ ⟨he, hb⟩ => ⟨he, hS.keep hb⟩) ?_
  go_simp
  refine plan_read (v := ?_) rfl rfl (fun u hS => by go_simp; rfl) ?_
  go_simp
  refine plan_read (v := .int .i64 bz_) rfl rfl (fun u hS => exec_loadFG hS _ rfl rfl (by repeat (first | exact List.mem_cons_self | apply List.mem_cons_of_mem)) rfl) ?_
  go_simp
  refine plan_call (v := .agg (cells8 B3)) (f := 80) (args := #[.int .i64 bz_]) rfl rfl (fun u hS => by go_simp) (fun u hS => (unhide s3 u).mono fun _ _ ⟨he, hb⟩ => ⟨he, hS.keep hb⟩) ?_
  go_simp
  refine plan_call (v := .agg (cells8 P3)) (f := 61) (args := #[.agg (cells8 A3), .agg (cells8 B3)]) rfl rfl (fun u hS => by go_simp) (fun u hS => (unhide p3 u).mono fun _ _ ⟨he, hb⟩ => ⟨he, hS.keep hb⟩) ?_
  go_simp
  refine plan_call (v := .agg (cells8 R)) (f := 62) (args := #[.agg (cells8 Q), .agg (cells8 P3)]) rfl rfl (fun u hS => by go_simp) (fun u hS => (unhide q2 u).mono fun _ _ ⟨he, hb⟩ => ⟨he, hS.keep hb⟩) ?_
  go_simp
  refine plan_last (fun u hS => ?_)
  refine wp_store_row 56 (.tmp 4) (.tmp 27) rfl _ (cells8 R) rfl rfl 56 z8 (hS.blk (by repeat (first | exact List.mem_cons_self | apply List.mem_cons_of_mem))) iWide rfl (cells8_one _) ?_
  have B := hide ((hS.blk (g := w.heap.size + 1 + 1) (t := 56) (cs := z8) (by repeat (first | exact List.mem_cons_self | apply List.mem_cons_of_mem))).row (cells8 R))
  have O := hide (below_row hS.o (show w.heap.size ≤ w.heap.size + 1 + 1 by omega) (cells8 R))
  clear hS
  go_wp2
  exact resG rWide (unhide B) rfl rfl rfl rfl ⟨rfl, unhide O⟩
theorem Exact3 (ax ay az bx b_y bz_ : Int) (h1 : I64 ax) (h2 : I64 ay) (h3 : I64 az) (h4 : I64 bx) (h5 : I64 b_y) (h6 : I64 bz_) : Ans 53 #[.agg (v3 ax ay az), .agg (v3 bx b_y bz_)] (V (ax * bx + ay * b_y + az * bz_)) := fun w =>
  have t1 := h1.sz.mul h4.sz
  have t2 := h2.sz.mul h5.sz
  have t3 := h3.sz.mul h6.sz
  exact3_core ax ay az bx b_y bz_ _ _ _ _ _ _ _ _ _ _ _ w (Raw3 ax h1) (Raw3 bx h4) (Times3 h1.sz h4.sz (by decide)) (Raw3 ay h2) (Raw3 b_y h5) (Times3 h2.sz h5.sz (by decide)) (Raw3 az h3) (Raw3 bz_ h6) (Times3 h3.sz h6.sz (by decide)) (Plus3 t1 t2 (by decide)) (Plus3 (t1.add t2) (t3.mono (by decide)) (by decide))
set_option maxHeartbeats 2000000 in
theorem Add3_core (ax ay az bx b_y bz_ x y z : Int) (w : World) (h0 : Hid (Ans 43 #[.int .i64 ax, .int .i64 bx] (.int .i64 x))) (h1 : Hid (Ans 43 #[.int .i64 ay, .int .i64 b_y] (.int .i64 y))) (h2 : Hid (Ans 43 #[.int .i64 az, .int .i64 bz_] (.int .i64 z))) :
    Calls Tryz.prog 12 #[.agg (v3 ax ay az), .agg (v3 bx b_y bz_)] w fun e w' => e = .returned (.agg (v3 x y z)) ∧ Below w.heap.size w w' := by
  go_enter Tryz.func12, Tryz.ntmps12
  go_upto_region 1 with fail
  have D := hide ((((Gen.start w).push 24 (v3 ax ay az)).push 24 (v3 bx b_y bz_)).push 24 (v3 0 0 0))
  simp only [szA] at D
  refine region_last (S := Gen w _) (f := 16) (l := [0, 1, 2, 3, 4, 5, 6, 7, 8, 9, 10, 11, 12, 13, 14, 15]) (by kernel_rfl) (by kernel_rfl) (by kernel_rfl) (by kernel_rfl) (by kernel_rfl) (by kernel_rfl) (by kernel_rfl) (by kernel_rfl) (by kernel_rfl) (by kernel_rfl) rfl rfl (unhide D).drew ?_
  clear D
  refine plan_read (v := ?_) rfl rfl (fun u hS => by go_simp; rfl) ?_
  go_simp
  refine plan_read (v := .int .i64 ax) rfl rfl (fun u hS => exec_loadFG hS _ rfl rfl (by repeat (first | exact List.mem_cons_self | apply List.mem_cons_of_mem)) rfl) ?_
  go_simp
  refine plan_read (v := ?_) rfl rfl (fun u hS => by go_simp; rfl) ?_
  go_simp
  refine plan_read (v := .int .i64 bx) rfl rfl (fun u hS => exec_loadFG hS _ rfl rfl (by repeat (first | exact List.mem_cons_self | apply List.mem_cons_of_mem)) rfl) ?_
  go_simp
  refine plan_call (v := .int .i64 x) (f := 43) (args := #[.int .i64 ax, .int .i64 bx]) rfl rfl (fun u hS => by go_simp) (fun u hS => (unhide h0 u).mono fun _ _ ⟨he, hb⟩ => ⟨he, hS.keep hb⟩) ?_
  go_simp
  refine plan_read (v := ?_) rfl rfl (fun u hS => by go_simp; rfl) ?_
  go_simp
  refine plan_read (v := .int .i64 ay) rfl rfl (fun u hS => exec_loadFG hS _ rfl rfl (by repeat (first | exact List.mem_cons_self | apply List.mem_cons_of_mem)) rfl) ?_
  go_simp
  refine plan_read (v := ?_) rfl rfl (fun u hS => by go_simp; rfl) ?_
  go_simp
  refine plan_read (v := .int .i64 b_y) rfl rfl (fun u hS => exec_loadFG hS _ rfl rfl (by repeat (first | exact List.mem_cons_self | apply List.mem_cons_of_mem)) rfl) ?_
  go_simp
  refine plan_call (v := .int .i64 y) (f := 43) (args := #[.int .i64 ay, .int .i64 b_y]) rfl rfl (fun u hS => by go_simp) (fun u hS => (unhide h1 u).mono fun _ _ ⟨he, hb⟩ => ⟨he, hS.keep hb⟩) ?_
  go_simp
  refine plan_read (v := ?_) rfl rfl (fun u hS => by go_simp; rfl) ?_
  go_simp
  refine plan_read (v := .int .i64 az) rfl rfl (fun u hS => exec_loadFG hS _ rfl rfl (by repeat (first | exact List.mem_cons_self | apply List.mem_cons_of_mem)) rfl) ?_
  go_simp
  refine plan_read (v := ?_) rfl rfl (fun u hS => by go_simp; rfl) ?_
  go_simp
  refine plan_read (v := .int .i64 bz_) rfl rfl (fun u hS => exec_loadFG hS _ rfl rfl (by repeat (first | exact List.mem_cons_self | apply List.mem_cons_of_mem)) rfl) ?_
  go_simp
  refine plan_call (v := .int .i64 z) (f := 43) (args := #[.int .i64 az, .int .i64 bz_]) rfl rfl (fun u hS => by go_simp) (fun u hS => (unhide h2 u).mono fun _ _ ⟨he, hb⟩ => ⟨he, hS.keep hb⟩) ?_
  go_simp
  refine plan_read (v := .agg (v3 x y z)) rfl rfl (fun u hS => by go_simp) ?_
  go_simp
  refine plan_last (fun u hS => ?_)
  refine wp_store_row 24 (.tmp 4) (.tmp 20) rfl _ (v3 x y z) rfl rfl 24 (v3 0 0 0) (hS.blk (by repeat (first | exact List.mem_cons_self | apply List.mem_cons_of_mem))) iVec3 rfl (v3_one _ _ _) ?_
  have B := hide ((hS.blk (g := w.heap.size + 1 + 1) (t := 24) (cs := (v3 0 0 0)) (by repeat (first | exact List.mem_cons_self | apply List.mem_cons_of_mem))).row (v3 x y z))
  have O := hide (below_row hS.o (show w.heap.size ≤ w.heap.size + 1 + 1 by omega) (v3 x y z))
  clear hS
  go_wp2
  exact resG rVec (unhide B) rfl rfl rfl rfl ⟨rfl, unhide O⟩
set_option maxHeartbeats 2000000 in
theorem Sub3_core (ax ay az bx b_y bz_ x y z : Int) (w : World) (h0 : Hid (Ans 46 #[.int .i64 ax, .int .i64 bx] (.int .i64 x))) (h1 : Hid (Ans 46 #[.int .i64 ay, .int .i64 b_y] (.int .i64 y))) (h2 : Hid (Ans 46 #[.int .i64 az, .int .i64 bz_] (.int .i64 z))) :
    Calls Tryz.prog 14 #[.agg (v3 ax ay az), .agg (v3 bx b_y bz_)] w fun e w' => e = .returned (.agg (v3 x y z)) ∧ Below w.heap.size w w' := by
  go_enter Tryz.func14, Tryz.ntmps14
  go_upto_region 1 with fail
  have D := hide ((((Gen.start w).push 24 (v3 ax ay az)).push 24 (v3 bx b_y bz_)).push 24 (v3 0 0 0))
  simp only [szA] at D
  refine region_last (S := Gen w _) (f := 16) (l := [0, 1, 2, 3, 4, 5, 6, 7, 8, 9, 10, 11, 12, 13, 14, 15]) (by kernel_rfl) (by kernel_rfl) (by kernel_rfl) (by kernel_rfl) (by kernel_rfl) (by kernel_rfl) (by kernel_rfl) (by kernel_rfl) (by kernel_rfl) (by kernel_rfl) rfl rfl (unhide D).drew ?_
  clear D
  refine plan_read (v := ?_) rfl rfl (fun u hS => by go_simp; rfl) ?_
  go_simp
  refine plan_read (v := .int .i64 ax) rfl rfl (fun u hS => exec_loadFG hS _ rfl rfl (by repeat (first | exact List.mem_cons_self | apply List.mem_cons_of_mem)) rfl) ?_
  go_simp
  refine plan_read (v := ?_) rfl rfl (fun u hS => by go_simp; rfl) ?_
  go_simp
  refine plan_read (v := .int .i64 bx) rfl rfl (fun u hS => exec_loadFG hS _ rfl rfl (by repeat (first | exact List.mem_cons_self | apply List.mem_cons_of_mem)) rfl) ?_
  go_simp
  refine plan_call (v := .int .i64 x) (f := 46) (args := #[.int .i64 ax, .int .i64 bx]) rfl rfl (fun u hS => by go_simp) (fun u hS => (unhide h0 u).mono fun _ _ ⟨he, hb⟩ => ⟨he, hS.keep hb⟩) ?_
  go_simp
  refine plan_read (v := ?_) rfl rfl (fun u hS => by go_simp; rfl) ?_
  go_simp
  refine plan_read (v := .int .i64 ay) rfl rfl (fun u hS => exec_loadFG hS _ rfl rfl (by repeat (first | exact List.mem_cons_self | apply List.mem_cons_of_mem)) rfl) ?_
  go_simp
  refine plan_read (v := ?_) rfl rfl (fun u hS => by go_simp; rfl) ?_
  go_simp
  refine plan_read (v := .int .i64 b_y) rfl rfl (fun u hS => exec_loadFG hS _ rfl rfl (by repeat (first | exact List.mem_cons_self | apply List.mem_cons_of_mem)) rfl) ?_
  go_simp
  refine plan_call (v := .int .i64 y) (f := 46) (args := #[.int .i64 ay, .int .i64 b_y]) rfl rfl (fun u hS => by go_simp) (fun u hS => (unhide h1 u).mono fun _ _ ⟨he, hb⟩ => ⟨he, hS.keep hb⟩) ?_
  go_simp
  refine plan_read (v := ?_) rfl rfl (fun u hS => by go_simp; rfl) ?_
  go_simp
  refine plan_read (v := .int .i64 az) rfl rfl (fun u hS => exec_loadFG hS _ rfl rfl (by repeat (first | exact List.mem_cons_self | apply List.mem_cons_of_mem)) rfl) ?_
  go_simp
  refine plan_read (v := ?_) rfl rfl (fun u hS => by go_simp; rfl) ?_
  go_simp
  refine plan_read (v := .int .i64 bz_) rfl rfl (fun u hS => exec_loadFG hS _ rfl rfl (by repeat (first | exact List.mem_cons_self | apply List.mem_cons_of_mem)) rfl) ?_
  go_simp
  refine plan_call (v := .int .i64 z) (f := 46) (args := #[.int .i64 az, .int .i64 bz_]) rfl rfl (fun u hS => by go_simp) (fun u hS => (unhide h2 u).mono fun _ _ ⟨he, hb⟩ => ⟨he, hS.keep hb⟩) ?_
  go_simp
  refine plan_read (v := .agg (v3 x y z)) rfl rfl (fun u hS => by go_simp) ?_
  go_simp
  refine plan_last (fun u hS => ?_)
  refine wp_store_row 24 (.tmp 4) (.tmp 20) rfl _ (v3 x y z) rfl rfl 24 (v3 0 0 0) (hS.blk (by repeat (first | exact List.mem_cons_self | apply List.mem_cons_of_mem))) iVec3 rfl (v3_one _ _ _) ?_
  have B := hide ((hS.blk (g := w.heap.size + 1 + 1) (t := 24) (cs := (v3 0 0 0)) (by repeat (first | exact List.mem_cons_self | apply List.mem_cons_of_mem))).row (v3 x y z))
  have O := hide (below_row hS.o (show w.heap.size ≤ w.heap.size + 1 + 1 by omega) (v3 x y z))
  clear hS
  go_wp2
  exact resG rVec (unhide B) rfl rfl rfl rfl ⟨rfl, unhide O⟩
set_option maxHeartbeats 2000000 in
theorem Scale3_core (ax ay az k x y z : Int) (w : World) (h0 : Hid (Ans 49 #[.int .i64 ax, .int .i64 k, .bool false] (.int .i64 x))) (h1 : Hid (Ans 49 #[.int .i64 ay, .int .i64 k, .bool false] (.int .i64 y))) (h2 : Hid (Ans 49 #[.int .i64 az, .int .i64 k, .bool false] (.int .i64 z))) :
    Calls Tryz.prog 16 #[.agg (v3 ax ay az), .int .i64 k] w fun e w' => e = .returned (.agg (v3 x y z)) ∧ Below w.heap.size w w' := by
  go_enter Tryz.func16, Tryz.ntmps16
  go_upto_region 1 with fail
  have D := hide (((Gen.start w).push 24 (v3 ax ay az)).push 24 (v3 0 0 0))
  simp only [szA] at D
  refine region_last (S := Gen w _) (f := 13) (l := [0, 1, 2, 3, 4, 5, 6, 7, 8, 9, 10, 11, 12]) (by kernel_rfl) (by kernel_rfl) (by kernel_rfl) (by kernel_rfl) (by kernel_rfl) (by kernel_rfl) (by kernel_rfl) (by kernel_rfl) (by kernel_rfl) (by kernel_rfl) rfl rfl (unhide D).drew ?_
  clear D
  refine plan_read (v := ?_) rfl rfl (fun u hS => by go_simp; rfl) ?_
  go_simp
  refine plan_read (v := .int .i64 ax) rfl rfl (fun u hS => exec_loadFG hS _ rfl rfl (by repeat (first | exact List.mem_cons_self | apply List.mem_cons_of_mem)) rfl) ?_
  go_simp
  refine plan_read (v := ?_) rfl rfl (fun u hS => by go_simp; rfl) ?_
  go_simp
  refine plan_call (v := .int .i64 x) (f := 49) (args := #[.int .i64 ax, .int .i64 k, Value.bool false]) rfl rfl (fun u hS => by go_simp) (fun u hS => (unhide h0 u).mono fun _ _ ⟨he, hb⟩ => ⟨he, hS.keep hb⟩) ?_
  go_simp
  refine plan_read (v := ?_) rfl rfl (fun u hS => by go_simp; rfl) ?_
  go_simp
  refine plan_read (v := .int .i64 ay) rfl rfl (fun u hS => exec_loadFG hS _ rfl rfl (by repeat (first | exact List.mem_cons_self | apply List.mem_cons_of_mem)) rfl) ?_
  go_simp
  refine plan_read (v := ?_) rfl rfl (fun u hS => by go_simp; rfl) ?_
  go_simp
  refine plan_call (v := .int .i64 y) (f := 49) (args := #[.int .i64 ay, .int .i64 k, Value.bool false]) rfl rfl (fun u hS => by go_simp) (fun u hS => (unhide h1 u).mono fun _ _ ⟨he, hb⟩ => ⟨he, hS.keep hb⟩) ?_
  go_simp
  refine plan_read (v := ?_) rfl rfl (fun u hS => by go_simp; rfl) ?_
  go_simp
  refine plan_read (v := .int .i64 az) rfl rfl (fun u hS => exec_loadFG hS _ rfl rfl (by repeat (first | exact List.mem_cons_self | apply List.mem_cons_of_mem)) rfl) ?_
  go_simp
  refine plan_read (v := ?_) rfl rfl (fun u hS => by go_simp; rfl) ?_
  go_simp
  refine plan_call (v := .int .i64 z) (f := 49) (args := #[.int .i64 az, .int .i64 k, Value.bool false]) rfl rfl (fun u hS => by go_simp) (fun u hS => (unhide h2 u).mono fun _ _ ⟨he, hb⟩ => ⟨he, hS.keep hb⟩) ?_
  go_simp
  refine plan_read (v := .agg (v3 x y z)) rfl rfl (fun u hS => by go_simp) ?_
  go_simp
  refine plan_last (fun u hS => ?_)
  refine wp_store_row 24 (.tmp 4) (.tmp 17) rfl _ (v3 x y z) rfl rfl 24 (v3 0 0 0) (hS.blk (by repeat (first | exact List.mem_cons_self | apply List.mem_cons_of_mem))) iVec3 rfl (v3_one _ _ _) ?_
  have B := hide ((hS.blk (g := w.heap.size + 1) (t := 24) (cs := (v3 0 0 0)) (by repeat (first | exact List.mem_cons_self | apply List.mem_cons_of_mem))).row (v3 x y z))
  have O := hide (below_row hS.o (show w.heap.size ≤ w.heap.size + 1 by omega) (v3 x y z))
  clear hS
  go_wp2
  exact resG rVec (unhide B) rfl rfl rfl rfl ⟨rfl, unhide O⟩
set_option maxHeartbeats 2000000 in
theorem Cross3_core (ax ay az bx b_y bz_ x y z : Int) (w : World) (h0 : Hid (Ans 57 #[.int .i64 ay, .int .i64 bz_, .int .i64 az, .int .i64 b_y] (.int .i64 x))) (h1 : Hid (Ans 57 #[.int .i64 az, .int .i64 bx, .int .i64 ax, .int .i64 bz_] (.int .i64 y))) (h2 : Hid (Ans 57 #[.int .i64 ax, .int .i64 b_y, .int .i64 ay, .int .i64 bx] (.int .i64 z))) :
    Calls Tryz.prog 21 #[.agg (v3 ax ay az), .agg (v3 bx b_y bz_)] w fun e w' => e = .returned (.agg (v3 x y z)) ∧ Below w.heap.size w w' := by
  go_enter Tryz.func21, Tryz.ntmps21
  go_upto_region 1 with fail
  have D := hide ((((Gen.start w).push 24 (v3 ax ay az)).push 24 (v3 bx b_y bz_)).push 24 (v3 0 0 0))
  simp only [szA] at D
  refine region_last (S := Gen w _) (f := 28) (l := [0, 1, 2, 3, 4, 5, 6, 7, 8, 9, 10, 11, 12, 13, 14, 15, 16, 17, 18, 19, 20, 21, 22, 23, 24, 25, 26, 27]) (by kernel_rfl) (by kernel_rfl) (by kernel_rfl) (by kernel_rfl) (by kernel_rfl) (by kernel_rfl) (by kernel_rfl) (by kernel_rfl) (by kernel_rfl) (by kernel_rfl) rfl rfl (unhide D).drew ?_
  clear D
  refine plan_read (v := ?_) rfl rfl (fun u hS => by go_simp; rfl) ?_
  go_simp
  refine plan_read (v := .int .i64 ay) rfl rfl (fun u hS => exec_loadFG hS _ rfl rfl (by repeat (first | exact List.mem_cons_self | apply List.mem_cons_of_mem)) rfl) ?_
  go_simp
  refine plan_read (v := ?_) rfl rfl (fun u hS => by go_simp; rfl) ?_
  go_simp
  refine plan_read (v := .int .i64 bz_) rfl rfl (fun u hS => exec_loadFG hS _ rfl rfl (by repeat (first | exact List.mem_cons_self | apply List.mem_cons_of_mem)) rfl) ?_
  go_simp
  refine plan_read (v := ?_) rfl rfl (fun u hS => by go_simp; rfl) ?_
  go_simp
  refine plan_read (v := .int .i64 az) rfl rfl (fun u hS => exec_loadFG hS _ rfl rfl (by repeat (first | exact List.mem_cons_self | apply List.mem_cons_of_mem)) rfl) ?_
  go_simp
  refine plan_read (v := ?_) rfl rfl (fun u hS => by go_simp; rfl) ?_
  go_simp
  refine plan_read (v := .int .i64 b_y) rfl rfl (fun u hS => exec_loadFG hS _ rfl rfl (by repeat (first | exact List.mem_cons_self | apply List.mem_cons_of_mem)) rfl) ?_
  go_simp
  refine plan_call (v := .int .i64 x) (f := 57) (args := #[.int .i64 ay, .int .i64 bz_, .int .i64 az, .int .i64 b_y]) rfl rfl (fun u hS => by go_simp) (fun u hS => (unhide h0 u).mono fun _ _ ⟨he, hb⟩ => ⟨he, hS.keep hb⟩) ?_
  go_simp
  refine plan_read (v := ?_) rfl rfl (fun u hS => by go_simp; rfl) ?_
  go_simp
  refine plan_read (v := .int .i64 az) rfl rfl (fun u hS => exec_loadFG hS _ rfl rfl (by repeat (first | exact List.mem_cons_self | apply List.mem_cons_of_mem)) rfl) ?_
  go_simp
  refine plan_read (v := ?_) rfl rfl (fun u hS => by go_simp; rfl) ?_
  go_simp
  refine plan_read (v := .int .i64 bx) rfl rfl (fun u hS => exec_loadFG hS _ rfl rfl (by repeat (first | exact List.mem_cons_self | apply List.mem_cons_of_mem)) rfl) ?_
  go_simp
  refine plan_read (v := ?_) rfl rfl (fun u hS => by go_simp; rfl) ?_
  go_simp
  refine plan_read (v := .int .i64 ax) rfl rfl (fun u hS => exec_loadFG hS _ rfl rfl (by repeat (first | exact List.mem_cons_self | apply List.mem_cons_of_mem)) rfl) ?_
  go_simp
  refine plan_read (v := ?_) rfl rfl (fun u hS => by go_simp; rfl) ?_
  go_simp
  refine plan_read (v := .int .i64 bz_) rfl rfl (fun u hS => exec_loadFG hS _ rfl rfl (by repeat (first | exact List.mem_cons_self | apply List.mem_cons_of_mem)) rfl) ?_
  go_simp
  refine plan_call (v := .int .i64 y) (f := 57) (args := #[.int .i64 az, .int .i64 bx, .int .i64 ax, .int .i64 bz_]) rfl rfl (fun u hS => by go_simp) (fun u hS => (unhide h1 u).mono fun _ _ ⟨he, hb⟩ => ⟨he, hS.keep hb⟩) ?_
  go_simp
  refine plan_read (v := ?_) rfl rfl (fun u hS => by go_simp; rfl) ?_
  go_simp
  refine plan_read (v := .int .i64 ax) rfl rfl (fun u hS => exec_loadFG hS _ rfl rfl (by repeat (first | exact List.mem_cons_self | apply List.mem_cons_of_mem)) rfl) ?_
  go_simp
  refine plan_read (v := ?_) rfl rfl (fun u hS => by go_simp; rfl) ?_
  go_simp
  refine plan_read (v := .int .i64 b_y) rfl rfl (fun u hS => exec_loadFG hS _ rfl rfl (by repeat (first | exact List.mem_cons_self | apply List.mem_cons_of_mem)) rfl) ?_
  go_simp
  refine plan_read (v := ?_) rfl rfl (fun u hS => by go_simp; rfl) ?_
  go_simp
  refine plan_read (v := .int .i64 ay) rfl rfl (fun u hS => exec_loadFG hS _ rfl rfl (by repeat (first | exact List.mem_cons_self | apply List.mem_cons_of_mem)) rfl) ?_
  go_simp
  refine plan_read (v := ?_) rfl rfl (fun u hS => by go_simp; rfl) ?_
  go_simp
  refine plan_read (v := .int .i64 bx) rfl rfl (fun u hS => exec_loadFG hS _ rfl rfl (by repeat (first | exact List.mem_cons_self | apply List.mem_cons_of_mem)) rfl) ?_
  go_simp
  refine plan_call (v := .int .i64 z) (f := 57) (args := #[.int .i64 ax, .int .i64 b_y, .int .i64 ay, .int .i64 bx]) rfl rfl (fun u hS => by go_simp) (fun u hS => (unhide h2 u).mono fun _ _ ⟨he, hb⟩ => ⟨he, hS.keep hb⟩) ?_
  go_simp
  refine plan_read (v := .agg (v3 x y z)) rfl rfl (fun u hS => by go_simp) ?_
  go_simp
  refine plan_last (fun u hS => ?_)
  refine wp_store_row 24 (.tmp 4) (.tmp 32) rfl _ (v3 x y z) rfl rfl 24 (v3 0 0 0) (hS.blk (by repeat (first | exact List.mem_cons_self | apply List.mem_cons_of_mem))) iVec3 rfl (v3_one _ _ _) ?_
  have B := hide ((hS.blk (g := w.heap.size + 1 + 1) (t := 24) (cs := (v3 0 0 0)) (by repeat (first | exact List.mem_cons_self | apply List.mem_cons_of_mem))).row (v3 x y z))
  have O := hide (below_row hS.o (show w.heap.size ≤ w.heap.size + 1 + 1 by omega) (v3 x y z))
  clear hS
  go_wp2
  exact resG rVec (unhide B) rfl rfl rfl rfl ⟨rfl, unhide O⟩
set_option maxHeartbeats 2000000 in
theorem Move3_core (ax ay az bx b_y bz_ t x y z : Int) (w : World) (h0 : Hid (Ans 82 #[.int .i64 ax, .int .i64 bx, .int .i64 t] (.int .i64 x))) (h1 : Hid (Ans 82 #[.int .i64 ay, .int .i64 b_y, .int .i64 t] (.int .i64 y))) (h2 : Hid (Ans 82 #[.int .i64 az, .int .i64 bz_, .int .i64 t] (.int .i64 z))) :
    Calls Tryz.prog 30 #[.agg (v3 ax ay az), .agg (v3 bx b_y bz_), .int .i64 t] w fun e w' => e = .returned (.agg (v3 x y z)) ∧ Below w.heap.size w w' := by
  go_enter Tryz.func30, Tryz.ntmps30
  go_upto_region 1 with fail
  have D := hide ((((Gen.start w).push 24 (v3 ax ay az)).push 24 (v3 bx b_y bz_)).push 24 (v3 0 0 0))
  simp only [szA] at D
  refine region_last (S := Gen w _) (f := 19) (l := [0, 1, 2, 3, 4, 5, 6, 7, 8, 9, 10, 11, 12, 13, 14, 15, 16, 17, 18]) (by kernel_rfl) (by kernel_rfl) (by kernel_rfl) (by kernel_rfl) (by kernel_rfl) (by kernel_rfl) (by kernel_rfl) (by kernel_rfl) (by kernel_rfl) (by kernel_rfl) rfl rfl (unhide D).drew ?_
  clear D
  refine plan_read (v := ?_) rfl rfl (fun u hS => by go_simp; rfl) ?_
  go_simp
  refine plan_read (v := .int .i64 ax) rfl rfl (fun u hS => exec_loadFG hS _ rfl rfl (by repeat (first | exact List.mem_cons_self | apply List.mem_cons_of_mem)) rfl) ?_
  go_simp
  refine plan_read (v := ?_) rfl rfl (fun u hS => by go_simp; rfl) ?_
  go_simp
  refine plan_read (v := .int .i64 bx) rfl rfl (fun u hS => exec_loadFG hS _ rfl rfl (by repeat (first | exact List.mem_cons_self | apply List.mem_cons_of_mem)) rfl) ?_
  go_simp
  refine plan_read (v := ?_) rfl rfl (fun u hS => by go_simp; rfl) ?_
  go_simp
  refine plan_call (v := .int .i64 x) (f := 82) (args := #[.int .i64 ax, .int .i64 bx, .int .i64 t]) rfl rfl (fun u hS => by go_simp) (fun u hS => (unhide h0 u).mono fun _ _ ⟨he, hb⟩ => ⟨he, hS.keep hb⟩) ?_
  go_simp
  refine plan_read (v := ?_) rfl rfl (fun u hS => by go_simp; rfl) ?_
  go_simp
  refine plan_read (v := .int .i64 ay) rfl rfl (fun u hS => exec_loadFG hS _ rfl rfl (by repeat (first | exact List.mem_cons_self | apply List.mem_cons_of_mem)) rfl) ?_
  go_simp
  refine plan_read (v := ?_) rfl rfl (fun u hS => by go_simp; rfl) ?_
  go_simp
  refine plan_read (v := .int .i64 b_y) rfl rfl (fun u hS => exec_loadFG hS _ rfl rfl (by repeat (first | exact List.mem_cons_self | apply List.mem_cons_of_mem)) rfl) ?_
  go_simp
  refine plan_read (v := ?_) rfl rfl (fun u hS => by go_simp; rfl) ?_
  go_simp
  refine plan_call (v := .int .i64 y) (f := 82) (args := #[.int .i64 ay, .int .i64 b_y, .int .i64 t]) rfl rfl (fun u hS => by go_simp) (fun u hS => (unhide h1 u).mono fun _ _ ⟨he, hb⟩ => ⟨he, hS.keep hb⟩) ?_
  go_simp
  refine plan_read (v := ?_) rfl rfl (fun u hS => by go_simp; rfl) ?_
  go_simp
  refine plan_read (v := .int .i64 az) rfl rfl (fun u hS => exec_loadFG hS _ rfl rfl (by repeat (first | exact List.mem_cons_self | apply List.mem_cons_of_mem)) rfl) ?_
  go_simp
  refine plan_read (v := ?_) rfl rfl (fun u hS => by go_simp; rfl) ?_
  go_simp
  refine plan_read (v := .int .i64 bz_) rfl rfl (fun u hS => exec_loadFG hS _ rfl rfl (by repeat (first | exact List.mem_cons_self | apply List.mem_cons_of_mem)) rfl) ?_
  go_simp
  refine plan_read (v := ?_) rfl rfl (fun u hS => by go_simp; rfl) ?_
  go_simp
  refine plan_call (v := .int .i64 z) (f := 82) (args := #[.int .i64 az, .int .i64 bz_, .int .i64 t]) rfl rfl (fun u hS => by go_simp) (fun u hS => (unhide h2 u).mono fun _ _ ⟨he, hb⟩ => ⟨he, hS.keep hb⟩) ?_
  go_simp
  refine plan_read (v := .agg (v3 x y z)) rfl rfl (fun u hS => by go_simp) ?_
  go_simp
  refine plan_last (fun u hS => ?_)
  refine wp_store_row 24 (.tmp 6) (.tmp 25) rfl _ (v3 x y z) rfl rfl 24 (v3 0 0 0) (hS.blk (by repeat (first | exact List.mem_cons_self | apply List.mem_cons_of_mem))) iVec3 rfl (v3_one _ _ _) ?_
  have B := hide ((hS.blk (g := w.heap.size + 1 + 1) (t := 24) (cs := (v3 0 0 0)) (by repeat (first | exact List.mem_cons_self | apply List.mem_cons_of_mem))).row (v3 x y z))
  have O := hide (below_row hS.o (show w.heap.size ≤ w.heap.size + 1 + 1 by omega) (v3 x y z))
  clear hS
  go_wp2
  exact resG rVec (unhide B) rfl rfl rfl rfl ⟨rfl, unhide O⟩
theorem dot3_core (ax ay az bx b_y bz_ v : Int) (R : Nat) (w : World) (hE : Hid (Ans 53 #[.agg (v3 ax ay az), .agg (v3 bx b_y bz_)] (.agg (cells8 R)))) (hI : Hid (Ans 52 #[.agg (cells8 R), .int .i64 64] (.int .i64 v))) :
    Calls Tryz.prog 19 #[.agg (v3 ax ay az), .agg (v3 bx b_y bz_)] w fun e w' => e = .returned (.int .i64 v) ∧ Below w.heap.size w w' := by
  go_enter Tryz.func19, Tryz.ntmps19
  go_upto_region 1 with fail
  have D := hide (((Gen.start w).push 24 (v3 ax ay az)).push 24 (v3 bx b_y bz_))
  simp only [szA] at D
  go_wp2_with (first | (with_reducible refine at_list ?_; apply ldG (unhide D) rVec _ rfl rfl rfl (by repeat (first | exact List.mem_cons_self | apply List.mem_cons_of_mem)) rfl) | (go_at_call 53; with_reducible refine (unhide hE _).mono ?_; rintro e w' ⟨he, hb⟩; subst he; have D := hide ((unhide D).keep hb); clear hb) | (go_at_call 52; with_reducible refine (unhide hI _).mono ?_; rintro e w' ⟨he, hb⟩; subst he; have D := hide ((unhide D).keep hb); clear hb))
  go_ret
  exact ⟨rfl, (unhide D).o⟩
theorem minor3_core (a b c d v : Int) (A B C D' P Q R : Nat) (w : World) (h1 : Hid (Ans 80 #[.int .i64 a] (.agg (cells8 A)))) (h2 : Hid (Ans 80 #[.int .i64 b] (.agg (cells8 B)))) (h3 : Hid (Ans 80 #[.int .i64 c] (.agg (cells8 C)))) (h4 : Hid (Ans 80 #[.int .i64 d] (.agg (cells8 D'))))
    (hP : Hid (Ans 61 #[.agg (cells8 A), .agg (cells8 B)] (.agg (cells8 P)))) (hQ : Hid (Ans 61 #[.agg (cells8 C), .agg (cells8 D')] (.agg (cells8 Q)))) (hR : Hid (Ans 114 #[.agg (cells8 P), .agg (cells8 Q)] (.agg (cells8 R)))) (hI : Hid (Ans 52 #[.agg (cells8 R), .int .i64 64] (.int .i64 v))) :
    Calls Tryz.prog 57 #[.int .i64 a, .int .i64 b, .int .i64 c, .int .i64 d] w fun e w' => e = .returned (.int .i64 v) ∧ Below w.heap.size w w' := by
  have D := hide (Gen.start w)
  go_enter Tryz.func57, Tryz.ntmps57
  go_wp2_with (first | (go_at_call 80; with_reducible refine (unhide h1 _).mono ?_; rintro e w' ⟨he, hb⟩; subst he; have D := hide ((unhide D).keep hb); clear hb) | (go_at_call 80; with_reducible refine (unhide h2 _).mono ?_; rintro e w' ⟨he, hb⟩; subst he; have D := hide ((unhide D).keep hb); clear hb) | (go_at_call 80; with_reducible refine (unhide h3 _).mono ?_; rintro e w' ⟨he, hb⟩; subst he; have D := hide ((unhide D).keep hb); clear hb) | (go_at_call 80; with_reducible refine (unhide h4 _).mono ?_; rintro e w' ⟨he, hb⟩; subst he; have D := hide ((unhide D).keep hb); clear hb) | (go_at_call 61; with_reducible refine (unhide hP _).mono ?_; rintro e w' ⟨he, hb⟩; subst he; have D := hide ((unhide D).keep hb); clear hb) | (go_at_call 61; with_reducible refine (unhide hQ _).mono ?_; rintro e w' ⟨he, hb⟩; subst he; have D := hide ((unhide D).keep hb); clear hb) | (go_at_call 114; with_reducible refine (unhide hR _).mono ?_; rintro e w' ⟨he, hb⟩; subst he; have D := hide ((unhide D).keep hb); clear hb) | (go_at_call 52; with_reducible refine (unhide hI _).mono ?_; rintro e w' ⟨he, hb⟩; subst he; have D := hide ((unhide D).keep hb); clear hb))
  go_ret
  exact ⟨rfl, (unhide D).o⟩
theorem further3_core (a b c v : Int) (A B C T P Q : Nat) (w : World) (h1 : Hid (Ans 80 #[.int .i64 a] (.agg (cells8 A)))) (h2 : Hid (Ans 80 #[.int .i64 b] (.agg (cells8 B)))) (h3 : Hid (Ans 80 #[.int .i64 c] (.agg (cells8 C))))
    (hT : Hid (Ans 124 #[.agg (cells8 A), .int .i64 32] (.agg (cells8 T)))) (hP : Hid (Ans 61 #[.agg (cells8 B), .agg (cells8 C)] (.agg (cells8 P)))) (hQ : Hid (Ans 62 #[.agg (cells8 T), .agg (cells8 P)] (.agg (cells8 Q)))) (hI : Hid (Ans 52 #[.agg (cells8 Q), .int .i64 64] (.int .i64 v))) :
    Calls Tryz.prog 82 #[.int .i64 a, .int .i64 b, .int .i64 c] w fun e w' => e = .returned (.int .i64 v) ∧ Below w.heap.size w w' := by
  have D := hide (Gen.start w)
  go_enter Tryz.func82, Tryz.ntmps82
  go_wp2_with (first | (go_at_call 80; with_reducible refine (unhide h1 _).mono ?_; rintro e w' ⟨he, hb⟩; subst he; have D := hide ((unhide D).keep hb); clear hb) | (go_at_call 80; with_reducible refine (unhide h2 _).mono ?_; rintro e w' ⟨he, hb⟩; subst he; have D := hide ((unhide D).keep hb); clear hb) | (go_at_call 80; with_reducible refine (unhide h3 _).mono ?_; rintro e w' ⟨he, hb⟩; subst he; have D := hide ((unhide D).keep hb); clear hb) | (go_at_call 61; with_reducible refine (unhide hP _).mono ?_; rintro e w' ⟨he, hb⟩; subst he; have D := hide ((unhide D).keep hb); clear hb) | (go_at_call 124; with_reducible refine (unhide hT _).mono ?_; rintro e w' ⟨he, hb⟩; subst he; have D := hide ((unhide D).keep hb); clear hb) | (go_at_call 62; with_reducible refine (unhide hQ _).mono ?_; rintro e w' ⟨he, hb⟩; subst he; have D := hide ((unhide D).keep hb); clear hb) | (go_at_call 52; with_reducible refine (unhide hI _).mono ?_; rintro e w' ⟨he, hb⟩; subst he; have D := hide ((unhide D).keep hb); clear hb))
  go_ret
  exact ⟨rfl, (unhide D).o⟩
theorem i64_64 : I64 64 := ⟨by decide, by decide⟩
theorem Dot3 (ax ay az bx b_y bz_ : Int) (h1 : I64 ax) (h2 : I64 ay) (h3 : I64 az) (h4 : I64 bx) (h5 : I64 b_y) (h6 : I64 bz_) : Ans 19 #[.agg (v3 ax ay az), .agg (v3 bx b_y bz_)] (.int .i64 (cl ((ax * bx + ay * b_y + az * bz_) / 4294967296))) := fun w =>
  dot3_core ax ay az bx b_y bz_ _ _ w (Exact3 ax ay az bx b_y bz_ h1 h2 h3 h4 h5 h6) (InR _ 64 ((((h1.sz.mul h4.sz).add (h2.sz.mul h5.sz)).add ((h3.sz.mul h6.sz).mono (by decide))).fit (by decide)) i64_64)
theorem Minor3 (p q r s : Int) (h1 : I64 p) (h2 : I64 q) (h3 : I64 r) (h4 : I64 s) : Ans 57 #[.int .i64 p, .int .i64 q, .int .i64 r, .int .i64 s] (.int .i64 (crI p q r s)) := fun w =>
  have t1 := h1.sz.mul h2.sz
  have t2 := h3.sz.mul h4.sz
  have e : crI p q r s = inI (p * q - r * s) 64 := by
    rw [inI_64]
    unfold crI
    rw [Int.neg_mul, Int.sub_eq_add_neg]
  e ▸ minor3_core p q r s _ _ _ _ _ _ _ _ w (Raw3 p h1) (Raw3 q h2) (Raw3 r h3) (Raw3 s h4) (Times3 h1.sz h2.sz (by decide)) (Times3 h3.sz h4.sz (by decide)) (Less3 t1 t2 (by decide)) (InR _ 64 ((t1.sub t2).fit (by decide)) i64_64)
theorem Further3 (a v t : Int) (h1 : I64 a) (h2 : I64 v) (h3 : I64 t) : Ans 82 #[.int .i64 a, .int .i64 v, .int .i64 t] (.int .i64 (movI a v t)) := fun w =>
  have t1 : Sz 126 (a * ((2 ^ (32 : Int).toNat : Nat) : Int)) := (h1.sz.mul (show Sz 32 _ by unfold Sz; decide)).mono (by decide)
  have t2 := h2.sz.mul h3.sz
  further3_core a v t _ _ _ _ _ _ _ w (Raw3 a h1) (Raw3 v h2) (Raw3 t h3) (Twice3 32 h1.fit (by decide) (t1.fit (by decide))) (Times3 h2.sz h3.sz (by decide)) (Plus3 t1 t2 (by decide)) (InR _ 64 ((t1.add t2).fit (by decide)) i64_64)
theorem Add3 (ax ay az bx b_y bz_ : Int) (h1 : I64 ax) (h2 : I64 ay) (h3 : I64 az) (h4 : I64 bx) (h5 : I64 b_y) (h6 : I64 bz_) : Ans 12 #[.agg (v3 ax ay az), .agg (v3 bx b_y bz_)] (.agg (v3 (cl (ax + bx)) (cl (ay + b_y)) (cl (az + bz_)))) := fun w =>
  Add3_core ax ay az bx b_y bz_ _ _ _ w (AddR ax bx h1 h4) (AddR ay b_y h2 h5) (AddR az bz_ h3 h6)
theorem Sub3 (ax ay az bx b_y bz_ : Int) (h1 : I64 ax) (h2 : I64 ay) (h3 : I64 az) (h4 : I64 bx) (h5 : I64 b_y) (h6 : I64 bz_) : Ans 14 #[.agg (v3 ax ay az), .agg (v3 bx b_y bz_)] (.agg (v3 (cl (ax - bx)) (cl (ay - b_y)) (cl (az - bz_)))) := fun w =>
  Sub3_core ax ay az bx b_y bz_ _ _ _ w (SubR ax bx h1 h4) (SubR ay b_y h2 h5) (SubR az bz_ h3 h6)
theorem MulR0 (x y : Int) (hx : I64 x) (hy : I64 y) : Ans 49 #[.int .i64 x, .int .i64 y, .bool false] (.int .i64 (mulD x y)) := MulR x y false hx hy
theorem Scale3 (ax ay az k : Int) (h1 : I64 ax) (h2 : I64 ay) (h3 : I64 az) (h4 : I64 k) : Ans 16 #[.agg (v3 ax ay az), .int .i64 k] (.agg (v3 (mulD ax k) (mulD ay k) (mulD az k))) := fun w =>
  Scale3_core ax ay az k _ _ _ w (MulR0 ax k h1 h4) (MulR0 ay k h2 h4) (MulR0 az k h3 h4)
theorem Cross3 (ax ay az bx b_y bz_ : Int) (h1 : I64 ax) (h2 : I64 ay) (h3 : I64 az) (h4 : I64 bx) (h5 : I64 b_y) (h6 : I64 bz_) : Ans 21 #[.agg (v3 ax ay az), .agg (v3 bx b_y bz_)] (.agg (v3 (crI ay bz_ az b_y) (crI az bx ax bz_) (crI ax b_y ay bx))) := fun w =>
  Cross3_core ax ay az bx b_y bz_ _ _ _ w (Minor3 ay bz_ az b_y h2 h6 h3 h5) (Minor3 az bx ax bz_ h3 h4 h1 h6) (Minor3 ax b_y ay bx h1 h5 h2 h4)
theorem Move3 (ax ay az bx b_y bz_ t : Int) (h1 : I64 ax) (h2 : I64 ay) (h3 : I64 az) (h4 : I64 bx) (h5 : I64 b_y) (h6 : I64 bz_) (h7 : I64 t) : Ans 30 #[.agg (v3 ax ay az), .agg (v3 bx b_y bz_), .int .i64 t] (.agg (v3 (movI ax bx t) (movI ay b_y t) (movI az bz_ t))) := fun w =>
  Move3_core ax ay az bx b_y bz_ t _ _ _ w (Further3 ax bx t h1 h4 h7) (Further3 ay b_y t h2 h5 h7) (Further3 az bz_ t h3 h6 h7)

end Go.Proofs.YtljggjnaolbapaaGreat
