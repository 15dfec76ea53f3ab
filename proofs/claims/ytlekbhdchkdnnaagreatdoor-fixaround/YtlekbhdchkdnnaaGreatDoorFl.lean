/- The law FixAround. -/
import Derived.Test.YtlekbhdchkdnnaaGreatDoorFk
namespace Go.Proofs.YtlekbhdchkdnnaaGreatDoor
open Go.RowKit
set_option maxRecDepth 4000
set_option linter.unusedVariables false

set_option maxHeartbeats 2000000 in
theorem around_core (lo hi c1 c2 c3 c4 : Int) (X M1 M2 A B : Nat) (O1 O2 E : Bool) (w : World) (hO1 : decide (0 < c1) = O1) (hO2 : decide (c2 < 0) = O2)
    (mM : Hid (Ans 44 #[.int .i64 9223372036854775807] (.agg (cells8 M1)))) (mm : Hid (Ans 44 #[.int .i64 (-9223372036854775808)] (.agg (cells8 M2))))
    (k1 : Hid (Ans 45 #[.agg (cells8 X), .agg (cells8 M1)] (.int .i64 c1))) (k2 : Hid (Ans 45 #[.agg (cells8 X), .agg (cells8 M2)] (.int .i64 c2)))
    (wl : Hid (Ans 44 #[.int .i64 lo] (.agg (cells8 A)))) (wh : Hid (Ans 44 #[.int .i64 hi] (.agg (cells8 B))))
    (k3 : Hid (Ans 45 #[.agg (cells8 A), .agg (cells8 X)] (.int .i64 c3))) (k4 : Hid (Ans 45 #[.agg (cells8 X), .agg (cells8 B)] (.int .i64 c4)))
    (hin : Hid (O1 = false → O2 = false → decide (c3 ≤ 0) = true ∧ decide (c4 ≤ 0) = true ∧ wrap64 (hi - lo) ≤ 1 ∧ lo ≤ hi ∧ same A X = (lo == hi))) :
    Calls Tryz.prog 43 #[.int .i64 lo, .int .i64 hi, W X] w fun e w' => e = .returned (.bool true) ∧ Below w.heap.size w w' := by
  unfold W
  go_enter Tryz.func43, Tryz.ntmps43
  go_upto_region 1 with fail
  have D := hide (Env.one w X)
  cases O1
  · refine region_plan (S := Env w [(w.heap.size, X)]) (l := [0, 1, 2, 3, 4, 5, 6, 7, 8, 9]) (by kernel_rfl) (by kernel_rfl) (by kernel_rfl) (by kernel_rfl) (by kernel_rfl) (by kernel_rfl) (by kernel_rfl) ((unhide D).drew) ?_
    clear D
    refine plan_read rfl rfl (fun u hS => exec_load8 (n := X) 35 (.tmp 5) (hS.blk (by repeat (first | exact List.mem_cons_self | apply List.mem_cons_of_mem))) rfl rfl Tryz.underlying35 rfl iWide) ?_
    refine plan_call (v := .agg (cells8 M1)) (f := 44) (args := #[.int .i64 9223372036854775807]) rfl rfl (fun u hS => by go_simp) (fun u hS => (unhide mM u).mono fun _ _ ⟨he, hb⟩ => ⟨he, hS.keep hb⟩) ?_
    go_simp
    refine plan_call (v := .int .i64 c1) (f := 45) (args := #[.agg (cells8 X), .agg (cells8 M1)]) rfl rfl (fun u hS => by go_simp) (fun u hS => (unhide k1 u).mono fun _ _ ⟨he, hb⟩ => ⟨he, hS.keep hb⟩) ?_
    go_simp
    refine plan_read (v := .bool false) rfl rfl (fun u hS => by go_simp) ?_
    go_simp
    refine plan_read (v := ?_) rfl rfl (fun u hS => by go_simp; rfl) ?_
    go_simp
    refine plan_read rfl rfl (fun u hS => exec_load8 (n := X) 35 (.tmp 5) (hS.blk (by repeat (first | exact List.mem_cons_self | apply List.mem_cons_of_mem))) rfl rfl Tryz.underlying35 rfl iWide) ?_
    refine plan_call (v := .agg (cells8 M2)) (f := 44) (args := #[.int .i64 (-9223372036854775808)]) rfl rfl (fun u hS => by go_simp) (fun u hS => (unhide mm u).mono fun _ _ ⟨he, hb⟩ => ⟨he, hS.keep hb⟩) ?_
    go_simp
    refine plan_call (v := .int .i64 c2) (f := 45) (args := #[.agg (cells8 X), .agg (cells8 M2)]) rfl rfl (fun u hS => by go_simp) (fun u hS => (unhide k2 u).mono fun _ _ ⟨he, hb⟩ => ⟨he, hS.keep hb⟩) ?_
    go_simp
    refine plan_read (v := .bool O2) rfl rfl (fun u hS => by go_simp) ?_
    go_simp
    refine plan_read (v := .bool O2) rfl rfl (fun u hS => by go_simp) ?_
    go_simp
    refine plan_end (fun u hS => ?_)
    have D := hide hS
    clear hS
    cases O2
    · obtain ⟨q1, q2, q3, q4, q5⟩ := unhide hin rfl rfl
      have Q5 := hide q5
      have q3' : decide (wrap64 (hi - lo) ≤ 1) = true := decide_eq_true q3
      have q4' : decide (lo ≤ hi) = true := decide_eq_true q4
      clear q5 q3 q4 hin
      go_wp2_with (first | (with_reducible refine at_list ?_; apply ldE (unhide D) _ rfl rfl rfl (by repeat (first | exact List.mem_cons_self | apply List.mem_cons_of_mem))) | (with_reducible refine at_list ?_; apply ldEw (unhide D) _ rfl rfl rfl (by repeat (first | exact List.mem_cons_self | apply List.mem_cons_of_mem))) | (go_at_call 44; with_reducible refine (unhide wl _).mono ?_; rintro e w' ⟨he, hb⟩; subst he; have D := hide ((unhide D).keep hb); clear hb) | (go_at_call 44; with_reducible refine (unhide wh _).mono ?_; rintro e w' ⟨he, hb⟩; subst he; have D := hide ((unhide D).keep hb); clear hb) | (go_at_call 45; with_reducible refine (unhide k3 _).mono ?_; rintro e w' ⟨he, hb⟩; subst he; have D := hide ((unhide D).keep hb); clear hb) | (go_at_call 45; with_reducible refine (unhide k4 _).mono ?_; rintro e w' ⟨he, hb⟩; subst he; have D := hide ((unhide D).keep hb); clear hb) | (with_reducible refine at_list ?_;  refine stOne (n := A) rfl _ _ rfl rfl rfl rfl ?_) | (with_reducible refine at_list ?_;  refine stTwo (n := A) (m := B) (unhide D) rfl _ _ rfl rfl rfl rfl ?_; intro w1 D'; have D := D'; clear D') | (with_reducible refine at_list ?_; refine eqlEw (unhide Q5) _ _ rfl rfl rfl rfl ?_))
      go_ret
      exact ⟨rfl, (unhide D).o⟩
    · go_wp2
      go_ret
      exact ⟨rfl, (unhide D).o⟩
  · refine region_plan (S := Env w [(w.heap.size, X)]) (l := [0, 1, 2, 3, 4, 5, 6, 7, 8, 9]) (by kernel_rfl) (by kernel_rfl) (by kernel_rfl) (by kernel_rfl) (by kernel_rfl) (by kernel_rfl) (by kernel_rfl) ((unhide D).drew) ?_
    clear D
    refine plan_read rfl rfl (fun u hS => exec_load8 (n := X) 35 (.tmp 5) (hS.blk (by repeat (first | exact List.mem_cons_self | apply List.mem_cons_of_mem))) rfl rfl Tryz.underlying35 rfl iWide) ?_
    refine plan_call (v := .agg (cells8 M1)) (f := 44) (args := #[.int .i64 9223372036854775807]) rfl rfl (fun u hS => by go_simp) (fun u hS => (unhide mM u).mono fun _ _ ⟨he, hb⟩ => ⟨he, hS.keep hb⟩) ?_
    go_simp
    refine plan_call (v := .int .i64 c1) (f := 45) (args := #[.agg (cells8 X), .agg (cells8 M1)]) rfl rfl (fun u hS => by go_simp) (fun u hS => (unhide k1 u).mono fun _ _ ⟨he, hb⟩ => ⟨he, hS.keep hb⟩) ?_
    go_simp
    refine plan_read (v := .bool true) rfl rfl (fun u hS => by go_simp) ?_
    go_simp
    refine plan_read (v := ?_) rfl rfl (fun u hS => by go_simp; rfl) ?_
    go_simp
    refine plan_skip rfl rfl ?_
    go_simp
    refine plan_skip rfl rfl ?_
    go_simp
    refine plan_skip rfl rfl ?_
    go_simp
    refine plan_skip rfl rfl ?_
    go_simp
    refine plan_read (v := .bool true) rfl rfl (fun u hS => by go_simp) ?_
    go_simp
    refine plan_end (fun u hS => ?_)
    have D := hide hS
    clear hS
    go_wp2
    go_ret
    exact ⟨rfl, (unhide D).o⟩

end Go.Proofs.YtlekbhdchkdnnaaGreatDoor
