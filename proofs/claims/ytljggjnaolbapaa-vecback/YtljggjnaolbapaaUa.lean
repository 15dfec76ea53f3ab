/- Package vec's laws: VecBack. -/
import Derived.Test.YtljggjnaolbapaaVx
import Derived.Test.YtljggjnaolbapaaVw
namespace Go.Proofs.Ytljggjnaolbapaa
open Go.RowKit
set_option maxRecDepth 4000
set_option linter.unusedVariables false

set_option maxHeartbeats 4000000 in
theorem back_F (ax ay az bx b_y bz_ r dx dy dz n : Int) (N : Bool) (w : World) (hW : Hid (Ans 19 #[] (.bool true))) (hS' : Hid (Ans 30 #[.agg (v3 ax ay az), .agg (v3 bx b_y bz_)] (.agg (v3 dx dy dz)))) (hI0 : Hid (Ans 31 #[.int .i64 dx] (.bool false)))
    (hN1 : Hid (Ans 33 #[.agg (v3 ax ay az), .agg (v3 bx b_y bz_), .int .i64 r] (.bool N))) (hN2 : Hid (Ans 33 #[.agg (v3 bx b_y bz_), .agg (v3 ax ay az), .int .i64 r] (.bool N))) (hU : Hid (Ans 21 #[.agg (v3 dx dy dz)] (.int .i64 n))) :
    Calls Try.prog 6 #[.agg (v3 ax ay az), .agg (v3 bx b_y bz_), .int .i64 r] w fun e w' => e = .returned (.bool true) ∧ Below w.heap.size w w' := by
  go_enter Try.func6, Try.ntmps6
  go_upto_region 1 with fail
  have D := hide (((Gen.start w).push 24 (v3 ax ay az)).push 24 (v3 bx b_y bz_))
  simp only [szA] at D
  go_upto_region 3 with (first | (with_reducible refine at_list ?_; apply ldG (unhide D) rVec _ rfl rfl rfl (by repeat (first | exact List.mem_cons_self | apply List.mem_cons_of_mem)) rfl) | (go_at_call 30; with_reducible refine (unhide hS' _).mono ?_; rintro e w' ⟨he, hb⟩; subst he; have D := hide ((unhide D).keep hb); clear hb) | (with_reducible refine at_list ?_; refine stG (unhide D) rVec _ _ rfl rfl rfl rfl rfl rfl (v3_one _ _ _) ?_; intro D'; have D := hide D'; clear D') | (with_reducible refine at_list ?_; apply ldF (unhide D) _ rfl rfl rfl (by repeat (first | exact List.mem_cons_self | apply List.mem_cons_of_mem)) rfl) | (with_reducible refine at_list ?_; apply ldFw (unhide D) _ rfl rfl rfl (by repeat (first | exact List.mem_cons_self | apply List.mem_cons_of_mem)) rfl) | (go_at_call 31; with_reducible refine (unhide hI0 _).mono ?_; rintro e w' ⟨he, hb⟩; subst he; have D := hide ((unhide D).keep hb); clear hb))
  refine region_plan (S := Gen w _) (l := [0, 1, 2, 3, 4, 5, 6, 7, 8, 9, 10, 11, 12, 13, 14, 15, 16, 17, 18]) (by kernel_rfl) (by kernel_rfl) (by kernel_rfl) (by kernel_rfl) (by kernel_rfl) (by kernel_rfl) (by kernel_rfl) (unhide D).drew ?_
  clear D
  refine plan_read (v := ?_) rfl rfl (fun u hS => by go_simp; rfl) ?_
  go_simp
  refine plan_read (v := ?_) rfl rfl (fun u hS => by go_simp; rfl) ?_
  go_simp
  refine plan_skip rfl rfl ?_
  go_simp
  refine plan_skip rfl rfl ?_
  go_simp
  refine plan_skip rfl rfl ?_
  go_simp
  refine plan_skip rfl rfl ?_
  go_simp
  refine plan_skip rfl rfl ?_
  go_simp
  refine plan_read (v := ?_) rfl rfl (fun u hS => by go_simp; rfl) ?_
  go_simp
  refine plan_read (v := ?_) rfl rfl (fun u hS => by go_simp; rfl) ?_
  go_simp
  refine plan_read (v := .agg (v3 ax ay az)) rfl rfl (fun u hS => exec_loadG hS rVec _ rfl rfl (by repeat (first | exact List.mem_cons_self | apply List.mem_cons_of_mem)) rfl) ?_
  go_simp
  refine plan_read (v := .agg (v3 bx b_y bz_)) rfl rfl (fun u hS => exec_loadG hS rVec _ rfl rfl (by repeat (first | exact List.mem_cons_self | apply List.mem_cons_of_mem)) rfl) ?_
  go_simp
  refine plan_read (v := ?_) rfl rfl (fun u hS => by go_simp; rfl) ?_
  go_simp
  refine plan_call (v := .bool N) (f := 33) (args := #[.agg (v3 ax ay az), .agg (v3 bx b_y bz_), .int .i64 r]) rfl rfl (fun u hS => by go_simp) (fun u hS => (unhide hN1 u).mono fun _ _ ⟨he, hb⟩ => ⟨he, hS.keep hb⟩) ?_
  go_simp
  refine plan_read (v := .agg (v3 bx b_y bz_)) rfl rfl (fun u hS => exec_loadG hS rVec _ rfl rfl (by repeat (first | exact List.mem_cons_self | apply List.mem_cons_of_mem)) rfl) ?_
  go_simp
  refine plan_read (v := .agg (v3 ax ay az)) rfl rfl (fun u hS => exec_loadG hS rVec _ rfl rfl (by repeat (first | exact List.mem_cons_self | apply List.mem_cons_of_mem)) rfl) ?_
  go_simp
  refine plan_read (v := ?_) rfl rfl (fun u hS => by go_simp; rfl) ?_
  go_simp
  refine plan_call (v := .bool N) (f := 33) (args := #[.agg (v3 bx b_y bz_), .agg (v3 ax ay az), .int .i64 r]) rfl rfl (fun u hS => by go_simp) (fun u hS => (unhide hN2 u).mono fun _ _ ⟨he, hb⟩ => ⟨he, hS.keep hb⟩) ?_
  go_simp
  refine plan_read (v := .bool false) rfl rfl (fun u hS => by cases N <;> go_simp) ?_
  go_simp
  refine plan_read (v := ?_) rfl rfl (fun u hS => by go_simp; rfl) ?_
  go_simp
  refine plan_end (fun u hS => ?_)
  have D := hide hS
  clear hS
  go_wp2_with (first | (with_reducible refine at_list ?_; apply ldG (unhide D) rVec _ rfl rfl rfl (by repeat (first | exact List.mem_cons_self | apply List.mem_cons_of_mem)) rfl) | (with_reducible refine at_list ?_; apply ldGw (unhide D) rVec _ rfl rfl rfl (by repeat (first | exact List.mem_cons_self | apply List.mem_cons_of_mem)) rfl) | (go_at_call 21; with_reducible refine (unhide hU _).mono ?_; rintro e w' ⟨he, hb⟩; subst he; have D := hide ((unhide D).keep hb); clear hb) | (go_at_call 19; with_reducible refine (unhide hW _).mono ?_; rintro e w' ⟨he, hb⟩; subst he; have D := hide ((unhide D).keep hb); clear hb))
  go_ret
  exact ⟨rfl, (unhide D).o⟩
set_option maxHeartbeats 4000000 in
theorem back_TF (ax ay az bx b_y bz_ r dx dy dz n : Int) (N : Bool) (w : World) (hW : Hid (Ans 19 #[] (.bool true))) (hS' : Hid (Ans 30 #[.agg (v3 ax ay az), .agg (v3 bx b_y bz_)] (.agg (v3 dx dy dz)))) (hI0 : Hid (Ans 31 #[.int .i64 dx] (.bool true))) (hI1 : Hid (Ans 31 #[.int .i64 dy] (.bool false)))
    (hN1 : Hid (Ans 33 #[.agg (v3 ax ay az), .agg (v3 bx b_y bz_), .int .i64 r] (.bool N))) (hN2 : Hid (Ans 33 #[.agg (v3 bx b_y bz_), .agg (v3 ax ay az), .int .i64 r] (.bool N))) (hU : Hid (Ans 21 #[.agg (v3 dx dy dz)] (.int .i64 n))) :
    Calls Try.prog 6 #[.agg (v3 ax ay az), .agg (v3 bx b_y bz_), .int .i64 r] w fun e w' => e = .returned (.bool true) ∧ Below w.heap.size w w' := by
  go_enter Try.func6, Try.ntmps6
  go_upto_region 1 with fail
  have D := hide (((Gen.start w).push 24 (v3 ax ay az)).push 24 (v3 bx b_y bz_))
  simp only [szA] at D
  go_upto_region 3 with (first | (with_reducible refine at_list ?_; apply ldG (unhide D) rVec _ rfl rfl rfl (by repeat (first | exact List.mem_cons_self | apply List.mem_cons_of_mem)) rfl) | (go_at_call 30; with_reducible refine (unhide hS' _).mono ?_; rintro e w' ⟨he, hb⟩; subst he; have D := hide ((unhide D).keep hb); clear hb) | (with_reducible refine at_list ?_; refine stG (unhide D) rVec _ _ rfl rfl rfl rfl rfl rfl (v3_one _ _ _) ?_; intro D'; have D := hide D'; clear D') | (with_reducible refine at_list ?_; apply ldF (unhide D) _ rfl rfl rfl (by repeat (first | exact List.mem_cons_self | apply List.mem_cons_of_mem)) rfl) | (with_reducible refine at_list ?_; apply ldFw (unhide D) _ rfl rfl rfl (by repeat (first | exact List.mem_cons_self | apply List.mem_cons_of_mem)) rfl) | (go_at_call 31; with_reducible refine (unhide hI0 _).mono ?_; rintro e w' ⟨he, hb⟩; subst he; have D := hide ((unhide D).keep hb); clear hb) | (go_at_call 31; with_reducible refine (unhide hI1 _).mono ?_; rintro e w' ⟨he, hb⟩; subst he; have D := hide ((unhide D).keep hb); clear hb))
  refine region_plan (S := Gen w _) (l := [0, 1, 2, 3, 4, 5, 6, 7, 8, 9, 10, 11, 12, 13, 14, 15, 16, 17, 18]) (by kernel_rfl) (by kernel_rfl) (by kernel_rfl) (by kernel_rfl) (by kernel_rfl) (by kernel_rfl) (by kernel_rfl) (unhide D).drew ?_
  clear D
  refine plan_read (v := ?_) rfl rfl (fun u hS => by go_simp; rfl) ?_
  go_simp
  refine plan_read (v := ?_) rfl rfl (fun u hS => by go_simp; rfl) ?_
  go_simp
  refine plan_skip rfl rfl ?_
  go_simp
  refine plan_skip rfl rfl ?_
  go_simp
  refine plan_skip rfl rfl ?_
  go_simp
  refine plan_skip rfl rfl ?_
  go_simp
  refine plan_skip rfl rfl ?_
  go_simp
  refine plan_read (v := ?_) rfl rfl (fun u hS => by go_simp; rfl) ?_
  go_simp
  refine plan_read (v := ?_) rfl rfl (fun u hS => by go_simp; rfl) ?_
  go_simp
  refine plan_read (v := .agg (v3 ax ay az)) rfl rfl (fun u hS => exec_loadG hS rVec _ rfl rfl (by repeat (first | exact List.mem_cons_self | apply List.mem_cons_of_mem)) rfl) ?_
  go_simp
  refine plan_read (v := .agg (v3 bx b_y bz_)) rfl rfl (fun u hS => exec_loadG hS rVec _ rfl rfl (by repeat (first | exact List.mem_cons_self | apply List.mem_cons_of_mem)) rfl) ?_
  go_simp
  refine plan_read (v := ?_) rfl rfl (fun u hS => by go_simp; rfl) ?_
  go_simp
  refine plan_call (v := .bool N) (f := 33) (args := #[.agg (v3 ax ay az), .agg (v3 bx b_y bz_), .int .i64 r]) rfl rfl (fun u hS => by go_simp) (fun u hS => (unhide hN1 u).mono fun _ _ ⟨he, hb⟩ => ⟨he, hS.keep hb⟩) ?_
  go_simp
  refine plan_read (v := .agg (v3 bx b_y bz_)) rfl rfl (fun u hS => exec_loadG hS rVec _ rfl rfl (by repeat (first | exact List.mem_cons_self | apply List.mem_cons_of_mem)) rfl) ?_
  go_simp
  refine plan_read (v := .agg (v3 ax ay az)) rfl rfl (fun u hS => exec_loadG hS rVec _ rfl rfl (by repeat (first | exact List.mem_cons_self | apply List.mem_cons_of_mem)) rfl) ?_
  go_simp
  refine plan_read (v := ?_) rfl rfl (fun u hS => by go_simp; rfl) ?_
  go_simp
  refine plan_call (v := .bool N) (f := 33) (args := #[.agg (v3 bx b_y bz_), .agg (v3 ax ay az), .int .i64 r]) rfl rfl (fun u hS => by go_simp) (fun u hS => (unhide hN2 u).mono fun _ _ ⟨he, hb⟩ => ⟨he, hS.keep hb⟩) ?_
  go_simp
  refine plan_read (v := .bool false) rfl rfl (fun u hS => by cases N <;> go_simp) ?_
  go_simp
  refine plan_read (v := ?_) rfl rfl (fun u hS => by go_simp; rfl) ?_
  go_simp
  refine plan_end (fun u hS => ?_)
  have D := hide hS
  clear hS
  go_wp2_with (first | (with_reducible refine at_list ?_; apply ldG (unhide D) rVec _ rfl rfl rfl (by repeat (first | exact List.mem_cons_self | apply List.mem_cons_of_mem)) rfl) | (with_reducible refine at_list ?_; apply ldGw (unhide D) rVec _ rfl rfl rfl (by repeat (first | exact List.mem_cons_self | apply List.mem_cons_of_mem)) rfl) | (go_at_call 21; with_reducible refine (unhide hU _).mono ?_; rintro e w' ⟨he, hb⟩; subst he; have D := hide ((unhide D).keep hb); clear hb) | (go_at_call 19; with_reducible refine (unhide hW _).mono ?_; rintro e w' ⟨he, hb⟩; subst he; have D := hide ((unhide D).keep hb); clear hb))
  go_ret
  exact ⟨rfl, (unhide D).o⟩
set_option maxHeartbeats 4000000 in
theorem back_TTF (ax ay az bx b_y bz_ r dx dy dz n : Int) (N : Bool) (w : World) (hW : Hid (Ans 19 #[] (.bool true))) (hS' : Hid (Ans 30 #[.agg (v3 ax ay az), .agg (v3 bx b_y bz_)] (.agg (v3 dx dy dz)))) (hI0 : Hid (Ans 31 #[.int .i64 dx] (.bool true))) (hI1 : Hid (Ans 31 #[.int .i64 dy] (.bool true))) (hI2 : Hid (Ans 31 #[.int .i64 dz] (.bool false)))
    (hN1 : Hid (Ans 33 #[.agg (v3 ax ay az), .agg (v3 bx b_y bz_), .int .i64 r] (.bool N))) (hN2 : Hid (Ans 33 #[.agg (v3 bx b_y bz_), .agg (v3 ax ay az), .int .i64 r] (.bool N))) (hU : Hid (Ans 21 #[.agg (v3 dx dy dz)] (.int .i64 n))) :
    Calls Try.prog 6 #[.agg (v3 ax ay az), .agg (v3 bx b_y bz_), .int .i64 r] w fun e w' => e = .returned (.bool true) ∧ Below w.heap.size w w' := by
  go_enter Try.func6, Try.ntmps6
  go_upto_region 1 with fail
  have D := hide (((Gen.start w).push 24 (v3 ax ay az)).push 24 (v3 bx b_y bz_))
  simp only [szA] at D
  go_upto_region 3 with (first | (with_reducible refine at_list ?_; apply ldG (unhide D) rVec _ rfl rfl rfl (by repeat (first | exact List.mem_cons_self | apply List.mem_cons_of_mem)) rfl) | (go_at_call 30; with_reducible refine (unhide hS' _).mono ?_; rintro e w' ⟨he, hb⟩; subst he; have D := hide ((unhide D).keep hb); clear hb) | (with_reducible refine at_list ?_; refine stG (unhide D) rVec _ _ rfl rfl rfl rfl rfl rfl (v3_one _ _ _) ?_; intro D'; have D := hide D'; clear D') | (with_reducible refine at_list ?_; apply ldF (unhide D) _ rfl rfl rfl (by repeat (first | exact List.mem_cons_self | apply List.mem_cons_of_mem)) rfl) | (with_reducible refine at_list ?_; apply ldFw (unhide D) _ rfl rfl rfl (by repeat (first | exact List.mem_cons_self | apply List.mem_cons_of_mem)) rfl) | (go_at_call 31; with_reducible refine (unhide hI0 _).mono ?_; rintro e w' ⟨he, hb⟩; subst he; have D := hide ((unhide D).keep hb); clear hb) | (go_at_call 31; with_reducible refine (unhide hI1 _).mono ?_; rintro e w' ⟨he, hb⟩; subst he; have D := hide ((unhide D).keep hb); clear hb) | (go_at_call 31; with_reducible refine (unhide hI2 _).mono ?_; rintro e w' ⟨he, hb⟩; subst he; have D := hide ((unhide D).keep hb); clear hb))
  refine region_plan (S := Gen w _) (l := [0, 1, 2, 3, 4, 5, 6, 7, 8, 9, 10, 11, 12, 13, 14, 15, 16, 17, 18]) (by kernel_rfl) (by kernel_rfl) (by kernel_rfl) (by kernel_rfl) (by kernel_rfl) (by kernel_rfl) (by kernel_rfl) (unhide D).drew ?_
  clear D
  refine plan_read (v := ?_) rfl rfl (fun u hS => by go_simp; rfl) ?_
  go_simp
  refine plan_read (v := ?_) rfl rfl (fun u hS => by go_simp; rfl) ?_
  go_simp
  refine plan_skip rfl rfl ?_
  go_simp
  refine plan_skip rfl rfl ?_
  go_simp
  refine plan_skip rfl rfl ?_
  go_simp
  refine plan_skip rfl rfl ?_
  go_simp
  refine plan_skip rfl rfl ?_
  go_simp
  refine plan_read (v := ?_) rfl rfl (fun u hS => by go_simp; rfl) ?_
  go_simp
  refine plan_read (v := ?_) rfl rfl (fun u hS => by go_simp; rfl) ?_
  go_simp
  refine plan_read (v := .agg (v3 ax ay az)) rfl rfl (fun u hS => exec_loadG hS rVec _ rfl rfl (by repeat (first | exact List.mem_cons_self | apply List.mem_cons_of_mem)) rfl) ?_
  go_simp
  refine plan_read (v := .agg (v3 bx b_y bz_)) rfl rfl (fun u hS => exec_loadG hS rVec _ rfl rfl (by repeat (first | exact List.mem_cons_self | apply List.mem_cons_of_mem)) rfl) ?_
  go_simp
  refine plan_read (v := ?_) rfl rfl (fun u hS => by go_simp; rfl) ?_
  go_simp
  refine plan_call (v := .bool N) (f := 33) (args := #[.agg (v3 ax ay az), .agg (v3 bx b_y bz_), .int .i64 r]) rfl rfl (fun u hS => by go_simp) (fun u hS => (unhide hN1 u).mono fun _ _ ⟨he, hb⟩ => ⟨he, hS.keep hb⟩) ?_
  go_simp
  refine plan_read (v := .agg (v3 bx b_y bz_)) rfl rfl (fun u hS => exec_loadG hS rVec _ rfl rfl (by repeat (first | exact List.mem_cons_self | apply List.mem_cons_of_mem)) rfl) ?_
  go_simp
  refine plan_read (v := .agg (v3 ax ay az)) rfl rfl (fun u hS => exec_loadG hS rVec _ rfl rfl (by repeat (first | exact List.mem_cons_self | apply List.mem_cons_of_mem)) rfl) ?_
  go_simp
  refine plan_read (v := ?_) rfl rfl (fun u hS => by go_simp; rfl) ?_
  go_simp
  refine plan_call (v := .bool N) (f := 33) (args := #[.agg (v3 bx b_y bz_), .agg (v3 ax ay az), .int .i64 r]) rfl rfl (fun u hS => by go_simp) (fun u hS => (unhide hN2 u).mono fun _ _ ⟨he, hb⟩ => ⟨he, hS.keep hb⟩) ?_
  go_simp
  refine plan_read (v := .bool false) rfl rfl (fun u hS => by cases N <;> go_simp) ?_
  go_simp
  refine plan_read (v := ?_) rfl rfl (fun u hS => by go_simp; rfl) ?_
  go_simp
  refine plan_end (fun u hS => ?_)
  have D := hide hS
  clear hS
  go_wp2_with (first | (with_reducible refine at_list ?_; apply ldG (unhide D) rVec _ rfl rfl rfl (by repeat (first | exact List.mem_cons_self | apply List.mem_cons_of_mem)) rfl) | (with_reducible refine at_list ?_; apply ldGw (unhide D) rVec _ rfl rfl rfl (by repeat (first | exact List.mem_cons_self | apply List.mem_cons_of_mem)) rfl) | (go_at_call 21; with_reducible refine (unhide hU _).mono ?_; rintro e w' ⟨he, hb⟩; subst he; have D := hide ((unhide D).keep hb); clear hb) | (go_at_call 19; with_reducible refine (unhide hW _).mono ?_; rintro e w' ⟨he, hb⟩; subst he; have D := hide ((unhide D).keep hb); clear hb))
  go_ret
  exact ⟨rfl, (unhide D).o⟩
set_option maxHeartbeats 4000000 in
theorem back_TTTm (ax ay az bx b_y bz_ r dx dy dz n : Int) (N : Bool) (w : World) (hW : Hid (Ans 19 #[] (.bool true))) (hS' : Hid (Ans 30 #[.agg (v3 ax ay az), .agg (v3 bx b_y bz_)] (.agg (v3 dx dy dz)))) (hI0 : Hid (Ans 31 #[.int .i64 dx] (.bool true))) (hI1 : Hid (Ans 31 #[.int .i64 dy] (.bool true))) (hI2 : Hid (Ans 31 #[.int .i64 dz] (.bool true))) (e0 : sameV ax ay az ax ay az = true) (hAdd : Hid (Ans 32 #[.agg (v3 dx dy dz), .agg (v3 bx b_y bz_)] (.agg (v3 ax ay az)))) (hM : (n == 9223372036854775807) = true)
    (hN1 : Hid (Ans 33 #[.agg (v3 ax ay az), .agg (v3 bx b_y bz_), .int .i64 r] (.bool N))) (hN2 : Hid (Ans 33 #[.agg (v3 bx b_y bz_), .agg (v3 ax ay az), .int .i64 r] (.bool N))) (hU : Hid (Ans 21 #[.agg (v3 dx dy dz)] (.int .i64 n))) :
    Calls Try.prog 6 #[.agg (v3 ax ay az), .agg (v3 bx b_y bz_), .int .i64 r] w fun e w' => e = .returned (.bool true) ∧ Below w.heap.size w w' := by
  go_enter Try.func6, Try.ntmps6
  go_upto_region 1 with fail
  have D := hide (((Gen.start w).push 24 (v3 ax ay az)).push 24 (v3 bx b_y bz_))
  simp only [szA] at D
  go_upto_region 3 with (first | (with_reducible refine at_list ?_; apply ldG (unhide D) rVec _ rfl rfl rfl (by repeat (first | exact List.mem_cons_self | apply List.mem_cons_of_mem)) rfl) | (go_at_call 30; with_reducible refine (unhide hS' _).mono ?_; rintro e w' ⟨he, hb⟩; subst he; have D := hide ((unhide D).keep hb); clear hb) | (with_reducible refine at_list ?_; refine stG (unhide D) rVec _ _ rfl rfl rfl rfl rfl rfl (v3_one _ _ _) ?_; intro D'; have D := hide D'; clear D') | (with_reducible refine at_list ?_; apply ldF (unhide D) _ rfl rfl rfl (by repeat (first | exact List.mem_cons_self | apply List.mem_cons_of_mem)) rfl) | (with_reducible refine at_list ?_; apply ldFw (unhide D) _ rfl rfl rfl (by repeat (first | exact List.mem_cons_self | apply List.mem_cons_of_mem)) rfl) | (go_at_call 31; with_reducible refine (unhide hI0 _).mono ?_; rintro e w' ⟨he, hb⟩; subst he; have D := hide ((unhide D).keep hb); clear hb) | (go_at_call 31; with_reducible refine (unhide hI1 _).mono ?_; rintro e w' ⟨he, hb⟩; subst he; have D := hide ((unhide D).keep hb); clear hb) | (go_at_call 31; with_reducible refine (unhide hI2 _).mono ?_; rintro e w' ⟨he, hb⟩; subst he; have D := hide ((unhide D).keep hb); clear hb))
  refine region_plan (S := Gen w _) (l := [0, 1, 2, 3, 4, 5, 6, 7, 8, 9, 10, 11, 12, 13, 14, 15, 16, 17, 18]) (by kernel_rfl) (by kernel_rfl) (by kernel_rfl) (by kernel_rfl) (by kernel_rfl) (by kernel_rfl) (by kernel_rfl) (unhide D).drew ?_
  clear D
  refine plan_read (v := ?_) rfl rfl (fun u hS => by go_simp; rfl) ?_
  go_simp
  refine plan_read (v := ?_) rfl rfl (fun u hS => by go_simp; rfl) ?_
  go_simp
  refine plan_read (v := .agg (v3 dx dy dz)) rfl rfl (fun u hS => exec_loadG hS rVec _ rfl rfl (by repeat (first | exact List.mem_cons_self | apply List.mem_cons_of_mem)) rfl) ?_
  go_simp
  refine plan_read (v := .agg (v3 bx b_y bz_)) rfl rfl (fun u hS => exec_loadG hS rVec _ rfl rfl (by repeat (first | exact List.mem_cons_self | apply List.mem_cons_of_mem)) rfl) ?_
  go_simp
  refine plan_call (v := .agg (v3 ax ay az)) (f := 32) (args := #[.agg (v3 dx dy dz), .agg (v3 bx b_y bz_)]) rfl rfl (fun u hS => by go_simp) (fun u hS => (unhide hAdd u).mono fun _ _ ⟨he, hb⟩ => ⟨he, hS.keep hb⟩) ?_
  go_simp
  refine plan_read (v := .agg (v3 ax ay az)) rfl rfl (fun u hS => exec_loadG hS rVec _ rfl rfl (by repeat (first | exact List.mem_cons_self | apply List.mem_cons_of_mem)) rfl) ?_
  go_simp
  refine plan_read (v := .bool (!true)) rfl rfl (fun u hS => exec_neq_vec _ _ _ e0 rfl rfl rfl) ?_
  go_simp
  refine plan_read (v := ?_) rfl rfl (fun u hS => by go_simp; rfl) ?_
  go_simp
  refine plan_read (v := ?_) rfl rfl (fun u hS => by go_simp; rfl) ?_
  go_simp
  refine plan_read (v := .agg (v3 ax ay az)) rfl rfl (fun u hS => exec_loadG hS rVec _ rfl rfl (by repeat (first | exact List.mem_cons_self | apply List.mem_cons_of_mem)) rfl) ?_
  go_simp
  refine plan_read (v := .agg (v3 bx b_y bz_)) rfl rfl (fun u hS => exec_loadG hS rVec _ rfl rfl (by repeat (first | exact List.mem_cons_self | apply List.mem_cons_of_mem)) rfl) ?_
  go_simp
  refine plan_read (v := ?_) rfl rfl (fun u hS => by go_simp; rfl) ?_
  go_simp
  refine plan_call (v := .bool N) (f := 33) (args := #[.agg (v3 ax ay az), .agg (v3 bx b_y bz_), .int .i64 r]) rfl rfl (fun u hS => by go_simp) (fun u hS => (unhide hN1 u).mono fun _ _ ⟨he, hb⟩ => ⟨he, hS.keep hb⟩) ?_
  go_simp
  refine plan_read (v := .agg (v3 bx b_y bz_)) rfl rfl (fun u hS => exec_loadG hS rVec _ rfl rfl (by repeat (first | exact List.mem_cons_self | apply List.mem_cons_of_mem)) rfl) ?_
  go_simp
  refine plan_read (v := .agg (v3 ax ay az)) rfl rfl (fun u hS => exec_loadG hS rVec _ rfl rfl (by repeat (first | exact List.mem_cons_self | apply List.mem_cons_of_mem)) rfl) ?_
  go_simp
  refine plan_read (v := ?_) rfl rfl (fun u hS => by go_simp; rfl) ?_
  go_simp
  refine plan_call (v := .bool N) (f := 33) (args := #[.agg (v3 bx b_y bz_), .agg (v3 ax ay az), .int .i64 r]) rfl rfl (fun u hS => by go_simp) (fun u hS => (unhide hN2 u).mono fun _ _ ⟨he, hb⟩ => ⟨he, hS.keep hb⟩) ?_
  go_simp
  refine plan_read (v := .bool false) rfl rfl (fun u hS => by cases N <;> go_simp) ?_
  go_simp
  refine plan_read (v := ?_) rfl rfl (fun u hS => by go_simp; rfl) ?_
  go_simp
  refine plan_end (fun u hS => ?_)
  have D := hide hS
  clear hS
  go_wp2_with (first | (with_reducible refine at_list ?_; apply ldG (unhide D) rVec _ rfl rfl rfl (by repeat (first | exact List.mem_cons_self | apply List.mem_cons_of_mem)) rfl) | (with_reducible refine at_list ?_; apply ldGw (unhide D) rVec _ rfl rfl rfl (by repeat (first | exact List.mem_cons_self | apply List.mem_cons_of_mem)) rfl) | (go_at_call 21; with_reducible refine (unhide hU _).mono ?_; rintro e w' ⟨he, hb⟩; subst he; have D := hide ((unhide D).keep hb); clear hb) | (go_at_call 19; with_reducible refine (unhide hW _).mono ?_; rintro e w' ⟨he, hb⟩; subst he; have D := hide ((unhide D).keep hb); clear hb) | (with_reducible refine at_list ?_;  refine eqlZw _ _ hM rfl rfl rfl rfl ?_))
  go_ret
  exact ⟨rfl, (unhide D).o⟩
set_option maxHeartbeats 4000000 in
theorem back_TTTn (ax ay az bx b_y bz_ r dx dy dz n : Int) (N : Bool) (w : World) (hW : Hid (Ans 19 #[] (.bool true))) (hS' : Hid (Ans 30 #[.agg (v3 ax ay az), .agg (v3 bx b_y bz_)] (.agg (v3 dx dy dz)))) (hI0 : Hid (Ans 31 #[.int .i64 dx] (.bool true))) (hI1 : Hid (Ans 31 #[.int .i64 dy] (.bool true))) (hI2 : Hid (Ans 31 #[.int .i64 dz] (.bool true))) (e0 : sameV ax ay az ax ay az = true) (hAdd : Hid (Ans 32 #[.agg (v3 dx dy dz), .agg (v3 bx b_y bz_)] (.agg (v3 ax ay az)))) (hM : (n == 9223372036854775807) = false) (hN3 : Hid (Ans 33 #[.agg (v3 ax ay az), .agg (v3 bx b_y bz_), .int .i64 n] (.bool true)))
    (hN1 : Hid (Ans 33 #[.agg (v3 ax ay az), .agg (v3 bx b_y bz_), .int .i64 r] (.bool N))) (hN2 : Hid (Ans 33 #[.agg (v3 bx b_y bz_), .agg (v3 ax ay az), .int .i64 r] (.bool N))) (hU : Hid (Ans 21 #[.agg (v3 dx dy dz)] (.int .i64 n))) :
    Calls Try.prog 6 #[.agg (v3 ax ay az), .agg (v3 bx b_y bz_), .int .i64 r] w fun e w' => e = .returned (.bool true) ∧ Below w.heap.size w w' := by
  go_enter Try.func6, Try.ntmps6
  go_upto_region 1 with fail
  have D := hide (((Gen.start w).push 24 (v3 ax ay az)).push 24 (v3 bx b_y bz_))
  simp only [szA] at D
  go_upto_region 3 with (first | (with_reducible refine at_list ?_; apply ldG (unhide D) rVec _ rfl rfl rfl (by repeat (first | exact List.mem_cons_self | apply List.mem_cons_of_mem)) rfl) | (go_at_call 30; with_reducible refine (unhide hS' _).mono ?_; rintro e w' ⟨he, hb⟩; subst he; have D := hide ((unhide D).keep hb); clear hb) | (with_reducible refine at_list ?_; refine stG (unhide D) rVec _ _ rfl rfl rfl rfl rfl rfl (v3_one _ _ _) ?_; intro D'; have D := hide D'; clear D') | (with_reducible refine at_list ?_; apply ldF (unhide D) _ rfl rfl rfl (by repeat (first | exact List.mem_cons_self | apply List.mem_cons_of_mem)) rfl) | (with_reducible refine at_list ?_; apply ldFw (unhide D) _ rfl rfl rfl (by repeat (first | exact List.mem_cons_self | apply List.mem_cons_of_mem)) rfl) | (go_at_call 31; with_reducible refine (unhide hI0 _).mono ?_; rintro e w' ⟨he, hb⟩; subst he; have D := hide ((unhide D).keep hb); clear hb) | (go_at_call 31; with_reducible refine (unhide hI1 _).mono ?_; rintro e w' ⟨he, hb⟩; subst he; have D := hide ((unhide D).keep hb); clear hb) | (go_at_call 31; with_reducible refine (unhide hI2 _).mono ?_; rintro e w' ⟨he, hb⟩; subst he; have D := hide ((unhide D).keep hb); clear hb))
  refine region_plan (S := Gen w _) (l := [0, 1, 2, 3, 4, 5, 6, 7, 8, 9, 10, 11, 12, 13, 14, 15, 16, 17, 18]) (by kernel_rfl) (by kernel_rfl) (by kernel_rfl) (by kernel_rfl) (by kernel_rfl) (by kernel_rfl) (by kernel_rfl) (unhide D).drew ?_
  clear D
  refine plan_read (v := ?_) rfl rfl (fun u hS => by go_simp; rfl) ?_
  go_simp
  refine plan_read (v := ?_) rfl rfl (fun u hS => by go_simp; rfl) ?_
  go_simp
  refine plan_read (v := .agg (v3 dx dy dz)) rfl rfl (fun u hS => exec_loadG hS rVec _ rfl rfl (by repeat (first | exact List.mem_cons_self | apply List.mem_cons_of_mem)) rfl) ?_
  go_simp
  refine plan_read (v := .agg (v3 bx b_y bz_)) rfl rfl (fun u hS => exec_loadG hS rVec _ rfl rfl (by repeat (first | exact List.mem_cons_self | apply List.mem_cons_of_mem)) rfl) ?_
  go_simp
  refine plan_call (v := .agg (v3 ax ay az)) (f := 32) (args := #[.agg (v3 dx dy dz), .agg (v3 bx b_y bz_)]) rfl rfl (fun u hS => by go_simp) (fun u hS => (unhide hAdd u).mono fun _ _ ⟨he, hb⟩ => ⟨he, hS.keep hb⟩) ?_
  go_simp
  refine plan_read (v := .agg (v3 ax ay az)) rfl rfl (fun u hS => exec_loadG hS rVec _ rfl rfl (by repeat (first | exact List.mem_cons_self | apply List.mem_cons_of_mem)) rfl) ?_
  go_simp
  refine plan_read (v := .bool (!true)) rfl rfl (fun u hS => exec_neq_vec _ _ _ e0 rfl rfl rfl) ?_
  go_simp
  refine plan_read (v := ?_) rfl rfl (fun u hS => by go_simp; rfl) ?_
  go_simp
  refine plan_read (v := ?_) rfl rfl (fun u hS => by go_simp; rfl) ?_
  go_simp
  refine plan_read (v := .agg (v3 ax ay az)) rfl rfl (fun u hS => exec_loadG hS rVec _ rfl rfl (by repeat (first | exact List.mem_cons_self | apply List.mem_cons_of_mem)) rfl) ?_
  go_simp
  refine plan_read (v := .agg (v3 bx b_y bz_)) rfl rfl (fun u hS => exec_loadG hS rVec _ rfl rfl (by repeat (first | exact List.mem_cons_self | apply List.mem_cons_of_mem)) rfl) ?_
  go_simp
  refine plan_read (v := ?_) rfl rfl (fun u hS => by go_simp; rfl) ?_
  go_simp
  refine plan_call (v := .bool N) (f := 33) (args := #[.agg (v3 ax ay az), .agg (v3 bx b_y bz_), .int .i64 r]) rfl rfl (fun u hS => by go_simp) (fun u hS => (unhide hN1 u).mono fun _ _ ⟨he, hb⟩ => ⟨he, hS.keep hb⟩) ?_
  go_simp
  refine plan_read (v := .agg (v3 bx b_y bz_)) rfl rfl (fun u hS => exec_loadG hS rVec _ rfl rfl (by repeat (first | exact List.mem_cons_self | apply List.mem_cons_of_mem)) rfl) ?_
  go_simp
  refine plan_read (v := .agg (v3 ax ay az)) rfl rfl (fun u hS => exec_loadG hS rVec _ rfl rfl (by repeat (first | exact List.mem_cons_self | apply List.mem_cons_of_mem)) rfl) ?_
  go_simp
  refine plan_read (v := ?_) rfl rfl (fun u hS => by go_simp; rfl) ?_
  go_simp
  refine plan_call (v := .bool N) (f := 33) (args := #[.agg (v3 bx b_y bz_), .agg (v3 ax ay az), .int .i64 r]) rfl rfl (fun u hS => by go_simp) (fun u hS => (unhide hN2 u).mono fun _ _ ⟨he, hb⟩ => ⟨he, hS.keep hb⟩) ?_
  go_simp
  refine plan_read (v := .bool false) rfl rfl (fun u hS => by cases N <;> go_simp) ?_
  go_simp
  refine plan_read (v := ?_) rfl rfl (fun u hS => by go_simp; rfl) ?_
  go_simp
  refine plan_end (fun u hS => ?_)
  have D := hide hS
  clear hS
  go_wp2_with (first | (with_reducible refine at_list ?_; apply ldG (unhide D) rVec _ rfl rfl rfl (by repeat (first | exact List.mem_cons_self | apply List.mem_cons_of_mem)) rfl) | (with_reducible refine at_list ?_; apply ldGw (unhide D) rVec _ rfl rfl rfl (by repeat (first | exact List.mem_cons_self | apply List.mem_cons_of_mem)) rfl) | (go_at_call 21; with_reducible refine (unhide hU _).mono ?_; rintro e w' ⟨he, hb⟩; subst he; have D := hide ((unhide D).keep hb); clear hb) | (go_at_call 19; with_reducible refine (unhide hW _).mono ?_; rintro e w' ⟨he, hb⟩; subst he; have D := hide ((unhide D).keep hb); clear hb) | (with_reducible refine at_list ?_;  refine eqlZw _ _ hM rfl rfl rfl rfl ?_) | (go_at_call 33; with_reducible refine (unhide hN3 _).mono ?_; rintro e w' ⟨he, hb⟩; subst he; have D := hide ((unhide D).keep hb); clear hb))
  go_ret
  exact ⟨rfl, (unhide D).o⟩
theorem near_sym (ax ay az bx b_y bz_ r : Int) : nearB bx b_y bz_ ax ay az r = nearB ax ay az bx b_y bz_ r := by
  unfold nearB
  rw [show sqr (bx - ax) (b_y - ay) (bz_ - az) = sqr (ax - bx) (ay - b_y) (az - bz_) by unfold sqr; grind]
theorem vecBack_walk (ax ay az bx b_y bz_ r : Int) (k0 : (Lit.int .i64 ax).wf = true) (l0 : (Lit.int .i64 ay).wf = true) (m0 : (Lit.int .i64 az).wf = true) (k1 : (Lit.int .i64 bx).wf = true) (l1 : (Lit.int .i64 b_y).wf = true) (m1 : (Lit.int .i64 bz_).wf = true) (w2 : (Lit.int .i64 r).wf = true) (w : World) :
    Calls Try.prog 6 #[.agg (v3 ax ay az), .agg (v3 bx b_y bz_), .int .i64 r] w fun e w' => e = .returned (.bool true) ∧ Below w.heap.size w w' := by
  have j0 := I64.wf k0
  have j1 := I64.wf l0
  have j2 := I64.wf m0
  have j3 := I64.wf k1
  have j4 := I64.wf l1
  have j5 := I64.wf m1
  have j6 := I64.wf w2
  have hS := VSubZ ax ay az bx b_y bz_ j0 j1 j2 j3 j4 j5
  have hN1 := NearZ ax ay az bx b_y bz_ r j0 j1 j2 j3 j4 j5 j6
  have hN2 := NearZ bx b_y bz_ ax ay az r j3 j4 j5 j0 j1 j2 j6
  rw [near_sym] at hN2
  have hU := VLenUpZ (cl (ax - bx)) (cl (ay - b_y)) (cl (az - bz_)) (cl_I64 _) (cl_I64 _) (cl_I64 _)
  have hI0 := InnerZ (cl (ax - bx))
  have hI1 := InnerZ (cl (ay - b_y))
  have hI2 := InnerZ (cl (az - bz_))
  cases f0 : inn (cl (ax - bx))
  · rw [f0] at hI0
    exact back_F ax ay az bx b_y bz_ r _ _ _ _ _ w awake3Z hS hI0 hN1 hN2 hU
  · rw [f0] at hI0
    cases f1 : inn (cl (ay - b_y))
    · rw [f1] at hI1
      exact back_TF ax ay az bx b_y bz_ r _ _ _ _ _ w awake3Z hS hI0 hI1 hN1 hN2 hU
    · rw [f1] at hI1
      cases f2 : inn (cl (az - bz_))
      · rw [f2] at hI2
        exact back_TTF ax ay az bx b_y bz_ r _ _ _ _ _ w awake3Z hS hI0 hI1 hI2 hN1 hN2 hU
      · rw [f2] at hI2
        have e0 := (inn_cl f0).1
        have e1 := (inn_cl f1).1
        have e2 := (inn_cl f2).1
        rw [e0, e1, e2] at hS hU
        rw [e0] at hI0
        rw [e1] at hI1
        rw [e2] at hI2
        have i0' := cl_I64 (ax - bx)
        have i1' := cl_I64 (ay - b_y)
        have i2' := cl_I64 (az - bz_)
        rw [e0] at i0'
        rw [e1] at i1'
        rw [e2] at i2'
        have hAdd := VAddZ (ax - bx) (ay - b_y) (az - bz_) bx b_y bz_ i0' i1' i2' j3 j4 j5
        rw [show ax - bx + bx = ax by omega, show ay - b_y + b_y = ay by omega, show az - bz_ + bz_ = az by omega, cl_self j0, cl_self j1, cl_self j2] at hAdd
        by_cases hM : upR (sqr (ax - bx) (ay - b_y) (az - bz_)) 1 = 9223372036854775807
        · exact back_TTTm ax ay az bx b_y bz_ r _ _ _ _ _ w awake3Z hS hI0 hI1 hI2 (by simp [sameV]) hAdd (beq_iff_eq.2 hM) hN1 hN2 hU
        · have hN3 := NearZ ax ay az bx b_y bz_ _ j0 j1 j2 j3 j4 j5 (upR_I64 (sqr (ax - bx) (ay - b_y) (az - bz_)) 1)
          have hn : nearB ax ay az bx b_y bz_ (upR (sqr (ax - bx) (ay - b_y) (az - bz_)) 1) = true := by
            unfold nearB
            refine decide_eq_true ?_
            obtain ⟨u1, -⟩ := upc_spec (sqr_nn (ax - bx) (ay - b_y) (az - bz_)) (show (0 : Int) < 1 by decide)
            have u0 := upc_nn (sqr (ax - bx) (ay - b_y) (az - bz_)) 1
            rw [upR_1] at hM ⊢
            rw [Int.mul_one] at u1
            generalize upc (sqr (ax - bx) (ay - b_y) (az - bz_)) 1 = t at *
            have e : cl t = t := by
              revert hM
              unfold cl
              split
              · intro h; exact absurd rfl h
              · split
                · intro _; omega
                · intro _; rfl
            rw [e]
            exact ⟨u0, u1⟩
          rw [hn] at hN3
          exact back_TTTn ax ay az bx b_y bz_ r _ _ _ _ _ w awake3Z hS hI0 hI1 hI2 (by simp [sameV]) hAdd (beq_is _ _ (decide_eq_false hM)) hN3 hN1 hN2 hU

end Go.Proofs.Ytljggjnaolbapaa
