/- The document's layer 4: At, Column, Turned, Add; the law MatSums. -/
import Derived.Test.YtcbepibdeokboaaSy
import Derived.Test.YtcbepibdeokboaaNl
namespace Go.Proofs.Ytcbepibdeokboaa
open Go.RowKit
set_option maxRecDepth 4000
set_option linter.unusedVariables false

theorem at4_00 (X : Nat → Int) (w : World) : Calls Try.prog 55 #[.agg (m9 X), .int .i64 0, .int .i64 0] w fun e w' => e = .returned (.int .i64 (X 0)) ∧ Below w.heap.size w w' := by
  go_enter Try.func55, Try.ntmps55
  go_upto_region 1 with fail
  have D := hide ((Gen.start w).push 27 (m9 X))
  go_wp2_with (first | (with_reducible refine at_list ?_; apply ldF (unhide D) _ rfl rfl rfl (by repeat (first | exact List.mem_cons_self | apply List.mem_cons_of_mem)) rfl) | (with_reducible refine at_list ?_;  refine wpList_value rfl (exec_ix3 (k := 0) _ (.tmp 10) (.tmp 9) (by decide) rfl rfl rfl) ?_))
  go_ret
  exact ⟨rfl, (unhide D).o⟩
theorem at4_01 (X : Nat → Int) (w : World) : Calls Try.prog 55 #[.agg (m9 X), .int .i64 0, .int .i64 1] w fun e w' => e = .returned (.int .i64 (X 1)) ∧ Below w.heap.size w w' := by
  go_enter Try.func55, Try.ntmps55
  go_upto_region 1 with fail
  have D := hide ((Gen.start w).push 27 (m9 X))
  go_wp2_with (first | (with_reducible refine at_list ?_; apply ldF (unhide D) _ rfl rfl rfl (by repeat (first | exact List.mem_cons_self | apply List.mem_cons_of_mem)) rfl) | (with_reducible refine at_list ?_;  refine wpList_value rfl (exec_ix3 (k := 0) _ (.tmp 17) (.tmp 16) (by decide) rfl rfl rfl) ?_))
  go_ret
  exact ⟨rfl, (unhide D).o⟩
theorem at4_02 (X : Nat → Int) (w : World) : Calls Try.prog 55 #[.agg (m9 X), .int .i64 0, .int .i64 2] w fun e w' => e = .returned (.int .i64 (X 2)) ∧ Below w.heap.size w w' := by
  go_enter Try.func55, Try.ntmps55
  go_upto_region 1 with fail
  have D := hide ((Gen.start w).push 27 (m9 X))
  go_wp2_with (first | (with_reducible refine at_list ?_; apply ldF (unhide D) _ rfl rfl rfl (by repeat (first | exact List.mem_cons_self | apply List.mem_cons_of_mem)) rfl) | (with_reducible refine at_list ?_;  refine wpList_value rfl (exec_ix3 (k := 0) _ (.tmp 22) (.tmp 21) (by decide) rfl rfl rfl) ?_))
  go_ret
  exact ⟨rfl, (unhide D).o⟩
theorem at4_10 (X : Nat → Int) (w : World) : Calls Try.prog 55 #[.agg (m9 X), .int .i64 1, .int .i64 0] w fun e w' => e = .returned (.int .i64 (X 3)) ∧ Below w.heap.size w w' := by
  go_enter Try.func55, Try.ntmps55
  go_upto_region 1 with fail
  have D := hide ((Gen.start w).push 27 (m9 X))
  go_wp2_with (first | (with_reducible refine at_list ?_; apply ldF (unhide D) _ rfl rfl rfl (by repeat (first | exact List.mem_cons_self | apply List.mem_cons_of_mem)) rfl) | (with_reducible refine at_list ?_;  refine wpList_value rfl (exec_ix3 (k := 1) _ (.tmp 10) (.tmp 9) (by decide) rfl rfl rfl) ?_))
  go_ret
  exact ⟨rfl, (unhide D).o⟩
theorem at4_11 (X : Nat → Int) (w : World) : Calls Try.prog 55 #[.agg (m9 X), .int .i64 1, .int .i64 1] w fun e w' => e = .returned (.int .i64 (X 4)) ∧ Below w.heap.size w w' := by
  go_enter Try.func55, Try.ntmps55
  go_upto_region 1 with fail
  have D := hide ((Gen.start w).push 27 (m9 X))
  go_wp2_with (first | (with_reducible refine at_list ?_; apply ldF (unhide D) _ rfl rfl rfl (by repeat (first | exact List.mem_cons_self | apply List.mem_cons_of_mem)) rfl) | (with_reducible refine at_list ?_;  refine wpList_value rfl (exec_ix3 (k := 1) _ (.tmp 17) (.tmp 16) (by decide) rfl rfl rfl) ?_))
  go_ret
  exact ⟨rfl, (unhide D).o⟩
theorem at4_12 (X : Nat → Int) (w : World) : Calls Try.prog 55 #[.agg (m9 X), .int .i64 1, .int .i64 2] w fun e w' => e = .returned (.int .i64 (X 5)) ∧ Below w.heap.size w w' := by
  go_enter Try.func55, Try.ntmps55
  go_upto_region 1 with fail
  have D := hide ((Gen.start w).push 27 (m9 X))
  go_wp2_with (first | (with_reducible refine at_list ?_; apply ldF (unhide D) _ rfl rfl rfl (by repeat (first | exact List.mem_cons_self | apply List.mem_cons_of_mem)) rfl) | (with_reducible refine at_list ?_;  refine wpList_value rfl (exec_ix3 (k := 1) _ (.tmp 22) (.tmp 21) (by decide) rfl rfl rfl) ?_))
  go_ret
  exact ⟨rfl, (unhide D).o⟩
theorem at4_20 (X : Nat → Int) (w : World) : Calls Try.prog 55 #[.agg (m9 X), .int .i64 2, .int .i64 0] w fun e w' => e = .returned (.int .i64 (X 6)) ∧ Below w.heap.size w w' := by
  go_enter Try.func55, Try.ntmps55
  go_upto_region 1 with fail
  have D := hide ((Gen.start w).push 27 (m9 X))
  go_wp2_with (first | (with_reducible refine at_list ?_; apply ldF (unhide D) _ rfl rfl rfl (by repeat (first | exact List.mem_cons_self | apply List.mem_cons_of_mem)) rfl) | (with_reducible refine at_list ?_;  refine wpList_value rfl (exec_ix3 (k := 2) _ (.tmp 10) (.tmp 9) (by decide) rfl rfl rfl) ?_))
  go_ret
  exact ⟨rfl, (unhide D).o⟩
theorem at4_21 (X : Nat → Int) (w : World) : Calls Try.prog 55 #[.agg (m9 X), .int .i64 2, .int .i64 1] w fun e w' => e = .returned (.int .i64 (X 7)) ∧ Below w.heap.size w w' := by
  go_enter Try.func55, Try.ntmps55
  go_upto_region 1 with fail
  have D := hide ((Gen.start w).push 27 (m9 X))
  go_wp2_with (first | (with_reducible refine at_list ?_; apply ldF (unhide D) _ rfl rfl rfl (by repeat (first | exact List.mem_cons_self | apply List.mem_cons_of_mem)) rfl) | (with_reducible refine at_list ?_;  refine wpList_value rfl (exec_ix3 (k := 2) _ (.tmp 17) (.tmp 16) (by decide) rfl rfl rfl) ?_))
  go_ret
  exact ⟨rfl, (unhide D).o⟩
theorem at4_22 (X : Nat → Int) (w : World) : Calls Try.prog 55 #[.agg (m9 X), .int .i64 2, .int .i64 2] w fun e w' => e = .returned (.int .i64 (X 8)) ∧ Below w.heap.size w w' := by
  go_enter Try.func55, Try.ntmps55
  go_upto_region 1 with fail
  have D := hide ((Gen.start w).push 27 (m9 X))
  go_wp2_with (first | (with_reducible refine at_list ?_; apply ldF (unhide D) _ rfl rfl rfl (by repeat (first | exact List.mem_cons_self | apply List.mem_cons_of_mem)) rfl) | (with_reducible refine at_list ?_;  refine wpList_value rfl (exec_ix3 (k := 2) _ (.tmp 22) (.tmp 21) (by decide) rfl rfl rfl) ?_))
  go_ret
  exact ⟨rfl, (unhide D).o⟩
set_option maxHeartbeats 2000000 in
theorem column4_0 (X : Nat → Int) (w : World) : Calls Try.prog 33 #[.agg (m9 X), .int .i64 0] w fun e w' => e = .returned (.agg (v3 (X 0) (X 3) (X 6))) ∧ Below w.heap.size w w' := by
  have h0 : Hid (Ans 55 #[.agg (m9 X), .int .i64 0, .int .i64 0] (.int .i64 (X 0))) := fun u => at4_00 X u
  have h1 : Hid (Ans 55 #[.agg (m9 X), .int .i64 1, .int .i64 0] (.int .i64 (X 3))) := fun u => at4_10 X u
  have h2 : Hid (Ans 55 #[.agg (m9 X), .int .i64 2, .int .i64 0] (.int .i64 (X 6))) := fun u => at4_20 X u
  go_enter Try.func33, Try.ntmps33
  go_upto_region 1 with fail
  have D := hide (((Gen.start w).push 27 (m9 X)).push 24 (v3 0 0 0))
  simp only [szA] at D
  refine region_last (S := Gen w _) (f := 10) (l := [0, 1, 2, 3, 4, 5, 6, 7, 8, 9]) (by kernel_rfl) (by kernel_rfl) (by kernel_rfl) (by kernel_rfl) (by kernel_rfl) (by kernel_rfl) (by kernel_rfl) (by kernel_rfl) (by kernel_rfl) (by kernel_rfl) rfl rfl (unhide D).drew ?_
  clear D
  refine plan_read (v := .agg (m9 X)) rfl rfl (fun u hS => exec_loadG hS rMat _ rfl rfl (by repeat (first | exact List.mem_cons_self | apply List.mem_cons_of_mem)) rfl) ?_
  try go_simp
  refine plan_read (v := .int .i64 0) rfl rfl (fun u hS => by go_simp) ?_
  try go_simp
  refine plan_call (v := .int .i64 (X 0)) (f := 55) (args := #[.agg (m9 X), .int .i64 0, .int .i64 0]) rfl rfl (fun u hS => by go_simp) (fun u hS => (unhide h0 u).mono fun _ _ ⟨he, hb⟩ => ⟨he, hS.keep hb⟩) ?_
  try go_simp
  refine plan_read (v := .agg (m9 X)) rfl rfl (fun u hS => exec_loadG hS rMat _ rfl rfl (by repeat (first | exact List.mem_cons_self | apply List.mem_cons_of_mem)) rfl) ?_
  try go_simp
  refine plan_read (v := .int .i64 0) rfl rfl (fun u hS => by go_simp) ?_
  try go_simp
  refine plan_call (v := .int .i64 (X 3)) (f := 55) (args := #[.agg (m9 X), .int .i64 1, .int .i64 0]) rfl rfl (fun u hS => by go_simp) (fun u hS => (unhide h1 u).mono fun _ _ ⟨he, hb⟩ => ⟨he, hS.keep hb⟩) ?_
  try go_simp
  refine plan_read (v := .agg (m9 X)) rfl rfl (fun u hS => exec_loadG hS rMat _ rfl rfl (by repeat (first | exact List.mem_cons_self | apply List.mem_cons_of_mem)) rfl) ?_
  try go_simp
  refine plan_read (v := .int .i64 0) rfl rfl (fun u hS => by go_simp) ?_
  try go_simp
  refine plan_call (v := .int .i64 (X 6)) (f := 55) (args := #[.agg (m9 X), .int .i64 2, .int .i64 0]) rfl rfl (fun u hS => by go_simp) (fun u hS => (unhide h2 u).mono fun _ _ ⟨he, hb⟩ => ⟨he, hS.keep hb⟩) ?_
  try go_simp
  refine plan_read (v := .agg (v3 (X 0) (X 3) (X 6))) rfl rfl (fun u hS => by go_simp) ?_
  try go_simp
  refine plan_last (fun u hS => ?_)
  refine wp_store_row 24 (.tmp 4) (.tmp 14) rfl _ (v3 (X 0) (X 3) (X 6)) rfl rfl 24 (v3 0 0 0) (hS.blk (by repeat (first | exact List.mem_cons_self | apply List.mem_cons_of_mem))) iVec3 rfl (v3_one _ _ _) ?_
  have B := hide ((hS.blk (g := w.heap.size + 1) (t := 24) (cs := (v3 0 0 0)) (by repeat (first | exact List.mem_cons_self | apply List.mem_cons_of_mem))).row (v3 (X 0) (X 3) (X 6)))
  have O := hide (below_row hS.o (show w.heap.size ≤ w.heap.size + 1 by omega) (v3 (X 0) (X 3) (X 6)))
  clear hS
  go_wp2
  exact resG rVec (unhide B) rfl rfl rfl rfl ⟨rfl, unhide O⟩
set_option maxHeartbeats 2000000 in
theorem column4_1 (X : Nat → Int) (w : World) : Calls Try.prog 33 #[.agg (m9 X), .int .i64 1] w fun e w' => e = .returned (.agg (v3 (X 1) (X 4) (X 7))) ∧ Below w.heap.size w w' := by
  have h0 : Hid (Ans 55 #[.agg (m9 X), .int .i64 0, .int .i64 1] (.int .i64 (X 1))) := fun u => at4_01 X u
  have h1 : Hid (Ans 55 #[.agg (m9 X), .int .i64 1, .int .i64 1] (.int .i64 (X 4))) := fun u => at4_11 X u
  have h2 : Hid (Ans 55 #[.agg (m9 X), .int .i64 2, .int .i64 1] (.int .i64 (X 7))) := fun u => at4_21 X u
  go_enter Try.func33, Try.ntmps33
  go_upto_region 1 with fail
  have D := hide (((Gen.start w).push 27 (m9 X)).push 24 (v3 0 0 0))
  simp only [szA] at D
  refine region_last (S := Gen w _) (f := 10) (l := [0, 1, 2, 3, 4, 5, 6, 7, 8, 9]) (by kernel_rfl) (by kernel_rfl) (by kernel_rfl) (by kernel_rfl) (by kernel_rfl) (by kernel_rfl) (by kernel_rfl) (by kernel_rfl) (by kernel_rfl) (by kernel_rfl) rfl rfl (unhide D).drew ?_
  clear D
  refine plan_read (v := .agg (m9 X)) rfl rfl (fun u hS => exec_loadG hS rMat _ rfl rfl (by repeat (first | exact List.mem_cons_self | apply List.mem_cons_of_mem)) rfl) ?_
  try go_simp
  refine plan_read (v := .int .i64 1) rfl rfl (fun u hS => by go_simp) ?_
  try go_simp
  refine plan_call (v := .int .i64 (X 1)) (f := 55) (args := #[.agg (m9 X), .int .i64 0, .int .i64 1]) rfl rfl (fun u hS => by go_simp) (fun u hS => (unhide h0 u).mono fun _ _ ⟨he, hb⟩ => ⟨he, hS.keep hb⟩) ?_
  try go_simp
  refine plan_read (v := .agg (m9 X)) rfl rfl (fun u hS => exec_loadG hS rMat _ rfl rfl (by repeat (first | exact List.mem_cons_self | apply List.mem_cons_of_mem)) rfl) ?_
  try go_simp
  refine plan_read (v := .int .i64 1) rfl rfl (fun u hS => by go_simp) ?_
  try go_simp
  refine plan_call (v := .int .i64 (X 4)) (f := 55) (args := #[.agg (m9 X), .int .i64 1, .int .i64 1]) rfl rfl (fun u hS => by go_simp) (fun u hS => (unhide h1 u).mono fun _ _ ⟨he, hb⟩ => ⟨he, hS.keep hb⟩) ?_
  try go_simp
  refine plan_read (v := .agg (m9 X)) rfl rfl (fun u hS => exec_loadG hS rMat _ rfl rfl (by repeat (first | exact List.mem_cons_self | apply List.mem_cons_of_mem)) rfl) ?_
  try go_simp
  refine plan_read (v := .int .i64 1) rfl rfl (fun u hS => by go_simp) ?_
  try go_simp
  refine plan_call (v := .int .i64 (X 7)) (f := 55) (args := #[.agg (m9 X), .int .i64 2, .int .i64 1]) rfl rfl (fun u hS => by go_simp) (fun u hS => (unhide h2 u).mono fun _ _ ⟨he, hb⟩ => ⟨he, hS.keep hb⟩) ?_
  try go_simp
  refine plan_read (v := .agg (v3 (X 1) (X 4) (X 7))) rfl rfl (fun u hS => by go_simp) ?_
  try go_simp
  refine plan_last (fun u hS => ?_)
  refine wp_store_row 24 (.tmp 4) (.tmp 14) rfl _ (v3 (X 1) (X 4) (X 7)) rfl rfl 24 (v3 0 0 0) (hS.blk (by repeat (first | exact List.mem_cons_self | apply List.mem_cons_of_mem))) iVec3 rfl (v3_one _ _ _) ?_
  have B := hide ((hS.blk (g := w.heap.size + 1) (t := 24) (cs := (v3 0 0 0)) (by repeat (first | exact List.mem_cons_self | apply List.mem_cons_of_mem))).row (v3 (X 1) (X 4) (X 7)))
  have O := hide (below_row hS.o (show w.heap.size ≤ w.heap.size + 1 by omega) (v3 (X 1) (X 4) (X 7)))
  clear hS
  go_wp2
  exact resG rVec (unhide B) rfl rfl rfl rfl ⟨rfl, unhide O⟩
set_option maxHeartbeats 2000000 in
theorem column4_2 (X : Nat → Int) (w : World) : Calls Try.prog 33 #[.agg (m9 X), .int .i64 2] w fun e w' => e = .returned (.agg (v3 (X 2) (X 5) (X 8))) ∧ Below w.heap.size w w' := by
  have h0 : Hid (Ans 55 #[.agg (m9 X), .int .i64 0, .int .i64 2] (.int .i64 (X 2))) := fun u => at4_02 X u
  have h1 : Hid (Ans 55 #[.agg (m9 X), .int .i64 1, .int .i64 2] (.int .i64 (X 5))) := fun u => at4_12 X u
  have h2 : Hid (Ans 55 #[.agg (m9 X), .int .i64 2, .int .i64 2] (.int .i64 (X 8))) := fun u => at4_22 X u
  go_enter Try.func33, Try.ntmps33
  go_upto_region 1 with fail
  have D := hide (((Gen.start w).push 27 (m9 X)).push 24 (v3 0 0 0))
  simp only [szA] at D
  refine region_last (S := Gen w _) (f := 10) (l := [0, 1, 2, 3, 4, 5, 6, 7, 8, 9]) (by kernel_rfl) (by kernel_rfl) (by kernel_rfl) (by kernel_rfl) (by kernel_rfl) (by kernel_rfl) (by kernel_rfl) (by kernel_rfl) (by kernel_rfl) (by kernel_rfl) rfl rfl (unhide D).drew ?_
  clear D
  refine plan_read (v := .agg (m9 X)) rfl rfl (fun u hS => exec_loadG hS rMat _ rfl rfl (by repeat (first | exact List.mem_cons_self | apply List.mem_cons_of_mem)) rfl) ?_
  try go_simp
  refine plan_read (v := .int .i64 2) rfl rfl (fun u hS => by go_simp) ?_
  try go_simp
  refine plan_call (v := .int .i64 (X 2)) (f := 55) (args := #[.agg (m9 X), .int .i64 0, .int .i64 2]) rfl rfl (fun u hS => by go_simp) (fun u hS => (unhide h0 u).mono fun _ _ ⟨he, hb⟩ => ⟨he, hS.keep hb⟩) ?_
  try go_simp
  refine plan_read (v := .agg (m9 X)) rfl rfl (fun u hS => exec_loadG hS rMat _ rfl rfl (by repeat (first | exact List.mem_cons_self | apply List.mem_cons_of_mem)) rfl) ?_
  try go_simp
  refine plan_read (v := .int .i64 2) rfl rfl (fun u hS => by go_simp) ?_
  try go_simp
  refine plan_call (v := .int .i64 (X 5)) (f := 55) (args := #[.agg (m9 X), .int .i64 1, .int .i64 2]) rfl rfl (fun u hS => by go_simp) (fun u hS => (unhide h1 u).mono fun _ _ ⟨he, hb⟩ => ⟨he, hS.keep hb⟩) ?_
  try go_simp
  refine plan_read (v := .agg (m9 X)) rfl rfl (fun u hS => exec_loadG hS rMat _ rfl rfl (by repeat (first | exact List.mem_cons_self | apply List.mem_cons_of_mem)) rfl) ?_
  try go_simp
  refine plan_read (v := .int .i64 2) rfl rfl (fun u hS => by go_simp) ?_
  try go_simp
  refine plan_call (v := .int .i64 (X 8)) (f := 55) (args := #[.agg (m9 X), .int .i64 2, .int .i64 2]) rfl rfl (fun u hS => by go_simp) (fun u hS => (unhide h2 u).mono fun _ _ ⟨he, hb⟩ => ⟨he, hS.keep hb⟩) ?_
  try go_simp
  refine plan_read (v := .agg (v3 (X 2) (X 5) (X 8))) rfl rfl (fun u hS => by go_simp) ?_
  try go_simp
  refine plan_last (fun u hS => ?_)
  refine wp_store_row 24 (.tmp 4) (.tmp 14) rfl _ (v3 (X 2) (X 5) (X 8)) rfl rfl 24 (v3 0 0 0) (hS.blk (by repeat (first | exact List.mem_cons_self | apply List.mem_cons_of_mem))) iVec3 rfl (v3_one _ _ _) ?_
  have B := hide ((hS.blk (g := w.heap.size + 1) (t := 24) (cs := (v3 0 0 0)) (by repeat (first | exact List.mem_cons_self | apply List.mem_cons_of_mem))).row (v3 (X 2) (X 5) (X 8)))
  have O := hide (below_row hS.o (show w.heap.size ≤ w.heap.size + 1 by omega) (v3 (X 2) (X 5) (X 8)))
  clear hS
  go_wp2
  exact resG rVec (unhide B) rfl rfl rfl rfl ⟨rfl, unhide O⟩
theorem RRowsT (X : Nat → Int) : Ans 28 #[.agg (v3 (X 0) (X 3) (X 6)), .agg (v3 (X 1) (X 4) (X 7)), .agg (v3 (X 2) (X 5) (X 8))] (.agg (m9 (tr X))) := RRowsZ (X 0) (X 3) (X 6) (X 1) (X 4) (X 7) (X 2) (X 5) (X 8)
set_option maxHeartbeats 2000000 in
theorem rturned_core (X : Nat → Int) (w : World) : Calls Try.prog 16 #[.agg (m9 X)] w fun e w' => e = .returned (.agg (m9 (tr X))) ∧ Below w.heap.size w w' := by
  have h0 : Hid (Ans 33 #[.agg (m9 X), .int .i64 0] (.agg (v3 (X 0) (X 3) (X 6)))) := fun u => column4_0 X u
  have h1 : Hid (Ans 33 #[.agg (m9 X), .int .i64 1] (.agg (v3 (X 1) (X 4) (X 7)))) := fun u => column4_1 X u
  have h2 : Hid (Ans 33 #[.agg (m9 X), .int .i64 2] (.agg (v3 (X 2) (X 5) (X 8)))) := fun u => column4_2 X u
  have hR := hide (RRowsT X)
  go_enter Try.func16, Try.ntmps16
  go_upto_region 1 with fail
  have D := hide (((Gen.start w).push 27 (m9 X)).push 27 zM)
  simp only [szA] at D
  refine region_last (S := Gen w _) (f := 7) (l := [0, 1, 2, 3, 4, 5, 6]) (by kernel_rfl) (by kernel_rfl) (by kernel_rfl) (by kernel_rfl) (by kernel_rfl) (by kernel_rfl) (by kernel_rfl) (by kernel_rfl) (by kernel_rfl) (by kernel_rfl) rfl rfl (unhide D).drew ?_
  clear D
  refine plan_read (v := .agg (m9 X)) rfl rfl (fun u hS => exec_loadG (g := w.heap.size) (cs := m9 X) hS rMat _ rfl rfl (by repeat (first | exact List.mem_cons_self | apply List.mem_cons_of_mem)) rfl) ?_
  try go_simp
  refine plan_call (v := .agg (v3 (X 0) (X 3) (X 6))) (f := 33) (args := #[.agg (m9 X), .int .i64 0]) rfl rfl (fun u hS => by go_simp) (fun u hS => (unhide h0 u).mono fun _ _ ⟨he, hb⟩ => ⟨he, hS.keep hb⟩) ?_
  try go_simp
  refine plan_read (v := .agg (m9 X)) rfl rfl (fun u hS => exec_loadG (g := w.heap.size) (cs := m9 X) hS rMat _ rfl rfl (by repeat (first | exact List.mem_cons_self | apply List.mem_cons_of_mem)) rfl) ?_
  try go_simp
  refine plan_call (v := .agg (v3 (X 1) (X 4) (X 7))) (f := 33) (args := #[.agg (m9 X), .int .i64 1]) rfl rfl (fun u hS => by go_simp) (fun u hS => (unhide h1 u).mono fun _ _ ⟨he, hb⟩ => ⟨he, hS.keep hb⟩) ?_
  try go_simp
  refine plan_read (v := .agg (m9 X)) rfl rfl (fun u hS => exec_loadG (g := w.heap.size) (cs := m9 X) hS rMat _ rfl rfl (by repeat (first | exact List.mem_cons_self | apply List.mem_cons_of_mem)) rfl) ?_
  try go_simp
  refine plan_call (v := .agg (v3 (X 2) (X 5) (X 8))) (f := 33) (args := #[.agg (m9 X), .int .i64 2]) rfl rfl (fun u hS => by go_simp) (fun u hS => (unhide h2 u).mono fun _ _ ⟨he, hb⟩ => ⟨he, hS.keep hb⟩) ?_
  try go_simp
  refine plan_call (v := .agg (m9 (tr X))) (f := 28) (args := #[.agg (v3 (X 0) (X 3) (X 6)), .agg (v3 (X 1) (X 4) (X 7)), .agg (v3 (X 2) (X 5) (X 8))]) rfl rfl (fun u hS => by go_simp) (fun u hS => (unhide hR u).mono fun _ _ ⟨he, hb⟩ => ⟨he, hS.keep hb⟩) ?_
  try go_simp
  refine plan_last (fun u hS => ?_)
  have B0 := hide (hS.blk (g := w.heap.size + 1) (t := 27) (cs := zM) (by repeat (first | exact List.mem_cons_self | apply List.mem_cons_of_mem)))
  refine wp_store_row 27 (.tmp 2) (.tmp 9) rfl _ (m9 (tr X)) rfl rfl 27 zM (unhide B0) rMat.i rfl (m9_one _) ?_
  have B := hide ((unhide B0).row (m9 (tr X)))
  have O := hide (below_row hS.o (show w.heap.size ≤ w.heap.size + 1 by omega) (m9 (tr X)))
  clear hS B0
  go_wp2
  exact resG rMat (unhide B) rfl rfl rfl rfl ⟨rfl, unhide O⟩
theorem RTurnedZ (X : Nat → Int) : Ans 16 #[.agg (m9 X)] (.agg (m9 (tr X))) := fun w => rturned_core X w
theorem RRowsF (f : Nat → Int) : Ans 28 #[.agg (v3 (f 0) (f 1) (f 2)), .agg (v3 (f 3) (f 4) (f 5)), .agg (v3 (f 6) (f 7) (f 8))] (.agg (m9 f)) := RRowsZ (f 0) (f 1) (f 2) (f 3) (f 4) (f 5) (f 6) (f 7) (f 8)
set_option maxHeartbeats 2000000 in
theorem radd4_core (X Y f : Nat → Int) (w : World) (h0 : Hid (Ans 31 #[.agg (v3 (X 0) (X 1) (X 2)), .agg (v3 (Y 0) (Y 1) (Y 2))] (.agg (v3 (f 0) (f 1) (f 2))))) (h1 : Hid (Ans 31 #[.agg (v3 (X 3) (X 4) (X 5)), .agg (v3 (Y 3) (Y 4) (Y 5))] (.agg (v3 (f 3) (f 4) (f 5))))) (h2 : Hid (Ans 31 #[.agg (v3 (X 6) (X 7) (X 8)), .agg (v3 (Y 6) (Y 7) (Y 8))] (.agg (v3 (f 6) (f 7) (f 8))))) : Calls Try.prog 14 #[.agg (m9 X), .agg (m9 Y)] w fun e w' => e = .returned (.agg (m9 f)) ∧ Below w.heap.size w w' := by
  have hR := hide (RRowsF f)
  go_enter Try.func14, Try.ntmps14
  go_upto_region 1 with fail
  have D := hide ((((Gen.start w).push 27 (m9 X)).push 27 (m9 Y)).push 27 zM)
  simp only [szA] at D
  refine region_last (S := Gen w _) (f := 22) (l := [0, 1, 2, 3, 4, 5, 6, 7, 8, 9, 10, 11, 12, 13, 14, 15, 16, 17, 18, 19, 20, 21]) (by kernel_rfl) (by kernel_rfl) (by kernel_rfl) (by kernel_rfl) (by kernel_rfl) (by kernel_rfl) (by kernel_rfl) (by kernel_rfl) (by kernel_rfl) (by kernel_rfl) rfl rfl (unhide D).drew ?_
  clear D
  refine plan_read (v := ?_) rfl rfl (fun u hS => by go_simp; rfl) ?_
  try go_simp
  refine plan_read (v := .pointer (some ⟨w.heap.size, 0, none⟩)) rfl rfl (fun u hS => exec_ix3 (k := 0) u (.tmp 5) (.const (.int .i64 0)) (by decide) rfl rfl rfl) ?_
  try go_simp
  refine plan_read (v := .agg (v3 (X 0) (X 1) (X 2))) rfl rfl (fun u hS => exec_ldRow (k := 0) (.tmp 6) rfl rfl (hS.blk (g := w.heap.size) (t := 27) (cs := m9 X) (by repeat (first | exact List.mem_cons_self | apply List.mem_cons_of_mem))) (by decide)) ?_
  try go_simp
  refine plan_read (v := ?_) rfl rfl (fun u hS => by go_simp; rfl) ?_
  try go_simp
  refine plan_read (v := .pointer (some ⟨w.heap.size + 1, 0, none⟩)) rfl rfl (fun u hS => exec_ix3 (k := 0) u (.tmp 8) (.const (.int .i64 0)) (by decide) rfl rfl rfl) ?_
  try go_simp
  refine plan_read (v := .agg (v3 (Y 0) (Y 1) (Y 2))) rfl rfl (fun u hS => exec_ldRow (k := 0) (.tmp 9) rfl rfl (hS.blk (g := w.heap.size + 1) (t := 27) (cs := m9 Y) (by repeat (first | exact List.mem_cons_self | apply List.mem_cons_of_mem))) (by decide)) ?_
  try go_simp
  refine plan_call (v := .agg (v3 (f 0) (f 1) (f 2))) (f := 31) (args := #[.agg (v3 (X 0) (X 1) (X 2)), .agg (v3 (Y 0) (Y 1) (Y 2))]) rfl rfl (fun u hS => by go_simp) (fun u hS => (unhide h0 u).mono fun _ _ ⟨he, hb⟩ => ⟨he, hS.keep hb⟩) ?_
  try go_simp
  refine plan_read (v := ?_) rfl rfl (fun u hS => by go_simp; rfl) ?_
  try go_simp
  refine plan_read (v := .pointer (some ⟨w.heap.size, 3, none⟩)) rfl rfl (fun u hS => exec_ix3 (k := 1) u (.tmp 12) (.const (.int .i64 1)) (by decide) rfl rfl rfl) ?_
  try go_simp
  refine plan_read (v := .agg (v3 (X 3) (X 4) (X 5))) rfl rfl (fun u hS => exec_ldRow (k := 1) (.tmp 13) rfl rfl (hS.blk (g := w.heap.size) (t := 27) (cs := m9 X) (by repeat (first | exact List.mem_cons_self | apply List.mem_cons_of_mem))) (by decide)) ?_
  try go_simp
  refine plan_read (v := ?_) rfl rfl (fun u hS => by go_simp; rfl) ?_
  try go_simp
  refine plan_read (v := .pointer (some ⟨w.heap.size + 1, 3, none⟩)) rfl rfl (fun u hS => exec_ix3 (k := 1) u (.tmp 15) (.const (.int .i64 1)) (by decide) rfl rfl rfl) ?_
  try go_simp
  refine plan_read (v := .agg (v3 (Y 3) (Y 4) (Y 5))) rfl rfl (fun u hS => exec_ldRow (k := 1) (.tmp 16) rfl rfl (hS.blk (g := w.heap.size + 1) (t := 27) (cs := m9 Y) (by repeat (first | exact List.mem_cons_self | apply List.mem_cons_of_mem))) (by decide)) ?_
  try go_simp
  refine plan_call (v := .agg (v3 (f 3) (f 4) (f 5))) (f := 31) (args := #[.agg (v3 (X 3) (X 4) (X 5)), .agg (v3 (Y 3) (Y 4) (Y 5))]) rfl rfl (fun u hS => by go_simp) (fun u hS => (unhide h1 u).mono fun _ _ ⟨he, hb⟩ => ⟨he, hS.keep hb⟩) ?_
  try go_simp
  refine plan_read (v := ?_) rfl rfl (fun u hS => by go_simp; rfl) ?_
  try go_simp
  refine plan_read (v := .pointer (some ⟨w.heap.size, 6, none⟩)) rfl rfl (fun u hS => exec_ix3 (k := 2) u (.tmp 19) (.const (.int .i64 2)) (by decide) rfl rfl rfl) ?_
  try go_simp
  refine plan_read (v := .agg (v3 (X 6) (X 7) (X 8))) rfl rfl (fun u hS => exec_ldRow (k := 2) (.tmp 20) rfl rfl (hS.blk (g := w.heap.size) (t := 27) (cs := m9 X) (by repeat (first | exact List.mem_cons_self | apply List.mem_cons_of_mem))) (by decide)) ?_
  try go_simp
  refine plan_read (v := ?_) rfl rfl (fun u hS => by go_simp; rfl) ?_
  try go_simp
  refine plan_read (v := .pointer (some ⟨w.heap.size + 1, 6, none⟩)) rfl rfl (fun u hS => exec_ix3 (k := 2) u (.tmp 22) (.const (.int .i64 2)) (by decide) rfl rfl rfl) ?_
  try go_simp
  refine plan_read (v := .agg (v3 (Y 6) (Y 7) (Y 8))) rfl rfl (fun u hS => exec_ldRow (k := 2) (.tmp 23) rfl rfl (hS.blk (g := w.heap.size + 1) (t := 27) (cs := m9 Y) (by repeat (first | exact List.mem_cons_self | apply List.mem_cons_of_mem))) (by decide)) ?_
  try go_simp
  refine plan_call (v := .agg (v3 (f 6) (f 7) (f 8))) (f := 31) (args := #[.agg (v3 (X 6) (X 7) (X 8)), .agg (v3 (Y 6) (Y 7) (Y 8))]) rfl rfl (fun u hS => by go_simp) (fun u hS => (unhide h2 u).mono fun _ _ ⟨he, hb⟩ => ⟨he, hS.keep hb⟩) ?_
  try go_simp
  refine plan_call (v := .agg (m9 f)) (f := 28) (args := #[.agg (v3 (f 0) (f 1) (f 2)), .agg (v3 (f 3) (f 4) (f 5)), .agg (v3 (f 6) (f 7) (f 8))]) rfl rfl (fun u hS => by go_simp) (fun u hS => (unhide hR u).mono fun _ _ ⟨he, hb⟩ => ⟨he, hS.keep hb⟩) ?_
  try go_simp
  refine plan_last (fun u hS => ?_)
  have B0 := hide (hS.blk (g := w.heap.size + 1 + 1) (t := 27) (cs := zM) (by repeat (first | exact List.mem_cons_self | apply List.mem_cons_of_mem)))
  refine wp_store_row 27 (.tmp 4) (.tmp 26) rfl _ (m9 f) rfl rfl 27 zM (unhide B0) rMat.i rfl (m9_one _) ?_
  have B := hide ((unhide B0).row (m9 f))
  have O := hide (below_row hS.o (show w.heap.size ≤ w.heap.size + 1 + 1 by omega) (m9 f))
  clear hS B0
  go_wp2
  exact resG rMat (unhide B) rfl rfl rfl rfl ⟨rfl, unhide O⟩
theorem RAddMZ {X Y : Nat → Int} (hX : ∀ j, I64 (X j)) (hY : ∀ j, I64 (Y j)) : Ans 14 #[.agg (m9 X), .agg (m9 Y)] (.agg (m9 (fun i => cl (X i + Y i)))) := fun w =>
  radd4_core X Y _ w (Add3 _ _ _ _ _ _ (hX _) (hX _) (hX _) (hY _) (hY _) (hY _)) (Add3 _ _ _ _ _ _ (hX _) (hX _) (hX _) (hY _) (hY _) (hY _)) (Add3 _ _ _ _ _ _ (hX _) (hX _) (hX _) (hY _) (hY _) (hY _))
set_option maxHeartbeats 8000000 in
theorem matSums_core (X Y A T : Nat → Int) (x y z : Int) (w : World) (e0 : sameM (dg 4294967296 4294967296 4294967296) (dg 4294967296 4294967296 4294967296) = true) (e1 : sameM (dg x y z) (dg x y z) = true) (e2 : sameM A A = true) (e3 : sameM T T = true)
    (h0 : Hid (Ans 10 #[] (.agg (m9 (dg 4294967296 4294967296 4294967296))))) (h1 : Hid (Ans 11 #[.agg (v3 4294967296 4294967296 4294967296)] (.agg (m9 (dg 4294967296 4294967296 4294967296))))) (h2 : Hid (Ans 12 #[.agg (v3 x y z)] (.agg (m9 (dg x y z))))) (h3 : Hid (Ans 11 #[.agg (v3 x y z)] (.agg (m9 (dg x y z)))))
    (h4 : Hid (Ans 13 #[.agg (m9 X), .agg (m9 Y)] (.agg (m9 A)))) (h5 : Hid (Ans 14 #[.agg (m9 X), .agg (m9 Y)] (.agg (m9 A)))) (h6 : Hid (Ans 15 #[.agg (m9 X)] (.agg (m9 T)))) (h7 : Hid (Ans 16 #[.agg (m9 X)] (.agg (m9 T)))) (hW : Hid (Ans 17 #[] (.bool true))) :
    Calls Try.prog 3 #[.agg (m9 X), .agg (m9 Y), .agg (v3 x y z)] w fun e w' => e = .returned (.bool true) ∧ Below w.heap.size w w' := by
  go_enter Try.func3, Try.ntmps3
  go_upto_region 1 with fail
  have D := hide ((((Gen.start w).push 27 (m9 X)).push 27 (m9 Y)).push 24 (v3 x y z))
  simp only [szA] at D
  refine region_plan (S := Gen w _) (l := [0, 1, 2, 3, 4, 5, 6, 7, 8, 9, 10, 11, 12, 13, 14, 15, 16, 17, 18, 19, 20, 21, 22, 23, 24, 25, 26, 27, 28, 29, 30]) (by kernel_rfl) (by kernel_rfl) (by kernel_rfl) (by kernel_rfl) (by kernel_rfl) (by kernel_rfl) (by kernel_rfl) (unhide D).drew ?_
  clear D
  refine plan_call (v := .agg (m9 (dg 4294967296 4294967296 4294967296))) (f := 10) (args := #[]) rfl rfl (fun u hS => by go_simp) (fun u hS => (unhide h0 u).mono fun _ _ ⟨he, hb⟩ => ⟨he, hS.keep hb⟩) ?_
  try go_simp
  refine plan_read (v := .agg (v3 4294967296 4294967296 4294967296)) rfl rfl (fun u hS => by go_simp) ?_
  try go_simp
  refine plan_call (v := .agg (m9 (dg 4294967296 4294967296 4294967296))) (f := 11) (args := #[.agg (v3 4294967296 4294967296 4294967296)]) rfl rfl (fun u hS => by go_simp) (fun u hS => (unhide h1 u).mono fun _ _ ⟨he, hb⟩ => ⟨he, hS.keep hb⟩) ?_
  try go_simp
  refine plan_read (v := .bool true) rfl rfl (fun u hS => exec_eql_mat _ _ _ e0 rfl rfl rfl) ?_
  try go_simp
  refine plan_read (v := .bool true) rfl rfl (fun u hS => by go_simp) ?_
  try go_simp
  refine plan_read (v := .agg (v3 x y z)) rfl rfl (fun u hS => exec_loadG hS rVec _ rfl rfl (by repeat (first | exact List.mem_cons_self | apply List.mem_cons_of_mem)) rfl) ?_
  try go_simp
  refine plan_call (v := .agg (m9 (dg x y z))) (f := 12) (args := #[.agg (v3 x y z)]) rfl rfl (fun u hS => by go_simp) (fun u hS => (unhide h2 u).mono fun _ _ ⟨he, hb⟩ => ⟨he, hS.keep hb⟩) ?_
  try go_simp
  refine plan_read (v := .agg (v3 x y z)) rfl rfl (fun u hS => exec_loadG hS rVec _ rfl rfl (by repeat (first | exact List.mem_cons_self | apply List.mem_cons_of_mem)) rfl) ?_
  try go_simp
  refine plan_call (v := .agg (m9 (dg x y z))) (f := 11) (args := #[.agg (v3 x y z)]) rfl rfl (fun u hS => by go_simp) (fun u hS => (unhide h3 u).mono fun _ _ ⟨he, hb⟩ => ⟨he, hS.keep hb⟩) ?_
  try go_simp
  refine plan_read (v := .bool true) rfl rfl (fun u hS => exec_eql_mat _ _ _ e1 rfl rfl rfl) ?_
  try go_simp
  refine plan_read (v := .bool true) rfl rfl (fun u hS => by go_simp) ?_
  try go_simp
  refine plan_read (v := .bool true) rfl rfl (fun u hS => by go_simp) ?_
  try go_simp
  refine plan_read (v := .agg (m9 X)) rfl rfl (fun u hS => exec_loadG (g := w.heap.size) (cs := m9 X) hS rMat _ rfl rfl (by repeat (first | exact List.mem_cons_self | apply List.mem_cons_of_mem)) rfl) ?_
  try go_simp
  refine plan_read (v := .agg (m9 Y)) rfl rfl (fun u hS => exec_loadG (g := w.heap.size + 1) (cs := m9 Y) hS rMat _ rfl rfl (by repeat (first | exact List.mem_cons_self | apply List.mem_cons_of_mem)) rfl) ?_
  try go_simp
  refine plan_call (v := .agg (m9 A)) (f := 13) (args := #[.agg (m9 X), .agg (m9 Y)]) rfl rfl (fun u hS => by go_simp) (fun u hS => (unhide h4 u).mono fun _ _ ⟨he, hb⟩ => ⟨he, hS.keep hb⟩) ?_
  try go_simp
  refine plan_read (v := .agg (m9 X)) rfl rfl (fun u hS => exec_loadG (g := w.heap.size) (cs := m9 X) hS rMat _ rfl rfl (by repeat (first | exact List.mem_cons_self | apply List.mem_cons_of_mem)) rfl) ?_
  try go_simp
  refine plan_read (v := .agg (m9 Y)) rfl rfl (fun u hS => exec_loadG (g := w.heap.size + 1) (cs := m9 Y) hS rMat _ rfl rfl (by repeat (first | exact List.mem_cons_self | apply List.mem_cons_of_mem)) rfl) ?_
  try go_simp
  refine plan_call (v := .agg (m9 A)) (f := 14) (args := #[.agg (m9 X), .agg (m9 Y)]) rfl rfl (fun u hS => by go_simp) (fun u hS => (unhide h5 u).mono fun _ _ ⟨he, hb⟩ => ⟨he, hS.keep hb⟩) ?_
  try go_simp
  refine plan_read (v := .bool true) rfl rfl (fun u hS => exec_eql_mat _ _ _ e2 rfl rfl rfl) ?_
  try go_simp
  refine plan_read (v := .bool true) rfl rfl (fun u hS => by go_simp) ?_
  try go_simp
  refine plan_read (v := .bool true) rfl rfl (fun u hS => by go_simp) ?_
  try go_simp
  refine plan_read (v := .agg (m9 X)) rfl rfl (fun u hS => exec_loadG (g := w.heap.size) (cs := m9 X) hS rMat _ rfl rfl (by repeat (first | exact List.mem_cons_self | apply List.mem_cons_of_mem)) rfl) ?_
  try go_simp
  refine plan_call (v := .agg (m9 T)) (f := 15) (args := #[.agg (m9 X)]) rfl rfl (fun u hS => by go_simp) (fun u hS => (unhide h6 u).mono fun _ _ ⟨he, hb⟩ => ⟨he, hS.keep hb⟩) ?_
  try go_simp
  refine plan_read (v := .agg (m9 X)) rfl rfl (fun u hS => exec_loadG (g := w.heap.size) (cs := m9 X) hS rMat _ rfl rfl (by repeat (first | exact List.mem_cons_self | apply List.mem_cons_of_mem)) rfl) ?_
  try go_simp
  refine plan_call (v := .agg (m9 T)) (f := 16) (args := #[.agg (m9 X)]) rfl rfl (fun u hS => by go_simp) (fun u hS => (unhide h7 u).mono fun _ _ ⟨he, hb⟩ => ⟨he, hS.keep hb⟩) ?_
  try go_simp
  refine plan_read (v := .bool true) rfl rfl (fun u hS => exec_eql_mat _ _ _ e3 rfl rfl rfl) ?_
  try go_simp
  refine plan_read (v := .bool true) rfl rfl (fun u hS => by go_simp) ?_
  try go_simp
  refine plan_read (v := .bool true) rfl rfl (fun u hS => by go_simp) ?_
  try go_simp
  refine plan_call (v := .bool true) (f := 17) (args := #[]) rfl rfl (fun u hS => by go_simp) (fun u hS => (unhide hW u).mono fun _ _ ⟨he, hb⟩ => ⟨he, hS.keep hb⟩) ?_
  try go_simp
  refine plan_read (v := .bool true) rfl rfl (fun u hS => by go_simp) ?_
  try go_simp
  refine plan_read (v := .bool true) rfl rfl (fun u hS => by go_simp) ?_
  try go_simp
  refine plan_end (fun u hS => ?_)
  have O := hide hS.o
  clear hS
  go_wp2
  go_ret
  exact ⟨rfl, unhide O⟩
theorem matSums_walk (X0 X1 : Nat → Int) (x2 y2 z2 : Int) (k0 : ∀ j, (Lit.int .i64 (X0 j)).wf = true) (k1 : ∀ j, (Lit.int .i64 (X1 j)).wf = true) (k2 : (Lit.int .i64 x2).wf = true) (l2 : (Lit.int .i64 y2).wf = true) (m2 : (Lit.int .i64 z2).wf = true) (w : World) :
    Calls Try.prog 3 #[.agg (m9 X0), .agg (m9 X1), .agg (v3 x2 y2 z2)] w fun e w' => e = .returned (.bool true) ∧ Below w.heap.size w w' := by
  have hX : ∀ j, I64 (X0 j) := fun j => I64.wf (k0 j)
  have hY : ∀ j, I64 (X1 j) := fun j => I64.wf (k1 j)
  exact matSums_core X0 X1 _ _ x2 y2 z2 w (sameM_self _) (sameM_self _) (sameM_self _) (sameM_self _) OneZ (RDiagZ _ _ _) (DiagZ _ _ _) (RDiagZ _ _ _) (AddMZ hX hY) (RAddMZ hX hY) (TurnedZ X0) (RTurnedZ X0) Awake4Z

end Go.Proofs.Ytcbepibdeokboaa
