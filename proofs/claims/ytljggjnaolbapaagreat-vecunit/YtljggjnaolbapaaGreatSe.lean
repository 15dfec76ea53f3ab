/- Package vec's laws beside the document's own numbers: VecLen, VecUnit, VecNear. -/
import Derived.Test.YtljggjnaolbapaaGreatSc
import Derived.Test.YtljggjnaolbapaaGreatSd
namespace Go.Proofs.YtljggjnaolbapaaGreat
open Go.RowKit
set_option maxRecDepth 4000
set_option linter.unusedVariables false

set_option maxHeartbeats 4000000 in
theorem VecLen_core (ax ay az l t : Int) (w : World) (el : (l == l) = true) (et : (t == t) = true) (h0 : Hid (Ans 22 #[.agg (v3 ax ay az)] (.int .i64 l))) (h1 : Hid (Ans 23 #[.agg (v3 ax ay az), .bool false] (.int .i64 l))) (h2 : Hid (Ans 24 #[.agg (v3 ax ay az)] (.int .i64 t))) (h3 : Hid (Ans 23 #[.agg (v3 ax ay az), .bool true] (.int .i64 t))) :
    Calls Tryz.prog 6 #[.agg (v3 ax ay az)] w fun e w' => e = .returned (.bool true) ∧ Below w.heap.size w w' := by
  go_enter Tryz.func6, Tryz.ntmps6
  go_upto_region 1 with fail
  have D := hide ((Gen.start w).push 24 (v3 ax ay az))
  refine region_plan (S := Gen w _) (l := [0, 1, 2, 3, 4, 5, 6, 7, 8, 9, 10, 11, 12, 13, 14, 15]) (by kernel_rfl) (by kernel_rfl) (by kernel_rfl) (by kernel_rfl) (by kernel_rfl) (by kernel_rfl) (by kernel_rfl) (unhide D).drew ?_
  clear D
  refine plan_read (v := .agg (v3 ax ay az)) rfl rfl (fun u hS => exec_loadG hS rVec _ rfl rfl (by repeat (first | exact List.mem_cons_self | apply List.mem_cons_of_mem)) rfl) ?_
  go_simp
  refine plan_call (v := .int .i64 l) (f := 22) (args := #[.agg (v3 ax ay az)]) rfl rfl (fun u hS => by go_simp) (fun u hS => (unhide h0 u).mono fun _ _ ⟨he, hb⟩ => ⟨he, hS.keep hb⟩) ?_
  go_simp
  refine plan_read (v := .agg (v3 ax ay az)) rfl rfl (fun u hS => exec_loadG hS rVec _ rfl rfl (by repeat (first | exact List.mem_cons_self | apply List.mem_cons_of_mem)) rfl) ?_
  go_simp
  refine plan_call (v := .int .i64 l) (f := 23) (args := #[.agg (v3 ax ay az), Value.bool false]) rfl rfl (fun u hS => by go_simp) (fun u hS => (unhide h1 u).mono fun _ _ ⟨he, hb⟩ => ⟨he, hS.keep hb⟩) ?_
  go_simp
  refine plan_read (v := .bool true) rfl rfl (fun u hS => exec_eqlR _ _ _ el rfl rfl rfl) ?_
  go_simp
  refine plan_read (v := ?_) rfl rfl (fun u hS => by go_simp; rfl) ?_
  go_simp
  refine plan_read (v := .agg (v3 ax ay az)) rfl rfl (fun u hS => exec_loadG hS rVec _ rfl rfl (by repeat (first | exact List.mem_cons_self | apply List.mem_cons_of_mem)) rfl) ?_
  go_simp
  refine plan_call (v := .int .i64 t) (f := 24) (args := #[.agg (v3 ax ay az)]) rfl rfl (fun u hS => by go_simp) (fun u hS => (unhide h2 u).mono fun _ _ ⟨he, hb⟩ => ⟨he, hS.keep hb⟩) ?_
  go_simp
  refine plan_read (v := .agg (v3 ax ay az)) rfl rfl (fun u hS => exec_loadG hS rVec _ rfl rfl (by repeat (first | exact List.mem_cons_self | apply List.mem_cons_of_mem)) rfl) ?_
  go_simp
  refine plan_call (v := .int .i64 t) (f := 23) (args := #[.agg (v3 ax ay az), Value.bool true]) rfl rfl (fun u hS => by go_simp) (fun u hS => (unhide h3 u).mono fun _ _ ⟨he, hb⟩ => ⟨he, hS.keep hb⟩) ?_
  go_simp
  refine plan_read (v := .bool true) rfl rfl (fun u hS => exec_eqlR _ _ _ et rfl rfl rfl) ?_
  go_simp
  refine plan_read (v := ?_) rfl rfl (fun u hS => by go_simp; rfl) ?_
  go_simp
  refine plan_read (v := ?_) rfl rfl (fun u hS => by go_simp; rfl) ?_
  go_simp
  refine plan_call (v := .bool true) (f := 17) (args := #[]) rfl rfl (fun u hS => by go_simp) (fun u hS => (awake3Z u).mono fun _ _ ⟨he, hb⟩ => ⟨he, hS.keep hb⟩) ?_
  go_simp
  refine plan_read (v := ?_) rfl rfl (fun u hS => by go_simp; rfl) ?_
  go_simp
  refine plan_read (v := ?_) rfl rfl (fun u hS => by go_simp; rfl) ?_
  go_simp
  refine plan_end (fun u hS => ?_)
  have O := hide hS.o
  clear hS
  go_wp2
  go_ret
  exact ⟨rfl, unhide O⟩
set_option maxHeartbeats 4000000 in
theorem VecNear_core (ax ay az bx b_y bz_ r x y z : Int) (N : Bool) (w : World) (h0 : Hid (Ans 27 #[.agg (v3 ax ay az), .agg (v3 bx b_y bz_), .int .i64 r] (.bool N))) (h1 : Hid (Ans 28 #[.agg (v3 ax ay az), .agg (v3 bx b_y bz_), .int .i64 r] (.bool N))) (h2 : Hid (Ans 29 #[.agg (v3 ax ay az), .agg (v3 bx b_y bz_), .int .i64 r] (.agg (v3 x y z)))) (h3 : Hid (Ans 30 #[.agg (v3 ax ay az), .agg (v3 bx b_y bz_), .int .i64 r] (.agg (v3 x y z)))) :
    Calls Tryz.prog 8 #[.agg (v3 ax ay az), .agg (v3 bx b_y bz_), .int .i64 r] w fun e w' => e = .returned (.bool true) ∧ Below w.heap.size w w' := by
  go_enter Tryz.func8, Tryz.ntmps8
  go_upto_region 1 with fail
  have D := hide (((Gen.start w).push 24 (v3 ax ay az)).push 24 (v3 bx b_y bz_))
  simp only [szA] at D
  refine region_plan (S := Gen w _) (l := [0, 1, 2, 3, 4, 5, 6, 7, 8, 9, 10, 11, 12, 13, 14, 15, 16, 17, 18, 19, 20, 21, 22, 23]) (by kernel_rfl) (by kernel_rfl) (by kernel_rfl) (by kernel_rfl) (by kernel_rfl) (by kernel_rfl) (by kernel_rfl) (unhide D).drew ?_
  clear D
  refine plan_read (v := .agg (v3 ax ay az)) rfl rfl (fun u hS => exec_loadG hS rVec _ rfl rfl (by repeat (first | exact List.mem_cons_self | apply List.mem_cons_of_mem)) rfl) ?_
  go_simp
  refine plan_read (v := .agg (v3 bx b_y bz_)) rfl rfl (fun u hS => exec_loadG hS rVec _ rfl rfl (by repeat (first | exact List.mem_cons_self | apply List.mem_cons_of_mem)) rfl) ?_
  go_simp
  refine plan_read (v := ?_) rfl rfl (fun u hS => by go_simp; rfl) ?_
  go_simp
  refine plan_call (v := .bool N) (f := 27) (args := #[.agg (v3 ax ay az), .agg (v3 bx b_y bz_), .int .i64 r]) rfl rfl (fun u hS => by go_simp) (fun u hS => (unhide h0 u).mono fun _ _ ⟨he, hb⟩ => ⟨he, hS.keep hb⟩) ?_
  go_simp
  refine plan_read (v := .agg (v3 ax ay az)) rfl rfl (fun u hS => exec_loadG hS rVec _ rfl rfl (by repeat (first | exact List.mem_cons_self | apply List.mem_cons_of_mem)) rfl) ?_
  go_simp
  refine plan_read (v := .agg (v3 bx b_y bz_)) rfl rfl (fun u hS => exec_loadG hS rVec _ rfl rfl (by repeat (first | exact List.mem_cons_self | apply List.mem_cons_of_mem)) rfl) ?_
  go_simp
  refine plan_read (v := ?_) rfl rfl (fun u hS => by go_simp; rfl) ?_
  go_simp
  refine plan_call (v := .bool N) (f := 28) (args := #[.agg (v3 ax ay az), .agg (v3 bx b_y bz_), .int .i64 r]) rfl rfl (fun u hS => by go_simp) (fun u hS => (unhide h1 u).mono fun _ _ ⟨he, hb⟩ => ⟨he, hS.keep hb⟩) ?_
  go_simp
  refine plan_read (v := .bool true) rfl rfl (fun u hS => by cases N <;> go_simp) ?_
  go_simp
  refine plan_read (v := ?_) rfl rfl (fun u hS => by go_simp; rfl) ?_
  go_simp
  refine plan_read (v := .agg (v3 ax ay az)) rfl rfl (fun u hS => exec_loadG hS rVec _ rfl rfl (by repeat (first | exact List.mem_cons_self | apply List.mem_cons_of_mem)) rfl) ?_
  go_simp
  refine plan_read (v := .agg (v3 bx b_y bz_)) rfl rfl (fun u hS => exec_loadG hS rVec _ rfl rfl (by repeat (first | exact List.mem_cons_self | apply List.mem_cons_of_mem)) rfl) ?_
  go_simp
  refine plan_read (v := ?_) rfl rfl (fun u hS => by go_simp; rfl) ?_
  go_simp
  refine plan_call (v := .agg (v3 x y z)) (f := 29) (args := #[.agg (v3 ax ay az), .agg (v3 bx b_y bz_), .int .i64 r]) rfl rfl (fun u hS => by go_simp) (fun u hS => (unhide h2 u).mono fun _ _ ⟨he, hb⟩ => ⟨he, hS.keep hb⟩) ?_
  go_simp
  refine plan_read (v := .agg (v3 ax ay az)) rfl rfl (fun u hS => exec_loadG hS rVec _ rfl rfl (by repeat (first | exact List.mem_cons_self | apply List.mem_cons_of_mem)) rfl) ?_
  go_simp
  refine plan_read (v := .agg (v3 bx b_y bz_)) rfl rfl (fun u hS => exec_loadG hS rVec _ rfl rfl (by repeat (first | exact List.mem_cons_self | apply List.mem_cons_of_mem)) rfl) ?_
  go_simp
  refine plan_read (v := ?_) rfl rfl (fun u hS => by go_simp; rfl) ?_
  go_simp
  refine plan_call (v := .agg (v3 x y z)) (f := 30) (args := #[.agg (v3 ax ay az), .agg (v3 bx b_y bz_), .int .i64 r]) rfl rfl (fun u hS => by go_simp) (fun u hS => (unhide h3 u).mono fun _ _ ⟨he, hb⟩ => ⟨he, hS.keep hb⟩) ?_
  go_simp
  refine plan_read (v := .bool true) rfl rfl (fun u hS => exec_eql_vec _ _ _ (sameV_self _ _ _) rfl rfl rfl) ?_
  go_simp
  refine plan_read (v := ?_) rfl rfl (fun u hS => by go_simp; rfl) ?_
  go_simp
  refine plan_read (v := ?_) rfl rfl (fun u hS => by go_simp; rfl) ?_
  go_simp
  refine plan_call (v := .bool true) (f := 17) (args := #[]) rfl rfl (fun u hS => by go_simp) (fun u hS => (awake3Z u).mono fun _ _ ⟨he, hb⟩ => ⟨he, hS.keep hb⟩) ?_
  go_simp
  refine plan_read (v := ?_) rfl rfl (fun u hS => by go_simp; rfl) ?_
  go_simp
  refine plan_read (v := ?_) rfl rfl (fun u hS => by go_simp; rfl) ?_
  go_simp
  refine plan_end (fun u hS => ?_)
  have O := hide hS.o
  clear hS
  go_wp2
  go_ret
  exact ⟨rfl, unhide O⟩
set_option maxHeartbeats 2000000 in
theorem VecUnit_core (ax ay az x y z : Int) (N : Bool) (w : World) (e0 : sameV x y z x y z = true) (hW : Hid (Ans 17 #[] (.bool true))) (h0 : Hid (Ans 25 #[.agg (v3 ax ay az)] (.tuple #[.agg (v3 x y z), .bool N]))) (h1 : Hid (Ans 26 #[.agg (v3 ax ay az)] (.tuple #[.agg (v3 x y z), .bool N]))) :
    Calls Tryz.prog 7 #[.agg (v3 ax ay az)] w fun e w' => e = .returned (.bool true) ∧ Below w.heap.size w w' := by
  cases N
  · go_enter Tryz.func7, Tryz.ntmps7
    go_upto_region 1 with fail
    have D := hide ((Gen.start w).push 24 (v3 ax ay az))
    go_wp2_with (first | (with_reducible refine at_list ?_; apply ldG (unhide D) rVec _ rfl rfl rfl (by repeat (first | exact List.mem_cons_self | apply List.mem_cons_of_mem)) rfl) | (go_at_call 25; with_reducible refine (unhide h0 _).mono ?_; rintro e w' ⟨he, hb⟩; subst he; have D := hide ((unhide D).keep hb); clear hb) | (go_at_call 26; with_reducible refine (unhide h1 _).mono ?_; rintro e w' ⟨he, hb⟩; subst he; have D := hide ((unhide D).keep hb); clear hb) | (with_reducible refine at_list ?_; refine stG (unhide D) rVec _ _ rfl rfl rfl rfl rfl rfl (v3_one _ _ _) ?_; intro D'; have D := hide D'; clear D') | (with_reducible refine at_list ?_; refine eqlV _ _ _ e0 rfl rfl rfl rfl ?_) | (go_at_call 17; with_reducible refine (unhide hW _).mono ?_; rintro e w' ⟨he, hb⟩; subst he; have D := hide ((unhide D).keep hb); clear hb))
    go_ret
    exact ⟨rfl, (unhide D).o⟩
  · go_enter Tryz.func7, Tryz.ntmps7
    go_upto_region 1 with fail
    have D := hide ((Gen.start w).push 24 (v3 ax ay az))
    go_wp2_with (first | (with_reducible refine at_list ?_; apply ldG (unhide D) rVec _ rfl rfl rfl (by repeat (first | exact List.mem_cons_self | apply List.mem_cons_of_mem)) rfl) | (go_at_call 25; with_reducible refine (unhide h0 _).mono ?_; rintro e w' ⟨he, hb⟩; subst he; have D := hide ((unhide D).keep hb); clear hb) | (go_at_call 26; with_reducible refine (unhide h1 _).mono ?_; rintro e w' ⟨he, hb⟩; subst he; have D := hide ((unhide D).keep hb); clear hb) | (with_reducible refine at_list ?_; refine stG (unhide D) rVec _ _ rfl rfl rfl rfl rfl rfl (v3_one _ _ _) ?_; intro D'; have D := hide D'; clear D') | (with_reducible refine at_list ?_; refine eqlV _ _ _ e0 rfl rfl rfl rfl ?_) | (go_at_call 17; with_reducible refine (unhide hW _).mono ?_; rintro e w' ⟨he, hb⟩; subst he; have D := hide ((unhide D).keep hb); clear hb))
    go_ret
    exact ⟨rfl, (unhide D).o⟩
theorem vecLen_walk (ax ay az : Int) (k0 : (Lit.int .i64 ax).wf = true) (l0 : (Lit.int .i64 ay).wf = true) (m0 : (Lit.int .i64 az).wf = true) (w : World) :
    Calls Tryz.prog 6 #[.agg (v3 ax ay az)] w fun e w' => e = .returned (.bool true) ∧ Below w.heap.size w w' :=
  have j0 := I64.wf k0
  have j1 := I64.wf l0
  have j2 := I64.wf m0
  VecLen_core ax ay az _ _ w (by simp) (by simp) (VLenZ ax ay az j0 j1 j2) (LenR ax ay az j0 j1 j2) (VLenUpZ ax ay az j0 j1 j2) (LenUpR ax ay az j0 j1 j2)
theorem vecNear_walk (ax ay az bx b_y bz_ r : Int) (k0 : (Lit.int .i64 ax).wf = true) (l0 : (Lit.int .i64 ay).wf = true) (m0 : (Lit.int .i64 az).wf = true) (k1 : (Lit.int .i64 bx).wf = true) (l1 : (Lit.int .i64 b_y).wf = true) (m1 : (Lit.int .i64 bz_).wf = true) (w2 : (Lit.int .i64 r).wf = true) (w : World) :
    Calls Tryz.prog 8 #[.agg (v3 ax ay az), .agg (v3 bx b_y bz_), .int .i64 r] w fun e w' => e = .returned (.bool true) ∧ Below w.heap.size w w' :=
  have j0 := I64.wf k0
  have j1 := I64.wf l0
  have j2 := I64.wf m0
  have j3 := I64.wf k1
  have j4 := I64.wf l1
  have j5 := I64.wf m1
  have j6 := I64.wf w2
  VecNear_core ax ay az bx b_y bz_ r _ _ _ _ w (NearZ ax ay az bx b_y bz_ r j0 j1 j2 j3 j4 j5 j6) (NearR ax ay az bx b_y bz_ r j0 j1 j2 j3 j4 j5 j6) (VMoveZ ax ay az bx b_y bz_ r j0 j1 j2 j3 j4 j5 j6) (Move3 ax ay az bx b_y bz_ r j0 j1 j2 j3 j4 j5 j6)
theorem vecUnit_walk (ax ay az : Int) (k0 : (Lit.int .i64 ax).wf = true) (l0 : (Lit.int .i64 ay).wf = true) (m0 : (Lit.int .i64 az).wf = true) (w : World) :
    Calls Tryz.prog 7 #[.agg (v3 ax ay az)] w fun e w' => e = .returned (.bool true) ∧ Below w.heap.size w w' := by
  have j0 := I64.wf k0
  have j1 := I64.wf l0
  have j2 := I64.wf m0
  by_cases hz : ax = 0 ∧ ay = 0 ∧ az = 0
  · obtain ⟨rfl, rfl, rfl⟩ := hz
    exact VecUnit_core 0 0 0 _ _ _ _ w (sameV_self _ _ _) awake3Z unit_none (fun u => unit3_none u (by decide))
  · exact VecUnit_core ax ay az _ _ _ _ w (sameV_self _ _ _) awake3Z (UnitZ ax ay az j0 j1 j2 hz) (UnitR ax ay az j0 j1 j2 hz)

end Go.Proofs.YtljggjnaolbapaaGreat
