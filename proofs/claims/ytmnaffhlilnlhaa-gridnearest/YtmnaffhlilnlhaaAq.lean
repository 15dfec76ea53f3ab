/- The law GridNearest, where the point may not be. -/
import Derived.Test.YtmnaffhlilnlhaaAp
namespace Go.Proofs.Ytmnaffhlilnlhaa
open Go.RowKit
set_option maxRecDepth 4000
set_option linter.unusedVariables false

set_option maxHeartbeats 8000000 in
theorem near_no_e (px py pz vx vy vz wx wy wz ax ay az bx b_y bz_ qx qy qz f : Int) (w : World) (hc : Hid (Ans 18 #[.agg (v3 px py pz)] (.int .i64 7)))
    (r1 : Hid (Ans 14 #[.agg (v3 vx vy vz)] (.tuple #[.agg (v3 ax ay az), .int .i64 7]))) (r2 : Hid (Ans 14 #[.agg (v3 wx wy wz)] (.tuple #[.agg (v3 bx b_y bz_), .int .i64 f]))) (haw : Hid (Ans 20 #[] (.bool true))) :
    Calls Try.prog 10 #[.agg (v3 px py pz), .agg (v3 vx vy vz), .agg (v3 wx wy wz)] w fun e w' => e = .returned (.bool true) ∧ Below w.heap.size w w' := by
  go_enter Try.func10, Try.ntmps10
  go_upto_region 1 with fail
  have D := hide ((((Gen.start w).push 26 (v3 px py pz)).push 24 (v3 vx vy vz)).push 24 (v3 wx wy wz))
  simp only [szA] at D
  go_wp2_with (first | (with_reducible refine at_list ?_; apply ldG (unhide D) rPoint _ rfl rfl rfl (by repeat (first | exact List.mem_cons_self | apply List.mem_cons_of_mem)) rfl) | (with_reducible refine at_list ?_; apply ldG (unhide D) rVec _ rfl rfl rfl (by repeat (first | exact List.mem_cons_self | apply List.mem_cons_of_mem)) rfl) | (go_at_call 18; with_reducible refine (unhide hc _).mono ?_; rintro e w' ⟨he, hb⟩; subst he; have D := hide ((unhide D).keep hb); clear hb) | (go_at_call 14; with_reducible refine (unhide r1 _).mono ?_; rintro e w' ⟨he, hb⟩; subst he; have D := hide ((unhide D).keep hb); clear hb) | (go_at_call 14; with_reducible refine (unhide r2 _).mono ?_; rintro e w' ⟨he, hb⟩; subst he; have D := hide ((unhide D).keep hb); clear hb) | (with_reducible refine at_list ?_; refine stG (unhide D) rPoint _ _ rfl rfl rfl rfl rfl rfl (v3_one' _ _ _) ?_; intro D'; have D := hide D'; clear D') | (go_at_call 20; with_reducible refine (unhide haw _).mono ?_; rintro e w' ⟨he, hb⟩; subst he; have D := hide ((unhide D).keep hb); clear hb))
  go_ret
  exact ⟨rfl, (unhide D).o⟩
set_option maxHeartbeats 8000000 in
theorem near_no_f (px py pz vx vy vz wx wy wz ax ay az bx b_y bz_ qx qy qz f : Int) (w : World) (hc : Hid (Ans 18 #[.agg (v3 px py pz)] (.int .i64 7)))
    (r1 : Hid (Ans 14 #[.agg (v3 vx vy vz)] (.tuple #[.agg (v3 ax ay az), .int .i64 0]))) (r2 : Hid (Ans 14 #[.agg (v3 wx wy wz)] (.tuple #[.agg (v3 bx b_y bz_), .int .i64 7]))) (haw : Hid (Ans 20 #[] (.bool true))) :
    Calls Try.prog 10 #[.agg (v3 px py pz), .agg (v3 vx vy vz), .agg (v3 wx wy wz)] w fun e w' => e = .returned (.bool true) ∧ Below w.heap.size w w' := by
  go_enter Try.func10, Try.ntmps10
  go_upto_region 1 with fail
  have D := hide ((((Gen.start w).push 26 (v3 px py pz)).push 24 (v3 vx vy vz)).push 24 (v3 wx wy wz))
  simp only [szA] at D
  go_wp2_with (first | (with_reducible refine at_list ?_; apply ldG (unhide D) rPoint _ rfl rfl rfl (by repeat (first | exact List.mem_cons_self | apply List.mem_cons_of_mem)) rfl) | (with_reducible refine at_list ?_; apply ldG (unhide D) rVec _ rfl rfl rfl (by repeat (first | exact List.mem_cons_self | apply List.mem_cons_of_mem)) rfl) | (go_at_call 18; with_reducible refine (unhide hc _).mono ?_; rintro e w' ⟨he, hb⟩; subst he; have D := hide ((unhide D).keep hb); clear hb) | (go_at_call 14; with_reducible refine (unhide r1 _).mono ?_; rintro e w' ⟨he, hb⟩; subst he; have D := hide ((unhide D).keep hb); clear hb) | (go_at_call 14; with_reducible refine (unhide r2 _).mono ?_; rintro e w' ⟨he, hb⟩; subst he; have D := hide ((unhide D).keep hb); clear hb) | (with_reducible refine at_list ?_; refine stG (unhide D) rPoint _ _ rfl rfl rfl rfl rfl rfl (v3_one' _ _ _) ?_; intro D'; have D := hide D'; clear D') | (go_at_call 20; with_reducible refine (unhide haw _).mono ?_; rintro e w' ⟨he, hb⟩; subst he; have D := hide ((unhide D).keep hb); clear hb))
  go_ret
  exact ⟨rfl, (unhide D).o⟩
set_option maxHeartbeats 8000000 in
theorem near_no_b (px py pz vx vy vz wx wy wz ax ay az bx b_y bz_ qx qy qz f : Int) (g1 g2 g3 : Bool) (w : World) (hc : Hid (Ans 18 #[.agg (v3 px py pz)] (.int .i64 7)))
    (r1 : Hid (Ans 14 #[.agg (v3 vx vy vz)] (.tuple #[.agg (v3 ax ay az), .int .i64 0]))) (r2 : Hid (Ans 14 #[.agg (v3 wx wy wz)] (.tuple #[.agg (v3 bx b_y bz_), .int .i64 0]))) (haw : Hid (Ans 20 #[] (.bool true)))
    (c1 : Hid (Ans 41 #[.int .i64 vx, .int .i64 ax] (.bool true))) (c2 : Hid (Ans 41 #[.int .i64 vy, .int .i64 ay] (.bool true))) (c3 : Hid (Ans 41 #[.int .i64 vz, .int .i64 az] (.bool true)))
    (d1 : Hid (decide (wx < vx) = g1)) (d2 : Hid (decide (wy < vy) = g2)) (d3 : Hid (decide (wz < vz) = g3)) (l1 : Hid (g1 = false → decide (ax ≤ bx) = true)) (l2 : Hid (g2 = false → decide (ay ≤ b_y) = true)) (l3 : Hid (g3 = false → decide (az ≤ bz_) = true)) :
    Calls Try.prog 10 #[.agg (v3 px py pz), .agg (v3 vx vy vz), .agg (v3 wx wy wz)] w fun e w' => e = .returned (.bool true) ∧ Below w.heap.size w w' := by
  go_enter Try.func10, Try.ntmps10
  go_upto_region 1 with fail
  have D := hide ((((Gen.start w).push 26 (v3 px py pz)).push 24 (v3 vx vy vz)).push 24 (v3 wx wy wz))
  simp only [szA] at D
  go_upto_region 9 with (first | (with_reducible refine at_list ?_; apply ldG (unhide D) rPoint _ rfl rfl rfl (by repeat (first | exact List.mem_cons_self | apply List.mem_cons_of_mem)) rfl) | (with_reducible refine at_list ?_; apply ldG (unhide D) rVec _ rfl rfl rfl (by repeat (first | exact List.mem_cons_self | apply List.mem_cons_of_mem)) rfl) | (go_at_call 18; with_reducible refine (unhide hc _).mono ?_; rintro e w' ⟨he, hb⟩; subst he; have D := hide ((unhide D).keep hb); clear hb) | (go_at_call 14; with_reducible refine (unhide r1 _).mono ?_; rintro e w' ⟨he, hb⟩; subst he; have D := hide ((unhide D).keep hb); clear hb) | (go_at_call 14; with_reducible refine (unhide r2 _).mono ?_; rintro e w' ⟨he, hb⟩; subst he; have D := hide ((unhide D).keep hb); clear hb) | (with_reducible refine at_list ?_; refine stG (unhide D) rPoint _ _ rfl rfl rfl rfl rfl rfl (v3_one' _ _ _) ?_; intro D'; have D := hide D'; clear D'))
  clear hc r1 r2
  refine list_start (S := Gen w _) (unhide D) ?_
  clear D
  refine list_read (v := ?_) rfl rfl (fun u hS => by go_simp; rfl) ?_
  go_simp
  refine list_read (v := .int .i64 vx) rfl rfl (fun u hS => exec_loadFG hS _ rfl rfl (by repeat (first | exact List.mem_cons_self | apply List.mem_cons_of_mem)) rfl) ?_
  go_simp
  refine list_read (v := ?_) rfl rfl (fun u hS => by go_simp; rfl) ?_
  go_simp
  refine list_read (v := .int .i64 ax) rfl rfl (fun u hS => exec_loadIG hS _ rfl rfl (by repeat (first | exact List.mem_cons_self | apply List.mem_cons_of_mem)) rfl) ?_
  go_simp
  refine list_call (v := (.bool true)) (f := 41) (args := #[.int .i64 vx, .int .i64 ax]) rfl rfl (fun u hS => by go_simp) (fun u hS => (unhide c1 u).mono fun _ _ ⟨he, hb⟩ => ⟨he, hS.keep hb⟩) ?_
  go_simp
  refine list_read (v := ?_) rfl rfl (fun u hS => by go_simp; rfl) ?_
  go_simp
  refine list_read (v := ?_) rfl rfl (fun u hS => by go_simp; rfl) ?_
  go_simp
  refine list_read (v := .int .i64 vy) rfl rfl (fun u hS => exec_loadFG hS _ rfl rfl (by repeat (first | exact List.mem_cons_self | apply List.mem_cons_of_mem)) rfl) ?_
  go_simp
  refine list_read (v := ?_) rfl rfl (fun u hS => by go_simp; rfl) ?_
  go_simp
  refine list_read (v := .int .i64 ay) rfl rfl (fun u hS => exec_loadIG hS _ rfl rfl (by repeat (first | exact List.mem_cons_self | apply List.mem_cons_of_mem)) rfl) ?_
  go_simp
  refine list_call (v := (.bool true)) (f := 41) (args := #[.int .i64 vy, .int .i64 ay]) rfl rfl (fun u hS => by go_simp) (fun u hS => (unhide c2 u).mono fun _ _ ⟨he, hb⟩ => ⟨he, hS.keep hb⟩) ?_
  go_simp
  refine list_read (v := ?_) rfl rfl (fun u hS => by go_simp; rfl) ?_
  go_simp
  refine list_read (v := ?_) rfl rfl (fun u hS => by go_simp; rfl) ?_
  go_simp
  refine list_read (v := ?_) rfl rfl (fun u hS => by go_simp; rfl) ?_
  go_simp
  refine list_read (v := .int .i64 vz) rfl rfl (fun u hS => exec_loadFG hS _ rfl rfl (by repeat (first | exact List.mem_cons_self | apply List.mem_cons_of_mem)) rfl) ?_
  go_simp
  refine list_read (v := ?_) rfl rfl (fun u hS => by go_simp; rfl) ?_
  go_simp
  refine list_read (v := .int .i64 az) rfl rfl (fun u hS => exec_loadIG hS _ rfl rfl (by repeat (first | exact List.mem_cons_self | apply List.mem_cons_of_mem)) rfl) ?_
  go_simp
  refine list_call (v := (.bool true)) (f := 41) (args := #[.int .i64 vz, .int .i64 az]) rfl rfl (fun u hS => by go_simp) (fun u hS => (unhide c3 u).mono fun _ _ ⟨he, hb⟩ => ⟨he, hS.keep hb⟩) ?_
  go_simp
  refine list_read (v := ?_) rfl rfl (fun u hS => by go_simp; rfl) ?_
  go_simp
  refine list_read (v := ?_) rfl rfl (fun u hS => by go_simp; rfl) ?_
  go_simp
  cases g1
  · refine list_read (v := ?_) rfl rfl (fun u hS => by go_simp; rfl) ?_
    go_simp
    refine list_read (v := .int .i64 vx) rfl rfl (fun u hS => exec_loadFG hS _ rfl rfl (by repeat (first | exact List.mem_cons_self | apply List.mem_cons_of_mem)) rfl) ?_
    go_simp
    refine list_read (v := ?_) rfl rfl (fun u hS => by go_simp; rfl) ?_
    go_simp
    refine list_read (v := .int .i64 wx) rfl rfl (fun u hS => exec_loadFG hS _ rfl rfl (by repeat (first | exact List.mem_cons_self | apply List.mem_cons_of_mem)) rfl) ?_
    go_simp
    refine list_read (v := .bool false) rfl rfl (fun u hS => exec_gtrZ _ _ (unhide d1) rfl rfl rfl) ?_
    go_simp
    refine list_read (v := ?_) rfl rfl (fun u hS => by go_simp; rfl) ?_
    go_simp
    refine list_read (v := ?_) rfl rfl (fun u hS => by go_simp; rfl) ?_
    go_simp
    refine list_read (v := .int .i64 ax) rfl rfl (fun u hS => exec_loadIG hS _ rfl rfl (by repeat (first | exact List.mem_cons_self | apply List.mem_cons_of_mem)) rfl) ?_
    go_simp
    refine list_read (v := ?_) rfl rfl (fun u hS => by go_simp; rfl) ?_
    go_simp
    refine list_read (v := .int .i64 bx) rfl rfl (fun u hS => exec_loadIG hS _ rfl rfl (by repeat (first | exact List.mem_cons_self | apply List.mem_cons_of_mem)) rfl) ?_
    go_simp
    refine list_read (v := .bool true) rfl rfl (fun u hS => exec_leqZ _ _ _ (unhide l1 rfl) rfl rfl rfl) ?_
    go_simp
    refine list_read (v := ?_) rfl rfl (fun u hS => by go_simp; rfl) ?_
    go_simp
    refine list_read (v := ?_) rfl rfl (fun u hS => by go_simp; rfl) ?_
    go_simp
    refine list_read (v := ?_) rfl rfl (fun u hS => by go_simp; rfl) ?_
    go_simp
    cases g2
    · refine list_read (v := ?_) rfl rfl (fun u hS => by go_simp; rfl) ?_
      go_simp
      refine list_read (v := .int .i64 vy) rfl rfl (fun u hS => exec_loadFG hS _ rfl rfl (by repeat (first | exact List.mem_cons_self | apply List.mem_cons_of_mem)) rfl) ?_
      go_simp
      refine list_read (v := ?_) rfl rfl (fun u hS => by go_simp; rfl) ?_
      go_simp
      refine list_read (v := .int .i64 wy) rfl rfl (fun u hS => exec_loadFG hS _ rfl rfl (by repeat (first | exact List.mem_cons_self | apply List.mem_cons_of_mem)) rfl) ?_
      go_simp
      refine list_read (v := .bool false) rfl rfl (fun u hS => exec_gtrZ _ _ (unhide d2) rfl rfl rfl) ?_
      go_simp
      refine list_read (v := ?_) rfl rfl (fun u hS => by go_simp; rfl) ?_
      go_simp
      refine list_read (v := ?_) rfl rfl (fun u hS => by go_simp; rfl) ?_
      go_simp
      refine list_read (v := .int .i64 ay) rfl rfl (fun u hS => exec_loadIG hS _ rfl rfl (by repeat (first | exact List.mem_cons_self | apply List.mem_cons_of_mem)) rfl) ?_
      go_simp
      refine list_read (v := ?_) rfl rfl (fun u hS => by go_simp; rfl) ?_
      go_simp
      refine list_read (v := .int .i64 b_y) rfl rfl (fun u hS => exec_loadIG hS _ rfl rfl (by repeat (first | exact List.mem_cons_self | apply List.mem_cons_of_mem)) rfl) ?_
      go_simp
      refine list_read (v := .bool true) rfl rfl (fun u hS => exec_leqZ _ _ _ (unhide l2 rfl) rfl rfl rfl) ?_
      go_simp
      refine list_read (v := ?_) rfl rfl (fun u hS => by go_simp; rfl) ?_
      go_simp
      refine list_read (v := ?_) rfl rfl (fun u hS => by go_simp; rfl) ?_
      go_simp
      refine list_read (v := ?_) rfl rfl (fun u hS => by go_simp; rfl) ?_
      go_simp
      cases g3
      · refine list_read (v := ?_) rfl rfl (fun u hS => by go_simp; rfl) ?_
        go_simp
        refine list_read (v := .int .i64 vz) rfl rfl (fun u hS => exec_loadFG hS _ rfl rfl (by repeat (first | exact List.mem_cons_self | apply List.mem_cons_of_mem)) rfl) ?_
        go_simp
        refine list_read (v := ?_) rfl rfl (fun u hS => by go_simp; rfl) ?_
        go_simp
        refine list_read (v := .int .i64 wz) rfl rfl (fun u hS => exec_loadFG hS _ rfl rfl (by repeat (first | exact List.mem_cons_self | apply List.mem_cons_of_mem)) rfl) ?_
        go_simp
        refine list_read (v := .bool false) rfl rfl (fun u hS => exec_gtrZ _ _ (unhide d3) rfl rfl rfl) ?_
        go_simp
        refine list_read (v := ?_) rfl rfl (fun u hS => by go_simp; rfl) ?_
        go_simp
        refine list_read (v := ?_) rfl rfl (fun u hS => by go_simp; rfl) ?_
        go_simp
        refine list_read (v := .int .i64 az) rfl rfl (fun u hS => exec_loadIG hS _ rfl rfl (by repeat (first | exact List.mem_cons_self | apply List.mem_cons_of_mem)) rfl) ?_
        go_simp
        refine list_read (v := ?_) rfl rfl (fun u hS => by go_simp; rfl) ?_
        go_simp
        refine list_read (v := .int .i64 bz_) rfl rfl (fun u hS => exec_loadIG hS _ rfl rfl (by repeat (first | exact List.mem_cons_self | apply List.mem_cons_of_mem)) rfl) ?_
        go_simp
        refine list_read (v := .bool true) rfl rfl (fun u hS => exec_leqZ _ _ _ (unhide l3 rfl) rfl rfl rfl) ?_
        go_simp
        refine list_read (v := ?_) rfl rfl (fun u hS => by go_simp; rfl) ?_
        go_simp
        refine list_read (v := ?_) rfl rfl (fun u hS => by go_simp; rfl) ?_
        go_simp
        refine list_read (v := ?_) rfl rfl (fun u hS => by go_simp; rfl) ?_
        go_simp
        refine list_call (v := (.bool true)) (f := 20) (args := #[]) rfl rfl (fun u hS => by go_simp) (fun u hS => (unhide haw u).mono fun _ _ ⟨he, hb⟩ => ⟨he, hS.keep hb⟩) ?_
        go_simp
        refine list_read (v := ?_) rfl rfl (fun u hS => by go_simp; rfl) ?_
        go_simp
        refine list_read (v := ?_) rfl rfl (fun u hS => by go_simp; rfl) ?_
        go_simp
        refine list_end (fun u hS => ?_)
        have O := hide hS.o
        clear hS
        go_wp2
        go_ret
        exact ⟨rfl, unhide O⟩
      · refine list_read (v := ?_) rfl rfl (fun u hS => by go_simp; rfl) ?_
        go_simp
        refine list_read (v := .int .i64 vz) rfl rfl (fun u hS => exec_loadFG hS _ rfl rfl (by repeat (first | exact List.mem_cons_self | apply List.mem_cons_of_mem)) rfl) ?_
        go_simp
        refine list_read (v := ?_) rfl rfl (fun u hS => by go_simp; rfl) ?_
        go_simp
        refine list_read (v := .int .i64 wz) rfl rfl (fun u hS => exec_loadFG hS _ rfl rfl (by repeat (first | exact List.mem_cons_self | apply List.mem_cons_of_mem)) rfl) ?_
        go_simp
        refine list_read (v := .bool true) rfl rfl (fun u hS => exec_gtrZ _ _ (unhide d3) rfl rfl rfl) ?_
        go_simp
        refine list_read (v := ?_) rfl rfl (fun u hS => by go_simp; rfl) ?_
        go_simp
        refine list_skip rfl rfl ?_
        go_simp
        refine list_skip rfl rfl ?_
        go_simp
        refine list_skip rfl rfl ?_
        go_simp
        refine list_skip rfl rfl ?_
        go_simp
        refine list_skip rfl rfl ?_
        go_simp
        refine list_read (v := ?_) rfl rfl (fun u hS => by go_simp; rfl) ?_
        go_simp
        refine list_read (v := ?_) rfl rfl (fun u hS => by go_simp; rfl) ?_
        go_simp
        refine list_read (v := ?_) rfl rfl (fun u hS => by go_simp; rfl) ?_
        go_simp
        refine list_call (v := (.bool true)) (f := 20) (args := #[]) rfl rfl (fun u hS => by go_simp) (fun u hS => (unhide haw u).mono fun _ _ ⟨he, hb⟩ => ⟨he, hS.keep hb⟩) ?_
        go_simp
        refine list_read (v := ?_) rfl rfl (fun u hS => by go_simp; rfl) ?_
        go_simp
        refine list_read (v := ?_) rfl rfl (fun u hS => by go_simp; rfl) ?_
        go_simp
        refine list_end (fun u hS => ?_)
        have O := hide hS.o
        clear hS
        go_wp2
        go_ret
        exact ⟨rfl, unhide O⟩
    · refine list_read (v := ?_) rfl rfl (fun u hS => by go_simp; rfl) ?_
      go_simp
      refine list_read (v := .int .i64 vy) rfl rfl (fun u hS => exec_loadFG hS _ rfl rfl (by repeat (first | exact List.mem_cons_self | apply List.mem_cons_of_mem)) rfl) ?_
      go_simp
      refine list_read (v := ?_) rfl rfl (fun u hS => by go_simp; rfl) ?_
      go_simp
      refine list_read (v := .int .i64 wy) rfl rfl (fun u hS => exec_loadFG hS _ rfl rfl (by repeat (first | exact List.mem_cons_self | apply List.mem_cons_of_mem)) rfl) ?_
      go_simp
      refine list_read (v := .bool true) rfl rfl (fun u hS => exec_gtrZ _ _ (unhide d2) rfl rfl rfl) ?_
      go_simp
      refine list_read (v := ?_) rfl rfl (fun u hS => by go_simp; rfl) ?_
      go_simp
      refine list_skip rfl rfl ?_
      go_simp
      refine list_skip rfl rfl ?_
      go_simp
      refine list_skip rfl rfl ?_
      go_simp
      refine list_skip rfl rfl ?_
      go_simp
      refine list_skip rfl rfl ?_
      go_simp
      refine list_read (v := ?_) rfl rfl (fun u hS => by go_simp; rfl) ?_
      go_simp
      refine list_read (v := ?_) rfl rfl (fun u hS => by go_simp; rfl) ?_
      go_simp
      refine list_read (v := ?_) rfl rfl (fun u hS => by go_simp; rfl) ?_
      go_simp
      cases g3
      · refine list_read (v := ?_) rfl rfl (fun u hS => by go_simp; rfl) ?_
        go_simp
        refine list_read (v := .int .i64 vz) rfl rfl (fun u hS => exec_loadFG hS _ rfl rfl (by repeat (first | exact List.mem_cons_self | apply List.mem_cons_of_mem)) rfl) ?_
        go_simp
        refine list_read (v := ?_) rfl rfl (fun u hS => by go_simp; rfl) ?_
        go_simp
        refine list_read (v := .int .i64 wz) rfl rfl (fun u hS => exec_loadFG hS _ rfl rfl (by repeat (first | exact List.mem_cons_self | apply List.mem_cons_of_mem)) rfl) ?_
        go_simp
        refine list_read (v := .bool false) rfl rfl (fun u hS => exec_gtrZ _ _ (unhide d3) rfl rfl rfl) ?_
        go_simp
        refine list_read (v := ?_) rfl rfl (fun u hS => by go_simp; rfl) ?_
        go_simp
        refine list_read (v := ?_) rfl rfl (fun u hS => by go_simp; rfl) ?_
        go_simp
        refine list_read (v := .int .i64 az) rfl rfl (fun u hS => exec_loadIG hS _ rfl rfl (by repeat (first | exact List.mem_cons_self | apply List.mem_cons_of_mem)) rfl) ?_
        go_simp
        refine list_read (v := ?_) rfl rfl (fun u hS => by go_simp; rfl) ?_
        go_simp
        refine list_read (v := .int .i64 bz_) rfl rfl (fun u hS => exec_loadIG hS _ rfl rfl (by repeat (first | exact List.mem_cons_self | apply List.mem_cons_of_mem)) rfl) ?_
        go_simp
        refine list_read (v := .bool true) rfl rfl (fun u hS => exec_leqZ _ _ _ (unhide l3 rfl) rfl rfl rfl) ?_
        go_simp
        refine list_read (v := ?_) rfl rfl (fun u hS => by go_simp; rfl) ?_
        go_simp
        refine list_read (v := ?_) rfl rfl (fun u hS => by go_simp; rfl) ?_
        go_simp
        refine list_read (v := ?_) rfl rfl (fun u hS => by go_simp; rfl) ?_
        go_simp
        refine list_call (v := (.bool true)) (f := 20) (args := #[]) rfl rfl (fun u hS => by go_simp) (fun u hS => (unhide haw u).mono fun _ _ ⟨he, hb⟩ => ⟨he, hS.keep hb⟩) ?_
        go_simp
        refine list_read (v := ?_) rfl rfl (fun u hS => by go_simp; rfl) ?_
        go_simp
        refine list_read (v := ?_) rfl rfl (fun u hS => by go_simp; rfl) ?_
        go_simp
        refine list_end (fun u hS => ?_)
        have O := hide hS.o
        clear hS
        go_wp2
        go_ret
        exact ⟨rfl, unhide O⟩
      · refine list_read (v := ?_) rfl rfl (fun u hS => by go_simp; rfl) ?_
        go_simp
        refine list_read (v := .int .i64 vz) rfl rfl (fun u hS => exec_loadFG hS _ rfl rfl (by repeat (first | exact List.mem_cons_self | apply List.mem_cons_of_mem)) rfl) ?_
        go_simp
        refine list_read (v := ?_) rfl rfl (fun u hS => by go_simp; rfl) ?_
        go_simp
        refine list_read (v := .int .i64 wz) rfl rfl (fun u hS => exec_loadFG hS _ rfl rfl (by repeat (first | exact List.mem_cons_self | apply List.mem_cons_of_mem)) rfl) ?_
        go_simp
        refine list_read (v := .bool true) rfl rfl (fun u hS => exec_gtrZ _ _ (unhide d3) rfl rfl rfl) ?_
        go_simp
        refine list_read (v := ?_) rfl rfl (fun u hS => by go_simp; rfl) ?_
        go_simp
        refine list_skip rfl rfl ?_
        go_simp
        refine list_skip rfl rfl ?_
        go_simp
        refine list_skip rfl rfl ?_
        go_simp
        refine list_skip rfl rfl ?_
        go_simp
        refine list_skip rfl rfl ?_
        go_simp
        refine list_read (v := ?_) rfl rfl (fun u hS => by go_simp; rfl) ?_
        go_simp
        refine list_read (v := ?_) rfl rfl (fun u hS => by go_simp; rfl) ?_
        go_simp
        refine list_read (v := ?_) rfl rfl (fun u hS => by go_simp; rfl) ?_
        go_simp
        refine list_call (v := (.bool true)) (f := 20) (args := #[]) rfl rfl (fun u hS => by go_simp) (fun u hS => (unhide haw u).mono fun _ _ ⟨he, hb⟩ => ⟨he, hS.keep hb⟩) ?_
        go_simp
        refine list_read (v := ?_) rfl rfl (fun u hS => by go_simp; rfl) ?_
        go_simp
        refine list_read (v := ?_) rfl rfl (fun u hS => by go_simp; rfl) ?_
        go_simp
        refine list_end (fun u hS => ?_)
        have O := hide hS.o
        clear hS
        go_wp2
        go_ret
        exact ⟨rfl, unhide O⟩
  · refine list_read (v := ?_) rfl rfl (fun u hS => by go_simp; rfl) ?_
    go_simp
    refine list_read (v := .int .i64 vx) rfl rfl (fun u hS => exec_loadFG hS _ rfl rfl (by repeat (first | exact List.mem_cons_self | apply List.mem_cons_of_mem)) rfl) ?_
    go_simp
    refine list_read (v := ?_) rfl rfl (fun u hS => by go_simp; rfl) ?_
    go_simp
    refine list_read (v := .int .i64 wx) rfl rfl (fun u hS => exec_loadFG hS _ rfl rfl (by repeat (first | exact List.mem_cons_self | apply List.mem_cons_of_mem)) rfl) ?_
    go_simp
    refine list_read (v := .bool true) rfl rfl (fun u hS => exec_gtrZ _ _ (unhide d1) rfl rfl rfl) ?_
    go_simp
    refine list_read (v := ?_) rfl rfl (fun u hS => by go_simp; rfl) ?_
    go_simp
    refine list_skip rfl rfl ?_
    go_simp
    refine list_skip rfl rfl ?_
    go_simp
    refine list_skip rfl rfl ?_
    go_simp
    refine list_skip rfl rfl ?_
    go_simp
    refine list_skip rfl rfl ?_
    go_simp
    refine list_read (v := ?_) rfl rfl (fun u hS => by go_simp; rfl) ?_
    go_simp
    refine list_read (v := ?_) rfl rfl (fun u hS => by go_simp; rfl) ?_
    go_simp
    refine list_read (v := ?_) rfl rfl (fun u hS => by go_simp; rfl) ?_
    go_simp
    cases g2
    · refine list_read (v := ?_) rfl rfl (fun u hS => by go_simp; rfl) ?_
      go_simp
      refine list_read (v := .int .i64 vy) rfl rfl (fun u hS => exec_loadFG hS _ rfl rfl (by repeat (first | exact List.mem_cons_self | apply List.mem_cons_of_mem)) rfl) ?_
      go_simp
      refine list_read (v := ?_) rfl rfl (fun u hS => by go_simp; rfl) ?_
      go_simp
      refine list_read (v := .int .i64 wy) rfl rfl (fun u hS => exec_loadFG hS _ rfl rfl (by repeat (first | exact List.mem_cons_self | apply List.mem_cons_of_mem)) rfl) ?_
      go_simp
      refine list_read (v := .bool false) rfl rfl (fun u hS => exec_gtrZ _ _ (unhide d2) rfl rfl rfl) ?_
      go_simp
      refine list_read (v := ?_) rfl rfl (fun u hS => by go_simp; rfl) ?_
      go_simp
      refine list_read (v := ?_) rfl rfl (fun u hS => by go_simp; rfl) ?_
      go_simp
      refine list_read (v := .int .i64 ay) rfl rfl (fun u hS => exec_loadIG hS _ rfl rfl (by repeat (first | exact List.mem_cons_self | apply List.mem_cons_of_mem)) rfl) ?_
      go_simp
      refine list_read (v := ?_) rfl rfl (fun u hS => by go_simp; rfl) ?_
      go_simp
      refine list_read (v := .int .i64 b_y) rfl rfl (fun u hS => exec_loadIG hS _ rfl rfl (by repeat (first | exact List.mem_cons_self | apply List.mem_cons_of_mem)) rfl) ?_
      go_simp
      refine list_read (v := .bool true) rfl rfl (fun u hS => exec_leqZ _ _ _ (unhide l2 rfl) rfl rfl rfl) ?_
      go_simp
      refine list_read (v := ?_) rfl rfl (fun u hS => by go_simp; rfl) ?_
      go_simp
      refine list_read (v := ?_) rfl rfl (fun u hS => by go_simp; rfl) ?_
      go_simp
      refine list_read (v := ?_) rfl rfl (fun u hS => by go_simp; rfl) ?_
      go_simp
      cases g3
      · refine list_read (v := ?_) rfl rfl (fun u hS => by go_simp; rfl) ?_
        go_simp
        refine list_read (v := .int .i64 vz) rfl rfl (fun u hS => exec_loadFG hS _ rfl rfl (by repeat (first | exact List.mem_cons_self | apply List.mem_cons_of_mem)) rfl) ?_
        go_simp
        refine list_read (v := ?_) rfl rfl (fun u hS => by go_simp; rfl) ?_
        go_simp
        refine list_read (v := .int .i64 wz) rfl rfl (fun u hS => exec_loadFG hS _ rfl rfl (by repeat (first | exact List.mem_cons_self | apply List.mem_cons_of_mem)) rfl) ?_
        go_simp
        refine list_read (v := .bool false) rfl rfl (fun u hS => exec_gtrZ _ _ (unhide d3) rfl rfl rfl) ?_
        go_simp
        refine list_read (v := ?_) rfl rfl (fun u hS => by go_simp; rfl) ?_
        go_simp
        refine list_read (v := ?_) rfl rfl (fun u hS => by go_simp; rfl) ?_
        go_simp
        refine list_read (v := .int .i64 az) rfl rfl (fun u hS => exec_loadIG hS _ rfl rfl (by repeat (first | exact List.mem_cons_self | apply List.mem_cons_of_mem)) rfl) ?_
        go_simp
        refine list_read (v := ?_) rfl rfl (fun u hS => by go_simp; rfl) ?_
        go_simp
        refine list_read (v := .int .i64 bz_) rfl rfl (fun u hS => exec_loadIG hS _ rfl rfl (by repeat (first | exact List.mem_cons_self | apply List.mem_cons_of_mem)) rfl) ?_
        go_simp
        refine list_read (v := .bool true) rfl rfl (fun u hS => exec_leqZ _ _ _ (unhide l3 rfl) rfl rfl rfl) ?_
        go_simp
        refine list_read (v := ?_) rfl rfl (fun u hS => by go_simp; rfl) ?_
        go_simp
        refine list_read (v := ?_) rfl rfl (fun u hS => by go_simp; rfl) ?_
        go_simp
        refine list_read (v := ?_) rfl rfl (fun u hS => by go_simp; rfl) ?_
        go_simp
        refine list_call (v := (.bool true)) (f := 20) (args := #[]) rfl rfl (fun u hS => by go_simp) (fun u hS => (unhide haw u).mono fun _ _ ⟨he, hb⟩ => ⟨he, hS.keep hb⟩) ?_
        go_simp
        refine list_read (v := ?_) rfl rfl (fun u hS => by go_simp; rfl) ?_
        go_simp
        refine list_read (v := ?_) rfl rfl (fun u hS => by go_simp; rfl) ?_
        go_simp
        refine list_end (fun u hS => ?_)
        have O := hide hS.o
        clear hS
        go_wp2
        go_ret
        exact ⟨rfl, unhide O⟩
      · refine list_read (v := ?_) rfl rfl (fun u hS => by go_simp; rfl) ?_
        go_simp
        refine list_read (v := .int .i64 vz) rfl rfl (fun u hS => exec_loadFG hS _ rfl rfl (by repeat (first | exact List.mem_cons_self | apply List.mem_cons_of_mem)) rfl) ?_
        go_simp
        refine list_read (v := ?_) rfl rfl (fun u hS => by go_simp; rfl) ?_
        go_simp
        refine list_read (v := .int .i64 wz) rfl rfl (fun u hS => exec_loadFG hS _ rfl rfl (by repeat (first | exact List.mem_cons_self | apply List.mem_cons_of_mem)) rfl) ?_
        go_simp
        refine list_read (v := .bool true) rfl rfl (fun u hS => exec_gtrZ _ _ (unhide d3) rfl rfl rfl) ?_
        go_simp
        refine list_read (v := ?_) rfl rfl (fun u hS => by go_simp; rfl) ?_
        go_simp
        refine list_skip rfl rfl ?_
        go_simp
        refine list_skip rfl rfl ?_
        go_simp
        refine list_skip rfl rfl ?_
        go_simp
        refine list_skip rfl rfl ?_
        go_simp
        refine list_skip rfl rfl ?_
        go_simp
        refine list_read (v := ?_) rfl rfl (fun u hS => by go_simp; rfl) ?_
        go_simp
        refine list_read (v := ?_) rfl rfl (fun u hS => by go_simp; rfl) ?_
        go_simp
        refine list_read (v := ?_) rfl rfl (fun u hS => by go_simp; rfl) ?_
        go_simp
        refine list_call (v := (.bool true)) (f := 20) (args := #[]) rfl rfl (fun u hS => by go_simp) (fun u hS => (unhide haw u).mono fun _ _ ⟨he, hb⟩ => ⟨he, hS.keep hb⟩) ?_
        go_simp
        refine list_read (v := ?_) rfl rfl (fun u hS => by go_simp; rfl) ?_
        go_simp
        refine list_read (v := ?_) rfl rfl (fun u hS => by go_simp; rfl) ?_
        go_simp
        refine list_end (fun u hS => ?_)
        have O := hide hS.o
        clear hS
        go_wp2
        go_ret
        exact ⟨rfl, unhide O⟩
    · refine list_read (v := ?_) rfl rfl (fun u hS => by go_simp; rfl) ?_
      go_simp
      refine list_read (v := .int .i64 vy) rfl rfl (fun u hS => exec_loadFG hS _ rfl rfl (by repeat (first | exact List.mem_cons_self | apply List.mem_cons_of_mem)) rfl) ?_
      go_simp
      refine list_read (v := ?_) rfl rfl (fun u hS => by go_simp; rfl) ?_
      go_simp
      refine list_read (v := .int .i64 wy) rfl rfl (fun u hS => exec_loadFG hS _ rfl rfl (by repeat (first | exact List.mem_cons_self | apply List.mem_cons_of_mem)) rfl) ?_
      go_simp
      refine list_read (v := .bool true) rfl rfl (fun u hS => exec_gtrZ _ _ (unhide d2) rfl rfl rfl) ?_
      go_simp
      refine list_read (v := ?_) rfl rfl (fun u hS => by go_simp; rfl) ?_
      go_simp
      refine list_skip rfl rfl ?_
      go_simp
      refine list_skip rfl rfl ?_
      go_simp
      refine list_skip rfl rfl ?_
      go_simp
      refine list_skip rfl rfl ?_
      go_simp
      refine list_skip rfl rfl ?_
      go_simp
      refine list_read (v := ?_) rfl rfl (fun u hS => by go_simp; rfl) ?_
      go_simp
      refine list_read (v := ?_) rfl rfl (fun u hS => by go_simp; rfl) ?_
      go_simp
      refine list_read (v := ?_) rfl rfl (fun u hS => by go_simp; rfl) ?_
      go_simp
      cases g3
      · refine list_read (v := ?_) rfl rfl (fun u hS => by go_simp; rfl) ?_
        go_simp
        refine list_read (v := .int .i64 vz) rfl rfl (fun u hS => exec_loadFG hS _ rfl rfl (by repeat (first | exact List.mem_cons_self | apply List.mem_cons_of_mem)) rfl) ?_
        go_simp
        refine list_read (v := ?_) rfl rfl (fun u hS => by go_simp; rfl) ?_
        go_simp
        refine list_read (v := .int .i64 wz) rfl rfl (fun u hS => exec_loadFG hS _ rfl rfl (by repeat (first | exact List.mem_cons_self | apply List.mem_cons_of_mem)) rfl) ?_
        go_simp
        refine list_read (v := .bool false) rfl rfl (fun u hS => exec_gtrZ _ _ (unhide d3) rfl rfl rfl) ?_
        go_simp
        refine list_read (v := ?_) rfl rfl (fun u hS => by go_simp; rfl) ?_
        go_simp
        refine list_read (v := ?_) rfl rfl (fun u hS => by go_simp; rfl) ?_
        go_simp
        refine list_read (v := .int .i64 az) rfl rfl (fun u hS => exec_loadIG hS _ rfl rfl (by repeat (first | exact List.mem_cons_self | apply List.mem_cons_of_mem)) rfl) ?_
        go_simp
        refine list_read (v := ?_) rfl rfl (fun u hS => by go_simp; rfl) ?_
        go_simp
        refine list_read (v := .int .i64 bz_) rfl rfl (fun u hS => exec_loadIG hS _ rfl rfl (by repeat (first | exact List.mem_cons_self | apply List.mem_cons_of_mem)) rfl) ?_
        go_simp
        refine list_read (v := .bool true) rfl rfl (fun u hS => exec_leqZ _ _ _ (unhide l3 rfl) rfl rfl rfl) ?_
        go_simp
        refine list_read (v := ?_) rfl rfl (fun u hS => by go_simp; rfl) ?_
        go_simp
        refine list_read (v := ?_) rfl rfl (fun u hS => by go_simp; rfl) ?_
        go_simp
        refine list_read (v := ?_) rfl rfl (fun u hS => by go_simp; rfl) ?_
        go_simp
        refine list_call (v := (.bool true)) (f := 20) (args := #[]) rfl rfl (fun u hS => by go_simp) (fun u hS => (unhide haw u).mono fun _ _ ⟨he, hb⟩ => ⟨he, hS.keep hb⟩) ?_
        go_simp
        refine list_read (v := ?_) rfl rfl (fun u hS => by go_simp; rfl) ?_
        go_simp
        refine list_read (v := ?_) rfl rfl (fun u hS => by go_simp; rfl) ?_
        go_simp
        refine list_end (fun u hS => ?_)
        have O := hide hS.o
        clear hS
        go_wp2
        go_ret
        exact ⟨rfl, unhide O⟩
      · refine list_read (v := ?_) rfl rfl (fun u hS => by go_simp; rfl) ?_
        go_simp
        refine list_read (v := .int .i64 vz) rfl rfl (fun u hS => exec_loadFG hS _ rfl rfl (by repeat (first | exact List.mem_cons_self | apply List.mem_cons_of_mem)) rfl) ?_
        go_simp
        refine list_read (v := ?_) rfl rfl (fun u hS => by go_simp; rfl) ?_
        go_simp
        refine list_read (v := .int .i64 wz) rfl rfl (fun u hS => exec_loadFG hS _ rfl rfl (by repeat (first | exact List.mem_cons_self | apply List.mem_cons_of_mem)) rfl) ?_
        go_simp
        refine list_read (v := .bool true) rfl rfl (fun u hS => exec_gtrZ _ _ (unhide d3) rfl rfl rfl) ?_
        go_simp
        refine list_read (v := ?_) rfl rfl (fun u hS => by go_simp; rfl) ?_
        go_simp
        refine list_skip rfl rfl ?_
        go_simp
        refine list_skip rfl rfl ?_
        go_simp
        refine list_skip rfl rfl ?_
        go_simp
        refine list_skip rfl rfl ?_
        go_simp
        refine list_skip rfl rfl ?_
        go_simp
        refine list_read (v := ?_) rfl rfl (fun u hS => by go_simp; rfl) ?_
        go_simp
        refine list_read (v := ?_) rfl rfl (fun u hS => by go_simp; rfl) ?_
        go_simp
        refine list_read (v := ?_) rfl rfl (fun u hS => by go_simp; rfl) ?_
        go_simp
        refine list_call (v := (.bool true)) (f := 20) (args := #[]) rfl rfl (fun u hS => by go_simp) (fun u hS => (unhide haw u).mono fun _ _ ⟨he, hb⟩ => ⟨he, hS.keep hb⟩) ?_
        go_simp
        refine list_read (v := ?_) rfl rfl (fun u hS => by go_simp; rfl) ?_
        go_simp
        refine list_read (v := ?_) rfl rfl (fun u hS => by go_simp; rfl) ?_
        go_simp
        refine list_end (fun u hS => ?_)
        have O := hide hS.o
        clear hS
        go_wp2
        go_ret
        exact ⟨rfl, unhide O⟩

theorem near_mono {x y : Int} (h : x ≤ y) : near x ≤ near y := by unfold near; omega
theorem near_val {x : Int} (h : mayI x = true) : near (valI x) = x := by
  have hm := mayI_iff.1 h
  unfold valI
  rw [cl_self ⟨by omega, by omega⟩]
  unfold near
  omega
theorem gridNearest_walk (px py pz vx vy vz wx wy wz : Int) (h1' : (Lit.int .i64 px).wf = true) (h2' : (Lit.int .i64 py).wf = true) (h3' : (Lit.int .i64 pz).wf = true) (h4' : (Lit.int .i64 vx).wf = true) (h5' : (Lit.int .i64 vy).wf = true) (h6' : (Lit.int .i64 vz).wf = true) (h7' : (Lit.int .i64 wx).wf = true) (h8' : (Lit.int .i64 wy).wf = true) (h9' : (Lit.int .i64 wz).wf = true) (w : World) :
    Calls Try.prog 10 #[.agg (v3 px py pz), .agg (v3 vx vy vz), .agg (v3 wx wy wz)] w fun e w' => e = .returned (.bool true) ∧ Below w.heap.size w w' := by
  have h1 := I64.wf h1'
  have h2 := I64.wf h2'
  have h3 := I64.wf h3'
  have h4 := I64.wf h4'
  have h5 := I64.wf h5'
  have h6 := I64.wf h6'
  have h7 := I64.wf h7'
  have h8 := I64.wf h8'
  have h9 := I64.wf h9'
  have hc := CheckZ px py pz
  have hV := ValueZ px py pz h1 h2 h3
  have r1 := RoundZ vx vy vz h4 h5 h6
  have r2 := RoundZ wx wy wz h7 h8 h9
  have hv : sameV px py pz px py pz = true := by unfold sameV; simp
  have part : ∀ {x y : Int}, decide (y < x) = false → decide (near x ≤ near y) = true := fun {x y} h => decide_eq_true (near_mono (by have := of_decide_eq_false h; omega))
  cases e1 : chkP (near vx) (near vy) (near vz)
  · rw [e1, if_neg (by decide)] at r1
    obtain ⟨q, f, hq⟩ : ∃ (q : Int × Int × Int) (f : Int), Ans 14 #[.agg (v3 wx wy wz)] (.tuple #[.agg (v3 q.1 q.2.1 q.2.2), .int .i64 f]) := by
      cases e2 : chkP (near wx) (near wy) (near wz)
      · rw [e2, if_neg (by decide)] at r2
        exact ⟨(0, 0, 0), 7, r2⟩
      · rw [e2, if_pos rfl] at r2
        exact ⟨(near wx, near wy, near wz), 0, r2⟩
    cases e0 : chkP px py pz
    · rw [e0, if_neg (by decide)] at hc
      exact near_no_e px py pz vx vy vz wx wy wz 0 0 0 _ _ _ 0 0 0 f w hc r1 hq awake6Z
    · rw [e0, if_pos rfl] at hc
      have hR := RoundZ (valI px) (valI py) (valI pz) (cl_I64 _) (cl_I64 _) (cl_I64 _)
      obtain ⟨m1, m2, m3⟩ := chkP_iff.1 e0
      rw [near_val (mayI_iff.2 m1), near_val (mayI_iff.2 m2), near_val (mayI_iff.2 m3), e0, if_pos rfl] at hR
      exact near_ok_e px py pz vx vy vz wx wy wz 0 0 0 _ _ _ _ _ _ f w hc hV hR hv r1 hq awake6Z
  · rw [e1, if_pos rfl] at r1
    obtain ⟨k1, k2, k3⟩ := chkP_iff.1 e1
    have c1 := CloseZ vx (mayI_iff.2 k1)
    have c2 := CloseZ vy (mayI_iff.2 k2)
    have c3 := CloseZ vz (mayI_iff.2 k3)
    cases e2 : chkP (near wx) (near wy) (near wz)
    · rw [e2, if_neg (by decide)] at r2
      cases e0 : chkP px py pz
      · rw [e0, if_neg (by decide)] at hc
        exact near_no_f px py pz vx vy vz wx wy wz _ _ _ 0 0 0 0 0 0 0 w hc r1 r2 awake6Z
      · rw [e0, if_pos rfl] at hc
        have hR := RoundZ (valI px) (valI py) (valI pz) (cl_I64 _) (cl_I64 _) (cl_I64 _)
        obtain ⟨m1, m2, m3⟩ := chkP_iff.1 e0
        rw [near_val (mayI_iff.2 m1), near_val (mayI_iff.2 m2), near_val (mayI_iff.2 m3), e0, if_pos rfl] at hR
        exact near_ok_f px py pz vx vy vz wx wy wz _ _ _ 0 0 0 _ _ _ 0 w hc hV hR hv r1 r2 awake6Z
    · rw [e2, if_pos rfl] at r2
      cases e0 : chkP px py pz
      · rw [e0, if_neg (by decide)] at hc
        exact near_no_b px py pz vx vy vz wx wy wz _ _ _ _ _ _ 0 0 0 0 _ _ _ w hc r1 r2 awake6Z c1 c2 c3 rfl rfl rfl part part part
      · rw [e0, if_pos rfl] at hc
        have hR := RoundZ (valI px) (valI py) (valI pz) (cl_I64 _) (cl_I64 _) (cl_I64 _)
        obtain ⟨m1, m2, m3⟩ := chkP_iff.1 e0
        rw [near_val (mayI_iff.2 m1), near_val (mayI_iff.2 m2), near_val (mayI_iff.2 m3), e0, if_pos rfl] at hR
        exact near_ok_b px py pz vx vy vz wx wy wz _ _ _ _ _ _ _ _ _ 0 _ _ _ w hc hV hR hv r1 r2 awake6Z c1 c2 c3 rfl rfl rfl part part part

end Go.Proofs.Ytmnaffhlilnlhaa
