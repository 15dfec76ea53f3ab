/- The document's Cmp of layer 6, by its seven ways; its Check and Less; the law GridLess. -/
import Derived.Test.YtbgafjdgahikcaaAn
import Derived.Test.YtbgafjdgahikcaaAp
namespace Go.Proofs.Ytbgafjdgahikcaa
open Go.RowKit
set_option maxRecDepth 4000
set_option linter.unusedVariables false

set_option maxHeartbeats 4000000 in
theorem rcmp_eq (ax ay az bx b_y bz_ : Int) (w : World) (hv : sameV ax ay az bx b_y bz_ = true)  :
    Calls Try.prog 32 #[.agg (v3 ax ay az), .agg (v3 bx b_y bz_)] w fun e w' => e = .returned (.int .i64 0) ∧ Below w.heap.size w w' := by
  go_enter Try.func32, Try.ntmps32
  go_upto_region 1 with fail
  have D := hide (((Gen.start w).push 26 (v3 ax ay az)).push 26 (v3 bx b_y bz_))
  simp only [szA] at D
  go_upto_region 2 with (first | (with_reducible refine at_list ?_; apply ldG (unhide D) rPoint _ rfl rfl rfl (by repeat (first | exact List.mem_cons_self | apply List.mem_cons_of_mem)) rfl) | (with_reducible refine at_list ?_;  refine eqlP _ _ _ hv rfl rfl rfl rfl ?_))
  go_wp2
  go_ret
  exact ⟨rfl, (unhide D).o⟩
set_option maxHeartbeats 4000000 in
theorem rcmp_lx (ax ay az bx b_y bz_ : Int) (w : World) (hv : sameV ax ay az bx b_y bz_ = false) (lx : Hid (decide (ax < bx) = true)) :
    Calls Try.prog 32 #[.agg (v3 ax ay az), .agg (v3 bx b_y bz_)] w fun e w' => e = .returned (.int .i64 (-1)) ∧ Below w.heap.size w w' := by
  go_enter Try.func32, Try.ntmps32
  go_upto_region 1 with fail
  rename_i Q' K1 k1 K0 k0
  have D := hide (((Gen.start w).push 26 (v3 ax ay az)).push 26 (v3 bx b_y bz_))
  simp only [szA] at D
  refine wp_region_lit ?_
  apply ldG (unhide D) rPoint _ rfl rfl rfl (by repeat (first | exact List.mem_cons_self | apply List.mem_cons_of_mem)) rfl
  apply ldG (unhide D) rPoint _ rfl rfl rfl (by repeat (first | exact List.mem_cons_self | apply List.mem_cons_of_mem)) rfl
  refine eqlP _ _ _ hv rfl rfl rfl rfl ?_
  refine k0 _ _ (wp_cond_false rfl (wp_skip ?_))
  refine k1 _ _ ?_
  clear k0 k1 hv
  refine wp_seq (wp_seq (list_start (S := Gen w _) (unhide D) ?_))
  clear D
  go_simp
  refine list_read (v := ?_) rfl rfl (fun u hS => by go_simp; rfl) ?_
  go_simp
  refine list_read (v := .int .i64 ax) rfl rfl (fun u hS => exec_loadIG hS _ rfl rfl (by repeat (first | exact List.mem_cons_self | apply List.mem_cons_of_mem)) rfl) ?_
  go_simp
  refine list_read (v := ?_) rfl rfl (fun u hS => by go_simp; rfl) ?_
  go_simp
  refine list_read (v := .int .i64 bx) rfl rfl (fun u hS => exec_loadIG hS _ rfl rfl (by repeat (first | exact List.mem_cons_self | apply List.mem_cons_of_mem)) rfl) ?_
  go_simp
  refine list_read (v := .bool true) rfl rfl (fun u hS => exec_lssZ _ _ (unhide lx) rfl rfl rfl) ?_
  go_simp
  refine list_read (v := .bool true) rfl rfl (fun u hS => by go_simp) ?_
  go_simp
  refine list_skip ?_ ?_ ?_
  · rfl
  · kernel_rfl
  go_simp
  refine list_skip ?_ ?_ ?_
  · rfl
  · kernel_rfl
  go_simp
  refine list_skip ?_ ?_ ?_
  · rfl
  · kernel_rfl
  go_simp
  refine list_skip ?_ ?_ ?_
  · rfl
  · kernel_rfl
  go_simp
  refine list_skip ?_ ?_ ?_
  · rfl
  · kernel_rfl
  go_simp
  refine list_skip ?_ ?_ ?_
  · rfl
  · kernel_rfl
  go_simp
  refine list_skip ?_ ?_ ?_
  · rfl
  · kernel_rfl
  go_simp
  refine list_skip ?_ ?_ ?_
  · rfl
  · kernel_rfl
  go_simp
  refine list_skip ?_ ?_ ?_
  · rfl
  · kernel_rfl
  go_simp
  refine list_skip ?_ ?_ ?_
  · rfl
  · kernel_rfl
  go_simp
  refine list_skip ?_ ?_ ?_
  · rfl
  · kernel_rfl
  go_simp
  refine list_skip ?_ ?_ ?_
  · rfl
  · kernel_rfl
  go_simp
  refine list_read (v := .bool true) rfl rfl (fun u hS => by go_simp) ?_
  go_simp
  refine list_read (v := .bool true) rfl rfl (fun u hS => by go_simp) ?_
  go_simp
  refine list_skip ?_ ?_ ?_
  · rfl
  · kernel_rfl
  go_simp
  refine list_skip ?_ ?_ ?_
  · rfl
  · kernel_rfl
  go_simp
  refine list_skip ?_ ?_ ?_
  · rfl
  · kernel_rfl
  go_simp
  refine list_skip ?_ ?_ ?_
  · rfl
  · kernel_rfl
  go_simp
  refine list_skip ?_ ?_ ?_
  · rfl
  · kernel_rfl
  go_simp
  refine list_skip ?_ ?_ ?_
  · rfl
  · kernel_rfl
  go_simp
  refine list_skip ?_ ?_ ?_
  · rfl
  · kernel_rfl
  go_simp
  refine list_skip ?_ ?_ ?_
  · rfl
  · kernel_rfl
  go_simp
  refine list_skip ?_ ?_ ?_
  · rfl
  · kernel_rfl
  go_simp
  refine list_skip ?_ ?_ ?_
  · rfl
  · kernel_rfl
  go_simp
  refine list_skip ?_ ?_ ?_
  · rfl
  · kernel_rfl
  go_simp
  refine list_skip ?_ ?_ ?_
  · rfl
  · kernel_rfl
  go_simp
  refine list_skip ?_ ?_ ?_
  · rfl
  · kernel_rfl
  go_simp
  refine list_skip ?_ ?_ ?_
  · rfl
  · kernel_rfl
  go_simp
  refine list_skip ?_ ?_ ?_
  · rfl
  · kernel_rfl
  go_simp
  refine list_skip ?_ ?_ ?_
  · rfl
  · kernel_rfl
  go_simp
  refine list_skip ?_ ?_ ?_
  · rfl
  · kernel_rfl
  go_simp
  refine list_skip ?_ ?_ ?_
  · rfl
  · kernel_rfl
  go_simp
  refine list_skip ?_ ?_ ?_
  · rfl
  · kernel_rfl
  go_simp
  refine list_read (v := .bool true) rfl rfl (fun u hS => by go_simp) ?_
  go_simp
  refine list_end (fun u hS => ?_)
  have O := hide hS.o
  clear hS
  go_wp2
  go_ret
  exact ⟨rfl, unhide O⟩
set_option maxHeartbeats 4000000 in
theorem rcmp_ly (ax ay az bx b_y bz_ : Int) (w : World) (hv : sameV ax ay az bx b_y bz_ = false) (lx : Hid (decide (ax < bx) = false)) (ex : Hid ((ax == bx) = true)) (ly : Hid (decide (ay < b_y) = true)) :
    Calls Try.prog 32 #[.agg (v3 ax ay az), .agg (v3 bx b_y bz_)] w fun e w' => e = .returned (.int .i64 (-1)) ∧ Below w.heap.size w w' := by
  go_enter Try.func32, Try.ntmps32
  go_upto_region 1 with fail
  rename_i Q' K1 k1 K0 k0
  have D := hide (((Gen.start w).push 26 (v3 ax ay az)).push 26 (v3 bx b_y bz_))
  simp only [szA] at D
  refine wp_region_lit ?_
  apply ldG (unhide D) rPoint _ rfl rfl rfl (by repeat (first | exact List.mem_cons_self | apply List.mem_cons_of_mem)) rfl
  apply ldG (unhide D) rPoint _ rfl rfl rfl (by repeat (first | exact List.mem_cons_self | apply List.mem_cons_of_mem)) rfl
  refine eqlP _ _ _ hv rfl rfl rfl rfl ?_
  refine k0 _ _ (wp_cond_false rfl (wp_skip ?_))
  refine k1 _ _ ?_
  clear k0 k1 hv
  refine wp_seq (wp_seq (list_start (S := Gen w _) (unhide D) ?_))
  clear D
  go_simp
  refine list_read (v := ?_) rfl rfl (fun u hS => by go_simp; rfl) ?_
  go_simp
  refine list_read (v := .int .i64 ax) rfl rfl (fun u hS => exec_loadIG hS _ rfl rfl (by repeat (first | exact List.mem_cons_self | apply List.mem_cons_of_mem)) rfl) ?_
  go_simp
  refine list_read (v := ?_) rfl rfl (fun u hS => by go_simp; rfl) ?_
  go_simp
  refine list_read (v := .int .i64 bx) rfl rfl (fun u hS => exec_loadIG hS _ rfl rfl (by repeat (first | exact List.mem_cons_self | apply List.mem_cons_of_mem)) rfl) ?_
  go_simp
  refine list_read (v := .bool false) rfl rfl (fun u hS => exec_lssZ _ _ (unhide lx) rfl rfl rfl) ?_
  go_simp
  refine list_read (v := .bool false) rfl rfl (fun u hS => by go_simp) ?_
  go_simp
  refine list_read (v := ?_) rfl rfl (fun u hS => by go_simp; rfl) ?_
  go_simp
  refine list_read (v := .int .i64 ax) rfl rfl (fun u hS => exec_loadIG hS _ rfl rfl (by repeat (first | exact List.mem_cons_self | apply List.mem_cons_of_mem)) rfl) ?_
  go_simp
  refine list_read (v := ?_) rfl rfl (fun u hS => by go_simp; rfl) ?_
  go_simp
  refine list_read (v := .int .i64 bx) rfl rfl (fun u hS => exec_loadIG hS _ rfl rfl (by repeat (first | exact List.mem_cons_self | apply List.mem_cons_of_mem)) rfl) ?_
  go_simp
  refine list_read (v := .bool true) rfl rfl (fun u hS => exec_eqlZ _ _ _ (unhide ex) rfl rfl rfl) ?_
  go_simp
  refine list_read (v := .bool true) rfl rfl (fun u hS => by go_simp) ?_
  go_simp
  refine list_read (v := ?_) rfl rfl (fun u hS => by go_simp; rfl) ?_
  go_simp
  refine list_read (v := .int .i64 ay) rfl rfl (fun u hS => exec_loadIG hS _ rfl rfl (by repeat (first | exact List.mem_cons_self | apply List.mem_cons_of_mem)) rfl) ?_
  go_simp
  refine list_read (v := ?_) rfl rfl (fun u hS => by go_simp; rfl) ?_
  go_simp
  refine list_read (v := .int .i64 b_y) rfl rfl (fun u hS => exec_loadIG hS _ rfl rfl (by repeat (first | exact List.mem_cons_self | apply List.mem_cons_of_mem)) rfl) ?_
  go_simp
  refine list_read (v := .bool true) rfl rfl (fun u hS => exec_lssZ _ _ (unhide ly) rfl rfl rfl) ?_
  go_simp
  refine list_read (v := .bool true) rfl rfl (fun u hS => by go_simp) ?_
  go_simp
  refine list_read (v := .bool true) rfl rfl (fun u hS => by go_simp) ?_
  go_simp
  refine list_read (v := .bool true) rfl rfl (fun u hS => by go_simp) ?_
  go_simp
  refine list_skip ?_ ?_ ?_
  · rfl
  · kernel_rfl
  go_simp
  refine list_skip ?_ ?_ ?_
  · rfl
  · kernel_rfl
  go_simp
  refine list_skip ?_ ?_ ?_
  · rfl
  · kernel_rfl
  go_simp
  refine list_skip ?_ ?_ ?_
  · rfl
  · kernel_rfl
  go_simp
  refine list_skip ?_ ?_ ?_
  · rfl
  · kernel_rfl
  go_simp
  refine list_skip ?_ ?_ ?_
  · rfl
  · kernel_rfl
  go_simp
  refine list_skip ?_ ?_ ?_
  · rfl
  · kernel_rfl
  go_simp
  refine list_skip ?_ ?_ ?_
  · rfl
  · kernel_rfl
  go_simp
  refine list_skip ?_ ?_ ?_
  · rfl
  · kernel_rfl
  go_simp
  refine list_skip ?_ ?_ ?_
  · rfl
  · kernel_rfl
  go_simp
  refine list_skip ?_ ?_ ?_
  · rfl
  · kernel_rfl
  go_simp
  refine list_skip ?_ ?_ ?_
  · rfl
  · kernel_rfl
  go_simp
  refine list_skip ?_ ?_ ?_
  · rfl
  · kernel_rfl
  go_simp
  refine list_skip ?_ ?_ ?_
  · rfl
  · kernel_rfl
  go_simp
  refine list_skip ?_ ?_ ?_
  · rfl
  · kernel_rfl
  go_simp
  refine list_skip ?_ ?_ ?_
  · rfl
  · kernel_rfl
  go_simp
  refine list_skip ?_ ?_ ?_
  · rfl
  · kernel_rfl
  go_simp
  refine list_skip ?_ ?_ ?_
  · rfl
  · kernel_rfl
  go_simp
  refine list_skip ?_ ?_ ?_
  · rfl
  · kernel_rfl
  go_simp
  refine list_read (v := .bool true) rfl rfl (fun u hS => by go_simp) ?_
  go_simp
  refine list_end (fun u hS => ?_)
  have O := hide hS.o
  clear hS
  go_wp2
  go_ret
  exact ⟨rfl, unhide O⟩
set_option maxHeartbeats 4000000 in
theorem rcmp_lz (ax ay az bx b_y bz_ : Int) (w : World) (hv : sameV ax ay az bx b_y bz_ = false) (lx : Hid (decide (ax < bx) = false)) (ex : Hid ((ax == bx) = true)) (ly : Hid (decide (ay < b_y) = false)) (ey : Hid ((ay == b_y) = true)) (lz : Hid (decide (az < bz_) = true)) :
    Calls Try.prog 32 #[.agg (v3 ax ay az), .agg (v3 bx b_y bz_)] w fun e w' => e = .returned (.int .i64 (-1)) ∧ Below w.heap.size w w' := by
  go_enter Try.func32, Try.ntmps32
  go_upto_region 1 with fail
  rename_i Q' K1 k1 K0 k0
  have D := hide (((Gen.start w).push 26 (v3 ax ay az)).push 26 (v3 bx b_y bz_))
  simp only [szA] at D
  refine wp_region_lit ?_
  apply ldG (unhide D) rPoint _ rfl rfl rfl (by repeat (first | exact List.mem_cons_self | apply List.mem_cons_of_mem)) rfl
  apply ldG (unhide D) rPoint _ rfl rfl rfl (by repeat (first | exact List.mem_cons_self | apply List.mem_cons_of_mem)) rfl
  refine eqlP _ _ _ hv rfl rfl rfl rfl ?_
  refine k0 _ _ (wp_cond_false rfl (wp_skip ?_))
  refine k1 _ _ ?_
  clear k0 k1 hv
  refine wp_seq (wp_seq (list_start (S := Gen w _) (unhide D) ?_))
  clear D
  go_simp
  refine list_read (v := ?_) rfl rfl (fun u hS => by go_simp; rfl) ?_
  go_simp
  refine list_read (v := .int .i64 ax) rfl rfl (fun u hS => exec_loadIG hS _ rfl rfl (by repeat (first | exact List.mem_cons_self | apply List.mem_cons_of_mem)) rfl) ?_
  go_simp
  refine list_read (v := ?_) rfl rfl (fun u hS => by go_simp; rfl) ?_
  go_simp
  refine list_read (v := .int .i64 bx) rfl rfl (fun u hS => exec_loadIG hS _ rfl rfl (by repeat (first | exact List.mem_cons_self | apply List.mem_cons_of_mem)) rfl) ?_
  go_simp
  refine list_read (v := .bool false) rfl rfl (fun u hS => exec_lssZ _ _ (unhide lx) rfl rfl rfl) ?_
  go_simp
  refine list_read (v := .bool false) rfl rfl (fun u hS => by go_simp) ?_
  go_simp
  refine list_read (v := ?_) rfl rfl (fun u hS => by go_simp; rfl) ?_
  go_simp
  refine list_read (v := .int .i64 ax) rfl rfl (fun u hS => exec_loadIG hS _ rfl rfl (by repeat (first | exact List.mem_cons_self | apply List.mem_cons_of_mem)) rfl) ?_
  go_simp
  refine list_read (v := ?_) rfl rfl (fun u hS => by go_simp; rfl) ?_
  go_simp
  refine list_read (v := .int .i64 bx) rfl rfl (fun u hS => exec_loadIG hS _ rfl rfl (by repeat (first | exact List.mem_cons_self | apply List.mem_cons_of_mem)) rfl) ?_
  go_simp
  refine list_read (v := .bool true) rfl rfl (fun u hS => exec_eqlZ _ _ _ (unhide ex) rfl rfl rfl) ?_
  go_simp
  refine list_read (v := .bool true) rfl rfl (fun u hS => by go_simp) ?_
  go_simp
  refine list_read (v := ?_) rfl rfl (fun u hS => by go_simp; rfl) ?_
  go_simp
  refine list_read (v := .int .i64 ay) rfl rfl (fun u hS => exec_loadIG hS _ rfl rfl (by repeat (first | exact List.mem_cons_self | apply List.mem_cons_of_mem)) rfl) ?_
  go_simp
  refine list_read (v := ?_) rfl rfl (fun u hS => by go_simp; rfl) ?_
  go_simp
  refine list_read (v := .int .i64 b_y) rfl rfl (fun u hS => exec_loadIG hS _ rfl rfl (by repeat (first | exact List.mem_cons_self | apply List.mem_cons_of_mem)) rfl) ?_
  go_simp
  refine list_read (v := .bool false) rfl rfl (fun u hS => exec_lssZ _ _ (unhide ly) rfl rfl rfl) ?_
  go_simp
  refine list_read (v := .bool false) rfl rfl (fun u hS => by go_simp) ?_
  go_simp
  refine list_read (v := .bool false) rfl rfl (fun u hS => by go_simp) ?_
  go_simp
  refine list_read (v := .bool false) rfl rfl (fun u hS => by go_simp) ?_
  go_simp
  refine list_read (v := ?_) rfl rfl (fun u hS => by go_simp; rfl) ?_
  go_simp
  refine list_read (v := .int .i64 ax) rfl rfl (fun u hS => exec_loadIG hS _ rfl rfl (by repeat (first | exact List.mem_cons_self | apply List.mem_cons_of_mem)) rfl) ?_
  go_simp
  refine list_read (v := ?_) rfl rfl (fun u hS => by go_simp; rfl) ?_
  go_simp
  refine list_read (v := .int .i64 bx) rfl rfl (fun u hS => exec_loadIG hS _ rfl rfl (by repeat (first | exact List.mem_cons_self | apply List.mem_cons_of_mem)) rfl) ?_
  go_simp
  refine list_read (v := .bool true) rfl rfl (fun u hS => exec_eqlZ _ _ _ (unhide ex) rfl rfl rfl) ?_
  go_simp
  refine list_read (v := .bool true) rfl rfl (fun u hS => by go_simp) ?_
  go_simp
  refine list_read (v := ?_) rfl rfl (fun u hS => by go_simp; rfl) ?_
  go_simp
  refine list_read (v := .int .i64 ay) rfl rfl (fun u hS => exec_loadIG hS _ rfl rfl (by repeat (first | exact List.mem_cons_self | apply List.mem_cons_of_mem)) rfl) ?_
  go_simp
  refine list_read (v := ?_) rfl rfl (fun u hS => by go_simp; rfl) ?_
  go_simp
  refine list_read (v := .int .i64 b_y) rfl rfl (fun u hS => exec_loadIG hS _ rfl rfl (by repeat (first | exact List.mem_cons_self | apply List.mem_cons_of_mem)) rfl) ?_
  go_simp
  refine list_read (v := .bool true) rfl rfl (fun u hS => exec_eqlZ _ _ _ (unhide ey) rfl rfl rfl) ?_
  go_simp
  refine list_read (v := .bool true) rfl rfl (fun u hS => by go_simp) ?_
  go_simp
  refine list_read (v := .bool true) rfl rfl (fun u hS => by go_simp) ?_
  go_simp
  refine list_read (v := ?_) rfl rfl (fun u hS => by go_simp; rfl) ?_
  go_simp
  refine list_read (v := .int .i64 az) rfl rfl (fun u hS => exec_loadIG hS _ rfl rfl (by repeat (first | exact List.mem_cons_self | apply List.mem_cons_of_mem)) rfl) ?_
  go_simp
  refine list_read (v := ?_) rfl rfl (fun u hS => by go_simp; rfl) ?_
  go_simp
  refine list_read (v := .int .i64 bz_) rfl rfl (fun u hS => exec_loadIG hS _ rfl rfl (by repeat (first | exact List.mem_cons_self | apply List.mem_cons_of_mem)) rfl) ?_
  go_simp
  refine list_read (v := .bool true) rfl rfl (fun u hS => exec_lssZ _ _ (unhide lz) rfl rfl rfl) ?_
  go_simp
  refine list_read (v := .bool true) rfl rfl (fun u hS => by go_simp) ?_
  go_simp
  refine list_read (v := .bool true) rfl rfl (fun u hS => by go_simp) ?_
  go_simp
  refine list_end (fun u hS => ?_)
  have O := hide hS.o
  clear hS
  go_wp2
  go_ret
  exact ⟨rfl, unhide O⟩
set_option maxHeartbeats 4000000 in
theorem rcmp_gx (ax ay az bx b_y bz_ : Int) (w : World) (hv : sameV ax ay az bx b_y bz_ = false) (lx : Hid (decide (ax < bx) = false)) (ex : Hid ((ax == bx) = false)) :
    Calls Try.prog 32 #[.agg (v3 ax ay az), .agg (v3 bx b_y bz_)] w fun e w' => e = .returned (.int .i64 1) ∧ Below w.heap.size w w' := by
  go_enter Try.func32, Try.ntmps32
  go_upto_region 1 with fail
  rename_i Q' K1 k1 K0 k0
  have D := hide (((Gen.start w).push 26 (v3 ax ay az)).push 26 (v3 bx b_y bz_))
  simp only [szA] at D
  refine wp_region_lit ?_
  apply ldG (unhide D) rPoint _ rfl rfl rfl (by repeat (first | exact List.mem_cons_self | apply List.mem_cons_of_mem)) rfl
  apply ldG (unhide D) rPoint _ rfl rfl rfl (by repeat (first | exact List.mem_cons_self | apply List.mem_cons_of_mem)) rfl
  refine eqlP _ _ _ hv rfl rfl rfl rfl ?_
  refine k0 _ _ (wp_cond_false rfl (wp_skip ?_))
  refine k1 _ _ ?_
  clear k0 k1 hv
  refine wp_seq (wp_seq (list_start (S := Gen w _) (unhide D) ?_))
  clear D
  go_simp
  refine list_read (v := ?_) rfl rfl (fun u hS => by go_simp; rfl) ?_
  go_simp
  refine list_read (v := .int .i64 ax) rfl rfl (fun u hS => exec_loadIG hS _ rfl rfl (by repeat (first | exact List.mem_cons_self | apply List.mem_cons_of_mem)) rfl) ?_
  go_simp
  refine list_read (v := ?_) rfl rfl (fun u hS => by go_simp; rfl) ?_
  go_simp
  refine list_read (v := .int .i64 bx) rfl rfl (fun u hS => exec_loadIG hS _ rfl rfl (by repeat (first | exact List.mem_cons_self | apply List.mem_cons_of_mem)) rfl) ?_
  go_simp
  refine list_read (v := .bool false) rfl rfl (fun u hS => exec_lssZ _ _ (unhide lx) rfl rfl rfl) ?_
  go_simp
  refine list_read (v := .bool false) rfl rfl (fun u hS => by go_simp) ?_
  go_simp
  refine list_read (v := ?_) rfl rfl (fun u hS => by go_simp; rfl) ?_
  go_simp
  refine list_read (v := .int .i64 ax) rfl rfl (fun u hS => exec_loadIG hS _ rfl rfl (by repeat (first | exact List.mem_cons_self | apply List.mem_cons_of_mem)) rfl) ?_
  go_simp
  refine list_read (v := ?_) rfl rfl (fun u hS => by go_simp; rfl) ?_
  go_simp
  refine list_read (v := .int .i64 bx) rfl rfl (fun u hS => exec_loadIG hS _ rfl rfl (by repeat (first | exact List.mem_cons_self | apply List.mem_cons_of_mem)) rfl) ?_
  go_simp
  refine list_read (v := .bool false) rfl rfl (fun u hS => exec_eqlZ _ _ _ (unhide ex) rfl rfl rfl) ?_
  go_simp
  refine list_read (v := .bool false) rfl rfl (fun u hS => by go_simp) ?_
  go_simp
  refine list_skip ?_ ?_ ?_
  · rfl
  · kernel_rfl
  go_simp
  refine list_skip ?_ ?_ ?_
  · rfl
  · kernel_rfl
  go_simp
  refine list_skip ?_ ?_ ?_
  · rfl
  · kernel_rfl
  go_simp
  refine list_skip ?_ ?_ ?_
  · rfl
  · kernel_rfl
  go_simp
  refine list_skip ?_ ?_ ?_
  · rfl
  · kernel_rfl
  go_simp
  refine list_read (v := .bool false) rfl rfl (fun u hS => by go_simp) ?_
  go_simp
  refine list_read (v := .bool false) rfl rfl (fun u hS => by go_simp) ?_
  go_simp
  refine list_read (v := .bool false) rfl rfl (fun u hS => by go_simp) ?_
  go_simp
  refine list_read (v := ?_) rfl rfl (fun u hS => by go_simp; rfl) ?_
  go_simp
  refine list_read (v := .int .i64 ax) rfl rfl (fun u hS => exec_loadIG hS _ rfl rfl (by repeat (first | exact List.mem_cons_self | apply List.mem_cons_of_mem)) rfl) ?_
  go_simp
  refine list_read (v := ?_) rfl rfl (fun u hS => by go_simp; rfl) ?_
  go_simp
  refine list_read (v := .int .i64 bx) rfl rfl (fun u hS => exec_loadIG hS _ rfl rfl (by repeat (first | exact List.mem_cons_self | apply List.mem_cons_of_mem)) rfl) ?_
  go_simp
  refine list_read (v := .bool false) rfl rfl (fun u hS => exec_eqlZ _ _ _ (unhide ex) rfl rfl rfl) ?_
  go_simp
  refine list_read (v := .bool false) rfl rfl (fun u hS => by go_simp) ?_
  go_simp
  refine list_skip ?_ ?_ ?_
  · rfl
  · kernel_rfl
  go_simp
  refine list_skip ?_ ?_ ?_
  · rfl
  · kernel_rfl
  go_simp
  refine list_skip ?_ ?_ ?_
  · rfl
  · kernel_rfl
  go_simp
  refine list_skip ?_ ?_ ?_
  · rfl
  · kernel_rfl
  go_simp
  refine list_skip ?_ ?_ ?_
  · rfl
  · kernel_rfl
  go_simp
  refine list_read (v := .bool false) rfl rfl (fun u hS => by go_simp) ?_
  go_simp
  refine list_read (v := .bool false) rfl rfl (fun u hS => by go_simp) ?_
  go_simp
  refine list_skip ?_ ?_ ?_
  · rfl
  · kernel_rfl
  go_simp
  refine list_skip ?_ ?_ ?_
  · rfl
  · kernel_rfl
  go_simp
  refine list_skip ?_ ?_ ?_
  · rfl
  · kernel_rfl
  go_simp
  refine list_skip ?_ ?_ ?_
  · rfl
  · kernel_rfl
  go_simp
  refine list_skip ?_ ?_ ?_
  · rfl
  · kernel_rfl
  go_simp
  refine list_read (v := .bool false) rfl rfl (fun u hS => by go_simp) ?_
  go_simp
  refine list_read (v := .bool false) rfl rfl (fun u hS => by go_simp) ?_
  go_simp
  refine list_end (fun u hS => ?_)
  have O := hide hS.o
  clear hS
  go_wp2
  go_ret
  exact ⟨rfl, unhide O⟩
set_option maxHeartbeats 4000000 in
theorem rcmp_gy (ax ay az bx b_y bz_ : Int) (w : World) (hv : sameV ax ay az bx b_y bz_ = false) (lx : Hid (decide (ax < bx) = false)) (ex : Hid ((ax == bx) = true)) (ly : Hid (decide (ay < b_y) = false)) (ey : Hid ((ay == b_y) = false)) :
    Calls Try.prog 32 #[.agg (v3 ax ay az), .agg (v3 bx b_y bz_)] w fun e w' => e = .returned (.int .i64 1) ∧ Below w.heap.size w w' := by
  go_enter Try.func32, Try.ntmps32
  go_upto_region 1 with fail
  rename_i Q' K1 k1 K0 k0
  have D := hide (((Gen.start w).push 26 (v3 ax ay az)).push 26 (v3 bx b_y bz_))
  simp only [szA] at D
  refine wp_region_lit ?_
  apply ldG (unhide D) rPoint _ rfl rfl rfl (by repeat (first | exact List.mem_cons_self | apply List.mem_cons_of_mem)) rfl
  apply ldG (unhide D) rPoint _ rfl rfl rfl (by repeat (first | exact List.mem_cons_self | apply List.mem_cons_of_mem)) rfl
  refine eqlP _ _ _ hv rfl rfl rfl rfl ?_
  refine k0 _ _ (wp_cond_false rfl (wp_skip ?_))
  refine k1 _ _ ?_
  clear k0 k1 hv
  refine wp_seq (wp_seq (list_start (S := Gen w _) (unhide D) ?_))
  clear D
  go_simp
  refine list_read (v := ?_) rfl rfl (fun u hS => by go_simp; rfl) ?_
  go_simp
  refine list_read (v := .int .i64 ax) rfl rfl (fun u hS => exec_loadIG hS _ rfl rfl (by repeat (first | exact List.mem_cons_self | apply List.mem_cons_of_mem)) rfl) ?_
  go_simp
  refine list_read (v := ?_) rfl rfl (fun u hS => by go_simp; rfl) ?_
  go_simp
  refine list_read (v := .int .i64 bx) rfl rfl (fun u hS => exec_loadIG hS _ rfl rfl (by repeat (first | exact List.mem_cons_self | apply List.mem_cons_of_mem)) rfl) ?_
  go_simp
  refine list_read (v := .bool false) rfl rfl (fun u hS => exec_lssZ _ _ (unhide lx) rfl rfl rfl) ?_
  go_simp
  refine list_read (v := .bool false) rfl rfl (fun u hS => by go_simp) ?_
  go_simp
  refine list_read (v := ?_) rfl rfl (fun u hS => by go_simp; rfl) ?_
  go_simp
  refine list_read (v := .int .i64 ax) rfl rfl (fun u hS => exec_loadIG hS _ rfl rfl (by repeat (first | exact List.mem_cons_self | apply List.mem_cons_of_mem)) rfl) ?_
  go_simp
  refine list_read (v := ?_) rfl rfl (fun u hS => by go_simp; rfl) ?_
  go_simp
  refine list_read (v := .int .i64 bx) rfl rfl (fun u hS => exec_loadIG hS _ rfl rfl (by repeat (first | exact List.mem_cons_self | apply List.mem_cons_of_mem)) rfl) ?_
  go_simp
  refine list_read (v := .bool true) rfl rfl (fun u hS => exec_eqlZ _ _ _ (unhide ex) rfl rfl rfl) ?_
  go_simp
  refine list_read (v := .bool true) rfl rfl (fun u hS => by go_simp) ?_
  go_simp
  refine list_read (v := ?_) rfl rfl (fun u hS => by go_simp; rfl) ?_
  go_simp
  refine list_read (v := .int .i64 ay) rfl rfl (fun u hS => exec_loadIG hS _ rfl rfl (by repeat (first | exact List.mem_cons_self | apply List.mem_cons_of_mem)) rfl) ?_
  go_simp
  refine list_read (v := ?_) rfl rfl (fun u hS => by go_simp; rfl) ?_
  go_simp
  refine list_read (v := .int .i64 b_y) rfl rfl (fun u hS => exec_loadIG hS _ rfl rfl (by repeat (first | exact List.mem_cons_self | apply List.mem_cons_of_mem)) rfl) ?_
  go_simp
  refine list_read (v := .bool false) rfl rfl (fun u hS => exec_lssZ _ _ (unhide ly) rfl rfl rfl) ?_
  go_simp
  refine list_read (v := .bool false) rfl rfl (fun u hS => by go_simp) ?_
  go_simp
  refine list_read (v := .bool false) rfl rfl (fun u hS => by go_simp) ?_
  go_simp
  refine list_read (v := .bool false) rfl rfl (fun u hS => by go_simp) ?_
  go_simp
  refine list_read (v := ?_) rfl rfl (fun u hS => by go_simp; rfl) ?_
  go_simp
  refine list_read (v := .int .i64 ax) rfl rfl (fun u hS => exec_loadIG hS _ rfl rfl (by repeat (first | exact List.mem_cons_self | apply List.mem_cons_of_mem)) rfl) ?_
  go_simp
  refine list_read (v := ?_) rfl rfl (fun u hS => by go_simp; rfl) ?_
  go_simp
  refine list_read (v := .int .i64 bx) rfl rfl (fun u hS => exec_loadIG hS _ rfl rfl (by repeat (first | exact List.mem_cons_self | apply List.mem_cons_of_mem)) rfl) ?_
  go_simp
  refine list_read (v := .bool true) rfl rfl (fun u hS => exec_eqlZ _ _ _ (unhide ex) rfl rfl rfl) ?_
  go_simp
  refine list_read (v := .bool true) rfl rfl (fun u hS => by go_simp) ?_
  go_simp
  refine list_read (v := ?_) rfl rfl (fun u hS => by go_simp; rfl) ?_
  go_simp
  refine list_read (v := .int .i64 ay) rfl rfl (fun u hS => exec_loadIG hS _ rfl rfl (by repeat (first | exact List.mem_cons_self | apply List.mem_cons_of_mem)) rfl) ?_
  go_simp
  refine list_read (v := ?_) rfl rfl (fun u hS => by go_simp; rfl) ?_
  go_simp
  refine list_read (v := .int .i64 b_y) rfl rfl (fun u hS => exec_loadIG hS _ rfl rfl (by repeat (first | exact List.mem_cons_self | apply List.mem_cons_of_mem)) rfl) ?_
  go_simp
  refine list_read (v := .bool false) rfl rfl (fun u hS => exec_eqlZ _ _ _ (unhide ey) rfl rfl rfl) ?_
  go_simp
  refine list_read (v := .bool false) rfl rfl (fun u hS => by go_simp) ?_
  go_simp
  refine list_read (v := .bool false) rfl rfl (fun u hS => by go_simp) ?_
  go_simp
  refine list_skip ?_ ?_ ?_
  · rfl
  · kernel_rfl
  go_simp
  refine list_skip ?_ ?_ ?_
  · rfl
  · kernel_rfl
  go_simp
  refine list_skip ?_ ?_ ?_
  · rfl
  · kernel_rfl
  go_simp
  refine list_skip ?_ ?_ ?_
  · rfl
  · kernel_rfl
  go_simp
  refine list_skip ?_ ?_ ?_
  · rfl
  · kernel_rfl
  go_simp
  refine list_read (v := .bool false) rfl rfl (fun u hS => by go_simp) ?_
  go_simp
  refine list_read (v := .bool false) rfl rfl (fun u hS => by go_simp) ?_
  go_simp
  refine list_end (fun u hS => ?_)
  have O := hide hS.o
  clear hS
  go_wp2
  go_ret
  exact ⟨rfl, unhide O⟩
set_option maxHeartbeats 4000000 in
theorem rcmp_gz (ax ay az bx b_y bz_ : Int) (w : World) (hv : sameV ax ay az bx b_y bz_ = false) (lx : Hid (decide (ax < bx) = false)) (ex : Hid ((ax == bx) = true)) (ly : Hid (decide (ay < b_y) = false)) (ey : Hid ((ay == b_y) = true)) (lz : Hid (decide (az < bz_) = false)) :
    Calls Try.prog 32 #[.agg (v3 ax ay az), .agg (v3 bx b_y bz_)] w fun e w' => e = .returned (.int .i64 1) ∧ Below w.heap.size w w' := by
  go_enter Try.func32, Try.ntmps32
  go_upto_region 1 with fail
  rename_i Q' K1 k1 K0 k0
  have D := hide (((Gen.start w).push 26 (v3 ax ay az)).push 26 (v3 bx b_y bz_))
  simp only [szA] at D
  refine wp_region_lit ?_
  apply ldG (unhide D) rPoint _ rfl rfl rfl (by repeat (first | exact List.mem_cons_self | apply List.mem_cons_of_mem)) rfl
  apply ldG (unhide D) rPoint _ rfl rfl rfl (by repeat (first | exact List.mem_cons_self | apply List.mem_cons_of_mem)) rfl
  refine eqlP _ _ _ hv rfl rfl rfl rfl ?_
  refine k0 _ _ (wp_cond_false rfl (wp_skip ?_))
  refine k1 _ _ ?_
  clear k0 k1 hv
  refine wp_seq (wp_seq (list_start (S := Gen w _) (unhide D) ?_))
  clear D
  go_simp
  refine list_read (v := ?_) rfl rfl (fun u hS => by go_simp; rfl) ?_
  go_simp
  refine list_read (v := .int .i64 ax) rfl rfl (fun u hS => exec_loadIG hS _ rfl rfl (by repeat (first | exact List.mem_cons_self | apply List.mem_cons_of_mem)) rfl) ?_
  go_simp
  refine list_read (v := ?_) rfl rfl (fun u hS => by go_simp; rfl) ?_
  go_simp
  refine list_read (v := .int .i64 bx) rfl rfl (fun u hS => exec_loadIG hS _ rfl rfl (by repeat (first | exact List.mem_cons_self | apply List.mem_cons_of_mem)) rfl) ?_
  go_simp
  refine list_read (v := .bool false) rfl rfl (fun u hS => exec_lssZ _ _ (unhide lx) rfl rfl rfl) ?_
  go_simp
  refine list_read (v := .bool false) rfl rfl (fun u hS => by go_simp) ?_
  go_simp
  refine list_read (v := ?_) rfl rfl (fun u hS => by go_simp; rfl) ?_
  go_simp
  refine list_read (v := .int .i64 ax) rfl rfl (fun u hS => exec_loadIG hS _ rfl rfl (by repeat (first | exact List.mem_cons_self | apply List.mem_cons_of_mem)) rfl) ?_
  go_simp
  refine list_read (v := ?_) rfl rfl (fun u hS => by go_simp; rfl) ?_
  go_simp
  refine list_read (v := .int .i64 bx) rfl rfl (fun u hS => exec_loadIG hS _ rfl rfl (by repeat (first | exact List.mem_cons_self | apply List.mem_cons_of_mem)) rfl) ?_
  go_simp
  refine list_read (v := .bool true) rfl rfl (fun u hS => exec_eqlZ _ _ _ (unhide ex) rfl rfl rfl) ?_
  go_simp
  refine list_read (v := .bool true) rfl rfl (fun u hS => by go_simp) ?_
  go_simp
  refine list_read (v := ?_) rfl rfl (fun u hS => by go_simp; rfl) ?_
  go_simp
  refine list_read (v := .int .i64 ay) rfl rfl (fun u hS => exec_loadIG hS _ rfl rfl (by repeat (first | exact List.mem_cons_self | apply List.mem_cons_of_mem)) rfl) ?_
  go_simp
  refine list_read (v := ?_) rfl rfl (fun u hS => by go_simp; rfl) ?_
  go_simp
  refine list_read (v := .int .i64 b_y) rfl rfl (fun u hS => exec_loadIG hS _ rfl rfl (by repeat (first | exact List.mem_cons_self | apply List.mem_cons_of_mem)) rfl) ?_
  go_simp
  refine list_read (v := .bool false) rfl rfl (fun u hS => exec_lssZ _ _ (unhide ly) rfl rfl rfl) ?_
  go_simp
  refine list_read (v := .bool false) rfl rfl (fun u hS => by go_simp) ?_
  go_simp
  refine list_read (v := .bool false) rfl rfl (fun u hS => by go_simp) ?_
  go_simp
  refine list_read (v := .bool false) rfl rfl (fun u hS => by go_simp) ?_
  go_simp
  refine list_read (v := ?_) rfl rfl (fun u hS => by go_simp; rfl) ?_
  go_simp
  refine list_read (v := .int .i64 ax) rfl rfl (fun u hS => exec_loadIG hS _ rfl rfl (by repeat (first | exact List.mem_cons_self | apply List.mem_cons_of_mem)) rfl) ?_
  go_simp
  refine list_read (v := ?_) rfl rfl (fun u hS => by go_simp; rfl) ?_
  go_simp
  refine list_read (v := .int .i64 bx) rfl rfl (fun u hS => exec_loadIG hS _ rfl rfl (by repeat (first | exact List.mem_cons_self | apply List.mem_cons_of_mem)) rfl) ?_
  go_simp
  refine list_read (v := .bool true) rfl rfl (fun u hS => exec_eqlZ _ _ _ (unhide ex) rfl rfl rfl) ?_
  go_simp
  refine list_read (v := .bool true) rfl rfl (fun u hS => by go_simp) ?_
  go_simp
  refine list_read (v := ?_) rfl rfl (fun u hS => by go_simp; rfl) ?_
  go_simp
  refine list_read (v := .int .i64 ay) rfl rfl (fun u hS => exec_loadIG hS _ rfl rfl (by repeat (first | exact List.mem_cons_self | apply List.mem_cons_of_mem)) rfl) ?_
  go_simp
  refine list_read (v := ?_) rfl rfl (fun u hS => by go_simp; rfl) ?_
  go_simp
  refine list_read (v := .int .i64 b_y) rfl rfl (fun u hS => exec_loadIG hS _ rfl rfl (by repeat (first | exact List.mem_cons_self | apply List.mem_cons_of_mem)) rfl) ?_
  go_simp
  refine list_read (v := .bool true) rfl rfl (fun u hS => exec_eqlZ _ _ _ (unhide ey) rfl rfl rfl) ?_
  go_simp
  refine list_read (v := .bool true) rfl rfl (fun u hS => by go_simp) ?_
  go_simp
  refine list_read (v := .bool true) rfl rfl (fun u hS => by go_simp) ?_
  go_simp
  refine list_read (v := ?_) rfl rfl (fun u hS => by go_simp; rfl) ?_
  go_simp
  refine list_read (v := .int .i64 az) rfl rfl (fun u hS => exec_loadIG hS _ rfl rfl (by repeat (first | exact List.mem_cons_self | apply List.mem_cons_of_mem)) rfl) ?_
  go_simp
  refine list_read (v := ?_) rfl rfl (fun u hS => by go_simp; rfl) ?_
  go_simp
  refine list_read (v := .int .i64 bz_) rfl rfl (fun u hS => exec_loadIG hS _ rfl rfl (by repeat (first | exact List.mem_cons_self | apply List.mem_cons_of_mem)) rfl) ?_
  go_simp
  refine list_read (v := .bool false) rfl rfl (fun u hS => exec_lssZ _ _ (unhide lz) rfl rfl rfl) ?_
  go_simp
  refine list_read (v := .bool false) rfl rfl (fun u hS => by go_simp) ?_
  go_simp
  refine list_read (v := .bool false) rfl rfl (fun u hS => by go_simp) ?_
  go_simp
  refine list_end (fun u hS => ?_)
  have O := hide hS.o
  clear hS
  go_wp2
  go_ret
  exact ⟨rfl, unhide O⟩
section
variable {ops : Array Oper} {rest : List Oper} {o : Oper} {a : Act} {w w0 : World} {Q : Exit → Act → World → Prop} {l : List (Nat × TypeId × Array Value)} {g : Nat} {t : TypeId} {cs : Array Value}
theorem ldI4w (d : Gen w0 l w) {i : Nat} {z : Int} (x : Operand) (ho : o.op = .load 2 x) (hgd : Region.wanted o (yielded ops a.tmps) = true) (hx : a.eval x = .pointer (some ⟨g, i, none⟩)) (hm : (g, t, cs) ∈ l) (hc : cs[i]? = some (.int .i64 z))
    (h : wpList Try.prog ops Q rest (a.put o.dst (.int .i64 z)) w) : wpList Try.prog ops Q (o :: rest) a w := wpList_valuew hgd (exec_loadIG d x ho hx hm hc) h
end
theorem rmay_core (x : Int) (w : World) :
    Calls Try.prog 78 #[.int .i64 x] w fun e w' => e = .returned (.bool (mayI x)) ∧ Below w.heap.size w w' := by
  unfold mayI
  go_enter Try.func78, Try.ntmps78
  by_cases h : -268435456 ≤ x
  · go_wp2
    go_ret
    exact ⟨by simp [h], Below.refl _ _⟩
  · have hd := hide (decide_eq_false h)
    go_wp2
    go_ret
    exact ⟨by rw [unhide hd]; rfl, Below.refl _ _⟩
theorem rcheck_f (x y z : Int) (w : World) (h0 : Hid (Ans 78 #[.int .i64 x] (.bool false))) :
    Calls Try.prog 27 #[.agg (v3 x y z)] w fun e w' => e = .returned (.int .i64 7) ∧ Below w.heap.size w w' := by
  go_enter Try.func27, Try.ntmps27
  go_upto_region 1 with fail
  have D := hide ((Gen.start w).push 26 (v3 x y z))
  go_wp2_with (first | (with_reducible refine at_list ?_;  apply ldI (unhide D) _ rfl rfl rfl (by repeat (first | exact List.mem_cons_self | apply List.mem_cons_of_mem)) rfl) | (with_reducible refine at_list ?_;  apply ldI4w (unhide D) _ rfl rfl rfl (by repeat (first | exact List.mem_cons_self | apply List.mem_cons_of_mem)) rfl) | (go_at_call 78; with_reducible refine (unhide h0 _).mono ?_; rintro e w' ⟨he, hb⟩; subst he; have D := hide ((unhide D).keep hb); clear hb))
  go_ret
  exact ⟨rfl, (unhide D).o⟩
theorem rcheck_tf (x y z : Int) (w : World) (h0 : Hid (Ans 78 #[.int .i64 x] (.bool true))) (h1 : Hid (Ans 78 #[.int .i64 y] (.bool false))) :
    Calls Try.prog 27 #[.agg (v3 x y z)] w fun e w' => e = .returned (.int .i64 7) ∧ Below w.heap.size w w' := by
  go_enter Try.func27, Try.ntmps27
  go_upto_region 1 with fail
  have D := hide ((Gen.start w).push 26 (v3 x y z))
  go_wp2_with (first | (with_reducible refine at_list ?_;  apply ldI (unhide D) _ rfl rfl rfl (by repeat (first | exact List.mem_cons_self | apply List.mem_cons_of_mem)) rfl) | (with_reducible refine at_list ?_;  apply ldI4w (unhide D) _ rfl rfl rfl (by repeat (first | exact List.mem_cons_self | apply List.mem_cons_of_mem)) rfl) | (go_at_call 78; with_reducible refine (unhide h0 _).mono ?_; rintro e w' ⟨he, hb⟩; subst he; have D := hide ((unhide D).keep hb); clear hb) | (go_at_call 78; with_reducible refine (unhide h1 _).mono ?_; rintro e w' ⟨he, hb⟩; subst he; have D := hide ((unhide D).keep hb); clear hb))
  go_ret
  exact ⟨rfl, (unhide D).o⟩
theorem rcheck_ttf (x y z : Int) (w : World) (h0 : Hid (Ans 78 #[.int .i64 x] (.bool true))) (h1 : Hid (Ans 78 #[.int .i64 y] (.bool true))) (h2 : Hid (Ans 78 #[.int .i64 z] (.bool false))) :
    Calls Try.prog 27 #[.agg (v3 x y z)] w fun e w' => e = .returned (.int .i64 7) ∧ Below w.heap.size w w' := by
  go_enter Try.func27, Try.ntmps27
  go_upto_region 1 with fail
  have D := hide ((Gen.start w).push 26 (v3 x y z))
  go_wp2_with (first | (with_reducible refine at_list ?_;  apply ldI (unhide D) _ rfl rfl rfl (by repeat (first | exact List.mem_cons_self | apply List.mem_cons_of_mem)) rfl) | (with_reducible refine at_list ?_;  apply ldI4w (unhide D) _ rfl rfl rfl (by repeat (first | exact List.mem_cons_self | apply List.mem_cons_of_mem)) rfl) | (go_at_call 78; with_reducible refine (unhide h0 _).mono ?_; rintro e w' ⟨he, hb⟩; subst he; have D := hide ((unhide D).keep hb); clear hb) | (go_at_call 78; with_reducible refine (unhide h1 _).mono ?_; rintro e w' ⟨he, hb⟩; subst he; have D := hide ((unhide D).keep hb); clear hb) | (go_at_call 78; with_reducible refine (unhide h2 _).mono ?_; rintro e w' ⟨he, hb⟩; subst he; have D := hide ((unhide D).keep hb); clear hb))
  go_ret
  exact ⟨rfl, (unhide D).o⟩
theorem rcheck_ttt (x y z : Int) (w : World) (h0 : Hid (Ans 78 #[.int .i64 x] (.bool true))) (h1 : Hid (Ans 78 #[.int .i64 y] (.bool true))) (h2 : Hid (Ans 78 #[.int .i64 z] (.bool true))) :
    Calls Try.prog 27 #[.agg (v3 x y z)] w fun e w' => e = .returned (.int .i64 0) ∧ Below w.heap.size w w' := by
  go_enter Try.func27, Try.ntmps27
  go_upto_region 1 with fail
  have D := hide ((Gen.start w).push 26 (v3 x y z))
  go_wp2_with (first | (with_reducible refine at_list ?_;  apply ldI (unhide D) _ rfl rfl rfl (by repeat (first | exact List.mem_cons_self | apply List.mem_cons_of_mem)) rfl) | (with_reducible refine at_list ?_;  apply ldI4w (unhide D) _ rfl rfl rfl (by repeat (first | exact List.mem_cons_self | apply List.mem_cons_of_mem)) rfl) | (go_at_call 78; with_reducible refine (unhide h0 _).mono ?_; rintro e w' ⟨he, hb⟩; subst he; have D := hide ((unhide D).keep hb); clear hb) | (go_at_call 78; with_reducible refine (unhide h1 _).mono ?_; rintro e w' ⟨he, hb⟩; subst he; have D := hide ((unhide D).keep hb); clear hb) | (go_at_call 78; with_reducible refine (unhide h2 _).mono ?_; rintro e w' ⟨he, hb⟩; subst he; have D := hide ((unhide D).keep hb); clear hb))
  go_ret
  exact ⟨rfl, (unhide D).o⟩
theorem RCheckZ (x y z : Int) : Ans 27 #[.agg (v3 x y z)] (.int .i64 (if chkP x y z then 0 else 7)) := by
  intro w
  have h1 := fun u => rmay_core x u
  have h2 := fun u => rmay_core y u
  have h3 := fun u => rmay_core z u
  unfold chkP
  generalize mayI x = a at *
  generalize mayI y = b at *
  generalize mayI z = c at *
  cases a
  · exact rcheck_f x y z w h1
  cases b
  · exact rcheck_tf x y z w h1 h2
  cases c
  · exact rcheck_ttf x y z w h1 h2 h3
  · exact rcheck_ttt x y z w h1 h2 h3
set_option maxHeartbeats 1000000 in
theorem rless_a (ax ay az bx b_y bz_ : Int) (w : World) (h1 : Hid (Ans 27 #[.agg (v3 ax ay az)] (.int .i64 7))) :
    Calls Try.prog 30 #[.agg (v3 ax ay az), .agg (v3 bx b_y bz_)] w fun e w' => e = .returned (.tuple #[.agg (v3 0 0 0), .int .i64 7]) ∧ Below w.heap.size w w' := by
  go_enter Try.func30, Try.ntmps30
  go_upto_region 1 with fail
  have D := hide ((((Gen.start w).push 26 (v3 ax ay az)).push 26 (v3 bx b_y bz_)).push 26 (v3 0 0 0))
  simp only [szA] at D
  go_wp2_with (first | (with_reducible refine at_list ?_; apply ldG (unhide D) rPoint _ rfl rfl rfl (by repeat (first | exact List.mem_cons_self | apply List.mem_cons_of_mem)) rfl) | (with_reducible refine at_list ?_; apply ldGw (unhide D) rPoint _ rfl rfl rfl (by repeat (first | exact List.mem_cons_self | apply List.mem_cons_of_mem)) rfl) | (go_at_call 27; with_reducible refine (unhide h1 _).mono ?_; rintro e w' ⟨he, hb⟩; subst he; have D := hide ((unhide D).keep hb); clear hb) | (with_reducible refine at_list ?_;  apply ldI (unhide D) _ rfl rfl rfl (by repeat (first | exact List.mem_cons_self | apply List.mem_cons_of_mem)) rfl) | (with_reducible refine at_list ?_;  refine bdPt _ _ _ rfl rfl rfl rfl rfl ?_) | (with_reducible refine at_list ?_; apply stGend (unhide D) rPoint _ _ rfl rfl rfl rfl (by repeat (first | exact List.mem_cons_self | apply List.mem_cons_of_mem)) (by omega) rfl rfl (v3_one' _ _ _); intro B O))
  exact resGT rPoint (unhide B) rfl rfl rfl rfl rfl ⟨rfl, unhide O⟩
set_option maxHeartbeats 1000000 in
theorem rless_b (ax ay az bx b_y bz_ : Int) (w : World) (h1 : Hid (Ans 27 #[.agg (v3 ax ay az)] (.int .i64 0))) (h2 : Hid (Ans 27 #[.agg (v3 bx b_y bz_)] (.int .i64 7))) :
    Calls Try.prog 30 #[.agg (v3 ax ay az), .agg (v3 bx b_y bz_)] w fun e w' => e = .returned (.tuple #[.agg (v3 0 0 0), .int .i64 7]) ∧ Below w.heap.size w w' := by
  go_enter Try.func30, Try.ntmps30
  go_upto_region 1 with fail
  have D := hide ((((Gen.start w).push 26 (v3 ax ay az)).push 26 (v3 bx b_y bz_)).push 26 (v3 0 0 0))
  simp only [szA] at D
  go_wp2_with (first | (with_reducible refine at_list ?_; apply ldG (unhide D) rPoint _ rfl rfl rfl (by repeat (first | exact List.mem_cons_self | apply List.mem_cons_of_mem)) rfl) | (with_reducible refine at_list ?_; apply ldGw (unhide D) rPoint _ rfl rfl rfl (by repeat (first | exact List.mem_cons_self | apply List.mem_cons_of_mem)) rfl) | (go_at_call 27; with_reducible refine (unhide h1 _).mono ?_; rintro e w' ⟨he, hb⟩; subst he; have D := hide ((unhide D).keep hb); clear hb) | (go_at_call 27; with_reducible refine (unhide h2 _).mono ?_; rintro e w' ⟨he, hb⟩; subst he; have D := hide ((unhide D).keep hb); clear hb) | (with_reducible refine at_list ?_;  apply ldI (unhide D) _ rfl rfl rfl (by repeat (first | exact List.mem_cons_self | apply List.mem_cons_of_mem)) rfl) | (with_reducible refine at_list ?_;  refine bdPt _ _ _ rfl rfl rfl rfl rfl ?_) | (with_reducible refine at_list ?_; apply stGend (unhide D) rPoint _ _ rfl rfl rfl rfl (by repeat (first | exact List.mem_cons_self | apply List.mem_cons_of_mem)) (by omega) rfl rfl (v3_one' _ _ _); intro B O))
  exact resGT rPoint (unhide B) rfl rfl rfl rfl rfl ⟨rfl, unhide O⟩
set_option maxHeartbeats 1000000 in
theorem rless_ok (ax ay az bx b_y bz_ : Int) (w : World) (h1 : Hid (Ans 27 #[.agg (v3 ax ay az)] (.int .i64 0))) (h2 : Hid (Ans 27 #[.agg (v3 bx b_y bz_)] (.int .i64 0))) :
    Calls Try.prog 30 #[.agg (v3 ax ay az), .agg (v3 bx b_y bz_)] w fun e w' => e = .returned (.tuple #[.agg (v3 (wrap64 (ax - bx)) (wrap64 (ay - b_y)) (wrap64 (az - bz_))), .int .i64 0]) ∧ Below w.heap.size w w' := by
  go_enter Try.func30, Try.ntmps30
  go_upto_region 1 with fail
  have D := hide ((((Gen.start w).push 26 (v3 ax ay az)).push 26 (v3 bx b_y bz_)).push 26 (v3 0 0 0))
  simp only [szA] at D
  go_wp2_with (first | (with_reducible refine at_list ?_; apply ldG (unhide D) rPoint _ rfl rfl rfl (by repeat (first | exact List.mem_cons_self | apply List.mem_cons_of_mem)) rfl) | (with_reducible refine at_list ?_; apply ldGw (unhide D) rPoint _ rfl rfl rfl (by repeat (first | exact List.mem_cons_self | apply List.mem_cons_of_mem)) rfl) | (go_at_call 27; with_reducible refine (unhide h1 _).mono ?_; rintro e w' ⟨he, hb⟩; subst he; have D := hide ((unhide D).keep hb); clear hb) | (go_at_call 27; with_reducible refine (unhide h2 _).mono ?_; rintro e w' ⟨he, hb⟩; subst he; have D := hide ((unhide D).keep hb); clear hb) | (with_reducible refine at_list ?_;  apply ldI (unhide D) _ rfl rfl rfl (by repeat (first | exact List.mem_cons_self | apply List.mem_cons_of_mem)) rfl) | (with_reducible refine at_list ?_;  refine bdPt _ _ _ rfl rfl rfl rfl rfl ?_) | (with_reducible refine at_list ?_; apply stGend (unhide D) rPoint _ _ rfl rfl rfl rfl (by repeat (first | exact List.mem_cons_self | apply List.mem_cons_of_mem)) (by omega) rfl rfl (v3_one' _ _ _); intro B O))
  exact resGT rPoint (unhide B) rfl rfl rfl rfl rfl ⟨rfl, unhide O⟩
theorem RLessZ (ax ay az bx b_y bz_ : Int) : Ans 30 #[.agg (v3 ax ay az), .agg (v3 bx b_y bz_)]
    (if chkP ax ay az && chkP bx b_y bz_ then .tuple #[.agg (v3 (ax - bx) (ay - b_y) (az - bz_)), .int .i64 0] else .tuple #[.agg (v3 0 0 0), .int .i64 7]) := by
  intro w
  have h1 := RCheckZ ax ay az
  have h2 := RCheckZ bx b_y bz_
  cases e1 : chkP ax ay az
  · rw [e1] at h1
    exact rless_a ax ay az bx b_y bz_ w h1
  · rw [e1] at h1
    cases e2 : chkP bx b_y bz_
    · rw [e2] at h2
      exact rless_b ax ay az bx b_y bz_ w h1 h2
    · rw [e2] at h2
      have a1 := chkP_iff.1 e1
      have a2 := chkP_iff.1 e2
      have k := rless_ok ax ay az bx b_y bz_ w h1 h2
      rw [wrap_self (z := ax - bx) ⟨by omega, by omega⟩, wrap_self (z := ay - b_y) ⟨by omega, by omega⟩, wrap_self (z := az - bz_) ⟨by omega, by omega⟩] at k
      exact k
theorem RCmpZ (ax ay az bx b_y bz_ : Int) : Ans 32 #[.agg (v3 ax ay az), .agg (v3 bx b_y bz_)] (.int .i64 (cmpP ax ay az bx b_y bz_)) := fun w => by
  obtain ⟨f1, f2, f3⟩ := cmpP_is ax ay az bx b_y bz_
  have hn : ¬ (ax = bx ∧ ay = b_y ∧ az = bz_) → sameV ax ay az bx b_y bz_ = false := fun h => by unfold sameV; exact decide_eq_false h
  rcases lt3_tri ax ay az bx b_y bz_ with h | h | h
  · rw [f1 h]
    have hv := hn (fun e => by unfold lt3 at h; omega)
    unfold lt3 at h
    by_cases h1 : ax < bx
    · exact rcmp_lx ax ay az bx b_y bz_ w hv (decide_eq_true h1)
    · obtain ⟨h2, h3⟩ := h.resolve_left h1
      by_cases h4 : ay < b_y
      · exact rcmp_ly ax ay az bx b_y bz_ w hv (decide_eq_false h1) (beq_iff_eq.2 h2) (decide_eq_true h4)
      · obtain ⟨h5, h6⟩ := h3.resolve_left h4
        exact rcmp_lz ax ay az bx b_y bz_ w hv (decide_eq_false h1) (beq_iff_eq.2 h2) (decide_eq_false h4) (beq_iff_eq.2 h5) (decide_eq_true h6)
  · rw [f3 h]
    exact rcmp_eq ax ay az bx b_y bz_ w (by unfold sameV; exact decide_eq_true h)
  · rw [f2 h]
    have hv := hn (fun e => by unfold lt3 at h; omega)
    unfold lt3 at h
    have b0 : ∀ {x y : Int}, x ≠ y → (x == y) = false := fun h => by simpa using h
    by_cases h1 : bx < ax
    · exact rcmp_gx ax ay az bx b_y bz_ w hv (decide_eq_false (by omega)) (b0 (by omega))
    · obtain ⟨h2, h3⟩ := h.resolve_left h1
      by_cases h4 : b_y < ay
      · exact rcmp_gy ax ay az bx b_y bz_ w hv (decide_eq_false (by omega)) (beq_iff_eq.2 h2.symm) (decide_eq_false (by omega)) (b0 (by omega))
      · obtain ⟨h5, h6⟩ := h3.resolve_left h4
        exact rcmp_gz ax ay az bx b_y bz_ w hv (decide_eq_false (by omega)) (beq_iff_eq.2 h2.symm) (decide_eq_false (by omega)) (beq_iff_eq.2 h5.symm) (decide_eq_false (by omega))
set_option maxHeartbeats 2000000 in
theorem less_law (ax ay az bx b_y bz_ p q r e c : Int) (w : World) (h1 : Hid (Ans 29 #[.agg (v3 ax ay az), .agg (v3 bx b_y bz_)] (.tuple #[.agg (v3 p q r), .int .i64 e]))) (h2 : Hid (Ans 30 #[.agg (v3 ax ay az), .agg (v3 bx b_y bz_)] (.tuple #[.agg (v3 p q r), .int .i64 e])))
    (c1 : Hid (Ans 31 #[.agg (v3 ax ay az), .agg (v3 bx b_y bz_)] (.int .i64 c))) (c2 : Hid (Ans 32 #[.agg (v3 ax ay az), .agg (v3 bx b_y bz_)] (.int .i64 c))) (hv : sameV p q r p q r = true) (haw : Hid (Ans 28 #[] (.bool true))) :
    Calls Try.prog 4 #[.agg (v3 ax ay az), .agg (v3 bx b_y bz_)] w fun e w' => e = .returned (.bool true) ∧ Below w.heap.size w w' := by
  go_enter Try.func4, Try.ntmps4
  go_upto_region 1 with fail
  have D := hide (((Gen.start w).push 26 (v3 ax ay az)).push 26 (v3 bx b_y bz_))
  simp only [szA] at D
  go_upto_region 3 with (first | (with_reducible refine at_list ?_; apply ldG (unhide D) rPoint _ rfl rfl rfl (by repeat (first | exact List.mem_cons_self | apply List.mem_cons_of_mem)) rfl) | (go_at_call 29; with_reducible refine (unhide h1 _).mono ?_; rintro e w' ⟨he, hb⟩; subst he; have D := hide ((unhide D).keep hb); clear hb) | (go_at_call 30; with_reducible refine (unhide h2 _).mono ?_; rintro e w' ⟨he, hb⟩; subst he; have D := hide ((unhide D).keep hb); clear hb) | (with_reducible refine at_list ?_; refine stG (unhide D) rPoint _ _ rfl rfl rfl rfl rfl rfl (v3_one' _ _ _) ?_; intro D'; have D := hide D'; clear D'))
  refine region_plan (S := Gen w _) (l := [0, 1, 2, 3, 4, 5, 6, 7, 8, 9, 10, 11, 12, 13, 14, 15, 16, 17, 18, 19, 20]) (by kernel_rfl) (by kernel_rfl) (by kernel_rfl) (by kernel_rfl) (by kernel_rfl) (by kernel_rfl) (by kernel_rfl) (unhide D).drew ?_
  clear D
  refine plan_read (v := .agg (v3 p q r)) rfl rfl (fun u hS => exec_ldG hS rPoint _ rfl rfl (by repeat (first | exact List.mem_cons_self | apply List.mem_cons_of_mem)) rfl) ?_
  go_simp
  refine plan_read (v := .agg (v3 p q r)) rfl rfl (fun u hS => exec_ldG hS rPoint _ rfl rfl (by repeat (first | exact List.mem_cons_self | apply List.mem_cons_of_mem)) rfl) ?_
  go_simp
  refine plan_read (v := .bool true) rfl rfl (fun u hS => exec_eql_pt u _ _ hv rfl rfl rfl) ?_
  go_simp
  refine plan_read (v := ?_) rfl rfl (fun u hS => by go_simp; rfl) ?_
  go_simp
  refine plan_read (v := ?_) rfl rfl (fun u hS => by go_simp; rfl) ?_
  go_simp
  refine plan_read (v := ?_) rfl rfl (fun u hS => by go_simp; rfl) ?_
  go_simp
  refine plan_read (v := .bool true) rfl rfl (fun u hS => by go_simp) ?_
  go_simp
  refine plan_read (v := ?_) rfl rfl (fun u hS => by go_simp; rfl) ?_
  go_simp
  refine plan_read (v := ?_) rfl rfl (fun u hS => by go_simp; rfl) ?_
  go_simp
  refine plan_read (v := .agg (v3 ax ay az)) rfl rfl (fun u hS => exec_ldG hS rPoint _ rfl rfl (by repeat (first | exact List.mem_cons_self | apply List.mem_cons_of_mem)) rfl) ?_
  go_simp
  refine plan_read (v := .agg (v3 bx b_y bz_)) rfl rfl (fun u hS => exec_ldG hS rPoint _ rfl rfl (by repeat (first | exact List.mem_cons_self | apply List.mem_cons_of_mem)) rfl) ?_
  go_simp
  refine plan_call (v := (.int .i64 c)) (f := 31) (args := #[.agg (v3 ax ay az), .agg (v3 bx b_y bz_)]) rfl rfl (fun u hS => by go_simp) (fun u hS => (unhide c1 u).mono fun _ _ ⟨he, hb⟩ => ⟨he, hS.keep hb⟩) ?_
  go_simp
  refine plan_read (v := .agg (v3 ax ay az)) rfl rfl (fun u hS => exec_ldG hS rPoint _ rfl rfl (by repeat (first | exact List.mem_cons_self | apply List.mem_cons_of_mem)) rfl) ?_
  go_simp
  refine plan_read (v := .agg (v3 bx b_y bz_)) rfl rfl (fun u hS => exec_ldG hS rPoint _ rfl rfl (by repeat (first | exact List.mem_cons_self | apply List.mem_cons_of_mem)) rfl) ?_
  go_simp
  refine plan_call (v := (.int .i64 c)) (f := 32) (args := #[.agg (v3 ax ay az), .agg (v3 bx b_y bz_)]) rfl rfl (fun u hS => by go_simp) (fun u hS => (unhide c2 u).mono fun _ _ ⟨he, hb⟩ => ⟨he, hS.keep hb⟩) ?_
  go_simp
  refine plan_read (v := .bool true) rfl rfl (fun u hS => by go_simp) ?_
  go_simp
  refine plan_read (v := ?_) rfl rfl (fun u hS => by go_simp; rfl) ?_
  go_simp
  refine plan_read (v := ?_) rfl rfl (fun u hS => by go_simp; rfl) ?_
  go_simp
  refine plan_call (v := (.bool true)) (f := 28) (args := #[]) rfl rfl (fun u hS => by go_simp) (fun u hS => (unhide haw u).mono fun _ _ ⟨he, hb⟩ => ⟨he, hS.keep hb⟩) ?_
  go_simp
  refine plan_read (v := ?_) rfl rfl (fun u hS => by go_simp; rfl) ?_
  go_simp
  refine plan_read (v := ?_) rfl rfl (fun u hS => by go_simp; rfl) ?_
  go_simp
  refine plan_end (fun u hS => ?_)
  have O := hide hS.o
  clear hS
  go_wp2
  go_ret
  exact ⟨rfl, unhide O⟩
theorem gridLess_walk (ax ay az bx b_y bz_ : Int) (h1' : (Lit.int .i64 ax).wf = true) (h2' : (Lit.int .i64 ay).wf = true) (h3' : (Lit.int .i64 az).wf = true) (h4' : (Lit.int .i64 bx).wf = true) (h5' : (Lit.int .i64 b_y).wf = true) (h6' : (Lit.int .i64 bz_).wf = true) (w : World) :
    Calls Try.prog 4 #[.agg (v3 ax ay az), .agg (v3 bx b_y bz_)] w fun e w' => e = .returned (.bool true) ∧ Below w.heap.size w w' := by
  have h1 := LessZ6 ax ay az bx b_y bz_
  have h2 := RLessZ ax ay az bx b_y bz_
  have s : ∀ x y z : Int, sameV x y z x y z = true := fun x y z => by unfold sameV; simp
  cases e : chkP ax ay az && chkP bx b_y bz_
  · rw [e, if_neg (by decide)] at h1 h2
    exact less_law ax ay az bx b_y bz_ _ _ _ _ _ w h1 h2 (CmpZ6 ax ay az bx b_y bz_) (RCmpZ ax ay az bx b_y bz_) (s _ _ _) awake6Z
  · rw [e, if_pos rfl] at h1 h2
    exact less_law ax ay az bx b_y bz_ _ _ _ _ _ w h1 h2 (CmpZ6 ax ay az bx b_y bz_) (RCmpZ ax ay az bx b_y bz_) (s _ _ _) awake6Z

end Go.Proofs.Ytbgafjdgahikcaa
