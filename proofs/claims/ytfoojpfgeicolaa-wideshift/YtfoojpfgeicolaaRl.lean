/- The law WideShift, over whatever shifts: it returns true where both packages answer the same. -/
import Derived.Test.YtfoojpfgeicolaaZn
import Derived.Deep.DeepCutAuto
namespace Go.Proofs.Ytfoojpfgeicolaa
open Go.RowKit

set_option maxRecDepth 100000 in
set_option maxHeartbeats 4000000 in
theorem shift_law (shl shr a : Nat) (E : Bool) (n : Int) (w : World)
    (hShl : Hid (∀ u, Calls Try.prog 26 #[W a, .int .i64 n] u fun e w' => e = .returned (.tuple #[.agg (cells8 shl), .bool E]) ∧ Below u.heap.size u w'))
    (hRShl : Hid (∀ u, Calls Try.prog 27 #[W a, .int .i64 n] u fun e w' => e = .returned (.tuple #[.agg (cells8 shl), .bool E]) ∧ Below u.heap.size u w'))
    (hShr : Hid (∀ u, Calls Try.prog 28 #[W a, .int .i64 n] u fun e w' => e = .returned (.agg (cells8 shr)) ∧ Below u.heap.size u w'))
    (hRShr : Hid (∀ u, Calls Try.prog 29 #[W a, .int .i64 n] u fun e w' => e = .returned (.agg (cells8 shr)) ∧ Below u.heap.size u w'))
    (hAw : Hid (∀ u, Calls Try.prog 18 #[] u fun e w' => e = .returned (.bool true) ∧ Below u.heap.size u w'))
    (hs : Hid (∀ n, same n n = true)) :
    Calls Try.prog 6 #[W a, .int .i64 n] w fun e w' => e = .returned (.bool true) ∧ Below w.heap.size w w' := by
  go_enter Try.func6, Try.ntmps6
  go_upto_region 1 with fail
  have D := hide (Env.one w a)
  go_upto_region 3 with (first
    | (with_reducible refine at_list ?_; apply ldE (unhide D) _ rfl rfl rfl (by repeat (first | exact List.mem_cons_self | apply List.mem_cons_of_mem)))
    | (with_reducible refine at_list ?_; refine stE (unhide D) _ _ rfl rfl rfl rfl rfl ?_; intro D'; have D := hide D'; clear D')
    | (go_at_call 26; refine (unhide hShl _).mono ?_; rintro e w' ⟨he, hb⟩; subst he; have D := hide ((unhide D).keep hb); clear hb)
    | (go_at_call 27; refine (unhide hRShl _).mono ?_; rintro e w' ⟨he, hb⟩; subst he; have D := hide ((unhide D).keep hb); clear hb))
  refine region_plan (S := Env w _) (l := [0, 1, 2, 3, 4, 5, 6, 7, 8, 9, 10, 11, 12, 13, 14, 15, 16, 17, 18, 19, 20]) (by kernel_rfl) (by kernel_rfl) (by kernel_rfl) (by kernel_rfl) (by kernel_rfl) (by kernel_rfl) (by kernel_rfl) ((unhide D).drew) ?_
  clear D
  refine plan_read rfl rfl (fun u hS => exec_load8 (n := (shl)) 25 (.tmp 5) (hS.blk (by repeat (first | exact List.mem_cons_self | apply List.mem_cons_of_mem))) rfl rfl Try.underlying25 rfl iWide) ?_
  refine plan_read rfl rfl (fun u hS => exec_load8 (n := (shl)) 25 (.tmp 7) (hS.blk (by repeat (first | exact List.mem_cons_self | apply List.mem_cons_of_mem))) rfl rfl Try.underlying25 rfl iWide) ?_
  go_simp
  refine plan_read (v := .bool true) rfl rfl (fun u hS => exec_eql_wide_is _ (.tmp 21) (.tmp 22) (unhide hs _) rfl rfl rfl) ?_
  go_simp
  refine plan_read (v := ?_) rfl rfl (fun u hS => by go_simp; rfl) ?_
  go_simp
  refine plan_read (v := ?_) rfl rfl (fun u hS => by go_simp; rfl) ?_
  refine plan_read (v := ?_) rfl rfl (fun u hS => by go_simp; rfl) ?_
  go_simp
  refine plan_read (v := ?_) rfl rfl (fun u hS => by go_simp; rfl) ?_
  go_simp
  refine plan_read (v := ?_) rfl rfl (fun u hS => by go_simp; rfl) ?_
  go_simp
  refine plan_read (v := ?_) rfl rfl (fun u hS => by go_simp; rfl) ?_
  go_simp
  refine plan_read rfl rfl (fun u hS => exec_load8 (n := a) 25 (.tmp 2) (hS.blk (by repeat (first | exact List.mem_cons_self | apply List.mem_cons_of_mem))) rfl rfl Try.underlying25 rfl iWide) ?_
  refine plan_read (v := ?_) rfl rfl (fun u hS => by go_simp; rfl) ?_
  go_simp
  refine plan_call (v := .agg (cells8 shr)) (f := 28) (args := #[W a, .int .i64 n]) rfl rfl (fun u hS => by go_simp) (fun u hS => (unhide hShr u).mono fun _ _ ⟨he, hb⟩ => ⟨he, hS.keep hb⟩) ?_
  go_simp
  refine plan_read rfl rfl (fun u hS => exec_load8 (n := a) 25 (.tmp 2) (hS.blk (by repeat (first | exact List.mem_cons_self | apply List.mem_cons_of_mem))) rfl rfl Try.underlying25 rfl iWide) ?_
  refine plan_read (v := ?_) rfl rfl (fun u hS => by go_simp; rfl) ?_
  go_simp
  refine plan_call (v := .agg (cells8 shr)) (f := 29) (args := #[W a, .int .i64 n]) rfl rfl (fun u hS => by go_simp) (fun u hS => (unhide hRShr u).mono fun _ _ ⟨he, hb⟩ => ⟨he, hS.keep hb⟩) ?_
  go_simp
  refine plan_read (v := .bool true) rfl rfl (fun u hS => exec_eql_wide_is _ (.tmp 32) (.tmp 35) (unhide hs _) rfl rfl rfl) ?_
  go_simp
  refine plan_read (v := ?_) rfl rfl (fun u hS => by go_simp; rfl) ?_
  go_simp
  refine plan_read (v := ?_) rfl rfl (fun u hS => by go_simp; rfl) ?_
  go_simp
  refine plan_call (v := .bool true) (f := 18) (args := #[]) rfl rfl (fun u hS => by go_simp) (fun u hS => (unhide hAw u).mono fun _ _ ⟨he, hb⟩ => ⟨he, hS.keep hb⟩) ?_
  go_simp
  refine plan_read (v := ?_) rfl rfl (fun u hS => by go_simp; rfl) ?_
  go_simp
  refine plan_read (v := ?_) rfl rfl (fun u hS => by go_simp; rfl) ?_
  go_simp
  refine plan_end (fun u hS => ?_)
  have O := hide hS.o
  clear hS
  go_wp2
  go_ret
  exact ⟨rfl, unhide O⟩

end Go.Proofs.Ytfoojpfgeicolaa
