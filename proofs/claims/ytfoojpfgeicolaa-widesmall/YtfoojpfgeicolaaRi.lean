/- wide's Int; the law WideSmall, over whatever answers: it returns true where both packages answer the same. -/
import Derived.Test.YtfoojpfgeicolaaZn
import Derived.Deep.DeepCutAuto
namespace Go.Proofs.Ytfoojpfgeicolaa
open Go.RowKit

theorem same_comm (n m : Nat) : same n m = same m n := by
  unfold same
  exact decide_eq_decide.2 eq_comm

set_option maxHeartbeats 1000000 in
theorem int_core (a o : Nat) (t v : Int) (I : Bool) (w : World) (ht : Hid (wrap64 (lm a 0) = t)) (hI : Hid (same a o = I)) (hv : Hid (v = bif I then t else 0))
    (hOf : Hid (∀ u, Calls Try.prog 11 #[.int .i64 t] u fun e w' => e = .returned (.agg (cells8 o)) ∧ Below u.heap.size u w')) :
    Calls Try.prog 9 #[W a] w fun e w' => e = .returned (.tuple #[.int .i64 v, .bool I]) ∧ Below w.heap.size w w' := by
  unfold W
  go_enter Try.func9, Try.ntmps9
  go_upto_region 1 with fail
  have D := hide (Env.one w a)
  have h7 : (w.alloc (.cells (cells8 a) 25)).cell? ⟨w.heap.size, 0, none⟩ = some (.int .u64 (lm a 0)) := (Blk.new w 25 (cells8 a)).cell 0
  generalize lm a 0 = L at *
  go_upto_region 2 with fail
  rw [unhide ht]
  clear h7 ht
  refine region_plan (S := Env w [(w.heap.size, a)]) (l := [0, 1, 2, 3]) (by kernel_rfl) (by kernel_rfl) (by kernel_rfl) (by kernel_rfl) (by kernel_rfl) (by kernel_rfl) (by kernel_rfl) ((unhide D).drew) ?_
  refine plan_read rfl rfl (fun u hS => exec_load8 (n := a) 25 (.tmp 1) (hS.blk (by repeat (first | exact List.mem_cons_self | apply List.mem_cons_of_mem))) rfl rfl Try.underlying25 rfl iWide) ?_
  refine plan_read (v := ?_) rfl rfl (fun u hS => by go_simp; rfl) ?_
  go_simp
  refine plan_call (v := .agg (cells8 o)) (f := 11) (args := #[.int .i64 t]) rfl rfl (fun u hS => by go_simp) (fun u hS => (unhide hOf u).mono fun _ _ ⟨he, hb⟩ => ⟨he, hS.keep hb⟩) ?_
  go_simp
  refine plan_read (v := .bool (!I)) rfl rfl (fun u hS => exec_neq_wide_is (unhide hI) u (.tmp 9) (.tmp 11) rfl rfl rfl) ?_
  go_simp
  refine plan_end (fun u hS => ?_)
  have O := hide hS.o
  clear hS D
  cases I
  · go_wp2
    go_ret2
    exact ⟨by rw [hv.out]; rfl, unhide O⟩
  · go_wp2
    go_ret2
    exact ⟨by rw [hv.out]; rfl, unhide O⟩

theorem w64 (n : Int) : IntKind.i64.wrap n = wrap64 n := IntWalk.i64_left n

set_option maxRecDepth 100000 in
set_option maxHeartbeats 4000000 in
theorem small_law (n : Int) (a b on ot : Nat) (t v s c k : Int) (I : Bool) (w : World)
    (ht : Hid (wrap64 (lm a 0) = t)) (hv : Hid (v = bif I then t else 0)) (hI : Hid (same ot a = I)) (hse : Hid (same on on = true))
    (hInt : Hid (∀ u, Calls Try.prog 9 #[W a] u fun e w' => e = .returned (.tuple #[.int .i64 v, .bool I]) ∧ Below u.heap.size u w'))
    (hOf : Hid (∀ u, Calls Try.prog 11 #[.int .i64 n] u fun e w' => e = .returned (.agg (cells8 on)) ∧ Below u.heap.size u w'))
    (hSn : Hid (∀ u, Calls Try.prog 10 #[.int .i64 n] u fun e w' => e = .returned (.agg (cells8 on)) ∧ Below u.heap.size u w'))
    (hSt : Hid (∀ u, Calls Try.prog 10 #[.int .i64 t] u fun e w' => e = .returned (.agg (cells8 ot)) ∧ Below u.heap.size u w'))
    (hSi : Hid (∀ u, Calls Try.prog 12 #[W a] u fun e w' => e = .returned (.int .i64 s) ∧ Below u.heap.size u w'))
    (hRS : Hid (∀ u, Calls Try.prog 13 #[W a] u fun e w' => e = .returned (.int .i64 s) ∧ Below u.heap.size u w'))
    (hCm : Hid (∀ u, Calls Try.prog 14 #[W a, W b] u fun e w' => e = .returned (.int .i64 c) ∧ Below u.heap.size u w'))
    (hRC : Hid (∀ u, Calls Try.prog 15 #[W a, W b] u fun e w' => e = .returned (.int .i64 c) ∧ Below u.heap.size u w'))
    (hBi : Hid (∀ u, Calls Try.prog 16 #[W a] u fun e w' => e = .returned (.int .i64 k) ∧ Below u.heap.size u w'))
    (hRB : Hid (∀ u, Calls Try.prog 17 #[W a] u fun e w' => e = .returned (.int .i64 k) ∧ Below u.heap.size u w'))
    (hAw : Hid (∀ u, Calls Try.prog 18 #[] u fun e w' => e = .returned (.bool true) ∧ Below u.heap.size u w')) :
    Calls Try.prog 3 #[.int .i64 n, W a, W b] w fun e w' => e = .returned (.bool true) ∧ Below w.heap.size w w' := by
  go_enter Try.func3, Try.ntmps3
  go_upto_region 1 with fail
  have D := hide (Env.two w a b)
  go_upto_region 2 with (first
    | (with_reducible refine at_list ?_; apply ldE (unhide D) _ rfl rfl rfl (by repeat (first | exact List.mem_cons_self | apply List.mem_cons_of_mem)))
    | (go_at_call 9; refine (unhide hInt _).mono ?_; rintro e w' ⟨he, hb⟩; subst he; have D := hide ((unhide D).keep hb); clear hb))
  refine region_plan (S := Env w _) (l := [0, 1, 2, 3, 4, 5, 6, 7]) (by kernel_rfl) (by kernel_rfl) (by kernel_rfl) (by kernel_rfl) (by kernel_rfl) (by kernel_rfl) (by kernel_rfl) ((unhide D).drew) ?_
  clear D
  refine plan_read (v := ?_) rfl rfl (fun u hS => by go_simp; rfl) ?_
  refine plan_read (v := ?_) rfl rfl (fun u hS => by go_simp; rfl) ?_
  go_simp
  refine plan_read (v := .int .u64 (lm a 0)) rfl rfl (fun u hS => by have h7 : u.cell? ⟨w.heap.size, 0, none⟩ = some (.int .u64 (lm a 0)) := (hS.blk (by repeat (first | exact List.mem_cons_self | apply List.mem_cons_of_mem))).cell 0; go_simp) ?_
  go_simp
  refine plan_read (v := .int .i64 t) rfl rfl (fun u hS => by rw [← unhide ht]; go_simp; exact w64 _) ?_
  go_simp
  refine plan_call (v := .agg (cells8 ot)) (f := 10) (args := #[.int .i64 t]) rfl rfl (fun u hS => by go_simp) (fun u hS => (unhide hSt u).mono fun _ _ ⟨he, hb⟩ => ⟨he, hS.keep hb⟩) ?_
  go_simp
  refine plan_read rfl rfl (fun u hS => exec_load8 (n := a) 25 (.tmp 4) (hS.blk (by repeat (first | exact List.mem_cons_self | apply List.mem_cons_of_mem))) rfl rfl Try.underlying25 rfl iWide) ?_
  refine plan_read (v := .bool I) rfl rfl (fun u hS => exec_eql_wide_is _ (.tmp 20) (.tmp 21) (unhide hI) rfl rfl rfl) ?_
  go_simp
  refine plan_read (v := ?_) rfl rfl (fun u hS => by go_simp; rfl) ?_
  go_simp
  refine plan_end (fun u hS => ?_)
  have D := hide hS
  clear hS
  have h7 : u.cell? ⟨w.heap.size, 0, none⟩ = some (.int .u64 (lm a 0)) := ((unhide D).blk (by repeat (first | exact List.mem_cons_self | apply List.mem_cons_of_mem))).cell 0
  have HL := hide (unhide ht)
  generalize lm a 0 = L at *
  cases I
  case' false => have hv2 : Hid (v = 0) := hv.out
  case' true => have hv2 : Hid (v = t) := hv.out
  all_goals (
    go_upto_region 6 with fail
    try rw [unhide HL]
    try rw [← unhide hv2]
    refine region_plan (S := Env w _) (l := [0, 1, 2, 3, 4, 5, 6, 7, 8, 9, 10, 11, 12, 13, 14, 15, 16, 17, 18, 19, 20, 21, 22, 23, 24, 25, 26, 27, 28, 29, 30, 31, 32, 33, 34, 35, 36, 37, 38, 39, 40, 41]) (by kernel_rfl) (by kernel_rfl) (by kernel_rfl) (by kernel_rfl) (by kernel_rfl) (by kernel_rfl) (by kernel_rfl) ((unhide D).drew) ?_
    clear D h7
    refine plan_read (v := ?_) rfl rfl (fun u hS => by go_simp; rfl) ?_
    go_simp
    refine plan_call (v := .agg (cells8 on)) (f := 11) (args := #[.int .i64 n]) rfl rfl (fun u hS => by go_simp) (fun u hS => (unhide hOf u).mono fun _ _ ⟨he, hb⟩ => ⟨he, hS.keep hb⟩) ?_
    go_simp
    refine plan_read (v := ?_) rfl rfl (fun u hS => by go_simp; rfl) ?_
    go_simp
    refine plan_call (v := .agg (cells8 on)) (f := 10) (args := #[.int .i64 n]) rfl rfl (fun u hS => by go_simp) (fun u hS => (unhide hSn u).mono fun _ _ ⟨he, hb⟩ => ⟨he, hS.keep hb⟩) ?_
    go_simp
    refine plan_read (v := .bool true) rfl rfl (fun u hS => exec_eql_wide_is _ (.tmp 29) (.tmp 31) (unhide hse) rfl rfl rfl) ?_
    go_simp
    refine plan_read (v := ?_) rfl rfl (fun u hS => by go_simp; rfl) ?_
    go_simp
    refine plan_read (v := ?_) rfl rfl (fun u hS => by go_simp; rfl) ?_
    refine plan_read (v := ?_) rfl rfl (fun u hS => by go_simp; rfl) ?_
    go_simp
    refine plan_read (v := ?_) rfl rfl (fun u hS => by go_simp; rfl) ?_
    go_simp
    refine plan_read (v := ?_) rfl rfl (fun u hS => by go_simp; rfl) ?_
    go_simp
    refine plan_read (v := ?_) rfl rfl (fun u hS => by go_simp; rfl) ?_
    go_simp
    refine plan_read (v := ?_) rfl rfl (fun u hS => by go_simp; rfl) ?_
    refine plan_read (v := ?_) rfl rfl (fun u hS => by go_simp; rfl) ?_
    go_simp
    refine plan_read (v := ?_) rfl rfl (fun u hS => by go_simp; rfl) ?_
    go_simp
    refine plan_read (v := ?_) rfl rfl (fun u hS => by go_simp; rfl) ?_
    go_simp
    refine plan_read (v := ?_) rfl rfl (fun u hS => by go_simp; rfl) ?_
    go_simp
    refine plan_read rfl rfl (fun u hS => exec_load8 (n := a) 25 (.tmp 4) (hS.blk (by repeat (first | exact List.mem_cons_self | apply List.mem_cons_of_mem))) rfl rfl Try.underlying25 rfl iWide) ?_
    go_simp
    refine plan_call (v := .int .i64 s) (f := 12) (args := #[W a]) rfl rfl (fun u hS => by go_simp) (fun u hS => (unhide hSi u).mono fun _ _ ⟨he, hb⟩ => ⟨he, hS.keep hb⟩) ?_
    go_simp
    refine plan_read rfl rfl (fun u hS => exec_load8 (n := a) 25 (.tmp 4) (hS.blk (by repeat (first | exact List.mem_cons_self | apply List.mem_cons_of_mem))) rfl rfl Try.underlying25 rfl iWide) ?_
    go_simp
    refine plan_call (v := .int .i64 s) (f := 13) (args := #[W a]) rfl rfl (fun u hS => by go_simp) (fun u hS => (unhide hRS u).mono fun _ _ ⟨he, hb⟩ => ⟨he, hS.keep hb⟩) ?_
    go_simp
    refine plan_read (v := ?_) rfl rfl (fun u hS => by go_simp; rfl) ?_
    go_simp
    refine plan_read (v := ?_) rfl rfl (fun u hS => by go_simp; rfl) ?_
    go_simp
    refine plan_read (v := ?_) rfl rfl (fun u hS => by go_simp; rfl) ?_
    go_simp
    refine plan_read rfl rfl (fun u hS => exec_load8 (n := a) 25 (.tmp 4) (hS.blk (by repeat (first | exact List.mem_cons_self | apply List.mem_cons_of_mem))) rfl rfl Try.underlying25 rfl iWide) ?_
    refine plan_read rfl rfl (fun u hS => exec_load8 (n := b) 25 (.tmp 5) (hS.blk (by repeat (first | exact List.mem_cons_self | apply List.mem_cons_of_mem))) rfl rfl Try.underlying25 rfl iWide) ?_
    go_simp
    refine plan_call (v := .int .i64 c) (f := 14) (args := #[W a, W b]) rfl rfl (fun u hS => by go_simp) (fun u hS => (unhide hCm u).mono fun _ _ ⟨he, hb⟩ => ⟨he, hS.keep hb⟩) ?_
    go_simp
    refine plan_read rfl rfl (fun u hS => exec_load8 (n := a) 25 (.tmp 4) (hS.blk (by repeat (first | exact List.mem_cons_self | apply List.mem_cons_of_mem))) rfl rfl Try.underlying25 rfl iWide) ?_
    refine plan_read rfl rfl (fun u hS => exec_load8 (n := b) 25 (.tmp 5) (hS.blk (by repeat (first | exact List.mem_cons_self | apply List.mem_cons_of_mem))) rfl rfl Try.underlying25 rfl iWide) ?_
    go_simp
    refine plan_call (v := .int .i64 c) (f := 15) (args := #[W a, W b]) rfl rfl (fun u hS => by go_simp) (fun u hS => (unhide hRC u).mono fun _ _ ⟨he, hb⟩ => ⟨he, hS.keep hb⟩) ?_
    go_simp
    refine plan_read (v := ?_) rfl rfl (fun u hS => by go_simp; rfl) ?_
    go_simp
    refine plan_read (v := ?_) rfl rfl (fun u hS => by go_simp; rfl) ?_
    go_simp
    refine plan_read (v := ?_) rfl rfl (fun u hS => by go_simp; rfl) ?_
    go_simp
    refine plan_read rfl rfl (fun u hS => exec_load8 (n := a) 25 (.tmp 4) (hS.blk (by repeat (first | exact List.mem_cons_self | apply List.mem_cons_of_mem))) rfl rfl Try.underlying25 rfl iWide) ?_
    go_simp
    refine plan_call (v := .int .i64 k) (f := 16) (args := #[W a]) rfl rfl (fun u hS => by go_simp) (fun u hS => (unhide hBi u).mono fun _ _ ⟨he, hb⟩ => ⟨he, hS.keep hb⟩) ?_
    go_simp
    refine plan_read rfl rfl (fun u hS => exec_load8 (n := a) 25 (.tmp 4) (hS.blk (by repeat (first | exact List.mem_cons_self | apply List.mem_cons_of_mem))) rfl rfl Try.underlying25 rfl iWide) ?_
    go_simp
    refine plan_call (v := .int .i64 k) (f := 17) (args := #[W a]) rfl rfl (fun u hS => by go_simp) (fun u hS => (unhide hRB u).mono fun _ _ ⟨he, hb⟩ => ⟨he, hS.keep hb⟩) ?_
    go_simp
    refine plan_read (v := ?_) rfl rfl (fun u hS => by go_simp; rfl) ?_
    go_simp
    refine plan_read (v := ?_) rfl rfl (fun u hS => by go_simp; rfl) ?_
    go_simp
    refine plan_read (v := ?_) rfl rfl (fun u hS => by go_simp; rfl) ?_
    go_simp
    refine plan_call (v := .bool true) (f := 18) (args := #[]) rfl rfl (fun u hS => by go_simp) (fun u hS => (unhide hAw u).mono fun _ _ ⟨he, hb⟩ => ⟨he, hS.keep hb⟩) ?_
    go_simp
    refine plan_read (v := ?_) rfl rfl (fun u hS => by go_simp; rfl) ?_
    go_simp
    refine plan_read (v := ?_) rfl rfl (fun u hS => by go_simp; rfl) ?_
    go_simp
    refine plan_end (fun u hS => ?_)
    have O := hide hS.o
    clear hS
    go_wp2
    go_ret
    exact ⟨rfl, unhide O⟩)

end Go.Proofs.Ytfoojpfgeicolaa
