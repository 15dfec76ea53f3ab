/- The law MassBack. -/
import Derived.Test.YtnemedgdhojhdaaGreatIg
import Derived.Test.YtnemedgdhojhdaaGreatSy
namespace Go.Proofs.YtnemedgdhojhdaaGreat
open Go.RowKit
set_option maxRecDepth 4000
set_option linter.unusedVariables false

set_option maxHeartbeats 4000000 in
theorem rback_0 (x : Int) (w : World) (e0 : Hid (decide ((x : Int) ≤ 0) = true)) : Calls Tryz.prog 57 #[.int .i64 x] w fun e w' => e = .returned (.int .i64 0) ∧ Below w.heap.size w w' := by
  go_enter Tryz.func57, Tryz.ntmps57
  go_upto_region 1 with fail
  have D := hide ((Gd.start w))
  refine list_start (S := Gd w []) (unhide D) ?_
  clear D
  refine list_read (v := .int .i64 x) rfl rfl (fun u hS => by go_simp) ?_
  try go_simp
  refine list_read (v := .bool true) rfl rfl (fun u hS => exec_leqS _ _ (unhide e0) rfl rfl rfl) ?_
  try go_simp
  refine list_end (fun u1 hS => ?_)
  have D := hide hS
  clear hS
  go_upto_region 2 with fail
  refine list_start (S := Gd w []) (unhide D) ?_
  clear D
  refine list_read (v := .int .i64 0) rfl rfl (fun u hS => by go_simp) ?_
  try go_simp
  refine list_end (fun u2 hS => ?_)
  have D := hide hS
  clear hS
  go_wp2
  go_ret
  exact ⟨rfl, (unhide D).g.o⟩
set_option maxHeartbeats 4000000 in
theorem rback_1 (x v : Int) (w : World) (e0 : Hid (decide ((x : Int) ≤ 0) = false)) (h0 : Hid (Ans 102 #[.int .i64 4294967296, .int .i64 x, .bool false] (.int .i64 v))) : Calls Tryz.prog 57 #[.int .i64 x] w fun e w' => e = .returned (.int .i64 v) ∧ Below w.heap.size w w' := by
  go_enter Tryz.func57, Tryz.ntmps57
  go_upto_region 1 with fail
  have D := hide ((Gd.start w))
  refine list_start (S := Gd w []) (unhide D) ?_
  clear D
  refine list_read (v := .int .i64 x) rfl rfl (fun u hS => by go_simp) ?_
  try go_simp
  refine list_read (v := .bool false) rfl rfl (fun u hS => exec_leqS _ _ (unhide e0) rfl rfl rfl) ?_
  try go_simp
  refine list_end (fun u1 hS => ?_)
  have D := hide hS
  clear hS
  go_upto_region 3 with fail
  refine list_start (S := Gd w []) (unhide D) ?_
  clear D
  refine list_read (v := .int .i64 x) rfl rfl (fun u hS => by go_simp) ?_
  try go_simp
  refine list_call (v := .int .i64 v) (f := 102) (args := #[.int .i64 4294967296, .int .i64 x, .bool false]) rfl rfl (fun u hS => by go_simp) (fun u hS => (unhide h0 u).mono fun _ _ ⟨he, hb⟩ => ⟨he, hS.keep hb⟩) ?_
  try go_simp
  refine list_read (v := .int .i64 v) rfl rfl (fun u hS => by go_simp) ?_
  try go_simp
  refine list_end (fun u3 hS => ?_)
  have D := hide hS
  clear hS
  go_wp2
  go_ret
  exact ⟨rfl, (unhide D).g.o⟩
theorem BackR (x : Int) (hx : I64 x) : Ans 57 #[.int .i64 x] (.int .i64 (bkI x)) := fun w => by
  unfold bkI
  by_cases h : x ≤ 0
  · rw [if_pos h]; exact rback_0 x w (decide_eq_true h)
  · rw [if_neg h]; exact rback_1 x _ w (decide_eq_false h) (DivR 4294967296 x false ⟨by decide, by decide⟩ hx)
set_option maxHeartbeats 4000000 in
theorem rBack_core (m x y z a0 a1 a2 a3 : Int) (w : World) (h0 : Hid (Ans 57 #[.int .i64 m] (.int .i64 a0))) (h1 : Hid (Ans 57 #[.int .i64 x] (.int .i64 a1))) (h2 : Hid (Ans 57 #[.int .i64 y] (.int .i64 a2))) (h3 : Hid (Ans 57 #[.int .i64 z] (.int .i64 a3))) : Calls Tryz.prog 32 #[.agg (ms m x y z)] w fun e w' => e = .returned (.agg (ms a0 a1 a2 a3)) ∧ Below w.heap.size w w' := by
  go_enter Tryz.func32, Tryz.ntmps32
  go_upto_region 1 with fail
  have D := hide ((((Gd.start w).push 46 (ms m x y z)).push 46 (ms 0 0 0 0)))
  simp only [szA] at D
  refine region_allocs (S := Gd w [(w.heap.size + 1, 46, ms 0 0 0 0), (w.heap.size, 46, ms m x y z)]) (t := 0) (z := #[]) (base := w.heap.size) (l := [0, 1, 2, 3, 4, 5, 6, 7, 8, 9, 10, 11, 12, 13, 14, 15, 16]) (A := []) (T := [17]) (by kernel_rfl) (by kernel_rfl) (by kernel_rfl) (by kernel_rfl) (by kernel_rfl) (by kernel_rfl) (by kernel_rfl) (by kernel_rfl) (by kernel_rfl) (by kernel_rfl) (fun i hi => by cases hi) (fun _ _ h hb => h.keep hb) (fun _ h => h.g.o.size) (unhide D).drew ?_
  clear D
  refine planB_read (v := .pointer (some ⟨w.heap.size, 0, none⟩)) rfl rfl (fun u hS => by go_simp) ?_
  try go_simp
  refine planB_read (v := .int .i64 m) rfl rfl (fun u hS => exec_loadN_Fix (g := w.heap.size) (t := 46) (cs := ms m x y z) hS.g _ rfl rfl (by repeat (first | exact List.mem_cons_self | apply List.mem_cons_of_mem)) rfl) ?_
  try go_simp
  refine planB_call (v := .int .i64 a0) (f := 57) (args := #[.int .i64 m]) rfl rfl (fun u hS => by go_simp) (fun u hS => (unhide h0 u).mono fun _ _ ⟨he, hb⟩ => ⟨he, hS.keep hb, hb⟩) ?_
  try go_simp
  refine planB_read (v := .pointer (some ⟨w.heap.size, 1, none⟩)) rfl rfl (fun u hS => by go_simp) ?_
  try go_simp
  refine planB_read (v := .pointer (some ⟨w.heap.size, 1, none⟩)) rfl rfl (fun u hS => by go_simp) ?_
  try go_simp
  refine planB_read (v := .int .i64 x) rfl rfl (fun u hS => exec_loadN_Fix (g := w.heap.size) (t := 46) (cs := ms m x y z) hS.g _ rfl rfl (by repeat (first | exact List.mem_cons_self | apply List.mem_cons_of_mem)) rfl) ?_
  try go_simp
  refine planB_call (v := .int .i64 a1) (f := 57) (args := #[.int .i64 x]) rfl rfl (fun u hS => by go_simp) (fun u hS => (unhide h1 u).mono fun _ _ ⟨he, hb⟩ => ⟨he, hS.keep hb, hb⟩) ?_
  try go_simp
  refine planB_read (v := .pointer (some ⟨w.heap.size, 1, none⟩)) rfl rfl (fun u hS => by go_simp) ?_
  try go_simp
  refine planB_read (v := .pointer (some ⟨w.heap.size, 2, none⟩)) rfl rfl (fun u hS => by go_simp) ?_
  try go_simp
  refine planB_read (v := .int .i64 y) rfl rfl (fun u hS => exec_loadN_Fix (g := w.heap.size) (t := 46) (cs := ms m x y z) hS.g _ rfl rfl (by repeat (first | exact List.mem_cons_self | apply List.mem_cons_of_mem)) rfl) ?_
  try go_simp
  refine planB_call (v := .int .i64 a2) (f := 57) (args := #[.int .i64 y]) rfl rfl (fun u hS => by go_simp) (fun u hS => (unhide h2 u).mono fun _ _ ⟨he, hb⟩ => ⟨he, hS.keep hb, hb⟩) ?_
  try go_simp
  refine planB_read (v := .pointer (some ⟨w.heap.size, 1, none⟩)) rfl rfl (fun u hS => by go_simp) ?_
  try go_simp
  refine planB_read (v := .pointer (some ⟨w.heap.size, 3, none⟩)) rfl rfl (fun u hS => by go_simp) ?_
  try go_simp
  refine planB_read (v := .int .i64 z) rfl rfl (fun u hS => exec_loadN_Fix (g := w.heap.size) (t := 46) (cs := ms m x y z) hS.g _ rfl rfl (by repeat (first | exact List.mem_cons_self | apply List.mem_cons_of_mem)) rfl) ?_
  try go_simp
  refine planB_call (v := .int .i64 a3) (f := 57) (args := #[.int .i64 z]) rfl rfl (fun u hS => by go_simp) (fun u hS => (unhide h3 u).mono fun _ _ ⟨he, hb⟩ => ⟨he, hS.keep hb, hb⟩) ?_
  try go_simp
  refine planB_read (v := .agg (v3 a1 a2 a3)) rfl rfl (fun u hS => by go_simp) ?_
  try go_simp
  refine planB_read (v := .agg (ms a0 a1 a2 a3)) rfl rfl (fun u hS => by go_simp) ?_
  try go_simp
  refine planB_tail (fun cc u hS hB hI => ?_)
  clear hB hI
  simp only [pa, opsOf]
  refine list_go hS ?_
  clear hS
  refine list_store (l1 := []) (l2 := [(w.heap.size, 46, ms m x y z)]) (l' := [(w.heap.size + 1, 46, ms a0 a1 a2 a3), (w.heap.size, 46, ms m x y z)]) (g := w.heap.size + 1) (old := ms 0 0 0 0) (cs := ms a0 a1 a2 a3) (.tmp 2) (.tmp 19) rfl rfl rfl rfl rfl rfl rMass rfl rfl (ms_one _ _ _ _) (by omega) ?_
  try go_simp
  refine list_end (fun u1 hS => ?_)
  have D := hide hS
  clear hS
  go_wp2
  exact resG rMass ((unhide D).g.blk (g := w.heap.size + 1) (t := 46) (cs := ms a0 a1 a2 a3) (by repeat (first | exact List.mem_cons_self | apply List.mem_cons_of_mem))) rfl rfl rfl rfl ⟨rfl, (unhide D).g.o⟩
theorem MassBackR (m x y z : Int) (hm : I64 m) (hx : I64 x) (hy : I64 y) (hz : I64 z) : Ans 32 #[.agg (ms m x y z)] (.agg (ms (bkI m) (bkI x) (bkI y) (bkI z))) := fun w => rBack_core m x y z _ _ _ _ w (BackR m hm) (BackR x hx) (BackR y hy) (BackR z hz)
set_option maxHeartbeats 4000000 in
theorem massBackL (m x y z a0 a1 a2 a3 : Int) (w : World) (h0 : Hid (Ans 31 #[.agg (ms m x y z)] (.agg (ms a0 a1 a2 a3)))) (h1 : Hid (Ans 32 #[.agg (ms m x y z)] (.agg (ms a0 a1 a2 a3)))) (e0 : Hid (sameM4 a0 a1 a2 a3 a0 a1 a2 a3 = true)) (h2 : Hid (Ans 28 #[] (.bool true))) : Calls Tryz.prog 10 #[.agg (ms m x y z)] w fun e w' => e = .returned (.bool true) ∧ Below w.heap.size w w' := by
  go_enter Tryz.func10, Tryz.ntmps10
  go_upto_region 1 with fail
  have D := hide (((Gd.start w).push 46 (ms m x y z)))
  refine region_plan (S := Gd w [(w.heap.size, 46, ms m x y z)]) (l := [0, 1, 2, 3, 4, 5, 6, 7, 8]) (by kernel_rfl) (by kernel_rfl) (by kernel_rfl) (by kernel_rfl) (by kernel_rfl) (by kernel_rfl) (by kernel_rfl) (unhide D).drew ?_
  clear D
  refine plan_read (v := .agg (ms m x y z)) rfl rfl (fun u hS => exec_loadG (g := w.heap.size) (t := 46) (cs := ms m x y z) hS.g rMass _ rfl rfl (by repeat (first | exact List.mem_cons_self | apply List.mem_cons_of_mem)) rfl) ?_
  try go_simp
  refine plan_call (v := .agg (ms a0 a1 a2 a3)) (f := 31) (args := #[.agg (ms m x y z)]) rfl rfl (fun u hS => by go_simp) (fun u hS => (unhide h0 u).mono fun _ _ ⟨he, hb⟩ => ⟨he, hS.keep hb⟩) ?_
  try go_simp
  refine plan_read (v := .agg (ms m x y z)) rfl rfl (fun u hS => exec_loadG (g := w.heap.size) (t := 46) (cs := ms m x y z) hS.g rMass _ rfl rfl (by repeat (first | exact List.mem_cons_self | apply List.mem_cons_of_mem)) rfl) ?_
  try go_simp
  refine plan_call (v := .agg (ms a0 a1 a2 a3)) (f := 32) (args := #[.agg (ms m x y z)]) rfl rfl (fun u hS => by go_simp) (fun u hS => (unhide h1 u).mono fun _ _ ⟨he, hb⟩ => ⟨he, hS.keep hb⟩) ?_
  try go_simp
  refine plan_read (v := .bool true) rfl rfl (fun u hS => exec_eql_mass (s := true) _ _ _ (unhide e0) rfl rfl rfl) ?_
  try go_simp
  refine plan_read (v := .bool true) rfl rfl (fun u hS => by go_simp) ?_
  try go_simp
  refine plan_call (v := .bool true) (f := 28) (args := #[]) rfl rfl (fun u hS => by go_simp) (fun u hS => (unhide h2 u).mono fun _ _ ⟨he, hb⟩ => ⟨he, hS.keep hb⟩) ?_
  try go_simp
  refine plan_read (v := .bool true) rfl rfl (fun u hS => by go_simp) ?_
  try go_simp
  refine plan_read (v := .bool true) rfl rfl (fun u hS => by go_simp) ?_
  try go_simp
  refine plan_end (fun u1 hS => ?_)
  have D := hide hS
  clear hS
  go_wp2
  go_ret
  exact ⟨rfl, (unhide D).g.o⟩
theorem massBack_walk (m x y z : Int) (h : I64 m ∧ I64 x ∧ I64 y ∧ I64 z) (w : World) : Calls Tryz.prog 10 #[.agg (ms m x y z)] w fun e w' => e = .returned (.bool true) ∧ Below w.heap.size w w' :=
  massBackL m x y z _ _ _ _ w (MassBackZ m x y z h.1 h.2.1 h.2.2.1 h.2.2.2) (MassBackR m x y z h.1 h.2.1 h.2.2.1 h.2.2.2) (sameM4_self _ _ _ _) awake10Z

end Go.Proofs.YtnemedgdhojhdaaGreat
