/- The law MassSides. -/
import Derived.Test.YtnemedgdhojhdaaGreatIg
import Derived.Test.YtnemedgdhojhdaaGreatIk
namespace Go.Proofs.YtnemedgdhojhdaaGreat
open Go.RowKit
set_option maxRecDepth 4000
set_option linter.unusedVariables false

set_option maxHeartbeats 4000000 in
theorem sides_a (kd rr x y z : Int) (A : Option Addr) (n cp : Nat) (m1 m2 : Int) (w : World) (e0 : Hid (decide ((100 : Int) < n) = true)) (h0 : Hid (Ans 28 #[] (.bool true))) : Calls Tryz.prog 11 #[.agg (sh kd rr x y z A n cp), .int .i64 m1, .int .i64 m2] w fun e w' => e = .returned (.bool true) ∧ Below w.heap.size w w' := by
  go_enter Tryz.func11, Tryz.ntmps11
  go_upto_region 1 with fail
  have D := hide (((Gd.start w).push 27 (sh kd rr x y z A n cp)))
  refine list_start (S := Gd w [(w.heap.size, 27, sh kd rr x y z A n cp)]) (unhide D) ?_
  clear D
  refine list_read (v := .pointer (some ⟨w.heap.size, 5, none⟩)) rfl rfl (fun u hS => by go_simp) ?_
  try go_simp
  refine list_read (v := .slice A n cp) rfl rfl (fun u hS => exec_loadV_Vecs (g := w.heap.size) (t := 27) (cs := sh kd rr x y z A n cp) hS.g _ rfl rfl (by repeat (first | exact List.mem_cons_self | apply List.mem_cons_of_mem)) rfl) ?_
  try go_simp
  refine list_read (v := .int .i64 n) rfl rfl (fun u hS => by go_simp) ?_
  try go_simp
  refine list_read (v := .bool true) rfl rfl (fun u hS => exec_gtrS _ _ (unhide e0) rfl rfl rfl) ?_
  try go_simp
  refine list_end (fun u1 hS => ?_)
  have D := hide hS
  clear hS
  go_upto_region 2 with fail
  refine list_start (S := Gd w [(w.heap.size, 27, sh kd rr x y z A n cp)]) (unhide D) ?_
  clear D
  refine list_call (v := .bool true) (f := 28) (args := #[]) rfl rfl (fun u hS => by go_simp) (fun u hS => (unhide h0 u).mono fun _ _ ⟨he, hb⟩ => ⟨he, hS.keep hb⟩) ?_
  try go_simp
  refine list_read (v := .bool true) rfl rfl (fun u hS => by go_simp) ?_
  try go_simp
  refine list_end (fun u2 hS => ?_)
  have D := hide hS
  clear hS
  go_wp2
  go_ret
  exact ⟨rfl, (unhide D).g.o⟩
set_option maxHeartbeats 4000000 in
theorem sides_b (kd rr x y z : Int) (A : Option Addr) (n cp : Nat) (m1 m2 : Int) (E b0 b1 b2 b3 : Int) (w : World) (e0 : Hid (decide ((100 : Int) < n) = false)) (h0 : Hid (∀ u, Below w.heap.size w u → Calls Tryz.prog 29 #[.agg (sh kd rr x y z A n cp), .int .i64 (mn2 m1 m2)] u fun e w' => e = .returned (.tuple #[.agg (ms 0 0 0 0), .int .i64 E]) ∧ Below u.heap.size u w')) (h1 : Hid (∀ u, Below w.heap.size w u → Calls Tryz.prog 29 #[.agg (sh kd rr x y z A n cp), .int .i64 (mx2 m1 m2)] u fun e w' => e = .returned (.tuple #[.agg (ms b0 b1 b2 b3), .int .i64 0]) ∧ Below u.heap.size u w')) (e1 : Hid (decide ((E : Int) = 0) = false)) (e2 : Hid (decide ((E : Int) = 0) = false)) (e3 : Hid (sameM4 0 0 0 0 0 0 0 0 = true)) (h2 : Hid (Ans 28 #[] (.bool true))) : Calls Tryz.prog 11 #[.agg (sh kd rr x y z A n cp), .int .i64 m1, .int .i64 m2] w fun e w' => e = .returned (.bool true) ∧ Below w.heap.size w w' := by
  go_enter Tryz.func11, Tryz.ntmps11
  go_upto_region 1 with fail
  have D := hide (((Gd.start w).push 27 (sh kd rr x y z A n cp)))
  refine list_start (S := Gd w [(w.heap.size, 27, sh kd rr x y z A n cp)]) (unhide D) ?_
  clear D
  refine list_read (v := .pointer (some ⟨w.heap.size, 5, none⟩)) rfl rfl (fun u hS => by go_simp) ?_
  try go_simp
  refine list_read (v := .slice A n cp) rfl rfl (fun u hS => exec_loadV_Vecs (g := w.heap.size) (t := 27) (cs := sh kd rr x y z A n cp) hS.g _ rfl rfl (by repeat (first | exact List.mem_cons_self | apply List.mem_cons_of_mem)) rfl) ?_
  try go_simp
  refine list_read (v := .int .i64 n) rfl rfl (fun u hS => by go_simp) ?_
  try go_simp
  refine list_read (v := .bool false) rfl rfl (fun u hS => exec_gtrS _ _ (unhide e0) rfl rfl rfl) ?_
  try go_simp
  refine list_end (fun u1 hS => ?_)
  have D := hide hS
  clear hS
  go_upto_region 3 with fail
  refine list_start (S := Gd w [(w.heap.size, 27, sh kd rr x y z A n cp)]) (unhide D) ?_
  clear D
  refine list_read (v := .agg (sh kd rr x y z A n cp)) rfl rfl (fun u hS => exec_loadG (g := w.heap.size) (t := 27) (cs := sh kd rr x y z A n cp) hS.g rShape _ rfl rfl (by repeat (first | exact List.mem_cons_self | apply List.mem_cons_of_mem)) rfl) ?_
  try go_simp
  refine list_read (v := .int .i64 m1) rfl rfl (fun u hS => by go_simp) ?_
  try go_simp
  refine list_read (v := .int .i64 m2) rfl rfl (fun u hS => by go_simp) ?_
  try go_simp
  refine list_read (v := .int .i64 (mn2 m1 m2)) rfl rfl (fun u hS => exec_mn2 (.tmp 21) (.tmp 22) rfl rfl rfl) ?_
  try go_simp
  refine list_call (v := .tuple #[.agg (ms 0 0 0 0), .int .i64 E]) (f := 29) (args := #[.agg (sh kd rr x y z A n cp), .int .i64 (mn2 m1 m2)]) rfl rfl (fun u hS => by go_simp) (fun u hS => (unhide h0 u hS.g.o).mono fun _ _ ⟨he, hb⟩ => ⟨he, hS.keep hb⟩) ?_
  try go_simp
  refine list_read (v := .tuple #[.agg (ms 0 0 0 0), .int .i64 E]) rfl rfl (fun u hS => by go_simp) ?_
  try go_simp
  refine list_read (v := .agg (ms 0 0 0 0)) rfl rfl (fun u hS => by go_simp) ?_
  try go_simp
  refine list_read (v := .int .i64 E) rfl rfl (fun u hS => by go_simp) ?_
  try go_simp
  refine list_new (z := ms 0 0 0 0) (ty := 46) (v := fun g => .pointer (some ⟨g, 0, none⟩)) rfl rfl (fun u => by go_simp) (fun g1 hgg1 => ?_)
  try go_simp
  refine list_store (l1 := []) (l2 := [(w.heap.size, 27, sh kd rr x y z A n cp)]) (l' := [(g1, 46, ms 0 0 0 0), (w.heap.size, 27, sh kd rr x y z A n cp)]) (g := g1) (old := ms 0 0 0 0) (cs := ms 0 0 0 0) (.tmp 7) (.tmp 25) rfl rfl rfl rfl rfl rfl rMass rfl rfl (ms_one _ _ _ _) hgg1 ?_
  try go_simp
  refine list_read (v := .int .i64 E) rfl rfl (fun u hS => by go_simp) ?_
  try go_simp
  refine list_end (fun u3 hS => ?_)
  have D := hide hS
  clear hS
  go_upto_region 4 with fail
  refine list_start (S := Gd w [(g1, 46, ms 0 0 0 0), (w.heap.size, 27, sh kd rr x y z A n cp)]) (unhide D) ?_
  clear D
  refine list_read (v := .agg (sh kd rr x y z A n cp)) rfl rfl (fun u hS => exec_loadG (g := w.heap.size) (t := 27) (cs := sh kd rr x y z A n cp) hS.g rShape _ rfl rfl (by repeat (first | exact List.mem_cons_self | apply List.mem_cons_of_mem)) rfl) ?_
  try go_simp
  refine list_read (v := .int .i64 m1) rfl rfl (fun u hS => by go_simp) ?_
  try go_simp
  refine list_read (v := .int .i64 m2) rfl rfl (fun u hS => by go_simp) ?_
  try go_simp
  refine list_read (v := .int .i64 (mx2 m1 m2)) rfl rfl (fun u hS => exec_mx2 (.tmp 29) (.tmp 30) rfl rfl rfl) ?_
  try go_simp
  refine list_call (v := .tuple #[.agg (ms b0 b1 b2 b3), .int .i64 0]) (f := 29) (args := #[.agg (sh kd rr x y z A n cp), .int .i64 (mx2 m1 m2)]) rfl rfl (fun u hS => by go_simp) (fun u hS => (unhide h1 u hS.g.o).mono fun _ _ ⟨he, hb⟩ => ⟨he, hS.keep hb⟩) ?_
  try go_simp
  refine list_read (v := .tuple #[.agg (ms b0 b1 b2 b3), .int .i64 0]) rfl rfl (fun u hS => by go_simp) ?_
  try go_simp
  refine list_read (v := .agg (ms b0 b1 b2 b3)) rfl rfl (fun u hS => by go_simp) ?_
  try go_simp
  refine list_read (v := .int .i64 0) rfl rfl (fun u hS => by go_simp) ?_
  try go_simp
  refine list_new (z := ms 0 0 0 0) (ty := 46) (v := fun g => .pointer (some ⟨g, 0, none⟩)) rfl rfl (fun u => by go_simp) (fun g2 hgg2 => ?_)
  try go_simp
  refine list_store (l1 := []) (l2 := [(g1, 46, ms 0 0 0 0), (w.heap.size, 27, sh kd rr x y z A n cp)]) (l' := [(g2, 46, ms b0 b1 b2 b3), (g1, 46, ms 0 0 0 0), (w.heap.size, 27, sh kd rr x y z A n cp)]) (g := g2) (old := ms 0 0 0 0) (cs := ms b0 b1 b2 b3) (.tmp 9) (.tmp 33) rfl rfl rfl rfl rfl rfl rMass rfl rfl (ms_one _ _ _ _) hgg2 ?_
  try go_simp
  refine list_read (v := .int .i64 0) rfl rfl (fun u hS => by go_simp) ?_
  try go_simp
  refine list_end (fun u4 hS => ?_)
  have D := hide hS
  clear hS
  go_upto_region 5 with fail
  refine list_start (S := Gd w [(g2, 46, ms b0 b1 b2 b3), (g1, 46, ms 0 0 0 0), (w.heap.size, 27, sh kd rr x y z A n cp)]) (unhide D) ?_
  clear D
  refine list_read (v := .int .i64 E) rfl rfl (fun u hS => by go_simp) ?_
  try go_simp
  refine list_read (v := .bool true) rfl rfl (fun u hS => exec_neqS _ _ (unhide e1) rfl rfl rfl) ?_
  try go_simp
  refine list_read (v := .bool true) rfl rfl (fun u hS => by go_simp) ?_
  try go_simp
  refine list_skip ?_ ?_ ?_
  · rfl
  · rfl
  try go_simp
  refine list_skip ?_ ?_ ?_
  · rfl
  · rfl
  try go_simp
  refine list_read (v := .bool true) rfl rfl (fun u hS => by go_simp) ?_
  try go_simp
  refine list_end (fun u5 hS => ?_)
  have D := hide hS
  clear hS
  go_upto_region 6 with fail
  refine list_start (S := Gd w [(g2, 46, ms b0 b1 b2 b3), (g1, 46, ms 0 0 0 0), (w.heap.size, 27, sh kd rr x y z A n cp)]) (unhide D) ?_
  clear D
  refine list_read (v := .int .i64 E) rfl rfl (fun u hS => by go_simp) ?_
  try go_simp
  refine list_read (v := .bool false) rfl rfl (fun u hS => exec_eqlS _ _ (unhide e2) rfl rfl rfl) ?_
  try go_simp
  refine list_read (v := .bool false) rfl rfl (fun u hS => by go_simp) ?_
  try go_simp
  refine list_read (v := .agg (ms 0 0 0 0)) rfl rfl (fun u hS => exec_loadG (g := g1) (t := 46) (cs := ms 0 0 0 0) hS.g rMass _ rfl rfl (by repeat (first | exact List.mem_cons_self | apply List.mem_cons_of_mem)) rfl) ?_
  try go_simp
  refine list_read (v := .agg (ms 0 0 0 0)) rfl rfl (fun u hS => by go_simp) ?_
  try go_simp
  refine list_read (v := .bool true) rfl rfl (fun u hS => exec_eql_mass (s := true) _ _ _ (unhide e3) rfl rfl rfl) ?_
  try go_simp
  refine list_read (v := .bool true) rfl rfl (fun u hS => by go_simp) ?_
  try go_simp
  refine list_read (v := .bool true) rfl rfl (fun u hS => by go_simp) ?_
  try go_simp
  refine list_read (v := .int .i64 0) rfl rfl (fun u hS => by go_simp) ?_
  try go_simp
  refine list_read (v := .bool true) rfl rfl (fun u hS => by go_simp) ?_
  try go_simp
  refine list_read (v := .bool true) rfl rfl (fun u hS => by go_simp) ?_
  try go_simp
  refine list_skip ?_ ?_ ?_
  · rfl
  · rfl
  try go_simp
  refine list_skip ?_ ?_ ?_
  · rfl
  · rfl
  try go_simp
  refine list_skip ?_ ?_ ?_
  · rfl
  · rfl
  try go_simp
  refine list_read (v := .bool true) rfl rfl (fun u hS => by go_simp) ?_
  try go_simp
  refine list_read (v := .bool true) rfl rfl (fun u hS => by go_simp) ?_
  try go_simp
  refine list_read (v := .bool true) rfl rfl (fun u hS => by go_simp) ?_
  try go_simp
  refine list_call (v := .bool true) (f := 28) (args := #[]) rfl rfl (fun u hS => by go_simp) (fun u hS => (unhide h2 u).mono fun _ _ ⟨he, hb⟩ => ⟨he, hS.keep hb⟩) ?_
  try go_simp
  refine list_read (v := .bool true) rfl rfl (fun u hS => by go_simp) ?_
  try go_simp
  refine list_read (v := .bool true) rfl rfl (fun u hS => by go_simp) ?_
  try go_simp
  refine list_end (fun u6 hS => ?_)
  have D := hide hS
  clear hS
  go_wp2
  go_ret
  exact ⟨rfl, (unhide D).g.o⟩
set_option maxHeartbeats 4000000 in
theorem sides_c (kd rr x y z : Int) (A : Option Addr) (n cp : Nat) (m1 m2 : Int) (E G : Int) (w : World) (e0 : Hid (decide ((100 : Int) < n) = false)) (h0 : Hid (∀ u, Below w.heap.size w u → Calls Tryz.prog 29 #[.agg (sh kd rr x y z A n cp), .int .i64 (mn2 m1 m2)] u fun e w' => e = .returned (.tuple #[.agg (ms 0 0 0 0), .int .i64 E]) ∧ Below u.heap.size u w')) (h1 : Hid (∀ u, Below w.heap.size w u → Calls Tryz.prog 29 #[.agg (sh kd rr x y z A n cp), .int .i64 (mx2 m1 m2)] u fun e w' => e = .returned (.tuple #[.agg (ms 0 0 0 0), .int .i64 G]) ∧ Below u.heap.size u w')) (e1 : Hid (decide ((E : Int) = 0) = false)) (e2 : Hid (decide ((E : Int) = 0) = false)) (e3 : Hid (sameM4 0 0 0 0 0 0 0 0 = true)) (e4 : Hid (decide ((G : Int) = 0) = false)) (h2 : Hid (Ans 28 #[] (.bool true))) : Calls Tryz.prog 11 #[.agg (sh kd rr x y z A n cp), .int .i64 m1, .int .i64 m2] w fun e w' => e = .returned (.bool true) ∧ Below w.heap.size w w' := by
  go_enter Tryz.func11, Tryz.ntmps11
  go_upto_region 1 with fail
  have D := hide (((Gd.start w).push 27 (sh kd rr x y z A n cp)))
  refine list_start (S := Gd w [(w.heap.size, 27, sh kd rr x y z A n cp)]) (unhide D) ?_
  clear D
  refine list_read (v := .pointer (some ⟨w.heap.size, 5, none⟩)) rfl rfl (fun u hS => by go_simp) ?_
  try go_simp
  refine list_read (v := .slice A n cp) rfl rfl (fun u hS => exec_loadV_Vecs (g := w.heap.size) (t := 27) (cs := sh kd rr x y z A n cp) hS.g _ rfl rfl (by repeat (first | exact List.mem_cons_self | apply List.mem_cons_of_mem)) rfl) ?_
  try go_simp
  refine list_read (v := .int .i64 n) rfl rfl (fun u hS => by go_simp) ?_
  try go_simp
  refine list_read (v := .bool false) rfl rfl (fun u hS => exec_gtrS _ _ (unhide e0) rfl rfl rfl) ?_
  try go_simp
  refine list_end (fun u1 hS => ?_)
  have D := hide hS
  clear hS
  go_upto_region 3 with fail
  refine list_start (S := Gd w [(w.heap.size, 27, sh kd rr x y z A n cp)]) (unhide D) ?_
  clear D
  refine list_read (v := .agg (sh kd rr x y z A n cp)) rfl rfl (fun u hS => exec_loadG (g := w.heap.size) (t := 27) (cs := sh kd rr x y z A n cp) hS.g rShape _ rfl rfl (by repeat (first | exact List.mem_cons_self | apply List.mem_cons_of_mem)) rfl) ?_
  try go_simp
  refine list_read (v := .int .i64 m1) rfl rfl (fun u hS => by go_simp) ?_
  try go_simp
  refine list_read (v := .int .i64 m2) rfl rfl (fun u hS => by go_simp) ?_
  try go_simp
  refine list_read (v := .int .i64 (mn2 m1 m2)) rfl rfl (fun u hS => exec_mn2 (.tmp 21) (.tmp 22) rfl rfl rfl) ?_
  try go_simp
  refine list_call (v := .tuple #[.agg (ms 0 0 0 0), .int .i64 E]) (f := 29) (args := #[.agg (sh kd rr x y z A n cp), .int .i64 (mn2 m1 m2)]) rfl rfl (fun u hS => by go_simp) (fun u hS => (unhide h0 u hS.g.o).mono fun _ _ ⟨he, hb⟩ => ⟨he, hS.keep hb⟩) ?_
  try go_simp
  refine list_read (v := .tuple #[.agg (ms 0 0 0 0), .int .i64 E]) rfl rfl (fun u hS => by go_simp) ?_
  try go_simp
  refine list_read (v := .agg (ms 0 0 0 0)) rfl rfl (fun u hS => by go_simp) ?_
  try go_simp
  refine list_read (v := .int .i64 E) rfl rfl (fun u hS => by go_simp) ?_
  try go_simp
  refine list_new (z := ms 0 0 0 0) (ty := 46) (v := fun g => .pointer (some ⟨g, 0, none⟩)) rfl rfl (fun u => by go_simp) (fun g1 hgg1 => ?_)
  try go_simp
  refine list_store (l1 := []) (l2 := [(w.heap.size, 27, sh kd rr x y z A n cp)]) (l' := [(g1, 46, ms 0 0 0 0), (w.heap.size, 27, sh kd rr x y z A n cp)]) (g := g1) (old := ms 0 0 0 0) (cs := ms 0 0 0 0) (.tmp 7) (.tmp 25) rfl rfl rfl rfl rfl rfl rMass rfl rfl (ms_one _ _ _ _) hgg1 ?_
  try go_simp
  refine list_read (v := .int .i64 E) rfl rfl (fun u hS => by go_simp) ?_
  try go_simp
  refine list_end (fun u3 hS => ?_)
  have D := hide hS
  clear hS
  go_upto_region 4 with fail
  refine list_start (S := Gd w [(g1, 46, ms 0 0 0 0), (w.heap.size, 27, sh kd rr x y z A n cp)]) (unhide D) ?_
  clear D
  refine list_read (v := .agg (sh kd rr x y z A n cp)) rfl rfl (fun u hS => exec_loadG (g := w.heap.size) (t := 27) (cs := sh kd rr x y z A n cp) hS.g rShape _ rfl rfl (by repeat (first | exact List.mem_cons_self | apply List.mem_cons_of_mem)) rfl) ?_
  try go_simp
  refine list_read (v := .int .i64 m1) rfl rfl (fun u hS => by go_simp) ?_
  try go_simp
  refine list_read (v := .int .i64 m2) rfl rfl (fun u hS => by go_simp) ?_
  try go_simp
  refine list_read (v := .int .i64 (mx2 m1 m2)) rfl rfl (fun u hS => exec_mx2 (.tmp 29) (.tmp 30) rfl rfl rfl) ?_
  try go_simp
  refine list_call (v := .tuple #[.agg (ms 0 0 0 0), .int .i64 G]) (f := 29) (args := #[.agg (sh kd rr x y z A n cp), .int .i64 (mx2 m1 m2)]) rfl rfl (fun u hS => by go_simp) (fun u hS => (unhide h1 u hS.g.o).mono fun _ _ ⟨he, hb⟩ => ⟨he, hS.keep hb⟩) ?_
  try go_simp
  refine list_read (v := .tuple #[.agg (ms 0 0 0 0), .int .i64 G]) rfl rfl (fun u hS => by go_simp) ?_
  try go_simp
  refine list_read (v := .agg (ms 0 0 0 0)) rfl rfl (fun u hS => by go_simp) ?_
  try go_simp
  refine list_read (v := .int .i64 G) rfl rfl (fun u hS => by go_simp) ?_
  try go_simp
  refine list_new (z := ms 0 0 0 0) (ty := 46) (v := fun g => .pointer (some ⟨g, 0, none⟩)) rfl rfl (fun u => by go_simp) (fun g2 hgg2 => ?_)
  try go_simp
  refine list_store (l1 := []) (l2 := [(g1, 46, ms 0 0 0 0), (w.heap.size, 27, sh kd rr x y z A n cp)]) (l' := [(g2, 46, ms 0 0 0 0), (g1, 46, ms 0 0 0 0), (w.heap.size, 27, sh kd rr x y z A n cp)]) (g := g2) (old := ms 0 0 0 0) (cs := ms 0 0 0 0) (.tmp 9) (.tmp 33) rfl rfl rfl rfl rfl rfl rMass rfl rfl (ms_one _ _ _ _) hgg2 ?_
  try go_simp
  refine list_read (v := .int .i64 G) rfl rfl (fun u hS => by go_simp) ?_
  try go_simp
  refine list_end (fun u4 hS => ?_)
  have D := hide hS
  clear hS
  go_upto_region 5 with fail
  refine list_start (S := Gd w [(g2, 46, ms 0 0 0 0), (g1, 46, ms 0 0 0 0), (w.heap.size, 27, sh kd rr x y z A n cp)]) (unhide D) ?_
  clear D
  refine list_read (v := .int .i64 E) rfl rfl (fun u hS => by go_simp) ?_
  try go_simp
  refine list_read (v := .bool true) rfl rfl (fun u hS => exec_neqS _ _ (unhide e1) rfl rfl rfl) ?_
  try go_simp
  refine list_read (v := .bool true) rfl rfl (fun u hS => by go_simp) ?_
  try go_simp
  refine list_skip ?_ ?_ ?_
  · rfl
  · rfl
  try go_simp
  refine list_skip ?_ ?_ ?_
  · rfl
  · rfl
  try go_simp
  refine list_read (v := .bool true) rfl rfl (fun u hS => by go_simp) ?_
  try go_simp
  refine list_end (fun u5 hS => ?_)
  have D := hide hS
  clear hS
  go_upto_region 6 with fail
  refine list_start (S := Gd w [(g2, 46, ms 0 0 0 0), (g1, 46, ms 0 0 0 0), (w.heap.size, 27, sh kd rr x y z A n cp)]) (unhide D) ?_
  clear D
  refine list_read (v := .int .i64 E) rfl rfl (fun u hS => by go_simp) ?_
  try go_simp
  refine list_read (v := .bool false) rfl rfl (fun u hS => exec_eqlS _ _ (unhide e2) rfl rfl rfl) ?_
  try go_simp
  refine list_read (v := .bool false) rfl rfl (fun u hS => by go_simp) ?_
  try go_simp
  refine list_read (v := .agg (ms 0 0 0 0)) rfl rfl (fun u hS => exec_loadG (g := g1) (t := 46) (cs := ms 0 0 0 0) hS.g rMass _ rfl rfl (by repeat (first | exact List.mem_cons_self | apply List.mem_cons_of_mem)) rfl) ?_
  try go_simp
  refine list_read (v := .agg (ms 0 0 0 0)) rfl rfl (fun u hS => by go_simp) ?_
  try go_simp
  refine list_read (v := .bool true) rfl rfl (fun u hS => exec_eql_mass (s := true) _ _ _ (unhide e3) rfl rfl rfl) ?_
  try go_simp
  refine list_read (v := .bool true) rfl rfl (fun u hS => by go_simp) ?_
  try go_simp
  refine list_read (v := .bool true) rfl rfl (fun u hS => by go_simp) ?_
  try go_simp
  refine list_read (v := .int .i64 G) rfl rfl (fun u hS => by go_simp) ?_
  try go_simp
  refine list_read (v := .bool false) rfl rfl (fun u hS => exec_eqlS _ _ (unhide e4) rfl rfl rfl) ?_
  try go_simp
  refine list_read (v := .bool false) rfl rfl (fun u hS => by go_simp) ?_
  try go_simp
  refine list_read (v := .agg (ms 0 0 0 0)) rfl rfl (fun u hS => exec_loadG (g := g2) (t := 46) (cs := ms 0 0 0 0) hS.g rMass _ rfl rfl (by repeat (first | exact List.mem_cons_self | apply List.mem_cons_of_mem)) rfl) ?_
  try go_simp
  refine list_read (v := .agg (ms 0 0 0 0)) rfl rfl (fun u hS => by go_simp) ?_
  try go_simp
  refine list_read (v := .bool true) rfl rfl (fun u hS => exec_eql_mass (s := true) _ _ _ (unhide e3) rfl rfl rfl) ?_
  try go_simp
  refine list_read (v := .bool true) rfl rfl (fun u hS => by go_simp) ?_
  try go_simp
  refine list_read (v := .bool true) rfl rfl (fun u hS => by go_simp) ?_
  try go_simp
  refine list_read (v := .bool true) rfl rfl (fun u hS => by go_simp) ?_
  try go_simp
  refine list_call (v := .bool true) (f := 28) (args := #[]) rfl rfl (fun u hS => by go_simp) (fun u hS => (unhide h2 u).mono fun _ _ ⟨he, hb⟩ => ⟨he, hS.keep hb⟩) ?_
  try go_simp
  refine list_read (v := .bool true) rfl rfl (fun u hS => by go_simp) ?_
  try go_simp
  refine list_read (v := .bool true) rfl rfl (fun u hS => by go_simp) ?_
  try go_simp
  refine list_end (fun u6 hS => ?_)
  have D := hide hS
  clear hS
  go_wp2
  go_ret
  exact ⟨rfl, (unhide D).g.o⟩
set_option maxHeartbeats 4000000 in
theorem sides_d (kd rr x y z : Int) (A : Option Addr) (n cp : Nat) (m1 m2 : Int) (G b0 b1 b2 b3 : Int) (w : World) (e0 : Hid (decide ((100 : Int) < n) = false)) (h0 : Hid (∀ u, Below w.heap.size w u → Calls Tryz.prog 29 #[.agg (sh kd rr x y z A n cp), .int .i64 (mn2 m1 m2)] u fun e w' => e = .returned (.tuple #[.agg (ms b0 b1 b2 b3), .int .i64 0]) ∧ Below u.heap.size u w')) (h1 : Hid (∀ u, Below w.heap.size w u → Calls Tryz.prog 29 #[.agg (sh kd rr x y z A n cp), .int .i64 (mx2 m1 m2)] u fun e w' => e = .returned (.tuple #[.agg (ms 0 0 0 0), .int .i64 G]) ∧ Below u.heap.size u w')) (e1 : Hid (decide ((G : Int) = 0) = false)) (e2 : Hid (decide ((G : Int) = 0) = false)) (e3 : Hid (sameM4 0 0 0 0 0 0 0 0 = true)) (h2 : Hid (Ans 28 #[] (.bool true))) : Calls Tryz.prog 11 #[.agg (sh kd rr x y z A n cp), .int .i64 m1, .int .i64 m2] w fun e w' => e = .returned (.bool true) ∧ Below w.heap.size w w' := by
  go_enter Tryz.func11, Tryz.ntmps11
  go_upto_region 1 with fail
  have D := hide (((Gd.start w).push 27 (sh kd rr x y z A n cp)))
  refine list_start (S := Gd w [(w.heap.size, 27, sh kd rr x y z A n cp)]) (unhide D) ?_
  clear D
  refine list_read (v := .pointer (some ⟨w.heap.size, 5, none⟩)) rfl rfl (fun u hS => by go_simp) ?_
  try go_simp
  refine list_read (v := .slice A n cp) rfl rfl (fun u hS => exec_loadV_Vecs (g := w.heap.size) (t := 27) (cs := sh kd rr x y z A n cp) hS.g _ rfl rfl (by repeat (first | exact List.mem_cons_self | apply List.mem_cons_of_mem)) rfl) ?_
  try go_simp
  refine list_read (v := .int .i64 n) rfl rfl (fun u hS => by go_simp) ?_
  try go_simp
  refine list_read (v := .bool false) rfl rfl (fun u hS => exec_gtrS _ _ (unhide e0) rfl rfl rfl) ?_
  try go_simp
  refine list_end (fun u1 hS => ?_)
  have D := hide hS
  clear hS
  go_upto_region 3 with fail
  refine list_start (S := Gd w [(w.heap.size, 27, sh kd rr x y z A n cp)]) (unhide D) ?_
  clear D
  refine list_read (v := .agg (sh kd rr x y z A n cp)) rfl rfl (fun u hS => exec_loadG (g := w.heap.size) (t := 27) (cs := sh kd rr x y z A n cp) hS.g rShape _ rfl rfl (by repeat (first | exact List.mem_cons_self | apply List.mem_cons_of_mem)) rfl) ?_
  try go_simp
  refine list_read (v := .int .i64 m1) rfl rfl (fun u hS => by go_simp) ?_
  try go_simp
  refine list_read (v := .int .i64 m2) rfl rfl (fun u hS => by go_simp) ?_
  try go_simp
  refine list_read (v := .int .i64 (mn2 m1 m2)) rfl rfl (fun u hS => exec_mn2 (.tmp 21) (.tmp 22) rfl rfl rfl) ?_
  try go_simp
  refine list_call (v := .tuple #[.agg (ms b0 b1 b2 b3), .int .i64 0]) (f := 29) (args := #[.agg (sh kd rr x y z A n cp), .int .i64 (mn2 m1 m2)]) rfl rfl (fun u hS => by go_simp) (fun u hS => (unhide h0 u hS.g.o).mono fun _ _ ⟨he, hb⟩ => ⟨he, hS.keep hb⟩) ?_
  try go_simp
  refine list_read (v := .tuple #[.agg (ms b0 b1 b2 b3), .int .i64 0]) rfl rfl (fun u hS => by go_simp) ?_
  try go_simp
  refine list_read (v := .agg (ms b0 b1 b2 b3)) rfl rfl (fun u hS => by go_simp) ?_
  try go_simp
  refine list_read (v := .int .i64 0) rfl rfl (fun u hS => by go_simp) ?_
  try go_simp
  refine list_new (z := ms 0 0 0 0) (ty := 46) (v := fun g => .pointer (some ⟨g, 0, none⟩)) rfl rfl (fun u => by go_simp) (fun g1 hgg1 => ?_)
  try go_simp
  refine list_store (l1 := []) (l2 := [(w.heap.size, 27, sh kd rr x y z A n cp)]) (l' := [(g1, 46, ms b0 b1 b2 b3), (w.heap.size, 27, sh kd rr x y z A n cp)]) (g := g1) (old := ms 0 0 0 0) (cs := ms b0 b1 b2 b3) (.tmp 7) (.tmp 25) rfl rfl rfl rfl rfl rfl rMass rfl rfl (ms_one _ _ _ _) hgg1 ?_
  try go_simp
  refine list_read (v := .int .i64 0) rfl rfl (fun u hS => by go_simp) ?_
  try go_simp
  refine list_end (fun u3 hS => ?_)
  have D := hide hS
  clear hS
  go_upto_region 4 with fail
  refine list_start (S := Gd w [(g1, 46, ms b0 b1 b2 b3), (w.heap.size, 27, sh kd rr x y z A n cp)]) (unhide D) ?_
  clear D
  refine list_read (v := .agg (sh kd rr x y z A n cp)) rfl rfl (fun u hS => exec_loadG (g := w.heap.size) (t := 27) (cs := sh kd rr x y z A n cp) hS.g rShape _ rfl rfl (by repeat (first | exact List.mem_cons_self | apply List.mem_cons_of_mem)) rfl) ?_
  try go_simp
  refine list_read (v := .int .i64 m1) rfl rfl (fun u hS => by go_simp) ?_
  try go_simp
  refine list_read (v := .int .i64 m2) rfl rfl (fun u hS => by go_simp) ?_
  try go_simp
  refine list_read (v := .int .i64 (mx2 m1 m2)) rfl rfl (fun u hS => exec_mx2 (.tmp 29) (.tmp 30) rfl rfl rfl) ?_
  try go_simp
  refine list_call (v := .tuple #[.agg (ms 0 0 0 0), .int .i64 G]) (f := 29) (args := #[.agg (sh kd rr x y z A n cp), .int .i64 (mx2 m1 m2)]) rfl rfl (fun u hS => by go_simp) (fun u hS => (unhide h1 u hS.g.o).mono fun _ _ ⟨he, hb⟩ => ⟨he, hS.keep hb⟩) ?_
  try go_simp
  refine list_read (v := .tuple #[.agg (ms 0 0 0 0), .int .i64 G]) rfl rfl (fun u hS => by go_simp) ?_
  try go_simp
  refine list_read (v := .agg (ms 0 0 0 0)) rfl rfl (fun u hS => by go_simp) ?_
  try go_simp
  refine list_read (v := .int .i64 G) rfl rfl (fun u hS => by go_simp) ?_
  try go_simp
  refine list_new (z := ms 0 0 0 0) (ty := 46) (v := fun g => .pointer (some ⟨g, 0, none⟩)) rfl rfl (fun u => by go_simp) (fun g2 hgg2 => ?_)
  try go_simp
  refine list_store (l1 := []) (l2 := [(g1, 46, ms b0 b1 b2 b3), (w.heap.size, 27, sh kd rr x y z A n cp)]) (l' := [(g2, 46, ms 0 0 0 0), (g1, 46, ms b0 b1 b2 b3), (w.heap.size, 27, sh kd rr x y z A n cp)]) (g := g2) (old := ms 0 0 0 0) (cs := ms 0 0 0 0) (.tmp 9) (.tmp 33) rfl rfl rfl rfl rfl rfl rMass rfl rfl (ms_one _ _ _ _) hgg2 ?_
  try go_simp
  refine list_read (v := .int .i64 G) rfl rfl (fun u hS => by go_simp) ?_
  try go_simp
  refine list_end (fun u4 hS => ?_)
  have D := hide hS
  clear hS
  go_upto_region 5 with fail
  refine list_start (S := Gd w [(g2, 46, ms 0 0 0 0), (g1, 46, ms b0 b1 b2 b3), (w.heap.size, 27, sh kd rr x y z A n cp)]) (unhide D) ?_
  clear D
  refine list_read (v := .int .i64 0) rfl rfl (fun u hS => by go_simp) ?_
  try go_simp
  refine list_read (v := .bool false) rfl rfl (fun u hS => by go_simp) ?_
  try go_simp
  refine list_read (v := .bool false) rfl rfl (fun u hS => by go_simp) ?_
  try go_simp
  refine list_read (v := .int .i64 G) rfl rfl (fun u hS => by go_simp) ?_
  try go_simp
  refine list_read (v := .bool true) rfl rfl (fun u hS => exec_neqS _ _ (unhide e1) rfl rfl rfl) ?_
  try go_simp
  refine list_read (v := .bool true) rfl rfl (fun u hS => by go_simp) ?_
  try go_simp
  refine list_end (fun u5 hS => ?_)
  have D := hide hS
  clear hS
  go_upto_region 6 with fail
  refine list_start (S := Gd w [(g2, 46, ms 0 0 0 0), (g1, 46, ms b0 b1 b2 b3), (w.heap.size, 27, sh kd rr x y z A n cp)]) (unhide D) ?_
  clear D
  refine list_read (v := .int .i64 0) rfl rfl (fun u hS => by go_simp) ?_
  try go_simp
  refine list_read (v := .bool true) rfl rfl (fun u hS => by go_simp) ?_
  try go_simp
  refine list_read (v := .bool true) rfl rfl (fun u hS => by go_simp) ?_
  try go_simp
  refine list_skip ?_ ?_ ?_
  · rfl
  · rfl
  try go_simp
  refine list_skip ?_ ?_ ?_
  · rfl
  · rfl
  try go_simp
  refine list_skip ?_ ?_ ?_
  · rfl
  · rfl
  try go_simp
  refine list_read (v := .bool true) rfl rfl (fun u hS => by go_simp) ?_
  try go_simp
  refine list_read (v := .bool true) rfl rfl (fun u hS => by go_simp) ?_
  try go_simp
  refine list_read (v := .int .i64 G) rfl rfl (fun u hS => by go_simp) ?_
  try go_simp
  refine list_read (v := .bool false) rfl rfl (fun u hS => exec_eqlS _ _ (unhide e2) rfl rfl rfl) ?_
  try go_simp
  refine list_read (v := .bool false) rfl rfl (fun u hS => by go_simp) ?_
  try go_simp
  refine list_read (v := .agg (ms 0 0 0 0)) rfl rfl (fun u hS => exec_loadG (g := g2) (t := 46) (cs := ms 0 0 0 0) hS.g rMass _ rfl rfl (by repeat (first | exact List.mem_cons_self | apply List.mem_cons_of_mem)) rfl) ?_
  try go_simp
  refine list_read (v := .agg (ms 0 0 0 0)) rfl rfl (fun u hS => by go_simp) ?_
  try go_simp
  refine list_read (v := .bool true) rfl rfl (fun u hS => exec_eql_mass (s := true) _ _ _ (unhide e3) rfl rfl rfl) ?_
  try go_simp
  refine list_read (v := .bool true) rfl rfl (fun u hS => by go_simp) ?_
  try go_simp
  refine list_read (v := .bool true) rfl rfl (fun u hS => by go_simp) ?_
  try go_simp
  refine list_read (v := .bool true) rfl rfl (fun u hS => by go_simp) ?_
  try go_simp
  refine list_call (v := .bool true) (f := 28) (args := #[]) rfl rfl (fun u hS => by go_simp) (fun u hS => (unhide h2 u).mono fun _ _ ⟨he, hb⟩ => ⟨he, hS.keep hb⟩) ?_
  try go_simp
  refine list_read (v := .bool true) rfl rfl (fun u hS => by go_simp) ?_
  try go_simp
  refine list_read (v := .bool true) rfl rfl (fun u hS => by go_simp) ?_
  try go_simp
  refine list_end (fun u6 hS => ?_)
  have D := hide hS
  clear hS
  go_wp2
  go_ret
  exact ⟨rfl, (unhide D).g.o⟩
set_option maxHeartbeats 16000000 in
theorem sides_e (kd rr x y z : Int) (A : Option Addr) (n cp : Nat) (m1 m2 : Int) (b0 b1 b2 b3 k0 k1 k2 k3 s1 s2 s3 s4 s5 s6 : Int) (w : World) (e0 : Hid (decide ((100 : Int) < n) = false)) (h0 : Hid (∀ u, Below w.heap.size w u → Calls Tryz.prog 29 #[.agg (sh kd rr x y z A n cp), .int .i64 (mn2 m1 m2)] u fun e w' => e = .returned (.tuple #[.agg (ms b0 b1 b2 b3), .int .i64 0]) ∧ Below u.heap.size u w')) (h1 : Hid (∀ u, Below w.heap.size w u → Calls Tryz.prog 29 #[.agg (sh kd rr x y z A n cp), .int .i64 (mx2 m1 m2)] u fun e w' => e = .returned (.tuple #[.agg (ms k0 k1 k2 k3), .int .i64 0]) ∧ Below u.heap.size u w')) (e1 : Hid (decide ((0 : Int) ≤ b1) = true)) (e2 : Hid (decide ((0 : Int) ≤ b2) = true)) (e3 : Hid (decide ((0 : Int) ≤ b3) = true)) (h2 : Hid (Ans 33 #[.int .i64 b2, .int .i64 b3] (.int .i64 s1))) (h3 : Hid (Ans 33 #[.int .i64 s1, .int .i64 1] (.int .i64 s2))) (e4 : Hid (decide ((b1 : Int) ≤ s2) = true)) (h4 : Hid (Ans 33 #[.int .i64 b1, .int .i64 b3] (.int .i64 s3))) (h5 : Hid (Ans 33 #[.int .i64 s3, .int .i64 1] (.int .i64 s4))) (e5 : Hid (decide ((b2 : Int) ≤ s4) = true)) (h6 : Hid (Ans 33 #[.int .i64 b1, .int .i64 b2] (.int .i64 s5))) (h7 : Hid (Ans 33 #[.int .i64 s5, .int .i64 1] (.int .i64 s6))) (e6 : Hid (decide ((b3 : Int) ≤ s6) = true)) (e7 : Hid (decide ((b1 : Int) ≤ k1) = true)) (e8 : Hid (decide ((b2 : Int) ≤ k2) = true)) (e9 : Hid (decide ((b3 : Int) ≤ k3) = true)) (e10 : Hid (decide ((b0 : Int) ≤ k0) = true)) (h8 : Hid (Ans 28 #[] (.bool true))) : Calls Tryz.prog 11 #[.agg (sh kd rr x y z A n cp), .int .i64 m1, .int .i64 m2] w fun e w' => e = .returned (.bool true) ∧ Below w.heap.size w w' := by
  go_enter Tryz.func11, Tryz.ntmps11
  go_upto_region 1 with fail
  have D := hide (((Gd.start w).push 27 (sh kd rr x y z A n cp)))
  refine list_start (S := Gd w [(w.heap.size, 27, sh kd rr x y z A n cp)]) (unhide D) ?_
  clear D
  refine list_read (v := .pointer (some ⟨w.heap.size, 5, none⟩)) rfl rfl (fun u hS => by go_simp) ?_
  try go_simp
  refine list_read (v := .slice A n cp) rfl rfl (fun u hS => exec_loadV_Vecs (g := w.heap.size) (t := 27) (cs := sh kd rr x y z A n cp) hS.g _ rfl rfl (by repeat (first | exact List.mem_cons_self | apply List.mem_cons_of_mem)) rfl) ?_
  try go_simp
  refine list_read (v := .int .i64 n) rfl rfl (fun u hS => by go_simp) ?_
  try go_simp
  refine list_read (v := .bool false) rfl rfl (fun u hS => exec_gtrS _ _ (unhide e0) rfl rfl rfl) ?_
  try go_simp
  refine list_end (fun u1 hS => ?_)
  have D := hide hS
  clear hS
  go_upto_region 3 with fail
  refine list_start (S := Gd w [(w.heap.size, 27, sh kd rr x y z A n cp)]) (unhide D) ?_
  clear D
  refine list_read (v := .agg (sh kd rr x y z A n cp)) rfl rfl (fun u hS => exec_loadG (g := w.heap.size) (t := 27) (cs := sh kd rr x y z A n cp) hS.g rShape _ rfl rfl (by repeat (first | exact List.mem_cons_self | apply List.mem_cons_of_mem)) rfl) ?_
  try go_simp
  refine list_read (v := .int .i64 m1) rfl rfl (fun u hS => by go_simp) ?_
  try go_simp
  refine list_read (v := .int .i64 m2) rfl rfl (fun u hS => by go_simp) ?_
  try go_simp
  refine list_read (v := .int .i64 (mn2 m1 m2)) rfl rfl (fun u hS => exec_mn2 (.tmp 21) (.tmp 22) rfl rfl rfl) ?_
  try go_simp
  refine list_call (v := .tuple #[.agg (ms b0 b1 b2 b3), .int .i64 0]) (f := 29) (args := #[.agg (sh kd rr x y z A n cp), .int .i64 (mn2 m1 m2)]) rfl rfl (fun u hS => by go_simp) (fun u hS => (unhide h0 u hS.g.o).mono fun _ _ ⟨he, hb⟩ => ⟨he, hS.keep hb⟩) ?_
  try go_simp
  refine list_read (v := .tuple #[.agg (ms b0 b1 b2 b3), .int .i64 0]) rfl rfl (fun u hS => by go_simp) ?_
  try go_simp
  refine list_read (v := .agg (ms b0 b1 b2 b3)) rfl rfl (fun u hS => by go_simp) ?_
  try go_simp
  refine list_read (v := .int .i64 0) rfl rfl (fun u hS => by go_simp) ?_
  try go_simp
  refine list_new (z := ms 0 0 0 0) (ty := 46) (v := fun g => .pointer (some ⟨g, 0, none⟩)) rfl rfl (fun u => by go_simp) (fun g1 hgg1 => ?_)
  try go_simp
  refine list_store (l1 := []) (l2 := [(w.heap.size, 27, sh kd rr x y z A n cp)]) (l' := [(g1, 46, ms b0 b1 b2 b3), (w.heap.size, 27, sh kd rr x y z A n cp)]) (g := g1) (old := ms 0 0 0 0) (cs := ms b0 b1 b2 b3) (.tmp 7) (.tmp 25) rfl rfl rfl rfl rfl rfl rMass rfl rfl (ms_one _ _ _ _) hgg1 ?_
  try go_simp
  refine list_read (v := .int .i64 0) rfl rfl (fun u hS => by go_simp) ?_
  try go_simp
  refine list_end (fun u3 hS => ?_)
  have D := hide hS
  clear hS
  go_upto_region 4 with fail
  refine list_start (S := Gd w [(g1, 46, ms b0 b1 b2 b3), (w.heap.size, 27, sh kd rr x y z A n cp)]) (unhide D) ?_
  clear D
  refine list_read (v := .agg (sh kd rr x y z A n cp)) rfl rfl (fun u hS => exec_loadG (g := w.heap.size) (t := 27) (cs := sh kd rr x y z A n cp) hS.g rShape _ rfl rfl (by repeat (first | exact List.mem_cons_self | apply List.mem_cons_of_mem)) rfl) ?_
  try go_simp
  refine list_read (v := .int .i64 m1) rfl rfl (fun u hS => by go_simp) ?_
  try go_simp
  refine list_read (v := .int .i64 m2) rfl rfl (fun u hS => by go_simp) ?_
  try go_simp
  refine list_read (v := .int .i64 (mx2 m1 m2)) rfl rfl (fun u hS => exec_mx2 (.tmp 29) (.tmp 30) rfl rfl rfl) ?_
  try go_simp
  refine list_call (v := .tuple #[.agg (ms k0 k1 k2 k3), .int .i64 0]) (f := 29) (args := #[.agg (sh kd rr x y z A n cp), .int .i64 (mx2 m1 m2)]) rfl rfl (fun u hS => by go_simp) (fun u hS => (unhide h1 u hS.g.o).mono fun _ _ ⟨he, hb⟩ => ⟨he, hS.keep hb⟩) ?_
  try go_simp
  refine list_read (v := .tuple #[.agg (ms k0 k1 k2 k3), .int .i64 0]) rfl rfl (fun u hS => by go_simp) ?_
  try go_simp
  refine list_read (v := .agg (ms k0 k1 k2 k3)) rfl rfl (fun u hS => by go_simp) ?_
  try go_simp
  refine list_read (v := .int .i64 0) rfl rfl (fun u hS => by go_simp) ?_
  try go_simp
  refine list_new (z := ms 0 0 0 0) (ty := 46) (v := fun g => .pointer (some ⟨g, 0, none⟩)) rfl rfl (fun u => by go_simp) (fun g2 hgg2 => ?_)
  try go_simp
  refine list_store (l1 := []) (l2 := [(g1, 46, ms b0 b1 b2 b3), (w.heap.size, 27, sh kd rr x y z A n cp)]) (l' := [(g2, 46, ms k0 k1 k2 k3), (g1, 46, ms b0 b1 b2 b3), (w.heap.size, 27, sh kd rr x y z A n cp)]) (g := g2) (old := ms 0 0 0 0) (cs := ms k0 k1 k2 k3) (.tmp 9) (.tmp 33) rfl rfl rfl rfl rfl rfl rMass rfl rfl (ms_one _ _ _ _) hgg2 ?_
  try go_simp
  refine list_read (v := .int .i64 0) rfl rfl (fun u hS => by go_simp) ?_
  try go_simp
  refine list_end (fun u4 hS => ?_)
  have D := hide hS
  clear hS
  go_upto_region 5 with fail
  refine list_start (S := Gd w [(g2, 46, ms k0 k1 k2 k3), (g1, 46, ms b0 b1 b2 b3), (w.heap.size, 27, sh kd rr x y z A n cp)]) (unhide D) ?_
  clear D
  refine list_read (v := .int .i64 0) rfl rfl (fun u hS => by go_simp) ?_
  try go_simp
  refine list_read (v := .bool false) rfl rfl (fun u hS => by go_simp) ?_
  try go_simp
  refine list_read (v := .bool false) rfl rfl (fun u hS => by go_simp) ?_
  try go_simp
  refine list_read (v := .int .i64 0) rfl rfl (fun u hS => by go_simp) ?_
  try go_simp
  refine list_read (v := .bool false) rfl rfl (fun u hS => by go_simp) ?_
  try go_simp
  refine list_read (v := .bool false) rfl rfl (fun u hS => by go_simp) ?_
  try go_simp
  refine list_end (fun u5 hS => ?_)
  have D := hide hS
  clear hS
  go_upto_region 7 with fail
  refine region_plan (S := Gd w [(g2, 46, ms k0 k1 k2 k3), (g1, 46, ms b0 b1 b2 b3), (w.heap.size, 27, sh kd rr x y z A n cp)]) (l := [0, 1, 2, 3, 4, 5, 6, 7, 8, 9, 10, 11]) (by kernel_rfl) (by kernel_rfl) (by kernel_rfl) (by kernel_rfl) (by kernel_rfl) (by kernel_rfl) (by kernel_rfl) (unhide D).drew ?_
  clear D
  refine plan_read (v := .pointer (some ⟨g1, 1, none⟩)) rfl rfl (fun u hS => by go_simp) ?_
  try go_simp
  refine plan_read (v := .pointer (some ⟨g1, 1, none⟩)) rfl rfl (fun u hS => by go_simp) ?_
  try go_simp
  refine plan_read (v := .int .i64 b1) rfl rfl (fun u hS => exec_loadN_Fix (g := g1) (t := 46) (cs := ms b0 b1 b2 b3) hS.g _ rfl rfl (by repeat (first | exact List.mem_cons_self | apply List.mem_cons_of_mem)) rfl) ?_
  try go_simp
  refine plan_read (v := .pointer (some ⟨g1, 1, none⟩)) rfl rfl (fun u hS => by go_simp) ?_
  try go_simp
  refine plan_read (v := .pointer (some ⟨g1, 2, none⟩)) rfl rfl (fun u hS => by go_simp) ?_
  try go_simp
  refine plan_read (v := .int .i64 b2) rfl rfl (fun u hS => exec_loadN_Fix (g := g1) (t := 46) (cs := ms b0 b1 b2 b3) hS.g _ rfl rfl (by repeat (first | exact List.mem_cons_self | apply List.mem_cons_of_mem)) rfl) ?_
  try go_simp
  refine plan_read (v := .pointer (some ⟨g1, 1, none⟩)) rfl rfl (fun u hS => by go_simp) ?_
  try go_simp
  refine plan_read (v := .pointer (some ⟨g1, 3, none⟩)) rfl rfl (fun u hS => by go_simp) ?_
  try go_simp
  refine plan_read (v := .int .i64 b3) rfl rfl (fun u hS => exec_loadN_Fix (g := g1) (t := 46) (cs := ms b0 b1 b2 b3) hS.g _ rfl rfl (by repeat (first | exact List.mem_cons_self | apply List.mem_cons_of_mem)) rfl) ?_
  try go_simp
  refine plan_read (v := .int .i64 b1) rfl rfl (fun u hS => by go_simp) ?_
  try go_simp
  refine plan_read (v := .int .i64 b2) rfl rfl (fun u hS => by go_simp) ?_
  try go_simp
  refine plan_read (v := .int .i64 b3) rfl rfl (fun u hS => by go_simp) ?_
  try go_simp
  refine plan_end (fun u7 hS => ?_)
  have D := hide hS
  clear hS
  go_upto_region 8 with fail
  refine list_start (S := Gd w [(g2, 46, ms k0 k1 k2 k3), (g1, 46, ms b0 b1 b2 b3), (w.heap.size, 27, sh kd rr x y z A n cp)]) (unhide D) ?_
  clear D
  refine list_read (v := .int .i64 b1) rfl rfl (fun u hS => by go_simp) ?_
  try go_simp
  refine list_read (v := .bool true) rfl rfl (fun u hS => exec_geqS _ _ (unhide e1) rfl rfl rfl) ?_
  try go_simp
  refine list_read (v := .bool true) rfl rfl (fun u hS => by go_simp) ?_
  try go_simp
  refine list_read (v := .int .i64 b2) rfl rfl (fun u hS => by go_simp) ?_
  try go_simp
  refine list_read (v := .bool true) rfl rfl (fun u hS => exec_geqS _ _ (unhide e2) rfl rfl rfl) ?_
  try go_simp
  refine list_read (v := .bool true) rfl rfl (fun u hS => by go_simp) ?_
  try go_simp
  refine list_read (v := .bool true) rfl rfl (fun u hS => by go_simp) ?_
  try go_simp
  refine list_read (v := .int .i64 b3) rfl rfl (fun u hS => by go_simp) ?_
  try go_simp
  refine list_read (v := .bool true) rfl rfl (fun u hS => exec_geqS _ _ (unhide e3) rfl rfl rfl) ?_
  try go_simp
  refine list_read (v := .bool true) rfl rfl (fun u hS => by go_simp) ?_
  try go_simp
  refine list_read (v := .bool true) rfl rfl (fun u hS => by go_simp) ?_
  try go_simp
  refine list_read (v := .int .i64 b1) rfl rfl (fun u hS => by go_simp) ?_
  try go_simp
  refine list_read (v := .int .i64 b2) rfl rfl (fun u hS => by go_simp) ?_
  try go_simp
  refine list_read (v := .int .i64 b3) rfl rfl (fun u hS => by go_simp) ?_
  try go_simp
  refine list_call (v := .int .i64 s1) (f := 33) (args := #[.int .i64 b2, .int .i64 b3]) rfl rfl (fun u hS => by go_simp) (fun u hS => (unhide h2 u).mono fun _ _ ⟨he, hb⟩ => ⟨he, hS.keep hb⟩) ?_
  try go_simp
  refine list_call (v := .int .i64 s2) (f := 33) (args := #[.int .i64 s1, .int .i64 1]) rfl rfl (fun u hS => by go_simp) (fun u hS => (unhide h3 u).mono fun _ _ ⟨he, hb⟩ => ⟨he, hS.keep hb⟩) ?_
  try go_simp
  refine list_read (v := .bool true) rfl rfl (fun u hS => exec_leqS _ _ (unhide e4) rfl rfl rfl) ?_
  try go_simp
  refine list_read (v := .bool true) rfl rfl (fun u hS => by go_simp) ?_
  try go_simp
  refine list_read (v := .bool true) rfl rfl (fun u hS => by go_simp) ?_
  try go_simp
  refine list_read (v := .int .i64 b2) rfl rfl (fun u hS => by go_simp) ?_
  try go_simp
  refine list_read (v := .int .i64 b1) rfl rfl (fun u hS => by go_simp) ?_
  try go_simp
  refine list_read (v := .int .i64 b3) rfl rfl (fun u hS => by go_simp) ?_
  try go_simp
  refine list_call (v := .int .i64 s3) (f := 33) (args := #[.int .i64 b1, .int .i64 b3]) rfl rfl (fun u hS => by go_simp) (fun u hS => (unhide h4 u).mono fun _ _ ⟨he, hb⟩ => ⟨he, hS.keep hb⟩) ?_
  try go_simp
  refine list_call (v := .int .i64 s4) (f := 33) (args := #[.int .i64 s3, .int .i64 1]) rfl rfl (fun u hS => by go_simp) (fun u hS => (unhide h5 u).mono fun _ _ ⟨he, hb⟩ => ⟨he, hS.keep hb⟩) ?_
  try go_simp
  refine list_read (v := .bool true) rfl rfl (fun u hS => exec_leqS _ _ (unhide e5) rfl rfl rfl) ?_
  try go_simp
  refine list_read (v := .bool true) rfl rfl (fun u hS => by go_simp) ?_
  try go_simp
  refine list_read (v := .bool true) rfl rfl (fun u hS => by go_simp) ?_
  try go_simp
  refine list_read (v := .int .i64 b3) rfl rfl (fun u hS => by go_simp) ?_
  try go_simp
  refine list_read (v := .int .i64 b1) rfl rfl (fun u hS => by go_simp) ?_
  try go_simp
  refine list_read (v := .int .i64 b2) rfl rfl (fun u hS => by go_simp) ?_
  try go_simp
  refine list_call (v := .int .i64 s5) (f := 33) (args := #[.int .i64 b1, .int .i64 b2]) rfl rfl (fun u hS => by go_simp) (fun u hS => (unhide h6 u).mono fun _ _ ⟨he, hb⟩ => ⟨he, hS.keep hb⟩) ?_
  try go_simp
  refine list_call (v := .int .i64 s6) (f := 33) (args := #[.int .i64 s5, .int .i64 1]) rfl rfl (fun u hS => by go_simp) (fun u hS => (unhide h7 u).mono fun _ _ ⟨he, hb⟩ => ⟨he, hS.keep hb⟩) ?_
  try go_simp
  refine list_read (v := .bool true) rfl rfl (fun u hS => exec_leqS _ _ (unhide e6) rfl rfl rfl) ?_
  try go_simp
  refine list_read (v := .bool true) rfl rfl (fun u hS => by go_simp) ?_
  try go_simp
  refine list_read (v := .bool true) rfl rfl (fun u hS => by go_simp) ?_
  try go_simp
  refine list_read (v := .int .i64 b1) rfl rfl (fun u hS => by go_simp) ?_
  try go_simp
  refine list_read (v := .pointer (some ⟨g2, 1, none⟩)) rfl rfl (fun u hS => by go_simp) ?_
  try go_simp
  refine list_read (v := .pointer (some ⟨g2, 1, none⟩)) rfl rfl (fun u hS => by go_simp) ?_
  try go_simp
  refine list_read (v := .int .i64 k1) rfl rfl (fun u hS => exec_loadN_Fix (g := g2) (t := 46) (cs := ms k0 k1 k2 k3) hS.g _ rfl rfl (by repeat (first | exact List.mem_cons_self | apply List.mem_cons_of_mem)) rfl) ?_
  try go_simp
  refine list_read (v := .bool true) rfl rfl (fun u hS => exec_leqS _ _ (unhide e7) rfl rfl rfl) ?_
  try go_simp
  refine list_read (v := .bool true) rfl rfl (fun u hS => by go_simp) ?_
  try go_simp
  refine list_read (v := .bool true) rfl rfl (fun u hS => by go_simp) ?_
  try go_simp
  refine list_read (v := .int .i64 b2) rfl rfl (fun u hS => by go_simp) ?_
  try go_simp
  refine list_read (v := .pointer (some ⟨g2, 1, none⟩)) rfl rfl (fun u hS => by go_simp) ?_
  try go_simp
  refine list_read (v := .pointer (some ⟨g2, 2, none⟩)) rfl rfl (fun u hS => by go_simp) ?_
  try go_simp
  refine list_read (v := .int .i64 k2) rfl rfl (fun u hS => exec_loadN_Fix (g := g2) (t := 46) (cs := ms k0 k1 k2 k3) hS.g _ rfl rfl (by repeat (first | exact List.mem_cons_self | apply List.mem_cons_of_mem)) rfl) ?_
  try go_simp
  refine list_read (v := .bool true) rfl rfl (fun u hS => exec_leqS _ _ (unhide e8) rfl rfl rfl) ?_
  try go_simp
  refine list_read (v := .bool true) rfl rfl (fun u hS => by go_simp) ?_
  try go_simp
  refine list_read (v := .bool true) rfl rfl (fun u hS => by go_simp) ?_
  try go_simp
  refine list_read (v := .int .i64 b3) rfl rfl (fun u hS => by go_simp) ?_
  try go_simp
  refine list_read (v := .pointer (some ⟨g2, 1, none⟩)) rfl rfl (fun u hS => by go_simp) ?_
  try go_simp
  refine list_read (v := .pointer (some ⟨g2, 3, none⟩)) rfl rfl (fun u hS => by go_simp) ?_
  try go_simp
  refine list_read (v := .int .i64 k3) rfl rfl (fun u hS => exec_loadN_Fix (g := g2) (t := 46) (cs := ms k0 k1 k2 k3) hS.g _ rfl rfl (by repeat (first | exact List.mem_cons_self | apply List.mem_cons_of_mem)) rfl) ?_
  try go_simp
  refine list_read (v := .bool true) rfl rfl (fun u hS => exec_leqS _ _ (unhide e9) rfl rfl rfl) ?_
  try go_simp
  refine list_read (v := .bool true) rfl rfl (fun u hS => by go_simp) ?_
  try go_simp
  refine list_read (v := .bool true) rfl rfl (fun u hS => by go_simp) ?_
  try go_simp
  refine list_read (v := .pointer (some ⟨g1, 0, none⟩)) rfl rfl (fun u hS => by go_simp) ?_
  try go_simp
  refine list_read (v := .int .i64 b0) rfl rfl (fun u hS => exec_loadN_Fix (g := g1) (t := 46) (cs := ms b0 b1 b2 b3) hS.g _ rfl rfl (by repeat (first | exact List.mem_cons_self | apply List.mem_cons_of_mem)) rfl) ?_
  try go_simp
  refine list_read (v := .pointer (some ⟨g2, 0, none⟩)) rfl rfl (fun u hS => by go_simp) ?_
  try go_simp
  refine list_read (v := .int .i64 k0) rfl rfl (fun u hS => exec_loadN_Fix (g := g2) (t := 46) (cs := ms k0 k1 k2 k3) hS.g _ rfl rfl (by repeat (first | exact List.mem_cons_self | apply List.mem_cons_of_mem)) rfl) ?_
  try go_simp
  refine list_read (v := .bool true) rfl rfl (fun u hS => exec_leqS _ _ (unhide e10) rfl rfl rfl) ?_
  try go_simp
  refine list_read (v := .bool true) rfl rfl (fun u hS => by go_simp) ?_
  try go_simp
  refine list_read (v := .bool true) rfl rfl (fun u hS => by go_simp) ?_
  try go_simp
  refine list_call (v := .bool true) (f := 28) (args := #[]) rfl rfl (fun u hS => by go_simp) (fun u hS => (unhide h8 u).mono fun _ _ ⟨he, hb⟩ => ⟨he, hS.keep hb⟩) ?_
  try go_simp
  refine list_read (v := .bool true) rfl rfl (fun u hS => by go_simp) ?_
  try go_simp
  refine list_read (v := .bool true) rfl rfl (fun u hS => by go_simp) ?_
  try go_simp
  refine list_end (fun u8 hS => ?_)
  have D := hide hS
  clear hS
  go_wp2
  go_ret
  exact ⟨rfl, (unhide D).g.o⟩
theorem cl_cases (v : Int) (h : 0 ≤ v) : (v ≤ 9223372036854775807 ∧ cl v = v) ∨ (9223372036854775807 < v ∧ cl v = 9223372036854775807) := by
  by_cases h1 : 9223372036854775807 < v
  · exact .inr ⟨h1, cl_hi h1⟩
  · exact .inl ⟨by omega, cl_self ⟨by omega, by omega⟩⟩
/-- A moment ahead of being brought in. -/
def moU (m b c : Int) : Int := (m * (b * b + c * c)).fdiv 3 / 18446744073709551616
theorem moU_e {m b c : Int} (hm : 0 ≤ m) : moU m b c = m * (b * b + c * c) / 3 / 18446744073709551616 := by
  unfold moU
  have h : 0 ≤ m * (b * b + c * c) := Int.mul_nonneg hm (by have := sq0 b; have := sq0 c; omega)
  rw [Int.fdiv_eq_ediv_of_nonneg _ (by decide)]
theorem moU_nn {m b c : Int} (hm : 0 ≤ m) : 0 ≤ moU m b c := by
  have h : 0 ≤ m * (b * b + c * c) := Int.mul_nonneg hm (by have := sq0 b; have := sq0 c; omega)
  rw [moU_e hm]
  omega
theorem moU_mono {m k b c : Int} (hm : 0 ≤ m) (h : m ≤ k) : moU m b c ≤ moU k b c := by
  have h2 : m * (b * b + c * c) ≤ k * (b * b + c * c) := Int.mul_le_mul_of_nonneg_right h (by have := sq0 b; have := sq0 c; omega)
  rw [moU_e hm, moU_e (by omega : 0 ≤ k)]
  omega
/-- No moment is above the two others together by more than 1. -/
theorem moU_tri {m b c d : Int} (hm : 0 ≤ m) : moU m b c ≤ moU m c d + moU m d b + 1 := by
  have hd : 0 ≤ m * (d * d) := Int.mul_nonneg hm (sq0 d)
  have e : m * (c * c + d * d) + m * (d * d + b * b) = m * (b * b + c * c) + m * (d * d) + m * (d * d) := by grind
  rw [moU_e hm, moU_e hm, moU_e hm]
  omega
theorem cl_tri {u v t : Int} (hu : 0 ≤ u) (hv : 0 ≤ v) (ht : 0 ≤ t) (h : u ≤ v + t + 1) : cl u ≤ cl (cl (cl v + cl t) + 1) := by
  rcases cl_cases u hu with ⟨a1, a2⟩ | ⟨a1, a2⟩ <;> rcases cl_cases v hv with ⟨b1, b2⟩ | ⟨b1, b2⟩ <;> rcases cl_cases t ht with ⟨c1, c2⟩ | ⟨c1, c2⟩ <;> rw [a2, b2, c2]
  all_goals (unfold cl; repeat' split)
  all_goals omega
set_option maxHeartbeats 4000000 in
theorem massSides_all (kd rr x y z : Int) (A : Option Addr) (n cp : Nat) (ps : Nat → Pt) (m1 m2 : Int) (hn : n ≤ 9223372036854775807) (hr : I64 rr) (hx : I64 x) (hy : I64 y) (hz : I64 z) (hm1 : I64 m1) (hm2 : I64 m2) (w : World) (hP : PRow w A n ps) (hI : pI64 n ps) :
    Calls Tryz.prog 11 #[.agg (sh kd rr x y z A n cp), .int .i64 m1, .int .i64 m2] w fun e w' => e = .returned (.bool true) ∧ Below w.heap.size w w' := by
  by_cases c1 : (100 : Int) < n
  · exact sides_a kd rr x y z A n cp m1 m2 w (decide_eq_true c1) awake10Z
  have hn4 : n ≤ 400 := by omega
  have iA : I64 (mn2 m1 m2) := by unfold mn2; split <;> assumption
  have iB : I64 (mx2 m1 m2) := by unfold mx2; split <;> assumption
  have hle : mn2 m1 m2 ≤ mx2 m1 m2 := by unfold mn2 mx2; repeat' split
                                         all_goals omega
  have hA := fun u (hu : Below w.heap.size w u) => OfS kd rr x y z A n cp ps (mn2 m1 m2) u hn4 hr hx hy hz (hP.below hu) hI iA
  have hB := fun u (hu : Below w.heap.size w u) => OfS kd rr x y z A n cp ps (mx2 m1 m2) u hn4 hr hx hy hz (hP.below hu) hI iB
  generalize ga : mn2 m1 m2 = a at hA iA hle
  generalize gb : mx2 m1 m2 = b at hB iB hle
  have zA : masE (chE kd rr x y z n ps) a ≠ 0 → ∀ v, masV (chE kd rr x y z n ps) a v = 0 := fun h v => if_neg h
  have zB : masE (chE kd rr x y z n ps) b ≠ 0 → ∀ v, masV (chE kd rr x y z n ps) b v = 0 := fun h v => if_neg h
  by_cases h1 : masE (chE kd rr x y z n ps) a = 0
  · by_cases h2 : masE (chE kd rr x y z n ps) b = 0
    · have vA : ∀ v, masV (chE kd rr x y z n ps) a v = v := fun v => if_pos h1
      have vB : ∀ v, masV (chE kd rr x y z n ps) b v = v := fun v => if_pos h2
      rw [h1, vA, vA, vA, vA] at hA
      rw [h2, vB, vB, vB, vB] at hB
      have eM : ∀ m b c, moI m b c = cl (moU m b c) := fun _ _ _ => rfl
      rw [eM, eM, eM] at hA hB
      have ha : 16777216 ≤ a := by
        unfold masE at h1
        by_cases h0 : chE kd rr x y z n ps = 0
        · rw [if_pos h0] at h1
          by_cases h3 : a < 16777216
          · rw [if_pos h3] at h1; cases h1
          · omega
        · rw [if_neg h0] at h1; exact absurd h1 h0
      generalize haX kd rr x y z n ps = X at *
      generalize haY kd rr x y z n ps = Y at *
      generalize haZ kd rr x y z n ps = Z at *
      have i1 := cl_I64 (moU a Y Z)
      have i2 := cl_I64 (moU a Z X)
      have i3 := cl_I64 (moU a X Y)
      have n1 := moU_nn (m := a) (b := Y) (c := Z) (by omega)
      have n2 := moU_nn (m := a) (b := Z) (c := X) (by omega)
      have n3 := moU_nn (m := a) (b := X) (c := Y) (by omega)
      have t1 := moU_tri (m := a) (b := Y) (c := Z) (d := X) (by omega)
      have t2 := moU_tri (m := a) (b := Z) (c := X) (d := Y) (by omega)
      have t3 := moU_tri (m := a) (b := X) (c := Y) (d := Z) (by omega)
      have g1 := cl_mono (moU_mono (b := Y) (c := Z) (by omega : 0 ≤ a) hle)
      have g2 := cl_mono (moU_mono (b := Z) (c := X) (by omega : 0 ≤ a) hle)
      have g3 := cl_mono (moU_mono (b := X) (c := Y) (by omega : 0 ≤ a) hle)
      have one : I64 (1 : Int) := ⟨by decide, by decide⟩
      have nn : ∀ v : Int, 0 ≤ v → 0 ≤ cl v := fun v h => by rcases cl_cases v h with ⟨_, e⟩ | ⟨_, e⟩ <;> omega
      subst ga gb
      exact sides_e kd rr x y z A n cp m1 m2 _ _ _ _ _ _ _ _ _ _ _ _ _ _ w (decide_eq_false c1) hA hB
        (decide_eq_true (nn _ n1)) (decide_eq_true (nn _ n2)) (decide_eq_true (nn _ n3))
        (FixAddZ _ _ i2 i3) (FixAddZ _ 1 (cl_I64 _) one) (decide_eq_true (cl_tri n1 n2 n3 (by omega)))
        (FixAddZ _ _ i1 i3) (FixAddZ _ 1 (cl_I64 _) one) (decide_eq_true (cl_tri n2 n1 n3 (by omega)))
        (FixAddZ _ _ i1 i2) (FixAddZ _ 1 (cl_I64 _) one) (decide_eq_true (cl_tri n3 n1 n2 (by omega)))
        (decide_eq_true g1) (decide_eq_true g2) (decide_eq_true g3) (decide_eq_true hle) awake10Z
    · have vA : ∀ v, masV (chE kd rr x y z n ps) a v = v := fun v => if_pos h1
      rw [h1, vA, vA, vA, vA] at hA
      rw [zB h2, zB h2, zB h2, zB h2] at hB
      subst ga gb
      exact sides_d kd rr x y z A n cp m1 m2 _ _ _ _ _ w (decide_eq_false c1) hA hB (decide_eq_false h2) (decide_eq_false h2) (sameM4_self _ _ _ _) awake10Z
  · rw [zA h1, zA h1, zA h1, zA h1] at hA
    by_cases h2 : masE (chE kd rr x y z n ps) b = 0
    · have vB : ∀ v, masV (chE kd rr x y z n ps) b v = v := fun v => if_pos h2
      rw [h2, vB, vB, vB, vB] at hB
      subst ga gb
      exact sides_b kd rr x y z A n cp m1 m2 _ _ _ _ _ w (decide_eq_false c1) hA hB (decide_eq_false h1) (decide_eq_false h1) (sameM4_self _ _ _ _) awake10Z
    · rw [zB h2, zB h2, zB h2, zB h2] at hB
      subst ga gb
      exact sides_c kd rr x y z A n cp m1 m2 _ _ w (decide_eq_false c1) hA hB (decide_eq_false h1) (decide_eq_false h1) (sameM4_self _ _ _ _) (decide_eq_false h2) awake10Z

end Go.Proofs.YtnemedgdhojhdaaGreat
