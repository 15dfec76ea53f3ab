/- The law ShapeWithin. -/
import Derived.Test.YtnemedgdhojhdaaGreatIm
namespace Go.Proofs.YtnemedgdhojhdaaGreat
open Go.RowKit
set_option maxRecDepth 4000
set_option linter.unusedVariables false

theorem exec_subS {o : Oper} {a : Act} {w : World} {x y v : Int} {ty ty' : TypeId} (p q : Operand) (hb : IntKind.i64.wrap (x - y) = v) (ho : o.op = .binOp .sub ty p q ty') (hx : a.eval p = .int .i64 x) (hy : a.eval q = .int .i64 y) : (execOp a.eval o).run Tryz.prog w = .ok (.value (.int .i64 v)) w := by
  subst hb
  unfold execOp
  simp only [ho, hx, hy]
  go_simp
set_option maxHeartbeats 4000000 in
theorem below_T (x y z p q r : Int) (w : World) (h_n1 : Hid (IntKind.i64.wrap (-x) = -x)) (h_n2 : Hid (IntKind.i64.wrap (-y) = -y)) (h_n3 : Hid (IntKind.i64.wrap (-z) = -z)) (e0 : Hid (decide ((x : Int) ≤ p) = true)) (e1 : Hid (decide ((y : Int) ≤ q) = true)) (e2 : Hid (decide ((z : Int) ≤ r) = true)) (e3 : Hid (decide ((-x : Int) ≤ p) = true)) (e4 : Hid (decide ((-y : Int) ≤ q) = true)) (e5 : Hid (decide ((-z : Int) ≤ r) = true)) : Calls Tryz.prog 26 #[.agg (v3 x y z), .agg (v3 p q r)] w fun e w' => e = .returned (.bool true) ∧ Below w.heap.size w w' := by
  go_enter Tryz.func26, Tryz.ntmps26
  go_upto_region 1 with fail
  have D := hide ((((Gd.start w).push 24 (v3 x y z)).push 24 (v3 p q r)))
  simp only [szA] at D
  refine list_start (S := Gd w [(w.heap.size + 1, 24, v3 p q r), (w.heap.size, 24, v3 x y z)]) (unhide D) ?_
  clear D
  refine list_read (v := .pointer (some ⟨w.heap.size, 0, none⟩)) rfl rfl (fun u hS => by go_simp) ?_
  try go_simp
  refine list_read (v := .int .i64 x) rfl rfl (fun u hS => exec_loadN_Fix (g := w.heap.size) (t := 24) (cs := v3 x y z) hS.g _ rfl rfl (by repeat (first | exact List.mem_cons_self | apply List.mem_cons_of_mem)) rfl) ?_
  try go_simp
  refine list_read (v := .pointer (some ⟨w.heap.size + 1, 0, none⟩)) rfl rfl (fun u hS => by go_simp) ?_
  try go_simp
  refine list_read (v := .int .i64 p) rfl rfl (fun u hS => exec_loadN_Fix (g := w.heap.size + 1) (t := 24) (cs := v3 p q r) hS.g _ rfl rfl (by repeat (first | exact List.mem_cons_self | apply List.mem_cons_of_mem)) rfl) ?_
  try go_simp
  refine list_read (v := .bool true) rfl rfl (fun u hS => exec_leqS _ _ (unhide e0) rfl rfl rfl) ?_
  try go_simp
  refine list_read (v := .bool true) rfl rfl (fun u hS => by go_simp) ?_
  try go_simp
  refine list_read (v := .pointer (some ⟨w.heap.size, 1, none⟩)) rfl rfl (fun u hS => by go_simp) ?_
  try go_simp
  refine list_read (v := .int .i64 y) rfl rfl (fun u hS => exec_loadN_Fix (g := w.heap.size) (t := 24) (cs := v3 x y z) hS.g _ rfl rfl (by repeat (first | exact List.mem_cons_self | apply List.mem_cons_of_mem)) rfl) ?_
  try go_simp
  refine list_read (v := .pointer (some ⟨w.heap.size + 1, 1, none⟩)) rfl rfl (fun u hS => by go_simp) ?_
  try go_simp
  refine list_read (v := .int .i64 q) rfl rfl (fun u hS => exec_loadN_Fix (g := w.heap.size + 1) (t := 24) (cs := v3 p q r) hS.g _ rfl rfl (by repeat (first | exact List.mem_cons_self | apply List.mem_cons_of_mem)) rfl) ?_
  try go_simp
  refine list_read (v := .bool true) rfl rfl (fun u hS => exec_leqS _ _ (unhide e1) rfl rfl rfl) ?_
  try go_simp
  refine list_read (v := .bool true) rfl rfl (fun u hS => by go_simp) ?_
  try go_simp
  refine list_read (v := .bool true) rfl rfl (fun u hS => by go_simp) ?_
  try go_simp
  refine list_read (v := .pointer (some ⟨w.heap.size, 2, none⟩)) rfl rfl (fun u hS => by go_simp) ?_
  try go_simp
  refine list_read (v := .int .i64 z) rfl rfl (fun u hS => exec_loadN_Fix (g := w.heap.size) (t := 24) (cs := v3 x y z) hS.g _ rfl rfl (by repeat (first | exact List.mem_cons_self | apply List.mem_cons_of_mem)) rfl) ?_
  try go_simp
  refine list_read (v := .pointer (some ⟨w.heap.size + 1, 2, none⟩)) rfl rfl (fun u hS => by go_simp) ?_
  try go_simp
  refine list_read (v := .int .i64 r) rfl rfl (fun u hS => exec_loadN_Fix (g := w.heap.size + 1) (t := 24) (cs := v3 p q r) hS.g _ rfl rfl (by repeat (first | exact List.mem_cons_self | apply List.mem_cons_of_mem)) rfl) ?_
  try go_simp
  refine list_read (v := .bool true) rfl rfl (fun u hS => exec_leqS _ _ (unhide e2) rfl rfl rfl) ?_
  try go_simp
  refine list_read (v := .bool true) rfl rfl (fun u hS => by go_simp) ?_
  try go_simp
  refine list_read (v := .bool true) rfl rfl (fun u hS => by go_simp) ?_
  try go_simp
  refine list_read (v := .pointer (some ⟨w.heap.size, 0, none⟩)) rfl rfl (fun u hS => by go_simp) ?_
  try go_simp
  refine list_read (v := .int .i64 x) rfl rfl (fun u hS => exec_loadN_Fix (g := w.heap.size) (t := 24) (cs := v3 x y z) hS.g _ rfl rfl (by repeat (first | exact List.mem_cons_self | apply List.mem_cons_of_mem)) rfl) ?_
  try go_simp
  refine list_read (v := .int .i64 (-x)) rfl rfl (fun u hS => exec_negS (.tmp 26) (unhide h_n1) rfl rfl) ?_
  try go_simp
  refine list_read (v := .pointer (some ⟨w.heap.size + 1, 0, none⟩)) rfl rfl (fun u hS => by go_simp) ?_
  try go_simp
  refine list_read (v := .int .i64 p) rfl rfl (fun u hS => exec_loadN_Fix (g := w.heap.size + 1) (t := 24) (cs := v3 p q r) hS.g _ rfl rfl (by repeat (first | exact List.mem_cons_self | apply List.mem_cons_of_mem)) rfl) ?_
  try go_simp
  refine list_read (v := .bool true) rfl rfl (fun u hS => exec_leqS _ _ (unhide e3) rfl rfl rfl) ?_
  try go_simp
  refine list_read (v := .bool true) rfl rfl (fun u hS => by go_simp) ?_
  try go_simp
  refine list_read (v := .bool true) rfl rfl (fun u hS => by go_simp) ?_
  try go_simp
  refine list_read (v := .pointer (some ⟨w.heap.size, 1, none⟩)) rfl rfl (fun u hS => by go_simp) ?_
  try go_simp
  refine list_read (v := .int .i64 y) rfl rfl (fun u hS => exec_loadN_Fix (g := w.heap.size) (t := 24) (cs := v3 x y z) hS.g _ rfl rfl (by repeat (first | exact List.mem_cons_self | apply List.mem_cons_of_mem)) rfl) ?_
  try go_simp
  refine list_read (v := .int .i64 (-y)) rfl rfl (fun u hS => exec_negS (.tmp 34) (unhide h_n2) rfl rfl) ?_
  try go_simp
  refine list_read (v := .pointer (some ⟨w.heap.size + 1, 1, none⟩)) rfl rfl (fun u hS => by go_simp) ?_
  try go_simp
  refine list_read (v := .int .i64 q) rfl rfl (fun u hS => exec_loadN_Fix (g := w.heap.size + 1) (t := 24) (cs := v3 p q r) hS.g _ rfl rfl (by repeat (first | exact List.mem_cons_self | apply List.mem_cons_of_mem)) rfl) ?_
  try go_simp
  refine list_read (v := .bool true) rfl rfl (fun u hS => exec_leqS _ _ (unhide e4) rfl rfl rfl) ?_
  try go_simp
  refine list_read (v := .bool true) rfl rfl (fun u hS => by go_simp) ?_
  try go_simp
  refine list_read (v := .bool true) rfl rfl (fun u hS => by go_simp) ?_
  try go_simp
  refine list_read (v := .pointer (some ⟨w.heap.size, 2, none⟩)) rfl rfl (fun u hS => by go_simp) ?_
  try go_simp
  refine list_read (v := .int .i64 z) rfl rfl (fun u hS => exec_loadN_Fix (g := w.heap.size) (t := 24) (cs := v3 x y z) hS.g _ rfl rfl (by repeat (first | exact List.mem_cons_self | apply List.mem_cons_of_mem)) rfl) ?_
  try go_simp
  refine list_read (v := .int .i64 (-z)) rfl rfl (fun u hS => exec_negS (.tmp 42) (unhide h_n3) rfl rfl) ?_
  try go_simp
  refine list_read (v := .pointer (some ⟨w.heap.size + 1, 2, none⟩)) rfl rfl (fun u hS => by go_simp) ?_
  try go_simp
  refine list_read (v := .int .i64 r) rfl rfl (fun u hS => exec_loadN_Fix (g := w.heap.size + 1) (t := 24) (cs := v3 p q r) hS.g _ rfl rfl (by repeat (first | exact List.mem_cons_self | apply List.mem_cons_of_mem)) rfl) ?_
  try go_simp
  refine list_read (v := .bool true) rfl rfl (fun u hS => exec_leqS _ _ (unhide e5) rfl rfl rfl) ?_
  try go_simp
  refine list_read (v := .bool true) rfl rfl (fun u hS => by go_simp) ?_
  try go_simp
  refine list_read (v := .bool true) rfl rfl (fun u hS => by go_simp) ?_
  try go_simp
  refine list_end (fun u1 hS => ?_)
  have D := hide hS
  clear hS
  go_wp2
  go_ret
  exact ⟨rfl, (unhide D).g.o⟩
set_option maxHeartbeats 4000000 in
theorem within_a (kd rr x y z : Int) (A : Option Addr) (n cp : Nat) (w : World) (e0 : Hid (decide ((100 : Int) < n) = true)) (h0 : Hid (Ans 13 #[] (.bool true))) : Calls Tryz.prog 6 #[.agg (sh kd rr x y z A n cp)] w fun e w' => e = .returned (.bool true) ∧ Below w.heap.size w w' := by
  go_enter Tryz.func6, Tryz.ntmps6
  go_upto_region 1 with fail
  have D := hide (((Gd.start w).push 27 (sh kd rr x y z A n cp)))
  refine list_start (S := Gd w [(w.heap.size, 27, sh kd rr x y z A n cp)]) (unhide D) ?_
  clear D
  refine list_read (v := .pointer (some ⟨w.heap.size, 5, none⟩)) rfl rfl (fun u hS => by go_simp) ?_
  try go_simp
  refine list_read (v := .slice A n cp) rfl rfl (fun u hS => exec_loadV_Vecs (g := w.heap.size) (t := 27) (cs := sh kd rr x y z A n cp) hS.g _ rfl rfl (by repeat (first | exact List.mem_cons_self | apply List.mem_cons_of_mem)) rfl) ?_
  try go_simp
  refine list_read (v := .int .i64 n) rfl rfl (fun u hS => by go_simp) ?_
  try go_simp
  refine list_read (v := .bool true) rfl rfl (fun u hS => exec_gtrS _ _ (unhide e0) rfl rfl rfl) ?_
  try go_simp
  refine list_end (fun u1 hS => ?_)
  have D := hide hS
  clear hS
  go_upto_region 2 with fail
  refine list_start (S := Gd w [(w.heap.size, 27, sh kd rr x y z A n cp)]) (unhide D) ?_
  clear D
  refine list_call (v := .bool true) (f := 13) (args := #[]) rfl rfl (fun u hS => by go_simp) (fun u hS => (unhide h0 u).mono fun _ _ ⟨he, hb⟩ => ⟨he, hS.keep hb⟩) ?_
  try go_simp
  refine list_read (v := .bool true) rfl rfl (fun u hS => by go_simp) ?_
  try go_simp
  refine list_end (fun u2 hS => ?_)
  have D := hide hS
  clear hS
  go_wp2
  go_ret
  exact ⟨rfl, (unhide D).g.o⟩
set_option maxHeartbeats 4000000 in
theorem within_b (kd rr x y z : Int) (A : Option Addr) (n cp : Nat) (E : Int) (w : World) (e0 : Hid (decide ((100 : Int) < n) = false)) (h0 : Hid (∀ u, Below w.heap.size w u → Calls Tryz.prog 14 #[.agg (sh kd rr x y z A n cp)] u fun e w' => e = .returned (.tuple #[.slice none 0 0, .int .i64 E]) ∧ Below u.heap.size u w')) (h1 : Hid (∀ u, Below w.heap.size w u → Calls Tryz.prog 20 #[.agg (sh kd rr x y z A n cp)] u fun e w' => e = .returned (.tuple #[.agg (v3 0 0 0), .int .i64 E]) ∧ Below u.heap.size u w')) (h2 : Hid (∀ u, Below w.heap.size w u → Calls Tryz.prog 22 #[.agg (sh kd rr x y z A n cp)] u fun e w' => e = .returned (.tuple #[.int .i64 0, .int .i64 E]) ∧ Below u.heap.size u w')) (e1 : Hid (decide ((E : Int) = E) = true)) (e2 : Hid (decide ((E : Int) = 0) = false)) (e3 : Hid (sameV 0 0 0 0 0 0 = true)) (h3 : Hid (Ans 13 #[] (.bool true))) : Calls Tryz.prog 6 #[.agg (sh kd rr x y z A n cp)] w fun e w' => e = .returned (.bool true) ∧ Below w.heap.size w w' := by
  go_enter Tryz.func6, Tryz.ntmps6
  go_upto_region 1 with fail
  have D := hide (((Gd.start w).push 27 (sh kd rr x y z A n cp)))
  refine list_start (S := Gd w [(w.heap.size, 27, sh kd rr x y z A n cp)]) (unhide D) ?_
  clear D
  refine list_read (v := .pointer (some ⟨w.heap.size, 5, none⟩)) rfl rfl (fun u hS => by go_simp) ?_
  try go_simp
  refine list_read (v := .slice A n cp) rfl rfl (fun u hS => exec_loadV_Vecs (g := w.heap.size) (t := 27) (cs := sh kd rr x y z A n cp) hS.g _ rfl rfl (by repeat (first | exact List.mem_cons_self | apply List.mem_cons_of_mem)) rfl) ?_
  try go_simp
  refine list_read (v := .int .i64 n) rfl rfl (fun u hS => by go_simp) ?_
  try go_simp
  refine list_read (v := .bool false) rfl rfl (fun u hS => exec_gtrS _ _ (unhide e0) rfl rfl rfl) ?_
  try go_simp
  refine list_end (fun u1 hS => ?_)
  have D := hide hS
  clear hS
  go_upto_region 3 with fail
  refine list_start (S := Gd w [(w.heap.size, 27, sh kd rr x y z A n cp)]) (unhide D) ?_
  clear D
  refine list_read (v := .agg (sh kd rr x y z A n cp)) rfl rfl (fun u hS => exec_loadG (g := w.heap.size) (t := 27) (cs := sh kd rr x y z A n cp) hS.g rShape _ rfl rfl (by repeat (first | exact List.mem_cons_self | apply List.mem_cons_of_mem)) rfl) ?_
  try go_simp
  refine list_call (v := .tuple #[.slice none 0 0, .int .i64 E]) (f := 14) (args := #[.agg (sh kd rr x y z A n cp)]) rfl rfl (fun u hS => by go_simp) (fun u hS => (unhide h0 u hS.g.o).mono fun _ _ ⟨he, hb⟩ => ⟨he, hS.keep hb⟩) ?_
  try go_simp
  refine list_read (v := .tuple #[.slice none 0 0, .int .i64 E]) rfl rfl (fun u hS => by go_simp) ?_
  try go_simp
  refine list_read (v := .slice none 0 0) rfl rfl (fun u hS => by go_simp) ?_
  try go_simp
  refine list_read (v := .int .i64 E) rfl rfl (fun u hS => by go_simp) ?_
  try go_simp
  refine list_read (v := .slice none 0 0) rfl rfl (fun u hS => by go_simp) ?_
  try go_simp
  refine list_read (v := .int .i64 E) rfl rfl (fun u hS => by go_simp) ?_
  try go_simp
  refine list_end (fun u3 hS => ?_)
  have D := hide hS
  clear hS
  go_upto_region 4 with fail
  refine list_start (S := Gd w [(w.heap.size, 27, sh kd rr x y z A n cp)]) (unhide D) ?_
  clear D
  refine list_read (v := .agg (sh kd rr x y z A n cp)) rfl rfl (fun u hS => exec_loadG (g := w.heap.size) (t := 27) (cs := sh kd rr x y z A n cp) hS.g rShape _ rfl rfl (by repeat (first | exact List.mem_cons_self | apply List.mem_cons_of_mem)) rfl) ?_
  try go_simp
  refine list_call (v := .tuple #[.agg (v3 0 0 0), .int .i64 E]) (f := 20) (args := #[.agg (sh kd rr x y z A n cp)]) rfl rfl (fun u hS => by go_simp) (fun u hS => (unhide h1 u hS.g.o).mono fun _ _ ⟨he, hb⟩ => ⟨he, hS.keep hb⟩) ?_
  try go_simp
  refine list_read (v := .tuple #[.agg (v3 0 0 0), .int .i64 E]) rfl rfl (fun u hS => by go_simp) ?_
  try go_simp
  refine list_read (v := .agg (v3 0 0 0)) rfl rfl (fun u hS => by go_simp) ?_
  try go_simp
  refine list_read (v := .int .i64 E) rfl rfl (fun u hS => by go_simp) ?_
  try go_simp
  refine list_new (z := v3 0 0 0) (ty := 24) (v := fun g => .pointer (some ⟨g, 0, none⟩)) rfl rfl (fun u => by go_simp) (fun g1 hgg1 => ?_)
  try go_simp
  refine list_store (l1 := []) (l2 := [(w.heap.size, 27, sh kd rr x y z A n cp)]) (l' := [(g1, 24, v3 0 0 0), (w.heap.size, 27, sh kd rr x y z A n cp)]) (g := g1) (old := v3 0 0 0) (cs := v3 0 0 0) (.tmp 5) (.tmp 27) rfl rfl rfl rfl rfl rfl rVec rfl rfl (v3_one _ _ _) hgg1 ?_
  try go_simp
  refine list_read (v := .int .i64 E) rfl rfl (fun u hS => by go_simp) ?_
  try go_simp
  refine list_end (fun u4 hS => ?_)
  have D := hide hS
  clear hS
  go_upto_region 5 with fail
  refine list_start (S := Gd w [(g1, 24, v3 0 0 0), (w.heap.size, 27, sh kd rr x y z A n cp)]) (unhide D) ?_
  clear D
  refine list_read (v := .agg (sh kd rr x y z A n cp)) rfl rfl (fun u hS => exec_loadG (g := w.heap.size) (t := 27) (cs := sh kd rr x y z A n cp) hS.g rShape _ rfl rfl (by repeat (first | exact List.mem_cons_self | apply List.mem_cons_of_mem)) rfl) ?_
  try go_simp
  refine list_call (v := .tuple #[.int .i64 0, .int .i64 E]) (f := 22) (args := #[.agg (sh kd rr x y z A n cp)]) rfl rfl (fun u hS => by go_simp) (fun u hS => (unhide h2 u hS.g.o).mono fun _ _ ⟨he, hb⟩ => ⟨he, hS.keep hb⟩) ?_
  try go_simp
  refine list_read (v := .tuple #[.int .i64 0, .int .i64 E]) rfl rfl (fun u hS => by go_simp) ?_
  try go_simp
  refine list_read (v := .int .i64 0) rfl rfl (fun u hS => by go_simp) ?_
  try go_simp
  refine list_read (v := .int .i64 E) rfl rfl (fun u hS => by go_simp) ?_
  try go_simp
  refine list_read (v := .int .i64 0) rfl rfl (fun u hS => by go_simp) ?_
  try go_simp
  refine list_read (v := .int .i64 E) rfl rfl (fun u hS => by go_simp) ?_
  try go_simp
  refine list_end (fun u5 hS => ?_)
  have D := hide hS
  clear hS
  go_upto_region 6 with fail
  refine list_start (S := Gd w [(g1, 24, v3 0 0 0), (w.heap.size, 27, sh kd rr x y z A n cp)]) (unhide D) ?_
  clear D
  refine list_read (v := .int .i64 E) rfl rfl (fun u hS => by go_simp) ?_
  try go_simp
  refine list_read (v := .int .i64 E) rfl rfl (fun u hS => by go_simp) ?_
  try go_simp
  refine list_read (v := .bool false) rfl rfl (fun u hS => exec_neqS _ _ (unhide e1) rfl rfl rfl) ?_
  try go_simp
  refine list_read (v := .bool false) rfl rfl (fun u hS => by go_simp) ?_
  try go_simp
  refine list_read (v := .int .i64 E) rfl rfl (fun u hS => by go_simp) ?_
  try go_simp
  refine list_read (v := .int .i64 E) rfl rfl (fun u hS => by go_simp) ?_
  try go_simp
  refine list_read (v := .bool false) rfl rfl (fun u hS => exec_neqS _ _ (unhide e1) rfl rfl rfl) ?_
  try go_simp
  refine list_read (v := .bool false) rfl rfl (fun u hS => by go_simp) ?_
  try go_simp
  refine list_end (fun u6 hS => ?_)
  have D := hide hS
  clear hS
  go_upto_region 8 with fail
  refine list_start (S := Gd w [(g1, 24, v3 0 0 0), (w.heap.size, 27, sh kd rr x y z A n cp)]) (unhide D) ?_
  clear D
  refine list_read (v := .int .i64 E) rfl rfl (fun u hS => by go_simp) ?_
  try go_simp
  refine list_read (v := .bool true) rfl rfl (fun u hS => exec_neqS _ _ (unhide e2) rfl rfl rfl) ?_
  try go_simp
  refine list_end (fun u8 hS => ?_)
  have D := hide hS
  clear hS
  go_upto_region 9 with fail
  refine list_start (S := Gd w [(g1, 24, v3 0 0 0), (w.heap.size, 27, sh kd rr x y z A n cp)]) (unhide D) ?_
  clear D
  refine list_read (v := .slice none 0 0) rfl rfl (fun u hS => by go_simp) ?_
  try go_simp
  refine list_read (v := .int .i64 0) rfl rfl (fun u hS => by go_simp) ?_
  try go_simp
  refine list_read (v := .bool true) rfl rfl (fun u hS => by go_simp) ?_
  try go_simp
  refine list_read (v := .bool true) rfl rfl (fun u hS => by go_simp) ?_
  try go_simp
  refine list_read (v := .agg (v3 0 0 0)) rfl rfl (fun u hS => exec_loadG (g := g1) (t := 24) (cs := v3 0 0 0) hS.g rVec _ rfl rfl (by repeat (first | exact List.mem_cons_self | apply List.mem_cons_of_mem)) rfl) ?_
  try go_simp
  refine list_read (v := .agg (v3 0 0 0)) rfl rfl (fun u hS => by go_simp) ?_
  try go_simp
  refine list_read (v := .bool true) rfl rfl (fun u hS => exec_eql_vec (s := true) _ _ _ (unhide e3) rfl rfl rfl) ?_
  try go_simp
  refine list_read (v := .bool true) rfl rfl (fun u hS => by go_simp) ?_
  try go_simp
  refine list_read (v := .bool true) rfl rfl (fun u hS => by go_simp) ?_
  try go_simp
  refine list_read (v := .int .i64 0) rfl rfl (fun u hS => by go_simp) ?_
  try go_simp
  refine list_read (v := .bool true) rfl rfl (fun u hS => by go_simp) ?_
  try go_simp
  refine list_read (v := .bool true) rfl rfl (fun u hS => by go_simp) ?_
  try go_simp
  refine list_read (v := .bool true) rfl rfl (fun u hS => by go_simp) ?_
  try go_simp
  refine list_call (v := .bool true) (f := 13) (args := #[]) rfl rfl (fun u hS => by go_simp) (fun u hS => (unhide h3 u).mono fun _ _ ⟨he, hb⟩ => ⟨he, hS.keep hb⟩) ?_
  try go_simp
  refine list_read (v := .bool true) rfl rfl (fun u hS => by go_simp) ?_
  try go_simp
  refine list_read (v := .bool true) rfl rfl (fun u hS => by go_simp) ?_
  try go_simp
  refine list_end (fun u9 hS => ?_)
  have D := hide hS
  clear hS
  go_wp2
  go_ret
  exact ⟨rfl, (unhide D).g.o⟩
set_option maxHeartbeats 32000000 in
theorem within_yes (kd rr x y z : Int) (A : Option Addr) (n cp : Nat) (m : Nat) (P : Nat → Pt) (lu : Nat → Int) (f0 f1 f2 f3 : Nat → Bool) (q1 q2 q3 tt X Y Z Lm : Int) (w : World) (hm0 : 0 < m) (hmm : m ≤ 9223372036854775807) (hN : Hid (∀ i, i < m → IntKind.i64.wrap (-(P i).1) = -(P i).1 ∧ IntKind.i64.wrap (-(P i).2.1) = -(P i).2.1 ∧ IntKind.i64.wrap (-(P i).2.2) = -(P i).2.2))
    (hF0 : Hid (∀ i, (decide ((P i).1 = X) || decide (-(P i).1 = X)) = f0 i)) (hF1 : Hid (∀ i, (decide ((P i).2.1 = Y) || decide (-(P i).2.1 = Y)) = f1 i)) (hF2 : Hid (∀ i, (decide ((P i).2.2 = Z) || decide (-(P i).2.2 = Z)) = f2 i)) (hF3 : Hid (∀ i, decide (lu i = Lm) = f3 i))
    (hT0 : Hid (anyR f0 m = true)) (hT1 : Hid (anyR f1 m = true)) (hT2 : Hid (anyR f2 m = true)) (hT3 : Hid (anyR f3 m = true)) (h_X : Hid (IntKind.i64.wrap (q1 - rr) = X)) (h_Y : Hid (IntKind.i64.wrap (q2 - rr) = Y)) (h_Z : Hid (IntKind.i64.wrap (q3 - rr) = Z)) (h_L : Hid (IntKind.i64.wrap (tt - rr) = Lm))
    (hBe : Hid (∀ i, i < m → Ans 26 #[.agg (v3 (P i).1 (P i).2.1 (P i).2.2), .agg (v3 X Y Z)] (.bool true))) (hLe : Hid (∀ i, i < m → Ans 27 #[.agg (v3 (P i).1 (P i).2.1 (P i).2.2)] (.int .i64 (lu i)))) (hL1 : Hid (∀ i, i < m → decide (Lm < lu i) = false))
    (hA : Hid (Ans 13 #[] (.bool true))) (hC : Hid (∀ u, Below w.heap.size w u → Calls Tryz.prog 14 #[.agg (sh kd rr x y z A n cp)] u fun e w' => (∃ v, e = .returned (.tuple #[v, .int .i64 0]) ∧ w'.ownsRow u.heap.size 24 3 v m (cellsN m P)) ∧ Below u.heap.size u w')) (e0 : Hid (decide ((100 : Int) < n) = false)) (h0 : Hid (∀ u, Below w.heap.size w u → Calls Tryz.prog 20 #[.agg (sh kd rr x y z A n cp)] u fun e w' => e = .returned (.tuple #[.agg (v3 q1 q2 q3), .int .i64 0]) ∧ Below u.heap.size u w')) (h1 : Hid (∀ u, Below w.heap.size w u → Calls Tryz.prog 22 #[.agg (sh kd rr x y z A n cp)] u fun e w' => e = .returned (.tuple #[.int .i64 tt, .int .i64 0]) ∧ Below u.heap.size u w')) :
    Calls Tryz.prog 6 #[.agg (sh kd rr x y z A n cp)] w fun e w' => e = .returned (.bool true) ∧ Below w.heap.size w w' := by
  go_enter Tryz.func6, Tryz.ntmps6
  go_upto_region 1 with fail
  have D := hide ((Gd.start w).push 27 (sh kd rr x y z A n cp))
  refine list_start (S := Gd w [(w.heap.size, 27, sh kd rr x y z A n cp)]) (unhide D) ?_
  clear D
  refine list_read (v := .pointer (some ⟨w.heap.size, 5, none⟩)) rfl rfl (fun u hS => by go_simp) ?_
  try go_simp
  refine list_read (v := .slice A n cp) rfl rfl (fun u hS => exec_loadV_Vecs (g := w.heap.size) (t := 27) (cs := sh kd rr x y z A n cp) hS.g _ rfl rfl (by repeat (first | exact List.mem_cons_self | apply List.mem_cons_of_mem)) rfl) ?_
  try go_simp
  refine list_read (v := .int .i64 n) rfl rfl (fun u hS => by go_simp) ?_
  try go_simp
  refine list_read (v := .bool false) rfl rfl (fun u hS => exec_gtrS _ _ (unhide e0) rfl rfl rfl) ?_
  try go_simp
  refine list_end (fun u1 hS => ?_)
  have D := hide hS
  clear hS
  go_upto_region 3 with fail
  refine list_start (S := Gd w [(w.heap.size, 27, sh kd rr x y z A n cp)]) (unhide D) ?_
  clear D
  refine list_read (v := .agg (sh kd rr x y z A n cp)) rfl rfl (fun u hS => exec_loadG (g := w.heap.size) (t := 27) (cs := sh kd rr x y z A n cp) hS.g rShape _ rfl rfl (by repeat (first | exact List.mem_cons_self | apply List.mem_cons_of_mem)) rfl) ?_
  try go_simp
  intro u hS
  refine list_callE (f := 14) (args := #[.agg (sh kd rr x y z A n cp)]) rfl (by go_simp) (unhide hC u hS.g.o) ?_
  rintro e5 w5 ⟨⟨v5, he5, hown⟩, hb5⟩
  refine ⟨_, he5, ?_⟩
  clear he5
  obtain ⟨gC, cC, cur, rfl, hbC, hBC, hcC, hcur⟩ := own_block hown hm0
  have hcur := hide hcur
  have hggC : w.heap.size ≤ gC := Nat.le_trans hS.g.o.size hbC
  refine list_go (S := Gd w [(gC, 24, cur), (w.heap.size, 27, sh kd rr x y z A n cp)]) (hS.more hb5 hBC hbC) ?_
  clear hS hb5 hBC hown hbC hcC
  try go_simp
  refine list_read (v := .tuple #[.slice (some ⟨gC, 0, none⟩) m cC, .int .i64 0]) rfl rfl (fun u hS => by go_simp) ?_
  try go_simp
  refine list_read (v := .slice (some ⟨gC, 0, none⟩) m cC) rfl rfl (fun u hS => by go_simp) ?_
  try go_simp
  refine list_read (v := .int .i64 0) rfl rfl (fun u hS => by go_simp) ?_
  try go_simp
  refine list_read (v := .slice (some ⟨gC, 0, none⟩) m cC) rfl rfl (fun u hS => by go_simp) ?_
  try go_simp
  refine list_read (v := .int .i64 0) rfl rfl (fun u hS => by go_simp) ?_
  try go_simp
  refine list_end (fun u3 hS => ?_)
  have D := hide hS
  clear hS
  go_upto_region 4 with fail
  refine list_start (S := Gd w [(gC, 24, cur), (w.heap.size, 27, sh kd rr x y z A n cp)]) (unhide D) ?_
  clear D
  refine list_read (v := .agg (sh kd rr x y z A n cp)) rfl rfl (fun u hS => exec_loadG (g := w.heap.size) (t := 27) (cs := sh kd rr x y z A n cp) hS.g rShape _ rfl rfl (by repeat (first | exact List.mem_cons_self | apply List.mem_cons_of_mem)) rfl) ?_
  try go_simp
  refine list_call (v := .tuple #[.agg (v3 q1 q2 q3), .int .i64 0]) (f := 20) (args := #[.agg (sh kd rr x y z A n cp)]) rfl rfl (fun u hS => by go_simp) (fun u hS => (unhide h0 u hS.g.o).mono fun _ _ ⟨he, hb⟩ => ⟨he, hS.keep hb⟩) ?_
  try go_simp
  refine list_read (v := .tuple #[.agg (v3 q1 q2 q3), .int .i64 0]) rfl rfl (fun u hS => by go_simp) ?_
  try go_simp
  refine list_read (v := .agg (v3 q1 q2 q3)) rfl rfl (fun u hS => by go_simp) ?_
  try go_simp
  refine list_read (v := .int .i64 0) rfl rfl (fun u hS => by go_simp) ?_
  try go_simp
  refine list_new (z := v3 0 0 0) (ty := 24) (v := fun g => .pointer (some ⟨g, 0, none⟩)) rfl rfl (fun u => by go_simp) (fun g1 hgg1 => ?_)
  try go_simp
  refine list_store (l1 := []) (l2 := [(gC, 24, cur), (w.heap.size, 27, sh kd rr x y z A n cp)]) (l' := [(g1, 24, v3 q1 q2 q3), (gC, 24, cur), (w.heap.size, 27, sh kd rr x y z A n cp)]) (g := g1) (old := v3 0 0 0) (cs := v3 q1 q2 q3) (.tmp 5) (.tmp 27) rfl rfl rfl rfl rfl rfl rVec rfl rfl (v3_one _ _ _) hgg1 ?_
  try go_simp
  refine list_read (v := .int .i64 0) rfl rfl (fun u hS => by go_simp) ?_
  try go_simp
  refine list_end (fun u4 hS => ?_)
  have D := hide hS
  clear hS
  go_upto_region 5 with fail
  refine list_start (S := Gd w [(g1, 24, v3 q1 q2 q3), (gC, 24, cur), (w.heap.size, 27, sh kd rr x y z A n cp)]) (unhide D) ?_
  clear D
  refine list_read (v := .agg (sh kd rr x y z A n cp)) rfl rfl (fun u hS => exec_loadG (g := w.heap.size) (t := 27) (cs := sh kd rr x y z A n cp) hS.g rShape _ rfl rfl (by repeat (first | exact List.mem_cons_self | apply List.mem_cons_of_mem)) rfl) ?_
  try go_simp
  refine list_call (v := .tuple #[.int .i64 tt, .int .i64 0]) (f := 22) (args := #[.agg (sh kd rr x y z A n cp)]) rfl rfl (fun u hS => by go_simp) (fun u hS => (unhide h1 u hS.g.o).mono fun _ _ ⟨he, hb⟩ => ⟨he, hS.keep hb⟩) ?_
  try go_simp
  refine list_read (v := .tuple #[.int .i64 tt, .int .i64 0]) rfl rfl (fun u hS => by go_simp) ?_
  try go_simp
  refine list_read (v := .int .i64 tt) rfl rfl (fun u hS => by go_simp) ?_
  try go_simp
  refine list_read (v := .int .i64 0) rfl rfl (fun u hS => by go_simp) ?_
  try go_simp
  refine list_read (v := .int .i64 tt) rfl rfl (fun u hS => by go_simp) ?_
  try go_simp
  refine list_read (v := .int .i64 0) rfl rfl (fun u hS => by go_simp) ?_
  try go_simp
  refine list_end (fun u5 hS => ?_)
  have D := hide hS
  clear hS
  go_upto_region 6 with fail
  refine list_start (S := Gd w [(g1, 24, v3 q1 q2 q3), (gC, 24, cur), (w.heap.size, 27, sh kd rr x y z A n cp)]) (unhide D) ?_
  clear D
  refine list_read (v := .int .i64 0) rfl rfl (fun u hS => by go_simp) ?_
  try go_simp
  refine list_read (v := .int .i64 0) rfl rfl (fun u hS => by go_simp) ?_
  try go_simp
  refine list_read (v := .bool false) rfl rfl (fun u hS => by go_simp) ?_
  try go_simp
  refine list_read (v := .bool false) rfl rfl (fun u hS => by go_simp) ?_
  try go_simp
  refine list_read (v := .int .i64 0) rfl rfl (fun u hS => by go_simp) ?_
  try go_simp
  refine list_read (v := .int .i64 0) rfl rfl (fun u hS => by go_simp) ?_
  try go_simp
  refine list_read (v := .bool false) rfl rfl (fun u hS => by go_simp) ?_
  try go_simp
  refine list_read (v := .bool false) rfl rfl (fun u hS => by go_simp) ?_
  try go_simp
  refine list_end (fun u6 hS => ?_)
  have D := hide hS
  clear hS
  go_upto_region 8 with fail
  refine list_start (S := Gd w [(g1, 24, v3 q1 q2 q3), (gC, 24, cur), (w.heap.size, 27, sh kd rr x y z A n cp)]) (unhide D) ?_
  clear D
  refine list_read (v := .int .i64 0) rfl rfl (fun u hS => by go_simp) ?_
  try go_simp
  refine list_read (v := .bool false) rfl rfl (fun u hS => by go_simp) ?_
  try go_simp
  refine list_end (fun u8 hS => ?_)
  have D := hide hS
  clear hS
  go_upto_region 10 with fail
  refine list_start (S := Gd w [(g1, 24, v3 q1 q2 q3), (gC, 24, cur), (w.heap.size, 27, sh kd rr x y z A n cp)]) (unhide D) ?_
  clear D
  refine list_read (v := .pointer (some ⟨g1, 0, none⟩)) rfl rfl (fun u hS => by go_simp) ?_
  try go_simp
  refine list_read (v := .int .i64 q1) rfl rfl (fun u hS => exec_loadN_Fix (g := g1) (t := 24) (cs := v3 q1 q2 q3) hS.g _ rfl rfl (by repeat (first | exact List.mem_cons_self | apply List.mem_cons_of_mem)) rfl) ?_
  try go_simp
  refine list_read (v := .pointer (some ⟨w.heap.size, 1, none⟩)) rfl rfl (fun u hS => by go_simp) ?_
  try go_simp
  refine list_read (v := .int .i64 rr) rfl rfl (fun u hS => exec_loadN_Fix (g := w.heap.size) (t := 27) (cs := sh kd rr x y z A n cp) hS.g _ rfl rfl (by repeat (first | exact List.mem_cons_self | apply List.mem_cons_of_mem)) rfl) ?_
  try go_simp
  refine list_read (v := .int .i64 X) rfl rfl (fun u hS => exec_subS _ _ (unhide h_X) rfl rfl rfl) ?_
  try go_simp
  refine list_read (v := .pointer (some ⟨g1, 1, none⟩)) rfl rfl (fun u hS => by go_simp) ?_
  try go_simp
  refine list_read (v := .int .i64 q2) rfl rfl (fun u hS => exec_loadN_Fix (g := g1) (t := 24) (cs := v3 q1 q2 q3) hS.g _ rfl rfl (by repeat (first | exact List.mem_cons_self | apply List.mem_cons_of_mem)) rfl) ?_
  try go_simp
  refine list_read (v := .pointer (some ⟨w.heap.size, 1, none⟩)) rfl rfl (fun u hS => by go_simp) ?_
  try go_simp
  refine list_read (v := .int .i64 rr) rfl rfl (fun u hS => exec_loadN_Fix (g := w.heap.size) (t := 27) (cs := sh kd rr x y z A n cp) hS.g _ rfl rfl (by repeat (first | exact List.mem_cons_self | apply List.mem_cons_of_mem)) rfl) ?_
  try go_simp
  refine list_read (v := .int .i64 Y) rfl rfl (fun u hS => exec_subS _ _ (unhide h_Y) rfl rfl rfl) ?_
  try go_simp
  refine list_read (v := .pointer (some ⟨g1, 2, none⟩)) rfl rfl (fun u hS => by go_simp) ?_
  try go_simp
  refine list_read (v := .int .i64 q3) rfl rfl (fun u hS => exec_loadN_Fix (g := g1) (t := 24) (cs := v3 q1 q2 q3) hS.g _ rfl rfl (by repeat (first | exact List.mem_cons_self | apply List.mem_cons_of_mem)) rfl) ?_
  try go_simp
  refine list_read (v := .pointer (some ⟨w.heap.size, 1, none⟩)) rfl rfl (fun u hS => by go_simp) ?_
  try go_simp
  refine list_read (v := .int .i64 rr) rfl rfl (fun u hS => exec_loadN_Fix (g := w.heap.size) (t := 27) (cs := sh kd rr x y z A n cp) hS.g _ rfl rfl (by repeat (first | exact List.mem_cons_self | apply List.mem_cons_of_mem)) rfl) ?_
  try go_simp
  refine list_read (v := .int .i64 Z) rfl rfl (fun u hS => exec_subS _ _ (unhide h_Z) rfl rfl rfl) ?_
  try go_simp
  refine list_read (v := .agg (v3 X Y Z)) rfl rfl (fun u hS => by go_simp) ?_
  try go_simp
  refine list_store (l1 := []) (l2 := [(gC, 24, cur), (w.heap.size, 27, sh kd rr x y z A n cp)]) (l' := [(g1, 24, v3 X Y Z), (gC, 24, cur), (w.heap.size, 27, sh kd rr x y z A n cp)]) (g := g1) (old := v3 q1 q2 q3) (cs := v3 X Y Z) (.tmp 5) (.tmp 74) rfl rfl rfl rfl rfl rfl rVec rfl rfl (v3_one _ _ _) hgg1 ?_
  try go_simp
  refine list_end (fun u10 hS => ?_)
  have D := hide hS
  clear hS
  go_upto_region 11 with fail
  go_wp2
  go_loopw [9, 10, 11, 12, 13] (fun b0 b1 b2 b3 a wr => ∃ k : Nat, k ≤ m ∧ a = .int .i64 k ∧ b0 = .bool (anyR f0 k) ∧ b1 = .bool (anyR f1 k) ∧ b2 = .bool (anyR f2 k) ∧ b3 = .bool (anyR f3 k) ∧ Hid (Gd w [(g1, 24, v3 X Y Z), (gC, 24, cur), (w.heap.size, 27, sh kd rr x y z A n cp)] wr)) (fun _ _ _ _ a _ => m - (intOf a).toNat)
  case atStart => exact ⟨0, Nat.zero_le _, rfl, rfl, rfl, rfl, rfl, unhide D⟩
  case round =>
    obtain ⟨k, hk, rfl, rfl, rfl, rfl, rfl, hD⟩ := hrel
    clear D
    by_cases hkm : k < m
    · have D := hD
      clear hD
      have hBel := hide (unhide hBe k hkm)
      have hLu := hide (unhide hLe k hkm)
      have h_n1 := hide (unhide hN k hkm).1
      have h_n2 := hide (unhide hN k hkm).2.1
      have h_n3 := hide (unhide hN k hkm).2.2
      have eL := hide (unhide hL1 k hkm)
      go_upto_region 15 with fail
      refine region_plan (S := Gd w [(g1, 24, v3 X Y Z), (gC, 24, cur), (w.heap.size, 27, sh kd rr x y z A n cp)]) (l := [0, 1, 2, 3, 4, 5, 6, 7, 8, 9, 10, 11, 12, 13, 14, 15, 16, 17, 18]) (by kernel_rfl) (by kernel_rfl) (by kernel_rfl) (by kernel_rfl) (by kernel_rfl) (by kernel_rfl) (by kernel_rfl) (unhide D).drew ?_
      clear D
      refine plan_read (v := .slice (some ⟨gC, 0, none⟩) m cC) rfl rfl (fun u hS => by go_simp) ?_
      try go_simp
      refine plan_read (v := .int .i64 k) rfl rfl (fun u hS => by go_simp) ?_
      try go_simp
      refine plan_read (v := .pointer (some ⟨gC, k * 3, none⟩)) rfl rfl (fun u hS => exec_ixV0 u (.tmp 81) (.tmp 82) hkm rfl rfl rfl) ?_
      try go_simp
      refine plan_read (v := .agg (v3 ((P k).1) ((P k).2.1) ((P k).2.2))) rfl rfl (fun u hS => exec_ldV (.tmp 83) rfl rfl (cur_range (hS.g.blk (g := gC) (t := 24) (cs := cur) (by repeat (first | exact List.mem_cons_self | apply List.mem_cons_of_mem))) (unhide hcur) hkm)) ?_
      try go_simp
      refine plan_read (v := .agg (v3 X Y Z)) rfl rfl (fun u hS => exec_loadG (g := g1) (t := 24) (cs := v3 X Y Z) hS.g rVec _ rfl rfl (by repeat (first | exact List.mem_cons_self | apply List.mem_cons_of_mem)) rfl) ?_
      try go_simp
      refine plan_call (v := .bool true) (f := 26) (args := #[.agg (v3 ((P k).1) ((P k).2.1) ((P k).2.2)), .agg (v3 X Y Z)]) rfl rfl (fun u hS => by go_simp) (fun u hS => (unhide hBel u).mono fun _ _ ⟨he, hb⟩ => ⟨he, hS.keep hb⟩) ?_
      try go_simp
      refine plan_read (v := .bool false) rfl rfl (fun u hS => by go_simp) ?_
      try go_simp
      refine plan_read (v := .bool false) rfl rfl (fun u hS => by go_simp) ?_
      try go_simp
      refine plan_read (v := .slice (some ⟨gC, 0, none⟩) m cC) rfl rfl (fun u hS => by go_simp) ?_
      try go_simp
      refine plan_read (v := .int .i64 k) rfl rfl (fun u hS => by go_simp) ?_
      try go_simp
      refine plan_read (v := .pointer (some ⟨gC, k * 3, none⟩)) rfl rfl (fun u hS => exec_ixV0 u (.tmp 89) (.tmp 90) hkm rfl rfl rfl) ?_
      try go_simp
      refine plan_read (v := .agg (v3 ((P k).1) ((P k).2.1) ((P k).2.2))) rfl rfl (fun u hS => exec_ldV (.tmp 91) rfl rfl (cur_range (hS.g.blk (g := gC) (t := 24) (cs := cur) (by repeat (first | exact List.mem_cons_self | apply List.mem_cons_of_mem))) (unhide hcur) hkm)) ?_
      try go_simp
      refine plan_call (v := .int .i64 (lu k)) (f := 27) (args := #[.agg (v3 ((P k).1) ((P k).2.1) ((P k).2.2))]) rfl rfl (fun u hS => by go_simp) (fun u hS => (unhide hLu u).mono fun _ _ ⟨he, hb⟩ => ⟨he, hS.keep hb⟩) ?_
      try go_simp
      refine plan_read (v := .int .i64 tt) rfl rfl (fun u hS => by go_simp) ?_
      try go_simp
      refine plan_read (v := .pointer (some ⟨w.heap.size, 1, none⟩)) rfl rfl (fun u hS => by go_simp) ?_
      try go_simp
      refine plan_read (v := .int .i64 rr) rfl rfl (fun u hS => exec_loadN_Fix (g := w.heap.size) (t := 27) (cs := sh kd rr x y z A n cp) hS.g _ rfl rfl (by repeat (first | exact List.mem_cons_self | apply List.mem_cons_of_mem)) rfl) ?_
      try go_simp
      refine plan_read (v := .int .i64 Lm) rfl rfl (fun u hS => exec_subS _ _ (unhide h_L) rfl rfl rfl) ?_
      try go_simp
      refine plan_read (v := .bool false) rfl rfl (fun u hS => exec_gtrS _ _ (unhide eL) rfl rfl rfl) ?_
      try go_simp
      refine plan_read (v := .bool false) rfl rfl (fun u hS => by go_simp) ?_
      try go_simp
      refine plan_end (fun u15 hS => ?_)
      have D := hide hS
      clear hS
      go_upto_region 17 with fail
      go_cut [9] (fun s wx => s = .bool (anyR f0 (k + 1)) ∧ Hid (Gd w [(g1, 24, v3 X Y Z), (gC, 24, cur), (w.heap.size, 27, sh kd rr x y z A n cp)] wx))
      case first =>
        have hff := hide (unhide hF0 k)
        generalize hb : anyR f0 k = bb
        have hb := hide hb
        cases bb
        · cases h1 : decide (((P k).1 : Int) = X)
          · have e0 := hide h1
            generalize h2 : decide ((-(P k).1 : Int) = X) = c2
            have e1 := hide h2
            clear h1 h2
            refine region_plan (S := Gd w [(g1, 24, v3 X Y Z), (gC, 24, cur), (w.heap.size, 27, sh kd rr x y z A n cp)]) (l := [0, 1, 2, 3, 4, 5, 6, 7, 8, 9, 10, 11, 12, 13, 14, 15, 16, 17, 18, 19, 20, 21, 22]) (by kernel_rfl) (by kernel_rfl) (by kernel_rfl) (by kernel_rfl) (by kernel_rfl) (by kernel_rfl) (by kernel_rfl) (unhide D).drew ?_
            clear D
            refine plan_read (v := .bool false) rfl rfl (fun u hS => by go_simp) ?_
            try go_simp
            refine plan_read (v := .bool false) rfl rfl (fun u hS => by go_simp) ?_
            try go_simp
            refine plan_read (v := .slice (some ⟨gC, 0, none⟩) m cC) rfl rfl (fun u hS => by go_simp) ?_
            try go_simp
            refine plan_read (v := .int .i64 k) rfl rfl (fun u hS => by go_simp) ?_
            try go_simp
            refine plan_read (v := .pointer (some ⟨gC, k * 3, none⟩)) rfl rfl (fun u hS => exec_ixV0 u (.tmp 102) (.tmp 103) hkm rfl rfl rfl) ?_
            try go_simp
            refine plan_read (v := .pointer (some ⟨gC, k * 3, none⟩)) rfl rfl (fun u hS => by go_simp) ?_
            try go_simp
            refine plan_read (v := .int .i64 ((P k).1)) rfl rfl (fun u hS => exec_ldFixC (.tmp 105) rfl rfl (cur_cells (hS.g.blk (g := gC) (t := 24) (cs := cur) (by repeat (first | exact List.mem_cons_self | apply List.mem_cons_of_mem))) (unhide hcur) hkm).1) ?_
            try go_simp
            refine plan_read (v := .pointer (some ⟨g1, 0, none⟩)) rfl rfl (fun u hS => by go_simp) ?_
            try go_simp
            refine plan_read (v := .int .i64 X) rfl rfl (fun u hS => exec_loadN_Fix (g := g1) (t := 24) (cs := v3 X Y Z) hS.g _ rfl rfl (by repeat (first | exact List.mem_cons_self | apply List.mem_cons_of_mem)) rfl) ?_
            try go_simp
            refine plan_read (v := .bool false) rfl rfl (fun u hS => exec_eqlS _ _ (unhide e0) rfl rfl rfl) ?_
            try go_simp
            refine plan_read (v := .bool false) rfl rfl (fun u hS => by go_simp) ?_
            try go_simp
            refine plan_read (v := .bool false) rfl rfl (fun u hS => by go_simp) ?_
            try go_simp
            refine plan_read (v := .slice (some ⟨gC, 0, none⟩) m cC) rfl rfl (fun u hS => by go_simp) ?_
            try go_simp
            refine plan_read (v := .int .i64 k) rfl rfl (fun u hS => by go_simp) ?_
            try go_simp
            refine plan_read (v := .pointer (some ⟨gC, k * 3, none⟩)) rfl rfl (fun u hS => exec_ixV0 u (.tmp 112) (.tmp 113) hkm rfl rfl rfl) ?_
            try go_simp
            refine plan_read (v := .pointer (some ⟨gC, k * 3, none⟩)) rfl rfl (fun u hS => by go_simp) ?_
            try go_simp
            refine plan_read (v := .int .i64 ((P k).1)) rfl rfl (fun u hS => exec_ldFixC (.tmp 115) rfl rfl (cur_cells (hS.g.blk (g := gC) (t := 24) (cs := cur) (by repeat (first | exact List.mem_cons_self | apply List.mem_cons_of_mem))) (unhide hcur) hkm).1) ?_
            try go_simp
            refine plan_read (v := .int .i64 (-(P k).1)) rfl rfl (fun u hS => exec_negS (.tmp 116) (unhide h_n1) rfl rfl) ?_
            try go_simp
            refine plan_read (v := .pointer (some ⟨g1, 0, none⟩)) rfl rfl (fun u hS => by go_simp) ?_
            try go_simp
            refine plan_read (v := .int .i64 X) rfl rfl (fun u hS => exec_loadN_Fix (g := g1) (t := 24) (cs := v3 X Y Z) hS.g _ rfl rfl (by repeat (first | exact List.mem_cons_self | apply List.mem_cons_of_mem)) rfl) ?_
            try go_simp
            refine plan_read (v := .bool c2) rfl rfl (fun u hS => exec_eqlS _ _ (unhide e1) rfl rfl rfl) ?_
            try go_simp
            refine plan_read (v := .bool c2) rfl rfl (fun u hS => by go_simp) ?_
            try go_simp
            refine plan_read (v := .bool c2) rfl rfl (fun u hS => by go_simp) ?_
            try go_simp
            refine plan_end (fun u17 hS => ?_)
            have D := hide hS
            clear hS
            go_wp2
            go_meet
            case rel =>
              have hb0 := unhide hb
              exact ⟨congrArg Value.bool (show c2 = (anyR f0 k || f0 k) by rw [hb0, ← unhide hff]; rw [unhide e0, unhide e1]; rfl), D⟩
          · have e0 := hide h1
            clear h1
            refine region_plan (S := Gd w [(g1, 24, v3 X Y Z), (gC, 24, cur), (w.heap.size, 27, sh kd rr x y z A n cp)]) (l := [0, 1, 2, 3, 4, 5, 6, 7, 8, 9, 10, 11, 12, 13, 14, 15, 16, 17, 18, 19, 20, 21, 22]) (by kernel_rfl) (by kernel_rfl) (by kernel_rfl) (by kernel_rfl) (by kernel_rfl) (by kernel_rfl) (by kernel_rfl) (unhide D).drew ?_
            clear D
            refine plan_read (v := .bool false) rfl rfl (fun u hS => by go_simp) ?_
            try go_simp
            refine plan_read (v := .bool false) rfl rfl (fun u hS => by go_simp) ?_
            try go_simp
            refine plan_read (v := .slice (some ⟨gC, 0, none⟩) m cC) rfl rfl (fun u hS => by go_simp) ?_
            try go_simp
            refine plan_read (v := .int .i64 k) rfl rfl (fun u hS => by go_simp) ?_
            try go_simp
            refine plan_read (v := .pointer (some ⟨gC, k * 3, none⟩)) rfl rfl (fun u hS => exec_ixV0 u (.tmp 102) (.tmp 103) hkm rfl rfl rfl) ?_
            try go_simp
            refine plan_read (v := .pointer (some ⟨gC, k * 3, none⟩)) rfl rfl (fun u hS => by go_simp) ?_
            try go_simp
            refine plan_read (v := .int .i64 ((P k).1)) rfl rfl (fun u hS => exec_ldFixC (.tmp 105) rfl rfl (cur_cells (hS.g.blk (g := gC) (t := 24) (cs := cur) (by repeat (first | exact List.mem_cons_self | apply List.mem_cons_of_mem))) (unhide hcur) hkm).1) ?_
            try go_simp
            refine plan_read (v := .pointer (some ⟨g1, 0, none⟩)) rfl rfl (fun u hS => by go_simp) ?_
            try go_simp
            refine plan_read (v := .int .i64 X) rfl rfl (fun u hS => exec_loadN_Fix (g := g1) (t := 24) (cs := v3 X Y Z) hS.g _ rfl rfl (by repeat (first | exact List.mem_cons_self | apply List.mem_cons_of_mem)) rfl) ?_
            try go_simp
            refine plan_read (v := .bool true) rfl rfl (fun u hS => exec_eqlS _ _ (unhide e0) rfl rfl rfl) ?_
            try go_simp
            refine plan_read (v := .bool true) rfl rfl (fun u hS => by go_simp) ?_
            try go_simp
            refine plan_read (v := .bool true) rfl rfl (fun u hS => by go_simp) ?_
            try go_simp
            refine plan_skip rfl ?_ ?_
            · rfl
            try go_simp
            refine plan_skip rfl ?_ ?_
            · rfl
            try go_simp
            refine plan_skip rfl ?_ ?_
            · rfl
            try go_simp
            refine plan_skip rfl ?_ ?_
            · rfl
            try go_simp
            refine plan_skip rfl ?_ ?_
            · rfl
            try go_simp
            refine plan_skip rfl ?_ ?_
            · rfl
            try go_simp
            refine plan_skip rfl ?_ ?_
            · rfl
            try go_simp
            refine plan_skip rfl ?_ ?_
            · rfl
            try go_simp
            refine plan_skip rfl ?_ ?_
            · rfl
            try go_simp
            refine plan_read (v := .bool true) rfl rfl (fun u hS => by go_simp) ?_
            try go_simp
            refine plan_read (v := .bool true) rfl rfl (fun u hS => by go_simp) ?_
            try go_simp
            refine plan_end (fun u17 hS => ?_)
            have D := hide hS
            clear hS
            go_wp2
            go_meet
            case rel =>
              have hb0 := unhide hb
              exact ⟨congrArg Value.bool (show true = (anyR f0 k || f0 k) by rw [hb0, ← unhide hff]; rw [unhide e0]; rfl), D⟩
        · refine region_plan (S := Gd w [(g1, 24, v3 X Y Z), (gC, 24, cur), (w.heap.size, 27, sh kd rr x y z A n cp)]) (l := [0, 1, 2, 3, 4, 5, 6, 7, 8, 9, 10, 11, 12, 13, 14, 15, 16, 17, 18, 19, 20, 21, 22]) (by kernel_rfl) (by kernel_rfl) (by kernel_rfl) (by kernel_rfl) (by kernel_rfl) (by kernel_rfl) (by kernel_rfl) (unhide D).drew ?_
          clear D
          refine plan_read (v := .bool true) rfl rfl (fun u hS => by go_simp) ?_
          try go_simp
          refine plan_read (v := .bool true) rfl rfl (fun u hS => by go_simp) ?_
          try go_simp
          refine plan_skip rfl ?_ ?_
          · rfl
          try go_simp
          refine plan_skip rfl ?_ ?_
          · rfl
          try go_simp
          refine plan_skip rfl ?_ ?_
          · rfl
          try go_simp
          refine plan_skip rfl ?_ ?_
          · rfl
          try go_simp
          refine plan_skip rfl ?_ ?_
          · rfl
          try go_simp
          refine plan_skip rfl ?_ ?_
          · rfl
          try go_simp
          refine plan_skip rfl ?_ ?_
          · rfl
          try go_simp
          refine plan_skip rfl ?_ ?_
          · rfl
          try go_simp
          refine plan_read (v := .bool true) rfl rfl (fun u hS => by go_simp) ?_
          try go_simp
          refine plan_read (v := .bool true) rfl rfl (fun u hS => by go_simp) ?_
          try go_simp
          refine plan_skip rfl ?_ ?_
          · rfl
          try go_simp
          refine plan_skip rfl ?_ ?_
          · rfl
          try go_simp
          refine plan_skip rfl ?_ ?_
          · rfl
          try go_simp
          refine plan_skip rfl ?_ ?_
          · rfl
          try go_simp
          refine plan_skip rfl ?_ ?_
          · rfl
          try go_simp
          refine plan_skip rfl ?_ ?_
          · rfl
          try go_simp
          refine plan_skip rfl ?_ ?_
          · rfl
          try go_simp
          refine plan_skip rfl ?_ ?_
          · rfl
          try go_simp
          refine plan_skip rfl ?_ ?_
          · rfl
          try go_simp
          refine plan_read (v := .bool true) rfl rfl (fun u hS => by go_simp) ?_
          try go_simp
          refine plan_read (v := .bool true) rfl rfl (fun u hS => by go_simp) ?_
          try go_simp
          refine plan_end (fun u17 hS => ?_)
          have D := hide hS
          clear hS
          go_wp2
          go_meet
          case rel =>
            have hb0 := unhide hb
            exact ⟨congrArg Value.bool (show true = (anyR f0 k || f0 k) by rw [hb0, ← unhide hff]; rfl), D⟩
      case rest =>
      obtain ⟨rfl, D⟩ := hcut
      go_upto_region 18 with fail
      go_cut [10] (fun s wx => s = .bool (anyR f1 (k + 1)) ∧ Hid (Gd w [(g1, 24, v3 X Y Z), (gC, 24, cur), (w.heap.size, 27, sh kd rr x y z A n cp)] wx))
      case first =>
        have hff := hide (unhide hF1 k)
        generalize hb : anyR f1 k = bb
        have hb := hide hb
        cases bb
        · cases h1 : decide (((P k).2.1 : Int) = Y)
          · have e0 := hide h1
            generalize h2 : decide ((-(P k).2.1 : Int) = Y) = c2
            have e1 := hide h2
            clear h1 h2
            refine region_plan (S := Gd w [(g1, 24, v3 X Y Z), (gC, 24, cur), (w.heap.size, 27, sh kd rr x y z A n cp)]) (l := [0, 1, 2, 3, 4, 5, 6, 7, 8, 9, 10, 11, 12, 13, 14, 15, 16, 17, 18, 19, 20, 21, 22]) (by kernel_rfl) (by kernel_rfl) (by kernel_rfl) (by kernel_rfl) (by kernel_rfl) (by kernel_rfl) (by kernel_rfl) (unhide D).drew ?_
            clear D
            refine plan_read (v := .bool false) rfl rfl (fun u hS => by go_simp) ?_
            try go_simp
            refine plan_read (v := .bool false) rfl rfl (fun u hS => by go_simp) ?_
            try go_simp
            refine plan_read (v := .slice (some ⟨gC, 0, none⟩) m cC) rfl rfl (fun u hS => by go_simp) ?_
            try go_simp
            refine plan_read (v := .int .i64 k) rfl rfl (fun u hS => by go_simp) ?_
            try go_simp
            refine plan_read (v := .pointer (some ⟨gC, k * 3, none⟩)) rfl rfl (fun u hS => exec_ixV0 u (.tmp 124) (.tmp 125) hkm rfl rfl rfl) ?_
            try go_simp
            refine plan_read (v := .pointer (some ⟨gC, k * 3 + 1, none⟩)) rfl rfl (fun u hS => by go_simp) ?_
            try go_simp
            refine plan_read (v := .int .i64 ((P k).2.1)) rfl rfl (fun u hS => exec_ldFixC (.tmp 127) rfl rfl (cur_cells (hS.g.blk (g := gC) (t := 24) (cs := cur) (by repeat (first | exact List.mem_cons_self | apply List.mem_cons_of_mem))) (unhide hcur) hkm).2.1) ?_
            try go_simp
            refine plan_read (v := .pointer (some ⟨g1, 1, none⟩)) rfl rfl (fun u hS => by go_simp) ?_
            try go_simp
            refine plan_read (v := .int .i64 Y) rfl rfl (fun u hS => exec_loadN_Fix (g := g1) (t := 24) (cs := v3 X Y Z) hS.g _ rfl rfl (by repeat (first | exact List.mem_cons_self | apply List.mem_cons_of_mem)) rfl) ?_
            try go_simp
            refine plan_read (v := .bool false) rfl rfl (fun u hS => exec_eqlS _ _ (unhide e0) rfl rfl rfl) ?_
            try go_simp
            refine plan_read (v := .bool false) rfl rfl (fun u hS => by go_simp) ?_
            try go_simp
            refine plan_read (v := .bool false) rfl rfl (fun u hS => by go_simp) ?_
            try go_simp
            refine plan_read (v := .slice (some ⟨gC, 0, none⟩) m cC) rfl rfl (fun u hS => by go_simp) ?_
            try go_simp
            refine plan_read (v := .int .i64 k) rfl rfl (fun u hS => by go_simp) ?_
            try go_simp
            refine plan_read (v := .pointer (some ⟨gC, k * 3, none⟩)) rfl rfl (fun u hS => exec_ixV0 u (.tmp 134) (.tmp 135) hkm rfl rfl rfl) ?_
            try go_simp
            refine plan_read (v := .pointer (some ⟨gC, k * 3 + 1, none⟩)) rfl rfl (fun u hS => by go_simp) ?_
            try go_simp
            refine plan_read (v := .int .i64 ((P k).2.1)) rfl rfl (fun u hS => exec_ldFixC (.tmp 137) rfl rfl (cur_cells (hS.g.blk (g := gC) (t := 24) (cs := cur) (by repeat (first | exact List.mem_cons_self | apply List.mem_cons_of_mem))) (unhide hcur) hkm).2.1) ?_
            try go_simp
            refine plan_read (v := .int .i64 (-(P k).2.1)) rfl rfl (fun u hS => exec_negS (.tmp 138) (unhide h_n2) rfl rfl) ?_
            try go_simp
            refine plan_read (v := .pointer (some ⟨g1, 1, none⟩)) rfl rfl (fun u hS => by go_simp) ?_
            try go_simp
            refine plan_read (v := .int .i64 Y) rfl rfl (fun u hS => exec_loadN_Fix (g := g1) (t := 24) (cs := v3 X Y Z) hS.g _ rfl rfl (by repeat (first | exact List.mem_cons_self | apply List.mem_cons_of_mem)) rfl) ?_
            try go_simp
            refine plan_read (v := .bool c2) rfl rfl (fun u hS => exec_eqlS _ _ (unhide e1) rfl rfl rfl) ?_
            try go_simp
            refine plan_read (v := .bool c2) rfl rfl (fun u hS => by go_simp) ?_
            try go_simp
            refine plan_read (v := .bool c2) rfl rfl (fun u hS => by go_simp) ?_
            try go_simp
            refine plan_end (fun u18 hS => ?_)
            have D := hide hS
            clear hS
            go_wp2
            go_meet
            case rel =>
              have hb0 := unhide hb
              exact ⟨congrArg Value.bool (show c2 = (anyR f1 k || f1 k) by rw [hb0, ← unhide hff]; rw [unhide e0, unhide e1]; rfl), D⟩
          · have e0 := hide h1
            clear h1
            refine region_plan (S := Gd w [(g1, 24, v3 X Y Z), (gC, 24, cur), (w.heap.size, 27, sh kd rr x y z A n cp)]) (l := [0, 1, 2, 3, 4, 5, 6, 7, 8, 9, 10, 11, 12, 13, 14, 15, 16, 17, 18, 19, 20, 21, 22]) (by kernel_rfl) (by kernel_rfl) (by kernel_rfl) (by kernel_rfl) (by kernel_rfl) (by kernel_rfl) (by kernel_rfl) (unhide D).drew ?_
            clear D
            refine plan_read (v := .bool false) rfl rfl (fun u hS => by go_simp) ?_
            try go_simp
            refine plan_read (v := .bool false) rfl rfl (fun u hS => by go_simp) ?_
            try go_simp
            refine plan_read (v := .slice (some ⟨gC, 0, none⟩) m cC) rfl rfl (fun u hS => by go_simp) ?_
            try go_simp
            refine plan_read (v := .int .i64 k) rfl rfl (fun u hS => by go_simp) ?_
            try go_simp
            refine plan_read (v := .pointer (some ⟨gC, k * 3, none⟩)) rfl rfl (fun u hS => exec_ixV0 u (.tmp 124) (.tmp 125) hkm rfl rfl rfl) ?_
            try go_simp
            refine plan_read (v := .pointer (some ⟨gC, k * 3 + 1, none⟩)) rfl rfl (fun u hS => by go_simp) ?_
            try go_simp
            refine plan_read (v := .int .i64 ((P k).2.1)) rfl rfl (fun u hS => exec_ldFixC (.tmp 127) rfl rfl (cur_cells (hS.g.blk (g := gC) (t := 24) (cs := cur) (by repeat (first | exact List.mem_cons_self | apply List.mem_cons_of_mem))) (unhide hcur) hkm).2.1) ?_
            try go_simp
            refine plan_read (v := .pointer (some ⟨g1, 1, none⟩)) rfl rfl (fun u hS => by go_simp) ?_
            try go_simp
            refine plan_read (v := .int .i64 Y) rfl rfl (fun u hS => exec_loadN_Fix (g := g1) (t := 24) (cs := v3 X Y Z) hS.g _ rfl rfl (by repeat (first | exact List.mem_cons_self | apply List.mem_cons_of_mem)) rfl) ?_
            try go_simp
            refine plan_read (v := .bool true) rfl rfl (fun u hS => exec_eqlS _ _ (unhide e0) rfl rfl rfl) ?_
            try go_simp
            refine plan_read (v := .bool true) rfl rfl (fun u hS => by go_simp) ?_
            try go_simp
            refine plan_read (v := .bool true) rfl rfl (fun u hS => by go_simp) ?_
            try go_simp
            refine plan_skip rfl ?_ ?_
            · rfl
            try go_simp
            refine plan_skip rfl ?_ ?_
            · rfl
            try go_simp
            refine plan_skip rfl ?_ ?_
            · rfl
            try go_simp
            refine plan_skip rfl ?_ ?_
            · rfl
            try go_simp
            refine plan_skip rfl ?_ ?_
            · rfl
            try go_simp
            refine plan_skip rfl ?_ ?_
            · rfl
            try go_simp
            refine plan_skip rfl ?_ ?_
            · rfl
            try go_simp
            refine plan_skip rfl ?_ ?_
            · rfl
            try go_simp
            refine plan_skip rfl ?_ ?_
            · rfl
            try go_simp
            refine plan_read (v := .bool true) rfl rfl (fun u hS => by go_simp) ?_
            try go_simp
            refine plan_read (v := .bool true) rfl rfl (fun u hS => by go_simp) ?_
            try go_simp
            refine plan_end (fun u18 hS => ?_)
            have D := hide hS
            clear hS
            go_wp2
            go_meet
            case rel =>
              have hb0 := unhide hb
              exact ⟨congrArg Value.bool (show true = (anyR f1 k || f1 k) by rw [hb0, ← unhide hff]; rw [unhide e0]; rfl), D⟩
        · refine region_plan (S := Gd w [(g1, 24, v3 X Y Z), (gC, 24, cur), (w.heap.size, 27, sh kd rr x y z A n cp)]) (l := [0, 1, 2, 3, 4, 5, 6, 7, 8, 9, 10, 11, 12, 13, 14, 15, 16, 17, 18, 19, 20, 21, 22]) (by kernel_rfl) (by kernel_rfl) (by kernel_rfl) (by kernel_rfl) (by kernel_rfl) (by kernel_rfl) (by kernel_rfl) (unhide D).drew ?_
          clear D
          refine plan_read (v := .bool true) rfl rfl (fun u hS => by go_simp) ?_
          try go_simp
          refine plan_read (v := .bool true) rfl rfl (fun u hS => by go_simp) ?_
          try go_simp
          refine plan_skip rfl ?_ ?_
          · rfl
          try go_simp
          refine plan_skip rfl ?_ ?_
          · rfl
          try go_simp
          refine plan_skip rfl ?_ ?_
          · rfl
          try go_simp
          refine plan_skip rfl ?_ ?_
          · rfl
          try go_simp
          refine plan_skip rfl ?_ ?_
          · rfl
          try go_simp
          refine plan_skip rfl ?_ ?_
          · rfl
          try go_simp
          refine plan_skip rfl ?_ ?_
          · rfl
          try go_simp
          refine plan_skip rfl ?_ ?_
          · rfl
          try go_simp
          refine plan_read (v := .bool true) rfl rfl (fun u hS => by go_simp) ?_
          try go_simp
          refine plan_read (v := .bool true) rfl rfl (fun u hS => by go_simp) ?_
          try go_simp
          refine plan_skip rfl ?_ ?_
          · rfl
          try go_simp
          refine plan_skip rfl ?_ ?_
          · rfl
          try go_simp
          refine plan_skip rfl ?_ ?_
          · rfl
          try go_simp
          refine plan_skip rfl ?_ ?_
          · rfl
          try go_simp
          refine plan_skip rfl ?_ ?_
          · rfl
          try go_simp
          refine plan_skip rfl ?_ ?_
          · rfl
          try go_simp
          refine plan_skip rfl ?_ ?_
          · rfl
          try go_simp
          refine plan_skip rfl ?_ ?_
          · rfl
          try go_simp
          refine plan_skip rfl ?_ ?_
          · rfl
          try go_simp
          refine plan_read (v := .bool true) rfl rfl (fun u hS => by go_simp) ?_
          try go_simp
          refine plan_read (v := .bool true) rfl rfl (fun u hS => by go_simp) ?_
          try go_simp
          refine plan_end (fun u18 hS => ?_)
          have D := hide hS
          clear hS
          go_wp2
          go_meet
          case rel =>
            have hb0 := unhide hb
            exact ⟨congrArg Value.bool (show true = (anyR f1 k || f1 k) by rw [hb0, ← unhide hff]; rfl), D⟩
      case rest =>
      obtain ⟨rfl, D⟩ := hcut
      go_upto_region 19 with fail
      go_cut [11] (fun s wx => s = .bool (anyR f2 (k + 1)) ∧ Hid (Gd w [(g1, 24, v3 X Y Z), (gC, 24, cur), (w.heap.size, 27, sh kd rr x y z A n cp)] wx))
      case first =>
        have hff := hide (unhide hF2 k)
        generalize hb : anyR f2 k = bb
        have hb := hide hb
        cases bb
        · cases h1 : decide (((P k).2.2 : Int) = Z)
          · have e0 := hide h1
            generalize h2 : decide ((-(P k).2.2 : Int) = Z) = c2
            have e1 := hide h2
            clear h1 h2
            refine region_plan (S := Gd w [(g1, 24, v3 X Y Z), (gC, 24, cur), (w.heap.size, 27, sh kd rr x y z A n cp)]) (l := [0, 1, 2, 3, 4, 5, 6, 7, 8, 9, 10, 11, 12, 13, 14, 15, 16, 17, 18, 19, 20, 21, 22]) (by kernel_rfl) (by kernel_rfl) (by kernel_rfl) (by kernel_rfl) (by kernel_rfl) (by kernel_rfl) (by kernel_rfl) (unhide D).drew ?_
            clear D
            refine plan_read (v := .bool false) rfl rfl (fun u hS => by go_simp) ?_
            try go_simp
            refine plan_read (v := .bool false) rfl rfl (fun u hS => by go_simp) ?_
            try go_simp
            refine plan_read (v := .slice (some ⟨gC, 0, none⟩) m cC) rfl rfl (fun u hS => by go_simp) ?_
            try go_simp
            refine plan_read (v := .int .i64 k) rfl rfl (fun u hS => by go_simp) ?_
            try go_simp
            refine plan_read (v := .pointer (some ⟨gC, k * 3, none⟩)) rfl rfl (fun u hS => exec_ixV0 u (.tmp 146) (.tmp 147) hkm rfl rfl rfl) ?_
            try go_simp
            refine plan_read (v := .pointer (some ⟨gC, k * 3 + 2, none⟩)) rfl rfl (fun u hS => by go_simp) ?_
            try go_simp
            refine plan_read (v := .int .i64 ((P k).2.2)) rfl rfl (fun u hS => exec_ldFixC (.tmp 149) rfl rfl (cur_cells (hS.g.blk (g := gC) (t := 24) (cs := cur) (by repeat (first | exact List.mem_cons_self | apply List.mem_cons_of_mem))) (unhide hcur) hkm).2.2) ?_
            try go_simp
            refine plan_read (v := .pointer (some ⟨g1, 2, none⟩)) rfl rfl (fun u hS => by go_simp) ?_
            try go_simp
            refine plan_read (v := .int .i64 Z) rfl rfl (fun u hS => exec_loadN_Fix (g := g1) (t := 24) (cs := v3 X Y Z) hS.g _ rfl rfl (by repeat (first | exact List.mem_cons_self | apply List.mem_cons_of_mem)) rfl) ?_
            try go_simp
            refine plan_read (v := .bool false) rfl rfl (fun u hS => exec_eqlS _ _ (unhide e0) rfl rfl rfl) ?_
            try go_simp
            refine plan_read (v := .bool false) rfl rfl (fun u hS => by go_simp) ?_
            try go_simp
            refine plan_read (v := .bool false) rfl rfl (fun u hS => by go_simp) ?_
            try go_simp
            refine plan_read (v := .slice (some ⟨gC, 0, none⟩) m cC) rfl rfl (fun u hS => by go_simp) ?_
            try go_simp
            refine plan_read (v := .int .i64 k) rfl rfl (fun u hS => by go_simp) ?_
            try go_simp
            refine plan_read (v := .pointer (some ⟨gC, k * 3, none⟩)) rfl rfl (fun u hS => exec_ixV0 u (.tmp 156) (.tmp 157) hkm rfl rfl rfl) ?_
            try go_simp
            refine plan_read (v := .pointer (some ⟨gC, k * 3 + 2, none⟩)) rfl rfl (fun u hS => by go_simp) ?_
            try go_simp
            refine plan_read (v := .int .i64 ((P k).2.2)) rfl rfl (fun u hS => exec_ldFixC (.tmp 159) rfl rfl (cur_cells (hS.g.blk (g := gC) (t := 24) (cs := cur) (by repeat (first | exact List.mem_cons_self | apply List.mem_cons_of_mem))) (unhide hcur) hkm).2.2) ?_
            try go_simp
            refine plan_read (v := .int .i64 (-(P k).2.2)) rfl rfl (fun u hS => exec_negS (.tmp 160) (unhide h_n3) rfl rfl) ?_
            try go_simp
            refine plan_read (v := .pointer (some ⟨g1, 2, none⟩)) rfl rfl (fun u hS => by go_simp) ?_
            try go_simp
            refine plan_read (v := .int .i64 Z) rfl rfl (fun u hS => exec_loadN_Fix (g := g1) (t := 24) (cs := v3 X Y Z) hS.g _ rfl rfl (by repeat (first | exact List.mem_cons_self | apply List.mem_cons_of_mem)) rfl) ?_
            try go_simp
            refine plan_read (v := .bool c2) rfl rfl (fun u hS => exec_eqlS _ _ (unhide e1) rfl rfl rfl) ?_
            try go_simp
            refine plan_read (v := .bool c2) rfl rfl (fun u hS => by go_simp) ?_
            try go_simp
            refine plan_read (v := .bool c2) rfl rfl (fun u hS => by go_simp) ?_
            try go_simp
            refine plan_end (fun u19 hS => ?_)
            have D := hide hS
            clear hS
            go_wp2
            go_meet
            case rel =>
              have hb0 := unhide hb
              exact ⟨congrArg Value.bool (show c2 = (anyR f2 k || f2 k) by rw [hb0, ← unhide hff]; rw [unhide e0, unhide e1]; rfl), D⟩
          · have e0 := hide h1
            clear h1
            refine region_plan (S := Gd w [(g1, 24, v3 X Y Z), (gC, 24, cur), (w.heap.size, 27, sh kd rr x y z A n cp)]) (l := [0, 1, 2, 3, 4, 5, 6, 7, 8, 9, 10, 11, 12, 13, 14, 15, 16, 17, 18, 19, 20, 21, 22]) (by kernel_rfl) (by kernel_rfl) (by kernel_rfl) (by kernel_rfl) (by kernel_rfl) (by kernel_rfl) (by kernel_rfl) (unhide D).drew ?_
            clear D
            refine plan_read (v := .bool false) rfl rfl (fun u hS => by go_simp) ?_
            try go_simp
            refine plan_read (v := .bool false) rfl rfl (fun u hS => by go_simp) ?_
            try go_simp
            refine plan_read (v := .slice (some ⟨gC, 0, none⟩) m cC) rfl rfl (fun u hS => by go_simp) ?_
            try go_simp
            refine plan_read (v := .int .i64 k) rfl rfl (fun u hS => by go_simp) ?_
            try go_simp
            refine plan_read (v := .pointer (some ⟨gC, k * 3, none⟩)) rfl rfl (fun u hS => exec_ixV0 u (.tmp 146) (.tmp 147) hkm rfl rfl rfl) ?_
            try go_simp
            refine plan_read (v := .pointer (some ⟨gC, k * 3 + 2, none⟩)) rfl rfl (fun u hS => by go_simp) ?_
            try go_simp
            refine plan_read (v := .int .i64 ((P k).2.2)) rfl rfl (fun u hS => exec_ldFixC (.tmp 149) rfl rfl (cur_cells (hS.g.blk (g := gC) (t := 24) (cs := cur) (by repeat (first | exact List.mem_cons_self | apply List.mem_cons_of_mem))) (unhide hcur) hkm).2.2) ?_
            try go_simp
            refine plan_read (v := .pointer (some ⟨g1, 2, none⟩)) rfl rfl (fun u hS => by go_simp) ?_
            try go_simp
            refine plan_read (v := .int .i64 Z) rfl rfl (fun u hS => exec_loadN_Fix (g := g1) (t := 24) (cs := v3 X Y Z) hS.g _ rfl rfl (by repeat (first | exact List.mem_cons_self | apply List.mem_cons_of_mem)) rfl) ?_
            try go_simp
            refine plan_read (v := .bool true) rfl rfl (fun u hS => exec_eqlS _ _ (unhide e0) rfl rfl rfl) ?_
            try go_simp
            refine plan_read (v := .bool true) rfl rfl (fun u hS => by go_simp) ?_
            try go_simp
            refine plan_read (v := .bool true) rfl rfl (fun u hS => by go_simp) ?_
            try go_simp
            refine plan_skip rfl ?_ ?_
            · rfl
            try go_simp
            refine plan_skip rfl ?_ ?_
            · rfl
            try go_simp
            refine plan_skip rfl ?_ ?_
            · rfl
            try go_simp
            refine plan_skip rfl ?_ ?_
            · rfl
            try go_simp
            refine plan_skip rfl ?_ ?_
            · rfl
            try go_simp
            refine plan_skip rfl ?_ ?_
            · rfl
            try go_simp
            refine plan_skip rfl ?_ ?_
            · rfl
            try go_simp
            refine plan_skip rfl ?_ ?_
            · rfl
            try go_simp
            refine plan_skip rfl ?_ ?_
            · rfl
            try go_simp
            refine plan_read (v := .bool true) rfl rfl (fun u hS => by go_simp) ?_
            try go_simp
            refine plan_read (v := .bool true) rfl rfl (fun u hS => by go_simp) ?_
            try go_simp
            refine plan_end (fun u19 hS => ?_)
            have D := hide hS
            clear hS
            go_wp2
            go_meet
            case rel =>
              have hb0 := unhide hb
              exact ⟨congrArg Value.bool (show true = (anyR f2 k || f2 k) by rw [hb0, ← unhide hff]; rw [unhide e0]; rfl), D⟩
        · refine region_plan (S := Gd w [(g1, 24, v3 X Y Z), (gC, 24, cur), (w.heap.size, 27, sh kd rr x y z A n cp)]) (l := [0, 1, 2, 3, 4, 5, 6, 7, 8, 9, 10, 11, 12, 13, 14, 15, 16, 17, 18, 19, 20, 21, 22]) (by kernel_rfl) (by kernel_rfl) (by kernel_rfl) (by kernel_rfl) (by kernel_rfl) (by kernel_rfl) (by kernel_rfl) (unhide D).drew ?_
          clear D
          refine plan_read (v := .bool true) rfl rfl (fun u hS => by go_simp) ?_
          try go_simp
          refine plan_read (v := .bool true) rfl rfl (fun u hS => by go_simp) ?_
          try go_simp
          refine plan_skip rfl ?_ ?_
          · rfl
          try go_simp
          refine plan_skip rfl ?_ ?_
          · rfl
          try go_simp
          refine plan_skip rfl ?_ ?_
          · rfl
          try go_simp
          refine plan_skip rfl ?_ ?_
          · rfl
          try go_simp
          refine plan_skip rfl ?_ ?_
          · rfl
          try go_simp
          refine plan_skip rfl ?_ ?_
          · rfl
          try go_simp
          refine plan_skip rfl ?_ ?_
          · rfl
          try go_simp
          refine plan_skip rfl ?_ ?_
          · rfl
          try go_simp
          refine plan_read (v := .bool true) rfl rfl (fun u hS => by go_simp) ?_
          try go_simp
          refine plan_read (v := .bool true) rfl rfl (fun u hS => by go_simp) ?_
          try go_simp
          refine plan_skip rfl ?_ ?_
          · rfl
          try go_simp
          refine plan_skip rfl ?_ ?_
          · rfl
          try go_simp
          refine plan_skip rfl ?_ ?_
          · rfl
          try go_simp
          refine plan_skip rfl ?_ ?_
          · rfl
          try go_simp
          refine plan_skip rfl ?_ ?_
          · rfl
          try go_simp
          refine plan_skip rfl ?_ ?_
          · rfl
          try go_simp
          refine plan_skip rfl ?_ ?_
          · rfl
          try go_simp
          refine plan_skip rfl ?_ ?_
          · rfl
          try go_simp
          refine plan_skip rfl ?_ ?_
          · rfl
          try go_simp
          refine plan_read (v := .bool true) rfl rfl (fun u hS => by go_simp) ?_
          try go_simp
          refine plan_read (v := .bool true) rfl rfl (fun u hS => by go_simp) ?_
          try go_simp
          refine plan_end (fun u19 hS => ?_)
          have D := hide hS
          clear hS
          go_wp2
          go_meet
          case rel =>
            have hb0 := unhide hb
            exact ⟨congrArg Value.bool (show true = (anyR f2 k || f2 k) by rw [hb0, ← unhide hff]; rfl), D⟩
      case rest =>
      obtain ⟨rfl, D⟩ := hcut
      go_upto_region 20 with fail
      have hff := hide (unhide hF3 k)
      generalize hb : anyR f3 k = bb
      have hb := hide hb
      cases bb
      · generalize h2 : decide ((lu k : Int) = Lm) = c2
        have e0 := hide h2
        clear h2
        refine region_plan (S := Gd w [(g1, 24, v3 X Y Z), (gC, 24, cur), (w.heap.size, 27, sh kd rr x y z A n cp)]) (l := [0, 1, 2, 3, 4, 5, 6, 7, 8, 9, 10, 11, 12, 13]) (by kernel_rfl) (by kernel_rfl) (by kernel_rfl) (by kernel_rfl) (by kernel_rfl) (by kernel_rfl) (by kernel_rfl) (unhide D).drew ?_
        clear D
        refine plan_read (v := .bool false) rfl rfl (fun u hS => by go_simp) ?_
        try go_simp
        refine plan_read (v := .bool false) rfl rfl (fun u hS => by go_simp) ?_
        try go_simp
        refine plan_read (v := .slice (some ⟨gC, 0, none⟩) m cC) rfl rfl (fun u hS => by go_simp) ?_
        try go_simp
        refine plan_read (v := .int .i64 k) rfl rfl (fun u hS => by go_simp) ?_
        try go_simp
        refine plan_read (v := .pointer (some ⟨gC, k * 3, none⟩)) rfl rfl (fun u hS => exec_ixV0 u (.tmp 168) (.tmp 169) hkm rfl rfl rfl) ?_
        try go_simp
        refine plan_read (v := .agg (v3 ((P k).1) ((P k).2.1) ((P k).2.2))) rfl rfl (fun u hS => exec_ldV (.tmp 170) rfl rfl (cur_range (hS.g.blk (g := gC) (t := 24) (cs := cur) (by repeat (first | exact List.mem_cons_self | apply List.mem_cons_of_mem))) (unhide hcur) hkm)) ?_
        try go_simp
        refine plan_call (v := .int .i64 (lu k)) (f := 27) (args := #[.agg (v3 ((P k).1) ((P k).2.1) ((P k).2.2))]) rfl rfl (fun u hS => by go_simp) (fun u hS => (unhide hLu u).mono fun _ _ ⟨he, hb⟩ => ⟨he, hS.keep hb⟩) ?_
        try go_simp
        refine plan_read (v := .int .i64 tt) rfl rfl (fun u hS => by go_simp) ?_
        try go_simp
        refine plan_read (v := .pointer (some ⟨w.heap.size, 1, none⟩)) rfl rfl (fun u hS => by go_simp) ?_
        try go_simp
        refine plan_read (v := .int .i64 rr) rfl rfl (fun u hS => exec_loadN_Fix (g := w.heap.size) (t := 27) (cs := sh kd rr x y z A n cp) hS.g _ rfl rfl (by repeat (first | exact List.mem_cons_self | apply List.mem_cons_of_mem)) rfl) ?_
        try go_simp
        refine plan_read (v := .int .i64 Lm) rfl rfl (fun u hS => exec_subS _ _ (unhide h_L) rfl rfl rfl) ?_
        try go_simp
        refine plan_read (v := .bool c2) rfl rfl (fun u hS => exec_eqlS _ _ (unhide e0) rfl rfl rfl) ?_
        try go_simp
        refine plan_read (v := .bool c2) rfl rfl (fun u hS => by go_simp) ?_
        try go_simp
        refine plan_read (v := .bool c2) rfl rfl (fun u hS => by go_simp) ?_
        try go_simp
        refine plan_end (fun u20 hS => ?_)
        have D := hide hS
        clear hS
        go_wp2
        go_roundw
        case rel =>
          have hb0 := unhide hb
          exact ⟨k + 1, by omega, by go_num, rfl, rfl, rfl, congrArg Value.bool (show c2 = (anyR f3 k || f3 k) by rw [hb0, ← unhide hff]; rw [unhide e0]; rfl), D⟩
        case measure => simp [intOf]; omega
      · refine region_plan (S := Gd w [(g1, 24, v3 X Y Z), (gC, 24, cur), (w.heap.size, 27, sh kd rr x y z A n cp)]) (l := [0, 1, 2, 3, 4, 5, 6, 7, 8, 9, 10, 11, 12, 13]) (by kernel_rfl) (by kernel_rfl) (by kernel_rfl) (by kernel_rfl) (by kernel_rfl) (by kernel_rfl) (by kernel_rfl) (unhide D).drew ?_
        clear D
        refine plan_read (v := .bool true) rfl rfl (fun u hS => by go_simp) ?_
        try go_simp
        refine plan_read (v := .bool true) rfl rfl (fun u hS => by go_simp) ?_
        try go_simp
        refine plan_skip rfl ?_ ?_
        · rfl
        try go_simp
        refine plan_skip rfl ?_ ?_
        · rfl
        try go_simp
        refine plan_skip rfl ?_ ?_
        · rfl
        try go_simp
        refine plan_skip rfl ?_ ?_
        · rfl
        try go_simp
        refine plan_skip rfl ?_ ?_
        · rfl
        try go_simp
        refine plan_skip rfl ?_ ?_
        · rfl
        try go_simp
        refine plan_skip rfl ?_ ?_
        · rfl
        try go_simp
        refine plan_skip rfl ?_ ?_
        · rfl
        try go_simp
        refine plan_skip rfl ?_ ?_
        · rfl
        try go_simp
        refine plan_skip rfl ?_ ?_
        · rfl
        try go_simp
        refine plan_read (v := .bool true) rfl rfl (fun u hS => by go_simp) ?_
        try go_simp
        refine plan_read (v := .bool true) rfl rfl (fun u hS => by go_simp) ?_
        try go_simp
        refine plan_end (fun u20 hS => ?_)
        have D := hide hS
        clear hS
        go_wp2
        go_roundw
        case rel =>
          have hb0 := unhide hb
          exact ⟨k + 1, by omega, by go_num, rfl, rfl, rfl, congrArg Value.bool (show true = (anyR f3 k || f3 k) by rw [hb0, ← unhide hff]; rfl), D⟩
        case measure => simp [intOf]; omega
    · obtain rfl : m = k := by omega
      rw [unhide hT0, unhide hT1, unhide hT2, unhide hT3]
      go_upto_region 21 with fail
      have D := hD
      clear hD
      refine list_start (S := Gd w [(g1, 24, v3 X Y Z), (gC, 24, cur), (w.heap.size, 27, sh kd rr x y z A n cp)]) (unhide D) ?_
      clear D
      refine list_read (v := .bool true) rfl rfl (fun u hS => by go_simp) ?_
      try go_simp
      refine list_read (v := .bool true) rfl rfl (fun u hS => by go_simp) ?_
      try go_simp
      refine list_read (v := .bool true) rfl rfl (fun u hS => by go_simp) ?_
      try go_simp
      refine list_read (v := .bool true) rfl rfl (fun u hS => by go_simp) ?_
      try go_simp
      refine list_read (v := .bool true) rfl rfl (fun u hS => by go_simp) ?_
      try go_simp
      refine list_read (v := .bool true) rfl rfl (fun u hS => by go_simp) ?_
      try go_simp
      refine list_read (v := .bool true) rfl rfl (fun u hS => by go_simp) ?_
      try go_simp
      refine list_read (v := .bool true) rfl rfl (fun u hS => by go_simp) ?_
      try go_simp
      refine list_read (v := .bool true) rfl rfl (fun u hS => by go_simp) ?_
      try go_simp
      refine list_read (v := .bool true) rfl rfl (fun u hS => by go_simp) ?_
      try go_simp
      refine list_read (v := .bool true) rfl rfl (fun u hS => by go_simp) ?_
      try go_simp
      refine list_call (v := .bool true) (f := 13) (args := #[]) rfl rfl (fun u hS => by go_simp) (fun u hS => (unhide hA u).mono fun _ _ ⟨he, hb⟩ => ⟨he, hS.keep hb⟩) ?_
      try go_simp
      refine list_read (v := .bool true) rfl rfl (fun u hS => by go_simp) ?_
      try go_simp
      refine list_read (v := .bool true) rfl rfl (fun u hS => by go_simp) ?_
      try go_simp
      refine list_end (fun u21 hS => ?_)
      have D := hide hS
      clear hS
      go_wp2
      go_ret
      exact ⟨rfl, (unhide D).g.o⟩
theorem within_any {f g : Nat → Int} {m : Nat} {X : Int} (hf : ∀ i, i < m → (f i = g i ∨ f i = -(g i))) (h0 : X = 0 → ∃ i, i < m ∧ f i = 0) (hX : X = 0 ∨ ∃ i, i < m ∧ f i = X) : anyR (fun i => decide (g i = X) || decide (-(g i) = X)) m = true := by
  have main : ∀ i, i < m → f i = X → anyR (fun i => decide (g i = X) || decide (-(g i) = X)) m = true := fun i hi h => anyR_of hi (by
    show (decide (g i = X) || decide (-(g i) = X)) = true
    rcases hf i hi with e | e
    · rw [decide_eq_true (show g i = X by omega)]; rfl
    · rw [decide_eq_true (show -(g i) = X by omega)]; simp)
  rcases hX with h | ⟨i, hi, h⟩
  · obtain ⟨i, hi, e⟩ := h0 h
    exact main i hi (by omega)
  · exact main i hi h
/-- Where the greatest of some numbers from 0 on is 0, the first one is. -/
theorem most_zero {f : Nat → Int} {m : Nat} (hm : 0 < m) (hf : ∀ i, i < m → 0 ≤ f i) (h : mostR f m = 0) : ∃ i, i < m ∧ f i = 0 := ⟨0, hm, by
  have h1 := mostR_ge f m 0 hm
  have h2 := hf 0 hm
  omega⟩
theorem shapeWithin_all (kd rr x y z : Int) (A : Option Addr) (n cp : Nat) (ps : Nat → Pt) (hn : n ≤ 9223372036854775807) (hr : I64 rr) (hx : I64 x) (hy : I64 y) (hz : I64 z) (w : World) (hP : PRow w A n ps) (hI : pI64 n ps) :
    Calls Tryz.prog 6 #[.agg (sh kd rr x y z A n cp)] w fun e w' => e = .returned (.bool true) ∧ Below w.heap.size w w' := by
  by_cases c1 : (100 : Int) < n
  · exact within_a kd rr x y z A n cp w (decide_eq_true c1) awake9Z
  have hn4 : n ≤ 400 := by omega
  have hH := fun u (hu : Below w.heap.size w u) => HalfS kd rr x y z A n cp ps u hn4 hr hx hy hz (hP.below hu) hI
  have hR := fun u (hu : Below w.heap.size w u) => ReachS kd rr x y z A n cp ps u hn4 hr hx hy hz (hP.below hu) hI
  by_cases h0 : chE kd rr x y z n ps = 0
  · have hC := fun u (hu : Below w.heap.size w u) => CoreYes kd rr x y z A n cp ps u hn4 hr hx hy hz (hP.below hu) hI h0
    obtain ⟨⟨r0, r1⟩, e1, e2, e3, e4, ⟨x0, x1⟩, ⟨y0, y1⟩, ⟨z0, z1⟩, l1⟩ := ha_facts hr hx hy hz hI h0
    have hM := coP_M hr hx hy hz hI h0
    have hm0 := (coN_pos h0).1
    rw [h0, e1, e2, e3] at hH
    rw [h0, e4] at hR
    have gx := mostR_ge (szX (coP kd x y z ps)) (coN kd n)
    have gy := mostR_ge (szY (coP kd x y z ps)) (coN kd n)
    have gz := mostR_ge (szZ (coP kd x y z ps)) (coN kd n)
    have gl := mostR_ge (luP (coP kd x y z ps)) (coN kd n)
    have ix := mostR_is (szX (coP kd x y z ps)) (coN kd n)
    have iy := mostR_is (szY (coP kd x y z ps)) (coN kd n)
    have iz := mostR_is (szZ (coP kd x y z ps)) (coN kd n)
    have il := mostR_is (luP (coP kd x y z ps)) (coN kd n)
    have zx := most_zero (f := szX (coP kd x y z ps)) hm0 (fun i hi => (asI_M (hM i hi).1).1)
    have zy := most_zero (f := szY (coP kd x y z ps)) hm0 (fun i hi => (asI_M (hM i hi).2.1).1)
    have zz := most_zero (f := szZ (coP kd x y z ps)) hm0 (fun i hi => (asI_M (hM i hi).2.2).1)
    have zl := most_zero (f := luP (coP kd x y z ps)) hm0 (fun i hi => (lu_facts (hM i hi).1 (hM i hi).2.1 (hM i hi).2.2).1)
    have sx := fun i (hi : i < coN kd n) => asI_M (hM i hi).1
    have sy := fun i (hi : i < coN kd n) => asI_M (hM i hi).2.1
    have sz := fun i (hi : i < coN kd n) => asI_M (hM i hi).2.2
    have fx : ∀ i, szX (coP kd x y z ps) i = asI (coP kd x y z ps i).1 := fun i => rfl
    have fy : ∀ i, szY (coP kd x y z ps) i = asI (coP kd x y z ps i).2.1 := fun i => rfl
    have fz : ∀ i, szZ (coP kd x y z ps) i = asI (coP kd x y z ps i).2.2 := fun i => rfl
    have hbel : ∀ i, i < coN kd n → Ans 26 #[.agg (v3 (coP kd x y z ps i).1 (coP kd x y z ps i).2.1 (coP kd x y z ps i).2.2), .agg (v3 (mostR (szX (coP kd x y z ps)) (coN kd n)) (mostR (szY (coP kd x y z ps)) (coN kd n)) (mostR (szZ (coP kd x y z ps)) (coN kd n)))] (.bool true) := fun i hi u => by
      have a1 := gx i hi
      have a2 := gy i hi
      have a3 := gz i hi
      obtain ⟨_, _, b1, b2, _⟩ := sx i hi
      obtain ⟨_, _, b3, b4, _⟩ := sy i hi
      obtain ⟨_, _, b5, b6, _⟩ := sz i hi
      rw [fx] at a1
      rw [fy] at a2
      rw [fz] at a3
      exact below_T _ _ _ _ _ _ u (wrap_M (hM i hi).1) (wrap_M (hM i hi).2.1) (wrap_M (hM i hi).2.2) (decide_eq_true (by omega)) (decide_eq_true (by omega)) (decide_eq_true (by omega)) (decide_eq_true (by omega)) (decide_eq_true (by omega)) (decide_eq_true (by omega))
    exact within_yes kd rr x y z A n cp (coN kd n) (coP kd x y z ps) (luP (coP kd x y z ps)) _ _ _ _ _ _ _ _ (mostR (szX (coP kd x y z ps)) (coN kd n)) (mostR (szY (coP kd x y z ps)) (coN kd n)) (mostR (szZ (coP kd x y z ps)) (coN kd n)) (mostR (luP (coP kd x y z ps)) (coN kd n)) w hm0 (by have := (coN_pos h0).2; omega)
      (fun i hi => ⟨wrap_M (hM i hi).1, wrap_M (hM i hi).2.1, wrap_M (hM i hi).2.2⟩) (fun i => rfl) (fun i => rfl) (fun i => rfl) (fun i => rfl)
      (within_any (f := szX (coP kd x y z ps)) (fun i hi => (sx i hi).2.2.2.2) zx ix) (within_any (f := szY (coP kd x y z ps)) (fun i hi => (sy i hi).2.2.2.2) zy iy) (within_any (f := szZ (coP kd x y z ps)) (fun i hi => (sz i hi).2.2.2.2) zz iz)
      (by
        rcases il with h | ⟨i, hi, h⟩
        · obtain ⟨i, hi, e⟩ := zl h
          exact anyR_of hi (decide_eq_true (e.trans h.symm))
        · exact anyR_of hi (decide_eq_true h))
      ((congrArg _ (Int.add_sub_cancel _ _)).trans (wrap_I ⟨by omega, by omega⟩)) ((congrArg _ (Int.add_sub_cancel _ _)).trans (wrap_I ⟨by omega, by omega⟩)) ((congrArg _ (Int.add_sub_cancel _ _)).trans (wrap_I ⟨by omega, by omega⟩)) ((congrArg _ (show rr + mostR (luP (coP kd x y z ps)) (coN kd n) - rr = _ by omega)).trans (wrap_I ⟨by have := mostR_nn (luP (coP kd x y z ps)) (coN kd n); omega, by omega⟩))
      hbel (fun i hi => VLenUpZ _ _ _ (inM_I64 (hM i hi).1) (inM_I64 (hM i hi).2.1) (inM_I64 (hM i hi).2.2)) (fun i hi => decide_eq_false (by have := gl i hi; omega)) awake9Z hC (decide_eq_false c1) hH hR
  · have hC := fun u (hu : Below w.heap.size w u) => CoreNo kd rr x y z A n cp ps u hn4 hr hx hy hz (hP.below hu) hI h0
    have g1 : haX kd rr x y z n ps = 0 := if_neg h0
    have g2 : haY kd rr x y z n ps = 0 := if_neg h0
    have g3 : haZ kd rr x y z n ps = 0 := if_neg h0
    have g4 : reI kd rr x y z n ps = 0 := if_neg h0
    rw [g1, g2, g3] at hH
    rw [g4] at hR
    exact within_b kd rr x y z A n cp _ w (decide_eq_false c1) hC hH hR (decide_eq_true rfl) (decide_eq_false h0) (sameV_selfI 0 0 0) awake9Z

end Go.Proofs.YtnemedgdhojhdaaGreat
