/- Package mat's laws: MatOne, MatTurned. -/
import Derived.Test.YtkhfmhiinalfoaaNl
namespace Go.Proofs.Ytkhfmhiinalfoaa
open Go.RowKit
set_option maxRecDepth 4000
set_option linter.unusedVariables false

set_option maxHeartbeats 8000000 in
theorem matOne_core (X A B T : Nat → Int) (x y z p q r : Int) (w : World) (e0 : sameV p q r x y z = true) (e1 : sameM A X = true) (e2 : sameM B X = true) (e3 : sameM T X = true) (hO : Hid (Ans 10 #[] (.agg (m9 (dg 4294967296 4294967296 4294967296))))) (hA : Hid (Ans 22 #[.agg (m9 (dg 4294967296 4294967296 4294967296)), .agg (v3 x y z)] (.agg (v3 p q r))))
    (hM : Hid (Ans 23 #[.agg (m9 (dg 4294967296 4294967296 4294967296)), .agg (m9 X)] (.agg (m9 A)))) (hM' : Hid (Ans 23 #[.agg (m9 X), .agg (m9 (dg 4294967296 4294967296 4294967296))] (.agg (m9 B)))) (hT : Hid (∀ X, Ans 15 #[.agg (m9 X)] (.agg (m9 (tr X))))) (hT2 : Hid (Ans 15 #[.agg (m9 (tr X))] (.agg (m9 T)))) (hW : Hid (Ans 17 #[] (.bool true))) :
    Calls Try.prog 6 #[.agg (m9 X), .agg (v3 x y z)] w fun e w' => e = .returned (.bool true) ∧ Below w.heap.size w w' := by
  have hT1 := hide (unhide hT X)
  go_enter Try.func6, Try.ntmps6
  go_upto_region 1 with fail
  have D := hide (((Gen.start w).push 27 (m9 X)).push 24 (v3 x y z))
  simp only [szA] at D
  generalize (w.alloc (.cells (m9 X) 27)).alloc (.cells (v3 x y z) 24) = w1 at D ⊢
  go_upto_region 2 with (first | (go_at_call 10; with_reducible refine (unhide hO _).mono ?_; rintro e w' ⟨he, hb⟩; subst he; have D := hide ((unhide D).keep hb); clear hb) | (with_reducible refine at_list ?_; refine stG (unhide D) rMat _ _ rfl rfl rfl rfl rfl rfl (m9_one _) ?_; intro D'; have D := hide D'; clear D'))
  refine region_plan (S := Gen w _) (l := [0, 1, 2, 3, 4, 5, 6, 7, 8, 9, 10, 11, 12, 13, 14, 15, 16, 17, 18, 19, 20, 21, 22, 23, 24, 25, 26, 27, 28, 29]) (by kernel_rfl) (by kernel_rfl) (by kernel_rfl) (by kernel_rfl) (by kernel_rfl) (by kernel_rfl) (by kernel_rfl) (unhide D).drew ?_
  clear D
  refine plan_read (v := .agg (m9 (dg 4294967296 4294967296 4294967296))) rfl rfl (fun u hS => exec_loadG hS rMat _ rfl rfl (by repeat (first | exact List.mem_cons_self | apply List.mem_cons_of_mem)) rfl) ?_
  try go_simp
  refine plan_read (v := .agg (v3 x y z)) rfl rfl (fun u hS => exec_loadG hS rVec _ rfl rfl (by repeat (first | exact List.mem_cons_self | apply List.mem_cons_of_mem)) rfl) ?_
  try go_simp
  refine plan_call (v := .agg (v3 p q r)) (f := 22) (args := #[.agg (m9 (dg 4294967296 4294967296 4294967296)), .agg (v3 x y z)]) rfl rfl (fun u hS => by go_simp) (fun u hS => (unhide hA u).mono fun _ _ ⟨he, hb⟩ => ⟨he, hS.keep hb⟩) ?_
  try go_simp
  refine plan_read (v := .agg (v3 x y z)) rfl rfl (fun u hS => exec_loadG hS rVec _ rfl rfl (by repeat (first | exact List.mem_cons_self | apply List.mem_cons_of_mem)) rfl) ?_
  try go_simp
  refine plan_read (v := .bool true) rfl rfl (fun u hS => exec_eql_vec _ _ _ e0 rfl rfl rfl) ?_
  try go_simp
  refine plan_read (v := ?_) rfl rfl (fun u hS => by go_simp; rfl) ?_
  try go_simp
  refine plan_read (v := .agg (m9 (dg 4294967296 4294967296 4294967296))) rfl rfl (fun u hS => exec_loadG hS rMat _ rfl rfl (by repeat (first | exact List.mem_cons_self | apply List.mem_cons_of_mem)) rfl) ?_
  try go_simp
  refine plan_read (v := .agg (m9 X)) rfl rfl (fun u hS => exec_loadG hS rMat _ rfl rfl (by repeat (first | exact List.mem_cons_self | apply List.mem_cons_of_mem)) rfl) ?_
  try go_simp
  refine plan_call (v := .agg (m9 A)) (f := 23) (args := #[.agg (m9 (dg 4294967296 4294967296 4294967296)), .agg (m9 X)]) rfl rfl (fun u hS => by go_simp) (fun u hS => (unhide hM u).mono fun _ _ ⟨he, hb⟩ => ⟨he, hS.keep hb⟩) ?_
  try go_simp
  refine plan_read (v := .agg (m9 X)) rfl rfl (fun u hS => exec_loadG hS rMat _ rfl rfl (by repeat (first | exact List.mem_cons_self | apply List.mem_cons_of_mem)) rfl) ?_
  try go_simp
  refine plan_read (v := .bool true) rfl rfl (fun u hS => exec_eql_mat _ _ _ e1 rfl rfl rfl) ?_
  try go_simp
  refine plan_read (v := ?_) rfl rfl (fun u hS => by go_simp; rfl) ?_
  try go_simp
  refine plan_read (v := ?_) rfl rfl (fun u hS => by go_simp; rfl) ?_
  try go_simp
  refine plan_read (v := .agg (m9 X)) rfl rfl (fun u hS => exec_loadG hS rMat _ rfl rfl (by repeat (first | exact List.mem_cons_self | apply List.mem_cons_of_mem)) rfl) ?_
  try go_simp
  refine plan_read (v := .agg (m9 (dg 4294967296 4294967296 4294967296))) rfl rfl (fun u hS => exec_loadG hS rMat _ rfl rfl (by repeat (first | exact List.mem_cons_self | apply List.mem_cons_of_mem)) rfl) ?_
  try go_simp
  refine plan_call (v := .agg (m9 B)) (f := 23) (args := #[.agg (m9 X), .agg (m9 (dg 4294967296 4294967296 4294967296))]) rfl rfl (fun u hS => by go_simp) (fun u hS => (unhide hM' u).mono fun _ _ ⟨he, hb⟩ => ⟨he, hS.keep hb⟩) ?_
  try go_simp
  refine plan_read (v := .agg (m9 X)) rfl rfl (fun u hS => exec_loadG hS rMat _ rfl rfl (by repeat (first | exact List.mem_cons_self | apply List.mem_cons_of_mem)) rfl) ?_
  try go_simp
  refine plan_read (v := .bool true) rfl rfl (fun u hS => exec_eql_mat _ _ _ e2 rfl rfl rfl) ?_
  try go_simp
  refine plan_read (v := ?_) rfl rfl (fun u hS => by go_simp; rfl) ?_
  try go_simp
  refine plan_read (v := ?_) rfl rfl (fun u hS => by go_simp; rfl) ?_
  try go_simp
  refine plan_read (v := .agg (m9 X)) rfl rfl (fun u hS => exec_loadG hS rMat _ rfl rfl (by repeat (first | exact List.mem_cons_self | apply List.mem_cons_of_mem)) rfl) ?_
  try go_simp
  refine plan_call (v := .agg (m9 (tr X))) (f := 15) (args := #[.agg (m9 X)]) rfl rfl (fun u hS => by go_simp) (fun u hS => (unhide hT1 u).mono fun _ _ ⟨he, hb⟩ => ⟨he, hS.keep hb⟩) ?_
  try go_simp
  refine plan_call (v := .agg (m9 T)) (f := 15) (args := #[.agg (m9 (tr X))]) rfl rfl (fun u hS => by go_simp) (fun u hS => (unhide hT2 u).mono fun _ _ ⟨he, hb⟩ => ⟨he, hS.keep hb⟩) ?_
  try go_simp
  refine plan_read (v := .agg (m9 X)) rfl rfl (fun u hS => exec_loadG hS rMat _ rfl rfl (by repeat (first | exact List.mem_cons_self | apply List.mem_cons_of_mem)) rfl) ?_
  try go_simp
  refine plan_read (v := .bool true) rfl rfl (fun u hS => exec_eql_mat _ _ _ e3 rfl rfl rfl) ?_
  try go_simp
  refine plan_read (v := ?_) rfl rfl (fun u hS => by go_simp; rfl) ?_
  try go_simp
  refine plan_read (v := ?_) rfl rfl (fun u hS => by go_simp; rfl) ?_
  try go_simp
  refine plan_call (v := .bool true) (f := 17) (args := #[]) rfl rfl (fun u hS => by go_simp) (fun u hS => (unhide hW u).mono fun _ _ ⟨he, hb⟩ => ⟨he, hS.keep hb⟩) ?_
  try go_simp
  refine plan_read (v := ?_) rfl rfl (fun u hS => by go_simp; rfl) ?_
  try go_simp
  refine plan_read (v := ?_) rfl rfl (fun u hS => by go_simp; rfl) ?_
  try go_simp
  refine plan_end (fun u hS => ?_)
  have O := hide hS.o
  clear hS
  go_wp2
  go_ret
  exact ⟨rfl, unhide O⟩

theorem one_quot {n m : Int} (h : n = m * 4294967296) (hm : I64 m) : cl (n / 4294967296) = m := by
  rw [h, Int.mul_ediv_cancel _ (by decide)]
  exact cl_self hm
theorem apI_one {x y z : Int} (hx : I64 x) (hy : I64 y) (hz : I64 z) : sameV (apI (dg 4294967296 4294967296 4294967296) x y z 0) (apI (dg 4294967296 4294967296 4294967296) x y z 1) (apI (dg 4294967296 4294967296 4294967296) x y z 2) x y z = true := by
  have a0 : apI (dg 4294967296 4294967296 4294967296) x y z 0 = x := one_quot (by show 4294967296 * x + 0 * y + 0 * z = _; omega) hx
  have a1 : apI (dg 4294967296 4294967296 4294967296) x y z 1 = y := one_quot (by show 0 * x + 4294967296 * y + 0 * z = _; omega) hy
  have a2 : apI (dg 4294967296 4294967296 4294967296) x y z 2 = z := one_quot (by show 0 * x + 0 * y + 4294967296 * z = _; omega) hz
  rw [a0, a1, a2]
  simp [sameV]
theorem muI_one {X : Nat → Int} (hX : ∀ j, I64 (X j)) : sameM (muI (dg 4294967296 4294967296 4294967296) X) X = true := sameM_of fun j hj => by
  rcases (show j = 0 ∨ j = 1 ∨ j = 2 ∨ j = 3 ∨ j = 4 ∨ j = 5 ∨ j = 6 ∨ j = 7 ∨ j = 8 by omega) with rfl | rfl | rfl | rfl | rfl | rfl | rfl | rfl | rfl
  · exact one_quot (by show 4294967296 * X 0 + 0 * X 3 + 0 * X 6 = _; omega) (hX _)
  · exact one_quot (by show 4294967296 * X 1 + 0 * X 4 + 0 * X 7 = _; omega) (hX _)
  · exact one_quot (by show 4294967296 * X 2 + 0 * X 5 + 0 * X 8 = _; omega) (hX _)
  · exact one_quot (by show 0 * X 0 + 4294967296 * X 3 + 0 * X 6 = _; omega) (hX _)
  · exact one_quot (by show 0 * X 1 + 4294967296 * X 4 + 0 * X 7 = _; omega) (hX _)
  · exact one_quot (by show 0 * X 2 + 4294967296 * X 5 + 0 * X 8 = _; omega) (hX _)
  · exact one_quot (by show 0 * X 0 + 0 * X 3 + 4294967296 * X 6 = _; omega) (hX _)
  · exact one_quot (by show 0 * X 1 + 0 * X 4 + 4294967296 * X 7 = _; omega) (hX _)
  · exact one_quot (by show 0 * X 2 + 0 * X 5 + 4294967296 * X 8 = _; omega) (hX _)
theorem muI_one' {X : Nat → Int} (hX : ∀ j, I64 (X j)) : sameM (muI X (dg 4294967296 4294967296 4294967296)) X = true := sameM_of fun j hj => by
  rcases (show j = 0 ∨ j = 1 ∨ j = 2 ∨ j = 3 ∨ j = 4 ∨ j = 5 ∨ j = 6 ∨ j = 7 ∨ j = 8 by omega) with rfl | rfl | rfl | rfl | rfl | rfl | rfl | rfl | rfl
  · exact one_quot (by show X 0 * 4294967296 + X 1 * 0 + X 2 * 0 = _; omega) (hX _)
  · exact one_quot (by show X 0 * 0 + X 1 * 4294967296 + X 2 * 0 = _; omega) (hX _)
  · exact one_quot (by show X 0 * 0 + X 1 * 0 + X 2 * 4294967296 = _; omega) (hX _)
  · exact one_quot (by show X 3 * 4294967296 + X 4 * 0 + X 5 * 0 = _; omega) (hX _)
  · exact one_quot (by show X 3 * 0 + X 4 * 4294967296 + X 5 * 0 = _; omega) (hX _)
  · exact one_quot (by show X 3 * 0 + X 4 * 0 + X 5 * 4294967296 = _; omega) (hX _)
  · exact one_quot (by show X 6 * 4294967296 + X 7 * 0 + X 8 * 0 = _; omega) (hX _)
  · exact one_quot (by show X 6 * 0 + X 7 * 4294967296 + X 8 * 0 = _; omega) (hX _)
  · exact one_quot (by show X 6 * 0 + X 7 * 0 + X 8 * 4294967296 = _; omega) (hX _)
theorem tr_tr (X : Nat → Int) : sameM (tr (tr X)) X = true := sameM_of fun j hj => by
  rcases (show j = 0 ∨ j = 1 ∨ j = 2 ∨ j = 3 ∨ j = 4 ∨ j = 5 ∨ j = 6 ∨ j = 7 ∨ j = 8 by omega) with rfl | rfl | rfl | rfl | rfl | rfl | rfl | rfl | rfl <;> rfl
theorem matOne_walk (X0 : Nat → Int) (x1 y1 z1 : Int) (k0 : ∀ j, (Lit.int .i64 (X0 j)).wf = true) (k1 : (Lit.int .i64 x1).wf = true) (l1 : (Lit.int .i64 y1).wf = true) (m1 : (Lit.int .i64 z1).wf = true) (w : World) :
    Calls Try.prog 6 #[.agg (m9 X0), .agg (v3 x1 y1 z1)] w fun e w' => e = .returned (.bool true) ∧ Below w.heap.size w w' := by
  have hX : ∀ j, I64 (X0 j) := fun j => I64.wf (k0 j)
  have h1 := I64.wf k1
  have h2 := I64.wf l1
  have h3 := I64.wf m1
  have hE := dg_64 aw_i5 aw_i5 aw_i5
  exact matOne_core X0 _ _ _ x1 y1 z1 _ _ _ w (apI_one h1 h2 h3) (muI_one hX) (muI_one' hX) (tr_tr X0) OneZ (ApplyZ hE h1 h2 h3) (MulMZ hE hX) (MulMZ hX hE) TurnedZ (TurnedZ _) Awake4Z

set_option maxHeartbeats 8000000 in
theorem matTurned_core (X Y M C T Be U : Nat → Int) (x y z : Int) (w : World) (e0 : sameM T C = true) (e1 : sameM U Be = true) (hB : Hid (Ans 20 #[.agg (m9 X), .agg (v3 x y z)] (.agg (m9 Be)))) (hM : Hid (Ans 23 #[.agg (m9 X), .agg (m9 Y)] (.agg (m9 M)))) (hM' : Hid (Ans 23 #[.agg (m9 (tr Y)), .agg (m9 (tr X))] (.agg (m9 C))))
    (hT : Hid (∀ X, Ans 15 #[.agg (m9 X)] (.agg (m9 (tr X))))) (hTM : Hid (Ans 15 #[.agg (m9 M)] (.agg (m9 T)))) (hTB : Hid (Ans 15 #[.agg (m9 Be)] (.agg (m9 U)))) (hW : Hid (Ans 17 #[] (.bool true))) :
    Calls Try.prog 7 #[.agg (m9 X), .agg (m9 Y), .agg (v3 x y z)] w fun e w' => e = .returned (.bool true) ∧ Below w.heap.size w w' := by
  have hTX := hide (unhide hT X)
  have hTY := hide (unhide hT Y)
  go_enter Try.func7, Try.ntmps7
  go_upto_region 1 with fail
  have D := hide ((((Gen.start w).push 27 (m9 X)).push 27 (m9 Y)).push 24 (v3 x y z))
  simp only [szA] at D
  generalize ((w.alloc (.cells (m9 X) 27)).alloc (.cells (m9 Y) 27)).alloc (.cells (v3 x y z) 24) = w1 at D ⊢
  go_upto_region 2 with (first | (with_reducible refine at_list ?_; apply ldG (unhide D) rMat _ rfl rfl rfl (by repeat (first | exact List.mem_cons_self | apply List.mem_cons_of_mem)) rfl) | (with_reducible refine at_list ?_; apply ldG (unhide D) rVec _ rfl rfl rfl (by repeat (first | exact List.mem_cons_self | apply List.mem_cons_of_mem)) rfl) | (go_at_call 20; with_reducible refine (unhide hB _).mono ?_; rintro e w' ⟨he, hb⟩; subst he; have D := hide ((unhide D).keep hb); clear hb) | (with_reducible refine at_list ?_; refine stG (unhide D) rMat _ _ rfl rfl rfl rfl rfl rfl (m9_one _) ?_; intro D'; have D := hide D'; clear D'))
  refine region_plan (S := Gen w _) (l := [0, 1, 2, 3, 4, 5, 6, 7, 8, 9, 10, 11, 12, 13, 14, 15, 16, 17, 18, 19]) (by kernel_rfl) (by kernel_rfl) (by kernel_rfl) (by kernel_rfl) (by kernel_rfl) (by kernel_rfl) (by kernel_rfl) (unhide D).drew ?_
  clear D
  refine plan_read (v := .agg (m9 X)) rfl rfl (fun u hS => exec_loadG hS rMat _ rfl rfl (by repeat (first | exact List.mem_cons_self | apply List.mem_cons_of_mem)) rfl) ?_
  try go_simp
  refine plan_read (v := .agg (m9 Y)) rfl rfl (fun u hS => exec_loadG hS rMat _ rfl rfl (by repeat (first | exact List.mem_cons_self | apply List.mem_cons_of_mem)) rfl) ?_
  try go_simp
  refine plan_call (v := .agg (m9 M)) (f := 23) (args := #[.agg (m9 X), .agg (m9 Y)]) rfl rfl (fun u hS => by go_simp) (fun u hS => (unhide hM u).mono fun _ _ ⟨he, hb⟩ => ⟨he, hS.keep hb⟩) ?_
  try go_simp
  refine plan_call (v := .agg (m9 T)) (f := 15) (args := #[.agg (m9 M)]) rfl rfl (fun u hS => by go_simp) (fun u hS => (unhide hTM u).mono fun _ _ ⟨he, hb⟩ => ⟨he, hS.keep hb⟩) ?_
  try go_simp
  refine plan_read (v := .agg (m9 Y)) rfl rfl (fun u hS => exec_loadG hS rMat _ rfl rfl (by repeat (first | exact List.mem_cons_self | apply List.mem_cons_of_mem)) rfl) ?_
  try go_simp
  refine plan_call (v := .agg (m9 (tr Y))) (f := 15) (args := #[.agg (m9 Y)]) rfl rfl (fun u hS => by go_simp) (fun u hS => (unhide hTY u).mono fun _ _ ⟨he, hb⟩ => ⟨he, hS.keep hb⟩) ?_
  try go_simp
  refine plan_read (v := .agg (m9 X)) rfl rfl (fun u hS => exec_loadG hS rMat _ rfl rfl (by repeat (first | exact List.mem_cons_self | apply List.mem_cons_of_mem)) rfl) ?_
  try go_simp
  refine plan_call (v := .agg (m9 (tr X))) (f := 15) (args := #[.agg (m9 X)]) rfl rfl (fun u hS => by go_simp) (fun u hS => (unhide hTX u).mono fun _ _ ⟨he, hb⟩ => ⟨he, hS.keep hb⟩) ?_
  try go_simp
  refine plan_call (v := .agg (m9 C)) (f := 23) (args := #[.agg (m9 (tr Y)), .agg (m9 (tr X))]) rfl rfl (fun u hS => by go_simp) (fun u hS => (unhide hM' u).mono fun _ _ ⟨he, hb⟩ => ⟨he, hS.keep hb⟩) ?_
  try go_simp
  refine plan_read (v := .bool true) rfl rfl (fun u hS => exec_eql_mat _ _ _ e0 rfl rfl rfl) ?_
  try go_simp
  refine plan_read (v := ?_) rfl rfl (fun u hS => by go_simp; rfl) ?_
  try go_simp
  refine plan_read (v := .agg (m9 Be)) rfl rfl (fun u hS => exec_loadG hS rMat _ rfl rfl (by repeat (first | exact List.mem_cons_self | apply List.mem_cons_of_mem)) rfl) ?_
  try go_simp
  refine plan_call (v := .agg (m9 U)) (f := 15) (args := #[.agg (m9 Be)]) rfl rfl (fun u hS => by go_simp) (fun u hS => (unhide hTB u).mono fun _ _ ⟨he, hb⟩ => ⟨he, hS.keep hb⟩) ?_
  try go_simp
  refine plan_read (v := .agg (m9 Be)) rfl rfl (fun u hS => exec_loadG hS rMat _ rfl rfl (by repeat (first | exact List.mem_cons_self | apply List.mem_cons_of_mem)) rfl) ?_
  try go_simp
  refine plan_read (v := .bool true) rfl rfl (fun u hS => exec_eql_mat _ _ _ e1 rfl rfl rfl) ?_
  try go_simp
  refine plan_read (v := ?_) rfl rfl (fun u hS => by go_simp; rfl) ?_
  try go_simp
  refine plan_read (v := ?_) rfl rfl (fun u hS => by go_simp; rfl) ?_
  try go_simp
  refine plan_call (v := .bool true) (f := 17) (args := #[]) rfl rfl (fun u hS => by go_simp) (fun u hS => (unhide hW u).mono fun _ _ ⟨he, hb⟩ => ⟨he, hS.keep hb⟩) ?_
  try go_simp
  refine plan_read (v := ?_) rfl rfl (fun u hS => by go_simp; rfl) ?_
  try go_simp
  refine plan_read (v := ?_) rfl rfl (fun u hS => by go_simp; rfl) ?_
  try go_simp
  refine plan_end (fun u hS => ?_)
  have O := hide hS.o
  clear hS
  go_wp2
  go_ret
  exact ⟨rfl, unhide O⟩

theorem mul_tr (X Y : Nat → Int) : sameM (tr (muI X Y)) (muI (tr Y) (tr X)) = true := sameM_of fun j hj => by
  rcases (show j = 0 ∨ j = 1 ∨ j = 2 ∨ j = 3 ∨ j = 4 ∨ j = 5 ∨ j = 6 ∨ j = 7 ∨ j = 8 by omega) with rfl | rfl | rfl | rfl | rfl | rfl | rfl | rfl | rfl
  · show cl ((X 0 * Y 0 + X 1 * Y 3 + X 2 * Y 6) / 4294967296) = cl ((Y 0 * X 0 + Y 3 * X 1 + Y 6 * X 2) / 4294967296)
    rw [Int.mul_comm (X 0) (Y 0), Int.mul_comm (X 1) (Y 3), Int.mul_comm (X 2) (Y 6)]
  · show cl ((X 3 * Y 0 + X 4 * Y 3 + X 5 * Y 6) / 4294967296) = cl ((Y 0 * X 3 + Y 3 * X 4 + Y 6 * X 5) / 4294967296)
    rw [Int.mul_comm (X 3) (Y 0), Int.mul_comm (X 4) (Y 3), Int.mul_comm (X 5) (Y 6)]
  · show cl ((X 6 * Y 0 + X 7 * Y 3 + X 8 * Y 6) / 4294967296) = cl ((Y 0 * X 6 + Y 3 * X 7 + Y 6 * X 8) / 4294967296)
    rw [Int.mul_comm (X 6) (Y 0), Int.mul_comm (X 7) (Y 3), Int.mul_comm (X 8) (Y 6)]
  · show cl ((X 0 * Y 1 + X 1 * Y 4 + X 2 * Y 7) / 4294967296) = cl ((Y 1 * X 0 + Y 4 * X 1 + Y 7 * X 2) / 4294967296)
    rw [Int.mul_comm (X 0) (Y 1), Int.mul_comm (X 1) (Y 4), Int.mul_comm (X 2) (Y 7)]
  · show cl ((X 3 * Y 1 + X 4 * Y 4 + X 5 * Y 7) / 4294967296) = cl ((Y 1 * X 3 + Y 4 * X 4 + Y 7 * X 5) / 4294967296)
    rw [Int.mul_comm (X 3) (Y 1), Int.mul_comm (X 4) (Y 4), Int.mul_comm (X 5) (Y 7)]
  · show cl ((X 6 * Y 1 + X 7 * Y 4 + X 8 * Y 7) / 4294967296) = cl ((Y 1 * X 6 + Y 4 * X 7 + Y 7 * X 8) / 4294967296)
    rw [Int.mul_comm (X 6) (Y 1), Int.mul_comm (X 7) (Y 4), Int.mul_comm (X 8) (Y 7)]
  · show cl ((X 0 * Y 2 + X 1 * Y 5 + X 2 * Y 8) / 4294967296) = cl ((Y 2 * X 0 + Y 5 * X 1 + Y 8 * X 2) / 4294967296)
    rw [Int.mul_comm (X 0) (Y 2), Int.mul_comm (X 1) (Y 5), Int.mul_comm (X 2) (Y 8)]
  · show cl ((X 3 * Y 2 + X 4 * Y 5 + X 5 * Y 8) / 4294967296) = cl ((Y 2 * X 3 + Y 5 * X 4 + Y 8 * X 5) / 4294967296)
    rw [Int.mul_comm (X 3) (Y 2), Int.mul_comm (X 4) (Y 5), Int.mul_comm (X 5) (Y 8)]
  · show cl ((X 6 * Y 2 + X 7 * Y 5 + X 8 * Y 8) / 4294967296) = cl ((Y 2 * X 6 + Y 5 * X 7 + Y 8 * X 8) / 4294967296)
    rw [Int.mul_comm (X 6) (Y 2), Int.mul_comm (X 7) (Y 5), Int.mul_comm (X 8) (Y 8)]
theorem be_tr (X : Nat → Int) (x y z : Int) : sameM (tr (beI X x y z)) (beI X x y z) = true := sameM_of fun j hj => by
  rcases (show j = 0 ∨ j = 1 ∨ j = 2 ∨ j = 3 ∨ j = 4 ∨ j = 5 ∨ j = 6 ∨ j = 7 ∨ j = 8 by omega) with rfl | rfl | rfl | rfl | rfl | rfl | rfl | rfl | rfl
  · rfl
  · show cl ((X 3 * x * X 0 + X 4 * y * X 1 + X 5 * z * X 2) / 18446744073709551616) = cl ((X 0 * x * X 3 + X 1 * y * X 4 + X 2 * z * X 5) / 18446744073709551616)
    rw [show X 3 * x * X 0 + X 4 * y * X 1 + X 5 * z * X 2 = X 0 * x * X 3 + X 1 * y * X 4 + X 2 * z * X 5 by grind]
  · show cl ((X 6 * x * X 0 + X 7 * y * X 1 + X 8 * z * X 2) / 18446744073709551616) = cl ((X 0 * x * X 6 + X 1 * y * X 7 + X 2 * z * X 8) / 18446744073709551616)
    rw [show X 6 * x * X 0 + X 7 * y * X 1 + X 8 * z * X 2 = X 0 * x * X 6 + X 1 * y * X 7 + X 2 * z * X 8 by grind]
  · show cl ((X 0 * x * X 3 + X 1 * y * X 4 + X 2 * z * X 5) / 18446744073709551616) = cl ((X 3 * x * X 0 + X 4 * y * X 1 + X 5 * z * X 2) / 18446744073709551616)
    rw [show X 0 * x * X 3 + X 1 * y * X 4 + X 2 * z * X 5 = X 3 * x * X 0 + X 4 * y * X 1 + X 5 * z * X 2 by grind]
  · rfl
  · show cl ((X 6 * x * X 3 + X 7 * y * X 4 + X 8 * z * X 5) / 18446744073709551616) = cl ((X 3 * x * X 6 + X 4 * y * X 7 + X 5 * z * X 8) / 18446744073709551616)
    rw [show X 6 * x * X 3 + X 7 * y * X 4 + X 8 * z * X 5 = X 3 * x * X 6 + X 4 * y * X 7 + X 5 * z * X 8 by grind]
  · show cl ((X 0 * x * X 6 + X 1 * y * X 7 + X 2 * z * X 8) / 18446744073709551616) = cl ((X 6 * x * X 0 + X 7 * y * X 1 + X 8 * z * X 2) / 18446744073709551616)
    rw [show X 0 * x * X 6 + X 1 * y * X 7 + X 2 * z * X 8 = X 6 * x * X 0 + X 7 * y * X 1 + X 8 * z * X 2 by grind]
  · show cl ((X 3 * x * X 6 + X 4 * y * X 7 + X 5 * z * X 8) / 18446744073709551616) = cl ((X 6 * x * X 3 + X 7 * y * X 4 + X 8 * z * X 5) / 18446744073709551616)
    rw [show X 3 * x * X 6 + X 4 * y * X 7 + X 5 * z * X 8 = X 6 * x * X 3 + X 7 * y * X 4 + X 8 * z * X 5 by grind]
  · rfl
theorem matTurned_walk (X0 X1 : Nat → Int) (x2 y2 z2 : Int) (k0 : ∀ j, (Lit.int .i64 (X0 j)).wf = true) (k1 : ∀ j, (Lit.int .i64 (X1 j)).wf = true) (k2 : (Lit.int .i64 x2).wf = true) (l2 : (Lit.int .i64 y2).wf = true) (m2 : (Lit.int .i64 z2).wf = true) (w : World) :
    Calls Try.prog 7 #[.agg (m9 X0), .agg (m9 X1), .agg (v3 x2 y2 z2)] w fun e w' => e = .returned (.bool true) ∧ Below w.heap.size w w' := by
  have hX : ∀ j, I64 (X0 j) := fun j => I64.wf (k0 j)
  have hY : ∀ j, I64 (X1 j) := fun j => I64.wf (k1 j)
  exact matTurned_core X0 X1 _ _ _ _ _ x2 y2 z2 w (mul_tr X0 X1) (be_tr X0 x2 y2 z2) (BetweenZ hX (I64.wf k2) (I64.wf l2) (I64.wf m2)) (MulMZ hX hY) (MulMZ (tr_64 hY) (tr_64 hX)) TurnedZ (TurnedZ _) (TurnedZ _) Awake4Z

end Go.Proofs.Ytkhfmhiinalfoaa
