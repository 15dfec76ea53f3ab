/- Package vec's laws beside the document's own numbers: VecSums, VecDot, VecCross. -/
import Derived.Test.YtljggjnaolbapaaGreatSa
namespace Go.Proofs.YtljggjnaolbapaaGreat
open Go.RowKit
set_option maxRecDepth 4000
set_option linter.unusedVariables false

theorem exec_eqlR {o : Oper} {a : Act} (w : World) (p q : Operand) {x y : Int} {k : IntKind} {ty ty' : TypeId} {b : Bool} (hb : (x == y) = b) (ho : o.op = .binOp .eql ty p q ty') (hx : a.eval p = .int k x) (hy : a.eval q = .int k y) : (execOp a.eval o).run Tryz.prog w = .ok (.value (.bool b)) w := by
  subst hb
  unfold execOp
  simp only [ho, hx, hy]
  go_simp
theorem sameV_self (x y z : Int) : sameV x y z x y z = true := by simp [sameV]
set_option maxHeartbeats 4000000 in
theorem VecSums_core (ax ay az bx b_y bz_ k sx sy sz dx dy dz mx my mz : Int) (w : World) (h0 : Hid (Ans 11 #[.agg (v3 ax ay az), .agg (v3 bx b_y bz_)] (.agg (v3 sx sy sz)))) (h1 : Hid (Ans 12 #[.agg (v3 ax ay az), .agg (v3 bx b_y bz_)] (.agg (v3 sx sy sz)))) (h2 : Hid (Ans 13 #[.agg (v3 ax ay az), .agg (v3 bx b_y bz_)] (.agg (v3 dx dy dz)))) (h3 : Hid (Ans 14 #[.agg (v3 ax ay az), .agg (v3 bx b_y bz_)] (.agg (v3 dx dy dz)))) (h4 : Hid (Ans 15 #[.agg (v3 ax ay az), .int .i64 k] (.agg (v3 mx my mz)))) (h5 : Hid (Ans 16 #[.agg (v3 ax ay az), .int .i64 k] (.agg (v3 mx my mz)))) :
    Calls Tryz.prog 3 #[.agg (v3 ax ay az), .agg (v3 bx b_y bz_), .int .i64 k] w fun e w' => e = .returned (.bool true) ∧ Below w.heap.size w w' := by
  go_enter Tryz.func3, Tryz.ntmps3
  go_upto_region 1 with fail
  have D := hide (((Gen.start w).push 24 (v3 ax ay az)).push 24 (v3 bx b_y bz_))
  simp only [szA] at D
  refine region_plan (S := Gen w _) (l := [0, 1, 2, 3, 4, 5, 6, 7, 8, 9, 10, 11, 12, 13, 14, 15, 16, 17, 18, 19, 20, 21, 22, 23, 24, 25, 26, 27, 28]) (by kernel_rfl) (by kernel_rfl) (by kernel_rfl) (by kernel_rfl) (by kernel_rfl) (by kernel_rfl) (by kernel_rfl) (unhide D).drew ?_
  clear D
  refine plan_read (v := .agg (v3 ax ay az)) rfl rfl (fun u hS => exec_loadG hS rVec _ rfl rfl (by repeat (first | exact List.mem_cons_self | apply List.mem_cons_of_mem)) rfl) ?_
  go_simp
  refine plan_read (v := .agg (v3 bx b_y bz_)) rfl rfl (fun u hS => exec_loadG hS rVec _ rfl rfl (by repeat (first | exact List.mem_cons_self | apply List.mem_cons_of_mem)) rfl) ?_
  go_simp
  refine plan_call (v := .agg (v3 sx sy sz)) (f := 11) (args := #[.agg (v3 ax ay az), .agg (v3 bx b_y bz_)]) rfl rfl (fun u hS => by go_simp) (fun u hS => (unhide h0 u).mono fun _ _ ⟨he, hb⟩ => ⟨he, hS.keep hb⟩) ?_
  go_simp
  refine plan_read (v := .agg (v3 ax ay az)) rfl rfl (fun u hS => exec_loadG hS rVec _ rfl rfl (by repeat (first | exact List.mem_cons_self | apply List.mem_cons_of_mem)) rfl) ?_
  go_simp
  refine plan_read (v := .agg (v3 bx b_y bz_)) rfl rfl (fun u hS => exec_loadG hS rVec _ rfl rfl (by repeat (first | exact List.mem_cons_self | apply List.mem_cons_of_mem)) rfl) ?_
  go_simp
  refine plan_call (v := .agg (v3 sx sy sz)) (f := 12) (args := #[.agg (v3 ax ay az), .agg (v3 bx b_y bz_)]) rfl rfl (fun u hS => by go_simp) (fun u hS => (unhide h1 u).mono fun _ _ ⟨he, hb⟩ => ⟨he, hS.keep hb⟩) ?_
  go_simp
  refine plan_read (v := .bool true) rfl rfl (fun u hS => exec_eql_vec _ _ _ (sameV_self _ _ _) rfl rfl rfl) ?_
  go_simp
  refine plan_read (v := ?_) rfl rfl (fun u hS => by go_simp; rfl) ?_
  go_simp
  refine plan_read (v := .agg (v3 ax ay az)) rfl rfl (fun u hS => exec_loadG hS rVec _ rfl rfl (by repeat (first | exact List.mem_cons_self | apply List.mem_cons_of_mem)) rfl) ?_
  go_simp
  refine plan_read (v := .agg (v3 bx b_y bz_)) rfl rfl (fun u hS => exec_loadG hS rVec _ rfl rfl (by repeat (first | exact List.mem_cons_self | apply List.mem_cons_of_mem)) rfl) ?_
  go_simp
  refine plan_call (v := .agg (v3 dx dy dz)) (f := 13) (args := #[.agg (v3 ax ay az), .agg (v3 bx b_y bz_)]) rfl rfl (fun u hS => by go_simp) (fun u hS => (unhide h2 u).mono fun _ _ ⟨he, hb⟩ => ⟨he, hS.keep hb⟩) ?_
  go_simp
  refine plan_read (v := .agg (v3 ax ay az)) rfl rfl (fun u hS => exec_loadG hS rVec _ rfl rfl (by repeat (first | exact List.mem_cons_self | apply List.mem_cons_of_mem)) rfl) ?_
  go_simp
  refine plan_read (v := .agg (v3 bx b_y bz_)) rfl rfl (fun u hS => exec_loadG hS rVec _ rfl rfl (by repeat (first | exact List.mem_cons_self | apply List.mem_cons_of_mem)) rfl) ?_
  go_simp
  refine plan_call (v := .agg (v3 dx dy dz)) (f := 14) (args := #[.agg (v3 ax ay az), .agg (v3 bx b_y bz_)]) rfl rfl (fun u hS => by go_simp) (fun u hS => (unhide h3 u).mono fun _ _ ⟨he, hb⟩ => ⟨he, hS.keep hb⟩) ?_
  go_simp
  refine plan_read (v := .bool true) rfl rfl (fun u hS => exec_eql_vec _ _ _ (sameV_self _ _ _) rfl rfl rfl) ?_
  go_simp
  refine plan_read (v := ?_) rfl rfl (fun u hS => by go_simp; rfl) ?_
  go_simp
  refine plan_read (v := ?_) rfl rfl (fun u hS => by go_simp; rfl) ?_
  go_simp
  refine plan_read (v := .agg (v3 ax ay az)) rfl rfl (fun u hS => exec_loadG hS rVec _ rfl rfl (by repeat (first | exact List.mem_cons_self | apply List.mem_cons_of_mem)) rfl) ?_
  go_simp
  refine plan_read (v := ?_) rfl rfl (fun u hS => by go_simp; rfl) ?_
  go_simp
  refine plan_call (v := .agg (v3 mx my mz)) (f := 15) (args := #[.agg (v3 ax ay az), .int .i64 k]) rfl rfl (fun u hS => by go_simp) (fun u hS => (unhide h4 u).mono fun _ _ ⟨he, hb⟩ => ⟨he, hS.keep hb⟩) ?_
  go_simp
  refine plan_read (v := .agg (v3 ax ay az)) rfl rfl (fun u hS => exec_loadG hS rVec _ rfl rfl (by repeat (first | exact List.mem_cons_self | apply List.mem_cons_of_mem)) rfl) ?_
  go_simp
  refine plan_read (v := ?_) rfl rfl (fun u hS => by go_simp; rfl) ?_
  go_simp
  refine plan_call (v := .agg (v3 mx my mz)) (f := 16) (args := #[.agg (v3 ax ay az), .int .i64 k]) rfl rfl (fun u hS => by go_simp) (fun u hS => (unhide h5 u).mono fun _ _ ⟨he, hb⟩ => ⟨he, hS.keep hb⟩) ?_
  go_simp
  refine plan_read (v := .bool true) rfl rfl (fun u hS => exec_eql_vec _ _ _ (sameV_self _ _ _) rfl rfl rfl) ?_
  go_simp
  refine plan_read (v := ?_) rfl rfl (fun u hS => by go_simp; rfl) ?_
  go_simp
  refine plan_read (v := ?_) rfl rfl (fun u hS => by go_simp; rfl) ?_
  go_simp
  refine plan_call (v := .bool true) (f := 17) (args := #[]) rfl rfl (fun u hS => by go_simp) (fun u hS => (awake3Z u).mono fun _ _ ⟨he, hb⟩ => ⟨he, hS.keep hb⟩) ?_
  go_simp
  refine plan_read (v := ?_) rfl rfl (fun u hS => by go_simp; rfl) ?_
  go_simp
  refine plan_read (v := ?_) rfl rfl (fun u hS => by go_simp; rfl) ?_
  go_simp
  refine plan_end (fun u hS => ?_)
  have O := hide hS.o
  clear hS
  go_wp2
  go_ret
  exact ⟨rfl, unhide O⟩
set_option maxHeartbeats 4000000 in
theorem VecDot_core (ax ay az bx b_y bz_ r : Int) (w : World) (er : (r == r) = true) (h0 : Hid (Ans 18 #[.agg (v3 ax ay az), .agg (v3 bx b_y bz_)] (.int .i64 r))) (h1 : Hid (Ans 19 #[.agg (v3 ax ay az), .agg (v3 bx b_y bz_)] (.int .i64 r))) :
    Calls Tryz.prog 4 #[.agg (v3 ax ay az), .agg (v3 bx b_y bz_)] w fun e w' => e = .returned (.bool true) ∧ Below w.heap.size w w' := by
  go_enter Tryz.func4, Tryz.ntmps4
  go_upto_region 1 with fail
  have D := hide (((Gen.start w).push 24 (v3 ax ay az)).push 24 (v3 bx b_y bz_))
  simp only [szA] at D
  refine region_plan (S := Gen w _) (l := [0, 1, 2, 3, 4, 5, 6, 7, 8, 9, 10]) (by kernel_rfl) (by kernel_rfl) (by kernel_rfl) (by kernel_rfl) (by kernel_rfl) (by kernel_rfl) (by kernel_rfl) (unhide D).drew ?_
  clear D
  refine plan_read (v := .agg (v3 ax ay az)) rfl rfl (fun u hS => exec_loadG hS rVec _ rfl rfl (by repeat (first | exact List.mem_cons_self | apply List.mem_cons_of_mem)) rfl) ?_
  go_simp
  refine plan_read (v := .agg (v3 bx b_y bz_)) rfl rfl (fun u hS => exec_loadG hS rVec _ rfl rfl (by repeat (first | exact List.mem_cons_self | apply List.mem_cons_of_mem)) rfl) ?_
  go_simp
  refine plan_call (v := .int .i64 r) (f := 18) (args := #[.agg (v3 ax ay az), .agg (v3 bx b_y bz_)]) rfl rfl (fun u hS => by go_simp) (fun u hS => (unhide h0 u).mono fun _ _ ⟨he, hb⟩ => ⟨he, hS.keep hb⟩) ?_
  go_simp
  refine plan_read (v := .agg (v3 ax ay az)) rfl rfl (fun u hS => exec_loadG hS rVec _ rfl rfl (by repeat (first | exact List.mem_cons_self | apply List.mem_cons_of_mem)) rfl) ?_
  go_simp
  refine plan_read (v := .agg (v3 bx b_y bz_)) rfl rfl (fun u hS => exec_loadG hS rVec _ rfl rfl (by repeat (first | exact List.mem_cons_self | apply List.mem_cons_of_mem)) rfl) ?_
  go_simp
  refine plan_call (v := .int .i64 r) (f := 19) (args := #[.agg (v3 ax ay az), .agg (v3 bx b_y bz_)]) rfl rfl (fun u hS => by go_simp) (fun u hS => (unhide h1 u).mono fun _ _ ⟨he, hb⟩ => ⟨he, hS.keep hb⟩) ?_
  go_simp
  refine plan_read (v := .bool true) rfl rfl (fun u hS => exec_eqlR _ _ _ er rfl rfl rfl) ?_
  go_simp
  refine plan_read (v := ?_) rfl rfl (fun u hS => by go_simp; rfl) ?_
  go_simp
  refine plan_call (v := .bool true) (f := 17) (args := #[]) rfl rfl (fun u hS => by go_simp) (fun u hS => (awake3Z u).mono fun _ _ ⟨he, hb⟩ => ⟨he, hS.keep hb⟩) ?_
  go_simp
  refine plan_read (v := ?_) rfl rfl (fun u hS => by go_simp; rfl) ?_
  go_simp
  refine plan_read (v := ?_) rfl rfl (fun u hS => by go_simp; rfl) ?_
  go_simp
  refine plan_end (fun u hS => ?_)
  have O := hide hS.o
  clear hS
  go_wp2
  go_ret
  exact ⟨rfl, unhide O⟩
set_option maxHeartbeats 4000000 in
theorem VecCross_core (ax ay az bx b_y bz_ x y z : Int) (w : World) (h0 : Hid (Ans 20 #[.agg (v3 ax ay az), .agg (v3 bx b_y bz_)] (.agg (v3 x y z)))) (h1 : Hid (Ans 21 #[.agg (v3 ax ay az), .agg (v3 bx b_y bz_)] (.agg (v3 x y z)))) :
    Calls Tryz.prog 5 #[.agg (v3 ax ay az), .agg (v3 bx b_y bz_)] w fun e w' => e = .returned (.bool true) ∧ Below w.heap.size w w' := by
  go_enter Tryz.func5, Tryz.ntmps5
  go_upto_region 1 with fail
  have D := hide (((Gen.start w).push 24 (v3 ax ay az)).push 24 (v3 bx b_y bz_))
  simp only [szA] at D
  refine region_plan (S := Gen w _) (l := [0, 1, 2, 3, 4, 5, 6, 7, 8, 9, 10]) (by kernel_rfl) (by kernel_rfl) (by kernel_rfl) (by kernel_rfl) (by kernel_rfl) (by kernel_rfl) (by kernel_rfl) (unhide D).drew ?_
  clear D
  refine plan_read (v := .agg (v3 ax ay az)) rfl rfl (fun u hS => exec_loadG hS rVec _ rfl rfl (by repeat (first | exact List.mem_cons_self | apply List.mem_cons_of_mem)) rfl) ?_
  go_simp
  refine plan_read (v := .agg (v3 bx b_y bz_)) rfl rfl (fun u hS => exec_loadG hS rVec _ rfl rfl (by repeat (first | exact List.mem_cons_self | apply List.mem_cons_of_mem)) rfl) ?_
  go_simp
  refine plan_call (v := .agg (v3 x y z)) (f := 20) (args := #[.agg (v3 ax ay az), .agg (v3 bx b_y bz_)]) rfl rfl (fun u hS => by go_simp) (fun u hS => (unhide h0 u).mono fun _ _ ⟨he, hb⟩ => ⟨he, hS.keep hb⟩) ?_
  go_simp
  refine plan_read (v := .agg (v3 ax ay az)) rfl rfl (fun u hS => exec_loadG hS rVec _ rfl rfl (by repeat (first | exact List.mem_cons_self | apply List.mem_cons_of_mem)) rfl) ?_
  go_simp
  refine plan_read (v := .agg (v3 bx b_y bz_)) rfl rfl (fun u hS => exec_loadG hS rVec _ rfl rfl (by repeat (first | exact List.mem_cons_self | apply List.mem_cons_of_mem)) rfl) ?_
  go_simp
  refine plan_call (v := .agg (v3 x y z)) (f := 21) (args := #[.agg (v3 ax ay az), .agg (v3 bx b_y bz_)]) rfl rfl (fun u hS => by go_simp) (fun u hS => (unhide h1 u).mono fun _ _ ⟨he, hb⟩ => ⟨he, hS.keep hb⟩) ?_
  go_simp
  refine plan_read (v := .bool true) rfl rfl (fun u hS => exec_eql_vec _ _ _ (sameV_self _ _ _) rfl rfl rfl) ?_
  go_simp
  refine plan_read (v := ?_) rfl rfl (fun u hS => by go_simp; rfl) ?_
  go_simp
  refine plan_call (v := .bool true) (f := 17) (args := #[]) rfl rfl (fun u hS => by go_simp) (fun u hS => (awake3Z u).mono fun _ _ ⟨he, hb⟩ => ⟨he, hS.keep hb⟩) ?_
  go_simp
  refine plan_read (v := ?_) rfl rfl (fun u hS => by go_simp; rfl) ?_
  go_simp
  refine plan_read (v := ?_) rfl rfl (fun u hS => by go_simp; rfl) ?_
  go_simp
  refine plan_end (fun u hS => ?_)
  have O := hide hS.o
  clear hS
  go_wp2
  go_ret
  exact ⟨rfl, unhide O⟩
theorem vecSums_walk (ax ay az bx b_y bz_ k : Int) (k0 : (Lit.int .i64 ax).wf = true) (l0 : (Lit.int .i64 ay).wf = true) (m0 : (Lit.int .i64 az).wf = true) (k1 : (Lit.int .i64 bx).wf = true) (l1 : (Lit.int .i64 b_y).wf = true) (m1 : (Lit.int .i64 bz_).wf = true) (w2 : (Lit.int .i64 k).wf = true) (w : World) :
    Calls Tryz.prog 3 #[.agg (v3 ax ay az), .agg (v3 bx b_y bz_), .int .i64 k] w fun e w' => e = .returned (.bool true) ∧ Below w.heap.size w w' :=
  have j0 := I64.wf k0
  have j1 := I64.wf l0
  have j2 := I64.wf m0
  have j3 := I64.wf k1
  have j4 := I64.wf l1
  have j5 := I64.wf m1
  have j6 := I64.wf w2
  VecSums_core ax ay az bx b_y bz_ k _ _ _ _ _ _ _ _ _ w (VAddZ ax ay az bx b_y bz_ j0 j1 j2 j3 j4 j5) (Add3 ax ay az bx b_y bz_ j0 j1 j2 j3 j4 j5) (VSubZ ax ay az bx b_y bz_ j0 j1 j2 j3 j4 j5) (Sub3 ax ay az bx b_y bz_ j0 j1 j2 j3 j4 j5) (VScaleZ ax ay az k j0 j1 j2 j6) (Scale3 ax ay az k j0 j1 j2 j6)
theorem vecDot_walk (ax ay az bx b_y bz_ : Int) (k0 : (Lit.int .i64 ax).wf = true) (l0 : (Lit.int .i64 ay).wf = true) (m0 : (Lit.int .i64 az).wf = true) (k1 : (Lit.int .i64 bx).wf = true) (l1 : (Lit.int .i64 b_y).wf = true) (m1 : (Lit.int .i64 bz_).wf = true) (w : World) :
    Calls Tryz.prog 4 #[.agg (v3 ax ay az), .agg (v3 bx b_y bz_)] w fun e w' => e = .returned (.bool true) ∧ Below w.heap.size w w' :=
  have j0 := I64.wf k0
  have j1 := I64.wf l0
  have j2 := I64.wf m0
  have j3 := I64.wf k1
  have j4 := I64.wf l1
  have j5 := I64.wf m1
  VecDot_core ax ay az bx b_y bz_ _ w (by simp) (DotZ ax ay az bx b_y bz_ j0 j1 j2 j3 j4 j5) (Dot3 ax ay az bx b_y bz_ j0 j1 j2 j3 j4 j5)
theorem vecCross_walk (ax ay az bx b_y bz_ : Int) (k0 : (Lit.int .i64 ax).wf = true) (l0 : (Lit.int .i64 ay).wf = true) (m0 : (Lit.int .i64 az).wf = true) (k1 : (Lit.int .i64 bx).wf = true) (l1 : (Lit.int .i64 b_y).wf = true) (m1 : (Lit.int .i64 bz_).wf = true) (w : World) :
    Calls Tryz.prog 5 #[.agg (v3 ax ay az), .agg (v3 bx b_y bz_)] w fun e w' => e = .returned (.bool true) ∧ Below w.heap.size w w' :=
  have j0 := I64.wf k0
  have j1 := I64.wf l0
  have j2 := I64.wf m0
  have j3 := I64.wf k1
  have j4 := I64.wf l1
  have j5 := I64.wf m1
  VecCross_core ax ay az bx b_y bz_ _ _ _ w (CrossZ ax ay az bx b_y bz_ j0 j1 j2 j3 j4 j5) (Cross3 ax ay az bx b_y bz_ j0 j1 j2 j3 j4 j5)

end Go.Proofs.YtljggjnaolbapaaGreat
