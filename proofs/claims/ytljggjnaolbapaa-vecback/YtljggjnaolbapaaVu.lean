/- Package vec's laws: VecTriangle. Package vec's laws: VecSame. -/
import Derived.Test.YtljggjnaolbapaaVr
namespace Go.Proofs.Ytljggjnaolbapaa
open Go.RowKit
set_option maxRecDepth 4000
set_option linter.unusedVariables false

section
variable {o : Oper} {a : Act} (w : World) (p q : Operand) {x y : Int} {k : IntKind} {ty ty' : TypeId} {b : Bool}
theorem exec_leqZ (hb : decide (x ≤ y) = b) (ho : o.op = .binOp .leq ty p q ty') (hx : a.eval p = .int k x) (hy : a.eval q = .int k y) : (execOp a.eval o).run Try.prog w = .ok (.value (.bool b)) w := by
  subst hb
  unfold execOp
  simp only [ho, hx, hy]
  go_simp
theorem exec_geqZ (hb : decide (y ≤ x) = b) (ho : o.op = .binOp .geq ty p q ty') (hx : a.eval p = .int k x) (hy : a.eval q = .int k y) : (execOp a.eval o).run Try.prog w = .ok (.value (.bool b)) w := by
  subst hb
  unfold execOp
  simp only [ho, hx, hy]
  go_simp
theorem exec_eqlZ (hb : (x == y) = b) (ho : o.op = .binOp .eql ty p q ty') (hx : a.eval p = .int k x) (hy : a.eval q = .int k y) : (execOp a.eval o).run Try.prog w = .ok (.value (.bool b)) w := by
  subst hb
  unfold execOp
  simp only [ho, hx, hy]
  go_simp
end
set_option maxHeartbeats 2000000 in
theorem triangle_core (ax ay az bx b_y bz_ sx sy sz ls la lb t l : Int) (w : World) (hL : decide (ls ≤ t) = true) (hM : decide (l ≤ la) = true) (hA : Hid (Ans 32 #[.agg (v3 ax ay az), .agg (v3 bx b_y bz_)] (.agg (v3 sx sy sz))))
    (h1 : Hid (Ans 21 #[.agg (v3 sx sy sz)] (.int .i64 ls))) (h2 : Hid (Ans 21 #[.agg (v3 ax ay az)] (.int .i64 la))) (h3 : Hid (Ans 21 #[.agg (v3 bx b_y bz_)] (.int .i64 lb))) (h4 : Hid (Ans 36 #[.int .i64 la, .int .i64 lb] (.int .i64 t))) (h5 : Hid (Ans 20 #[.agg (v3 ax ay az)] (.int .i64 l))) :
    Calls Try.prog 8 #[.agg (v3 ax ay az), .agg (v3 bx b_y bz_)] w fun e w' => e = .returned (.bool true) ∧ Below w.heap.size w w' := by
  go_enter Try.func8, Try.ntmps8
  go_upto_region 1 with fail
  have D := hide (((Gen.start w).push 24 (v3 ax ay az)).push 24 (v3 bx b_y bz_))
  simp only [szA] at D
  refine region_plan (S := Gen w _) (l := [0, 1, 2, 3, 4, 5, 6, 7, 8, 9, 10, 11, 12, 13, 14, 15, 16, 17, 18, 19, 20]) (by kernel_rfl) (by kernel_rfl) (by kernel_rfl) (by kernel_rfl) (by kernel_rfl) (by kernel_rfl) (by kernel_rfl) (unhide D).drew ?_
  clear D
  refine plan_read (v := .agg (v3 ax ay az)) rfl rfl (fun u hS => exec_loadG hS rVec _ rfl rfl (by repeat (first | exact List.mem_cons_self | apply List.mem_cons_of_mem)) rfl) ?_
  go_simp
  refine plan_read (v := .agg (v3 bx b_y bz_)) rfl rfl (fun u hS => exec_loadG hS rVec _ rfl rfl (by repeat (first | exact List.mem_cons_self | apply List.mem_cons_of_mem)) rfl) ?_
  go_simp
  refine plan_call (v := .agg (v3 sx sy sz)) (f := 32) (args := #[.agg (v3 ax ay az), .agg (v3 bx b_y bz_)]) rfl rfl (fun u hS => by go_simp) (fun u hS => (unhide hA u).mono fun _ _ ⟨he, hb⟩ => ⟨he, hS.keep hb⟩) ?_
  go_simp
  refine plan_call (v := .int .i64 ls) (f := 21) (args := #[.agg (v3 sx sy sz)]) rfl rfl (fun u hS => by go_simp) (fun u hS => (unhide h1 u).mono fun _ _ ⟨he, hb⟩ => ⟨he, hS.keep hb⟩) ?_
  go_simp
  refine plan_read (v := .agg (v3 ax ay az)) rfl rfl (fun u hS => exec_loadG hS rVec _ rfl rfl (by repeat (first | exact List.mem_cons_self | apply List.mem_cons_of_mem)) rfl) ?_
  go_simp
  refine plan_call (v := .int .i64 la) (f := 21) (args := #[.agg (v3 ax ay az)]) rfl rfl (fun u hS => by go_simp) (fun u hS => (unhide h2 u).mono fun _ _ ⟨he, hb⟩ => ⟨he, hS.keep hb⟩) ?_
  go_simp
  refine plan_read (v := .agg (v3 bx b_y bz_)) rfl rfl (fun u hS => exec_loadG hS rVec _ rfl rfl (by repeat (first | exact List.mem_cons_self | apply List.mem_cons_of_mem)) rfl) ?_
  go_simp
  refine plan_call (v := .int .i64 lb) (f := 21) (args := #[.agg (v3 bx b_y bz_)]) rfl rfl (fun u hS => by go_simp) (fun u hS => (unhide h3 u).mono fun _ _ ⟨he, hb⟩ => ⟨he, hS.keep hb⟩) ?_
  go_simp
  refine plan_call (v := .int .i64 t) (f := 36) (args := #[.int .i64 la, .int .i64 lb]) rfl rfl (fun u hS => by go_simp) (fun u hS => (unhide h4 u).mono fun _ _ ⟨he, hb⟩ => ⟨he, hS.keep hb⟩) ?_
  go_simp
  refine plan_read (v := .bool true) rfl rfl (fun u hS => exec_leqZ _ _ _ hL rfl rfl rfl) ?_
  go_simp
  refine plan_read (v := ?_) rfl rfl (fun u hS => by go_simp; rfl) ?_
  go_simp
  refine plan_read (v := .agg (v3 ax ay az)) rfl rfl (fun u hS => exec_loadG hS rVec _ rfl rfl (by repeat (first | exact List.mem_cons_self | apply List.mem_cons_of_mem)) rfl) ?_
  go_simp
  refine plan_call (v := .int .i64 l) (f := 20) (args := #[.agg (v3 ax ay az)]) rfl rfl (fun u hS => by go_simp) (fun u hS => (unhide h5 u).mono fun _ _ ⟨he, hb⟩ => ⟨he, hS.keep hb⟩) ?_
  go_simp
  refine plan_read (v := .agg (v3 ax ay az)) rfl rfl (fun u hS => exec_loadG hS rVec _ rfl rfl (by repeat (first | exact List.mem_cons_self | apply List.mem_cons_of_mem)) rfl) ?_
  go_simp
  refine plan_call (v := .int .i64 la) (f := 21) (args := #[.agg (v3 ax ay az)]) rfl rfl (fun u hS => by go_simp) (fun u hS => (unhide h2 u).mono fun _ _ ⟨he, hb⟩ => ⟨he, hS.keep hb⟩) ?_
  go_simp
  refine plan_read (v := .bool true) rfl rfl (fun u hS => exec_leqZ _ _ _ hM rfl rfl rfl) ?_
  go_simp
  refine plan_read (v := ?_) rfl rfl (fun u hS => by go_simp; rfl) ?_
  go_simp
  refine plan_read (v := ?_) rfl rfl (fun u hS => by go_simp; rfl) ?_
  go_simp
  refine plan_call (v := .bool true) (f := 19) (args := #[]) rfl rfl (fun u hS => by go_simp) (fun u hS => (awake3Z u).mono fun _ _ ⟨he, hb⟩ => ⟨he, hS.keep hb⟩) ?_
  go_simp
  refine plan_read (v := ?_) rfl rfl (fun u hS => by go_simp; rfl) ?_
  go_simp
  refine plan_read (v := ?_) rfl rfl (fun u hS => by go_simp; rfl) ?_
  go_simp
  refine plan_end (fun u hS => ?_)
  have O := hide hS.o
  clear hS
  go_wp2
  go_ret
  exact ⟨rfl, unhide O⟩
theorem upR_1 (n : Int) : upR n 1 = cl (upc n 1) := by
  show inI (upc n 1) 32 = _
  exact inI_32 _
theorem upc_nn (n d : Int) : 0 ≤ upc n d := by
  have : 0 ≤ rfl' n d := by unfold rfl' rt; omega
  unfold upc
  split <;> omega
theorem sqr_cl (x y z : Int) : sqr (cl x) (cl y) (cl z) ≤ sqr x y z := by
  have := cl_sq x
  have := cl_sq y
  have := cl_sq z
  unfold sqr
  omega
theorem tri_math (ax ay az bx b_y bz_ : Int) : upR (sqr (cl (ax + bx)) (cl (ay + b_y)) (cl (az + bz_))) 1 ≤ cl (upR (sqr ax ay az) 1 + upR (sqr bx b_y bz_) 1) := by
  rw [upR_1, upR_1, upR_1]
  obtain ⟨a1, -⟩ := upc_spec (sqr_nn ax ay az) (show (0 : Int) < 1 by decide)
  obtain ⟨b1, -⟩ := upc_spec (sqr_nn bx b_y bz_) (show (0 : Int) < 1 by decide)
  have a0 := upc_nn (sqr ax ay az) 1
  have b0 := upc_nn (sqr bx b_y bz_) 1
  rw [Int.mul_one] at a1 b1
  have k := upc_le (sqr_nn (cl (ax + bx)) (cl (ay + b_y)) (cl (az + bz_))) (show 0 ≤ upc (sqr ax ay az) 1 + upc (sqr bx b_y bz_) 1 by omega) (Int.le_trans (sqr_cl _ _ _) (tri_sq a0 b0 a1 b1))
  generalize upc (sqr (cl (ax + bx)) (cl (ay + b_y)) (cl (az + bz_))) 1 = s at *
  generalize upc (sqr ax ay az) 1 = A at *
  generalize upc (sqr bx b_y bz_) 1 = B at *
  clear a1 b1
  unfold cl
  repeat' split
  all_goals omega
theorem len_le (ax ay az : Int) : inI (rfl' (sqr ax ay az) 1) 32 ≤ upR (sqr ax ay az) 1 := by
  rw [inI_32, upR_1]
  exact cl_mono (upc_spec (sqr_nn ax ay az) (show (0 : Int) < 1 by decide)).2.1
theorem upR_I64 (n d : Int) : I64 (upR n d) := by
  show I64 (inI _ 32)
  rw [inI_32]
  exact cl_I64 _
theorem vecTriangle_walk (ax ay az bx b_y bz_ : Int) (k0 : (Lit.int .i64 ax).wf = true) (l0 : (Lit.int .i64 ay).wf = true) (m0 : (Lit.int .i64 az).wf = true) (k1 : (Lit.int .i64 bx).wf = true) (l1 : (Lit.int .i64 b_y).wf = true) (m1 : (Lit.int .i64 bz_).wf = true) (w : World) :
    Calls Try.prog 8 #[.agg (v3 ax ay az), .agg (v3 bx b_y bz_)] w fun e w' => e = .returned (.bool true) ∧ Below w.heap.size w w' :=
  have i0 := I64.wf k0
  have i1 := I64.wf l0
  have i2 := I64.wf m0
  have i3 := I64.wf k1
  have i4 := I64.wf l1
  have i5 := I64.wf m1
  triangle_core ax ay az bx b_y bz_ _ _ _ _ _ _ _ _ w (decide_eq_true (tri_math ax ay az bx b_y bz_)) (decide_eq_true (len_le ax ay az)) (VAddZ ax ay az bx b_y bz_ i0 i1 i2 i3 i4 i5) (VLenUpZ _ _ _ (cl_I64 _) (cl_I64 _) (cl_I64 _)) (VLenUpZ ax ay az i0 i1 i2) (VLenUpZ bx b_y bz_ i3 i4 i5)
    (FixAddZ _ _ (upR_I64 _ _) (upR_I64 _ _)) (VLenZ ax ay az i0 i1 i2)

end Go.Proofs.Ytljggjnaolbapaa

namespace Go.Proofs.Ytljggjnaolbapaa
open Go.RowKit
set_option maxRecDepth 4000
set_option linter.unusedVariables false

section
variable {o : Oper} {a : Act} {w : World} (p q : Operand) {x y : Int} {k : IntKind} {ty ty' : TypeId} {b : Bool} {ops : Array Oper} {rest : List Oper} {Q : Exit → Act → World → Prop}
theorem exec_gtrZ (hb : decide (y < x) = b) (ho : o.op = .binOp .gtr ty p q ty') (hx : a.eval p = .int k x) (hy : a.eval q = .int k y) : (execOp a.eval o).run Try.prog w = .ok (.value (.bool b)) w := by
  subst hb
  unfold execOp
  simp only [ho, hx, hy]
  go_simp
theorem gtrZ (hb : decide (y < x) = b) (ho : o.op = .binOp .gtr ty p q ty') (hgd : o.guard = none) (hx : a.eval p = .int k x) (hy : a.eval q = .int k y)
    (h : wpList Try.prog ops Q rest (a.put o.dst (.bool b)) w) : wpList Try.prog ops Q (o :: rest) a w := wpList_value hgd (exec_gtrZ p q hb ho hx hy) h
theorem gtrZw (hb : decide (y < x) = b) (ho : o.op = .binOp .gtr ty p q ty') (hgd : Region.wanted o (yielded ops a.tmps) = true) (hx : a.eval p = .int k x) (hy : a.eval q = .int k y)
    (h : wpList Try.prog ops Q rest (a.put o.dst (.bool b)) w) : wpList Try.prog ops Q (o :: rest) a w := wpList_valuew hgd (exec_gtrZ p q hb ho hx hy) h
theorem exec_lssZ (hb : decide (x < y) = b) (ho : o.op = .binOp .lss ty p q ty') (hx : a.eval p = .int k x) (hy : a.eval q = .int k y) : (execOp a.eval o).run Try.prog w = .ok (.value (.bool b)) w := by
  subst hb
  unfold execOp
  simp only [ho, hx, hy]
  go_simp
theorem lssZ (hb : decide (x < y) = b) (ho : o.op = .binOp .lss ty p q ty') (hgd : o.guard = none) (hx : a.eval p = .int k x) (hy : a.eval q = .int k y)
    (h : wpList Try.prog ops Q rest (a.put o.dst (.bool b)) w) : wpList Try.prog ops Q (o :: rest) a w := wpList_value hgd (exec_lssZ p q hb ho hx hy) h
theorem lssZw (hb : decide (x < y) = b) (ho : o.op = .binOp .lss ty p q ty') (hgd : Region.wanted o (yielded ops a.tmps) = true) (hx : a.eval p = .int k x) (hy : a.eval q = .int k y)
    (h : wpList Try.prog ops Q rest (a.put o.dst (.bool b)) w) : wpList Try.prog ops Q (o :: rest) a w := wpList_valuew hgd (exec_lssZ p q hb ho hx hy) h
theorem eqlZ (hb : (x == y) = b) (ho : o.op = .binOp .eql ty p q ty') (hgd : o.guard = none) (hx : a.eval p = .int k x) (hy : a.eval q = .int k y)
    (h : wpList Try.prog ops Q rest (a.put o.dst (.bool b)) w) : wpList Try.prog ops Q (o :: rest) a w := wpList_value hgd (exec_eqlZ w p q hb ho hx hy) h
theorem eqlZw (hb : (x == y) = b) (ho : o.op = .binOp .eql ty p q ty') (hgd : Region.wanted o (yielded ops a.tmps) = true) (hx : a.eval p = .int k x) (hy : a.eval q = .int k y)
    (h : wpList Try.prog ops Q rest (a.put o.dst (.bool b)) w) : wpList Try.prog ops Q (o :: rest) a w := wpList_valuew hgd (exec_eqlZ w p q hb ho hx hy) h
theorem leqZ (hb : decide (x ≤ y) = b) (ho : o.op = .binOp .leq ty p q ty') (hgd : o.guard = none) (hx : a.eval p = .int k x) (hy : a.eval q = .int k y)
    (h : wpList Try.prog ops Q rest (a.put o.dst (.bool b)) w) : wpList Try.prog ops Q (o :: rest) a w := wpList_value hgd (exec_leqZ w p q hb ho hx hy) h
theorem leqZw (hb : decide (x ≤ y) = b) (ho : o.op = .binOp .leq ty p q ty') (hgd : Region.wanted o (yielded ops a.tmps) = true) (hx : a.eval p = .int k x) (hy : a.eval q = .int k y)
    (h : wpList Try.prog ops Q rest (a.put o.dst (.bool b)) w) : wpList Try.prog ops Q (o :: rest) a w := wpList_valuew hgd (exec_leqZ w p q hb ho hx hy) h
theorem geqZ (hb : decide (y ≤ x) = b) (ho : o.op = .binOp .geq ty p q ty') (hgd : o.guard = none) (hx : a.eval p = .int k x) (hy : a.eval q = .int k y)
    (h : wpList Try.prog ops Q rest (a.put o.dst (.bool b)) w) : wpList Try.prog ops Q (o :: rest) a w := wpList_value hgd (exec_geqZ w p q hb ho hx hy) h
theorem geqZw (hb : decide (y ≤ x) = b) (ho : o.op = .binOp .geq ty p q ty') (hgd : Region.wanted o (yielded ops a.tmps) = true) (hx : a.eval p = .int k x) (hy : a.eval q = .int k y)
    (h : wpList Try.prog ops Q rest (a.put o.dst (.bool b)) w) : wpList Try.prog ops Q (o :: rest) a w := wpList_valuew hgd (exec_geqZ w p q hb ho hx hy) h
end
set_option maxHeartbeats 2000000 in
theorem same_TTT (ax ay az vx vy vz s px py pz l t : Int) (w : World) (f0 : decide (-9223372036854775808 < ax) = true) (f1 : decide (-9223372036854775808 < ay) = true) (f2 : decide (-9223372036854775808 < az) = true) (e0 : sameV ax ay az ax ay az = true) (el : (l == l) = true) (et : (t == t) = true)
    (hS : Hid (Ans 30 #[.agg (v3 0 0 0), .agg (v3 ax ay az)] (.agg (v3 px py pz)))) (hK : Hid (Ans 34 #[.agg (v3 ax ay az), .int .i64 4294967296] (.agg (v3 ax ay az)))) (hM0 : Hid (Ans 35 #[.agg (v3 ax ay az), .agg (v3 vx vy vz), .int .i64 0] (.agg (v3 ax ay az)))) (hM1 : Hid (Ans 35 #[.agg (v3 ax ay az), .agg (v3 0 0 0), .int .i64 s] (.agg (v3 ax ay az))))
    (h1 : Hid (Ans 20 #[.agg (v3 ax ay az)] (.int .i64 l))) (h2 : Hid (Ans 20 #[.agg (v3 px py pz)] (.int .i64 l))) (h3 : Hid (Ans 21 #[.agg (v3 ax ay az)] (.int .i64 t))) (h4 : Hid (Ans 21 #[.agg (v3 px py pz)] (.int .i64 t))) :
    Calls Try.prog 7 #[.agg (v3 ax ay az), .agg (v3 vx vy vz), .int .i64 s] w fun e w' => e = .returned (.bool true) ∧ Below w.heap.size w w' := by
  go_enter Try.func7, Try.ntmps7
  go_upto_region 1 with fail
  have D := hide (((Gen.start w).push 24 (v3 ax ay az)).push 24 (v3 vx vy vz))
  simp only [szA] at D
  go_upto_region 3 with (first | (with_reducible refine at_list ?_; apply ldG (unhide D) rVec _ rfl rfl rfl (by repeat (first | exact List.mem_cons_self | apply List.mem_cons_of_mem)) rfl) | (go_at_call 30; with_reducible refine (unhide hS _).mono ?_; rintro e w' ⟨he, hb⟩; subst he; have D := hide ((unhide D).keep hb); clear hb) | (with_reducible refine at_list ?_; refine stG (unhide D) rVec _ _ rfl rfl rfl rfl rfl rfl (v3_one _ _ _) ?_; intro D'; have D := hide D'; clear D') | (with_reducible refine at_list ?_; apply ldFw (unhide D) _ rfl rfl rfl (by repeat (first | exact List.mem_cons_self | apply List.mem_cons_of_mem)) rfl) | (with_reducible refine at_list ?_; apply ldF (unhide D) _ rfl rfl rfl (by repeat (first | exact List.mem_cons_self | apply List.mem_cons_of_mem)) rfl) | (with_reducible refine at_list ?_;  refine gtrZ _ _ f0 rfl rfl rfl rfl ?_) | (with_reducible refine at_list ?_;  refine gtrZw _ _ f1 rfl rfl rfl rfl ?_) | (with_reducible refine at_list ?_;  refine gtrZw _ _ f2 rfl rfl rfl rfl ?_))
  refine region_plan (S := Gen w _) (l := [0, 1, 2, 3, 4, 5, 6, 7, 8, 9, 10, 11, 12, 13, 14, 15, 16, 17, 18, 19, 20, 21, 22, 23, 24, 25, 26, 27, 28, 29, 30, 31, 32, 33, 34, 35, 36, 37, 38, 39, 40]) (by kernel_rfl) (by kernel_rfl) (by kernel_rfl) (by kernel_rfl) (by kernel_rfl) (by kernel_rfl) (by kernel_rfl) (unhide D).drew ?_
  clear D
  refine plan_read (v := .agg (v3 ax ay az)) rfl rfl (fun u hS => exec_loadG hS rVec _ rfl rfl (by repeat (first | exact List.mem_cons_self | apply List.mem_cons_of_mem)) rfl) ?_
  go_simp
  refine plan_call (v := .agg (v3 ax ay az)) (f := 34) (args := #[.agg (v3 ax ay az), .int .i64 4294967296]) rfl rfl (fun u hS => by go_simp) (fun u hS => (unhide hK u).mono fun _ _ ⟨he, hb⟩ => ⟨he, hS.keep hb⟩) ?_
  go_simp
  refine plan_read (v := .agg (v3 ax ay az)) rfl rfl (fun u hS => exec_loadG hS rVec _ rfl rfl (by repeat (first | exact List.mem_cons_self | apply List.mem_cons_of_mem)) rfl) ?_
  go_simp
  refine plan_read (v := .bool true) rfl rfl (fun u hS => exec_eql_vec _ _ _ e0 rfl rfl rfl) ?_
  go_simp
  refine plan_read (v := ?_) rfl rfl (fun u hS => by go_simp; rfl) ?_
  go_simp
  refine plan_read (v := .agg (v3 ax ay az)) rfl rfl (fun u hS => exec_loadG hS rVec _ rfl rfl (by repeat (first | exact List.mem_cons_self | apply List.mem_cons_of_mem)) rfl) ?_
  go_simp
  refine plan_read (v := .agg (v3 vx vy vz)) rfl rfl (fun u hS => exec_loadG hS rVec _ rfl rfl (by repeat (first | exact List.mem_cons_self | apply List.mem_cons_of_mem)) rfl) ?_
  go_simp
  refine plan_call (v := .agg (v3 ax ay az)) (f := 35) (args := #[.agg (v3 ax ay az), .agg (v3 vx vy vz), .int .i64 0]) rfl rfl (fun u hS => by go_simp) (fun u hS => (unhide hM0 u).mono fun _ _ ⟨he, hb⟩ => ⟨he, hS.keep hb⟩) ?_
  go_simp
  refine plan_read (v := .agg (v3 ax ay az)) rfl rfl (fun u hS => exec_loadG hS rVec _ rfl rfl (by repeat (first | exact List.mem_cons_self | apply List.mem_cons_of_mem)) rfl) ?_
  go_simp
  refine plan_read (v := .bool true) rfl rfl (fun u hS => exec_eql_vec _ _ _ e0 rfl rfl rfl) ?_
  go_simp
  refine plan_read (v := ?_) rfl rfl (fun u hS => by go_simp; rfl) ?_
  go_simp
  refine plan_read (v := ?_) rfl rfl (fun u hS => by go_simp; rfl) ?_
  go_simp
  refine plan_read (v := .agg (v3 ax ay az)) rfl rfl (fun u hS => exec_loadG hS rVec _ rfl rfl (by repeat (first | exact List.mem_cons_self | apply List.mem_cons_of_mem)) rfl) ?_
  go_simp
  refine plan_read (v := .agg (v3 0 0 0)) rfl rfl (fun u hS => by go_simp) ?_
  go_simp
  refine plan_read (v := ?_) rfl rfl (fun u hS => by go_simp; rfl) ?_
  go_simp
  refine plan_call (v := .agg (v3 ax ay az)) (f := 35) (args := #[.agg (v3 ax ay az), .agg (v3 0 0 0), .int .i64 s]) rfl rfl (fun u hS => by go_simp) (fun u hS => (unhide hM1 u).mono fun _ _ ⟨he, hb⟩ => ⟨he, hS.keep hb⟩) ?_
  go_simp
  refine plan_read (v := .agg (v3 ax ay az)) rfl rfl (fun u hS => exec_loadG hS rVec _ rfl rfl (by repeat (first | exact List.mem_cons_self | apply List.mem_cons_of_mem)) rfl) ?_
  go_simp
  refine plan_read (v := .bool true) rfl rfl (fun u hS => exec_eql_vec _ _ _ e0 rfl rfl rfl) ?_
  go_simp
  refine plan_read (v := ?_) rfl rfl (fun u hS => by go_simp; rfl) ?_
  go_simp
  refine plan_read (v := ?_) rfl rfl (fun u hS => by go_simp; rfl) ?_
  go_simp
  refine plan_read (v := ?_) rfl rfl (fun u hS => by go_simp; rfl) ?_
  go_simp
  refine plan_read (v := ?_) rfl rfl (fun u hS => by go_simp; rfl) ?_
  go_simp
  refine plan_read (v := ?_) rfl rfl (fun u hS => by go_simp; rfl) ?_
  go_simp
  refine plan_read (v := .agg (v3 ax ay az)) rfl rfl (fun u hS => exec_loadG hS rVec _ rfl rfl (by repeat (first | exact List.mem_cons_self | apply List.mem_cons_of_mem)) rfl) ?_
  go_simp
  refine plan_call (v := .int .i64 l) (f := 20) (args := #[.agg (v3 ax ay az)]) rfl rfl (fun u hS => by go_simp) (fun u hS => (unhide h1 u).mono fun _ _ ⟨he, hb⟩ => ⟨he, hS.keep hb⟩) ?_
  go_simp
  refine plan_read (v := .agg (v3 px py pz)) rfl rfl (fun u hS => exec_loadG hS rVec _ rfl rfl (by repeat (first | exact List.mem_cons_self | apply List.mem_cons_of_mem)) rfl) ?_
  go_simp
  refine plan_call (v := .int .i64 l) (f := 20) (args := #[.agg (v3 px py pz)]) rfl rfl (fun u hS => by go_simp) (fun u hS => (unhide h2 u).mono fun _ _ ⟨he, hb⟩ => ⟨he, hS.keep hb⟩) ?_
  go_simp
  refine plan_read (v := .bool true) rfl rfl (fun u hS => exec_eqlZ _ _ _ el rfl rfl rfl) ?_
  go_simp
  refine plan_read (v := ?_) rfl rfl (fun u hS => by go_simp; rfl) ?_
  go_simp
  refine plan_read (v := .agg (v3 ax ay az)) rfl rfl (fun u hS => exec_loadG hS rVec _ rfl rfl (by repeat (first | exact List.mem_cons_self | apply List.mem_cons_of_mem)) rfl) ?_
  go_simp
  refine plan_call (v := .int .i64 t) (f := 21) (args := #[.agg (v3 ax ay az)]) rfl rfl (fun u hS => by go_simp) (fun u hS => (unhide h3 u).mono fun _ _ ⟨he, hb⟩ => ⟨he, hS.keep hb⟩) ?_
  go_simp
  refine plan_read (v := .agg (v3 px py pz)) rfl rfl (fun u hS => exec_loadG hS rVec _ rfl rfl (by repeat (first | exact List.mem_cons_self | apply List.mem_cons_of_mem)) rfl) ?_
  go_simp
  refine plan_call (v := .int .i64 t) (f := 21) (args := #[.agg (v3 px py pz)]) rfl rfl (fun u hS => by go_simp) (fun u hS => (unhide h4 u).mono fun _ _ ⟨he, hb⟩ => ⟨he, hS.keep hb⟩) ?_
  go_simp
  refine plan_read (v := .bool true) rfl rfl (fun u hS => exec_eqlZ _ _ _ et rfl rfl rfl) ?_
  go_simp
  refine plan_read (v := ?_) rfl rfl (fun u hS => by go_simp; rfl) ?_
  go_simp
  refine plan_read (v := ?_) rfl rfl (fun u hS => by go_simp; rfl) ?_
  go_simp
  refine plan_read (v := ?_) rfl rfl (fun u hS => by go_simp; rfl) ?_
  go_simp
  refine plan_read (v := ?_) rfl rfl (fun u hS => by go_simp; rfl) ?_
  go_simp
  refine plan_call (v := .bool true) (f := 19) (args := #[]) rfl rfl (fun u hS => by go_simp) (fun u hS => (awake3Z u).mono fun _ _ ⟨he, hb⟩ => ⟨he, hS.keep hb⟩) ?_
  go_simp
  refine plan_read (v := ?_) rfl rfl (fun u hS => by go_simp; rfl) ?_
  go_simp
  refine plan_read (v := ?_) rfl rfl (fun u hS => by go_simp; rfl) ?_
  go_simp
  refine plan_end (fun u hS => ?_)
  have O := hide hS.o
  clear hS
  go_wp2
  go_ret
  exact ⟨rfl, unhide O⟩
set_option maxHeartbeats 2000000 in
theorem same_TTF (ax ay az vx vy vz s px py pz : Int) (w : World) (f0 : decide (-9223372036854775808 < ax) = true) (f1 : decide (-9223372036854775808 < ay) = true) (f2 : decide (-9223372036854775808 < az) = false) (e0 : sameV ax ay az ax ay az = true)
    (hS : Hid (Ans 30 #[.agg (v3 0 0 0), .agg (v3 ax ay az)] (.agg (v3 px py pz)))) (hK : Hid (Ans 34 #[.agg (v3 ax ay az), .int .i64 4294967296] (.agg (v3 ax ay az)))) (hM0 : Hid (Ans 35 #[.agg (v3 ax ay az), .agg (v3 vx vy vz), .int .i64 0] (.agg (v3 ax ay az)))) (hM1 : Hid (Ans 35 #[.agg (v3 ax ay az), .agg (v3 0 0 0), .int .i64 s] (.agg (v3 ax ay az)))) :
    Calls Try.prog 7 #[.agg (v3 ax ay az), .agg (v3 vx vy vz), .int .i64 s] w fun e w' => e = .returned (.bool true) ∧ Below w.heap.size w w' := by
  go_enter Try.func7, Try.ntmps7
  go_upto_region 1 with fail
  have D := hide (((Gen.start w).push 24 (v3 ax ay az)).push 24 (v3 vx vy vz))
  simp only [szA] at D
  go_upto_region 3 with (first | (with_reducible refine at_list ?_; apply ldG (unhide D) rVec _ rfl rfl rfl (by repeat (first | exact List.mem_cons_self | apply List.mem_cons_of_mem)) rfl) | (go_at_call 30; with_reducible refine (unhide hS _).mono ?_; rintro e w' ⟨he, hb⟩; subst he; have D := hide ((unhide D).keep hb); clear hb) | (with_reducible refine at_list ?_; refine stG (unhide D) rVec _ _ rfl rfl rfl rfl rfl rfl (v3_one _ _ _) ?_; intro D'; have D := hide D'; clear D') | (with_reducible refine at_list ?_; apply ldFw (unhide D) _ rfl rfl rfl (by repeat (first | exact List.mem_cons_self | apply List.mem_cons_of_mem)) rfl) | (with_reducible refine at_list ?_; apply ldF (unhide D) _ rfl rfl rfl (by repeat (first | exact List.mem_cons_self | apply List.mem_cons_of_mem)) rfl) | (with_reducible refine at_list ?_;  refine gtrZ _ _ f0 rfl rfl rfl rfl ?_) | (with_reducible refine at_list ?_;  refine gtrZw _ _ f1 rfl rfl rfl rfl ?_) | (with_reducible refine at_list ?_;  refine gtrZw _ _ f2 rfl rfl rfl rfl ?_))
  refine region_plan (S := Gen w _) (l := [0, 1, 2, 3, 4, 5, 6, 7, 8, 9, 10, 11, 12, 13, 14, 15, 16, 17, 18, 19, 20, 21, 22, 23, 24, 25, 26, 27, 28, 29, 30, 31, 32, 33, 34, 35, 36, 37, 38, 39, 40]) (by kernel_rfl) (by kernel_rfl) (by kernel_rfl) (by kernel_rfl) (by kernel_rfl) (by kernel_rfl) (by kernel_rfl) (unhide D).drew ?_
  clear D
  refine plan_read (v := .agg (v3 ax ay az)) rfl rfl (fun u hS => exec_loadG hS rVec _ rfl rfl (by repeat (first | exact List.mem_cons_self | apply List.mem_cons_of_mem)) rfl) ?_
  go_simp
  refine plan_call (v := .agg (v3 ax ay az)) (f := 34) (args := #[.agg (v3 ax ay az), .int .i64 4294967296]) rfl rfl (fun u hS => by go_simp) (fun u hS => (unhide hK u).mono fun _ _ ⟨he, hb⟩ => ⟨he, hS.keep hb⟩) ?_
  go_simp
  refine plan_read (v := .agg (v3 ax ay az)) rfl rfl (fun u hS => exec_loadG hS rVec _ rfl rfl (by repeat (first | exact List.mem_cons_self | apply List.mem_cons_of_mem)) rfl) ?_
  go_simp
  refine plan_read (v := .bool true) rfl rfl (fun u hS => exec_eql_vec _ _ _ e0 rfl rfl rfl) ?_
  go_simp
  refine plan_read (v := ?_) rfl rfl (fun u hS => by go_simp; rfl) ?_
  go_simp
  refine plan_read (v := .agg (v3 ax ay az)) rfl rfl (fun u hS => exec_loadG hS rVec _ rfl rfl (by repeat (first | exact List.mem_cons_self | apply List.mem_cons_of_mem)) rfl) ?_
  go_simp
  refine plan_read (v := .agg (v3 vx vy vz)) rfl rfl (fun u hS => exec_loadG hS rVec _ rfl rfl (by repeat (first | exact List.mem_cons_self | apply List.mem_cons_of_mem)) rfl) ?_
  go_simp
  refine plan_call (v := .agg (v3 ax ay az)) (f := 35) (args := #[.agg (v3 ax ay az), .agg (v3 vx vy vz), .int .i64 0]) rfl rfl (fun u hS => by go_simp) (fun u hS => (unhide hM0 u).mono fun _ _ ⟨he, hb⟩ => ⟨he, hS.keep hb⟩) ?_
  go_simp
  refine plan_read (v := .agg (v3 ax ay az)) rfl rfl (fun u hS => exec_loadG hS rVec _ rfl rfl (by repeat (first | exact List.mem_cons_self | apply List.mem_cons_of_mem)) rfl) ?_
  go_simp
  refine plan_read (v := .bool true) rfl rfl (fun u hS => exec_eql_vec _ _ _ e0 rfl rfl rfl) ?_
  go_simp
  refine plan_read (v := ?_) rfl rfl (fun u hS => by go_simp; rfl) ?_
  go_simp
  refine plan_read (v := ?_) rfl rfl (fun u hS => by go_simp; rfl) ?_
  go_simp
  refine plan_read (v := .agg (v3 ax ay az)) rfl rfl (fun u hS => exec_loadG hS rVec _ rfl rfl (by repeat (first | exact List.mem_cons_self | apply List.mem_cons_of_mem)) rfl) ?_
  go_simp
  refine plan_read (v := .agg (v3 0 0 0)) rfl rfl (fun u hS => by go_simp) ?_
  go_simp
  refine plan_read (v := ?_) rfl rfl (fun u hS => by go_simp; rfl) ?_
  go_simp
  refine plan_call (v := .agg (v3 ax ay az)) (f := 35) (args := #[.agg (v3 ax ay az), .agg (v3 0 0 0), .int .i64 s]) rfl rfl (fun u hS => by go_simp) (fun u hS => (unhide hM1 u).mono fun _ _ ⟨he, hb⟩ => ⟨he, hS.keep hb⟩) ?_
  go_simp
  refine plan_read (v := .agg (v3 ax ay az)) rfl rfl (fun u hS => exec_loadG hS rVec _ rfl rfl (by repeat (first | exact List.mem_cons_self | apply List.mem_cons_of_mem)) rfl) ?_
  go_simp
  refine plan_read (v := .bool true) rfl rfl (fun u hS => exec_eql_vec _ _ _ e0 rfl rfl rfl) ?_
  go_simp
  refine plan_read (v := ?_) rfl rfl (fun u hS => by go_simp; rfl) ?_
  go_simp
  refine plan_read (v := ?_) rfl rfl (fun u hS => by go_simp; rfl) ?_
  go_simp
  refine plan_read (v := ?_) rfl rfl (fun u hS => by go_simp; rfl) ?_
  go_simp
  refine plan_read (v := ?_) rfl rfl (fun u hS => by go_simp; rfl) ?_
  go_simp
  refine plan_read (v := ?_) rfl rfl (fun u hS => by go_simp; rfl) ?_
  go_simp
  refine plan_skip rfl rfl ?_
  go_simp
  refine plan_skip rfl rfl ?_
  go_simp
  refine plan_skip rfl rfl ?_
  go_simp
  refine plan_skip rfl rfl ?_
  go_simp
  refine plan_skip rfl rfl ?_
  go_simp
  refine plan_skip rfl rfl ?_
  go_simp
  refine plan_skip rfl rfl ?_
  go_simp
  refine plan_skip rfl rfl ?_
  go_simp
  refine plan_skip rfl rfl ?_
  go_simp
  refine plan_skip rfl rfl ?_
  go_simp
  refine plan_skip rfl rfl ?_
  go_simp
  refine plan_skip rfl rfl ?_
  go_simp
  refine plan_read (v := ?_) rfl rfl (fun u hS => by go_simp; rfl) ?_
  go_simp
  refine plan_read (v := ?_) rfl rfl (fun u hS => by go_simp; rfl) ?_
  go_simp
  refine plan_read (v := ?_) rfl rfl (fun u hS => by go_simp; rfl) ?_
  go_simp
  refine plan_call (v := .bool true) (f := 19) (args := #[]) rfl rfl (fun u hS => by go_simp) (fun u hS => (awake3Z u).mono fun _ _ ⟨he, hb⟩ => ⟨he, hS.keep hb⟩) ?_
  go_simp
  refine plan_read (v := ?_) rfl rfl (fun u hS => by go_simp; rfl) ?_
  go_simp
  refine plan_read (v := ?_) rfl rfl (fun u hS => by go_simp; rfl) ?_
  go_simp
  refine plan_end (fun u hS => ?_)
  have O := hide hS.o
  clear hS
  go_wp2
  go_ret
  exact ⟨rfl, unhide O⟩
set_option maxHeartbeats 2000000 in
theorem same_TF (ax ay az vx vy vz s px py pz : Int) (w : World) (f0 : decide (-9223372036854775808 < ax) = true) (f1 : decide (-9223372036854775808 < ay) = false) (e0 : sameV ax ay az ax ay az = true)
    (hS : Hid (Ans 30 #[.agg (v3 0 0 0), .agg (v3 ax ay az)] (.agg (v3 px py pz)))) (hK : Hid (Ans 34 #[.agg (v3 ax ay az), .int .i64 4294967296] (.agg (v3 ax ay az)))) (hM0 : Hid (Ans 35 #[.agg (v3 ax ay az), .agg (v3 vx vy vz), .int .i64 0] (.agg (v3 ax ay az)))) (hM1 : Hid (Ans 35 #[.agg (v3 ax ay az), .agg (v3 0 0 0), .int .i64 s] (.agg (v3 ax ay az)))) :
    Calls Try.prog 7 #[.agg (v3 ax ay az), .agg (v3 vx vy vz), .int .i64 s] w fun e w' => e = .returned (.bool true) ∧ Below w.heap.size w w' := by
  go_enter Try.func7, Try.ntmps7
  go_upto_region 1 with fail
  have D := hide (((Gen.start w).push 24 (v3 ax ay az)).push 24 (v3 vx vy vz))
  simp only [szA] at D
  go_upto_region 3 with (first | (with_reducible refine at_list ?_; apply ldG (unhide D) rVec _ rfl rfl rfl (by repeat (first | exact List.mem_cons_self | apply List.mem_cons_of_mem)) rfl) | (go_at_call 30; with_reducible refine (unhide hS _).mono ?_; rintro e w' ⟨he, hb⟩; subst he; have D := hide ((unhide D).keep hb); clear hb) | (with_reducible refine at_list ?_; refine stG (unhide D) rVec _ _ rfl rfl rfl rfl rfl rfl (v3_one _ _ _) ?_; intro D'; have D := hide D'; clear D') | (with_reducible refine at_list ?_; apply ldFw (unhide D) _ rfl rfl rfl (by repeat (first | exact List.mem_cons_self | apply List.mem_cons_of_mem)) rfl) | (with_reducible refine at_list ?_; apply ldF (unhide D) _ rfl rfl rfl (by repeat (first | exact List.mem_cons_self | apply List.mem_cons_of_mem)) rfl) | (with_reducible refine at_list ?_;  refine gtrZ _ _ f0 rfl rfl rfl rfl ?_) | (with_reducible refine at_list ?_;  refine gtrZw _ _ f1 rfl rfl rfl rfl ?_))
  refine region_plan (S := Gen w _) (l := [0, 1, 2, 3, 4, 5, 6, 7, 8, 9, 10, 11, 12, 13, 14, 15, 16, 17, 18, 19, 20, 21, 22, 23, 24, 25, 26, 27, 28, 29, 30, 31, 32, 33, 34, 35, 36, 37, 38, 39, 40]) (by kernel_rfl) (by kernel_rfl) (by kernel_rfl) (by kernel_rfl) (by kernel_rfl) (by kernel_rfl) (by kernel_rfl) (unhide D).drew ?_
  clear D
  refine plan_read (v := .agg (v3 ax ay az)) rfl rfl (fun u hS => exec_loadG hS rVec _ rfl rfl (by repeat (first | exact List.mem_cons_self | apply List.mem_cons_of_mem)) rfl) ?_
  go_simp
  refine plan_call (v := .agg (v3 ax ay az)) (f := 34) (args := #[.agg (v3 ax ay az), .int .i64 4294967296]) rfl rfl (fun u hS => by go_simp) (fun u hS => (unhide hK u).mono fun _ _ ⟨he, hb⟩ => ⟨he, hS.keep hb⟩) ?_
  go_simp
  refine plan_read (v := .agg (v3 ax ay az)) rfl rfl (fun u hS => exec_loadG hS rVec _ rfl rfl (by repeat (first | exact List.mem_cons_self | apply List.mem_cons_of_mem)) rfl) ?_
  go_simp
  refine plan_read (v := .bool true) rfl rfl (fun u hS => exec_eql_vec _ _ _ e0 rfl rfl rfl) ?_
  go_simp
  refine plan_read (v := ?_) rfl rfl (fun u hS => by go_simp; rfl) ?_
  go_simp
  refine plan_read (v := .agg (v3 ax ay az)) rfl rfl (fun u hS => exec_loadG hS rVec _ rfl rfl (by repeat (first | exact List.mem_cons_self | apply List.mem_cons_of_mem)) rfl) ?_
  go_simp
  refine plan_read (v := .agg (v3 vx vy vz)) rfl rfl (fun u hS => exec_loadG hS rVec _ rfl rfl (by repeat (first | exact List.mem_cons_self | apply List.mem_cons_of_mem)) rfl) ?_
  go_simp
  refine plan_call (v := .agg (v3 ax ay az)) (f := 35) (args := #[.agg (v3 ax ay az), .agg (v3 vx vy vz), .int .i64 0]) rfl rfl (fun u hS => by go_simp) (fun u hS => (unhide hM0 u).mono fun _ _ ⟨he, hb⟩ => ⟨he, hS.keep hb⟩) ?_
  go_simp
  refine plan_read (v := .agg (v3 ax ay az)) rfl rfl (fun u hS => exec_loadG hS rVec _ rfl rfl (by repeat (first | exact List.mem_cons_self | apply List.mem_cons_of_mem)) rfl) ?_
  go_simp
  refine plan_read (v := .bool true) rfl rfl (fun u hS => exec_eql_vec _ _ _ e0 rfl rfl rfl) ?_
  go_simp
  refine plan_read (v := ?_) rfl rfl (fun u hS => by go_simp; rfl) ?_
  go_simp
  refine plan_read (v := ?_) rfl rfl (fun u hS => by go_simp; rfl) ?_
  go_simp
  refine plan_read (v := .agg (v3 ax ay az)) rfl rfl (fun u hS => exec_loadG hS rVec _ rfl rfl (by repeat (first | exact List.mem_cons_self | apply List.mem_cons_of_mem)) rfl) ?_
  go_simp
  refine plan_read (v := .agg (v3 0 0 0)) rfl rfl (fun u hS => by go_simp) ?_
  go_simp
  refine plan_read (v := ?_) rfl rfl (fun u hS => by go_simp; rfl) ?_
  go_simp
  refine plan_call (v := .agg (v3 ax ay az)) (f := 35) (args := #[.agg (v3 ax ay az), .agg (v3 0 0 0), .int .i64 s]) rfl rfl (fun u hS => by go_simp) (fun u hS => (unhide hM1 u).mono fun _ _ ⟨he, hb⟩ => ⟨he, hS.keep hb⟩) ?_
  go_simp
  refine plan_read (v := .agg (v3 ax ay az)) rfl rfl (fun u hS => exec_loadG hS rVec _ rfl rfl (by repeat (first | exact List.mem_cons_self | apply List.mem_cons_of_mem)) rfl) ?_
  go_simp
  refine plan_read (v := .bool true) rfl rfl (fun u hS => exec_eql_vec _ _ _ e0 rfl rfl rfl) ?_
  go_simp
  refine plan_read (v := ?_) rfl rfl (fun u hS => by go_simp; rfl) ?_
  go_simp
  refine plan_read (v := ?_) rfl rfl (fun u hS => by go_simp; rfl) ?_
  go_simp
  refine plan_read (v := ?_) rfl rfl (fun u hS => by go_simp; rfl) ?_
  go_simp
  refine plan_read (v := ?_) rfl rfl (fun u hS => by go_simp; rfl) ?_
  go_simp
  refine plan_read (v := ?_) rfl rfl (fun u hS => by go_simp; rfl) ?_
  go_simp
  refine plan_skip rfl rfl ?_
  go_simp
  refine plan_skip rfl rfl ?_
  go_simp
  refine plan_skip rfl rfl ?_
  go_simp
  refine plan_skip rfl rfl ?_
  go_simp
  refine plan_skip rfl rfl ?_
  go_simp
  refine plan_skip rfl rfl ?_
  go_simp
  refine plan_skip rfl rfl ?_
  go_simp
  refine plan_skip rfl rfl ?_
  go_simp
  refine plan_skip rfl rfl ?_
  go_simp
  refine plan_skip rfl rfl ?_
  go_simp
  refine plan_skip rfl rfl ?_
  go_simp
  refine plan_skip rfl rfl ?_
  go_simp
  refine plan_read (v := ?_) rfl rfl (fun u hS => by go_simp; rfl) ?_
  go_simp
  refine plan_read (v := ?_) rfl rfl (fun u hS => by go_simp; rfl) ?_
  go_simp
  refine plan_read (v := ?_) rfl rfl (fun u hS => by go_simp; rfl) ?_
  go_simp
  refine plan_call (v := .bool true) (f := 19) (args := #[]) rfl rfl (fun u hS => by go_simp) (fun u hS => (awake3Z u).mono fun _ _ ⟨he, hb⟩ => ⟨he, hS.keep hb⟩) ?_
  go_simp
  refine plan_read (v := ?_) rfl rfl (fun u hS => by go_simp; rfl) ?_
  go_simp
  refine plan_read (v := ?_) rfl rfl (fun u hS => by go_simp; rfl) ?_
  go_simp
  refine plan_end (fun u hS => ?_)
  have O := hide hS.o
  clear hS
  go_wp2
  go_ret
  exact ⟨rfl, unhide O⟩
set_option maxHeartbeats 2000000 in
theorem same_F (ax ay az vx vy vz s px py pz : Int) (w : World) (f0 : decide (-9223372036854775808 < ax) = false) (e0 : sameV ax ay az ax ay az = true)
    (hS : Hid (Ans 30 #[.agg (v3 0 0 0), .agg (v3 ax ay az)] (.agg (v3 px py pz)))) (hK : Hid (Ans 34 #[.agg (v3 ax ay az), .int .i64 4294967296] (.agg (v3 ax ay az)))) (hM0 : Hid (Ans 35 #[.agg (v3 ax ay az), .agg (v3 vx vy vz), .int .i64 0] (.agg (v3 ax ay az)))) (hM1 : Hid (Ans 35 #[.agg (v3 ax ay az), .agg (v3 0 0 0), .int .i64 s] (.agg (v3 ax ay az)))) :
    Calls Try.prog 7 #[.agg (v3 ax ay az), .agg (v3 vx vy vz), .int .i64 s] w fun e w' => e = .returned (.bool true) ∧ Below w.heap.size w w' := by
  go_enter Try.func7, Try.ntmps7
  go_upto_region 1 with fail
  have D := hide (((Gen.start w).push 24 (v3 ax ay az)).push 24 (v3 vx vy vz))
  simp only [szA] at D
  go_upto_region 3 with (first | (with_reducible refine at_list ?_; apply ldG (unhide D) rVec _ rfl rfl rfl (by repeat (first | exact List.mem_cons_self | apply List.mem_cons_of_mem)) rfl) | (go_at_call 30; with_reducible refine (unhide hS _).mono ?_; rintro e w' ⟨he, hb⟩; subst he; have D := hide ((unhide D).keep hb); clear hb) | (with_reducible refine at_list ?_; refine stG (unhide D) rVec _ _ rfl rfl rfl rfl rfl rfl (v3_one _ _ _) ?_; intro D'; have D := hide D'; clear D') | (with_reducible refine at_list ?_; apply ldFw (unhide D) _ rfl rfl rfl (by repeat (first | exact List.mem_cons_self | apply List.mem_cons_of_mem)) rfl) | (with_reducible refine at_list ?_; apply ldF (unhide D) _ rfl rfl rfl (by repeat (first | exact List.mem_cons_self | apply List.mem_cons_of_mem)) rfl) | (with_reducible refine at_list ?_;  refine gtrZ _ _ f0 rfl rfl rfl rfl ?_))
  refine region_plan (S := Gen w _) (l := [0, 1, 2, 3, 4, 5, 6, 7, 8, 9, 10, 11, 12, 13, 14, 15, 16, 17, 18, 19, 20, 21, 22, 23, 24, 25, 26, 27, 28, 29, 30, 31, 32, 33, 34, 35, 36, 37, 38, 39, 40]) (by kernel_rfl) (by kernel_rfl) (by kernel_rfl) (by kernel_rfl) (by kernel_rfl) (by kernel_rfl) (by kernel_rfl) (unhide D).drew ?_
  clear D
  refine plan_read (v := .agg (v3 ax ay az)) rfl rfl (fun u hS => exec_loadG hS rVec _ rfl rfl (by repeat (first | exact List.mem_cons_self | apply List.mem_cons_of_mem)) rfl) ?_
  go_simp
  refine plan_call (v := .agg (v3 ax ay az)) (f := 34) (args := #[.agg (v3 ax ay az), .int .i64 4294967296]) rfl rfl (fun u hS => by go_simp) (fun u hS => (unhide hK u).mono fun _ _ ⟨he, hb⟩ => ⟨he, hS.keep hb⟩) ?_
  go_simp
  refine plan_read (v := .agg (v3 ax ay az)) rfl rfl (fun u hS => exec_loadG hS rVec _ rfl rfl (by repeat (first | exact List.mem_cons_self | apply List.mem_cons_of_mem)) rfl) ?_
  go_simp
  refine plan_read (v := .bool true) rfl rfl (fun u hS => exec_eql_vec _ _ _ e0 rfl rfl rfl) ?_
  go_simp
  refine plan_read (v := ?_) rfl rfl (fun u hS => by go_simp; rfl) ?_
  go_simp
  refine plan_read (v := .agg (v3 ax ay az)) rfl rfl (fun u hS => exec_loadG hS rVec _ rfl rfl (by repeat (first | exact List.mem_cons_self | apply List.mem_cons_of_mem)) rfl) ?_
  go_simp
  refine plan_read (v := .agg (v3 vx vy vz)) rfl rfl (fun u hS => exec_loadG hS rVec _ rfl rfl (by repeat (first | exact List.mem_cons_self | apply List.mem_cons_of_mem)) rfl) ?_
  go_simp
  refine plan_call (v := .agg (v3 ax ay az)) (f := 35) (args := #[.agg (v3 ax ay az), .agg (v3 vx vy vz), .int .i64 0]) rfl rfl (fun u hS => by go_simp) (fun u hS => (unhide hM0 u).mono fun _ _ ⟨he, hb⟩ => ⟨he, hS.keep hb⟩) ?_
  go_simp
  refine plan_read (v := .agg (v3 ax ay az)) rfl rfl (fun u hS => exec_loadG hS rVec _ rfl rfl (by repeat (first | exact List.mem_cons_self | apply List.mem_cons_of_mem)) rfl) ?_
  go_simp
  refine plan_read (v := .bool true) rfl rfl (fun u hS => exec_eql_vec _ _ _ e0 rfl rfl rfl) ?_
  go_simp
  refine plan_read (v := ?_) rfl rfl (fun u hS => by go_simp; rfl) ?_
  go_simp
  refine plan_read (v := ?_) rfl rfl (fun u hS => by go_simp; rfl) ?_
  go_simp
  refine plan_read (v := .agg (v3 ax ay az)) rfl rfl (fun u hS => exec_loadG hS rVec _ rfl rfl (by repeat (first | exact List.mem_cons_self | apply List.mem_cons_of_mem)) rfl) ?_
  go_simp
  refine plan_read (v := .agg (v3 0 0 0)) rfl rfl (fun u hS => by go_simp) ?_
  go_simp
  refine plan_read (v := ?_) rfl rfl (fun u hS => by go_simp; rfl) ?_
  go_simp
  refine plan_call (v := .agg (v3 ax ay az)) (f := 35) (args := #[.agg (v3 ax ay az), .agg (v3 0 0 0), .int .i64 s]) rfl rfl (fun u hS => by go_simp) (fun u hS => (unhide hM1 u).mono fun _ _ ⟨he, hb⟩ => ⟨he, hS.keep hb⟩) ?_
  go_simp
  refine plan_read (v := .agg (v3 ax ay az)) rfl rfl (fun u hS => exec_loadG hS rVec _ rfl rfl (by repeat (first | exact List.mem_cons_self | apply List.mem_cons_of_mem)) rfl) ?_
  go_simp
  refine plan_read (v := .bool true) rfl rfl (fun u hS => exec_eql_vec _ _ _ e0 rfl rfl rfl) ?_
  go_simp
  refine plan_read (v := ?_) rfl rfl (fun u hS => by go_simp; rfl) ?_
  go_simp
  refine plan_read (v := ?_) rfl rfl (fun u hS => by go_simp; rfl) ?_
  go_simp
  refine plan_read (v := ?_) rfl rfl (fun u hS => by go_simp; rfl) ?_
  go_simp
  refine plan_read (v := ?_) rfl rfl (fun u hS => by go_simp; rfl) ?_
  go_simp
  refine plan_read (v := ?_) rfl rfl (fun u hS => by go_simp; rfl) ?_
  go_simp
  refine plan_skip rfl rfl ?_
  go_simp
  refine plan_skip rfl rfl ?_
  go_simp
  refine plan_skip rfl rfl ?_
  go_simp
  refine plan_skip rfl rfl ?_
  go_simp
  refine plan_skip rfl rfl ?_
  go_simp
  refine plan_skip rfl rfl ?_
  go_simp
  refine plan_skip rfl rfl ?_
  go_simp
  refine plan_skip rfl rfl ?_
  go_simp
  refine plan_skip rfl rfl ?_
  go_simp
  refine plan_skip rfl rfl ?_
  go_simp
  refine plan_skip rfl rfl ?_
  go_simp
  refine plan_skip rfl rfl ?_
  go_simp
  refine plan_read (v := ?_) rfl rfl (fun u hS => by go_simp; rfl) ?_
  go_simp
  refine plan_read (v := ?_) rfl rfl (fun u hS => by go_simp; rfl) ?_
  go_simp
  refine plan_read (v := ?_) rfl rfl (fun u hS => by go_simp; rfl) ?_
  go_simp
  refine plan_call (v := .bool true) (f := 19) (args := #[]) rfl rfl (fun u hS => by go_simp) (fun u hS => (awake3Z u).mono fun _ _ ⟨he, hb⟩ => ⟨he, hS.keep hb⟩) ?_
  go_simp
  refine plan_read (v := ?_) rfl rfl (fun u hS => by go_simp; rfl) ?_
  go_simp
  refine plan_read (v := ?_) rfl rfl (fun u hS => by go_simp; rfl) ?_
  go_simp
  refine plan_end (fun u hS => ?_)
  have O := hide hS.o
  clear hS
  go_wp2
  go_ret
  exact ⟨rfl, unhide O⟩
theorem mulD_1 {a : Int} (h : I64 a) : mulD a 4294967296 = a := by
  unfold mulD
  rw [Int.mul_ediv_cancel _ (by decide)]
  exact cl_self h
theorem movI_0 {a : Int} (v : Int) (h : I64 a) : movI a v 0 = a := by
  unfold movI
  rw [Int.mul_zero, Int.add_zero, Int.mul_ediv_cancel _ (by decide)]
  exact cl_self h
theorem movI_v {a : Int} (s : Int) (h : I64 a) : movI a 0 s = a := by
  unfold movI
  rw [Int.zero_mul, Int.add_zero, Int.mul_ediv_cancel _ (by decide)]
  exact cl_self h
theorem cl_neg {a : Int} (h : I64 a) (h0 : -9223372036854775808 < a) : cl (0 - a) = -a := by
  rw [Int.zero_sub]
  exact cl_self ⟨by have := h.2; omega, by omega⟩
theorem sqr_neg (x y z : Int) : sqr (-x) (-y) (-z) = sqr x y z := by
  unfold sqr
  rw [Int.neg_mul_neg, Int.neg_mul_neg, Int.neg_mul_neg]
theorem i0 : I64 0 := ⟨by decide, by decide⟩
theorem vecSame_walk (ax ay az vx vy vz s : Int) (k0 : (Lit.int .i64 ax).wf = true) (l0 : (Lit.int .i64 ay).wf = true) (m0 : (Lit.int .i64 az).wf = true) (k1 : (Lit.int .i64 vx).wf = true) (l1 : (Lit.int .i64 vy).wf = true) (m1 : (Lit.int .i64 vz).wf = true) (w2 : (Lit.int .i64 s).wf = true) (w : World) :
    Calls Try.prog 7 #[.agg (v3 ax ay az), .agg (v3 vx vy vz), .int .i64 s] w fun e w' => e = .returned (.bool true) ∧ Below w.heap.size w w' := by
  have j0 := I64.wf k0
  have j1 := I64.wf l0
  have j2 := I64.wf m0
  have j3 := I64.wf k1
  have j4 := I64.wf l1
  have j5 := I64.wf m1
  have j6 := I64.wf w2
  have hS := VSubZ 0 0 0 ax ay az i0 i0 i0 j0 j1 j2
  have hK := VScaleZ ax ay az 4294967296 j0 j1 j2 oneI
  rw [mulD_1 j0, mulD_1 j1, mulD_1 j2] at hK
  have hM0 := VMoveZ ax ay az vx vy vz 0 j0 j1 j2 j3 j4 j5 i0
  rw [movI_0 _ j0, movI_0 _ j1, movI_0 _ j2] at hM0
  have hM1 := VMoveZ ax ay az 0 0 0 s j0 j1 j2 i0 i0 i0 j6
  rw [movI_v _ j0, movI_v _ j1, movI_v _ j2] at hM1
  have e0 : sameV ax ay az ax ay az = true := by simp [sameV]
  have h1 := VLenZ ax ay az j0 j1 j2
  have h3 := VLenUpZ ax ay az j0 j1 j2
  by_cases f0 : -9223372036854775808 < ax
  · by_cases f1 : -9223372036854775808 < ay
    · by_cases f2 : -9223372036854775808 < az
      · rw [cl_neg j0 f0, cl_neg j1 f1, cl_neg j2 f2] at hS
        have h2 := VLenZ (-ax) (-ay) (-az) (by rw [← cl_neg j0 f0]; exact cl_I64 _) (by rw [← cl_neg j1 f1]; exact cl_I64 _) (by rw [← cl_neg j2 f2]; exact cl_I64 _)
        have h4 := VLenUpZ (-ax) (-ay) (-az) (by rw [← cl_neg j0 f0]; exact cl_I64 _) (by rw [← cl_neg j1 f1]; exact cl_I64 _) (by rw [← cl_neg j2 f2]; exact cl_I64 _)
        rw [sqr_neg] at h2 h4
        exact same_TTT ax ay az vx vy vz s _ _ _ _ _ w (decide_eq_true f0) (decide_eq_true f1) (decide_eq_true f2) e0 (by simp) (by simp) hS hK hM0 hM1 h1 h2 h3 h4
      · exact same_TTF ax ay az vx vy vz s _ _ _ w (decide_eq_true f0) (decide_eq_true f1) (decide_eq_false f2) e0 hS hK hM0 hM1
    · exact same_TF ax ay az vx vy vz s _ _ _ w (decide_eq_true f0) (decide_eq_false f1) e0 hS hK hM0 hM1
  · exact same_F ax ay az vx vy vz s _ _ _ w (decide_eq_false f0) e0 hS hK hM0 hM1

end Go.Proofs.Ytljggjnaolbapaa
