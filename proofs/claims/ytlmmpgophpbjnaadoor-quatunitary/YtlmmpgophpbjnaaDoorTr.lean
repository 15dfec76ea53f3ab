/- Package quat's laws: QuatUnitary. -/
import Derived.Test.YtlmmpgophpbjnaaDoorTp
namespace Go.Proofs.YtlmmpgophpbjnaaDoor
open Go.RowKit
set_option maxRecDepth 4000
set_option linter.unusedVariables false

theorem exec_eqlB {o : Oper} {a : Act} (w : World) (p q : Operand) {b : Bool} (ho : o.op = .binOp .eql 4 p q 4) (hx : a.eval p = .bool b) (hy : a.eval q = .bool b) : (execOp a.eval o).run Tryd.prog w = .ok (.value (.bool true)) w := by
  unfold execOp
  simp only [ho, hx, hy]
  cases b <;> go_simp
theorem bsF4 (a b c d : Int) (w : World) : (Instr.buildSlice 44 4 #[(0, .int .i64 a), (1, .int .i64 b), (2, .int .i64 c), (3, .int .i64 d)]).run Tryd.prog w = .ok (.slice (some ⟨w.heap.size, 0, none⟩) 4 4) (w.alloc (.cells (q4 a b c d) 22)) := by kernel_rfl
theorem exec_bsF4 {o : Oper} {ac : Act} (w : World) (p q r t : Operand) {a b c d : Int} (ho : o.op = .buildSlice 44 4 #[(0, p), (1, q), (2, r), (3, t)]) (hp : ac.eval p = .int .i64 a) (hq : ac.eval q = .int .i64 b) (hr : ac.eval r = .int .i64 c) (ht : ac.eval t = .int .i64 d) :
    (execOp ac.eval o).run Tryd.prog w = .ok (.value (.slice (some ⟨w.heap.size, 0, none⟩) 4 4)) (w.alloc (.cells (q4 a b c d) 22)) := by
  unfold execOp
  have e : (#[(0, p), (1, q), (2, r), (3, t)].map fun (i, x) => (i, ac.eval x)) = #[(0, .int .i64 a), (1, .int .i64 b), (2, .int .i64 c), (3, .int .i64 d)] := by simp [hp, hq, hr, ht]
  simp only [ho, Sem.run_bind, e, bsF4, Result.andThen_ok, Sem.run_pure]
set_option maxHeartbeats 4000000 in
theorem unitary5_bad (a b c d : Int) (TP TT : Array Value) (w : World) (hP : Tab 1 TP w) (hT : Tab 0 TT w)
    (hW : Hid (∀ u, Tab 1 TP u → Tab 0 TT u → Calls Tryd.prog 12 #[] u fun e w' => e = .returned (.bool true) ∧ Below u.heap.size u w')) (hO : Hid (Ans 13 #[] (.agg (q4 4294967296 0 0 0))))
    (h1 : Hid (∀ u, Tab 1 TP u → Calls Tryd.prog 14 #[.agg (q4 4294967296 0 0 0), .agg (q4 a b c d)] u fun e w' => e = .returned (.agg (q4 a b c d)) ∧ Below u.heap.size u w')) (h2 : Hid (∀ u, Tab 1 TP u → Calls Tryd.prog 14 #[.agg (q4 a b c d), .agg (q4 4294967296 0 0 0)] u fun e w' => e = .returned (.agg (q4 a b c d)) ∧ Below u.heap.size u w')) (e0 : sameQ 0 0 0 0 0 0 0 0 = true) (hU : Hid (Ans 15 #[.agg (q4 a b c d)] (.tuple #[.agg (q4 0 0 0 0), .int .i64 9]))) :
    Calls Tryd.prog 4 #[.agg (q4 a b c d)] w fun e w' => e = .returned (.bool true) ∧ Below w.heap.size w w' := by
  have hPlt := hP.lt
  have hTlt := hT.lt
  have HP := hide hP
  have HT := hide hT
  clear hP hT
  go_enter Tryd.func4, Tryd.ntmps4
  go_upto_region 1 with fail
  have D := hide ((Gen.start w).push 24 (q4 a b c d))
  go_upto_region 2 with (first | (go_at_call 13; with_reducible refine (unhide hO _).mono ?_; rintro e w' ⟨he, hb⟩; subst he; have D := hide ((unhide D).keep hb); clear hb) | (with_reducible refine at_list ?_; refine stG (unhide D) rQuat _ _ rfl rfl rfl rfl rfl rfl (q4_one _ _ _ _) ?_; intro D'; have D := hide D'; clear D'))
  refine region_plan (S := Gen w _) (l := [0, 1, 2, 3, 4, 5, 6, 7, 8, 9, 10, 11]) (by kernel_rfl) (by kernel_rfl) (by kernel_rfl) (by kernel_rfl) (by kernel_rfl) (by kernel_rfl) (by kernel_rfl) (unhide D).drew ?_
  clear D
  refine plan_read (v := .agg (q4 4294967296 0 0 0)) rfl rfl (fun u hS => exec_loadG hS rQuat (.tmp 3) rfl rfl (by repeat (first | exact List.mem_cons_self | apply List.mem_cons_of_mem)) rfl) ?_
  go_simp
  refine plan_read (v := .agg (q4 a b c d)) rfl rfl (fun u hS => exec_loadG hS rQuat (.tmp 1) rfl rfl (by repeat (first | exact List.mem_cons_self | apply List.mem_cons_of_mem)) rfl) ?_
  go_simp
  refine plan_call (v := .agg (q4 a b c d)) (f := 14) (args := #[.agg (q4 4294967296 0 0 0), .agg (q4 a b c d)]) rfl rfl (fun u hS => by go_simp) (fun u hS => (unhide h1 u ((unhide HP).below hS.o hPlt)).mono fun _ _ ⟨he, hb⟩ => ⟨he, hS.keep hb⟩) ?_
  go_simp
  refine plan_read (v := .agg (q4 a b c d)) rfl rfl (fun u hS => exec_loadG hS rQuat (.tmp 1) rfl rfl (by repeat (first | exact List.mem_cons_self | apply List.mem_cons_of_mem)) rfl) ?_
  go_simp
  refine plan_read (v := .bool (!true)) rfl rfl (fun u hS => exec_neq_quat _ (.tmp 10) (.tmp 11) (sameQ_self _ _ _ _) rfl rfl rfl) ?_
  go_simp
  refine plan_read (v := ?_) rfl rfl (fun u hS => by go_simp; rfl) ?_
  go_simp
  refine plan_read (v := .agg (q4 a b c d)) rfl rfl (fun u hS => exec_loadG hS rQuat (.tmp 1) rfl rfl (by repeat (first | exact List.mem_cons_self | apply List.mem_cons_of_mem)) rfl) ?_
  go_simp
  refine plan_read (v := .agg (q4 4294967296 0 0 0)) rfl rfl (fun u hS => exec_loadG hS rQuat (.tmp 3) rfl rfl (by repeat (first | exact List.mem_cons_self | apply List.mem_cons_of_mem)) rfl) ?_
  go_simp
  refine plan_call (v := .agg (q4 a b c d)) (f := 14) (args := #[.agg (q4 a b c d), .agg (q4 4294967296 0 0 0)]) rfl rfl (fun u hS => by go_simp) (fun u hS => (unhide h2 u ((unhide HP).below hS.o hPlt)).mono fun _ _ ⟨he, hb⟩ => ⟨he, hS.keep hb⟩) ?_
  go_simp
  refine plan_read (v := .agg (q4 a b c d)) rfl rfl (fun u hS => exec_loadG hS rQuat (.tmp 1) rfl rfl (by repeat (first | exact List.mem_cons_self | apply List.mem_cons_of_mem)) rfl) ?_
  go_simp
  refine plan_read (v := .bool (!true)) rfl rfl (fun u hS => exec_neq_quat _ (.tmp 16) (.tmp 17) (sameQ_self _ _ _ _) rfl rfl rfl) ?_
  go_simp
  refine plan_read (v := ?_) rfl rfl (fun u hS => by go_simp; rfl) ?_
  go_simp
  refine plan_end (fun u hS => ?_)
  have D := hide hS
  clear hS h1 h2
  go_wp2_with (first | (with_reducible refine at_list ?_; apply ldG (unhide D) rQuat _ rfl rfl rfl (by repeat (first | exact List.mem_cons_self | apply List.mem_cons_of_mem)) rfl) | (go_at_call 15; with_reducible refine (unhide hU _).mono ?_; rintro e w' ⟨he, hb⟩; subst he; have D := hide ((unhide D).keep hb); clear hb) | (with_reducible refine at_list ?_; refine stG (unhide D) rQuat _ _ rfl rfl rfl rfl rfl rfl (q4_one _ _ _ _) ?_; intro D'; have D := hide D'; clear D') | (with_reducible refine at_list ?_;  refine wpList_value rfl (exec_eql_quat _ (.tmp 27) (.tmp 28) e0 rfl rfl rfl) ?_) | (go_at_call 12; with_reducible refine (unhide hW _ ((unhide HP).below (unhide D).o hPlt) ((unhide HT).below (unhide D).o hTlt)).mono ?_; rintro e w' ⟨he, hb⟩; subst he; have D := hide ((unhide D).keep hb); clear hb))
  go_ret
  exact ⟨rfl, (unhide D).o⟩
set_option maxHeartbeats 8000000 in
theorem unitary5_core (a b c d u0 u1 u2 u3 : Int) (s0 s1 s2 s3 : Bool) (T' : Nat) (TP TT : Array Value) (w : World) (hP : Tab 1 TP w) (hT : Tab 0 TT w)
    (hW : Hid (∀ u, Tab 1 TP u → Tab 0 TT u → Calls Tryd.prog 12 #[] u fun e w' => e = .returned (.bool true) ∧ Below u.heap.size u w')) (hO : Hid (Ans 13 #[] (.agg (q4 4294967296 0 0 0))))
    (h1 : Hid (∀ u, Tab 1 TP u → Calls Tryd.prog 14 #[.agg (q4 4294967296 0 0 0), .agg (q4 a b c d)] u fun e w' => e = .returned (.agg (q4 a b c d)) ∧ Below u.heap.size u w')) (h2 : Hid (∀ u, Tab 1 TP u → Calls Tryd.prog 14 #[.agg (q4 a b c d), .agg (q4 4294967296 0 0 0)] u fun e w' => e = .returned (.agg (q4 a b c d)) ∧ Below u.heap.size u w')) (z0 : ((0 : Int) == 0) = true) (u0' : decide (u0 < 0) = s0) (v0' : decide (a < 0) = s0) (u1' : decide (u1 < 0) = s1) (v1' : decide (b < 0) = s1) (u2' : decide (u2 < 0) = s2) (v2' : decide (c < 0) = s2) (u3' : decide (u3 < 0) = s3) (v3' : decide (d < 0) = s3) (hU : Hid (Ans 15 #[.agg (q4 a b c d)] (.tuple #[.agg (q4 u0 u1 u2 u3), .int .i64 0]))) (hC : Hid (Ans 17 #[.agg (q4 u0 u1 u2 u3)] (.int .i64 0)))
    (hSq : Hid (∀ u g, Blk u g 22 (q4 u0 u1 u2 u3) → Calls Tryd.prog 16 #[.slice (some ⟨g, 0, none⟩) 4 4] u fun e w' => e = .returned (.agg (cells8 T')) ∧ Below u.heap.size u w')) (hN : Hid (Ans 18 #[.agg (cells8 T'), .int .i64 29] (.bool true))) :
    Calls Tryd.prog 4 #[.agg (q4 a b c d)] w fun e w' => e = .returned (.bool true) ∧ Below w.heap.size w w' := by
  have hPlt := hP.lt
  have hTlt := hT.lt
  have HP := hide hP
  have HT := hide hT
  clear hP hT
  go_enter Tryd.func4, Tryd.ntmps4
  go_upto_region 1 with fail
  have D := hide ((Gen.start w).push 24 (q4 a b c d))
  go_upto_region 2 with (first | (go_at_call 13; with_reducible refine (unhide hO _).mono ?_; rintro e w' ⟨he, hb⟩; subst he; have D := hide ((unhide D).keep hb); clear hb) | (with_reducible refine at_list ?_; refine stG (unhide D) rQuat _ _ rfl rfl rfl rfl rfl rfl (q4_one _ _ _ _) ?_; intro D'; have D := hide D'; clear D'))
  refine region_plan (S := Gen w _) (l := [0, 1, 2, 3, 4, 5, 6, 7, 8, 9, 10, 11]) (by kernel_rfl) (by kernel_rfl) (by kernel_rfl) (by kernel_rfl) (by kernel_rfl) (by kernel_rfl) (by kernel_rfl) (unhide D).drew ?_
  clear D
  refine plan_read (v := .agg (q4 4294967296 0 0 0)) rfl rfl (fun u hS => exec_loadG hS rQuat (.tmp 3) rfl rfl (by repeat (first | exact List.mem_cons_self | apply List.mem_cons_of_mem)) rfl) ?_
  go_simp
  refine plan_read (v := .agg (q4 a b c d)) rfl rfl (fun u hS => exec_loadG hS rQuat (.tmp 1) rfl rfl (by repeat (first | exact List.mem_cons_self | apply List.mem_cons_of_mem)) rfl) ?_
  go_simp
  refine plan_call (v := .agg (q4 a b c d)) (f := 14) (args := #[.agg (q4 4294967296 0 0 0), .agg (q4 a b c d)]) rfl rfl (fun u hS => by go_simp) (fun u hS => (unhide h1 u ((unhide HP).below hS.o hPlt)).mono fun _ _ ⟨he, hb⟩ => ⟨he, hS.keep hb⟩) ?_
  go_simp
  refine plan_read (v := .agg (q4 a b c d)) rfl rfl (fun u hS => exec_loadG hS rQuat (.tmp 1) rfl rfl (by repeat (first | exact List.mem_cons_self | apply List.mem_cons_of_mem)) rfl) ?_
  go_simp
  refine plan_read (v := .bool (!true)) rfl rfl (fun u hS => exec_neq_quat _ (.tmp 10) (.tmp 11) (sameQ_self _ _ _ _) rfl rfl rfl) ?_
  go_simp
  refine plan_read (v := ?_) rfl rfl (fun u hS => by go_simp; rfl) ?_
  go_simp
  refine plan_read (v := .agg (q4 a b c d)) rfl rfl (fun u hS => exec_loadG hS rQuat (.tmp 1) rfl rfl (by repeat (first | exact List.mem_cons_self | apply List.mem_cons_of_mem)) rfl) ?_
  go_simp
  refine plan_read (v := .agg (q4 4294967296 0 0 0)) rfl rfl (fun u hS => exec_loadG hS rQuat (.tmp 3) rfl rfl (by repeat (first | exact List.mem_cons_self | apply List.mem_cons_of_mem)) rfl) ?_
  go_simp
  refine plan_call (v := .agg (q4 a b c d)) (f := 14) (args := #[.agg (q4 a b c d), .agg (q4 4294967296 0 0 0)]) rfl rfl (fun u hS => by go_simp) (fun u hS => (unhide h2 u ((unhide HP).below hS.o hPlt)).mono fun _ _ ⟨he, hb⟩ => ⟨he, hS.keep hb⟩) ?_
  go_simp
  refine plan_read (v := .agg (q4 a b c d)) rfl rfl (fun u hS => exec_loadG hS rQuat (.tmp 1) rfl rfl (by repeat (first | exact List.mem_cons_self | apply List.mem_cons_of_mem)) rfl) ?_
  go_simp
  refine plan_read (v := .bool (!true)) rfl rfl (fun u hS => exec_neq_quat _ (.tmp 16) (.tmp 17) (sameQ_self _ _ _ _) rfl rfl rfl) ?_
  go_simp
  refine plan_read (v := ?_) rfl rfl (fun u hS => by go_simp; rfl) ?_
  go_simp
  refine plan_end (fun u hS => ?_)
  have D := hide hS
  clear hS h1 h2
  go_upto_region 7 with (first | (with_reducible refine at_list ?_; apply ldG (unhide D) rQuat _ rfl rfl rfl (by repeat (first | exact List.mem_cons_self | apply List.mem_cons_of_mem)) rfl) | (go_at_call 15; with_reducible refine (unhide hU _).mono ?_; rintro e w' ⟨he, hb⟩; subst he; have D := hide ((unhide D).keep hb); clear hb) | (with_reducible refine at_list ?_; refine stG (unhide D) rQuat _ _ rfl rfl rfl rfl rfl rfl (q4_one _ _ _ _) ?_; intro D'; have D := hide D'; clear D'))
  go_upto_region 8 with (first | (with_reducible refine at_list ?_; apply ldF (unhide D) _ rfl rfl rfl (by repeat (first | exact List.mem_cons_self | apply List.mem_cons_of_mem)) rfl) | (with_reducible refine at_list ?_;  refine wpList_turns rfl (exec_bsF4 _ (.tmp 34) (.tmp 36) (.tmp 38) (.tmp 40) rfl rfl rfl rfl rfl) ?_; have D := hide ((unhide D).push 22 (q4 u0 u1 u2 u3)); simp only [szA] at D) | (go_at_call 16; refine (unhide hSq _ _ ((unhide D).blk List.mem_cons_self)).mono ?_; rintro e w' ⟨he, hb⟩; subst he; have D := hide ((unhide D).keep hb); clear hb) | (with_reducible refine at_list ?_; refine stG (unhide D) rWide _ _ rfl rfl rfl rfl rfl rfl (cells8_one _) ?_; intro D'; have D := hide D'; clear D'))
  go_wp2_with (first | (with_reducible refine at_list ?_; apply ldG (unhide D) rQuat _ rfl rfl rfl (by repeat (first | exact List.mem_cons_self | apply List.mem_cons_of_mem)) rfl) | (with_reducible refine at_list ?_; apply ldGw (unhide D) rWide _ rfl rfl rfl (by repeat (first | exact List.mem_cons_self | apply List.mem_cons_of_mem)) rfl) | (with_reducible refine at_list ?_; apply ldFw (unhide D) _ rfl rfl rfl (by repeat (first | exact List.mem_cons_self | apply List.mem_cons_of_mem)) rfl) | (go_at_call 17; with_reducible refine (unhide hC _).mono ?_; rintro e w' ⟨he, hb⟩; subst he; have D := hide ((unhide D).keep hb); clear hb) | (go_at_call 18; with_reducible refine (unhide hN _).mono ?_; rintro e w' ⟨he, hb⟩; subst he; have D := hide ((unhide D).keep hb); clear hb) | (with_reducible refine at_list ?_;  refine eqlZ _ _ z0 rfl rfl rfl rfl ?_) | (with_reducible refine at_list ?_;  refine lssZw _ _ u0' rfl rfl rfl rfl ?_) | (with_reducible refine at_list ?_;  refine lssZw _ _ v0' rfl rfl rfl rfl ?_) | (with_reducible refine at_list ?_;  refine lssZw _ _ u1' rfl rfl rfl rfl ?_) | (with_reducible refine at_list ?_;  refine lssZw _ _ v1' rfl rfl rfl rfl ?_) | (with_reducible refine at_list ?_;  refine lssZw _ _ u2' rfl rfl rfl rfl ?_) | (with_reducible refine at_list ?_;  refine lssZw _ _ v2' rfl rfl rfl rfl ?_) | (with_reducible refine at_list ?_;  refine lssZw _ _ u3' rfl rfl rfl rfl ?_) | (with_reducible refine at_list ?_;  refine lssZw _ _ v3' rfl rfl rfl rfl ?_) | (with_reducible refine at_list ?_;  refine wpList_valuew rfl (exec_eqlB _ _ _ rfl rfl rfl) ?_) | (go_at_call 12; with_reducible refine (unhide hW _ ((unhide HP).below (unhide D).o hPlt) ((unhide HT).below (unhide D).o hTlt)).mono ?_; rintro e w' ⟨he, hb⟩; subst he; have D := hide ((unhide D).keep hb); clear hb))
  go_ret
  exact ⟨rfl, (unhide D).o⟩
theorem one_mul (a b c d : Int) (h0 : I64 a) (h1 : I64 b) (h2 : I64 c) (h3 : I64 d) : mulQ 4294967296 0 0 0 a b c d 0 = a ∧ mulQ 4294967296 0 0 0 a b c d 1 = b ∧ mulQ 4294967296 0 0 0 a b c d 2 = c ∧ mulQ 4294967296 0 0 0 a b c d 3 = d := by
  unfold mulQ
  rw [prd_0, prd_1, prd_2, prd_3]
  refine ⟨?_, ?_, ?_, ?_⟩
  · rw [show 0 + 4294967296 * a * 1 + 0 * b * -1 + 0 * c * -1 + 0 * d * -1 = a * 4294967296 by grind, Int.mul_ediv_cancel _ (by decide)]; exact cl_self h0
  · rw [show 0 + 4294967296 * b * 1 + 0 * a * 1 + 0 * d * 1 + 0 * c * -1 = b * 4294967296 by grind, Int.mul_ediv_cancel _ (by decide)]; exact cl_self h1
  · rw [show 0 + 4294967296 * c * 1 + 0 * a * 1 + 0 * b * 1 + 0 * d * -1 = c * 4294967296 by grind, Int.mul_ediv_cancel _ (by decide)]; exact cl_self h2
  · rw [show 0 + 4294967296 * d * 1 + 0 * a * 1 + 0 * c * 1 + 0 * b * -1 = d * 4294967296 by grind, Int.mul_ediv_cancel _ (by decide)]; exact cl_self h3
theorem mul_one (a b c d : Int) (h0 : I64 a) (h1 : I64 b) (h2 : I64 c) (h3 : I64 d) : mulQ a b c d 4294967296 0 0 0 0 = a ∧ mulQ a b c d 4294967296 0 0 0 1 = b ∧ mulQ a b c d 4294967296 0 0 0 2 = c ∧ mulQ a b c d 4294967296 0 0 0 3 = d := by
  unfold mulQ
  rw [prd_0, prd_1, prd_2, prd_3]
  refine ⟨?_, ?_, ?_, ?_⟩
  · rw [show 0 + a * 4294967296 * 1 + b * 0 * -1 + c * 0 * -1 + d * 0 * -1 = a * 4294967296 by grind, Int.mul_ediv_cancel _ (by decide)]; exact cl_self h0
  · rw [show 0 + a * 0 * 1 + b * 4294967296 * 1 + c * 0 * 1 + d * 0 * -1 = b * 4294967296 by grind, Int.mul_ediv_cancel _ (by decide)]; exact cl_self h1
  · rw [show 0 + a * 0 * 1 + c * 4294967296 * 1 + d * 0 * 1 + b * 0 * -1 = c * 4294967296 by grind, Int.mul_ediv_cancel _ (by decide)]; exact cl_self h2
  · rw [show 0 + a * 0 * 1 + d * 4294967296 * 1 + b * 0 * 1 + c * 0 * -1 = d * 4294967296 by grind, Int.mul_ediv_cancel _ (by decide)]; exact cl_self h3
theorem four_sq (f g h k : Int) : (f + g + h + k) * (f + g + h + k) ≤ 4 * (f * f + g * g + h * h + k * k) := by
  have q1 := sq0 (f - g)
  have q2 := sq0 (f - h)
  have q3 := sq0 (f - k)
  have q4' := sq0 (g - h)
  have q5 := sq0 (g - k)
  have q6 := sq0 (h - k)
  have e : 4 * (f * f + g * g + h * h + k * k) = (f + g + h + k) * (f + g + h + k) + (f - g) * (f - g) + (f - h) * (f - h) + (f - k) * (f - k) + (g - h) * (g - h) + (g - k) * (g - k) + (h - k) * (h - k) := by clear q1 q2 q3 q4' q5 q6; grind
  rw [e]
  omega
theorem unit4_low {x y z t u v p q S : Int} (hS : 0 < S) (e : sq4 x y z t = S) (hx : PartU x u S) (hy : PartU y v S) (hz : PartU z p S) (ht : PartU t q S) : 18446744073709551616 - 34359738368 ≤ sq4 u v p q ∧ sq4 u v p q ≤ 18446744073709551616 + 34359738368 := by
  obtain ⟨f, f0, f1, fe, a1, a2⟩ := part_abs hx
  obtain ⟨g, g0, g1, ge, b1, b2⟩ := part_abs hy
  obtain ⟨h, h0, h1, he, c1, c2⟩ := part_abs hz
  obtain ⟨k, k0, k1, ke, d1, d2⟩ := part_abs ht
  have m1 : f * f + g * g + h * h + k * k - 2 * (f + g + h + k) ≤ 18446744073709551616 := by
    refine Int.le_of_mul_le_mul_right ?_ hS
    rw [show (f * f + g * g + h * h + k * k - 2 * (f + g + h + k)) * S = (f * f * S - 2 * f * S) + (g * g * S - 2 * g * S) + (h * h * S - 2 * h * S) + (k * k * S - 2 * k * S) by grind]
    unfold sq4 at e
    have e2 : 18446744073709551616 * S = x * x * 18446744073709551616 + y * y * 18446744073709551616 + z * z * 18446744073709551616 + t * t * 18446744073709551616 := by rw [← e]; grind
    omega
  have m2 : 18446744073709551616 ≤ f * f + g * g + h * h + k * k + 2 * (f + g + h + k) + 4 := by
    refine Int.le_of_mul_le_mul_right ?_ hS
    rw [show (f * f + g * g + h * h + k * k + 2 * (f + g + h + k) + 4) * S = (f * f * S + 2 * f * S + S) + (g * g * S + 2 * g * S + S) + (h * h * S + 2 * h * S + S) + (k * k * S + 2 * k * S + S) by grind]
    unfold sq4 at e
    have e2 : 18446744073709551616 * S = x * x * 18446744073709551616 + y * y * 18446744073709551616 + z * z * 18446744073709551616 + t * t * 18446744073709551616 := by rw [← e]; grind
    omega
  have m3 := four_sq f g h k
  unfold sq4
  rw [fe, ge, he, ke]
  refine ⟨?_, by omega⟩
  rcases Int.lt_or_le (f * f + g * g + h * h + k * k) (18446744073709551616 - 34359738368) with r | r
  · exfalso
    have s1 := lt_of_sq (x := f + g + h + k) (n := 8589934592) (by decide) (by omega)
    omega
  · exact r
theorem quatUnitary_walk (a b c d : Int) (k0 : (Lit.int .i64 a).wf = true) (l0 : (Lit.int .i64 b).wf = true) (m0 : (Lit.int .i64 c).wf = true) (n0 : (Lit.int .i64 d).wf = true) (w : World) (hP : Tab 1 tabP w) (hT : Tab 0 tabT w) :
    Calls Tryd.prog 4 #[.agg (q4 a b c d)] w fun e w' => e = .returned (.bool true) ∧ Below w.heap.size w w' := by
  have h0 := I64.wf k0
  have h1 := I64.wf l0
  have h2 := I64.wf m0
  have h3 := I64.wf n0
  have z0 : I64 0 := ⟨by decide, by decide⟩
  have zo : I64 4294967296 := ⟨by decide, by decide⟩
  obtain ⟨e0, e1, e2, e3⟩ := one_mul a b c d h0 h1 h2 h3
  obtain ⟨f0, f1, f2, f3⟩ := mul_one a b c d h0 h1 h2 h3
  have hL : ∀ u, Tab 1 tabP u → Calls Tryd.prog 14 #[.agg (q4 4294967296 0 0 0), .agg (q4 a b c d)] u fun e w' => e = .returned (.agg (q4 a b c d)) ∧ Below u.heap.size u w' := fun u p => by
    have k := QMulZ 4294967296 0 0 0 a b c d zo z0 z0 z0 h0 h1 h2 h3 u p
    rw [e0, e1, e2, e3] at k
    exact k
  have hR : ∀ u, Tab 1 tabP u → Calls Tryd.prog 14 #[.agg (q4 a b c d), .agg (q4 4294967296 0 0 0)] u fun e w' => e = .returned (.agg (q4 a b c d)) ∧ Below u.heap.size u w' := fun u p => by
    have k := QMulZ a b c d 4294967296 0 0 0 h0 h1 h2 h3 zo z0 z0 z0 u p
    rw [f0, f1, f2, f3] at k
    exact k
  rcases chk_cases (sq4 a b c d) with hc | hc
  · have hp : 0 < sq4 a b c d := by have := chk_pos hc; omega
    have hg := sq4_ge a b c d
    have hU := QUnitZ a b c d h0 h1 h2 h3 hc
    have p0 := shI_shr (x := a) hp hg.1
    have p1 := shI_shr (x := b) hp hg.2.1
    have p2 := shI_shr (x := c) hp hg.2.2.1
    have p3 := shI_shr (x := d) hp hg.2.2.2
    have hs := unit4_low hp rfl p0 p1 p2 p3
    generalize shI a (sq4 a b c d) = u0 at *
    generalize shI b (sq4 a b c d) = u1 at *
    generalize shI c (sq4 a b c d) = u2 at *
    generalize shI d (sq4 a b c d) = u3 at *
    have i0 : I64 u0 := ⟨by have := p0.l; omega, by have := p0.r; omega⟩
    have i1 : I64 u1 := ⟨by have := p1.l; omega, by have := p1.r; omega⟩
    have i2 : I64 u2 := ⟨by have := p2.l; omega, by have := p2.r; omega⟩
    have i3 : I64 u3 := ⟨by have := p3.l; omega, by have := p3.r; omega⟩
    have hq := n4_I64 i0 i1 i2 i3
    have hC := QCheckZ u0 u1 u2 u3 i0 i1 i2 i3
    rw [show chk (sq4 u0 u1 u2 u3) = 0 by unfold chk; rw [if_neg (by omega), if_neg (by omega)]] at hC
    have sT := sq4_sz hq
    have sO : Sz 64 18446744073709551616 := by unfold Sz; decide
    have sW : Sz 64 34359738368 := by unfold Sz; decide
    have sD : Sz 131 (sq4 u0 u1 u2 u3 - 18446744073709551616) := sT.sub (sO.mono (by decide))
    have hM : Ans 49 #[V (sq4 u0 u1 u2 u3), V 18446744073709551616] (.tuple #[V (sq4 u0 u1 u2 u3 - 18446744073709551616), .bool true]) := fun u => by
      have t := SubZ (sq4 u0 u1 u2 u3) 18446744073709551616 (sT.fit (by decide)) (sO.fit (by decide)) u
      rw [toldZ_fit (sD.fit (by decide))] at t
      exact t
    have hN : Ans 50 #[V (sq4 u0 u1 u2 u3 - 18446744073709551616)] (.tuple #[V (-(sq4 u0 u1 u2 u3 - 18446744073709551616)), .bool true]) := fun u => by
      have t := NegZ (sq4 u0 u1 u2 u3 - 18446744073709551616) (sD.fit (by decide)) u
      rw [toldZ_fit (sD.neg.fit (by decide))] at t
      exact t
    have le0 : ∀ x y : Int, x ≤ y → decide (cmpI x y ≤ 0) = true := fun x y h => by
      rw [cmpI_is_le]
      exact decide_eq_true h
    have hN1 : Ans 18 #[V (sq4 u0 u1 u2 u3), .int .i64 29] (.bool true) := fun u =>
      nearOne_29 _ (enc 1) (enc 18446744073709551616) (enc 34359738368) _ _ _ _ true u (le0 _ _ (show sq4 u0 u1 u2 u3 - 18446744073709551616 ≤ 34359738368 by omega)) (le0 _ _ (show -(sq4 u0 u1 u2 u3 - 18446744073709551616) ≤ 34359738368 by omega)) (fun v => OfZ 1 (by decide) (by decide) v) (shl_1 64 _ rfl (sO.fit (by decide)) (by decide) (by decide)) (shl_1 (64 - 29) _ rfl (sW.fit (by decide)) (by decide) (by decide)) hM hN (fun v => CmpZ _ _ (sD.fit (by decide)) (sW.fit (by decide)) v) (fun v => CmpZ _ _ (sD.neg.fit (by decide)) (sW.fit (by decide)) v)
    refine unitary5_core a b c d u0 u1 u2 u3 _ _ _ _ (enc (sq4 u0 u1 u2 u3)) tabP tabT w hP hT (fun u p q => awake5Z u p q) QOneZ hL hR (by decide) (decide_eq_decide.2 p0.sg) rfl (decide_eq_decide.2 p1.sg) rfl (decide_eq_decide.2 p2.sg) rfl (decide_eq_decide.2 p3.sg) rfl hU hC (fun u g hB => ?_) hN1
    rw [← sqk_4]
    exact squares_core 4 g (n4 u0 u1 u2 u3) (fun k => enc (n4 u0 u1 u2 u3 k)) (fun k => enc (n4 u0 u1 u2 u3 k * n4 u0 u1 u2 u3 k)) (fun k => enc (sqk u0 u1 u2 u3 k)) u (by decide) hB.lt rfl (fun k hk => by
        rw [hB.cell]
        rcases (show k = 0 ∨ k = 1 ∨ k = 2 ∨ k = 3 by omega) with rfl | rfl | rfl | rfl <;> rfl)
      (fun k _ => fun v => OfZ _ (n4_all (P := I64) i0 i1 i2 i3 k).1 (n4_all (P := I64) i0 i1 i2 i3 k).2 v) (fun k _ => mul_told _ _ (hq k) (hq k) (by decide)) (fun k hk v => by
        have t1 := sqk_sz hq k
        have t2 := ((hq k).mul (hq k)).mono (show 63 + 63 ≤ 126 + k by omega)
        have t := AddZ (sqk u0 u1 u2 u3 k) (n4 u0 u1 u2 u3 k * n4 u0 u1 u2 u3 k) (t1.fit (by omega)) (t2.fit (by omega)) v
        rw [toldZ_fit ((t1.add t2).fit (by omega))] at t
        exact t)
  · exact unitary5_bad a b c d tabP tabT w hP hT (fun u p q => awake5Z u p q) QOneZ hL hR (by decide) (QUnitBad a b c d h0 h1 h2 h3 hc)

end Go.Proofs.YtlmmpgophpbjnaaDoor
