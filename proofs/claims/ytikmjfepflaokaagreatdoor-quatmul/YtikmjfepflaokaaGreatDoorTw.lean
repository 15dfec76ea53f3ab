/- The document's numbers of layer 3: Len, Unit, Near. The document's numbers of layer 3: Unit; over integers: Len, Unit, Near. The document's layer 5: Back, the four numbers of a product, Mul, Unit, spun, Spin; the laws QuatMul, QuatUnit, QuatSpin. -/
import Derived.Test.YtikmjfepflaokaaGreatDoorSy
import Derived.Test.YtikmjfepflaokaaGreatDoorTu
namespace Go.Proofs.YtikmjfepflaokaaGreatDoor
open Go.RowKit
set_option maxRecDepth 4000
set_option linter.unusedVariables false

section
variable {o : Oper} {a : Act} {w : World} (p q : Operand) {x y : Int} {k : IntKind} {ty ty' : TypeId} {b : Bool} {ops : Array Oper} {rest : List Oper} {Q : Exit → Act → World → Prop}
theorem exec_geqS (hb : decide (y ≤ x) = b) (ho : o.op = .binOp .geq ty p q ty') (hx : a.eval p = .int k x) (hy : a.eval q = .int k y) : (execOp a.eval o).run Tryz.prog w = .ok (.value (.bool b)) w := by
  subst hb
  unfold execOp
  simp only [ho, hx, hy]
  go_simp
theorem exec_leqS (hb : decide (x ≤ y) = b) (ho : o.op = .binOp .leq ty p q ty') (hx : a.eval p = .int k x) (hy : a.eval q = .int k y) : (execOp a.eval o).run Tryz.prog w = .ok (.value (.bool b)) w := by
  subst hb
  unfold execOp
  simp only [ho, hx, hy]
  go_simp
theorem exec_eqlS (hb : (x == y) = b) (ho : o.op = .binOp .eql ty p q ty') (hx : a.eval p = .int k x) (hy : a.eval q = .int k y) : (execOp a.eval o).run Tryz.prog w = .ok (.value (.bool b)) w := by
  subst hb
  unfold execOp
  simp only [ho, hx, hy]
  go_simp
theorem geqS (hb : decide (y ≤ x) = b) (ho : o.op = .binOp .geq ty p q ty') (hgd : o.guard = none) (hx : a.eval p = .int k x) (hy : a.eval q = .int k y)
    (h : wpList Tryz.prog ops Q rest (a.put o.dst (.bool b)) w) : wpList Tryz.prog ops Q (o :: rest) a w := wpList_value hgd (exec_geqS p q hb ho hx hy) h
theorem eqlS (hb : (x == y) = b) (ho : o.op = .binOp .eql ty p q ty') (hgd : o.guard = none) (hx : a.eval p = .int k x) (hy : a.eval q = .int k y)
    (h : wpList Tryz.prog ops Q rest (a.put o.dst (.bool b)) w) : wpList Tryz.prog ops Q (o :: rest) a w := wpList_value hgd (exec_eqlS p q hb ho hx hy) h
theorem eqlSw (hb : (x == y) = b) (ho : o.op = .binOp .eql ty p q ty') (hgd : Region.wanted o (yielded ops a.tmps) = true) (hx : a.eval p = .int k x) (hy : a.eval q = .int k y)
    (h : wpList Tryz.prog ops Q rest (a.put o.dst (.bool b)) w) : wpList Tryz.prog ops Q (o :: rest) a w := wpList_valuew hgd (exec_eqlS p q hb ho hx hy) h
end
set_option maxHeartbeats 2000000 in
theorem ratio_pos (x v : Int) (A P n S q m r : Nat) (E : Bool) (w : World) (hx : decide (0 ≤ x) = true) (hR : Hid (Ans 71 #[.int .i64 x] (.agg (cells8 A)))) (hT : Hid (Ans 70 #[.agg (cells8 A), .agg (cells8 A)] (.agg (cells8 P)))) (hL : Hid (Ans 24 #[.agg (cells8 P), .int .i64 64] (.agg (cells8 n))))
    (hD : Hid (Ans 72 #[.agg (cells8 n), .agg (cells8 S)] (.tuple #[.agg (cells8 q), .agg (cells8 m), .bool E]))) (hQ : Hid (Ans 73 #[.agg (cells8 q)] (.tuple #[.agg (cells8 r), .bool E]))) (hW : Hid (Ans 56 #[.agg (cells8 r)] (.int .i64 v))) :
    Calls Tryz.prog 39 #[.int .i64 x, .agg (cells8 S)] w fun e w' => e = .returned (.int .i64 v) ∧ Below w.heap.size w w' := by
  go_enter Tryz.func39, Tryz.ntmps39
  go_upto_region 1 with fail
  have D := hide ((Gen.start w).push 43 (cells8 S))
  go_upto_region 3 with (first | (go_at_call 71; with_reducible refine (unhide hR _).mono ?_; rintro e w' ⟨he, hb⟩; subst he; have D := hide ((unhide D).keep hb); clear hb) | (go_at_call 70; with_reducible refine (unhide hT _).mono ?_; rintro e w' ⟨he, hb⟩; subst he; have D := hide ((unhide D).keep hb); clear hb) | (go_at_call 24; with_reducible refine (unhide hL _).mono ?_; rintro e w' ⟨he, hb⟩; subst he; have D := hide ((unhide D).keep hb); clear hb) | (with_reducible refine at_list ?_; refine stG (unhide D) rWide _ _ rfl rfl rfl rfl rfl rfl (cells8_one _) ?_; intro D'; have D := hide D'; clear D') | (with_reducible refine at_list ?_;  refine geqS _ _ hx rfl rfl rfl rfl ?_))
  go_wp2_with (first | (with_reducible refine at_list ?_; apply ldG (unhide D) rWide _ rfl rfl rfl (by repeat (first | exact List.mem_cons_self | apply List.mem_cons_of_mem)) rfl) | (go_at_call 72; with_reducible refine (unhide hD _).mono ?_; rintro e w' ⟨he, hb⟩; subst he; have D := hide ((unhide D).keep hb); clear hb) | (with_reducible refine at_list ?_;  refine stOne (n := q) rfl _ _ rfl rfl rfl rfl ?_) | (with_reducible refine at_list ?_;  refine stTwoG (n := q) (m := m) (unhide D) rfl _ _ rfl rfl rfl rfl ?_; intro w1 D'; have D := D'; clear D') | (go_at_call 73; with_reducible refine (unhide hQ _).mono ?_; rintro e w' ⟨he, hb⟩; subst he; have D := hide ((unhide D).keep hb); clear hb) | (with_reducible refine at_list ?_; refine stG (unhide D) rWide _ _ rfl rfl rfl rfl rfl rfl (cells8_one _) ?_; intro D'; have D := hide D'; clear D') | (go_at_call 56; with_reducible refine (unhide hW _).mono ?_; rintro e w' ⟨he, hb⟩; subst he; have D := hide ((unhide D).keep hb); clear hb))
  go_ret
  exact ⟨rfl, (unhide D).o⟩
set_option maxHeartbeats 4000000 in
theorem ratio_whole (x v : Int) (A P n S q m r k j t : Nat) (E : Bool) (w : World) (hx : decide (0 ≤ x) = false) (hR : Hid (Ans 71 #[.int .i64 x] (.agg (cells8 A)))) (hT : Hid (Ans 70 #[.agg (cells8 A), .agg (cells8 A)] (.agg (cells8 P)))) (hL : Hid (Ans 24 #[.agg (cells8 P), .int .i64 64] (.agg (cells8 n))))
    (hD : Hid (Ans 72 #[.agg (cells8 n), .agg (cells8 S)] (.tuple #[.agg (cells8 q), .agg (cells8 m), .bool E]))) (hQ : Hid (Ans 73 #[.agg (cells8 q)] (.tuple #[.agg (cells8 r), .bool E]))) (hK : Hid (Ans 70 #[.agg (cells8 r), .agg (cells8 r)] (.agg (cells8 k)))) (hJ : Hid (Ans 70 #[.agg (cells8 k), .agg (cells8 S)] (.agg (cells8 j)))) (hX : Hid (same j n = true)) (hM : Hid (Ans 63 #[.agg z8, .agg (cells8 r)] (.agg (cells8 t)))) (hW : Hid (Ans 56 #[.agg (cells8 t)] (.int .i64 v))) :
    Calls Tryz.prog 39 #[.int .i64 x, .agg (cells8 S)] w fun e w' => e = .returned (.int .i64 v) ∧ Below w.heap.size w w' := by
  go_enter Tryz.func39, Tryz.ntmps39
  go_upto_region 1 with fail
  have D := hide ((Gen.start w).push 43 (cells8 S))
  go_upto_region 6 with (first | (go_at_call 71; with_reducible refine (unhide hR _).mono ?_; rintro e w' ⟨he, hb⟩; subst he; have D := hide ((unhide D).keep hb); clear hb) | (go_at_call 70; with_reducible refine (unhide hT _).mono ?_; rintro e w' ⟨he, hb⟩; subst he; have D := hide ((unhide D).keep hb); clear hb) | (go_at_call 24; with_reducible refine (unhide hL _).mono ?_; rintro e w' ⟨he, hb⟩; subst he; have D := hide ((unhide D).keep hb); clear hb) | (with_reducible refine at_list ?_; refine stG (unhide D) rWide _ _ rfl rfl rfl rfl rfl rfl (cells8_one _) ?_; intro D'; have D := hide D'; clear D') | (with_reducible refine at_list ?_;  refine geqS _ _ hx rfl rfl rfl rfl ?_))
  go_upto_region 7 with (first | (with_reducible refine at_list ?_; apply ldG (unhide D) rWide _ rfl rfl rfl (by repeat (first | exact List.mem_cons_self | apply List.mem_cons_of_mem)) rfl) | (go_at_call 72; with_reducible refine (unhide hD _).mono ?_; rintro e w' ⟨he, hb⟩; subst he; have D := hide ((unhide D).keep hb); clear hb) | (with_reducible refine at_list ?_;  refine stOne (n := q) rfl _ _ rfl rfl rfl rfl ?_) | (with_reducible refine at_list ?_;  refine stTwoG (n := q) (m := m) (unhide D) rfl _ _ rfl rfl rfl rfl ?_; intro w1 D'; have D := D'; clear D'))
  go_upto_region 8 with (first | (with_reducible refine at_list ?_; apply ldG (unhide D) rWide _ rfl rfl rfl (by repeat (first | exact List.mem_cons_self | apply List.mem_cons_of_mem)) rfl) | (go_at_call 73; with_reducible refine (unhide hQ _).mono ?_; rintro e w' ⟨he, hb⟩; subst he; have D := hide ((unhide D).keep hb); clear hb) | (with_reducible refine at_list ?_;  have hl := hide (fun p hp => Nat.ne_of_lt ((unhide D).at_ p hp).lt); have hw := hide (unhide D).o.size; refine stG (unhide D) rWide _ _ rfl rfl rfl rfl rfl rfl (cells8_one _) ?_; intro D'; have D := hide D'; clear D'))
  refine region_plan (S := Gen w _) (l := [0, 1, 2, 3, 4, 5, 6]) (by kernel_rfl) (by kernel_rfl) (by kernel_rfl) (by kernel_rfl) (by kernel_rfl) (by kernel_rfl) (by kernel_rfl) (unhide D).drew ?_
  clear D
  refine plan_read (v := .agg (cells8 r)) rfl rfl (fun u hS => exec_loadG hS rWide _ rfl rfl (by repeat (first | exact List.mem_cons_self | apply List.mem_cons_of_mem)) rfl) ?_
  go_simp
  refine plan_read (v := .agg (cells8 r)) rfl rfl (fun u hS => exec_loadG hS rWide _ rfl rfl (by repeat (first | exact List.mem_cons_self | apply List.mem_cons_of_mem)) rfl) ?_
  go_simp
  refine plan_call (v := .agg (cells8 k)) (f := 70) (args := #[.agg (cells8 r), .agg (cells8 r)]) rfl rfl (fun u hS => by go_simp) (fun u hS => (unhide hK u).mono fun _ _ ⟨he, hb⟩ => ⟨he, hS.keep hb⟩) ?_
  go_simp
  refine plan_read (v := .agg (cells8 S)) rfl rfl (fun u hS => exec_loadG hS rWide _ rfl rfl (by repeat (first | exact List.mem_cons_self | apply List.mem_cons_of_mem)) rfl) ?_
  go_simp
  refine plan_call (v := .agg (cells8 j)) (f := 70) (args := #[.agg (cells8 k), .agg (cells8 S)]) rfl rfl (fun u hS => by go_simp) (fun u hS => (unhide hJ u).mono fun _ _ ⟨he, hb⟩ => ⟨he, hS.keep hb⟩) ?_
  go_simp
  refine plan_read (v := .agg (cells8 n)) rfl rfl (fun u hS => exec_loadG hS rWide _ rfl rfl (by repeat (first | exact List.mem_cons_self | apply List.mem_cons_of_mem)) rfl) ?_
  go_simp
  refine plan_read (v := .bool (!true)) rfl rfl (fun u hS => exec_neq_wide_is (unhide hX) _ _ _ rfl rfl rfl) ?_
  go_simp
  refine plan_end (fun u hS => ?_)
  have D := hide hS
  clear hS
  go_wp2_with (first | (with_reducible refine at_list ?_; apply ldG (unhide D) rWide _ rfl rfl rfl (by repeat (first | exact List.mem_cons_self | apply List.mem_cons_of_mem)) rfl) | (go_at_call 63; with_reducible refine (unhide hM _).mono ?_; rintro e w' ⟨he, hb⟩; subst he; have D := hide ((unhide D).keep hb); clear hb) | (go_at_call 56; with_reducible refine (unhide hW _).mono ?_; rintro e w' ⟨he, hb⟩; subst he; have D := hide ((unhide D).keep hb); clear hb))
  go_ret
  exact ⟨rfl, (unhide D).o⟩
set_option maxHeartbeats 4000000 in
theorem ratio_up (x v : Int) (A P n S q m r k j t o1 r1 : Nat) (E : Bool) (w : World) (hx : decide (0 ≤ x) = false) (hR : Hid (Ans 71 #[.int .i64 x] (.agg (cells8 A)))) (hT : Hid (Ans 70 #[.agg (cells8 A), .agg (cells8 A)] (.agg (cells8 P)))) (hL : Hid (Ans 24 #[.agg (cells8 P), .int .i64 64] (.agg (cells8 n))))
    (hD : Hid (Ans 72 #[.agg (cells8 n), .agg (cells8 S)] (.tuple #[.agg (cells8 q), .agg (cells8 m), .bool E]))) (hQ : Hid (Ans 73 #[.agg (cells8 q)] (.tuple #[.agg (cells8 r), .bool E]))) (hK : Hid (Ans 70 #[.agg (cells8 r), .agg (cells8 r)] (.agg (cells8 k)))) (hJ : Hid (Ans 70 #[.agg (cells8 k), .agg (cells8 S)] (.agg (cells8 j)))) (hX : Hid (same j n = false)) (hO : Hid (Ans 22 #[.int .i64 1] (.agg (cells8 o1)))) (hP : Hid (Ans 47 #[.agg (cells8 r), .agg (cells8 o1)] (.agg (cells8 r1)))) (hM : Hid (Ans 63 #[.agg z8, .agg (cells8 r1)] (.agg (cells8 t)))) (hW : Hid (Ans 56 #[.agg (cells8 t)] (.int .i64 v))) :
    Calls Tryz.prog 39 #[.int .i64 x, .agg (cells8 S)] w fun e w' => e = .returned (.int .i64 v) ∧ Below w.heap.size w w' := by
  go_enter Tryz.func39, Tryz.ntmps39
  go_upto_region 1 with fail
  have D := hide ((Gen.start w).push 43 (cells8 S))
  go_upto_region 6 with (first | (go_at_call 71; with_reducible refine (unhide hR _).mono ?_; rintro e w' ⟨he, hb⟩; subst he; have D := hide ((unhide D).keep hb); clear hb) | (go_at_call 70; with_reducible refine (unhide hT _).mono ?_; rintro e w' ⟨he, hb⟩; subst he; have D := hide ((unhide D).keep hb); clear hb) | (go_at_call 24; with_reducible refine (unhide hL _).mono ?_; rintro e w' ⟨he, hb⟩; subst he; have D := hide ((unhide D).keep hb); clear hb) | (with_reducible refine at_list ?_; refine stG (unhide D) rWide _ _ rfl rfl rfl rfl rfl rfl (cells8_one _) ?_; intro D'; have D := hide D'; clear D') | (with_reducible refine at_list ?_;  refine geqS _ _ hx rfl rfl rfl rfl ?_))
  go_upto_region 7 with (first | (with_reducible refine at_list ?_; apply ldG (unhide D) rWide _ rfl rfl rfl (by repeat (first | exact List.mem_cons_self | apply List.mem_cons_of_mem)) rfl) | (go_at_call 72; with_reducible refine (unhide hD _).mono ?_; rintro e w' ⟨he, hb⟩; subst he; have D := hide ((unhide D).keep hb); clear hb) | (with_reducible refine at_list ?_;  refine stOne (n := q) rfl _ _ rfl rfl rfl rfl ?_) | (with_reducible refine at_list ?_;  refine stTwoG (n := q) (m := m) (unhide D) rfl _ _ rfl rfl rfl rfl ?_; intro w1 D'; have D := D'; clear D'))
  go_upto_region 8 with (first | (with_reducible refine at_list ?_; apply ldG (unhide D) rWide _ rfl rfl rfl (by repeat (first | exact List.mem_cons_self | apply List.mem_cons_of_mem)) rfl) | (go_at_call 73; with_reducible refine (unhide hQ _).mono ?_; rintro e w' ⟨he, hb⟩; subst he; have D := hide ((unhide D).keep hb); clear hb) | (with_reducible refine at_list ?_;  have hl := hide (fun p hp => Nat.ne_of_lt ((unhide D).at_ p hp).lt); have hw := hide (unhide D).o.size; refine stG (unhide D) rWide _ _ rfl rfl rfl rfl rfl rfl (cells8_one _) ?_; intro D'; have D := hide D'; clear D'))
  refine region_plan (S := Gen w _) (l := [0, 1, 2, 3, 4, 5, 6]) (by kernel_rfl) (by kernel_rfl) (by kernel_rfl) (by kernel_rfl) (by kernel_rfl) (by kernel_rfl) (by kernel_rfl) (unhide D).drew ?_
  clear D
  refine plan_read (v := .agg (cells8 r)) rfl rfl (fun u hS => exec_loadG hS rWide _ rfl rfl (by repeat (first | exact List.mem_cons_self | apply List.mem_cons_of_mem)) rfl) ?_
  go_simp
  refine plan_read (v := .agg (cells8 r)) rfl rfl (fun u hS => exec_loadG hS rWide _ rfl rfl (by repeat (first | exact List.mem_cons_self | apply List.mem_cons_of_mem)) rfl) ?_
  go_simp
  refine plan_call (v := .agg (cells8 k)) (f := 70) (args := #[.agg (cells8 r), .agg (cells8 r)]) rfl rfl (fun u hS => by go_simp) (fun u hS => (unhide hK u).mono fun _ _ ⟨he, hb⟩ => ⟨he, hS.keep hb⟩) ?_
  go_simp
  refine plan_read (v := .agg (cells8 S)) rfl rfl (fun u hS => exec_loadG hS rWide _ rfl rfl (by repeat (first | exact List.mem_cons_self | apply List.mem_cons_of_mem)) rfl) ?_
  go_simp
  refine plan_call (v := .agg (cells8 j)) (f := 70) (args := #[.agg (cells8 k), .agg (cells8 S)]) rfl rfl (fun u hS => by go_simp) (fun u hS => (unhide hJ u).mono fun _ _ ⟨he, hb⟩ => ⟨he, hS.keep hb⟩) ?_
  go_simp
  refine plan_read (v := .agg (cells8 n)) rfl rfl (fun u hS => exec_loadG hS rWide _ rfl rfl (by repeat (first | exact List.mem_cons_self | apply List.mem_cons_of_mem)) rfl) ?_
  go_simp
  refine plan_read (v := .bool (!false)) rfl rfl (fun u hS => exec_neq_wide_is (unhide hX) _ _ _ rfl rfl rfl) ?_
  go_simp
  refine plan_end (fun u hS => ?_)
  have D := hide hS
  clear hS
  go_upto_region 9 with fail
  refine region_last (S := Gen w _) (f := 3) (l := [0, 1, 2]) (by kernel_rfl) (by kernel_rfl) (by kernel_rfl) (by kernel_rfl) (by kernel_rfl) (by kernel_rfl) (by kernel_rfl) (by kernel_rfl) (by kernel_rfl) (by kernel_rfl) rfl rfl (unhide D).drew ?_
  clear D
  refine plan_read (v := .agg (cells8 r)) rfl rfl (fun u hS => exec_loadG hS rWide _ rfl rfl (by repeat (first | exact List.mem_cons_self | apply List.mem_cons_of_mem)) rfl) ?_
  go_simp
  refine plan_call (v := .agg (cells8 o1)) (f := 22) (args := #[.int .i64 1]) rfl rfl (fun u hS => by go_simp) (fun u hS => (unhide hO u).mono fun _ _ ⟨he, hb⟩ => ⟨he, hS.keep hb⟩) ?_
  go_simp
  refine plan_call (v := .agg (cells8 r1)) (f := 47) (args := #[.agg (cells8 r), .agg (cells8 o1)]) rfl rfl (fun u hS => by go_simp) (fun u hS => (unhide hP u).mono fun _ _ ⟨he, hb⟩ => ⟨he, hS.keep hb⟩) ?_
  go_simp
  refine plan_last (fun u hS => ?_)
  refine wp_store_row 43 (.tmp 14) (.tmp 59) rfl _ (cells8 r1) rfl rfl 43 (cells8 r) (hS.blk (by repeat (first | exact List.mem_cons_self | apply List.mem_cons_of_mem))) iWide rfl (cells8_one _) ?_
  have D := hide (hS.set (unhide hw) (unhide hl) (cells8 r1))
  clear hS
  generalize u.setRow _ (cells8 r1) = u1 at D ⊢
  go_wp2_with (first | (with_reducible refine at_list ?_; apply ldG (unhide D) rWide _ rfl rfl rfl (by repeat (first | exact List.mem_cons_self | apply List.mem_cons_of_mem)) rfl) | (go_at_call 63; with_reducible refine (unhide hM _).mono ?_; rintro e w' ⟨he, hb⟩; subst he; have D := hide ((unhide D).keep hb); clear hb) | (go_at_call 56; with_reducible refine (unhide hW _).mono ?_; rintro e w' ⟨he, hb⟩; subst he; have D := hide ((unhide D).keep hb); clear hb))
  go_ret
  exact ⟨rfl, (unhide D).o⟩
end Go.Proofs.YtikmjfepflaokaaGreatDoor

namespace Go.Proofs.YtikmjfepflaokaaGreatDoor
open Go.RowKit
set_option maxRecDepth 4000
set_option linter.unusedVariables false

theorem z8_zero : z8 = cells8 (enc 0) := by kernel_rfl
theorem sqrt_ref (x : Int) (h0 : 0 ≤ x) (hx : Fit x) : Ans 73 #[V x] (.tuple #[V (rt x), .bool true]) := fun u => by
  have t := refSqrt x hx u
  rw [decide_eq_false (show ¬ x < 0 by omega)] at t
  exact t
theorem sz_le {k : Nat} {a b : Int} (h0 : 0 ≤ a) (h : a ≤ b) (hb : Sz k b) : Sz k a := by
  unfold Sz at *
  omega
theorem cl_opp {x r S : Int} (h : PartU x (wrap64 (-(cl r))) S) : cl (0 - r) = wrap64 (-(cl r)) := by
  have l := h.l
  have r' := h.r
  clear h
  revert l r'
  unfold cl wrap64
  intro l r'
  repeat' split at l
  all_goals (repeat' split at r')
  all_goals (repeat' split)
  all_goals omega
theorem RatioR (x S : Int) (hx : I64 x) (h0 : 0 < S) (hS : Sz 140 S) (hq : x * x ≤ S) : Ans 39 #[.int .i64 x, V S] (.int .i64 (shI x S)) := fun w => by
  have hp : Sz 191 (x * x * ((2 ^ (64 : Int).toNat : Nat) : Int)) := ((hx.sz.mul hx.sz).mul (show Sz 64 _ by unfold Sz; decide)).mono (by decide)
  have hp0 : 0 ≤ x * x * ((2 ^ (64 : Int).toNat : Nat) : Int) := Int.mul_nonneg (sq_nn x) (by decide)
  have hR := Raw3 x hx
  have hT : Ans 70 #[V x, V x] (V (x * x)) := Times3 hx.sz hx.sz (by decide)
  have hL := Twice3 64 (x := x * x) ((hx.sz.mul hx.sz).fit (by decide)) (by decide) (hp.fit (by decide))
  have hd : Sz 192 ((x * x * ((2 ^ (64 : Int).toNat : Nat) : Int)).fdiv S) := (hp.fdiv (by omega)).mono (by decide)
  have hd0 : 0 ≤ (x * x * ((2 ^ (64 : Int).toNat : Nat) : Int)).fdiv S := Int.fdiv_nonneg hp0 (by omega)
  have hD : Ans 72 #[V (x * x * ((2 ^ (64 : Int).toNat : Nat) : Int)), V S] (.tuple #[V ((x * x * ((2 ^ (64 : Int).toNat : Nat) : Int)).fdiv S), V ((x * x * ((2 ^ (64 : Int).toNat : Nat) : Int)).fmod S), .bool true]) := fun u => by
    have t := refDivZ _ S (hp.fit (by decide)) (hS.fit (by decide)) u
    rw [show dq (x * x * ((2 ^ (64 : Int).toNat : Nat) : Int)) S = true by
      unfold dq
      simp only [fit_true (hd.fit (by decide)), Bool.and_true]
      simp
      omega] at t
    exact t
  have hQ := sqrt_ref _ hd0 (hd.fit (by decide))
  have hr := isq_sz hd
  have hrr : Sz 192 (rt ((x * x * ((2 ^ (64 : Int).toNat : Nat) : Int)).fdiv S) * rt ((x * x * ((2 ^ (64 : Int).toNat : Nat) : Int)).fdiv S)) := sz_le (sq0 _) (isq_sq _ hd0).1 hd
  have pu := shI_shr h0 hq
  unfold shI upR rex
  unfold shI upR rex at pu
  unfold rfl' at *
  by_cases hx0 : x < 0
  · rw [if_pos hx0] at pu ⊢
    have hK : Ans 70 #[V (rt ((x * x * ((2 ^ (64 : Int).toNat : Nat) : Int)).fdiv S)), V (rt ((x * x * ((2 ^ (64 : Int).toNat : Nat) : Int)).fdiv S))] _ := Times3 hr hr (by decide)
    have hJ : Ans 70 #[V (rt ((x * x * ((2 ^ (64 : Int).toNat : Nat) : Int)).fdiv S) * rt ((x * x * ((2 ^ (64 : Int).toNat : Nat) : Int)).fdiv S)), V S] _ := Times3 hrr hS (by decide)
    have hf : Fit (rt ((x * x * ((2 ^ (64 : Int).toNat : Nat) : Int)).fdiv S) * rt ((x * x * ((2 ^ (64 : Int).toNat : Nat) : Int)).fdiv S) * S) := (hrr.mul hS).fit (by decide)
    have hn := hp.fit (k := 191) (by decide)
    generalize x * x * ((2 ^ (64 : Int).toNat : Nat) : Int) = n at *
    generalize hrt : rt (n.fdiv S) = r at *
    by_cases hb : r * r * S = n
    · rw [if_pos (decide_eq_true hb), inI_32] at pu ⊢
      have hl := pu.l
      have hM := Less3 (x := 0) (y := r) (k := 192) (by unfold Sz; exact Nat.zero_le _) hr (by decide)
      unfold V at hM
      rw [← z8_zero] at hM
      have k := ratio_whole x _ (enc x) _ _ (enc S) _ _ (enc r) _ _ (enc (0 - r)) true w (decide_eq_false (by omega)) hR hT hL hD hQ hK hJ (by show _ = _; rw [same_enc hf hn]; exact decide_eq_true hb) hM (WithinR (0 - r) ((Sz.sub (k := 192) (by unfold Sz; exact Nat.zero_le _) hr).fit (by decide)))
      exact (cl_opp pu) ▸ k
    · rw [if_neg (by simpa using hb), inI_32] at pu ⊢
      have hr1 := hr.add (Sz.one.mono (show 0 ≤ 192 by decide))
      have hM := Less3 (x := 0) (y := r + 1) (k := 193) (by unfold Sz; exact Nat.zero_le _) hr1 (by decide)
      unfold V at hM
      rw [← z8_zero] at hM
      have k := ratio_up x _ (enc x) _ _ (enc S) _ _ (enc r) _ _ (enc (0 - (r + 1))) (enc 1) (enc (r + 1)) true w (decide_eq_false (by omega)) hR hT hL hD hQ hK hJ (by show _ = _; rw [same_enc hf hn]; exact decide_eq_false hb) (fun u => SmallZ 1 (by decide) (by decide) u) (Plus3 hr (Sz.one.mono (by decide)) (by decide)) hM (WithinR (0 - (r + 1)) ((Sz.sub (k := 193) (by unfold Sz; exact Nat.zero_le _) hr1).fit (by decide)))
      exact (cl_opp pu) ▸ k
  · rw [if_neg hx0, inI_32]
    exact ratio_pos x _ (enc x) _ _ (enc S) _ _ _ true w (decide_eq_true (by omega)) hR hT hL hD hQ (WithinR _ (hr.fit (by decide)))
end Go.Proofs.YtikmjfepflaokaaGreatDoor

namespace Go.Proofs.YtikmjfepflaokaaGreatDoor
open Go.RowKit
set_option maxRecDepth 4000
set_option linter.unusedVariables false

set_option maxHeartbeats 4000000 in
theorem rback5_core {v1 v2 v3 : Int} (q0 q1 q2 q3 : Int) (w : World) (h0 : Hid (Ans 26 #[.int .i64 0, .int .i64 q1] (.int .i64 v1))) (h1 : Hid (Ans 26 #[.int .i64 0, .int .i64 q2] (.int .i64 v2))) (h2 : Hid (Ans 26 #[.int .i64 0, .int .i64 q3] (.int .i64 v3))) : Calls Tryz.prog 10 #[.agg (q4 q0 q1 q2 q3)] w fun e w' => e = .returned (.agg (q4 q0 v1 v2 v3)) ∧ Below w.heap.size w w' := by
  go_enter Tryz.func10, Tryz.ntmps10
  go_upto_region 1 with fail
  have D := hide ((((Gen.start w).push 24 (q4 q0 q1 q2 q3)).push 24 (q4 0 0 0 0)))
  simp only [szA] at D
  refine region_last (S := Gen w _) (f := 12) (l := [0, 1, 2, 3, 4, 5, 6, 7, 8, 9, 10, 11]) (by kernel_rfl) (by kernel_rfl) (by kernel_rfl) (by kernel_rfl) (by kernel_rfl) (by kernel_rfl) (by kernel_rfl) (by kernel_rfl) (by kernel_rfl) (by kernel_rfl) rfl rfl (unhide D).drew ?_
  clear D
  refine plan_read (v := .pointer (some ⟨w.heap.size, 0, none⟩)) rfl rfl (fun u hS => by go_simp) ?_
  try go_simp
  refine plan_read (v := .int .i64 q0) rfl rfl (fun u hS => exec_loadFG (g := w.heap.size) (cs := q4 q0 q1 q2 q3) hS _ rfl rfl (by repeat (first | exact List.mem_cons_self | apply List.mem_cons_of_mem)) rfl) ?_
  try go_simp
  refine plan_read (v := .pointer (some ⟨w.heap.size, 1, none⟩)) rfl rfl (fun u hS => by go_simp) ?_
  try go_simp
  refine plan_read (v := .int .i64 q1) rfl rfl (fun u hS => exec_loadFG (g := w.heap.size) (cs := q4 q0 q1 q2 q3) hS _ rfl rfl (by repeat (first | exact List.mem_cons_self | apply List.mem_cons_of_mem)) rfl) ?_
  try go_simp
  refine plan_call (v := .int .i64 v1) (f := 26) (args := #[.int .i64 0, .int .i64 q1]) rfl rfl (fun u hS => by go_simp) (fun u hS => (unhide h0 u).mono fun _ _ ⟨he, hb⟩ => ⟨he, hS.keep hb⟩) ?_
  try go_simp
  refine plan_read (v := .pointer (some ⟨w.heap.size, 2, none⟩)) rfl rfl (fun u hS => by go_simp) ?_
  try go_simp
  refine plan_read (v := .int .i64 q2) rfl rfl (fun u hS => exec_loadFG (g := w.heap.size) (cs := q4 q0 q1 q2 q3) hS _ rfl rfl (by repeat (first | exact List.mem_cons_self | apply List.mem_cons_of_mem)) rfl) ?_
  try go_simp
  refine plan_call (v := .int .i64 v2) (f := 26) (args := #[.int .i64 0, .int .i64 q2]) rfl rfl (fun u hS => by go_simp) (fun u hS => (unhide h1 u).mono fun _ _ ⟨he, hb⟩ => ⟨he, hS.keep hb⟩) ?_
  try go_simp
  refine plan_read (v := .pointer (some ⟨w.heap.size, 3, none⟩)) rfl rfl (fun u hS => by go_simp) ?_
  try go_simp
  refine plan_read (v := .int .i64 q3) rfl rfl (fun u hS => exec_loadFG (g := w.heap.size) (cs := q4 q0 q1 q2 q3) hS _ rfl rfl (by repeat (first | exact List.mem_cons_self | apply List.mem_cons_of_mem)) rfl) ?_
  try go_simp
  refine plan_call (v := .int .i64 v3) (f := 26) (args := #[.int .i64 0, .int .i64 q3]) rfl rfl (fun u hS => by go_simp) (fun u hS => (unhide h2 u).mono fun _ _ ⟨he, hb⟩ => ⟨he, hS.keep hb⟩) ?_
  try go_simp
  refine plan_read (v := .agg (q4 q0 v1 v2 v3)) rfl rfl (fun u hS => by go_simp) ?_
  try go_simp
  refine plan_last (fun u1 hS => ?_)
  have B0 := hide (hS.blk (g := w.heap.size + 1) (t := 24) (cs := q4 0 0 0 0) (by repeat (first | exact List.mem_cons_self | apply List.mem_cons_of_mem)))
  refine wp_store_row 24 (.tmp 2) (.tmp 14) rfl _ (q4 q0 v1 v2 v3) rfl rfl 24 (q4 0 0 0 0) (unhide B0) rQuat.i rfl (q4_one _ _ _ _) ?_
  have B := hide ((unhide B0).row (q4 q0 v1 v2 v3))
  have O := hide (below_row hS.o (show w.heap.size ≤ w.heap.size + 1 by omega) (q4 q0 v1 v2 v3))
  clear hS B0
  go_wp2
  exact resG rQuat (unhide B) rfl rfl rfl rfl ⟨rfl, unhide O⟩
theorem RBack5 (q0 q1 q2 q3 : Int) (h1 : I64 q1) (h2 : I64 q2) (h3 : I64 q3) : Ans 10 #[.agg (q4 q0 q1 q2 q3)] (.agg (q4 q0 (cl (0 - q1)) (cl (0 - q2)) (cl (0 - q3)))) := fun w =>
  have i0 : I64 0 := ⟨by decide, by decide⟩
  rback5_core q0 q1 q2 q3 w (SubR 0 q1 i0 h1) (SubR 0 q2 i0 h2) (SubR 0 q3 i0 h3)
set_option maxHeartbeats 4000000 in
theorem qback5_core {v1 v2 v3 : Int} (q0 q1 q2 q3 : Int) (w : World) (h0 : Hid (Ans 25 #[.int .i64 0, .int .i64 q1] (.int .i64 v1))) (h1 : Hid (Ans 25 #[.int .i64 0, .int .i64 q2] (.int .i64 v2))) (h2 : Hid (Ans 25 #[.int .i64 0, .int .i64 q3] (.int .i64 v3))) : Calls Tryz.prog 9 #[.agg (q4 q0 q1 q2 q3)] w fun e w' => e = .returned (.agg (q4 q0 v1 v2 v3)) ∧ Below w.heap.size w w' := by
  go_enter Tryz.func9, Tryz.ntmps9
  go_upto_region 1 with fail
  have D := hide ((((Gen.start w).push 24 (q4 q0 q1 q2 q3)).push 24 (q4 0 0 0 0)))
  simp only [szA] at D
  refine region_last (S := Gen w _) (f := 12) (l := [0, 1, 2, 3, 4, 5, 6, 7, 8, 9, 10, 11]) (by kernel_rfl) (by kernel_rfl) (by kernel_rfl) (by kernel_rfl) (by kernel_rfl) (by kernel_rfl) (by kernel_rfl) (by kernel_rfl) (by kernel_rfl) (by kernel_rfl) rfl rfl (unhide D).drew ?_
  clear D
  refine plan_read (v := .pointer (some ⟨w.heap.size, 0, none⟩)) rfl rfl (fun u hS => by go_simp) ?_
  try go_simp
  refine plan_read (v := .int .i64 q0) rfl rfl (fun u hS => exec_loadFG (g := w.heap.size) (cs := q4 q0 q1 q2 q3) hS _ rfl rfl (by repeat (first | exact List.mem_cons_self | apply List.mem_cons_of_mem)) rfl) ?_
  try go_simp
  refine plan_read (v := .pointer (some ⟨w.heap.size, 1, none⟩)) rfl rfl (fun u hS => by go_simp) ?_
  try go_simp
  refine plan_read (v := .int .i64 q1) rfl rfl (fun u hS => exec_loadFG (g := w.heap.size) (cs := q4 q0 q1 q2 q3) hS _ rfl rfl (by repeat (first | exact List.mem_cons_self | apply List.mem_cons_of_mem)) rfl) ?_
  try go_simp
  refine plan_call (v := .int .i64 v1) (f := 25) (args := #[.int .i64 0, .int .i64 q1]) rfl rfl (fun u hS => by go_simp) (fun u hS => (unhide h0 u).mono fun _ _ ⟨he, hb⟩ => ⟨he, hS.keep hb⟩) ?_
  try go_simp
  refine plan_read (v := .pointer (some ⟨w.heap.size, 2, none⟩)) rfl rfl (fun u hS => by go_simp) ?_
  try go_simp
  refine plan_read (v := .int .i64 q2) rfl rfl (fun u hS => exec_loadFG (g := w.heap.size) (cs := q4 q0 q1 q2 q3) hS _ rfl rfl (by repeat (first | exact List.mem_cons_self | apply List.mem_cons_of_mem)) rfl) ?_
  try go_simp
  refine plan_call (v := .int .i64 v2) (f := 25) (args := #[.int .i64 0, .int .i64 q2]) rfl rfl (fun u hS => by go_simp) (fun u hS => (unhide h1 u).mono fun _ _ ⟨he, hb⟩ => ⟨he, hS.keep hb⟩) ?_
  try go_simp
  refine plan_read (v := .pointer (some ⟨w.heap.size, 3, none⟩)) rfl rfl (fun u hS => by go_simp) ?_
  try go_simp
  refine plan_read (v := .int .i64 q3) rfl rfl (fun u hS => exec_loadFG (g := w.heap.size) (cs := q4 q0 q1 q2 q3) hS _ rfl rfl (by repeat (first | exact List.mem_cons_self | apply List.mem_cons_of_mem)) rfl) ?_
  try go_simp
  refine plan_call (v := .int .i64 v3) (f := 25) (args := #[.int .i64 0, .int .i64 q3]) rfl rfl (fun u hS => by go_simp) (fun u hS => (unhide h2 u).mono fun _ _ ⟨he, hb⟩ => ⟨he, hS.keep hb⟩) ?_
  try go_simp
  refine plan_read (v := .agg (q4 q0 v1 v2 v3)) rfl rfl (fun u hS => by go_simp) ?_
  try go_simp
  refine plan_last (fun u1 hS => ?_)
  have B0 := hide (hS.blk (g := w.heap.size + 1) (t := 24) (cs := q4 0 0 0 0) (by repeat (first | exact List.mem_cons_self | apply List.mem_cons_of_mem)))
  refine wp_store_row 24 (.tmp 2) (.tmp 14) rfl _ (q4 q0 v1 v2 v3) rfl rfl 24 (q4 0 0 0 0) (unhide B0) rQuat.i rfl (q4_one _ _ _ _) ?_
  have B := hide ((unhide B0).row (q4 q0 v1 v2 v3))
  have O := hide (below_row hS.o (show w.heap.size ≤ w.heap.size + 1 by omega) (q4 q0 v1 v2 v3))
  clear hS B0
  go_wp2
  exact resG rQuat (unhide B) rfl rfl rfl rfl ⟨rfl, unhide O⟩
theorem QBackZ5 (q0 q1 q2 q3 : Int) (h1 : I64 q1) (h2 : I64 q2) (h3 : I64 q3) : Ans 9 #[.agg (q4 q0 q1 q2 q3)] (.agg (q4 q0 (cl (0 - q1)) (cl (0 - q2)) (cl (0 - q3)))) := fun w =>
  have i0 : I64 0 := ⟨by decide, by decide⟩
  qback5_core q0 q1 q2 q3 w (FixSubZ 0 q1 i0 h1) (FixSubZ 0 q2 i0 h2) (FixSubZ 0 q3 i0 h3)
theorem prd5_0 (a b c d e f g h : Int) : prd a b c d e f g h 16 0 = 0 + a * e * 1 + b * f * -1 + c * g * -1 + d * h * -1 := rfl
theorem prd5_1 (a b c d e f g h : Int) : prd a b c d e f g h 16 1 = 0 + a * f * 1 + b * e * 1 + c * h * 1 + d * g * -1 := rfl
theorem prd5_2 (a b c d e f g h : Int) : prd a b c d e f g h 16 2 = 0 + a * g * 1 + c * e * 1 + d * f * 1 + b * h * -1 := rfl
theorem prd5_3 (a b c d e f g h : Int) : prd a b c d e f g h 16 3 = 0 + a * h * 1 + d * e * 1 + b * g * 1 + c * f * -1 := rfl
set_option maxHeartbeats 4000000 in
theorem rw5_core {N1 N2 N3 N4 N5 : Nat} (p0 p1 p2 p3 q0 q1 q2 q3 : Int) (w : World) (h0 : Hid (Ans 64 #[.int .i64 p0, .int .i64 q0] (.agg (cells8 N1)))) (h1 : Hid (Ans 48 #[.int .i64 p1, .int .i64 q1, .int .i64 p2, .int .i64 q2] (.agg (cells8 N2)))) (h2 : Hid (Ans 64 #[.int .i64 p3, .int .i64 q3] (.agg (cells8 N3)))) (h3 : Hid (Ans 47 #[.agg (cells8 N2), .agg (cells8 N3)] (.agg (cells8 N4)))) (h4 : Hid (Ans 63 #[.agg (cells8 N1), .agg (cells8 N4)] (.agg (cells8 N5)))) : Calls Tryz.prog 32 #[.agg (q4 p0 p1 p2 p3), .agg (q4 q0 q1 q2 q3)] w fun e w' => e = .returned (.agg (cells8 N5)) ∧ Below w.heap.size w w' := by
  go_enter Tryz.func32, Tryz.ntmps32
  go_upto_region 1 with fail
  have D := hide (((((Gen.start w).push 24 (q4 p0 p1 p2 p3)).push 24 (q4 q0 q1 q2 q3)).push 43 (z8)))
  simp only [szA] at D
  refine region_last (S := Gen w _) (f := 21) (l := [0, 1, 2, 3, 4, 5, 6, 7, 8, 9, 10, 11, 12, 13, 14, 15, 16, 17, 18, 19, 20]) (by kernel_rfl) (by kernel_rfl) (by kernel_rfl) (by kernel_rfl) (by kernel_rfl) (by kernel_rfl) (by kernel_rfl) (by kernel_rfl) (by kernel_rfl) (by kernel_rfl) rfl rfl (unhide D).drew ?_
  clear D
  refine plan_read (v := .pointer (some ⟨w.heap.size, 0, none⟩)) rfl rfl (fun u hS => by go_simp) ?_
  try go_simp
  refine plan_read (v := .int .i64 p0) rfl rfl (fun u hS => exec_loadFG (g := w.heap.size) (cs := q4 p0 p1 p2 p3) hS _ rfl rfl (by repeat (first | exact List.mem_cons_self | apply List.mem_cons_of_mem)) rfl) ?_
  try go_simp
  refine plan_read (v := .pointer (some ⟨w.heap.size + 1, 0, none⟩)) rfl rfl (fun u hS => by go_simp) ?_
  try go_simp
  refine plan_read (v := .int .i64 q0) rfl rfl (fun u hS => exec_loadFG (g := w.heap.size + 1) (cs := q4 q0 q1 q2 q3) hS _ rfl rfl (by repeat (first | exact List.mem_cons_self | apply List.mem_cons_of_mem)) rfl) ?_
  try go_simp
  refine plan_call (v := .agg (cells8 N1)) (f := 64) (args := #[.int .i64 p0, .int .i64 q0]) rfl rfl (fun u hS => by go_simp) (fun u hS => (unhide h0 u).mono fun _ _ ⟨he, hb⟩ => ⟨he, hS.keep hb⟩) ?_
  try go_simp
  refine plan_read (v := .pointer (some ⟨w.heap.size, 1, none⟩)) rfl rfl (fun u hS => by go_simp) ?_
  try go_simp
  refine plan_read (v := .int .i64 p1) rfl rfl (fun u hS => exec_loadFG (g := w.heap.size) (cs := q4 p0 p1 p2 p3) hS _ rfl rfl (by repeat (first | exact List.mem_cons_self | apply List.mem_cons_of_mem)) rfl) ?_
  try go_simp
  refine plan_read (v := .pointer (some ⟨w.heap.size + 1, 1, none⟩)) rfl rfl (fun u hS => by go_simp) ?_
  try go_simp
  refine plan_read (v := .int .i64 q1) rfl rfl (fun u hS => exec_loadFG (g := w.heap.size + 1) (cs := q4 q0 q1 q2 q3) hS _ rfl rfl (by repeat (first | exact List.mem_cons_self | apply List.mem_cons_of_mem)) rfl) ?_
  try go_simp
  refine plan_read (v := .pointer (some ⟨w.heap.size, 2, none⟩)) rfl rfl (fun u hS => by go_simp) ?_
  try go_simp
  refine plan_read (v := .int .i64 p2) rfl rfl (fun u hS => exec_loadFG (g := w.heap.size) (cs := q4 p0 p1 p2 p3) hS _ rfl rfl (by repeat (first | exact List.mem_cons_self | apply List.mem_cons_of_mem)) rfl) ?_
  try go_simp
  refine plan_read (v := .pointer (some ⟨w.heap.size + 1, 2, none⟩)) rfl rfl (fun u hS => by go_simp) ?_
  try go_simp
  refine plan_read (v := .int .i64 q2) rfl rfl (fun u hS => exec_loadFG (g := w.heap.size + 1) (cs := q4 q0 q1 q2 q3) hS _ rfl rfl (by repeat (first | exact List.mem_cons_self | apply List.mem_cons_of_mem)) rfl) ?_
  try go_simp
  refine plan_call (v := .agg (cells8 N2)) (f := 48) (args := #[.int .i64 p1, .int .i64 q1, .int .i64 p2, .int .i64 q2]) rfl rfl (fun u hS => by go_simp) (fun u hS => (unhide h1 u).mono fun _ _ ⟨he, hb⟩ => ⟨he, hS.keep hb⟩) ?_
  try go_simp
  refine plan_read (v := .pointer (some ⟨w.heap.size, 3, none⟩)) rfl rfl (fun u hS => by go_simp) ?_
  try go_simp
  refine plan_read (v := .int .i64 p3) rfl rfl (fun u hS => exec_loadFG (g := w.heap.size) (cs := q4 p0 p1 p2 p3) hS _ rfl rfl (by repeat (first | exact List.mem_cons_self | apply List.mem_cons_of_mem)) rfl) ?_
  try go_simp
  refine plan_read (v := .pointer (some ⟨w.heap.size + 1, 3, none⟩)) rfl rfl (fun u hS => by go_simp) ?_
  try go_simp
  refine plan_read (v := .int .i64 q3) rfl rfl (fun u hS => exec_loadFG (g := w.heap.size + 1) (cs := q4 q0 q1 q2 q3) hS _ rfl rfl (by repeat (first | exact List.mem_cons_self | apply List.mem_cons_of_mem)) rfl) ?_
  try go_simp
  refine plan_call (v := .agg (cells8 N3)) (f := 64) (args := #[.int .i64 p3, .int .i64 q3]) rfl rfl (fun u hS => by go_simp) (fun u hS => (unhide h2 u).mono fun _ _ ⟨he, hb⟩ => ⟨he, hS.keep hb⟩) ?_
  try go_simp
  refine plan_call (v := .agg (cells8 N4)) (f := 47) (args := #[.agg (cells8 N2), .agg (cells8 N3)]) rfl rfl (fun u hS => by go_simp) (fun u hS => (unhide h3 u).mono fun _ _ ⟨he, hb⟩ => ⟨he, hS.keep hb⟩) ?_
  try go_simp
  refine plan_call (v := .agg (cells8 N5)) (f := 63) (args := #[.agg (cells8 N1), .agg (cells8 N4)]) rfl rfl (fun u hS => by go_simp) (fun u hS => (unhide h4 u).mono fun _ _ ⟨he, hb⟩ => ⟨he, hS.keep hb⟩) ?_
  try go_simp
  refine plan_last (fun u1 hS => ?_)
  have B0 := hide (hS.blk (g := w.heap.size + 1 + 1) (t := 43) (cs := z8) (by repeat (first | exact List.mem_cons_self | apply List.mem_cons_of_mem)))
  refine wp_store_row 43 (.tmp 4) (.tmp 25) rfl _ (cells8 N5) rfl rfl 43 (z8) (unhide B0) iWide rfl (cells8_one _) ?_
  have B := hide ((unhide B0).row (cells8 N5))
  have O := hide (below_row hS.o (show w.heap.size ≤ w.heap.size + 1 + 1 by omega) (cells8 N5))
  clear hS B0
  go_wp2
  exact resG rWide (unhide B) rfl rfl rfl rfl ⟨rfl, unhide O⟩
theorem RW5 (p0 p1 p2 p3 q0 q1 q2 q3 : Int) (g0 : I64 p0) (g1 : I64 p1) (g2 : I64 p2) (g3 : I64 p3) (h0 : I64 q0) (h1 : I64 q1) (h2 : I64 q2) (h3 : I64 q3) : Ans 32 #[.agg (q4 p0 p1 p2 p3), .agg (q4 q0 q1 q2 q3)] (V (prd p0 p1 p2 p3 q0 q1 q2 q3 16 0)) := fun w => by
  have e : prd p0 p1 p2 p3 q0 q1 q2 q3 16 0 = p0 * q0 - (p1 * q1 + p2 * q2 + p3 * q3) := by rw [prd5_0]; omega
  rw [e]
  exact rw5_core p0 p1 p2 p3 q0 q1 q2 q3 w (Mul5 p0 q0 g0 h0) (Two5 p1 q1 p2 q2 g1 h1 g2 h2) (Mul5 p3 q3 g3 h3) (Plus3 ((g1.sz.mul h1.sz).add (g2.sz.mul h2.sz)) ((g3.sz.mul h3.sz).mono (by decide)) (by decide)) (Less3 ((g0.sz.mul h0.sz).mono (by decide)) (((g1.sz.mul h1.sz).add (g2.sz.mul h2.sz)).add ((g3.sz.mul h3.sz).mono (show 126 ≤ 127 by decide))) (by decide))
set_option maxHeartbeats 4000000 in
theorem rx5_core {N1 N2 N3 N4 N5 : Nat} (p0 p1 p2 p3 q0 q1 q2 q3 : Int) (w : World) (h0 : Hid (Ans 48 #[.int .i64 p0, .int .i64 q1, .int .i64 p1, .int .i64 q0] (.agg (cells8 N1)))) (h1 : Hid (Ans 64 #[.int .i64 p2, .int .i64 q3] (.agg (cells8 N2)))) (h2 : Hid (Ans 47 #[.agg (cells8 N1), .agg (cells8 N2)] (.agg (cells8 N3)))) (h3 : Hid (Ans 64 #[.int .i64 p3, .int .i64 q2] (.agg (cells8 N4)))) (h4 : Hid (Ans 63 #[.agg (cells8 N3), .agg (cells8 N4)] (.agg (cells8 N5)))) : Calls Tryz.prog 33 #[.agg (q4 p0 p1 p2 p3), .agg (q4 q0 q1 q2 q3)] w fun e w' => e = .returned (.agg (cells8 N5)) ∧ Below w.heap.size w w' := by
  go_enter Tryz.func33, Tryz.ntmps33
  go_upto_region 1 with fail
  have D := hide (((((Gen.start w).push 24 (q4 p0 p1 p2 p3)).push 24 (q4 q0 q1 q2 q3)).push 43 (z8)))
  simp only [szA] at D
  refine region_last (S := Gen w _) (f := 21) (l := [0, 1, 2, 3, 4, 5, 6, 7, 8, 9, 10, 11, 12, 13, 14, 15, 16, 17, 18, 19, 20]) (by kernel_rfl) (by kernel_rfl) (by kernel_rfl) (by kernel_rfl) (by kernel_rfl) (by kernel_rfl) (by kernel_rfl) (by kernel_rfl) (by kernel_rfl) (by kernel_rfl) rfl rfl (unhide D).drew ?_
  clear D
  refine plan_read (v := .pointer (some ⟨w.heap.size, 0, none⟩)) rfl rfl (fun u hS => by go_simp) ?_
  try go_simp
  refine plan_read (v := .int .i64 p0) rfl rfl (fun u hS => exec_loadFG (g := w.heap.size) (cs := q4 p0 p1 p2 p3) hS _ rfl rfl (by repeat (first | exact List.mem_cons_self | apply List.mem_cons_of_mem)) rfl) ?_
  try go_simp
  refine plan_read (v := .pointer (some ⟨w.heap.size + 1, 1, none⟩)) rfl rfl (fun u hS => by go_simp) ?_
  try go_simp
  refine plan_read (v := .int .i64 q1) rfl rfl (fun u hS => exec_loadFG (g := w.heap.size + 1) (cs := q4 q0 q1 q2 q3) hS _ rfl rfl (by repeat (first | exact List.mem_cons_self | apply List.mem_cons_of_mem)) rfl) ?_
  try go_simp
  refine plan_read (v := .pointer (some ⟨w.heap.size, 1, none⟩)) rfl rfl (fun u hS => by go_simp) ?_
  try go_simp
  refine plan_read (v := .int .i64 p1) rfl rfl (fun u hS => exec_loadFG (g := w.heap.size) (cs := q4 p0 p1 p2 p3) hS _ rfl rfl (by repeat (first | exact List.mem_cons_self | apply List.mem_cons_of_mem)) rfl) ?_
  try go_simp
  refine plan_read (v := .pointer (some ⟨w.heap.size + 1, 0, none⟩)) rfl rfl (fun u hS => by go_simp) ?_
  try go_simp
  refine plan_read (v := .int .i64 q0) rfl rfl (fun u hS => exec_loadFG (g := w.heap.size + 1) (cs := q4 q0 q1 q2 q3) hS _ rfl rfl (by repeat (first | exact List.mem_cons_self | apply List.mem_cons_of_mem)) rfl) ?_
  try go_simp
  refine plan_call (v := .agg (cells8 N1)) (f := 48) (args := #[.int .i64 p0, .int .i64 q1, .int .i64 p1, .int .i64 q0]) rfl rfl (fun u hS => by go_simp) (fun u hS => (unhide h0 u).mono fun _ _ ⟨he, hb⟩ => ⟨he, hS.keep hb⟩) ?_
  try go_simp
  refine plan_read (v := .pointer (some ⟨w.heap.size, 2, none⟩)) rfl rfl (fun u hS => by go_simp) ?_
  try go_simp
  refine plan_read (v := .int .i64 p2) rfl rfl (fun u hS => exec_loadFG (g := w.heap.size) (cs := q4 p0 p1 p2 p3) hS _ rfl rfl (by repeat (first | exact List.mem_cons_self | apply List.mem_cons_of_mem)) rfl) ?_
  try go_simp
  refine plan_read (v := .pointer (some ⟨w.heap.size + 1, 3, none⟩)) rfl rfl (fun u hS => by go_simp) ?_
  try go_simp
  refine plan_read (v := .int .i64 q3) rfl rfl (fun u hS => exec_loadFG (g := w.heap.size + 1) (cs := q4 q0 q1 q2 q3) hS _ rfl rfl (by repeat (first | exact List.mem_cons_self | apply List.mem_cons_of_mem)) rfl) ?_
  try go_simp
  refine plan_call (v := .agg (cells8 N2)) (f := 64) (args := #[.int .i64 p2, .int .i64 q3]) rfl rfl (fun u hS => by go_simp) (fun u hS => (unhide h1 u).mono fun _ _ ⟨he, hb⟩ => ⟨he, hS.keep hb⟩) ?_
  try go_simp
  refine plan_call (v := .agg (cells8 N3)) (f := 47) (args := #[.agg (cells8 N1), .agg (cells8 N2)]) rfl rfl (fun u hS => by go_simp) (fun u hS => (unhide h2 u).mono fun _ _ ⟨he, hb⟩ => ⟨he, hS.keep hb⟩) ?_
  try go_simp
  refine plan_read (v := .pointer (some ⟨w.heap.size, 3, none⟩)) rfl rfl (fun u hS => by go_simp) ?_
  try go_simp
  refine plan_read (v := .int .i64 p3) rfl rfl (fun u hS => exec_loadFG (g := w.heap.size) (cs := q4 p0 p1 p2 p3) hS _ rfl rfl (by repeat (first | exact List.mem_cons_self | apply List.mem_cons_of_mem)) rfl) ?_
  try go_simp
  refine plan_read (v := .pointer (some ⟨w.heap.size + 1, 2, none⟩)) rfl rfl (fun u hS => by go_simp) ?_
  try go_simp
  refine plan_read (v := .int .i64 q2) rfl rfl (fun u hS => exec_loadFG (g := w.heap.size + 1) (cs := q4 q0 q1 q2 q3) hS _ rfl rfl (by repeat (first | exact List.mem_cons_self | apply List.mem_cons_of_mem)) rfl) ?_
  try go_simp
  refine plan_call (v := .agg (cells8 N4)) (f := 64) (args := #[.int .i64 p3, .int .i64 q2]) rfl rfl (fun u hS => by go_simp) (fun u hS => (unhide h3 u).mono fun _ _ ⟨he, hb⟩ => ⟨he, hS.keep hb⟩) ?_
  try go_simp
  refine plan_call (v := .agg (cells8 N5)) (f := 63) (args := #[.agg (cells8 N3), .agg (cells8 N4)]) rfl rfl (fun u hS => by go_simp) (fun u hS => (unhide h4 u).mono fun _ _ ⟨he, hb⟩ => ⟨he, hS.keep hb⟩) ?_
  try go_simp
  refine plan_last (fun u1 hS => ?_)
  have B0 := hide (hS.blk (g := w.heap.size + 1 + 1) (t := 43) (cs := z8) (by repeat (first | exact List.mem_cons_self | apply List.mem_cons_of_mem)))
  refine wp_store_row 43 (.tmp 4) (.tmp 25) rfl _ (cells8 N5) rfl rfl 43 (z8) (unhide B0) iWide rfl (cells8_one _) ?_
  have B := hide ((unhide B0).row (cells8 N5))
  have O := hide (below_row hS.o (show w.heap.size ≤ w.heap.size + 1 + 1 by omega) (cells8 N5))
  clear hS B0
  go_wp2
  exact resG rWide (unhide B) rfl rfl rfl rfl ⟨rfl, unhide O⟩
theorem RX5 (p0 p1 p2 p3 q0 q1 q2 q3 : Int) (g0 : I64 p0) (g1 : I64 p1) (g2 : I64 p2) (g3 : I64 p3) (h0 : I64 q0) (h1 : I64 q1) (h2 : I64 q2) (h3 : I64 q3) : Ans 33 #[.agg (q4 p0 p1 p2 p3), .agg (q4 q0 q1 q2 q3)] (V (prd p0 p1 p2 p3 q0 q1 q2 q3 16 1)) := fun w => by
  have e : prd p0 p1 p2 p3 q0 q1 q2 q3 16 1 = p0 * q1 + p1 * q0 + p2 * q3 - p3 * q2 := by rw [prd5_1]; omega
  rw [e]
  exact rx5_core p0 p1 p2 p3 q0 q1 q2 q3 w (Two5 p0 q1 p1 q0 g0 h1 g1 h0) (Mul5 p2 q3 g2 h3) (Plus3 ((g0.sz.mul h1.sz).add (g1.sz.mul h0.sz)) ((g2.sz.mul h3.sz).mono (by decide)) (by decide)) (Mul5 p3 q2 g3 h2) (Less3 (((g0.sz.mul h1.sz).add (g1.sz.mul h0.sz)).add ((g2.sz.mul h3.sz).mono (show 126 ≤ 127 by decide))) ((g3.sz.mul h2.sz).mono (by decide)) (by decide))
set_option maxHeartbeats 4000000 in
theorem ry5_core {N1 N2 N3 N4 N5 : Nat} (p0 p1 p2 p3 q0 q1 q2 q3 : Int) (w : World) (h0 : Hid (Ans 48 #[.int .i64 p0, .int .i64 q2, .int .i64 p2, .int .i64 q0] (.agg (cells8 N1)))) (h1 : Hid (Ans 64 #[.int .i64 p3, .int .i64 q1] (.agg (cells8 N2)))) (h2 : Hid (Ans 47 #[.agg (cells8 N1), .agg (cells8 N2)] (.agg (cells8 N3)))) (h3 : Hid (Ans 64 #[.int .i64 p1, .int .i64 q3] (.agg (cells8 N4)))) (h4 : Hid (Ans 63 #[.agg (cells8 N3), .agg (cells8 N4)] (.agg (cells8 N5)))) : Calls Tryz.prog 34 #[.agg (q4 p0 p1 p2 p3), .agg (q4 q0 q1 q2 q3)] w fun e w' => e = .returned (.agg (cells8 N5)) ∧ Below w.heap.size w w' := by
  go_enter Tryz.func34, Tryz.ntmps34
  go_upto_region 1 with fail
  have D := hide (((((Gen.start w).push 24 (q4 p0 p1 p2 p3)).push 24 (q4 q0 q1 q2 q3)).push 43 (z8)))
  simp only [szA] at D
  refine region_last (S := Gen w _) (f := 21) (l := [0, 1, 2, 3, 4, 5, 6, 7, 8, 9, 10, 11, 12, 13, 14, 15, 16, 17, 18, 19, 20]) (by kernel_rfl) (by kernel_rfl) (by kernel_rfl) (by kernel_rfl) (by kernel_rfl) (by kernel_rfl) (by kernel_rfl) (by kernel_rfl) (by kernel_rfl) (by kernel_rfl) rfl rfl (unhide D).drew ?_
  clear D
  refine plan_read (v := .pointer (some ⟨w.heap.size, 0, none⟩)) rfl rfl (fun u hS => by go_simp) ?_
  try go_simp
  refine plan_read (v := .int .i64 p0) rfl rfl (fun u hS => exec_loadFG (g := w.heap.size) (cs := q4 p0 p1 p2 p3) hS _ rfl rfl (by repeat (first | exact List.mem_cons_self | apply List.mem_cons_of_mem)) rfl) ?_
  try go_simp
  refine plan_read (v := .pointer (some ⟨w.heap.size + 1, 2, none⟩)) rfl rfl (fun u hS => by go_simp) ?_
  try go_simp
  refine plan_read (v := .int .i64 q2) rfl rfl (fun u hS => exec_loadFG (g := w.heap.size + 1) (cs := q4 q0 q1 q2 q3) hS _ rfl rfl (by repeat (first | exact List.mem_cons_self | apply List.mem_cons_of_mem)) rfl) ?_
  try go_simp
  refine plan_read (v := .pointer (some ⟨w.heap.size, 2, none⟩)) rfl rfl (fun u hS => by go_simp) ?_
  try go_simp
  refine plan_read (v := .int .i64 p2) rfl rfl (fun u hS => exec_loadFG (g := w.heap.size) (cs := q4 p0 p1 p2 p3) hS _ rfl rfl (by repeat (first | exact List.mem_cons_self | apply List.mem_cons_of_mem)) rfl) ?_
  try go_simp
  refine plan_read (v := .pointer (some ⟨w.heap.size + 1, 0, none⟩)) rfl rfl (fun u hS => by go_simp) ?_
  try go_simp
  refine plan_read (v := .int .i64 q0) rfl rfl (fun u hS => exec_loadFG (g := w.heap.size + 1) (cs := q4 q0 q1 q2 q3) hS _ rfl rfl (by repeat (first | exact List.mem_cons_self | apply List.mem_cons_of_mem)) rfl) ?_
  try go_simp
  refine plan_call (v := .agg (cells8 N1)) (f := 48) (args := #[.int .i64 p0, .int .i64 q2, .int .i64 p2, .int .i64 q0]) rfl rfl (fun u hS => by go_simp) (fun u hS => (unhide h0 u).mono fun _ _ ⟨he, hb⟩ => ⟨he, hS.keep hb⟩) ?_
  try go_simp
  refine plan_read (v := .pointer (some ⟨w.heap.size, 3, none⟩)) rfl rfl (fun u hS => by go_simp) ?_
  try go_simp
  refine plan_read (v := .int .i64 p3) rfl rfl (fun u hS => exec_loadFG (g := w.heap.size) (cs := q4 p0 p1 p2 p3) hS _ rfl rfl (by repeat (first | exact List.mem_cons_self | apply List.mem_cons_of_mem)) rfl) ?_
  try go_simp
  refine plan_read (v := .pointer (some ⟨w.heap.size + 1, 1, none⟩)) rfl rfl (fun u hS => by go_simp) ?_
  try go_simp
  refine plan_read (v := .int .i64 q1) rfl rfl (fun u hS => exec_loadFG (g := w.heap.size + 1) (cs := q4 q0 q1 q2 q3) hS _ rfl rfl (by repeat (first | exact List.mem_cons_self | apply List.mem_cons_of_mem)) rfl) ?_
  try go_simp
  refine plan_call (v := .agg (cells8 N2)) (f := 64) (args := #[.int .i64 p3, .int .i64 q1]) rfl rfl (fun u hS => by go_simp) (fun u hS => (unhide h1 u).mono fun _ _ ⟨he, hb⟩ => ⟨he, hS.keep hb⟩) ?_
  try go_simp
  refine plan_call (v := .agg (cells8 N3)) (f := 47) (args := #[.agg (cells8 N1), .agg (cells8 N2)]) rfl rfl (fun u hS => by go_simp) (fun u hS => (unhide h2 u).mono fun _ _ ⟨he, hb⟩ => ⟨he, hS.keep hb⟩) ?_
  try go_simp
  refine plan_read (v := .pointer (some ⟨w.heap.size, 1, none⟩)) rfl rfl (fun u hS => by go_simp) ?_
  try go_simp
  refine plan_read (v := .int .i64 p1) rfl rfl (fun u hS => exec_loadFG (g := w.heap.size) (cs := q4 p0 p1 p2 p3) hS _ rfl rfl (by repeat (first | exact List.mem_cons_self | apply List.mem_cons_of_mem)) rfl) ?_
  try go_simp
  refine plan_read (v := .pointer (some ⟨w.heap.size + 1, 3, none⟩)) rfl rfl (fun u hS => by go_simp) ?_
  try go_simp
  refine plan_read (v := .int .i64 q3) rfl rfl (fun u hS => exec_loadFG (g := w.heap.size + 1) (cs := q4 q0 q1 q2 q3) hS _ rfl rfl (by repeat (first | exact List.mem_cons_self | apply List.mem_cons_of_mem)) rfl) ?_
  try go_simp
  refine plan_call (v := .agg (cells8 N4)) (f := 64) (args := #[.int .i64 p1, .int .i64 q3]) rfl rfl (fun u hS => by go_simp) (fun u hS => (unhide h3 u).mono fun _ _ ⟨he, hb⟩ => ⟨he, hS.keep hb⟩) ?_
  try go_simp
  refine plan_call (v := .agg (cells8 N5)) (f := 63) (args := #[.agg (cells8 N3), .agg (cells8 N4)]) rfl rfl (fun u hS => by go_simp) (fun u hS => (unhide h4 u).mono fun _ _ ⟨he, hb⟩ => ⟨he, hS.keep hb⟩) ?_
  try go_simp
  refine plan_last (fun u1 hS => ?_)
  have B0 := hide (hS.blk (g := w.heap.size + 1 + 1) (t := 43) (cs := z8) (by repeat (first | exact List.mem_cons_self | apply List.mem_cons_of_mem)))
  refine wp_store_row 43 (.tmp 4) (.tmp 25) rfl _ (cells8 N5) rfl rfl 43 (z8) (unhide B0) iWide rfl (cells8_one _) ?_
  have B := hide ((unhide B0).row (cells8 N5))
  have O := hide (below_row hS.o (show w.heap.size ≤ w.heap.size + 1 + 1 by omega) (cells8 N5))
  clear hS B0
  go_wp2
  exact resG rWide (unhide B) rfl rfl rfl rfl ⟨rfl, unhide O⟩
theorem RY5 (p0 p1 p2 p3 q0 q1 q2 q3 : Int) (g0 : I64 p0) (g1 : I64 p1) (g2 : I64 p2) (g3 : I64 p3) (h0 : I64 q0) (h1 : I64 q1) (h2 : I64 q2) (h3 : I64 q3) : Ans 34 #[.agg (q4 p0 p1 p2 p3), .agg (q4 q0 q1 q2 q3)] (V (prd p0 p1 p2 p3 q0 q1 q2 q3 16 2)) := fun w => by
  have e : prd p0 p1 p2 p3 q0 q1 q2 q3 16 2 = p0 * q2 + p2 * q0 + p3 * q1 - p1 * q3 := by rw [prd5_2]; omega
  rw [e]
  exact ry5_core p0 p1 p2 p3 q0 q1 q2 q3 w (Two5 p0 q2 p2 q0 g0 h2 g2 h0) (Mul5 p3 q1 g3 h1) (Plus3 ((g0.sz.mul h2.sz).add (g2.sz.mul h0.sz)) ((g3.sz.mul h1.sz).mono (by decide)) (by decide)) (Mul5 p1 q3 g1 h3) (Less3 (((g0.sz.mul h2.sz).add (g2.sz.mul h0.sz)).add ((g3.sz.mul h1.sz).mono (show 126 ≤ 127 by decide))) ((g1.sz.mul h3.sz).mono (by decide)) (by decide))
set_option maxHeartbeats 4000000 in
theorem rz5_core {N1 N2 N3 N4 N5 : Nat} (p0 p1 p2 p3 q0 q1 q2 q3 : Int) (w : World) (h0 : Hid (Ans 48 #[.int .i64 p0, .int .i64 q3, .int .i64 p3, .int .i64 q0] (.agg (cells8 N1)))) (h1 : Hid (Ans 64 #[.int .i64 p1, .int .i64 q2] (.agg (cells8 N2)))) (h2 : Hid (Ans 47 #[.agg (cells8 N1), .agg (cells8 N2)] (.agg (cells8 N3)))) (h3 : Hid (Ans 64 #[.int .i64 p2, .int .i64 q1] (.agg (cells8 N4)))) (h4 : Hid (Ans 63 #[.agg (cells8 N3), .agg (cells8 N4)] (.agg (cells8 N5)))) : Calls Tryz.prog 35 #[.agg (q4 p0 p1 p2 p3), .agg (q4 q0 q1 q2 q3)] w fun e w' => e = .returned (.agg (cells8 N5)) ∧ Below w.heap.size w w' := by
  go_enter Tryz.func35, Tryz.ntmps35
  go_upto_region 1 with fail
  have D := hide (((((Gen.start w).push 24 (q4 p0 p1 p2 p3)).push 24 (q4 q0 q1 q2 q3)).push 43 (z8)))
  simp only [szA] at D
  refine region_last (S := Gen w _) (f := 21) (l := [0, 1, 2, 3, 4, 5, 6, 7, 8, 9, 10, 11, 12, 13, 14, 15, 16, 17, 18, 19, 20]) (by kernel_rfl) (by kernel_rfl) (by kernel_rfl) (by kernel_rfl) (by kernel_rfl) (by kernel_rfl) (by kernel_rfl) (by kernel_rfl) (by kernel_rfl) (by kernel_rfl) rfl rfl (unhide D).drew ?_
  clear D
  refine plan_read (v := .pointer (some ⟨w.heap.size, 0, none⟩)) rfl rfl (fun u hS => by go_simp) ?_
  try go_simp
  refine plan_read (v := .int .i64 p0) rfl rfl (fun u hS => exec_loadFG (g := w.heap.size) (cs := q4 p0 p1 p2 p3) hS _ rfl rfl (by repeat (first | exact List.mem_cons_self | apply List.mem_cons_of_mem)) rfl) ?_
  try go_simp
  refine plan_read (v := .pointer (some ⟨w.heap.size + 1, 3, none⟩)) rfl rfl (fun u hS => by go_simp) ?_
  try go_simp
  refine plan_read (v := .int .i64 q3) rfl rfl (fun u hS => exec_loadFG (g := w.heap.size + 1) (cs := q4 q0 q1 q2 q3) hS _ rfl rfl (by repeat (first | exact List.mem_cons_self | apply List.mem_cons_of_mem)) rfl) ?_
  try go_simp
  refine plan_read (v := .pointer (some ⟨w.heap.size, 3, none⟩)) rfl rfl (fun u hS => by go_simp) ?_
  try go_simp
  refine plan_read (v := .int .i64 p3) rfl rfl (fun u hS => exec_loadFG (g := w.heap.size) (cs := q4 p0 p1 p2 p3) hS _ rfl rfl (by repeat (first | exact List.mem_cons_self | apply List.mem_cons_of_mem)) rfl) ?_
  try go_simp
  refine plan_read (v := .pointer (some ⟨w.heap.size + 1, 0, none⟩)) rfl rfl (fun u hS => by go_simp) ?_
  try go_simp
  refine plan_read (v := .int .i64 q0) rfl rfl (fun u hS => exec_loadFG (g := w.heap.size + 1) (cs := q4 q0 q1 q2 q3) hS _ rfl rfl (by repeat (first | exact List.mem_cons_self | apply List.mem_cons_of_mem)) rfl) ?_
  try go_simp
  refine plan_call (v := .agg (cells8 N1)) (f := 48) (args := #[.int .i64 p0, .int .i64 q3, .int .i64 p3, .int .i64 q0]) rfl rfl (fun u hS => by go_simp) (fun u hS => (unhide h0 u).mono fun _ _ ⟨he, hb⟩ => ⟨he, hS.keep hb⟩) ?_
  try go_simp
  refine plan_read (v := .pointer (some ⟨w.heap.size, 1, none⟩)) rfl rfl (fun u hS => by go_simp) ?_
  try go_simp
  refine plan_read (v := .int .i64 p1) rfl rfl (fun u hS => exec_loadFG (g := w.heap.size) (cs := q4 p0 p1 p2 p3) hS _ rfl rfl (by repeat (first | exact List.mem_cons_self | apply List.mem_cons_of_mem)) rfl) ?_
  try go_simp
  refine plan_read (v := .pointer (some ⟨w.heap.size + 1, 2, none⟩)) rfl rfl (fun u hS => by go_simp) ?_
  try go_simp
  refine plan_read (v := .int .i64 q2) rfl rfl (fun u hS => exec_loadFG (g := w.heap.size + 1) (cs := q4 q0 q1 q2 q3) hS _ rfl rfl (by repeat (first | exact List.mem_cons_self | apply List.mem_cons_of_mem)) rfl) ?_
  try go_simp
  refine plan_call (v := .agg (cells8 N2)) (f := 64) (args := #[.int .i64 p1, .int .i64 q2]) rfl rfl (fun u hS => by go_simp) (fun u hS => (unhide h1 u).mono fun _ _ ⟨he, hb⟩ => ⟨he, hS.keep hb⟩) ?_
  try go_simp
  refine plan_call (v := .agg (cells8 N3)) (f := 47) (args := #[.agg (cells8 N1), .agg (cells8 N2)]) rfl rfl (fun u hS => by go_simp) (fun u hS => (unhide h2 u).mono fun _ _ ⟨he, hb⟩ => ⟨he, hS.keep hb⟩) ?_
  try go_simp
  refine plan_read (v := .pointer (some ⟨w.heap.size, 2, none⟩)) rfl rfl (fun u hS => by go_simp) ?_
  try go_simp
  refine plan_read (v := .int .i64 p2) rfl rfl (fun u hS => exec_loadFG (g := w.heap.size) (cs := q4 p0 p1 p2 p3) hS _ rfl rfl (by repeat (first | exact List.mem_cons_self | apply List.mem_cons_of_mem)) rfl) ?_
  try go_simp
  refine plan_read (v := .pointer (some ⟨w.heap.size + 1, 1, none⟩)) rfl rfl (fun u hS => by go_simp) ?_
  try go_simp
  refine plan_read (v := .int .i64 q1) rfl rfl (fun u hS => exec_loadFG (g := w.heap.size + 1) (cs := q4 q0 q1 q2 q3) hS _ rfl rfl (by repeat (first | exact List.mem_cons_self | apply List.mem_cons_of_mem)) rfl) ?_
  try go_simp
  refine plan_call (v := .agg (cells8 N4)) (f := 64) (args := #[.int .i64 p2, .int .i64 q1]) rfl rfl (fun u hS => by go_simp) (fun u hS => (unhide h3 u).mono fun _ _ ⟨he, hb⟩ => ⟨he, hS.keep hb⟩) ?_
  try go_simp
  refine plan_call (v := .agg (cells8 N5)) (f := 63) (args := #[.agg (cells8 N3), .agg (cells8 N4)]) rfl rfl (fun u hS => by go_simp) (fun u hS => (unhide h4 u).mono fun _ _ ⟨he, hb⟩ => ⟨he, hS.keep hb⟩) ?_
  try go_simp
  refine plan_last (fun u1 hS => ?_)
  have B0 := hide (hS.blk (g := w.heap.size + 1 + 1) (t := 43) (cs := z8) (by repeat (first | exact List.mem_cons_self | apply List.mem_cons_of_mem)))
  refine wp_store_row 43 (.tmp 4) (.tmp 25) rfl _ (cells8 N5) rfl rfl 43 (z8) (unhide B0) iWide rfl (cells8_one _) ?_
  have B := hide ((unhide B0).row (cells8 N5))
  have O := hide (below_row hS.o (show w.heap.size ≤ w.heap.size + 1 + 1 by omega) (cells8 N5))
  clear hS B0
  go_wp2
  exact resG rWide (unhide B) rfl rfl rfl rfl ⟨rfl, unhide O⟩
theorem RZ5 (p0 p1 p2 p3 q0 q1 q2 q3 : Int) (g0 : I64 p0) (g1 : I64 p1) (g2 : I64 p2) (g3 : I64 p3) (h0 : I64 q0) (h1 : I64 q1) (h2 : I64 q2) (h3 : I64 q3) : Ans 35 #[.agg (q4 p0 p1 p2 p3), .agg (q4 q0 q1 q2 q3)] (V (prd p0 p1 p2 p3 q0 q1 q2 q3 16 3)) := fun w => by
  have e : prd p0 p1 p2 p3 q0 q1 q2 q3 16 3 = p0 * q3 + p3 * q0 + p1 * q2 - p2 * q1 := by rw [prd5_3]; omega
  rw [e]
  exact rz5_core p0 p1 p2 p3 q0 q1 q2 q3 w (Two5 p0 q3 p3 q0 g0 h3 g3 h0) (Mul5 p1 q2 g1 h2) (Plus3 ((g0.sz.mul h3.sz).add (g3.sz.mul h0.sz)) ((g1.sz.mul h2.sz).mono (by decide)) (by decide)) (Mul5 p2 q1 g2 h1) (Less3 (((g0.sz.mul h3.sz).add (g3.sz.mul h0.sz)).add ((g1.sz.mul h2.sz).mono (show 126 ≤ 127 by decide))) ((g2.sz.mul h1.sz).mono (by decide)) (by decide))
set_option maxHeartbeats 4000000 in
theorem rmulq5_core {N1 N3 N5 N7 : Nat} {v2 v4 v6 v8 : Int} (p0 p1 p2 p3 q0 q1 q2 q3 : Int) (w : World) (h0 : Hid (Ans 32 #[.agg (q4 p0 p1 p2 p3), .agg (q4 q0 q1 q2 q3)] (.agg (cells8 N1)))) (h1 : Hid (Ans 31 #[.agg (cells8 N1), .int .i64 64] (.int .i64 v2))) (h2 : Hid (Ans 33 #[.agg (q4 p0 p1 p2 p3), .agg (q4 q0 q1 q2 q3)] (.agg (cells8 N3)))) (h3 : Hid (Ans 31 #[.agg (cells8 N3), .int .i64 64] (.int .i64 v4))) (h4 : Hid (Ans 34 #[.agg (q4 p0 p1 p2 p3), .agg (q4 q0 q1 q2 q3)] (.agg (cells8 N5)))) (h5 : Hid (Ans 31 #[.agg (cells8 N5), .int .i64 64] (.int .i64 v6))) (h6 : Hid (Ans 35 #[.agg (q4 p0 p1 p2 p3), .agg (q4 q0 q1 q2 q3)] (.agg (cells8 N7)))) (h7 : Hid (Ans 31 #[.agg (cells8 N7), .int .i64 64] (.int .i64 v8))) : Calls Tryz.prog 12 #[.agg (q4 p0 p1 p2 p3), .agg (q4 q0 q1 q2 q3)] w fun e w' => e = .returned (.agg (q4 v2 v4 v6 v8)) ∧ Below w.heap.size w w' := by
  go_enter Tryz.func12, Tryz.ntmps12
  go_upto_region 1 with fail
  have D := hide (((((Gen.start w).push 24 (q4 p0 p1 p2 p3)).push 24 (q4 q0 q1 q2 q3)).push 24 (q4 0 0 0 0)))
  simp only [szA] at D
  refine region_last (S := Gen w _) (f := 17) (l := [0, 1, 2, 3, 4, 5, 6, 7, 8, 9, 10, 11, 12, 13, 14, 15, 16]) (by kernel_rfl) (by kernel_rfl) (by kernel_rfl) (by kernel_rfl) (by kernel_rfl) (by kernel_rfl) (by kernel_rfl) (by kernel_rfl) (by kernel_rfl) (by kernel_rfl) rfl rfl (unhide D).drew ?_
  clear D
  refine plan_read (v := .agg (q4 p0 p1 p2 p3)) rfl rfl (fun u hS => exec_loadG (g := w.heap.size) (cs := q4 p0 p1 p2 p3) hS rQuat _ rfl rfl (by repeat (first | exact List.mem_cons_self | apply List.mem_cons_of_mem)) rfl) ?_
  try go_simp
  refine plan_read (v := .agg (q4 q0 q1 q2 q3)) rfl rfl (fun u hS => exec_loadG (g := w.heap.size + 1) (cs := q4 q0 q1 q2 q3) hS rQuat _ rfl rfl (by repeat (first | exact List.mem_cons_self | apply List.mem_cons_of_mem)) rfl) ?_
  try go_simp
  refine plan_call (v := .agg (cells8 N1)) (f := 32) (args := #[.agg (q4 p0 p1 p2 p3), .agg (q4 q0 q1 q2 q3)]) rfl rfl (fun u hS => by go_simp) (fun u hS => (unhide h0 u).mono fun _ _ ⟨he, hb⟩ => ⟨he, hS.keep hb⟩) ?_
  try go_simp
  refine plan_call (v := .int .i64 v2) (f := 31) (args := #[.agg (cells8 N1), .int .i64 64]) rfl rfl (fun u hS => by go_simp) (fun u hS => (unhide h1 u).mono fun _ _ ⟨he, hb⟩ => ⟨he, hS.keep hb⟩) ?_
  try go_simp
  refine plan_read (v := .agg (q4 p0 p1 p2 p3)) rfl rfl (fun u hS => exec_loadG (g := w.heap.size) (cs := q4 p0 p1 p2 p3) hS rQuat _ rfl rfl (by repeat (first | exact List.mem_cons_self | apply List.mem_cons_of_mem)) rfl) ?_
  try go_simp
  refine plan_read (v := .agg (q4 q0 q1 q2 q3)) rfl rfl (fun u hS => exec_loadG (g := w.heap.size + 1) (cs := q4 q0 q1 q2 q3) hS rQuat _ rfl rfl (by repeat (first | exact List.mem_cons_self | apply List.mem_cons_of_mem)) rfl) ?_
  try go_simp
  refine plan_call (v := .agg (cells8 N3)) (f := 33) (args := #[.agg (q4 p0 p1 p2 p3), .agg (q4 q0 q1 q2 q3)]) rfl rfl (fun u hS => by go_simp) (fun u hS => (unhide h2 u).mono fun _ _ ⟨he, hb⟩ => ⟨he, hS.keep hb⟩) ?_
  try go_simp
  refine plan_call (v := .int .i64 v4) (f := 31) (args := #[.agg (cells8 N3), .int .i64 64]) rfl rfl (fun u hS => by go_simp) (fun u hS => (unhide h3 u).mono fun _ _ ⟨he, hb⟩ => ⟨he, hS.keep hb⟩) ?_
  try go_simp
  refine plan_read (v := .agg (q4 p0 p1 p2 p3)) rfl rfl (fun u hS => exec_loadG (g := w.heap.size) (cs := q4 p0 p1 p2 p3) hS rQuat _ rfl rfl (by repeat (first | exact List.mem_cons_self | apply List.mem_cons_of_mem)) rfl) ?_
  try go_simp
  refine plan_read (v := .agg (q4 q0 q1 q2 q3)) rfl rfl (fun u hS => exec_loadG (g := w.heap.size + 1) (cs := q4 q0 q1 q2 q3) hS rQuat _ rfl rfl (by repeat (first | exact List.mem_cons_self | apply List.mem_cons_of_mem)) rfl) ?_
  try go_simp
  refine plan_call (v := .agg (cells8 N5)) (f := 34) (args := #[.agg (q4 p0 p1 p2 p3), .agg (q4 q0 q1 q2 q3)]) rfl rfl (fun u hS => by go_simp) (fun u hS => (unhide h4 u).mono fun _ _ ⟨he, hb⟩ => ⟨he, hS.keep hb⟩) ?_
  try go_simp
  refine plan_call (v := .int .i64 v6) (f := 31) (args := #[.agg (cells8 N5), .int .i64 64]) rfl rfl (fun u hS => by go_simp) (fun u hS => (unhide h5 u).mono fun _ _ ⟨he, hb⟩ => ⟨he, hS.keep hb⟩) ?_
  try go_simp
  refine plan_read (v := .agg (q4 p0 p1 p2 p3)) rfl rfl (fun u hS => exec_loadG (g := w.heap.size) (cs := q4 p0 p1 p2 p3) hS rQuat _ rfl rfl (by repeat (first | exact List.mem_cons_self | apply List.mem_cons_of_mem)) rfl) ?_
  try go_simp
  refine plan_read (v := .agg (q4 q0 q1 q2 q3)) rfl rfl (fun u hS => exec_loadG (g := w.heap.size + 1) (cs := q4 q0 q1 q2 q3) hS rQuat _ rfl rfl (by repeat (first | exact List.mem_cons_self | apply List.mem_cons_of_mem)) rfl) ?_
  try go_simp
  refine plan_call (v := .agg (cells8 N7)) (f := 35) (args := #[.agg (q4 p0 p1 p2 p3), .agg (q4 q0 q1 q2 q3)]) rfl rfl (fun u hS => by go_simp) (fun u hS => (unhide h6 u).mono fun _ _ ⟨he, hb⟩ => ⟨he, hS.keep hb⟩) ?_
  try go_simp
  refine plan_call (v := .int .i64 v8) (f := 31) (args := #[.agg (cells8 N7), .int .i64 64]) rfl rfl (fun u hS => by go_simp) (fun u hS => (unhide h7 u).mono fun _ _ ⟨he, hb⟩ => ⟨he, hS.keep hb⟩) ?_
  try go_simp
  refine plan_read (v := .agg (q4 v2 v4 v6 v8)) rfl rfl (fun u hS => by go_simp) ?_
  try go_simp
  refine plan_last (fun u1 hS => ?_)
  have B0 := hide (hS.blk (g := w.heap.size + 1 + 1) (t := 24) (cs := q4 0 0 0 0) (by repeat (first | exact List.mem_cons_self | apply List.mem_cons_of_mem)))
  refine wp_store_row 24 (.tmp 4) (.tmp 21) rfl _ (q4 v2 v4 v6 v8) rfl rfl 24 (q4 0 0 0 0) (unhide B0) rQuat.i rfl (q4_one _ _ _ _) ?_
  have B := hide ((unhide B0).row (q4 v2 v4 v6 v8))
  have O := hide (below_row hS.o (show w.heap.size ≤ w.heap.size + 1 + 1 by omega) (q4 v2 v4 v6 v8))
  clear hS B0
  go_wp2
  exact resG rQuat (unhide B) rfl rfl rfl rfl ⟨rfl, unhide O⟩
theorem RMulIn (p0 p1 p2 p3 q0 q1 q2 q3 : Int) (g0 : I64 p0) (g1 : I64 p1) (g2 : I64 p2) (g3 : I64 p3) (h0 : I64 q0) (h1 : I64 q1) (h2 : I64 q2) (h3 : I64 q3) (j : Nat) : Ans 31 #[V (prd p0 p1 p2 p3 q0 q1 q2 q3 16 j), .int .i64 64] (.int .i64 (mulQ p0 p1 p2 p3 q0 q1 q2 q3 j)) := by
  have t := InR (prd p0 p1 p2 p3 q0 q1 q2 q3 16 j) 64 ((prd_sz (n4_I64 g0 g1 g2 g3) (n4_I64 h0 h1 h2 h3) 16 j (by decide)).fit (by decide)) i64_64
  rw [inI_64] at t
  exact t
theorem RMulQ5 (p0 p1 p2 p3 q0 q1 q2 q3 : Int) (g0 : I64 p0) (g1 : I64 p1) (g2 : I64 p2) (g3 : I64 p3) (h0 : I64 q0) (h1 : I64 q1) (h2 : I64 q2) (h3 : I64 q3) : Ans 12 #[.agg (q4 p0 p1 p2 p3), .agg (q4 q0 q1 q2 q3)] (.agg (q4 (mulQ p0 p1 p2 p3 q0 q1 q2 q3 0) (mulQ p0 p1 p2 p3 q0 q1 q2 q3 1) (mulQ p0 p1 p2 p3 q0 q1 q2 q3 2) (mulQ p0 p1 p2 p3 q0 q1 q2 q3 3))) := fun w =>
  rmulq5_core p0 p1 p2 p3 q0 q1 q2 q3 w (RW5 p0 p1 p2 p3 q0 q1 q2 q3 g0 g1 g2 g3 h0 h1 h2 h3) (RMulIn p0 p1 p2 p3 q0 q1 q2 q3 g0 g1 g2 g3 h0 h1 h2 h3 0) (RX5 p0 p1 p2 p3 q0 q1 q2 q3 g0 g1 g2 g3 h0 h1 h2 h3) (RMulIn p0 p1 p2 p3 q0 q1 q2 q3 g0 g1 g2 g3 h0 h1 h2 h3 1) (RY5 p0 p1 p2 p3 q0 q1 q2 q3 g0 g1 g2 g3 h0 h1 h2 h3) (RMulIn p0 p1 p2 p3 q0 q1 q2 q3 g0 g1 g2 g3 h0 h1 h2 h3 2) (RZ5 p0 p1 p2 p3 q0 q1 q2 q3 g0 g1 g2 g3 h0 h1 h2 h3) (RMulIn p0 p1 p2 p3 q0 q1 q2 q3 g0 g1 g2 g3 h0 h1 h2 h3 3)
set_option maxHeartbeats 4000000 in
theorem runit5_no (q0 q1 q2 q3 : Int) (w : World) (h0 : Hid (Ans 8 #[.agg (q4 q0 q1 q2 q3)] (.int .i64 9))) : Calls Tryz.prog 15 #[.agg (q4 q0 q1 q2 q3)] w fun e w' => e = .returned (.tuple #[.agg (q4 0 0 0 0), .int .i64 9]) ∧ Below w.heap.size w w' := by
  go_enter Tryz.func15, Tryz.ntmps15
  go_upto_region 1 with fail
  have D := hide ((((Gen.start w).push 24 (q4 q0 q1 q2 q3)).push 24 (q4 0 0 0 0)))
  simp only [szA] at D
  refine list_start (S := Gen w _) (unhide D) ?_
  clear D
  refine list_read (v := .agg (q4 q0 q1 q2 q3)) rfl rfl (fun u hS => exec_loadG (g := w.heap.size) (cs := q4 q0 q1 q2 q3) hS rQuat _ rfl rfl (by repeat (first | exact List.mem_cons_self | apply List.mem_cons_of_mem)) rfl) ?_
  try go_simp
  refine list_call (v := .int .i64 9) (f := 8) (args := #[.agg (q4 q0 q1 q2 q3)]) rfl rfl (fun u hS => by go_simp) (fun u hS => (unhide h0 u).mono fun _ _ ⟨he, hb⟩ => ⟨he, hS.keep hb⟩) ?_
  try go_simp
  refine list_read (v := .bool true) rfl rfl (fun u hS => by go_simp) ?_
  try go_simp
  refine list_end (fun u1 hS => ?_)
  have D := hide hS
  clear hS
  go_upto_region 2 with fail
  refine list_start (S := Gen w _) (unhide D) ?_
  clear D
  refine list_read (v := .agg (q4 0 0 0 0)) rfl rfl (fun u hS => by go_simp) ?_
  try go_simp
  intro u2 hS
  have D := hide hS
  clear hS
  go_wp2_with (first | (with_reducible refine at_list ?_; apply stGend (unhide D) rQuat _ _ rfl rfl rfl rfl (by repeat (first | exact List.mem_cons_self | apply List.mem_cons_of_mem)) (by omega) rfl rfl (q4_one _ _ _ _); intro B O))
  exact resGT rQuat (unhide B) rfl rfl rfl rfl rfl ⟨rfl, unhide O⟩
set_option maxHeartbeats 4000000 in
theorem runit5_core {N1 : Nat} {v2 v3 v4 v5 : Int} (q0 q1 q2 q3 : Int) (w : World) (h0 : Hid (Ans 8 #[.agg (q4 q0 q1 q2 q3)] (.int .i64 0))) (h1 : Hid (Ans 21 #[.agg (q4 q0 q1 q2 q3)] (.agg (cells8 N1)))) (h2 : Hid (Ans 39 #[.int .i64 q0, .agg (cells8 N1)] (.int .i64 v2))) (h3 : Hid (Ans 39 #[.int .i64 q1, .agg (cells8 N1)] (.int .i64 v3))) (h4 : Hid (Ans 39 #[.int .i64 q2, .agg (cells8 N1)] (.int .i64 v4))) (h5 : Hid (Ans 39 #[.int .i64 q3, .agg (cells8 N1)] (.int .i64 v5))) : Calls Tryz.prog 15 #[.agg (q4 q0 q1 q2 q3)] w fun e w' => e = .returned (.tuple #[.agg (q4 v2 v3 v4 v5), .int .i64 0]) ∧ Below w.heap.size w w' := by
  go_enter Tryz.func15, Tryz.ntmps15
  go_upto_region 1 with fail
  have D := hide ((((Gen.start w).push 24 (q4 q0 q1 q2 q3)).push 24 (q4 0 0 0 0)))
  simp only [szA] at D
  refine list_start (S := Gen w _) (unhide D) ?_
  clear D
  refine list_read (v := .agg (q4 q0 q1 q2 q3)) rfl rfl (fun u hS => exec_loadG (g := w.heap.size) (cs := q4 q0 q1 q2 q3) hS rQuat _ rfl rfl (by repeat (first | exact List.mem_cons_self | apply List.mem_cons_of_mem)) rfl) ?_
  try go_simp
  refine list_call (v := .int .i64 0) (f := 8) (args := #[.agg (q4 q0 q1 q2 q3)]) rfl rfl (fun u hS => by go_simp) (fun u hS => (unhide h0 u).mono fun _ _ ⟨he, hb⟩ => ⟨he, hS.keep hb⟩) ?_
  try go_simp
  refine list_read (v := .bool false) rfl rfl (fun u hS => by go_simp) ?_
  try go_simp
  refine list_end (fun u1 hS => ?_)
  have D := hide hS
  clear hS
  go_upto_region 3 with fail
  refine list_start (S := Gen w _) (unhide D) ?_
  clear D
  refine list_read (v := .agg (q4 q0 q1 q2 q3)) rfl rfl (fun u hS => exec_loadG (g := w.heap.size) (cs := q4 q0 q1 q2 q3) hS rQuat _ rfl rfl (by repeat (first | exact List.mem_cons_self | apply List.mem_cons_of_mem)) rfl) ?_
  try go_simp
  refine list_call (v := .agg (cells8 N1)) (f := 21) (args := #[.agg (q4 q0 q1 q2 q3)]) rfl rfl (fun u hS => by go_simp) (fun u hS => (unhide h1 u).mono fun _ _ ⟨he, hb⟩ => ⟨he, hS.keep hb⟩) ?_
  try go_simp
  intro u2 hS
  have D := hide hS
  clear hS
  go_upto_region 4 with (first | (with_reducible refine at_list ?_; refine stG (unhide D) rWide _ _ rfl rfl rfl rfl rfl rfl (cells8_one _) ?_; intro D'; have D := hide D'; clear D'))
  generalize hz_g2 : u2.heap.size = g2 at *
  clear hz_g2
  have D1 : Hid (GenZ w _ _ _) := ⟨(unhide D).drew, Nat.le_refl _⟩
  have hlt := hide (fun (p : Nat × TypeId × Array Value) hp => ((unhide D).at_ p hp).lt)
  have hw0 := hide (unhide D).o.size
  clear D
  try simp only [szA] at hlt hw0
  refine region_allocs (S := GenZ w _ _) (t := 43) (z := z8) (base := _) (l := [0, 1, 2, 3, 4, 5, 6, 7, 8, 9, 10, 11, 12, 13, 14, 15, 16]) (A := []) (T := [17, 18]) (by kernel_rfl) (by kernel_rfl) (by kernel_rfl) (by kernel_rfl) (by kernel_rfl) (by kernel_rfl) (by kernel_rfl) (by kernel_rfl) (by kernel_rfl) (by kernel_rfl) (fun i hi => by cases hi) (fun _ _ h hb => h.keep hb) (fun _ h => h.s) (unhide D1) ?_
  clear D1
  refine planB_read (v := .pointer (some ⟨w.heap.size, 0, none⟩)) rfl rfl (fun u hS => by go_simp) ?_
  try go_simp
  refine planB_read (v := .int .i64 q0) rfl rfl (fun u hS => exec_loadFG (g := w.heap.size) (cs := q4 q0 q1 q2 q3) hS.e _ rfl rfl (by repeat (first | exact List.mem_cons_self | apply List.mem_cons_of_mem)) rfl) ?_
  try go_simp
  refine planB_read (v := .agg (cells8 N1)) rfl rfl (fun u hS => exec_loadG (g := g2) (cs := cells8 N1) hS.e rWide _ rfl rfl (by repeat (first | exact List.mem_cons_self | apply List.mem_cons_of_mem)) rfl) ?_
  try go_simp
  refine planB_call (v := .int .i64 v2) (f := 39) (args := #[.int .i64 q0, .agg (cells8 N1)]) rfl rfl (fun u hS => by go_simp) (fun u hS => (unhide h2 u).mono fun _ _ ⟨he, hb⟩ => ⟨he, hS.keep hb, hb⟩) ?_
  try go_simp
  refine planB_read (v := .pointer (some ⟨w.heap.size, 1, none⟩)) rfl rfl (fun u hS => by go_simp) ?_
  try go_simp
  refine planB_read (v := .int .i64 q1) rfl rfl (fun u hS => exec_loadFG (g := w.heap.size) (cs := q4 q0 q1 q2 q3) hS.e _ rfl rfl (by repeat (first | exact List.mem_cons_self | apply List.mem_cons_of_mem)) rfl) ?_
  try go_simp
  refine planB_read (v := .agg (cells8 N1)) rfl rfl (fun u hS => exec_loadG (g := g2) (cs := cells8 N1) hS.e rWide _ rfl rfl (by repeat (first | exact List.mem_cons_self | apply List.mem_cons_of_mem)) rfl) ?_
  try go_simp
  refine planB_call (v := .int .i64 v3) (f := 39) (args := #[.int .i64 q1, .agg (cells8 N1)]) rfl rfl (fun u hS => by go_simp) (fun u hS => (unhide h3 u).mono fun _ _ ⟨he, hb⟩ => ⟨he, hS.keep hb, hb⟩) ?_
  try go_simp
  refine planB_read (v := .pointer (some ⟨w.heap.size, 2, none⟩)) rfl rfl (fun u hS => by go_simp) ?_
  try go_simp
  refine planB_read (v := .int .i64 q2) rfl rfl (fun u hS => exec_loadFG (g := w.heap.size) (cs := q4 q0 q1 q2 q3) hS.e _ rfl rfl (by repeat (first | exact List.mem_cons_self | apply List.mem_cons_of_mem)) rfl) ?_
  try go_simp
  refine planB_read (v := .agg (cells8 N1)) rfl rfl (fun u hS => exec_loadG (g := g2) (cs := cells8 N1) hS.e rWide _ rfl rfl (by repeat (first | exact List.mem_cons_self | apply List.mem_cons_of_mem)) rfl) ?_
  try go_simp
  refine planB_call (v := .int .i64 v4) (f := 39) (args := #[.int .i64 q2, .agg (cells8 N1)]) rfl rfl (fun u hS => by go_simp) (fun u hS => (unhide h4 u).mono fun _ _ ⟨he, hb⟩ => ⟨he, hS.keep hb, hb⟩) ?_
  try go_simp
  refine planB_read (v := .pointer (some ⟨w.heap.size, 3, none⟩)) rfl rfl (fun u hS => by go_simp) ?_
  try go_simp
  refine planB_read (v := .int .i64 q3) rfl rfl (fun u hS => exec_loadFG (g := w.heap.size) (cs := q4 q0 q1 q2 q3) hS.e _ rfl rfl (by repeat (first | exact List.mem_cons_self | apply List.mem_cons_of_mem)) rfl) ?_
  try go_simp
  refine planB_read (v := .agg (cells8 N1)) rfl rfl (fun u hS => exec_loadG (g := g2) (cs := cells8 N1) hS.e rWide _ rfl rfl (by repeat (first | exact List.mem_cons_self | apply List.mem_cons_of_mem)) rfl) ?_
  try go_simp
  refine planB_call (v := .int .i64 v5) (f := 39) (args := #[.int .i64 q3, .agg (cells8 N1)]) rfl rfl (fun u hS => by go_simp) (fun u hS => (unhide h5 u).mono fun _ _ ⟨he, hb⟩ => ⟨he, hS.keep hb, hb⟩) ?_
  try go_simp
  refine planB_read (v := .agg (q4 v2 v3 v4 v5)) rfl rfl (fun u hS => by go_simp) ?_
  try go_simp
  refine planB_tail (fun c u3 hS hB hI => ?_)
  simp only [pa, opsOf]
  clear hI hB
  have D0 := hide hS.e
  have hw1 := unhide hw0
  clear hS
  have B0 := hide ((unhide D0).blk (g := w.heap.size + 1) (t := 24) (cs := q4 0 0 0 0) (by repeat (first | exact List.mem_cons_self | apply List.mem_cons_of_mem)))
  have B := hide ((unhide B0).row (q4 v2 v3 v4 v5))
  have O := hide (below_row (unhide D0).o (show w.heap.size ≤ w.heap.size + 1 by omega) (q4 v2 v3 v4 v5))
  clear D0
  refine wpList_store_row rfl 24 (.tmp 2) (.tmp 27) rfl _ (q4 v2 v3 v4 v5) rfl rfl 24 _ (unhide B0) rQuat.i rfl (q4_one _ _ _ _) ?_
  clear B0
  generalize u3.setRow _ (q4 v2 v3 v4 v5) = x3 at B O ⊢
  go_simp
  go_wp2
  exact resGT rQuat (unhide B) rfl rfl rfl rfl rfl ⟨rfl, unhide O⟩
theorem RUnitNo5 (q0 q1 q2 q3 : Int) (h0 : I64 q0) (h1 : I64 q1) (h2 : I64 q2) (h3 : I64 q3) (hc : chk (sq4 q0 q1 q2 q3) = 9) : Ans 15 #[.agg (q4 q0 q1 q2 q3)] (.tuple #[.agg (q4 0 0 0 0), .int .i64 9]) := fun w => by
  have hK := Check5 q0 q1 q2 q3 h0 h1 h2 h3
  rw [hc] at hK
  exact runit5_no q0 q1 q2 q3 w hK
theorem RUnit5 (q0 q1 q2 q3 : Int) (h0 : I64 q0) (h1 : I64 q1) (h2 : I64 q2) (h3 : I64 q3) (hc : chk (sq4 q0 q1 q2 q3) = 0) : Ans 15 #[.agg (q4 q0 q1 q2 q3)] (.tuple #[.agg (q4 (shI q0 (sq4 q0 q1 q2 q3)) (shI q1 (sq4 q0 q1 q2 q3)) (shI q2 (sq4 q0 q1 q2 q3)) (shI q3 (sq4 q0 q1 q2 q3))), .int .i64 0]) := fun w => by
  have hK := Check5 q0 q1 q2 q3 h0 h1 h2 h3
  rw [hc] at hK
  have hs := (sq4_sz (n4_I64 h0 h1 h2 h3)).mono (show 130 ≤ 140 by decide)
  have hp : 0 < sq4 q0 q1 q2 q3 := by have := chk_pos hc; omega
  have hg := sq4_ge q0 q1 q2 q3
  exact runit5_core q0 q1 q2 q3 w hK (Square5 q0 q1 q2 q3 h0 h1 h2 h3) (RatioR q0 _ h0 hp hs hg.1) (RatioR q1 _ h1 hp hs hg.2.1) (RatioR q2 _ h2 hp hs hg.2.2.1) (RatioR q3 _ h3 hp hs hg.2.2.2)
set_option maxHeartbeats 4000000 in
theorem rspun5_core {N1 N2 N3 N4 N5 : Nat} {v6 : Int} (x t : Int) (n : Nat) (w : World) (h0 : Hid (Ans 71 #[.int .i64 x] (.agg (cells8 N1)))) (h1 : Hid (Ans 24 #[.agg (cells8 N1), .int .i64 65] (.agg (cells8 N2)))) (h2 : Hid (Ans 71 #[.int .i64 t] (.agg (cells8 N3)))) (h3 : Hid (Ans 70 #[.agg (cells8 N3), .agg (cells8 n)] (.agg (cells8 N4)))) (h4 : Hid (Ans 47 #[.agg (cells8 N2), .agg (cells8 N4)] (.agg (cells8 N5)))) (h5 : Hid (Ans 31 #[.agg (cells8 N5), .int .i64 97] (.int .i64 v6))) : Calls Tryz.prog 45 #[.int .i64 x, .agg (cells8 n), .int .i64 t] w fun e w' => e = .returned (.int .i64 v6) ∧ Below w.heap.size w w' := by
  go_enter Tryz.func45, Tryz.ntmps45
  go_upto_region 1 with fail
  have D := hide (((Gen.start w).push 43 (cells8 n)))
  refine region_plan (S := Gen w _) (l := [0, 1, 2, 3, 4, 5, 6, 7, 8, 9]) (by kernel_rfl) (by kernel_rfl) (by kernel_rfl) (by kernel_rfl) (by kernel_rfl) (by kernel_rfl) (by kernel_rfl) (unhide D).drew ?_
  clear D
  refine plan_read (v := .int .i64 x) rfl rfl (fun u hS => by go_simp) ?_
  try go_simp
  refine plan_call (v := .agg (cells8 N1)) (f := 71) (args := #[.int .i64 x]) rfl rfl (fun u hS => by go_simp) (fun u hS => (unhide h0 u).mono fun _ _ ⟨he, hb⟩ => ⟨he, hS.keep hb⟩) ?_
  try go_simp
  refine plan_call (v := .agg (cells8 N2)) (f := 24) (args := #[.agg (cells8 N1), .int .i64 65]) rfl rfl (fun u hS => by go_simp) (fun u hS => (unhide h1 u).mono fun _ _ ⟨he, hb⟩ => ⟨he, hS.keep hb⟩) ?_
  try go_simp
  refine plan_read (v := .int .i64 t) rfl rfl (fun u hS => by go_simp) ?_
  try go_simp
  refine plan_call (v := .agg (cells8 N3)) (f := 71) (args := #[.int .i64 t]) rfl rfl (fun u hS => by go_simp) (fun u hS => (unhide h2 u).mono fun _ _ ⟨he, hb⟩ => ⟨he, hS.keep hb⟩) ?_
  try go_simp
  refine plan_read (v := .agg (cells8 n)) rfl rfl (fun u hS => exec_loadG (g := w.heap.size) (cs := cells8 n) hS rWide _ rfl rfl (by repeat (first | exact List.mem_cons_self | apply List.mem_cons_of_mem)) rfl) ?_
  try go_simp
  refine plan_call (v := .agg (cells8 N4)) (f := 70) (args := #[.agg (cells8 N3), .agg (cells8 n)]) rfl rfl (fun u hS => by go_simp) (fun u hS => (unhide h3 u).mono fun _ _ ⟨he, hb⟩ => ⟨he, hS.keep hb⟩) ?_
  try go_simp
  refine plan_call (v := .agg (cells8 N5)) (f := 47) (args := #[.agg (cells8 N2), .agg (cells8 N4)]) rfl rfl (fun u hS => by go_simp) (fun u hS => (unhide h4 u).mono fun _ _ ⟨he, hb⟩ => ⟨he, hS.keep hb⟩) ?_
  try go_simp
  refine plan_call (v := .int .i64 v6) (f := 31) (args := #[.agg (cells8 N5), .int .i64 97]) rfl rfl (fun u hS => by go_simp) (fun u hS => (unhide h5 u).mono fun _ _ ⟨he, hb⟩ => ⟨he, hS.keep hb⟩) ?_
  try go_simp
  refine plan_read (v := .int .i64 v6) rfl rfl (fun u hS => by go_simp) ?_
  try go_simp
  refine plan_end (fun u1 hS => ?_)
  have D := hide hS
  clear hS
  go_wp2
  go_ret
  exact ⟨rfl, (unhide D).o⟩
theorem inI_97 (x : Int) : inI x 97 = cl (x / 36893488147419103232) := if_pos (by decide)
theorem RSpun5 (x y t : Int) (hx : I64 x) (ht : I64 t) (hy : Sz 150 y) : Ans 45 #[.int .i64 x, V y, .int .i64 t] (.int .i64 (spn x y t)) := fun w => by
  have s1 : Sz 213 (x * 36893488147419103232) := (hx.sz.mul (show Sz 65 36893488147419103232 by unfold Sz; decide)).mono (by decide)
  have s2 : Sz 213 (t * y) := ht.sz.mul hy
  have e : spn x y t = inI (x * 36893488147419103232 + t * y) 97 := by rw [inI_97, Int.mul_comm t y]; rfl
  rw [e]
  exact rspun5_core x t _ w (Raw3 x hx) (TwiceAs (n := 65) hx.fit (by decide) rfl (s1.fit (by decide))) (Raw3 t ht) (Times3 ht.sz hy (by decide)) (Plus3 s1 s2 (by decide)) (InR _ 97 ((s1.add s2).fit (by decide)) ⟨by decide, by decide⟩)
set_option maxHeartbeats 4000000 in
theorem rspin5_core {N1 N3 N5 N7 : Nat} {v2 v4 v6 v8 : Int} (q0 q1 q2 q3 x y z t : Int) (w : World) (h0 : Hid (Ans 32 #[.agg (q4 0 x y z), .agg (q4 q0 q1 q2 q3)] (.agg (cells8 N1)))) (h1 : Hid (Ans 45 #[.int .i64 q0, .agg (cells8 N1), .int .i64 t] (.int .i64 v2))) (h2 : Hid (Ans 33 #[.agg (q4 0 x y z), .agg (q4 q0 q1 q2 q3)] (.agg (cells8 N3)))) (h3 : Hid (Ans 45 #[.int .i64 q1, .agg (cells8 N3), .int .i64 t] (.int .i64 v4))) (h4 : Hid (Ans 34 #[.agg (q4 0 x y z), .agg (q4 q0 q1 q2 q3)] (.agg (cells8 N5)))) (h5 : Hid (Ans 45 #[.int .i64 q2, .agg (cells8 N5), .int .i64 t] (.int .i64 v6))) (h6 : Hid (Ans 35 #[.agg (q4 0 x y z), .agg (q4 q0 q1 q2 q3)] (.agg (cells8 N7)))) (h7 : Hid (Ans 45 #[.int .i64 q3, .agg (cells8 N7), .int .i64 t] (.int .i64 v8))) : Calls Tryz.prog 17 #[.agg (q4 q0 q1 q2 q3), .agg (v3 x y z), .int .i64 t] w fun e w' => e = .returned (.agg (q4 v2 v4 v6 v8)) ∧ Below w.heap.size w w' := by
  go_enter Tryz.func17, Tryz.ntmps17
  go_upto_region 1 with fail
  have D := hide (((((Gen.start w).push 24 (q4 q0 q1 q2 q3)).push 36 (v3 x y z)).push 24 (q4 0 0 0 0)))
  simp only [szA] at D
  refine list_start (S := Gen w _) (unhide D) ?_
  clear D
  refine list_read (v := .pointer (some ⟨w.heap.size + 1, 0, none⟩)) rfl rfl (fun u hS => by go_simp) ?_
  try go_simp
  refine list_read (v := .int .i64 x) rfl rfl (fun u hS => exec_loadFG (g := w.heap.size + 1) (cs := v3 x y z) hS _ rfl rfl (by repeat (first | exact List.mem_cons_self | apply List.mem_cons_of_mem)) rfl) ?_
  try go_simp
  refine list_read (v := .pointer (some ⟨w.heap.size + 1, 1, none⟩)) rfl rfl (fun u hS => by go_simp) ?_
  try go_simp
  refine list_read (v := .int .i64 y) rfl rfl (fun u hS => exec_loadFG (g := w.heap.size + 1) (cs := v3 x y z) hS _ rfl rfl (by repeat (first | exact List.mem_cons_self | apply List.mem_cons_of_mem)) rfl) ?_
  try go_simp
  refine list_read (v := .pointer (some ⟨w.heap.size + 1, 2, none⟩)) rfl rfl (fun u hS => by go_simp) ?_
  try go_simp
  refine list_read (v := .int .i64 z) rfl rfl (fun u hS => exec_loadFG (g := w.heap.size + 1) (cs := v3 x y z) hS _ rfl rfl (by repeat (first | exact List.mem_cons_self | apply List.mem_cons_of_mem)) rfl) ?_
  try go_simp
  refine list_read (v := .agg (q4 0 x y z)) rfl rfl (fun u hS => by go_simp) ?_
  try go_simp
  intro u1 hS
  have D := hide hS
  clear hS
  go_upto_region 2 with (first | (with_reducible refine at_list ?_; refine stG (unhide D) rQuat _ _ rfl rfl rfl rfl rfl rfl (q4_one _ _ _ _) ?_; intro D'; have D := hide D'; clear D'))
  generalize hz_g1 : u1.heap.size = g1 at *
  clear hz_g1
  refine region_last (S := Gen w _) (f := 29) (l := [0, 1, 2, 3, 4, 5, 6, 7, 8, 9, 10, 11, 12, 13, 14, 15, 16, 17, 18, 19, 20, 21, 22, 23, 24, 25, 26, 27, 28]) (by kernel_rfl) (by kernel_rfl) (by kernel_rfl) (by kernel_rfl) (by kernel_rfl) (by kernel_rfl) (by kernel_rfl) (by kernel_rfl) (by kernel_rfl) (by kernel_rfl) rfl rfl (unhide D).drew ?_
  clear D
  refine plan_read (v := .pointer (some ⟨w.heap.size, 0, none⟩)) rfl rfl (fun u hS => by go_simp) ?_
  try go_simp
  refine plan_read (v := .int .i64 q0) rfl rfl (fun u hS => exec_loadFG (g := w.heap.size) (cs := q4 q0 q1 q2 q3) hS _ rfl rfl (by repeat (first | exact List.mem_cons_self | apply List.mem_cons_of_mem)) rfl) ?_
  try go_simp
  refine plan_read (v := .agg (q4 0 x y z)) rfl rfl (fun u hS => exec_loadG (g := g1) (cs := q4 0 x y z) hS rQuat _ rfl rfl (by repeat (first | exact List.mem_cons_self | apply List.mem_cons_of_mem)) rfl) ?_
  try go_simp
  refine plan_read (v := .agg (q4 q0 q1 q2 q3)) rfl rfl (fun u hS => exec_loadG (g := w.heap.size) (cs := q4 q0 q1 q2 q3) hS rQuat _ rfl rfl (by repeat (first | exact List.mem_cons_self | apply List.mem_cons_of_mem)) rfl) ?_
  try go_simp
  refine plan_call (v := .agg (cells8 N1)) (f := 32) (args := #[.agg (q4 0 x y z), .agg (q4 q0 q1 q2 q3)]) rfl rfl (fun u hS => by go_simp) (fun u hS => (unhide h0 u).mono fun _ _ ⟨he, hb⟩ => ⟨he, hS.keep hb⟩) ?_
  try go_simp
  refine plan_read (v := .int .i64 t) rfl rfl (fun u hS => by go_simp) ?_
  try go_simp
  refine plan_call (v := .int .i64 v2) (f := 45) (args := #[.int .i64 q0, .agg (cells8 N1), .int .i64 t]) rfl rfl (fun u hS => by go_simp) (fun u hS => (unhide h1 u).mono fun _ _ ⟨he, hb⟩ => ⟨he, hS.keep hb⟩) ?_
  try go_simp
  refine plan_read (v := .pointer (some ⟨w.heap.size, 1, none⟩)) rfl rfl (fun u hS => by go_simp) ?_
  try go_simp
  refine plan_read (v := .int .i64 q1) rfl rfl (fun u hS => exec_loadFG (g := w.heap.size) (cs := q4 q0 q1 q2 q3) hS _ rfl rfl (by repeat (first | exact List.mem_cons_self | apply List.mem_cons_of_mem)) rfl) ?_
  try go_simp
  refine plan_read (v := .agg (q4 0 x y z)) rfl rfl (fun u hS => exec_loadG (g := g1) (cs := q4 0 x y z) hS rQuat _ rfl rfl (by repeat (first | exact List.mem_cons_self | apply List.mem_cons_of_mem)) rfl) ?_
  try go_simp
  refine plan_read (v := .agg (q4 q0 q1 q2 q3)) rfl rfl (fun u hS => exec_loadG (g := w.heap.size) (cs := q4 q0 q1 q2 q3) hS rQuat _ rfl rfl (by repeat (first | exact List.mem_cons_self | apply List.mem_cons_of_mem)) rfl) ?_
  try go_simp
  refine plan_call (v := .agg (cells8 N3)) (f := 33) (args := #[.agg (q4 0 x y z), .agg (q4 q0 q1 q2 q3)]) rfl rfl (fun u hS => by go_simp) (fun u hS => (unhide h2 u).mono fun _ _ ⟨he, hb⟩ => ⟨he, hS.keep hb⟩) ?_
  try go_simp
  refine plan_read (v := .int .i64 t) rfl rfl (fun u hS => by go_simp) ?_
  try go_simp
  refine plan_call (v := .int .i64 v4) (f := 45) (args := #[.int .i64 q1, .agg (cells8 N3), .int .i64 t]) rfl rfl (fun u hS => by go_simp) (fun u hS => (unhide h3 u).mono fun _ _ ⟨he, hb⟩ => ⟨he, hS.keep hb⟩) ?_
  try go_simp
  refine plan_read (v := .pointer (some ⟨w.heap.size, 2, none⟩)) rfl rfl (fun u hS => by go_simp) ?_
  try go_simp
  refine plan_read (v := .int .i64 q2) rfl rfl (fun u hS => exec_loadFG (g := w.heap.size) (cs := q4 q0 q1 q2 q3) hS _ rfl rfl (by repeat (first | exact List.mem_cons_self | apply List.mem_cons_of_mem)) rfl) ?_
  try go_simp
  refine plan_read (v := .agg (q4 0 x y z)) rfl rfl (fun u hS => exec_loadG (g := g1) (cs := q4 0 x y z) hS rQuat _ rfl rfl (by repeat (first | exact List.mem_cons_self | apply List.mem_cons_of_mem)) rfl) ?_
  try go_simp
  refine plan_read (v := .agg (q4 q0 q1 q2 q3)) rfl rfl (fun u hS => exec_loadG (g := w.heap.size) (cs := q4 q0 q1 q2 q3) hS rQuat _ rfl rfl (by repeat (first | exact List.mem_cons_self | apply List.mem_cons_of_mem)) rfl) ?_
  try go_simp
  refine plan_call (v := .agg (cells8 N5)) (f := 34) (args := #[.agg (q4 0 x y z), .agg (q4 q0 q1 q2 q3)]) rfl rfl (fun u hS => by go_simp) (fun u hS => (unhide h4 u).mono fun _ _ ⟨he, hb⟩ => ⟨he, hS.keep hb⟩) ?_
  try go_simp
  refine plan_read (v := .int .i64 t) rfl rfl (fun u hS => by go_simp) ?_
  try go_simp
  refine plan_call (v := .int .i64 v6) (f := 45) (args := #[.int .i64 q2, .agg (cells8 N5), .int .i64 t]) rfl rfl (fun u hS => by go_simp) (fun u hS => (unhide h5 u).mono fun _ _ ⟨he, hb⟩ => ⟨he, hS.keep hb⟩) ?_
  try go_simp
  refine plan_read (v := .pointer (some ⟨w.heap.size, 3, none⟩)) rfl rfl (fun u hS => by go_simp) ?_
  try go_simp
  refine plan_read (v := .int .i64 q3) rfl rfl (fun u hS => exec_loadFG (g := w.heap.size) (cs := q4 q0 q1 q2 q3) hS _ rfl rfl (by repeat (first | exact List.mem_cons_self | apply List.mem_cons_of_mem)) rfl) ?_
  try go_simp
  refine plan_read (v := .agg (q4 0 x y z)) rfl rfl (fun u hS => exec_loadG (g := g1) (cs := q4 0 x y z) hS rQuat _ rfl rfl (by repeat (first | exact List.mem_cons_self | apply List.mem_cons_of_mem)) rfl) ?_
  try go_simp
  refine plan_read (v := .agg (q4 q0 q1 q2 q3)) rfl rfl (fun u hS => exec_loadG (g := w.heap.size) (cs := q4 q0 q1 q2 q3) hS rQuat _ rfl rfl (by repeat (first | exact List.mem_cons_self | apply List.mem_cons_of_mem)) rfl) ?_
  try go_simp
  refine plan_call (v := .agg (cells8 N7)) (f := 35) (args := #[.agg (q4 0 x y z), .agg (q4 q0 q1 q2 q3)]) rfl rfl (fun u hS => by go_simp) (fun u hS => (unhide h6 u).mono fun _ _ ⟨he, hb⟩ => ⟨he, hS.keep hb⟩) ?_
  try go_simp
  refine plan_read (v := .int .i64 t) rfl rfl (fun u hS => by go_simp) ?_
  try go_simp
  refine plan_call (v := .int .i64 v8) (f := 45) (args := #[.int .i64 q3, .agg (cells8 N7), .int .i64 t]) rfl rfl (fun u hS => by go_simp) (fun u hS => (unhide h7 u).mono fun _ _ ⟨he, hb⟩ => ⟨he, hS.keep hb⟩) ?_
  try go_simp
  refine plan_read (v := .agg (q4 v2 v4 v6 v8)) rfl rfl (fun u hS => by go_simp) ?_
  try go_simp
  refine plan_last (fun u2 hS => ?_)
  have B0 := hide (hS.blk (g := w.heap.size + 1 + 1) (t := 24) (cs := q4 0 0 0 0) (by repeat (first | exact List.mem_cons_self | apply List.mem_cons_of_mem)))
  refine wp_store_row 24 (.tmp 6) (.tmp 43) rfl _ (q4 v2 v4 v6 v8) rfl rfl 24 (q4 0 0 0 0) (unhide B0) rQuat.i rfl (q4_one _ _ _ _) ?_
  have B := hide ((unhide B0).row (q4 v2 v4 v6 v8))
  have O := hide (below_row hS.o (show w.heap.size ≤ w.heap.size + 1 + 1 by omega) (q4 v2 v4 v6 v8))
  clear hS B0
  go_wp2
  exact resG rQuat (unhide B) rfl rfl rfl rfl ⟨rfl, unhide O⟩
theorem RSpin5 (q0 q1 q2 q3 x y z t : Int) (h0 : I64 q0) (h1 : I64 q1) (h2 : I64 q2) (h3 : I64 q3) (k0 : I64 x) (k1 : I64 y) (k2 : I64 z) (ht : I64 t) : Ans 17 #[.agg (q4 q0 q1 q2 q3), .agg (v3 x y z), .int .i64 t] (.agg (q4 (spn q0 (prd 0 x y z q0 q1 q2 q3 16 0) t) (spn q1 (prd 0 x y z q0 q1 q2 q3 16 1) t) (spn q2 (prd 0 x y z q0 q1 q2 q3 16 2) t) (spn q3 (prd 0 x y z q0 q1 q2 q3 16 3) t))) := fun w => by
  have i0 : I64 0 := ⟨by decide, by decide⟩
  have hs := fun j => (prd_sz (n4_I64 i0 k0 k1 k2) (n4_I64 h0 h1 h2 h3) 16 j (by decide)).mono (show 144 ≤ 150 by decide)
  exact rspin5_core q0 q1 q2 q3 x y z t w (RW5 0 x y z q0 q1 q2 q3 i0 k0 k1 k2 h0 h1 h2 h3) (RSpun5 q0 _ t h0 ht (hs 0)) (RX5 0 x y z q0 q1 q2 q3 i0 k0 k1 k2 h0 h1 h2 h3) (RSpun5 q1 _ t h1 ht (hs 1)) (RY5 0 x y z q0 q1 q2 q3 i0 k0 k1 k2 h0 h1 h2 h3) (RSpun5 q2 _ t h2 ht (hs 2)) (RZ5 0 x y z q0 q1 q2 q3 i0 k0 k1 k2 h0 h1 h2 h3) (RSpun5 q3 _ t h3 ht (hs 3))
set_option maxHeartbeats 4000000 in
theorem quatMul_core (p0 p1 p2 p3 q0 q1 q2 q3 b0 b1 b2 b3 r0 r1 r2 r3 e : Int) (TP TT : Array Value) (w : World) (hP : Tab 0 TP w) (hT : Tab 1 TT w) (h0 : Hid (Ans 6 #[] (.agg (q4 4294967296 0 0 0)))) (h1 : Hid (Ans 7 #[.agg (q4 p0 p1 p2 p3)] (.int .i64 e))) (h2 : Hid (Ans 8 #[.agg (q4 p0 p1 p2 p3)] (.int .i64 e))) (h3 : Hid (Ans 9 #[.agg (q4 p0 p1 p2 p3)] (.agg (q4 b0 b1 b2 b3)))) (h4 : Hid (Ans 10 #[.agg (q4 p0 p1 p2 p3)] (.agg (q4 b0 b1 b2 b3)))) (h5 : Hid (∀ u, Tab 0 TP u → Calls Tryz.prog 11 #[.agg (q4 p0 p1 p2 p3), .agg (q4 q0 q1 q2 q3)] u fun e w' => e = .returned (.agg (q4 r0 r1 r2 r3)) ∧ Below u.heap.size u w')) (h6 : Hid (Ans 12 #[.agg (q4 p0 p1 p2 p3), .agg (q4 q0 q1 q2 q3)] (.agg (q4 r0 r1 r2 r3)))) (h7 : Hid (∀ u, Tab 0 TP u → Tab 1 TT u → Calls Tryz.prog 13 #[] u fun e w' => e = .returned (.bool true) ∧ Below u.heap.size u w')) : Calls Tryz.prog 3 #[.agg (q4 p0 p1 p2 p3), .agg (q4 q0 q1 q2 q3)] w fun e w' => e = .returned (.bool true) ∧ Below w.heap.size w w' := by
  have hPlt := hP.lt
  have hTlt := hT.lt
  have HP := hide hP
  have HT := hide hT
  clear hP hT
  go_enter Tryz.func3, Tryz.ntmps3
  go_upto_region 1 with fail
  have D := hide ((((Gen.start w).push 24 (q4 p0 p1 p2 p3)).push 24 (q4 q0 q1 q2 q3)))
  simp only [szA] at D
  refine region_plan (S := Gen w _) (l := [0, 1, 2, 3, 4, 5, 6, 7, 8, 9, 10, 11, 12, 13, 14, 15, 16, 17, 18, 19, 20, 21, 22, 23, 24, 25, 26, 27, 28, 29]) (by kernel_rfl) (by kernel_rfl) (by kernel_rfl) (by kernel_rfl) (by kernel_rfl) (by kernel_rfl) (by kernel_rfl) (unhide D).drew ?_
  clear D
  refine plan_call (v := .agg (q4 4294967296 0 0 0)) (f := 6) (args := #[]) rfl rfl (fun u hS => by go_simp) (fun u hS => (unhide h0 u).mono fun _ _ ⟨he, hb⟩ => ⟨he, hS.keep hb⟩) ?_
  try go_simp
  refine plan_read (v := .agg (q4 4294967296 0 0 0)) rfl rfl (fun u hS => by go_simp) ?_
  try go_simp
  refine plan_read (v := .bool true) rfl rfl (fun u hS => exec_eql_quat _ (.tmp 5) (.tmp 6) (sameQ_self _ _ _ _) rfl rfl rfl) ?_
  try go_simp
  refine plan_read (v := .bool true) rfl rfl (fun u hS => by go_simp) ?_
  try go_simp
  refine plan_read (v := .agg (q4 p0 p1 p2 p3)) rfl rfl (fun u hS => exec_loadG (g := w.heap.size) (cs := q4 p0 p1 p2 p3) hS rQuat _ rfl rfl (by repeat (first | exact List.mem_cons_self | apply List.mem_cons_of_mem)) rfl) ?_
  try go_simp
  refine plan_call (v := .int .i64 e) (f := 7) (args := #[.agg (q4 p0 p1 p2 p3)]) rfl rfl (fun u hS => by go_simp) (fun u hS => (unhide h1 u).mono fun _ _ ⟨he, hb⟩ => ⟨he, hS.keep hb⟩) ?_
  try go_simp
  refine plan_read (v := .agg (q4 p0 p1 p2 p3)) rfl rfl (fun u hS => exec_loadG (g := w.heap.size) (cs := q4 p0 p1 p2 p3) hS rQuat _ rfl rfl (by repeat (first | exact List.mem_cons_self | apply List.mem_cons_of_mem)) rfl) ?_
  try go_simp
  refine plan_call (v := .int .i64 e) (f := 8) (args := #[.agg (q4 p0 p1 p2 p3)]) rfl rfl (fun u hS => by go_simp) (fun u hS => (unhide h2 u).mono fun _ _ ⟨he, hb⟩ => ⟨he, hS.keep hb⟩) ?_
  try go_simp
  refine plan_read (v := .bool true) rfl rfl (fun u hS => exec_eqlZ u (.tmp 10) (.tmp 12) (by simp) rfl rfl rfl) ?_
  try go_simp
  refine plan_read (v := .bool true) rfl rfl (fun u hS => by go_simp) ?_
  try go_simp
  refine plan_read (v := .bool true) rfl rfl (fun u hS => by go_simp) ?_
  try go_simp
  refine plan_read (v := .agg (q4 p0 p1 p2 p3)) rfl rfl (fun u hS => exec_loadG (g := w.heap.size) (cs := q4 p0 p1 p2 p3) hS rQuat _ rfl rfl (by repeat (first | exact List.mem_cons_self | apply List.mem_cons_of_mem)) rfl) ?_
  try go_simp
  refine plan_call (v := .agg (q4 b0 b1 b2 b3)) (f := 9) (args := #[.agg (q4 p0 p1 p2 p3)]) rfl rfl (fun u hS => by go_simp) (fun u hS => (unhide h3 u).mono fun _ _ ⟨he, hb⟩ => ⟨he, hS.keep hb⟩) ?_
  try go_simp
  refine plan_read (v := .agg (q4 p0 p1 p2 p3)) rfl rfl (fun u hS => exec_loadG (g := w.heap.size) (cs := q4 p0 p1 p2 p3) hS rQuat _ rfl rfl (by repeat (first | exact List.mem_cons_self | apply List.mem_cons_of_mem)) rfl) ?_
  try go_simp
  refine plan_call (v := .agg (q4 b0 b1 b2 b3)) (f := 10) (args := #[.agg (q4 p0 p1 p2 p3)]) rfl rfl (fun u hS => by go_simp) (fun u hS => (unhide h4 u).mono fun _ _ ⟨he, hb⟩ => ⟨he, hS.keep hb⟩) ?_
  try go_simp
  refine plan_read (v := .bool true) rfl rfl (fun u hS => exec_eql_quat _ (.tmp 17) (.tmp 19) (sameQ_self _ _ _ _) rfl rfl rfl) ?_
  try go_simp
  refine plan_read (v := .bool true) rfl rfl (fun u hS => by go_simp) ?_
  try go_simp
  refine plan_read (v := .bool true) rfl rfl (fun u hS => by go_simp) ?_
  try go_simp
  refine plan_read (v := .agg (q4 p0 p1 p2 p3)) rfl rfl (fun u hS => exec_loadG (g := w.heap.size) (cs := q4 p0 p1 p2 p3) hS rQuat _ rfl rfl (by repeat (first | exact List.mem_cons_self | apply List.mem_cons_of_mem)) rfl) ?_
  try go_simp
  refine plan_read (v := .agg (q4 q0 q1 q2 q3)) rfl rfl (fun u hS => exec_loadG (g := w.heap.size + 1) (cs := q4 q0 q1 q2 q3) hS rQuat _ rfl rfl (by repeat (first | exact List.mem_cons_self | apply List.mem_cons_of_mem)) rfl) ?_
  try go_simp
  refine plan_call (v := .agg (q4 r0 r1 r2 r3)) (f := 11) (args := #[.agg (q4 p0 p1 p2 p3), .agg (q4 q0 q1 q2 q3)]) rfl rfl (fun u hS => by go_simp) (fun u hS => (unhide h5 u ((unhide HP).below hS.o hPlt)).mono fun _ _ ⟨he, hb⟩ => ⟨he, hS.keep hb⟩) ?_
  try go_simp
  refine plan_read (v := .agg (q4 p0 p1 p2 p3)) rfl rfl (fun u hS => exec_loadG (g := w.heap.size) (cs := q4 p0 p1 p2 p3) hS rQuat _ rfl rfl (by repeat (first | exact List.mem_cons_self | apply List.mem_cons_of_mem)) rfl) ?_
  try go_simp
  refine plan_read (v := .agg (q4 q0 q1 q2 q3)) rfl rfl (fun u hS => exec_loadG (g := w.heap.size + 1) (cs := q4 q0 q1 q2 q3) hS rQuat _ rfl rfl (by repeat (first | exact List.mem_cons_self | apply List.mem_cons_of_mem)) rfl) ?_
  try go_simp
  refine plan_call (v := .agg (q4 r0 r1 r2 r3)) (f := 12) (args := #[.agg (q4 p0 p1 p2 p3), .agg (q4 q0 q1 q2 q3)]) rfl rfl (fun u hS => by go_simp) (fun u hS => (unhide h6 u).mono fun _ _ ⟨he, hb⟩ => ⟨he, hS.keep hb⟩) ?_
  try go_simp
  refine plan_read (v := .bool true) rfl rfl (fun u hS => exec_eql_quat _ (.tmp 25) (.tmp 28) (sameQ_self _ _ _ _) rfl rfl rfl) ?_
  try go_simp
  refine plan_read (v := .bool true) rfl rfl (fun u hS => by go_simp) ?_
  try go_simp
  refine plan_read (v := .bool true) rfl rfl (fun u hS => by go_simp) ?_
  try go_simp
  refine plan_call (v := .bool true) (f := 13) (args := #[]) rfl rfl (fun u hS => by go_simp) (fun u hS => (unhide h7 u ((unhide HP).below hS.o hPlt) ((unhide HT).below hS.o hTlt)).mono fun _ _ ⟨he, hb⟩ => ⟨he, hS.keep hb⟩) ?_
  try go_simp
  refine plan_read (v := .bool true) rfl rfl (fun u hS => by go_simp) ?_
  try go_simp
  refine plan_read (v := .bool true) rfl rfl (fun u hS => by go_simp) ?_
  try go_simp
  refine plan_end (fun u1 hS => ?_)
  have D := hide hS
  clear hS
  go_wp2
  go_ret
  exact ⟨rfl, (unhide D).o⟩
set_option maxHeartbeats 4000000 in
theorem quatUnit_yes (q0 q1 q2 q3 r0 r1 r2 r3 : Int) (TP TT : Array Value) (w : World) (hP : Tab 0 TP w) (hT : Tab 1 TT w) (h0 : Hid (Ans 14 #[.agg (q4 q0 q1 q2 q3)] (.tuple #[.agg (q4 r0 r1 r2 r3), .int .i64 0]))) (h1 : Hid (Ans 15 #[.agg (q4 q0 q1 q2 q3)] (.tuple #[.agg (q4 r0 r1 r2 r3), .int .i64 0]))) (h2 : Hid (∀ u, Tab 0 TP u → Tab 1 TT u → Calls Tryz.prog 13 #[] u fun e w' => e = .returned (.bool true) ∧ Below u.heap.size u w')) : Calls Tryz.prog 4 #[.agg (q4 q0 q1 q2 q3)] w fun e w' => e = .returned (.bool true) ∧ Below w.heap.size w w' := by
  have hPlt := hP.lt
  have hTlt := hT.lt
  have HP := hide hP
  have HT := hide hT
  clear hP hT
  go_enter Tryz.func4, Tryz.ntmps4
  go_upto_region 1 with fail
  have D := hide (((Gen.start w).push 24 (q4 q0 q1 q2 q3)))
  refine list_start (S := Gen w _) (unhide D) ?_
  clear D
  refine list_read (v := .agg (q4 q0 q1 q2 q3)) rfl rfl (fun u hS => exec_loadG (g := w.heap.size) (cs := q4 q0 q1 q2 q3) hS rQuat _ rfl rfl (by repeat (first | exact List.mem_cons_self | apply List.mem_cons_of_mem)) rfl) ?_
  try go_simp
  refine list_call (v := .tuple #[.agg (q4 r0 r1 r2 r3), .int .i64 0]) (f := 14) (args := #[.agg (q4 q0 q1 q2 q3)]) rfl rfl (fun u hS => by go_simp) (fun u hS => (unhide h0 u).mono fun _ _ ⟨he, hb⟩ => ⟨he, hS.keep hb⟩) ?_
  try go_simp
  refine list_read (v := .tuple #[.agg (q4 r0 r1 r2 r3), .int .i64 0]) rfl rfl (fun u hS => by go_simp) ?_
  try go_simp
  refine list_read (v := .agg (q4 r0 r1 r2 r3)) rfl rfl (fun u hS => by go_simp) ?_
  try go_simp
  refine list_read (v := .int .i64 0) rfl rfl (fun u hS => by go_simp) ?_
  try go_simp
  intro u1 hS
  have D := hide hS
  clear hS
  go_upto_region 2 with (first | (with_reducible refine at_list ?_; refine stG (unhide D) rQuat _ _ rfl rfl rfl rfl rfl rfl (q4_one _ _ _ _) ?_; intro D'; have D := hide D'; clear D'))
  generalize hz_g1 : u1.heap.size = g1 at *
  clear hz_g1
  refine list_start (S := Gen w _) (unhide D) ?_
  clear D
  refine list_read (v := .agg (q4 q0 q1 q2 q3)) rfl rfl (fun u hS => exec_loadG (g := w.heap.size) (cs := q4 q0 q1 q2 q3) hS rQuat _ rfl rfl (by repeat (first | exact List.mem_cons_self | apply List.mem_cons_of_mem)) rfl) ?_
  try go_simp
  refine list_call (v := .tuple #[.agg (q4 r0 r1 r2 r3), .int .i64 0]) (f := 15) (args := #[.agg (q4 q0 q1 q2 q3)]) rfl rfl (fun u hS => by go_simp) (fun u hS => (unhide h1 u).mono fun _ _ ⟨he, hb⟩ => ⟨he, hS.keep hb⟩) ?_
  try go_simp
  refine list_read (v := .tuple #[.agg (q4 r0 r1 r2 r3), .int .i64 0]) rfl rfl (fun u hS => by go_simp) ?_
  try go_simp
  refine list_read (v := .agg (q4 r0 r1 r2 r3)) rfl rfl (fun u hS => by go_simp) ?_
  try go_simp
  refine list_read (v := .int .i64 0) rfl rfl (fun u hS => by go_simp) ?_
  try go_simp
  intro u2 hS
  have D := hide hS
  clear hS
  go_upto_region 3 with (first | (with_reducible refine at_list ?_; refine stG (unhide D) rQuat _ _ rfl rfl rfl rfl rfl rfl (q4_one _ _ _ _) ?_; intro D'; have D := hide D'; clear D'))
  generalize hz_g2 : u2.heap.size = g2 at *
  clear hz_g2
  refine list_start (S := Gen w _) (unhide D) ?_
  clear D
  refine list_read (v := .agg (q4 r0 r1 r2 r3)) rfl rfl (fun u hS => exec_loadG (g := g1) (cs := q4 r0 r1 r2 r3) hS rQuat _ rfl rfl (by repeat (first | exact List.mem_cons_self | apply List.mem_cons_of_mem)) rfl) ?_
  try go_simp
  refine list_read (v := .agg (q4 r0 r1 r2 r3)) rfl rfl (fun u hS => exec_loadG (g := g2) (cs := q4 r0 r1 r2 r3) hS rQuat _ rfl rfl (by repeat (first | exact List.mem_cons_self | apply List.mem_cons_of_mem)) rfl) ?_
  try go_simp
  refine list_read (v := .bool true) rfl rfl (fun u hS => exec_eql_quat _ (.tmp 17) (.tmp 18) (sameQ_self _ _ _ _) rfl rfl rfl) ?_
  try go_simp
  refine list_read (v := .bool true) rfl rfl (fun u hS => by go_simp) ?_
  try go_simp
  refine list_read (v := .int .i64 0) rfl rfl (fun u hS => by go_simp) ?_
  try go_simp
  refine list_read (v := .int .i64 0) rfl rfl (fun u hS => by go_simp) ?_
  try go_simp
  refine list_read (v := .bool true) rfl rfl (fun u hS => by go_simp) ?_
  try go_simp
  refine list_read (v := .bool true) rfl rfl (fun u hS => by go_simp) ?_
  try go_simp
  refine list_read (v := .bool true) rfl rfl (fun u hS => by go_simp) ?_
  try go_simp
  refine list_call (v := .bool true) (f := 13) (args := #[]) rfl rfl (fun u hS => by go_simp) (fun u hS => (unhide h2 u ((unhide HP).below hS.o hPlt) ((unhide HT).below hS.o hTlt)).mono fun _ _ ⟨he, hb⟩ => ⟨he, hS.keep hb⟩) ?_
  try go_simp
  refine list_read (v := .bool true) rfl rfl (fun u hS => by go_simp) ?_
  try go_simp
  refine list_read (v := .bool true) rfl rfl (fun u hS => by go_simp) ?_
  try go_simp
  refine list_end (fun u3 hS => ?_)
  have D := hide hS
  clear hS
  go_wp2
  go_ret
  exact ⟨rfl, (unhide D).o⟩
set_option maxHeartbeats 4000000 in
theorem quatUnit_no (q0 q1 q2 q3 : Int) (TP TT : Array Value) (w : World) (hP : Tab 0 TP w) (hT : Tab 1 TT w) (h0 : Hid (Ans 14 #[.agg (q4 q0 q1 q2 q3)] (.tuple #[.agg (q4 0 0 0 0), .int .i64 9]))) (h1 : Hid (Ans 15 #[.agg (q4 q0 q1 q2 q3)] (.tuple #[.agg (q4 0 0 0 0), .int .i64 9]))) (h2 : Hid (∀ u, Tab 0 TP u → Tab 1 TT u → Calls Tryz.prog 13 #[] u fun e w' => e = .returned (.bool true) ∧ Below u.heap.size u w')) : Calls Tryz.prog 4 #[.agg (q4 q0 q1 q2 q3)] w fun e w' => e = .returned (.bool true) ∧ Below w.heap.size w w' := by
  have hPlt := hP.lt
  have hTlt := hT.lt
  have HP := hide hP
  have HT := hide hT
  clear hP hT
  go_enter Tryz.func4, Tryz.ntmps4
  go_upto_region 1 with fail
  have D := hide (((Gen.start w).push 24 (q4 q0 q1 q2 q3)))
  refine list_start (S := Gen w _) (unhide D) ?_
  clear D
  refine list_read (v := .agg (q4 q0 q1 q2 q3)) rfl rfl (fun u hS => exec_loadG (g := w.heap.size) (cs := q4 q0 q1 q2 q3) hS rQuat _ rfl rfl (by repeat (first | exact List.mem_cons_self | apply List.mem_cons_of_mem)) rfl) ?_
  try go_simp
  refine list_call (v := .tuple #[.agg (q4 0 0 0 0), .int .i64 9]) (f := 14) (args := #[.agg (q4 q0 q1 q2 q3)]) rfl rfl (fun u hS => by go_simp) (fun u hS => (unhide h0 u).mono fun _ _ ⟨he, hb⟩ => ⟨he, hS.keep hb⟩) ?_
  try go_simp
  refine list_read (v := .tuple #[.agg (q4 0 0 0 0), .int .i64 9]) rfl rfl (fun u hS => by go_simp) ?_
  try go_simp
  refine list_read (v := .agg (q4 0 0 0 0)) rfl rfl (fun u hS => by go_simp) ?_
  try go_simp
  refine list_read (v := .int .i64 9) rfl rfl (fun u hS => by go_simp) ?_
  try go_simp
  intro u1 hS
  have D := hide hS
  clear hS
  go_upto_region 2 with (first | (with_reducible refine at_list ?_; refine stG (unhide D) rQuat _ _ rfl rfl rfl rfl rfl rfl (q4_one _ _ _ _) ?_; intro D'; have D := hide D'; clear D'))
  generalize hz_g1 : u1.heap.size = g1 at *
  clear hz_g1
  refine list_start (S := Gen w _) (unhide D) ?_
  clear D
  refine list_read (v := .agg (q4 q0 q1 q2 q3)) rfl rfl (fun u hS => exec_loadG (g := w.heap.size) (cs := q4 q0 q1 q2 q3) hS rQuat _ rfl rfl (by repeat (first | exact List.mem_cons_self | apply List.mem_cons_of_mem)) rfl) ?_
  try go_simp
  refine list_call (v := .tuple #[.agg (q4 0 0 0 0), .int .i64 9]) (f := 15) (args := #[.agg (q4 q0 q1 q2 q3)]) rfl rfl (fun u hS => by go_simp) (fun u hS => (unhide h1 u).mono fun _ _ ⟨he, hb⟩ => ⟨he, hS.keep hb⟩) ?_
  try go_simp
  refine list_read (v := .tuple #[.agg (q4 0 0 0 0), .int .i64 9]) rfl rfl (fun u hS => by go_simp) ?_
  try go_simp
  refine list_read (v := .agg (q4 0 0 0 0)) rfl rfl (fun u hS => by go_simp) ?_
  try go_simp
  refine list_read (v := .int .i64 9) rfl rfl (fun u hS => by go_simp) ?_
  try go_simp
  intro u2 hS
  have D := hide hS
  clear hS
  go_upto_region 3 with (first | (with_reducible refine at_list ?_; refine stG (unhide D) rQuat _ _ rfl rfl rfl rfl rfl rfl (q4_one _ _ _ _) ?_; intro D'; have D := hide D'; clear D'))
  generalize hz_g2 : u2.heap.size = g2 at *
  clear hz_g2
  refine list_start (S := Gen w _) (unhide D) ?_
  clear D
  refine list_read (v := .agg (q4 0 0 0 0)) rfl rfl (fun u hS => exec_loadG (g := g1) (cs := q4 0 0 0 0) hS rQuat _ rfl rfl (by repeat (first | exact List.mem_cons_self | apply List.mem_cons_of_mem)) rfl) ?_
  try go_simp
  refine list_read (v := .agg (q4 0 0 0 0)) rfl rfl (fun u hS => exec_loadG (g := g2) (cs := q4 0 0 0 0) hS rQuat _ rfl rfl (by repeat (first | exact List.mem_cons_self | apply List.mem_cons_of_mem)) rfl) ?_
  try go_simp
  refine list_read (v := .bool true) rfl rfl (fun u hS => exec_eql_quat _ (.tmp 17) (.tmp 18) (sameQ_self _ _ _ _) rfl rfl rfl) ?_
  try go_simp
  refine list_read (v := .bool true) rfl rfl (fun u hS => by go_simp) ?_
  try go_simp
  refine list_read (v := .int .i64 9) rfl rfl (fun u hS => by go_simp) ?_
  try go_simp
  refine list_read (v := .int .i64 9) rfl rfl (fun u hS => by go_simp) ?_
  try go_simp
  refine list_read (v := .bool true) rfl rfl (fun u hS => by go_simp) ?_
  try go_simp
  refine list_read (v := .bool true) rfl rfl (fun u hS => by go_simp) ?_
  try go_simp
  refine list_read (v := .bool true) rfl rfl (fun u hS => by go_simp) ?_
  try go_simp
  refine list_call (v := .bool true) (f := 13) (args := #[]) rfl rfl (fun u hS => by go_simp) (fun u hS => (unhide h2 u ((unhide HP).below hS.o hPlt) ((unhide HT).below hS.o hTlt)).mono fun _ _ ⟨he, hb⟩ => ⟨he, hS.keep hb⟩) ?_
  try go_simp
  refine list_read (v := .bool true) rfl rfl (fun u hS => by go_simp) ?_
  try go_simp
  refine list_read (v := .bool true) rfl rfl (fun u hS => by go_simp) ?_
  try go_simp
  refine list_end (fun u3 hS => ?_)
  have D := hide hS
  clear hS
  go_wp2
  go_ret
  exact ⟨rfl, (unhide D).o⟩
set_option maxHeartbeats 4000000 in
theorem quatSpin_core (q0 q1 q2 q3 x y z t r0 r1 r2 r3 : Int) (TP TT : Array Value) (w : World) (hP : Tab 0 TP w) (hT : Tab 1 TT w) (h0 : Hid (∀ u, Tab 0 TP u → Calls Tryz.prog 16 #[.agg (q4 q0 q1 q2 q3), .agg (v3 x y z), .int .i64 t] u fun e w' => e = .returned (.agg (q4 r0 r1 r2 r3)) ∧ Below u.heap.size u w')) (h1 : Hid (Ans 17 #[.agg (q4 q0 q1 q2 q3), .agg (v3 x y z), .int .i64 t] (.agg (q4 r0 r1 r2 r3)))) (h2 : Hid (∀ u, Tab 0 TP u → Tab 1 TT u → Calls Tryz.prog 13 #[] u fun e w' => e = .returned (.bool true) ∧ Below u.heap.size u w')) : Calls Tryz.prog 5 #[.agg (q4 q0 q1 q2 q3), .agg (v3 x y z), .int .i64 t] w fun e w' => e = .returned (.bool true) ∧ Below w.heap.size w w' := by
  have hPlt := hP.lt
  have hTlt := hT.lt
  have HP := hide hP
  have HT := hide hT
  clear hP hT
  go_enter Tryz.func5, Tryz.ntmps5
  go_upto_region 1 with fail
  have D := hide ((((Gen.start w).push 24 (q4 q0 q1 q2 q3)).push 36 (v3 x y z)))
  simp only [szA] at D
  refine region_plan (S := Gen w _) (l := [0, 1, 2, 3, 4, 5, 6, 7, 8, 9, 10, 11, 12]) (by kernel_rfl) (by kernel_rfl) (by kernel_rfl) (by kernel_rfl) (by kernel_rfl) (by kernel_rfl) (by kernel_rfl) (unhide D).drew ?_
  clear D
  refine plan_read (v := .agg (q4 q0 q1 q2 q3)) rfl rfl (fun u hS => exec_loadG (g := w.heap.size) (cs := q4 q0 q1 q2 q3) hS rQuat _ rfl rfl (by repeat (first | exact List.mem_cons_self | apply List.mem_cons_of_mem)) rfl) ?_
  try go_simp
  refine plan_read (v := .agg (v3 x y z)) rfl rfl (fun u hS => exec_loadG (g := w.heap.size + 1) (cs := v3 x y z) hS rVec _ rfl rfl (by repeat (first | exact List.mem_cons_self | apply List.mem_cons_of_mem)) rfl) ?_
  try go_simp
  refine plan_read (v := .int .i64 t) rfl rfl (fun u hS => by go_simp) ?_
  try go_simp
  refine plan_call (v := .agg (q4 r0 r1 r2 r3)) (f := 16) (args := #[.agg (q4 q0 q1 q2 q3), .agg (v3 x y z), .int .i64 t]) rfl rfl (fun u hS => by go_simp) (fun u hS => (unhide h0 u ((unhide HP).below hS.o hPlt)).mono fun _ _ ⟨he, hb⟩ => ⟨he, hS.keep hb⟩) ?_
  try go_simp
  refine plan_read (v := .agg (q4 q0 q1 q2 q3)) rfl rfl (fun u hS => exec_loadG (g := w.heap.size) (cs := q4 q0 q1 q2 q3) hS rQuat _ rfl rfl (by repeat (first | exact List.mem_cons_self | apply List.mem_cons_of_mem)) rfl) ?_
  try go_simp
  refine plan_read (v := .agg (v3 x y z)) rfl rfl (fun u hS => exec_loadG (g := w.heap.size + 1) (cs := v3 x y z) hS rVec _ rfl rfl (by repeat (first | exact List.mem_cons_self | apply List.mem_cons_of_mem)) rfl) ?_
  try go_simp
  refine plan_read (v := .int .i64 t) rfl rfl (fun u hS => by go_simp) ?_
  try go_simp
  refine plan_call (v := .agg (q4 r0 r1 r2 r3)) (f := 17) (args := #[.agg (q4 q0 q1 q2 q3), .agg (v3 x y z), .int .i64 t]) rfl rfl (fun u hS => by go_simp) (fun u hS => (unhide h1 u).mono fun _ _ ⟨he, hb⟩ => ⟨he, hS.keep hb⟩) ?_
  try go_simp
  refine plan_read (v := .bool true) rfl rfl (fun u hS => exec_eql_quat _ (.tmp 10) (.tmp 14) (sameQ_self _ _ _ _) rfl rfl rfl) ?_
  try go_simp
  refine plan_read (v := .bool true) rfl rfl (fun u hS => by go_simp) ?_
  try go_simp
  refine plan_call (v := .bool true) (f := 13) (args := #[]) rfl rfl (fun u hS => by go_simp) (fun u hS => (unhide h2 u ((unhide HP).below hS.o hPlt) ((unhide HT).below hS.o hTlt)).mono fun _ _ ⟨he, hb⟩ => ⟨he, hS.keep hb⟩) ?_
  try go_simp
  refine plan_read (v := .bool true) rfl rfl (fun u hS => by go_simp) ?_
  try go_simp
  refine plan_read (v := .bool true) rfl rfl (fun u hS => by go_simp) ?_
  try go_simp
  refine plan_end (fun u1 hS => ?_)
  have D := hide hS
  clear hS
  go_wp2
  go_ret
  exact ⟨rfl, (unhide D).o⟩
theorem quatMul_walk (p0 p1 p2 p3 q0 q1 q2 q3 : Int) (k0 : (Lit.int .i64 p0).wf = true) (l0 : (Lit.int .i64 p1).wf = true) (m0 : (Lit.int .i64 p2).wf = true) (n0 : (Lit.int .i64 p3).wf = true) (k1 : (Lit.int .i64 q0).wf = true) (l1 : (Lit.int .i64 q1).wf = true) (m1 : (Lit.int .i64 q2).wf = true) (n1 : (Lit.int .i64 q3).wf = true) (w : World) (hP : Tab 0 tabP w) (hT : Tab 1 tabT w) :
    Calls Tryz.prog 3 #[.agg (q4 p0 p1 p2 p3), .agg (q4 q0 q1 q2 q3)] w fun e w' => e = .returned (.bool true) ∧ Below w.heap.size w w' := by
  have g0 := I64.wf k0
  have g1 := I64.wf l0
  have g2 := I64.wf m0
  have g3 := I64.wf n0
  have h0 := I64.wf k1
  have h1 := I64.wf l1
  have h2 := I64.wf m1
  have h3 := I64.wf n1
  exact quatMul_core p0 p1 p2 p3 q0 q1 q2 q3 _ _ _ _ _ _ _ _ _ tabP tabT w hP hT QOneZ (QCheckZ p0 p1 p2 p3 g0 g1 g2 g3) (Check5 p0 p1 p2 p3 g0 g1 g2 g3) (QBackZ5 p0 p1 p2 p3 g1 g2 g3) (RBack5 p0 p1 p2 p3 g1 g2 g3) (fun u g => QMulZ p0 p1 p2 p3 q0 q1 q2 q3 g0 g1 g2 g3 h0 h1 h2 h3 u g) (RMulQ5 p0 p1 p2 p3 q0 q1 q2 q3 g0 g1 g2 g3 h0 h1 h2 h3) (fun u a1 a2 => awake5Z u a1 a2)
theorem quatUnit_walk (q0 q1 q2 q3 : Int) (k0 : (Lit.int .i64 q0).wf = true) (l0 : (Lit.int .i64 q1).wf = true) (m0 : (Lit.int .i64 q2).wf = true) (n0 : (Lit.int .i64 q3).wf = true) (w : World) (hP : Tab 0 tabP w) (hT : Tab 1 tabT w) :
    Calls Tryz.prog 4 #[.agg (q4 q0 q1 q2 q3)] w fun e w' => e = .returned (.bool true) ∧ Below w.heap.size w w' := by
  have h0 := I64.wf k0
  have h1 := I64.wf l0
  have h2 := I64.wf m0
  have h3 := I64.wf n0
  rcases chk_cases (sq4 q0 q1 q2 q3) with hc | hc
  · exact quatUnit_yes q0 q1 q2 q3 _ _ _ _ tabP tabT w hP hT (QUnitZ q0 q1 q2 q3 h0 h1 h2 h3 hc) (RUnit5 q0 q1 q2 q3 h0 h1 h2 h3 hc) (fun u a1 a2 => awake5Z u a1 a2)
  · exact quatUnit_no q0 q1 q2 q3 tabP tabT w hP hT (QUnitBad q0 q1 q2 q3 h0 h1 h2 h3 hc) (RUnitNo5 q0 q1 q2 q3 h0 h1 h2 h3 hc) (fun u a1 a2 => awake5Z u a1 a2)
theorem quatSpin_walk (q0 q1 q2 q3 x y z t : Int) (k0 : (Lit.int .i64 q0).wf = true) (l0 : (Lit.int .i64 q1).wf = true) (m0 : (Lit.int .i64 q2).wf = true) (n0 : (Lit.int .i64 q3).wf = true) (k1 : (Lit.int .i64 x).wf = true) (l1 : (Lit.int .i64 y).wf = true) (m1 : (Lit.int .i64 z).wf = true) (w2 : (Lit.int .i64 t).wf = true) (w : World) (hP : Tab 0 tabP w) (hT : Tab 1 tabT w) :
    Calls Tryz.prog 5 #[.agg (q4 q0 q1 q2 q3), .agg (v3 x y z), .int .i64 t] w fun e w' => e = .returned (.bool true) ∧ Below w.heap.size w w' := by
  have h0 := I64.wf k0
  have h1 := I64.wf l0
  have h2 := I64.wf m0
  have h3 := I64.wf n0
  exact quatSpin_core q0 q1 q2 q3 x y z t _ _ _ _ tabP tabT w hP hT (fun u g => QSpinZ q0 q1 q2 q3 x y z t h0 h1 h2 h3 (I64.wf k1) (I64.wf l1) (I64.wf m1) (I64.wf w2) u g) (RSpin5 q0 q1 q2 q3 x y z t h0 h1 h2 h3 (I64.wf k1) (I64.wf l1) (I64.wf m1) (I64.wf w2)) (fun u a1 a2 => awake5Z u a1 a2)

end Go.Proofs.YtikmjfepflaokaaGreatDoor
