/- The document's numbers of layer 3: Len, Unit, Near. -/
import Derived.Test.YtljggjnaolbapaaGreatSa
namespace Go.Proofs.YtljggjnaolbapaaGreat
open Go.RowKit
set_option maxRecDepth 4000
set_option linter.unusedVariables false

set_option maxHeartbeats 2000000 in
theorem len3_down (ax ay az v : Int) (n r : Nat) (E : Bool) (w : World) (hE : Hid (Ans 53 #[.agg (v3 ax ay az), .agg (v3 ax ay az)] (.agg (cells8 n)))) (hQ : Hid (Ans 60 #[.agg (cells8 n)] (.tuple #[.agg (cells8 r), .bool E]))) (hW : Hid (Ans 64 #[.agg (cells8 r)] (.int .i64 v))) :
    Calls Tryz.prog 23 #[.agg (v3 ax ay az), .bool false] w fun e w' => e = .returned (.int .i64 v) ∧ Below w.heap.size w w' := by
  go_enter Tryz.func23, Tryz.ntmps23
  go_upto_region 1 with fail
  have D := hide ((Gen.start w).push 24 (v3 ax ay az))
  go_upto_region 3 with (first | (with_reducible refine at_list ?_; apply ldG (unhide D) rVec _ rfl rfl rfl (by repeat (first | exact List.mem_cons_self | apply List.mem_cons_of_mem)) rfl) | (with_reducible refine at_list ?_; apply ldG (unhide D) rWide _ rfl rfl rfl (by repeat (first | exact List.mem_cons_self | apply List.mem_cons_of_mem)) rfl) | (go_at_call 53; with_reducible refine (unhide hE _).mono ?_; rintro e w' ⟨he, hb⟩; subst he; have D := hide ((unhide D).keep hb); clear hb) | (go_at_call 60; with_reducible refine (unhide hQ _).mono ?_; rintro e w' ⟨he, hb⟩; subst he; have D := hide ((unhide D).keep hb); clear hb) | (with_reducible refine at_list ?_;  have hl := hide (fun p hp => Nat.ne_of_lt ((unhide D).at_ p hp).lt); have hw := hide (unhide D).o.size; refine stG (unhide D) rWide _ _ rfl rfl rfl rfl rfl rfl (cells8_one _) ?_; intro D'; have D := hide D'; clear D'))
  refine region_plan (S := Gen w _) (l := [0, 1, 2, 3, 4, 5, 6, 7]) (by kernel_rfl) (by kernel_rfl) (by kernel_rfl) (by kernel_rfl) (by kernel_rfl) (by kernel_rfl) (by kernel_rfl) (unhide D).drew ?_
  clear D
  refine plan_read (v := ?_) rfl rfl (fun u hS => by go_simp; rfl) ?_
  go_simp
  refine plan_read (v := ?_) rfl rfl (fun u hS => by go_simp; rfl) ?_
  go_simp
  refine plan_skip rfl rfl ?_
  go_simp
  refine plan_skip rfl rfl ?_
  go_simp
  refine plan_skip rfl rfl ?_
  go_simp
  refine plan_skip rfl rfl ?_
  go_simp
  refine plan_skip rfl rfl ?_
  go_simp
  refine plan_read (v := ?_) rfl rfl (fun u hS => by go_simp; rfl) ?_
  go_simp
  refine plan_end (fun u hS => ?_)
  have D := hide hS
  clear hS
  go_wp2_with (first | (with_reducible refine at_list ?_; apply ldG (unhide D) rWide _ rfl rfl rfl (by repeat (first | exact List.mem_cons_self | apply List.mem_cons_of_mem)) rfl) | (go_at_call 64; with_reducible refine (unhide hW _).mono ?_; rintro e w' ⟨he, hb⟩; subst he; have D := hide ((unhide D).keep hb); clear hb))
  go_ret
  exact ⟨rfl, (unhide D).o⟩
set_option maxHeartbeats 2000000 in
theorem len3_whole (ax ay az v : Int) (n r k : Nat) (E : Bool) (w : World) (hE : Hid (Ans 53 #[.agg (v3 ax ay az), .agg (v3 ax ay az)] (.agg (cells8 n)))) (hQ : Hid (Ans 60 #[.agg (cells8 n)] (.tuple #[.agg (cells8 r), .bool E]))) (hT : Hid (Ans 61 #[.agg (cells8 r), .agg (cells8 r)] (.agg (cells8 k)))) (hX : Hid (same k n = true)) (hW : Hid (Ans 64 #[.agg (cells8 r)] (.int .i64 v))) :
    Calls Tryz.prog 23 #[.agg (v3 ax ay az), .bool true] w fun e w' => e = .returned (.int .i64 v) ∧ Below w.heap.size w w' := by
  go_enter Tryz.func23, Tryz.ntmps23
  go_upto_region 1 with fail
  have D := hide ((Gen.start w).push 24 (v3 ax ay az))
  go_upto_region 3 with (first | (with_reducible refine at_list ?_; apply ldG (unhide D) rVec _ rfl rfl rfl (by repeat (first | exact List.mem_cons_self | apply List.mem_cons_of_mem)) rfl) | (with_reducible refine at_list ?_; apply ldG (unhide D) rWide _ rfl rfl rfl (by repeat (first | exact List.mem_cons_self | apply List.mem_cons_of_mem)) rfl) | (go_at_call 53; with_reducible refine (unhide hE _).mono ?_; rintro e w' ⟨he, hb⟩; subst he; have D := hide ((unhide D).keep hb); clear hb) | (go_at_call 60; with_reducible refine (unhide hQ _).mono ?_; rintro e w' ⟨he, hb⟩; subst he; have D := hide ((unhide D).keep hb); clear hb) | (with_reducible refine at_list ?_;  have hl := hide (fun p hp => Nat.ne_of_lt ((unhide D).at_ p hp).lt); have hw := hide (unhide D).o.size; refine stG (unhide D) rWide _ _ rfl rfl rfl rfl rfl rfl (cells8_one _) ?_; intro D'; have D := hide D'; clear D'))
  refine region_plan (S := Gen w _) (l := [0, 1, 2, 3, 4, 5, 6, 7]) (by kernel_rfl) (by kernel_rfl) (by kernel_rfl) (by kernel_rfl) (by kernel_rfl) (by kernel_rfl) (by kernel_rfl) (unhide D).drew ?_
  clear D
  refine plan_read (v := ?_) rfl rfl (fun u hS => by go_simp; rfl) ?_
  go_simp
  refine plan_read (v := ?_) rfl rfl (fun u hS => by go_simp; rfl) ?_
  go_simp
  refine plan_read (v := .agg (cells8 r)) rfl rfl (fun u hS => exec_loadG hS rWide _ rfl rfl (by repeat (first | exact List.mem_cons_self | apply List.mem_cons_of_mem)) rfl) ?_
  go_simp
  refine plan_read (v := .agg (cells8 r)) rfl rfl (fun u hS => exec_loadG hS rWide _ rfl rfl (by repeat (first | exact List.mem_cons_self | apply List.mem_cons_of_mem)) rfl) ?_
  go_simp
  refine plan_call (v := .agg (cells8 k)) (f := 61) (args := #[.agg (cells8 r), .agg (cells8 r)]) rfl rfl (fun u hS => by go_simp) (fun u hS => (unhide hT u).mono fun _ _ ⟨he, hb⟩ => ⟨he, hS.keep hb⟩) ?_
  go_simp
  refine plan_read (v := .agg (cells8 n)) rfl rfl (fun u hS => exec_loadG hS rWide _ rfl rfl (by repeat (first | exact List.mem_cons_self | apply List.mem_cons_of_mem)) rfl) ?_
  go_simp
  refine plan_read (v := .bool (!true)) rfl rfl (fun u hS => exec_neq_wide_is (unhide hX) _ _ _ rfl rfl rfl) ?_
  go_simp
  refine plan_read (v := ?_) rfl rfl (fun u hS => by go_simp; rfl) ?_
  go_simp
  refine plan_end (fun u hS => ?_)
  have D := hide hS
  clear hS
  go_wp2_with (first | (with_reducible refine at_list ?_; apply ldG (unhide D) rWide _ rfl rfl rfl (by repeat (first | exact List.mem_cons_self | apply List.mem_cons_of_mem)) rfl) | (go_at_call 64; with_reducible refine (unhide hW _).mono ?_; rintro e w' ⟨he, hb⟩; subst he; have D := hide ((unhide D).keep hb); clear hb))
  go_ret
  exact ⟨rfl, (unhide D).o⟩
set_option maxHeartbeats 2000000 in
theorem len3_up (ax ay az v : Int) (n r k o1 r1 : Nat) (E : Bool) (w : World) (hE : Hid (Ans 53 #[.agg (v3 ax ay az), .agg (v3 ax ay az)] (.agg (cells8 n)))) (hQ : Hid (Ans 60 #[.agg (cells8 n)] (.tuple #[.agg (cells8 r), .bool E]))) (hT : Hid (Ans 61 #[.agg (cells8 r), .agg (cells8 r)] (.agg (cells8 k)))) (hX : Hid (same k n = false)) (hO : Hid (Ans 63 #[.int .i64 1] (.agg (cells8 o1)))) (hP : Hid (Ans 62 #[.agg (cells8 r), .agg (cells8 o1)] (.agg (cells8 r1)))) (hW : Hid (Ans 64 #[.agg (cells8 r1)] (.int .i64 v))) :
    Calls Tryz.prog 23 #[.agg (v3 ax ay az), .bool true] w fun e w' => e = .returned (.int .i64 v) ∧ Below w.heap.size w w' := by
  go_enter Tryz.func23, Tryz.ntmps23
  go_upto_region 1 with fail
  have D := hide ((Gen.start w).push 24 (v3 ax ay az))
  go_upto_region 3 with (first | (with_reducible refine at_list ?_; apply ldG (unhide D) rVec _ rfl rfl rfl (by repeat (first | exact List.mem_cons_self | apply List.mem_cons_of_mem)) rfl) | (with_reducible refine at_list ?_; apply ldG (unhide D) rWide _ rfl rfl rfl (by repeat (first | exact List.mem_cons_self | apply List.mem_cons_of_mem)) rfl) | (go_at_call 53; with_reducible refine (unhide hE _).mono ?_; rintro e w' ⟨he, hb⟩; subst he; have D := hide ((unhide D).keep hb); clear hb) | (go_at_call 60; with_reducible refine (unhide hQ _).mono ?_; rintro e w' ⟨he, hb⟩; subst he; have D := hide ((unhide D).keep hb); clear hb) | (with_reducible refine at_list ?_;  have hl := hide (fun p hp => Nat.ne_of_lt ((unhide D).at_ p hp).lt); have hw := hide (unhide D).o.size; refine stG (unhide D) rWide _ _ rfl rfl rfl rfl rfl rfl (cells8_one _) ?_; intro D'; have D := hide D'; clear D'))
  refine region_plan (S := Gen w _) (l := [0, 1, 2, 3, 4, 5, 6, 7]) (by kernel_rfl) (by kernel_rfl) (by kernel_rfl) (by kernel_rfl) (by kernel_rfl) (by kernel_rfl) (by kernel_rfl) (unhide D).drew ?_
  clear D
  refine plan_read (v := ?_) rfl rfl (fun u hS => by go_simp; rfl) ?_
  go_simp
  refine plan_read (v := ?_) rfl rfl (fun u hS => by go_simp; rfl) ?_
  go_simp
  refine plan_read (v := .agg (cells8 r)) rfl rfl (fun u hS => exec_loadG hS rWide _ rfl rfl (by repeat (first | exact List.mem_cons_self | apply List.mem_cons_of_mem)) rfl) ?_
  go_simp
  refine plan_read (v := .agg (cells8 r)) rfl rfl (fun u hS => exec_loadG hS rWide _ rfl rfl (by repeat (first | exact List.mem_cons_self | apply List.mem_cons_of_mem)) rfl) ?_
  go_simp
  refine plan_call (v := .agg (cells8 k)) (f := 61) (args := #[.agg (cells8 r), .agg (cells8 r)]) rfl rfl (fun u hS => by go_simp) (fun u hS => (unhide hT u).mono fun _ _ ⟨he, hb⟩ => ⟨he, hS.keep hb⟩) ?_
  go_simp
  refine plan_read (v := .agg (cells8 n)) rfl rfl (fun u hS => exec_loadG hS rWide _ rfl rfl (by repeat (first | exact List.mem_cons_self | apply List.mem_cons_of_mem)) rfl) ?_
  go_simp
  refine plan_read (v := .bool (!false)) rfl rfl (fun u hS => exec_neq_wide_is (unhide hX) _ _ _ rfl rfl rfl) ?_
  go_simp
  refine plan_read (v := ?_) rfl rfl (fun u hS => by go_simp; rfl) ?_
  go_simp
  refine plan_end (fun u hS => ?_)
  have D := hide hS
  clear hS
  go_upto_region 4 with fail
  refine region_last (S := Gen w _) (f := 3) (l := [0, 1, 2]) (by kernel_rfl) (by kernel_rfl) (by kernel_rfl) (by kernel_rfl) (by kernel_rfl) (by kernel_rfl) (by kernel_rfl) (by kernel_rfl) (by kernel_rfl) (by kernel_rfl) rfl rfl (unhide D).drew ?_
  clear D
  refine plan_read (v := .agg (cells8 r)) rfl rfl (fun u hS => exec_loadG hS rWide _ rfl rfl (by repeat (first | exact List.mem_cons_self | apply List.mem_cons_of_mem)) rfl) ?_
  go_simp
  refine plan_call (v := .agg (cells8 o1)) (f := 63) (args := #[.int .i64 1]) rfl rfl (fun u hS => by go_simp) (fun u hS => (unhide hO u).mono fun _ _ ⟨he, hb⟩ => ⟨he, hS.keep hb⟩) ?_
  go_simp
  refine plan_call (v := .agg (cells8 r1)) (f := 62) (args := #[.agg (cells8 r), .agg (cells8 o1)]) rfl rfl (fun u hS => by go_simp) (fun u hS => (unhide hP u).mono fun _ _ ⟨he, hb⟩ => ⟨he, hS.keep hb⟩) ?_
  go_simp
  refine plan_last (fun u hS => ?_)
  refine wp_store_row 56 (.tmp 6) (.tmp 26) rfl _ (cells8 r1) rfl rfl 56 (cells8 r) (hS.blk (by repeat (first | exact List.mem_cons_self | apply List.mem_cons_of_mem))) iWide rfl (cells8_one _) ?_
  have D := hide (hS.set (unhide hw) (unhide hl) (cells8 r1))
  clear hS
  generalize u.setRow _ (cells8 r1) = u1 at D ⊢
  go_wp2_with (first | (with_reducible refine at_list ?_; apply ldG (unhide D) rWide _ rfl rfl rfl (by repeat (first | exact List.mem_cons_self | apply List.mem_cons_of_mem)) rfl) | (go_at_call 64; with_reducible refine (unhide hW _).mono ?_; rintro e w' ⟨he, hb⟩; subst he; have D := hide ((unhide D).keep hb); clear hb))
  go_ret
  exact ⟨rfl, (unhide D).o⟩
section
variable {o : Oper} {a : Act} {w : World} (p q : Operand) {x y : Int} {k : IntKind} {ty ty' : TypeId} {b : Bool} {ops : Array Oper} {rest : List Oper} {Q : Exit → Act → World → Prop}
theorem exec_geqS (hb : decide (y ≤ x) = b) (ho : o.op = .binOp .geq ty p q ty') (hx : a.eval p = .int k x) (hy : a.eval q = .int k y) : (execOp a.eval o).run Tryz.prog w = .ok (.value (.bool b)) w := by
  subst hb
  unfold execOp
  simp only [ho, hx, hy]
  go_simp
theorem exec_leqS (hb : decide (x ≤ y) = b) (ho : o.op = .binOp .leq ty p q ty') (hx : a.eval p = .int k x) (hy : a.eval q = .int k y) : (execOp a.eval o).run Tryz.prog w = .ok (.value (.bool b)) w := by
  subst hb
  unfold execOp
  simp only [ho, hx, hy]
  go_simp
theorem exec_eqlS (hb : (x == y) = b) (ho : o.op = .binOp .eql ty p q ty') (hx : a.eval p = .int k x) (hy : a.eval q = .int k y) : (execOp a.eval o).run Tryz.prog w = .ok (.value (.bool b)) w := by
  subst hb
  unfold execOp
  simp only [ho, hx, hy]
  go_simp
theorem geqS (hb : decide (y ≤ x) = b) (ho : o.op = .binOp .geq ty p q ty') (hgd : o.guard = none) (hx : a.eval p = .int k x) (hy : a.eval q = .int k y)
    (h : wpList Tryz.prog ops Q rest (a.put o.dst (.bool b)) w) : wpList Tryz.prog ops Q (o :: rest) a w := wpList_value hgd (exec_geqS p q hb ho hx hy) h
theorem eqlS (hb : (x == y) = b) (ho : o.op = .binOp .eql ty p q ty') (hgd : o.guard = none) (hx : a.eval p = .int k x) (hy : a.eval q = .int k y)
    (h : wpList Tryz.prog ops Q rest (a.put o.dst (.bool b)) w) : wpList Tryz.prog ops Q (o :: rest) a w := wpList_value hgd (exec_eqlS p q hb ho hx hy) h
theorem eqlSw (hb : (x == y) = b) (ho : o.op = .binOp .eql ty p q ty') (hgd : Region.wanted o (yielded ops a.tmps) = true) (hx : a.eval p = .int k x) (hy : a.eval q = .int k y)
    (h : wpList Tryz.prog ops Q rest (a.put o.dst (.bool b)) w) : wpList Tryz.prog ops Q (o :: rest) a w := wpList_valuew hgd (exec_eqlS p q hb ho hx hy) h
end
set_option maxHeartbeats 2000000 in
theorem ratio_pos (x v : Int) (A P n S q m r : Nat) (E : Bool) (w : World) (hx : decide (0 ≤ x) = true) (hR : Hid (Ans 80 #[.int .i64 x] (.agg (cells8 A)))) (hT : Hid (Ans 61 #[.agg (cells8 A), .agg (cells8 A)] (.agg (cells8 P)))) (hL : Hid (Ans 124 #[.agg (cells8 P), .int .i64 64] (.agg (cells8 n))))
    (hD : Hid (Ans 125 #[.agg (cells8 n), .agg (cells8 S)] (.tuple #[.agg (cells8 q), .agg (cells8 m), .bool E]))) (hQ : Hid (Ans 60 #[.agg (cells8 q)] (.tuple #[.agg (cells8 r), .bool E]))) (hW : Hid (Ans 64 #[.agg (cells8 r)] (.int .i64 v))) :
    Calls Tryz.prog 69 #[.int .i64 x, .agg (cells8 S)] w fun e w' => e = .returned (.int .i64 v) ∧ Below w.heap.size w w' := by
  go_enter Tryz.func69, Tryz.ntmps69
  go_upto_region 1 with fail
  have D := hide ((Gen.start w).push 56 (cells8 S))
  go_upto_region 3 with (first | (go_at_call 80; with_reducible refine (unhide hR _).mono ?_; rintro e w' ⟨he, hb⟩; subst he; have D := hide ((unhide D).keep hb); clear hb) | (go_at_call 61; with_reducible refine (unhide hT _).mono ?_; rintro e w' ⟨he, hb⟩; subst he; have D := hide ((unhide D).keep hb); clear hb) | (go_at_call 124; with_reducible refine (unhide hL _).mono ?_; rintro e w' ⟨he, hb⟩; subst he; have D := hide ((unhide D).keep hb); clear hb) | (with_reducible refine at_list ?_; refine stG (unhide D) rWide _ _ rfl rfl rfl rfl rfl rfl (cells8_one _) ?_; intro D'; have D := hide D'; clear D') | (with_reducible refine at_list ?_;  refine geqS _ _ hx rfl rfl rfl rfl ?_))
  go_wp2_with (first | (with_reducible refine at_list ?_; apply ldG (unhide D) rWide _ rfl rfl rfl (by repeat (first | exact List.mem_cons_self | apply List.mem_cons_of_mem)) rfl) | (go_at_call 125; with_reducible refine (unhide hD _).mono ?_; rintro e w' ⟨he, hb⟩; subst he; have D := hide ((unhide D).keep hb); clear hb) | (with_reducible refine at_list ?_;  refine stOne (n := q) rfl _ _ rfl rfl rfl rfl ?_) | (with_reducible refine at_list ?_;  refine stTwoG (n := q) (m := m) (unhide D) rfl _ _ rfl rfl rfl rfl ?_; intro w1 D'; have D := D'; clear D') | (go_at_call 60; with_reducible refine (unhide hQ _).mono ?_; rintro e w' ⟨he, hb⟩; subst he; have D := hide ((unhide D).keep hb); clear hb) | (with_reducible refine at_list ?_; refine stG (unhide D) rWide _ _ rfl rfl rfl rfl rfl rfl (cells8_one _) ?_; intro D'; have D := hide D'; clear D') | (go_at_call 64; with_reducible refine (unhide hW _).mono ?_; rintro e w' ⟨he, hb⟩; subst he; have D := hide ((unhide D).keep hb); clear hb))
  go_ret
  exact ⟨rfl, (unhide D).o⟩
set_option maxHeartbeats 4000000 in
theorem ratio_whole (x v : Int) (A P n S q m r k j t : Nat) (E : Bool) (w : World) (hx : decide (0 ≤ x) = false) (hR : Hid (Ans 80 #[.int .i64 x] (.agg (cells8 A)))) (hT : Hid (Ans 61 #[.agg (cells8 A), .agg (cells8 A)] (.agg (cells8 P)))) (hL : Hid (Ans 124 #[.agg (cells8 P), .int .i64 64] (.agg (cells8 n))))
    (hD : Hid (Ans 125 #[.agg (cells8 n), .agg (cells8 S)] (.tuple #[.agg (cells8 q), .agg (cells8 m), .bool E]))) (hQ : Hid (Ans 60 #[.agg (cells8 q)] (.tuple #[.agg (cells8 r), .bool E]))) (hK : Hid (Ans 61 #[.agg (cells8 r), .agg (cells8 r)] (.agg (cells8 k)))) (hJ : Hid (Ans 61 #[.agg (cells8 k), .agg (cells8 S)] (.agg (cells8 j)))) (hX : Hid (same j n = true)) (hM : Hid (Ans 114 #[.agg z8, .agg (cells8 r)] (.agg (cells8 t)))) (hW : Hid (Ans 64 #[.agg (cells8 t)] (.int .i64 v))) :
    Calls Tryz.prog 69 #[.int .i64 x, .agg (cells8 S)] w fun e w' => e = .returned (.int .i64 v) ∧ Below w.heap.size w w' := by
  go_enter Tryz.func69, Tryz.ntmps69
  go_upto_region 1 with fail
  have D := hide ((Gen.start w).push 56 (cells8 S))
  go_upto_region 6 with (first | (go_at_call 80; with_reducible refine (unhide hR _).mono ?_; rintro e w' ⟨he, hb⟩; subst he; have D := hide ((unhide D).keep hb); clear hb) | (go_at_call 61; with_reducible refine (unhide hT _).mono ?_; rintro e w' ⟨he, hb⟩; subst he; have D := hide ((unhide D).keep hb); clear hb) | (go_at_call 124; with_reducible refine (unhide hL _).mono ?_; rintro e w' ⟨he, hb⟩; subst he; have D := hide ((unhide D).keep hb); clear hb) | (with_reducible refine at_list ?_; refine stG (unhide D) rWide _ _ rfl rfl rfl rfl rfl rfl (cells8_one _) ?_; intro D'; have D := hide D'; clear D') | (with_reducible refine at_list ?_;  refine geqS _ _ hx rfl rfl rfl rfl ?_))
  go_upto_region 7 with (first | (with_reducible refine at_list ?_; apply ldG (unhide D) rWide _ rfl rfl rfl (by repeat (first | exact List.mem_cons_self | apply List.mem_cons_of_mem)) rfl) | (go_at_call 125; with_reducible refine (unhide hD _).mono ?_; rintro e w' ⟨he, hb⟩; subst he; have D := hide ((unhide D).keep hb); clear hb) | (with_reducible refine at_list ?_;  refine stOne (n := q) rfl _ _ rfl rfl rfl rfl ?_) | (with_reducible refine at_list ?_;  refine stTwoG (n := q) (m := m) (unhide D) rfl _ _ rfl rfl rfl rfl ?_; intro w1 D'; have D := D'; clear D'))
  go_upto_region 8 with (first | (with_reducible refine at_list ?_; apply ldG (unhide D) rWide _ rfl rfl rfl (by repeat (first | exact List.mem_cons_self | apply List.mem_cons_of_mem)) rfl) | (go_at_call 60; with_reducible refine (unhide hQ _).mono ?_; rintro e w' ⟨he, hb⟩; subst he; have D := hide ((unhide D).keep hb); clear hb) | (with_reducible refine at_list ?_;  have hl := hide (fun p hp => Nat.ne_of_lt ((unhide D).at_ p hp).lt); have hw := hide (unhide D).o.size; refine stG (unhide D) rWide _ _ rfl rfl rfl rfl rfl rfl (cells8_one _) ?_; intro D'; have D := hide D'; clear D'))
  refine region_plan (S := Gen w _) (l := [0, 1, 2, 3, 4, 5, 6]) (by kernel_rfl) (by kernel_rfl) (by kernel_rfl) (by kernel_rfl) (by kernel_rfl) (by kernel_rfl) (by kernel_rfl) (unhide D).drew ?_
  clear D
  refine plan_read (v := .agg (cells8 r)) rfl rfl (fun u hS => exec_loadG hS rWide _ rfl rfl (by repeat (first | exact List.mem_cons_self | apply List.mem_cons_of_mem)) rfl) ?_
  go_simp
  refine plan_read (v := .agg (cells8 r)) rfl rfl (fun u hS => exec_loadG hS rWide _ rfl rfl (by repeat (first | exact List.mem_cons_self | apply List.mem_cons_of_mem)) rfl) ?_
  go_simp
  refine plan_call (v := .agg (cells8 k)) (f := 61) (args := #[.agg (cells8 r), .agg (cells8 r)]) rfl rfl (fun u hS => by go_simp) (fun u hS => (unhide hK u).mono fun _ _ ⟨he, hb⟩ => ⟨he, hS.keep hb⟩) ?_
  go_simp
  refine plan_read (v := .agg (cells8 S)) rfl rfl (fun u hS => exec_loadG hS rWide _ rfl rfl (by repeat (first | exact List.mem_cons_self | apply List.mem_cons_of_mem)) rfl) ?_
  go_simp
  refine plan_call (v := .agg (cells8 j)) (f := 61) (args := #[.agg (cells8 k), .agg (cells8 S)]) rfl rfl (fun u hS => by go_simp) (fun u hS => (unhide hJ u).mono fun _ _ ⟨he, hb⟩ => ⟨he, hS.keep hb⟩) ?_
  go_simp
  refine plan_read (v := .agg (cells8 n)) rfl rfl (fun u hS => exec_loadG hS rWide _ rfl rfl (by repeat (first | exact List.mem_cons_self | apply List.mem_cons_of_mem)) rfl) ?_
  go_simp
  refine plan_read (v := .bool (!true)) rfl rfl (fun u hS => exec_neq_wide_is (unhide hX) _ _ _ rfl rfl rfl) ?_
  go_simp
  refine plan_end (fun u hS => ?_)
  have D := hide hS
  clear hS
  go_wp2_with (first | (with_reducible refine at_list ?_; apply ldG (unhide D) rWide _ rfl rfl rfl (by repeat (first | exact List.mem_cons_self | apply List.mem_cons_of_mem)) rfl) | (go_at_call 114; with_reducible refine (unhide hM _).mono ?_; rintro e w' ⟨he, hb⟩; subst he; have D := hide ((unhide D).keep hb); clear hb) | (go_at_call 64; with_reducible refine (unhide hW _).mono ?_; rintro e w' ⟨he, hb⟩; subst he; have D := hide ((unhide D).keep hb); clear hb))
  go_ret
  exact ⟨rfl, (unhide D).o⟩
set_option maxHeartbeats 4000000 in
theorem ratio_up (x v : Int) (A P n S q m r k j t o1 r1 : Nat) (E : Bool) (w : World) (hx : decide (0 ≤ x) = false) (hR : Hid (Ans 80 #[.int .i64 x] (.agg (cells8 A)))) (hT : Hid (Ans 61 #[.agg (cells8 A), .agg (cells8 A)] (.agg (cells8 P)))) (hL : Hid (Ans 124 #[.agg (cells8 P), .int .i64 64] (.agg (cells8 n))))
    (hD : Hid (Ans 125 #[.agg (cells8 n), .agg (cells8 S)] (.tuple #[.agg (cells8 q), .agg (cells8 m), .bool E]))) (hQ : Hid (Ans 60 #[.agg (cells8 q)] (.tuple #[.agg (cells8 r), .bool E]))) (hK : Hid (Ans 61 #[.agg (cells8 r), .agg (cells8 r)] (.agg (cells8 k)))) (hJ : Hid (Ans 61 #[.agg (cells8 k), .agg (cells8 S)] (.agg (cells8 j)))) (hX : Hid (same j n = false)) (hO : Hid (Ans 63 #[.int .i64 1] (.agg (cells8 o1)))) (hP : Hid (Ans 62 #[.agg (cells8 r), .agg (cells8 o1)] (.agg (cells8 r1)))) (hM : Hid (Ans 114 #[.agg z8, .agg (cells8 r1)] (.agg (cells8 t)))) (hW : Hid (Ans 64 #[.agg (cells8 t)] (.int .i64 v))) :
    Calls Tryz.prog 69 #[.int .i64 x, .agg (cells8 S)] w fun e w' => e = .returned (.int .i64 v) ∧ Below w.heap.size w w' := by
  go_enter Tryz.func69, Tryz.ntmps69
  go_upto_region 1 with fail
  have D := hide ((Gen.start w).push 56 (cells8 S))
  go_upto_region 6 with (first | (go_at_call 80; with_reducible refine (unhide hR _).mono ?_; rintro e w' ⟨he, hb⟩; subst he; have D := hide ((unhide D).keep hb); clear hb) | (go_at_call 61; with_reducible refine (unhide hT _).mono ?_; rintro e w' ⟨he, hb⟩; subst he; have D := hide ((unhide D).keep hb); clear hb) | (go_at_call 124; with_reducible refine (unhide hL _).mono ?_; rintro e w' ⟨he, hb⟩; subst he; have D := hide ((unhide D).keep hb); clear hb) | (with_reducible refine at_list ?_; refine stG (unhide D) rWide _ _ rfl rfl rfl rfl rfl rfl (cells8_one _) ?_; intro D'; have D := hide D'; clear D') | (with_reducible refine at_list ?_;  refine geqS _ _ hx rfl rfl rfl rfl ?_))
  go_upto_region 7 with (first | (with_reducible refine at_list ?_; apply ldG (unhide D) rWide _ rfl rfl rfl (by repeat (first | exact List.mem_cons_self | apply List.mem_cons_of_mem)) rfl) | (go_at_call 125; with_reducible refine (unhide hD _).mono ?_; rintro e w' ⟨he, hb⟩; subst he; have D := hide ((unhide D).keep hb); clear hb) | (with_reducible refine at_list ?_;  refine stOne (n := q) rfl _ _ rfl rfl rfl rfl ?_) | (with_reducible refine at_list ?_;  refine stTwoG (n := q) (m := m) (unhide D) rfl _ _ rfl rfl rfl rfl ?_; intro w1 D'; have D := D'; clear D'))
  go_upto_region 8 with (first | (with_reducible refine at_list ?_; apply ldG (unhide D) rWide _ rfl rfl rfl (by repeat (first | exact List.mem_cons_self | apply List.mem_cons_of_mem)) rfl) | (go_at_call 60; with_reducible refine (unhide hQ _).mono ?_; rintro e w' ⟨he, hb⟩; subst he; have D := hide ((unhide D).keep hb); clear hb) | (with_reducible refine at_list ?_;  have hl := hide (fun p hp => Nat.ne_of_lt ((unhide D).at_ p hp).lt); have hw := hide (unhide D).o.size; refine stG (unhide D) rWide _ _ rfl rfl rfl rfl rfl rfl (cells8_one _) ?_; intro D'; have D := hide D'; clear D'))
  refine region_plan (S := Gen w _) (l := [0, 1, 2, 3, 4, 5, 6]) (by kernel_rfl) (by kernel_rfl) (by kernel_rfl) (by kernel_rfl) (by kernel_rfl) (by kernel_rfl) (by kernel_rfl) (unhide D).drew ?_
  clear D
  refine plan_read (v := .agg (cells8 r)) rfl rfl (fun u hS => exec_loadG hS rWide _ rfl rfl (by repeat (first | exact List.mem_cons_self | apply List.mem_cons_of_mem)) rfl) ?_
  go_simp
  refine plan_read (v := .agg (cells8 r)) rfl rfl (fun u hS => exec_loadG hS rWide _ rfl rfl (by repeat (first | exact List.mem_cons_self | apply List.mem_cons_of_mem)) rfl) ?_
  go_simp
  refine plan_call (v := .agg (cells8 k)) (f := 61) (args := #[.agg (cells8 r), .agg (cells8 r)]) rfl rfl (fun u hS => by go_simp) (fun u hS => (unhide hK u).mono fun _ _ ⟨he, hb⟩ => ⟨he, hS.keep hb⟩) ?_
  go_simp
  refine plan_read (v := .agg (cells8 S)) rfl rfl (fun u hS => exec_loadG hS rWide _ rfl rfl (by repeat (first | exact List.mem_cons_self | apply List.mem_cons_of_mem)) rfl) ?_
  go_simp
  refine plan_call (v := .agg (cells8 j)) (f := 61) (args := #[.agg (cells8 k), .agg (cells8 S)]) rfl rfl (fun u hS => by go_simp) (fun u hS => (unhide hJ u).mono fun _ _ ⟨he, hb⟩ => ⟨he, hS.keep hb⟩) ?_
  go_simp
  refine plan_read (v := .agg (cells8 n)) rfl rfl (fun u hS => exec_loadG hS rWide _ rfl rfl (by repeat (first | exact List.mem_cons_self | apply List.mem_cons_of_mem)) rfl) ?_
  go_simp
  refine plan_read (v := .bool (!false)) rfl rfl (fun u hS => exec_neq_wide_is (unhide hX) _ _ _ rfl rfl rfl) ?_
  go_simp
  refine plan_end (fun u hS => ?_)
  have D := hide hS
  clear hS
  go_upto_region 9 with fail
  refine region_last (S := Gen w _) (f := 3) (l := [0, 1, 2]) (by kernel_rfl) (by kernel_rfl) (by kernel_rfl) (by kernel_rfl) (by kernel_rfl) (by kernel_rfl) (by kernel_rfl) (by kernel_rfl) (by kernel_rfl) (by kernel_rfl) rfl rfl (unhide D).drew ?_
  clear D
  refine plan_read (v := .agg (cells8 r)) rfl rfl (fun u hS => exec_loadG hS rWide _ rfl rfl (by repeat (first | exact List.mem_cons_self | apply List.mem_cons_of_mem)) rfl) ?_
  go_simp
  refine plan_call (v := .agg (cells8 o1)) (f := 63) (args := #[.int .i64 1]) rfl rfl (fun u hS => by go_simp) (fun u hS => (unhide hO u).mono fun _ _ ⟨he, hb⟩ => ⟨he, hS.keep hb⟩) ?_
  go_simp
  refine plan_call (v := .agg (cells8 r1)) (f := 62) (args := #[.agg (cells8 r), .agg (cells8 o1)]) rfl rfl (fun u hS => by go_simp) (fun u hS => (unhide hP u).mono fun _ _ ⟨he, hb⟩ => ⟨he, hS.keep hb⟩) ?_
  go_simp
  refine plan_last (fun u hS => ?_)
  refine wp_store_row 56 (.tmp 14) (.tmp 59) rfl _ (cells8 r1) rfl rfl 56 (cells8 r) (hS.blk (by repeat (first | exact List.mem_cons_self | apply List.mem_cons_of_mem))) iWide rfl (cells8_one _) ?_
  have D := hide (hS.set (unhide hw) (unhide hl) (cells8 r1))
  clear hS
  generalize u.setRow _ (cells8 r1) = u1 at D ⊢
  go_wp2_with (first | (with_reducible refine at_list ?_; apply ldG (unhide D) rWide _ rfl rfl rfl (by repeat (first | exact List.mem_cons_self | apply List.mem_cons_of_mem)) rfl) | (go_at_call 114; with_reducible refine (unhide hM _).mono ?_; rintro e w' ⟨he, hb⟩; subst he; have D := hide ((unhide D).keep hb); clear hb) | (go_at_call 64; with_reducible refine (unhide hW _).mono ?_; rintro e w' ⟨he, hb⟩; subst he; have D := hide ((unhide D).keep hb); clear hb))
  go_ret
  exact ⟨rfl, (unhide D).o⟩
theorem square3r_core (a b : Int) (A B C P : Nat) (w : World) (h1 : Hid (Ans 80 #[.int .i64 a] (.agg (cells8 A)))) (h2 : Hid (Ans 80 #[.int .i64 b] (.agg (cells8 B)))) (hL : Hid (Ans 114 #[.agg (cells8 A), .agg (cells8 B)] (.agg (cells8 C)))) (hT : Hid (Ans 61 #[.agg (cells8 C), .agg (cells8 C)] (.agg (cells8 P)))) :
    Calls Tryz.prog 78 #[.int .i64 a, .int .i64 b] w fun e w' => e = .returned (.agg (cells8 P)) ∧ Below w.heap.size w w' := by
  go_enter Tryz.func78, Tryz.ntmps78
  go_upto_region 1 with fail
  have D := hide ((Gen.start w).push 56 z8)
  go_wp2_with (first | (with_reducible refine at_list ?_; apply ldG (unhide D) rWide _ rfl rfl rfl (by repeat (first | exact List.mem_cons_self | apply List.mem_cons_of_mem)) rfl) | (go_at_call 80; with_reducible refine (unhide h1 _).mono ?_; rintro e w' ⟨he, hb⟩; subst he; have D := hide ((unhide D).keep hb); clear hb) | (go_at_call 80; with_reducible refine (unhide h2 _).mono ?_; rintro e w' ⟨he, hb⟩; subst he; have D := hide ((unhide D).keep hb); clear hb) | (go_at_call 114; with_reducible refine (unhide hL _).mono ?_; rintro e w' ⟨he, hb⟩; subst he; have D := hide ((unhide D).keep hb); clear hb) | (go_at_call 61; with_reducible refine (unhide hT _).mono ?_; rintro e w' ⟨he, hb⟩; subst he; have D := hide ((unhide D).keep hb); clear hb) | (with_reducible refine at_list ?_; refine stG (unhide D) rWide _ _ rfl rfl rfl rfl rfl rfl (cells8_one _) ?_; intro D'; have D := hide D'; clear D') | (with_reducible refine at_list ?_; apply stGend (unhide D) rWide _ _ rfl rfl rfl rfl (by repeat (first | exact List.mem_cons_self | apply List.mem_cons_of_mem)) (by omega) rfl rfl (cells8_one _); intro B O))
  exact resG rWide (unhide B) rfl rfl rfl rfl ⟨rfl, unhide O⟩
theorem SquareR (a b : Int) (h1 : I64 a) (h2 : I64 b) : Ans 78 #[.int .i64 a, .int .i64 b] (V ((a - b) * (a - b))) := fun w =>
  have t := h1.sz.sub h2.sz
  square3r_core a b _ _ _ _ w (Raw3 a h1) (Raw3 b h2) (Less3 h1.sz h2.sz (by decide)) (Times3 t t (by decide))
set_option maxHeartbeats 4000000 in
theorem near3_neg (ax ay az bx b_y bz_ r : Int) (X Y Z T S : Nat) (w : World) (q0 : Hid (Ans 78 #[.int .i64 ax, .int .i64 bx] (.agg (cells8 X)))) (q1 : Hid (Ans 78 #[.int .i64 ay, .int .i64 b_y] (.agg (cells8 Y)))) (q2 : Hid (Ans 78 #[.int .i64 az, .int .i64 bz_] (.agg (cells8 Z)))) (p0 : Hid (Ans 62 #[.agg (cells8 X), .agg (cells8 Y)] (.agg (cells8 T)))) (p1 : Hid (Ans 62 #[.agg (cells8 T), .agg (cells8 Z)] (.agg (cells8 S)))) (hr : decide (0 ≤ r) = false) :
    Calls Tryz.prog 28 #[.agg (v3 ax ay az), .agg (v3 bx b_y bz_), .int .i64 r] w fun e w' => e = .returned (.bool false) ∧ Below w.heap.size w w' := by
  go_enter Tryz.func28, Tryz.ntmps28
  go_upto_region 1 with fail
  have D := hide (((Gen.start w).push 24 (v3 ax ay az)).push 24 (v3 bx b_y bz_))
  simp only [szA] at D
  generalize hw1 : ((w.alloc (.cells (v3 ax ay az) 24)).alloc (.cells (v3 bx b_y bz_) 24)) = w1 at D ⊢
  have D1 : Hid (GenZ w _ w1.heap.size w1.drew) := ⟨(unhide D).drew, Nat.le_refl _⟩
  have hlt := hide (fun (p : Nat × TypeId × Array Value) hp => ((unhide D).at_ p hp).lt)
  have hw0 := hide (unhide D).o.size
  clear D hw1
  generalize w1.heap.size = C at D1 hlt hw0
  refine region_allocs (S := GenZ w _ C) (t := 56) (z := z8) (base := C) (l := [0, 1, 2, 3, 4, 5, 6, 7, 8, 9, 10, 11, 12, 13, 14, 15, 16]) (A := [17]) (T := [18]) (by kernel_rfl) (by kernel_rfl) (by kernel_rfl) (by kernel_rfl) (by kernel_rfl) (by kernel_rfl) (by kernel_rfl) (by kernel_rfl) (by kernel_rfl) (by kernel_rfl) ?_ (fun _ _ h hb => h.keep hb) (fun _ h => h.s) (unhide D1) ?_
  · intro i hi
    simp at hi
    subst hi
    exact ⟨_, rfl, rfl, fun a w => by go_simp⟩
  clear D1
  refine planB_read (v := ?_) rfl rfl (fun u hS => by go_simp; rfl) ?_
  go_simp
  refine planB_read (v := .int .i64 ax) rfl rfl (fun u hS => exec_loadFG hS.e _ rfl rfl (by repeat (first | exact List.mem_cons_self | apply List.mem_cons_of_mem)) rfl) ?_
  go_simp
  refine planB_read (v := ?_) rfl rfl (fun u hS => by go_simp; rfl) ?_
  go_simp
  refine planB_read (v := .int .i64 bx) rfl rfl (fun u hS => exec_loadFG hS.e _ rfl rfl (by repeat (first | exact List.mem_cons_self | apply List.mem_cons_of_mem)) rfl) ?_
  go_simp
  refine planB_call (v := .agg (cells8 X)) (f := 78) (args := #[.int .i64 ax, .int .i64 bx]) rfl rfl (fun u hS => by go_simp) (fun u hS => (unhide q0 u).mono fun _ _ ⟨he, hb⟩ => ⟨he, hS.keep hb, hb⟩) ?_
  go_simp
  refine planB_read (v := ?_) rfl rfl (fun u hS => by go_simp; rfl) ?_
  go_simp
  refine planB_read (v := .int .i64 ay) rfl rfl (fun u hS => exec_loadFG hS.e _ rfl rfl (by repeat (first | exact List.mem_cons_self | apply List.mem_cons_of_mem)) rfl) ?_
  go_simp
  refine planB_read (v := ?_) rfl rfl (fun u hS => by go_simp; rfl) ?_
  go_simp
  refine planB_read (v := .int .i64 b_y) rfl rfl (fun u hS => exec_loadFG hS.e _ rfl rfl (by repeat (first | exact List.mem_cons_self | apply List.mem_cons_of_mem)) rfl) ?_
  go_simp
  refine planB_call (v := .agg (cells8 Y)) (f := 78) (args := #[.int .i64 ay, .int .i64 b_y]) rfl rfl (fun u hS => by go_simp) (fun u hS => (unhide q1 u).mono fun _ _ ⟨he, hb⟩ => ⟨he, hS.keep hb, hb⟩) ?_
  go_simp
  refine planB_call (v := .agg (cells8 T)) (f := 62) (args := #[.agg (cells8 X), .agg (cells8 Y)]) rfl rfl (fun u hS => by go_simp) (fun u hS => (unhide p0 u).mono fun _ _ ⟨he, hb⟩ => ⟨he, hS.keep hb, hb⟩) ?_
  go_simp
  refine planB_read (v := ?_) rfl rfl (fun u hS => by go_simp; rfl) ?_
  go_simp
  refine planB_read (v := .int .i64 az) rfl rfl (fun u hS => exec_loadFG hS.e _ rfl rfl (by repeat (first | exact List.mem_cons_self | apply List.mem_cons_of_mem)) rfl) ?_
  go_simp
  refine planB_read (v := ?_) rfl rfl (fun u hS => by go_simp; rfl) ?_
  go_simp
  refine planB_read (v := .int .i64 bz_) rfl rfl (fun u hS => exec_loadFG hS.e _ rfl rfl (by repeat (first | exact List.mem_cons_self | apply List.mem_cons_of_mem)) rfl) ?_
  go_simp
  refine planB_call (v := .agg (cells8 Z)) (f := 78) (args := #[.int .i64 az, .int .i64 bz_]) rfl rfl (fun u hS => by go_simp) (fun u hS => (unhide q2 u).mono fun _ _ ⟨he, hb⟩ => ⟨he, hS.keep hb, hb⟩) ?_
  go_simp
  refine planB_call (v := .agg (cells8 S)) (f := 62) (args := #[.agg (cells8 T), .agg (cells8 Z)]) rfl rfl (fun u hS => by go_simp) (fun u hS => (unhide p1 u).mono fun _ _ ⟨he, hb⟩ => ⟨he, hS.keep hb, hb⟩) ?_
  go_simp
  refine planB_tail (fun cc u hS hB hI => ?_)
  have h7 := hB 17 (by simp)
  simp only [pa, dstOf, opsOf]
  generalize cc 17 = c7 at h7 ⊢
  have D := hide (hS.e.fillZ (cs := cells8 S) (unhide hlt) (unhide hw0) h7.1 h7.2)
  have H7 := hide h7.1
  clear hS hB hI h7 hlt hw0
  refine wpList_store_row rfl 56 (.tmp 7) (.tmp 24) rfl _ (cells8 S) rfl rfl 56 _ (unhide H7) iWide rfl (cells8_one _) ?_
  generalize u.setRow c7 (cells8 S) = u1 at D ⊢
  clear H7
  go_simp
  go_upto_region 2 with fail
  refine region_plan (S := Gen w _) (l := [0, 1, 2, 3, 4, 5, 6, 7, 8, 9, 10, 11, 12]) (by kernel_rfl) (by kernel_rfl) (by kernel_rfl) (by kernel_rfl) (by kernel_rfl) (by kernel_rfl) (by kernel_rfl) (unhide D).drew ?_
  clear D
  refine plan_read (v := ?_) rfl rfl (fun u hS => by go_simp; rfl) ?_
  go_simp
  refine plan_read (v := .bool false) rfl rfl (fun u hS => exec_geqS _ _ hr rfl rfl rfl) ?_
  go_simp
  refine plan_read (v := ?_) rfl rfl (fun u hS => by go_simp; rfl) ?_
  go_simp
  refine plan_skip rfl rfl ?_
  go_simp
  refine plan_skip rfl rfl ?_
  go_simp
  refine plan_skip rfl rfl ?_
  go_simp
  refine plan_skip rfl rfl ?_
  go_simp
  refine plan_skip rfl rfl ?_
  go_simp
  refine plan_skip rfl rfl ?_
  go_simp
  refine plan_skip rfl rfl ?_
  go_simp
  refine plan_skip rfl rfl ?_
  go_simp
  refine plan_read (v := ?_) rfl rfl (fun u hS => by go_simp; rfl) ?_
  go_simp
  refine plan_read (v := ?_) rfl rfl (fun u hS => by go_simp; rfl) ?_
  go_simp
  refine plan_end (fun u hS => ?_)
  have O := hide hS.o
  clear hS
  go_wp2
  go_ret
  exact ⟨rfl, unhide O⟩
set_option maxHeartbeats 4000000 in
theorem near3_core (ax ay az bx b_y bz_ r c : Int) (X Y Z T S R P : Nat) (w : World) (q0 : Hid (Ans 78 #[.int .i64 ax, .int .i64 bx] (.agg (cells8 X)))) (q1 : Hid (Ans 78 #[.int .i64 ay, .int .i64 b_y] (.agg (cells8 Y)))) (q2 : Hid (Ans 78 #[.int .i64 az, .int .i64 bz_] (.agg (cells8 Z)))) (p0 : Hid (Ans 62 #[.agg (cells8 X), .agg (cells8 Y)] (.agg (cells8 T)))) (p1 : Hid (Ans 62 #[.agg (cells8 T), .agg (cells8 Z)] (.agg (cells8 S)))) (b : Bool) (hr : decide (0 ≤ r) = true) (hb : decide (c ≤ 0) = b) (hR : Hid (Ans 80 #[.int .i64 r] (.agg (cells8 R)))) (hP : Hid (Ans 61 #[.agg (cells8 R), .agg (cells8 R)] (.agg (cells8 P)))) (hC : Hid (Ans 79 #[.agg (cells8 S), .agg (cells8 P)] (.int .i64 c))) :
    Calls Tryz.prog 28 #[.agg (v3 ax ay az), .agg (v3 bx b_y bz_), .int .i64 r] w fun e w' => e = .returned (.bool b) ∧ Below w.heap.size w w' := by
  go_enter Tryz.func28, Tryz.ntmps28
  go_upto_region 1 with fail
  have D := hide (((Gen.start w).push 24 (v3 ax ay az)).push 24 (v3 bx b_y bz_))
  simp only [szA] at D
  generalize hw1 : ((w.alloc (.cells (v3 ax ay az) 24)).alloc (.cells (v3 bx b_y bz_) 24)) = w1 at D ⊢
  have D1 : Hid (GenZ w _ w1.heap.size w1.drew) := ⟨(unhide D).drew, Nat.le_refl _⟩
  have hlt := hide (fun (p : Nat × TypeId × Array Value) hp => ((unhide D).at_ p hp).lt)
  have hw0 := hide (unhide D).o.size
  clear D hw1
  generalize w1.heap.size = C at D1 hlt hw0
  refine region_allocs (S := GenZ w _ C) (t := 56) (z := z8) (base := C) (l := [0, 1, 2, 3, 4, 5, 6, 7, 8, 9, 10, 11, 12, 13, 14, 15, 16]) (A := [17]) (T := [18]) (by kernel_rfl) (by kernel_rfl) (by kernel_rfl) (by kernel_rfl) (by kernel_rfl) (by kernel_rfl) (by kernel_rfl) (by kernel_rfl) (by kernel_rfl) (by kernel_rfl) ?_ (fun _ _ h hb => h.keep hb) (fun _ h => h.s) (unhide D1) ?_
  · intro i hi
    simp at hi
    subst hi
    exact ⟨_, rfl, rfl, fun a w => by go_simp⟩
  clear D1
  refine planB_read (v := ?_) rfl rfl (fun u hS => by go_simp; rfl) ?_
  go_simp
  refine planB_read (v := .int .i64 ax) rfl rfl (fun u hS => exec_loadFG hS.e _ rfl rfl (by repeat (first | exact List.mem_cons_self | apply List.mem_cons_of_mem)) rfl) ?_
  go_simp
  refine planB_read (v := ?_) rfl rfl (fun u hS => by go_simp; rfl) ?_
  go_simp
  refine planB_read (v := .int .i64 bx) rfl rfl (fun u hS => exec_loadFG hS.e _ rfl rfl (by repeat (first | exact List.mem_cons_self | apply List.mem_cons_of_mem)) rfl) ?_
  go_simp
  refine planB_call (v := .agg (cells8 X)) (f := 78) (args := #[.int .i64 ax, .int .i64 bx]) rfl rfl (fun u hS => by go_simp) (fun u hS => (unhide q0 u).mono fun _ _ ⟨he, hb⟩ => ⟨he, hS.keep hb, hb⟩) ?_
  go_simp
  refine planB_read (v := ?_) rfl rfl (fun u hS => by go_simp; rfl) ?_
  go_simp
  refine planB_read (v := .int .i64 ay) rfl rfl (fun u hS => exec_loadFG hS.e _ rfl rfl (by repeat (first | exact List.mem_cons_self | apply List.mem_cons_of_mem)) rfl) ?_
  go_simp
  refine planB_read (v := ?_) rfl rfl (fun u hS => by go_simp; rfl) ?_
  go_simp
  refine planB_read (v := .int .i64 b_y) rfl rfl (fun u hS => exec_loadFG hS.e _ rfl rfl (by repeat (first | exact List.mem_cons_self | apply List.mem_cons_of_mem)) rfl) ?_
  go_simp
  refine planB_call (v := .agg (cells8 Y)) (f := 78) (args := #[.int .i64 ay, .int .i64 b_y]) rfl rfl (fun u hS => by go_simp) (fun u hS => (unhide q1 u).mono fun _ _ ⟨he, hb⟩ => ⟨he, hS.keep hb, hb⟩) ?_
  go_simp
  refine planB_call (v := .agg (cells8 T)) (f := 62) (args := #[.agg (cells8 X), .agg (cells8 Y)]) rfl rfl (fun u hS => by go_simp) (fun u hS => (unhide p0 u).mono fun _ _ ⟨he, hb⟩ => ⟨he, hS.keep hb, hb⟩) ?_
  go_simp
  refine planB_read (v := ?_) rfl rfl (fun u hS => by go_simp; rfl) ?_
  go_simp
  refine planB_read (v := .int .i64 az) rfl rfl (fun u hS => exec_loadFG hS.e _ rfl rfl (by repeat (first | exact List.mem_cons_self | apply List.mem_cons_of_mem)) rfl) ?_
  go_simp
  refine planB_read (v := ?_) rfl rfl (fun u hS => by go_simp; rfl) ?_
  go_simp
  refine planB_read (v := .int .i64 bz_) rfl rfl (fun u hS => exec_loadFG hS.e _ rfl rfl (by repeat (first | exact List.mem_cons_self | apply List.mem_cons_of_mem)) rfl) ?_
  go_simp
  refine planB_call (v := .agg (cells8 Z)) (f := 78) (args := #[.int .i64 az, .int .i64 bz_]) rfl rfl (fun u hS => by go_simp) (fun u hS => (unhide q2 u).mono fun _ _ ⟨he, hb⟩ => ⟨he, hS.keep hb, hb⟩) ?_
  go_simp
  refine planB_call (v := .agg (cells8 S)) (f := 62) (args := #[.agg (cells8 T), .agg (cells8 Z)]) rfl rfl (fun u hS => by go_simp) (fun u hS => (unhide p1 u).mono fun _ _ ⟨he, hb⟩ => ⟨he, hS.keep hb, hb⟩) ?_
  go_simp
  refine planB_tail (fun cc u hS hB hI => ?_)
  have h7 := hB 17 (by simp)
  simp only [pa, dstOf, opsOf]
  generalize cc 17 = c7 at h7 ⊢
  have D := hide (hS.e.fillZ (cs := cells8 S) (unhide hlt) (unhide hw0) h7.1 h7.2)
  have H7 := hide h7.1
  clear hS hB hI h7 hlt hw0
  refine wpList_store_row rfl 56 (.tmp 7) (.tmp 24) rfl _ (cells8 S) rfl rfl 56 _ (unhide H7) iWide rfl (cells8_one _) ?_
  generalize u.setRow c7 (cells8 S) = u1 at D ⊢
  clear H7
  go_simp
  go_upto_region 2 with fail
  refine region_plan (S := Gen w _) (l := [0, 1, 2, 3, 4, 5, 6, 7, 8, 9, 10, 11, 12]) (by kernel_rfl) (by kernel_rfl) (by kernel_rfl) (by kernel_rfl) (by kernel_rfl) (by kernel_rfl) (by kernel_rfl) (unhide D).drew ?_
  clear D
  refine plan_read (v := ?_) rfl rfl (fun u hS => by go_simp; rfl) ?_
  go_simp
  refine plan_read (v := .bool true) rfl rfl (fun u hS => exec_geqS _ _ hr rfl rfl rfl) ?_
  go_simp
  refine plan_read (v := ?_) rfl rfl (fun u hS => by go_simp; rfl) ?_
  go_simp
  refine plan_read (v := .agg (cells8 S)) rfl rfl (fun u hS => exec_loadG hS rWide _ rfl rfl (by repeat (first | exact List.mem_cons_self | apply List.mem_cons_of_mem)) rfl) ?_
  go_simp
  refine plan_read (v := ?_) rfl rfl (fun u hS => by go_simp; rfl) ?_
  go_simp
  refine plan_call (v := .agg (cells8 R)) (f := 80) (args := #[.int .i64 r]) rfl rfl (fun u hS => by go_simp) (fun u hS => (unhide hR u).mono fun _ _ ⟨he, hb⟩ => ⟨he, hS.keep hb⟩) ?_
  go_simp
  refine plan_read (v := ?_) rfl rfl (fun u hS => by go_simp; rfl) ?_
  go_simp
  refine plan_call (v := .agg (cells8 R)) (f := 80) (args := #[.int .i64 r]) rfl rfl (fun u hS => by go_simp) (fun u hS => (unhide hR u).mono fun _ _ ⟨he, hb⟩ => ⟨he, hS.keep hb⟩) ?_
  go_simp
  refine plan_call (v := .agg (cells8 P)) (f := 61) (args := #[.agg (cells8 R), .agg (cells8 R)]) rfl rfl (fun u hS => by go_simp) (fun u hS => (unhide hP u).mono fun _ _ ⟨he, hb⟩ => ⟨he, hS.keep hb⟩) ?_
  go_simp
  refine plan_call (v := .int .i64 c) (f := 79) (args := #[.agg (cells8 S), .agg (cells8 P)]) rfl rfl (fun u hS => by go_simp) (fun u hS => (unhide hC u).mono fun _ _ ⟨he, hb⟩ => ⟨he, hS.keep hb⟩) ?_
  go_simp
  refine plan_read (v := .bool b) rfl rfl (fun u hS => exec_leqS _ _ hb rfl rfl rfl) ?_
  go_simp
  refine plan_read (v := ?_) rfl rfl (fun u hS => by go_simp; rfl) ?_
  go_simp
  refine plan_read (v := ?_) rfl rfl (fun u hS => by go_simp; rfl) ?_
  go_simp
  refine plan_end (fun u hS => ?_)
  have O := hide hS.o
  clear hS
  go_wp2
  go_ret
  exact ⟨rfl, unhide O⟩

end Go.Proofs.YtljggjnaolbapaaGreat
