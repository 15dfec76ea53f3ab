/- The document's numbers of layer 3: Unit; over integers: Len, Unit, Near. -/
import Derived.Test.YtljggjnaolbapaaGreatSb
namespace Go.Proofs.YtljggjnaolbapaaGreat
open Go.RowKit
set_option maxRecDepth 4000
set_option linter.unusedVariables false

theorem unit3_none (w : World) (h0 : ((0 : Int) == 0) = true) : Calls Tryz.prog 26 #[.agg (v3 0 0 0)] w fun e w' => e = .returned (.tuple #[.agg (v3 0 0 0), .bool false]) ∧ Below w.heap.size w w' := by
  go_enter Tryz.func26, Tryz.ntmps26
  go_upto_region 1 with fail
  have D := hide (((Gen.start w).push 24 (v3 0 0 0)).push 24 (v3 0 0 0))
  simp only [szA] at D
  go_wp2_with (first | (with_reducible refine at_list ?_; apply ldF (unhide D) _ rfl rfl rfl (by repeat (first | exact List.mem_cons_self | apply List.mem_cons_of_mem)) rfl) | (with_reducible refine at_list ?_; apply ldFw (unhide D) _ rfl rfl rfl (by repeat (first | exact List.mem_cons_self | apply List.mem_cons_of_mem)) rfl) | (with_reducible refine at_list ?_;  refine eqlS _ _ h0 rfl rfl rfl rfl ?_) | (with_reducible refine at_list ?_;  refine eqlSw _ _ h0 rfl rfl rfl rfl ?_) | (with_reducible refine at_list ?_; apply stGend (unhide D) rVec _ _ rfl rfl rfl rfl (by repeat (first | exact List.mem_cons_self | apply List.mem_cons_of_mem)) (by omega) rfl rfl (v3_one _ _ _); intro B O))
  exact resGT rVec (unhide B) rfl rfl rfl rfl rfl ⟨rfl, unhide O⟩
set_option maxHeartbeats 4000000 in
theorem unit3_F (ax ay az x y z : Int) (S : Nat) (w : World) (f0 : (ax == 0) = false) (hE : Hid (Ans 53 #[.agg (v3 ax ay az), .agg (v3 ax ay az)] (.agg (cells8 S)))) (r0 : Hid (Ans 69 #[.int .i64 ax, .agg (cells8 S)] (.int .i64 x))) (r1 : Hid (Ans 69 #[.int .i64 ay, .agg (cells8 S)] (.int .i64 y))) (r2 : Hid (Ans 69 #[.int .i64 az, .agg (cells8 S)] (.int .i64 z))) :
    Calls Tryz.prog 26 #[.agg (v3 ax ay az)] w fun e w' => e = .returned (.tuple #[.agg (v3 x y z), .bool true]) ∧ Below w.heap.size w w' := by
  go_enter Tryz.func26, Tryz.ntmps26
  go_upto_region 1 with fail
  have D := hide (((Gen.start w).push 24 (v3 ax ay az)).push 24 (v3 0 0 0))
  simp only [szA] at D
  go_upto_region 3 with (first | (with_reducible refine at_list ?_; apply ldF (unhide D) _ rfl rfl rfl (by repeat (first | exact List.mem_cons_self | apply List.mem_cons_of_mem)) rfl) | (with_reducible refine at_list ?_; apply ldFw (unhide D) _ rfl rfl rfl (by repeat (first | exact List.mem_cons_self | apply List.mem_cons_of_mem)) rfl) | (with_reducible refine at_list ?_;  refine eqlS _ _ f0 rfl rfl rfl rfl ?_))
  go_upto_region 4 with (first | (with_reducible refine at_list ?_; apply ldG (unhide D) rVec _ rfl rfl rfl (by repeat (first | exact List.mem_cons_self | apply List.mem_cons_of_mem)) rfl) | (go_at_call 53; with_reducible refine (unhide hE _).mono ?_; rintro e w' ⟨he, hb⟩; subst he; have D := hide ((unhide D).keep hb); clear hb) | (with_reducible refine at_list ?_; refine stG (unhide D) rWide _ _ rfl rfl rfl rfl rfl rfl (cells8_one _) ?_; intro D'; have D := hide D'; clear D'))
  have D1 : Hid (GenZ w _ _ _) := ⟨(unhide D).drew, Nat.le_refl _⟩
  clear D
  refine region_allocs (S := GenZ w _ _) (t := 56) (z := z8) (base := _) (l := [0, 1, 2, 3, 4, 5, 6, 7, 8, 9, 10, 11, 12]) (A := []) (T := [13, 14]) (by kernel_rfl) (by kernel_rfl) (by kernel_rfl) (by kernel_rfl) (by kernel_rfl) (by kernel_rfl) (by kernel_rfl) (by kernel_rfl) (by kernel_rfl) (by kernel_rfl) (fun i hi => by cases hi) (fun _ _ h hb => h.keep hb) (fun _ h => h.s) (unhide D1) ?_
  clear D1
  refine planB_read (v := ?_) rfl rfl (fun u hS => by go_simp; rfl) ?_
  go_simp
  refine planB_read (v := .int .i64 ax) rfl rfl (fun u hS => exec_loadFG hS.e _ rfl rfl (by repeat (first | exact List.mem_cons_self | apply List.mem_cons_of_mem)) rfl) ?_
  go_simp
  refine planB_read (v := .agg (cells8 S)) rfl rfl (fun u hS => exec_loadG hS.e rWide _ rfl rfl (by repeat (first | exact List.mem_cons_self | apply List.mem_cons_of_mem)) rfl) ?_
  go_simp
  refine planB_call (v := .int .i64 x) (f := 69) (args := #[.int .i64 ax, .agg (cells8 S)]) rfl rfl (fun u hS => by go_simp) (fun u hS => (unhide r0 u).mono fun _ _ ⟨he, hb⟩ => ⟨he, hS.keep hb, hb⟩) ?_
  go_simp
  refine planB_read (v := ?_) rfl rfl (fun u hS => by go_simp; rfl) ?_
  go_simp
  refine planB_read (v := .int .i64 ay) rfl rfl (fun u hS => exec_loadFG hS.e _ rfl rfl (by repeat (first | exact List.mem_cons_self | apply List.mem_cons_of_mem)) rfl) ?_
  go_simp
  refine planB_read (v := .agg (cells8 S)) rfl rfl (fun u hS => exec_loadG hS.e rWide _ rfl rfl (by repeat (first | exact List.mem_cons_self | apply List.mem_cons_of_mem)) rfl) ?_
  go_simp
  refine planB_call (v := .int .i64 y) (f := 69) (args := #[.int .i64 ay, .agg (cells8 S)]) rfl rfl (fun u hS => by go_simp) (fun u hS => (unhide r1 u).mono fun _ _ ⟨he, hb⟩ => ⟨he, hS.keep hb, hb⟩) ?_
  go_simp
  refine planB_read (v := ?_) rfl rfl (fun u hS => by go_simp; rfl) ?_
  go_simp
  refine planB_read (v := .int .i64 az) rfl rfl (fun u hS => exec_loadFG hS.e _ rfl rfl (by repeat (first | exact List.mem_cons_self | apply List.mem_cons_of_mem)) rfl) ?_
  go_simp
  refine planB_read (v := .agg (cells8 S)) rfl rfl (fun u hS => exec_loadG hS.e rWide _ rfl rfl (by repeat (first | exact List.mem_cons_self | apply List.mem_cons_of_mem)) rfl) ?_
  go_simp
  refine planB_call (v := .int .i64 z) (f := 69) (args := #[.int .i64 az, .agg (cells8 S)]) rfl rfl (fun u hS => by go_simp) (fun u hS => (unhide r2 u).mono fun _ _ ⟨he, hb⟩ => ⟨he, hS.keep hb, hb⟩) ?_
  go_simp
  refine planB_read (v := .agg (v3 x y z)) rfl rfl (fun u hS => by go_simp) ?_
  go_simp
  refine planB_tail (fun c u hS hB hI => ?_)
  simp only [pa, opsOf]
  have B0 := hide (hS.e.blk (g := w.heap.size + 1) (t := 24) (cs := v3 0 0 0) (by repeat (first | exact List.mem_cons_self | apply List.mem_cons_of_mem)))
  have B := hide ((unhide B0).row (v3 x y z))
  have O := hide (below_row hS.e.o (show w.heap.size ≤ w.heap.size + 1 by omega) (v3 x y z))
  clear hS hB hI
  refine wpList_store_row rfl 24 (.tmp 2) (.tmp 34) rfl _ (v3 x y z) rfl rfl 24 _ (unhide B0) iVec3 rfl (v3_one _ _ _) ?_
  clear B0
  generalize u.setRow _ (v3 x y z) = u1 at B O ⊢
  go_simp
  go_wp2
  exact resGT rVec (unhide B) rfl rfl rfl rfl rfl ⟨rfl, unhide O⟩
set_option maxHeartbeats 4000000 in
theorem unit3_TF (ax ay az x y z : Int) (S : Nat) (w : World) (f0 : (ax == 0) = true) (f1 : (ay == 0) = false) (hE : Hid (Ans 53 #[.agg (v3 ax ay az), .agg (v3 ax ay az)] (.agg (cells8 S)))) (r0 : Hid (Ans 69 #[.int .i64 ax, .agg (cells8 S)] (.int .i64 x))) (r1 : Hid (Ans 69 #[.int .i64 ay, .agg (cells8 S)] (.int .i64 y))) (r2 : Hid (Ans 69 #[.int .i64 az, .agg (cells8 S)] (.int .i64 z))) :
    Calls Tryz.prog 26 #[.agg (v3 ax ay az)] w fun e w' => e = .returned (.tuple #[.agg (v3 x y z), .bool true]) ∧ Below w.heap.size w w' := by
  go_enter Tryz.func26, Tryz.ntmps26
  go_upto_region 1 with fail
  have D := hide (((Gen.start w).push 24 (v3 ax ay az)).push 24 (v3 0 0 0))
  simp only [szA] at D
  go_upto_region 3 with (first | (with_reducible refine at_list ?_; apply ldF (unhide D) _ rfl rfl rfl (by repeat (first | exact List.mem_cons_self | apply List.mem_cons_of_mem)) rfl) | (with_reducible refine at_list ?_; apply ldFw (unhide D) _ rfl rfl rfl (by repeat (first | exact List.mem_cons_self | apply List.mem_cons_of_mem)) rfl) | (with_reducible refine at_list ?_;  refine eqlS _ _ f0 rfl rfl rfl rfl ?_) | (with_reducible refine at_list ?_;  refine eqlSw _ _ f1 rfl rfl rfl rfl ?_))
  go_upto_region 4 with (first | (with_reducible refine at_list ?_; apply ldG (unhide D) rVec _ rfl rfl rfl (by repeat (first | exact List.mem_cons_self | apply List.mem_cons_of_mem)) rfl) | (go_at_call 53; with_reducible refine (unhide hE _).mono ?_; rintro e w' ⟨he, hb⟩; subst he; have D := hide ((unhide D).keep hb); clear hb) | (with_reducible refine at_list ?_; refine stG (unhide D) rWide _ _ rfl rfl rfl rfl rfl rfl (cells8_one _) ?_; intro D'; have D := hide D'; clear D'))
  have D1 : Hid (GenZ w _ _ _) := ⟨(unhide D).drew, Nat.le_refl _⟩
  clear D
  refine region_allocs (S := GenZ w _ _) (t := 56) (z := z8) (base := _) (l := [0, 1, 2, 3, 4, 5, 6, 7, 8, 9, 10, 11, 12]) (A := []) (T := [13, 14]) (by kernel_rfl) (by kernel_rfl) (by kernel_rfl) (by kernel_rfl) (by kernel_rfl) (by kernel_rfl) (by kernel_rfl) (by kernel_rfl) (by kernel_rfl) (by kernel_rfl) (fun i hi => by cases hi) (fun _ _ h hb => h.keep hb) (fun _ h => h.s) (unhide D1) ?_
  clear D1
  refine planB_read (v := ?_) rfl rfl (fun u hS => by go_simp; rfl) ?_
  go_simp
  refine planB_read (v := .int .i64 ax) rfl rfl (fun u hS => exec_loadFG hS.e _ rfl rfl (by repeat (first | exact List.mem_cons_self | apply List.mem_cons_of_mem)) rfl) ?_
  go_simp
  refine planB_read (v := .agg (cells8 S)) rfl rfl (fun u hS => exec_loadG hS.e rWide _ rfl rfl (by repeat (first | exact List.mem_cons_self | apply List.mem_cons_of_mem)) rfl) ?_
  go_simp
  refine planB_call (v := .int .i64 x) (f := 69) (args := #[.int .i64 ax, .agg (cells8 S)]) rfl rfl (fun u hS => by go_simp) (fun u hS => (unhide r0 u).mono fun _ _ ⟨he, hb⟩ => ⟨he, hS.keep hb, hb⟩) ?_
  go_simp
  refine planB_read (v := ?_) rfl rfl (fun u hS => by go_simp; rfl) ?_
  go_simp
  refine planB_read (v := .int .i64 ay) rfl rfl (fun u hS => exec_loadFG hS.e _ rfl rfl (by repeat (first | exact List.mem_cons_self | apply List.mem_cons_of_mem)) rfl) ?_
  go_simp
  refine planB_read (v := .agg (cells8 S)) rfl rfl (fun u hS => exec_loadG hS.e rWide _ rfl rfl (by repeat (first | exact List.mem_cons_self | apply List.mem_cons_of_mem)) rfl) ?_
  go_simp
  refine planB_call (v := .int .i64 y) (f := 69) (args := #[.int .i64 ay, .agg (cells8 S)]) rfl rfl (fun u hS => by go_simp) (fun u hS => (unhide r1 u).mono fun _ _ ⟨he, hb⟩ => ⟨he, hS.keep hb, hb⟩) ?_
  go_simp
  refine planB_read (v := ?_) rfl rfl (fun u hS => by go_simp; rfl) ?_
  go_simp
  refine planB_read (v := .int .i64 az) rfl rfl (fun u hS => exec_loadFG hS.e _ rfl rfl (by repeat (first | exact List.mem_cons_self | apply List.mem_cons_of_mem)) rfl) ?_
  go_simp
  refine planB_read (v := .agg (cells8 S)) rfl rfl (fun u hS => exec_loadG hS.e rWide _ rfl rfl (by repeat (first | exact List.mem_cons_self | apply List.mem_cons_of_mem)) rfl) ?_
  go_simp
  refine planB_call (v := .int .i64 z) (f := 69) (args := #[.int .i64 az, .agg (cells8 S)]) rfl rfl (fun u hS => by go_simp) (fun u hS => (unhide r2 u).mono fun _ _ ⟨he, hb⟩ => ⟨he, hS.keep hb, hb⟩) ?_
  go_simp
  refine planB_read (v := .agg (v3 x y z)) rfl rfl (fun u hS => by go_simp) ?_
  go_simp
  refine planB_tail (fun c u hS hB hI => ?_)
  simp only [pa, opsOf]
  have B0 := hide (hS.e.blk (g := w.heap.size + 1) (t := 24) (cs := v3 0 0 0) (by repeat (first | exact List.mem_cons_self | apply List.mem_cons_of_mem)))
  have B := hide ((unhide B0).row (v3 x y z))
  have O := hide (below_row hS.e.o (show w.heap.size ≤ w.heap.size + 1 by omega) (v3 x y z))
  clear hS hB hI
  refine wpList_store_row rfl 24 (.tmp 2) (.tmp 34) rfl _ (v3 x y z) rfl rfl 24 _ (unhide B0) iVec3 rfl (v3_one _ _ _) ?_
  clear B0
  generalize u.setRow _ (v3 x y z) = u1 at B O ⊢
  go_simp
  go_wp2
  exact resGT rVec (unhide B) rfl rfl rfl rfl rfl ⟨rfl, unhide O⟩
set_option maxHeartbeats 4000000 in
theorem unit3_TTF (ax ay az x y z : Int) (S : Nat) (w : World) (f0 : (ax == 0) = true) (f1 : (ay == 0) = true) (f2 : (az == 0) = false) (hE : Hid (Ans 53 #[.agg (v3 ax ay az), .agg (v3 ax ay az)] (.agg (cells8 S)))) (r0 : Hid (Ans 69 #[.int .i64 ax, .agg (cells8 S)] (.int .i64 x))) (r1 : Hid (Ans 69 #[.int .i64 ay, .agg (cells8 S)] (.int .i64 y))) (r2 : Hid (Ans 69 #[.int .i64 az, .agg (cells8 S)] (.int .i64 z))) :
    Calls Tryz.prog 26 #[.agg (v3 ax ay az)] w fun e w' => e = .returned (.tuple #[.agg (v3 x y z), .bool true]) ∧ Below w.heap.size w w' := by
  go_enter Tryz.func26, Tryz.ntmps26
  go_upto_region 1 with fail
  have D := hide (((Gen.start w).push 24 (v3 ax ay az)).push 24 (v3 0 0 0))
  simp only [szA] at D
  go_upto_region 3 with (first | (with_reducible refine at_list ?_; apply ldF (unhide D) _ rfl rfl rfl (by repeat (first | exact List.mem_cons_self | apply List.mem_cons_of_mem)) rfl) | (with_reducible refine at_list ?_; apply ldFw (unhide D) _ rfl rfl rfl (by repeat (first | exact List.mem_cons_self | apply List.mem_cons_of_mem)) rfl) | (with_reducible refine at_list ?_;  refine eqlS _ _ f0 rfl rfl rfl rfl ?_) | (with_reducible refine at_list ?_;  refine eqlSw _ _ f1 rfl rfl rfl rfl ?_) | (with_reducible refine at_list ?_;  refine eqlSw _ _ f2 rfl rfl rfl rfl ?_))
  go_upto_region 4 with (first | (with_reducible refine at_list ?_; apply ldG (unhide D) rVec _ rfl rfl rfl (by repeat (first | exact List.mem_cons_self | apply List.mem_cons_of_mem)) rfl) | (go_at_call 53; with_reducible refine (unhide hE _).mono ?_; rintro e w' ⟨he, hb⟩; subst he; have D := hide ((unhide D).keep hb); clear hb) | (with_reducible refine at_list ?_; refine stG (unhide D) rWide _ _ rfl rfl rfl rfl rfl rfl (cells8_one _) ?_; intro D'; have D := hide D'; clear D'))
  have D1 : Hid (GenZ w _ _ _) := ⟨(unhide D).drew, Nat.le_refl _⟩
  clear D
  refine region_allocs (S := GenZ w _ _) (t := 56) (z := z8) (base := _) (l := [0, 1, 2, 3, 4, 5, 6, 7, 8, 9, 10, 11, 12]) (A := []) (T := [13, 14]) (by kernel_rfl) (by kernel_rfl) (by kernel_rfl) (by kernel_rfl) (by kernel_rfl) (by kernel_rfl) (by kernel_rfl) (by kernel_rfl) (by kernel_rfl) (by kernel_rfl) (fun i hi => by cases hi) (fun _ _ h hb => h.keep hb) (fun _ h => h.s) (unhide D1) ?_
  clear D1
  refine planB_read (v := ?_) rfl rfl (fun u hS => by go_simp; rfl) ?_
  go_simp
  refine planB_read (v := .int .i64 ax) rfl rfl (fun u hS => exec_loadFG hS.e _ rfl rfl (by repeat (first | exact List.mem_cons_self | apply List.mem_cons_of_mem)) rfl) ?_
  go_simp
  refine planB_read (v := .agg (cells8 S)) rfl rfl (fun u hS => exec_loadG hS.e rWide _ rfl rfl (by repeat (first | exact List.mem_cons_self | apply List.mem_cons_of_mem)) rfl) ?_
  go_simp
  refine planB_call (v := .int .i64 x) (f := 69) (args := #[.int .i64 ax, .agg (cells8 S)]) rfl rfl (fun u hS => by go_simp) (fun u hS => (unhide r0 u).mono fun _ _ ⟨he, hb⟩ => ⟨he, hS.keep hb, hb⟩) ?_
  go_simp
  refine planB_read (v := ?_) rfl rfl (fun u hS => by go_simp; rfl) ?_
  go_simp
  refine planB_read (v := .int .i64 ay) rfl rfl (fun u hS => exec_loadFG hS.e _ rfl rfl (by repeat (first | exact List.mem_cons_self | apply List.mem_cons_of_mem)) rfl) ?_
  go_simp
  refine planB_read (v := .agg (cells8 S)) rfl rfl (fun u hS => exec_loadG hS.e rWide _ rfl rfl (by repeat (first | exact List.mem_cons_self | apply List.mem_cons_of_mem)) rfl) ?_
  go_simp
  refine planB_call (v := .int .i64 y) (f := 69) (args := #[.int .i64 ay, .agg (cells8 S)]) rfl rfl (fun u hS => by go_simp) (fun u hS => (unhide r1 u).mono fun _ _ ⟨he, hb⟩ => ⟨he, hS.keep hb, hb⟩) ?_
  go_simp
  refine planB_read (v := ?_) rfl rfl (fun u hS => by go_simp; rfl) ?_
  go_simp
  refine planB_read (v := .int .i64 az) rfl rfl (fun u hS => exec_loadFG hS.e _ rfl rfl (by repeat (first | exact List.mem_cons_self | apply List.mem_cons_of_mem)) rfl) ?_
  go_simp
  refine planB_read (v := .agg (cells8 S)) rfl rfl (fun u hS => exec_loadG hS.e rWide _ rfl rfl (by repeat (first | exact List.mem_cons_self | apply List.mem_cons_of_mem)) rfl) ?_
  go_simp
  refine planB_call (v := .int .i64 z) (f := 69) (args := #[.int .i64 az, .agg (cells8 S)]) rfl rfl (fun u hS => by go_simp) (fun u hS => (unhide r2 u).mono fun _ _ ⟨he, hb⟩ => ⟨he, hS.keep hb, hb⟩) ?_
  go_simp
  refine planB_read (v := .agg (v3 x y z)) rfl rfl (fun u hS => by go_simp) ?_
  go_simp
  refine planB_tail (fun c u hS hB hI => ?_)
  simp only [pa, opsOf]
  have B0 := hide (hS.e.blk (g := w.heap.size + 1) (t := 24) (cs := v3 0 0 0) (by repeat (first | exact List.mem_cons_self | apply List.mem_cons_of_mem)))
  have B := hide ((unhide B0).row (v3 x y z))
  have O := hide (below_row hS.e.o (show w.heap.size ≤ w.heap.size + 1 by omega) (v3 x y z))
  clear hS hB hI
  refine wpList_store_row rfl 24 (.tmp 2) (.tmp 34) rfl _ (v3 x y z) rfl rfl 24 _ (unhide B0) iVec3 rfl (v3_one _ _ _) ?_
  clear B0
  generalize u.setRow _ (v3 x y z) = u1 at B O ⊢
  go_simp
  go_wp2
  exact resGT rVec (unhide B) rfl rfl rfl rfl rfl ⟨rfl, unhide O⟩
theorem z8_zero : z8 = cells8 (enc 0) := by kernel_rfl
theorem sqrt_ref (x : Int) (h0 : 0 ≤ x) (hx : Fit x) : Ans 60 #[V x] (.tuple #[V (rt x), .bool true]) := fun u => by
  have t := refSqrt x hx u
  rw [decide_eq_false (show ¬ x < 0 by omega)] at t
  exact t
theorem LenR (ax ay az : Int) (h1 : I64 ax) (h2 : I64 ay) (h3 : I64 az) : Ans 23 #[.agg (v3 ax ay az), .bool false] (.int .i64 (inI (rfl' (sqr ax ay az) 1) 32)) := fun w => by
  have hn := sqr_nn ax ay az
  have hs := sqr_sz h1 h2 h3
  have e : rfl' (sqr ax ay az) 1 = rt (sqr ax ay az) := by
    unfold rfl'
    rw [Int.fdiv_one]
  rw [inI_32, e]
  exact len3_down ax ay az _ (enc (sqr ax ay az)) (enc (rt (sqr ax ay az))) true w (Exact3 ax ay az ax ay az h1 h2 h3 h1 h2 h3) (sqrt_ref _ hn (hs.fit (by decide))) (WithinR _ ((isq_sz hs).fit (by decide)))
theorem LenUpR (ax ay az : Int) (h1 : I64 ax) (h2 : I64 ay) (h3 : I64 az) : Ans 23 #[.agg (v3 ax ay az), .bool true] (.int .i64 (upR (sqr ax ay az) 1)) := fun w => by
  have hn := sqr_nn ax ay az
  have hs := sqr_sz h1 h2 h3
  have e : rfl' (sqr ax ay az) 1 = rt (sqr ax ay az) := by
    unfold rfl'
    rw [Int.fdiv_one]
  have hr := isq_sz hs
  have hE := Exact3 ax ay az ax ay az h1 h2 h3 h1 h2 h3
  have hQ := sqrt_ref _ hn (hs.fit (by decide))
  have hT : Ans 61 #[V (rt (sqr ax ay az)), V (rt (sqr ax ay az))] (V (rt (sqr ax ay az) * rt (sqr ax ay az))) := Times3 hr hr (by decide)
  have hf : Fit (rt (sqr ax ay az) * rt (sqr ax ay az)) := (hr.mul hr).fit (by decide)
  unfold upR rex
  rw [e, Int.mul_one, inI_32]
  by_cases hb : rt (sqr ax ay az) * rt (sqr ax ay az) = sqr ax ay az
  · rw [if_pos (decide_eq_true hb)]
    exact len3_whole ax ay az _ (enc (sqr ax ay az)) (enc (rt (sqr ax ay az))) _ true w hE hQ hT (by show _ = _; rw [same_enc hf (hs.fit (by decide))]; exact decide_eq_true hb) (WithinR _ (hr.fit (by decide)))
  · rw [if_neg (by simpa using hb)]
    exact len3_up ax ay az _ (enc (sqr ax ay az)) (enc (rt (sqr ax ay az))) _ (enc 1) (enc (rt (sqr ax ay az) + 1)) true w hE hQ hT (by show _ = _; rw [same_enc hf (hs.fit (by decide))]; exact decide_eq_false hb) (fun u => SmallZ 1 (by decide) (by decide) u) (Plus3 hr (Sz.one.mono (by decide)) (by decide)) (WithinR _ ((hr.add (Sz.one.mono (by decide))).fit (by decide)))
theorem sz_le {k : Nat} {a b : Int} (h0 : 0 ≤ a) (h : a ≤ b) (hb : Sz k b) : Sz k a := by
  unfold Sz at *
  omega
theorem cl_opp {x r S : Int} (h : PartU x (wrap64 (-(cl r))) S) : cl (0 - r) = wrap64 (-(cl r)) := by
  have l := h.l
  have r' := h.r
  clear h
  revert l r'
  unfold cl wrap64
  intro l r'
  repeat' split at l
  all_goals (repeat' split at r')
  all_goals (repeat' split)
  all_goals omega
theorem RatioR (x S : Int) (hx : I64 x) (h0 : 0 < S) (hS : Sz 140 S) (hq : x * x ≤ S) : Ans 69 #[.int .i64 x, V S] (.int .i64 (shI x S)) := fun w => by
  have hp : Sz 191 (x * x * ((2 ^ (64 : Int).toNat : Nat) : Int)) := ((hx.sz.mul hx.sz).mul (show Sz 64 _ by unfold Sz; decide)).mono (by decide)
  have hp0 : 0 ≤ x * x * ((2 ^ (64 : Int).toNat : Nat) : Int) := Int.mul_nonneg (sq_nn x) (by decide)
  have hR := Raw3 x hx
  have hT : Ans 61 #[V x, V x] (V (x * x)) := Times3 hx.sz hx.sz (by decide)
  have hL := Twice3 64 (x := x * x) ((hx.sz.mul hx.sz).fit (by decide)) (by decide) (hp.fit (by decide))
  have hd : Sz 192 ((x * x * ((2 ^ (64 : Int).toNat : Nat) : Int)).fdiv S) := (hp.fdiv (by omega)).mono (by decide)
  have hd0 : 0 ≤ (x * x * ((2 ^ (64 : Int).toNat : Nat) : Int)).fdiv S := Int.fdiv_nonneg hp0 (by omega)
  have hD : Ans 125 #[V (x * x * ((2 ^ (64 : Int).toNat : Nat) : Int)), V S] (.tuple #[V ((x * x * ((2 ^ (64 : Int).toNat : Nat) : Int)).fdiv S), V ((x * x * ((2 ^ (64 : Int).toNat : Nat) : Int)).fmod S), .bool true]) := fun u => by
    have t := refDivZ _ S (hp.fit (by decide)) (hS.fit (by decide)) u
    rw [show dq (x * x * ((2 ^ (64 : Int).toNat : Nat) : Int)) S = true by
      unfold dq
      simp only [fit_true (hd.fit (by decide)), Bool.and_true]
      simp
      omega] at t
    exact t
  have hQ := sqrt_ref _ hd0 (hd.fit (by decide))
  have hr := isq_sz hd
  have hrr : Sz 192 (rt ((x * x * ((2 ^ (64 : Int).toNat : Nat) : Int)).fdiv S) * rt ((x * x * ((2 ^ (64 : Int).toNat : Nat) : Int)).fdiv S)) := sz_le (sq0 _) (isq_sq _ hd0).1 hd
  have pu := shI_shr h0 hq
  unfold shI upR rex
  unfold shI upR rex at pu
  unfold rfl' at *
  by_cases hx0 : x < 0
  · rw [if_pos hx0] at pu ⊢
    have hK : Ans 61 #[V (rt ((x * x * ((2 ^ (64 : Int).toNat : Nat) : Int)).fdiv S)), V (rt ((x * x * ((2 ^ (64 : Int).toNat : Nat) : Int)).fdiv S))] _ := Times3 hr hr (by decide)
    have hJ : Ans 61 #[V (rt ((x * x * ((2 ^ (64 : Int).toNat : Nat) : Int)).fdiv S) * rt ((x * x * ((2 ^ (64 : Int).toNat : Nat) : Int)).fdiv S)), V S] _ := Times3 hrr hS (by decide)
    have hf : Fit (rt ((x * x * ((2 ^ (64 : Int).toNat : Nat) : Int)).fdiv S) * rt ((x * x * ((2 ^ (64 : Int).toNat : Nat) : Int)).fdiv S) * S) := (hrr.mul hS).fit (by decide)
    have hn := hp.fit (k := 191) (by decide)
    generalize x * x * ((2 ^ (64 : Int).toNat : Nat) : Int) = n at *
    generalize hrt : rt (n.fdiv S) = r at *
    by_cases hb : r * r * S = n
    · rw [if_pos (decide_eq_true hb), inI_32] at pu ⊢
      have hl := pu.l
      have hM := Less3 (x := 0) (y := r) (k := 192) (by unfold Sz; exact Nat.zero_le _) hr (by decide)
      unfold V at hM
      rw [← z8_zero] at hM
      have k := ratio_whole x _ (enc x) _ _ (enc S) _ _ (enc r) _ _ (enc (0 - r)) true w (decide_eq_false (by omega)) hR hT hL hD hQ hK hJ (by show _ = _; rw [same_enc hf hn]; exact decide_eq_true hb) hM (WithinR (0 - r) ((Sz.sub (k := 192) (by unfold Sz; exact Nat.zero_le _) hr).fit (by decide)))
      exact (cl_opp pu) ▸ k
    · rw [if_neg (by simpa using hb), inI_32] at pu ⊢
      have hr1 := hr.add (Sz.one.mono (show 0 ≤ 192 by decide))
      have hM := Less3 (x := 0) (y := r + 1) (k := 193) (by unfold Sz; exact Nat.zero_le _) hr1 (by decide)
      unfold V at hM
      rw [← z8_zero] at hM
      have k := ratio_up x _ (enc x) _ _ (enc S) _ _ (enc r) _ _ (enc (0 - (r + 1))) (enc 1) (enc (r + 1)) true w (decide_eq_false (by omega)) hR hT hL hD hQ hK hJ (by show _ = _; rw [same_enc hf hn]; exact decide_eq_false hb) (fun u => SmallZ 1 (by decide) (by decide) u) (Plus3 hr (Sz.one.mono (by decide)) (by decide)) hM (WithinR (0 - (r + 1)) ((Sz.sub (k := 193) (by unfold Sz; exact Nat.zero_le _) hr1).fit (by decide)))
      exact (cl_opp pu) ▸ k
  · rw [if_neg hx0, inI_32]
    exact ratio_pos x _ (enc x) _ _ (enc S) _ _ _ true w (decide_eq_true (by omega)) hR hT hL hD hQ (WithinR _ (hr.fit (by decide)))
theorem UnitR (x y z : Int) (h1 : I64 x) (h2 : I64 y) (h3 : I64 z) (hz : ¬ (x = 0 ∧ y = 0 ∧ z = 0)) : Ans 26 #[.agg (v3 x y z)] (.tuple #[.agg (v3 (shI x (sqr x y z)) (shI y (sqr x y z)) (shI z (sqr x y z))), .bool true]) := fun w => by
  have hs := (sqr_sz h1 h2 h3).mono (show 130 ≤ 140 by decide)
  have hp := sqr_pos hz
  have qx := sq0 x
  have qy := sq0 y
  have qz := sq0 z
  have r0 := RatioR x _ h1 hp hs (by unfold sqr; omega)
  have r1 := RatioR y _ h2 hp hs (by unfold sqr; omega)
  have r2 := RatioR z _ h3 hp hs (by unfold sqr; omega)
  have hE := Exact3 x y z x y z h1 h2 h3 h1 h2 h3
  by_cases e0 : x = 0
  · by_cases e1 : y = 0
    · by_cases e2 : z = 0
      · exact absurd ⟨e0, e1, e2⟩ hz
      · exact unit3_TTF x y z _ _ _ _ w (beq_iff_eq.2 e0) (beq_iff_eq.2 e1) (beq_eq_false_iff_ne.2 e2) hE r0 r1 r2
    · exact unit3_TF x y z _ _ _ _ w (beq_iff_eq.2 e0) (beq_eq_false_iff_ne.2 e1) hE r0 r1 r2
  · exact unit3_F x y z _ _ _ _ w (beq_eq_false_iff_ne.2 e0) hE r0 r1 r2
theorem NearR (ax ay az bx b_y bz_ r : Int) (h1 : I64 ax) (h2 : I64 ay) (h3 : I64 az) (h4 : I64 bx) (h5 : I64 b_y) (h6 : I64 bz_) (h7 : I64 r) :
    Ans 28 #[.agg (v3 ax ay az), .agg (v3 bx b_y bz_), .int .i64 r] (.bool (nearB ax ay az bx b_y bz_ r)) := by
  intro w
  have s1 := h1.sz.sub h4.sz
  have s2 := h2.sz.sub h5.sz
  have s3 := h3.sz.sub h6.sz
  have q0 := SquareR ax bx h1 h4
  have q1 := SquareR ay b_y h2 h5
  have q2 := SquareR az bz_ h3 h6
  have p0 : Ans 62 #[V ((ax - bx) * (ax - bx)), V ((ay - b_y) * (ay - b_y))] _ := Plus3 (s1.mul s1) (s2.mul s2) (by decide)
  have t2 := (s1.mul s1).add (s2.mul s2)
  have t3 := (s3.mul s3).mono (show 64 + 64 ≤ 64 + 64 + 1 by decide)
  have p1 : Ans 62 #[V ((ax - bx) * (ax - bx) + (ay - b_y) * (ay - b_y)), V ((az - bz_) * (az - bz_))] _ := Plus3 t2 t3 (by decide)
  unfold nearB
  by_cases hr : r < 0
  · rw [decide_eq_false (by omega)]
    exact near3_neg ax ay az bx b_y bz_ r _ _ _ _ _ w q0 q1 q2 p0 p1 (decide_eq_false (by omega))
  · rw [show decide (0 ≤ r ∧ sqr (ax - bx) (ay - b_y) (az - bz_) ≤ r * r) = decide (sqr (ax - bx) (ay - b_y) (az - bz_) ≤ r * r) from by simp only [show 0 ≤ r by omega, true_and]]
    exact near3_core ax ay az bx b_y bz_ r _ _ _ _ _ (enc (sqr (ax - bx) (ay - b_y) (az - bz_))) (enc r) (enc (r * r)) w q0 q1 q2 p0 p1 _ (decide_eq_true (by omega)) (cmpI_is_le _ _) (Raw3 r h7) (Times3 h7.sz h7.sz (by decide)) (fun u => refCmp _ _ ((t2.add t3).fit (by decide)) ((h7.sz.mul h7.sz).fit (by decide)) u)

end Go.Proofs.YtljggjnaolbapaaGreat
