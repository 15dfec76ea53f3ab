/- Package quat: Back; the law QuatUndone. Package quat's laws: nearOne, squares. Matrices held against each other. The numbers of the law QuatRows: rows and columns of a rotation's matrix. The law QuatRows. -/
import Derived.Test.YtikmjfepflaokaaDoorTl
import Derived.Test.YtikmjfepflaokaaDoorBo
namespace Go.Proofs.YtikmjfepflaokaaDoor
open Go.RowKit
set_option maxRecDepth 4000
set_option linter.unusedVariables false

set_option maxHeartbeats 2000000 in
theorem qBack_core (a b c d x y z : Int) (w : World) (h1 : Hid (Ans 52 #[.int .i64 0, .int .i64 b] (.int .i64 x))) (h2 : Hid (Ans 52 #[.int .i64 0, .int .i64 c] (.int .i64 y))) (h3 : Hid (Ans 52 #[.int .i64 0, .int .i64 d] (.int .i64 z))) :
    Calls Tryd.prog 21 #[.agg (q4 a b c d)] w fun e w' => e = .returned (.agg (q4 a x y z)) ∧ Below w.heap.size w w' := by
  go_enter Tryd.func21, Tryd.ntmps21
  go_upto_region 1 with fail
  have D := hide (((Gen.start w).push 24 (q4 a b c d)).push 24 (q4 0 0 0 0))
  simp only [szA] at D
  refine region_last (S := Gen w _) (f := 12) (l := [0, 1, 2, 3, 4, 5, 6, 7, 8, 9, 10, 11]) (by kernel_rfl) (by kernel_rfl) (by kernel_rfl) (by kernel_rfl) (by kernel_rfl) (by kernel_rfl) (by kernel_rfl) (by kernel_rfl) (by kernel_rfl) (by kernel_rfl) rfl rfl (unhide D).drew ?_
  clear D
  refine plan_read (v := ?_) rfl rfl (fun u hS => by go_simp; rfl) ?_
  go_simp
  refine plan_read (v := .int .i64 a) rfl rfl (fun u hS => exec_loadFG hS _ rfl rfl (by repeat (first | exact List.mem_cons_self | apply List.mem_cons_of_mem)) rfl) ?_
  go_simp
  refine plan_read (v := ?_) rfl rfl (fun u hS => by go_simp; rfl) ?_
  go_simp
  refine plan_read (v := .int .i64 b) rfl rfl (fun u hS => exec_loadFG hS _ rfl rfl (by repeat (first | exact List.mem_cons_self | apply List.mem_cons_of_mem)) rfl) ?_
  go_simp
  refine plan_call (v := .int .i64 x) (f := 52) (args := #[.int .i64 0, .int .i64 b]) rfl rfl (fun u hS => by go_simp) (fun u hS => (unhide h1 u).mono fun _ _ ⟨he, hb⟩ => ⟨he, hS.keep hb⟩) ?_
  go_simp
  refine plan_read (v := ?_) rfl rfl (fun u hS => by go_simp; rfl) ?_
  go_simp
  refine plan_read (v := .int .i64 c) rfl rfl (fun u hS => exec_loadFG hS _ rfl rfl (by repeat (first | exact List.mem_cons_self | apply List.mem_cons_of_mem)) rfl) ?_
  go_simp
  refine plan_call (v := .int .i64 y) (f := 52) (args := #[.int .i64 0, .int .i64 c]) rfl rfl (fun u hS => by go_simp) (fun u hS => (unhide h2 u).mono fun _ _ ⟨he, hb⟩ => ⟨he, hS.keep hb⟩) ?_
  go_simp
  refine plan_read (v := ?_) rfl rfl (fun u hS => by go_simp; rfl) ?_
  go_simp
  refine plan_read (v := .int .i64 d) rfl rfl (fun u hS => exec_loadFG hS _ rfl rfl (by repeat (first | exact List.mem_cons_self | apply List.mem_cons_of_mem)) rfl) ?_
  go_simp
  refine plan_call (v := .int .i64 z) (f := 52) (args := #[.int .i64 0, .int .i64 d]) rfl rfl (fun u hS => by go_simp) (fun u hS => (unhide h3 u).mono fun _ _ ⟨he, hb⟩ => ⟨he, hS.keep hb⟩) ?_
  go_simp
  refine plan_read (v := .agg (q4 a x y z)) rfl rfl (fun u hS => by go_simp) ?_
  go_simp
  refine plan_last (fun u hS => ?_)
  have B0 := hide (hS.blk (g := w.heap.size + 1) (t := 24) (cs := q4 0 0 0 0) (by repeat (first | exact List.mem_cons_self | apply List.mem_cons_of_mem)))
  refine wp_store_row 24 (.tmp 2) (.tmp 14) rfl _ (q4 a x y z) rfl rfl 24 (q4 0 0 0 0) (unhide B0) rQuat.i rfl (q4_one _ _ _ _) ?_
  have B := hide ((unhide B0).row (q4 a x y z))
  have O := hide (below_row hS.o (show w.heap.size ≤ w.heap.size + 1 by omega) (q4 a x y z))
  clear hS B0
  go_wp2
  exact resG rQuat (unhide B) rfl rfl rfl rfl ⟨rfl, unhide O⟩
theorem QBackZ (a b c d : Int) (h1 : I64 b) (h2 : I64 c) (h3 : I64 d) : Ans 21 #[.agg (q4 a b c d)] (.agg (q4 a (cl (0 - b)) (cl (0 - c)) (cl (0 - d)))) := fun w =>
  have i0 : I64 0 := ⟨by decide, by decide⟩
  qBack_core a b c d _ _ _ w (FixSubZ 0 b i0 h1) (FixSubZ 0 c i0 h2) (FixSubZ 0 d i0 h3)
theorem near_core (a b : Int) (w : World) (h1 : decide (wrap64 (a - b) ≤ 64) = true) (h2 : decide (wrap64 (b - a) ≤ 64) = true) :
    Calls Tryd.prog 25 #[.int .i64 a, .int .i64 b] w fun e w' => e = .returned (.bool true) ∧ Below w.heap.size w w' := by
  have D := hide (Gen.start w)
  go_enter Tryd.func25, Tryd.ntmps25
  go_wp2_with (first | (with_reducible refine at_list ?_;  refine leqZ _ _ h1 rfl rfl rfl rfl ?_) | (with_reducible refine at_list ?_;  refine leqZw _ _ h2 rfl rfl rfl rfl ?_))
  go_ret
  exact ⟨rfl, (unhide D).o⟩
theorem Near5 (a b : Int) (ha : -4611686018427387904 ≤ a ∧ a ≤ 4611686018427387904) (hb : -4611686018427387904 ≤ b ∧ b ≤ 4611686018427387904) (h : a - b ≤ 64 ∧ b - a ≤ 64) : Ans 25 #[.int .i64 a, .int .i64 b] (.bool true) := fun w =>
  near_core a b w (by rw [wrap_self ⟨by omega, by omega⟩]; exact decide_eq_true h.1) (by rw [wrap_self ⟨by omega, by omega⟩]; exact decide_eq_true h.2)
theorem undone_bad (a b c d : Int) (TP TT : Array Value) (w : World) (hP : Tab 1 TP w) (hT : Tab 0 TT w)
    (hW : Hid (∀ u, Tab 1 TP u → Tab 0 TT u → Calls Tryd.prog 12 #[] u fun e w' => e = .returned (.bool true) ∧ Below u.heap.size u w')) (hU : Hid (Ans 15 #[.agg (q4 a b c d)] (.tuple #[.agg (q4 0 0 0 0), .int .i64 9]))) :
    Calls Tryd.prog 9 #[.agg (q4 a b c d)] w fun e w' => e = .returned (.bool true) ∧ Below w.heap.size w w' := by
  have hPlt := hP.lt
  have hTlt := hT.lt
  have HP := hide hP
  have HT := hide hT
  clear hP hT
  go_enter Tryd.func9, Tryd.ntmps9
  go_upto_region 1 with fail
  have D := hide ((Gen.start w).push 24 (q4 a b c d))
  go_wp2_with (first | (with_reducible refine at_list ?_; apply ldG (unhide D) rQuat _ rfl rfl rfl (by repeat (first | exact List.mem_cons_self | apply List.mem_cons_of_mem)) rfl) | (go_at_call 15; with_reducible refine (unhide hU _).mono ?_; rintro e w' ⟨he, hb⟩; subst he; have D := hide ((unhide D).keep hb); clear hb) | (with_reducible refine at_list ?_; refine stG (unhide D) rQuat _ _ rfl rfl rfl rfl rfl rfl (q4_one _ _ _ _) ?_; intro D'; have D := hide D'; clear D') | (go_at_call 12; with_reducible refine (unhide hW _ ((unhide HP).below (unhide D).o hPlt) ((unhide HT).below (unhide D).o hTlt)).mono ?_; rintro e w' ⟨he, hb⟩; subst he; have D := hide ((unhide D).keep hb); clear hb))
  go_ret
  exact ⟨rfl, (unhide D).o⟩
set_option maxHeartbeats 4000000 in
theorem undone_core (a b c d u0 u1 u2 u3 b1 b2 b3 W : Int) (TP TT : Array Value) (w : World) (hP : Tab 1 TP w) (hT : Tab 0 TT w)
    (hW : Hid (∀ u, Tab 1 TP u → Tab 0 TT u → Calls Tryd.prog 12 #[] u fun e w' => e = .returned (.bool true) ∧ Below u.heap.size u w')) (hU : Hid (Ans 15 #[.agg (q4 a b c d)] (.tuple #[.agg (q4 u0 u1 u2 u3), .int .i64 0]))) (hB : Hid (Ans 21 #[.agg (q4 u0 u1 u2 u3)] (.agg (q4 u0 b1 b2 b3))))
    (h1 : Hid (∀ u, Tab 1 TP u → Calls Tryd.prog 14 #[.agg (q4 u0 u1 u2 u3), .agg (q4 u0 b1 b2 b3)] u fun e w' => e = .returned (.agg (q4 W 0 0 0)) ∧ Below u.heap.size u w')) (h2 : Hid (∀ u, Tab 1 TP u → Calls Tryd.prog 14 #[.agg (q4 u0 b1 b2 b3), .agg (q4 u0 u1 u2 u3)] u fun e w' => e = .returned (.agg (q4 W 0 0 0)) ∧ Below u.heap.size u w'))
    (hN : Hid (Ans 25 #[.int .i64 W, .int .i64 4294967296] (.bool true))) (hZ : Hid (Ans 25 #[.int .i64 0, .int .i64 0] (.bool true))) :
    Calls Tryd.prog 9 #[.agg (q4 a b c d)] w fun e w' => e = .returned (.bool true) ∧ Below w.heap.size w w' := by
  have hPlt := hP.lt
  have hTlt := hT.lt
  have HP := hide hP
  have HT := hide hT
  clear hP hT
  go_enter Tryd.func9, Tryd.ntmps9
  go_upto_region 1 with fail
  have D := hide ((Gen.start w).push 24 (q4 a b c d))
  go_upto_region 4 with (first | (with_reducible refine at_list ?_; apply ldG (unhide D) rQuat _ rfl rfl rfl (by repeat (first | exact List.mem_cons_self | apply List.mem_cons_of_mem)) rfl) | (go_at_call 15; with_reducible refine (unhide hU _).mono ?_; rintro e w1 ⟨he, hb⟩; subst he; have D := hide ((unhide D).keep hb); clear hb) | (with_reducible refine at_list ?_; refine stG (unhide D) rQuat _ _ rfl rfl rfl rfl rfl rfl (q4_one _ _ _ _) ?_; intro D'; have D := hide D'; clear D'))
  generalize hw3 : (w1.alloc (.cells (q4 u0 u1 u2 u3) 24)) = w3 at D ⊢
  clear hw3 hU
  generalize w1.heap.size = g3 at *
  have D1 : Hid (GenZ w _ w3.heap.size w3.drew) := ⟨(unhide D).drew, Nat.le_refl _⟩
  have hw0 := hide (unhide D).o.size
  clear D
  generalize w3.heap.size = C at D1 hw0
  refine region_allocs (S := GenZ w _ C) (t := 24) (z := q4 0 0 0 0) (base := C) (l := [0, 1, 2, 3, 4, 5, 6, 7]) (A := [8, 9]) (T := [10, 11]) (by kernel_rfl) (by kernel_rfl) (by kernel_rfl) (by kernel_rfl) (by kernel_rfl) (by kernel_rfl) (by kernel_rfl) (by kernel_rfl) (by kernel_rfl) (by kernel_rfl) ?_ (fun _ _ h hb => h.keep hb) (fun _ h => h.s) (unhide D1) ?_
  · intro i hi
    simp at hi
    rcases hi with rfl | rfl
    · exact ⟨_, rfl, rfl, fun a w => by go_simp⟩
    · exact ⟨_, rfl, rfl, fun a w => by go_simp⟩
  clear D1
  refine planB_read (v := .agg (q4 u0 u1 u2 u3)) rfl rfl (fun u hS => exec_loadG hS.e rQuat (.tmp 3) rfl rfl (by repeat (first | exact List.mem_cons_self | apply List.mem_cons_of_mem)) rfl) ?_
  go_simp
  refine planB_read (v := .agg (q4 u0 u1 u2 u3)) rfl rfl (fun u hS => exec_loadG hS.e rQuat (.tmp 3) rfl rfl (by repeat (first | exact List.mem_cons_self | apply List.mem_cons_of_mem)) rfl) ?_
  go_simp
  refine planB_call (v := .agg (q4 u0 b1 b2 b3)) (f := 21) (args := #[.agg (q4 u0 u1 u2 u3)]) rfl rfl (fun u hS => by go_simp) (fun u hS => (unhide hB u).mono fun _ _ ⟨he, hb⟩ => ⟨he, hS.keep hb, hb⟩) ?_
  go_simp
  refine planB_call (v := .agg (q4 W 0 0 0)) (f := 14) (args := #[.agg (q4 u0 u1 u2 u3), .agg (q4 u0 b1 b2 b3)]) rfl rfl (fun u hS => by go_simp) (fun u hS => (unhide h1 u ((unhide HP).below hS.e.o hPlt)).mono fun _ _ ⟨he, hb⟩ => ⟨he, hS.keep hb, hb⟩) ?_
  go_simp
  refine planB_read (v := .agg (q4 u0 u1 u2 u3)) rfl rfl (fun u hS => exec_loadG hS.e rQuat (.tmp 3) rfl rfl (by repeat (first | exact List.mem_cons_self | apply List.mem_cons_of_mem)) rfl) ?_
  go_simp
  refine planB_call (v := .agg (q4 u0 b1 b2 b3)) (f := 21) (args := #[.agg (q4 u0 u1 u2 u3)]) rfl rfl (fun u hS => by go_simp) (fun u hS => (unhide hB u).mono fun _ _ ⟨he, hb⟩ => ⟨he, hS.keep hb, hb⟩) ?_
  go_simp
  refine planB_read (v := .agg (q4 u0 u1 u2 u3)) rfl rfl (fun u hS => exec_loadG hS.e rQuat (.tmp 3) rfl rfl (by repeat (first | exact List.mem_cons_self | apply List.mem_cons_of_mem)) rfl) ?_
  go_simp
  refine planB_call (v := .agg (q4 W 0 0 0)) (f := 14) (args := #[.agg (q4 u0 b1 b2 b3), .agg (q4 u0 u1 u2 u3)]) rfl rfl (fun u hS => by go_simp) (fun u hS => (unhide h2 u ((unhide HP).below hS.e.o hPlt)).mono fun _ _ ⟨he, hb⟩ => ⟨he, hS.keep hb, hb⟩) ?_
  go_simp
  refine planB_tail (fun cc u hS hB hI => ?_)
  have k0 := hB 8 (by simp)
  have k1 := hB 9 (by simp)
  have n01 : cc 8 ≠ cc 9 := fun hc => by have := hI 8 (by simp) 9 (by simp) hc; omega
  simp only [pa, dstOf, opsOf]
  have O := hide hS.e.o
  generalize cc 8 = c0 at k0 n01 ⊢
  generalize cc 9 = c1 at k1 n01 ⊢
  clear hS hB hI
  have W0 := unhide hw0
  have D := hide (Gen.pair ((k0.1.row (q4 W 0 0 0)).rowOther (q4 W 0 0 0) n01) ((k1.1.rowOther (q4 W 0 0 0) (Ne.symm n01)).row (q4 W 0 0 0)) (below_row (below_row (unhide O) (show w.heap.size ≤ c0 by omega) (q4 W 0 0 0)) (show w.heap.size ≤ c1 by omega) (q4 W 0 0 0)))
  have K0 := hide k0.1
  have K1 := hide (k1.1.rowOther (q4 W 0 0 0) (Ne.symm n01))
  clear k0 k1 O W0 hw0
  refine wpList_store_row rfl 24 (.tmp 5) (.tmp 18) rfl _ (q4 W 0 0 0) rfl rfl 24 _ (unhide K0) rQuat.i rfl (q4_one _ _ _ _) ?_
  refine wpList_store_row rfl 24 (.tmp 6) (.tmp 22) rfl _ (q4 W 0 0 0) rfl rfl 24 _ (unhide K1) rQuat.i rfl (q4_one _ _ _ _) ?_
  generalize (u.setRow c0 (q4 W 0 0 0)).setRow c1 (q4 W 0 0 0) = u1 at D ⊢
  clear K0 K1 n01 h1 h2
  go_simp
  go_wp2_with (first | (with_reducible refine at_list ?_; apply ldF (unhide D) _ rfl rfl rfl (by repeat (first | exact List.mem_cons_self | apply List.mem_cons_of_mem)) rfl) | (with_reducible refine at_list ?_; apply ldFw (unhide D) _ rfl rfl rfl (by repeat (first | exact List.mem_cons_self | apply List.mem_cons_of_mem)) rfl) | (go_at_call 25; with_reducible refine (unhide hN _).mono ?_; rintro e w' ⟨he, hb⟩; subst he; have D := hide ((unhide D).keep hb); clear hb) | (go_at_call 25; with_reducible refine (unhide hZ _).mono ?_; rintro e w' ⟨he, hb⟩; subst he; have D := hide ((unhide D).keep hb); clear hb) | (go_at_call 12; with_reducible refine (unhide hW _ ((unhide HP).below (unhide D).o hPlt) ((unhide HT).below (unhide D).o hTlt)).mono ?_; rintro e w' ⟨he, hb⟩; subst he; have D := hide ((unhide D).keep hb); clear hb))
  go_ret
  exact ⟨rfl, (unhide D).o⟩
theorem prd_0 (a b c d e f g h : Int) : prd a b c d e f g h 16 0 = 0 + a * e * 1 + b * f * -1 + c * g * -1 + d * h * -1 := rfl
theorem prd_1 (a b c d e f g h : Int) : prd a b c d e f g h 16 1 = 0 + a * f * 1 + b * e * 1 + c * h * 1 + d * g * -1 := rfl
theorem prd_2 (a b c d e f g h : Int) : prd a b c d e f g h 16 2 = 0 + a * g * 1 + c * e * 1 + d * f * 1 + b * h * -1 := rfl
theorem prd_3 (a b c d e f g h : Int) : prd a b c d e f g h 16 3 = 0 + a * h * 1 + d * e * 1 + b * g * 1 + c * f * -1 := rfl
theorem mul_back (a b c d : Int) : mulQ a b c d a (-b) (-c) (-d) 0 = cl (sq4 a b c d / 4294967296) ∧ mulQ a b c d a (-b) (-c) (-d) 1 = 0 ∧ mulQ a b c d a (-b) (-c) (-d) 2 = 0 ∧ mulQ a b c d a (-b) (-c) (-d) 3 = 0 := by
  unfold mulQ
  rw [prd_0, prd_1, prd_2, prd_3]
  refine ⟨?_, ?_, ?_, ?_⟩
  · rw [show 0 + a * a * 1 + b * -b * -1 + c * -c * -1 + d * -d * -1 = sq4 a b c d by unfold sq4; grind]
  · rw [show 0 + a * -b * 1 + b * a * 1 + c * -d * 1 + d * -c * -1 = 0 by grind]; decide
  · rw [show 0 + a * -c * 1 + c * a * 1 + d * -b * 1 + b * -d * -1 = 0 by grind]; decide
  · rw [show 0 + a * -d * 1 + d * a * 1 + b * -c * 1 + c * -b * -1 = 0 by grind]; decide
theorem back_mul (a b c d : Int) : mulQ a (-b) (-c) (-d) a b c d 0 = cl (sq4 a b c d / 4294967296) ∧ mulQ a (-b) (-c) (-d) a b c d 1 = 0 ∧ mulQ a (-b) (-c) (-d) a b c d 2 = 0 ∧ mulQ a (-b) (-c) (-d) a b c d 3 = 0 := by
  unfold mulQ
  rw [prd_0, prd_1, prd_2, prd_3]
  refine ⟨?_, ?_, ?_, ?_⟩
  · rw [show 0 + a * a * 1 + -b * b * -1 + -c * c * -1 + -d * d * -1 = sq4 a b c d by unfold sq4; grind]
  · rw [show 0 + a * b * 1 + -b * a * 1 + -c * d * 1 + -d * c * -1 = 0 by grind]; decide
  · rw [show 0 + a * c * 1 + -c * a * 1 + -d * b * 1 + -b * d * -1 = 0 by grind]; decide
  · rw [show 0 + a * d * 1 + -d * a * 1 + -b * c * 1 + -c * b * -1 = 0 by grind]; decide
theorem part_abs {x u S : Int} (h : PartU x u S) : ∃ f, 0 ≤ f ∧ f ≤ 4294967296 ∧ u * u = f * f ∧ f * f * S - 2 * f * S ≤ x * x * 18446744073709551616 ∧ x * x * 18446744073709551616 ≤ f * f * S + 2 * f * S + S := by
  obtain ⟨a1, a2, _, l, r⟩ := h
  have eu : u * u = (if u < 0 then -u else u) * (if u < 0 then -u else u) := by split <;> grind
  refine ⟨if u < 0 then -u else u, by split <;> omega, by split <;> omega, eu, ?_, ?_⟩
  · rw [← eu]; exact a1
  · rw [← eu]; exact a2
theorem unit4_sq {x y z t u v p q S : Int} (hS : 0 < S) (e : sq4 x y z t = S) (hx : PartU x u S) (hy : PartU y v S) (hz : PartU z p S) (ht : PartU t q S) : 18446744073709551616 - 34359738372 ≤ sq4 u v p q ∧ sq4 u v p q ≤ 18446744073709551616 + 34359738372 := by
  obtain ⟨f, f0, f1, fe, a1, a2⟩ := part_abs hx
  obtain ⟨g, g0, g1, ge, b1, b2⟩ := part_abs hy
  obtain ⟨h, h0, h1, he, c1, c2⟩ := part_abs hz
  obtain ⟨k, k0, k1, ke, d1, d2⟩ := part_abs ht
  have m1 : f * f + g * g + h * h + k * k - 2 * (f + g + h + k) ≤ 18446744073709551616 := by
    refine Int.le_of_mul_le_mul_right ?_ hS
    rw [show (f * f + g * g + h * h + k * k - 2 * (f + g + h + k)) * S = (f * f * S - 2 * f * S) + (g * g * S - 2 * g * S) + (h * h * S - 2 * h * S) + (k * k * S - 2 * k * S) by grind]
    unfold sq4 at e
    have e2 : 18446744073709551616 * S = x * x * 18446744073709551616 + y * y * 18446744073709551616 + z * z * 18446744073709551616 + t * t * 18446744073709551616 := by rw [← e]; grind
    omega
  have m2 : 18446744073709551616 ≤ f * f + g * g + h * h + k * k + 2 * (f + g + h + k) + 4 := by
    refine Int.le_of_mul_le_mul_right ?_ hS
    rw [show (f * f + g * g + h * h + k * k + 2 * (f + g + h + k) + 4) * S = (f * f * S + 2 * f * S + S) + (g * g * S + 2 * g * S + S) + (h * h * S + 2 * h * S + S) + (k * k * S + 2 * k * S + S) by grind]
    unfold sq4 at e
    have e2 : 18446744073709551616 * S = x * x * 18446744073709551616 + y * y * 18446744073709551616 + z * z * 18446744073709551616 + t * t * 18446744073709551616 := by rw [← e]; grind
    omega
  unfold sq4
  rw [fe, ge, he, ke]
  omega
theorem back_1 {u : Int} (l : -4294967296 ≤ u) (r : u ≤ 4294967296) : cl (0 - u) = -u := by
  rw [Int.zero_sub]
  exact cl_self ⟨by omega, by omega⟩
theorem quatUndone_walk (a b c d : Int) (k0 : (Lit.int .i64 a).wf = true) (l0 : (Lit.int .i64 b).wf = true) (m0 : (Lit.int .i64 c).wf = true) (n0 : (Lit.int .i64 d).wf = true) (w : World) (hP : Tab 1 tabP w) (hT : Tab 0 tabT w) :
    Calls Tryd.prog 9 #[.agg (q4 a b c d)] w fun e w' => e = .returned (.bool true) ∧ Below w.heap.size w w' := by
  have h0 := I64.wf k0
  have h1 := I64.wf l0
  have h2 := I64.wf m0
  have h3 := I64.wf n0
  rcases chk_cases (sq4 a b c d) with hc | hc
  · have hp : 0 < sq4 a b c d := by have := chk_pos hc; omega
    have hg := sq4_ge a b c d
    have hU := QUnitZ a b c d h0 h1 h2 h3 hc
    have p0 := shI_shr (x := a) hp hg.1
    have p1 := shI_shr (x := b) hp hg.2.1
    have p2 := shI_shr (x := c) hp hg.2.2.1
    have p3 := shI_shr (x := d) hp hg.2.2.2
    have hs := unit4_sq hp rfl p0 p1 p2 p3
    generalize shI a (sq4 a b c d) = u0 at *
    generalize shI b (sq4 a b c d) = u1 at *
    generalize shI c (sq4 a b c d) = u2 at *
    generalize shI d (sq4 a b c d) = u3 at *
    have i0 : I64 u0 := ⟨by have := p0.l; omega, by have := p0.r; omega⟩
    have i1 : I64 u1 := ⟨by have := p1.l; omega, by have := p1.r; omega⟩
    have i2 : I64 u2 := ⟨by have := p2.l; omega, by have := p2.r; omega⟩
    have i3 : I64 u3 := ⟨by have := p3.l; omega, by have := p3.r; omega⟩
    have j1 : I64 (-u1) := ⟨by have := p1.r; omega, by have := p1.l; omega⟩
    have j2 : I64 (-u2) := ⟨by have := p2.r; omega, by have := p2.l; omega⟩
    have j3 : I64 (-u3) := ⟨by have := p3.r; omega, by have := p3.l; omega⟩
    have hB := QBackZ u0 u1 u2 u3 i1 i2 i3
    rw [back_1 p1.l p1.r, back_1 p2.l p2.r, back_1 p3.l p3.r] at hB
    have hW : cl (sq4 u0 u1 u2 u3 / 4294967296) = sq4 u0 u1 u2 u3 / 4294967296 := cl_self ⟨by omega, by omega⟩
    obtain ⟨e0, e1, e2, e3⟩ := mul_back u0 u1 u2 u3
    obtain ⟨f0, f1, f2, f3⟩ := back_mul u0 u1 u2 u3
    refine undone_core a b c d u0 u1 u2 u3 (-u1) (-u2) (-u3) (sq4 u0 u1 u2 u3 / 4294967296) tabP tabT w hP hT (fun u p q => awake5Z u p q) hU hB (fun u p => ?_) (fun u p => ?_) (Near5 _ _ ⟨by omega, by omega⟩ ⟨by decide, by decide⟩ ⟨by omega, by omega⟩) (Near5 0 0 ⟨by decide, by decide⟩ ⟨by decide, by decide⟩ ⟨by decide, by decide⟩)
    · have k := QMulZ u0 u1 u2 u3 u0 (-u1) (-u2) (-u3) i0 i1 i2 i3 i0 j1 j2 j3 u p
      rw [e0, e1, e2, e3, hW] at k
      exact k
    · have k := QMulZ u0 (-u1) (-u2) (-u3) u0 u1 u2 u3 i0 j1 j2 j3 i0 i1 i2 i3 u p
      rw [f0, f1, f2, f3, hW] at k
      exact k
  · exact undone_bad a b c d tabP tabT w hP hT (fun u p q => awake5Z u p q) (QUnitBad a b c d h0 h1 h2 h3 hc)

end Go.Proofs.YtikmjfepflaokaaDoor

namespace Go.Proofs.YtikmjfepflaokaaDoor
open Go.RowKit
set_option maxRecDepth 4000
set_option linter.unusedVariables false

set_option maxHeartbeats 2000000 in
theorem nearOne_29 (S I O' W' D1 D2 : Nat) (c1 c2 : Int) (E : Bool) (w : World) (hL1 : decide (c1 ≤ 0) = true) (hL2 : decide (c2 ≤ 0) = true) (hI : Hid (Ans 46 #[.int .i64 1] (.agg (cells8 I)))) (hA : Hid (Ans 48 #[.agg (cells8 I), .int .i64 64] (.tuple #[.agg (cells8 O'), .bool E]))) (hB : Hid (Ans 48 #[.agg (cells8 I), .int .i64 (64 - 29)] (.tuple #[.agg (cells8 W'), .bool E])))
    (hM : Hid (Ans 49 #[.agg (cells8 S), .agg (cells8 O')] (.tuple #[.agg (cells8 D1), .bool E]))) (hN : Hid (Ans 50 #[.agg (cells8 D1)] (.tuple #[.agg (cells8 D2), .bool E]))) (hC1 : Hid (Ans 51 #[.agg (cells8 D1), .agg (cells8 W')] (.int .i64 c1))) (hC2 : Hid (Ans 51 #[.agg (cells8 D2), .agg (cells8 W')] (.int .i64 c2))) :
    Calls Tryd.prog 18 #[.agg (cells8 S), .int .i64 29] w fun e w' => e = .returned (.bool true) ∧ Below w.heap.size w w' := by
  simp only [Int.reduceSub] at hB
  go_enter Tryd.func18, Tryd.ntmps18
  go_upto_region 1 with fail
  have D := hide ((Gen.start w).push 42 (cells8 S))
  go_wp2_with (first | (with_reducible refine at_list ?_; apply ldG (unhide D) rWide _ rfl rfl rfl (by repeat (first | exact List.mem_cons_self | apply List.mem_cons_of_mem)) rfl) | (with_reducible refine at_list ?_; apply ldGw (unhide D) rWide _ rfl rfl rfl (by repeat (first | exact List.mem_cons_self | apply List.mem_cons_of_mem)) rfl) | (go_at_call 46; with_reducible refine (unhide hI _).mono ?_; rintro e w' ⟨he, hb⟩; subst he; have D := hide ((unhide D).keep hb); clear hb) | (go_at_call 48; with_reducible refine (unhide hA _).mono ?_; rintro e w' ⟨he, hb⟩; subst he; have D := hide ((unhide D).keep hb); clear hb) | (go_at_call 48; with_reducible refine (unhide hB _).mono ?_; rintro e w' ⟨he, hb⟩; subst he; have D := hide ((unhide D).keep hb); clear hb) | (go_at_call 49; with_reducible refine (unhide hM _).mono ?_; rintro e w' ⟨he, hb⟩; subst he; have D := hide ((unhide D).keep hb); clear hb) | (go_at_call 50; with_reducible refine (unhide hN _).mono ?_; rintro e w' ⟨he, hb⟩; subst he; have D := hide ((unhide D).keep hb); clear hb) | (with_reducible refine at_list ?_; refine stG (unhide D) rWide _ _ rfl rfl rfl rfl rfl rfl (cells8_one _) ?_; intro D'; have D := hide D'; clear D') | (go_at_call 51; with_reducible refine (unhide hC1 _).mono ?_; rintro e w' ⟨he, hb⟩; subst he; have D := hide ((unhide D).keep hb); clear hb) | (go_at_call 51; with_reducible refine (unhide hC2 _).mono ?_; rintro e w' ⟨he, hb⟩; subst he; have D := hide ((unhide D).keep hb); clear hb) | (with_reducible refine at_list ?_;  refine leqZ _ _ hL1 rfl rfl rfl rfl ?_) | (with_reducible refine at_list ?_;  refine leqZw _ _ hL2 rfl rfl rfl rfl ?_))
  go_ret
  exact ⟨rfl, (unhide D).o⟩
set_option maxHeartbeats 2000000 in
theorem nearOne_30 (S I O' W' D1 D2 : Nat) (c1 c2 : Int) (E : Bool) (w : World) (hL1 : decide (c1 ≤ 0) = true) (hL2 : decide (c2 ≤ 0) = true) (hI : Hid (Ans 46 #[.int .i64 1] (.agg (cells8 I)))) (hA : Hid (Ans 48 #[.agg (cells8 I), .int .i64 64] (.tuple #[.agg (cells8 O'), .bool E]))) (hB : Hid (Ans 48 #[.agg (cells8 I), .int .i64 (64 - 30)] (.tuple #[.agg (cells8 W'), .bool E])))
    (hM : Hid (Ans 49 #[.agg (cells8 S), .agg (cells8 O')] (.tuple #[.agg (cells8 D1), .bool E]))) (hN : Hid (Ans 50 #[.agg (cells8 D1)] (.tuple #[.agg (cells8 D2), .bool E]))) (hC1 : Hid (Ans 51 #[.agg (cells8 D1), .agg (cells8 W')] (.int .i64 c1))) (hC2 : Hid (Ans 51 #[.agg (cells8 D2), .agg (cells8 W')] (.int .i64 c2))) :
    Calls Tryd.prog 18 #[.agg (cells8 S), .int .i64 30] w fun e w' => e = .returned (.bool true) ∧ Below w.heap.size w w' := by
  simp only [Int.reduceSub] at hB
  go_enter Tryd.func18, Tryd.ntmps18
  go_upto_region 1 with fail
  have D := hide ((Gen.start w).push 42 (cells8 S))
  go_wp2_with (first | (with_reducible refine at_list ?_; apply ldG (unhide D) rWide _ rfl rfl rfl (by repeat (first | exact List.mem_cons_self | apply List.mem_cons_of_mem)) rfl) | (with_reducible refine at_list ?_; apply ldGw (unhide D) rWide _ rfl rfl rfl (by repeat (first | exact List.mem_cons_self | apply List.mem_cons_of_mem)) rfl) | (go_at_call 46; with_reducible refine (unhide hI _).mono ?_; rintro e w' ⟨he, hb⟩; subst he; have D := hide ((unhide D).keep hb); clear hb) | (go_at_call 48; with_reducible refine (unhide hA _).mono ?_; rintro e w' ⟨he, hb⟩; subst he; have D := hide ((unhide D).keep hb); clear hb) | (go_at_call 48; with_reducible refine (unhide hB _).mono ?_; rintro e w' ⟨he, hb⟩; subst he; have D := hide ((unhide D).keep hb); clear hb) | (go_at_call 49; with_reducible refine (unhide hM _).mono ?_; rintro e w' ⟨he, hb⟩; subst he; have D := hide ((unhide D).keep hb); clear hb) | (go_at_call 50; with_reducible refine (unhide hN _).mono ?_; rintro e w' ⟨he, hb⟩; subst he; have D := hide ((unhide D).keep hb); clear hb) | (with_reducible refine at_list ?_; refine stG (unhide D) rWide _ _ rfl rfl rfl rfl rfl rfl (cells8_one _) ?_; intro D'; have D := hide D'; clear D') | (go_at_call 51; with_reducible refine (unhide hC1 _).mono ?_; rintro e w' ⟨he, hb⟩; subst he; have D := hide ((unhide D).keep hb); clear hb) | (go_at_call 51; with_reducible refine (unhide hC2 _).mono ?_; rintro e w' ⟨he, hb⟩; subst he; have D := hide ((unhide D).keep hb); clear hb) | (with_reducible refine at_list ?_;  refine leqZ _ _ hL1 rfl rfl rfl rfl ?_) | (with_reducible refine at_list ?_;  refine leqZw _ _ hL2 rfl rfl rfl rfl ?_))
  go_ret
  exact ⟨rfl, (unhide D).o⟩
theorem slFix : Tryd.prog.underlying 44 = some (.slice (Tryd.prog.elem 44)) := by kernel_rfl
theorem elFix : (Tryd.prog.info? (Tryd.prog.elem 44)).map (·.size) = some 1 := by kernel_rfl
theorem exec_ixS {o : Oper} {a : Act} (w : World) {g k n : Nat} (x y : Operand) (hk : k < n) (ho : o.op = .indexAddr 44 x y) (hx : a.eval x = .slice (some ⟨g, 0, none⟩) n n) (hy : a.eval y = .int .i64 k) : (execOp a.eval o).run Tryd.prog w = .ok (.value (.pointer (some ⟨g, k, none⟩))) w := by
  unfold execOp
  simp only [ho, hx, hy, Sem.run_bind, run_indexAt_slice w _ _ _ _ _ _ slFix]
  rw [if_pos ⟨by omega, by omega⟩, run_sizeOf elFix]
  simp only [Result.andThen_ok, Sem.run_pure, Addr.add_mid, Int.toNat_natCast, Nat.zero_add, Nat.mul_one]
set_option maxHeartbeats 4000000 in
theorem squares_core (n p : Nat) (xs : Nat → Int) (os ms ss : Nat → Nat) (w : World) (hn : n ≤ 8) (hp : p < w.heap.size) (h0 : Hid (ss 0 = 0)) (hR : Hid (∀ k, k < n → w.cell? ⟨p, k, none⟩ = some (.int .i64 (xs k))))
    (hO : Hid (∀ k, k < n → Ans 46 #[.int .i64 (xs k)] (.agg (cells8 (os k))))) (hM : Hid (∀ k, k < n → Ans 45 #[.agg (cells8 (os k)), .agg (cells8 (os k))] (.tuple #[.agg (cells8 (ms k)), .bool true]))) (hA : Hid (∀ k, k < n → Ans 47 #[.agg (cells8 (ss k)), .agg (cells8 (ms k))] (.tuple #[.agg (cells8 (ss (k + 1))), .bool true]))) :
    Calls Tryd.prog 16 #[.slice (some ⟨p, 0, none⟩) n n] w fun e w' => e = .returned (.agg (cells8 (ss n))) ∧ Below w.heap.size w w' := by
  go_enter Tryd.func16, Tryd.ntmps16
  go_upto_region 2 with fail
  have D := hide (((Gen.start w).push 42 z8).push 42 z8)
  simp only [szA] at D
  generalize hgz : ((w.alloc (.cells z8 42)).alloc (.cells z8 42)) = w1 at D ⊢
  clear hgz
  rw [show z8 = cells8 0 from cells8_0.symm] at D
  go_wp2_with fail
  go_loopw [4] (fun i wr => ∃ k : Nat, k ≤ n ∧ i = .int .i64 k ∧ Hid (Gen w [(w.heap.size + 1, 42, cells8 (ss k)), (w.heap.size, 42, cells8 0)] wr)) (fun i _ => n - (intOf i).toNat)
  case atStart => exact ⟨0, by omega, rfl, by rw [unhide h0]; exact D⟩
  case round =>
    obtain ⟨k, hk, rfl, hD⟩ := hrel
    by_cases hkn : k < n
    · have hg : (k : Int) < n := by omega
      have Rk := hide (unhide hR k hkn)
      have Ok := hide (unhide hO k hkn)
      have Mk := hide (unhide hM k hkn)
      have Ak := hide (unhide hA k hkn)
      clear hR hO hM hA D
      have D := hD
      clear hD
      go_upto_region 5 with fail
      have D1 : Hid (GenZ w _ wr.heap.size wr.drew) := ⟨(unhide D).drew, Nat.le_refl _⟩
      have hlt := hide (fun (p : Nat × TypeId × Array Value) hp => ((unhide D).at_ p hp).lt)
      have hw0 := hide (unhide D).o.size
      clear D
      generalize wr.heap.size = C at D1 hlt hw0
      refine region_lazy (S := GenZ w _ C) (v := .bool true) (ty := 42) (zs := z8) (base := C) (l := [0, 1, 2, 3, 4, 5, 6, 7, 8, 9, 10, 11, 12]) (A := [14]) (z := 13) (t := 15) (r := [16]) (by kernel_rfl) (by kernel_rfl) (by kernel_rfl) (by kernel_rfl) (by kernel_rfl) (by kernel_rfl) (by kernel_rfl) (by kernel_rfl) (by kernel_rfl) (by kernel_rfl) rfl rfl ?_ (fun _ _ h hb => h.keep hb) (fun _ h => h.s) (unhide D1) ?_
      · intro i hi
        simp at hi
        subst hi
        exact ⟨_, rfl, rfl, fun a w => by go_simp⟩
      clear D1
      refine planB_read (v := ?_) rfl rfl (fun u hS => by go_simp; rfl) ?_
      go_simp
      refine planB_read (v := ?_) rfl rfl (fun u hS => by go_simp; rfl) ?_
      go_simp
      refine planB_read (v := .pointer (some ⟨p, k, none⟩)) rfl rfl (fun u hS => exec_ixS u (.tmp 16) (.tmp 17) (show k < n from hkn) rfl rfl rfl) ?_
      go_simp
      refine planB_read (v := .int .i64 (xs k)) rfl rfl (fun u hS => exec_loadF (.tmp 18) rfl rfl ((hS.e.o.cell (p := ⟨p, k, none⟩) hp).trans (unhide Rk))) ?_
      go_simp
      refine planB_call (v := .agg (cells8 (os k))) (f := 46) (args := #[.int .i64 (xs k)]) rfl rfl (fun u hS => by go_simp) (fun u hS => (unhide Ok u).mono fun _ _ ⟨he, hb⟩ => ⟨he, hS.keep hb, hb⟩) ?_
      go_simp
      refine planB_read (v := ?_) rfl rfl (fun u hS => by go_simp; rfl) ?_
      go_simp
      refine planB_read (v := ?_) rfl rfl (fun u hS => by go_simp; rfl) ?_
      go_simp
      refine planB_read (v := .pointer (some ⟨p, k, none⟩)) rfl rfl (fun u hS => exec_ixS u (.tmp 21) (.tmp 22) (show k < n from hkn) rfl rfl rfl) ?_
      go_simp
      refine planB_read (v := .int .i64 (xs k)) rfl rfl (fun u hS => exec_loadF (.tmp 23) rfl rfl ((hS.e.o.cell (p := ⟨p, k, none⟩) hp).trans (unhide Rk))) ?_
      go_simp
      refine planB_call (v := .agg (cells8 (os k))) (f := 46) (args := #[.int .i64 (xs k)]) rfl rfl (fun u hS => by go_simp) (fun u hS => (unhide Ok u).mono fun _ _ ⟨he, hb⟩ => ⟨he, hS.keep hb, hb⟩) ?_
      go_simp
      refine planB_call (v := .tuple #[.agg (cells8 (ms k)), .bool true]) (f := 45) (args := #[.agg (cells8 (os k)), .agg (cells8 (os k))]) rfl rfl (fun u hS => by go_simp) (fun u hS => (unhide Mk u).mono fun _ _ ⟨he, hb⟩ => ⟨he, hS.keep hb, hb⟩) ?_
      go_simp
      refine planB_read (v := ?_) rfl rfl (fun u hS => by go_simp; rfl) ?_
      go_simp
      refine planB_read (v := ?_) rfl rfl (fun u hS => by go_simp; rfl) ?_
      go_simp
      refine planB_lazy rfl (fun u => by go_simp) rfl rfl (fun cc u hS hB hI2 => ?_)
      have hB7 := hB 14 (by simp)
      clear hB hI2
      simp only [pa, dstOf]
      generalize cc 14 = c7 at hB7 ⊢
      have D := hide (hS.e.fillZ (cs := cells8 (ms k)) (unhide hlt) (unhide hw0) hB7.1 hB7.2)
      refine ⟨_, exec_store8 (n := ms k) 42 (.tmp 5) (.tmp 27) hB7.1 rfl rfl rfl rfl iWide, ?_⟩
      clear hS hB7 hlt hw0 Rk Ok Mk
      generalize u.setRow c7 (cells8 (ms k)) = u1 at D ⊢
      simp only [opsOf]
      go_simp
      go_upto_region 7 with (first | (with_reducible refine at_list ?_; apply ldG (unhide D) rWide _ rfl rfl rfl (by repeat (first | exact List.mem_cons_self | apply List.mem_cons_of_mem)) rfl) | (go_at_call 47; with_reducible refine (unhide Ak _).mono ?_; rintro e w' ⟨he, hb⟩; subst he; have D := hide ((unhide D).keep hb); clear hb) | (with_reducible refine at_list ?_; refine stG (unhide D) rWide _ _ rfl rfl rfl rfl rfl rfl (cells8_one _) ?_; intro D'; have D := hide D'; clear D'))
      clear Ak
      go_upto_region 4 with (first | (with_reducible refine at_list ?_; apply ldG (unhide D) rWide _ rfl rfl rfl (by repeat (first | exact List.mem_cons_self | apply List.mem_cons_of_mem)) rfl) | (with_reducible refine at_list ?_;  have B3 := hide ((unhide D).blk (g := w.heap.size + 1) (t := 42) (cs := cells8 (ss k)) (by repeat (first | exact List.mem_cons_self | apply List.mem_cons_of_mem))); have B2 := hide ((unhide D).blk (g := w.heap.size) (t := 42) (cs := cells8 0) (by repeat (first | exact List.mem_cons_self | apply List.mem_cons_of_mem))); have O3 := hide (unhide D).o; refine st8 (n := ss (k + 1)) 42 (.tmp 3) (.tmp 35) (unhide B3) rfl rfl rfl rfl rfl iWide ?_))
      have D := hide (Gen.pair ((unhide B3).row (cells8 (ss (k + 1)))) ((unhide B2).rowOther (cells8 (ss (k + 1))) (by omega)) (below_row (unhide O3) (show w.heap.size ≤ w.heap.size + 1 by omega) (cells8 (ss (k + 1)))))
      clear B2 B3 O3
      go_wp2
      go_roundw
      case rel => exact ⟨k + 1, by omega, by go_num, D⟩
      case measure => simp [intOf]; omega
    · obtain rfl : k = n := by omega
      have D := hD
      clear hD hR hO hM hA
      go_wp2_with (first | (with_reducible refine at_list ?_; apply ldG (unhide D) rWide _ rfl rfl rfl (by repeat (first | exact List.mem_cons_self | apply List.mem_cons_of_mem)) rfl) | (with_reducible refine at_list ?_; apply stGend (unhide D) rWide _ _ rfl rfl rfl rfl (by repeat (first | exact List.mem_cons_self | apply List.mem_cons_of_mem)) (by omega) rfl rfl (cells8_one _); intro B O))
      exact resG rWide (unhide B) rfl rfl rfl rfl ⟨rfl, unhide O⟩

end Go.Proofs.YtikmjfepflaokaaDoor

namespace Go.Proofs.YtikmjfepflaokaaDoor
open Go.RowKit
set_option maxRecDepth 4000
set_option linter.unusedVariables false

/-- The two matrices are the same. -/
def sameM (X Y : Nat → Int) : Bool := sameV (X 0) (X 1) (X 2) (Y 0) (Y 1) (Y 2) && (sameV (X 3) (X 4) (X 5) (Y 3) (Y 4) (Y 5) && sameV (X 6) (X 7) (X 8) (Y 6) (Y 7) (Y 8))
theorem run_vecD (D : Nat) (x y z a b c : Int) (w : World) : (Op.equalIn (D + 2) 26 (.agg (v3 x y z)) (.agg (v3 a b c))).run Tryd.prog w = .ok (sameV x y z a b c) w := by
  have hf : ((Tryd.prog.fieldsOf 26).toList.map fun f => (f.name, f.type, f.offset)) = [("X", 22, 0), ("Y", 22, 1), ("Z", 22, 2)] := by kernel_rfl
  rw [run_equalIn_struct w _ 26 _ _ (by kernel_rfl) (by kernel_rfl)]
  generalize (Tryd.prog.fieldsOf 26).toList = l at hf ⊢
  have hlen : l.length = 3 := by
    have := congrArg List.length hf
    simpa using this
  match l, hlen, hf with
  | [f0, f1, f2], _, hf =>
    simp only [List.map_cons, List.map_nil, List.cons.injEq, Prod.mk.injEq, and_true] at hf
    obtain ⟨⟨n0, t0, o0⟩, ⟨n1, t1, o1⟩, ⟨n2, t2, o2⟩⟩ := hf
    have e : ∀ w (p q : Int), (Op.equalIn (D + 1) 22 (.int .i64 p) (.int .i64 q)).run Tryd.prog w = .ok (p == q) w := fun w p q => run_equalIn_int w D 22 _ _ _ _ Tryd.underlying22
    have m0 : f0.name ≠ "_" := by rw [n0]; decide
    have m1 : f1.name ≠ "_" := by rw [n1]; decide
    have m2 : f2.name ≠ "_" := by rw [n2]; decide
    have p0 : ∀ (x y z : Int) w, (Go.part 22 (v3 x y z) 0).run Tryd.prog w = .ok (.int .i64 x) w := fun x y z w => part_fix rfl w
    have p1 : ∀ (x y z : Int) w, (Go.part 22 (v3 x y z) 1).run Tryd.prog w = .ok (.int .i64 y) w := fun x y z w => part_fix rfl w
    have p2 : ∀ (x y z : Int) w, (Go.part 22 (v3 x y z) 2).run Tryd.prog w = .ok (.int .i64 z) w := fun x y z w => part_fix rfl w
    simp only [Op.eqFields, if_pos m0, if_pos m1, if_pos m2, t0, t1, t2, o0, o1, o2, Sem.run_bind, p0, Result.andThen_ok, e]
    unfold sameV
    by_cases h0 : x = a <;> by_cases h1 : y = b <;> by_cases h2 : z = c <;> simp [h0, h1, h2, p1, p2, e]
theorem part_row (X : Nat → Int) {k : Nat} (h : k < 3) (w : World) : (Go.part 26 (m9 X) (k * 3)).run Tryd.prog w = .ok (.agg (v3 (X (k * 3)) (X (k * 3 + 1)) (X (k * 3 + 2)))) w := by
  rcases (show k = 0 ∨ k = 1 ∨ k = 2 by omega) with rfl | rfl | rfl <;> kernel_rfl
theorem part_all (X : Nat → Int) (w : World) : (Go.part 27 (m9 X) 0).run Tryd.prog w = .ok (.agg (m9 X)) w := by kernel_rfl
theorem eq_arr3G (t T : TypeId) (ht : Tryd.prog.underlying t = some (.array 3 T)) (n : Nat) (hs : ∀ w, (sizeOf T).run Tryd.prog w = .ok n w) (D : Nat) (cs ds : Array Value) (x0 x1 x2 y0 y1 y2 : Value) (b0 b1 b2 : Bool)
    (p0 : ∀ w, (Go.part T cs (0 * n)).run Tryd.prog w = .ok x0 w) (p1 : ∀ w, (Go.part T cs (1 * n)).run Tryd.prog w = .ok x1 w) (p2 : ∀ w, (Go.part T cs (2 * n)).run Tryd.prog w = .ok x2 w)
    (q0 : ∀ w, (Go.part T ds (0 * n)).run Tryd.prog w = .ok y0 w) (q1 : ∀ w, (Go.part T ds (1 * n)).run Tryd.prog w = .ok y1 w) (q2 : ∀ w, (Go.part T ds (2 * n)).run Tryd.prog w = .ok y2 w)
    (e0 : ∀ w, (Op.equalIn D T x0 y0).run Tryd.prog w = .ok b0 w) (e1 : ∀ w, (Op.equalIn D T x1 y1).run Tryd.prog w = .ok b1 w) (e2 : ∀ w, (Op.equalIn D T x2 y2).run Tryd.prog w = .ok b2 w) (w : World) :
    (Op.equalIn (D + 1) t (.agg cs) (.agg ds)).run Tryd.prog w = .ok (b0 && (b1 && b2)) w := by
  simp only [Op.equalIn, Sem.run_bind, run_underlying ht, Result.andThen_ok, hs]
  simp only [Std.Legacy.Range.forIn_eq_forIn_range', Std.Legacy.Range.size, Nat.sub_zero, Nat.add_sub_cancel, Nat.div_one]
  rw [show List.range' 0 3 = [0, 1, 2] from rfl]
  simp only [List.forIn_cons, List.forIn_nil, Sem.run_bind, p0, q0, e0, Result.andThen_ok]
  simp only [Nat.one_mul] at p1 q1
  cases b0
  · simp [Result.andThen]
  · cases b1
    · simp [Sem.run_bind, Result.andThen, p1, q1, e1]
    · cases b2 <;> simp [Sem.run_bind, Result.andThen, p1, q1, e1, p2, q2, e2]
theorem eq_arrV (D : Nat) (X Y : Nat → Int) (w : World) : (Op.equalIn (D + 3) 27 (.agg (m9 X)) (.agg (m9 Y))).run Tryd.prog w = .ok (sameM X Y) w :=
  eq_arr3G 27 26 Tryd.underlying27 3 (fun w => run_sizeOf (by kernel_rfl) w) (D + 2) (m9 X) (m9 Y) _ _ _ _ _ _ _ _ _
    (fun w => part_row X (k := 0) (by decide) w) (fun w => part_row X (k := 1) (by decide) w) (fun w => part_row X (k := 2) (by decide) w)
    (fun w => part_row Y (k := 0) (by decide) w) (fun w => part_row Y (k := 1) (by decide) w) (fun w => part_row Y (k := 2) (by decide) w)
    (fun w => run_vecD D _ _ _ _ _ _ w) (fun w => run_vecD D _ _ _ _ _ _ w) (fun w => run_vecD D _ _ _ _ _ _ w) w
theorem run_mat (X Y : Nat → Int) (w : World) : (Op.equalIn 10000 29 (.agg (m9 X)) (.agg (m9 Y))).run Tryd.prog w = .ok (sameM X Y) w := by
  have hf : ((Tryd.prog.fieldsOf 29).toList.map fun f => (f.name, f.type, f.offset)) = [("R", 27, 0)] := by kernel_rfl
  rw [show (10000 : Nat) = 9999 + 1 from rfl, run_equalIn_struct w _ 29 _ _ (by kernel_rfl) (by kernel_rfl)]
  generalize (Tryd.prog.fieldsOf 29).toList = l at hf ⊢
  have hlen : l.length = 1 := by
    have := congrArg List.length hf
    simpa using this
  match l, hlen, hf with
  | [f0], _, hf =>
    simp only [List.map_cons, List.map_nil, List.cons.injEq, Prod.mk.injEq, and_true] at hf
    obtain ⟨n0, t0, o0⟩ := hf
    have m0 : f0.name ≠ "_" := by rw [n0]; decide
    have e : (Op.equalIn 9999 27 (.agg (m9 X)) (.agg (m9 Y))).run Tryd.prog w = .ok (sameM X Y) w := eq_arrV 9996 X Y w
    simp only [Op.eqFields, if_pos m0, t0, o0, Sem.run_bind, part_all, Result.andThen_ok, e]
    cases sameM X Y <;> rfl
theorem gMat : Tryd.prog.eqGuardType Tryd.prog.depth 29 = false := by kernel_rfl
section
variable {o : Oper} {ac : Act} (wd : World) (p q : Operand) {ty' : TypeId} {s : Bool} {X Y : Nat → Int}
theorem exec_eql_mat (hb : sameM X Y = s) (ho : o.op = .binOp .eql 29 p q ty') (hx : ac.eval p = .agg (m9 X)) (hy : ac.eval q = .agg (m9 Y)) : (execOp ac.eval o).run Tryd.prog wd = .ok (.value (.bool s)) wd := by
  subst hb
  unfold execOp
  simp only [ho, hx, hy, Sem.run_bind, run_eqGuard_agg wd _ 29 _ _ _ _ gMat, run_eql_struct, run_mat, Result.andThen_ok, Sem.run_pure]
variable {ops : Array Oper} {rest : List Oper} {Q : Exit → Act → World → Prop}
theorem eqlM (hb : sameM X Y = s) (ho : o.op = .binOp .eql 29 p q ty') (hgd : o.guard = none) (hx : ac.eval p = .agg (m9 X)) (hy : ac.eval q = .agg (m9 Y))
    (h : wpList Tryd.prog ops Q rest (ac.put o.dst (.bool s)) wd) : wpList Tryd.prog ops Q (o :: rest) ac wd := wpList_value hgd (exec_eql_mat wd p q hb ho hx hy) h
theorem eqlMw (hb : sameM X Y = s) (ho : o.op = .binOp .eql 29 p q ty') (hgd : Region.wanted o (yielded ops ac.tmps) = true) (hx : ac.eval p = .agg (m9 X)) (hy : ac.eval q = .agg (m9 Y))
    (h : wpList Tryd.prog ops Q rest (ac.put o.dst (.bool s)) wd) : wpList Tryd.prog ops Q (o :: rest) ac wd := wpList_valuew hgd (exec_eql_mat wd p q hb ho hx hy) h
end
theorem sameM_self (X : Nat → Int) : sameM X X = true := by simp [sameM, sameV]
theorem sameM_of {X Y : Nat → Int} (h : ∀ j, j < 9 → X j = Y j) : sameM X Y = true := by
  unfold sameM sameV
  rw [h 0 (by decide), h 1 (by decide), h 2 (by decide), h 3 (by decide), h 4 (by decide), h 5 (by decide), h 6 (by decide), h 7 (by decide), h 8 (by decide)]
  simp

end Go.Proofs.YtikmjfepflaokaaDoor

namespace Go.Proofs.YtikmjfepflaokaaDoor
open Go.RowKit
set_option maxRecDepth 4000
set_option linter.unusedVariables false

/-- A part of a square, as the matrix has it. -/
theorem partQ {n s : Int} (hs : 0 < s) (hn : n * n ≤ s * s) : ∃ m r, (n * 4294967296).fdiv s = r ∧ 0 ≤ m ∧ (n = m ∨ n = -m) ∧ m ≤ s ∧ -4294967296 ≤ r ∧ r ≤ 4294967296 ∧ ∃ p, n * 4294967296 = r * s + p ∧ 0 ≤ p ∧ p < s := by
  have hd : (n * 4294967296).fdiv s = (n * 4294967296) / s := Int.fdiv_eq_ediv_of_nonneg _ (by omega)
  have h1 := Int.mul_ediv_add_emod (n * 4294967296) s
  have h2 := Int.emod_nonneg (n * 4294967296) (show s ≠ 0 by omega)
  have h3 := Int.emod_lt_of_pos (n * 4294967296) hs
  have hm : ∃ m, 0 ≤ m ∧ (n = m ∨ n = -m) := by
    rcases Int.le_total 0 n with h | h
    · exact ⟨n, h, .inl rfl⟩
    · exact ⟨-n, by omega, .inr (by omega)⟩
  obtain ⟨m, m0, me⟩ := hm
  have hms : m ≤ s := le_of_sq (by omega) (by rcases me with rfl | rfl; exact hn; rwa [Int.neg_mul_neg] at hn)
  generalize hr : (n * 4294967296) / s = r at *
  generalize hp : (n * 4294967296) % s = p at *
  have hc : r * s = s * r := Int.mul_comm _ _
  refine ⟨m, r, hd, m0, me, hms, ?_, ?_, p, by omega, h2, h3⟩
  · rcases Int.lt_or_le r (-4294967296) with g | g
    · exfalso
      have : (r + 1) * s ≤ (-4294967296) * s := Int.mul_le_mul_of_nonneg_right (by omega) (by omega)
      rw [Int.add_mul, Int.one_mul] at this
      omega
    · exact g
  · rcases Int.lt_or_le 4294967296 r with g | g
    · exfalso
      have : 4294967297 * s ≤ r * s := Int.mul_le_mul_of_nonneg_right (by omega) (by omega)
      omega
    · exact g
theorem three_sq (f g h : Int) : (f + g + h) * (f + g + h) ≤ 3 * (f * f + g * g + h * h) := by
  have q1 := sq0 (f - g)
  have q2 := sq0 (f - h)
  have q3 := sq0 (g - h)
  have e : 3 * (f * f + g * g + h * h) = (f + g + h) * (f + g + h) + (f - g) * (f - g) + (f - h) * (f - h) + (g - h) * (g - h) := by clear q1 q2 q3; grind
  rw [e]
  omega
/-- A product with what is left. -/
theorem left_le {n m p s : Int} (m0 : 0 ≤ m) (me : n = m ∨ n = -m) (p0 : 0 ≤ p) (p1 : p < s) : n * p ≤ m * s ∧ -(m * s) ≤ n * p ∧ 0 ≤ p * p ∧ p * p ≤ s * s := by
  have h1 : 0 ≤ m * p := Int.mul_nonneg m0 p0
  have h2 : m * p ≤ m * s := Int.mul_le_mul_of_nonneg_left (by omega) m0
  have h3 : p * p ≤ s * s := Int.mul_le_mul (by omega) (by omega) p0 (by omega)
  have h4 : 0 ≤ p * p := Int.mul_nonneg p0 p0
  rcases me with rfl | rfl
  · exact ⟨by omega, by omega, h4, h3⟩
  · rw [Int.neg_mul]
    exact ⟨by omega, by omega, h4, h3⟩
theorem part_sq {n r p s : Int} (e : n * 4294967296 = r * s + p) : r * r * (s * s) = n * n * 18446744073709551616 - 8589934592 * (n * p) + p * p := by
  have e2 : r * s = n * 4294967296 - p := by omega
  have e3 : r * r * (s * s) = (r * s) * (r * s) := by clear e e2; grind
  rw [e3, e2]
  clear e e2 e3
  grind
/-- Three such parts of one square. -/
theorem three_near {n0 n1 n2 s : Int} (hs : 0 < s) (e : n0 * n0 + n1 * n1 + n2 * n2 = s * s) : ∃ r0 r1 r2, (n0 * 4294967296).fdiv s = r0 ∧ (n1 * 4294967296).fdiv s = r1 ∧ (n2 * 4294967296).fdiv s = r2 ∧
    (-4294967296 ≤ r0 ∧ r0 ≤ 4294967296) ∧ (-4294967296 ≤ r1 ∧ r1 ≤ 4294967296) ∧ (-4294967296 ≤ r2 ∧ r2 ≤ 4294967296) ∧ r0 * r0 + r1 * r1 + r2 * r2 - 18446744073709551616 ≤ 17179869184 ∧ -(r0 * r0 + r1 * r1 + r2 * r2 - 18446744073709551616) ≤ 17179869184 := by
  have k0 := sq0 n0
  have k1 := sq0 n1
  have k2 := sq0 n2
  obtain ⟨m0, r0, d0, a0, b0, c0, l0, u0, p0, e0, f0, g0⟩ := partQ hs (show n0 * n0 ≤ s * s by omega)
  obtain ⟨m1, r1, d1, a1, b1, c1, l1, u1, p1, e1, f1, g1⟩ := partQ hs (show n1 * n1 ≤ s * s by omega)
  obtain ⟨m2, r2, d2, a2, b2, c2, l2, u2, p2, e2, f2, g2⟩ := partQ hs (show n2 * n2 ≤ s * s by omega)
  refine ⟨r0, r1, r2, d0, d1, d2, ⟨l0, u0⟩, ⟨l1, u1⟩, ⟨l2, u2⟩, ?_⟩
  have sm : ∀ {n m : Int}, (n = m ∨ n = -m) → n * n = m * m := fun h => by
    rcases h with rfl | rfl
    · rfl
    · rw [Int.neg_mul_neg]
  have em : m0 * m0 + m1 * m1 + m2 * m2 = s * s := by rw [← sm b0, ← sm b1, ← sm b2]; exact e
  have h3 := three_sq m0 m1 m2
  rw [em] at h3
  have hM : 4 * (m0 + m1 + m2) ≤ 7 * s := by
    refine le_of_sq (by omega) ?_
    have x1 : 4 * (m0 + m1 + m2) * (4 * (m0 + m1 + m2)) = 16 * ((m0 + m1 + m2) * (m0 + m1 + m2)) := by clear h3 em e e0 e1 e2; grind
    have x2 : 7 * s * (7 * s) = 49 * (s * s) := by clear h3 em e e0 e1 e2 x1; grind
    have x3 := sq0 s
    rw [x1, x2]
    omega
  have hMs : 4 * (m0 * s + m1 * s + m2 * s) ≤ 7 * (s * s) := by
    have x1 : 4 * (m0 + m1 + m2) * s ≤ 7 * s * s := Int.mul_le_mul_of_nonneg_right hM (by omega)
    have x2 : 4 * (m0 + m1 + m2) * s = 4 * (m0 * s + m1 * s + m2 * s) := by clear x1 h3 em e e0 e1 e2; grind
    have x3 : 7 * s * s = 7 * (s * s) := Int.mul_assoc _ _ _
    rw [x2, x3] at x1
    exact x1
  have t0 := left_le a0 b0 f0 g0
  have t1 := left_le a1 b1 f1 g1
  have t2 := left_le a2 b2 f2 g2
  have s0 := part_sq e0
  have s1 := part_sq e1
  have s2 := part_sq e2
  have hss : 0 < s * s := Int.mul_pos hs hs
  have key : (r0 * r0 + r1 * r1 + r2 * r2 - 18446744073709551616) * (s * s) = -(8589934592 * (n0 * p0 + n1 * p1 + n2 * p2)) + (p0 * p0 + p1 * p1 + p2 * p2) := by
    have x1 : (r0 * r0 + r1 * r1 + r2 * r2 - 18446744073709551616) * (s * s) = r0 * r0 * (s * s) + r1 * r1 * (s * s) + r2 * r2 * (s * s) - 18446744073709551616 * (s * s) := by
      rw [Int.sub_mul, Int.add_mul, Int.add_mul]
    rw [x1, s0, s1, s2, ← e]
    omega
  generalize r0 * r0 + r1 * r1 + r2 * r2 - 18446744073709551616 = D at key ⊢
  constructor
  · refine Int.le_of_mul_le_mul_right ?_ hss
    rw [key]
    omega
  · refine Int.le_of_mul_le_mul_right ?_ hss
    rw [Int.neg_mul, key]
    omega
theorem cl_near {r : Int} (h : -4294967296 ≤ r ∧ r ≤ 4294967296) : cl r = r := cl_self ⟨by omega, by omega⟩
theorem trnR_0 (a b c d : Int) : trn a b c d 24 0 = 0 + a * a * 1 + b * b * 1 + c * c * -1 + d * d * -1 := rfl
theorem trnR_1 (a b c d : Int) : trn a b c d 24 1 = 0 + b * c * 2 + a * d * -2 := rfl
theorem trnR_2 (a b c d : Int) : trn a b c d 24 2 = 0 + b * d * 2 + a * c * 2 := rfl
theorem trnR_3 (a b c d : Int) : trn a b c d 24 3 = 0 + b * c * 2 + a * d * 2 := rfl
theorem trnR_4 (a b c d : Int) : trn a b c d 24 4 = 0 + a * a * 1 + b * b * -1 + c * c * 1 + d * d * -1 := rfl
theorem trnR_5 (a b c d : Int) : trn a b c d 24 5 = 0 + c * d * 2 + a * b * -2 := rfl
theorem trnR_6 (a b c d : Int) : trn a b c d 24 6 = 0 + b * d * 2 + a * c * -2 := rfl
theorem trnR_7 (a b c d : Int) : trn a b c d 24 7 = 0 + c * d * 2 + a * b * 2 := rfl
theorem trnR_8 (a b c d : Int) : trn a b c d 24 8 = 0 + a * a * 1 + b * b * -1 + c * c * -1 + d * d * 1 := rfl
theorem row0_sq (a b c d : Int) : trn a b c d 24 0 * trn a b c d 24 0 + trn a b c d 24 1 * trn a b c d 24 1 + trn a b c d 24 2 * trn a b c d 24 2 = sq4 a b c d * sq4 a b c d := by
  rw [trnR_0, trnR_1, trnR_2]
  unfold sq4
  grind
theorem row0_near {a b c d : Int} (hs : 0 < sq4 a b c d) : (-4294967296 ≤ matQ a b c d 0 ∧ matQ a b c d 0 ≤ 4294967296) ∧ (-4294967296 ≤ matQ a b c d 1 ∧ matQ a b c d 1 ≤ 4294967296) ∧ (-4294967296 ≤ matQ a b c d 2 ∧ matQ a b c d 2 ≤ 4294967296) ∧
    matQ a b c d 0 * matQ a b c d 0 + matQ a b c d 1 * matQ a b c d 1 + matQ a b c d 2 * matQ a b c d 2 - 18446744073709551616 ≤ 17179869184 ∧ -(matQ a b c d 0 * matQ a b c d 0 + matQ a b c d 1 * matQ a b c d 1 + matQ a b c d 2 * matQ a b c d 2 - 18446744073709551616) ≤ 17179869184 := by
  obtain ⟨r0, r1, r2, d0, d1, d2, h0, h1, h2, h3, h4⟩ := three_near hs (row0_sq a b c d)
  unfold matQ quo
  rw [d0, d1, d2, cl_near h0, cl_near h1, cl_near h2]
  exact ⟨h0, h1, h2, h3, h4⟩
theorem row1_sq (a b c d : Int) : trn a b c d 24 3 * trn a b c d 24 3 + trn a b c d 24 4 * trn a b c d 24 4 + trn a b c d 24 5 * trn a b c d 24 5 = sq4 a b c d * sq4 a b c d := by
  rw [trnR_3, trnR_4, trnR_5]
  unfold sq4
  grind
theorem row1_near {a b c d : Int} (hs : 0 < sq4 a b c d) : (-4294967296 ≤ matQ a b c d 3 ∧ matQ a b c d 3 ≤ 4294967296) ∧ (-4294967296 ≤ matQ a b c d 4 ∧ matQ a b c d 4 ≤ 4294967296) ∧ (-4294967296 ≤ matQ a b c d 5 ∧ matQ a b c d 5 ≤ 4294967296) ∧
    matQ a b c d 3 * matQ a b c d 3 + matQ a b c d 4 * matQ a b c d 4 + matQ a b c d 5 * matQ a b c d 5 - 18446744073709551616 ≤ 17179869184 ∧ -(matQ a b c d 3 * matQ a b c d 3 + matQ a b c d 4 * matQ a b c d 4 + matQ a b c d 5 * matQ a b c d 5 - 18446744073709551616) ≤ 17179869184 := by
  obtain ⟨r0, r1, r2, d0, d1, d2, h0, h1, h2, h3, h4⟩ := three_near hs (row1_sq a b c d)
  unfold matQ quo
  rw [d0, d1, d2, cl_near h0, cl_near h1, cl_near h2]
  exact ⟨h0, h1, h2, h3, h4⟩
theorem row2_sq (a b c d : Int) : trn a b c d 24 6 * trn a b c d 24 6 + trn a b c d 24 7 * trn a b c d 24 7 + trn a b c d 24 8 * trn a b c d 24 8 = sq4 a b c d * sq4 a b c d := by
  rw [trnR_6, trnR_7, trnR_8]
  unfold sq4
  grind
theorem row2_near {a b c d : Int} (hs : 0 < sq4 a b c d) : (-4294967296 ≤ matQ a b c d 6 ∧ matQ a b c d 6 ≤ 4294967296) ∧ (-4294967296 ≤ matQ a b c d 7 ∧ matQ a b c d 7 ≤ 4294967296) ∧ (-4294967296 ≤ matQ a b c d 8 ∧ matQ a b c d 8 ≤ 4294967296) ∧
    matQ a b c d 6 * matQ a b c d 6 + matQ a b c d 7 * matQ a b c d 7 + matQ a b c d 8 * matQ a b c d 8 - 18446744073709551616 ≤ 17179869184 ∧ -(matQ a b c d 6 * matQ a b c d 6 + matQ a b c d 7 * matQ a b c d 7 + matQ a b c d 8 * matQ a b c d 8 - 18446744073709551616) ≤ 17179869184 := by
  obtain ⟨r0, r1, r2, d0, d1, d2, h0, h1, h2, h3, h4⟩ := three_near hs (row2_sq a b c d)
  unfold matQ quo
  rw [d0, d1, d2, cl_near h0, cl_near h1, cl_near h2]
  exact ⟨h0, h1, h2, h3, h4⟩
theorem col0_sq (a b c d : Int) : trn a b c d 24 0 * trn a b c d 24 0 + trn a b c d 24 3 * trn a b c d 24 3 + trn a b c d 24 6 * trn a b c d 24 6 = sq4 a b c d * sq4 a b c d := by
  rw [trnR_0, trnR_3, trnR_6]
  unfold sq4
  grind
theorem col0_near {a b c d : Int} (hs : 0 < sq4 a b c d) : (-4294967296 ≤ matQ a b c d 0 ∧ matQ a b c d 0 ≤ 4294967296) ∧ (-4294967296 ≤ matQ a b c d 3 ∧ matQ a b c d 3 ≤ 4294967296) ∧ (-4294967296 ≤ matQ a b c d 6 ∧ matQ a b c d 6 ≤ 4294967296) ∧
    matQ a b c d 0 * matQ a b c d 0 + matQ a b c d 3 * matQ a b c d 3 + matQ a b c d 6 * matQ a b c d 6 - 18446744073709551616 ≤ 17179869184 ∧ -(matQ a b c d 0 * matQ a b c d 0 + matQ a b c d 3 * matQ a b c d 3 + matQ a b c d 6 * matQ a b c d 6 - 18446744073709551616) ≤ 17179869184 := by
  obtain ⟨r0, r1, r2, d0, d1, d2, h0, h1, h2, h3, h4⟩ := three_near hs (col0_sq a b c d)
  unfold matQ quo
  rw [d0, d1, d2, cl_near h0, cl_near h1, cl_near h2]
  exact ⟨h0, h1, h2, h3, h4⟩
theorem col1_sq (a b c d : Int) : trn a b c d 24 1 * trn a b c d 24 1 + trn a b c d 24 4 * trn a b c d 24 4 + trn a b c d 24 7 * trn a b c d 24 7 = sq4 a b c d * sq4 a b c d := by
  rw [trnR_1, trnR_4, trnR_7]
  unfold sq4
  grind
theorem col1_near {a b c d : Int} (hs : 0 < sq4 a b c d) : (-4294967296 ≤ matQ a b c d 1 ∧ matQ a b c d 1 ≤ 4294967296) ∧ (-4294967296 ≤ matQ a b c d 4 ∧ matQ a b c d 4 ≤ 4294967296) ∧ (-4294967296 ≤ matQ a b c d 7 ∧ matQ a b c d 7 ≤ 4294967296) ∧
    matQ a b c d 1 * matQ a b c d 1 + matQ a b c d 4 * matQ a b c d 4 + matQ a b c d 7 * matQ a b c d 7 - 18446744073709551616 ≤ 17179869184 ∧ -(matQ a b c d 1 * matQ a b c d 1 + matQ a b c d 4 * matQ a b c d 4 + matQ a b c d 7 * matQ a b c d 7 - 18446744073709551616) ≤ 17179869184 := by
  obtain ⟨r0, r1, r2, d0, d1, d2, h0, h1, h2, h3, h4⟩ := three_near hs (col1_sq a b c d)
  unfold matQ quo
  rw [d0, d1, d2, cl_near h0, cl_near h1, cl_near h2]
  exact ⟨h0, h1, h2, h3, h4⟩
theorem col2_sq (a b c d : Int) : trn a b c d 24 2 * trn a b c d 24 2 + trn a b c d 24 5 * trn a b c d 24 5 + trn a b c d 24 8 * trn a b c d 24 8 = sq4 a b c d * sq4 a b c d := by
  rw [trnR_2, trnR_5, trnR_8]
  unfold sq4
  grind
theorem col2_near {a b c d : Int} (hs : 0 < sq4 a b c d) : (-4294967296 ≤ matQ a b c d 2 ∧ matQ a b c d 2 ≤ 4294967296) ∧ (-4294967296 ≤ matQ a b c d 5 ∧ matQ a b c d 5 ≤ 4294967296) ∧ (-4294967296 ≤ matQ a b c d 8 ∧ matQ a b c d 8 ≤ 4294967296) ∧
    matQ a b c d 2 * matQ a b c d 2 + matQ a b c d 5 * matQ a b c d 5 + matQ a b c d 8 * matQ a b c d 8 - 18446744073709551616 ≤ 17179869184 ∧ -(matQ a b c d 2 * matQ a b c d 2 + matQ a b c d 5 * matQ a b c d 5 + matQ a b c d 8 * matQ a b c d 8 - 18446744073709551616) ≤ 17179869184 := by
  obtain ⟨r0, r1, r2, d0, d1, d2, h0, h1, h2, h3, h4⟩ := three_near hs (col2_sq a b c d)
  unfold matQ quo
  rw [d0, d1, d2, cl_near h0, cl_near h1, cl_near h2]
  exact ⟨h0, h1, h2, h3, h4⟩
theorem acc_opp {A F G : Nat → Nat} {S : Nat → Int} {p q : Nat → Int} : ∀ k j, acc A F G S (fun i => -p i) (fun i => -q i) k j = acc A F G S p q k j
  | 0, _ => rfl
  | k + 1, j => by
    unfold acc
    rw [acc_opp k j, Int.neg_mul_neg]
theorem n4_opp (a b c d : Int) : n4 (-a) (-b) (-c) (-d) = fun i => -n4 a b c d i := by
  funext i
  unfold n4
  repeat' split
  all_goals rfl
theorem trn_opp (a b c d : Int) (k j : Nat) : trn (-a) (-b) (-c) (-d) k j = trn a b c d k j := by
  unfold trn
  rw [n4_opp]
  exact acc_opp k j
theorem sq4_opp (a b c d : Int) : sq4 (-a) (-b) (-c) (-d) = sq4 a b c d := by
  unfold sq4
  rw [Int.neg_mul_neg, Int.neg_mul_neg, Int.neg_mul_neg, Int.neg_mul_neg]
theorem matQ_opp (a b c d : Int) : matQ (-a) (-b) (-c) (-d) = matQ a b c d := by
  funext j
  unfold matQ
  rw [trn_opp, sq4_opp]
theorem rot_small {a b c d : Int} (hc : chk (sq4 a b c d) = 0) : (-8589934592 ≤ a ∧ a ≤ 8589934592) ∧ (-8589934592 ≤ b ∧ b ≤ 8589934592) ∧ (-8589934592 ≤ c ∧ c ≤ 8589934592) ∧ (-8589934592 ≤ d ∧ d ≤ 8589934592) := by
  have h := (chk_pos hc).2
  have ha := sq0 a
  have hb := sq0 b
  have hcc := sq0 c
  have hd := sq0 d
  unfold sq4 at h
  have one : ∀ x : Int, x * x ≤ 73786976294838206464 → -8589934592 ≤ x ∧ x ≤ 8589934592 := fun x hx => by
    have h1 : x ≤ 8589934592 := le_of_sq (by decide) (by omega)
    have h2 : -x ≤ 8589934592 := le_of_sq (by decide) (by rw [Int.neg_mul_neg]; omega)
    omega
  exact ⟨one a (by omega), one b (by omega), one c (by omega), one d (by omega)⟩

end Go.Proofs.YtikmjfepflaokaaDoor

namespace Go.Proofs.YtikmjfepflaokaaDoor
open Go.RowKit
set_option maxRecDepth 4000
set_option linter.unusedVariables false

theorem wpList_turnsW {ops : Array Oper} {rest : List Oper} {o : Oper} {a : Act} {w w' : World} {Q : Exit → Act → World → Prop} {v : Value} (hgd : Region.wanted o (yielded ops a.tmps) = true) (he : (execOp a.eval o).run Tryd.prog w = .ok (.value v) w')
    (h : wpList Tryd.prog ops Q rest (a.put o.dst v) w') : wpList Tryd.prog ops Q (o :: rest) a w := by
  unfold wpList
  rw [if_pos hgd]
  refine .inl ?_
  unfold Oper.wp
  rw [he]
  exact h
theorem list_from {P : Program} {ops : Array Oper} {S : World → Prop} {Q : Exit → Act → World → Prop} {l : List Oper} {a : Act} {w : World} (hS : S w) (h : LW P ops S Q l a) : wpList P ops Q l a w := h w hS
theorem bsF3 (a b c : Int) (w : World) : (Instr.buildSlice 44 3 #[(0, .int .i64 a), (1, .int .i64 b), (2, .int .i64 c)]).run Tryd.prog w = .ok (.slice (some ⟨w.heap.size, 0, none⟩) 3 3) (w.alloc (.cells (v3 a b c) 22)) := by kernel_rfl
theorem exec_bsF3 {o : Oper} {ac : Act} (w : World) (p q r : Operand) {a b c : Int} (ho : o.op = .buildSlice 44 3 #[(0, p), (1, q), (2, r)]) (hp : ac.eval p = .int .i64 a) (hq : ac.eval q = .int .i64 b) (hr : ac.eval r = .int .i64 c) :
    (execOp ac.eval o).run Tryd.prog w = .ok (.value (.slice (some ⟨w.heap.size, 0, none⟩) 3 3)) (w.alloc (.cells (v3 a b c) 22)) := by
  unfold execOp
  have e : (#[(0, p), (1, q), (2, r)].map fun (i, x) => (i, ac.eval x)) = #[(0, .int .i64 a), (1, .int .i64 b), (2, .int .i64 c)] := by simp [hp, hq, hr]
  simp only [ho, Sem.run_bind, e, bsF3, Result.andThen_ok, Sem.run_pure]
theorem rows_range {w : World} {g : Nat} {t : TypeId} {f : Nat → Int} (h : Blk w g t (m9 f)) {k : Nat} (hk : k < 3) : w.rangeAt g (k * 3) (v3 (f (k * 3)) (f (k * 3 + 1)) (f (k * 3 + 2))).toList := by
  intro j v hv
  have hj : j < 3 := (List.getElem?_eq_some_iff.1 hv).1
  rw [h.cell, ← hv]
  rcases (show k = 0 ∨ k = 1 ∨ k = 2 by omega) with rfl | rfl | rfl <;> rcases (show j = 0 ∨ j = 1 ∨ j = 2 by omega) with rfl | rfl | rfl <;> rfl
theorem exec_ldRowQ {o : Oper} {a : Act} {w : World} {g k : Nat} {t : TypeId} {X : Nat → Int} (p : Operand) (ho : o.op = .load 26 p) (hx : a.eval p = .pointer (some ⟨g, k * 3, none⟩)) (h : Blk w g t (m9 X)) (hk : k < 3) : (execOp a.eval o).run Tryd.prog w = .ok (.value (.agg (v3 (X (k * 3)) (X (k * 3 + 1)) (X (k * 3 + 2))))) w := by
  unfold execOp
  simp only [ho, hx, Instr.loadAt, Instr.sureAddr, Sem.run_bind, Sem.run_pure, Result.andThen_ok, run_loadVar_mid w g (k * 3) 26 (v3 (X (k * 3)) (X (k * 3 + 1)) (X (k * 3 + 2))).toList _ (rows_range h hk) Tryd.underlying26 rfl iVec3]
theorem exec_neq_mat {o : Oper} {ac : Act} (wd : World) (p q : Operand) {ty' : TypeId} {s : Bool} {X Y : Nat → Int} (hb : sameM X Y = s) (ho : o.op = .binOp .neq 29 p q ty') (hx : ac.eval p = .agg (m9 X)) (hy : ac.eval q = .agg (m9 Y)) : (execOp ac.eval o).run Tryd.prog wd = .ok (.value (.bool (!s))) wd := by
  subst hb
  unfold execOp
  simp only [ho, hx, hy, Sem.run_bind, run_eqGuard_agg wd _ 29 _ _ _ _ gMat, run_neq_struct, run_mat, Result.andThen_ok, Sem.run_pure]
theorem opposite5_core (a b c d : Int) (w : World) : Calls Tryd.prog 19 #[.agg (q4 a b c d)] w fun e w' => e = .returned (.agg (q4 (wrap64 (-a)) (wrap64 (-b)) (wrap64 (-c)) (wrap64 (-d)))) ∧ Below w.heap.size w w' := by
  go_enter Tryd.func19, Tryd.ntmps19
  go_upto_region 1 with fail
  have D := hide (((Gen.start w).push 24 (q4 a b c d)).push 24 (q4 0 0 0 0))
  simp only [szA] at D
  go_wp2_with (first | (with_reducible refine at_list ?_; apply ldF (unhide D) _ rfl rfl rfl (by repeat (first | exact List.mem_cons_self | apply List.mem_cons_of_mem)) rfl) | (with_reducible refine at_list ?_; apply stGend (unhide D) rQuat _ _ rfl rfl rfl rfl (by repeat (first | exact List.mem_cons_self | apply List.mem_cons_of_mem)) (by omega) rfl rfl (q4_one _ _ _ _); intro B O))
  exact resG rQuat (unhide B) rfl rfl rfl rfl ⟨rfl, unhide O⟩
theorem within5_core (x y z : Int) (w : World) (x0 : decide (-4294967296 ≤ x) = true) (x1 : decide (x ≤ 4294967296) = true) (y0 : decide (-4294967296 ≤ y) = true) (y1 : decide (y ≤ 4294967296) = true) (z0 : decide (-4294967296 ≤ z) = true) (z1 : decide (z ≤ 4294967296) = true) :
    Calls Tryd.prog 20 #[.agg (v3 x y z)] w fun e w' => e = .returned (.bool true) ∧ Below w.heap.size w w' := by
  go_enter Tryd.func20, Tryd.ntmps20
  go_upto_region 1 with fail
  have D := hide ((Gen.start w).push 26 (v3 x y z))
  go_wp2_with (first | (with_reducible refine at_list ?_; apply ldF (unhide D) _ rfl rfl rfl (by repeat (first | exact List.mem_cons_self | apply List.mem_cons_of_mem)) rfl) | (with_reducible refine at_list ?_; apply ldFw (unhide D) _ rfl rfl rfl (by repeat (first | exact List.mem_cons_self | apply List.mem_cons_of_mem)) rfl) | (with_reducible refine at_list ?_;  refine geqZ _ _ x0 rfl rfl rfl rfl ?_) | (with_reducible refine at_list ?_;  refine leqZw _ _ x1 rfl rfl rfl rfl ?_) | (with_reducible refine at_list ?_;  refine geqZw _ _ y0 rfl rfl rfl rfl ?_) | (with_reducible refine at_list ?_;  refine leqZw _ _ y1 rfl rfl rfl rfl ?_) | (with_reducible refine at_list ?_;  refine geqZw _ _ z0 rfl rfl rfl rfl ?_) | (with_reducible refine at_list ?_;  refine leqZw _ _ z1 rfl rfl rfl rfl ?_))
  go_ret
  exact ⟨rfl, (unhide D).o⟩
set_option maxHeartbeats 2000000 in
theorem rows5_no (a b c d : Int) (TP TT : Array Value) (w : World) (hP : Tab 1 TP w) (hT : Tab 0 TT w)
    (hW : Hid (∀ u, Tab 1 TP u → Tab 0 TT u → Calls Tryd.prog 12 #[] u fun e w' => e = .returned (.bool true) ∧ Below u.heap.size u w')) (e0 : sameM (fun _ => 0) (fun _ => 0) = true) (hM : Hid (∀ u, Tab 0 TT u → Calls Tryd.prog 10 #[.agg (q4 a b c d)] u fun e w' => e = .returned (.tuple #[.agg zM, .int .i64 9]) ∧ Below u.heap.size u w')) :
    Calls Tryd.prog 5 #[.agg (q4 a b c d)] w fun e w' => e = .returned (.bool true) ∧ Below w.heap.size w w' := by
  have hPlt := hP.lt
  have hTlt := hT.lt
  have HP := hide hP
  have HT := hide hT
  clear hP hT
  go_enter Tryd.func5, Tryd.ntmps5
  go_upto_region 1 with fail
  have D := hide ((Gen.start w).push 24 (q4 a b c d))
  go_upto_region 2 with (first | (with_reducible refine at_list ?_; apply ldG (unhide D) rQuat _ rfl rfl rfl (by repeat (first | exact List.mem_cons_self | apply List.mem_cons_of_mem)) rfl) | (go_at_call 10; with_reducible refine (unhide hM _ ((unhide HT).below (unhide D).o hTlt)).mono ?_; rintro e w' ⟨he, hb⟩; subst he; have D := hide ((unhide D).keep hb); clear hb) | (with_reducible refine at_list ?_; refine stG (unhide D) rMat _ _ rfl rfl rfl rfl rfl rfl (m9_one (fun _ => 0)) ?_; intro D'; have D := hide D'; clear D'))
  go_wp2_with (first | (with_reducible refine at_list ?_; apply ldG (unhide D) rMat _ rfl rfl rfl (by repeat (first | exact List.mem_cons_self | apply List.mem_cons_of_mem)) rfl) | (with_reducible refine at_list ?_;  refine bd0 29 rfl rfl (show Tryd.prog.built 29 [] = some zM by kernel_rfl) ?_) | (with_reducible refine at_list ?_;  refine eqlM _ _ _ e0 rfl rfl rfl rfl ?_) | (go_at_call 12; with_reducible refine (unhide hW _ ((unhide HP).below (unhide D).o hPlt) ((unhide HT).below (unhide D).o hTlt)).mono ?_; rintro e w' ⟨he, hb⟩; subst he; have D := hide ((unhide D).keep hb); clear hb))
  go_ret
  exact ⟨rfl, (unhide D).o⟩
set_option maxHeartbeats 8000000 in
theorem rows5_core (a b' c d o0 o1 o2 o3 : Int) (F : Nat → Int) (R : Nat → Nat) (C0 C1 C2 : Nat) (TP TT : Array Value) (w : World) (hP : Tab 1 TP w) (hT : Tab 0 TT w)
    (hW : Hid (∀ u, Tab 1 TP u → Tab 0 TT u → Calls Tryd.prog 12 #[] u fun e w' => e = .returned (.bool true) ∧ Below u.heap.size u w')) (e0 : sameM F F = true) (hM : Hid (∀ u, Tab 0 TT u → Calls Tryd.prog 10 #[.agg (q4 a b' c d)] u fun e w' => e = .returned (.tuple #[.agg (m9 F), .int .i64 0]) ∧ Below u.heap.size u w')) (hO : Hid (Ans 19 #[.agg (q4 a b' c d)] (.agg (q4 o0 o1 o2 o3)))) (hM2 : Hid (∀ u, Tab 0 TT u → Calls Tryd.prog 10 #[.agg (q4 o0 o1 o2 o3)] u fun e w' => e = .returned (.tuple #[.agg (m9 F), .int .i64 0]) ∧ Below u.heap.size u w'))
    (hWi : Hid (∀ k, k < 3 → Ans 20 #[.agg (v3 (F (k * 3)) (F (k * 3 + 1)) (F (k * 3 + 2)))] (.bool true))) (hS : Hid (∀ k, k < 3 → ∀ u g, Blk u g 22 (v3 (F (k * 3)) (F (k * 3 + 1)) (F (k * 3 + 2))) → Calls Tryd.prog 16 #[.slice (some ⟨g, 0, none⟩) 3 3] u fun e w' => e = .returned (.agg (cells8 (R k))) ∧ Below u.heap.size u w')) (hN : Hid (∀ k, k < 3 → Ans 18 #[.agg (cells8 (R k)), .int .i64 30] (.bool true)))
    (hC0 : Hid (∀ u g, Blk u g 22 (v3 (F 0) (F 3) (F 6)) → Calls Tryd.prog 16 #[.slice (some ⟨g, 0, none⟩) 3 3] u fun e w' => e = .returned (.agg (cells8 C0)) ∧ Below u.heap.size u w')) (hN0 : Hid (Ans 18 #[.agg (cells8 C0), .int .i64 30] (.bool true))) (hC1 : Hid (∀ u g, Blk u g 22 (v3 (F 1) (F 4) (F 7)) → Calls Tryd.prog 16 #[.slice (some ⟨g, 0, none⟩) 3 3] u fun e w' => e = .returned (.agg (cells8 C1)) ∧ Below u.heap.size u w')) (hN1 : Hid (Ans 18 #[.agg (cells8 C1), .int .i64 30] (.bool true))) (hC2 : Hid (∀ u g, Blk u g 22 (v3 (F 2) (F 5) (F 8)) → Calls Tryd.prog 16 #[.slice (some ⟨g, 0, none⟩) 3 3] u fun e w' => e = .returned (.agg (cells8 C2)) ∧ Below u.heap.size u w')) (hN2 : Hid (Ans 18 #[.agg (cells8 C2), .int .i64 30] (.bool true))) :
    Calls Tryd.prog 5 #[.agg (q4 a b' c d)] w fun e w' => e = .returned (.bool true) ∧ Below w.heap.size w w' := by
  have hPlt := hP.lt
  have hTlt := hT.lt
  have HP := hide hP
  have HT := hide hT
  clear hP hT
  go_enter Tryd.func5, Tryd.ntmps5
  go_upto_region 1 with fail
  have D := hide ((Gen.start w).push 24 (q4 a b' c d))
  go_upto_region 2 with (first | (with_reducible refine at_list ?_; apply ldG (unhide D) rQuat _ rfl rfl rfl (by repeat (first | exact List.mem_cons_self | apply List.mem_cons_of_mem)) rfl) | (go_at_call 10; with_reducible refine (unhide hM _ ((unhide HT).below (unhide D).o hTlt)).mono ?_; rintro e w' ⟨he, hb⟩; subst he; have D := hide ((unhide D).keep hb); clear hb) | (with_reducible refine at_list ?_; refine stG (unhide D) rMat _ _ rfl rfl rfl rfl rfl rfl (m9_one _) ?_; intro D'; have D := hide D'; clear D'))
  clear hM
  generalize hz : w'.heap.size = g1 at *
  clear hz
  go_upto_region 5 with (first | (with_reducible refine at_list ?_; apply ldG (unhide D) rQuat _ rfl rfl rfl (by repeat (first | exact List.mem_cons_self | apply List.mem_cons_of_mem)) rfl) | (go_at_call 19; with_reducible refine (unhide hO _).mono ?_; rintro e w' ⟨he, hb⟩; subst he; have D := hide ((unhide D).keep hb); clear hb) | (go_at_call 10; with_reducible refine (unhide hM2 _ ((unhide HT).below (unhide D).o hTlt)).mono ?_; rintro e w' ⟨he, hb⟩; subst he; have D := hide ((unhide D).keep hb); clear hb) | (with_reducible refine at_list ?_; refine stG (unhide D) rMat _ _ rfl rfl rfl rfl rfl rfl (m9_one _) ?_; intro D'; have D := hide D'; clear D'))
  clear hM2 hO
  generalize hz : w'.heap.size = g2 at *
  clear hz
  go_upto_region 7 with (first | (with_reducible refine at_list ?_; apply ldGw (unhide D) rMat _ rfl rfl rfl (by repeat (first | exact List.mem_cons_self | apply List.mem_cons_of_mem)) rfl) | (with_reducible refine at_list ?_;  refine wpList_valuew rfl (exec_neq_mat _ _ _ e0 rfl rfl rfl) ?_))
  go_wp2_with fail
  go_loopw [2, 7] (fun b i wr => ∃ k : Nat, k ≤ 3 ∧ b = .bool false ∧ i = .int .i64 k ∧ Hid (Gen w [(g2, 29, m9 F), (g1, 29, m9 F), (w.heap.size, 24, q4 a b' c d)] wr)) (fun _ i _ => 3 - (intOf i).toNat)
  case atStart => exact ⟨0, by omega, rfl, rfl, D⟩
  case round =>
    obtain ⟨k, hk, rfl, rfl, hD⟩ := hrel
    by_cases hkn : k < 3
    · have hg : (k : Int) < 3 := by omega
      have Wk := hide (unhide hWi k hkn)
      have Sk := hide (unhide hS k hkn)
      have Nk := hide (unhide hN k hkn)
      clear D
      have D := hD
      clear hD
      go_upto_region 10 with fail
      refine list_start (S := Gen w _) (unhide D) ?_
      clear D
      refine list_read (v := .int .i64 k) rfl rfl (fun u hS => by go_simp) ?_
      try go_simp
      refine list_read (v := .pointer (some ⟨g1, 0, none⟩)) rfl rfl (fun u hS => by go_simp) ?_
      try go_simp
      refine list_read (v := .pointer (some ⟨g1, k * 3, none⟩)) rfl rfl (fun u hS => exec_ix3 u (.tmp 43) (.tmp 42) hkn rfl rfl rfl) ?_
      try go_simp
      refine list_read (v := .agg (v3 (F (k * 3)) (F (k * 3 + 1)) (F (k * 3 + 2)))) rfl rfl (fun u hS => exec_ldRowQ (k := k) (.tmp 44) rfl rfl (hS.blk (g := g1) (t := 29) (cs := m9 F) (by repeat (first | exact List.mem_cons_self | apply List.mem_cons_of_mem))) hkn) ?_
      try go_simp
      intro u1 hS
      have D := hide hS
      clear hS
      go_upto_region 11 with (first | (with_reducible refine at_list ?_; refine stG (unhide D) rVec _ _ rfl rfl rfl rfl rfl rfl (v3_one _ _ _) ?_; intro D'; have D := hide D'; clear D'))
      generalize hz : u1.heap.size = gr at *
      clear hz
      refine list_start (S := Gen w _) (unhide D) ?_
      clear D
      refine list_read (v := .agg (v3 (F (k * 3)) (F (k * 3 + 1)) (F (k * 3 + 2)))) rfl rfl (fun u hS => exec_loadG (g := gr) (cs := v3 (F (k * 3)) (F (k * 3 + 1)) (F (k * 3 + 2))) hS rVec _ rfl rfl (by repeat (first | exact List.mem_cons_self | apply List.mem_cons_of_mem)) rfl) ?_
      try go_simp
      refine list_call (v := .bool true) (f := 20) (args := #[.agg (v3 (F (k * 3)) (F (k * 3 + 1)) (F (k * 3 + 2)))]) rfl rfl (fun u hS => by go_simp) (fun u hS => (unhide Wk u).mono fun _ _ ⟨he, hb⟩ => ⟨he, hS.keep hb⟩) ?_
      try go_simp
      refine list_read (v := .bool false) rfl rfl (fun u hS => by go_simp) ?_
      try go_simp
      refine list_read (v := .bool false) rfl rfl (fun u hS => by go_simp) ?_
      try go_simp
      refine list_read (v := .pointer (some ⟨gr, 0, none⟩)) rfl rfl (fun u hS => by go_simp) ?_
      try go_simp
      refine list_read (v := .int .i64 (F (k * 3))) rfl rfl (fun u hS => exec_loadFG (g := gr) (cs := v3 (F (k * 3)) (F (k * 3 + 1)) (F (k * 3 + 2))) hS _ rfl rfl (by repeat (first | exact List.mem_cons_self | apply List.mem_cons_of_mem)) rfl) ?_
      try go_simp
      refine list_read (v := .pointer (some ⟨gr, 1, none⟩)) rfl rfl (fun u hS => by go_simp) ?_
      try go_simp
      refine list_read (v := .int .i64 (F (k * 3 + 1))) rfl rfl (fun u hS => exec_loadFG (g := gr) (cs := v3 (F (k * 3)) (F (k * 3 + 1)) (F (k * 3 + 2))) hS _ rfl rfl (by repeat (first | exact List.mem_cons_self | apply List.mem_cons_of_mem)) rfl) ?_
      try go_simp
      refine list_read (v := .pointer (some ⟨gr, 2, none⟩)) rfl rfl (fun u hS => by go_simp) ?_
      try go_simp
      refine list_read (v := .int .i64 (F (k * 3 + 2))) rfl rfl (fun u hS => exec_loadFG (g := gr) (cs := v3 (F (k * 3)) (F (k * 3 + 1)) (F (k * 3 + 2))) hS _ rfl rfl (by repeat (first | exact List.mem_cons_self | apply List.mem_cons_of_mem)) rfl) ?_
      try go_simp
      intro u2 hS
      have D := hide (hS.push 22 (v3 (F (k * 3)) (F (k * 3 + 1)) (F (k * 3 + 2))))
      refine wpList_turnsW rfl (exec_bsF3 _ (.tmp 51) (.tmp 53) (.tmp 55) rfl rfl rfl rfl) ?_
      clear hS
      generalize hz : u2.heap.size = gs at *
      clear hz
      try go_simp
      refine list_from (S := Gen w _) (unhide D) ?_
      clear D
      refine list_call (v := .agg (cells8 (R k))) (f := 16) (args := #[.slice (some ⟨gs, 0, none⟩) 3 3]) rfl rfl (fun u hS => by go_simp) (fun u hS => (unhide Sk u gs (hS.blk (g := gs) (t := 22) (cs := v3 (F (k * 3)) (F (k * 3 + 1)) (F (k * 3 + 2))) (by repeat (first | exact List.mem_cons_self | apply List.mem_cons_of_mem)))).mono fun _ _ ⟨he, hb⟩ => ⟨he, hS.keep hb⟩) ?_
      try go_simp
      refine list_call (v := .bool true) (f := 18) (args := #[.agg (cells8 (R k)), .int .i64 30]) rfl rfl (fun u hS => by go_simp) (fun u hS => (unhide Nk u).mono fun _ _ ⟨he, hb⟩ => ⟨he, hS.keep hb⟩) ?_
      try go_simp
      refine list_read (v := .bool false) rfl rfl (fun u hS => by go_simp) ?_
      try go_simp
      refine list_read (v := .bool false) rfl rfl (fun u hS => by go_simp) ?_
      try go_simp
      refine list_end (fun u3 hS => ?_)
      have D := hide hS
      clear hS
      go_upto_region 9 with fail
      go_wp2
      go_roundw
      case rel => exact ⟨k + 1, by omega, rfl, by go_num, (unhide D).tail.tail⟩
      case measure => simp [intOf]; omega
    · obtain rfl : k = 3 := by omega
      clear D
      have D := hD
      clear hD hWi hS hN
      go_upto_region 13 with fail
      refine list_start (S := Gen w _) (unhide D) ?_
      clear D
      refine list_read (v := .pointer (some ⟨g1, 0, none⟩)) rfl rfl (fun u hS => by go_simp) ?_
      try go_simp
      refine list_read (v := .pointer (some ⟨g1, 0, none⟩)) rfl rfl (fun u hS => exec_ix3 (k := 0) u (.tmp 61) (.const (.int .i64 0)) (by decide) rfl rfl rfl) ?_
      try go_simp
      refine list_read (v := .pointer (some ⟨g1, 0, none⟩)) rfl rfl (fun u hS => by go_simp) ?_
      try go_simp
      refine list_read (v := .int .i64 (F 0)) rfl rfl (fun u hS => exec_loadFG (g := g1) (cs := m9 F) hS _ rfl rfl (by repeat (first | exact List.mem_cons_self | apply List.mem_cons_of_mem)) rfl) ?_
      try go_simp
      refine list_read (v := .pointer (some ⟨g1, 0, none⟩)) rfl rfl (fun u hS => by go_simp) ?_
      try go_simp
      refine list_read (v := .pointer (some ⟨g1, 3, none⟩)) rfl rfl (fun u hS => exec_ix3 (k := 1) u (.tmp 65) (.const (.int .i64 1)) (by decide) rfl rfl rfl) ?_
      try go_simp
      refine list_read (v := .pointer (some ⟨g1, 3, none⟩)) rfl rfl (fun u hS => by go_simp) ?_
      try go_simp
      refine list_read (v := .int .i64 (F 3)) rfl rfl (fun u hS => exec_loadFG (g := g1) (cs := m9 F) hS _ rfl rfl (by repeat (first | exact List.mem_cons_self | apply List.mem_cons_of_mem)) rfl) ?_
      try go_simp
      refine list_read (v := .pointer (some ⟨g1, 0, none⟩)) rfl rfl (fun u hS => by go_simp) ?_
      try go_simp
      refine list_read (v := .pointer (some ⟨g1, 6, none⟩)) rfl rfl (fun u hS => exec_ix3 (k := 2) u (.tmp 69) (.const (.int .i64 2)) (by decide) rfl rfl rfl) ?_
      try go_simp
      refine list_read (v := .pointer (some ⟨g1, 6, none⟩)) rfl rfl (fun u hS => by go_simp) ?_
      try go_simp
      refine list_read (v := .int .i64 (F 6)) rfl rfl (fun u hS => exec_loadFG (g := g1) (cs := m9 F) hS _ rfl rfl (by repeat (first | exact List.mem_cons_self | apply List.mem_cons_of_mem)) rfl) ?_
      try go_simp
      intro u0a hS
      have D := hide (hS.push 22 (v3 (F 0) (F 3) (F 6)))
      refine wpList_turnsW rfl (exec_bsF3 _ (.tmp 64) (.tmp 68) (.tmp 72) rfl rfl rfl rfl) ?_
      clear hS
      generalize hz : u0a.heap.size = gs0 at *
      clear hz
      try go_simp
      refine list_from (S := Gen w _) (unhide D) ?_
      clear D
      refine list_call (v := .agg (cells8 C0)) (f := 16) (args := #[.slice (some ⟨gs0, 0, none⟩) 3 3]) rfl rfl (fun u hS => by go_simp) (fun u hS => (unhide hC0 u gs0 (hS.blk (g := gs0) (t := 22) (cs := v3 (F 0) (F 3) (F 6)) (by repeat (first | exact List.mem_cons_self | apply List.mem_cons_of_mem)))).mono fun _ _ ⟨he, hb⟩ => ⟨he, hS.keep hb⟩) ?_
      try go_simp
      intro u0b hS
      have D := hide hS
      clear hS
      go_upto_region 14 with (first | (with_reducible refine at_list ?_; refine stG (unhide D) rWide _ _ rfl rfl rfl rfl rfl rfl (cells8_one _) ?_; intro D'; have D := hide D'; clear D'))
      generalize hz : u0b.heap.size = gc0 at *
      clear hz
      clear hC0
      go_upto_region 14 with fail
      refine list_start (S := Gen w _) (unhide D) ?_
      clear D
      refine list_read (v := .pointer (some ⟨g1, 0, none⟩)) rfl rfl (fun u hS => by go_simp) ?_
      try go_simp
      refine list_read (v := .pointer (some ⟨g1, 0, none⟩)) rfl rfl (fun u hS => exec_ix3 (k := 0) u (.tmp 75) (.const (.int .i64 0)) (by decide) rfl rfl rfl) ?_
      try go_simp
      refine list_read (v := .pointer (some ⟨g1, 1, none⟩)) rfl rfl (fun u hS => by go_simp) ?_
      try go_simp
      refine list_read (v := .int .i64 (F 1)) rfl rfl (fun u hS => exec_loadFG (g := g1) (cs := m9 F) hS _ rfl rfl (by repeat (first | exact List.mem_cons_self | apply List.mem_cons_of_mem)) rfl) ?_
      try go_simp
      refine list_read (v := .pointer (some ⟨g1, 0, none⟩)) rfl rfl (fun u hS => by go_simp) ?_
      try go_simp
      refine list_read (v := .pointer (some ⟨g1, 3, none⟩)) rfl rfl (fun u hS => exec_ix3 (k := 1) u (.tmp 79) (.const (.int .i64 1)) (by decide) rfl rfl rfl) ?_
      try go_simp
      refine list_read (v := .pointer (some ⟨g1, 4, none⟩)) rfl rfl (fun u hS => by go_simp) ?_
      try go_simp
      refine list_read (v := .int .i64 (F 4)) rfl rfl (fun u hS => exec_loadFG (g := g1) (cs := m9 F) hS _ rfl rfl (by repeat (first | exact List.mem_cons_self | apply List.mem_cons_of_mem)) rfl) ?_
      try go_simp
      refine list_read (v := .pointer (some ⟨g1, 0, none⟩)) rfl rfl (fun u hS => by go_simp) ?_
      try go_simp
      refine list_read (v := .pointer (some ⟨g1, 6, none⟩)) rfl rfl (fun u hS => exec_ix3 (k := 2) u (.tmp 83) (.const (.int .i64 2)) (by decide) rfl rfl rfl) ?_
      try go_simp
      refine list_read (v := .pointer (some ⟨g1, 7, none⟩)) rfl rfl (fun u hS => by go_simp) ?_
      try go_simp
      refine list_read (v := .int .i64 (F 7)) rfl rfl (fun u hS => exec_loadFG (g := g1) (cs := m9 F) hS _ rfl rfl (by repeat (first | exact List.mem_cons_self | apply List.mem_cons_of_mem)) rfl) ?_
      try go_simp
      intro u1a hS
      have D := hide (hS.push 22 (v3 (F 1) (F 4) (F 7)))
      refine wpList_turnsW rfl (exec_bsF3 _ (.tmp 78) (.tmp 82) (.tmp 86) rfl rfl rfl rfl) ?_
      clear hS
      generalize hz : u1a.heap.size = gs1 at *
      clear hz
      try go_simp
      refine list_from (S := Gen w _) (unhide D) ?_
      clear D
      refine list_call (v := .agg (cells8 C1)) (f := 16) (args := #[.slice (some ⟨gs1, 0, none⟩) 3 3]) rfl rfl (fun u hS => by go_simp) (fun u hS => (unhide hC1 u gs1 (hS.blk (g := gs1) (t := 22) (cs := v3 (F 1) (F 4) (F 7)) (by repeat (first | exact List.mem_cons_self | apply List.mem_cons_of_mem)))).mono fun _ _ ⟨he, hb⟩ => ⟨he, hS.keep hb⟩) ?_
      try go_simp
      intro u1b hS
      have D := hide hS
      clear hS
      go_upto_region 15 with (first | (with_reducible refine at_list ?_; refine stG (unhide D) rWide _ _ rfl rfl rfl rfl rfl rfl (cells8_one _) ?_; intro D'; have D := hide D'; clear D'))
      generalize hz : u1b.heap.size = gc1 at *
      clear hz
      clear hC1
      go_upto_region 15 with fail
      refine list_start (S := Gen w _) (unhide D) ?_
      clear D
      refine list_read (v := .pointer (some ⟨g1, 0, none⟩)) rfl rfl (fun u hS => by go_simp) ?_
      try go_simp
      refine list_read (v := .pointer (some ⟨g1, 0, none⟩)) rfl rfl (fun u hS => exec_ix3 (k := 0) u (.tmp 89) (.const (.int .i64 0)) (by decide) rfl rfl rfl) ?_
      try go_simp
      refine list_read (v := .pointer (some ⟨g1, 2, none⟩)) rfl rfl (fun u hS => by go_simp) ?_
      try go_simp
      refine list_read (v := .int .i64 (F 2)) rfl rfl (fun u hS => exec_loadFG (g := g1) (cs := m9 F) hS _ rfl rfl (by repeat (first | exact List.mem_cons_self | apply List.mem_cons_of_mem)) rfl) ?_
      try go_simp
      refine list_read (v := .pointer (some ⟨g1, 0, none⟩)) rfl rfl (fun u hS => by go_simp) ?_
      try go_simp
      refine list_read (v := .pointer (some ⟨g1, 3, none⟩)) rfl rfl (fun u hS => exec_ix3 (k := 1) u (.tmp 93) (.const (.int .i64 1)) (by decide) rfl rfl rfl) ?_
      try go_simp
      refine list_read (v := .pointer (some ⟨g1, 5, none⟩)) rfl rfl (fun u hS => by go_simp) ?_
      try go_simp
      refine list_read (v := .int .i64 (F 5)) rfl rfl (fun u hS => exec_loadFG (g := g1) (cs := m9 F) hS _ rfl rfl (by repeat (first | exact List.mem_cons_self | apply List.mem_cons_of_mem)) rfl) ?_
      try go_simp
      refine list_read (v := .pointer (some ⟨g1, 0, none⟩)) rfl rfl (fun u hS => by go_simp) ?_
      try go_simp
      refine list_read (v := .pointer (some ⟨g1, 6, none⟩)) rfl rfl (fun u hS => exec_ix3 (k := 2) u (.tmp 97) (.const (.int .i64 2)) (by decide) rfl rfl rfl) ?_
      try go_simp
      refine list_read (v := .pointer (some ⟨g1, 8, none⟩)) rfl rfl (fun u hS => by go_simp) ?_
      try go_simp
      refine list_read (v := .int .i64 (F 8)) rfl rfl (fun u hS => exec_loadFG (g := g1) (cs := m9 F) hS _ rfl rfl (by repeat (first | exact List.mem_cons_self | apply List.mem_cons_of_mem)) rfl) ?_
      try go_simp
      intro u2a hS
      have D := hide (hS.push 22 (v3 (F 2) (F 5) (F 8)))
      refine wpList_turnsW rfl (exec_bsF3 _ (.tmp 92) (.tmp 96) (.tmp 100) rfl rfl rfl rfl) ?_
      clear hS
      generalize hz : u2a.heap.size = gs2 at *
      clear hz
      try go_simp
      refine list_from (S := Gen w _) (unhide D) ?_
      clear D
      refine list_call (v := .agg (cells8 C2)) (f := 16) (args := #[.slice (some ⟨gs2, 0, none⟩) 3 3]) rfl rfl (fun u hS => by go_simp) (fun u hS => (unhide hC2 u gs2 (hS.blk (g := gs2) (t := 22) (cs := v3 (F 2) (F 5) (F 8)) (by repeat (first | exact List.mem_cons_self | apply List.mem_cons_of_mem)))).mono fun _ _ ⟨he, hb⟩ => ⟨he, hS.keep hb⟩) ?_
      try go_simp
      intro u2b hS
      have D := hide hS
      clear hS
      go_upto_region 16 with (first | (with_reducible refine at_list ?_; refine stG (unhide D) rWide _ _ rfl rfl rfl rfl rfl rfl (cells8_one _) ?_; intro D'; have D := hide D'; clear D'))
      generalize hz : u2b.heap.size = gc2 at *
      clear hz
      clear hC2
      refine list_start (S := Gen w _) (unhide D) ?_
      clear D
      refine list_read (v := .agg (cells8 C0)) rfl rfl (fun u hS => exec_loadG (g := gc0) (cs := cells8 C0) hS rWide _ rfl rfl (by repeat (first | exact List.mem_cons_self | apply List.mem_cons_of_mem)) rfl) ?_
      try go_simp
      refine list_call (v := .bool true) (f := 18) (args := #[.agg (cells8 C0), .int .i64 30]) rfl rfl (fun u hS => by go_simp) (fun u hS => (unhide hN0 u).mono fun _ _ ⟨he, hb⟩ => ⟨he, hS.keep hb⟩) ?_
      try go_simp
      refine list_read (v := .bool true) rfl rfl (fun u hS => by go_simp) ?_
      try go_simp
      refine list_read (v := .agg (cells8 C1)) rfl rfl (fun u hS => exec_loadG (g := gc1) (cs := cells8 C1) hS rWide _ rfl rfl (by repeat (first | exact List.mem_cons_self | apply List.mem_cons_of_mem)) rfl) ?_
      try go_simp
      refine list_call (v := .bool true) (f := 18) (args := #[.agg (cells8 C1), .int .i64 30]) rfl rfl (fun u hS => by go_simp) (fun u hS => (unhide hN1 u).mono fun _ _ ⟨he, hb⟩ => ⟨he, hS.keep hb⟩) ?_
      try go_simp
      refine list_read (v := .bool true) rfl rfl (fun u hS => by go_simp) ?_
      try go_simp
      refine list_read (v := .bool true) rfl rfl (fun u hS => by go_simp) ?_
      try go_simp
      refine list_read (v := .agg (cells8 C2)) rfl rfl (fun u hS => exec_loadG (g := gc2) (cs := cells8 C2) hS rWide _ rfl rfl (by repeat (first | exact List.mem_cons_self | apply List.mem_cons_of_mem)) rfl) ?_
      try go_simp
      refine list_call (v := .bool true) (f := 18) (args := #[.agg (cells8 C2), .int .i64 30]) rfl rfl (fun u hS => by go_simp) (fun u hS => (unhide hN2 u).mono fun _ _ ⟨he, hb⟩ => ⟨he, hS.keep hb⟩) ?_
      try go_simp
      refine list_read (v := .bool true) rfl rfl (fun u hS => by go_simp) ?_
      try go_simp
      refine list_read (v := .bool true) rfl rfl (fun u hS => by go_simp) ?_
      try go_simp
      refine list_call (v := .bool true) (f := 12) (args := #[]) rfl rfl (fun u hS => by go_simp) (fun u hS => (unhide hW u ((unhide HP).below hS.o hPlt) ((unhide HT).below hS.o hTlt)).mono fun _ _ ⟨he, hb⟩ => ⟨he, hS.keep hb⟩) ?_
      try go_simp
      refine list_read (v := .bool true) rfl rfl (fun u hS => by go_simp) ?_
      try go_simp
      refine list_read (v := .bool true) rfl rfl (fun u hS => by go_simp) ?_
      try go_simp
      refine list_end (fun u3 hS => ?_)
      have D := hide hS
      clear hS
      go_wp2
      go_ret
      exact ⟨rfl, (unhide D).o⟩
theorem near_rows {x y z : Int} (hx : -4294967296 ≤ x ∧ x ≤ 4294967296) (hy : -4294967296 ≤ y ∧ y ≤ 4294967296) (hz : -4294967296 ≤ z ∧ z ≤ 4294967296) (h1 : x * x + y * y + z * z - 18446744073709551616 ≤ 17179869184) (h2 : -(x * x + y * y + z * z - 18446744073709551616) ≤ 17179869184) :
    (∀ u g, Blk u g 22 (v3 x y z) → Calls Tryd.prog 16 #[.slice (some ⟨g, 0, none⟩) 3 3] u fun e w' => e = .returned (V (x * x + y * y + z * z)) ∧ Below u.heap.size u w') ∧ Ans 18 #[V (x * x + y * y + z * z), .int .i64 30] (.bool true) ∧ Ans 20 #[.agg (v3 x y z)] (.bool true) := by
  have i0 : I64 x := ⟨by omega, by omega⟩
  have i1 : I64 y := ⟨by omega, by omega⟩
  have i2 : I64 z := ⟨by omega, by omega⟩
  have i3 : I64 0 := ⟨by decide, by decide⟩
  have hq := n4_I64 i0 i1 i2 i3
  have e : sqk x y z 0 3 = x * x + y * y + z * z := by
    show 0 + x * x + y * y + z * z = _
    omega
  have sT : Sz 129 (x * x + y * y + z * z) := by rw [← e]; exact sqk_sz hq 3
  refine ⟨fun u g hB => ?_, fun u => ?_, fun u => within5_core x y z u (decide_eq_true hx.1) (decide_eq_true hx.2) (decide_eq_true hy.1) (decide_eq_true hy.2) (decide_eq_true hz.1) (decide_eq_true hz.2)⟩
  · rw [← e]
    exact squares_core 3 g (n4 x y z 0) (fun k => enc (n4 x y z 0 k)) (fun k => enc (n4 x y z 0 k * n4 x y z 0 k)) (fun k => enc (sqk x y z 0 k)) u (by decide) hB.lt rfl (fun k hk => by
        rw [hB.cell]
        rcases (show k = 0 ∨ k = 1 ∨ k = 2 by omega) with rfl | rfl | rfl <;> rfl)
      (fun k _ => fun v => OfZ _ (n4_all (P := I64) i0 i1 i2 i3 k).1 (n4_all (P := I64) i0 i1 i2 i3 k).2 v) (fun k _ => mul_told _ _ (hq k) (hq k) (by decide)) (fun k hk v => by
        have t1 := sqk_sz hq k
        have t2 := ((hq k).mul (hq k)).mono (show 63 + 63 ≤ 126 + k by omega)
        have t := AddZ (sqk x y z 0 k) (n4 x y z 0 k * n4 x y z 0 k) (t1.fit (by omega)) (t2.fit (by omega)) v
        rw [toldZ_fit ((t1.add t2).fit (by omega))] at t
        exact t)
  · generalize x * x + y * y + z * z = T at *
    have sO : Sz 64 18446744073709551616 := by unfold Sz; decide
    have sW : Sz 64 17179869184 := by unfold Sz; decide
    have sD : Sz 130 (T - 18446744073709551616) := sT.sub (sO.mono (by decide))
    have hM : Ans 49 #[V T, V 18446744073709551616] (.tuple #[V (T - 18446744073709551616), .bool true]) := fun u => by
      have t := SubZ T 18446744073709551616 (sT.fit (by decide)) (sO.fit (by decide)) u
      rw [toldZ_fit (sD.fit (by decide))] at t
      exact t
    have hN : Ans 50 #[V (T - 18446744073709551616)] (.tuple #[V (-(T - 18446744073709551616)), .bool true]) := fun u => by
      have t := NegZ (T - 18446744073709551616) (sD.fit (by decide)) u
      rw [toldZ_fit (sD.neg.fit (by decide))] at t
      exact t
    have le0 : ∀ x y : Int, x ≤ y → decide (cmpI x y ≤ 0) = true := fun x y h => by
      rw [cmpI_is_le]
      exact decide_eq_true h
    exact nearOne_30 _ (enc 1) (enc 18446744073709551616) (enc 17179869184) _ _ _ _ true u (le0 _ _ h1) (le0 _ _ h2) (fun v => OfZ 1 (by decide) (by decide) v) (shl_1 64 _ rfl (sO.fit (by decide)) (by decide) (by decide)) (shl_1 (64 - 30) _ rfl (sW.fit (by decide)) (by decide) (by decide)) hM hN (fun v => CmpZ _ _ (sD.fit (by decide)) (sW.fit (by decide)) v) (fun v => CmpZ _ _ (sD.neg.fit (by decide)) (sW.fit (by decide)) v)
theorem quatRows_walk (a b c d : Int) (k0 : (Lit.int .i64 a).wf = true) (l0 : (Lit.int .i64 b).wf = true) (m0 : (Lit.int .i64 c).wf = true) (n0 : (Lit.int .i64 d).wf = true) (w : World) (hP : Tab 1 tabP w) (hT : Tab 0 tabT w) :
    Calls Tryd.prog 5 #[.agg (q4 a b c d)] w fun e w' => e = .returned (.bool true) ∧ Below w.heap.size w w' := by
  have h0 := I64.wf k0
  have h1 := I64.wf l0
  have h2 := I64.wf m0
  have h3 := I64.wf n0
  rcases chk_cases (sq4 a b c d) with hc | hc
  · have hs : 0 < sq4 a b c d := by have := chk_pos hc; omega
    obtain ⟨ra, rb, rc, rd⟩ := rot_small hc
    have wn : ∀ x : Int, -8589934592 ≤ x ∧ x ≤ 8589934592 → wrap64 (-x) = -x := fun x hx => wrap_self ⟨by omega, by omega⟩
    have hO : Ans 19 #[.agg (q4 a b c d)] (.agg (q4 (-a) (-b) (-c) (-d))) := fun u => by
      have t := opposite5_core a b c d u
      rw [wn a ra, wn b rb, wn c rc, wn d rd] at t
      exact t
    have hM2 : ∀ u, Tab 0 tabT u → Calls Tryd.prog 10 #[.agg (q4 (-a) (-b) (-c) (-d))] u fun e w' => e = .returned (.tuple #[.agg (m9 (matQ a b c d)), .int .i64 0]) ∧ Below u.heap.size u w' := fun u g => by
      have t := QMatZ (-a) (-b) (-c) (-d) ⟨by omega, by omega⟩ ⟨by omega, by omega⟩ ⟨by omega, by omega⟩ ⟨by omega, by omega⟩ (by rw [sq4_opp]; exact hc) u g
      rw [matQ_opp] at t
      exact t
    have R0 := row0_near hs
    have R1 := row1_near hs
    have R2 := row2_near hs
    have K0 := col0_near hs
    have K1 := col1_near hs
    have K2 := col2_near hs
    have P0 := near_rows R0.1 R0.2.1 R0.2.2.1 R0.2.2.2.1 R0.2.2.2.2
    have P1 := near_rows R1.1 R1.2.1 R1.2.2.1 R1.2.2.2.1 R1.2.2.2.2
    have P2 := near_rows R2.1 R2.2.1 R2.2.2.1 R2.2.2.2.1 R2.2.2.2.2
    have Q0 := near_rows K0.1 K0.2.1 K0.2.2.1 K0.2.2.2.1 K0.2.2.2.2
    have Q1 := near_rows K1.1 K1.2.1 K1.2.2.1 K1.2.2.2.1 K1.2.2.2.2
    have Q2 := near_rows K2.1 K2.2.1 K2.2.2.1 K2.2.2.2.1 K2.2.2.2.2
    clear R0 R1 R2 K0 K1 K2
    have hMat := fun u g => QMatZ a b c d h0 h1 h2 h3 hc u g
    generalize matQ a b c d = F at *
    exact rows5_core a b c d _ _ _ _ F (fun k => enc (F (k * 3) * F (k * 3) + F (k * 3 + 1) * F (k * 3 + 1) + F (k * 3 + 2) * F (k * 3 + 2))) _ _ _ tabP tabT w hP hT (fun u p q => awake5Z u p q) (sameM_self F) hMat hO hM2
      (fun k hk => by rcases (show k = 0 ∨ k = 1 ∨ k = 2 by omega) with rfl | rfl | rfl; exact P0.2.2; exact P1.2.2; exact P2.2.2)
      (fun k hk => by rcases (show k = 0 ∨ k = 1 ∨ k = 2 by omega) with rfl | rfl | rfl; exact P0.1; exact P1.1; exact P2.1)
      (fun k hk => by rcases (show k = 0 ∨ k = 1 ∨ k = 2 by omega) with rfl | rfl | rfl; exact P0.2.1; exact P1.2.1; exact P2.2.1)
      Q0.1 Q0.2.1 Q1.1 Q1.2.1 Q2.1 Q2.2.1
  · exact rows5_no a b c d tabP tabT w hP hT (fun u p q => awake5Z u p q) (by decide) (fun u g => QMatBad a b c d h0 h1 h2 h3 hc u)

end Go.Proofs.YtikmjfepflaokaaDoor
