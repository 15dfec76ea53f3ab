/- Package quat: Back; the law QuatUndone. -/
import Derived.Test.YtlmmpgophpbjnaaDoorTl
namespace Go.Proofs.YtlmmpgophpbjnaaDoor
open Go.RowKit
set_option maxRecDepth 4000
set_option linter.unusedVariables false

set_option maxHeartbeats 2000000 in
theorem qBack_core (a b c d x y z : Int) (w : World) (h1 : Hid (Ans 52 #[.int .i64 0, .int .i64 b] (.int .i64 x))) (h2 : Hid (Ans 52 #[.int .i64 0, .int .i64 c] (.int .i64 y))) (h3 : Hid (Ans 52 #[.int .i64 0, .int .i64 d] (.int .i64 z))) :
    Calls Tryd.prog 21 #[.agg (q4 a b c d)] w fun e w' => e = .returned (.agg (q4 a x y z)) ∧ Below w.heap.size w w' := by
  go_enter Tryd.func21, Tryd.ntmps21
  go_upto_region 1 with fail
  have D := hide (((Gen.start w).push 24 (q4 a b c d)).push 24 (q4 0 0 0 0))
  simp only [szA] at D
  refine region_last (S := Gen w _) (f := 12) (l := [0, 1, 2, 3, 4, 5, 6, 7, 8, 9, 10, 11]) (by kernel_rfl) (by kernel_rfl) (by kernel_rfl) (by kernel_rfl) (by kernel_rfl) (by kernel_rfl) (by kernel_rfl) (by kernel_rfl) (by kernel_rfl) (by kernel_rfl) rfl rfl (unhide D).drew ?_
  clear D
  refine plan_read (v := ?_) rfl rfl (fun u hS => by go_simp; rfl) ?_
  go_simp
  refine plan_read (v := .int .i64 a) rfl rfl (fun u hS => exec_loadFG hS _ rfl rfl (by repeat (first | exact List.mem_cons_self | apply List.mem_cons_of_mem)) rfl) ?_
  go_simp
  refine plan_read (v := ?_) rfl rfl (fun u hS => by go_simp; rfl) ?_
  go_simp
  refine plan_read (v := .int .i64 b) rfl rfl (fun u hS => exec_loadFG hS _ rfl rfl (by repeat (first | exact List.mem_cons_self | apply List.mem_cons_of_mem)) rfl) ?_
  go_simp
  refine plan_call (v := .int .i64 x) (f := 52) (args := #[.int .i64 0, .int .i64 b]) rfl rfl (fun u hS => by go_simp) (fun u hS => (unhide h1 u).mono fun _ _ ⟨he, hb⟩ => ⟨he, hS.keep hb⟩) ?_
  go_simp
  refine plan_read (v := ?_) rfl rfl (fun u hS => by go_simp; rfl) ?_
  go_simp
  refine plan_read (v := .int .i64 c) rfl rfl (fun u hS => exec_loadFG hS _ rfl rfl (by repeat (first | exact List.mem_cons_self | apply List.mem_cons_of_mem)) rfl) ?_
  go_simp
  refine plan_call (v := .int .i64 y) (f := 52) (args := #[.int .i64 0, .int .i64 c]) rfl rfl (fun u hS => by go_simp) (fun u hS => (unhide h2 u).mono fun _ _ ⟨he, hb⟩ => ⟨he, hS.keep hb⟩) ?_
  go_simp
  refine plan_read (v := ?_) rfl rfl (fun u hS => by go_simp; rfl) ?_
  go_simp
  refine plan_read (v := .int .i64 d) rfl rfl (fun u hS => exec_loadFG hS _ rfl rfl (by repeat (first | exact List.mem_cons_self | apply List.mem_cons_of_mem)) rfl) ?_
  go_simp
  refine plan_call (v := .int .i64 z) (f := 52) (args := #[.int .i64 0, .int .i64 d]) rfl rfl (fun u hS => by go_simp) (fun u hS => (unhide h3 u).mono fun _ _ ⟨he, hb⟩ => ⟨he, hS.keep hb⟩) ?_
  go_simp
  refine plan_read (v := .agg (q4 a x y z)) rfl rfl (fun u hS => by go_simp) ?_
  go_simp
  refine plan_last (fun u hS => ?_)
  have B0 := hide (hS.blk (g := w.heap.size + 1) (t := 24) (cs := q4 0 0 0 0) (by repeat (first | exact List.mem_cons_self | apply List.mem_cons_of_mem)))
  refine wp_store_row 24 (.tmp 2) (.tmp 14) rfl _ (q4 a x y z) rfl rfl 24 (q4 0 0 0 0) (unhide B0) rQuat.i rfl (q4_one _ _ _ _) ?_
  have B := hide ((unhide B0).row (q4 a x y z))
  have O := hide (below_row hS.o (show w.heap.size ≤ w.heap.size + 1 by omega) (q4 a x y z))
  clear hS B0
  go_wp2
  exact resG rQuat (unhide B) rfl rfl rfl rfl ⟨rfl, unhide O⟩
theorem QBackZ (a b c d : Int) (h1 : I64 b) (h2 : I64 c) (h3 : I64 d) : Ans 21 #[.agg (q4 a b c d)] (.agg (q4 a (cl (0 - b)) (cl (0 - c)) (cl (0 - d)))) := fun w =>
  have i0 : I64 0 := ⟨by decide, by decide⟩
  qBack_core a b c d _ _ _ w (FixSubZ 0 b i0 h1) (FixSubZ 0 c i0 h2) (FixSubZ 0 d i0 h3)
theorem near_core (a b : Int) (w : World) (h1 : decide (wrap64 (a - b) ≤ 64) = true) (h2 : decide (wrap64 (b - a) ≤ 64) = true) :
    Calls Tryd.prog 25 #[.int .i64 a, .int .i64 b] w fun e w' => e = .returned (.bool true) ∧ Below w.heap.size w w' := by
  have D := hide (Gen.start w)
  go_enter Tryd.func25, Tryd.ntmps25
  go_wp2_with (first | (with_reducible refine at_list ?_;  refine leqZ _ _ h1 rfl rfl rfl rfl ?_) | (with_reducible refine at_list ?_;  refine leqZw _ _ h2 rfl rfl rfl rfl ?_))
  go_ret
  exact ⟨rfl, (unhide D).o⟩
theorem Near5 (a b : Int) (ha : -4611686018427387904 ≤ a ∧ a ≤ 4611686018427387904) (hb : -4611686018427387904 ≤ b ∧ b ≤ 4611686018427387904) (h : a - b ≤ 64 ∧ b - a ≤ 64) : Ans 25 #[.int .i64 a, .int .i64 b] (.bool true) := fun w =>
  near_core a b w (by rw [wrap_self ⟨by omega, by omega⟩]; exact decide_eq_true h.1) (by rw [wrap_self ⟨by omega, by omega⟩]; exact decide_eq_true h.2)
theorem undone_bad (a b c d : Int) (TP TT : Array Value) (w : World) (hP : Tab 1 TP w) (hT : Tab 0 TT w)
    (hW : Hid (∀ u, Tab 1 TP u → Tab 0 TT u → Calls Tryd.prog 12 #[] u fun e w' => e = .returned (.bool true) ∧ Below u.heap.size u w')) (hU : Hid (Ans 15 #[.agg (q4 a b c d)] (.tuple #[.agg (q4 0 0 0 0), .int .i64 9]))) :
    Calls Tryd.prog 9 #[.agg (q4 a b c d)] w fun e w' => e = .returned (.bool true) ∧ Below w.heap.size w w' := by
  have hPlt := hP.lt
  have hTlt := hT.lt
  have HP := hide hP
  have HT := hide hT
  clear hP hT
  go_enter Tryd.func9, Tryd.ntmps9
  go_upto_region 1 with fail
  have D := hide ((Gen.start w).push 24 (q4 a b c d))
  go_wp2_with (first | (with_reducible refine at_list ?_; apply ldG (unhide D) rQuat _ rfl rfl rfl (by repeat (first | exact List.mem_cons_self | apply List.mem_cons_of_mem)) rfl) | (go_at_call 15; with_reducible refine (unhide hU _).mono ?_; rintro e w' ⟨he, hb⟩; subst he; have D := hide ((unhide D).keep hb); clear hb) | (with_reducible refine at_list ?_; refine stG (unhide D) rQuat _ _ rfl rfl rfl rfl rfl rfl (q4_one _ _ _ _) ?_; intro D'; have D := hide D'; clear D') | (go_at_call 12; with_reducible refine (unhide hW _ ((unhide HP).below (unhide D).o hPlt) ((unhide HT).below (unhide D).o hTlt)).mono ?_; rintro e w' ⟨he, hb⟩; subst he; have D := hide ((unhide D).keep hb); clear hb))
  go_ret
  exact ⟨rfl, (unhide D).o⟩
set_option maxHeartbeats 4000000 in
theorem undone_core (a b c d u0 u1 u2 u3 b1 b2 b3 W : Int) (TP TT : Array Value) (w : World) (hP : Tab 1 TP w) (hT : Tab 0 TT w)
    (hW : Hid (∀ u, Tab 1 TP u → Tab 0 TT u → Calls Tryd.prog 12 #[] u fun e w' => e = .returned (.bool true) ∧ Below u.heap.size u w')) (hU : Hid (Ans 15 #[.agg (q4 a b c d)] (.tuple #[.agg (q4 u0 u1 u2 u3), .int .i64 0]))) (hB : Hid (Ans 21 #[.agg (q4 u0 u1 u2 u3)] (.agg (q4 u0 b1 b2 b3))))
    (h1 : Hid (∀ u, Tab 1 TP u → Calls Tryd.prog 14 #[.agg (q4 u0 u1 u2 u3), .agg (q4 u0 b1 b2 b3)] u fun e w' => e = .returned (.agg (q4 W 0 0 0)) ∧ Below u.heap.size u w')) (h2 : Hid (∀ u, Tab 1 TP u → Calls Tryd.prog 14 #[.agg (q4 u0 b1 b2 b3), .agg (q4 u0 u1 u2 u3)] u fun e w' => e = .returned (.agg (q4 W 0 0 0)) ∧ Below u.heap.size u w'))
    (hN : Hid (Ans 25 #[.int .i64 W, .int .i64 4294967296] (.bool true))) (hZ : Hid (Ans 25 #[.int .i64 0, .int .i64 0] (.bool true))) :
    Calls Tryd.prog 9 #[.agg (q4 a b c d)] w fun e w' => e = .returned (.bool true) ∧ Below w.heap.size w w' := by
  have hPlt := hP.lt
  have hTlt := hT.lt
  have HP := hide hP
  have HT := hide hT
  clear hP hT
  go_enter Tryd.func9, Tryd.ntmps9
  go_upto_region 1 with fail
  have D := hide ((Gen.start w).push 24 (q4 a b c d))
  go_upto_region 4 with (first | (with_reducible refine at_list ?_; apply ldG (unhide D) rQuat _ rfl rfl rfl (by repeat (first | exact List.mem_cons_self | apply List.mem_cons_of_mem)) rfl) | (go_at_call 15; with_reducible refine (unhide hU _).mono ?_; rintro e w1 ⟨he, hb⟩; subst he; have D := hide ((unhide D).keep hb); clear hb) | (with_reducible refine at_list ?_; refine stG (unhide D) rQuat _ _ rfl rfl rfl rfl rfl rfl (q4_one _ _ _ _) ?_; intro D'; have D := hide D'; clear D'))
  generalize hw3 : (w1.alloc (.cells (q4 u0 u1 u2 u3) 24)) = w3 at D ⊢
  clear hw3 hU
  generalize w1.heap.size = g3 at *
  have D1 : Hid (GenZ w _ w3.heap.size w3.drew) := ⟨(unhide D).drew, Nat.le_refl _⟩
  have hw0 := hide (unhide D).o.size
  clear D
  generalize w3.heap.size = C at D1 hw0
  refine region_allocs (S := GenZ w _ C) (t := 24) (z := q4 0 0 0 0) (base := C) (l := [0, 1, 2, 3, 4, 5, 6, 7]) (A := [8, 9]) (T := [10, 11]) (by kernel_rfl) (by kernel_rfl) (by kernel_rfl) (by kernel_rfl) (by kernel_rfl) (by kernel_rfl) (by kernel_rfl) (by kernel_rfl) (by kernel_rfl) (by kernel_rfl) ?_ (fun _ _ h hb => h.keep hb) (fun _ h => h.s) (unhide D1) ?_
  · intro i hi
    simp at hi
    rcases hi with rfl | rfl
    · exact ⟨_, rfl, rfl, fun a w => by go_simp⟩
    · exact ⟨_, rfl, rfl, fun a w => by go_simp⟩
  clear D1
  refine planB_read (v := .agg (q4 u0 u1 u2 u3)) rfl rfl (fun u hS => exec_loadG hS.e rQuat (.tmp 3) rfl rfl (by repeat (first | exact List.mem_cons_self | apply List.mem_cons_of_mem)) rfl) ?_
  go_simp
  refine planB_read (v := .agg (q4 u0 u1 u2 u3)) rfl rfl (fun u hS => exec_loadG hS.e rQuat (.tmp 3) rfl rfl (by repeat (first | exact List.mem_cons_self | apply List.mem_cons_of_mem)) rfl) ?_
  go_simp
  refine planB_call (v := .agg (q4 u0 b1 b2 b3)) (f := 21) (args := #[.agg (q4 u0 u1 u2 u3)]) rfl rfl (fun u hS => by go_simp) (fun u hS => (unhide hB u).mono fun _ _ ⟨he, hb⟩ => ⟨he, hS.keep hb, hb⟩) ?_
  go_simp
  refine planB_call (v := .agg (q4 W 0 0 0)) (f := 14) (args := #[.agg (q4 u0 u1 u2 u3), .agg (q4 u0 b1 b2 b3)]) rfl rfl (fun u hS => by go_simp) (fun u hS => (unhide h1 u ((unhide HP).below hS.e.o hPlt)).mono fun _ _ ⟨he, hb⟩ => ⟨he, hS.keep hb, hb⟩) ?_
  go_simp
  refine planB_read (v := .agg (q4 u0 u1 u2 u3)) rfl rfl (fun u hS => exec_loadG hS.e rQuat (.tmp 3) rfl rfl (by repeat (first | exact List.mem_cons_self | apply List.mem_cons_of_mem)) rfl) ?_
  go_simp
  refine planB_call (v := .agg (q4 u0 b1 b2 b3)) (f := 21) (args := #[.agg (q4 u0 u1 u2 u3)]) rfl rfl (fun u hS => by go_simp) (fun u hS => (unhide hB u).mono fun _ _ ⟨he, hb⟩ => ⟨he, hS.keep hb, hb⟩) ?_
  go_simp
  refine planB_read (v := .agg (q4 u0 u1 u2 u3)) rfl rfl (fun u hS => exec_loadG hS.e rQuat (.tmp 3) rfl rfl (by repeat (first | exact List.mem_cons_self | apply List.mem_cons_of_mem)) rfl) ?_
  go_simp
  refine planB_call (v := .agg (q4 W 0 0 0)) (f := 14) (args := #[.agg (q4 u0 b1 b2 b3), .agg (q4 u0 u1 u2 u3)]) rfl rfl (fun u hS => by go_simp) (fun u hS => (unhide h2 u ((unhide HP).below hS.e.o hPlt)).mono fun _ _ ⟨he, hb⟩ => ⟨he, hS.keep hb, hb⟩) ?_
  go_simp
  refine planB_tail (fun cc u hS hB hI => ?_)
  have k0 := hB 8 (by simp)
  have k1 := hB 9 (by simp)
  have n01 : cc 8 ≠ cc 9 := fun hc => by have := hI 8 (by simp) 9 (by simp) hc; omega
  simp only [pa, dstOf, opsOf]
  have O := hide hS.e.o
  generalize cc 8 = c0 at k0 n01 ⊢
  generalize cc 9 = c1 at k1 n01 ⊢
  clear hS hB hI
  have W0 := unhide hw0
  have D := hide (Gen.pair ((k0.1.row (q4 W 0 0 0)).rowOther (q4 W 0 0 0) n01) ((k1.1.rowOther (q4 W 0 0 0) (Ne.symm n01)).row (q4 W 0 0 0)) (below_row (below_row (unhide O) (show w.heap.size ≤ c0 by omega) (q4 W 0 0 0)) (show w.heap.size ≤ c1 by omega) (q4 W 0 0 0)))
  have K0 := hide k0.1
  have K1 := hide (k1.1.rowOther (q4 W 0 0 0) (Ne.symm n01))
  clear k0 k1 O W0 hw0
  refine wpList_store_row rfl 24 (.tmp 5) (.tmp 18) rfl _ (q4 W 0 0 0) rfl rfl 24 _ (unhide K0) rQuat.i rfl (q4_one _ _ _ _) ?_
  refine wpList_store_row rfl 24 (.tmp 6) (.tmp 22) rfl _ (q4 W 0 0 0) rfl rfl 24 _ (unhide K1) rQuat.i rfl (q4_one _ _ _ _) ?_
  generalize (u.setRow c0 (q4 W 0 0 0)).setRow c1 (q4 W 0 0 0) = u1 at D ⊢
  clear K0 K1 n01 h1 h2
  go_simp
  go_wp2_with (first | (with_reducible refine at_list ?_; apply ldF (unhide D) _ rfl rfl rfl (by repeat (first | exact List.mem_cons_self | apply List.mem_cons_of_mem)) rfl) | (with_reducible refine at_list ?_; apply ldFw (unhide D) _ rfl rfl rfl (by repeat (first | exact List.mem_cons_self | apply List.mem_cons_of_mem)) rfl) | (go_at_call 25; with_reducible refine (unhide hN _).mono ?_; rintro e w' ⟨he, hb⟩; subst he; have D := hide ((unhide D).keep hb); clear hb) | (go_at_call 25; with_reducible refine (unhide hZ _).mono ?_; rintro e w' ⟨he, hb⟩; subst he; have D := hide ((unhide D).keep hb); clear hb) | (go_at_call 12; with_reducible refine (unhide hW _ ((unhide HP).below (unhide D).o hPlt) ((unhide HT).below (unhide D).o hTlt)).mono ?_; rintro e w' ⟨he, hb⟩; subst he; have D := hide ((unhide D).keep hb); clear hb))
  go_ret
  exact ⟨rfl, (unhide D).o⟩
theorem prd_0 (a b c d e f g h : Int) : prd a b c d e f g h 16 0 = 0 + a * e * 1 + b * f * -1 + c * g * -1 + d * h * -1 := rfl
theorem prd_1 (a b c d e f g h : Int) : prd a b c d e f g h 16 1 = 0 + a * f * 1 + b * e * 1 + c * h * 1 + d * g * -1 := rfl
theorem prd_2 (a b c d e f g h : Int) : prd a b c d e f g h 16 2 = 0 + a * g * 1 + c * e * 1 + d * f * 1 + b * h * -1 := rfl
theorem prd_3 (a b c d e f g h : Int) : prd a b c d e f g h 16 3 = 0 + a * h * 1 + d * e * 1 + b * g * 1 + c * f * -1 := rfl
theorem mul_back (a b c d : Int) : mulQ a b c d a (-b) (-c) (-d) 0 = cl (sq4 a b c d / 4294967296) ∧ mulQ a b c d a (-b) (-c) (-d) 1 = 0 ∧ mulQ a b c d a (-b) (-c) (-d) 2 = 0 ∧ mulQ a b c d a (-b) (-c) (-d) 3 = 0 := by
  unfold mulQ
  rw [prd_0, prd_1, prd_2, prd_3]
  refine ⟨?_, ?_, ?_, ?_⟩
  · rw [show 0 + a * a * 1 + b * -b * -1 + c * -c * -1 + d * -d * -1 = sq4 a b c d by unfold sq4; grind]
  · rw [show 0 + a * -b * 1 + b * a * 1 + c * -d * 1 + d * -c * -1 = 0 by grind]; decide
  · rw [show 0 + a * -c * 1 + c * a * 1 + d * -b * 1 + b * -d * -1 = 0 by grind]; decide
  · rw [show 0 + a * -d * 1 + d * a * 1 + b * -c * 1 + c * -b * -1 = 0 by grind]; decide
theorem back_mul (a b c d : Int) : mulQ a (-b) (-c) (-d) a b c d 0 = cl (sq4 a b c d / 4294967296) ∧ mulQ a (-b) (-c) (-d) a b c d 1 = 0 ∧ mulQ a (-b) (-c) (-d) a b c d 2 = 0 ∧ mulQ a (-b) (-c) (-d) a b c d 3 = 0 := by
  unfold mulQ
  rw [prd_0, prd_1, prd_2, prd_3]
  refine ⟨?_, ?_, ?_, ?_⟩
  · rw [show 0 + a * a * 1 + -b * b * -1 + -c * c * -1 + -d * d * -1 = sq4 a b c d by unfold sq4; grind]
  · rw [show 0 + a * b * 1 + -b * a * 1 + -c * d * 1 + -d * c * -1 = 0 by grind]; decide
  · rw [show 0 + a * c * 1 + -c * a * 1 + -d * b * 1 + -b * d * -1 = 0 by grind]; decide
  · rw [show 0 + a * d * 1 + -d * a * 1 + -b * c * 1 + -c * b * -1 = 0 by grind]; decide
theorem part_abs {x u S : Int} (h : PartU x u S) : ∃ f, 0 ≤ f ∧ f ≤ 4294967296 ∧ u * u = f * f ∧ f * f * S - 2 * f * S ≤ x * x * 18446744073709551616 ∧ x * x * 18446744073709551616 ≤ f * f * S + 2 * f * S + S := by
  obtain ⟨a1, a2, _, l, r⟩ := h
  have eu : u * u = (if u < 0 then -u else u) * (if u < 0 then -u else u) := by split <;> grind
  refine ⟨if u < 0 then -u else u, by split <;> omega, by split <;> omega, eu, ?_, ?_⟩
  · rw [← eu]; exact a1
  · rw [← eu]; exact a2
theorem unit4_sq {x y z t u v p q S : Int} (hS : 0 < S) (e : sq4 x y z t = S) (hx : PartU x u S) (hy : PartU y v S) (hz : PartU z p S) (ht : PartU t q S) : 18446744073709551616 - 34359738372 ≤ sq4 u v p q ∧ sq4 u v p q ≤ 18446744073709551616 + 34359738372 := by
  obtain ⟨f, f0, f1, fe, a1, a2⟩ := part_abs hx
  obtain ⟨g, g0, g1, ge, b1, b2⟩ := part_abs hy
  obtain ⟨h, h0, h1, he, c1, c2⟩ := part_abs hz
  obtain ⟨k, k0, k1, ke, d1, d2⟩ := part_abs ht
  have m1 : f * f + g * g + h * h + k * k - 2 * (f + g + h + k) ≤ 18446744073709551616 := by
    refine Int.le_of_mul_le_mul_right ?_ hS
    rw [show (f * f + g * g + h * h + k * k - 2 * (f + g + h + k)) * S = (f * f * S - 2 * f * S) + (g * g * S - 2 * g * S) + (h * h * S - 2 * h * S) + (k * k * S - 2 * k * S) by grind]
    unfold sq4 at e
    have e2 : 18446744073709551616 * S = x * x * 18446744073709551616 + y * y * 18446744073709551616 + z * z * 18446744073709551616 + t * t * 18446744073709551616 := by rw [← e]; grind
    omega
  have m2 : 18446744073709551616 ≤ f * f + g * g + h * h + k * k + 2 * (f + g + h + k) + 4 := by
    refine Int.le_of_mul_le_mul_right ?_ hS
    rw [show (f * f + g * g + h * h + k * k + 2 * (f + g + h + k) + 4) * S = (f * f * S + 2 * f * S + S) + (g * g * S + 2 * g * S + S) + (h * h * S + 2 * h * S + S) + (k * k * S + 2 * k * S + S) by grind]
    unfold sq4 at e
    have e2 : 18446744073709551616 * S = x * x * 18446744073709551616 + y * y * 18446744073709551616 + z * z * 18446744073709551616 + t * t * 18446744073709551616 := by rw [← e]; grind
    omega
  unfold sq4
  rw [fe, ge, he, ke]
  omega
theorem back_1 {u : Int} (l : -4294967296 ≤ u) (r : u ≤ 4294967296) : cl (0 - u) = -u := by
  rw [Int.zero_sub]
  exact cl_self ⟨by omega, by omega⟩
theorem quatUndone_walk (a b c d : Int) (k0 : (Lit.int .i64 a).wf = true) (l0 : (Lit.int .i64 b).wf = true) (m0 : (Lit.int .i64 c).wf = true) (n0 : (Lit.int .i64 d).wf = true) (w : World) (hP : Tab 1 tabP w) (hT : Tab 0 tabT w) :
    Calls Tryd.prog 9 #[.agg (q4 a b c d)] w fun e w' => e = .returned (.bool true) ∧ Below w.heap.size w w' := by
  have h0 := I64.wf k0
  have h1 := I64.wf l0
  have h2 := I64.wf m0
  have h3 := I64.wf n0
  rcases chk_cases (sq4 a b c d) with hc | hc
  · have hp : 0 < sq4 a b c d := by have := chk_pos hc; omega
    have hg := sq4_ge a b c d
    have hU := QUnitZ a b c d h0 h1 h2 h3 hc
    have p0 := shI_shr (x := a) hp hg.1
    have p1 := shI_shr (x := b) hp hg.2.1
    have p2 := shI_shr (x := c) hp hg.2.2.1
    have p3 := shI_shr (x := d) hp hg.2.2.2
    have hs := unit4_sq hp rfl p0 p1 p2 p3
    generalize shI a (sq4 a b c d) = u0 at *
    generalize shI b (sq4 a b c d) = u1 at *
    generalize shI c (sq4 a b c d) = u2 at *
    generalize shI d (sq4 a b c d) = u3 at *
    have i0 : I64 u0 := ⟨by have := p0.l; omega, by have := p0.r; omega⟩
    have i1 : I64 u1 := ⟨by have := p1.l; omega, by have := p1.r; omega⟩
    have i2 : I64 u2 := ⟨by have := p2.l; omega, by have := p2.r; omega⟩
    have i3 : I64 u3 := ⟨by have := p3.l; omega, by have := p3.r; omega⟩
    have j1 : I64 (-u1) := ⟨by have := p1.r; omega, by have := p1.l; omega⟩
    have j2 : I64 (-u2) := ⟨by have := p2.r; omega, by have := p2.l; omega⟩
    have j3 : I64 (-u3) := ⟨by have := p3.r; omega, by have := p3.l; omega⟩
    have hB := QBackZ u0 u1 u2 u3 i1 i2 i3
    rw [back_1 p1.l p1.r, back_1 p2.l p2.r, back_1 p3.l p3.r] at hB
    have hW : cl (sq4 u0 u1 u2 u3 / 4294967296) = sq4 u0 u1 u2 u3 / 4294967296 := cl_self ⟨by omega, by omega⟩
    obtain ⟨e0, e1, e2, e3⟩ := mul_back u0 u1 u2 u3
    obtain ⟨f0, f1, f2, f3⟩ := back_mul u0 u1 u2 u3
    refine undone_core a b c d u0 u1 u2 u3 (-u1) (-u2) (-u3) (sq4 u0 u1 u2 u3 / 4294967296) tabP tabT w hP hT (fun u p q => awake5Z u p q) hU hB (fun u p => ?_) (fun u p => ?_) (Near5 _ _ ⟨by omega, by omega⟩ ⟨by decide, by decide⟩ ⟨by omega, by omega⟩) (Near5 0 0 ⟨by decide, by decide⟩ ⟨by decide, by decide⟩ ⟨by decide, by decide⟩)
    · have k := QMulZ u0 u1 u2 u3 u0 (-u1) (-u2) (-u3) i0 i1 i2 i3 i0 j1 j2 j3 u p
      rw [e0, e1, e2, e3, hW] at k
      exact k
    · have k := QMulZ u0 (-u1) (-u2) (-u3) u0 u1 u2 u3 i0 j1 j2 j3 i0 i1 i2 i3 u p
      rw [f0, f1, f2, f3, hW] at k
      exact k
  · exact undone_bad a b c d tabP tabT w hP hT (fun u p q => awake5Z u p q) (QUnitBad a b c d h0 h1 h2 h3 hc)

end Go.Proofs.YtlmmpgophpbjnaaDoor
