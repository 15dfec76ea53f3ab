/- The laws of orient: awake; OrientTurns. -/
import Derived.Test.YtnknejdmoghmiaaHp
namespace Go.Proofs.Ytnknejdmoghmiaa
open Go.RowKit
set_option maxRecDepth 4000
set_option linter.unusedVariables false

set_option maxHeartbeats 4000000 in
theorem awake7_core (w : World) (hS : Hid (Ans 54 #[.agg (v3 0 0 0), .agg (v3 1 0 0), .agg (v3 0 1 0), .agg (v3 5 5 1)] (.tuple #[.int .i64 1, .int .i64 0])))
    (h1 : Hid (∀ u g, Blk u g 26 (w9 0 0 0 4 0 0 0 4 0) → Calls Try.prog 63 #[.slice (some ⟨g, 0, none⟩) 3 3, .agg (v3 1 1 0)] u fun e w' => e = .returned (.tuple #[.bool true, .int .i64 0]) ∧ Below u.heap.size u w'))
    (h3 : Hid (∀ u g, Blk u g 26 (w9 0 0 0 4 0 0 0 4 0) → Calls Try.prog 63 #[.slice (some ⟨g, 0, none⟩) 3 3, .agg (v3 3 3 0)] u fun e w' => e = .returned (.tuple #[.bool false, .int .i64 0]) ∧ Below u.heap.size u w'))
    (hK : Hid (∀ u g, Blk u g 26 (w9 0 0 0 2 0 0 4 0 0) → Calls Try.prog 58 #[.slice (some ⟨g, 0, none⟩) 3 3] u fun e w' => e = .returned (.tuple #[.int .i64 1, .int .i64 0]) ∧ Below u.heap.size u w')) :
    Calls Try.prog 53 #[] w fun e w' => e = .returned (.bool true) ∧ Below w.heap.size w w' := by
  go_enter Try.func53, Try.ntmps53
  have D := hide (Gen.start w)
  go_upto_region 2 with (first | (go_at_call 54; with_reducible refine (unhide hS _).mono ?_; rintro e w' ⟨he, hb⟩; subst he; have D := hide ((unhide D).keep hb); clear hb))
  go_upto_region 3 with (first | (with_reducible refine at_list ?_;  refine wpList_turns rfl (exec_bs3p _ (.tmp 18) (.tmp 19) (.tmp 20) rfl rfl rfl rfl) ?_; have D := hide ((unhide D).push 26 (w9 0 0 0 4 0 0 0 4 0))))
  generalize w'.heap.size = g1 at *
  generalize w'.alloc (.cells (w9 0 0 0 4 0 0 0 4 0) 26) = w1 at *
  clear hS
  have B := hide ((unhide D).blk (g := g1) (t := 26) (cs := w9 0 0 0 4 0 0 0 4 0) (by repeat (first | exact List.mem_cons_self | apply List.mem_cons_of_mem)))
  go_upto_region 4 with (first | (go_at_call 63; refine (unhide h1 _ _ ((unhide D).blk (g := g1) (t := 26) (cs := w9 0 0 0 4 0 0 0 4 0) (by repeat (first | exact List.mem_cons_self | apply List.mem_cons_of_mem)))).mono ?_; rintro e w' ⟨he, hb⟩; subst he; have D := hide ((unhide D).keep hb); clear hb))
  clear h1 B
  go_upto_region 5 with (first | (go_at_call 63; refine (unhide h3 _ _ ((unhide D).blk (g := g1) (t := 26) (cs := w9 0 0 0 4 0 0 0 4 0) (by repeat (first | exact List.mem_cons_self | apply List.mem_cons_of_mem)))).mono ?_; rintro e w' ⟨he, hb⟩; subst he; have D := hide ((unhide D).keep hb); clear hb))
  clear h3
  go_wp2_with (first | (with_reducible refine at_list ?_;  refine wpList_turns rfl (exec_bs3p _ (.tmp 35) (.tmp 36) (.tmp 37) rfl rfl rfl rfl) ?_; have D := hide ((unhide D).push 26 (w9 0 0 0 2 0 0 4 0 0))) | (go_at_call 58; refine (unhide hK _ _ ((unhide D).blk List.mem_cons_self)).mono ?_; rintro e w' ⟨he, hb⟩; subst he; have D := hide ((unhide D).keep hb); clear hb))
  go_ret
  exact ⟨rfl, (unhide D).o⟩
theorem awake7Z : Ans 53 #[] (.bool true) := fun w => by
  have hS := SideO (0, 0, 0) (1, 0, 0) (0, 1, 0) (5, 5, 1)
  rw [show sdI (0, 0, 0) (1, 0, 0) (0, 1, 0) (5, 5, 1) = 1 from by kernel_rfl, show sdE (0, 0, 0) (1, 0, 0) (0, 1, 0) (5, 5, 1) = 0 from by kernel_rfl] at hS
  refine awake7_core w hS (fun u g hb => ?_) (fun u g hb => ?_) (fun u g hb => ?_)
  · have := InsideF (some ⟨g, 0, none⟩) 3 3 _ (1, 1, 0) u (by decide) (Nat.le_refl _) (PRow.three hb)
    rw [show insB 3 (nthP [(0, 0, 0), (4, 0, 0), (0, 4, 0)]) (1, 1, 0) = true from by kernel_rfl, show insE 3 (nthP [(0, 0, 0), (4, 0, 0), (0, 4, 0)]) (1, 1, 0) = 0 from by kernel_rfl] at this
    exact this
  · have := InsideF (some ⟨g, 0, none⟩) 3 3 _ (3, 3, 0) u (by decide) (Nat.le_refl _) (PRow.three hb)
    rw [show insB 3 (nthP [(0, 0, 0), (4, 0, 0), (0, 4, 0)]) (3, 3, 0) = false from by kernel_rfl, show insE 3 (nthP [(0, 0, 0), (4, 0, 0), (0, 4, 0)]) (3, 3, 0) = 0 from by kernel_rfl] at this
    exact this
  · have := RankO (some ⟨g, 0, none⟩) 3 3 _ u (by decide) (PRow.three hb)
    rw [show rkI 3 (nthP [(0, 0, 0), (2, 0, 0), (4, 0, 0)]) = 1 from by kernel_rfl, show spE 3 (nthP [(0, 0, 0), (2, 0, 0), (4, 0, 0)]) = 0 from by kernel_rfl] at this
    exact this
set_option maxHeartbeats 4000000 in
theorem turns_r (a b c p : Pt) (w : World) (h0 : Hid (Ans 54 #[.agg (v3 a.1 a.2.1 a.2.2), .agg (v3 b.1 b.2.1 b.2.2), .agg (v3 c.1 c.2.1 c.2.2), .agg (v3 p.1 p.2.1 p.2.2)] (.tuple #[.int .i64 0, .int .i64 7]))) (h1 : Hid (Ans 54 #[.agg (v3 b.1 b.2.1 b.2.2), .agg (v3 a.1 a.2.1 a.2.2), .agg (v3 c.1 c.2.1 c.2.2), .agg (v3 p.1 p.2.1 p.2.2)] (.tuple #[.int .i64 0, .int .i64 7]))) (h2 : Hid (Ans 54 #[.agg (v3 a.1 a.2.1 a.2.2), .agg (v3 c.1 c.2.1 c.2.2), .agg (v3 b.1 b.2.1 b.2.2), .agg (v3 p.1 p.2.1 p.2.2)] (.tuple #[.int .i64 0, .int .i64 7]))) (h3 : Hid (Ans 54 #[.agg (v3 b.1 b.2.1 b.2.2), .agg (v3 c.1 c.2.1 c.2.2), .agg (v3 a.1 a.2.1 a.2.2), .agg (v3 p.1 p.2.1 p.2.2)] (.tuple #[.int .i64 0, .int .i64 7]))) (h4 : Hid (Ans 54 #[.agg (v3 c.1 c.2.1 c.2.2), .agg (v3 a.1 a.2.1 a.2.2), .agg (v3 b.1 b.2.1 b.2.2), .agg (v3 p.1 p.2.1 p.2.2)] (.tuple #[.int .i64 0, .int .i64 7]))) (haw : Hid (Ans 53 #[] (.bool true))) :
    Calls Try.prog 17 #[.agg (v3 a.1 a.2.1 a.2.2), .agg (v3 b.1 b.2.1 b.2.2), .agg (v3 c.1 c.2.1 c.2.2), .agg (v3 p.1 p.2.1 p.2.2)] w fun e w' => e = .returned (.bool true) ∧ Below w.heap.size w w' := by
  go_enter Try.func17, Try.ntmps17
  go_upto_region 1 with fail
  have D := hide (((((Gen.start w).push 26 (v3 a.1 a.2.1 a.2.2)).push 26 (v3 b.1 b.2.1 b.2.2)).push 26 (v3 c.1 c.2.1 c.2.2)).push 26 (v3 p.1 p.2.1 p.2.2))
  simp only [szA] at D
  go_upto_region 2 with (first | (with_reducible refine at_list ?_; apply ldG (unhide D) rPoint _ rfl rfl rfl (by repeat (first | exact List.mem_cons_self | apply List.mem_cons_of_mem)) rfl) | (go_at_call 54; with_reducible refine (unhide h0 _).mono ?_; rintro e w' ⟨he, hb⟩; subst he; have D := hide ((unhide D).keep hb); clear hb))
  clear h0
  go_upto_region 3 with (first | (with_reducible refine at_list ?_; apply ldG (unhide D) rPoint _ rfl rfl rfl (by repeat (first | exact List.mem_cons_self | apply List.mem_cons_of_mem)) rfl) | (go_at_call 54; with_reducible refine (unhide h1 _).mono ?_; rintro e w' ⟨he, hb⟩; subst he; have D := hide ((unhide D).keep hb); clear hb))
  clear h1
  go_upto_region 4 with (first | (with_reducible refine at_list ?_; apply ldG (unhide D) rPoint _ rfl rfl rfl (by repeat (first | exact List.mem_cons_self | apply List.mem_cons_of_mem)) rfl) | (go_at_call 54; with_reducible refine (unhide h2 _).mono ?_; rintro e w' ⟨he, hb⟩; subst he; have D := hide ((unhide D).keep hb); clear hb))
  clear h2
  go_upto_region 5 with (first | (with_reducible refine at_list ?_; apply ldG (unhide D) rPoint _ rfl rfl rfl (by repeat (first | exact List.mem_cons_self | apply List.mem_cons_of_mem)) rfl) | (go_at_call 54; with_reducible refine (unhide h3 _).mono ?_; rintro e w' ⟨he, hb⟩; subst he; have D := hide ((unhide D).keep hb); clear hb))
  clear h3
  go_upto_region 6 with (first | (with_reducible refine at_list ?_; apply ldG (unhide D) rPoint _ rfl rfl rfl (by repeat (first | exact List.mem_cons_self | apply List.mem_cons_of_mem)) rfl) | (go_at_call 54; with_reducible refine (unhide h4 _).mono ?_; rintro e w' ⟨he, hb⟩; subst he; have D := hide ((unhide D).keep hb); clear hb))
  clear h4
  go_wp2_with (first | (go_at_call 53; with_reducible refine (unhide haw _).mono ?_; rintro e w' ⟨he, hb⟩; subst he; have D := hide ((unhide D).keep hb); clear hb))
  go_ret
  exact ⟨rfl, (unhide D).o⟩
set_option maxHeartbeats 4000000 in
theorem turns_z (a b c p : Pt) (w : World) (h0 : Hid (Ans 54 #[.agg (v3 a.1 a.2.1 a.2.2), .agg (v3 b.1 b.2.1 b.2.2), .agg (v3 c.1 c.2.1 c.2.2), .agg (v3 p.1 p.2.1 p.2.2)] (.tuple #[.int .i64 0, .int .i64 0]))) (h1 : Hid (Ans 54 #[.agg (v3 b.1 b.2.1 b.2.2), .agg (v3 a.1 a.2.1 a.2.2), .agg (v3 c.1 c.2.1 c.2.2), .agg (v3 p.1 p.2.1 p.2.2)] (.tuple #[.int .i64 0, .int .i64 0]))) (h2 : Hid (Ans 54 #[.agg (v3 a.1 a.2.1 a.2.2), .agg (v3 c.1 c.2.1 c.2.2), .agg (v3 b.1 b.2.1 b.2.2), .agg (v3 p.1 p.2.1 p.2.2)] (.tuple #[.int .i64 0, .int .i64 0]))) (h3 : Hid (Ans 54 #[.agg (v3 b.1 b.2.1 b.2.2), .agg (v3 c.1 c.2.1 c.2.2), .agg (v3 a.1 a.2.1 a.2.2), .agg (v3 p.1 p.2.1 p.2.2)] (.tuple #[.int .i64 0, .int .i64 0]))) (h4 : Hid (Ans 54 #[.agg (v3 c.1 c.2.1 c.2.2), .agg (v3 a.1 a.2.1 a.2.2), .agg (v3 b.1 b.2.1 b.2.2), .agg (v3 p.1 p.2.1 p.2.2)] (.tuple #[.int .i64 0, .int .i64 0]))) (haw : Hid (Ans 53 #[] (.bool true))) :
    Calls Try.prog 17 #[.agg (v3 a.1 a.2.1 a.2.2), .agg (v3 b.1 b.2.1 b.2.2), .agg (v3 c.1 c.2.1 c.2.2), .agg (v3 p.1 p.2.1 p.2.2)] w fun e w' => e = .returned (.bool true) ∧ Below w.heap.size w w' := by
  go_enter Try.func17, Try.ntmps17
  go_upto_region 1 with fail
  have D := hide (((((Gen.start w).push 26 (v3 a.1 a.2.1 a.2.2)).push 26 (v3 b.1 b.2.1 b.2.2)).push 26 (v3 c.1 c.2.1 c.2.2)).push 26 (v3 p.1 p.2.1 p.2.2))
  simp only [szA] at D
  go_upto_region 2 with (first | (with_reducible refine at_list ?_; apply ldG (unhide D) rPoint _ rfl rfl rfl (by repeat (first | exact List.mem_cons_self | apply List.mem_cons_of_mem)) rfl) | (go_at_call 54; with_reducible refine (unhide h0 _).mono ?_; rintro e w' ⟨he, hb⟩; subst he; have D := hide ((unhide D).keep hb); clear hb))
  clear h0
  go_upto_region 3 with (first | (with_reducible refine at_list ?_; apply ldG (unhide D) rPoint _ rfl rfl rfl (by repeat (first | exact List.mem_cons_self | apply List.mem_cons_of_mem)) rfl) | (go_at_call 54; with_reducible refine (unhide h1 _).mono ?_; rintro e w' ⟨he, hb⟩; subst he; have D := hide ((unhide D).keep hb); clear hb))
  clear h1
  go_upto_region 4 with (first | (with_reducible refine at_list ?_; apply ldG (unhide D) rPoint _ rfl rfl rfl (by repeat (first | exact List.mem_cons_self | apply List.mem_cons_of_mem)) rfl) | (go_at_call 54; with_reducible refine (unhide h2 _).mono ?_; rintro e w' ⟨he, hb⟩; subst he; have D := hide ((unhide D).keep hb); clear hb))
  clear h2
  go_upto_region 5 with (first | (with_reducible refine at_list ?_; apply ldG (unhide D) rPoint _ rfl rfl rfl (by repeat (first | exact List.mem_cons_self | apply List.mem_cons_of_mem)) rfl) | (go_at_call 54; with_reducible refine (unhide h3 _).mono ?_; rintro e w' ⟨he, hb⟩; subst he; have D := hide ((unhide D).keep hb); clear hb))
  clear h3
  go_upto_region 6 with (first | (with_reducible refine at_list ?_; apply ldG (unhide D) rPoint _ rfl rfl rfl (by repeat (first | exact List.mem_cons_self | apply List.mem_cons_of_mem)) rfl) | (go_at_call 54; with_reducible refine (unhide h4 _).mono ?_; rintro e w' ⟨he, hb⟩; subst he; have D := hide ((unhide D).keep hb); clear hb))
  clear h4
  go_wp2_with (first | (go_at_call 53; with_reducible refine (unhide haw _).mono ?_; rintro e w' ⟨he, hb⟩; subst he; have D := hide ((unhide D).keep hb); clear hb))
  go_ret
  exact ⟨rfl, (unhide D).o⟩
set_option maxHeartbeats 4000000 in
theorem turns_p (a b c p : Pt) (w : World) (h0 : Hid (Ans 54 #[.agg (v3 a.1 a.2.1 a.2.2), .agg (v3 b.1 b.2.1 b.2.2), .agg (v3 c.1 c.2.1 c.2.2), .agg (v3 p.1 p.2.1 p.2.2)] (.tuple #[.int .i64 1, .int .i64 0]))) (h1 : Hid (Ans 54 #[.agg (v3 b.1 b.2.1 b.2.2), .agg (v3 a.1 a.2.1 a.2.2), .agg (v3 c.1 c.2.1 c.2.2), .agg (v3 p.1 p.2.1 p.2.2)] (.tuple #[.int .i64 (-1), .int .i64 0]))) (h2 : Hid (Ans 54 #[.agg (v3 a.1 a.2.1 a.2.2), .agg (v3 c.1 c.2.1 c.2.2), .agg (v3 b.1 b.2.1 b.2.2), .agg (v3 p.1 p.2.1 p.2.2)] (.tuple #[.int .i64 (-1), .int .i64 0]))) (h3 : Hid (Ans 54 #[.agg (v3 b.1 b.2.1 b.2.2), .agg (v3 c.1 c.2.1 c.2.2), .agg (v3 a.1 a.2.1 a.2.2), .agg (v3 p.1 p.2.1 p.2.2)] (.tuple #[.int .i64 1, .int .i64 0]))) (h4 : Hid (Ans 54 #[.agg (v3 c.1 c.2.1 c.2.2), .agg (v3 a.1 a.2.1 a.2.2), .agg (v3 b.1 b.2.1 b.2.2), .agg (v3 p.1 p.2.1 p.2.2)] (.tuple #[.int .i64 1, .int .i64 0]))) (haw : Hid (Ans 53 #[] (.bool true))) :
    Calls Try.prog 17 #[.agg (v3 a.1 a.2.1 a.2.2), .agg (v3 b.1 b.2.1 b.2.2), .agg (v3 c.1 c.2.1 c.2.2), .agg (v3 p.1 p.2.1 p.2.2)] w fun e w' => e = .returned (.bool true) ∧ Below w.heap.size w w' := by
  go_enter Try.func17, Try.ntmps17
  go_upto_region 1 with fail
  have D := hide (((((Gen.start w).push 26 (v3 a.1 a.2.1 a.2.2)).push 26 (v3 b.1 b.2.1 b.2.2)).push 26 (v3 c.1 c.2.1 c.2.2)).push 26 (v3 p.1 p.2.1 p.2.2))
  simp only [szA] at D
  go_upto_region 2 with (first | (with_reducible refine at_list ?_; apply ldG (unhide D) rPoint _ rfl rfl rfl (by repeat (first | exact List.mem_cons_self | apply List.mem_cons_of_mem)) rfl) | (go_at_call 54; with_reducible refine (unhide h0 _).mono ?_; rintro e w' ⟨he, hb⟩; subst he; have D := hide ((unhide D).keep hb); clear hb))
  clear h0
  go_upto_region 3 with (first | (with_reducible refine at_list ?_; apply ldG (unhide D) rPoint _ rfl rfl rfl (by repeat (first | exact List.mem_cons_self | apply List.mem_cons_of_mem)) rfl) | (go_at_call 54; with_reducible refine (unhide h1 _).mono ?_; rintro e w' ⟨he, hb⟩; subst he; have D := hide ((unhide D).keep hb); clear hb))
  clear h1
  go_upto_region 4 with (first | (with_reducible refine at_list ?_; apply ldG (unhide D) rPoint _ rfl rfl rfl (by repeat (first | exact List.mem_cons_self | apply List.mem_cons_of_mem)) rfl) | (go_at_call 54; with_reducible refine (unhide h2 _).mono ?_; rintro e w' ⟨he, hb⟩; subst he; have D := hide ((unhide D).keep hb); clear hb))
  clear h2
  go_upto_region 5 with (first | (with_reducible refine at_list ?_; apply ldG (unhide D) rPoint _ rfl rfl rfl (by repeat (first | exact List.mem_cons_self | apply List.mem_cons_of_mem)) rfl) | (go_at_call 54; with_reducible refine (unhide h3 _).mono ?_; rintro e w' ⟨he, hb⟩; subst he; have D := hide ((unhide D).keep hb); clear hb))
  clear h3
  go_upto_region 6 with (first | (with_reducible refine at_list ?_; apply ldG (unhide D) rPoint _ rfl rfl rfl (by repeat (first | exact List.mem_cons_self | apply List.mem_cons_of_mem)) rfl) | (go_at_call 54; with_reducible refine (unhide h4 _).mono ?_; rintro e w' ⟨he, hb⟩; subst he; have D := hide ((unhide D).keep hb); clear hb))
  clear h4
  go_wp2_with (first | (go_at_call 53; with_reducible refine (unhide haw _).mono ?_; rintro e w' ⟨he, hb⟩; subst he; have D := hide ((unhide D).keep hb); clear hb))
  go_ret
  exact ⟨rfl, (unhide D).o⟩
set_option maxHeartbeats 4000000 in
theorem turns_m (a b c p : Pt) (w : World) (h0 : Hid (Ans 54 #[.agg (v3 a.1 a.2.1 a.2.2), .agg (v3 b.1 b.2.1 b.2.2), .agg (v3 c.1 c.2.1 c.2.2), .agg (v3 p.1 p.2.1 p.2.2)] (.tuple #[.int .i64 (-1), .int .i64 0]))) (h1 : Hid (Ans 54 #[.agg (v3 b.1 b.2.1 b.2.2), .agg (v3 a.1 a.2.1 a.2.2), .agg (v3 c.1 c.2.1 c.2.2), .agg (v3 p.1 p.2.1 p.2.2)] (.tuple #[.int .i64 1, .int .i64 0]))) (h2 : Hid (Ans 54 #[.agg (v3 a.1 a.2.1 a.2.2), .agg (v3 c.1 c.2.1 c.2.2), .agg (v3 b.1 b.2.1 b.2.2), .agg (v3 p.1 p.2.1 p.2.2)] (.tuple #[.int .i64 1, .int .i64 0]))) (h3 : Hid (Ans 54 #[.agg (v3 b.1 b.2.1 b.2.2), .agg (v3 c.1 c.2.1 c.2.2), .agg (v3 a.1 a.2.1 a.2.2), .agg (v3 p.1 p.2.1 p.2.2)] (.tuple #[.int .i64 (-1), .int .i64 0]))) (h4 : Hid (Ans 54 #[.agg (v3 c.1 c.2.1 c.2.2), .agg (v3 a.1 a.2.1 a.2.2), .agg (v3 b.1 b.2.1 b.2.2), .agg (v3 p.1 p.2.1 p.2.2)] (.tuple #[.int .i64 (-1), .int .i64 0]))) (haw : Hid (Ans 53 #[] (.bool true))) :
    Calls Try.prog 17 #[.agg (v3 a.1 a.2.1 a.2.2), .agg (v3 b.1 b.2.1 b.2.2), .agg (v3 c.1 c.2.1 c.2.2), .agg (v3 p.1 p.2.1 p.2.2)] w fun e w' => e = .returned (.bool true) ∧ Below w.heap.size w w' := by
  go_enter Try.func17, Try.ntmps17
  go_upto_region 1 with fail
  have D := hide (((((Gen.start w).push 26 (v3 a.1 a.2.1 a.2.2)).push 26 (v3 b.1 b.2.1 b.2.2)).push 26 (v3 c.1 c.2.1 c.2.2)).push 26 (v3 p.1 p.2.1 p.2.2))
  simp only [szA] at D
  go_upto_region 2 with (first | (with_reducible refine at_list ?_; apply ldG (unhide D) rPoint _ rfl rfl rfl (by repeat (first | exact List.mem_cons_self | apply List.mem_cons_of_mem)) rfl) | (go_at_call 54; with_reducible refine (unhide h0 _).mono ?_; rintro e w' ⟨he, hb⟩; subst he; have D := hide ((unhide D).keep hb); clear hb))
  clear h0
  go_upto_region 3 with (first | (with_reducible refine at_list ?_; apply ldG (unhide D) rPoint _ rfl rfl rfl (by repeat (first | exact List.mem_cons_self | apply List.mem_cons_of_mem)) rfl) | (go_at_call 54; with_reducible refine (unhide h1 _).mono ?_; rintro e w' ⟨he, hb⟩; subst he; have D := hide ((unhide D).keep hb); clear hb))
  clear h1
  go_upto_region 4 with (first | (with_reducible refine at_list ?_; apply ldG (unhide D) rPoint _ rfl rfl rfl (by repeat (first | exact List.mem_cons_self | apply List.mem_cons_of_mem)) rfl) | (go_at_call 54; with_reducible refine (unhide h2 _).mono ?_; rintro e w' ⟨he, hb⟩; subst he; have D := hide ((unhide D).keep hb); clear hb))
  clear h2
  go_upto_region 5 with (first | (with_reducible refine at_list ?_; apply ldG (unhide D) rPoint _ rfl rfl rfl (by repeat (first | exact List.mem_cons_self | apply List.mem_cons_of_mem)) rfl) | (go_at_call 54; with_reducible refine (unhide h3 _).mono ?_; rintro e w' ⟨he, hb⟩; subst he; have D := hide ((unhide D).keep hb); clear hb))
  clear h3
  go_upto_region 6 with (first | (with_reducible refine at_list ?_; apply ldG (unhide D) rPoint _ rfl rfl rfl (by repeat (first | exact List.mem_cons_self | apply List.mem_cons_of_mem)) rfl) | (go_at_call 54; with_reducible refine (unhide h4 _).mono ?_; rintro e w' ⟨he, hb⟩; subst he; have D := hide ((unhide D).keep hb); clear hb))
  clear h4
  go_wp2_with (first | (go_at_call 53; with_reducible refine (unhide haw _).mono ?_; rintro e w' ⟨he, hb⟩; subst he; have D := hide ((unhide D).keep hb); clear hb))
  go_ret
  exact ⟨rfl, (unhide D).o⟩

theorem sgn_neg7 (x : Int) : sgn (-x) = -sgn x := by
  unfold sgn
  split <;> split <;> first | omega | (split <;> omega) | (split <;> split <;> omega)
theorem vol_ba (a b c p : Pt) : volP b a c p = -volP a b c p := by
  unfold volP volI detI
  grind
theorem vol_ac (a b c p : Pt) : volP a c b p = -volP a b c p := by
  unfold volP volI detI
  grind
theorem vol_bc (a b c p : Pt) : volP b c a p = volP a b c p := by
  unfold volP volI detI
  grind
theorem vol_ca (a b c p : Pt) : volP c a b p = volP a b c p := by
  unfold volP volI detI
  grind
theorem four_ba (a b c p : Pt) : fourB b a c p = fourB a b c p := by
  unfold fourB
  cases chkQ a <;> cases chkQ b <;> rfl
theorem four_ac (a b c p : Pt) : fourB a c b p = fourB a b c p := by
  unfold fourB
  cases chkQ b <;> cases chkQ c <;> rfl
theorem four_bc (a b c p : Pt) : fourB b c a p = fourB a b c p := by
  unfold fourB
  cases chkQ a <;> cases chkQ b <;> cases chkQ c <;> rfl
theorem four_ca (a b c p : Pt) : fourB c a b p = fourB a b c p := by
  unfold fourB
  cases chkQ a <;> cases chkQ b <;> cases chkQ c <;> rfl
theorem sgn_three (x : Int) : sgn x = 0 ∨ sgn x = 1 ∨ sgn x = -1 := by
  unfold sgn
  split
  · omega
  · split <;> omega
theorem orientTurns_all (a b c p : Pt) : Ans 17 #[.agg (v3 a.1 a.2.1 a.2.2), .agg (v3 b.1 b.2.1 b.2.2), .agg (v3 c.1 c.2.1 c.2.2), .agg (v3 p.1 p.2.1 p.2.2)] (.bool true) := fun w => by
  have h0 := SideO a b c p
  have h1 := SideO b a c p
  have h2 := SideO a c b p
  have h3 := SideO b c a p
  have h4 := SideO c a b p
  unfold sdI sdE at h0 h1 h2 h3 h4
  rw [four_ba, vol_ba, sgn_neg7] at h1
  rw [four_ac, vol_ac, sgn_neg7] at h2
  rw [four_bc, vol_bc] at h3
  rw [four_ca, vol_ca] at h4
  generalize fourB a b c p = f at *
  generalize hs : sgn (volP a b c p) = s at *
  cases f
  · exact turns_r a b c p w h0 h1 h2 h3 h4 awake7Z
  · rcases (hs ▸ sgn_three (volP a b c p) : s = 0 ∨ s = 1 ∨ s = -1) with rfl | rfl | rfl
    · exact turns_z a b c p w h0 h1 h2 h3 h4 awake7Z
    · exact turns_p a b c p w h0 h1 h2 h3 h4 awake7Z
    · exact turns_m a b c p w h0 h1 h2 h3 h4 awake7Z

end Go.Proofs.Ytnknejdmoghmiaa
