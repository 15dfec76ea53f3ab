/- The law FixAround, behind around. -/
import Derived.Test.YtlekbhdchkdnnaaGreatDoorFl
namespace Go.Proofs.YtlekbhdchkdnnaaGreatDoor
open Go.RowKit
set_option maxRecDepth 4000
set_option linter.unusedVariables false

theorem Env.three' {w0 w : World} {g1 g2 g3 a b c : Nat} (h1 : Blk w g1 35 (cells8 a)) (h2 : Blk w g2 35 (cells8 b)) (h3 : Blk w g3 35 (cells8 c)) (o : Below w0.heap.size w0 w) : Env w0 [(g1, a), (g2, b), (g3, c)] w := by
  refine ⟨fun p hp => ?_, o⟩
  simp only [List.mem_cons, List.not_mem_nil, or_false] at hp
  rcases hp with rfl | rfl | rfl
  · exact h1
  · exact h2
  · exact h3

section
variable (a b lo hi dlo dhi c1 c2 : Int) (A B P L H X Y N : Nat) (w : World)
  (oa : Hid (Ans 42 #[.int .i64 a] (.agg (cells8 A)))) (ob : Hid (Ans 42 #[.int .i64 b] (.agg (cells8 B))))
  (mp : Hid (Ans 41 #[.agg (cells8 A), .agg (cells8 B)] (.tuple #[.agg (cells8 P), .bool true])))
  (ml : Hid (Ans 22 #[.int .i64 a, .int .i64 b] (.int .i64 lo))) (mu : Hid (Ans 24 #[.int .i64 a, .int .i64 b] (.int .i64 hi)))
  (ar : Hid (Ans 43 #[.int .i64 lo, .int .i64 hi, .agg (cells8 P)] (.bool true)))
  (hAw : Hid (Ans 21 #[] (.bool true)))
  (dl : Hid (Ans 25 #[.int .i64 a, .int .i64 b] (.int .i64 dlo))) (du : Hid (Ans 27 #[.int .i64 a, .int .i64 b] (.int .i64 dhi)))

include oa ob mp ml mu ar hAw in
set_option maxHeartbeats 2000000 in
theorem arnd_zero (hb1 : (b == 0) = true) (hb2 : decide (b = 0) = true) :
    Calls Tryz.prog 9 #[.int .i64 a, .int .i64 b] w fun e w' => e = .returned (.bool true) ∧ Below w.heap.size w w' := by
  have D := hide (Env.start w)
  go_enter Tryz.func9, Tryz.ntmps9
  go_upto_region 2 with (first | (with_reducible refine at_list ?_; apply ldE (unhide D) _ rfl rfl rfl (by repeat (first | exact List.mem_cons_self | apply List.mem_cons_of_mem))) | (with_reducible refine at_list ?_; refine stE (unhide D) _ _ rfl rfl rfl rfl rfl ?_; intro D'; have D := hide D'; clear D') | (go_at_call 42; with_reducible refine (unhide oa _).mono ?_; rintro e w' ⟨he, hb⟩; subst he; have D := hide ((unhide D).keep hb); clear hb) | (go_at_call 42; with_reducible refine (unhide ob _).mono ?_; rintro e w' ⟨he, hb⟩; subst he; have D := hide ((unhide D).keep hb); clear hb) | (go_at_call 41; with_reducible refine (unhide mp _).mono ?_; rintro e w' ⟨he, hb⟩; subst he; have D := hide ((unhide D).keep hb); clear hb))
  refine region_plan (S := Env w _) (l := [0, 1, 2, 3, 4, 5, 6, 7, 8, 9, 10, 11, 12]) (by kernel_rfl) (by kernel_rfl) (by kernel_rfl) (by kernel_rfl) (by kernel_rfl) (by kernel_rfl) (by kernel_rfl) ((unhide D).drew) ?_
  clear D
  refine plan_read (v := ?_) rfl rfl (fun u hS => by go_simp; rfl) ?_
  go_simp
  refine plan_read (v := .bool false) rfl rfl (fun u hS => by go_simp) ?_
  go_simp
  refine plan_read (v := ?_) rfl rfl (fun u hS => by go_simp; rfl) ?_
  go_simp
  refine plan_read (v := ?_) rfl rfl (fun u hS => by go_simp; rfl) ?_
  go_simp
  refine plan_read (v := ?_) rfl rfl (fun u hS => by go_simp; rfl) ?_
  go_simp
  refine plan_call (v := .int .i64 lo) (f := 22) (args := #[.int .i64 a, .int .i64 b]) rfl rfl (fun u hS => by go_simp) (fun u hS => (unhide ml u).mono fun _ _ ⟨he, hb⟩ => ⟨he, hS.keep hb⟩) ?_
  go_simp
  refine plan_read (v := ?_) rfl rfl (fun u hS => by go_simp; rfl) ?_
  go_simp
  refine plan_read (v := ?_) rfl rfl (fun u hS => by go_simp; rfl) ?_
  go_simp
  refine plan_call (v := .int .i64 hi) (f := 24) (args := #[.int .i64 a, .int .i64 b]) rfl rfl (fun u hS => by go_simp) (fun u hS => (unhide mu u).mono fun _ _ ⟨he, hb⟩ => ⟨he, hS.keep hb⟩) ?_
  go_simp
  refine plan_read rfl rfl (fun u hS => exec_load8 (n := P) 35 (.tmp 5) (hS.blk (by repeat (first | exact List.mem_cons_self | apply List.mem_cons_of_mem))) rfl rfl Tryz.underlying35 rfl iWide) ?_
  refine plan_call (v := .bool true) (f := 43) (args := #[.int .i64 lo, .int .i64 hi, .agg (cells8 P)]) rfl rfl (fun u hS => by go_simp) (fun u hS => (unhide ar u).mono fun _ _ ⟨he, hb⟩ => ⟨he, hS.keep hb⟩) ?_
  go_simp
  refine plan_read (v := .bool false) rfl rfl (fun u hS => by go_simp) ?_
  go_simp
  refine plan_read (v := .bool false) rfl rfl (fun u hS => by go_simp) ?_
  go_simp
  refine plan_end (fun u hS => ?_)
  have D := hide hS
  clear hS oa mp ml mu ar
  go_wp2_with (first | (go_at_call 21; with_reducible refine (unhide hAw _).mono ?_; rintro e w' ⟨he, hb⟩; subst he; have D := hide ((unhide D).keep hb); clear hb))
  go_ret
  exact ⟨rfl, (unhide D).o⟩

include oa ob mp ml mu ar hAw dl du in
set_option maxHeartbeats 4000000 in
theorem arnd_ends (e1 e2 e3 e4 : Bool) (hb1 : (b == 0) = false) (hb2 : decide (b = 0) = false) (h1 : (dlo == 9223372036854775807) = e1) (h2 : (dhi == 9223372036854775807) = e2) (h3 : (dlo == -9223372036854775808) = e3) (h4 : (dhi == -9223372036854775808) = e4) (hor : (e1 || e2 || e3 || e4) = true) :
    Calls Tryz.prog 9 #[.int .i64 a, .int .i64 b] w fun e w' => e = .returned (.bool true) ∧ Below w.heap.size w w' := by
  have D := hide (Env.start w)
  go_enter Tryz.func9, Tryz.ntmps9
  go_upto_region 2 with (first | (with_reducible refine at_list ?_; apply ldE (unhide D) _ rfl rfl rfl (by repeat (first | exact List.mem_cons_self | apply List.mem_cons_of_mem))) | (with_reducible refine at_list ?_; refine stE (unhide D) _ _ rfl rfl rfl rfl rfl ?_; intro D'; have D := hide D'; clear D') | (go_at_call 42; with_reducible refine (unhide oa _).mono ?_; rintro e w' ⟨he, hb⟩; subst he; have D := hide ((unhide D).keep hb); clear hb) | (go_at_call 42; with_reducible refine (unhide ob _).mono ?_; rintro e w' ⟨he, hb⟩; subst he; have D := hide ((unhide D).keep hb); clear hb) | (go_at_call 41; with_reducible refine (unhide mp _).mono ?_; rintro e w' ⟨he, hb⟩; subst he; have D := hide ((unhide D).keep hb); clear hb))
  refine region_plan (S := Env w _) (l := [0, 1, 2, 3, 4, 5, 6, 7, 8, 9, 10, 11, 12]) (by kernel_rfl) (by kernel_rfl) (by kernel_rfl) (by kernel_rfl) (by kernel_rfl) (by kernel_rfl) (by kernel_rfl) ((unhide D).drew) ?_
  clear D
  refine plan_read (v := ?_) rfl rfl (fun u hS => by go_simp; rfl) ?_
  go_simp
  refine plan_read (v := .bool false) rfl rfl (fun u hS => by go_simp) ?_
  go_simp
  refine plan_read (v := ?_) rfl rfl (fun u hS => by go_simp; rfl) ?_
  go_simp
  refine plan_read (v := ?_) rfl rfl (fun u hS => by go_simp; rfl) ?_
  go_simp
  refine plan_read (v := ?_) rfl rfl (fun u hS => by go_simp; rfl) ?_
  go_simp
  refine plan_call (v := .int .i64 lo) (f := 22) (args := #[.int .i64 a, .int .i64 b]) rfl rfl (fun u hS => by go_simp) (fun u hS => (unhide ml u).mono fun _ _ ⟨he, hb⟩ => ⟨he, hS.keep hb⟩) ?_
  go_simp
  refine plan_read (v := ?_) rfl rfl (fun u hS => by go_simp; rfl) ?_
  go_simp
  refine plan_read (v := ?_) rfl rfl (fun u hS => by go_simp; rfl) ?_
  go_simp
  refine plan_call (v := .int .i64 hi) (f := 24) (args := #[.int .i64 a, .int .i64 b]) rfl rfl (fun u hS => by go_simp) (fun u hS => (unhide mu u).mono fun _ _ ⟨he, hb⟩ => ⟨he, hS.keep hb⟩) ?_
  go_simp
  refine plan_read rfl rfl (fun u hS => exec_load8 (n := P) 35 (.tmp 5) (hS.blk (by repeat (first | exact List.mem_cons_self | apply List.mem_cons_of_mem))) rfl rfl Tryz.underlying35 rfl iWide) ?_
  refine plan_call (v := .bool true) (f := 43) (args := #[.int .i64 lo, .int .i64 hi, .agg (cells8 P)]) rfl rfl (fun u hS => by go_simp) (fun u hS => (unhide ar u).mono fun _ _ ⟨he, hb⟩ => ⟨he, hS.keep hb⟩) ?_
  go_simp
  refine plan_read (v := .bool false) rfl rfl (fun u hS => by go_simp) ?_
  go_simp
  refine plan_read (v := .bool false) rfl rfl (fun u hS => by go_simp) ?_
  go_simp
  refine plan_end (fun u hS => ?_)
  have D := hide hS
  clear hS oa mp ml mu ar
  cases e1
  · cases e2
    · cases e3
      · cases e4
        · cases hor
        · go_wp2_with (first | (go_at_call 25; with_reducible refine (unhide dl _).mono ?_; rintro e w' ⟨he, hb⟩; subst he; have D := hide ((unhide D).keep hb); clear hb) | (go_at_call 27; with_reducible refine (unhide du _).mono ?_; rintro e w' ⟨he, hb⟩; subst he; have D := hide ((unhide D).keep hb); clear hb) | (go_at_call 21; with_reducible refine (unhide hAw _).mono ?_; rintro e w' ⟨he, hb⟩; subst he; have D := hide ((unhide D).keep hb); clear hb))
          go_ret
          exact ⟨rfl, (unhide D).o⟩
      · go_wp2_with (first | (go_at_call 25; with_reducible refine (unhide dl _).mono ?_; rintro e w' ⟨he, hb⟩; subst he; have D := hide ((unhide D).keep hb); clear hb) | (go_at_call 27; with_reducible refine (unhide du _).mono ?_; rintro e w' ⟨he, hb⟩; subst he; have D := hide ((unhide D).keep hb); clear hb) | (go_at_call 21; with_reducible refine (unhide hAw _).mono ?_; rintro e w' ⟨he, hb⟩; subst he; have D := hide ((unhide D).keep hb); clear hb))
        go_ret
        exact ⟨rfl, (unhide D).o⟩
    · go_wp2_with (first | (go_at_call 25; with_reducible refine (unhide dl _).mono ?_; rintro e w' ⟨he, hb⟩; subst he; have D := hide ((unhide D).keep hb); clear hb) | (go_at_call 27; with_reducible refine (unhide du _).mono ?_; rintro e w' ⟨he, hb⟩; subst he; have D := hide ((unhide D).keep hb); clear hb) | (go_at_call 21; with_reducible refine (unhide hAw _).mono ?_; rintro e w' ⟨he, hb⟩; subst he; have D := hide ((unhide D).keep hb); clear hb))
      go_ret
      exact ⟨rfl, (unhide D).o⟩
  · go_wp2_with (first | (go_at_call 25; with_reducible refine (unhide dl _).mono ?_; rintro e w' ⟨he, hb⟩; subst he; have D := hide ((unhide D).keep hb); clear hb) | (go_at_call 27; with_reducible refine (unhide du _).mono ?_; rintro e w' ⟨he, hb⟩; subst he; have D := hide ((unhide D).keep hb); clear hb) | (go_at_call 21; with_reducible refine (unhide hAw _).mono ?_; rintro e w' ⟨he, hb⟩; subst he; have D := hide ((unhide D).keep hb); clear hb))
    go_ret
    exact ⟨rfl, (unhide D).o⟩

include oa ob mp ml mu ar hAw dl du in
set_option maxHeartbeats 4000000 in
theorem arnd_in (hb1 : (b == 0) = false) (hb2 : decide (b = 0) = false) (h1 : (dlo == 9223372036854775807) = false) (h2 : (dhi == 9223372036854775807) = false) (h3 : (dlo == -9223372036854775808) = false) (h4 : (dhi == -9223372036854775808) = false) (ol : Hid (Ans 42 #[.int .i64 dlo] (.agg (cells8 L)))) (oh : Hid (Ans 42 #[.int .i64 dhi] (.agg (cells8 H)))) (mx : Hid (Ans 41 #[.agg (cells8 L), .agg (cells8 B)] (.tuple #[.agg (cells8 X), .bool true]))) (my : Hid (Ans 41 #[.agg (cells8 H), .agg (cells8 B)] (.tuple #[.agg (cells8 Y), .bool true]))) (wn : Hid (Ans 44 #[.int .i64 a] (.agg (cells8 N)))) (hc1 : decide (c1 ≤ 0) = true) (hc2 : decide (c2 ≤ 0) = true) (hdf : decide (wrap64 (dhi - dlo) ≤ 1) = true) (hle : decide (dlo ≤ dhi) = true) (hb3 : decide (b < 0) = false) (k1 : Hid (Ans 45 #[.agg (cells8 X), .agg (cells8 N)] (.int .i64 c1))) (k2 : Hid (Ans 45 #[.agg (cells8 N), .agg (cells8 Y)] (.int .i64 c2))) (hE : Hid (same X Y = (dlo == dhi))) :
    Calls Tryz.prog 9 #[.int .i64 a, .int .i64 b] w fun e w' => e = .returned (.bool true) ∧ Below w.heap.size w w' := by
  have D := hide (Env.start w)
  go_enter Tryz.func9, Tryz.ntmps9
  go_upto_region 2 with (first | (with_reducible refine at_list ?_; apply ldE (unhide D) _ rfl rfl rfl (by repeat (first | exact List.mem_cons_self | apply List.mem_cons_of_mem))) | (with_reducible refine at_list ?_; refine stE (unhide D) _ _ rfl rfl rfl rfl rfl ?_; intro D'; have D := hide D'; clear D') | (go_at_call 42; with_reducible refine (unhide oa _).mono ?_; rintro e w' ⟨he, hb⟩; subst he; have D := hide ((unhide D).keep hb); clear hb) | (go_at_call 42; with_reducible refine (unhide ob _).mono ?_; rintro e w' ⟨he, hb⟩; subst he; have D := hide ((unhide D).keep hb); clear hb) | (go_at_call 41; with_reducible refine (unhide mp _).mono ?_; rintro e w' ⟨he, hb⟩; subst he; have D := hide ((unhide D).keep hb); clear hb))
  refine region_plan (S := Env w _) (l := [0, 1, 2, 3, 4, 5, 6, 7, 8, 9, 10, 11, 12]) (by kernel_rfl) (by kernel_rfl) (by kernel_rfl) (by kernel_rfl) (by kernel_rfl) (by kernel_rfl) (by kernel_rfl) ((unhide D).drew) ?_
  clear D
  refine plan_read (v := ?_) rfl rfl (fun u hS => by go_simp; rfl) ?_
  go_simp
  refine plan_read (v := .bool false) rfl rfl (fun u hS => by go_simp) ?_
  go_simp
  refine plan_read (v := ?_) rfl rfl (fun u hS => by go_simp; rfl) ?_
  go_simp
  refine plan_read (v := ?_) rfl rfl (fun u hS => by go_simp; rfl) ?_
  go_simp
  refine plan_read (v := ?_) rfl rfl (fun u hS => by go_simp; rfl) ?_
  go_simp
  refine plan_call (v := .int .i64 lo) (f := 22) (args := #[.int .i64 a, .int .i64 b]) rfl rfl (fun u hS => by go_simp) (fun u hS => (unhide ml u).mono fun _ _ ⟨he, hb⟩ => ⟨he, hS.keep hb⟩) ?_
  go_simp
  refine plan_read (v := ?_) rfl rfl (fun u hS => by go_simp; rfl) ?_
  go_simp
  refine plan_read (v := ?_) rfl rfl (fun u hS => by go_simp; rfl) ?_
  go_simp
  refine plan_call (v := .int .i64 hi) (f := 24) (args := #[.int .i64 a, .int .i64 b]) rfl rfl (fun u hS => by go_simp) (fun u hS => (unhide mu u).mono fun _ _ ⟨he, hb⟩ => ⟨he, hS.keep hb⟩) ?_
  go_simp
  refine plan_read rfl rfl (fun u hS => exec_load8 (n := P) 35 (.tmp 5) (hS.blk (by repeat (first | exact List.mem_cons_self | apply List.mem_cons_of_mem))) rfl rfl Tryz.underlying35 rfl iWide) ?_
  refine plan_call (v := .bool true) (f := 43) (args := #[.int .i64 lo, .int .i64 hi, .agg (cells8 P)]) rfl rfl (fun u hS => by go_simp) (fun u hS => (unhide ar u).mono fun _ _ ⟨he, hb⟩ => ⟨he, hS.keep hb⟩) ?_
  go_simp
  refine plan_read (v := .bool false) rfl rfl (fun u hS => by go_simp) ?_
  go_simp
  refine plan_read (v := .bool false) rfl rfl (fun u hS => by go_simp) ?_
  go_simp
  refine plan_end (fun u hS => ?_)
  have D := hide hS
  clear hS oa mp ml mu ar
  go_upto_region 14 with (first | (with_reducible refine at_list ?_; apply ldE (unhide D) _ rfl rfl rfl (by repeat (first | exact List.mem_cons_self | apply List.mem_cons_of_mem))) | (with_reducible refine at_list ?_; refine stE (unhide D) _ _ rfl rfl rfl rfl rfl ?_; intro D'; have D := hide D'; clear D') | (go_at_call 25; with_reducible refine (unhide dl _).mono ?_; rintro e w' ⟨he, hb⟩; subst he; have D := hide ((unhide D).keep hb); clear hb) | (go_at_call 27; with_reducible refine (unhide du _).mono ?_; rintro e w' ⟨he, hb⟩; subst he; have D := hide ((unhide D).keep hb); clear hb) | (go_at_call 42; with_reducible refine (unhide ol _).mono ?_; rintro e w' ⟨he, hb⟩; subst he; have D := hide ((unhide D).keep hb); clear hb) | (go_at_call 42; with_reducible refine (unhide oh _).mono ?_; rintro e w' ⟨he, hb⟩; subst he; have D := hide ((unhide D).keep hb); clear hb) | (go_at_call 42; with_reducible refine (unhide ob _).mono ?_; rintro e w' ⟨he, hb⟩; subst he; have D := hide ((unhide D).keep hb); clear hb) | (go_at_call 41; with_reducible refine (unhide mx _).mono ?_; rintro e w' ⟨he, hb⟩; subst he; have D := hide ((unhide D).keep hb); clear hb) | (go_at_call 41; with_reducible refine (unhide my _).mono ?_; rintro e w' ⟨he, hb⟩; subst he; have D := hide ((unhide D).keep hb); clear hb) | (go_at_call 44; with_reducible refine (unhide wn _).mono ?_; rintro e w' ⟨he, hb⟩; subst he; have D := hide ((unhide D).keep hb); clear hb))
  clear ol oh mx my wn dl du ob
  go_wp2_with (first | (with_reducible refine at_list ?_; apply ldE (unhide D) _ rfl rfl rfl (by repeat (first | exact List.mem_cons_self | apply List.mem_cons_of_mem))) | (with_reducible refine at_list ?_; apply ldEw (unhide D) _ rfl rfl rfl (by repeat (first | exact List.mem_cons_self | apply List.mem_cons_of_mem))) | (go_at_call 45; with_reducible refine (unhide k1 _).mono ?_; rintro e w' ⟨he, hb⟩; subst he; have D := hide ((unhide D).keep hb); clear hb) | (go_at_call 45; with_reducible refine (unhide k2 _).mono ?_; rintro e w' ⟨he, hb⟩; subst he; have D := hide ((unhide D).keep hb); clear hb) | (with_reducible refine at_list ?_; refine eqlEw (unhide hE) _ _ rfl rfl rfl rfl ?_) | (go_at_call 21; with_reducible refine (unhide hAw _).mono ?_; rintro e w' ⟨he, hb⟩; subst he; have D := hide ((unhide D).keep hb); clear hb))
  go_ret
  exact ⟨rfl, (unhide D).o⟩

include oa ob mp ml mu ar hAw dl du in
set_option maxHeartbeats 4000000 in
theorem arnd_out (hb1 : (b == 0) = false) (hb2 : decide (b = 0) = false) (h1 : (dlo == 9223372036854775807) = false) (h2 : (dhi == 9223372036854775807) = false) (h3 : (dlo == -9223372036854775808) = false) (h4 : (dhi == -9223372036854775808) = false) (ol : Hid (Ans 42 #[.int .i64 dlo] (.agg (cells8 L)))) (oh : Hid (Ans 42 #[.int .i64 dhi] (.agg (cells8 H)))) (mx : Hid (Ans 41 #[.agg (cells8 L), .agg (cells8 B)] (.tuple #[.agg (cells8 X), .bool true]))) (my : Hid (Ans 41 #[.agg (cells8 H), .agg (cells8 B)] (.tuple #[.agg (cells8 Y), .bool true]))) (wn : Hid (Ans 44 #[.int .i64 a] (.agg (cells8 N)))) (hc1 : decide (c1 ≤ 0) = true) (hc2 : decide (c2 ≤ 0) = true) (hdf : decide (wrap64 (dhi - dlo) ≤ 1) = true) (hle : decide (dlo ≤ dhi) = true) (hb3 : decide (b < 0) = true) (k1 : Hid (Ans 45 #[.agg (cells8 Y), .agg (cells8 N)] (.int .i64 c1))) (k2 : Hid (Ans 45 #[.agg (cells8 N), .agg (cells8 X)] (.int .i64 c2))) (hE : Hid (same Y X = (dlo == dhi))) :
    Calls Tryz.prog 9 #[.int .i64 a, .int .i64 b] w fun e w' => e = .returned (.bool true) ∧ Below w.heap.size w w' := by
  have D := hide (Env.start w)
  go_enter Tryz.func9, Tryz.ntmps9
  go_upto_region 2 with (first | (with_reducible refine at_list ?_; apply ldE (unhide D) _ rfl rfl rfl (by repeat (first | exact List.mem_cons_self | apply List.mem_cons_of_mem))) | (with_reducible refine at_list ?_; refine stE (unhide D) _ _ rfl rfl rfl rfl rfl ?_; intro D'; have D := hide D'; clear D') | (go_at_call 42; with_reducible refine (unhide oa _).mono ?_; rintro e w' ⟨he, hb⟩; subst he; have D := hide ((unhide D).keep hb); clear hb) | (go_at_call 42; with_reducible refine (unhide ob _).mono ?_; rintro e w' ⟨he, hb⟩; subst he; have D := hide ((unhide D).keep hb); clear hb) | (go_at_call 41; with_reducible refine (unhide mp _).mono ?_; rintro e w' ⟨he, hb⟩; subst he; have D := hide ((unhide D).keep hb); clear hb))
  refine region_plan (S := Env w _) (l := [0, 1, 2, 3, 4, 5, 6, 7, 8, 9, 10, 11, 12]) (by kernel_rfl) (by kernel_rfl) (by kernel_rfl) (by kernel_rfl) (by kernel_rfl) (by kernel_rfl) (by kernel_rfl) ((unhide D).drew) ?_
  clear D
  refine plan_read (v := ?_) rfl rfl (fun u hS => by go_simp; rfl) ?_
  go_simp
  refine plan_read (v := .bool false) rfl rfl (fun u hS => by go_simp) ?_
  go_simp
  refine plan_read (v := ?_) rfl rfl (fun u hS => by go_simp; rfl) ?_
  go_simp
  refine plan_read (v := ?_) rfl rfl (fun u hS => by go_simp; rfl) ?_
  go_simp
  refine plan_read (v := ?_) rfl rfl (fun u hS => by go_simp; rfl) ?_
  go_simp
  refine plan_call (v := .int .i64 lo) (f := 22) (args := #[.int .i64 a, .int .i64 b]) rfl rfl (fun u hS => by go_simp) (fun u hS => (unhide ml u).mono fun _ _ ⟨he, hb⟩ => ⟨he, hS.keep hb⟩) ?_
  go_simp
  refine plan_read (v := ?_) rfl rfl (fun u hS => by go_simp; rfl) ?_
  go_simp
  refine plan_read (v := ?_) rfl rfl (fun u hS => by go_simp; rfl) ?_
  go_simp
  refine plan_call (v := .int .i64 hi) (f := 24) (args := #[.int .i64 a, .int .i64 b]) rfl rfl (fun u hS => by go_simp) (fun u hS => (unhide mu u).mono fun _ _ ⟨he, hb⟩ => ⟨he, hS.keep hb⟩) ?_
  go_simp
  refine plan_read rfl rfl (fun u hS => exec_load8 (n := P) 35 (.tmp 5) (hS.blk (by repeat (first | exact List.mem_cons_self | apply List.mem_cons_of_mem))) rfl rfl Tryz.underlying35 rfl iWide) ?_
  refine plan_call (v := .bool true) (f := 43) (args := #[.int .i64 lo, .int .i64 hi, .agg (cells8 P)]) rfl rfl (fun u hS => by go_simp) (fun u hS => (unhide ar u).mono fun _ _ ⟨he, hb⟩ => ⟨he, hS.keep hb⟩) ?_
  go_simp
  refine plan_read (v := .bool false) rfl rfl (fun u hS => by go_simp) ?_
  go_simp
  refine plan_read (v := .bool false) rfl rfl (fun u hS => by go_simp) ?_
  go_simp
  refine plan_end (fun u hS => ?_)
  have D := hide hS
  clear hS oa mp ml mu ar
  go_upto_region 10 with (first | (with_reducible refine at_list ?_; apply ldE (unhide D) _ rfl rfl rfl (by repeat (first | exact List.mem_cons_self | apply List.mem_cons_of_mem))) | (with_reducible refine at_list ?_;  have l90 := (unhide D).o.size; refine stE (unhide D) _ _ rfl rfl rfl rfl rfl ?_; intro D'; have D := hide D'; clear D') | (go_at_call 25; with_reducible refine (unhide dl _).mono ?_; rintro e w' ⟨he, hb⟩; subst he; have D := hide ((unhide D).keep hb); clear hb) | (go_at_call 27; with_reducible refine (unhide du _).mono ?_; rintro e w' ⟨he, hb⟩; subst he; have D := hide ((unhide D).keep hb); clear hb) | (go_at_call 42; with_reducible refine (unhide ol _).mono ?_; rintro e w' ⟨he, hb⟩; subst he; have D := hide ((unhide D).keep hb); clear hb) | (go_at_call 42; with_reducible refine (unhide ob _).mono ?_; rintro e w' ⟨he, hb⟩; subst he; have D := hide ((unhide D).keep hb); clear hb) | (go_at_call 41; with_reducible refine (unhide mx _).mono ?_; rintro e w' ⟨he, hb⟩; subst he; have D := hide ((unhide D).keep hb); clear hb))
  go_upto_region 11 with (first | (with_reducible refine at_list ?_; apply ldE (unhide D) _ rfl rfl rfl (by repeat (first | exact List.mem_cons_self | apply List.mem_cons_of_mem))) | (with_reducible refine at_list ?_;  have l9 := hide ((unhide D).blk (n := X) (by repeat (first | exact List.mem_cons_self | apply List.mem_cons_of_mem))).lt; refine stE (unhide D) _ _ rfl rfl rfl rfl rfl ?_; intro D'; have D := hide D'; clear D') | (go_at_call 42; with_reducible refine (unhide oh _).mono ?_; rintro e w' ⟨he, hb⟩; subst he; have D := hide ((unhide D).keep hb); clear hb) | (go_at_call 42; with_reducible refine (unhide ob _).mono ?_; rintro e w' ⟨he, hb⟩; subst he; have D := hide ((unhide D).keep hb); clear hb) | (go_at_call 41; with_reducible refine (unhide my _).mono ?_; rintro e w' ⟨he, hb⟩; subst he; have D := hide ((unhide D).keep hb); clear hb))
  clear oh my ol mx dl du ob
  go_upto_region 13 with (first | (with_reducible refine at_list ?_; apply ldE (unhide D) _ rfl rfl rfl (by repeat (first | exact List.mem_cons_self | apply List.mem_cons_of_mem))) | (with_reducible refine at_list ?_;  have l11 := hide ((unhide D).blk (n := Y) (by repeat (first | exact List.mem_cons_self | apply List.mem_cons_of_mem))).lt; have l99 := hide ((unhide D).blk (n := X) (by repeat (first | exact List.mem_cons_self | apply List.mem_cons_of_mem))).lt; refine stE (unhide D) _ _ rfl rfl rfl rfl rfl ?_; intro D'; have D := hide D'; clear D') | (go_at_call 44; with_reducible refine (unhide wn _).mono ?_; rintro e w' ⟨he, hb⟩; subst he; have D := hide ((unhide D).keep hb); clear hb))
  have B9 := hide ((unhide D).blk (n := X) (by repeat (first | exact List.mem_cons_self | apply List.mem_cons_of_mem)))
  have B11 := hide ((unhide D).blk (n := Y) (by repeat (first | exact List.mem_cons_self | apply List.mem_cons_of_mem)))
  have B13 := hide ((unhide D).blk (n := N) (by repeat (first | exact List.mem_cons_self | apply List.mem_cons_of_mem)))
  have O := hide (unhide D).o
  go_upto_region 14 with (first | (with_reducible refine at_list ?_; apply ldE (unhide D) _ rfl rfl rfl (by repeat (first | exact List.mem_cons_self | apply List.mem_cons_of_mem))) | (with_reducible refine at_list ?_;  refine st8 (n := Y) 35 (.tmp 9) (.tmp 79) (unhide B9) rfl rfl rfl rfl rfl iWide ?_) | (with_reducible refine at_list ?_;  refine st8 (n := X) 35 (.tmp 11) (.tmp 80) ((unhide B11).rowOther _ (by have := unhide l9; omega)) rfl rfl rfl rfl rfl iWide ?_))
  have D := hide (Env.three' (((unhide B13).rowOther (cells8 Y) (by have := unhide l99; omega)).rowOther (cells8 X) (by have := unhide l11; omega)) (((unhide B11).rowOther (cells8 Y) (by have := unhide l9; omega)).row (cells8 X)) (((unhide B9).row (cells8 Y)).rowOther (cells8 X) (by have := unhide l9; omega)) (below_row (below_row (unhide O) l90 (cells8 Y)) (by have := unhide l9; omega) (cells8 X)))
  go_wp2_with (first | (with_reducible refine at_list ?_; apply ldE (unhide D) _ rfl rfl rfl (by repeat (first | exact List.mem_cons_self | apply List.mem_cons_of_mem))) | (with_reducible refine at_list ?_; apply ldEw (unhide D) _ rfl rfl rfl (by repeat (first | exact List.mem_cons_self | apply List.mem_cons_of_mem))) | (go_at_call 45; with_reducible refine (unhide k1 _).mono ?_; rintro e w' ⟨he, hb⟩; subst he; have D := hide ((unhide D).keep hb); clear hb) | (go_at_call 45; with_reducible refine (unhide k2 _).mono ?_; rintro e w' ⟨he, hb⟩; subst he; have D := hide ((unhide D).keep hb); clear hb) | (with_reducible refine at_list ?_; refine eqlEw (unhide hE) _ _ rfl rfl rfl rfl ?_) | (go_at_call 21; with_reducible refine (unhide hAw _).mono ?_; rintro e w' ⟨he, hb⟩; subst he; have D := hide ((unhide D).keep hb); clear hb))
  go_ret
  exact ⟨rfl, (unhide D).o⟩

end

end Go.Proofs.YtlekbhdchkdnnaaGreatDoor
