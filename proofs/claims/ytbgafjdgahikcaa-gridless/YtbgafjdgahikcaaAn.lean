/- The law's sum; the law GridOrder. -/
import Derived.Test.YtbgafjdgahikcaaAg
namespace Go.Proofs.Ytbgafjdgahikcaa
open Go.RowKit
set_option maxRecDepth 4000
set_option linter.unusedVariables false

theorem sum6_core (ax ay az bx b_y bz_ : Int) (w : World) :
    Calls Try.prog 52 #[.agg (v3 ax ay az), .agg (v3 bx b_y bz_)] w fun e w' => e = .returned (.agg (v3 (wrap64 (ax + bx)) (wrap64 (ay + b_y)) (wrap64 (az + bz_)))) ∧ Below w.heap.size w w' := by
  go_enter Try.func52, Try.ntmps52
  go_upto_region 1 with fail
  have D := hide ((((Gen.start w).push 26 (v3 ax ay az)).push 26 (v3 bx b_y bz_)).push 26 (v3 0 0 0))
  simp only [szA] at D
  go_wp2_with (first | (with_reducible refine at_list ?_;  apply ldI (unhide D) _ rfl rfl rfl (by repeat (first | exact List.mem_cons_self | apply List.mem_cons_of_mem)) rfl) | (with_reducible refine at_list ?_;  refine bdPt _ _ _ rfl rfl rfl rfl rfl ?_) | (with_reducible refine at_list ?_; apply stGend (unhide D) rPoint _ _ rfl rfl rfl rfl (by repeat (first | exact List.mem_cons_self | apply List.mem_cons_of_mem)) (by omega) rfl rfl (v3_one' _ _ _); intro B O))
  exact resG rPoint (unhide B) rfl rfl rfl rfl ⟨rfl, unhide O⟩
theorem Sum6Z (ax ay az bx b_y bz_ : Int) (h1 : I64 (ax + bx)) (h2 : I64 (ay + b_y)) (h3 : I64 (az + bz_)) : Ans 52 #[.agg (v3 ax ay az), .agg (v3 bx b_y bz_)] (.agg (v3 (ax + bx) (ay + b_y) (az + bz_))) := fun w => by
  have k := sum6_core ax ay az bx b_y bz_ w
  rw [wrap_self h1, wrap_self h2, wrap_self h3] at k
  exact k
set_option maxHeartbeats 4000000 in
theorem order_1_s_s_0 (ax ay az bx b_y bz_ cx cy cz y z p q r : Int) (w : World) (h1 : Hid (Ans 31 #[.agg (v3 ax ay az), .agg (v3 bx b_y bz_)] (.int .i64 1))) (h2 : Hid (Ans 31 #[.agg (v3 bx b_y bz_), .agg (v3 cx cy cz)] (.int .i64 y))) (h3 : Hid (Ans 31 #[.agg (v3 ax ay az), .agg (v3 cx cy cz)] (.int .i64 z))) (h4 : Hid (Ans 31 #[.agg (v3 bx b_y bz_), .agg (v3 ax ay az)] (.int .i64 (-1)))) (hv : sameV ax ay az bx b_y bz_ = false)
    (hL : Hid (Ans 29 #[.agg (v3 ax ay az), .agg (v3 bx b_y bz_)] (.tuple #[.agg (v3 p q r), .int .i64 0]))) (hs : Hid (Ans 52 #[.agg (v3 p q r), .agg (v3 bx b_y bz_)] (.agg (v3 ax ay az)))) (hv2 : sameV ax ay az ax ay az = true) (haw : Hid (Ans 28 #[] (.bool true))) :
    Calls Try.prog 13 #[.agg (v3 ax ay az), .agg (v3 bx b_y bz_), .agg (v3 cx cy cz)] w fun e w' => e = .returned (.bool true) ∧ Below w.heap.size w w' := by
  go_enter Try.func13, Try.ntmps13
  go_upto_region 1 with fail
  have D := hide ((((Gen.start w).push 26 (v3 ax ay az)).push 26 (v3 bx b_y bz_)).push 26 (v3 cx cy cz))
  simp only [szA] at D
  refine region_plan (S := Gen w _) (l := [0, 1, 2, 3, 4, 5, 6, 7, 8, 9, 10, 11]) (by kernel_rfl) (by kernel_rfl) (by kernel_rfl) (by kernel_rfl) (by kernel_rfl) (by kernel_rfl) (by kernel_rfl) (unhide D).drew ?_
  clear D
  refine plan_read (v := .agg (v3 ax ay az)) rfl rfl (fun u hS => exec_ldG hS rPoint _ rfl rfl (by repeat (first | exact List.mem_cons_self | apply List.mem_cons_of_mem)) rfl) ?_
  go_simp
  refine plan_read (v := .agg (v3 bx b_y bz_)) rfl rfl (fun u hS => exec_ldG hS rPoint _ rfl rfl (by repeat (first | exact List.mem_cons_self | apply List.mem_cons_of_mem)) rfl) ?_
  go_simp
  refine plan_call (v := (.int .i64 1)) (f := 31) (args := #[.agg (v3 ax ay az), .agg (v3 bx b_y bz_)]) rfl rfl (fun u hS => by go_simp) (fun u hS => (unhide h1 u).mono fun _ _ ⟨he, hb⟩ => ⟨he, hS.keep hb⟩) ?_
  go_simp
  refine plan_read (v := .agg (v3 bx b_y bz_)) rfl rfl (fun u hS => exec_ldG hS rPoint _ rfl rfl (by repeat (first | exact List.mem_cons_self | apply List.mem_cons_of_mem)) rfl) ?_
  go_simp
  refine plan_read (v := .agg (v3 cx cy cz)) rfl rfl (fun u hS => exec_ldG hS rPoint _ rfl rfl (by repeat (first | exact List.mem_cons_self | apply List.mem_cons_of_mem)) rfl) ?_
  go_simp
  refine plan_call (v := (.int .i64 y)) (f := 31) (args := #[.agg (v3 bx b_y bz_), .agg (v3 cx cy cz)]) rfl rfl (fun u hS => by go_simp) (fun u hS => (unhide h2 u).mono fun _ _ ⟨he, hb⟩ => ⟨he, hS.keep hb⟩) ?_
  go_simp
  refine plan_read (v := .agg (v3 ax ay az)) rfl rfl (fun u hS => exec_ldG hS rPoint _ rfl rfl (by repeat (first | exact List.mem_cons_self | apply List.mem_cons_of_mem)) rfl) ?_
  go_simp
  refine plan_read (v := .agg (v3 cx cy cz)) rfl rfl (fun u hS => exec_ldG hS rPoint _ rfl rfl (by repeat (first | exact List.mem_cons_self | apply List.mem_cons_of_mem)) rfl) ?_
  go_simp
  refine plan_call (v := (.int .i64 z)) (f := 31) (args := #[.agg (v3 ax ay az), .agg (v3 cx cy cz)]) rfl rfl (fun u hS => by go_simp) (fun u hS => (unhide h3 u).mono fun _ _ ⟨he, hb⟩ => ⟨he, hS.keep hb⟩) ?_
  go_simp
  refine plan_read (v := ?_) rfl rfl (fun u hS => by go_simp; rfl) ?_
  go_simp
  refine plan_read (v := ?_) rfl rfl (fun u hS => by go_simp; rfl) ?_
  go_simp
  refine plan_read (v := ?_) rfl rfl (fun u hS => by go_simp; rfl) ?_
  go_simp
  refine plan_end (fun u hS => ?_)
  have D := hide hS
  clear hS
  go_upto_region 5 with (first | (with_reducible refine at_list ?_; apply ldG (unhide D) rPoint _ rfl rfl rfl (by repeat (first | exact List.mem_cons_self | apply List.mem_cons_of_mem)) rfl) | (with_reducible refine at_list ?_; apply ldGw (unhide D) rPoint _ rfl rfl rfl (by repeat (first | exact List.mem_cons_self | apply List.mem_cons_of_mem)) rfl) | (go_at_call 31; with_reducible refine (unhide h4 _).mono ?_; rintro e w' ⟨he, hb⟩; subst he; have D := hide ((unhide D).keep hb); clear hb) | (with_reducible refine at_list ?_;  refine eqlPw _ _ _ hv rfl rfl rfl rfl ?_) | (go_at_call 29; with_reducible refine (unhide hL _).mono ?_; rintro e w' ⟨he, hb⟩; subst he; have D := hide ((unhide D).keep hb); clear hb) | (with_reducible refine at_list ?_; refine stG (unhide D) rPoint _ _ rfl rfl rfl rfl rfl rfl (v3_one' _ _ _) ?_; intro D'; have D := hide D'; clear D'))
  refine region_plan (S := Gen w _) (l := [0, 1, 2, 3, 4, 5, 6, 7, 8, 9, 10, 11, 12]) (by kernel_rfl) (by kernel_rfl) (by kernel_rfl) (by kernel_rfl) (by kernel_rfl) (by kernel_rfl) (by kernel_rfl) (unhide D).drew ?_
  clear D
  refine plan_read (v := ?_) rfl rfl (fun u hS => by go_simp; rfl) ?_
  go_simp
  refine plan_read (v := ?_) rfl rfl (fun u hS => by go_simp; rfl) ?_
  go_simp
  refine plan_read (v := ?_) rfl rfl (fun u hS => by go_simp; rfl) ?_
  go_simp
  refine plan_read (v := .agg (v3 p q r)) rfl rfl (fun u hS => exec_ldG hS rPoint _ rfl rfl (by repeat (first | exact List.mem_cons_self | apply List.mem_cons_of_mem)) rfl) ?_
  go_simp
  refine plan_read (v := .agg (v3 bx b_y bz_)) rfl rfl (fun u hS => exec_ldG hS rPoint _ rfl rfl (by repeat (first | exact List.mem_cons_self | apply List.mem_cons_of_mem)) rfl) ?_
  go_simp
  refine plan_call (v := (.agg (v3 ax ay az))) (f := 52) (args := #[.agg (v3 p q r), .agg (v3 bx b_y bz_)]) rfl rfl (fun u hS => by go_simp) (fun u hS => (unhide hs u).mono fun _ _ ⟨he, hb⟩ => ⟨he, hS.keep hb⟩) ?_
  go_simp
  refine plan_read (v := .agg (v3 ax ay az)) rfl rfl (fun u hS => exec_ldG hS rPoint _ rfl rfl (by repeat (first | exact List.mem_cons_self | apply List.mem_cons_of_mem)) rfl) ?_
  go_simp
  refine plan_read (v := .bool true) rfl rfl (fun u hS => exec_eql_pt u _ _ hv2 rfl rfl rfl) ?_
  go_simp
  refine plan_read (v := ?_) rfl rfl (fun u hS => by go_simp; rfl) ?_
  go_simp
  refine plan_read (v := ?_) rfl rfl (fun u hS => by go_simp; rfl) ?_
  go_simp
  refine plan_call (v := (.bool true)) (f := 28) (args := #[]) rfl rfl (fun u hS => by go_simp) (fun u hS => (unhide haw u).mono fun _ _ ⟨he, hb⟩ => ⟨he, hS.keep hb⟩) ?_
  go_simp
  refine plan_read (v := ?_) rfl rfl (fun u hS => by go_simp; rfl) ?_
  go_simp
  refine plan_read (v := ?_) rfl rfl (fun u hS => by go_simp; rfl) ?_
  go_simp
  refine plan_end (fun u hS => ?_)
  have O := hide hS.o
  clear hS
  go_wp2
  go_ret
  exact ⟨rfl, unhide O⟩
set_option maxHeartbeats 4000000 in
theorem order_1_s_s_7 (ax ay az bx b_y bz_ cx cy cz y z p q r : Int) (w : World) (h1 : Hid (Ans 31 #[.agg (v3 ax ay az), .agg (v3 bx b_y bz_)] (.int .i64 1))) (h2 : Hid (Ans 31 #[.agg (v3 bx b_y bz_), .agg (v3 cx cy cz)] (.int .i64 y))) (h3 : Hid (Ans 31 #[.agg (v3 ax ay az), .agg (v3 cx cy cz)] (.int .i64 z))) (h4 : Hid (Ans 31 #[.agg (v3 bx b_y bz_), .agg (v3 ax ay az)] (.int .i64 (-1)))) (hv : sameV ax ay az bx b_y bz_ = false)
    (hL : Hid (Ans 29 #[.agg (v3 ax ay az), .agg (v3 bx b_y bz_)] (.tuple #[.agg (v3 p q r), .int .i64 7]))) (hv2 : sameV ax ay az ax ay az = true) (haw : Hid (Ans 28 #[] (.bool true))) :
    Calls Try.prog 13 #[.agg (v3 ax ay az), .agg (v3 bx b_y bz_), .agg (v3 cx cy cz)] w fun e w' => e = .returned (.bool true) ∧ Below w.heap.size w w' := by
  go_enter Try.func13, Try.ntmps13
  go_upto_region 1 with fail
  have D := hide ((((Gen.start w).push 26 (v3 ax ay az)).push 26 (v3 bx b_y bz_)).push 26 (v3 cx cy cz))
  simp only [szA] at D
  refine region_plan (S := Gen w _) (l := [0, 1, 2, 3, 4, 5, 6, 7, 8, 9, 10, 11]) (by kernel_rfl) (by kernel_rfl) (by kernel_rfl) (by kernel_rfl) (by kernel_rfl) (by kernel_rfl) (by kernel_rfl) (unhide D).drew ?_
  clear D
  refine plan_read (v := .agg (v3 ax ay az)) rfl rfl (fun u hS => exec_ldG hS rPoint _ rfl rfl (by repeat (first | exact List.mem_cons_self | apply List.mem_cons_of_mem)) rfl) ?_
  go_simp
  refine plan_read (v := .agg (v3 bx b_y bz_)) rfl rfl (fun u hS => exec_ldG hS rPoint _ rfl rfl (by repeat (first | exact List.mem_cons_self | apply List.mem_cons_of_mem)) rfl) ?_
  go_simp
  refine plan_call (v := (.int .i64 1)) (f := 31) (args := #[.agg (v3 ax ay az), .agg (v3 bx b_y bz_)]) rfl rfl (fun u hS => by go_simp) (fun u hS => (unhide h1 u).mono fun _ _ ⟨he, hb⟩ => ⟨he, hS.keep hb⟩) ?_
  go_simp
  refine plan_read (v := .agg (v3 bx b_y bz_)) rfl rfl (fun u hS => exec_ldG hS rPoint _ rfl rfl (by repeat (first | exact List.mem_cons_self | apply List.mem_cons_of_mem)) rfl) ?_
  go_simp
  refine plan_read (v := .agg (v3 cx cy cz)) rfl rfl (fun u hS => exec_ldG hS rPoint _ rfl rfl (by repeat (first | exact List.mem_cons_self | apply List.mem_cons_of_mem)) rfl) ?_
  go_simp
  refine plan_call (v := (.int .i64 y)) (f := 31) (args := #[.agg (v3 bx b_y bz_), .agg (v3 cx cy cz)]) rfl rfl (fun u hS => by go_simp) (fun u hS => (unhide h2 u).mono fun _ _ ⟨he, hb⟩ => ⟨he, hS.keep hb⟩) ?_
  go_simp
  refine plan_read (v := .agg (v3 ax ay az)) rfl rfl (fun u hS => exec_ldG hS rPoint _ rfl rfl (by repeat (first | exact List.mem_cons_self | apply List.mem_cons_of_mem)) rfl) ?_
  go_simp
  refine plan_read (v := .agg (v3 cx cy cz)) rfl rfl (fun u hS => exec_ldG hS rPoint _ rfl rfl (by repeat (first | exact List.mem_cons_self | apply List.mem_cons_of_mem)) rfl) ?_
  go_simp
  refine plan_call (v := (.int .i64 z)) (f := 31) (args := #[.agg (v3 ax ay az), .agg (v3 cx cy cz)]) rfl rfl (fun u hS => by go_simp) (fun u hS => (unhide h3 u).mono fun _ _ ⟨he, hb⟩ => ⟨he, hS.keep hb⟩) ?_
  go_simp
  refine plan_read (v := ?_) rfl rfl (fun u hS => by go_simp; rfl) ?_
  go_simp
  refine plan_read (v := ?_) rfl rfl (fun u hS => by go_simp; rfl) ?_
  go_simp
  refine plan_read (v := ?_) rfl rfl (fun u hS => by go_simp; rfl) ?_
  go_simp
  refine plan_end (fun u hS => ?_)
  have D := hide hS
  clear hS
  go_upto_region 5 with (first | (with_reducible refine at_list ?_; apply ldG (unhide D) rPoint _ rfl rfl rfl (by repeat (first | exact List.mem_cons_self | apply List.mem_cons_of_mem)) rfl) | (with_reducible refine at_list ?_; apply ldGw (unhide D) rPoint _ rfl rfl rfl (by repeat (first | exact List.mem_cons_self | apply List.mem_cons_of_mem)) rfl) | (go_at_call 31; with_reducible refine (unhide h4 _).mono ?_; rintro e w' ⟨he, hb⟩; subst he; have D := hide ((unhide D).keep hb); clear hb) | (with_reducible refine at_list ?_;  refine eqlPw _ _ _ hv rfl rfl rfl rfl ?_) | (go_at_call 29; with_reducible refine (unhide hL _).mono ?_; rintro e w' ⟨he, hb⟩; subst he; have D := hide ((unhide D).keep hb); clear hb) | (with_reducible refine at_list ?_; refine stG (unhide D) rPoint _ _ rfl rfl rfl rfl rfl rfl (v3_one' _ _ _) ?_; intro D'; have D := hide D'; clear D'))
  refine region_plan (S := Gen w _) (l := [0, 1, 2, 3, 4, 5, 6, 7, 8, 9, 10, 11, 12]) (by kernel_rfl) (by kernel_rfl) (by kernel_rfl) (by kernel_rfl) (by kernel_rfl) (by kernel_rfl) (by kernel_rfl) (unhide D).drew ?_
  clear D
  refine plan_read (v := ?_) rfl rfl (fun u hS => by go_simp; rfl) ?_
  go_simp
  refine plan_read (v := ?_) rfl rfl (fun u hS => by go_simp; rfl) ?_
  go_simp
  refine plan_read (v := ?_) rfl rfl (fun u hS => by go_simp; rfl) ?_
  go_simp
  refine plan_skip rfl rfl ?_
  go_simp
  refine plan_skip rfl rfl ?_
  go_simp
  refine plan_skip rfl rfl ?_
  go_simp
  refine plan_skip rfl rfl ?_
  go_simp
  refine plan_skip rfl rfl ?_
  go_simp
  refine plan_read (v := ?_) rfl rfl (fun u hS => by go_simp; rfl) ?_
  go_simp
  refine plan_read (v := ?_) rfl rfl (fun u hS => by go_simp; rfl) ?_
  go_simp
  refine plan_call (v := (.bool true)) (f := 28) (args := #[]) rfl rfl (fun u hS => by go_simp) (fun u hS => (unhide haw u).mono fun _ _ ⟨he, hb⟩ => ⟨he, hS.keep hb⟩) ?_
  go_simp
  refine plan_read (v := ?_) rfl rfl (fun u hS => by go_simp; rfl) ?_
  go_simp
  refine plan_read (v := ?_) rfl rfl (fun u hS => by go_simp; rfl) ?_
  go_simp
  refine plan_end (fun u hS => ?_)
  have O := hide hS.o
  clear hS
  go_wp2
  go_ret
  exact ⟨rfl, unhide O⟩
set_option maxHeartbeats 4000000 in
theorem order_0_1_s_0 (ax ay az bx b_y bz_ cx cy cz y z p q r : Int) (w : World) (h1 : Hid (Ans 31 #[.agg (v3 ax ay az), .agg (v3 bx b_y bz_)] (.int .i64 0))) (h2 : Hid (Ans 31 #[.agg (v3 bx b_y bz_), .agg (v3 cx cy cz)] (.int .i64 1))) (h3 : Hid (Ans 31 #[.agg (v3 ax ay az), .agg (v3 cx cy cz)] (.int .i64 z))) (h4 : Hid (Ans 31 #[.agg (v3 bx b_y bz_), .agg (v3 ax ay az)] (.int .i64 0))) (hv : sameV ax ay az bx b_y bz_ = true)
    (hL : Hid (Ans 29 #[.agg (v3 ax ay az), .agg (v3 bx b_y bz_)] (.tuple #[.agg (v3 p q r), .int .i64 0]))) (hs : Hid (Ans 52 #[.agg (v3 p q r), .agg (v3 bx b_y bz_)] (.agg (v3 ax ay az)))) (hv2 : sameV ax ay az ax ay az = true) (haw : Hid (Ans 28 #[] (.bool true))) :
    Calls Try.prog 13 #[.agg (v3 ax ay az), .agg (v3 bx b_y bz_), .agg (v3 cx cy cz)] w fun e w' => e = .returned (.bool true) ∧ Below w.heap.size w w' := by
  go_enter Try.func13, Try.ntmps13
  go_upto_region 1 with fail
  have D := hide ((((Gen.start w).push 26 (v3 ax ay az)).push 26 (v3 bx b_y bz_)).push 26 (v3 cx cy cz))
  simp only [szA] at D
  refine region_plan (S := Gen w _) (l := [0, 1, 2, 3, 4, 5, 6, 7, 8, 9, 10, 11]) (by kernel_rfl) (by kernel_rfl) (by kernel_rfl) (by kernel_rfl) (by kernel_rfl) (by kernel_rfl) (by kernel_rfl) (unhide D).drew ?_
  clear D
  refine plan_read (v := .agg (v3 ax ay az)) rfl rfl (fun u hS => exec_ldG hS rPoint _ rfl rfl (by repeat (first | exact List.mem_cons_self | apply List.mem_cons_of_mem)) rfl) ?_
  go_simp
  refine plan_read (v := .agg (v3 bx b_y bz_)) rfl rfl (fun u hS => exec_ldG hS rPoint _ rfl rfl (by repeat (first | exact List.mem_cons_self | apply List.mem_cons_of_mem)) rfl) ?_
  go_simp
  refine plan_call (v := (.int .i64 0)) (f := 31) (args := #[.agg (v3 ax ay az), .agg (v3 bx b_y bz_)]) rfl rfl (fun u hS => by go_simp) (fun u hS => (unhide h1 u).mono fun _ _ ⟨he, hb⟩ => ⟨he, hS.keep hb⟩) ?_
  go_simp
  refine plan_read (v := .agg (v3 bx b_y bz_)) rfl rfl (fun u hS => exec_ldG hS rPoint _ rfl rfl (by repeat (first | exact List.mem_cons_self | apply List.mem_cons_of_mem)) rfl) ?_
  go_simp
  refine plan_read (v := .agg (v3 cx cy cz)) rfl rfl (fun u hS => exec_ldG hS rPoint _ rfl rfl (by repeat (first | exact List.mem_cons_self | apply List.mem_cons_of_mem)) rfl) ?_
  go_simp
  refine plan_call (v := (.int .i64 1)) (f := 31) (args := #[.agg (v3 bx b_y bz_), .agg (v3 cx cy cz)]) rfl rfl (fun u hS => by go_simp) (fun u hS => (unhide h2 u).mono fun _ _ ⟨he, hb⟩ => ⟨he, hS.keep hb⟩) ?_
  go_simp
  refine plan_read (v := .agg (v3 ax ay az)) rfl rfl (fun u hS => exec_ldG hS rPoint _ rfl rfl (by repeat (first | exact List.mem_cons_self | apply List.mem_cons_of_mem)) rfl) ?_
  go_simp
  refine plan_read (v := .agg (v3 cx cy cz)) rfl rfl (fun u hS => exec_ldG hS rPoint _ rfl rfl (by repeat (first | exact List.mem_cons_self | apply List.mem_cons_of_mem)) rfl) ?_
  go_simp
  refine plan_call (v := (.int .i64 z)) (f := 31) (args := #[.agg (v3 ax ay az), .agg (v3 cx cy cz)]) rfl rfl (fun u hS => by go_simp) (fun u hS => (unhide h3 u).mono fun _ _ ⟨he, hb⟩ => ⟨he, hS.keep hb⟩) ?_
  go_simp
  refine plan_read (v := ?_) rfl rfl (fun u hS => by go_simp; rfl) ?_
  go_simp
  refine plan_read (v := ?_) rfl rfl (fun u hS => by go_simp; rfl) ?_
  go_simp
  refine plan_read (v := ?_) rfl rfl (fun u hS => by go_simp; rfl) ?_
  go_simp
  refine plan_end (fun u hS => ?_)
  have D := hide hS
  clear hS
  go_upto_region 5 with (first | (with_reducible refine at_list ?_; apply ldG (unhide D) rPoint _ rfl rfl rfl (by repeat (first | exact List.mem_cons_self | apply List.mem_cons_of_mem)) rfl) | (with_reducible refine at_list ?_; apply ldGw (unhide D) rPoint _ rfl rfl rfl (by repeat (first | exact List.mem_cons_self | apply List.mem_cons_of_mem)) rfl) | (go_at_call 31; with_reducible refine (unhide h4 _).mono ?_; rintro e w' ⟨he, hb⟩; subst he; have D := hide ((unhide D).keep hb); clear hb) | (with_reducible refine at_list ?_;  refine eqlPw _ _ _ hv rfl rfl rfl rfl ?_) | (go_at_call 29; with_reducible refine (unhide hL _).mono ?_; rintro e w' ⟨he, hb⟩; subst he; have D := hide ((unhide D).keep hb); clear hb) | (with_reducible refine at_list ?_; refine stG (unhide D) rPoint _ _ rfl rfl rfl rfl rfl rfl (v3_one' _ _ _) ?_; intro D'; have D := hide D'; clear D'))
  refine region_plan (S := Gen w _) (l := [0, 1, 2, 3, 4, 5, 6, 7, 8, 9, 10, 11, 12]) (by kernel_rfl) (by kernel_rfl) (by kernel_rfl) (by kernel_rfl) (by kernel_rfl) (by kernel_rfl) (by kernel_rfl) (unhide D).drew ?_
  clear D
  refine plan_read (v := ?_) rfl rfl (fun u hS => by go_simp; rfl) ?_
  go_simp
  refine plan_read (v := ?_) rfl rfl (fun u hS => by go_simp; rfl) ?_
  go_simp
  refine plan_read (v := ?_) rfl rfl (fun u hS => by go_simp; rfl) ?_
  go_simp
  refine plan_read (v := .agg (v3 p q r)) rfl rfl (fun u hS => exec_ldG hS rPoint _ rfl rfl (by repeat (first | exact List.mem_cons_self | apply List.mem_cons_of_mem)) rfl) ?_
  go_simp
  refine plan_read (v := .agg (v3 bx b_y bz_)) rfl rfl (fun u hS => exec_ldG hS rPoint _ rfl rfl (by repeat (first | exact List.mem_cons_self | apply List.mem_cons_of_mem)) rfl) ?_
  go_simp
  refine plan_call (v := (.agg (v3 ax ay az))) (f := 52) (args := #[.agg (v3 p q r), .agg (v3 bx b_y bz_)]) rfl rfl (fun u hS => by go_simp) (fun u hS => (unhide hs u).mono fun _ _ ⟨he, hb⟩ => ⟨he, hS.keep hb⟩) ?_
  go_simp
  refine plan_read (v := .agg (v3 ax ay az)) rfl rfl (fun u hS => exec_ldG hS rPoint _ rfl rfl (by repeat (first | exact List.mem_cons_self | apply List.mem_cons_of_mem)) rfl) ?_
  go_simp
  refine plan_read (v := .bool true) rfl rfl (fun u hS => exec_eql_pt u _ _ hv2 rfl rfl rfl) ?_
  go_simp
  refine plan_read (v := ?_) rfl rfl (fun u hS => by go_simp; rfl) ?_
  go_simp
  refine plan_read (v := ?_) rfl rfl (fun u hS => by go_simp; rfl) ?_
  go_simp
  refine plan_call (v := (.bool true)) (f := 28) (args := #[]) rfl rfl (fun u hS => by go_simp) (fun u hS => (unhide haw u).mono fun _ _ ⟨he, hb⟩ => ⟨he, hS.keep hb⟩) ?_
  go_simp
  refine plan_read (v := ?_) rfl rfl (fun u hS => by go_simp; rfl) ?_
  go_simp
  refine plan_read (v := ?_) rfl rfl (fun u hS => by go_simp; rfl) ?_
  go_simp
  refine plan_end (fun u hS => ?_)
  have O := hide hS.o
  clear hS
  go_wp2
  go_ret
  exact ⟨rfl, unhide O⟩
set_option maxHeartbeats 4000000 in
theorem order_0_1_s_7 (ax ay az bx b_y bz_ cx cy cz y z p q r : Int) (w : World) (h1 : Hid (Ans 31 #[.agg (v3 ax ay az), .agg (v3 bx b_y bz_)] (.int .i64 0))) (h2 : Hid (Ans 31 #[.agg (v3 bx b_y bz_), .agg (v3 cx cy cz)] (.int .i64 1))) (h3 : Hid (Ans 31 #[.agg (v3 ax ay az), .agg (v3 cx cy cz)] (.int .i64 z))) (h4 : Hid (Ans 31 #[.agg (v3 bx b_y bz_), .agg (v3 ax ay az)] (.int .i64 0))) (hv : sameV ax ay az bx b_y bz_ = true)
    (hL : Hid (Ans 29 #[.agg (v3 ax ay az), .agg (v3 bx b_y bz_)] (.tuple #[.agg (v3 p q r), .int .i64 7]))) (hv2 : sameV ax ay az ax ay az = true) (haw : Hid (Ans 28 #[] (.bool true))) :
    Calls Try.prog 13 #[.agg (v3 ax ay az), .agg (v3 bx b_y bz_), .agg (v3 cx cy cz)] w fun e w' => e = .returned (.bool true) ∧ Below w.heap.size w w' := by
  go_enter Try.func13, Try.ntmps13
  go_upto_region 1 with fail
  have D := hide ((((Gen.start w).push 26 (v3 ax ay az)).push 26 (v3 bx b_y bz_)).push 26 (v3 cx cy cz))
  simp only [szA] at D
  refine region_plan (S := Gen w _) (l := [0, 1, 2, 3, 4, 5, 6, 7, 8, 9, 10, 11]) (by kernel_rfl) (by kernel_rfl) (by kernel_rfl) (by kernel_rfl) (by kernel_rfl) (by kernel_rfl) (by kernel_rfl) (unhide D).drew ?_
  clear D
  refine plan_read (v := .agg (v3 ax ay az)) rfl rfl (fun u hS => exec_ldG hS rPoint _ rfl rfl (by repeat (first | exact List.mem_cons_self | apply List.mem_cons_of_mem)) rfl) ?_
  go_simp
  refine plan_read (v := .agg (v3 bx b_y bz_)) rfl rfl (fun u hS => exec_ldG hS rPoint _ rfl rfl (by repeat (first | exact List.mem_cons_self | apply List.mem_cons_of_mem)) rfl) ?_
  go_simp
  refine plan_call (v := (.int .i64 0)) (f := 31) (args := #[.agg (v3 ax ay az), .agg (v3 bx b_y bz_)]) rfl rfl (fun u hS => by go_simp) (fun u hS => (unhide h1 u).mono fun _ _ ⟨he, hb⟩ => ⟨he, hS.keep hb⟩) ?_
  go_simp
  refine plan_read (v := .agg (v3 bx b_y bz_)) rfl rfl (fun u hS => exec_ldG hS rPoint _ rfl rfl (by repeat (first | exact List.mem_cons_self | apply List.mem_cons_of_mem)) rfl) ?_
  go_simp
  refine plan_read (v := .agg (v3 cx cy cz)) rfl rfl (fun u hS => exec_ldG hS rPoint _ rfl rfl (by repeat (first | exact List.mem_cons_self | apply List.mem_cons_of_mem)) rfl) ?_
  go_simp
  refine plan_call (v := (.int .i64 1)) (f := 31) (args := #[.agg (v3 bx b_y bz_), .agg (v3 cx cy cz)]) rfl rfl (fun u hS => by go_simp) (fun u hS => (unhide h2 u).mono fun _ _ ⟨he, hb⟩ => ⟨he, hS.keep hb⟩) ?_
  go_simp
  refine plan_read (v := .agg (v3 ax ay az)) rfl rfl (fun u hS => exec_ldG hS rPoint _ rfl rfl (by repeat (first | exact List.mem_cons_self | apply List.mem_cons_of_mem)) rfl) ?_
  go_simp
  refine plan_read (v := .agg (v3 cx cy cz)) rfl rfl (fun u hS => exec_ldG hS rPoint _ rfl rfl (by repeat (first | exact List.mem_cons_self | apply List.mem_cons_of_mem)) rfl) ?_
  go_simp
  refine plan_call (v := (.int .i64 z)) (f := 31) (args := #[.agg (v3 ax ay az), .agg (v3 cx cy cz)]) rfl rfl (fun u hS => by go_simp) (fun u hS => (unhide h3 u).mono fun _ _ ⟨he, hb⟩ => ⟨he, hS.keep hb⟩) ?_
  go_simp
  refine plan_read (v := ?_) rfl rfl (fun u hS => by go_simp; rfl) ?_
  go_simp
  refine plan_read (v := ?_) rfl rfl (fun u hS => by go_simp; rfl) ?_
  go_simp
  refine plan_read (v := ?_) rfl rfl (fun u hS => by go_simp; rfl) ?_
  go_simp
  refine plan_end (fun u hS => ?_)
  have D := hide hS
  clear hS
  go_upto_region 5 with (first | (with_reducible refine at_list ?_; apply ldG (unhide D) rPoint _ rfl rfl rfl (by repeat (first | exact List.mem_cons_self | apply List.mem_cons_of_mem)) rfl) | (with_reducible refine at_list ?_; apply ldGw (unhide D) rPoint _ rfl rfl rfl (by repeat (first | exact List.mem_cons_self | apply List.mem_cons_of_mem)) rfl) | (go_at_call 31; with_reducible refine (unhide h4 _).mono ?_; rintro e w' ⟨he, hb⟩; subst he; have D := hide ((unhide D).keep hb); clear hb) | (with_reducible refine at_list ?_;  refine eqlPw _ _ _ hv rfl rfl rfl rfl ?_) | (go_at_call 29; with_reducible refine (unhide hL _).mono ?_; rintro e w' ⟨he, hb⟩; subst he; have D := hide ((unhide D).keep hb); clear hb) | (with_reducible refine at_list ?_; refine stG (unhide D) rPoint _ _ rfl rfl rfl rfl rfl rfl (v3_one' _ _ _) ?_; intro D'; have D := hide D'; clear D'))
  refine region_plan (S := Gen w _) (l := [0, 1, 2, 3, 4, 5, 6, 7, 8, 9, 10, 11, 12]) (by kernel_rfl) (by kernel_rfl) (by kernel_rfl) (by kernel_rfl) (by kernel_rfl) (by kernel_rfl) (by kernel_rfl) (unhide D).drew ?_
  clear D
  refine plan_read (v := ?_) rfl rfl (fun u hS => by go_simp; rfl) ?_
  go_simp
  refine plan_read (v := ?_) rfl rfl (fun u hS => by go_simp; rfl) ?_
  go_simp
  refine plan_read (v := ?_) rfl rfl (fun u hS => by go_simp; rfl) ?_
  go_simp
  refine plan_skip rfl rfl ?_
  go_simp
  refine plan_skip rfl rfl ?_
  go_simp
  refine plan_skip rfl rfl ?_
  go_simp
  refine plan_skip rfl rfl ?_
  go_simp
  refine plan_skip rfl rfl ?_
  go_simp
  refine plan_read (v := ?_) rfl rfl (fun u hS => by go_simp; rfl) ?_
  go_simp
  refine plan_read (v := ?_) rfl rfl (fun u hS => by go_simp; rfl) ?_
  go_simp
  refine plan_call (v := (.bool true)) (f := 28) (args := #[]) rfl rfl (fun u hS => by go_simp) (fun u hS => (unhide haw u).mono fun _ _ ⟨he, hb⟩ => ⟨he, hS.keep hb⟩) ?_
  go_simp
  refine plan_read (v := ?_) rfl rfl (fun u hS => by go_simp; rfl) ?_
  go_simp
  refine plan_read (v := ?_) rfl rfl (fun u hS => by go_simp; rfl) ?_
  go_simp
  refine plan_end (fun u hS => ?_)
  have O := hide hS.o
  clear hS
  go_wp2
  go_ret
  exact ⟨rfl, unhide O⟩
set_option maxHeartbeats 4000000 in
theorem order_0_0_0_0 (ax ay az bx b_y bz_ cx cy cz y z p q r : Int) (w : World) (h1 : Hid (Ans 31 #[.agg (v3 ax ay az), .agg (v3 bx b_y bz_)] (.int .i64 0))) (h2 : Hid (Ans 31 #[.agg (v3 bx b_y bz_), .agg (v3 cx cy cz)] (.int .i64 0))) (h3 : Hid (Ans 31 #[.agg (v3 ax ay az), .agg (v3 cx cy cz)] (.int .i64 0))) (h4 : Hid (Ans 31 #[.agg (v3 bx b_y bz_), .agg (v3 ax ay az)] (.int .i64 0))) (hv : sameV ax ay az bx b_y bz_ = true)
    (hL : Hid (Ans 29 #[.agg (v3 ax ay az), .agg (v3 bx b_y bz_)] (.tuple #[.agg (v3 p q r), .int .i64 0]))) (hs : Hid (Ans 52 #[.agg (v3 p q r), .agg (v3 bx b_y bz_)] (.agg (v3 ax ay az)))) (hv2 : sameV ax ay az ax ay az = true) (haw : Hid (Ans 28 #[] (.bool true))) :
    Calls Try.prog 13 #[.agg (v3 ax ay az), .agg (v3 bx b_y bz_), .agg (v3 cx cy cz)] w fun e w' => e = .returned (.bool true) ∧ Below w.heap.size w w' := by
  go_enter Try.func13, Try.ntmps13
  go_upto_region 1 with fail
  have D := hide ((((Gen.start w).push 26 (v3 ax ay az)).push 26 (v3 bx b_y bz_)).push 26 (v3 cx cy cz))
  simp only [szA] at D
  refine region_plan (S := Gen w _) (l := [0, 1, 2, 3, 4, 5, 6, 7, 8, 9, 10, 11]) (by kernel_rfl) (by kernel_rfl) (by kernel_rfl) (by kernel_rfl) (by kernel_rfl) (by kernel_rfl) (by kernel_rfl) (unhide D).drew ?_
  clear D
  refine plan_read (v := .agg (v3 ax ay az)) rfl rfl (fun u hS => exec_ldG hS rPoint _ rfl rfl (by repeat (first | exact List.mem_cons_self | apply List.mem_cons_of_mem)) rfl) ?_
  go_simp
  refine plan_read (v := .agg (v3 bx b_y bz_)) rfl rfl (fun u hS => exec_ldG hS rPoint _ rfl rfl (by repeat (first | exact List.mem_cons_self | apply List.mem_cons_of_mem)) rfl) ?_
  go_simp
  refine plan_call (v := (.int .i64 0)) (f := 31) (args := #[.agg (v3 ax ay az), .agg (v3 bx b_y bz_)]) rfl rfl (fun u hS => by go_simp) (fun u hS => (unhide h1 u).mono fun _ _ ⟨he, hb⟩ => ⟨he, hS.keep hb⟩) ?_
  go_simp
  refine plan_read (v := .agg (v3 bx b_y bz_)) rfl rfl (fun u hS => exec_ldG hS rPoint _ rfl rfl (by repeat (first | exact List.mem_cons_self | apply List.mem_cons_of_mem)) rfl) ?_
  go_simp
  refine plan_read (v := .agg (v3 cx cy cz)) rfl rfl (fun u hS => exec_ldG hS rPoint _ rfl rfl (by repeat (first | exact List.mem_cons_self | apply List.mem_cons_of_mem)) rfl) ?_
  go_simp
  refine plan_call (v := (.int .i64 0)) (f := 31) (args := #[.agg (v3 bx b_y bz_), .agg (v3 cx cy cz)]) rfl rfl (fun u hS => by go_simp) (fun u hS => (unhide h2 u).mono fun _ _ ⟨he, hb⟩ => ⟨he, hS.keep hb⟩) ?_
  go_simp
  refine plan_read (v := .agg (v3 ax ay az)) rfl rfl (fun u hS => exec_ldG hS rPoint _ rfl rfl (by repeat (first | exact List.mem_cons_self | apply List.mem_cons_of_mem)) rfl) ?_
  go_simp
  refine plan_read (v := .agg (v3 cx cy cz)) rfl rfl (fun u hS => exec_ldG hS rPoint _ rfl rfl (by repeat (first | exact List.mem_cons_self | apply List.mem_cons_of_mem)) rfl) ?_
  go_simp
  refine plan_call (v := (.int .i64 0)) (f := 31) (args := #[.agg (v3 ax ay az), .agg (v3 cx cy cz)]) rfl rfl (fun u hS => by go_simp) (fun u hS => (unhide h3 u).mono fun _ _ ⟨he, hb⟩ => ⟨he, hS.keep hb⟩) ?_
  go_simp
  refine plan_read (v := ?_) rfl rfl (fun u hS => by go_simp; rfl) ?_
  go_simp
  refine plan_read (v := ?_) rfl rfl (fun u hS => by go_simp; rfl) ?_
  go_simp
  refine plan_read (v := ?_) rfl rfl (fun u hS => by go_simp; rfl) ?_
  go_simp
  refine plan_end (fun u hS => ?_)
  have D := hide hS
  clear hS
  go_upto_region 5 with (first | (with_reducible refine at_list ?_; apply ldG (unhide D) rPoint _ rfl rfl rfl (by repeat (first | exact List.mem_cons_self | apply List.mem_cons_of_mem)) rfl) | (with_reducible refine at_list ?_; apply ldGw (unhide D) rPoint _ rfl rfl rfl (by repeat (first | exact List.mem_cons_self | apply List.mem_cons_of_mem)) rfl) | (go_at_call 31; with_reducible refine (unhide h4 _).mono ?_; rintro e w' ⟨he, hb⟩; subst he; have D := hide ((unhide D).keep hb); clear hb) | (with_reducible refine at_list ?_;  refine eqlPw _ _ _ hv rfl rfl rfl rfl ?_) | (go_at_call 29; with_reducible refine (unhide hL _).mono ?_; rintro e w' ⟨he, hb⟩; subst he; have D := hide ((unhide D).keep hb); clear hb) | (with_reducible refine at_list ?_; refine stG (unhide D) rPoint _ _ rfl rfl rfl rfl rfl rfl (v3_one' _ _ _) ?_; intro D'; have D := hide D'; clear D'))
  refine region_plan (S := Gen w _) (l := [0, 1, 2, 3, 4, 5, 6, 7, 8, 9, 10, 11, 12]) (by kernel_rfl) (by kernel_rfl) (by kernel_rfl) (by kernel_rfl) (by kernel_rfl) (by kernel_rfl) (by kernel_rfl) (unhide D).drew ?_
  clear D
  refine plan_read (v := ?_) rfl rfl (fun u hS => by go_simp; rfl) ?_
  go_simp
  refine plan_read (v := ?_) rfl rfl (fun u hS => by go_simp; rfl) ?_
  go_simp
  refine plan_read (v := ?_) rfl rfl (fun u hS => by go_simp; rfl) ?_
  go_simp
  refine plan_read (v := .agg (v3 p q r)) rfl rfl (fun u hS => exec_ldG hS rPoint _ rfl rfl (by repeat (first | exact List.mem_cons_self | apply List.mem_cons_of_mem)) rfl) ?_
  go_simp
  refine plan_read (v := .agg (v3 bx b_y bz_)) rfl rfl (fun u hS => exec_ldG hS rPoint _ rfl rfl (by repeat (first | exact List.mem_cons_self | apply List.mem_cons_of_mem)) rfl) ?_
  go_simp
  refine plan_call (v := (.agg (v3 ax ay az))) (f := 52) (args := #[.agg (v3 p q r), .agg (v3 bx b_y bz_)]) rfl rfl (fun u hS => by go_simp) (fun u hS => (unhide hs u).mono fun _ _ ⟨he, hb⟩ => ⟨he, hS.keep hb⟩) ?_
  go_simp
  refine plan_read (v := .agg (v3 ax ay az)) rfl rfl (fun u hS => exec_ldG hS rPoint _ rfl rfl (by repeat (first | exact List.mem_cons_self | apply List.mem_cons_of_mem)) rfl) ?_
  go_simp
  refine plan_read (v := .bool true) rfl rfl (fun u hS => exec_eql_pt u _ _ hv2 rfl rfl rfl) ?_
  go_simp
  refine plan_read (v := ?_) rfl rfl (fun u hS => by go_simp; rfl) ?_
  go_simp
  refine plan_read (v := ?_) rfl rfl (fun u hS => by go_simp; rfl) ?_
  go_simp
  refine plan_call (v := (.bool true)) (f := 28) (args := #[]) rfl rfl (fun u hS => by go_simp) (fun u hS => (unhide haw u).mono fun _ _ ⟨he, hb⟩ => ⟨he, hS.keep hb⟩) ?_
  go_simp
  refine plan_read (v := ?_) rfl rfl (fun u hS => by go_simp; rfl) ?_
  go_simp
  refine plan_read (v := ?_) rfl rfl (fun u hS => by go_simp; rfl) ?_
  go_simp
  refine plan_end (fun u hS => ?_)
  have O := hide hS.o
  clear hS
  go_wp2
  go_ret
  exact ⟨rfl, unhide O⟩
set_option maxHeartbeats 4000000 in
theorem order_0_0_0_7 (ax ay az bx b_y bz_ cx cy cz y z p q r : Int) (w : World) (h1 : Hid (Ans 31 #[.agg (v3 ax ay az), .agg (v3 bx b_y bz_)] (.int .i64 0))) (h2 : Hid (Ans 31 #[.agg (v3 bx b_y bz_), .agg (v3 cx cy cz)] (.int .i64 0))) (h3 : Hid (Ans 31 #[.agg (v3 ax ay az), .agg (v3 cx cy cz)] (.int .i64 0))) (h4 : Hid (Ans 31 #[.agg (v3 bx b_y bz_), .agg (v3 ax ay az)] (.int .i64 0))) (hv : sameV ax ay az bx b_y bz_ = true)
    (hL : Hid (Ans 29 #[.agg (v3 ax ay az), .agg (v3 bx b_y bz_)] (.tuple #[.agg (v3 p q r), .int .i64 7]))) (hv2 : sameV ax ay az ax ay az = true) (haw : Hid (Ans 28 #[] (.bool true))) :
    Calls Try.prog 13 #[.agg (v3 ax ay az), .agg (v3 bx b_y bz_), .agg (v3 cx cy cz)] w fun e w' => e = .returned (.bool true) ∧ Below w.heap.size w w' := by
  go_enter Try.func13, Try.ntmps13
  go_upto_region 1 with fail
  have D := hide ((((Gen.start w).push 26 (v3 ax ay az)).push 26 (v3 bx b_y bz_)).push 26 (v3 cx cy cz))
  simp only [szA] at D
  refine region_plan (S := Gen w _) (l := [0, 1, 2, 3, 4, 5, 6, 7, 8, 9, 10, 11]) (by kernel_rfl) (by kernel_rfl) (by kernel_rfl) (by kernel_rfl) (by kernel_rfl) (by kernel_rfl) (by kernel_rfl) (unhide D).drew ?_
  clear D
  refine plan_read (v := .agg (v3 ax ay az)) rfl rfl (fun u hS => exec_ldG hS rPoint _ rfl rfl (by repeat (first | exact List.mem_cons_self | apply List.mem_cons_of_mem)) rfl) ?_
  go_simp
  refine plan_read (v := .agg (v3 bx b_y bz_)) rfl rfl (fun u hS => exec_ldG hS rPoint _ rfl rfl (by repeat (first | exact List.mem_cons_self | apply List.mem_cons_of_mem)) rfl) ?_
  go_simp
  refine plan_call (v := (.int .i64 0)) (f := 31) (args := #[.agg (v3 ax ay az), .agg (v3 bx b_y bz_)]) rfl rfl (fun u hS => by go_simp) (fun u hS => (unhide h1 u).mono fun _ _ ⟨he, hb⟩ => ⟨he, hS.keep hb⟩) ?_
  go_simp
  refine plan_read (v := .agg (v3 bx b_y bz_)) rfl rfl (fun u hS => exec_ldG hS rPoint _ rfl rfl (by repeat (first | exact List.mem_cons_self | apply List.mem_cons_of_mem)) rfl) ?_
  go_simp
  refine plan_read (v := .agg (v3 cx cy cz)) rfl rfl (fun u hS => exec_ldG hS rPoint _ rfl rfl (by repeat (first | exact List.mem_cons_self | apply List.mem_cons_of_mem)) rfl) ?_
  go_simp
  refine plan_call (v := (.int .i64 0)) (f := 31) (args := #[.agg (v3 bx b_y bz_), .agg (v3 cx cy cz)]) rfl rfl (fun u hS => by go_simp) (fun u hS => (unhide h2 u).mono fun _ _ ⟨he, hb⟩ => ⟨he, hS.keep hb⟩) ?_
  go_simp
  refine plan_read (v := .agg (v3 ax ay az)) rfl rfl (fun u hS => exec_ldG hS rPoint _ rfl rfl (by repeat (first | exact List.mem_cons_self | apply List.mem_cons_of_mem)) rfl) ?_
  go_simp
  refine plan_read (v := .agg (v3 cx cy cz)) rfl rfl (fun u hS => exec_ldG hS rPoint _ rfl rfl (by repeat (first | exact List.mem_cons_self | apply List.mem_cons_of_mem)) rfl) ?_
  go_simp
  refine plan_call (v := (.int .i64 0)) (f := 31) (args := #[.agg (v3 ax ay az), .agg (v3 cx cy cz)]) rfl rfl (fun u hS => by go_simp) (fun u hS => (unhide h3 u).mono fun _ _ ⟨he, hb⟩ => ⟨he, hS.keep hb⟩) ?_
  go_simp
  refine plan_read (v := ?_) rfl rfl (fun u hS => by go_simp; rfl) ?_
  go_simp
  refine plan_read (v := ?_) rfl rfl (fun u hS => by go_simp; rfl) ?_
  go_simp
  refine plan_read (v := ?_) rfl rfl (fun u hS => by go_simp; rfl) ?_
  go_simp
  refine plan_end (fun u hS => ?_)
  have D := hide hS
  clear hS
  go_upto_region 5 with (first | (with_reducible refine at_list ?_; apply ldG (unhide D) rPoint _ rfl rfl rfl (by repeat (first | exact List.mem_cons_self | apply List.mem_cons_of_mem)) rfl) | (with_reducible refine at_list ?_; apply ldGw (unhide D) rPoint _ rfl rfl rfl (by repeat (first | exact List.mem_cons_self | apply List.mem_cons_of_mem)) rfl) | (go_at_call 31; with_reducible refine (unhide h4 _).mono ?_; rintro e w' ⟨he, hb⟩; subst he; have D := hide ((unhide D).keep hb); clear hb) | (with_reducible refine at_list ?_;  refine eqlPw _ _ _ hv rfl rfl rfl rfl ?_) | (go_at_call 29; with_reducible refine (unhide hL _).mono ?_; rintro e w' ⟨he, hb⟩; subst he; have D := hide ((unhide D).keep hb); clear hb) | (with_reducible refine at_list ?_; refine stG (unhide D) rPoint _ _ rfl rfl rfl rfl rfl rfl (v3_one' _ _ _) ?_; intro D'; have D := hide D'; clear D'))
  refine region_plan (S := Gen w _) (l := [0, 1, 2, 3, 4, 5, 6, 7, 8, 9, 10, 11, 12]) (by kernel_rfl) (by kernel_rfl) (by kernel_rfl) (by kernel_rfl) (by kernel_rfl) (by kernel_rfl) (by kernel_rfl) (unhide D).drew ?_
  clear D
  refine plan_read (v := ?_) rfl rfl (fun u hS => by go_simp; rfl) ?_
  go_simp
  refine plan_read (v := ?_) rfl rfl (fun u hS => by go_simp; rfl) ?_
  go_simp
  refine plan_read (v := ?_) rfl rfl (fun u hS => by go_simp; rfl) ?_
  go_simp
  refine plan_skip rfl rfl ?_
  go_simp
  refine plan_skip rfl rfl ?_
  go_simp
  refine plan_skip rfl rfl ?_
  go_simp
  refine plan_skip rfl rfl ?_
  go_simp
  refine plan_skip rfl rfl ?_
  go_simp
  refine plan_read (v := ?_) rfl rfl (fun u hS => by go_simp; rfl) ?_
  go_simp
  refine plan_read (v := ?_) rfl rfl (fun u hS => by go_simp; rfl) ?_
  go_simp
  refine plan_call (v := (.bool true)) (f := 28) (args := #[]) rfl rfl (fun u hS => by go_simp) (fun u hS => (unhide haw u).mono fun _ _ ⟨he, hb⟩ => ⟨he, hS.keep hb⟩) ?_
  go_simp
  refine plan_read (v := ?_) rfl rfl (fun u hS => by go_simp; rfl) ?_
  go_simp
  refine plan_read (v := ?_) rfl rfl (fun u hS => by go_simp; rfl) ?_
  go_simp
  refine plan_end (fun u hS => ?_)
  have O := hide hS.o
  clear hS
  go_wp2
  go_ret
  exact ⟨rfl, unhide O⟩
set_option maxHeartbeats 4000000 in
theorem order_0_m1_m1_0 (ax ay az bx b_y bz_ cx cy cz y z p q r : Int) (w : World) (h1 : Hid (Ans 31 #[.agg (v3 ax ay az), .agg (v3 bx b_y bz_)] (.int .i64 0))) (h2 : Hid (Ans 31 #[.agg (v3 bx b_y bz_), .agg (v3 cx cy cz)] (.int .i64 (-1)))) (h3 : Hid (Ans 31 #[.agg (v3 ax ay az), .agg (v3 cx cy cz)] (.int .i64 (-1)))) (h4 : Hid (Ans 31 #[.agg (v3 bx b_y bz_), .agg (v3 ax ay az)] (.int .i64 0))) (hv : sameV ax ay az bx b_y bz_ = true)
    (hL : Hid (Ans 29 #[.agg (v3 ax ay az), .agg (v3 bx b_y bz_)] (.tuple #[.agg (v3 p q r), .int .i64 0]))) (hs : Hid (Ans 52 #[.agg (v3 p q r), .agg (v3 bx b_y bz_)] (.agg (v3 ax ay az)))) (hv2 : sameV ax ay az ax ay az = true) (haw : Hid (Ans 28 #[] (.bool true))) :
    Calls Try.prog 13 #[.agg (v3 ax ay az), .agg (v3 bx b_y bz_), .agg (v3 cx cy cz)] w fun e w' => e = .returned (.bool true) ∧ Below w.heap.size w w' := by
  go_enter Try.func13, Try.ntmps13
  go_upto_region 1 with fail
  have D := hide ((((Gen.start w).push 26 (v3 ax ay az)).push 26 (v3 bx b_y bz_)).push 26 (v3 cx cy cz))
  simp only [szA] at D
  refine region_plan (S := Gen w _) (l := [0, 1, 2, 3, 4, 5, 6, 7, 8, 9, 10, 11]) (by kernel_rfl) (by kernel_rfl) (by kernel_rfl) (by kernel_rfl) (by kernel_rfl) (by kernel_rfl) (by kernel_rfl) (unhide D).drew ?_
  clear D
  refine plan_read (v := .agg (v3 ax ay az)) rfl rfl (fun u hS => exec_ldG hS rPoint _ rfl rfl (by repeat (first | exact List.mem_cons_self | apply List.mem_cons_of_mem)) rfl) ?_
  go_simp
  refine plan_read (v := .agg (v3 bx b_y bz_)) rfl rfl (fun u hS => exec_ldG hS rPoint _ rfl rfl (by repeat (first | exact List.mem_cons_self | apply List.mem_cons_of_mem)) rfl) ?_
  go_simp
  refine plan_call (v := (.int .i64 0)) (f := 31) (args := #[.agg (v3 ax ay az), .agg (v3 bx b_y bz_)]) rfl rfl (fun u hS => by go_simp) (fun u hS => (unhide h1 u).mono fun _ _ ⟨he, hb⟩ => ⟨he, hS.keep hb⟩) ?_
  go_simp
  refine plan_read (v := .agg (v3 bx b_y bz_)) rfl rfl (fun u hS => exec_ldG hS rPoint _ rfl rfl (by repeat (first | exact List.mem_cons_self | apply List.mem_cons_of_mem)) rfl) ?_
  go_simp
  refine plan_read (v := .agg (v3 cx cy cz)) rfl rfl (fun u hS => exec_ldG hS rPoint _ rfl rfl (by repeat (first | exact List.mem_cons_self | apply List.mem_cons_of_mem)) rfl) ?_
  go_simp
  refine plan_call (v := (.int .i64 (-1))) (f := 31) (args := #[.agg (v3 bx b_y bz_), .agg (v3 cx cy cz)]) rfl rfl (fun u hS => by go_simp) (fun u hS => (unhide h2 u).mono fun _ _ ⟨he, hb⟩ => ⟨he, hS.keep hb⟩) ?_
  go_simp
  refine plan_read (v := .agg (v3 ax ay az)) rfl rfl (fun u hS => exec_ldG hS rPoint _ rfl rfl (by repeat (first | exact List.mem_cons_self | apply List.mem_cons_of_mem)) rfl) ?_
  go_simp
  refine plan_read (v := .agg (v3 cx cy cz)) rfl rfl (fun u hS => exec_ldG hS rPoint _ rfl rfl (by repeat (first | exact List.mem_cons_self | apply List.mem_cons_of_mem)) rfl) ?_
  go_simp
  refine plan_call (v := (.int .i64 (-1))) (f := 31) (args := #[.agg (v3 ax ay az), .agg (v3 cx cy cz)]) rfl rfl (fun u hS => by go_simp) (fun u hS => (unhide h3 u).mono fun _ _ ⟨he, hb⟩ => ⟨he, hS.keep hb⟩) ?_
  go_simp
  refine plan_read (v := ?_) rfl rfl (fun u hS => by go_simp; rfl) ?_
  go_simp
  refine plan_read (v := ?_) rfl rfl (fun u hS => by go_simp; rfl) ?_
  go_simp
  refine plan_read (v := ?_) rfl rfl (fun u hS => by go_simp; rfl) ?_
  go_simp
  refine plan_end (fun u hS => ?_)
  have D := hide hS
  clear hS
  go_upto_region 5 with (first | (with_reducible refine at_list ?_; apply ldG (unhide D) rPoint _ rfl rfl rfl (by repeat (first | exact List.mem_cons_self | apply List.mem_cons_of_mem)) rfl) | (with_reducible refine at_list ?_; apply ldGw (unhide D) rPoint _ rfl rfl rfl (by repeat (first | exact List.mem_cons_self | apply List.mem_cons_of_mem)) rfl) | (go_at_call 31; with_reducible refine (unhide h4 _).mono ?_; rintro e w' ⟨he, hb⟩; subst he; have D := hide ((unhide D).keep hb); clear hb) | (with_reducible refine at_list ?_;  refine eqlPw _ _ _ hv rfl rfl rfl rfl ?_) | (go_at_call 29; with_reducible refine (unhide hL _).mono ?_; rintro e w' ⟨he, hb⟩; subst he; have D := hide ((unhide D).keep hb); clear hb) | (with_reducible refine at_list ?_; refine stG (unhide D) rPoint _ _ rfl rfl rfl rfl rfl rfl (v3_one' _ _ _) ?_; intro D'; have D := hide D'; clear D'))
  refine region_plan (S := Gen w _) (l := [0, 1, 2, 3, 4, 5, 6, 7, 8, 9, 10, 11, 12]) (by kernel_rfl) (by kernel_rfl) (by kernel_rfl) (by kernel_rfl) (by kernel_rfl) (by kernel_rfl) (by kernel_rfl) (unhide D).drew ?_
  clear D
  refine plan_read (v := ?_) rfl rfl (fun u hS => by go_simp; rfl) ?_
  go_simp
  refine plan_read (v := ?_) rfl rfl (fun u hS => by go_simp; rfl) ?_
  go_simp
  refine plan_read (v := ?_) rfl rfl (fun u hS => by go_simp; rfl) ?_
  go_simp
  refine plan_read (v := .agg (v3 p q r)) rfl rfl (fun u hS => exec_ldG hS rPoint _ rfl rfl (by repeat (first | exact List.mem_cons_self | apply List.mem_cons_of_mem)) rfl) ?_
  go_simp
  refine plan_read (v := .agg (v3 bx b_y bz_)) rfl rfl (fun u hS => exec_ldG hS rPoint _ rfl rfl (by repeat (first | exact List.mem_cons_self | apply List.mem_cons_of_mem)) rfl) ?_
  go_simp
  refine plan_call (v := (.agg (v3 ax ay az))) (f := 52) (args := #[.agg (v3 p q r), .agg (v3 bx b_y bz_)]) rfl rfl (fun u hS => by go_simp) (fun u hS => (unhide hs u).mono fun _ _ ⟨he, hb⟩ => ⟨he, hS.keep hb⟩) ?_
  go_simp
  refine plan_read (v := .agg (v3 ax ay az)) rfl rfl (fun u hS => exec_ldG hS rPoint _ rfl rfl (by repeat (first | exact List.mem_cons_self | apply List.mem_cons_of_mem)) rfl) ?_
  go_simp
  refine plan_read (v := .bool true) rfl rfl (fun u hS => exec_eql_pt u _ _ hv2 rfl rfl rfl) ?_
  go_simp
  refine plan_read (v := ?_) rfl rfl (fun u hS => by go_simp; rfl) ?_
  go_simp
  refine plan_read (v := ?_) rfl rfl (fun u hS => by go_simp; rfl) ?_
  go_simp
  refine plan_call (v := (.bool true)) (f := 28) (args := #[]) rfl rfl (fun u hS => by go_simp) (fun u hS => (unhide haw u).mono fun _ _ ⟨he, hb⟩ => ⟨he, hS.keep hb⟩) ?_
  go_simp
  refine plan_read (v := ?_) rfl rfl (fun u hS => by go_simp; rfl) ?_
  go_simp
  refine plan_read (v := ?_) rfl rfl (fun u hS => by go_simp; rfl) ?_
  go_simp
  refine plan_end (fun u hS => ?_)
  have O := hide hS.o
  clear hS
  go_wp2
  go_ret
  exact ⟨rfl, unhide O⟩
set_option maxHeartbeats 4000000 in
theorem order_0_m1_m1_7 (ax ay az bx b_y bz_ cx cy cz y z p q r : Int) (w : World) (h1 : Hid (Ans 31 #[.agg (v3 ax ay az), .agg (v3 bx b_y bz_)] (.int .i64 0))) (h2 : Hid (Ans 31 #[.agg (v3 bx b_y bz_), .agg (v3 cx cy cz)] (.int .i64 (-1)))) (h3 : Hid (Ans 31 #[.agg (v3 ax ay az), .agg (v3 cx cy cz)] (.int .i64 (-1)))) (h4 : Hid (Ans 31 #[.agg (v3 bx b_y bz_), .agg (v3 ax ay az)] (.int .i64 0))) (hv : sameV ax ay az bx b_y bz_ = true)
    (hL : Hid (Ans 29 #[.agg (v3 ax ay az), .agg (v3 bx b_y bz_)] (.tuple #[.agg (v3 p q r), .int .i64 7]))) (hv2 : sameV ax ay az ax ay az = true) (haw : Hid (Ans 28 #[] (.bool true))) :
    Calls Try.prog 13 #[.agg (v3 ax ay az), .agg (v3 bx b_y bz_), .agg (v3 cx cy cz)] w fun e w' => e = .returned (.bool true) ∧ Below w.heap.size w w' := by
  go_enter Try.func13, Try.ntmps13
  go_upto_region 1 with fail
  have D := hide ((((Gen.start w).push 26 (v3 ax ay az)).push 26 (v3 bx b_y bz_)).push 26 (v3 cx cy cz))
  simp only [szA] at D
  refine region_plan (S := Gen w _) (l := [0, 1, 2, 3, 4, 5, 6, 7, 8, 9, 10, 11]) (by kernel_rfl) (by kernel_rfl) (by kernel_rfl) (by kernel_rfl) (by kernel_rfl) (by kernel_rfl) (by kernel_rfl) (unhide D).drew ?_
  clear D
  refine plan_read (v := .agg (v3 ax ay az)) rfl rfl (fun u hS => exec_ldG hS rPoint _ rfl rfl (by repeat (first | exact List.mem_cons_self | apply List.mem_cons_of_mem)) rfl) ?_
  go_simp
  refine plan_read (v := .agg (v3 bx b_y bz_)) rfl rfl (fun u hS => exec_ldG hS rPoint _ rfl rfl (by repeat (first | exact List.mem_cons_self | apply List.mem_cons_of_mem)) rfl) ?_
  go_simp
  refine plan_call (v := (.int .i64 0)) (f := 31) (args := #[.agg (v3 ax ay az), .agg (v3 bx b_y bz_)]) rfl rfl (fun u hS => by go_simp) (fun u hS => (unhide h1 u).mono fun _ _ ⟨he, hb⟩ => ⟨he, hS.keep hb⟩) ?_
  go_simp
  refine plan_read (v := .agg (v3 bx b_y bz_)) rfl rfl (fun u hS => exec_ldG hS rPoint _ rfl rfl (by repeat (first | exact List.mem_cons_self | apply List.mem_cons_of_mem)) rfl) ?_
  go_simp
  refine plan_read (v := .agg (v3 cx cy cz)) rfl rfl (fun u hS => exec_ldG hS rPoint _ rfl rfl (by repeat (first | exact List.mem_cons_self | apply List.mem_cons_of_mem)) rfl) ?_
  go_simp
  refine plan_call (v := (.int .i64 (-1))) (f := 31) (args := #[.agg (v3 bx b_y bz_), .agg (v3 cx cy cz)]) rfl rfl (fun u hS => by go_simp) (fun u hS => (unhide h2 u).mono fun _ _ ⟨he, hb⟩ => ⟨he, hS.keep hb⟩) ?_
  go_simp
  refine plan_read (v := .agg (v3 ax ay az)) rfl rfl (fun u hS => exec_ldG hS rPoint _ rfl rfl (by repeat (first | exact List.mem_cons_self | apply List.mem_cons_of_mem)) rfl) ?_
  go_simp
  refine plan_read (v := .agg (v3 cx cy cz)) rfl rfl (fun u hS => exec_ldG hS rPoint _ rfl rfl (by repeat (first | exact List.mem_cons_self | apply List.mem_cons_of_mem)) rfl) ?_
  go_simp
  refine plan_call (v := (.int .i64 (-1))) (f := 31) (args := #[.agg (v3 ax ay az), .agg (v3 cx cy cz)]) rfl rfl (fun u hS => by go_simp) (fun u hS => (unhide h3 u).mono fun _ _ ⟨he, hb⟩ => ⟨he, hS.keep hb⟩) ?_
  go_simp
  refine plan_read (v := ?_) rfl rfl (fun u hS => by go_simp; rfl) ?_
  go_simp
  refine plan_read (v := ?_) rfl rfl (fun u hS => by go_simp; rfl) ?_
  go_simp
  refine plan_read (v := ?_) rfl rfl (fun u hS => by go_simp; rfl) ?_
  go_simp
  refine plan_end (fun u hS => ?_)
  have D := hide hS
  clear hS
  go_upto_region 5 with (first | (with_reducible refine at_list ?_; apply ldG (unhide D) rPoint _ rfl rfl rfl (by repeat (first | exact List.mem_cons_self | apply List.mem_cons_of_mem)) rfl) | (with_reducible refine at_list ?_; apply ldGw (unhide D) rPoint _ rfl rfl rfl (by repeat (first | exact List.mem_cons_self | apply List.mem_cons_of_mem)) rfl) | (go_at_call 31; with_reducible refine (unhide h4 _).mono ?_; rintro e w' ⟨he, hb⟩; subst he; have D := hide ((unhide D).keep hb); clear hb) | (with_reducible refine at_list ?_;  refine eqlPw _ _ _ hv rfl rfl rfl rfl ?_) | (go_at_call 29; with_reducible refine (unhide hL _).mono ?_; rintro e w' ⟨he, hb⟩; subst he; have D := hide ((unhide D).keep hb); clear hb) | (with_reducible refine at_list ?_; refine stG (unhide D) rPoint _ _ rfl rfl rfl rfl rfl rfl (v3_one' _ _ _) ?_; intro D'; have D := hide D'; clear D'))
  refine region_plan (S := Gen w _) (l := [0, 1, 2, 3, 4, 5, 6, 7, 8, 9, 10, 11, 12]) (by kernel_rfl) (by kernel_rfl) (by kernel_rfl) (by kernel_rfl) (by kernel_rfl) (by kernel_rfl) (by kernel_rfl) (unhide D).drew ?_
  clear D
  refine plan_read (v := ?_) rfl rfl (fun u hS => by go_simp; rfl) ?_
  go_simp
  refine plan_read (v := ?_) rfl rfl (fun u hS => by go_simp; rfl) ?_
  go_simp
  refine plan_read (v := ?_) rfl rfl (fun u hS => by go_simp; rfl) ?_
  go_simp
  refine plan_skip rfl rfl ?_
  go_simp
  refine plan_skip rfl rfl ?_
  go_simp
  refine plan_skip rfl rfl ?_
  go_simp
  refine plan_skip rfl rfl ?_
  go_simp
  refine plan_skip rfl rfl ?_
  go_simp
  refine plan_read (v := ?_) rfl rfl (fun u hS => by go_simp; rfl) ?_
  go_simp
  refine plan_read (v := ?_) rfl rfl (fun u hS => by go_simp; rfl) ?_
  go_simp
  refine plan_call (v := (.bool true)) (f := 28) (args := #[]) rfl rfl (fun u hS => by go_simp) (fun u hS => (unhide haw u).mono fun _ _ ⟨he, hb⟩ => ⟨he, hS.keep hb⟩) ?_
  go_simp
  refine plan_read (v := ?_) rfl rfl (fun u hS => by go_simp; rfl) ?_
  go_simp
  refine plan_read (v := ?_) rfl rfl (fun u hS => by go_simp; rfl) ?_
  go_simp
  refine plan_end (fun u hS => ?_)
  have O := hide hS.o
  clear hS
  go_wp2
  go_ret
  exact ⟨rfl, unhide O⟩
set_option maxHeartbeats 4000000 in
theorem order_m1_1_s_0 (ax ay az bx b_y bz_ cx cy cz y z p q r : Int) (w : World) (h1 : Hid (Ans 31 #[.agg (v3 ax ay az), .agg (v3 bx b_y bz_)] (.int .i64 (-1)))) (h2 : Hid (Ans 31 #[.agg (v3 bx b_y bz_), .agg (v3 cx cy cz)] (.int .i64 1))) (h3 : Hid (Ans 31 #[.agg (v3 ax ay az), .agg (v3 cx cy cz)] (.int .i64 z))) (h4 : Hid (Ans 31 #[.agg (v3 bx b_y bz_), .agg (v3 ax ay az)] (.int .i64 1))) (hv : sameV ax ay az bx b_y bz_ = false)
    (hL : Hid (Ans 29 #[.agg (v3 ax ay az), .agg (v3 bx b_y bz_)] (.tuple #[.agg (v3 p q r), .int .i64 0]))) (hs : Hid (Ans 52 #[.agg (v3 p q r), .agg (v3 bx b_y bz_)] (.agg (v3 ax ay az)))) (hv2 : sameV ax ay az ax ay az = true) (haw : Hid (Ans 28 #[] (.bool true))) :
    Calls Try.prog 13 #[.agg (v3 ax ay az), .agg (v3 bx b_y bz_), .agg (v3 cx cy cz)] w fun e w' => e = .returned (.bool true) ∧ Below w.heap.size w w' := by
  go_enter Try.func13, Try.ntmps13
  go_upto_region 1 with fail
  have D := hide ((((Gen.start w).push 26 (v3 ax ay az)).push 26 (v3 bx b_y bz_)).push 26 (v3 cx cy cz))
  simp only [szA] at D
  refine region_plan (S := Gen w _) (l := [0, 1, 2, 3, 4, 5, 6, 7, 8, 9, 10, 11]) (by kernel_rfl) (by kernel_rfl) (by kernel_rfl) (by kernel_rfl) (by kernel_rfl) (by kernel_rfl) (by kernel_rfl) (unhide D).drew ?_
  clear D
  refine plan_read (v := .agg (v3 ax ay az)) rfl rfl (fun u hS => exec_ldG hS rPoint _ rfl rfl (by repeat (first | exact List.mem_cons_self | apply List.mem_cons_of_mem)) rfl) ?_
  go_simp
  refine plan_read (v := .agg (v3 bx b_y bz_)) rfl rfl (fun u hS => exec_ldG hS rPoint _ rfl rfl (by repeat (first | exact List.mem_cons_self | apply List.mem_cons_of_mem)) rfl) ?_
  go_simp
  refine plan_call (v := (.int .i64 (-1))) (f := 31) (args := #[.agg (v3 ax ay az), .agg (v3 bx b_y bz_)]) rfl rfl (fun u hS => by go_simp) (fun u hS => (unhide h1 u).mono fun _ _ ⟨he, hb⟩ => ⟨he, hS.keep hb⟩) ?_
  go_simp
  refine plan_read (v := .agg (v3 bx b_y bz_)) rfl rfl (fun u hS => exec_ldG hS rPoint _ rfl rfl (by repeat (first | exact List.mem_cons_self | apply List.mem_cons_of_mem)) rfl) ?_
  go_simp
  refine plan_read (v := .agg (v3 cx cy cz)) rfl rfl (fun u hS => exec_ldG hS rPoint _ rfl rfl (by repeat (first | exact List.mem_cons_self | apply List.mem_cons_of_mem)) rfl) ?_
  go_simp
  refine plan_call (v := (.int .i64 1)) (f := 31) (args := #[.agg (v3 bx b_y bz_), .agg (v3 cx cy cz)]) rfl rfl (fun u hS => by go_simp) (fun u hS => (unhide h2 u).mono fun _ _ ⟨he, hb⟩ => ⟨he, hS.keep hb⟩) ?_
  go_simp
  refine plan_read (v := .agg (v3 ax ay az)) rfl rfl (fun u hS => exec_ldG hS rPoint _ rfl rfl (by repeat (first | exact List.mem_cons_self | apply List.mem_cons_of_mem)) rfl) ?_
  go_simp
  refine plan_read (v := .agg (v3 cx cy cz)) rfl rfl (fun u hS => exec_ldG hS rPoint _ rfl rfl (by repeat (first | exact List.mem_cons_self | apply List.mem_cons_of_mem)) rfl) ?_
  go_simp
  refine plan_call (v := (.int .i64 z)) (f := 31) (args := #[.agg (v3 ax ay az), .agg (v3 cx cy cz)]) rfl rfl (fun u hS => by go_simp) (fun u hS => (unhide h3 u).mono fun _ _ ⟨he, hb⟩ => ⟨he, hS.keep hb⟩) ?_
  go_simp
  refine plan_read (v := ?_) rfl rfl (fun u hS => by go_simp; rfl) ?_
  go_simp
  refine plan_read (v := ?_) rfl rfl (fun u hS => by go_simp; rfl) ?_
  go_simp
  refine plan_read (v := ?_) rfl rfl (fun u hS => by go_simp; rfl) ?_
  go_simp
  refine plan_end (fun u hS => ?_)
  have D := hide hS
  clear hS
  go_upto_region 5 with (first | (with_reducible refine at_list ?_; apply ldG (unhide D) rPoint _ rfl rfl rfl (by repeat (first | exact List.mem_cons_self | apply List.mem_cons_of_mem)) rfl) | (with_reducible refine at_list ?_; apply ldGw (unhide D) rPoint _ rfl rfl rfl (by repeat (first | exact List.mem_cons_self | apply List.mem_cons_of_mem)) rfl) | (go_at_call 31; with_reducible refine (unhide h4 _).mono ?_; rintro e w' ⟨he, hb⟩; subst he; have D := hide ((unhide D).keep hb); clear hb) | (with_reducible refine at_list ?_;  refine eqlPw _ _ _ hv rfl rfl rfl rfl ?_) | (go_at_call 29; with_reducible refine (unhide hL _).mono ?_; rintro e w' ⟨he, hb⟩; subst he; have D := hide ((unhide D).keep hb); clear hb) | (with_reducible refine at_list ?_; refine stG (unhide D) rPoint _ _ rfl rfl rfl rfl rfl rfl (v3_one' _ _ _) ?_; intro D'; have D := hide D'; clear D'))
  refine region_plan (S := Gen w _) (l := [0, 1, 2, 3, 4, 5, 6, 7, 8, 9, 10, 11, 12]) (by kernel_rfl) (by kernel_rfl) (by kernel_rfl) (by kernel_rfl) (by kernel_rfl) (by kernel_rfl) (by kernel_rfl) (unhide D).drew ?_
  clear D
  refine plan_read (v := ?_) rfl rfl (fun u hS => by go_simp; rfl) ?_
  go_simp
  refine plan_read (v := ?_) rfl rfl (fun u hS => by go_simp; rfl) ?_
  go_simp
  refine plan_read (v := ?_) rfl rfl (fun u hS => by go_simp; rfl) ?_
  go_simp
  refine plan_read (v := .agg (v3 p q r)) rfl rfl (fun u hS => exec_ldG hS rPoint _ rfl rfl (by repeat (first | exact List.mem_cons_self | apply List.mem_cons_of_mem)) rfl) ?_
  go_simp
  refine plan_read (v := .agg (v3 bx b_y bz_)) rfl rfl (fun u hS => exec_ldG hS rPoint _ rfl rfl (by repeat (first | exact List.mem_cons_self | apply List.mem_cons_of_mem)) rfl) ?_
  go_simp
  refine plan_call (v := (.agg (v3 ax ay az))) (f := 52) (args := #[.agg (v3 p q r), .agg (v3 bx b_y bz_)]) rfl rfl (fun u hS => by go_simp) (fun u hS => (unhide hs u).mono fun _ _ ⟨he, hb⟩ => ⟨he, hS.keep hb⟩) ?_
  go_simp
  refine plan_read (v := .agg (v3 ax ay az)) rfl rfl (fun u hS => exec_ldG hS rPoint _ rfl rfl (by repeat (first | exact List.mem_cons_self | apply List.mem_cons_of_mem)) rfl) ?_
  go_simp
  refine plan_read (v := .bool true) rfl rfl (fun u hS => exec_eql_pt u _ _ hv2 rfl rfl rfl) ?_
  go_simp
  refine plan_read (v := ?_) rfl rfl (fun u hS => by go_simp; rfl) ?_
  go_simp
  refine plan_read (v := ?_) rfl rfl (fun u hS => by go_simp; rfl) ?_
  go_simp
  refine plan_call (v := (.bool true)) (f := 28) (args := #[]) rfl rfl (fun u hS => by go_simp) (fun u hS => (unhide haw u).mono fun _ _ ⟨he, hb⟩ => ⟨he, hS.keep hb⟩) ?_
  go_simp
  refine plan_read (v := ?_) rfl rfl (fun u hS => by go_simp; rfl) ?_
  go_simp
  refine plan_read (v := ?_) rfl rfl (fun u hS => by go_simp; rfl) ?_
  go_simp
  refine plan_end (fun u hS => ?_)
  have O := hide hS.o
  clear hS
  go_wp2
  go_ret
  exact ⟨rfl, unhide O⟩
set_option maxHeartbeats 4000000 in
theorem order_m1_1_s_7 (ax ay az bx b_y bz_ cx cy cz y z p q r : Int) (w : World) (h1 : Hid (Ans 31 #[.agg (v3 ax ay az), .agg (v3 bx b_y bz_)] (.int .i64 (-1)))) (h2 : Hid (Ans 31 #[.agg (v3 bx b_y bz_), .agg (v3 cx cy cz)] (.int .i64 1))) (h3 : Hid (Ans 31 #[.agg (v3 ax ay az), .agg (v3 cx cy cz)] (.int .i64 z))) (h4 : Hid (Ans 31 #[.agg (v3 bx b_y bz_), .agg (v3 ax ay az)] (.int .i64 1))) (hv : sameV ax ay az bx b_y bz_ = false)
    (hL : Hid (Ans 29 #[.agg (v3 ax ay az), .agg (v3 bx b_y bz_)] (.tuple #[.agg (v3 p q r), .int .i64 7]))) (hv2 : sameV ax ay az ax ay az = true) (haw : Hid (Ans 28 #[] (.bool true))) :
    Calls Try.prog 13 #[.agg (v3 ax ay az), .agg (v3 bx b_y bz_), .agg (v3 cx cy cz)] w fun e w' => e = .returned (.bool true) ∧ Below w.heap.size w w' := by
  go_enter Try.func13, Try.ntmps13
  go_upto_region 1 with fail
  have D := hide ((((Gen.start w).push 26 (v3 ax ay az)).push 26 (v3 bx b_y bz_)).push 26 (v3 cx cy cz))
  simp only [szA] at D
  refine region_plan (S := Gen w _) (l := [0, 1, 2, 3, 4, 5, 6, 7, 8, 9, 10, 11]) (by kernel_rfl) (by kernel_rfl) (by kernel_rfl) (by kernel_rfl) (by kernel_rfl) (by kernel_rfl) (by kernel_rfl) (unhide D).drew ?_
  clear D
  refine plan_read (v := .agg (v3 ax ay az)) rfl rfl (fun u hS => exec_ldG hS rPoint _ rfl rfl (by repeat (first | exact List.mem_cons_self | apply List.mem_cons_of_mem)) rfl) ?_
  go_simp
  refine plan_read (v := .agg (v3 bx b_y bz_)) rfl rfl (fun u hS => exec_ldG hS rPoint _ rfl rfl (by repeat (first | exact List.mem_cons_self | apply List.mem_cons_of_mem)) rfl) ?_
  go_simp
  refine plan_call (v := (.int .i64 (-1))) (f := 31) (args := #[.agg (v3 ax ay az), .agg (v3 bx b_y bz_)]) rfl rfl (fun u hS => by go_simp) (fun u hS => (unhide h1 u).mono fun _ _ ⟨he, hb⟩ => ⟨he, hS.keep hb⟩) ?_
  go_simp
  refine plan_read (v := .agg (v3 bx b_y bz_)) rfl rfl (fun u hS => exec_ldG hS rPoint _ rfl rfl (by repeat (first | exact List.mem_cons_self | apply List.mem_cons_of_mem)) rfl) ?_
  go_simp
  refine plan_read (v := .agg (v3 cx cy cz)) rfl rfl (fun u hS => exec_ldG hS rPoint _ rfl rfl (by repeat (first | exact List.mem_cons_self | apply List.mem_cons_of_mem)) rfl) ?_
  go_simp
  refine plan_call (v := (.int .i64 1)) (f := 31) (args := #[.agg (v3 bx b_y bz_), .agg (v3 cx cy cz)]) rfl rfl (fun u hS => by go_simp) (fun u hS => (unhide h2 u).mono fun _ _ ⟨he, hb⟩ => ⟨he, hS.keep hb⟩) ?_
  go_simp
  refine plan_read (v := .agg (v3 ax ay az)) rfl rfl (fun u hS => exec_ldG hS rPoint _ rfl rfl (by repeat (first | exact List.mem_cons_self | apply List.mem_cons_of_mem)) rfl) ?_
  go_simp
  refine plan_read (v := .agg (v3 cx cy cz)) rfl rfl (fun u hS => exec_ldG hS rPoint _ rfl rfl (by repeat (first | exact List.mem_cons_self | apply List.mem_cons_of_mem)) rfl) ?_
  go_simp
  refine plan_call (v := (.int .i64 z)) (f := 31) (args := #[.agg (v3 ax ay az), .agg (v3 cx cy cz)]) rfl rfl (fun u hS => by go_simp) (fun u hS => (unhide h3 u).mono fun _ _ ⟨he, hb⟩ => ⟨he, hS.keep hb⟩) ?_
  go_simp
  refine plan_read (v := ?_) rfl rfl (fun u hS => by go_simp; rfl) ?_
  go_simp
  refine plan_read (v := ?_) rfl rfl (fun u hS => by go_simp; rfl) ?_
  go_simp
  refine plan_read (v := ?_) rfl rfl (fun u hS => by go_simp; rfl) ?_
  go_simp
  refine plan_end (fun u hS => ?_)
  have D := hide hS
  clear hS
  go_upto_region 5 with (first | (with_reducible refine at_list ?_; apply ldG (unhide D) rPoint _ rfl rfl rfl (by repeat (first | exact List.mem_cons_self | apply List.mem_cons_of_mem)) rfl) | (with_reducible refine at_list ?_; apply ldGw (unhide D) rPoint _ rfl rfl rfl (by repeat (first | exact List.mem_cons_self | apply List.mem_cons_of_mem)) rfl) | (go_at_call 31; with_reducible refine (unhide h4 _).mono ?_; rintro e w' ⟨he, hb⟩; subst he; have D := hide ((unhide D).keep hb); clear hb) | (with_reducible refine at_list ?_;  refine eqlPw _ _ _ hv rfl rfl rfl rfl ?_) | (go_at_call 29; with_reducible refine (unhide hL _).mono ?_; rintro e w' ⟨he, hb⟩; subst he; have D := hide ((unhide D).keep hb); clear hb) | (with_reducible refine at_list ?_; refine stG (unhide D) rPoint _ _ rfl rfl rfl rfl rfl rfl (v3_one' _ _ _) ?_; intro D'; have D := hide D'; clear D'))
  refine region_plan (S := Gen w _) (l := [0, 1, 2, 3, 4, 5, 6, 7, 8, 9, 10, 11, 12]) (by kernel_rfl) (by kernel_rfl) (by kernel_rfl) (by kernel_rfl) (by kernel_rfl) (by kernel_rfl) (by kernel_rfl) (unhide D).drew ?_
  clear D
  refine plan_read (v := ?_) rfl rfl (fun u hS => by go_simp; rfl) ?_
  go_simp
  refine plan_read (v := ?_) rfl rfl (fun u hS => by go_simp; rfl) ?_
  go_simp
  refine plan_read (v := ?_) rfl rfl (fun u hS => by go_simp; rfl) ?_
  go_simp
  refine plan_skip rfl rfl ?_
  go_simp
  refine plan_skip rfl rfl ?_
  go_simp
  refine plan_skip rfl rfl ?_
  go_simp
  refine plan_skip rfl rfl ?_
  go_simp
  refine plan_skip rfl rfl ?_
  go_simp
  refine plan_read (v := ?_) rfl rfl (fun u hS => by go_simp; rfl) ?_
  go_simp
  refine plan_read (v := ?_) rfl rfl (fun u hS => by go_simp; rfl) ?_
  go_simp
  refine plan_call (v := (.bool true)) (f := 28) (args := #[]) rfl rfl (fun u hS => by go_simp) (fun u hS => (unhide haw u).mono fun _ _ ⟨he, hb⟩ => ⟨he, hS.keep hb⟩) ?_
  go_simp
  refine plan_read (v := ?_) rfl rfl (fun u hS => by go_simp; rfl) ?_
  go_simp
  refine plan_read (v := ?_) rfl rfl (fun u hS => by go_simp; rfl) ?_
  go_simp
  refine plan_end (fun u hS => ?_)
  have O := hide hS.o
  clear hS
  go_wp2
  go_ret
  exact ⟨rfl, unhide O⟩
set_option maxHeartbeats 4000000 in
theorem order_m1_0_m1_0 (ax ay az bx b_y bz_ cx cy cz y z p q r : Int) (w : World) (h1 : Hid (Ans 31 #[.agg (v3 ax ay az), .agg (v3 bx b_y bz_)] (.int .i64 (-1)))) (h2 : Hid (Ans 31 #[.agg (v3 bx b_y bz_), .agg (v3 cx cy cz)] (.int .i64 0))) (h3 : Hid (Ans 31 #[.agg (v3 ax ay az), .agg (v3 cx cy cz)] (.int .i64 (-1)))) (h4 : Hid (Ans 31 #[.agg (v3 bx b_y bz_), .agg (v3 ax ay az)] (.int .i64 1))) (hv : sameV ax ay az bx b_y bz_ = false)
    (hL : Hid (Ans 29 #[.agg (v3 ax ay az), .agg (v3 bx b_y bz_)] (.tuple #[.agg (v3 p q r), .int .i64 0]))) (hs : Hid (Ans 52 #[.agg (v3 p q r), .agg (v3 bx b_y bz_)] (.agg (v3 ax ay az)))) (hv2 : sameV ax ay az ax ay az = true) (haw : Hid (Ans 28 #[] (.bool true))) :
    Calls Try.prog 13 #[.agg (v3 ax ay az), .agg (v3 bx b_y bz_), .agg (v3 cx cy cz)] w fun e w' => e = .returned (.bool true) ∧ Below w.heap.size w w' := by
  go_enter Try.func13, Try.ntmps13
  go_upto_region 1 with fail
  have D := hide ((((Gen.start w).push 26 (v3 ax ay az)).push 26 (v3 bx b_y bz_)).push 26 (v3 cx cy cz))
  simp only [szA] at D
  refine region_plan (S := Gen w _) (l := [0, 1, 2, 3, 4, 5, 6, 7, 8, 9, 10, 11]) (by kernel_rfl) (by kernel_rfl) (by kernel_rfl) (by kernel_rfl) (by kernel_rfl) (by kernel_rfl) (by kernel_rfl) (unhide D).drew ?_
  clear D
  refine plan_read (v := .agg (v3 ax ay az)) rfl rfl (fun u hS => exec_ldG hS rPoint _ rfl rfl (by repeat (first | exact List.mem_cons_self | apply List.mem_cons_of_mem)) rfl) ?_
  go_simp
  refine plan_read (v := .agg (v3 bx b_y bz_)) rfl rfl (fun u hS => exec_ldG hS rPoint _ rfl rfl (by repeat (first | exact List.mem_cons_self | apply List.mem_cons_of_mem)) rfl) ?_
  go_simp
  refine plan_call (v := (.int .i64 (-1))) (f := 31) (args := #[.agg (v3 ax ay az), .agg (v3 bx b_y bz_)]) rfl rfl (fun u hS => by go_simp) (fun u hS => (unhide h1 u).mono fun _ _ ⟨he, hb⟩ => ⟨he, hS.keep hb⟩) ?_
  go_simp
  refine plan_read (v := .agg (v3 bx b_y bz_)) rfl rfl (fun u hS => exec_ldG hS rPoint _ rfl rfl (by repeat (first | exact List.mem_cons_self | apply List.mem_cons_of_mem)) rfl) ?_
  go_simp
  refine plan_read (v := .agg (v3 cx cy cz)) rfl rfl (fun u hS => exec_ldG hS rPoint _ rfl rfl (by repeat (first | exact List.mem_cons_self | apply List.mem_cons_of_mem)) rfl) ?_
  go_simp
  refine plan_call (v := (.int .i64 0)) (f := 31) (args := #[.agg (v3 bx b_y bz_), .agg (v3 cx cy cz)]) rfl rfl (fun u hS => by go_simp) (fun u hS => (unhide h2 u).mono fun _ _ ⟨he, hb⟩ => ⟨he, hS.keep hb⟩) ?_
  go_simp
  refine plan_read (v := .agg (v3 ax ay az)) rfl rfl (fun u hS => exec_ldG hS rPoint _ rfl rfl (by repeat (first | exact List.mem_cons_self | apply List.mem_cons_of_mem)) rfl) ?_
  go_simp
  refine plan_read (v := .agg (v3 cx cy cz)) rfl rfl (fun u hS => exec_ldG hS rPoint _ rfl rfl (by repeat (first | exact List.mem_cons_self | apply List.mem_cons_of_mem)) rfl) ?_
  go_simp
  refine plan_call (v := (.int .i64 (-1))) (f := 31) (args := #[.agg (v3 ax ay az), .agg (v3 cx cy cz)]) rfl rfl (fun u hS => by go_simp) (fun u hS => (unhide h3 u).mono fun _ _ ⟨he, hb⟩ => ⟨he, hS.keep hb⟩) ?_
  go_simp
  refine plan_read (v := ?_) rfl rfl (fun u hS => by go_simp; rfl) ?_
  go_simp
  refine plan_read (v := ?_) rfl rfl (fun u hS => by go_simp; rfl) ?_
  go_simp
  refine plan_read (v := ?_) rfl rfl (fun u hS => by go_simp; rfl) ?_
  go_simp
  refine plan_end (fun u hS => ?_)
  have D := hide hS
  clear hS
  go_upto_region 5 with (first | (with_reducible refine at_list ?_; apply ldG (unhide D) rPoint _ rfl rfl rfl (by repeat (first | exact List.mem_cons_self | apply List.mem_cons_of_mem)) rfl) | (with_reducible refine at_list ?_; apply ldGw (unhide D) rPoint _ rfl rfl rfl (by repeat (first | exact List.mem_cons_self | apply List.mem_cons_of_mem)) rfl) | (go_at_call 31; with_reducible refine (unhide h4 _).mono ?_; rintro e w' ⟨he, hb⟩; subst he; have D := hide ((unhide D).keep hb); clear hb) | (with_reducible refine at_list ?_;  refine eqlPw _ _ _ hv rfl rfl rfl rfl ?_) | (go_at_call 29; with_reducible refine (unhide hL _).mono ?_; rintro e w' ⟨he, hb⟩; subst he; have D := hide ((unhide D).keep hb); clear hb) | (with_reducible refine at_list ?_; refine stG (unhide D) rPoint _ _ rfl rfl rfl rfl rfl rfl (v3_one' _ _ _) ?_; intro D'; have D := hide D'; clear D'))
  refine region_plan (S := Gen w _) (l := [0, 1, 2, 3, 4, 5, 6, 7, 8, 9, 10, 11, 12]) (by kernel_rfl) (by kernel_rfl) (by kernel_rfl) (by kernel_rfl) (by kernel_rfl) (by kernel_rfl) (by kernel_rfl) (unhide D).drew ?_
  clear D
  refine plan_read (v := ?_) rfl rfl (fun u hS => by go_simp; rfl) ?_
  go_simp
  refine plan_read (v := ?_) rfl rfl (fun u hS => by go_simp; rfl) ?_
  go_simp
  refine plan_read (v := ?_) rfl rfl (fun u hS => by go_simp; rfl) ?_
  go_simp
  refine plan_read (v := .agg (v3 p q r)) rfl rfl (fun u hS => exec_ldG hS rPoint _ rfl rfl (by repeat (first | exact List.mem_cons_self | apply List.mem_cons_of_mem)) rfl) ?_
  go_simp
  refine plan_read (v := .agg (v3 bx b_y bz_)) rfl rfl (fun u hS => exec_ldG hS rPoint _ rfl rfl (by repeat (first | exact List.mem_cons_self | apply List.mem_cons_of_mem)) rfl) ?_
  go_simp
  refine plan_call (v := (.agg (v3 ax ay az))) (f := 52) (args := #[.agg (v3 p q r), .agg (v3 bx b_y bz_)]) rfl rfl (fun u hS => by go_simp) (fun u hS => (unhide hs u).mono fun _ _ ⟨he, hb⟩ => ⟨he, hS.keep hb⟩) ?_
  go_simp
  refine plan_read (v := .agg (v3 ax ay az)) rfl rfl (fun u hS => exec_ldG hS rPoint _ rfl rfl (by repeat (first | exact List.mem_cons_self | apply List.mem_cons_of_mem)) rfl) ?_
  go_simp
  refine plan_read (v := .bool true) rfl rfl (fun u hS => exec_eql_pt u _ _ hv2 rfl rfl rfl) ?_
  go_simp
  refine plan_read (v := ?_) rfl rfl (fun u hS => by go_simp; rfl) ?_
  go_simp
  refine plan_read (v := ?_) rfl rfl (fun u hS => by go_simp; rfl) ?_
  go_simp
  refine plan_call (v := (.bool true)) (f := 28) (args := #[]) rfl rfl (fun u hS => by go_simp) (fun u hS => (unhide haw u).mono fun _ _ ⟨he, hb⟩ => ⟨he, hS.keep hb⟩) ?_
  go_simp
  refine plan_read (v := ?_) rfl rfl (fun u hS => by go_simp; rfl) ?_
  go_simp
  refine plan_read (v := ?_) rfl rfl (fun u hS => by go_simp; rfl) ?_
  go_simp
  refine plan_end (fun u hS => ?_)
  have O := hide hS.o
  clear hS
  go_wp2
  go_ret
  exact ⟨rfl, unhide O⟩
set_option maxHeartbeats 4000000 in
theorem order_m1_0_m1_7 (ax ay az bx b_y bz_ cx cy cz y z p q r : Int) (w : World) (h1 : Hid (Ans 31 #[.agg (v3 ax ay az), .agg (v3 bx b_y bz_)] (.int .i64 (-1)))) (h2 : Hid (Ans 31 #[.agg (v3 bx b_y bz_), .agg (v3 cx cy cz)] (.int .i64 0))) (h3 : Hid (Ans 31 #[.agg (v3 ax ay az), .agg (v3 cx cy cz)] (.int .i64 (-1)))) (h4 : Hid (Ans 31 #[.agg (v3 bx b_y bz_), .agg (v3 ax ay az)] (.int .i64 1))) (hv : sameV ax ay az bx b_y bz_ = false)
    (hL : Hid (Ans 29 #[.agg (v3 ax ay az), .agg (v3 bx b_y bz_)] (.tuple #[.agg (v3 p q r), .int .i64 7]))) (hv2 : sameV ax ay az ax ay az = true) (haw : Hid (Ans 28 #[] (.bool true))) :
    Calls Try.prog 13 #[.agg (v3 ax ay az), .agg (v3 bx b_y bz_), .agg (v3 cx cy cz)] w fun e w' => e = .returned (.bool true) ∧ Below w.heap.size w w' := by
  go_enter Try.func13, Try.ntmps13
  go_upto_region 1 with fail
  have D := hide ((((Gen.start w).push 26 (v3 ax ay az)).push 26 (v3 bx b_y bz_)).push 26 (v3 cx cy cz))
  simp only [szA] at D
  refine region_plan (S := Gen w _) (l := [0, 1, 2, 3, 4, 5, 6, 7, 8, 9, 10, 11]) (by kernel_rfl) (by kernel_rfl) (by kernel_rfl) (by kernel_rfl) (by kernel_rfl) (by kernel_rfl) (by kernel_rfl) (unhide D).drew ?_
  clear D
  refine plan_read (v := .agg (v3 ax ay az)) rfl rfl (fun u hS => exec_ldG hS rPoint _ rfl rfl (by repeat (first | exact List.mem_cons_self | apply List.mem_cons_of_mem)) rfl) ?_
  go_simp
  refine plan_read (v := .agg (v3 bx b_y bz_)) rfl rfl (fun u hS => exec_ldG hS rPoint _ rfl rfl (by repeat (first | exact List.mem_cons_self | apply List.mem_cons_of_mem)) rfl) ?_
  go_simp
  refine plan_call (v := (.int .i64 (-1))) (f := 31) (args := #[.agg (v3 ax ay az), .agg (v3 bx b_y bz_)]) rfl rfl (fun u hS => by go_simp) (fun u hS => (unhide h1 u).mono fun _ _ ⟨he, hb⟩ => ⟨he, hS.keep hb⟩) ?_
  go_simp
  refine plan_read (v := .agg (v3 bx b_y bz_)) rfl rfl (fun u hS => exec_ldG hS rPoint _ rfl rfl (by repeat (first | exact List.mem_cons_self | apply List.mem_cons_of_mem)) rfl) ?_
  go_simp
  refine plan_read (v := .agg (v3 cx cy cz)) rfl rfl (fun u hS => exec_ldG hS rPoint _ rfl rfl (by repeat (first | exact List.mem_cons_self | apply List.mem_cons_of_mem)) rfl) ?_
  go_simp
  refine plan_call (v := (.int .i64 0)) (f := 31) (args := #[.agg (v3 bx b_y bz_), .agg (v3 cx cy cz)]) rfl rfl (fun u hS => by go_simp) (fun u hS => (unhide h2 u).mono fun _ _ ⟨he, hb⟩ => ⟨he, hS.keep hb⟩) ?_
  go_simp
  refine plan_read (v := .agg (v3 ax ay az)) rfl rfl (fun u hS => exec_ldG hS rPoint _ rfl rfl (by repeat (first | exact List.mem_cons_self | apply List.mem_cons_of_mem)) rfl) ?_
  go_simp
  refine plan_read (v := .agg (v3 cx cy cz)) rfl rfl (fun u hS => exec_ldG hS rPoint _ rfl rfl (by repeat (first | exact List.mem_cons_self | apply List.mem_cons_of_mem)) rfl) ?_
  go_simp
  refine plan_call (v := (.int .i64 (-1))) (f := 31) (args := #[.agg (v3 ax ay az), .agg (v3 cx cy cz)]) rfl rfl (fun u hS => by go_simp) (fun u hS => (unhide h3 u).mono fun _ _ ⟨he, hb⟩ => ⟨he, hS.keep hb⟩) ?_
  go_simp
  refine plan_read (v := ?_) rfl rfl (fun u hS => by go_simp; rfl) ?_
  go_simp
  refine plan_read (v := ?_) rfl rfl (fun u hS => by go_simp; rfl) ?_
  go_simp
  refine plan_read (v := ?_) rfl rfl (fun u hS => by go_simp; rfl) ?_
  go_simp
  refine plan_end (fun u hS => ?_)
  have D := hide hS
  clear hS
  go_upto_region 5 with (first | (with_reducible refine at_list ?_; apply ldG (unhide D) rPoint _ rfl rfl rfl (by repeat (first | exact List.mem_cons_self | apply List.mem_cons_of_mem)) rfl) | (with_reducible refine at_list ?_; apply ldGw (unhide D) rPoint _ rfl rfl rfl (by repeat (first | exact List.mem_cons_self | apply List.mem_cons_of_mem)) rfl) | (go_at_call 31; with_reducible refine (unhide h4 _).mono ?_; rintro e w' ⟨he, hb⟩; subst he; have D := hide ((unhide D).keep hb); clear hb) | (with_reducible refine at_list ?_;  refine eqlPw _ _ _ hv rfl rfl rfl rfl ?_) | (go_at_call 29; with_reducible refine (unhide hL _).mono ?_; rintro e w' ⟨he, hb⟩; subst he; have D := hide ((unhide D).keep hb); clear hb) | (with_reducible refine at_list ?_; refine stG (unhide D) rPoint _ _ rfl rfl rfl rfl rfl rfl (v3_one' _ _ _) ?_; intro D'; have D := hide D'; clear D'))
  refine region_plan (S := Gen w _) (l := [0, 1, 2, 3, 4, 5, 6, 7, 8, 9, 10, 11, 12]) (by kernel_rfl) (by kernel_rfl) (by kernel_rfl) (by kernel_rfl) (by kernel_rfl) (by kernel_rfl) (by kernel_rfl) (unhide D).drew ?_
  clear D
  refine plan_read (v := ?_) rfl rfl (fun u hS => by go_simp; rfl) ?_
  go_simp
  refine plan_read (v := ?_) rfl rfl (fun u hS => by go_simp; rfl) ?_
  go_simp
  refine plan_read (v := ?_) rfl rfl (fun u hS => by go_simp; rfl) ?_
  go_simp
  refine plan_skip rfl rfl ?_
  go_simp
  refine plan_skip rfl rfl ?_
  go_simp
  refine plan_skip rfl rfl ?_
  go_simp
  refine plan_skip rfl rfl ?_
  go_simp
  refine plan_skip rfl rfl ?_
  go_simp
  refine plan_read (v := ?_) rfl rfl (fun u hS => by go_simp; rfl) ?_
  go_simp
  refine plan_read (v := ?_) rfl rfl (fun u hS => by go_simp; rfl) ?_
  go_simp
  refine plan_call (v := (.bool true)) (f := 28) (args := #[]) rfl rfl (fun u hS => by go_simp) (fun u hS => (unhide haw u).mono fun _ _ ⟨he, hb⟩ => ⟨he, hS.keep hb⟩) ?_
  go_simp
  refine plan_read (v := ?_) rfl rfl (fun u hS => by go_simp; rfl) ?_
  go_simp
  refine plan_read (v := ?_) rfl rfl (fun u hS => by go_simp; rfl) ?_
  go_simp
  refine plan_end (fun u hS => ?_)
  have O := hide hS.o
  clear hS
  go_wp2
  go_ret
  exact ⟨rfl, unhide O⟩
set_option maxHeartbeats 4000000 in
theorem order_m1_m1_m1_0 (ax ay az bx b_y bz_ cx cy cz y z p q r : Int) (w : World) (h1 : Hid (Ans 31 #[.agg (v3 ax ay az), .agg (v3 bx b_y bz_)] (.int .i64 (-1)))) (h2 : Hid (Ans 31 #[.agg (v3 bx b_y bz_), .agg (v3 cx cy cz)] (.int .i64 (-1)))) (h3 : Hid (Ans 31 #[.agg (v3 ax ay az), .agg (v3 cx cy cz)] (.int .i64 (-1)))) (h4 : Hid (Ans 31 #[.agg (v3 bx b_y bz_), .agg (v3 ax ay az)] (.int .i64 1))) (hv : sameV ax ay az bx b_y bz_ = false)
    (hL : Hid (Ans 29 #[.agg (v3 ax ay az), .agg (v3 bx b_y bz_)] (.tuple #[.agg (v3 p q r), .int .i64 0]))) (hs : Hid (Ans 52 #[.agg (v3 p q r), .agg (v3 bx b_y bz_)] (.agg (v3 ax ay az)))) (hv2 : sameV ax ay az ax ay az = true) (haw : Hid (Ans 28 #[] (.bool true))) :
    Calls Try.prog 13 #[.agg (v3 ax ay az), .agg (v3 bx b_y bz_), .agg (v3 cx cy cz)] w fun e w' => e = .returned (.bool true) ∧ Below w.heap.size w w' := by
  go_enter Try.func13, Try.ntmps13
  go_upto_region 1 with fail
  have D := hide ((((Gen.start w).push 26 (v3 ax ay az)).push 26 (v3 bx b_y bz_)).push 26 (v3 cx cy cz))
  simp only [szA] at D
  refine region_plan (S := Gen w _) (l := [0, 1, 2, 3, 4, 5, 6, 7, 8, 9, 10, 11]) (by kernel_rfl) (by kernel_rfl) (by kernel_rfl) (by kernel_rfl) (by kernel_rfl) (by kernel_rfl) (by kernel_rfl) (unhide D).drew ?_
  clear D
  refine plan_read (v := .agg (v3 ax ay az)) rfl rfl (fun u hS => exec_ldG hS rPoint _ rfl rfl (by repeat (first | exact List.mem_cons_self | apply List.mem_cons_of_mem)) rfl) ?_
  go_simp
  refine plan_read (v := .agg (v3 bx b_y bz_)) rfl rfl (fun u hS => exec_ldG hS rPoint _ rfl rfl (by repeat (first | exact List.mem_cons_self | apply List.mem_cons_of_mem)) rfl) ?_
  go_simp
  refine plan_call (v := (.int .i64 (-1))) (f := 31) (args := #[.agg (v3 ax ay az), .agg (v3 bx b_y bz_)]) rfl rfl (fun u hS => by go_simp) (fun u hS => (unhide h1 u).mono fun _ _ ⟨he, hb⟩ => ⟨he, hS.keep hb⟩) ?_
  go_simp
  refine plan_read (v := .agg (v3 bx b_y bz_)) rfl rfl (fun u hS => exec_ldG hS rPoint _ rfl rfl (by repeat (first | exact List.mem_cons_self | apply List.mem_cons_of_mem)) rfl) ?_
  go_simp
  refine plan_read (v := .agg (v3 cx cy cz)) rfl rfl (fun u hS => exec_ldG hS rPoint _ rfl rfl (by repeat (first | exact List.mem_cons_self | apply List.mem_cons_of_mem)) rfl) ?_
  go_simp
  refine plan_call (v := (.int .i64 (-1))) (f := 31) (args := #[.agg (v3 bx b_y bz_), .agg (v3 cx cy cz)]) rfl rfl (fun u hS => by go_simp) (fun u hS => (unhide h2 u).mono fun _ _ ⟨he, hb⟩ => ⟨he, hS.keep hb⟩) ?_
  go_simp
  refine plan_read (v := .agg (v3 ax ay az)) rfl rfl (fun u hS => exec_ldG hS rPoint _ rfl rfl (by repeat (first | exact List.mem_cons_self | apply List.mem_cons_of_mem)) rfl) ?_
  go_simp
  refine plan_read (v := .agg (v3 cx cy cz)) rfl rfl (fun u hS => exec_ldG hS rPoint _ rfl rfl (by repeat (first | exact List.mem_cons_self | apply List.mem_cons_of_mem)) rfl) ?_
  go_simp
  refine plan_call (v := (.int .i64 (-1))) (f := 31) (args := #[.agg (v3 ax ay az), .agg (v3 cx cy cz)]) rfl rfl (fun u hS => by go_simp) (fun u hS => (unhide h3 u).mono fun _ _ ⟨he, hb⟩ => ⟨he, hS.keep hb⟩) ?_
  go_simp
  refine plan_read (v := ?_) rfl rfl (fun u hS => by go_simp; rfl) ?_
  go_simp
  refine plan_read (v := ?_) rfl rfl (fun u hS => by go_simp; rfl) ?_
  go_simp
  refine plan_read (v := ?_) rfl rfl (fun u hS => by go_simp; rfl) ?_
  go_simp
  refine plan_end (fun u hS => ?_)
  have D := hide hS
  clear hS
  go_upto_region 5 with (first | (with_reducible refine at_list ?_; apply ldG (unhide D) rPoint _ rfl rfl rfl (by repeat (first | exact List.mem_cons_self | apply List.mem_cons_of_mem)) rfl) | (with_reducible refine at_list ?_; apply ldGw (unhide D) rPoint _ rfl rfl rfl (by repeat (first | exact List.mem_cons_self | apply List.mem_cons_of_mem)) rfl) | (go_at_call 31; with_reducible refine (unhide h4 _).mono ?_; rintro e w' ⟨he, hb⟩; subst he; have D := hide ((unhide D).keep hb); clear hb) | (with_reducible refine at_list ?_;  refine eqlPw _ _ _ hv rfl rfl rfl rfl ?_) | (go_at_call 29; with_reducible refine (unhide hL _).mono ?_; rintro e w' ⟨he, hb⟩; subst he; have D := hide ((unhide D).keep hb); clear hb) | (with_reducible refine at_list ?_; refine stG (unhide D) rPoint _ _ rfl rfl rfl rfl rfl rfl (v3_one' _ _ _) ?_; intro D'; have D := hide D'; clear D'))
  refine region_plan (S := Gen w _) (l := [0, 1, 2, 3, 4, 5, 6, 7, 8, 9, 10, 11, 12]) (by kernel_rfl) (by kernel_rfl) (by kernel_rfl) (by kernel_rfl) (by kernel_rfl) (by kernel_rfl) (by kernel_rfl) (unhide D).drew ?_
  clear D
  refine plan_read (v := ?_) rfl rfl (fun u hS => by go_simp; rfl) ?_
  go_simp
  refine plan_read (v := ?_) rfl rfl (fun u hS => by go_simp; rfl) ?_
  go_simp
  refine plan_read (v := ?_) rfl rfl (fun u hS => by go_simp; rfl) ?_
  go_simp
  refine plan_read (v := .agg (v3 p q r)) rfl rfl (fun u hS => exec_ldG hS rPoint _ rfl rfl (by repeat (first | exact List.mem_cons_self | apply List.mem_cons_of_mem)) rfl) ?_
  go_simp
  refine plan_read (v := .agg (v3 bx b_y bz_)) rfl rfl (fun u hS => exec_ldG hS rPoint _ rfl rfl (by repeat (first | exact List.mem_cons_self | apply List.mem_cons_of_mem)) rfl) ?_
  go_simp
  refine plan_call (v := (.agg (v3 ax ay az))) (f := 52) (args := #[.agg (v3 p q r), .agg (v3 bx b_y bz_)]) rfl rfl (fun u hS => by go_simp) (fun u hS => (unhide hs u).mono fun _ _ ⟨he, hb⟩ => ⟨he, hS.keep hb⟩) ?_
  go_simp
  refine plan_read (v := .agg (v3 ax ay az)) rfl rfl (fun u hS => exec_ldG hS rPoint _ rfl rfl (by repeat (first | exact List.mem_cons_self | apply List.mem_cons_of_mem)) rfl) ?_
  go_simp
  refine plan_read (v := .bool true) rfl rfl (fun u hS => exec_eql_pt u _ _ hv2 rfl rfl rfl) ?_
  go_simp
  refine plan_read (v := ?_) rfl rfl (fun u hS => by go_simp; rfl) ?_
  go_simp
  refine plan_read (v := ?_) rfl rfl (fun u hS => by go_simp; rfl) ?_
  go_simp
  refine plan_call (v := (.bool true)) (f := 28) (args := #[]) rfl rfl (fun u hS => by go_simp) (fun u hS => (unhide haw u).mono fun _ _ ⟨he, hb⟩ => ⟨he, hS.keep hb⟩) ?_
  go_simp
  refine plan_read (v := ?_) rfl rfl (fun u hS => by go_simp; rfl) ?_
  go_simp
  refine plan_read (v := ?_) rfl rfl (fun u hS => by go_simp; rfl) ?_
  go_simp
  refine plan_end (fun u hS => ?_)
  have O := hide hS.o
  clear hS
  go_wp2
  go_ret
  exact ⟨rfl, unhide O⟩
set_option maxHeartbeats 4000000 in
theorem order_m1_m1_m1_7 (ax ay az bx b_y bz_ cx cy cz y z p q r : Int) (w : World) (h1 : Hid (Ans 31 #[.agg (v3 ax ay az), .agg (v3 bx b_y bz_)] (.int .i64 (-1)))) (h2 : Hid (Ans 31 #[.agg (v3 bx b_y bz_), .agg (v3 cx cy cz)] (.int .i64 (-1)))) (h3 : Hid (Ans 31 #[.agg (v3 ax ay az), .agg (v3 cx cy cz)] (.int .i64 (-1)))) (h4 : Hid (Ans 31 #[.agg (v3 bx b_y bz_), .agg (v3 ax ay az)] (.int .i64 1))) (hv : sameV ax ay az bx b_y bz_ = false)
    (hL : Hid (Ans 29 #[.agg (v3 ax ay az), .agg (v3 bx b_y bz_)] (.tuple #[.agg (v3 p q r), .int .i64 7]))) (hv2 : sameV ax ay az ax ay az = true) (haw : Hid (Ans 28 #[] (.bool true))) :
    Calls Try.prog 13 #[.agg (v3 ax ay az), .agg (v3 bx b_y bz_), .agg (v3 cx cy cz)] w fun e w' => e = .returned (.bool true) ∧ Below w.heap.size w w' := by
  go_enter Try.func13, Try.ntmps13
  go_upto_region 1 with fail
  have D := hide ((((Gen.start w).push 26 (v3 ax ay az)).push 26 (v3 bx b_y bz_)).push 26 (v3 cx cy cz))
  simp only [szA] at D
  refine region_plan (S := Gen w _) (l := [0, 1, 2, 3, 4, 5, 6, 7, 8, 9, 10, 11]) (by kernel_rfl) (by kernel_rfl) (by kernel_rfl) (by kernel_rfl) (by kernel_rfl) (by kernel_rfl) (by kernel_rfl) (unhide D).drew ?_
  clear D
  refine plan_read (v := .agg (v3 ax ay az)) rfl rfl (fun u hS => exec_ldG hS rPoint _ rfl rfl (by repeat (first | exact List.mem_cons_self | apply List.mem_cons_of_mem)) rfl) ?_
  go_simp
  refine plan_read (v := .agg (v3 bx b_y bz_)) rfl rfl (fun u hS => exec_ldG hS rPoint _ rfl rfl (by repeat (first | exact List.mem_cons_self | apply List.mem_cons_of_mem)) rfl) ?_
  go_simp
  refine plan_call (v := (.int .i64 (-1))) (f := 31) (args := #[.agg (v3 ax ay az), .agg (v3 bx b_y bz_)]) rfl rfl (fun u hS => by go_simp) (fun u hS => (unhide h1 u).mono fun _ _ ⟨he, hb⟩ => ⟨he, hS.keep hb⟩) ?_
  go_simp
  refine plan_read (v := .agg (v3 bx b_y bz_)) rfl rfl (fun u hS => exec_ldG hS rPoint _ rfl rfl (by repeat (first | exact List.mem_cons_self | apply List.mem_cons_of_mem)) rfl) ?_
  go_simp
  refine plan_read (v := .agg (v3 cx cy cz)) rfl rfl (fun u hS => exec_ldG hS rPoint _ rfl rfl (by repeat (first | exact List.mem_cons_self | apply List.mem_cons_of_mem)) rfl) ?_
  go_simp
  refine plan_call (v := (.int .i64 (-1))) (f := 31) (args := #[.agg (v3 bx b_y bz_), .agg (v3 cx cy cz)]) rfl rfl (fun u hS => by go_simp) (fun u hS => (unhide h2 u).mono fun _ _ ⟨he, hb⟩ => ⟨he, hS.keep hb⟩) ?_
  go_simp
  refine plan_read (v := .agg (v3 ax ay az)) rfl rfl (fun u hS => exec_ldG hS rPoint _ rfl rfl (by repeat (first | exact List.mem_cons_self | apply List.mem_cons_of_mem)) rfl) ?_
  go_simp
  refine plan_read (v := .agg (v3 cx cy cz)) rfl rfl (fun u hS => exec_ldG hS rPoint _ rfl rfl (by repeat (first | exact List.mem_cons_self | apply List.mem_cons_of_mem)) rfl) ?_
  go_simp
  refine plan_call (v := (.int .i64 (-1))) (f := 31) (args := #[.agg (v3 ax ay az), .agg (v3 cx cy cz)]) rfl rfl (fun u hS => by go_simp) (fun u hS => (unhide h3 u).mono fun _ _ ⟨he, hb⟩ => ⟨he, hS.keep hb⟩) ?_
  go_simp
  refine plan_read (v := ?_) rfl rfl (fun u hS => by go_simp; rfl) ?_
  go_simp
  refine plan_read (v := ?_) rfl rfl (fun u hS => by go_simp; rfl) ?_
  go_simp
  refine plan_read (v := ?_) rfl rfl (fun u hS => by go_simp; rfl) ?_
  go_simp
  refine plan_end (fun u hS => ?_)
  have D := hide hS
  clear hS
  go_upto_region 5 with (first | (with_reducible refine at_list ?_; apply ldG (unhide D) rPoint _ rfl rfl rfl (by repeat (first | exact List.mem_cons_self | apply List.mem_cons_of_mem)) rfl) | (with_reducible refine at_list ?_; apply ldGw (unhide D) rPoint _ rfl rfl rfl (by repeat (first | exact List.mem_cons_self | apply List.mem_cons_of_mem)) rfl) | (go_at_call 31; with_reducible refine (unhide h4 _).mono ?_; rintro e w' ⟨he, hb⟩; subst he; have D := hide ((unhide D).keep hb); clear hb) | (with_reducible refine at_list ?_;  refine eqlPw _ _ _ hv rfl rfl rfl rfl ?_) | (go_at_call 29; with_reducible refine (unhide hL _).mono ?_; rintro e w' ⟨he, hb⟩; subst he; have D := hide ((unhide D).keep hb); clear hb) | (with_reducible refine at_list ?_; refine stG (unhide D) rPoint _ _ rfl rfl rfl rfl rfl rfl (v3_one' _ _ _) ?_; intro D'; have D := hide D'; clear D'))
  refine region_plan (S := Gen w _) (l := [0, 1, 2, 3, 4, 5, 6, 7, 8, 9, 10, 11, 12]) (by kernel_rfl) (by kernel_rfl) (by kernel_rfl) (by kernel_rfl) (by kernel_rfl) (by kernel_rfl) (by kernel_rfl) (unhide D).drew ?_
  clear D
  refine plan_read (v := ?_) rfl rfl (fun u hS => by go_simp; rfl) ?_
  go_simp
  refine plan_read (v := ?_) rfl rfl (fun u hS => by go_simp; rfl) ?_
  go_simp
  refine plan_read (v := ?_) rfl rfl (fun u hS => by go_simp; rfl) ?_
  go_simp
  refine plan_skip rfl rfl ?_
  go_simp
  refine plan_skip rfl rfl ?_
  go_simp
  refine plan_skip rfl rfl ?_
  go_simp
  refine plan_skip rfl rfl ?_
  go_simp
  refine plan_skip rfl rfl ?_
  go_simp
  refine plan_read (v := ?_) rfl rfl (fun u hS => by go_simp; rfl) ?_
  go_simp
  refine plan_read (v := ?_) rfl rfl (fun u hS => by go_simp; rfl) ?_
  go_simp
  refine plan_call (v := (.bool true)) (f := 28) (args := #[]) rfl rfl (fun u hS => by go_simp) (fun u hS => (unhide haw u).mono fun _ _ ⟨he, hb⟩ => ⟨he, hS.keep hb⟩) ?_
  go_simp
  refine plan_read (v := ?_) rfl rfl (fun u hS => by go_simp; rfl) ?_
  go_simp
  refine plan_read (v := ?_) rfl rfl (fun u hS => by go_simp; rfl) ?_
  go_simp
  refine plan_end (fun u hS => ?_)
  have O := hide hS.o
  clear hS
  go_wp2
  go_ret
  exact ⟨rfl, unhide O⟩

/-- Ahead in the order. -/
def lt3 (a b c x y z : Int) : Prop := a < x ∨ a = x ∧ (b < y ∨ b = y ∧ c < z)
theorem cmpP_is (a b c x y z : Int) : (lt3 a b c x y z → cmpP a b c x y z = -1) ∧ (lt3 x y z a b c → cmpP a b c x y z = 1) ∧ ((a = x ∧ b = y ∧ c = z) → cmpP a b c x y z = 0) := by
  unfold lt3 cmpP orI cmpI
  refine ⟨fun h => ?_, fun h => ?_, fun h => ?_⟩
  · by_cases h1 : a < x
    · simp [h1]
    · obtain ⟨h2, h3⟩ := h.resolve_left h1
      subst h2
      by_cases h4 : b < y
      · simp [h4]
      · obtain ⟨h5, h6⟩ := h3.resolve_left h4
        subst h5
        simp [h6]
  · by_cases h1 : x < a
    · have : ¬ a < x := by omega
      simp [h1, this]
    · obtain ⟨h2, h3⟩ := h.resolve_left h1
      subst h2
      by_cases h4 : y < b
      · have : ¬ b < y := by omega
        simp [h4, this]
      · obtain ⟨h5, h6⟩ := h3.resolve_left h4
        subst h5
        have : ¬ c < z := by omega
        simp [h6, this]
  · obtain ⟨h1, h2, h3⟩ := h
    subst h1 h2 h3
    simp
theorem lt3_tri (a b c x y z : Int) : lt3 a b c x y z ∨ (a = x ∧ b = y ∧ c = z) ∨ lt3 x y z a b c := by unfold lt3; omega
theorem lt3_trans {a b c x y z u v t : Int} (h : lt3 a b c x y z) (k : lt3 x y z u v t) : lt3 a b c u v t := by unfold lt3 at *; omega
theorem gridOrder_walk (ax ay az bx b_y bz_ cx cy cz : Int) (h1' : (Lit.int .i64 ax).wf = true) (h2' : (Lit.int .i64 ay).wf = true) (h3' : (Lit.int .i64 az).wf = true) (h4' : (Lit.int .i64 bx).wf = true) (h5' : (Lit.int .i64 b_y).wf = true) (h6' : (Lit.int .i64 bz_).wf = true) (h7' : (Lit.int .i64 cx).wf = true) (h8' : (Lit.int .i64 cy).wf = true) (h9' : (Lit.int .i64 cz).wf = true) (w : World) :
    Calls Try.prog 13 #[.agg (v3 ax ay az), .agg (v3 bx b_y bz_), .agg (v3 cx cy cz)] w fun e w' => e = .returned (.bool true) ∧ Below w.heap.size w w' := by
  have i1 := I64.wf h1'
  have i2 := I64.wf h2'
  have i3 := I64.wf h3'
  have c1 := CmpZ6 ax ay az bx b_y bz_
  have c2 := CmpZ6 bx b_y bz_ cx cy cz
  have c3 := CmpZ6 ax ay az cx cy cz
  have c4 := CmpZ6 bx b_y bz_ ax ay az
  obtain ⟨f1, f2, f3⟩ := cmpP_is ax ay az bx b_y bz_
  obtain ⟨g1, g2, g3⟩ := cmpP_is bx b_y bz_ cx cy cz
  obtain ⟨k1, k2, k3⟩ := cmpP_is ax ay az cx cy cz
  obtain ⟨l1, l2, l3⟩ := cmpP_is bx b_y bz_ ax ay az
  have hv2 : sameV ax ay az ax ay az = true := by unfold sameV; simp
  have hn : ¬ (ax = bx ∧ ay = b_y ∧ az = bz_) → sameV ax ay az bx b_y bz_ = false := fun h => by unfold sameV; exact decide_eq_false h
  have hL := LessZ6 ax ay az bx b_y bz_
  have hsum : Ans 52 #[.agg (v3 (ax - bx) (ay - b_y) (az - bz_)), .agg (v3 bx b_y bz_)] (.agg (v3 ax ay az)) := by
    have k := Sum6Z (ax - bx) (ay - b_y) (az - bz_) bx b_y bz_ (by rw [Int.sub_add_cancel]; exact i1) (by rw [Int.sub_add_cancel]; exact i2) (by rw [Int.sub_add_cancel]; exact i3)
    rw [Int.sub_add_cancel, Int.sub_add_cancel, Int.sub_add_cancel] at k
    exact k
  cases hck : chkP ax ay az && chkP bx b_y bz_
  · rw [hck, if_neg (by decide)] at hL
    rcases lt3_tri ax ay az bx b_y bz_ with h | h | h
    · rw [f1 h] at c1
      rw [l2 h] at c4
      have hv := hn (fun e => by unfold lt3 at h; omega)
      rcases lt3_tri bx b_y bz_ cx cy cz with k | k | k
      · rw [g1 k] at c2
        rw [k1 (lt3_trans h k)] at c3
        exact order_m1_m1_m1_7 ax ay az bx b_y bz_ cx cy cz 0 0 0 0 0 w c1 c2 c3 c4 hv hL hv2 awake6Z
      · rw [g3 k] at c2
        rw [k1 (by unfold lt3 at *; omega)] at c3
        exact order_m1_0_m1_7 ax ay az bx b_y bz_ cx cy cz 0 0 0 0 0 w c1 c2 c3 c4 hv hL hv2 awake6Z
      · rw [g2 k] at c2
        exact order_m1_1_s_7 ax ay az bx b_y bz_ cx cy cz 0 _ 0 0 0 w c1 c2 c3 c4 hv hL hv2 awake6Z
    · rw [f3 h] at c1
      rw [l3 (by omega)] at c4
      have hv : sameV ax ay az bx b_y bz_ = true := by unfold sameV; exact decide_eq_true h
      rcases lt3_tri bx b_y bz_ cx cy cz with k | k | k
      · rw [g1 k] at c2
        rw [k1 (by unfold lt3 at *; omega)] at c3
        exact order_0_m1_m1_7 ax ay az bx b_y bz_ cx cy cz 0 0 0 0 0 w c1 c2 c3 c4 hv hL hv2 awake6Z
      · rw [g3 k] at c2
        rw [k3 (by omega)] at c3
        exact order_0_0_0_7 ax ay az bx b_y bz_ cx cy cz 0 0 0 0 0 w c1 c2 c3 c4 hv hL hv2 awake6Z
      · rw [g2 k] at c2
        exact order_0_1_s_7 ax ay az bx b_y bz_ cx cy cz 0 _ 0 0 0 w c1 c2 c3 c4 hv hL hv2 awake6Z
    · rw [f2 h] at c1
      rw [l1 h] at c4
      have hv := hn (fun e => by unfold lt3 at h; omega)
      exact order_1_s_s_7 ax ay az bx b_y bz_ cx cy cz _ _ 0 0 0 w c1 c2 c3 c4 hv hL hv2 awake6Z
  · rw [hck, if_pos rfl] at hL
    rcases lt3_tri ax ay az bx b_y bz_ with h | h | h
    · rw [f1 h] at c1
      rw [l2 h] at c4
      have hv := hn (fun e => by unfold lt3 at h; omega)
      rcases lt3_tri bx b_y bz_ cx cy cz with k | k | k
      · rw [g1 k] at c2
        rw [k1 (lt3_trans h k)] at c3
        exact order_m1_m1_m1_0 ax ay az bx b_y bz_ cx cy cz 0 0 (ax - bx) (ay - b_y) (az - bz_) w c1 c2 c3 c4 hv hL hsum hv2 awake6Z
      · rw [g3 k] at c2
        rw [k1 (by unfold lt3 at *; omega)] at c3
        exact order_m1_0_m1_0 ax ay az bx b_y bz_ cx cy cz 0 0 (ax - bx) (ay - b_y) (az - bz_) w c1 c2 c3 c4 hv hL hsum hv2 awake6Z
      · rw [g2 k] at c2
        exact order_m1_1_s_0 ax ay az bx b_y bz_ cx cy cz 0 _ (ax - bx) (ay - b_y) (az - bz_) w c1 c2 c3 c4 hv hL hsum hv2 awake6Z
    · rw [f3 h] at c1
      rw [l3 (by omega)] at c4
      have hv : sameV ax ay az bx b_y bz_ = true := by unfold sameV; exact decide_eq_true h
      rcases lt3_tri bx b_y bz_ cx cy cz with k | k | k
      · rw [g1 k] at c2
        rw [k1 (by unfold lt3 at *; omega)] at c3
        exact order_0_m1_m1_0 ax ay az bx b_y bz_ cx cy cz 0 0 (ax - bx) (ay - b_y) (az - bz_) w c1 c2 c3 c4 hv hL hsum hv2 awake6Z
      · rw [g3 k] at c2
        rw [k3 (by omega)] at c3
        exact order_0_0_0_0 ax ay az bx b_y bz_ cx cy cz 0 0 (ax - bx) (ay - b_y) (az - bz_) w c1 c2 c3 c4 hv hL hsum hv2 awake6Z
      · rw [g2 k] at c2
        exact order_0_1_s_0 ax ay az bx b_y bz_ cx cy cz 0 _ (ax - bx) (ay - b_y) (az - bz_) w c1 c2 c3 c4 hv hL hsum hv2 awake6Z
    · rw [f2 h] at c1
      rw [l1 h] at c4
      have hv := hn (fun e => by unfold lt3 at h; omega)
      exact order_1_s_s_0 ax ay az bx b_y bz_ cx cy cz _ _ (ax - bx) (ay - b_y) (az - bz_) w c1 c2 c3 c4 hv hL hsum hv2 awake6Z

end Go.Proofs.Ytbgafjdgahikcaa
