/- The document's products of layer 6: mul, three, Dot, Cross, Det; the law GridProducts. -/
import Derived.Test.YtbgafjdgahikcaaAg
import Derived.Test.YtbgafjdgahikcaaSa
namespace Go.Proofs.Ytbgafjdgahikcaa
open Go.RowKit
set_option maxRecDepth 4000
set_option linter.unusedVariables false

theorem rmul_core (a b c : Nat) (x y : Int) (w : World) (h1 : Hid (Ans 90 #[.int .i64 x] (.agg (cells8 a)))) (h2 : Hid (Ans 90 #[.int .i64 y] (.agg (cells8 b)))) (h3 : Hid (Ans 128 #[.agg (cells8 a), .agg (cells8 b)] (.agg (cells8 c)))) :
    Calls Try.prog 83 #[.int .i64 x, .int .i64 y] w fun e w' => e = .returned (.agg (cells8 c)) ∧ Below w.heap.size w w' := by
  go_enter Try.func83, Try.ntmps83
  go_upto_region 1 with fail
  have D := hide ((Gen.start w).push 40 z8)
  go_wp2_with (first | (go_at_call 90; with_reducible refine (unhide h1 _).mono ?_; rintro e w' ⟨he, hb⟩; subst he; have D := hide ((unhide D).keep hb); clear hb) | (go_at_call 90; with_reducible refine (unhide h2 _).mono ?_; rintro e w' ⟨he, hb⟩; subst he; have D := hide ((unhide D).keep hb); clear hb) | (go_at_call 128; with_reducible refine (unhide h3 _).mono ?_; rintro e w' ⟨he, hb⟩; subst he; have D := hide ((unhide D).keep hb); clear hb) | (with_reducible refine at_list ?_; apply stGend (unhide D) rWide _ _ rfl rfl rfl rfl (by repeat (first | exact List.mem_cons_self | apply List.mem_cons_of_mem)) (by omega) rfl rfl (cells8_one _); intro B O))
  exact resG rWide (unhide B) rfl rfl rfl rfl ⟨rfl, unhide O⟩
theorem rthree_core (a b c : Nat) (x y z : Int) (w : World) (h1 : Hid (Ans 83 #[.int .i64 x, .int .i64 y] (.agg (cells8 a)))) (h2 : Hid (Ans 90 #[.int .i64 z] (.agg (cells8 b)))) (h3 : Hid (Ans 128 #[.agg (cells8 a), .agg (cells8 b)] (.agg (cells8 c)))) :
    Calls Try.prog 86 #[.int .i64 x, .int .i64 y, .int .i64 z] w fun e w' => e = .returned (.agg (cells8 c)) ∧ Below w.heap.size w w' := by
  go_enter Try.func86, Try.ntmps86
  go_upto_region 1 with fail
  have D := hide ((Gen.start w).push 40 z8)
  go_wp2_with (first | (go_at_call 83; with_reducible refine (unhide h1 _).mono ?_; rintro e w' ⟨he, hb⟩; subst he; have D := hide ((unhide D).keep hb); clear hb) | (go_at_call 90; with_reducible refine (unhide h2 _).mono ?_; rintro e w' ⟨he, hb⟩; subst he; have D := hide ((unhide D).keep hb); clear hb) | (go_at_call 128; with_reducible refine (unhide h3 _).mono ?_; rintro e w' ⟨he, hb⟩; subst he; have D := hide ((unhide D).keep hb); clear hb) | (with_reducible refine at_list ?_; apply stGend (unhide D) rWide _ _ rfl rfl rfl rfl (by repeat (first | exact List.mem_cons_self | apply List.mem_cons_of_mem)) (by omega) rfl rfl (cells8_one _); intro B O))
  exact resG rWide (unhide B) rfl rfl rfl rfl ⟨rfl, unhide O⟩
theorem Small6 (x : Int) (hx : I64 x) : Ans 90 #[.int .i64 x] (V x) := fun u => SmallZ x hx.1 hx.2 u
theorem RMul6 (x y : Int) (hx : I64 x) (hy : I64 y) : Ans 83 #[.int .i64 x, .int .i64 y] (V (x * y)) := fun w =>
  rmul_core _ _ _ x y w (Small6 x hx) (Small6 y hy) (Times3 hx.sz hy.sz (by decide))
theorem RThree6 (x y z : Int) (hx : I64 x) (hy : I64 y) (hz : I64 z) : Ans 86 #[.int .i64 x, .int .i64 y, .int .i64 z] (V (x * y * z)) := fun w =>
  rthree_core _ _ _ x y z w (RMul6 x y hx hy) (Small6 z hz) (Times3 (hx.sz.mul hy.sz) hz.sz (by decide))
set_option maxHeartbeats 2000000 in
theorem rdot_core (ax ay az bx b_y bz_ : Int) (p q r s t : Nat) (w : World) (m1 : Hid (Ans 83 #[.int .i64 ax, .int .i64 bx] (.agg (cells8 p)))) (m2 : Hid (Ans 83 #[.int .i64 ay, .int .i64 b_y] (.agg (cells8 q)))) (m3 : Hid (Ans 83 #[.int .i64 az, .int .i64 bz_] (.agg (cells8 r)))) (s1 : Hid (Ans 82 #[.agg (cells8 p), .agg (cells8 q)] (.agg (cells8 s)))) (s2 : Hid (Ans 82 #[.agg (cells8 s), .agg (cells8 r)] (.agg (cells8 t)))) :
    Calls Try.prog 34 #[.agg (v3 ax ay az), .agg (v3 bx b_y bz_)] w fun e w' => e = .returned (.agg (cells8 t)) ∧ Below w.heap.size w w' := by
  go_enter Try.func34, Try.ntmps34
  go_upto_region 1 with fail
  have D := hide ((((Gen.start w).push 26 (v3 ax ay az)).push 26 (v3 bx b_y bz_)).push 40 z8)
  simp only [szA] at D
  refine region_last (S := Gen w _) (f := 17) (l := [0, 1, 2, 3, 4, 5, 6, 7, 8, 9, 10, 11, 12, 13, 14, 15, 16]) (by kernel_rfl) (by kernel_rfl) (by kernel_rfl) (by kernel_rfl) (by kernel_rfl) (by kernel_rfl) (by kernel_rfl) (by kernel_rfl) (by kernel_rfl) (by kernel_rfl) rfl rfl (unhide D).drew ?_
  clear D
  refine plan_read (v := ?_) rfl rfl (fun u hS => by go_simp; rfl) ?_
  go_simp
  refine plan_read (v := .int .i64 ax) rfl rfl (fun u hS => exec_loadIG hS _ rfl rfl (by repeat (first | exact List.mem_cons_self | apply List.mem_cons_of_mem)) rfl) ?_
  go_simp
  refine plan_read (v := ?_) rfl rfl (fun u hS => by go_simp; rfl) ?_
  go_simp
  refine plan_read (v := .int .i64 bx) rfl rfl (fun u hS => exec_loadIG hS _ rfl rfl (by repeat (first | exact List.mem_cons_self | apply List.mem_cons_of_mem)) rfl) ?_
  go_simp
  refine plan_call (v := (.agg (cells8 p))) (f := 83) (args := #[.int .i64 ax, .int .i64 bx]) rfl rfl (fun u hS => by go_simp) (fun u hS => (unhide m1 u).mono fun _ _ ⟨he, hb⟩ => ⟨he, hS.keep hb⟩) ?_
  go_simp
  refine plan_read (v := ?_) rfl rfl (fun u hS => by go_simp; rfl) ?_
  go_simp
  refine plan_read (v := .int .i64 ay) rfl rfl (fun u hS => exec_loadIG hS _ rfl rfl (by repeat (first | exact List.mem_cons_self | apply List.mem_cons_of_mem)) rfl) ?_
  go_simp
  refine plan_read (v := ?_) rfl rfl (fun u hS => by go_simp; rfl) ?_
  go_simp
  refine plan_read (v := .int .i64 b_y) rfl rfl (fun u hS => exec_loadIG hS _ rfl rfl (by repeat (first | exact List.mem_cons_self | apply List.mem_cons_of_mem)) rfl) ?_
  go_simp
  refine plan_call (v := (.agg (cells8 q))) (f := 83) (args := #[.int .i64 ay, .int .i64 b_y]) rfl rfl (fun u hS => by go_simp) (fun u hS => (unhide m2 u).mono fun _ _ ⟨he, hb⟩ => ⟨he, hS.keep hb⟩) ?_
  go_simp
  refine plan_call (v := (.agg (cells8 s))) (f := 82) (args := #[(.agg (cells8 p)), (.agg (cells8 q))]) rfl rfl (fun u hS => by go_simp) (fun u hS => (unhide s1 u).mono fun _ _ ⟨he, hb⟩ => ⟨he, hS.keep hb⟩) ?_
  go_simp
  refine plan_read (v := ?_) rfl rfl (fun u hS => by go_simp; rfl) ?_
  go_simp
  refine plan_read (v := .int .i64 az) rfl rfl (fun u hS => exec_loadIG hS _ rfl rfl (by repeat (first | exact List.mem_cons_self | apply List.mem_cons_of_mem)) rfl) ?_
  go_simp
  refine plan_read (v := ?_) rfl rfl (fun u hS => by go_simp; rfl) ?_
  go_simp
  refine plan_read (v := .int .i64 bz_) rfl rfl (fun u hS => exec_loadIG hS _ rfl rfl (by repeat (first | exact List.mem_cons_self | apply List.mem_cons_of_mem)) rfl) ?_
  go_simp
  refine plan_call (v := (.agg (cells8 r))) (f := 83) (args := #[.int .i64 az, .int .i64 bz_]) rfl rfl (fun u hS => by go_simp) (fun u hS => (unhide m3 u).mono fun _ _ ⟨he, hb⟩ => ⟨he, hS.keep hb⟩) ?_
  go_simp
  refine plan_call (v := (.agg (cells8 t))) (f := 82) (args := #[(.agg (cells8 s)), (.agg (cells8 r))]) rfl rfl (fun u hS => by go_simp) (fun u hS => (unhide s2 u).mono fun _ _ ⟨he, hb⟩ => ⟨he, hS.keep hb⟩) ?_
  go_simp
  refine plan_last (fun u hS => ?_)
  refine wp_store_row 40 (.tmp 4) (.tmp 21) rfl _ (cells8 t) rfl rfl 40 z8 (hS.blk (by repeat (first | exact List.mem_cons_self | apply List.mem_cons_of_mem))) iWide rfl (cells8_one _) ?_
  have B := hide ((hS.blk (g := w.heap.size + 1 + 1) (t := 40) (cs := z8) (by repeat (first | exact List.mem_cons_self | apply List.mem_cons_of_mem))).row (cells8 t))
  have O := hide (below_row hS.o (show w.heap.size ≤ w.heap.size + 1 + 1 by omega) (cells8 t))
  clear hS
  go_wp2
  exact resG rWide (unhide B) rfl rfl rfl rfl ⟨rfl, unhide O⟩
set_option maxHeartbeats 4000000 in
theorem rcross_core (ax ay az bx b_y bz_ : Int) (p1 p2 p3 p4 p5 p6 x y z : Nat) (w : World) (m1 : Hid (Ans 83 #[.int .i64 ay, .int .i64 bz_] (.agg (cells8 p1)))) (m2 : Hid (Ans 83 #[.int .i64 az, .int .i64 b_y] (.agg (cells8 p2)))) (m3 : Hid (Ans 83 #[.int .i64 az, .int .i64 bx] (.agg (cells8 p3)))) (m4 : Hid (Ans 83 #[.int .i64 ax, .int .i64 bz_] (.agg (cells8 p4)))) (m5 : Hid (Ans 83 #[.int .i64 ax, .int .i64 b_y] (.agg (cells8 p5)))) (m6 : Hid (Ans 83 #[.int .i64 ay, .int .i64 bx] (.agg (cells8 p6)))) (s1 : Hid (Ans 85 #[.agg (cells8 p1), .agg (cells8 p2)] (.agg (cells8 x)))) (s2 : Hid (Ans 85 #[.agg (cells8 p3), .agg (cells8 p4)] (.agg (cells8 y)))) (s3 : Hid (Ans 85 #[.agg (cells8 p5), .agg (cells8 p6)] (.agg (cells8 z)))) :
    Calls Try.prog 36 #[.agg (v3 ax ay az), .agg (v3 bx b_y bz_)] w fun e w' => e = .returned (.agg (c24 x y z)) ∧ Below w.heap.size w w' := by
  go_enter Try.func36, Try.ntmps36
  go_upto_region 1 with fail
  have D := hide ((((Gen.start w).push 26 (v3 ax ay az)).push 26 (v3 bx b_y bz_)).push 43 z24)
  simp only [szA] at D
  refine region_last (S := Gen w _) (f := 34) (l := [0, 1, 2, 3, 4, 5, 6, 7, 8, 9, 10, 11, 12, 13, 14, 15, 16, 17, 18, 19, 20, 21, 22, 23, 24, 25, 26, 27, 28, 29, 30, 31, 32, 33]) (by kernel_rfl) (by kernel_rfl) (by kernel_rfl) (by kernel_rfl) (by kernel_rfl) (by kernel_rfl) (by kernel_rfl) (by kernel_rfl) (by kernel_rfl) (by kernel_rfl) rfl rfl (unhide D).drew ?_
  clear D
  refine plan_read (v := ?_) rfl rfl (fun u hS => by go_simp; rfl) ?_
  go_simp
  refine plan_read (v := .int .i64 ay) rfl rfl (fun u hS => exec_loadIG hS _ rfl rfl (by repeat (first | exact List.mem_cons_self | apply List.mem_cons_of_mem)) rfl) ?_
  go_simp
  refine plan_read (v := ?_) rfl rfl (fun u hS => by go_simp; rfl) ?_
  go_simp
  refine plan_read (v := .int .i64 bz_) rfl rfl (fun u hS => exec_loadIG hS _ rfl rfl (by repeat (first | exact List.mem_cons_self | apply List.mem_cons_of_mem)) rfl) ?_
  go_simp
  refine plan_call (v := (.agg (cells8 p1))) (f := 83) (args := #[.int .i64 ay, .int .i64 bz_]) rfl rfl (fun u hS => by go_simp) (fun u hS => (unhide m1 u).mono fun _ _ ⟨he, hb⟩ => ⟨he, hS.keep hb⟩) ?_
  go_simp
  refine plan_read (v := ?_) rfl rfl (fun u hS => by go_simp; rfl) ?_
  go_simp
  refine plan_read (v := .int .i64 az) rfl rfl (fun u hS => exec_loadIG hS _ rfl rfl (by repeat (first | exact List.mem_cons_self | apply List.mem_cons_of_mem)) rfl) ?_
  go_simp
  refine plan_read (v := ?_) rfl rfl (fun u hS => by go_simp; rfl) ?_
  go_simp
  refine plan_read (v := .int .i64 b_y) rfl rfl (fun u hS => exec_loadIG hS _ rfl rfl (by repeat (first | exact List.mem_cons_self | apply List.mem_cons_of_mem)) rfl) ?_
  go_simp
  refine plan_call (v := (.agg (cells8 p2))) (f := 83) (args := #[.int .i64 az, .int .i64 b_y]) rfl rfl (fun u hS => by go_simp) (fun u hS => (unhide m2 u).mono fun _ _ ⟨he, hb⟩ => ⟨he, hS.keep hb⟩) ?_
  go_simp
  refine plan_call (v := (.agg (cells8 x))) (f := 85) (args := #[(.agg (cells8 p1)), (.agg (cells8 p2))]) rfl rfl (fun u hS => by go_simp) (fun u hS => (unhide s1 u).mono fun _ _ ⟨he, hb⟩ => ⟨he, hS.keep hb⟩) ?_
  go_simp
  refine plan_read (v := ?_) rfl rfl (fun u hS => by go_simp; rfl) ?_
  go_simp
  refine plan_read (v := .int .i64 az) rfl rfl (fun u hS => exec_loadIG hS _ rfl rfl (by repeat (first | exact List.mem_cons_self | apply List.mem_cons_of_mem)) rfl) ?_
  go_simp
  refine plan_read (v := ?_) rfl rfl (fun u hS => by go_simp; rfl) ?_
  go_simp
  refine plan_read (v := .int .i64 bx) rfl rfl (fun u hS => exec_loadIG hS _ rfl rfl (by repeat (first | exact List.mem_cons_self | apply List.mem_cons_of_mem)) rfl) ?_
  go_simp
  refine plan_call (v := (.agg (cells8 p3))) (f := 83) (args := #[.int .i64 az, .int .i64 bx]) rfl rfl (fun u hS => by go_simp) (fun u hS => (unhide m3 u).mono fun _ _ ⟨he, hb⟩ => ⟨he, hS.keep hb⟩) ?_
  go_simp
  refine plan_read (v := ?_) rfl rfl (fun u hS => by go_simp; rfl) ?_
  go_simp
  refine plan_read (v := .int .i64 ax) rfl rfl (fun u hS => exec_loadIG hS _ rfl rfl (by repeat (first | exact List.mem_cons_self | apply List.mem_cons_of_mem)) rfl) ?_
  go_simp
  refine plan_read (v := ?_) rfl rfl (fun u hS => by go_simp; rfl) ?_
  go_simp
  refine plan_read (v := .int .i64 bz_) rfl rfl (fun u hS => exec_loadIG hS _ rfl rfl (by repeat (first | exact List.mem_cons_self | apply List.mem_cons_of_mem)) rfl) ?_
  go_simp
  refine plan_call (v := (.agg (cells8 p4))) (f := 83) (args := #[.int .i64 ax, .int .i64 bz_]) rfl rfl (fun u hS => by go_simp) (fun u hS => (unhide m4 u).mono fun _ _ ⟨he, hb⟩ => ⟨he, hS.keep hb⟩) ?_
  go_simp
  refine plan_call (v := (.agg (cells8 y))) (f := 85) (args := #[(.agg (cells8 p3)), (.agg (cells8 p4))]) rfl rfl (fun u hS => by go_simp) (fun u hS => (unhide s2 u).mono fun _ _ ⟨he, hb⟩ => ⟨he, hS.keep hb⟩) ?_
  go_simp
  refine plan_read (v := ?_) rfl rfl (fun u hS => by go_simp; rfl) ?_
  go_simp
  refine plan_read (v := .int .i64 ax) rfl rfl (fun u hS => exec_loadIG hS _ rfl rfl (by repeat (first | exact List.mem_cons_self | apply List.mem_cons_of_mem)) rfl) ?_
  go_simp
  refine plan_read (v := ?_) rfl rfl (fun u hS => by go_simp; rfl) ?_
  go_simp
  refine plan_read (v := .int .i64 b_y) rfl rfl (fun u hS => exec_loadIG hS _ rfl rfl (by repeat (first | exact List.mem_cons_self | apply List.mem_cons_of_mem)) rfl) ?_
  go_simp
  refine plan_call (v := (.agg (cells8 p5))) (f := 83) (args := #[.int .i64 ax, .int .i64 b_y]) rfl rfl (fun u hS => by go_simp) (fun u hS => (unhide m5 u).mono fun _ _ ⟨he, hb⟩ => ⟨he, hS.keep hb⟩) ?_
  go_simp
  refine plan_read (v := ?_) rfl rfl (fun u hS => by go_simp; rfl) ?_
  go_simp
  refine plan_read (v := .int .i64 ay) rfl rfl (fun u hS => exec_loadIG hS _ rfl rfl (by repeat (first | exact List.mem_cons_self | apply List.mem_cons_of_mem)) rfl) ?_
  go_simp
  refine plan_read (v := ?_) rfl rfl (fun u hS => by go_simp; rfl) ?_
  go_simp
  refine plan_read (v := .int .i64 bx) rfl rfl (fun u hS => exec_loadIG hS _ rfl rfl (by repeat (first | exact List.mem_cons_self | apply List.mem_cons_of_mem)) rfl) ?_
  go_simp
  refine plan_call (v := (.agg (cells8 p6))) (f := 83) (args := #[.int .i64 ay, .int .i64 bx]) rfl rfl (fun u hS => by go_simp) (fun u hS => (unhide m6 u).mono fun _ _ ⟨he, hb⟩ => ⟨he, hS.keep hb⟩) ?_
  go_simp
  refine plan_call (v := (.agg (cells8 z))) (f := 85) (args := #[(.agg (cells8 p5)), (.agg (cells8 p6))]) rfl rfl (fun u hS => by go_simp) (fun u hS => (unhide s3 u).mono fun _ _ ⟨he, hb⟩ => ⟨he, hS.keep hb⟩) ?_
  go_simp
  refine plan_read (v := .agg (c24 x y z)) rfl rfl (fun u hS => exec_build3 u 43 _ _ _ rfl rfl rfl rfl (bSpan _ _ _)) ?_
  go_simp
  refine plan_last (fun u hS => ?_)
  refine wp_store_row 43 (.tmp 4) (.tmp 38) rfl _ (c24 x y z) rfl rfl 43 z24 (hS.blk (by repeat (first | exact List.mem_cons_self | apply List.mem_cons_of_mem))) iSpan rfl (c24_one _ _ _) ?_
  have B := hide ((hS.blk (g := w.heap.size + 1 + 1) (t := 43) (cs := z24) (by repeat (first | exact List.mem_cons_self | apply List.mem_cons_of_mem))).row (c24 x y z))
  have O := hide (below_row hS.o (show w.heap.size ≤ w.heap.size + 1 + 1 by omega) (c24 x y z))
  clear hS
  go_wp2
  exact resG rSpan (unhide B) rfl rfl rfl rfl ⟨rfl, unhide O⟩
set_option maxHeartbeats 4000000 in
theorem rdet_core (ax ay az bx b_y bz_ cx cy cz : Int) (p1 p2 p3 p4 p5 p6 q1 q2 q3 q4 d : Nat) (w : World) (m1 : Hid (Ans 86 #[.int .i64 ax, .int .i64 b_y, .int .i64 cz] (.agg (cells8 p1)))) (m2 : Hid (Ans 86 #[.int .i64 ay, .int .i64 bz_, .int .i64 cx] (.agg (cells8 p2)))) (m3 : Hid (Ans 86 #[.int .i64 az, .int .i64 bx, .int .i64 cy] (.agg (cells8 p3)))) (m4 : Hid (Ans 86 #[.int .i64 az, .int .i64 b_y, .int .i64 cx] (.agg (cells8 p4)))) (m5 : Hid (Ans 86 #[.int .i64 ay, .int .i64 bx, .int .i64 cz] (.agg (cells8 p5)))) (m6 : Hid (Ans 86 #[.int .i64 ax, .int .i64 bz_, .int .i64 cy] (.agg (cells8 p6))))
    (s1 : Hid (Ans 82 #[.agg (cells8 p1), .agg (cells8 p2)] (.agg (cells8 q1)))) (s2 : Hid (Ans 82 #[.agg (cells8 q1), .agg (cells8 p3)] (.agg (cells8 q2)))) (s3 : Hid (Ans 82 #[.agg (cells8 p4), .agg (cells8 p5)] (.agg (cells8 q3)))) (s4 : Hid (Ans 82 #[.agg (cells8 q3), .agg (cells8 p6)] (.agg (cells8 q4)))) (s5 : Hid (Ans 85 #[.agg (cells8 q2), .agg (cells8 q4)] (.agg (cells8 d)))) :
    Calls Try.prog 38 #[.agg (v3 ax ay az), .agg (v3 bx b_y bz_), .agg (v3 cx cy cz)] w fun e w' => e = .returned (.agg (cells8 d)) ∧ Below w.heap.size w w' := by
  go_enter Try.func38, Try.ntmps38
  go_upto_region 1 with fail
  have D := hide (((((Gen.start w).push 26 (v3 ax ay az)).push 26 (v3 bx b_y bz_)).push 26 (v3 cx cy cz)).push 40 z8)
  simp only [szA] at D
  generalize hw1 : (((w.alloc (.cells (v3 ax ay az) 26)).alloc (.cells (v3 bx b_y bz_) 26)).alloc (.cells (v3 cx cy cz) 26)).alloc (.cells z8 40) = w1 at D ⊢
  have D1 : Hid (GenZ w _ w1.heap.size w1.drew) := ⟨(unhide D).drew, Nat.le_refl _⟩
  have hlt := hide (fun (p : Nat × TypeId × Array Value) hp => ((unhide D).at_ p hp).lt)
  have hw0 := hide (unhide D).o.size
  clear D hw1
  generalize w1.heap.size = C1 at D1 hlt hw0
  refine region_allocs (S := GenZ w _ C1) (t := 40) (z := z8) (base := C1) (l := [0, 1, 2, 3, 4, 5, 6, 7, 8, 9, 10, 11, 12, 13, 14, 15, 16, 17, 18, 19, 20, 21, 22]) (A := [23]) (T := [24]) (by kernel_rfl) (by kernel_rfl) (by kernel_rfl) (by kernel_rfl) (by kernel_rfl) (by kernel_rfl) (by kernel_rfl) (by kernel_rfl) (by kernel_rfl) (by kernel_rfl) ?_ (fun _ _ h hb => h.keep hb) (fun _ h => h.s) (unhide D1) ?_
  · intro i hi
    simp at hi
    subst hi
    exact ⟨_, rfl, rfl, fun a w => by go_simp⟩
  clear D1
  refine planB_read (v := ?_) rfl rfl (fun u hS => by go_simp; rfl) ?_
  go_simp
  refine planB_read (v := .int .i64 ax) rfl rfl (fun u hS => exec_loadIG hS.e _ rfl rfl (by repeat (first | exact List.mem_cons_self | apply List.mem_cons_of_mem)) rfl) ?_
  go_simp
  refine planB_read (v := ?_) rfl rfl (fun u hS => by go_simp; rfl) ?_
  go_simp
  refine planB_read (v := .int .i64 b_y) rfl rfl (fun u hS => exec_loadIG hS.e _ rfl rfl (by repeat (first | exact List.mem_cons_self | apply List.mem_cons_of_mem)) rfl) ?_
  go_simp
  refine planB_read (v := ?_) rfl rfl (fun u hS => by go_simp; rfl) ?_
  go_simp
  refine planB_read (v := .int .i64 cz) rfl rfl (fun u hS => exec_loadIG hS.e _ rfl rfl (by repeat (first | exact List.mem_cons_self | apply List.mem_cons_of_mem)) rfl) ?_
  go_simp
  refine planB_call (v := (.agg (cells8 p1))) (f := 86) (args := #[.int .i64 ax, .int .i64 b_y, .int .i64 cz]) rfl rfl (fun u hS => by go_simp) (fun u hS => (unhide m1 u).mono fun _ _ ⟨he, hb⟩ => ⟨he, hS.keep hb, hb⟩) ?_
  go_simp
  refine planB_read (v := ?_) rfl rfl (fun u hS => by go_simp; rfl) ?_
  go_simp
  refine planB_read (v := .int .i64 ay) rfl rfl (fun u hS => exec_loadIG hS.e _ rfl rfl (by repeat (first | exact List.mem_cons_self | apply List.mem_cons_of_mem)) rfl) ?_
  go_simp
  refine planB_read (v := ?_) rfl rfl (fun u hS => by go_simp; rfl) ?_
  go_simp
  refine planB_read (v := .int .i64 bz_) rfl rfl (fun u hS => exec_loadIG hS.e _ rfl rfl (by repeat (first | exact List.mem_cons_self | apply List.mem_cons_of_mem)) rfl) ?_
  go_simp
  refine planB_read (v := ?_) rfl rfl (fun u hS => by go_simp; rfl) ?_
  go_simp
  refine planB_read (v := .int .i64 cx) rfl rfl (fun u hS => exec_loadIG hS.e _ rfl rfl (by repeat (first | exact List.mem_cons_self | apply List.mem_cons_of_mem)) rfl) ?_
  go_simp
  refine planB_call (v := (.agg (cells8 p2))) (f := 86) (args := #[.int .i64 ay, .int .i64 bz_, .int .i64 cx]) rfl rfl (fun u hS => by go_simp) (fun u hS => (unhide m2 u).mono fun _ _ ⟨he, hb⟩ => ⟨he, hS.keep hb, hb⟩) ?_
  go_simp
  refine planB_call (v := (.agg (cells8 q1))) (f := 82) (args := #[(.agg (cells8 p1)), (.agg (cells8 p2))]) rfl rfl (fun u hS => by go_simp) (fun u hS => (unhide s1 u).mono fun _ _ ⟨he, hb⟩ => ⟨he, hS.keep hb, hb⟩) ?_
  go_simp
  refine planB_read (v := ?_) rfl rfl (fun u hS => by go_simp; rfl) ?_
  go_simp
  refine planB_read (v := .int .i64 az) rfl rfl (fun u hS => exec_loadIG hS.e _ rfl rfl (by repeat (first | exact List.mem_cons_self | apply List.mem_cons_of_mem)) rfl) ?_
  go_simp
  refine planB_read (v := ?_) rfl rfl (fun u hS => by go_simp; rfl) ?_
  go_simp
  refine planB_read (v := .int .i64 bx) rfl rfl (fun u hS => exec_loadIG hS.e _ rfl rfl (by repeat (first | exact List.mem_cons_self | apply List.mem_cons_of_mem)) rfl) ?_
  go_simp
  refine planB_read (v := ?_) rfl rfl (fun u hS => by go_simp; rfl) ?_
  go_simp
  refine planB_read (v := .int .i64 cy) rfl rfl (fun u hS => exec_loadIG hS.e _ rfl rfl (by repeat (first | exact List.mem_cons_self | apply List.mem_cons_of_mem)) rfl) ?_
  go_simp
  refine planB_call (v := (.agg (cells8 p3))) (f := 86) (args := #[.int .i64 az, .int .i64 bx, .int .i64 cy]) rfl rfl (fun u hS => by go_simp) (fun u hS => (unhide m3 u).mono fun _ _ ⟨he, hb⟩ => ⟨he, hS.keep hb, hb⟩) ?_
  go_simp
  refine planB_call (v := (.agg (cells8 q2))) (f := 82) (args := #[(.agg (cells8 q1)), (.agg (cells8 p3))]) rfl rfl (fun u hS => by go_simp) (fun u hS => (unhide s2 u).mono fun _ _ ⟨he, hb⟩ => ⟨he, hS.keep hb, hb⟩) ?_
  go_simp
  refine planB_tail (fun cc u hS hB hI => ?_)
  have h7 := hB 23 (by simp)
  simp only [pa, dstOf, opsOf]
  generalize cc 23 = c1 at h7 ⊢
  have D := hide (hS.e.fillZ (cs := cells8 q2) (unhide hlt) (unhide hw0) h7.1 h7.2)
  have H7 := hide h7.1
  clear hS hB hI h7 hlt hw0
  refine wpList_store_row rfl 40 (.tmp 7) (.tmp 31) rfl _ (cells8 q2) rfl rfl 40 _ (unhide H7) iWide rfl (cells8_one _) ?_
  generalize u.setRow c1 (cells8 q2) = u1 at D ⊢
  clear H7
  go_simp
  go_upto_region 2 with fail
  generalize hw2 : u1 = w2 at D ⊢
  have D1 : Hid (GenZ w _ w2.heap.size w2.drew) := ⟨(unhide D).drew, Nat.le_refl _⟩
  have hlt := hide (fun (p : Nat × TypeId × Array Value) hp => ((unhide D).at_ p hp).lt)
  have hw0 := hide (unhide D).o.size
  clear D hw2
  generalize w2.heap.size = C2 at D1 hlt hw0
  refine region_allocs (S := GenZ w _ C2) (t := 40) (z := z8) (base := C2) (l := [0, 1, 2, 3, 4, 5, 6, 7, 8, 9, 10, 11, 12, 13, 14, 15, 16, 17, 18, 19, 20, 21, 22]) (A := [23]) (T := [24]) (by kernel_rfl) (by kernel_rfl) (by kernel_rfl) (by kernel_rfl) (by kernel_rfl) (by kernel_rfl) (by kernel_rfl) (by kernel_rfl) (by kernel_rfl) (by kernel_rfl) ?_ (fun _ _ h hb => h.keep hb) (fun _ h => h.s) (unhide D1) ?_
  · intro i hi
    simp at hi
    subst hi
    exact ⟨_, rfl, rfl, fun a w => by go_simp⟩
  clear D1
  refine planB_read (v := ?_) rfl rfl (fun u hS => by go_simp; rfl) ?_
  go_simp
  refine planB_read (v := .int .i64 az) rfl rfl (fun u hS => exec_loadIG hS.e _ rfl rfl (by repeat (first | exact List.mem_cons_self | apply List.mem_cons_of_mem)) rfl) ?_
  go_simp
  refine planB_read (v := ?_) rfl rfl (fun u hS => by go_simp; rfl) ?_
  go_simp
  refine planB_read (v := .int .i64 b_y) rfl rfl (fun u hS => exec_loadIG hS.e _ rfl rfl (by repeat (first | exact List.mem_cons_self | apply List.mem_cons_of_mem)) rfl) ?_
  go_simp
  refine planB_read (v := ?_) rfl rfl (fun u hS => by go_simp; rfl) ?_
  go_simp
  refine planB_read (v := .int .i64 cx) rfl rfl (fun u hS => exec_loadIG hS.e _ rfl rfl (by repeat (first | exact List.mem_cons_self | apply List.mem_cons_of_mem)) rfl) ?_
  go_simp
  refine planB_call (v := (.agg (cells8 p4))) (f := 86) (args := #[.int .i64 az, .int .i64 b_y, .int .i64 cx]) rfl rfl (fun u hS => by go_simp) (fun u hS => (unhide m4 u).mono fun _ _ ⟨he, hb⟩ => ⟨he, hS.keep hb, hb⟩) ?_
  go_simp
  refine planB_read (v := ?_) rfl rfl (fun u hS => by go_simp; rfl) ?_
  go_simp
  refine planB_read (v := .int .i64 ay) rfl rfl (fun u hS => exec_loadIG hS.e _ rfl rfl (by repeat (first | exact List.mem_cons_self | apply List.mem_cons_of_mem)) rfl) ?_
  go_simp
  refine planB_read (v := ?_) rfl rfl (fun u hS => by go_simp; rfl) ?_
  go_simp
  refine planB_read (v := .int .i64 bx) rfl rfl (fun u hS => exec_loadIG hS.e _ rfl rfl (by repeat (first | exact List.mem_cons_self | apply List.mem_cons_of_mem)) rfl) ?_
  go_simp
  refine planB_read (v := ?_) rfl rfl (fun u hS => by go_simp; rfl) ?_
  go_simp
  refine planB_read (v := .int .i64 cz) rfl rfl (fun u hS => exec_loadIG hS.e _ rfl rfl (by repeat (first | exact List.mem_cons_self | apply List.mem_cons_of_mem)) rfl) ?_
  go_simp
  refine planB_call (v := (.agg (cells8 p5))) (f := 86) (args := #[.int .i64 ay, .int .i64 bx, .int .i64 cz]) rfl rfl (fun u hS => by go_simp) (fun u hS => (unhide m5 u).mono fun _ _ ⟨he, hb⟩ => ⟨he, hS.keep hb, hb⟩) ?_
  go_simp
  refine planB_call (v := (.agg (cells8 q3))) (f := 82) (args := #[(.agg (cells8 p4)), (.agg (cells8 p5))]) rfl rfl (fun u hS => by go_simp) (fun u hS => (unhide s3 u).mono fun _ _ ⟨he, hb⟩ => ⟨he, hS.keep hb, hb⟩) ?_
  go_simp
  refine planB_read (v := ?_) rfl rfl (fun u hS => by go_simp; rfl) ?_
  go_simp
  refine planB_read (v := .int .i64 ax) rfl rfl (fun u hS => exec_loadIG hS.e _ rfl rfl (by repeat (first | exact List.mem_cons_self | apply List.mem_cons_of_mem)) rfl) ?_
  go_simp
  refine planB_read (v := ?_) rfl rfl (fun u hS => by go_simp; rfl) ?_
  go_simp
  refine planB_read (v := .int .i64 bz_) rfl rfl (fun u hS => exec_loadIG hS.e _ rfl rfl (by repeat (first | exact List.mem_cons_self | apply List.mem_cons_of_mem)) rfl) ?_
  go_simp
  refine planB_read (v := ?_) rfl rfl (fun u hS => by go_simp; rfl) ?_
  go_simp
  refine planB_read (v := .int .i64 cy) rfl rfl (fun u hS => exec_loadIG hS.e _ rfl rfl (by repeat (first | exact List.mem_cons_self | apply List.mem_cons_of_mem)) rfl) ?_
  go_simp
  refine planB_call (v := (.agg (cells8 p6))) (f := 86) (args := #[.int .i64 ax, .int .i64 bz_, .int .i64 cy]) rfl rfl (fun u hS => by go_simp) (fun u hS => (unhide m6 u).mono fun _ _ ⟨he, hb⟩ => ⟨he, hS.keep hb, hb⟩) ?_
  go_simp
  refine planB_call (v := (.agg (cells8 q4))) (f := 82) (args := #[(.agg (cells8 q3)), (.agg (cells8 p6))]) rfl rfl (fun u hS => by go_simp) (fun u hS => (unhide s4 u).mono fun _ _ ⟨he, hb⟩ => ⟨he, hS.keep hb, hb⟩) ?_
  go_simp
  refine planB_tail (fun cc u hS hB hI => ?_)
  have h7 := hB 23 (by simp)
  simp only [pa, dstOf, opsOf]
  generalize cc 23 = c2 at h7 ⊢
  have D := hide (hS.e.fillZ (cs := cells8 q4) (unhide hlt) (unhide hw0) h7.1 h7.2)
  have H7 := hide h7.1
  clear hS hB hI h7 hlt hw0
  refine wpList_store_row rfl 40 (.tmp 8) (.tmp 54) rfl _ (cells8 q4) rfl rfl 40 _ (unhide H7) iWide rfl (cells8_one _) ?_
  generalize u.setRow c2 (cells8 q4) = u2 at D ⊢
  clear H7
  go_simp
  go_wp2_with (first | (with_reducible refine at_list ?_; apply ldG (unhide D) rWide _ rfl rfl rfl (by repeat (first | exact List.mem_cons_self | apply List.mem_cons_of_mem)) rfl) | (go_at_call 85; with_reducible refine (unhide s5 _).mono ?_; rintro e w' ⟨he, hb⟩; subst he; have D := hide ((unhide D).keep hb); clear hb) | (with_reducible refine at_list ?_; apply stGend (unhide D) rWide _ _ rfl rfl rfl rfl (by repeat (first | exact List.mem_cons_self | apply List.mem_cons_of_mem)) (by omega) rfl rfl (cells8_one _); intro B O))
  exact resG rWide (unhide B) rfl rfl rfl rfl ⟨rfl, unhide O⟩
theorem RDot6 (ax ay az bx b_y bz_ : Int) (h1 : I64 ax) (h2 : I64 ay) (h3 : I64 az) (h4 : I64 bx) (h5 : I64 b_y) (h6 : I64 bz_) : Ans 34 #[.agg (v3 ax ay az), .agg (v3 bx b_y bz_)] (V (ax * bx + ay * b_y + az * bz_)) := fun w =>
  rdot_core ax ay az bx b_y bz_ _ _ _ _ _ w (RMul6 ax bx h1 h4) (RMul6 ay b_y h2 h5) (RMul6 az bz_ h3 h6) (Plus3 (h1.sz.mul h4.sz) (h2.sz.mul h5.sz) (by decide)) (Plus3 ((h1.sz.mul h4.sz).add (h2.sz.mul h5.sz)) ((h3.sz.mul h6.sz).mono (by decide)) (by decide))
theorem RCross6 (ax ay az bx b_y bz_ : Int) (h1 : I64 ax) (h2 : I64 ay) (h3 : I64 az) (h4 : I64 bx) (h5 : I64 b_y) (h6 : I64 bz_) : Ans 36 #[.agg (v3 ax ay az), .agg (v3 bx b_y bz_)] (.agg (c24 (enc (ay * bz_ - az * b_y)) (enc (az * bx - ax * bz_)) (enc (ax * b_y - ay * bx)))) := fun w =>
  rcross_core ax ay az bx b_y bz_ _ _ _ _ _ _ _ _ _ w (RMul6 ay bz_ h2 h6) (RMul6 az b_y h3 h5) (RMul6 az bx h3 h4) (RMul6 ax bz_ h1 h6) (RMul6 ax b_y h1 h5) (RMul6 ay bx h2 h4) (Less3 (h2.sz.mul h6.sz) (h3.sz.mul h5.sz) (by decide)) (Less3 (h3.sz.mul h4.sz) (h1.sz.mul h6.sz) (by decide)) (Less3 (h1.sz.mul h5.sz) (h2.sz.mul h4.sz) (by decide))
theorem RDet6 (ax ay az bx b_y bz_ cx cy cz : Int) (h1 : I64 ax) (h2 : I64 ay) (h3 : I64 az) (h4 : I64 bx) (h5 : I64 b_y) (h6 : I64 bz_) (h7 : I64 cx) (h8 : I64 cy) (h9 : I64 cz) : Ans 38 #[.agg (v3 ax ay az), .agg (v3 bx b_y bz_), .agg (v3 cx cy cz)] (V (detI ax ay az bx b_y bz_ cx cy cz)) := fun w => by
  have t1 := (h1.sz.mul h5.sz).mul h9.sz
  have t2 := (h2.sz.mul h6.sz).mul h7.sz
  have t3 := (h3.sz.mul h4.sz).mul h8.sz
  have t4 := (h3.sz.mul h5.sz).mul h7.sz
  have t5 := (h2.sz.mul h4.sz).mul h9.sz
  have t6 := (h1.sz.mul h6.sz).mul h8.sz
  have k := rdet_core ax ay az bx b_y bz_ cx cy cz _ _ _ _ _ _ _ _ _ _ _ w (RThree6 _ _ _ h1 h5 h9) (RThree6 _ _ _ h2 h6 h7) (RThree6 _ _ _ h3 h4 h8) (RThree6 _ _ _ h3 h5 h7) (RThree6 _ _ _ h2 h4 h9) (RThree6 _ _ _ h1 h6 h8)
    (Plus3 t1 t2 (by decide)) (Plus3 (t1.add t2) (t3.mono (by decide)) (by decide)) (Plus3 t4 t5 (by decide)) (Plus3 (t4.add t5) (t6.mono (by decide)) (by decide)) (Less3 ((t1.add t2).add (t3.mono (by decide))) ((t4.add t5).add (t6.mono (by decide))) (by decide))
  rw [show ax * b_y * cz + ay * bz_ * cx + az * bx * cy - (az * b_y * cx + ay * bx * cz + ax * bz_ * cy) = detI ax ay az bx b_y bz_ cx cy cz by unfold detI; grind] at k
  exact k
set_option maxHeartbeats 4000000 in
theorem products_law (ax ay az bx b_y bz_ cx cy cz : Int) (p x y z d : Nat) (w : World) (h1 : Hid (Ans 33 #[.agg (v3 ax ay az), .agg (v3 bx b_y bz_)] (.agg (cells8 p)))) (h2 : Hid (Ans 34 #[.agg (v3 ax ay az), .agg (v3 bx b_y bz_)] (.agg (cells8 p)))) (h3 : Hid (Ans 35 #[.agg (v3 ax ay az), .agg (v3 bx b_y bz_)] (.agg (c24 x y z)))) (h4 : Hid (Ans 36 #[.agg (v3 ax ay az), .agg (v3 bx b_y bz_)] (.agg (c24 x y z))))
    (h5 : Hid (Ans 37 #[.agg (v3 ax ay az), .agg (v3 bx b_y bz_), .agg (v3 cx cy cz)] (.agg (cells8 d)))) (h6 : Hid (Ans 38 #[.agg (v3 ax ay az), .agg (v3 bx b_y bz_), .agg (v3 cx cy cz)] (.agg (cells8 d)))) (e1 : same p p = true) (e2 : same3 x y z x y z = true) (e3 : same d d = true) (haw : Hid (Ans 28 #[] (.bool true))) :
    Calls Try.prog 5 #[.agg (v3 ax ay az), .agg (v3 bx b_y bz_), .agg (v3 cx cy cz)] w fun e w' => e = .returned (.bool true) ∧ Below w.heap.size w w' := by
  go_enter Try.func5, Try.ntmps5
  go_upto_region 1 with fail
  have D := hide ((((Gen.start w).push 26 (v3 ax ay az)).push 26 (v3 bx b_y bz_)).push 26 (v3 cx cy cz))
  simp only [szA] at D
  refine region_plan (S := Gen w _) (l := [0, 1, 2, 3, 4, 5, 6, 7, 8, 9, 10, 11, 12, 13, 14, 15, 16, 17, 18, 19, 20, 21, 22, 23, 24, 25, 26, 27, 28, 29, 30]) (by kernel_rfl) (by kernel_rfl) (by kernel_rfl) (by kernel_rfl) (by kernel_rfl) (by kernel_rfl) (by kernel_rfl) (unhide D).drew ?_
  clear D
  refine plan_read (v := .agg (v3 ax ay az)) rfl rfl (fun u hS => exec_ldG hS rPoint _ rfl rfl (by repeat (first | exact List.mem_cons_self | apply List.mem_cons_of_mem)) rfl) ?_
  go_simp
  refine plan_read (v := .agg (v3 bx b_y bz_)) rfl rfl (fun u hS => exec_ldG hS rPoint _ rfl rfl (by repeat (first | exact List.mem_cons_self | apply List.mem_cons_of_mem)) rfl) ?_
  go_simp
  refine plan_call (v := (.agg (cells8 p))) (f := 33) (args := #[.agg (v3 ax ay az), .agg (v3 bx b_y bz_)]) rfl rfl (fun u hS => by go_simp) (fun u hS => (unhide h1 u).mono fun _ _ ⟨he, hb⟩ => ⟨he, hS.keep hb⟩) ?_
  go_simp
  refine plan_read (v := .agg (v3 ax ay az)) rfl rfl (fun u hS => exec_ldG hS rPoint _ rfl rfl (by repeat (first | exact List.mem_cons_self | apply List.mem_cons_of_mem)) rfl) ?_
  go_simp
  refine plan_read (v := .agg (v3 bx b_y bz_)) rfl rfl (fun u hS => exec_ldG hS rPoint _ rfl rfl (by repeat (first | exact List.mem_cons_self | apply List.mem_cons_of_mem)) rfl) ?_
  go_simp
  refine plan_call (v := (.agg (cells8 p))) (f := 34) (args := #[.agg (v3 ax ay az), .agg (v3 bx b_y bz_)]) rfl rfl (fun u hS => by go_simp) (fun u hS => (unhide h2 u).mono fun _ _ ⟨he, hb⟩ => ⟨he, hS.keep hb⟩) ?_
  go_simp
  refine plan_read (v := .bool true) rfl rfl (fun u hS => exec_eql_wide_is u _ _ e1 rfl rfl rfl) ?_
  go_simp
  refine plan_read (v := ?_) rfl rfl (fun u hS => by go_simp; rfl) ?_
  go_simp
  refine plan_read (v := .agg (v3 ax ay az)) rfl rfl (fun u hS => exec_ldG hS rPoint _ rfl rfl (by repeat (first | exact List.mem_cons_self | apply List.mem_cons_of_mem)) rfl) ?_
  go_simp
  refine plan_read (v := .agg (v3 bx b_y bz_)) rfl rfl (fun u hS => exec_ldG hS rPoint _ rfl rfl (by repeat (first | exact List.mem_cons_self | apply List.mem_cons_of_mem)) rfl) ?_
  go_simp
  refine plan_call (v := (.agg (c24 x y z))) (f := 35) (args := #[.agg (v3 ax ay az), .agg (v3 bx b_y bz_)]) rfl rfl (fun u hS => by go_simp) (fun u hS => (unhide h3 u).mono fun _ _ ⟨he, hb⟩ => ⟨he, hS.keep hb⟩) ?_
  go_simp
  refine plan_read (v := .agg (v3 ax ay az)) rfl rfl (fun u hS => exec_ldG hS rPoint _ rfl rfl (by repeat (first | exact List.mem_cons_self | apply List.mem_cons_of_mem)) rfl) ?_
  go_simp
  refine plan_read (v := .agg (v3 bx b_y bz_)) rfl rfl (fun u hS => exec_ldG hS rPoint _ rfl rfl (by repeat (first | exact List.mem_cons_self | apply List.mem_cons_of_mem)) rfl) ?_
  go_simp
  refine plan_call (v := (.agg (c24 x y z))) (f := 36) (args := #[.agg (v3 ax ay az), .agg (v3 bx b_y bz_)]) rfl rfl (fun u hS => by go_simp) (fun u hS => (unhide h4 u).mono fun _ _ ⟨he, hb⟩ => ⟨he, hS.keep hb⟩) ?_
  go_simp
  refine plan_read (v := .bool true) rfl rfl (fun u hS => exec_eql_span u _ _ e2 rfl rfl rfl) ?_
  go_simp
  refine plan_read (v := ?_) rfl rfl (fun u hS => by go_simp; rfl) ?_
  go_simp
  refine plan_read (v := ?_) rfl rfl (fun u hS => by go_simp; rfl) ?_
  go_simp
  refine plan_read (v := .agg (v3 ax ay az)) rfl rfl (fun u hS => exec_ldG hS rPoint _ rfl rfl (by repeat (first | exact List.mem_cons_self | apply List.mem_cons_of_mem)) rfl) ?_
  go_simp
  refine plan_read (v := .agg (v3 bx b_y bz_)) rfl rfl (fun u hS => exec_ldG hS rPoint _ rfl rfl (by repeat (first | exact List.mem_cons_self | apply List.mem_cons_of_mem)) rfl) ?_
  go_simp
  refine plan_read (v := .agg (v3 cx cy cz)) rfl rfl (fun u hS => exec_ldG hS rPoint _ rfl rfl (by repeat (first | exact List.mem_cons_self | apply List.mem_cons_of_mem)) rfl) ?_
  go_simp
  refine plan_call (v := (.agg (cells8 d))) (f := 37) (args := #[.agg (v3 ax ay az), .agg (v3 bx b_y bz_), .agg (v3 cx cy cz)]) rfl rfl (fun u hS => by go_simp) (fun u hS => (unhide h5 u).mono fun _ _ ⟨he, hb⟩ => ⟨he, hS.keep hb⟩) ?_
  go_simp
  refine plan_read (v := .agg (v3 ax ay az)) rfl rfl (fun u hS => exec_ldG hS rPoint _ rfl rfl (by repeat (first | exact List.mem_cons_self | apply List.mem_cons_of_mem)) rfl) ?_
  go_simp
  refine plan_read (v := .agg (v3 bx b_y bz_)) rfl rfl (fun u hS => exec_ldG hS rPoint _ rfl rfl (by repeat (first | exact List.mem_cons_self | apply List.mem_cons_of_mem)) rfl) ?_
  go_simp
  refine plan_read (v := .agg (v3 cx cy cz)) rfl rfl (fun u hS => exec_ldG hS rPoint _ rfl rfl (by repeat (first | exact List.mem_cons_self | apply List.mem_cons_of_mem)) rfl) ?_
  go_simp
  refine plan_call (v := (.agg (cells8 d))) (f := 38) (args := #[.agg (v3 ax ay az), .agg (v3 bx b_y bz_), .agg (v3 cx cy cz)]) rfl rfl (fun u hS => by go_simp) (fun u hS => (unhide h6 u).mono fun _ _ ⟨he, hb⟩ => ⟨he, hS.keep hb⟩) ?_
  go_simp
  refine plan_read (v := .bool true) rfl rfl (fun u hS => exec_eql_wide_is u _ _ e3 rfl rfl rfl) ?_
  go_simp
  refine plan_read (v := ?_) rfl rfl (fun u hS => by go_simp; rfl) ?_
  go_simp
  refine plan_read (v := ?_) rfl rfl (fun u hS => by go_simp; rfl) ?_
  go_simp
  refine plan_call (v := (.bool true)) (f := 28) (args := #[]) rfl rfl (fun u hS => by go_simp) (fun u hS => (unhide haw u).mono fun _ _ ⟨he, hb⟩ => ⟨he, hS.keep hb⟩) ?_
  go_simp
  refine plan_read (v := ?_) rfl rfl (fun u hS => by go_simp; rfl) ?_
  go_simp
  refine plan_read (v := ?_) rfl rfl (fun u hS => by go_simp; rfl) ?_
  go_simp
  refine plan_end (fun u hS => ?_)
  have O := hide hS.o
  clear hS
  go_wp2
  go_ret
  exact ⟨rfl, unhide O⟩
theorem same_selfG (n : Nat) : same n n = true := by unfold same; simp
theorem same3_selfG (x y z : Nat) : same3 x y z x y z = true := by unfold same3; rw [same_selfG, same_selfG, same_selfG]; rfl
theorem gridProducts_walk (ax ay az bx b_y bz_ cx cy cz : Int) (h1' : (Lit.int .i64 ax).wf = true) (h2' : (Lit.int .i64 ay).wf = true) (h3' : (Lit.int .i64 az).wf = true) (h4' : (Lit.int .i64 bx).wf = true) (h5' : (Lit.int .i64 b_y).wf = true) (h6' : (Lit.int .i64 bz_).wf = true) (h7' : (Lit.int .i64 cx).wf = true) (h8' : (Lit.int .i64 cy).wf = true) (h9' : (Lit.int .i64 cz).wf = true) (w : World) :
    Calls Try.prog 5 #[.agg (v3 ax ay az), .agg (v3 bx b_y bz_), .agg (v3 cx cy cz)] w fun e w' => e = .returned (.bool true) ∧ Below w.heap.size w w' := by
  have h1 := I64.wf h1'
  have h2 := I64.wf h2'
  have h3 := I64.wf h3'
  have h4 := I64.wf h4'
  have h5 := I64.wf h5'
  have h6 := I64.wf h6'
  have h7 := I64.wf h7'
  have h8 := I64.wf h8'
  have h9 := I64.wf h9'
  exact products_law ax ay az bx b_y bz_ cx cy cz _ _ _ _ _ w (Dot6Z ax ay az bx b_y bz_ h1 h2 h3 h4 h5 h6) (RDot6 ax ay az bx b_y bz_ h1 h2 h3 h4 h5 h6) (Cross6Z ax ay az bx b_y bz_ h1 h2 h3 h4 h5 h6) (RCross6 ax ay az bx b_y bz_ h1 h2 h3 h4 h5 h6) (Det6Z ax ay az bx b_y bz_ cx cy cz h1 h2 h3 h4 h5 h6 h7 h8 h9) (RDet6 ax ay az bx b_y bz_ cx cy cz h1 h2 h3 h4 h5 h6 h7 h8 h9) (same_selfG _) (same3_selfG _ _ _) (same_selfG _) awake6Z

end Go.Proofs.Ytbgafjdgahikcaa
