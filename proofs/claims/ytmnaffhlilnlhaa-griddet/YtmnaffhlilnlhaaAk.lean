/- The law GridDet. -/
import Derived.Test.YtmnaffhlilnlhaaAg
namespace Go.Proofs.Ytmnaffhlilnlhaa
open Go.RowKit
set_option maxRecDepth 4000
set_option linter.unusedVariables false

set_option maxHeartbeats 4000000 in
theorem det_law (ax ay az bx b_y bz_ cx cy cz : Int) (d m n0 p1 p2 p3 q1 q2 q3 r1 r2 r3 : Nat) (w : World) (hd : Hid (Ans 29 #[.agg (v3 ax ay az), .agg (v3 bx b_y bz_), .agg (v3 cx cy cz)] (.agg (cells8 d)))) (x1 : Hid (Ans 27 #[.agg (v3 ax ay az), .agg (v3 bx b_y bz_)] (.agg (c24 p1 p2 p3)))) (a1 : Hid (Ans 31 #[.agg (c24 p1 p2 p3), .agg (v3 cx cy cz)] (.tuple #[.agg (cells8 d), .bool true])))
    (x2 : Hid (Ans 27 #[.agg (v3 bx b_y bz_), .agg (v3 cx cy cz)] (.agg (c24 q1 q2 q3)))) (a2 : Hid (Ans 31 #[.agg (c24 q1 q2 q3), .agg (v3 ax ay az)] (.tuple #[.agg (cells8 d), .bool true]))) (x3 : Hid (Ans 27 #[.agg (v3 cx cy cz), .agg (v3 ax ay az)] (.agg (c24 r1 r2 r3)))) (a3 : Hid (Ans 31 #[.agg (c24 r1 r2 r3), .agg (v3 bx b_y bz_)] (.tuple #[.agg (cells8 d), .bool true])))
    (hn : Hid (Ans 40 #[.agg (cells8 d)] (.tuple #[.agg (cells8 m), .bool true]))) (e1 : Hid (Ans 29 #[.agg (v3 bx b_y bz_), .agg (v3 ax ay az), .agg (v3 cx cy cz)] (.agg (cells8 m)))) (e2 : Hid (Ans 29 #[.agg (v3 ax ay az), .agg (v3 cx cy cz), .agg (v3 bx b_y bz_)] (.agg (cells8 m)))) (e3 : Hid (Ans 29 #[.agg (v3 cx cy cz), .agg (v3 bx b_y bz_), .agg (v3 ax ay az)] (.agg (cells8 m))))
    (z1 : Hid (Ans 29 #[.agg (v3 ax ay az), .agg (v3 ax ay az), .agg (v3 cx cy cz)] (.agg (cells8 n0)))) (z2 : Hid (Ans 29 #[.agg (v3 ax ay az), .agg (v3 bx b_y bz_), .agg (v3 bx b_y bz_)] (.agg (cells8 n0)))) (s0 : Hid (Ans 38 #[.agg (cells8 n0)] (.int .i64 0))) (haw : Hid (Ans 20 #[] (.bool true))) (sd : Hid (same d d = true)) (sm : Hid (same m m = true)) :
    Calls Try.prog 9 #[.agg (v3 ax ay az), .agg (v3 bx b_y bz_), .agg (v3 cx cy cz)] w fun e w' => e = .returned (.bool true) ∧ Below w.heap.size w w' := by
  go_enter Try.func9, Try.ntmps9
  go_upto_region 1 with fail
  have D := hide ((((Gen.start w).push 26 (v3 ax ay az)).push 26 (v3 bx b_y bz_)).push 26 (v3 cx cy cz))
  simp only [szA] at D
  go_upto_region 2 with (first | (with_reducible refine at_list ?_; apply ldG (unhide D) rPoint _ rfl rfl rfl (by repeat (first | exact List.mem_cons_self | apply List.mem_cons_of_mem)) rfl) | (go_at_call 29; with_reducible refine (unhide hd _).mono ?_; rintro e w' ⟨he, hb⟩; subst he; have D := hide ((unhide D).keep hb); clear hb) | (with_reducible refine at_list ?_; refine stG (unhide D) rWide _ _ rfl rfl rfl rfl rfl rfl (cells8_one _) ?_; intro D'; have D := hide D'; clear D'))
  generalize hw1 : w'.alloc (.cells (cells8 d) 40) = w1 at D ⊢
  have D1 : Hid (GenZ w _ w1.heap.size w1.drew) := ⟨(unhide D).drew, Nat.le_refl _⟩
  have hlt := hide (fun (p : Nat × TypeId × Array Value) hp => ((unhide D).at_ p hp).lt)
  have hw0 := hide (unhide D).o.size
  clear D hw1
  generalize w1.heap.size = C1 at D1 hlt hw0
  refine region_lazy (S := GenZ w _ C1) (v := .bool true) (ty := 40) (zs := z8) (base := C1) (l := [0, 1, 2, 3, 4, 5, 6]) (A := [8]) (z := 7) (t := 9) (r := [10]) (by kernel_rfl) (by kernel_rfl) (by kernel_rfl) (by kernel_rfl) (by kernel_rfl) (by kernel_rfl) (by kernel_rfl) (by kernel_rfl) (by kernel_rfl) (by kernel_rfl) rfl rfl ?_ (fun _ _ h hb => h.keep hb) (fun _ h => h.s) (unhide D1) ?_
  · intro i hi
    simp at hi
    subst hi
    exact ⟨_, rfl, rfl, fun a w => by go_simp⟩
  clear D1
  refine planB_read (v := .agg (v3 ax ay az)) rfl rfl (fun u hS => exec_ldG hS.e rPoint _ rfl rfl (by repeat (first | exact List.mem_cons_self | apply List.mem_cons_of_mem)) rfl) ?_
  go_simp
  refine planB_read (v := .agg (v3 bx b_y bz_)) rfl rfl (fun u hS => exec_ldG hS.e rPoint _ rfl rfl (by repeat (first | exact List.mem_cons_self | apply List.mem_cons_of_mem)) rfl) ?_
  go_simp
  refine planB_call (v := (.agg (c24 p1 p2 p3))) (f := 27) (args := #[.agg (v3 ax ay az), .agg (v3 bx b_y bz_)]) rfl rfl (fun u hS => by go_simp) (fun u hS => (unhide x1 u).mono fun _ _ ⟨he, hb⟩ => ⟨he, hS.keep hb, hb⟩) ?_
  go_simp
  refine planB_read (v := .agg (v3 cx cy cz)) rfl rfl (fun u hS => exec_ldG hS.e rPoint _ rfl rfl (by repeat (first | exact List.mem_cons_self | apply List.mem_cons_of_mem)) rfl) ?_
  go_simp
  refine planB_call (v := (.tuple #[.agg (cells8 d), .bool true])) (f := 31) (args := #[(.agg (c24 p1 p2 p3)), .agg (v3 cx cy cz)]) rfl rfl (fun u hS => by go_simp) (fun u hS => (unhide a1 u).mono fun _ _ ⟨he, hb⟩ => ⟨he, hS.keep hb, hb⟩) ?_
  go_simp
  refine planB_read (v := ?_) rfl rfl (fun u hS => by go_simp; rfl) ?_
  go_simp
  refine planB_read (v := ?_) rfl rfl (fun u hS => by go_simp; rfl) ?_
  go_simp
  refine planB_lazy rfl (fun u => by go_simp) rfl rfl (fun c u hS hB hI2 => ?_)
  have hB7 := hB 8 (by simp)
  clear hB hI2
  simp only [pa, dstOf]
  generalize c 8 = c1 at hB7 ⊢
  have D := hide (hS.e.fillZ (cs := cells8 d) (unhide hlt) (unhide hw0) hB7.1 hB7.2)
  refine ⟨_, exec_store8 (n := d) 40 (.tmp 8) (.tmp 26) hB7.1 rfl rfl rfl rfl iWide, ?_⟩
  clear hS hB7 hlt hw0
  generalize u.setRow c1 (cells8 d) = u1 at D ⊢
  simp only [opsOf]
  go_simp
  go_upto_region 3 with fail
  generalize hw2 : u1 = w2 at D ⊢
  have D1 : Hid (GenZ w _ w2.heap.size w2.drew) := ⟨(unhide D).drew, Nat.le_refl _⟩
  have hlt := hide (fun (p : Nat × TypeId × Array Value) hp => ((unhide D).at_ p hp).lt)
  have hw0 := hide (unhide D).o.size
  clear D hw2
  generalize w2.heap.size = C2 at D1 hlt hw0
  refine region_lazy (S := GenZ w _ C2) (v := .bool true) (ty := 40) (zs := z8) (base := C2) (l := [0, 1, 2, 3, 4, 5, 6]) (A := [8]) (z := 7) (t := 9) (r := [10]) (by kernel_rfl) (by kernel_rfl) (by kernel_rfl) (by kernel_rfl) (by kernel_rfl) (by kernel_rfl) (by kernel_rfl) (by kernel_rfl) (by kernel_rfl) (by kernel_rfl) rfl rfl ?_ (fun _ _ h hb => h.keep hb) (fun _ h => h.s) (unhide D1) ?_
  · intro i hi
    simp at hi
    subst hi
    exact ⟨_, rfl, rfl, fun a w => by go_simp⟩
  clear D1
  refine planB_read (v := .agg (v3 bx b_y bz_)) rfl rfl (fun u hS => exec_ldG hS.e rPoint _ rfl rfl (by repeat (first | exact List.mem_cons_self | apply List.mem_cons_of_mem)) rfl) ?_
  go_simp
  refine planB_read (v := .agg (v3 cx cy cz)) rfl rfl (fun u hS => exec_ldG hS.e rPoint _ rfl rfl (by repeat (first | exact List.mem_cons_self | apply List.mem_cons_of_mem)) rfl) ?_
  go_simp
  refine planB_call (v := (.agg (c24 q1 q2 q3))) (f := 27) (args := #[.agg (v3 bx b_y bz_), .agg (v3 cx cy cz)]) rfl rfl (fun u hS => by go_simp) (fun u hS => (unhide x2 u).mono fun _ _ ⟨he, hb⟩ => ⟨he, hS.keep hb, hb⟩) ?_
  go_simp
  refine planB_read (v := .agg (v3 ax ay az)) rfl rfl (fun u hS => exec_ldG hS.e rPoint _ rfl rfl (by repeat (first | exact List.mem_cons_self | apply List.mem_cons_of_mem)) rfl) ?_
  go_simp
  refine planB_call (v := (.tuple #[.agg (cells8 d), .bool true])) (f := 31) (args := #[(.agg (c24 q1 q2 q3)), .agg (v3 ax ay az)]) rfl rfl (fun u hS => by go_simp) (fun u hS => (unhide a2 u).mono fun _ _ ⟨he, hb⟩ => ⟨he, hS.keep hb, hb⟩) ?_
  go_simp
  refine planB_read (v := ?_) rfl rfl (fun u hS => by go_simp; rfl) ?_
  go_simp
  refine planB_read (v := ?_) rfl rfl (fun u hS => by go_simp; rfl) ?_
  go_simp
  refine planB_lazy rfl (fun u => by go_simp) rfl rfl (fun c u hS hB hI2 => ?_)
  have hB7 := hB 8 (by simp)
  clear hB hI2
  simp only [pa, dstOf]
  generalize c 8 = c2 at hB7 ⊢
  have D := hide (hS.e.fillZ (cs := cells8 d) (unhide hlt) (unhide hw0) hB7.1 hB7.2)
  refine ⟨_, exec_store8 (n := d) 40 (.tmp 10) (.tmp 34) hB7.1 rfl rfl rfl rfl iWide, ?_⟩
  clear hS hB7 hlt hw0
  generalize u.setRow c2 (cells8 d) = u2 at D ⊢
  simp only [opsOf]
  go_simp
  go_upto_region 4 with fail
  generalize hw3 : u2 = w3 at D ⊢
  have D1 : Hid (GenZ w _ w3.heap.size w3.drew) := ⟨(unhide D).drew, Nat.le_refl _⟩
  have hlt := hide (fun (p : Nat × TypeId × Array Value) hp => ((unhide D).at_ p hp).lt)
  have hw0 := hide (unhide D).o.size
  clear D hw3
  generalize w3.heap.size = C3 at D1 hlt hw0
  refine region_lazy (S := GenZ w _ C3) (v := .bool true) (ty := 40) (zs := z8) (base := C3) (l := [0, 1, 2, 3, 4, 5, 6]) (A := [8]) (z := 7) (t := 9) (r := [10]) (by kernel_rfl) (by kernel_rfl) (by kernel_rfl) (by kernel_rfl) (by kernel_rfl) (by kernel_rfl) (by kernel_rfl) (by kernel_rfl) (by kernel_rfl) (by kernel_rfl) rfl rfl ?_ (fun _ _ h hb => h.keep hb) (fun _ h => h.s) (unhide D1) ?_
  · intro i hi
    simp at hi
    subst hi
    exact ⟨_, rfl, rfl, fun a w => by go_simp⟩
  clear D1
  refine planB_read (v := .agg (v3 cx cy cz)) rfl rfl (fun u hS => exec_ldG hS.e rPoint _ rfl rfl (by repeat (first | exact List.mem_cons_self | apply List.mem_cons_of_mem)) rfl) ?_
  go_simp
  refine planB_read (v := .agg (v3 ax ay az)) rfl rfl (fun u hS => exec_ldG hS.e rPoint _ rfl rfl (by repeat (first | exact List.mem_cons_self | apply List.mem_cons_of_mem)) rfl) ?_
  go_simp
  refine planB_call (v := (.agg (c24 r1 r2 r3))) (f := 27) (args := #[.agg (v3 cx cy cz), .agg (v3 ax ay az)]) rfl rfl (fun u hS => by go_simp) (fun u hS => (unhide x3 u).mono fun _ _ ⟨he, hb⟩ => ⟨he, hS.keep hb, hb⟩) ?_
  go_simp
  refine planB_read (v := .agg (v3 bx b_y bz_)) rfl rfl (fun u hS => exec_ldG hS.e rPoint _ rfl rfl (by repeat (first | exact List.mem_cons_self | apply List.mem_cons_of_mem)) rfl) ?_
  go_simp
  refine planB_call (v := (.tuple #[.agg (cells8 d), .bool true])) (f := 31) (args := #[(.agg (c24 r1 r2 r3)), .agg (v3 bx b_y bz_)]) rfl rfl (fun u hS => by go_simp) (fun u hS => (unhide a3 u).mono fun _ _ ⟨he, hb⟩ => ⟨he, hS.keep hb, hb⟩) ?_
  go_simp
  refine planB_read (v := ?_) rfl rfl (fun u hS => by go_simp; rfl) ?_
  go_simp
  refine planB_read (v := ?_) rfl rfl (fun u hS => by go_simp; rfl) ?_
  go_simp
  refine planB_lazy rfl (fun u => by go_simp) rfl rfl (fun c u hS hB hI2 => ?_)
  have hB7 := hB 8 (by simp)
  clear hB hI2
  simp only [pa, dstOf]
  generalize c 8 = c3 at hB7 ⊢
  have D := hide (hS.e.fillZ (cs := cells8 d) (unhide hlt) (unhide hw0) hB7.1 hB7.2)
  refine ⟨_, exec_store8 (n := d) 40 (.tmp 12) (.tmp 42) hB7.1 rfl rfl rfl rfl iWide, ?_⟩
  clear hS hB7 hlt hw0
  generalize u.setRow c3 (cells8 d) = u3 at D ⊢
  simp only [opsOf]
  go_simp
  go_upto_region 6 with (first | (with_reducible refine at_list ?_; apply ldG (unhide D) rWide _ rfl rfl rfl (by repeat (first | exact List.mem_cons_self | apply List.mem_cons_of_mem)) rfl) | (go_at_call 40; with_reducible refine (unhide hn _).mono ?_; rintro e w' ⟨he, hb⟩; subst he; have D := hide ((unhide D).keep hb); clear hb) | (with_reducible refine at_list ?_; refine stG (unhide D) rWide _ _ rfl rfl rfl rfl rfl rfl (cells8_one _) ?_; intro D'; have D := hide D'; clear D'))
  refine region_plan (S := Gen w _) (l := [0, 1, 2, 3, 4, 5, 6, 7, 8, 9, 10, 11, 12, 13, 14, 15, 16, 17, 18, 19, 20, 21, 22, 23, 24, 25, 26, 27, 28, 29, 30, 31, 32, 33, 34, 35, 36, 37, 38, 39, 40, 41, 42, 43, 44, 45, 46, 47, 48, 49, 50, 51, 52, 53, 54, 55, 56]) (by kernel_rfl) (by kernel_rfl) (by kernel_rfl) (by kernel_rfl) (by kernel_rfl) (by kernel_rfl) (by kernel_rfl) (unhide D).drew ?_
  clear D
  refine plan_read (v := .agg (cells8 d)) rfl rfl (fun u hS => exec_ldG hS rWide _ rfl rfl (by repeat (first | exact List.mem_cons_self | apply List.mem_cons_of_mem)) rfl) ?_
  go_simp
  refine plan_read (v := .agg (cells8 d)) rfl rfl (fun u hS => exec_ldG hS rWide _ rfl rfl (by repeat (first | exact List.mem_cons_self | apply List.mem_cons_of_mem)) rfl) ?_
  go_simp
  refine plan_read (v := .bool true) rfl rfl (fun u hS => exec_eql_wide_is u _ _ (unhide sd) rfl rfl rfl) ?_
  go_simp
  refine plan_read (v := ?_) rfl rfl (fun u hS => by go_simp; rfl) ?_
  go_simp
  refine plan_read (v := .agg (cells8 d)) rfl rfl (fun u hS => exec_ldG hS rWide _ rfl rfl (by repeat (first | exact List.mem_cons_self | apply List.mem_cons_of_mem)) rfl) ?_
  go_simp
  refine plan_read (v := .agg (cells8 d)) rfl rfl (fun u hS => exec_ldG hS rWide _ rfl rfl (by repeat (first | exact List.mem_cons_self | apply List.mem_cons_of_mem)) rfl) ?_
  go_simp
  refine plan_read (v := .bool true) rfl rfl (fun u hS => exec_eql_wide_is u _ _ (unhide sd) rfl rfl rfl) ?_
  go_simp
  refine plan_read (v := ?_) rfl rfl (fun u hS => by go_simp; rfl) ?_
  go_simp
  refine plan_read (v := ?_) rfl rfl (fun u hS => by go_simp; rfl) ?_
  go_simp
  refine plan_read (v := .agg (cells8 d)) rfl rfl (fun u hS => exec_ldG hS rWide _ rfl rfl (by repeat (first | exact List.mem_cons_self | apply List.mem_cons_of_mem)) rfl) ?_
  go_simp
  refine plan_read (v := .agg (cells8 d)) rfl rfl (fun u hS => exec_ldG hS rWide _ rfl rfl (by repeat (first | exact List.mem_cons_self | apply List.mem_cons_of_mem)) rfl) ?_
  go_simp
  refine plan_read (v := .bool true) rfl rfl (fun u hS => exec_eql_wide_is u _ _ (unhide sd) rfl rfl rfl) ?_
  go_simp
  refine plan_read (v := ?_) rfl rfl (fun u hS => by go_simp; rfl) ?_
  go_simp
  refine plan_read (v := ?_) rfl rfl (fun u hS => by go_simp; rfl) ?_
  go_simp
  refine plan_read (v := .agg (v3 bx b_y bz_)) rfl rfl (fun u hS => exec_ldG hS rPoint _ rfl rfl (by repeat (first | exact List.mem_cons_self | apply List.mem_cons_of_mem)) rfl) ?_
  go_simp
  refine plan_read (v := .agg (v3 ax ay az)) rfl rfl (fun u hS => exec_ldG hS rPoint _ rfl rfl (by repeat (first | exact List.mem_cons_self | apply List.mem_cons_of_mem)) rfl) ?_
  go_simp
  refine plan_read (v := .agg (v3 cx cy cz)) rfl rfl (fun u hS => exec_ldG hS rPoint _ rfl rfl (by repeat (first | exact List.mem_cons_self | apply List.mem_cons_of_mem)) rfl) ?_
  go_simp
  refine plan_call (v := (.agg (cells8 m))) (f := 29) (args := #[.agg (v3 bx b_y bz_), .agg (v3 ax ay az), .agg (v3 cx cy cz)]) rfl rfl (fun u hS => by go_simp) (fun u hS => (unhide e1 u).mono fun _ _ ⟨he, hb⟩ => ⟨he, hS.keep hb⟩) ?_
  go_simp
  refine plan_read (v := .agg (cells8 m)) rfl rfl (fun u hS => exec_ldG hS rWide _ rfl rfl (by repeat (first | exact List.mem_cons_self | apply List.mem_cons_of_mem)) rfl) ?_
  go_simp
  refine plan_read (v := .bool true) rfl rfl (fun u hS => exec_eql_wide_is u _ _ (unhide sm) rfl rfl rfl) ?_
  go_simp
  refine plan_read (v := ?_) rfl rfl (fun u hS => by go_simp; rfl) ?_
  go_simp
  refine plan_read (v := ?_) rfl rfl (fun u hS => by go_simp; rfl) ?_
  go_simp
  refine plan_read (v := .agg (v3 ax ay az)) rfl rfl (fun u hS => exec_ldG hS rPoint _ rfl rfl (by repeat (first | exact List.mem_cons_self | apply List.mem_cons_of_mem)) rfl) ?_
  go_simp
  refine plan_read (v := .agg (v3 cx cy cz)) rfl rfl (fun u hS => exec_ldG hS rPoint _ rfl rfl (by repeat (first | exact List.mem_cons_self | apply List.mem_cons_of_mem)) rfl) ?_
  go_simp
  refine plan_read (v := .agg (v3 bx b_y bz_)) rfl rfl (fun u hS => exec_ldG hS rPoint _ rfl rfl (by repeat (first | exact List.mem_cons_self | apply List.mem_cons_of_mem)) rfl) ?_
  go_simp
  refine plan_call (v := (.agg (cells8 m))) (f := 29) (args := #[.agg (v3 ax ay az), .agg (v3 cx cy cz), .agg (v3 bx b_y bz_)]) rfl rfl (fun u hS => by go_simp) (fun u hS => (unhide e2 u).mono fun _ _ ⟨he, hb⟩ => ⟨he, hS.keep hb⟩) ?_
  go_simp
  refine plan_read (v := .agg (cells8 m)) rfl rfl (fun u hS => exec_ldG hS rWide _ rfl rfl (by repeat (first | exact List.mem_cons_self | apply List.mem_cons_of_mem)) rfl) ?_
  go_simp
  refine plan_read (v := .bool true) rfl rfl (fun u hS => exec_eql_wide_is u _ _ (unhide sm) rfl rfl rfl) ?_
  go_simp
  refine plan_read (v := ?_) rfl rfl (fun u hS => by go_simp; rfl) ?_
  go_simp
  refine plan_read (v := ?_) rfl rfl (fun u hS => by go_simp; rfl) ?_
  go_simp
  refine plan_read (v := .agg (v3 cx cy cz)) rfl rfl (fun u hS => exec_ldG hS rPoint _ rfl rfl (by repeat (first | exact List.mem_cons_self | apply List.mem_cons_of_mem)) rfl) ?_
  go_simp
  refine plan_read (v := .agg (v3 bx b_y bz_)) rfl rfl (fun u hS => exec_ldG hS rPoint _ rfl rfl (by repeat (first | exact List.mem_cons_self | apply List.mem_cons_of_mem)) rfl) ?_
  go_simp
  refine plan_read (v := .agg (v3 ax ay az)) rfl rfl (fun u hS => exec_ldG hS rPoint _ rfl rfl (by repeat (first | exact List.mem_cons_self | apply List.mem_cons_of_mem)) rfl) ?_
  go_simp
  refine plan_call (v := (.agg (cells8 m))) (f := 29) (args := #[.agg (v3 cx cy cz), .agg (v3 bx b_y bz_), .agg (v3 ax ay az)]) rfl rfl (fun u hS => by go_simp) (fun u hS => (unhide e3 u).mono fun _ _ ⟨he, hb⟩ => ⟨he, hS.keep hb⟩) ?_
  go_simp
  refine plan_read (v := .agg (cells8 m)) rfl rfl (fun u hS => exec_ldG hS rWide _ rfl rfl (by repeat (first | exact List.mem_cons_self | apply List.mem_cons_of_mem)) rfl) ?_
  go_simp
  refine plan_read (v := .bool true) rfl rfl (fun u hS => exec_eql_wide_is u _ _ (unhide sm) rfl rfl rfl) ?_
  go_simp
  refine plan_read (v := ?_) rfl rfl (fun u hS => by go_simp; rfl) ?_
  go_simp
  refine plan_read (v := ?_) rfl rfl (fun u hS => by go_simp; rfl) ?_
  go_simp
  refine plan_read (v := .agg (v3 ax ay az)) rfl rfl (fun u hS => exec_ldG hS rPoint _ rfl rfl (by repeat (first | exact List.mem_cons_self | apply List.mem_cons_of_mem)) rfl) ?_
  go_simp
  refine plan_read (v := .agg (v3 ax ay az)) rfl rfl (fun u hS => exec_ldG hS rPoint _ rfl rfl (by repeat (first | exact List.mem_cons_self | apply List.mem_cons_of_mem)) rfl) ?_
  go_simp
  refine plan_read (v := .agg (v3 cx cy cz)) rfl rfl (fun u hS => exec_ldG hS rPoint _ rfl rfl (by repeat (first | exact List.mem_cons_self | apply List.mem_cons_of_mem)) rfl) ?_
  go_simp
  refine plan_call (v := (.agg (cells8 n0))) (f := 29) (args := #[.agg (v3 ax ay az), .agg (v3 ax ay az), .agg (v3 cx cy cz)]) rfl rfl (fun u hS => by go_simp) (fun u hS => (unhide z1 u).mono fun _ _ ⟨he, hb⟩ => ⟨he, hS.keep hb⟩) ?_
  go_simp
  refine plan_call (v := (.int .i64 0)) (f := 38) (args := #[(.agg (cells8 n0))]) rfl rfl (fun u hS => by go_simp) (fun u hS => (unhide s0 u).mono fun _ _ ⟨he, hb⟩ => ⟨he, hS.keep hb⟩) ?_
  go_simp
  refine plan_read (v := ?_) rfl rfl (fun u hS => by go_simp; rfl) ?_
  go_simp
  refine plan_read (v := ?_) rfl rfl (fun u hS => by go_simp; rfl) ?_
  go_simp
  refine plan_read (v := ?_) rfl rfl (fun u hS => by go_simp; rfl) ?_
  go_simp
  refine plan_read (v := .agg (v3 ax ay az)) rfl rfl (fun u hS => exec_ldG hS rPoint _ rfl rfl (by repeat (first | exact List.mem_cons_self | apply List.mem_cons_of_mem)) rfl) ?_
  go_simp
  refine plan_read (v := .agg (v3 bx b_y bz_)) rfl rfl (fun u hS => exec_ldG hS rPoint _ rfl rfl (by repeat (first | exact List.mem_cons_self | apply List.mem_cons_of_mem)) rfl) ?_
  go_simp
  refine plan_read (v := .agg (v3 bx b_y bz_)) rfl rfl (fun u hS => exec_ldG hS rPoint _ rfl rfl (by repeat (first | exact List.mem_cons_self | apply List.mem_cons_of_mem)) rfl) ?_
  go_simp
  refine plan_call (v := (.agg (cells8 n0))) (f := 29) (args := #[.agg (v3 ax ay az), .agg (v3 bx b_y bz_), .agg (v3 bx b_y bz_)]) rfl rfl (fun u hS => by go_simp) (fun u hS => (unhide z2 u).mono fun _ _ ⟨he, hb⟩ => ⟨he, hS.keep hb⟩) ?_
  go_simp
  refine plan_call (v := (.int .i64 0)) (f := 38) (args := #[(.agg (cells8 n0))]) rfl rfl (fun u hS => by go_simp) (fun u hS => (unhide s0 u).mono fun _ _ ⟨he, hb⟩ => ⟨he, hS.keep hb⟩) ?_
  go_simp
  refine plan_read (v := ?_) rfl rfl (fun u hS => by go_simp; rfl) ?_
  go_simp
  refine plan_read (v := ?_) rfl rfl (fun u hS => by go_simp; rfl) ?_
  go_simp
  refine plan_read (v := ?_) rfl rfl (fun u hS => by go_simp; rfl) ?_
  go_simp
  refine plan_call (v := (.bool true)) (f := 20) (args := #[]) rfl rfl (fun u hS => by go_simp) (fun u hS => (unhide haw u).mono fun _ _ ⟨he, hb⟩ => ⟨he, hS.keep hb⟩) ?_
  go_simp
  refine plan_read (v := ?_) rfl rfl (fun u hS => by go_simp; rfl) ?_
  go_simp
  refine plan_read (v := ?_) rfl rfl (fun u hS => by go_simp; rfl) ?_
  go_simp
  refine plan_end (fun u hS => ?_)
  have O := hide hS.o
  clear hS
  go_wp2
  go_ret
  exact ⟨rfl, unhide O⟩

theorem detI_sz {ax ay az bx b_y bz_ cx cy cz : Int} (h1 : I64 ax) (h2 : I64 ay) (h3 : I64 az) (h4 : I64 bx) (h5 : I64 b_y) (h6 : I64 bz_) (h7 : I64 cx) (h8 : I64 cy) (h9 : I64 cz) : Sz 192 (detI ax ay az bx b_y bz_ cx cy cz) :=
  (((cross_sz h2 h6 h3 h5).mul h7.sz).add ((cross_sz h3 h4 h1 h6).mul h8.sz)).add (((cross_sz h1 h5 h2 h4).mul h9.sz).mono (by decide))
theorem sign0 : Ans 38 #[V 0] (.int .i64 0) := fun u => SignZ 0 fit_zero u
theorem gridDet_walk (ax ay az bx b_y bz_ cx cy cz : Int) (h1' : (Lit.int .i64 ax).wf = true) (h2' : (Lit.int .i64 ay).wf = true) (h3' : (Lit.int .i64 az).wf = true) (h4' : (Lit.int .i64 bx).wf = true) (h5' : (Lit.int .i64 b_y).wf = true) (h6' : (Lit.int .i64 bz_).wf = true) (h7' : (Lit.int .i64 cx).wf = true) (h8' : (Lit.int .i64 cy).wf = true) (h9' : (Lit.int .i64 cz).wf = true) (w : World) :
    Calls Try.prog 9 #[.agg (v3 ax ay az), .agg (v3 bx b_y bz_), .agg (v3 cx cy cz)] w fun e w' => e = .returned (.bool true) ∧ Below w.heap.size w w' := by
  have h1 := I64.wf h1'
  have h2 := I64.wf h2'
  have h3 := I64.wf h3'
  have h4 := I64.wf h4'
  have h5 := I64.wf h5'
  have h6 := I64.wf h6'
  have h7 := I64.wf h7'
  have h8 := I64.wf h8'
  have h9 := I64.wf h9'
  have d := Det6Z ax ay az bx b_y bz_ cx cy cz h1 h2 h3 h4 h5 h6 h7 h8 h9
  have a1 := AlongS _ _ _ cx cy cz ((cross_sz h2 h6 h3 h5).mono (by decide)) ((cross_sz h3 h4 h1 h6).mono (by decide)) ((cross_sz h1 h5 h2 h4).mono (by decide)) h7 h8 h9
  have a2 := AlongS _ _ _ ax ay az ((cross_sz h5 h9 h6 h8).mono (by decide)) ((cross_sz h6 h7 h4 h9).mono (by decide)) ((cross_sz h4 h8 h5 h7).mono (by decide)) h1 h2 h3
  have a3 := AlongS _ _ _ bx b_y bz_ ((cross_sz h8 h3 h9 h2).mono (by decide)) ((cross_sz h9 h1 h7 h3).mono (by decide)) ((cross_sz h7 h2 h8 h1).mono (by decide)) h4 h5 h6
  rw [show (ay * bz_ - az * b_y) * cx + (az * bx - ax * bz_) * cy + (ax * b_y - ay * bx) * cz = detI ax ay az bx b_y bz_ cx cy cz from rfl] at a1
  rw [show (b_y * cz - bz_ * cy) * ax + (bz_ * cx - bx * cz) * ay + (bx * cy - b_y * cx) * az = detI ax ay az bx b_y bz_ cx cy cz by unfold detI; grind] at a2
  rw [show (cy * az - cz * ay) * bx + (cz * ax - cx * az) * b_y + (cx * ay - cy * ax) * bz_ = detI ax ay az bx b_y bz_ cx cy cz by unfold detI; grind] at a3
  have n := fun u => NegZ (detI ax ay az bx b_y bz_ cx cy cz) ((detI_sz h1 h2 h3 h4 h5 h6 h7 h8 h9).fit (by decide)) u
  rw [toldZ_fit ((detI_sz h1 h2 h3 h4 h5 h6 h7 h8 h9).neg.fit (by decide))] at n
  have e1 := Det6Z bx b_y bz_ ax ay az cx cy cz h4 h5 h6 h1 h2 h3 h7 h8 h9
  have e2 := Det6Z ax ay az cx cy cz bx b_y bz_ h1 h2 h3 h7 h8 h9 h4 h5 h6
  have e3 := Det6Z cx cy cz bx b_y bz_ ax ay az h7 h8 h9 h4 h5 h6 h1 h2 h3
  have z1 := Det6Z ax ay az ax ay az cx cy cz h1 h2 h3 h1 h2 h3 h7 h8 h9
  have z2 := Det6Z ax ay az bx b_y bz_ bx b_y bz_ h1 h2 h3 h4 h5 h6 h4 h5 h6
  rw [show detI bx b_y bz_ ax ay az cx cy cz = -detI ax ay az bx b_y bz_ cx cy cz by unfold detI; grind] at e1
  rw [show detI ax ay az cx cy cz bx b_y bz_ = -detI ax ay az bx b_y bz_ cx cy cz by unfold detI; grind] at e2
  rw [show detI cx cy cz bx b_y bz_ ax ay az = -detI ax ay az bx b_y bz_ cx cy cz by unfold detI; grind] at e3
  rw [show detI ax ay az ax ay az cx cy cz = 0 by unfold detI; grind] at z1
  rw [show detI ax ay az bx b_y bz_ bx b_y bz_ = 0 by unfold detI; grind] at z2
  exact det_law ax ay az bx b_y bz_ cx cy cz _ _ _ _ _ _ _ _ _ _ _ _ w d (Cross6Z ax ay az bx b_y bz_ h1 h2 h3 h4 h5 h6) a1 (Cross6Z bx b_y bz_ cx cy cz h4 h5 h6 h7 h8 h9) a2 (Cross6Z cx cy cz ax ay az h7 h8 h9 h1 h2 h3) a3 n e1 e2 e3 z1 z2 sign0 awake6Z (same_self _) (same_self _)

end Go.Proofs.Ytmnaffhlilnlhaa
