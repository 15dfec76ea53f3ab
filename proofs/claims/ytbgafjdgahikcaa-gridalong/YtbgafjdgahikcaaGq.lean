/- The document's Along of layer 6; the law GridAlong. -/
import Derived.Test.YtbgafjdgahikcaaGp
namespace Go.Proofs.Ytbgafjdgahikcaa
open Go.RowKit
set_option maxRecDepth 4000
set_option linter.unusedVariables false

set_option maxHeartbeats 4000000 in
theorem ralong_0 (X Y Z : Nat) (p q r : Int) (ka kb kc x y z s t : Nat) (E1 E2 E3 E4 : Bool) (w : World) (m1 : Hid (Ans 90 #[.int .i64 p] (.agg (cells8 ka)))) (m2 : Hid (Ans 90 #[.int .i64 q] (.agg (cells8 kb)))) (m3 : Hid (Ans 90 #[.int .i64 r] (.agg (cells8 kc)))) (k1 : Hid (Ans 89 #[.agg (cells8 X), .agg (cells8 ka)] (.tuple #[.agg (cells8 x), .bool false]))) (k2 : Hid (Ans 89 #[.agg (cells8 Y), .agg (cells8 kb)] (.tuple #[.agg (cells8 y), .bool E1]))) (k3 : Hid (Ans 89 #[.agg (cells8 Z), .agg (cells8 kc)] (.tuple #[.agg (cells8 z), .bool E2]))) (s1 : Hid (Ans 91 #[.agg (cells8 x), .agg (cells8 y)] (.tuple #[.agg (cells8 s), .bool E3]))) (s2 : Hid (Ans 91 #[.agg (cells8 s), .agg (cells8 z)] (.tuple #[.agg (cells8 t), .bool E4]))) :
    Calls Try.prog 40 #[.agg (c24 X Y Z), .agg (v3 p q r)] w fun e w' => e = .returned (.tuple #[.agg (cells8 0), .bool false]) ∧ Below w.heap.size w w' := by
  go_enter Try.func40, Try.ntmps40
  go_upto_region 1 with fail
  have D := hide ((((Gen.start w).push 43 (c24 X Y Z)).push 26 (v3 p q r)).push 40 z8)
  simp only [szA] at D
  generalize hw1 : ((w.alloc (.cells (c24 X Y Z) 43)).alloc (.cells (v3 p q r) 26)).alloc (.cells z8 40) = w1 at D ⊢
  have D1 : Hid (GenZ w _ w1.heap.size w1.drew) := ⟨(unhide D).drew, Nat.le_refl _⟩
  have hlt := hide (fun (p : Nat × TypeId × Array Value) hp => ((unhide D).at_ p hp).lt)
  have hw0 := hide (unhide D).o.size
  clear D hw1
  generalize w1.heap.size = C1 at D1 hlt hw0
  refine region_lazy (S := GenZ w _ C1) (v := .bool false) (ty := 40) (zs := z8) (base := C1) (l := [0, 1, 2, 3, 4, 5, 6, 7]) (A := [9]) (z := 8) (t := 10) (r := [11]) (by kernel_rfl) (by kernel_rfl) (by kernel_rfl) (by kernel_rfl) (by kernel_rfl) (by kernel_rfl) (by kernel_rfl) (by kernel_rfl) (by kernel_rfl) (by kernel_rfl) rfl rfl ?_ (fun _ _ h hb => h.keep hb) (fun _ h => h.s) (unhide D1) ?_
  · intro i hi
    simp at hi
    subst hi
    exact ⟨_, rfl, rfl, fun a w => by go_simp⟩
  clear D1
  refine planB_read (v := ?_) rfl rfl (fun u hS => by go_simp; rfl) ?_
  go_simp
  refine planB_read (v := .agg (cells8 X)) rfl rfl (fun u hS => exec_mid _ rfl rfl (range_x (hS.e.blk (cs := c24 X Y Z) (List.mem_cons_of_mem _ (List.mem_cons_of_mem _ (List.mem_cons_self)))))) ?_
  go_simp
  refine planB_read (v := ?_) rfl rfl (fun u hS => by go_simp; rfl) ?_
  go_simp
  refine planB_read (v := .int .i64 p) rfl rfl (fun u hS => exec_loadIG hS.e _ rfl rfl (by repeat (first | exact List.mem_cons_self | apply List.mem_cons_of_mem)) rfl) ?_
  go_simp
  refine planB_call (v := (.agg (cells8 ka))) (f := 90) (args := #[.int .i64 p]) rfl rfl (fun u hS => by go_simp) (fun u hS => (unhide m1 u).mono fun _ _ ⟨he, hb⟩ => ⟨he, hS.keep hb, hb⟩) ?_
  go_simp
  refine planB_call (v := (.tuple #[.agg (cells8 x), .bool false])) (f := 89) (args := #[.agg (cells8 X), (.agg (cells8 ka))]) rfl rfl (fun u hS => by go_simp) (fun u hS => (unhide k1 u).mono fun _ _ ⟨he, hb⟩ => ⟨he, hS.keep hb, hb⟩) ?_
  go_simp
  refine planB_read (v := ?_) rfl rfl (fun u hS => by go_simp; rfl) ?_
  go_simp
  refine planB_read (v := ?_) rfl rfl (fun u hS => by go_simp; rfl) ?_
  go_simp
  refine planB_lazy rfl (fun u => by go_simp) rfl rfl (fun c u hS hB hI2 => ?_)
  have hB7 := hB 9 (by simp)
  clear hB hI2
  simp only [pa, dstOf]
  generalize c 9 = c1 at hB7 ⊢
  have D := hide (hS.e.fillZ (cs := cells8 x) (unhide hlt) (unhide hw0) hB7.1 hB7.2)
  refine ⟨_, exec_store8 (n := x) 40 (.tmp 6) (.tmp 23) hB7.1 rfl rfl rfl rfl iWide, ?_⟩
  clear hS hB7 hlt hw0
  generalize u.setRow c1 (cells8 x) = u1 at D ⊢
  simp only [opsOf]
  go_simp
  go_upto_region 2 with fail
  generalize hw2 : u1 = w2 at D ⊢
  have D1 : Hid (GenZ w _ w2.heap.size w2.drew) := ⟨(unhide D).drew, Nat.le_refl _⟩
  have hlt := hide (fun (p : Nat × TypeId × Array Value) hp => ((unhide D).at_ p hp).lt)
  have hw0 := hide (unhide D).o.size
  clear D hw2
  generalize w2.heap.size = C2 at D1 hlt hw0
  refine region_lazy (S := GenZ w _ C2) (v := .bool E1) (ty := 40) (zs := z8) (base := C2) (l := [0, 1, 2, 3, 4, 5, 6, 7]) (A := [9]) (z := 8) (t := 10) (r := [11]) (by kernel_rfl) (by kernel_rfl) (by kernel_rfl) (by kernel_rfl) (by kernel_rfl) (by kernel_rfl) (by kernel_rfl) (by kernel_rfl) (by kernel_rfl) (by kernel_rfl) rfl rfl ?_ (fun _ _ h hb => h.keep hb) (fun _ h => h.s) (unhide D1) ?_
  · intro i hi
    simp at hi
    subst hi
    exact ⟨_, rfl, rfl, fun a w => by go_simp⟩
  clear D1
  refine planB_read (v := ?_) rfl rfl (fun u hS => by go_simp; rfl) ?_
  go_simp
  refine planB_read (v := .agg (cells8 Y)) rfl rfl (fun u hS => exec_mid _ rfl rfl (range_y (hS.e.blk (cs := c24 X Y Z) (List.mem_cons_of_mem _ (List.mem_cons_of_mem _ (List.mem_cons_of_mem _ (List.mem_cons_self))))))) ?_
  go_simp
  refine planB_read (v := ?_) rfl rfl (fun u hS => by go_simp; rfl) ?_
  go_simp
  refine planB_read (v := .int .i64 q) rfl rfl (fun u hS => exec_loadIG hS.e _ rfl rfl (by repeat (first | exact List.mem_cons_self | apply List.mem_cons_of_mem)) rfl) ?_
  go_simp
  refine planB_call (v := (.agg (cells8 kb))) (f := 90) (args := #[.int .i64 q]) rfl rfl (fun u hS => by go_simp) (fun u hS => (unhide m2 u).mono fun _ _ ⟨he, hb⟩ => ⟨he, hS.keep hb, hb⟩) ?_
  go_simp
  refine planB_call (v := (.tuple #[.agg (cells8 y), .bool E1])) (f := 89) (args := #[.agg (cells8 Y), (.agg (cells8 kb))]) rfl rfl (fun u hS => by go_simp) (fun u hS => (unhide k2 u).mono fun _ _ ⟨he, hb⟩ => ⟨he, hS.keep hb, hb⟩) ?_
  go_simp
  refine planB_read (v := ?_) rfl rfl (fun u hS => by go_simp; rfl) ?_
  go_simp
  refine planB_read (v := ?_) rfl rfl (fun u hS => by go_simp; rfl) ?_
  go_simp
  refine planB_lazy rfl (fun u => by go_simp) rfl rfl (fun c u hS hB hI2 => ?_)
  have hB7 := hB 9 (by simp)
  clear hB hI2
  simp only [pa, dstOf]
  generalize c 9 = c2 at hB7 ⊢
  have D := hide (hS.e.fillZ (cs := cells8 y) (unhide hlt) (unhide hw0) hB7.1 hB7.2)
  refine ⟨_, exec_store8 (n := y) 40 (.tmp 8) (.tmp 32) hB7.1 rfl rfl rfl rfl iWide, ?_⟩
  clear hS hB7 hlt hw0
  generalize u.setRow c2 (cells8 y) = u2 at D ⊢
  simp only [opsOf]
  go_simp
  go_upto_region 3 with fail
  generalize hw3 : u2 = w3 at D ⊢
  have D1 : Hid (GenZ w _ w3.heap.size w3.drew) := ⟨(unhide D).drew, Nat.le_refl _⟩
  have hlt := hide (fun (p : Nat × TypeId × Array Value) hp => ((unhide D).at_ p hp).lt)
  have hw0 := hide (unhide D).o.size
  clear D hw3
  generalize w3.heap.size = C3 at D1 hlt hw0
  refine region_lazy (S := GenZ w _ C3) (v := .bool E2) (ty := 40) (zs := z8) (base := C3) (l := [0, 1, 2, 3, 4, 5, 6, 7]) (A := [9]) (z := 8) (t := 10) (r := [11]) (by kernel_rfl) (by kernel_rfl) (by kernel_rfl) (by kernel_rfl) (by kernel_rfl) (by kernel_rfl) (by kernel_rfl) (by kernel_rfl) (by kernel_rfl) (by kernel_rfl) rfl rfl ?_ (fun _ _ h hb => h.keep hb) (fun _ h => h.s) (unhide D1) ?_
  · intro i hi
    simp at hi
    subst hi
    exact ⟨_, rfl, rfl, fun a w => by go_simp⟩
  clear D1
  refine planB_read (v := ?_) rfl rfl (fun u hS => by go_simp; rfl) ?_
  go_simp
  refine planB_read (v := .agg (cells8 Z)) rfl rfl (fun u hS => exec_mid _ rfl rfl (range_z (hS.e.blk (cs := c24 X Y Z) (List.mem_cons_of_mem _ (List.mem_cons_of_mem _ (List.mem_cons_of_mem _ (List.mem_cons_of_mem _ (List.mem_cons_self)))))))) ?_
  go_simp
  refine planB_read (v := ?_) rfl rfl (fun u hS => by go_simp; rfl) ?_
  go_simp
  refine planB_read (v := .int .i64 r) rfl rfl (fun u hS => exec_loadIG hS.e _ rfl rfl (by repeat (first | exact List.mem_cons_self | apply List.mem_cons_of_mem)) rfl) ?_
  go_simp
  refine planB_call (v := (.agg (cells8 kc))) (f := 90) (args := #[.int .i64 r]) rfl rfl (fun u hS => by go_simp) (fun u hS => (unhide m3 u).mono fun _ _ ⟨he, hb⟩ => ⟨he, hS.keep hb, hb⟩) ?_
  go_simp
  refine planB_call (v := (.tuple #[.agg (cells8 z), .bool E2])) (f := 89) (args := #[.agg (cells8 Z), (.agg (cells8 kc))]) rfl rfl (fun u hS => by go_simp) (fun u hS => (unhide k3 u).mono fun _ _ ⟨he, hb⟩ => ⟨he, hS.keep hb, hb⟩) ?_
  go_simp
  refine planB_read (v := ?_) rfl rfl (fun u hS => by go_simp; rfl) ?_
  go_simp
  refine planB_read (v := ?_) rfl rfl (fun u hS => by go_simp; rfl) ?_
  go_simp
  refine planB_lazy rfl (fun u => by go_simp) rfl rfl (fun c u hS hB hI2 => ?_)
  have hB7 := hB 9 (by simp)
  clear hB hI2
  simp only [pa, dstOf]
  generalize c 9 = c3 at hB7 ⊢
  have D := hide (hS.e.fillZ (cs := cells8 z) (unhide hlt) (unhide hw0) hB7.1 hB7.2)
  refine ⟨_, exec_store8 (n := z) 40 (.tmp 10) (.tmp 41) hB7.1 rfl rfl rfl rfl iWide, ?_⟩
  clear hS hB7 hlt hw0
  generalize u.setRow c3 (cells8 z) = u3 at D ⊢
  simp only [opsOf]
  go_simp
  go_wp2_with (first | (with_reducible refine at_list ?_; apply ldG (unhide D) rWide _ rfl rfl rfl (by repeat (first | exact List.mem_cons_self | apply List.mem_cons_of_mem)) rfl) | (go_at_call 91; with_reducible refine (unhide s1 _).mono ?_; rintro e w' ⟨he, hb⟩; subst he; have D := hide ((unhide D).keep hb); clear hb) | (go_at_call 91; with_reducible refine (unhide s2 _).mono ?_; rintro e w' ⟨he, hb⟩; subst he; have D := hide ((unhide D).keep hb); clear hb) | (with_reducible refine at_list ?_; refine stG (unhide D) rWide _ _ rfl rfl rfl rfl rfl rfl (cells8_one _) ?_; intro D'; have D := hide D'; clear D') | (with_reducible refine at_list ?_;  refine bd0 40 rfl rfl bWide0 ?_) | (with_reducible refine at_list ?_; apply stGend (unhide D) rWide _ _ rfl rfl rfl rfl (by repeat (first | exact List.mem_cons_self | apply List.mem_cons_of_mem)) (by omega) rfl rfl (cells8_one _); intro B O))
  exact resGT rWide (unhide B) rfl rfl rfl rfl rfl ⟨rfl, unhide O⟩
set_option maxHeartbeats 4000000 in
theorem ralong_1 (X Y Z : Nat) (p q r : Int) (ka kb kc x y z s t : Nat) (E2 E3 E4 : Bool) (w : World) (m1 : Hid (Ans 90 #[.int .i64 p] (.agg (cells8 ka)))) (m2 : Hid (Ans 90 #[.int .i64 q] (.agg (cells8 kb)))) (m3 : Hid (Ans 90 #[.int .i64 r] (.agg (cells8 kc)))) (k1 : Hid (Ans 89 #[.agg (cells8 X), .agg (cells8 ka)] (.tuple #[.agg (cells8 x), .bool true]))) (k2 : Hid (Ans 89 #[.agg (cells8 Y), .agg (cells8 kb)] (.tuple #[.agg (cells8 y), .bool false]))) (k3 : Hid (Ans 89 #[.agg (cells8 Z), .agg (cells8 kc)] (.tuple #[.agg (cells8 z), .bool E2]))) (s1 : Hid (Ans 91 #[.agg (cells8 x), .agg (cells8 y)] (.tuple #[.agg (cells8 s), .bool E3]))) (s2 : Hid (Ans 91 #[.agg (cells8 s), .agg (cells8 z)] (.tuple #[.agg (cells8 t), .bool E4]))) :
    Calls Try.prog 40 #[.agg (c24 X Y Z), .agg (v3 p q r)] w fun e w' => e = .returned (.tuple #[.agg (cells8 0), .bool false]) ∧ Below w.heap.size w w' := by
  go_enter Try.func40, Try.ntmps40
  go_upto_region 1 with fail
  have D := hide ((((Gen.start w).push 43 (c24 X Y Z)).push 26 (v3 p q r)).push 40 z8)
  simp only [szA] at D
  generalize hw1 : ((w.alloc (.cells (c24 X Y Z) 43)).alloc (.cells (v3 p q r) 26)).alloc (.cells z8 40) = w1 at D ⊢
  have D1 : Hid (GenZ w _ w1.heap.size w1.drew) := ⟨(unhide D).drew, Nat.le_refl _⟩
  have hlt := hide (fun (p : Nat × TypeId × Array Value) hp => ((unhide D).at_ p hp).lt)
  have hw0 := hide (unhide D).o.size
  clear D hw1
  generalize w1.heap.size = C1 at D1 hlt hw0
  refine region_lazy (S := GenZ w _ C1) (v := .bool true) (ty := 40) (zs := z8) (base := C1) (l := [0, 1, 2, 3, 4, 5, 6, 7]) (A := [9]) (z := 8) (t := 10) (r := [11]) (by kernel_rfl) (by kernel_rfl) (by kernel_rfl) (by kernel_rfl) (by kernel_rfl) (by kernel_rfl) (by kernel_rfl) (by kernel_rfl) (by kernel_rfl) (by kernel_rfl) rfl rfl ?_ (fun _ _ h hb => h.keep hb) (fun _ h => h.s) (unhide D1) ?_
  · intro i hi
    simp at hi
    subst hi
    exact ⟨_, rfl, rfl, fun a w => by go_simp⟩
  clear D1
  refine planB_read (v := ?_) rfl rfl (fun u hS => by go_simp; rfl) ?_
  go_simp
  refine planB_read (v := .agg (cells8 X)) rfl rfl (fun u hS => exec_mid _ rfl rfl (range_x (hS.e.blk (cs := c24 X Y Z) (List.mem_cons_of_mem _ (List.mem_cons_of_mem _ (List.mem_cons_self)))))) ?_
  go_simp
  refine planB_read (v := ?_) rfl rfl (fun u hS => by go_simp; rfl) ?_
  go_simp
  refine planB_read (v := .int .i64 p) rfl rfl (fun u hS => exec_loadIG hS.e _ rfl rfl (by repeat (first | exact List.mem_cons_self | apply List.mem_cons_of_mem)) rfl) ?_
  go_simp
  refine planB_call (v := (.agg (cells8 ka))) (f := 90) (args := #[.int .i64 p]) rfl rfl (fun u hS => by go_simp) (fun u hS => (unhide m1 u).mono fun _ _ ⟨he, hb⟩ => ⟨he, hS.keep hb, hb⟩) ?_
  go_simp
  refine planB_call (v := (.tuple #[.agg (cells8 x), .bool true])) (f := 89) (args := #[.agg (cells8 X), (.agg (cells8 ka))]) rfl rfl (fun u hS => by go_simp) (fun u hS => (unhide k1 u).mono fun _ _ ⟨he, hb⟩ => ⟨he, hS.keep hb, hb⟩) ?_
  go_simp
  refine planB_read (v := ?_) rfl rfl (fun u hS => by go_simp; rfl) ?_
  go_simp
  refine planB_read (v := ?_) rfl rfl (fun u hS => by go_simp; rfl) ?_
  go_simp
  refine planB_lazy rfl (fun u => by go_simp) rfl rfl (fun c u hS hB hI2 => ?_)
  have hB7 := hB 9 (by simp)
  clear hB hI2
  simp only [pa, dstOf]
  generalize c 9 = c1 at hB7 ⊢
  have D := hide (hS.e.fillZ (cs := cells8 x) (unhide hlt) (unhide hw0) hB7.1 hB7.2)
  refine ⟨_, exec_store8 (n := x) 40 (.tmp 6) (.tmp 23) hB7.1 rfl rfl rfl rfl iWide, ?_⟩
  clear hS hB7 hlt hw0
  generalize u.setRow c1 (cells8 x) = u1 at D ⊢
  simp only [opsOf]
  go_simp
  go_upto_region 2 with fail
  generalize hw2 : u1 = w2 at D ⊢
  have D1 : Hid (GenZ w _ w2.heap.size w2.drew) := ⟨(unhide D).drew, Nat.le_refl _⟩
  have hlt := hide (fun (p : Nat × TypeId × Array Value) hp => ((unhide D).at_ p hp).lt)
  have hw0 := hide (unhide D).o.size
  clear D hw2
  generalize w2.heap.size = C2 at D1 hlt hw0
  refine region_lazy (S := GenZ w _ C2) (v := .bool false) (ty := 40) (zs := z8) (base := C2) (l := [0, 1, 2, 3, 4, 5, 6, 7]) (A := [9]) (z := 8) (t := 10) (r := [11]) (by kernel_rfl) (by kernel_rfl) (by kernel_rfl) (by kernel_rfl) (by kernel_rfl) (by kernel_rfl) (by kernel_rfl) (by kernel_rfl) (by kernel_rfl) (by kernel_rfl) rfl rfl ?_ (fun _ _ h hb => h.keep hb) (fun _ h => h.s) (unhide D1) ?_
  · intro i hi
    simp at hi
    subst hi
    exact ⟨_, rfl, rfl, fun a w => by go_simp⟩
  clear D1
  refine planB_read (v := ?_) rfl rfl (fun u hS => by go_simp; rfl) ?_
  go_simp
  refine planB_read (v := .agg (cells8 Y)) rfl rfl (fun u hS => exec_mid _ rfl rfl (range_y (hS.e.blk (cs := c24 X Y Z) (List.mem_cons_of_mem _ (List.mem_cons_of_mem _ (List.mem_cons_of_mem _ (List.mem_cons_self))))))) ?_
  go_simp
  refine planB_read (v := ?_) rfl rfl (fun u hS => by go_simp; rfl) ?_
  go_simp
  refine planB_read (v := .int .i64 q) rfl rfl (fun u hS => exec_loadIG hS.e _ rfl rfl (by repeat (first | exact List.mem_cons_self | apply List.mem_cons_of_mem)) rfl) ?_
  go_simp
  refine planB_call (v := (.agg (cells8 kb))) (f := 90) (args := #[.int .i64 q]) rfl rfl (fun u hS => by go_simp) (fun u hS => (unhide m2 u).mono fun _ _ ⟨he, hb⟩ => ⟨he, hS.keep hb, hb⟩) ?_
  go_simp
  refine planB_call (v := (.tuple #[.agg (cells8 y), .bool false])) (f := 89) (args := #[.agg (cells8 Y), (.agg (cells8 kb))]) rfl rfl (fun u hS => by go_simp) (fun u hS => (unhide k2 u).mono fun _ _ ⟨he, hb⟩ => ⟨he, hS.keep hb, hb⟩) ?_
  go_simp
  refine planB_read (v := ?_) rfl rfl (fun u hS => by go_simp; rfl) ?_
  go_simp
  refine planB_read (v := ?_) rfl rfl (fun u hS => by go_simp; rfl) ?_
  go_simp
  refine planB_lazy rfl (fun u => by go_simp) rfl rfl (fun c u hS hB hI2 => ?_)
  have hB7 := hB 9 (by simp)
  clear hB hI2
  simp only [pa, dstOf]
  generalize c 9 = c2 at hB7 ⊢
  have D := hide (hS.e.fillZ (cs := cells8 y) (unhide hlt) (unhide hw0) hB7.1 hB7.2)
  refine ⟨_, exec_store8 (n := y) 40 (.tmp 8) (.tmp 32) hB7.1 rfl rfl rfl rfl iWide, ?_⟩
  clear hS hB7 hlt hw0
  generalize u.setRow c2 (cells8 y) = u2 at D ⊢
  simp only [opsOf]
  go_simp
  go_upto_region 3 with fail
  generalize hw3 : u2 = w3 at D ⊢
  have D1 : Hid (GenZ w _ w3.heap.size w3.drew) := ⟨(unhide D).drew, Nat.le_refl _⟩
  have hlt := hide (fun (p : Nat × TypeId × Array Value) hp => ((unhide D).at_ p hp).lt)
  have hw0 := hide (unhide D).o.size
  clear D hw3
  generalize w3.heap.size = C3 at D1 hlt hw0
  refine region_lazy (S := GenZ w _ C3) (v := .bool E2) (ty := 40) (zs := z8) (base := C3) (l := [0, 1, 2, 3, 4, 5, 6, 7]) (A := [9]) (z := 8) (t := 10) (r := [11]) (by kernel_rfl) (by kernel_rfl) (by kernel_rfl) (by kernel_rfl) (by kernel_rfl) (by kernel_rfl) (by kernel_rfl) (by kernel_rfl) (by kernel_rfl) (by kernel_rfl) rfl rfl ?_ (fun _ _ h hb => h.keep hb) (fun _ h => h.s) (unhide D1) ?_
  · intro i hi
    simp at hi
    subst hi
    exact ⟨_, rfl, rfl, fun a w => by go_simp⟩
  clear D1
  refine planB_read (v := ?_) rfl rfl (fun u hS => by go_simp; rfl) ?_
  go_simp
  refine planB_read (v := .agg (cells8 Z)) rfl rfl (fun u hS => exec_mid _ rfl rfl (range_z (hS.e.blk (cs := c24 X Y Z) (List.mem_cons_of_mem _ (List.mem_cons_of_mem _ (List.mem_cons_of_mem _ (List.mem_cons_of_mem _ (List.mem_cons_self)))))))) ?_
  go_simp
  refine planB_read (v := ?_) rfl rfl (fun u hS => by go_simp; rfl) ?_
  go_simp
  refine planB_read (v := .int .i64 r) rfl rfl (fun u hS => exec_loadIG hS.e _ rfl rfl (by repeat (first | exact List.mem_cons_self | apply List.mem_cons_of_mem)) rfl) ?_
  go_simp
  refine planB_call (v := (.agg (cells8 kc))) (f := 90) (args := #[.int .i64 r]) rfl rfl (fun u hS => by go_simp) (fun u hS => (unhide m3 u).mono fun _ _ ⟨he, hb⟩ => ⟨he, hS.keep hb, hb⟩) ?_
  go_simp
  refine planB_call (v := (.tuple #[.agg (cells8 z), .bool E2])) (f := 89) (args := #[.agg (cells8 Z), (.agg (cells8 kc))]) rfl rfl (fun u hS => by go_simp) (fun u hS => (unhide k3 u).mono fun _ _ ⟨he, hb⟩ => ⟨he, hS.keep hb, hb⟩) ?_
  go_simp
  refine planB_read (v := ?_) rfl rfl (fun u hS => by go_simp; rfl) ?_
  go_simp
  refine planB_read (v := ?_) rfl rfl (fun u hS => by go_simp; rfl) ?_
  go_simp
  refine planB_lazy rfl (fun u => by go_simp) rfl rfl (fun c u hS hB hI2 => ?_)
  have hB7 := hB 9 (by simp)
  clear hB hI2
  simp only [pa, dstOf]
  generalize c 9 = c3 at hB7 ⊢
  have D := hide (hS.e.fillZ (cs := cells8 z) (unhide hlt) (unhide hw0) hB7.1 hB7.2)
  refine ⟨_, exec_store8 (n := z) 40 (.tmp 10) (.tmp 41) hB7.1 rfl rfl rfl rfl iWide, ?_⟩
  clear hS hB7 hlt hw0
  generalize u.setRow c3 (cells8 z) = u3 at D ⊢
  simp only [opsOf]
  go_simp
  go_wp2_with (first | (with_reducible refine at_list ?_; apply ldG (unhide D) rWide _ rfl rfl rfl (by repeat (first | exact List.mem_cons_self | apply List.mem_cons_of_mem)) rfl) | (go_at_call 91; with_reducible refine (unhide s1 _).mono ?_; rintro e w' ⟨he, hb⟩; subst he; have D := hide ((unhide D).keep hb); clear hb) | (go_at_call 91; with_reducible refine (unhide s2 _).mono ?_; rintro e w' ⟨he, hb⟩; subst he; have D := hide ((unhide D).keep hb); clear hb) | (with_reducible refine at_list ?_; refine stG (unhide D) rWide _ _ rfl rfl rfl rfl rfl rfl (cells8_one _) ?_; intro D'; have D := hide D'; clear D') | (with_reducible refine at_list ?_;  refine bd0 40 rfl rfl bWide0 ?_) | (with_reducible refine at_list ?_; apply stGend (unhide D) rWide _ _ rfl rfl rfl rfl (by repeat (first | exact List.mem_cons_self | apply List.mem_cons_of_mem)) (by omega) rfl rfl (cells8_one _); intro B O))
  exact resGT rWide (unhide B) rfl rfl rfl rfl rfl ⟨rfl, unhide O⟩
set_option maxHeartbeats 4000000 in
theorem ralong_2 (X Y Z : Nat) (p q r : Int) (ka kb kc x y z s t : Nat) (E3 E4 : Bool) (w : World) (m1 : Hid (Ans 90 #[.int .i64 p] (.agg (cells8 ka)))) (m2 : Hid (Ans 90 #[.int .i64 q] (.agg (cells8 kb)))) (m3 : Hid (Ans 90 #[.int .i64 r] (.agg (cells8 kc)))) (k1 : Hid (Ans 89 #[.agg (cells8 X), .agg (cells8 ka)] (.tuple #[.agg (cells8 x), .bool true]))) (k2 : Hid (Ans 89 #[.agg (cells8 Y), .agg (cells8 kb)] (.tuple #[.agg (cells8 y), .bool true]))) (k3 : Hid (Ans 89 #[.agg (cells8 Z), .agg (cells8 kc)] (.tuple #[.agg (cells8 z), .bool false]))) (s1 : Hid (Ans 91 #[.agg (cells8 x), .agg (cells8 y)] (.tuple #[.agg (cells8 s), .bool E3]))) (s2 : Hid (Ans 91 #[.agg (cells8 s), .agg (cells8 z)] (.tuple #[.agg (cells8 t), .bool E4]))) :
    Calls Try.prog 40 #[.agg (c24 X Y Z), .agg (v3 p q r)] w fun e w' => e = .returned (.tuple #[.agg (cells8 0), .bool false]) ∧ Below w.heap.size w w' := by
  go_enter Try.func40, Try.ntmps40
  go_upto_region 1 with fail
  have D := hide ((((Gen.start w).push 43 (c24 X Y Z)).push 26 (v3 p q r)).push 40 z8)
  simp only [szA] at D
  generalize hw1 : ((w.alloc (.cells (c24 X Y Z) 43)).alloc (.cells (v3 p q r) 26)).alloc (.cells z8 40) = w1 at D ⊢
  have D1 : Hid (GenZ w _ w1.heap.size w1.drew) := ⟨(unhide D).drew, Nat.le_refl _⟩
  have hlt := hide (fun (p : Nat × TypeId × Array Value) hp => ((unhide D).at_ p hp).lt)
  have hw0 := hide (unhide D).o.size
  clear D hw1
  generalize w1.heap.size = C1 at D1 hlt hw0
  refine region_lazy (S := GenZ w _ C1) (v := .bool true) (ty := 40) (zs := z8) (base := C1) (l := [0, 1, 2, 3, 4, 5, 6, 7]) (A := [9]) (z := 8) (t := 10) (r := [11]) (by kernel_rfl) (by kernel_rfl) (by kernel_rfl) (by kernel_rfl) (by kernel_rfl) (by kernel_rfl) (by kernel_rfl) (by kernel_rfl) (by kernel_rfl) (by kernel_rfl) rfl rfl ?_ (fun _ _ h hb => h.keep hb) (fun _ h => h.s) (unhide D1) ?_
  · intro i hi
    simp at hi
    subst hi
    exact ⟨_, rfl, rfl, fun a w => by go_simp⟩
  clear D1
  refine planB_read (v := ?_) rfl rfl (fun u hS => by go_simp; rfl) ?_
  go_simp
  refine planB_read (v := .agg (cells8 X)) rfl rfl (fun u hS => exec_mid _ rfl rfl (range_x (hS.e.blk (cs := c24 X Y Z) (List.mem_cons_of_mem _ (List.mem_cons_of_mem _ (List.mem_cons_self)))))) ?_
  go_simp
  refine planB_read (v := ?_) rfl rfl (fun u hS => by go_simp; rfl) ?_
  go_simp
  refine planB_read (v := .int .i64 p) rfl rfl (fun u hS => exec_loadIG hS.e _ rfl rfl (by repeat (first | exact List.mem_cons_self | apply List.mem_cons_of_mem)) rfl) ?_
  go_simp
  refine planB_call (v := (.agg (cells8 ka))) (f := 90) (args := #[.int .i64 p]) rfl rfl (fun u hS => by go_simp) (fun u hS => (unhide m1 u).mono fun _ _ ⟨he, hb⟩ => ⟨he, hS.keep hb, hb⟩) ?_
  go_simp
  refine planB_call (v := (.tuple #[.agg (cells8 x), .bool true])) (f := 89) (args := #[.agg (cells8 X), (.agg (cells8 ka))]) rfl rfl (fun u hS => by go_simp) (fun u hS => (unhide k1 u).mono fun _ _ ⟨he, hb⟩ => ⟨he, hS.keep hb, hb⟩) ?_
  go_simp
  refine planB_read (v := ?_) rfl rfl (fun u hS => by go_simp; rfl) ?_
  go_simp
  refine planB_read (v := ?_) rfl rfl (fun u hS => by go_simp; rfl) ?_
  go_simp
  refine planB_lazy rfl (fun u => by go_simp) rfl rfl (fun c u hS hB hI2 => ?_)
  have hB7 := hB 9 (by simp)
  clear hB hI2
  simp only [pa, dstOf]
  generalize c 9 = c1 at hB7 ⊢
  have D := hide (hS.e.fillZ (cs := cells8 x) (unhide hlt) (unhide hw0) hB7.1 hB7.2)
  refine ⟨_, exec_store8 (n := x) 40 (.tmp 6) (.tmp 23) hB7.1 rfl rfl rfl rfl iWide, ?_⟩
  clear hS hB7 hlt hw0
  generalize u.setRow c1 (cells8 x) = u1 at D ⊢
  simp only [opsOf]
  go_simp
  go_upto_region 2 with fail
  generalize hw2 : u1 = w2 at D ⊢
  have D1 : Hid (GenZ w _ w2.heap.size w2.drew) := ⟨(unhide D).drew, Nat.le_refl _⟩
  have hlt := hide (fun (p : Nat × TypeId × Array Value) hp => ((unhide D).at_ p hp).lt)
  have hw0 := hide (unhide D).o.size
  clear D hw2
  generalize w2.heap.size = C2 at D1 hlt hw0
  refine region_lazy (S := GenZ w _ C2) (v := .bool true) (ty := 40) (zs := z8) (base := C2) (l := [0, 1, 2, 3, 4, 5, 6, 7]) (A := [9]) (z := 8) (t := 10) (r := [11]) (by kernel_rfl) (by kernel_rfl) (by kernel_rfl) (by kernel_rfl) (by kernel_rfl) (by kernel_rfl) (by kernel_rfl) (by kernel_rfl) (by kernel_rfl) (by kernel_rfl) rfl rfl ?_ (fun _ _ h hb => h.keep hb) (fun _ h => h.s) (unhide D1) ?_
  · intro i hi
    simp at hi
    subst hi
    exact ⟨_, rfl, rfl, fun a w => by go_simp⟩
  clear D1
  refine planB_read (v := ?_) rfl rfl (fun u hS => by go_simp; rfl) ?_
  go_simp
  refine planB_read (v := .agg (cells8 Y)) rfl rfl (fun u hS => exec_mid _ rfl rfl (range_y (hS.e.blk (cs := c24 X Y Z) (List.mem_cons_of_mem _ (List.mem_cons_of_mem _ (List.mem_cons_of_mem _ (List.mem_cons_self))))))) ?_
  go_simp
  refine planB_read (v := ?_) rfl rfl (fun u hS => by go_simp; rfl) ?_
  go_simp
  refine planB_read (v := .int .i64 q) rfl rfl (fun u hS => exec_loadIG hS.e _ rfl rfl (by repeat (first | exact List.mem_cons_self | apply List.mem_cons_of_mem)) rfl) ?_
  go_simp
  refine planB_call (v := (.agg (cells8 kb))) (f := 90) (args := #[.int .i64 q]) rfl rfl (fun u hS => by go_simp) (fun u hS => (unhide m2 u).mono fun _ _ ⟨he, hb⟩ => ⟨he, hS.keep hb, hb⟩) ?_
  go_simp
  refine planB_call (v := (.tuple #[.agg (cells8 y), .bool true])) (f := 89) (args := #[.agg (cells8 Y), (.agg (cells8 kb))]) rfl rfl (fun u hS => by go_simp) (fun u hS => (unhide k2 u).mono fun _ _ ⟨he, hb⟩ => ⟨he, hS.keep hb, hb⟩) ?_
  go_simp
  refine planB_read (v := ?_) rfl rfl (fun u hS => by go_simp; rfl) ?_
  go_simp
  refine planB_read (v := ?_) rfl rfl (fun u hS => by go_simp; rfl) ?_
  go_simp
  refine planB_lazy rfl (fun u => by go_simp) rfl rfl (fun c u hS hB hI2 => ?_)
  have hB7 := hB 9 (by simp)
  clear hB hI2
  simp only [pa, dstOf]
  generalize c 9 = c2 at hB7 ⊢
  have D := hide (hS.e.fillZ (cs := cells8 y) (unhide hlt) (unhide hw0) hB7.1 hB7.2)
  refine ⟨_, exec_store8 (n := y) 40 (.tmp 8) (.tmp 32) hB7.1 rfl rfl rfl rfl iWide, ?_⟩
  clear hS hB7 hlt hw0
  generalize u.setRow c2 (cells8 y) = u2 at D ⊢
  simp only [opsOf]
  go_simp
  go_upto_region 3 with fail
  generalize hw3 : u2 = w3 at D ⊢
  have D1 : Hid (GenZ w _ w3.heap.size w3.drew) := ⟨(unhide D).drew, Nat.le_refl _⟩
  have hlt := hide (fun (p : Nat × TypeId × Array Value) hp => ((unhide D).at_ p hp).lt)
  have hw0 := hide (unhide D).o.size
  clear D hw3
  generalize w3.heap.size = C3 at D1 hlt hw0
  refine region_lazy (S := GenZ w _ C3) (v := .bool false) (ty := 40) (zs := z8) (base := C3) (l := [0, 1, 2, 3, 4, 5, 6, 7]) (A := [9]) (z := 8) (t := 10) (r := [11]) (by kernel_rfl) (by kernel_rfl) (by kernel_rfl) (by kernel_rfl) (by kernel_rfl) (by kernel_rfl) (by kernel_rfl) (by kernel_rfl) (by kernel_rfl) (by kernel_rfl) rfl rfl ?_ (fun _ _ h hb => h.keep hb) (fun _ h => h.s) (unhide D1) ?_
  · intro i hi
    simp at hi
    subst hi
    exact ⟨_, rfl, rfl, fun a w => by go_simp⟩
  clear D1
  refine planB_read (v := ?_) rfl rfl (fun u hS => by go_simp; rfl) ?_
  go_simp
  refine planB_read (v := .agg (cells8 Z)) rfl rfl (fun u hS => exec_mid _ rfl rfl (range_z (hS.e.blk (cs := c24 X Y Z) (List.mem_cons_of_mem _ (List.mem_cons_of_mem _ (List.mem_cons_of_mem _ (List.mem_cons_of_mem _ (List.mem_cons_self)))))))) ?_
  go_simp
  refine planB_read (v := ?_) rfl rfl (fun u hS => by go_simp; rfl) ?_
  go_simp
  refine planB_read (v := .int .i64 r) rfl rfl (fun u hS => exec_loadIG hS.e _ rfl rfl (by repeat (first | exact List.mem_cons_self | apply List.mem_cons_of_mem)) rfl) ?_
  go_simp
  refine planB_call (v := (.agg (cells8 kc))) (f := 90) (args := #[.int .i64 r]) rfl rfl (fun u hS => by go_simp) (fun u hS => (unhide m3 u).mono fun _ _ ⟨he, hb⟩ => ⟨he, hS.keep hb, hb⟩) ?_
  go_simp
  refine planB_call (v := (.tuple #[.agg (cells8 z), .bool false])) (f := 89) (args := #[.agg (cells8 Z), (.agg (cells8 kc))]) rfl rfl (fun u hS => by go_simp) (fun u hS => (unhide k3 u).mono fun _ _ ⟨he, hb⟩ => ⟨he, hS.keep hb, hb⟩) ?_
  go_simp
  refine planB_read (v := ?_) rfl rfl (fun u hS => by go_simp; rfl) ?_
  go_simp
  refine planB_read (v := ?_) rfl rfl (fun u hS => by go_simp; rfl) ?_
  go_simp
  refine planB_lazy rfl (fun u => by go_simp) rfl rfl (fun c u hS hB hI2 => ?_)
  have hB7 := hB 9 (by simp)
  clear hB hI2
  simp only [pa, dstOf]
  generalize c 9 = c3 at hB7 ⊢
  have D := hide (hS.e.fillZ (cs := cells8 z) (unhide hlt) (unhide hw0) hB7.1 hB7.2)
  refine ⟨_, exec_store8 (n := z) 40 (.tmp 10) (.tmp 41) hB7.1 rfl rfl rfl rfl iWide, ?_⟩
  clear hS hB7 hlt hw0
  generalize u.setRow c3 (cells8 z) = u3 at D ⊢
  simp only [opsOf]
  go_simp
  go_wp2_with (first | (with_reducible refine at_list ?_; apply ldG (unhide D) rWide _ rfl rfl rfl (by repeat (first | exact List.mem_cons_self | apply List.mem_cons_of_mem)) rfl) | (go_at_call 91; with_reducible refine (unhide s1 _).mono ?_; rintro e w' ⟨he, hb⟩; subst he; have D := hide ((unhide D).keep hb); clear hb) | (go_at_call 91; with_reducible refine (unhide s2 _).mono ?_; rintro e w' ⟨he, hb⟩; subst he; have D := hide ((unhide D).keep hb); clear hb) | (with_reducible refine at_list ?_; refine stG (unhide D) rWide _ _ rfl rfl rfl rfl rfl rfl (cells8_one _) ?_; intro D'; have D := hide D'; clear D') | (with_reducible refine at_list ?_;  refine bd0 40 rfl rfl bWide0 ?_) | (with_reducible refine at_list ?_; apply stGend (unhide D) rWide _ _ rfl rfl rfl rfl (by repeat (first | exact List.mem_cons_self | apply List.mem_cons_of_mem)) (by omega) rfl rfl (cells8_one _); intro B O))
  exact resGT rWide (unhide B) rfl rfl rfl rfl rfl ⟨rfl, unhide O⟩
set_option maxHeartbeats 4000000 in
theorem ralong_3 (X Y Z : Nat) (p q r : Int) (ka kb kc x y z s t : Nat) (E4 : Bool) (w : World) (m1 : Hid (Ans 90 #[.int .i64 p] (.agg (cells8 ka)))) (m2 : Hid (Ans 90 #[.int .i64 q] (.agg (cells8 kb)))) (m3 : Hid (Ans 90 #[.int .i64 r] (.agg (cells8 kc)))) (k1 : Hid (Ans 89 #[.agg (cells8 X), .agg (cells8 ka)] (.tuple #[.agg (cells8 x), .bool true]))) (k2 : Hid (Ans 89 #[.agg (cells8 Y), .agg (cells8 kb)] (.tuple #[.agg (cells8 y), .bool true]))) (k3 : Hid (Ans 89 #[.agg (cells8 Z), .agg (cells8 kc)] (.tuple #[.agg (cells8 z), .bool true]))) (s1 : Hid (Ans 91 #[.agg (cells8 x), .agg (cells8 y)] (.tuple #[.agg (cells8 s), .bool false]))) (s2 : Hid (Ans 91 #[.agg (cells8 s), .agg (cells8 z)] (.tuple #[.agg (cells8 t), .bool E4]))) :
    Calls Try.prog 40 #[.agg (c24 X Y Z), .agg (v3 p q r)] w fun e w' => e = .returned (.tuple #[.agg (cells8 0), .bool false]) ∧ Below w.heap.size w w' := by
  go_enter Try.func40, Try.ntmps40
  go_upto_region 1 with fail
  have D := hide ((((Gen.start w).push 43 (c24 X Y Z)).push 26 (v3 p q r)).push 40 z8)
  simp only [szA] at D
  generalize hw1 : ((w.alloc (.cells (c24 X Y Z) 43)).alloc (.cells (v3 p q r) 26)).alloc (.cells z8 40) = w1 at D ⊢
  have D1 : Hid (GenZ w _ w1.heap.size w1.drew) := ⟨(unhide D).drew, Nat.le_refl _⟩
  have hlt := hide (fun (p : Nat × TypeId × Array Value) hp => ((unhide D).at_ p hp).lt)
  have hw0 := hide (unhide D).o.size
  clear D hw1
  generalize w1.heap.size = C1 at D1 hlt hw0
  refine region_lazy (S := GenZ w _ C1) (v := .bool true) (ty := 40) (zs := z8) (base := C1) (l := [0, 1, 2, 3, 4, 5, 6, 7]) (A := [9]) (z := 8) (t := 10) (r := [11]) (by kernel_rfl) (by kernel_rfl) (by kernel_rfl) (by kernel_rfl) (by kernel_rfl) (by kernel_rfl) (by kernel_rfl) (by kernel_rfl) (by kernel_rfl) (by kernel_rfl) rfl rfl ?_ (fun _ _ h hb => h.keep hb) (fun _ h => h.s) (unhide D1) ?_
  · intro i hi
    simp at hi
    subst hi
    exact ⟨_, rfl, rfl, fun a w => by go_simp⟩
  clear D1
  refine planB_read (v := ?_) rfl rfl (fun u hS => by go_simp; rfl) ?_
  go_simp
  refine planB_read (v := .agg (cells8 X)) rfl rfl (fun u hS => exec_mid _ rfl rfl (range_x (hS.e.blk (cs := c24 X Y Z) (List.mem_cons_of_mem _ (List.mem_cons_of_mem _ (List.mem_cons_self)))))) ?_
  go_simp
  refine planB_read (v := ?_) rfl rfl (fun u hS => by go_simp; rfl) ?_
  go_simp
  refine planB_read (v := .int .i64 p) rfl rfl (fun u hS => exec_loadIG hS.e _ rfl rfl (by repeat (first | exact List.mem_cons_self | apply List.mem_cons_of_mem)) rfl) ?_
  go_simp
  refine planB_call (v := (.agg (cells8 ka))) (f := 90) (args := #[.int .i64 p]) rfl rfl (fun u hS => by go_simp) (fun u hS => (unhide m1 u).mono fun _ _ ⟨he, hb⟩ => ⟨he, hS.keep hb, hb⟩) ?_
  go_simp
  refine planB_call (v := (.tuple #[.agg (cells8 x), .bool true])) (f := 89) (args := #[.agg (cells8 X), (.agg (cells8 ka))]) rfl rfl (fun u hS => by go_simp) (fun u hS => (unhide k1 u).mono fun _ _ ⟨he, hb⟩ => ⟨he, hS.keep hb, hb⟩) ?_
  go_simp
  refine planB_read (v := ?_) rfl rfl (fun u hS => by go_simp; rfl) ?_
  go_simp
  refine planB_read (v := ?_) rfl rfl (fun u hS => by go_simp; rfl) ?_
  go_simp
  refine planB_lazy rfl (fun u => by go_simp) rfl rfl (fun c u hS hB hI2 => ?_)
  have hB7 := hB 9 (by simp)
  clear hB hI2
  simp only [pa, dstOf]
  generalize c 9 = c1 at hB7 ⊢
  have D := hide (hS.e.fillZ (cs := cells8 x) (unhide hlt) (unhide hw0) hB7.1 hB7.2)
  refine ⟨_, exec_store8 (n := x) 40 (.tmp 6) (.tmp 23) hB7.1 rfl rfl rfl rfl iWide, ?_⟩
  clear hS hB7 hlt hw0
  generalize u.setRow c1 (cells8 x) = u1 at D ⊢
  simp only [opsOf]
  go_simp
  go_upto_region 2 with fail
  generalize hw2 : u1 = w2 at D ⊢
  have D1 : Hid (GenZ w _ w2.heap.size w2.drew) := ⟨(unhide D).drew, Nat.le_refl _⟩
  have hlt := hide (fun (p : Nat × TypeId × Array Value) hp => ((unhide D).at_ p hp).lt)
  have hw0 := hide (unhide D).o.size
  clear D hw2
  generalize w2.heap.size = C2 at D1 hlt hw0
  refine region_lazy (S := GenZ w _ C2) (v := .bool true) (ty := 40) (zs := z8) (base := C2) (l := [0, 1, 2, 3, 4, 5, 6, 7]) (A := [9]) (z := 8) (t := 10) (r := [11]) (by kernel_rfl) (by kernel_rfl) (by kernel_rfl) (by kernel_rfl) (by kernel_rfl) (by kernel_rfl) (by kernel_rfl) (by kernel_rfl) (by kernel_rfl) (by kernel_rfl) rfl rfl ?_ (fun _ _ h hb => h.keep hb) (fun _ h => h.s) (unhide D1) ?_
  · intro i hi
    simp at hi
    subst hi
    exact ⟨_, rfl, rfl, fun a w => by go_simp⟩
  clear D1
  refine planB_read (v := ?_) rfl rfl (fun u hS => by go_simp; rfl) ?_
  go_simp
  refine planB_read (v := .agg (cells8 Y)) rfl rfl (fun u hS => exec_mid _ rfl rfl (range_y (hS.e.blk (cs := c24 X Y Z) (List.mem_cons_of_mem _ (List.mem_cons_of_mem _ (List.mem_cons_of_mem _ (List.mem_cons_self))))))) ?_
  go_simp
  refine planB_read (v := ?_) rfl rfl (fun u hS => by go_simp; rfl) ?_
  go_simp
  refine planB_read (v := .int .i64 q) rfl rfl (fun u hS => exec_loadIG hS.e _ rfl rfl (by repeat (first | exact List.mem_cons_self | apply List.mem_cons_of_mem)) rfl) ?_
  go_simp
  refine planB_call (v := (.agg (cells8 kb))) (f := 90) (args := #[.int .i64 q]) rfl rfl (fun u hS => by go_simp) (fun u hS => (unhide m2 u).mono fun _ _ ⟨he, hb⟩ => ⟨he, hS.keep hb, hb⟩) ?_
  go_simp
  refine planB_call (v := (.tuple #[.agg (cells8 y), .bool true])) (f := 89) (args := #[.agg (cells8 Y), (.agg (cells8 kb))]) rfl rfl (fun u hS => by go_simp) (fun u hS => (unhide k2 u).mono fun _ _ ⟨he, hb⟩ => ⟨he, hS.keep hb, hb⟩) ?_
  go_simp
  refine planB_read (v := ?_) rfl rfl (fun u hS => by go_simp; rfl) ?_
  go_simp
  refine planB_read (v := ?_) rfl rfl (fun u hS => by go_simp; rfl) ?_
  go_simp
  refine planB_lazy rfl (fun u => by go_simp) rfl rfl (fun c u hS hB hI2 => ?_)
  have hB7 := hB 9 (by simp)
  clear hB hI2
  simp only [pa, dstOf]
  generalize c 9 = c2 at hB7 ⊢
  have D := hide (hS.e.fillZ (cs := cells8 y) (unhide hlt) (unhide hw0) hB7.1 hB7.2)
  refine ⟨_, exec_store8 (n := y) 40 (.tmp 8) (.tmp 32) hB7.1 rfl rfl rfl rfl iWide, ?_⟩
  clear hS hB7 hlt hw0
  generalize u.setRow c2 (cells8 y) = u2 at D ⊢
  simp only [opsOf]
  go_simp
  go_upto_region 3 with fail
  generalize hw3 : u2 = w3 at D ⊢
  have D1 : Hid (GenZ w _ w3.heap.size w3.drew) := ⟨(unhide D).drew, Nat.le_refl _⟩
  have hlt := hide (fun (p : Nat × TypeId × Array Value) hp => ((unhide D).at_ p hp).lt)
  have hw0 := hide (unhide D).o.size
  clear D hw3
  generalize w3.heap.size = C3 at D1 hlt hw0
  refine region_lazy (S := GenZ w _ C3) (v := .bool true) (ty := 40) (zs := z8) (base := C3) (l := [0, 1, 2, 3, 4, 5, 6, 7]) (A := [9]) (z := 8) (t := 10) (r := [11]) (by kernel_rfl) (by kernel_rfl) (by kernel_rfl) (by kernel_rfl) (by kernel_rfl) (by kernel_rfl) (by kernel_rfl) (by kernel_rfl) (by kernel_rfl) (by kernel_rfl) rfl rfl ?_ (fun _ _ h hb => h.keep hb) (fun _ h => h.s) (unhide D1) ?_
  · intro i hi
    simp at hi
    subst hi
    exact ⟨_, rfl, rfl, fun a w => by go_simp⟩
  clear D1
  refine planB_read (v := ?_) rfl rfl (fun u hS => by go_simp; rfl) ?_
  go_simp
  refine planB_read (v := .agg (cells8 Z)) rfl rfl (fun u hS => exec_mid _ rfl rfl (range_z (hS.e.blk (cs := c24 X Y Z) (List.mem_cons_of_mem _ (List.mem_cons_of_mem _ (List.mem_cons_of_mem _ (List.mem_cons_of_mem _ (List.mem_cons_self)))))))) ?_
  go_simp
  refine planB_read (v := ?_) rfl rfl (fun u hS => by go_simp; rfl) ?_
  go_simp
  refine planB_read (v := .int .i64 r) rfl rfl (fun u hS => exec_loadIG hS.e _ rfl rfl (by repeat (first | exact List.mem_cons_self | apply List.mem_cons_of_mem)) rfl) ?_
  go_simp
  refine planB_call (v := (.agg (cells8 kc))) (f := 90) (args := #[.int .i64 r]) rfl rfl (fun u hS => by go_simp) (fun u hS => (unhide m3 u).mono fun _ _ ⟨he, hb⟩ => ⟨he, hS.keep hb, hb⟩) ?_
  go_simp
  refine planB_call (v := (.tuple #[.agg (cells8 z), .bool true])) (f := 89) (args := #[.agg (cells8 Z), (.agg (cells8 kc))]) rfl rfl (fun u hS => by go_simp) (fun u hS => (unhide k3 u).mono fun _ _ ⟨he, hb⟩ => ⟨he, hS.keep hb, hb⟩) ?_
  go_simp
  refine planB_read (v := ?_) rfl rfl (fun u hS => by go_simp; rfl) ?_
  go_simp
  refine planB_read (v := ?_) rfl rfl (fun u hS => by go_simp; rfl) ?_
  go_simp
  refine planB_lazy rfl (fun u => by go_simp) rfl rfl (fun c u hS hB hI2 => ?_)
  have hB7 := hB 9 (by simp)
  clear hB hI2
  simp only [pa, dstOf]
  generalize c 9 = c3 at hB7 ⊢
  have D := hide (hS.e.fillZ (cs := cells8 z) (unhide hlt) (unhide hw0) hB7.1 hB7.2)
  refine ⟨_, exec_store8 (n := z) 40 (.tmp 10) (.tmp 41) hB7.1 rfl rfl rfl rfl iWide, ?_⟩
  clear hS hB7 hlt hw0
  generalize u.setRow c3 (cells8 z) = u3 at D ⊢
  simp only [opsOf]
  go_simp
  go_wp2_with (first | (with_reducible refine at_list ?_; apply ldG (unhide D) rWide _ rfl rfl rfl (by repeat (first | exact List.mem_cons_self | apply List.mem_cons_of_mem)) rfl) | (go_at_call 91; with_reducible refine (unhide s1 _).mono ?_; rintro e w' ⟨he, hb⟩; subst he; have D := hide ((unhide D).keep hb); clear hb) | (go_at_call 91; with_reducible refine (unhide s2 _).mono ?_; rintro e w' ⟨he, hb⟩; subst he; have D := hide ((unhide D).keep hb); clear hb) | (with_reducible refine at_list ?_; refine stG (unhide D) rWide _ _ rfl rfl rfl rfl rfl rfl (cells8_one _) ?_; intro D'; have D := hide D'; clear D') | (with_reducible refine at_list ?_;  refine bd0 40 rfl rfl bWide0 ?_) | (with_reducible refine at_list ?_; apply stGend (unhide D) rWide _ _ rfl rfl rfl rfl (by repeat (first | exact List.mem_cons_self | apply List.mem_cons_of_mem)) (by omega) rfl rfl (cells8_one _); intro B O))
  exact resGT rWide (unhide B) rfl rfl rfl rfl rfl ⟨rfl, unhide O⟩
set_option maxHeartbeats 4000000 in
theorem ralong_4 (X Y Z : Nat) (p q r : Int) (ka kb kc x y z s t : Nat) (w : World) (m1 : Hid (Ans 90 #[.int .i64 p] (.agg (cells8 ka)))) (m2 : Hid (Ans 90 #[.int .i64 q] (.agg (cells8 kb)))) (m3 : Hid (Ans 90 #[.int .i64 r] (.agg (cells8 kc)))) (k1 : Hid (Ans 89 #[.agg (cells8 X), .agg (cells8 ka)] (.tuple #[.agg (cells8 x), .bool true]))) (k2 : Hid (Ans 89 #[.agg (cells8 Y), .agg (cells8 kb)] (.tuple #[.agg (cells8 y), .bool true]))) (k3 : Hid (Ans 89 #[.agg (cells8 Z), .agg (cells8 kc)] (.tuple #[.agg (cells8 z), .bool true]))) (s1 : Hid (Ans 91 #[.agg (cells8 x), .agg (cells8 y)] (.tuple #[.agg (cells8 s), .bool true]))) (s2 : Hid (Ans 91 #[.agg (cells8 s), .agg (cells8 z)] (.tuple #[.agg (cells8 t), .bool false]))) :
    Calls Try.prog 40 #[.agg (c24 X Y Z), .agg (v3 p q r)] w fun e w' => e = .returned (.tuple #[.agg (cells8 0), .bool false]) ∧ Below w.heap.size w w' := by
  go_enter Try.func40, Try.ntmps40
  go_upto_region 1 with fail
  have D := hide ((((Gen.start w).push 43 (c24 X Y Z)).push 26 (v3 p q r)).push 40 z8)
  simp only [szA] at D
  generalize hw1 : ((w.alloc (.cells (c24 X Y Z) 43)).alloc (.cells (v3 p q r) 26)).alloc (.cells z8 40) = w1 at D ⊢
  have D1 : Hid (GenZ w _ w1.heap.size w1.drew) := ⟨(unhide D).drew, Nat.le_refl _⟩
  have hlt := hide (fun (p : Nat × TypeId × Array Value) hp => ((unhide D).at_ p hp).lt)
  have hw0 := hide (unhide D).o.size
  clear D hw1
  generalize w1.heap.size = C1 at D1 hlt hw0
  refine region_lazy (S := GenZ w _ C1) (v := .bool true) (ty := 40) (zs := z8) (base := C1) (l := [0, 1, 2, 3, 4, 5, 6, 7]) (A := [9]) (z := 8) (t := 10) (r := [11]) (by kernel_rfl) (by kernel_rfl) (by kernel_rfl) (by kernel_rfl) (by kernel_rfl) (by kernel_rfl) (by kernel_rfl) (by kernel_rfl) (by kernel_rfl) (by kernel_rfl) rfl rfl ?_ (fun _ _ h hb => h.keep hb) (fun _ h => h.s) (unhide D1) ?_
  · intro i hi
    simp at hi
    subst hi
    exact ⟨_, rfl, rfl, fun a w => by go_simp⟩
  clear D1
  refine planB_read (v := ?_) rfl rfl (fun u hS => by go_simp; rfl) ?_
  go_simp
  refine planB_read (v := .agg (cells8 X)) rfl rfl (fun u hS => exec_mid _ rfl rfl (range_x (hS.e.blk (cs := c24 X Y Z) (List.mem_cons_of_mem _ (List.mem_cons_of_mem _ (List.mem_cons_self)))))) ?_
  go_simp
  refine planB_read (v := ?_) rfl rfl (fun u hS => by go_simp; rfl) ?_
  go_simp
  refine planB_read (v := .int .i64 p) rfl rfl (fun u hS => exec_loadIG hS.e _ rfl rfl (by repeat (first | exact List.mem_cons_self | apply List.mem_cons_of_mem)) rfl) ?_
  go_simp
  refine planB_call (v := (.agg (cells8 ka))) (f := 90) (args := #[.int .i64 p]) rfl rfl (fun u hS => by go_simp) (fun u hS => (unhide m1 u).mono fun _ _ ⟨he, hb⟩ => ⟨he, hS.keep hb, hb⟩) ?_
  go_simp
  refine planB_call (v := (.tuple #[.agg (cells8 x), .bool true])) (f := 89) (args := #[.agg (cells8 X), (.agg (cells8 ka))]) rfl rfl (fun u hS => by go_simp) (fun u hS => (unhide k1 u).mono fun _ _ ⟨he, hb⟩ => ⟨he, hS.keep hb, hb⟩) ?_
  go_simp
  refine planB_read (v := ?_) rfl rfl (fun u hS => by go_simp; rfl) ?_
  go_simp
  refine planB_read (v := ?_) rfl rfl (fun u hS => by go_simp; rfl) ?_
  go_simp
  refine planB_lazy rfl (fun u => by go_simp) rfl rfl (fun c u hS hB hI2 => ?_)
  have hB7 := hB 9 (by simp)
  clear hB hI2
  simp only [pa, dstOf]
  generalize c 9 = c1 at hB7 ⊢
  have D := hide (hS.e.fillZ (cs := cells8 x) (unhide hlt) (unhide hw0) hB7.1 hB7.2)
  refine ⟨_, exec_store8 (n := x) 40 (.tmp 6) (.tmp 23) hB7.1 rfl rfl rfl rfl iWide, ?_⟩
  clear hS hB7 hlt hw0
  generalize u.setRow c1 (cells8 x) = u1 at D ⊢
  simp only [opsOf]
  go_simp
  go_upto_region 2 with fail
  generalize hw2 : u1 = w2 at D ⊢
  have D1 : Hid (GenZ w _ w2.heap.size w2.drew) := ⟨(unhide D).drew, Nat.le_refl _⟩
  have hlt := hide (fun (p : Nat × TypeId × Array Value) hp => ((unhide D).at_ p hp).lt)
  have hw0 := hide (unhide D).o.size
  clear D hw2
  generalize w2.heap.size = C2 at D1 hlt hw0
  refine region_lazy (S := GenZ w _ C2) (v := .bool true) (ty := 40) (zs := z8) (base := C2) (l := [0, 1, 2, 3, 4, 5, 6, 7]) (A := [9]) (z := 8) (t := 10) (r := [11]) (by kernel_rfl) (by kernel_rfl) (by kernel_rfl) (by kernel_rfl) (by kernel_rfl) (by kernel_rfl) (by kernel_rfl) (by kernel_rfl) (by kernel_rfl) (by kernel_rfl) rfl rfl ?_ (fun _ _ h hb => h.keep hb) (fun _ h => h.s) (unhide D1) ?_
  · intro i hi
    simp at hi
    subst hi
    exact ⟨_, rfl, rfl, fun a w => by go_simp⟩
  clear D1
  refine planB_read (v := ?_) rfl rfl (fun u hS => by go_simp; rfl) ?_
  go_simp
  refine planB_read (v := .agg (cells8 Y)) rfl rfl (fun u hS => exec_mid _ rfl rfl (range_y (hS.e.blk (cs := c24 X Y Z) (List.mem_cons_of_mem _ (List.mem_cons_of_mem _ (List.mem_cons_of_mem _ (List.mem_cons_self))))))) ?_
  go_simp
  refine planB_read (v := ?_) rfl rfl (fun u hS => by go_simp; rfl) ?_
  go_simp
  refine planB_read (v := .int .i64 q) rfl rfl (fun u hS => exec_loadIG hS.e _ rfl rfl (by repeat (first | exact List.mem_cons_self | apply List.mem_cons_of_mem)) rfl) ?_
  go_simp
  refine planB_call (v := (.agg (cells8 kb))) (f := 90) (args := #[.int .i64 q]) rfl rfl (fun u hS => by go_simp) (fun u hS => (unhide m2 u).mono fun _ _ ⟨he, hb⟩ => ⟨he, hS.keep hb, hb⟩) ?_
  go_simp
  refine planB_call (v := (.tuple #[.agg (cells8 y), .bool true])) (f := 89) (args := #[.agg (cells8 Y), (.agg (cells8 kb))]) rfl rfl (fun u hS => by go_simp) (fun u hS => (unhide k2 u).mono fun _ _ ⟨he, hb⟩ => ⟨he, hS.keep hb, hb⟩) ?_
  go_simp
  refine planB_read (v := ?_) rfl rfl (fun u hS => by go_simp; rfl) ?_
  go_simp
  refine planB_read (v := ?_) rfl rfl (fun u hS => by go_simp; rfl) ?_
  go_simp
  refine planB_lazy rfl (fun u => by go_simp) rfl rfl (fun c u hS hB hI2 => ?_)
  have hB7 := hB 9 (by simp)
  clear hB hI2
  simp only [pa, dstOf]
  generalize c 9 = c2 at hB7 ⊢
  have D := hide (hS.e.fillZ (cs := cells8 y) (unhide hlt) (unhide hw0) hB7.1 hB7.2)
  refine ⟨_, exec_store8 (n := y) 40 (.tmp 8) (.tmp 32) hB7.1 rfl rfl rfl rfl iWide, ?_⟩
  clear hS hB7 hlt hw0
  generalize u.setRow c2 (cells8 y) = u2 at D ⊢
  simp only [opsOf]
  go_simp
  go_upto_region 3 with fail
  generalize hw3 : u2 = w3 at D ⊢
  have D1 : Hid (GenZ w _ w3.heap.size w3.drew) := ⟨(unhide D).drew, Nat.le_refl _⟩
  have hlt := hide (fun (p : Nat × TypeId × Array Value) hp => ((unhide D).at_ p hp).lt)
  have hw0 := hide (unhide D).o.size
  clear D hw3
  generalize w3.heap.size = C3 at D1 hlt hw0
  refine region_lazy (S := GenZ w _ C3) (v := .bool true) (ty := 40) (zs := z8) (base := C3) (l := [0, 1, 2, 3, 4, 5, 6, 7]) (A := [9]) (z := 8) (t := 10) (r := [11]) (by kernel_rfl) (by kernel_rfl) (by kernel_rfl) (by kernel_rfl) (by kernel_rfl) (by kernel_rfl) (by kernel_rfl) (by kernel_rfl) (by kernel_rfl) (by kernel_rfl) rfl rfl ?_ (fun _ _ h hb => h.keep hb) (fun _ h => h.s) (unhide D1) ?_
  · intro i hi
    simp at hi
    subst hi
    exact ⟨_, rfl, rfl, fun a w => by go_simp⟩
  clear D1
  refine planB_read (v := ?_) rfl rfl (fun u hS => by go_simp; rfl) ?_
  go_simp
  refine planB_read (v := .agg (cells8 Z)) rfl rfl (fun u hS => exec_mid _ rfl rfl (range_z (hS.e.blk (cs := c24 X Y Z) (List.mem_cons_of_mem _ (List.mem_cons_of_mem _ (List.mem_cons_of_mem _ (List.mem_cons_of_mem _ (List.mem_cons_self)))))))) ?_
  go_simp
  refine planB_read (v := ?_) rfl rfl (fun u hS => by go_simp; rfl) ?_
  go_simp
  refine planB_read (v := .int .i64 r) rfl rfl (fun u hS => exec_loadIG hS.e _ rfl rfl (by repeat (first | exact List.mem_cons_self | apply List.mem_cons_of_mem)) rfl) ?_
  go_simp
  refine planB_call (v := (.agg (cells8 kc))) (f := 90) (args := #[.int .i64 r]) rfl rfl (fun u hS => by go_simp) (fun u hS => (unhide m3 u).mono fun _ _ ⟨he, hb⟩ => ⟨he, hS.keep hb, hb⟩) ?_
  go_simp
  refine planB_call (v := (.tuple #[.agg (cells8 z), .bool true])) (f := 89) (args := #[.agg (cells8 Z), (.agg (cells8 kc))]) rfl rfl (fun u hS => by go_simp) (fun u hS => (unhide k3 u).mono fun _ _ ⟨he, hb⟩ => ⟨he, hS.keep hb, hb⟩) ?_
  go_simp
  refine planB_read (v := ?_) rfl rfl (fun u hS => by go_simp; rfl) ?_
  go_simp
  refine planB_read (v := ?_) rfl rfl (fun u hS => by go_simp; rfl) ?_
  go_simp
  refine planB_lazy rfl (fun u => by go_simp) rfl rfl (fun c u hS hB hI2 => ?_)
  have hB7 := hB 9 (by simp)
  clear hB hI2
  simp only [pa, dstOf]
  generalize c 9 = c3 at hB7 ⊢
  have D := hide (hS.e.fillZ (cs := cells8 z) (unhide hlt) (unhide hw0) hB7.1 hB7.2)
  refine ⟨_, exec_store8 (n := z) 40 (.tmp 10) (.tmp 41) hB7.1 rfl rfl rfl rfl iWide, ?_⟩
  clear hS hB7 hlt hw0
  generalize u.setRow c3 (cells8 z) = u3 at D ⊢
  simp only [opsOf]
  go_simp
  go_wp2_with (first | (with_reducible refine at_list ?_; apply ldG (unhide D) rWide _ rfl rfl rfl (by repeat (first | exact List.mem_cons_self | apply List.mem_cons_of_mem)) rfl) | (go_at_call 91; with_reducible refine (unhide s1 _).mono ?_; rintro e w' ⟨he, hb⟩; subst he; have D := hide ((unhide D).keep hb); clear hb) | (go_at_call 91; with_reducible refine (unhide s2 _).mono ?_; rintro e w' ⟨he, hb⟩; subst he; have D := hide ((unhide D).keep hb); clear hb) | (with_reducible refine at_list ?_; refine stG (unhide D) rWide _ _ rfl rfl rfl rfl rfl rfl (cells8_one _) ?_; intro D'; have D := hide D'; clear D') | (with_reducible refine at_list ?_;  refine bd0 40 rfl rfl bWide0 ?_) | (with_reducible refine at_list ?_; apply stGend (unhide D) rWide _ _ rfl rfl rfl rfl (by repeat (first | exact List.mem_cons_self | apply List.mem_cons_of_mem)) (by omega) rfl rfl (cells8_one _); intro B O))
  exact resGT rWide (unhide B) rfl rfl rfl rfl rfl ⟨rfl, unhide O⟩
set_option maxHeartbeats 4000000 in
theorem ralong_5 (X Y Z : Nat) (p q r : Int) (ka kb kc x y z s t : Nat) (w : World) (m1 : Hid (Ans 90 #[.int .i64 p] (.agg (cells8 ka)))) (m2 : Hid (Ans 90 #[.int .i64 q] (.agg (cells8 kb)))) (m3 : Hid (Ans 90 #[.int .i64 r] (.agg (cells8 kc)))) (k1 : Hid (Ans 89 #[.agg (cells8 X), .agg (cells8 ka)] (.tuple #[.agg (cells8 x), .bool true]))) (k2 : Hid (Ans 89 #[.agg (cells8 Y), .agg (cells8 kb)] (.tuple #[.agg (cells8 y), .bool true]))) (k3 : Hid (Ans 89 #[.agg (cells8 Z), .agg (cells8 kc)] (.tuple #[.agg (cells8 z), .bool true]))) (s1 : Hid (Ans 91 #[.agg (cells8 x), .agg (cells8 y)] (.tuple #[.agg (cells8 s), .bool true]))) (s2 : Hid (Ans 91 #[.agg (cells8 s), .agg (cells8 z)] (.tuple #[.agg (cells8 t), .bool true]))) :
    Calls Try.prog 40 #[.agg (c24 X Y Z), .agg (v3 p q r)] w fun e w' => e = .returned (.tuple #[.agg (cells8 t), .bool true]) ∧ Below w.heap.size w w' := by
  go_enter Try.func40, Try.ntmps40
  go_upto_region 1 with fail
  have D := hide ((((Gen.start w).push 43 (c24 X Y Z)).push 26 (v3 p q r)).push 40 z8)
  simp only [szA] at D
  generalize hw1 : ((w.alloc (.cells (c24 X Y Z) 43)).alloc (.cells (v3 p q r) 26)).alloc (.cells z8 40) = w1 at D ⊢
  have D1 : Hid (GenZ w _ w1.heap.size w1.drew) := ⟨(unhide D).drew, Nat.le_refl _⟩
  have hlt := hide (fun (p : Nat × TypeId × Array Value) hp => ((unhide D).at_ p hp).lt)
  have hw0 := hide (unhide D).o.size
  clear D hw1
  generalize w1.heap.size = C1 at D1 hlt hw0
  refine region_lazy (S := GenZ w _ C1) (v := .bool true) (ty := 40) (zs := z8) (base := C1) (l := [0, 1, 2, 3, 4, 5, 6, 7]) (A := [9]) (z := 8) (t := 10) (r := [11]) (by kernel_rfl) (by kernel_rfl) (by kernel_rfl) (by kernel_rfl) (by kernel_rfl) (by kernel_rfl) (by kernel_rfl) (by kernel_rfl) (by kernel_rfl) (by kernel_rfl) rfl rfl ?_ (fun _ _ h hb => h.keep hb) (fun _ h => h.s) (unhide D1) ?_
  · intro i hi
    simp at hi
    subst hi
    exact ⟨_, rfl, rfl, fun a w => by go_simp⟩
  clear D1
  refine planB_read (v := ?_) rfl rfl (fun u hS => by go_simp; rfl) ?_
  go_simp
  refine planB_read (v := .agg (cells8 X)) rfl rfl (fun u hS => exec_mid _ rfl rfl (range_x (hS.e.blk (cs := c24 X Y Z) (List.mem_cons_of_mem _ (List.mem_cons_of_mem _ (List.mem_cons_self)))))) ?_
  go_simp
  refine planB_read (v := ?_) rfl rfl (fun u hS => by go_simp; rfl) ?_
  go_simp
  refine planB_read (v := .int .i64 p) rfl rfl (fun u hS => exec_loadIG hS.e _ rfl rfl (by repeat (first | exact List.mem_cons_self | apply List.mem_cons_of_mem)) rfl) ?_
  go_simp
  refine planB_call (v := (.agg (cells8 ka))) (f := 90) (args := #[.int .i64 p]) rfl rfl (fun u hS => by go_simp) (fun u hS => (unhide m1 u).mono fun _ _ ⟨he, hb⟩ => ⟨he, hS.keep hb, hb⟩) ?_
  go_simp
  refine planB_call (v := (.tuple #[.agg (cells8 x), .bool true])) (f := 89) (args := #[.agg (cells8 X), (.agg (cells8 ka))]) rfl rfl (fun u hS => by go_simp) (fun u hS => (unhide k1 u).mono fun _ _ ⟨he, hb⟩ => ⟨he, hS.keep hb, hb⟩) ?_
  go_simp
  refine planB_read (v := ?_) rfl rfl (fun u hS => by go_simp; rfl) ?_
  go_simp
  refine planB_read (v := ?_) rfl rfl (fun u hS => by go_simp; rfl) ?_
  go_simp
  refine planB_lazy rfl (fun u => by go_simp) rfl rfl (fun c u hS hB hI2 => ?_)
  have hB7 := hB 9 (by simp)
  clear hB hI2
  simp only [pa, dstOf]
  generalize c 9 = c1 at hB7 ⊢
  have D := hide (hS.e.fillZ (cs := cells8 x) (unhide hlt) (unhide hw0) hB7.1 hB7.2)
  refine ⟨_, exec_store8 (n := x) 40 (.tmp 6) (.tmp 23) hB7.1 rfl rfl rfl rfl iWide, ?_⟩
  clear hS hB7 hlt hw0
  generalize u.setRow c1 (cells8 x) = u1 at D ⊢
  simp only [opsOf]
  go_simp
  go_upto_region 2 with fail
  generalize hw2 : u1 = w2 at D ⊢
  have D1 : Hid (GenZ w _ w2.heap.size w2.drew) := ⟨(unhide D).drew, Nat.le_refl _⟩
  have hlt := hide (fun (p : Nat × TypeId × Array Value) hp => ((unhide D).at_ p hp).lt)
  have hw0 := hide (unhide D).o.size
  clear D hw2
  generalize w2.heap.size = C2 at D1 hlt hw0
  refine region_lazy (S := GenZ w _ C2) (v := .bool true) (ty := 40) (zs := z8) (base := C2) (l := [0, 1, 2, 3, 4, 5, 6, 7]) (A := [9]) (z := 8) (t := 10) (r := [11]) (by kernel_rfl) (by kernel_rfl) (by kernel_rfl) (by kernel_rfl) (by kernel_rfl) (by kernel_rfl) (by kernel_rfl) (by kernel_rfl) (by kernel_rfl) (by kernel_rfl) rfl rfl ?_ (fun _ _ h hb => h.keep hb) (fun _ h => h.s) (unhide D1) ?_
  · intro i hi
    simp at hi
    subst hi
    exact ⟨_, rfl, rfl, fun a w => by go_simp⟩
  clear D1
  refine planB_read (v := ?_) rfl rfl (fun u hS => by go_simp; rfl) ?_
  go_simp
  refine planB_read (v := .agg (cells8 Y)) rfl rfl (fun u hS => exec_mid _ rfl rfl (range_y (hS.e.blk (cs := c24 X Y Z) (List.mem_cons_of_mem _ (List.mem_cons_of_mem _ (List.mem_cons_of_mem _ (List.mem_cons_self))))))) ?_
  go_simp
  refine planB_read (v := ?_) rfl rfl (fun u hS => by go_simp; rfl) ?_
  go_simp
  refine planB_read (v := .int .i64 q) rfl rfl (fun u hS => exec_loadIG hS.e _ rfl rfl (by repeat (first | exact List.mem_cons_self | apply List.mem_cons_of_mem)) rfl) ?_
  go_simp
  refine planB_call (v := (.agg (cells8 kb))) (f := 90) (args := #[.int .i64 q]) rfl rfl (fun u hS => by go_simp) (fun u hS => (unhide m2 u).mono fun _ _ ⟨he, hb⟩ => ⟨he, hS.keep hb, hb⟩) ?_
  go_simp
  refine planB_call (v := (.tuple #[.agg (cells8 y), .bool true])) (f := 89) (args := #[.agg (cells8 Y), (.agg (cells8 kb))]) rfl rfl (fun u hS => by go_simp) (fun u hS => (unhide k2 u).mono fun _ _ ⟨he, hb⟩ => ⟨he, hS.keep hb, hb⟩) ?_
  go_simp
  refine planB_read (v := ?_) rfl rfl (fun u hS => by go_simp; rfl) ?_
  go_simp
  refine planB_read (v := ?_) rfl rfl (fun u hS => by go_simp; rfl) ?_
  go_simp
  refine planB_lazy rfl (fun u => by go_simp) rfl rfl (fun c u hS hB hI2 => ?_)
  have hB7 := hB 9 (by simp)
  clear hB hI2
  simp only [pa, dstOf]
  generalize c 9 = c2 at hB7 ⊢
  have D := hide (hS.e.fillZ (cs := cells8 y) (unhide hlt) (unhide hw0) hB7.1 hB7.2)
  refine ⟨_, exec_store8 (n := y) 40 (.tmp 8) (.tmp 32) hB7.1 rfl rfl rfl rfl iWide, ?_⟩
  clear hS hB7 hlt hw0
  generalize u.setRow c2 (cells8 y) = u2 at D ⊢
  simp only [opsOf]
  go_simp
  go_upto_region 3 with fail
  generalize hw3 : u2 = w3 at D ⊢
  have D1 : Hid (GenZ w _ w3.heap.size w3.drew) := ⟨(unhide D).drew, Nat.le_refl _⟩
  have hlt := hide (fun (p : Nat × TypeId × Array Value) hp => ((unhide D).at_ p hp).lt)
  have hw0 := hide (unhide D).o.size
  clear D hw3
  generalize w3.heap.size = C3 at D1 hlt hw0
  refine region_lazy (S := GenZ w _ C3) (v := .bool true) (ty := 40) (zs := z8) (base := C3) (l := [0, 1, 2, 3, 4, 5, 6, 7]) (A := [9]) (z := 8) (t := 10) (r := [11]) (by kernel_rfl) (by kernel_rfl) (by kernel_rfl) (by kernel_rfl) (by kernel_rfl) (by kernel_rfl) (by kernel_rfl) (by kernel_rfl) (by kernel_rfl) (by kernel_rfl) rfl rfl ?_ (fun _ _ h hb => h.keep hb) (fun _ h => h.s) (unhide D1) ?_
  · intro i hi
    simp at hi
    subst hi
    exact ⟨_, rfl, rfl, fun a w => by go_simp⟩
  clear D1
  refine planB_read (v := ?_) rfl rfl (fun u hS => by go_simp; rfl) ?_
  go_simp
  refine planB_read (v := .agg (cells8 Z)) rfl rfl (fun u hS => exec_mid _ rfl rfl (range_z (hS.e.blk (cs := c24 X Y Z) (List.mem_cons_of_mem _ (List.mem_cons_of_mem _ (List.mem_cons_of_mem _ (List.mem_cons_of_mem _ (List.mem_cons_self)))))))) ?_
  go_simp
  refine planB_read (v := ?_) rfl rfl (fun u hS => by go_simp; rfl) ?_
  go_simp
  refine planB_read (v := .int .i64 r) rfl rfl (fun u hS => exec_loadIG hS.e _ rfl rfl (by repeat (first | exact List.mem_cons_self | apply List.mem_cons_of_mem)) rfl) ?_
  go_simp
  refine planB_call (v := (.agg (cells8 kc))) (f := 90) (args := #[.int .i64 r]) rfl rfl (fun u hS => by go_simp) (fun u hS => (unhide m3 u).mono fun _ _ ⟨he, hb⟩ => ⟨he, hS.keep hb, hb⟩) ?_
  go_simp
  refine planB_call (v := (.tuple #[.agg (cells8 z), .bool true])) (f := 89) (args := #[.agg (cells8 Z), (.agg (cells8 kc))]) rfl rfl (fun u hS => by go_simp) (fun u hS => (unhide k3 u).mono fun _ _ ⟨he, hb⟩ => ⟨he, hS.keep hb, hb⟩) ?_
  go_simp
  refine planB_read (v := ?_) rfl rfl (fun u hS => by go_simp; rfl) ?_
  go_simp
  refine planB_read (v := ?_) rfl rfl (fun u hS => by go_simp; rfl) ?_
  go_simp
  refine planB_lazy rfl (fun u => by go_simp) rfl rfl (fun c u hS hB hI2 => ?_)
  have hB7 := hB 9 (by simp)
  clear hB hI2
  simp only [pa, dstOf]
  generalize c 9 = c3 at hB7 ⊢
  have D := hide (hS.e.fillZ (cs := cells8 z) (unhide hlt) (unhide hw0) hB7.1 hB7.2)
  refine ⟨_, exec_store8 (n := z) 40 (.tmp 10) (.tmp 41) hB7.1 rfl rfl rfl rfl iWide, ?_⟩
  clear hS hB7 hlt hw0
  generalize u.setRow c3 (cells8 z) = u3 at D ⊢
  simp only [opsOf]
  go_simp
  go_wp2_with (first | (with_reducible refine at_list ?_; apply ldG (unhide D) rWide _ rfl rfl rfl (by repeat (first | exact List.mem_cons_self | apply List.mem_cons_of_mem)) rfl) | (go_at_call 91; with_reducible refine (unhide s1 _).mono ?_; rintro e w' ⟨he, hb⟩; subst he; have D := hide ((unhide D).keep hb); clear hb) | (go_at_call 91; with_reducible refine (unhide s2 _).mono ?_; rintro e w' ⟨he, hb⟩; subst he; have D := hide ((unhide D).keep hb); clear hb) | (with_reducible refine at_list ?_; refine stG (unhide D) rWide _ _ rfl rfl rfl rfl rfl rfl (cells8_one _) ?_; intro D'; have D := hide D'; clear D') | (with_reducible refine at_list ?_;  refine bd0 40 rfl rfl bWide0 ?_) | (with_reducible refine at_list ?_; apply stGend (unhide D) rWide _ _ rfl rfl rfl rfl (by repeat (first | exact List.mem_cons_self | apply List.mem_cons_of_mem)) (by omega) rfl rfl (cells8_one _); intro B O))
  exact resGT rWide (unhide B) rfl rfl rfl rfl rfl ⟨rfl, unhide O⟩
theorem fitN_ok {z : Int} (h : fit z = true) : fitN z = enc z := by unfold fitN; rw [h]; rfl
theorem stp_is (t a b : Int) : stp (some t) a b = if fit (a * b) && fit (t + a * b) then some (t + a * b) else none := rfl
theorem stp_no (a b : Int) : stp none a b = none := rfl
theorem RAlong6 (x y z p q r : Int) (hx : Fit x) (hy : Fit y) (hz : Fit z) (hp : I64 p) (hq : I64 q) (hr : I64 r) :
    Ans 40 #[.agg (c24 (enc x) (enc y) (enc z)), .agg (v3 p q r)] (.tuple #[V ((aloI x y z p q r).getD 0), .bool (aloI x y z p q r).isSome]) := fun w => by
  have m1 := Small6 p hp
  have m2 := Small6 q hq
  have m3 := Small6 r hr
  have k1 : Ans 89 #[V x, V p] (.tuple #[.agg (cells8 (fitN (x * p))), .bool (fit (x * p))]) := fun u => refMul x p hx hp.fit u
  have k2 : Ans 89 #[V y, V q] (.tuple #[.agg (cells8 (fitN (y * q))), .bool (fit (y * q))]) := fun u => refMul y q hy hq.fit u
  have k3 : Ans 89 #[V z, V r] (.tuple #[.agg (cells8 (fitN (z * r))), .bool (fit (z * r))]) := fun u => refMul z r hz hr.fit u
  have fz : ∀ v : Int, Fit (if fit v then v else 0) := fun v => by
    by_cases h : fit v = true
    · rw [if_pos h]; exact Fit.of h
    · rw [if_neg h]; exact fit_zero
  have ad : ∀ u v : Int, ∃ (n : Nat) (E : Bool), Ans 91 #[.agg (cells8 (fitN u)), .agg (cells8 (fitN v))] (.tuple #[.agg (cells8 n), .bool E]) := fun u v => by
    rw [fitN_eq u, fitN_eq v]
    exact ⟨_, _, fun k => refAdd _ _ (fz u) (fz v) k⟩
  have ad2 : ∀ u v : Int, Fit u → ∃ (n : Nat) (E : Bool), Ans 91 #[V u, .agg (cells8 (fitN v))] (.tuple #[.agg (cells8 n), .bool E]) := fun u v hu => by
    rw [fitN_eq v]
    exact ⟨_, _, fun k => refAdd _ _ hu (fz v) k⟩
  have no : ∀ s : Option Int, s = none → (.tuple #[V (s.getD 0), .bool s.isSome] : Value) = .tuple #[.agg (cells8 0), .bool false] := fun s h => by rw [h]; rfl
  cases f1 : fit (x * p)
  · have e : aloI x y z p q r = none := by unfold aloI; rw [stp_is, Int.zero_add, f1]; rfl
    rw [e]
    rw [f1] at k1
    obtain ⟨n, E3, s1⟩ := ad (x * p) (y * q)
    by_cases hn : Fit (sv n)
    · obtain ⟨n2, E4, s2⟩ := ad2 (sv n) (z * r) hn
      rw [show (V (sv n) : Value) = .agg (cells8 n) from by rw [cells8_sv n]] at s2
      exact ralong_0 _ _ _ p q r _ _ _ _ _ _ _ _ _ _ _ _ w m1 m2 m3 k1 k2 k3 s1 s2
    · exact absurd (sv_fit n) hn
  cases f2 : fit (y * q)
  · have e : aloI x y z p q r = none := by unfold aloI; rw [stp_is, Int.zero_add, f1]; show stp (stp (some (x * p)) y q) z r = none; rw [stp_is, f2]; rfl
    rw [e]
    rw [f1] at k1
    rw [f2] at k2
    obtain ⟨n, E3, s1⟩ := ad (x * p) (y * q)
    obtain ⟨n2, E4, s2⟩ := ad2 (sv n) (z * r) (sv_fit n)
    rw [show (V (sv n) : Value) = .agg (cells8 n) from by rw [cells8_sv n]] at s2
    exact ralong_1 _ _ _ p q r _ _ _ _ _ _ _ _ _ _ _ w m1 m2 m3 k1 k2 k3 s1 s2
  cases f3 : fit (z * r)
  · have e : aloI x y z p q r = none := by
      unfold aloI
      generalize stp (stp (some 0) x p) y q = o
      cases o with
      | none => rfl
      | some v => rw [stp_is, f3]; rfl
    rw [e]
    rw [f1] at k1
    rw [f2] at k2
    rw [f3] at k3
    obtain ⟨n, E3, s1⟩ := ad (x * p) (y * q)
    obtain ⟨n2, E4, s2⟩ := ad2 (sv n) (z * r) (sv_fit n)
    rw [show (V (sv n) : Value) = .agg (cells8 n) from by rw [cells8_sv n]] at s2
    exact ralong_2 _ _ _ p q r _ _ _ _ _ _ _ _ _ _ w m1 m2 m3 k1 k2 k3 s1 s2
  rw [f1, fitN_ok f1] at k1
  rw [f2, fitN_ok f2] at k2
  rw [f3, fitN_ok f3] at k3
  have s1 : Ans 91 #[V (x * p), V (y * q)] (.tuple #[.agg (cells8 (fitN (x * p + y * q))), .bool (fit (x * p + y * q))]) := fun u => refAdd _ _ (Fit.of f1) (Fit.of f2) u
  cases f4 : fit (x * p + y * q)
  · have e : aloI x y z p q r = none := by unfold aloI; rw [stp_is, Int.zero_add, f1]; show stp (stp (some (x * p)) y q) z r = none; rw [stp_is, f2, f4]; rfl
    rw [e]
    rw [f4] at s1
    obtain ⟨n2, E4, s2⟩ := ad2 (sv (fitN (x * p + y * q))) (z * r) (sv_fit _)
    rw [show (V (sv (fitN (x * p + y * q))) : Value) = .agg (cells8 (fitN (x * p + y * q))) from by rw [cells8_sv (fitN (x * p + y * q))], fitN_ok f3] at s2
    exact ralong_3 _ _ _ p q r _ _ _ _ _ _ _ _ _ w m1 m2 m3 k1 k2 k3 s1 s2
  rw [f4, fitN_ok f4] at s1
  have s2 : Ans 91 #[V (x * p + y * q), V (z * r)] (.tuple #[.agg (cells8 (fitN (x * p + y * q + z * r))), .bool (fit (x * p + y * q + z * r))]) := fun u => refAdd _ _ (Fit.of f4) (Fit.of f3) u
  have e2 : aloI x y z p q r = stp (some (x * p + y * q)) z r := by
    unfold aloI
    rw [stp_is, Int.zero_add, f1]
    show stp (stp (some (x * p)) y q) z r = _
    rw [stp_is, f2, f4]
    rfl
  cases f5 : fit (x * p + y * q + z * r)
  · have e : aloI x y z p q r = none := by rw [e2, stp_is, f3, f5]; rfl
    rw [e]
    rw [f5] at s2
    exact ralong_4 _ _ _ p q r _ _ _ _ _ _ _ _ w m1 m2 m3 k1 k2 k3 s1 s2
  · have e : aloI x y z p q r = some (x * p + y * q + z * r) := by rw [e2, stp_is, f3, f5]; rfl
    rw [e]
    rw [f5, fitN_ok f5] at s2
    exact ralong_5 _ _ _ p q r _ _ _ _ _ _ _ _ w m1 m2 m3 k1 k2 k3 s1 s2
set_option maxHeartbeats 2000000 in
theorem along_law_true (X Y Z : Nat) (p q r : Int) (t : Nat) (w : World) (h1 : Hid (Ans 39 #[.agg (c24 X Y Z), .agg (v3 p q r)] (.tuple #[.agg (cells8 t), .bool true]))) (h2 : Hid (Ans 40 #[.agg (c24 X Y Z), .agg (v3 p q r)] (.tuple #[.agg (cells8 t), .bool true]))) (sE : Hid (same t t = true)) (haw : Hid (Ans 28 #[] (.bool true))) :
    Calls Try.prog 6 #[.agg (c24 X Y Z), .agg (v3 p q r)] w fun e w' => e = .returned (.bool true) ∧ Below w.heap.size w w' := by
  go_enter Try.func6, Try.ntmps6
  go_upto_region 1 with fail
  have D := hide (((Gen.start w).push 43 (c24 X Y Z)).push 26 (v3 p q r))
  simp only [szA] at D
  go_wp2_with (first | (with_reducible refine at_list ?_; apply ldG (unhide D) rSpan _ rfl rfl rfl (by repeat (first | exact List.mem_cons_self | apply List.mem_cons_of_mem)) rfl) | (with_reducible refine at_list ?_; apply ldG (unhide D) rPoint _ rfl rfl rfl (by repeat (first | exact List.mem_cons_self | apply List.mem_cons_of_mem)) rfl) | (with_reducible refine at_list ?_; apply ldG (unhide D) rWide _ rfl rfl rfl (by repeat (first | exact List.mem_cons_self | apply List.mem_cons_of_mem)) rfl) | (go_at_call 39; with_reducible refine (unhide h1 _).mono ?_; rintro e w' ⟨he, hb⟩; subst he; have D := hide ((unhide D).keep hb); clear hb) | (go_at_call 40; with_reducible refine (unhide h2 _).mono ?_; rintro e w' ⟨he, hb⟩; subst he; have D := hide ((unhide D).keep hb); clear hb) | (with_reducible refine at_list ?_; refine stG (unhide D) rWide _ _ rfl rfl rfl rfl rfl rfl (cells8_one _) ?_; intro D'; have D := hide D'; clear D') | (with_reducible refine at_list ?_;  refine wpList_value rfl (exec_eql_wide_is _ _ _ (unhide sE) rfl rfl rfl) ?_) | (go_at_call 28; with_reducible refine (unhide haw _).mono ?_; rintro e w' ⟨he, hb⟩; subst he; have D := hide ((unhide D).keep hb); clear hb))
  go_ret
  exact ⟨rfl, (unhide D).o⟩
set_option maxHeartbeats 2000000 in
theorem along_law_false (X Y Z : Nat) (p q r : Int) (t : Nat) (w : World) (h1 : Hid (Ans 39 #[.agg (c24 X Y Z), .agg (v3 p q r)] (.tuple #[.agg (cells8 t), .bool false]))) (h2 : Hid (Ans 40 #[.agg (c24 X Y Z), .agg (v3 p q r)] (.tuple #[.agg (cells8 t), .bool false]))) (sE : Hid (same t t = true)) (haw : Hid (Ans 28 #[] (.bool true))) :
    Calls Try.prog 6 #[.agg (c24 X Y Z), .agg (v3 p q r)] w fun e w' => e = .returned (.bool true) ∧ Below w.heap.size w w' := by
  go_enter Try.func6, Try.ntmps6
  go_upto_region 1 with fail
  have D := hide (((Gen.start w).push 43 (c24 X Y Z)).push 26 (v3 p q r))
  simp only [szA] at D
  go_wp2_with (first | (with_reducible refine at_list ?_; apply ldG (unhide D) rSpan _ rfl rfl rfl (by repeat (first | exact List.mem_cons_self | apply List.mem_cons_of_mem)) rfl) | (with_reducible refine at_list ?_; apply ldG (unhide D) rPoint _ rfl rfl rfl (by repeat (first | exact List.mem_cons_self | apply List.mem_cons_of_mem)) rfl) | (with_reducible refine at_list ?_; apply ldG (unhide D) rWide _ rfl rfl rfl (by repeat (first | exact List.mem_cons_self | apply List.mem_cons_of_mem)) rfl) | (go_at_call 39; with_reducible refine (unhide h1 _).mono ?_; rintro e w' ⟨he, hb⟩; subst he; have D := hide ((unhide D).keep hb); clear hb) | (go_at_call 40; with_reducible refine (unhide h2 _).mono ?_; rintro e w' ⟨he, hb⟩; subst he; have D := hide ((unhide D).keep hb); clear hb) | (with_reducible refine at_list ?_; refine stG (unhide D) rWide _ _ rfl rfl rfl rfl rfl rfl (cells8_one _) ?_; intro D'; have D := hide D'; clear D') | (with_reducible refine at_list ?_;  refine wpList_value rfl (exec_eql_wide_is _ _ _ (unhide sE) rfl rfl rfl) ?_) | (go_at_call 28; with_reducible refine (unhide haw _).mono ?_; rintro e w' ⟨he, hb⟩; subst he; have D := hide ((unhide D).keep hb); clear hb))
  go_ret
  exact ⟨rfl, (unhide D).o⟩
theorem gridAlong_walk (X Y Z : Nat) (p q r : Int) (h1' : (Lit.int .i64 p).wf = true) (h2' : (Lit.int .i64 q).wf = true) (h3' : (Lit.int .i64 r).wf = true) (w : World) :
    Calls Try.prog 6 #[.agg (c24 X Y Z), .agg (v3 p q r)] w fun e w' => e = .returned (.bool true) ∧ Below w.heap.size w w' := by
  have h1 := I64.wf h1'
  have h2 := I64.wf h2'
  have h3 := I64.wf h3'
  have a := AlongZ (sv X) (sv Y) (sv Z) p q r (sv_fit X) (sv_fit Y) (sv_fit Z) h1 h2 h3
  have b := RAlong6 (sv X) (sv Y) (sv Z) p q r (sv_fit X) (sv_fit Y) (sv_fit Z) h1 h2 h3
  have ec : c24 (enc (sv X)) (enc (sv Y)) (enc (sv Z)) = c24 X Y Z := by unfold c24; rw [← cells8_sv X, ← cells8_sv Y, ← cells8_sv Z]
  rw [ec] at a b
  cases e : (aloI (sv X) (sv Y) (sv Z) p q r).isSome
  · rw [e] at a b
    exact along_law_false X Y Z p q r _ w a b (same_selfG _) awake6Z
  · rw [e] at a b
    exact along_law_true X Y Z p q r _ w a b (same_selfG _) awake6Z

end Go.Proofs.Ytbgafjdgahikcaa
