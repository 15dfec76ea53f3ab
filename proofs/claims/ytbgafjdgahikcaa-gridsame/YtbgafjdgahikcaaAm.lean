/- The laws' own helpers: times, plus, square, opposite. The law GridLagrange. -/
import Derived.Test.YtbgafjdgahikcaaAg
namespace Go.Proofs.Ytbgafjdgahikcaa
open Go.RowKit
set_option maxRecDepth 4000
set_option linter.unusedVariables false

theorem times6_core (a b n : Nat) (E : Bool) (w : World) (h : Hid (Ans 88 #[.agg (cells8 a), .agg (cells8 b)] (.tuple #[.agg (cells8 n), .bool E]))) :
    Calls Try.prog 45 #[.agg (cells8 a), .agg (cells8 b)] w fun e w' => e = .returned (.agg (cells8 n)) ∧ Below w.heap.size w w' := by
  go_enter Try.func45, Try.ntmps45
  go_upto_region 1 with fail
  have D := hide ((((Gen.start w).push 40 (cells8 a)).push 40 (cells8 b)).push 40 z8)
  simp only [szA] at D
  go_wp2_with (first | (with_reducible refine at_list ?_; apply ldG (unhide D) rWide _ rfl rfl rfl (by repeat (first | exact List.mem_cons_self | apply List.mem_cons_of_mem)) rfl) | (go_at_call 88; with_reducible refine (unhide h _).mono ?_; rintro e w' ⟨he, hb⟩; subst he; have D := hide ((unhide D).keep hb); clear hb) | (with_reducible refine at_list ?_; refine stG (unhide D) rWide _ _ rfl rfl rfl rfl rfl rfl (cells8_one _) ?_; intro D'; have D := hide D'; clear D') | (with_reducible refine at_list ?_; apply stGend (unhide D) rWide _ _ rfl rfl rfl rfl (by repeat (first | exact List.mem_cons_self | apply List.mem_cons_of_mem)) (by omega) rfl rfl (cells8_one _); intro B O))
  exact resG rWide (unhide B) rfl rfl rfl rfl ⟨rfl, unhide O⟩
theorem plus6_core (a b n : Nat) (E : Bool) (w : World) (h : Hid (Ans 67 #[.agg (cells8 a), .agg (cells8 b)] (.tuple #[.agg (cells8 n), .bool E]))) :
    Calls Try.prog 43 #[.agg (cells8 a), .agg (cells8 b)] w fun e w' => e = .returned (.agg (cells8 n)) ∧ Below w.heap.size w w' := by
  go_enter Try.func43, Try.ntmps43
  go_upto_region 1 with fail
  have D := hide ((((Gen.start w).push 40 (cells8 a)).push 40 (cells8 b)).push 40 z8)
  simp only [szA] at D
  go_wp2_with (first | (with_reducible refine at_list ?_; apply ldG (unhide D) rWide _ rfl rfl rfl (by repeat (first | exact List.mem_cons_self | apply List.mem_cons_of_mem)) rfl) | (go_at_call 67; with_reducible refine (unhide h _).mono ?_; rintro e w' ⟨he, hb⟩; subst he; have D := hide ((unhide D).keep hb); clear hb) | (with_reducible refine at_list ?_; refine stG (unhide D) rWide _ _ rfl rfl rfl rfl rfl rfl (cells8_one _) ?_; intro D'; have D := hide D'; clear D') | (with_reducible refine at_list ?_; apply stGend (unhide D) rWide _ _ rfl rfl rfl rfl (by repeat (first | exact List.mem_cons_self | apply List.mem_cons_of_mem)) (by omega) rfl rfl (cells8_one _); intro B O))
  exact resG rWide (unhide B) rfl rfl rfl rfl ⟨rfl, unhide O⟩
theorem Times6Z (x y : Int) (hx : Fit x) (hy : Fit y) (h : Fit (x * y)) : Ans 45 #[V x, V y] (V (x * y)) := fun w => times6_core _ _ _ true w (fun u => by
  have k := MulZ x y hx hy u
  rw [toldZ_fit h] at k
  exact k)
theorem Plus6Z (x y : Int) (hx : Fit x) (hy : Fit y) (h : Fit (x + y)) : Ans 43 #[V x, V y] (V (x + y)) := fun w => plus6_core _ _ _ true w (fun u => by
  have k := AddZ x y hx hy u
  rw [toldZ_fit h] at k
  exact k)
set_option maxHeartbeats 2000000 in
theorem square6_core (x y z xx yy zz s t : Nat) (w : World) (h1 : Hid (Ans 45 #[.agg (cells8 x), .agg (cells8 x)] (.agg (cells8 xx)))) (h2 : Hid (Ans 45 #[.agg (cells8 y), .agg (cells8 y)] (.agg (cells8 yy)))) (h3 : Hid (Ans 45 #[.agg (cells8 z), .agg (cells8 z)] (.agg (cells8 zz))))
    (h4 : Hid (Ans 43 #[.agg (cells8 xx), .agg (cells8 yy)] (.agg (cells8 s)))) (h5 : Hid (Ans 43 #[.agg (cells8 s), .agg (cells8 zz)] (.agg (cells8 t)))) :
    Calls Try.prog 44 #[.agg (c24 x y z)] w fun e w' => e = .returned (.agg (cells8 t)) ∧ Below w.heap.size w w' := by
  go_enter Try.func44, Try.ntmps44
  go_upto_region 1 with fail
  have D := hide (((Gen.start w).push 43 (c24 x y z)).push 40 z8)
  simp only [szA] at D
  refine region_last (S := Gen w _) (f := 17) (l := [0, 1, 2, 3, 4, 5, 6, 7, 8, 9, 10, 11, 12, 13, 14, 15, 16]) (by kernel_rfl) (by kernel_rfl) (by kernel_rfl) (by kernel_rfl) (by kernel_rfl) (by kernel_rfl) (by kernel_rfl) (by kernel_rfl) (by kernel_rfl) (by kernel_rfl) rfl rfl (unhide D).drew ?_
  clear D
  refine plan_read (v := ?_) rfl rfl (fun u hS => by go_simp; rfl) ?_
  go_simp
  refine plan_read (v := .agg (cells8 x)) rfl rfl (fun u hS => exec_mid _ rfl rfl (range_x (hS.blk (cs := c24 x y z) (by repeat (first | exact List.mem_cons_self | apply List.mem_cons_of_mem))))) ?_
  go_simp
  refine plan_read (v := ?_) rfl rfl (fun u hS => by go_simp; rfl) ?_
  go_simp
  refine plan_read (v := .agg (cells8 x)) rfl rfl (fun u hS => exec_mid _ rfl rfl (range_x (hS.blk (cs := c24 x y z) (by repeat (first | exact List.mem_cons_self | apply List.mem_cons_of_mem))))) ?_
  go_simp
  refine plan_call (v := (.agg (cells8 xx))) (f := 45) (args := #[.agg (cells8 x), .agg (cells8 x)]) rfl rfl (fun u hS => by go_simp) (fun u hS => (unhide h1 u).mono fun _ _ ⟨he, hb⟩ => ⟨he, hS.keep hb⟩) ?_
  go_simp
  refine plan_read (v := ?_) rfl rfl (fun u hS => by go_simp; rfl) ?_
  go_simp
  refine plan_read (v := .agg (cells8 y)) rfl rfl (fun u hS => exec_mid _ rfl rfl (range_y (hS.blk (cs := c24 x y z) (by repeat (first | exact List.mem_cons_self | apply List.mem_cons_of_mem))))) ?_
  go_simp
  refine plan_read (v := ?_) rfl rfl (fun u hS => by go_simp; rfl) ?_
  go_simp
  refine plan_read (v := .agg (cells8 y)) rfl rfl (fun u hS => exec_mid _ rfl rfl (range_y (hS.blk (cs := c24 x y z) (by repeat (first | exact List.mem_cons_self | apply List.mem_cons_of_mem))))) ?_
  go_simp
  refine plan_call (v := (.agg (cells8 yy))) (f := 45) (args := #[.agg (cells8 y), .agg (cells8 y)]) rfl rfl (fun u hS => by go_simp) (fun u hS => (unhide h2 u).mono fun _ _ ⟨he, hb⟩ => ⟨he, hS.keep hb⟩) ?_
  go_simp
  refine plan_call (v := (.agg (cells8 s))) (f := 43) (args := #[(.agg (cells8 xx)), (.agg (cells8 yy))]) rfl rfl (fun u hS => by go_simp) (fun u hS => (unhide h4 u).mono fun _ _ ⟨he, hb⟩ => ⟨he, hS.keep hb⟩) ?_
  go_simp
  refine plan_read (v := ?_) rfl rfl (fun u hS => by go_simp; rfl) ?_
  go_simp
  refine plan_read (v := .agg (cells8 z)) rfl rfl (fun u hS => exec_mid _ rfl rfl (range_z (hS.blk (cs := c24 x y z) (by repeat (first | exact List.mem_cons_self | apply List.mem_cons_of_mem))))) ?_
  go_simp
  refine plan_read (v := ?_) rfl rfl (fun u hS => by go_simp; rfl) ?_
  go_simp
  refine plan_read (v := .agg (cells8 z)) rfl rfl (fun u hS => exec_mid _ rfl rfl (range_z (hS.blk (cs := c24 x y z) (by repeat (first | exact List.mem_cons_self | apply List.mem_cons_of_mem))))) ?_
  go_simp
  refine plan_call (v := (.agg (cells8 zz))) (f := 45) (args := #[.agg (cells8 z), .agg (cells8 z)]) rfl rfl (fun u hS => by go_simp) (fun u hS => (unhide h3 u).mono fun _ _ ⟨he, hb⟩ => ⟨he, hS.keep hb⟩) ?_
  go_simp
  refine plan_call (v := (.agg (cells8 t))) (f := 43) (args := #[(.agg (cells8 s)), (.agg (cells8 zz))]) rfl rfl (fun u hS => by go_simp) (fun u hS => (unhide h5 u).mono fun _ _ ⟨he, hb⟩ => ⟨he, hS.keep hb⟩) ?_
  go_simp
  refine plan_last (fun u hS => ?_)
  refine wp_store_row 40 (.tmp 2) (.tmp 19) rfl _ (cells8 t) rfl rfl 40 z8 (hS.blk (by repeat (first | exact List.mem_cons_self | apply List.mem_cons_of_mem))) iWide rfl (cells8_one _) ?_
  have B := hide ((hS.blk (g := w.heap.size + 1) (t := 40) (cs := z8) (by repeat (first | exact List.mem_cons_self | apply List.mem_cons_of_mem))).row (cells8 t))
  have O := hide (below_row hS.o (show w.heap.size ≤ w.heap.size + 1 by omega) (cells8 t))
  clear hS
  go_wp2
  exact resG rWide (unhide B) rfl rfl rfl rfl ⟨rfl, unhide O⟩
theorem Square6Z (x y z : Int) (hx : Sz 127 x) (hy : Sz 127 y) (hz : Sz 127 z) : Ans 44 #[.agg (c24 (enc x) (enc y) (enc z))] (V (x * x + y * y + z * z)) := fun w => by
  have a := hx.mul hx
  have b := hy.mul hy
  have c := hz.mul hz
  have s := a.add b
  have t := s.add (c.mono (show 254 ≤ 255 by decide))
  exact square6_core _ _ _ _ _ _ _ _ w (Times6Z x x (hx.fit (by decide)) (hx.fit (by decide)) (a.fit (by decide))) (Times6Z y y (hy.fit (by decide)) (hy.fit (by decide)) (b.fit (by decide))) (Times6Z z z (hz.fit (by decide)) (hz.fit (by decide)) (c.fit (by decide)))
    (Plus6Z _ _ (a.fit (by decide)) (b.fit (by decide)) (s.fit (by decide))) (Plus6Z _ _ (s.fit (by decide)) (c.fit (by decide)) (t.fit (by decide)))
set_option maxHeartbeats 2000000 in
theorem opp6_core (x y z a b c : Nat) (E1 E2 E3 : Bool) (w : World) (h1 : Hid (Ans 48 #[.agg (cells8 x)] (.tuple #[.agg (cells8 a), .bool E1]))) (h2 : Hid (Ans 48 #[.agg (cells8 y)] (.tuple #[.agg (cells8 b), .bool E2]))) (h3 : Hid (Ans 48 #[.agg (cells8 z)] (.tuple #[.agg (cells8 c), .bool E3]))) :
    Calls Try.prog 47 #[.agg (c24 x y z)] w fun e w' => e = .returned (.agg (c24 a b c)) ∧ Below w.heap.size w w' := by
  go_enter Try.func47, Try.ntmps47
  go_upto_region 1 with fail
  have D := hide (((Gen.start w).push 43 (c24 x y z)).push 43 z24)
  simp only [szA] at D
  go_upto_region 4 with (first | (with_reducible refine at_list ?_;  refine ldMid _ rfl rfl rfl (range_x ((unhide D).blk (g := w.heap.size) (t := 43) (cs := c24 x y z) (by repeat (first | exact List.mem_cons_self | apply List.mem_cons_of_mem)))) ?_) | (with_reducible refine at_list ?_;  refine ldMid _ rfl rfl rfl (range_y ((unhide D).blk (g := w.heap.size) (t := 43) (cs := c24 x y z) (by repeat (first | exact List.mem_cons_self | apply List.mem_cons_of_mem)))) ?_) | (with_reducible refine at_list ?_;  refine ldMid _ rfl rfl rfl (range_z ((unhide D).blk (g := w.heap.size) (t := 43) (cs := c24 x y z) (by repeat (first | exact List.mem_cons_self | apply List.mem_cons_of_mem)))) ?_) | (go_at_call 48; with_reducible refine (unhide h1 _).mono ?_; rintro e w' ⟨he, hb⟩; subst he; have D := hide ((unhide D).keep hb); clear hb) | (go_at_call 48; with_reducible refine (unhide h2 _).mono ?_; rintro e w' ⟨he, hb⟩; subst he; have D := hide ((unhide D).keep hb); clear hb) | (go_at_call 48; with_reducible refine (unhide h3 _).mono ?_; rintro e w' ⟨he, hb⟩; subst he; have D := hide ((unhide D).keep hb); clear hb) | (with_reducible refine at_list ?_; refine stG (unhide D) rWide _ _ rfl rfl rfl rfl rfl rfl (cells8_one _) ?_; intro D'; have D := hide D'; clear D'))
  go_wp2_with (first | (with_reducible refine at_list ?_; apply ldG (unhide D) rWide _ rfl rfl rfl (by repeat (first | exact List.mem_cons_self | apply List.mem_cons_of_mem)) rfl) | (with_reducible refine at_list ?_;  refine bdSpan _ _ _ rfl rfl rfl rfl rfl ?_) | (with_reducible refine at_list ?_; apply stGend (unhide D) rSpan _ _ rfl rfl rfl rfl (by repeat (first | exact List.mem_cons_self | apply List.mem_cons_of_mem)) (by omega) rfl rfl (c24_one _ _ _); intro B O))
  exact resG rSpan (unhide B) rfl rfl rfl rfl ⟨rfl, unhide O⟩
theorem Opp6Z (x y z : Int) (hx : Sz 127 x) (hy : Sz 127 y) (hz : Sz 127 z) : Ans 47 #[.agg (c24 (enc x) (enc y) (enc z))] (.agg (c24 (enc (-x)) (enc (-y)) (enc (-z)))) := fun w => by
  have n : ∀ x : Int, Sz 127 x → Ans 48 #[V x] (.tuple #[V (-x), .bool true]) := fun x h u => by
    have k := NegZ x (h.fit (by decide)) u
    rw [toldZ_fit (h.neg.fit (by decide))] at k
    exact k
  exact opp6_core _ _ _ _ _ _ true true true w (n x hx) (n y hy) (n z hz)

set_option maxHeartbeats 4000000 in
theorem lag_law (ax ay az bx b_y bz_ : Int) (n1 n2 n3 o1 o2 o3 d sq dd s aa bb z0 : Nat) (w : World) (x1 : Hid (Ans 35 #[.agg (v3 ax ay az), .agg (v3 bx b_y bz_)] (.agg (c24 n1 n2 n3)))) (hd : Hid (Ans 33 #[.agg (v3 ax ay az), .agg (v3 bx b_y bz_)] (.agg (cells8 d)))) (hsq : Hid (Ans 44 #[.agg (c24 n1 n2 n3)] (.agg (cells8 sq)))) (hdd : Hid (Ans 45 #[.agg (cells8 d), .agg (cells8 d)] (.agg (cells8 dd)))) (hpl : Hid (Ans 43 #[.agg (cells8 sq), .agg (cells8 dd)] (.agg (cells8 s))))
    (a1 : Hid (Ans 39 #[.agg (c24 n1 n2 n3), .agg (v3 ax ay az)] (.tuple #[.agg (cells8 z0), .bool true]))) (a2 : Hid (Ans 39 #[.agg (c24 n1 n2 n3), .agg (v3 bx b_y bz_)] (.tuple #[.agg (cells8 z0), .bool true]))) (ha : Hid (Ans 33 #[.agg (v3 ax ay az), .agg (v3 ax ay az)] (.agg (cells8 aa)))) (hb' : Hid (Ans 33 #[.agg (v3 bx b_y bz_), .agg (v3 bx b_y bz_)] (.agg (cells8 bb)))) (hab : Hid (Ans 45 #[.agg (cells8 aa), .agg (cells8 bb)] (.agg (cells8 s))))
    (s0 : Hid (Ans 46 #[.agg (cells8 z0)] (.int .i64 0))) (x2 : Hid (Ans 35 #[.agg (v3 bx b_y bz_), .agg (v3 ax ay az)] (.agg (c24 o1 o2 o3)))) (ho : Hid (Ans 47 #[.agg (c24 n1 n2 n3)] (.agg (c24 o1 o2 o3)))) (hd2 : Hid (Ans 33 #[.agg (v3 bx b_y bz_), .agg (v3 ax ay az)] (.agg (cells8 d)))) (haw : Hid (Ans 28 #[] (.bool true))) (ss : Hid (same s s = true)) (sd : Hid (same d d = true)) (so : Hid (same3 o1 o2 o3 o1 o2 o3 = true)) :
    Calls Try.prog 8 #[.agg (v3 ax ay az), .agg (v3 bx b_y bz_)] w fun e w' => e = .returned (.bool true) ∧ Below w.heap.size w w' := by
  go_enter Try.func8, Try.ntmps8
  go_upto_region 1 with fail
  have D := hide (((Gen.start w).push 26 (v3 ax ay az)).push 26 (v3 bx b_y bz_))
  simp only [szA] at D
  go_upto_region 3 with (first | (with_reducible refine at_list ?_; apply ldG (unhide D) rPoint _ rfl rfl rfl (by repeat (first | exact List.mem_cons_self | apply List.mem_cons_of_mem)) rfl) | (go_at_call 35; with_reducible refine (unhide x1 _).mono ?_; rintro e w' ⟨he, hb⟩; subst he; have D := hide ((unhide D).keep hb); clear hb) | (go_at_call 33; with_reducible refine (unhide hd _).mono ?_; rintro e w' ⟨he, hb⟩; subst he; have D := hide ((unhide D).keep hb); clear hb) | (with_reducible refine at_list ?_; refine stG (unhide D) rSpan _ _ rfl rfl rfl rfl rfl rfl (c24_one _ _ _) ?_; intro D'; have D := hide D'; clear D') | (with_reducible refine at_list ?_; refine stG (unhide D) rWide _ _ rfl rfl rfl rfl rfl rfl (cells8_one _) ?_; intro D'; have D := hide D'; clear D'))
  generalize hw1 : w'.alloc (.cells (cells8 d) 40) = w1 at D ⊢
  have D1 : Hid (GenZ w _ w1.heap.size w1.drew) := ⟨(unhide D).drew, Nat.le_refl _⟩
  have hlt := hide (fun (p : Nat × TypeId × Array Value) hp => ((unhide D).at_ p hp).lt)
  have hw0 := hide (unhide D).o.size
  clear D hw1
  generalize w1.heap.size = C1 at D1 hlt hw0
  refine region_allocs (S := GenZ w _ C1) (t := 40) (z := z8) (base := C1) (l := [0, 1, 2, 3, 4, 5]) (A := [6]) (T := [7]) (by kernel_rfl) (by kernel_rfl) (by kernel_rfl) (by kernel_rfl) (by kernel_rfl) (by kernel_rfl) (by kernel_rfl) (by kernel_rfl) (by kernel_rfl) (by kernel_rfl) ?_ (fun _ _ h hb => h.keep hb) (fun _ h => h.s) (unhide D1) ?_
  · intro i hi
    simp at hi
    subst hi
    exact ⟨_, rfl, rfl, fun a w => by go_simp⟩
  clear D1
  refine planB_read (v := .agg (c24 n1 n2 n3)) rfl rfl (fun u hS => exec_ldG hS.e rSpan _ rfl rfl (by repeat (first | exact List.mem_cons_self | apply List.mem_cons_of_mem)) rfl) ?_
  go_simp
  refine planB_call (v := (.agg (cells8 sq))) (f := 44) (args := #[.agg (c24 n1 n2 n3)]) rfl rfl (fun u hS => by go_simp) (fun u hS => (unhide hsq u).mono fun _ _ ⟨he, hb⟩ => ⟨he, hS.keep hb, hb⟩) ?_
  go_simp
  refine planB_read (v := .agg (cells8 d)) rfl rfl (fun u hS => exec_ldG hS.e rWide _ rfl rfl (by repeat (first | exact List.mem_cons_self | apply List.mem_cons_of_mem)) rfl) ?_
  go_simp
  refine planB_read (v := .agg (cells8 d)) rfl rfl (fun u hS => exec_ldG hS.e rWide _ rfl rfl (by repeat (first | exact List.mem_cons_self | apply List.mem_cons_of_mem)) rfl) ?_
  go_simp
  refine planB_call (v := (.agg (cells8 dd))) (f := 45) (args := #[.agg (cells8 d), .agg (cells8 d)]) rfl rfl (fun u hS => by go_simp) (fun u hS => (unhide hdd u).mono fun _ _ ⟨he, hb⟩ => ⟨he, hS.keep hb, hb⟩) ?_
  go_simp
  refine planB_call (v := (.agg (cells8 s))) (f := 43) (args := #[(.agg (cells8 sq)), (.agg (cells8 dd))]) rfl rfl (fun u hS => by go_simp) (fun u hS => (unhide hpl u).mono fun _ _ ⟨he, hb⟩ => ⟨he, hS.keep hb, hb⟩) ?_
  go_simp
  refine planB_tail (fun cc u hS hB hI => ?_)
  have h7 := hB 6 (by simp)
  simp only [pa, dstOf, opsOf]
  generalize cc 6 = c1 at h7 ⊢
  have D := hide (hS.e.fillZ (cs := cells8 s) (unhide hlt) (unhide hw0) h7.1 h7.2)
  have H7 := hide h7.1
  clear hS hB hI h7 hlt hw0
  refine wpList_store_row rfl 40 (.tmp 7) (.tmp 23) rfl _ (cells8 s) rfl rfl 40 _ (unhide H7) iWide rfl (cells8_one _) ?_
  generalize u.setRow c1 (cells8 s) = u1 at D ⊢
  clear H7
  go_simp
  go_upto_region 6 with (first | (with_reducible refine at_list ?_; apply ldG (unhide D) rSpan _ rfl rfl rfl (by repeat (first | exact List.mem_cons_self | apply List.mem_cons_of_mem)) rfl) | (with_reducible refine at_list ?_; apply ldG (unhide D) rPoint _ rfl rfl rfl (by repeat (first | exact List.mem_cons_self | apply List.mem_cons_of_mem)) rfl) | (go_at_call 39; with_reducible refine (unhide a1 _).mono ?_; rintro e w' ⟨he, hb⟩; subst he; have D := hide ((unhide D).keep hb); clear hb) | (go_at_call 39; with_reducible refine (unhide a2 _).mono ?_; rintro e w' ⟨he, hb⟩; subst he; have D := hide ((unhide D).keep hb); clear hb) | (with_reducible refine at_list ?_; refine stG (unhide D) rWide _ _ rfl rfl rfl rfl rfl rfl (cells8_one _) ?_; intro D'; have D := hide D'; clear D'))
  refine region_plan (S := Gen w _) (l := [0, 1, 2, 3, 4, 5, 6, 7, 8, 9, 10, 11, 12, 13, 14, 15, 16, 17, 18, 19, 20, 21, 22, 23, 24, 25, 26, 27, 28, 29, 30, 31, 32, 33, 34, 35, 36, 37, 38, 39, 40, 41, 42, 43]) (by kernel_rfl) (by kernel_rfl) (by kernel_rfl) (by kernel_rfl) (by kernel_rfl) (by kernel_rfl) (by kernel_rfl) (unhide D).drew ?_
  clear D
  refine plan_read (v := .agg (cells8 s)) rfl rfl (fun u hS => exec_ldG hS rWide _ rfl rfl (by repeat (first | exact List.mem_cons_self | apply List.mem_cons_of_mem)) rfl) ?_
  go_simp
  refine plan_read (v := .agg (v3 ax ay az)) rfl rfl (fun u hS => exec_ldG hS rPoint _ rfl rfl (by repeat (first | exact List.mem_cons_self | apply List.mem_cons_of_mem)) rfl) ?_
  go_simp
  refine plan_read (v := .agg (v3 ax ay az)) rfl rfl (fun u hS => exec_ldG hS rPoint _ rfl rfl (by repeat (first | exact List.mem_cons_self | apply List.mem_cons_of_mem)) rfl) ?_
  go_simp
  refine plan_call (v := (.agg (cells8 aa))) (f := 33) (args := #[.agg (v3 ax ay az), .agg (v3 ax ay az)]) rfl rfl (fun u hS => by go_simp) (fun u hS => (unhide ha u).mono fun _ _ ⟨he, hb⟩ => ⟨he, hS.keep hb⟩) ?_
  go_simp
  refine plan_read (v := .agg (v3 bx b_y bz_)) rfl rfl (fun u hS => exec_ldG hS rPoint _ rfl rfl (by repeat (first | exact List.mem_cons_self | apply List.mem_cons_of_mem)) rfl) ?_
  go_simp
  refine plan_read (v := .agg (v3 bx b_y bz_)) rfl rfl (fun u hS => exec_ldG hS rPoint _ rfl rfl (by repeat (first | exact List.mem_cons_self | apply List.mem_cons_of_mem)) rfl) ?_
  go_simp
  refine plan_call (v := (.agg (cells8 bb))) (f := 33) (args := #[.agg (v3 bx b_y bz_), .agg (v3 bx b_y bz_)]) rfl rfl (fun u hS => by go_simp) (fun u hS => (unhide hb' u).mono fun _ _ ⟨he, hb⟩ => ⟨he, hS.keep hb⟩) ?_
  go_simp
  refine plan_call (v := (.agg (cells8 s))) (f := 45) (args := #[(.agg (cells8 aa)), (.agg (cells8 bb))]) rfl rfl (fun u hS => by go_simp) (fun u hS => (unhide hab u).mono fun _ _ ⟨he, hb⟩ => ⟨he, hS.keep hb⟩) ?_
  go_simp
  refine plan_read (v := .bool true) rfl rfl (fun u hS => exec_eql_wide_is u _ _ (unhide ss) rfl rfl rfl) ?_
  go_simp
  refine plan_read (v := ?_) rfl rfl (fun u hS => by go_simp; rfl) ?_
  go_simp
  refine plan_read (v := ?_) rfl rfl (fun u hS => by go_simp; rfl) ?_
  go_simp
  refine plan_read (v := ?_) rfl rfl (fun u hS => by go_simp; rfl) ?_
  go_simp
  refine plan_read (v := ?_) rfl rfl (fun u hS => by go_simp; rfl) ?_
  go_simp
  refine plan_read (v := ?_) rfl rfl (fun u hS => by go_simp; rfl) ?_
  go_simp
  refine plan_read (v := ?_) rfl rfl (fun u hS => by go_simp; rfl) ?_
  go_simp
  refine plan_read (v := ?_) rfl rfl (fun u hS => by go_simp; rfl) ?_
  go_simp
  refine plan_read (v := .agg (cells8 z0)) rfl rfl (fun u hS => exec_ldG hS rWide _ rfl rfl (by repeat (first | exact List.mem_cons_self | apply List.mem_cons_of_mem)) rfl) ?_
  go_simp
  refine plan_call (v := (.int .i64 0)) (f := 46) (args := #[.agg (cells8 z0)]) rfl rfl (fun u hS => by go_simp) (fun u hS => (unhide s0 u).mono fun _ _ ⟨he, hb⟩ => ⟨he, hS.keep hb⟩) ?_
  go_simp
  refine plan_read (v := ?_) rfl rfl (fun u hS => by go_simp; rfl) ?_
  go_simp
  refine plan_read (v := ?_) rfl rfl (fun u hS => by go_simp; rfl) ?_
  go_simp
  refine plan_read (v := ?_) rfl rfl (fun u hS => by go_simp; rfl) ?_
  go_simp
  refine plan_read (v := .agg (cells8 z0)) rfl rfl (fun u hS => exec_ldG hS rWide _ rfl rfl (by repeat (first | exact List.mem_cons_self | apply List.mem_cons_of_mem)) rfl) ?_
  go_simp
  refine plan_call (v := (.int .i64 0)) (f := 46) (args := #[.agg (cells8 z0)]) rfl rfl (fun u hS => by go_simp) (fun u hS => (unhide s0 u).mono fun _ _ ⟨he, hb⟩ => ⟨he, hS.keep hb⟩) ?_
  go_simp
  refine plan_read (v := ?_) rfl rfl (fun u hS => by go_simp; rfl) ?_
  go_simp
  refine plan_read (v := ?_) rfl rfl (fun u hS => by go_simp; rfl) ?_
  go_simp
  refine plan_read (v := ?_) rfl rfl (fun u hS => by go_simp; rfl) ?_
  go_simp
  refine plan_read (v := .agg (v3 bx b_y bz_)) rfl rfl (fun u hS => exec_ldG hS rPoint _ rfl rfl (by repeat (first | exact List.mem_cons_self | apply List.mem_cons_of_mem)) rfl) ?_
  go_simp
  refine plan_read (v := .agg (v3 ax ay az)) rfl rfl (fun u hS => exec_ldG hS rPoint _ rfl rfl (by repeat (first | exact List.mem_cons_self | apply List.mem_cons_of_mem)) rfl) ?_
  go_simp
  refine plan_call (v := (.agg (c24 o1 o2 o3))) (f := 35) (args := #[.agg (v3 bx b_y bz_), .agg (v3 ax ay az)]) rfl rfl (fun u hS => by go_simp) (fun u hS => (unhide x2 u).mono fun _ _ ⟨he, hb⟩ => ⟨he, hS.keep hb⟩) ?_
  go_simp
  refine plan_read (v := .agg (c24 n1 n2 n3)) rfl rfl (fun u hS => exec_ldG hS rSpan _ rfl rfl (by repeat (first | exact List.mem_cons_self | apply List.mem_cons_of_mem)) rfl) ?_
  go_simp
  refine plan_call (v := (.agg (c24 o1 o2 o3))) (f := 47) (args := #[.agg (c24 n1 n2 n3)]) rfl rfl (fun u hS => by go_simp) (fun u hS => (unhide ho u).mono fun _ _ ⟨he, hb⟩ => ⟨he, hS.keep hb⟩) ?_
  go_simp
  refine plan_read (v := .bool true) rfl rfl (fun u hS => exec_eql_span u _ _ (unhide so) rfl rfl rfl) ?_
  go_simp
  refine plan_read (v := ?_) rfl rfl (fun u hS => by go_simp; rfl) ?_
  go_simp
  refine plan_read (v := ?_) rfl rfl (fun u hS => by go_simp; rfl) ?_
  go_simp
  refine plan_read (v := .agg (cells8 d)) rfl rfl (fun u hS => exec_ldG hS rWide _ rfl rfl (by repeat (first | exact List.mem_cons_self | apply List.mem_cons_of_mem)) rfl) ?_
  go_simp
  refine plan_read (v := .agg (v3 bx b_y bz_)) rfl rfl (fun u hS => exec_ldG hS rPoint _ rfl rfl (by repeat (first | exact List.mem_cons_self | apply List.mem_cons_of_mem)) rfl) ?_
  go_simp
  refine plan_read (v := .agg (v3 ax ay az)) rfl rfl (fun u hS => exec_ldG hS rPoint _ rfl rfl (by repeat (first | exact List.mem_cons_self | apply List.mem_cons_of_mem)) rfl) ?_
  go_simp
  refine plan_call (v := (.agg (cells8 d))) (f := 33) (args := #[.agg (v3 bx b_y bz_), .agg (v3 ax ay az)]) rfl rfl (fun u hS => by go_simp) (fun u hS => (unhide hd2 u).mono fun _ _ ⟨he, hb⟩ => ⟨he, hS.keep hb⟩) ?_
  go_simp
  refine plan_read (v := .bool true) rfl rfl (fun u hS => exec_eql_wide_is u _ _ (unhide sd) rfl rfl rfl) ?_
  go_simp
  refine plan_read (v := ?_) rfl rfl (fun u hS => by go_simp; rfl) ?_
  go_simp
  refine plan_read (v := ?_) rfl rfl (fun u hS => by go_simp; rfl) ?_
  go_simp
  refine plan_call (v := (.bool true)) (f := 28) (args := #[]) rfl rfl (fun u hS => by go_simp) (fun u hS => (unhide haw u).mono fun _ _ ⟨he, hb⟩ => ⟨he, hS.keep hb⟩) ?_
  go_simp
  refine plan_read (v := ?_) rfl rfl (fun u hS => by go_simp; rfl) ?_
  go_simp
  refine plan_read (v := ?_) rfl rfl (fun u hS => by go_simp; rfl) ?_
  go_simp
  refine plan_end (fun u hS => ?_)
  have O := hide hS.o
  clear hS
  go_wp2
  go_ret
  exact ⟨rfl, unhide O⟩
theorem same3_self (x y z : Nat) : same3 x y z x y z = true := by unfold same3; rw [same_self, same_self, same_self]; rfl
theorem dot_sz {ax ay az bx b_y bz_ : Int} (h1 : I64 ax) (h2 : I64 ay) (h3 : I64 az) (h4 : I64 bx) (h5 : I64 b_y) (h6 : I64 bz_) : Sz 128 (ax * bx + ay * b_y + az * bz_) :=
  ((h1.sz.mul h4.sz).add (h2.sz.mul h5.sz)).add ((h3.sz.mul h6.sz).mono (by decide))
theorem gridLagrange_walk (ax ay az bx b_y bz_ : Int) (h1' : (Lit.int .i64 ax).wf = true) (h2' : (Lit.int .i64 ay).wf = true) (h3' : (Lit.int .i64 az).wf = true) (h4' : (Lit.int .i64 bx).wf = true) (h5' : (Lit.int .i64 b_y).wf = true) (h6' : (Lit.int .i64 bz_).wf = true) (w : World) :
    Calls Try.prog 8 #[.agg (v3 ax ay az), .agg (v3 bx b_y bz_)] w fun e w' => e = .returned (.bool true) ∧ Below w.heap.size w w' := by
  have h1 := I64.wf h1'
  have h2 := I64.wf h2'
  have h3 := I64.wf h3'
  have h4 := I64.wf h4'
  have h5 := I64.wf h5'
  have h6 := I64.wf h6'
  have c1 := cross_sz h2 h6 h3 h5
  have c2 := cross_sz h3 h4 h1 h6
  have c3 := cross_sz h1 h5 h2 h4
  have ds := dot_sz h1 h2 h3 h4 h5 h6
  have as1 := dot_sz h1 h2 h3 h1 h2 h3
  have bs := dot_sz h4 h5 h6 h4 h5 h6
  have sqs := ((c1.mul c1).add (c2.mul c2)).add ((c3.mul c3).mono (show 254 ≤ 255 by decide))
  have a1 := AlongS _ _ _ ax ay az (c1.mono (by decide)) (c2.mono (by decide)) (c3.mono (by decide)) h1 h2 h3
  have a2 := AlongS _ _ _ bx b_y bz_ (c1.mono (by decide)) (c2.mono (by decide)) (c3.mono (by decide)) h4 h5 h6
  rw [show (ay * bz_ - az * b_y) * ax + (az * bx - ax * bz_) * ay + (ax * b_y - ay * bx) * az = 0 by grind] at a1
  rw [show (ay * bz_ - az * b_y) * bx + (az * bx - ax * bz_) * b_y + (ax * b_y - ay * bx) * bz_ = 0 by grind] at a2
  have x2 := Cross6Z bx b_y bz_ ax ay az h4 h5 h6 h1 h2 h3
  rw [show b_y * az - bz_ * ay = -(ay * bz_ - az * b_y) by grind, show bz_ * ax - bx * az = -(az * bx - ax * bz_) by grind, show bx * ay - b_y * ax = -(ax * b_y - ay * bx) by grind] at x2
  have d2 := Dot6Z bx b_y bz_ ax ay az h4 h5 h6 h1 h2 h3
  rw [show bx * ax + b_y * ay + bz_ * az = ax * bx + ay * b_y + az * bz_ by grind] at d2
  have ab := Times6Z (ax * ax + ay * ay + az * az) (bx * bx + b_y * b_y + bz_ * bz_) (as1.fit (by decide)) (bs.fit (by decide)) ((as1.mul bs).fit (by decide))
  have pl := Plus6Z ((ay * bz_ - az * b_y) * (ay * bz_ - az * b_y) + (az * bx - ax * bz_) * (az * bx - ax * bz_) + (ax * b_y - ay * bx) * (ax * b_y - ay * bx)) ((ax * bx + ay * b_y + az * bz_) * (ax * bx + ay * b_y + az * bz_)) (sqs.fit (by decide)) ((ds.mul ds).fit (by decide)) ((sqs.add (ds.mul ds)).fit (by decide))
  rw [show (ay * bz_ - az * b_y) * (ay * bz_ - az * b_y) + (az * bx - ax * bz_) * (az * bx - ax * bz_) + (ax * b_y - ay * bx) * (ax * b_y - ay * bx) + (ax * bx + ay * b_y + az * bz_) * (ax * bx + ay * b_y + az * bz_) = (ax * ax + ay * ay + az * az) * (bx * bx + b_y * b_y + bz_ * bz_) by grind] at pl
  exact lag_law ax ay az bx b_y bz_ _ _ _ _ _ _ _ _ _ _ _ _ _ w (Cross6Z ax ay az bx b_y bz_ h1 h2 h3 h4 h5 h6) (Dot6Z ax ay az bx b_y bz_ h1 h2 h3 h4 h5 h6) (Square6Z _ _ _ c1 c2 c3) (Times6Z _ _ (ds.fit (by decide)) (ds.fit (by decide)) ((ds.mul ds).fit (by decide))) pl a1 a2 (Dot6Z ax ay az ax ay az h1 h2 h3 h1 h2 h3) (Dot6Z bx b_y bz_ bx b_y bz_ h4 h5 h6 h4 h5 h6) ab (fun u => SignZ 0 fit_zero u) x2 (Opp6Z _ _ _ c1 c2 c3) d2 awake6Z (same_self _) (same_self _) (same3_self _ _ _)

end Go.Proofs.Ytbgafjdgahikcaa
