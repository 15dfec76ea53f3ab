/- Package grid: minor, Cross, Dot, Det. -/
import Derived.Test.YtmnaffhlilnlhaaAd
namespace Go.Proofs.Ytmnaffhlilnlhaa
open Go.RowKit
set_option maxRecDepth 4000
set_option linter.unusedVariables false

set_option maxHeartbeats 1000000 in
theorem minor_core (a b c d f r s : Nat) (E1 E2 E3 : Bool) (w : World) (h1 : Hid (Ans 65 #[.agg (cells8 a), .agg (cells8 d)] (.tuple #[.agg (cells8 f), .bool E1]))) (h2 : Hid (Ans 65 #[.agg (cells8 b), .agg (cells8 c)] (.tuple #[.agg (cells8 r), .bool E2]))) (h3 : Hid (Ans 92 #[.agg (cells8 f), .agg (cells8 r)] (.tuple #[.agg (cells8 s), .bool E3]))) :
    Calls Try.prog 61 #[.agg (cells8 a), .agg (cells8 b), .agg (cells8 c), .agg (cells8 d)] w fun e w' => e = .returned (.agg (cells8 s)) ∧ Below w.heap.size w w' := by
  go_enter Try.func61, Try.ntmps61
  go_upto_region 1 with fail
  have D := hide (((((Gen.start w).push 40 (cells8 a)).push 40 (cells8 b)).push 40 (cells8 c)).push 40 (cells8 d))
  have D := hide ((unhide D).push 40 z8)
  simp only [szA] at D
  go_wp2_with (first | (with_reducible refine at_list ?_; apply ldG (unhide D) rWide _ rfl rfl rfl (by repeat (first | exact List.mem_cons_self | apply List.mem_cons_of_mem)) rfl) | (go_at_call 65; with_reducible refine (unhide h1 _).mono ?_; rintro e w' ⟨he, hb⟩; subst he; have D := hide ((unhide D).keep hb); clear hb) | (go_at_call 65; with_reducible refine (unhide h2 _).mono ?_; rintro e w' ⟨he, hb⟩; subst he; have D := hide ((unhide D).keep hb); clear hb) | (go_at_call 92; with_reducible refine (unhide h3 _).mono ?_; rintro e w' ⟨he, hb⟩; subst he; have D := hide ((unhide D).keep hb); clear hb) | (with_reducible refine at_list ?_; refine stG (unhide D) rWide _ _ rfl rfl rfl rfl rfl rfl (cells8_one _) ?_; intro D'; have D := hide D'; clear D') | (with_reducible refine at_list ?_; apply stGend (unhide D) rWide _ _ rfl rfl rfl rfl (by repeat (first | exact List.mem_cons_self | apply List.mem_cons_of_mem)) (by omega) rfl rfl (cells8_one _); intro B O))
  exact resG rWide (unhide B) rfl rfl rfl rfl ⟨rfl, unhide O⟩
theorem MinorZ (a b c d : Int) (ha : I64 a) (hb : I64 b) (hc : I64 c) (hd : I64 d) : Ans 61 #[V a, V b, V c, V d] (V (a * d - b * c)) := fun w => by
  have s1 := ha.sz.mul hd.sz
  have s2 := hb.sz.mul hc.sz
  refine minor_core (enc a) (enc b) (enc c) (enc d) (enc (a * d)) (enc (b * c)) _ true true true w (fun u => ?_) (fun u => ?_) (fun u => ?_)
  · have k := MulZ a d ha.fit hd.fit u
    rw [toldZ_fit (s1.fit (by decide))] at k
    exact k
  · have k := MulZ b c hb.fit hc.fit u
    rw [toldZ_fit (s2.fit (by decide))] at k
    exact k
  · have k := SubZ (a * d) (b * c) (s1.fit (by decide)) (s2.fit (by decide)) u
    rw [toldZ_fit ((s1.sub s2).fit (by decide))] at k
    exact k

set_option maxHeartbeats 2000000 in
theorem dot6_core (ax ay az bx b_y bz_ : Int) (A B C' s : Nat) (E : Bool) (w : World) (hSp : Hid (Ans 58 #[.agg (v3 ax ay az)] (.agg (c24 A B C')))) (hA : Hid (Ans 31 #[.agg (c24 A B C'), .agg (v3 bx b_y bz_)] (.tuple #[.agg (cells8 s), .bool E]))) :
    Calls Try.prog 25 #[.agg (v3 ax ay az), .agg (v3 bx b_y bz_)] w fun e w' => e = .returned (.agg (cells8 s)) ∧ Below w.heap.size w w' := by
  go_enter Try.func25, Try.ntmps25
  go_upto_region 1 with fail
  have D := hide ((((Gen.start w).push 26 (v3 ax ay az)).push 26 (v3 bx b_y bz_)).push 40 z8)
  simp only [szA] at D
  generalize hw1 : ((w.alloc (.cells (v3 ax ay az) 26)).alloc (.cells (v3 bx b_y bz_) 26)).alloc (.cells z8 40) = w1 at D ⊢
  have D1 : Hid (GenZ w _ w1.heap.size w1.drew) := ⟨(unhide D).drew, Nat.le_refl _⟩
  have hlt := hide (fun (p : Nat × TypeId × Array Value) hp => ((unhide D).at_ p hp).lt)
  have hw0 := hide (unhide D).o.size
  clear D hw1
  generalize w1.heap.size = C at D1 hlt hw0
  refine region_lazy (S := GenZ w _ C) (v := .bool E) (ty := 40) (zs := z8) (base := C) (l := [0, 1, 2, 3, 4, 5]) (A := [7]) (z := 6) (t := 8) (r := [9]) (by kernel_rfl) (by kernel_rfl) (by kernel_rfl) (by kernel_rfl) (by kernel_rfl) (by kernel_rfl) (by kernel_rfl) (by kernel_rfl) (by kernel_rfl) (by kernel_rfl) rfl rfl ?_ (fun _ _ h hb => h.keep hb) (fun _ h => h.s) (unhide D1) ?_
  · intro i hi
    simp at hi
    subst hi
    exact ⟨_, rfl, rfl, fun a w => by go_simp⟩
  clear D1
  refine planB_read (v := .agg (v3 ax ay az)) rfl rfl (fun u hS => exec_ldG hS.e rPoint _ rfl rfl (by repeat (first | exact List.mem_cons_self | apply List.mem_cons_of_mem)) rfl) ?_
  go_simp
  refine planB_call (v := (.agg (c24 A B C'))) (f := 58) (args := #[.agg (v3 ax ay az)]) rfl rfl (fun u hS => by go_simp) (fun u hS => (unhide hSp u).mono fun _ _ ⟨he, hb⟩ => ⟨he, hS.keep hb, hb⟩) ?_
  go_simp
  refine planB_read (v := .agg (v3 bx b_y bz_)) rfl rfl (fun u hS => exec_ldG hS.e rPoint _ rfl rfl (by repeat (first | exact List.mem_cons_self | apply List.mem_cons_of_mem)) rfl) ?_
  go_simp
  refine planB_call (v := (.tuple #[.agg (cells8 s), .bool E])) (f := 31) (args := #[(.agg (c24 A B C')), .agg (v3 bx b_y bz_)]) rfl rfl (fun u hS => by go_simp) (fun u hS => (unhide hA u).mono fun _ _ ⟨he, hb⟩ => ⟨he, hS.keep hb, hb⟩) ?_
  go_simp
  refine planB_read (v := ?_) rfl rfl (fun u hS => by go_simp; rfl) ?_
  go_simp
  refine planB_read (v := ?_) rfl rfl (fun u hS => by go_simp; rfl) ?_
  go_simp
  refine planB_lazy rfl (fun u => by go_simp) rfl rfl (fun c u hS hB hI2 => ?_)
  have hB7 := hB 7 (by simp)
  clear hB hI2
  simp only [pa, dstOf]
  generalize c 7 = c7 at hB7 ⊢
  have D := hide (hS.e.fillZ (cs := cells8 s) (unhide hlt) (unhide hw0) hB7.1 hB7.2)
  refine ⟨_, exec_store8 (n := s) 40 (.tmp 5) (.tmp 12) hB7.1 rfl rfl rfl rfl iWide, ?_⟩
  clear hS hB7 hlt hw0
  generalize u.setRow c7 (cells8 s) = u1 at D ⊢
  simp only [opsOf]
  go_simp
  go_wp2_with (first | (with_reducible refine at_list ?_; apply ldG (unhide D) rWide _ rfl rfl rfl (by repeat (first | exact List.mem_cons_self | apply List.mem_cons_of_mem)) rfl) | (with_reducible refine at_list ?_; apply stGend (unhide D) rWide _ _ rfl rfl rfl rfl (by repeat (first | exact List.mem_cons_self | apply List.mem_cons_of_mem)) (by omega) rfl rfl (cells8_one _); intro B O))
  exact resG rWide (unhide B) rfl rfl rfl rfl ⟨rfl, unhide O⟩
theorem Dot6Z (ax ay az bx b_y bz_ : Int) (h1 : I64 ax) (h2 : I64 ay) (h3 : I64 az) (h4 : I64 bx) (h5 : I64 b_y) (h6 : I64 bz_) : Ans 25 #[.agg (v3 ax ay az), .agg (v3 bx b_y bz_)] (V (ax * bx + ay * b_y + az * bz_)) := fun w =>
  dot6_core ax ay az bx b_y bz_ _ _ _ _ true w (SpanZ ax ay az h1 h2 h3) (AlongS ax ay az bx b_y bz_ (h1.sz.mono (by decide)) (h2.sz.mono (by decide)) (h3.sz.mono (by decide)) h4 h5 h6)

set_option maxHeartbeats 4000000 in
theorem cross6_core (ax ay az bx b_y bz_ : Int) (A1 A2 A3 B1 B2 B3 X Y Z : Nat) (w : World) (hSp : Hid (Ans 58 #[.agg (v3 ax ay az)] (.agg (c24 A1 A2 A3)))) (hT : Hid (Ans 58 #[.agg (v3 bx b_y bz_)] (.agg (c24 B1 B2 B3))))
    (m1 : Hid (Ans 61 #[.agg (cells8 A2), .agg (cells8 A3), .agg (cells8 B2), .agg (cells8 B3)] (.agg (cells8 X)))) (m2 : Hid (Ans 61 #[.agg (cells8 A3), .agg (cells8 A1), .agg (cells8 B3), .agg (cells8 B1)] (.agg (cells8 Y)))) (m3 : Hid (Ans 61 #[.agg (cells8 A1), .agg (cells8 A2), .agg (cells8 B1), .agg (cells8 B2)] (.agg (cells8 Z)))) :
    Calls Try.prog 27 #[.agg (v3 ax ay az), .agg (v3 bx b_y bz_)] w fun e w' => e = .returned (.agg (c24 X Y Z)) ∧ Below w.heap.size w w' := by
  go_enter Try.func27, Try.ntmps27
  go_upto_region 1 with fail
  have D := hide ((((Gen.start w).push 26 (v3 ax ay az)).push 26 (v3 bx b_y bz_)).push 43 z24)
  simp only [szA] at D
  generalize hw1 : ((w.alloc (.cells (v3 ax ay az) 26)).alloc (.cells (v3 bx b_y bz_) 26)).alloc (.cells z24 43) = w1 at D ⊢
  have D1 : Hid (GenZ w _ w1.heap.size w1.drew) := ⟨(unhide D).drew, Nat.le_refl _⟩
  have hlt := hide (fun (p : Nat × TypeId × Array Value) hp => ((unhide D).at_ p hp).lt)
  have hw0 := hide (unhide D).o.size
  clear D hw1
  generalize w1.heap.size = C at D1 hlt hw0
  refine region_allocs (S := GenZ w _ C) (t := 43) (z := z24) (base := C) (l := [0, 1, 2, 3]) (A := [4, 5]) (T := [6, 7]) (by kernel_rfl) (by kernel_rfl) (by kernel_rfl) (by kernel_rfl) (by kernel_rfl) (by kernel_rfl) (by kernel_rfl) (by kernel_rfl) (by kernel_rfl) (by kernel_rfl) ?_ (fun _ _ h hb => h.keep hb) (fun _ h => h.s) (unhide D1) ?_
  · intro i hi
    simp at hi
    rcases hi with rfl | rfl
    · exact ⟨_, rfl, rfl, fun a w => by go_simp⟩
    · exact ⟨_, rfl, rfl, fun a w => by go_simp⟩
  clear D1
  refine planB_read (v := .agg (v3 ax ay az)) rfl rfl (fun u hS => exec_ldG hS.e rPoint _ rfl rfl (by repeat (first | exact List.mem_cons_self | apply List.mem_cons_of_mem)) rfl) ?_
  go_simp
  refine planB_call (v := (.agg (c24 A1 A2 A3))) (f := 58) (args := #[.agg (v3 ax ay az)]) rfl rfl (fun u hS => by go_simp) (fun u hS => (unhide hSp u).mono fun _ _ ⟨he, hb⟩ => ⟨he, hS.keep hb, hb⟩) ?_
  go_simp
  refine planB_read (v := .agg (v3 bx b_y bz_)) rfl rfl (fun u hS => exec_ldG hS.e rPoint _ rfl rfl (by repeat (first | exact List.mem_cons_self | apply List.mem_cons_of_mem)) rfl) ?_
  go_simp
  refine planB_call (v := (.agg (c24 B1 B2 B3))) (f := 58) (args := #[.agg (v3 bx b_y bz_)]) rfl rfl (fun u hS => by go_simp) (fun u hS => (unhide hT u).mono fun _ _ ⟨he, hb⟩ => ⟨he, hS.keep hb, hb⟩) ?_
  go_simp
  refine planB_tail (fun cc u hS hB hI => ?_)
  have h4 := hB 4 (by simp)
  have h5 := hB 5 (by simp)
  have hne : cc 4 ≠ cc 5 := fun hc => by have := hI 4 (by simp) 5 (by simp) hc; omega
  simp only [pa, dstOf, opsOf]
  generalize cc 4 = c4 at h4 hne ⊢
  generalize cc 5 = c5 at h5 hne ⊢
  have HR := hide (hS.e.blk (g := w.heap.size + 1 + 1) (t := 43) (cs := z24) (by repeat (first | exact List.mem_cons_self | apply List.mem_cons_of_mem)))
  have hltR := unhide hlt (w.heap.size + 1 + 1, 43, z24) (by repeat (first | exact List.mem_cons_self | apply List.mem_cons_of_mem))
  have O := hide hS.e.o
  have H4 := hide h4.1
  have H5 := hide h5.1
  have hc4 := h4.2
  have hc5 := h5.2
  have h00 := unhide hw0
  clear hS hB hI h4 h5 hlt hw0
  refine wpList_store_row rfl 43 (.tmp 5) (.tmp 8) rfl _ (c24 A1 A2 A3) rfl rfl 43 _ (unhide H4) iSpan rfl (c24_one _ _ _) ?_
  refine wpList_store_row rfl 43 (.tmp 6) (.tmp 10) rfl _ (c24 B1 B2 B3) rfl rfl 43 _ ((unhide H5).rowOther _ (Ne.symm hne)) iSpan rfl (c24_one _ _ _) ?_
  have D : Hid (Gen w [(w.heap.size + 1 + 1, 43, z24), (c4, 43, c24 A1 A2 A3), (c5, 43, c24 B1 B2 B3)] ((u.setRow c4 (c24 A1 A2 A3)).setRow c5 (c24 B1 B2 B3))) :=
    Gen.third (((unhide HR).rowOther _ (by simp only at hltR; omega)).rowOther _ (by simp only at hltR; omega)) (((unhide H4).row _).rowOther _ hne) (((unhide H5).rowOther _ (Ne.symm hne)).row _) (below_row (below_row (unhide O) (by omega) _) (by omega) _)
  clear HR H4 H5 O
  generalize (u.setRow c4 (c24 A1 A2 A3)).setRow c5 (c24 B1 B2 B3) = u1 at D ⊢
  go_simp
  go_upto_region 2 with fail
  refine region_last (S := Gen w _) (f := 28) (l := [0, 1, 2, 3, 4, 5, 6, 7, 8, 9, 10, 11, 12, 13, 14, 15, 16, 17, 18, 19, 20, 21, 22, 23, 24, 25, 26, 27]) (by kernel_rfl) (by kernel_rfl) (by kernel_rfl) (by kernel_rfl) (by kernel_rfl) (by kernel_rfl) (by kernel_rfl) (by kernel_rfl) (by kernel_rfl) (by kernel_rfl) rfl rfl (unhide D).drew ?_
  clear D
  refine plan_read (v := ?_) rfl rfl (fun u hS => by go_simp; rfl) ?_
  go_simp
  refine plan_read (v := .agg (cells8 A2)) rfl rfl (fun u hS => exec_mid _ rfl rfl (range_y (hS.blk (cs := c24 A1 A2 A3) (by repeat (first | exact List.mem_cons_self | apply List.mem_cons_of_mem))))) ?_
  go_simp
  refine plan_read (v := ?_) rfl rfl (fun u hS => by go_simp; rfl) ?_
  go_simp
  refine plan_read (v := .agg (cells8 A3)) rfl rfl (fun u hS => exec_mid _ rfl rfl (range_z (hS.blk (cs := c24 A1 A2 A3) (by repeat (first | exact List.mem_cons_self | apply List.mem_cons_of_mem))))) ?_
  go_simp
  refine plan_read (v := ?_) rfl rfl (fun u hS => by go_simp; rfl) ?_
  go_simp
  refine plan_read (v := .agg (cells8 B2)) rfl rfl (fun u hS => exec_mid _ rfl rfl (range_y (hS.blk (cs := c24 B1 B2 B3) (by repeat (first | exact List.mem_cons_self | apply List.mem_cons_of_mem))))) ?_
  go_simp
  refine plan_read (v := ?_) rfl rfl (fun u hS => by go_simp; rfl) ?_
  go_simp
  refine plan_read (v := .agg (cells8 B3)) rfl rfl (fun u hS => exec_mid _ rfl rfl (range_z (hS.blk (cs := c24 B1 B2 B3) (by repeat (first | exact List.mem_cons_self | apply List.mem_cons_of_mem))))) ?_
  go_simp
  refine plan_call (v := (.agg (cells8 X))) (f := 61) (args := #[.agg (cells8 A2), .agg (cells8 A3), .agg (cells8 B2), .agg (cells8 B3)]) rfl rfl (fun u hS => by go_simp) (fun u hS => (unhide m1 u).mono fun _ _ ⟨he, hb⟩ => ⟨he, hS.keep hb⟩) ?_
  go_simp
  refine plan_read (v := ?_) rfl rfl (fun u hS => by go_simp; rfl) ?_
  go_simp
  refine plan_read (v := .agg (cells8 A3)) rfl rfl (fun u hS => exec_mid _ rfl rfl (range_z (hS.blk (cs := c24 A1 A2 A3) (by repeat (first | exact List.mem_cons_self | apply List.mem_cons_of_mem))))) ?_
  go_simp
  refine plan_read (v := ?_) rfl rfl (fun u hS => by go_simp; rfl) ?_
  go_simp
  refine plan_read (v := .agg (cells8 A1)) rfl rfl (fun u hS => exec_mid _ rfl rfl (range_x (hS.blk (cs := c24 A1 A2 A3) (by repeat (first | exact List.mem_cons_self | apply List.mem_cons_of_mem))))) ?_
  go_simp
  refine plan_read (v := ?_) rfl rfl (fun u hS => by go_simp; rfl) ?_
  go_simp
  refine plan_read (v := .agg (cells8 B3)) rfl rfl (fun u hS => exec_mid _ rfl rfl (range_z (hS.blk (cs := c24 B1 B2 B3) (by repeat (first | exact List.mem_cons_self | apply List.mem_cons_of_mem))))) ?_
  go_simp
  refine plan_read (v := ?_) rfl rfl (fun u hS => by go_simp; rfl) ?_
  go_simp
  refine plan_read (v := .agg (cells8 B1)) rfl rfl (fun u hS => exec_mid _ rfl rfl (range_x (hS.blk (cs := c24 B1 B2 B3) (by repeat (first | exact List.mem_cons_self | apply List.mem_cons_of_mem))))) ?_
  go_simp
  refine plan_call (v := (.agg (cells8 Y))) (f := 61) (args := #[.agg (cells8 A3), .agg (cells8 A1), .agg (cells8 B3), .agg (cells8 B1)]) rfl rfl (fun u hS => by go_simp) (fun u hS => (unhide m2 u).mono fun _ _ ⟨he, hb⟩ => ⟨he, hS.keep hb⟩) ?_
  go_simp
  refine plan_read (v := ?_) rfl rfl (fun u hS => by go_simp; rfl) ?_
  go_simp
  refine plan_read (v := .agg (cells8 A1)) rfl rfl (fun u hS => exec_mid _ rfl rfl (range_x (hS.blk (cs := c24 A1 A2 A3) (by repeat (first | exact List.mem_cons_self | apply List.mem_cons_of_mem))))) ?_
  go_simp
  refine plan_read (v := ?_) rfl rfl (fun u hS => by go_simp; rfl) ?_
  go_simp
  refine plan_read (v := .agg (cells8 A2)) rfl rfl (fun u hS => exec_mid _ rfl rfl (range_y (hS.blk (cs := c24 A1 A2 A3) (by repeat (first | exact List.mem_cons_self | apply List.mem_cons_of_mem))))) ?_
  go_simp
  refine plan_read (v := ?_) rfl rfl (fun u hS => by go_simp; rfl) ?_
  go_simp
  refine plan_read (v := .agg (cells8 B1)) rfl rfl (fun u hS => exec_mid _ rfl rfl (range_x (hS.blk (cs := c24 B1 B2 B3) (by repeat (first | exact List.mem_cons_self | apply List.mem_cons_of_mem))))) ?_
  go_simp
  refine plan_read (v := ?_) rfl rfl (fun u hS => by go_simp; rfl) ?_
  go_simp
  refine plan_read (v := .agg (cells8 B2)) rfl rfl (fun u hS => exec_mid _ rfl rfl (range_y (hS.blk (cs := c24 B1 B2 B3) (by repeat (first | exact List.mem_cons_self | apply List.mem_cons_of_mem))))) ?_
  go_simp
  refine plan_call (v := (.agg (cells8 Z))) (f := 61) (args := #[.agg (cells8 A1), .agg (cells8 A2), .agg (cells8 B1), .agg (cells8 B2)]) rfl rfl (fun u hS => by go_simp) (fun u hS => (unhide m3 u).mono fun _ _ ⟨he, hb⟩ => ⟨he, hS.keep hb⟩) ?_
  go_simp
  refine plan_read (v := .agg (c24 X Y Z)) rfl rfl (fun u hS => exec_build3 u 43 _ _ _ rfl rfl rfl rfl (bSpan _ _ _)) ?_
  go_simp
  refine plan_last (fun u hS => ?_)
  refine wp_store_row 43 (.tmp 4) (.tmp 38) rfl _ (c24 X Y Z) rfl rfl 43 z24 (hS.blk (by repeat (first | exact List.mem_cons_self | apply List.mem_cons_of_mem))) iSpan rfl (c24_one _ _ _) ?_
  have B := hide ((hS.blk (g := w.heap.size + 1 + 1) (t := 43) (cs := z24) (by repeat (first | exact List.mem_cons_self | apply List.mem_cons_of_mem))).row (c24 X Y Z))
  have O := hide (below_row hS.o (show w.heap.size ≤ w.heap.size + 1 + 1 by omega) (c24 X Y Z))
  clear hS
  go_wp2
  exact resG rSpan (unhide B) rfl rfl rfl rfl ⟨rfl, unhide O⟩
theorem Cross6Z (ax ay az bx b_y bz_ : Int) (h1 : I64 ax) (h2 : I64 ay) (h3 : I64 az) (h4 : I64 bx) (h5 : I64 b_y) (h6 : I64 bz_) : Ans 27 #[.agg (v3 ax ay az), .agg (v3 bx b_y bz_)] (.agg (c24 (enc (ay * bz_ - az * b_y)) (enc (az * bx - ax * bz_)) (enc (ax * b_y - ay * bx)))) := fun w =>
  cross6_core ax ay az bx b_y bz_ _ _ _ _ _ _ _ _ _ w (SpanZ ax ay az h1 h2 h3) (SpanZ bx b_y bz_ h4 h5 h6) (MinorZ ay az b_y bz_ h2 h3 h5 h6) (MinorZ az ax bz_ bx h3 h1 h6 h4) (MinorZ ax ay bx b_y h1 h2 h4 h5)

set_option maxHeartbeats 2000000 in
theorem det6_core (ax ay az bx b_y bz_ cx cy cz : Int) (X Y Z s : Nat) (E : Bool) (w : World) (hC : Hid (Ans 27 #[.agg (v3 ax ay az), .agg (v3 bx b_y bz_)] (.agg (c24 X Y Z)))) (hA : Hid (Ans 31 #[.agg (c24 X Y Z), .agg (v3 cx cy cz)] (.tuple #[.agg (cells8 s), .bool E]))) :
    Calls Try.prog 29 #[.agg (v3 ax ay az), .agg (v3 bx b_y bz_), .agg (v3 cx cy cz)] w fun e w' => e = .returned (.agg (cells8 s)) ∧ Below w.heap.size w w' := by
  go_enter Try.func29, Try.ntmps29
  go_upto_region 1 with fail
  have D := hide (((((Gen.start w).push 26 (v3 ax ay az)).push 26 (v3 bx b_y bz_)).push 26 (v3 cx cy cz)).push 40 z8)
  simp only [szA] at D
  generalize hw1 : (((w.alloc (.cells (v3 ax ay az) 26)).alloc (.cells (v3 bx b_y bz_) 26)).alloc (.cells (v3 cx cy cz) 26)).alloc (.cells z8 40) = w1 at D ⊢
  have D1 : Hid (GenZ w _ w1.heap.size w1.drew) := ⟨(unhide D).drew, Nat.le_refl _⟩
  have hlt := hide (fun (p : Nat × TypeId × Array Value) hp => ((unhide D).at_ p hp).lt)
  have hw0 := hide (unhide D).o.size
  clear D hw1
  generalize w1.heap.size = C at D1 hlt hw0
  refine region_lazy (S := GenZ w _ C) (v := .bool E) (ty := 40) (zs := z8) (base := C) (l := [0, 1, 2, 3, 4, 5, 6]) (A := [8]) (z := 7) (t := 9) (r := [10]) (by kernel_rfl) (by kernel_rfl) (by kernel_rfl) (by kernel_rfl) (by kernel_rfl) (by kernel_rfl) (by kernel_rfl) (by kernel_rfl) (by kernel_rfl) (by kernel_rfl) rfl rfl ?_ (fun _ _ h hb => h.keep hb) (fun _ h => h.s) (unhide D1) ?_
  · intro i hi
    simp at hi
    subst hi
    exact ⟨_, rfl, rfl, fun a w => by go_simp⟩
  clear D1
  refine planB_read (v := .agg (v3 ax ay az)) rfl rfl (fun u hS => exec_ldG hS.e rPoint _ rfl rfl (by repeat (first | exact List.mem_cons_self | apply List.mem_cons_of_mem)) rfl) ?_
  go_simp
  refine planB_read (v := .agg (v3 bx b_y bz_)) rfl rfl (fun u hS => exec_ldG hS.e rPoint _ rfl rfl (by repeat (first | exact List.mem_cons_self | apply List.mem_cons_of_mem)) rfl) ?_
  go_simp
  refine planB_call (v := (.agg (c24 X Y Z))) (f := 27) (args := #[.agg (v3 ax ay az), .agg (v3 bx b_y bz_)]) rfl rfl (fun u hS => by go_simp) (fun u hS => (unhide hC u).mono fun _ _ ⟨he, hb⟩ => ⟨he, hS.keep hb, hb⟩) ?_
  go_simp
  refine planB_read (v := .agg (v3 cx cy cz)) rfl rfl (fun u hS => exec_ldG hS.e rPoint _ rfl rfl (by repeat (first | exact List.mem_cons_self | apply List.mem_cons_of_mem)) rfl) ?_
  go_simp
  refine planB_call (v := (.tuple #[.agg (cells8 s), .bool E])) (f := 31) (args := #[(.agg (c24 X Y Z)), .agg (v3 cx cy cz)]) rfl rfl (fun u hS => by go_simp) (fun u hS => (unhide hA u).mono fun _ _ ⟨he, hb⟩ => ⟨he, hS.keep hb, hb⟩) ?_
  go_simp
  refine planB_read (v := ?_) rfl rfl (fun u hS => by go_simp; rfl) ?_
  go_simp
  refine planB_read (v := ?_) rfl rfl (fun u hS => by go_simp; rfl) ?_
  go_simp
  refine planB_lazy rfl (fun u => by go_simp) rfl rfl (fun c u hS hB hI2 => ?_)
  have hB7 := hB 8 (by simp)
  clear hB hI2
  simp only [pa, dstOf]
  generalize c 8 = c7 at hB7 ⊢
  have D := hide (hS.e.fillZ (cs := cells8 s) (unhide hlt) (unhide hw0) hB7.1 hB7.2)
  refine ⟨_, exec_store8 (n := s) 40 (.tmp 7) (.tmp 15) hB7.1 rfl rfl rfl rfl iWide, ?_⟩
  clear hS hB7 hlt hw0
  generalize u.setRow c7 (cells8 s) = u1 at D ⊢
  simp only [opsOf]
  go_simp
  go_wp2_with (first | (with_reducible refine at_list ?_; apply ldG (unhide D) rWide _ rfl rfl rfl (by repeat (first | exact List.mem_cons_self | apply List.mem_cons_of_mem)) rfl) | (with_reducible refine at_list ?_; apply stGend (unhide D) rWide _ _ rfl rfl rfl rfl (by repeat (first | exact List.mem_cons_self | apply List.mem_cons_of_mem)) (by omega) rfl rfl (cells8_one _); intro B O))
  exact resG rWide (unhide B) rfl rfl rfl rfl ⟨rfl, unhide O⟩
/-- The determinant. -/
def detI (ax ay az bx b_y bz_ cx cy cz : Int) : Int := (ay * bz_ - az * b_y) * cx + (az * bx - ax * bz_) * cy + (ax * b_y - ay * bx) * cz
theorem cross_sz {a b c d : Int} (h1 : I64 a) (h2 : I64 b) (h3 : I64 c) (h4 : I64 d) : Sz 127 (a * b - c * d) := (h1.sz.mul h2.sz).sub (h3.sz.mul h4.sz)
theorem Det6Z (ax ay az bx b_y bz_ cx cy cz : Int) (h1 : I64 ax) (h2 : I64 ay) (h3 : I64 az) (h4 : I64 bx) (h5 : I64 b_y) (h6 : I64 bz_) (h7 : I64 cx) (h8 : I64 cy) (h9 : I64 cz) : Ans 29 #[.agg (v3 ax ay az), .agg (v3 bx b_y bz_), .agg (v3 cx cy cz)] (V (detI ax ay az bx b_y bz_ cx cy cz)) := fun w =>
  det6_core ax ay az bx b_y bz_ cx cy cz _ _ _ _ true w (Cross6Z ax ay az bx b_y bz_ h1 h2 h3 h4 h5 h6) (AlongS _ _ _ cx cy cz ((cross_sz h2 h6 h3 h5).mono (by decide)) ((cross_sz h3 h4 h1 h6).mono (by decide)) ((cross_sz h1 h5 h2 h4).mono (by decide)) h7 h8 h9)

end Go.Proofs.Ytmnaffhlilnlhaa
