/- Package grid: minor, Cross, Dot, Det. Package grid: Value, Less. Package cmp: Compare, Or. Package grid: Cmp. -/
import Derived.Test.YtnemedgdhojhdaaGreatAa
namespace Go.Proofs.YtnemedgdhojhdaaGreat
open Go.RowKit
set_option maxRecDepth 4000
set_option linter.unusedVariables false

set_option maxHeartbeats 1000000 in
theorem minor_core (a b c d f r s : Nat) (E1 E2 E3 : Bool) (w : World) (h1 : Hid (Ans 126 #[.agg (cells8 a), .agg (cells8 d)] (.tuple #[.agg (cells8 f), .bool E1]))) (h2 : Hid (Ans 126 #[.agg (cells8 b), .agg (cells8 c)] (.tuple #[.agg (cells8 r), .bool E2]))) (h3 : Hid (Ans 206 #[.agg (cells8 f), .agg (cells8 r)] (.tuple #[.agg (cells8 s), .bool E3]))) :
    Calls Tryz.prog 203 #[.agg (cells8 a), .agg (cells8 b), .agg (cells8 c), .agg (cells8 d)] w fun e w' => e = .returned (.agg (cells8 s)) ∧ Below w.heap.size w w' := by
  go_enter Tryz.func203, Tryz.ntmps203
  go_upto_region 1 with fail
  have D := hide (((((Gen.start w).push 75 (cells8 a)).push 75 (cells8 b)).push 75 (cells8 c)).push 75 (cells8 d))
  have D := hide ((unhide D).push 75 z8)
  simp only [szA] at D
  go_wp2_with (first | (with_reducible refine at_list ?_; apply ldG (unhide D) rWide _ rfl rfl rfl (by repeat (first | exact List.mem_cons_self | apply List.mem_cons_of_mem)) rfl) | (go_at_call 126; with_reducible refine (unhide h1 _).mono ?_; rintro e w' ⟨he, hb⟩; subst he; have D := hide ((unhide D).keep hb); clear hb) | (go_at_call 126; with_reducible refine (unhide h2 _).mono ?_; rintro e w' ⟨he, hb⟩; subst he; have D := hide ((unhide D).keep hb); clear hb) | (go_at_call 206; with_reducible refine (unhide h3 _).mono ?_; rintro e w' ⟨he, hb⟩; subst he; have D := hide ((unhide D).keep hb); clear hb) | (with_reducible refine at_list ?_; refine stG (unhide D) rWide _ _ rfl rfl rfl rfl rfl rfl (cells8_one _) ?_; intro D'; have D := hide D'; clear D') | (with_reducible refine at_list ?_; apply stGend (unhide D) rWide _ _ rfl rfl rfl rfl (by repeat (first | exact List.mem_cons_self | apply List.mem_cons_of_mem)) (by omega) rfl rfl (cells8_one _); intro B O))
  exact resG rWide (unhide B) rfl rfl rfl rfl ⟨rfl, unhide O⟩
theorem MinorZ (a b c d : Int) (ha : I64 a) (hb : I64 b) (hc : I64 c) (hd : I64 d) : Ans 203 #[V a, V b, V c, V d] (V (a * d - b * c)) := fun w => by
  have s1 := ha.sz.mul hd.sz
  have s2 := hb.sz.mul hc.sz
  refine minor_core (enc a) (enc b) (enc c) (enc d) (enc (a * d)) (enc (b * c)) _ true true true w (fun u => ?_) (fun u => ?_) (fun u => ?_)
  · have k := MulZ a d ha.fit hd.fit u
    rw [toldZ_fit (s1.fit (by decide))] at k
    exact k
  · have k := MulZ b c hb.fit hc.fit u
    rw [toldZ_fit (s2.fit (by decide))] at k
    exact k
  · have k := SubZ (a * d) (b * c) (s1.fit (by decide)) (s2.fit (by decide)) u
    rw [toldZ_fit ((s1.sub s2).fit (by decide))] at k
    exact k

set_option maxHeartbeats 4000000 in
theorem cross6_core (ax ay az bx b_y bz_ : Int) (A1 A2 A3 B1 B2 B3 X Y Z : Nat) (w : World) (hSp : Hid (Ans 202 #[.agg (v3 ax ay az)] (.agg (c24 A1 A2 A3)))) (hT : Hid (Ans 202 #[.agg (v3 bx b_y bz_)] (.agg (c24 B1 B2 B3))))
    (m1 : Hid (Ans 203 #[.agg (cells8 A2), .agg (cells8 A3), .agg (cells8 B2), .agg (cells8 B3)] (.agg (cells8 X)))) (m2 : Hid (Ans 203 #[.agg (cells8 A3), .agg (cells8 A1), .agg (cells8 B3), .agg (cells8 B1)] (.agg (cells8 Y)))) (m3 : Hid (Ans 203 #[.agg (cells8 A1), .agg (cells8 A2), .agg (cells8 B1), .agg (cells8 B2)] (.agg (cells8 Z)))) :
    Calls Tryz.prog 197 #[.agg (v3 ax ay az), .agg (v3 bx b_y bz_)] w fun e w' => e = .returned (.agg (c24 X Y Z)) ∧ Below w.heap.size w w' := by
  go_enter Tryz.func197, Tryz.ntmps197
  go_upto_region 1 with fail
  have D := hide ((((Gen.start w).push 64 (v3 ax ay az)).push 64 (v3 bx b_y bz_)).push 121 z24)
  simp only [szA] at D
  generalize hw1 : ((w.alloc (.cells (v3 ax ay az) 64)).alloc (.cells (v3 bx b_y bz_) 64)).alloc (.cells z24 121) = w1 at D ⊢
  have D1 : Hid (GenZ w _ w1.heap.size w1.drew) := ⟨(unhide D).drew, Nat.le_refl _⟩
  have hlt := hide (fun (p : Nat × TypeId × Array Value) hp => ((unhide D).at_ p hp).lt)
  have hw0 := hide (unhide D).o.size
  clear D hw1
  generalize w1.heap.size = C at D1 hlt hw0
  refine region_allocs (S := GenZ w _ C) (t := 121) (z := z24) (base := C) (l := [0, 1, 2, 3]) (A := [4, 5]) (T := [6, 7]) (by kernel_rfl) (by kernel_rfl) (by kernel_rfl) (by kernel_rfl) (by kernel_rfl) (by kernel_rfl) (by kernel_rfl) (by kernel_rfl) (by kernel_rfl) (by kernel_rfl) ?_ (fun _ _ h hb => h.keep hb) (fun _ h => h.s) (unhide D1) ?_
  · intro i hi
    simp at hi
    rcases hi with rfl | rfl
    · exact ⟨_, rfl, rfl, fun a w => by go_simp⟩
    · exact ⟨_, rfl, rfl, fun a w => by go_simp⟩
  clear D1
  refine planB_read (v := .agg (v3 ax ay az)) rfl rfl (fun u hS => exec_ldG hS.e rPoint _ rfl rfl (by repeat (first | exact List.mem_cons_self | apply List.mem_cons_of_mem)) rfl) ?_
  go_simp
  refine planB_call (v := (.agg (c24 A1 A2 A3))) (f := 202) (args := #[.agg (v3 ax ay az)]) rfl rfl (fun u hS => by go_simp) (fun u hS => (unhide hSp u).mono fun _ _ ⟨he, hb⟩ => ⟨he, hS.keep hb, hb⟩) ?_
  go_simp
  refine planB_read (v := .agg (v3 bx b_y bz_)) rfl rfl (fun u hS => exec_ldG hS.e rPoint _ rfl rfl (by repeat (first | exact List.mem_cons_self | apply List.mem_cons_of_mem)) rfl) ?_
  go_simp
  refine planB_call (v := (.agg (c24 B1 B2 B3))) (f := 202) (args := #[.agg (v3 bx b_y bz_)]) rfl rfl (fun u hS => by go_simp) (fun u hS => (unhide hT u).mono fun _ _ ⟨he, hb⟩ => ⟨he, hS.keep hb, hb⟩) ?_
  go_simp
  refine planB_tail (fun cc u hS hB hI => ?_)
  have h4 := hB 4 (by simp)
  have h5 := hB 5 (by simp)
  have hne : cc 4 ≠ cc 5 := fun hc => by have := hI 4 (by simp) 5 (by simp) hc; omega
  simp only [pa, dstOf, opsOf]
  generalize cc 4 = c4 at h4 hne ⊢
  generalize cc 5 = c5 at h5 hne ⊢
  have HR := hide (hS.e.blk (g := w.heap.size + 1 + 1) (t := 121) (cs := z24) (by repeat (first | exact List.mem_cons_self | apply List.mem_cons_of_mem)))
  have hltR := unhide hlt (w.heap.size + 1 + 1, 121, z24) (by repeat (first | exact List.mem_cons_self | apply List.mem_cons_of_mem))
  have O := hide hS.e.o
  have H4 := hide h4.1
  have H5 := hide h5.1
  have hc4 := h4.2
  have hc5 := h5.2
  have h00 := unhide hw0
  clear hS hB hI h4 h5 hlt hw0
  refine wpList_store_row rfl 121 (.tmp 5) (.tmp 8) rfl _ (c24 A1 A2 A3) rfl rfl 121 _ (unhide H4) iSpan rfl (c24_one _ _ _) ?_
  refine wpList_store_row rfl 121 (.tmp 6) (.tmp 10) rfl _ (c24 B1 B2 B3) rfl rfl 121 _ ((unhide H5).rowOther _ (Ne.symm hne)) iSpan rfl (c24_one _ _ _) ?_
  have D : Hid (Gen w [(w.heap.size + 1 + 1, 121, z24), (c4, 121, c24 A1 A2 A3), (c5, 121, c24 B1 B2 B3)] ((u.setRow c4 (c24 A1 A2 A3)).setRow c5 (c24 B1 B2 B3))) :=
    Gen.third (((unhide HR).rowOther _ (by simp only at hltR; omega)).rowOther _ (by simp only at hltR; omega)) (((unhide H4).row _).rowOther _ hne) (((unhide H5).rowOther _ (Ne.symm hne)).row _) (below_row (below_row (unhide O) (by omega) _) (by omega) _)
  clear HR H4 H5 O
  generalize (u.setRow c4 (c24 A1 A2 A3)).setRow c5 (c24 B1 B2 B3) = u1 at D ⊢
  go_simp
  go_upto_region 2 with fail
  refine region_last (S := Gen w _) (f := 28) (l := [0, 1, 2, 3, 4, 5, 6, 7, 8, 9, 10, 11, 12, 13, 14, 15, 16, 17, 18, 19, 20, 21, 22, 23, 24, 25, 26, 27]) (by kernel_rfl) (by kernel_rfl) (by kernel_rfl) (by kernel_rfl) (by kernel_rfl) (by kernel_rfl) (by kernel_rfl) (by kernel_rfl) (by kernel_rfl) (by kernel_rfl) rfl rfl (unhide D).drew ?_
  clear D
  refine plan_read (v := ?_) rfl rfl (fun u hS => by go_simp; rfl) ?_
  go_simp
  refine plan_read (v := .agg (cells8 A2)) rfl rfl (fun u hS => exec_mid _ rfl rfl (range_y (hS.blk (cs := c24 A1 A2 A3) (by repeat (first | exact List.mem_cons_self | apply List.mem_cons_of_mem))))) ?_
  go_simp
  refine plan_read (v := ?_) rfl rfl (fun u hS => by go_simp; rfl) ?_
  go_simp
  refine plan_read (v := .agg (cells8 A3)) rfl rfl (fun u hS => exec_mid _ rfl rfl (range_z (hS.blk (cs := c24 A1 A2 A3) (by repeat (first | exact List.mem_cons_self | apply List.mem_cons_of_mem))))) ?_
  go_simp
  refine plan_read (v := ?_) rfl rfl (fun u hS => by go_simp; rfl) ?_
  go_simp
  refine plan_read (v := .agg (cells8 B2)) rfl rfl (fun u hS => exec_mid _ rfl rfl (range_y (hS.blk (cs := c24 B1 B2 B3) (by repeat (first | exact List.mem_cons_self | apply List.mem_cons_of_mem))))) ?_
  go_simp
  refine plan_read (v := ?_) rfl rfl (fun u hS => by go_simp; rfl) ?_
  go_simp
  refine plan_read (v := .agg (cells8 B3)) rfl rfl (fun u hS => exec_mid _ rfl rfl (range_z (hS.blk (cs := c24 B1 B2 B3) (by repeat (first | exact List.mem_cons_self | apply List.mem_cons_of_mem))))) ?_
  go_simp
  refine plan_call (v := (.agg (cells8 X))) (f := 203) (args := #[.agg (cells8 A2), .agg (cells8 A3), .agg (cells8 B2), .agg (cells8 B3)]) rfl rfl (fun u hS => by go_simp) (fun u hS => (unhide m1 u).mono fun _ _ ⟨he, hb⟩ => ⟨he, hS.keep hb⟩) ?_
  go_simp
  refine plan_read (v := ?_) rfl rfl (fun u hS => by go_simp; rfl) ?_
  go_simp
  refine plan_read (v := .agg (cells8 A3)) rfl rfl (fun u hS => exec_mid _ rfl rfl (range_z (hS.blk (cs := c24 A1 A2 A3) (by repeat (first | exact List.mem_cons_self | apply List.mem_cons_of_mem))))) ?_
  go_simp
  refine plan_read (v := ?_) rfl rfl (fun u hS => by go_simp; rfl) ?_
  go_simp
  refine plan_read (v := .agg (cells8 A1)) rfl rfl (fun u hS => exec_mid _ rfl rfl (range_x (hS.blk (cs := c24 A1 A2 A3) (by repeat (first | exact List.mem_cons_self | apply List.mem_cons_of_mem))))) ?_
  go_simp
  refine plan_read (v := ?_) rfl rfl (fun u hS => by go_simp; rfl) ?_
  go_simp
  refine plan_read (v := .agg (cells8 B3)) rfl rfl (fun u hS => exec_mid _ rfl rfl (range_z (hS.blk (cs := c24 B1 B2 B3) (by repeat (first | exact List.mem_cons_self | apply List.mem_cons_of_mem))))) ?_
  go_simp
  refine plan_read (v := ?_) rfl rfl (fun u hS => by go_simp; rfl) ?_
  go_simp
  refine plan_read (v := .agg (cells8 B1)) rfl rfl (fun u hS => exec_mid _ rfl rfl (range_x (hS.blk (cs := c24 B1 B2 B3) (by repeat (first | exact List.mem_cons_self | apply List.mem_cons_of_mem))))) ?_
  go_simp
  refine plan_call (v := (.agg (cells8 Y))) (f := 203) (args := #[.agg (cells8 A3), .agg (cells8 A1), .agg (cells8 B3), .agg (cells8 B1)]) rfl rfl (fun u hS => by go_simp) (fun u hS => (unhide m2 u).mono fun _ _ ⟨he, hb⟩ => ⟨he, hS.keep hb⟩) ?_
  go_simp
  refine plan_read (v := ?_) rfl rfl (fun u hS => by go_simp; rfl) ?_
  go_simp
  refine plan_read (v := .agg (cells8 A1)) rfl rfl (fun u hS => exec_mid _ rfl rfl (range_x (hS.blk (cs := c24 A1 A2 A3) (by repeat (first | exact List.mem_cons_self | apply List.mem_cons_of_mem))))) ?_
  go_simp
  refine plan_read (v := ?_) rfl rfl (fun u hS => by go_simp; rfl) ?_
  go_simp
  refine plan_read (v := .agg (cells8 A2)) rfl rfl (fun u hS => exec_mid _ rfl rfl (range_y (hS.blk (cs := c24 A1 A2 A3) (by repeat (first | exact List.mem_cons_self | apply List.mem_cons_of_mem))))) ?_
  go_simp
  refine plan_read (v := ?_) rfl rfl (fun u hS => by go_simp; rfl) ?_
  go_simp
  refine plan_read (v := .agg (cells8 B1)) rfl rfl (fun u hS => exec_mid _ rfl rfl (range_x (hS.blk (cs := c24 B1 B2 B3) (by repeat (first | exact List.mem_cons_self | apply List.mem_cons_of_mem))))) ?_
  go_simp
  refine plan_read (v := ?_) rfl rfl (fun u hS => by go_simp; rfl) ?_
  go_simp
  refine plan_read (v := .agg (cells8 B2)) rfl rfl (fun u hS => exec_mid _ rfl rfl (range_y (hS.blk (cs := c24 B1 B2 B3) (by repeat (first | exact List.mem_cons_self | apply List.mem_cons_of_mem))))) ?_
  go_simp
  refine plan_call (v := (.agg (cells8 Z))) (f := 203) (args := #[.agg (cells8 A1), .agg (cells8 A2), .agg (cells8 B1), .agg (cells8 B2)]) rfl rfl (fun u hS => by go_simp) (fun u hS => (unhide m3 u).mono fun _ _ ⟨he, hb⟩ => ⟨he, hS.keep hb⟩) ?_
  go_simp
  refine plan_read (v := .agg (c24 X Y Z)) rfl rfl (fun u hS => exec_build3 u 121 _ _ _ rfl rfl rfl rfl (bSpan _ _ _)) ?_
  go_simp
  refine plan_last (fun u hS => ?_)
  refine wp_store_row 121 (.tmp 4) (.tmp 38) rfl _ (c24 X Y Z) rfl rfl 121 z24 (hS.blk (by repeat (first | exact List.mem_cons_self | apply List.mem_cons_of_mem))) iSpan rfl (c24_one _ _ _) ?_
  have B := hide ((hS.blk (g := w.heap.size + 1 + 1) (t := 121) (cs := z24) (by repeat (first | exact List.mem_cons_self | apply List.mem_cons_of_mem))).row (c24 X Y Z))
  have O := hide (below_row hS.o (show w.heap.size ≤ w.heap.size + 1 + 1 by omega) (c24 X Y Z))
  clear hS
  go_wp2
  exact resG rSpan (unhide B) rfl rfl rfl rfl ⟨rfl, unhide O⟩
theorem Cross6Z (ax ay az bx b_y bz_ : Int) (h1 : I64 ax) (h2 : I64 ay) (h3 : I64 az) (h4 : I64 bx) (h5 : I64 b_y) (h6 : I64 bz_) : Ans 197 #[.agg (v3 ax ay az), .agg (v3 bx b_y bz_)] (.agg (c24 (enc (ay * bz_ - az * b_y)) (enc (az * bx - ax * bz_)) (enc (ax * b_y - ay * bx)))) := fun w =>
  cross6_core ax ay az bx b_y bz_ _ _ _ _ _ _ _ _ _ w (SpanZ ax ay az h1 h2 h3) (SpanZ bx b_y bz_ h4 h5 h6) (MinorZ ay az b_y bz_ h2 h3 h5 h6) (MinorZ az ax bz_ bx h3 h1 h6 h4) (MinorZ ax ay bx b_y h1 h2 h4 h5)

set_option maxHeartbeats 2000000 in
theorem det6_core (ax ay az bx b_y bz_ cx cy cz : Int) (X Y Z s : Nat) (E : Bool) (w : World) (hC : Hid (Ans 197 #[.agg (v3 ax ay az), .agg (v3 bx b_y bz_)] (.agg (c24 X Y Z)))) (hA : Hid (Ans 207 #[.agg (c24 X Y Z), .agg (v3 cx cy cz)] (.tuple #[.agg (cells8 s), .bool E]))) :
    Calls Tryz.prog 204 #[.agg (v3 ax ay az), .agg (v3 bx b_y bz_), .agg (v3 cx cy cz)] w fun e w' => e = .returned (.agg (cells8 s)) ∧ Below w.heap.size w w' := by
  go_enter Tryz.func204, Tryz.ntmps204
  go_upto_region 1 with fail
  have D := hide (((((Gen.start w).push 64 (v3 ax ay az)).push 64 (v3 bx b_y bz_)).push 64 (v3 cx cy cz)).push 75 z8)
  simp only [szA] at D
  generalize hw1 : (((w.alloc (.cells (v3 ax ay az) 64)).alloc (.cells (v3 bx b_y bz_) 64)).alloc (.cells (v3 cx cy cz) 64)).alloc (.cells z8 75) = w1 at D ⊢
  have D1 : Hid (GenZ w _ w1.heap.size w1.drew) := ⟨(unhide D).drew, Nat.le_refl _⟩
  have hlt := hide (fun (p : Nat × TypeId × Array Value) hp => ((unhide D).at_ p hp).lt)
  have hw0 := hide (unhide D).o.size
  clear D hw1
  generalize w1.heap.size = C at D1 hlt hw0
  refine region_lazy (S := GenZ w _ C) (v := .bool E) (ty := 75) (zs := z8) (base := C) (l := [0, 1, 2, 3, 4, 5, 6]) (A := [8]) (z := 7) (t := 9) (r := [10]) (by kernel_rfl) (by kernel_rfl) (by kernel_rfl) (by kernel_rfl) (by kernel_rfl) (by kernel_rfl) (by kernel_rfl) (by kernel_rfl) (by kernel_rfl) (by kernel_rfl) rfl rfl ?_ (fun _ _ h hb => h.keep hb) (fun _ h => h.s) (unhide D1) ?_
  · intro i hi
    simp at hi
    subst hi
    exact ⟨_, rfl, rfl, fun a w => by go_simp⟩
  clear D1
  refine planB_read (v := .agg (v3 ax ay az)) rfl rfl (fun u hS => exec_ldG hS.e rPoint _ rfl rfl (by repeat (first | exact List.mem_cons_self | apply List.mem_cons_of_mem)) rfl) ?_
  go_simp
  refine planB_read (v := .agg (v3 bx b_y bz_)) rfl rfl (fun u hS => exec_ldG hS.e rPoint _ rfl rfl (by repeat (first | exact List.mem_cons_self | apply List.mem_cons_of_mem)) rfl) ?_
  go_simp
  refine planB_call (v := (.agg (c24 X Y Z))) (f := 197) (args := #[.agg (v3 ax ay az), .agg (v3 bx b_y bz_)]) rfl rfl (fun u hS => by go_simp) (fun u hS => (unhide hC u).mono fun _ _ ⟨he, hb⟩ => ⟨he, hS.keep hb, hb⟩) ?_
  go_simp
  refine planB_read (v := .agg (v3 cx cy cz)) rfl rfl (fun u hS => exec_ldG hS.e rPoint _ rfl rfl (by repeat (first | exact List.mem_cons_self | apply List.mem_cons_of_mem)) rfl) ?_
  go_simp
  refine planB_call (v := (.tuple #[.agg (cells8 s), .bool E])) (f := 207) (args := #[(.agg (c24 X Y Z)), .agg (v3 cx cy cz)]) rfl rfl (fun u hS => by go_simp) (fun u hS => (unhide hA u).mono fun _ _ ⟨he, hb⟩ => ⟨he, hS.keep hb, hb⟩) ?_
  go_simp
  refine planB_read (v := ?_) rfl rfl (fun u hS => by go_simp; rfl) ?_
  go_simp
  refine planB_read (v := ?_) rfl rfl (fun u hS => by go_simp; rfl) ?_
  go_simp
  refine planB_lazy rfl (fun u => by go_simp) rfl rfl (fun c u hS hB hI2 => ?_)
  have hB7 := hB 8 (by simp)
  clear hB hI2
  simp only [pa, dstOf]
  generalize c 8 = c7 at hB7 ⊢
  have D := hide (hS.e.fillZ (cs := cells8 s) (unhide hlt) (unhide hw0) hB7.1 hB7.2)
  refine ⟨_, exec_store8 (n := s) 75 (.tmp 7) (.tmp 15) hB7.1 rfl rfl rfl rfl iWide, ?_⟩
  clear hS hB7 hlt hw0
  generalize u.setRow c7 (cells8 s) = u1 at D ⊢
  simp only [opsOf]
  go_simp
  go_wp2_with (first | (with_reducible refine at_list ?_; apply ldG (unhide D) rWide _ rfl rfl rfl (by repeat (first | exact List.mem_cons_self | apply List.mem_cons_of_mem)) rfl) | (with_reducible refine at_list ?_; apply stGend (unhide D) rWide _ _ rfl rfl rfl rfl (by repeat (first | exact List.mem_cons_self | apply List.mem_cons_of_mem)) (by omega) rfl rfl (cells8_one _); intro B O))
  exact resG rWide (unhide B) rfl rfl rfl rfl ⟨rfl, unhide O⟩
/-- The determinant. -/
def detI (ax ay az bx b_y bz_ cx cy cz : Int) : Int := (ay * bz_ - az * b_y) * cx + (az * bx - ax * bz_) * cy + (ax * b_y - ay * bx) * cz
theorem cross_sz {a b c d : Int} (h1 : I64 a) (h2 : I64 b) (h3 : I64 c) (h4 : I64 d) : Sz 127 (a * b - c * d) := (h1.sz.mul h2.sz).sub (h3.sz.mul h4.sz)
theorem Det6Z (ax ay az bx b_y bz_ cx cy cz : Int) (h1 : I64 ax) (h2 : I64 ay) (h3 : I64 az) (h4 : I64 bx) (h5 : I64 b_y) (h6 : I64 bz_) (h7 : I64 cx) (h8 : I64 cy) (h9 : I64 cz) : Ans 204 #[.agg (v3 ax ay az), .agg (v3 bx b_y bz_), .agg (v3 cx cy cz)] (V (detI ax ay az bx b_y bz_ cx cy cz)) := fun w =>
  det6_core ax ay az bx b_y bz_ cx cy cz _ _ _ _ true w (Cross6Z ax ay az bx b_y bz_ h1 h2 h3 h4 h5 h6) (AlongS _ _ _ cx cy cz ((cross_sz h2 h6 h3 h5).mono (by decide)) ((cross_sz h3 h4 h1 h6).mono (by decide)) ((cross_sz h1 h5 h2 h4).mono (by decide)) h7 h8 h9)

end Go.Proofs.YtnemedgdhojhdaaGreat

namespace Go.Proofs.YtnemedgdhojhdaaGreat
open Go.RowKit
set_option maxRecDepth 4000
set_option linter.unusedVariables false

/-- A point's number as a vector's. -/
def valI (x : Int) : Int := cl (x * 65536)
set_option maxHeartbeats 1000000 in
theorem less_a (ax ay az bx b_y bz_ : Int) (w : World) (h1 : Hid (Ans 108 #[.agg (v3 ax ay az)] (.int .i64 7))) :
    Calls Tryz.prog 200 #[.agg (v3 ax ay az), .agg (v3 bx b_y bz_)] w fun e w' => e = .returned (.tuple #[.agg (v3 0 0 0), .int .i64 7]) ∧ Below w.heap.size w w' := by
  go_enter Tryz.func200, Tryz.ntmps200
  go_upto_region 1 with fail
  have D := hide ((((Gen.start w).push 64 (v3 ax ay az)).push 64 (v3 bx b_y bz_)).push 64 (v3 0 0 0))
  simp only [szA] at D
  go_wp2_with (first | (with_reducible refine at_list ?_; apply ldG (unhide D) rPoint _ rfl rfl rfl (by repeat (first | exact List.mem_cons_self | apply List.mem_cons_of_mem)) rfl) | (with_reducible refine at_list ?_; apply ldGw (unhide D) rPoint _ rfl rfl rfl (by repeat (first | exact List.mem_cons_self | apply List.mem_cons_of_mem)) rfl) | (go_at_call 108; with_reducible refine (unhide h1 _).mono ?_; rintro e w' ⟨he, hb⟩; subst he; have D := hide ((unhide D).keep hb); clear hb) | (with_reducible refine at_list ?_;  apply ldI (unhide D) _ rfl rfl rfl (by repeat (first | exact List.mem_cons_self | apply List.mem_cons_of_mem)) rfl) | (with_reducible refine at_list ?_;  refine bdPt _ _ _ rfl rfl rfl rfl rfl ?_) | (with_reducible refine at_list ?_; apply stGend (unhide D) rPoint _ _ rfl rfl rfl rfl (by repeat (first | exact List.mem_cons_self | apply List.mem_cons_of_mem)) (by omega) rfl rfl (v3_one' _ _ _); intro B O))
  exact resGT rPoint (unhide B) rfl rfl rfl rfl rfl ⟨rfl, unhide O⟩
set_option maxHeartbeats 1000000 in
theorem less_b (ax ay az bx b_y bz_ : Int) (w : World) (h1 : Hid (Ans 108 #[.agg (v3 ax ay az)] (.int .i64 0))) (h2 : Hid (Ans 108 #[.agg (v3 bx b_y bz_)] (.int .i64 7))) :
    Calls Tryz.prog 200 #[.agg (v3 ax ay az), .agg (v3 bx b_y bz_)] w fun e w' => e = .returned (.tuple #[.agg (v3 0 0 0), .int .i64 7]) ∧ Below w.heap.size w w' := by
  go_enter Tryz.func200, Tryz.ntmps200
  go_upto_region 1 with fail
  have D := hide ((((Gen.start w).push 64 (v3 ax ay az)).push 64 (v3 bx b_y bz_)).push 64 (v3 0 0 0))
  simp only [szA] at D
  go_wp2_with (first | (with_reducible refine at_list ?_; apply ldG (unhide D) rPoint _ rfl rfl rfl (by repeat (first | exact List.mem_cons_self | apply List.mem_cons_of_mem)) rfl) | (with_reducible refine at_list ?_; apply ldGw (unhide D) rPoint _ rfl rfl rfl (by repeat (first | exact List.mem_cons_self | apply List.mem_cons_of_mem)) rfl) | (go_at_call 108; with_reducible refine (unhide h1 _).mono ?_; rintro e w' ⟨he, hb⟩; subst he; have D := hide ((unhide D).keep hb); clear hb) | (go_at_call 108; with_reducible refine (unhide h2 _).mono ?_; rintro e w' ⟨he, hb⟩; subst he; have D := hide ((unhide D).keep hb); clear hb) | (with_reducible refine at_list ?_;  apply ldI (unhide D) _ rfl rfl rfl (by repeat (first | exact List.mem_cons_self | apply List.mem_cons_of_mem)) rfl) | (with_reducible refine at_list ?_;  refine bdPt _ _ _ rfl rfl rfl rfl rfl ?_) | (with_reducible refine at_list ?_; apply stGend (unhide D) rPoint _ _ rfl rfl rfl rfl (by repeat (first | exact List.mem_cons_self | apply List.mem_cons_of_mem)) (by omega) rfl rfl (v3_one' _ _ _); intro B O))
  exact resGT rPoint (unhide B) rfl rfl rfl rfl rfl ⟨rfl, unhide O⟩
set_option maxHeartbeats 1000000 in
theorem less_ok (ax ay az bx b_y bz_ : Int) (w : World) (h1 : Hid (Ans 108 #[.agg (v3 ax ay az)] (.int .i64 0))) (h2 : Hid (Ans 108 #[.agg (v3 bx b_y bz_)] (.int .i64 0))) :
    Calls Tryz.prog 200 #[.agg (v3 ax ay az), .agg (v3 bx b_y bz_)] w fun e w' => e = .returned (.tuple #[.agg (v3 (wrap64 (ax - bx)) (wrap64 (ay - b_y)) (wrap64 (az - bz_))), .int .i64 0]) ∧ Below w.heap.size w w' := by
  go_enter Tryz.func200, Tryz.ntmps200
  go_upto_region 1 with fail
  have D := hide ((((Gen.start w).push 64 (v3 ax ay az)).push 64 (v3 bx b_y bz_)).push 64 (v3 0 0 0))
  simp only [szA] at D
  go_wp2_with (first | (with_reducible refine at_list ?_; apply ldG (unhide D) rPoint _ rfl rfl rfl (by repeat (first | exact List.mem_cons_self | apply List.mem_cons_of_mem)) rfl) | (with_reducible refine at_list ?_; apply ldGw (unhide D) rPoint _ rfl rfl rfl (by repeat (first | exact List.mem_cons_self | apply List.mem_cons_of_mem)) rfl) | (go_at_call 108; with_reducible refine (unhide h1 _).mono ?_; rintro e w' ⟨he, hb⟩; subst he; have D := hide ((unhide D).keep hb); clear hb) | (go_at_call 108; with_reducible refine (unhide h2 _).mono ?_; rintro e w' ⟨he, hb⟩; subst he; have D := hide ((unhide D).keep hb); clear hb) | (with_reducible refine at_list ?_;  apply ldI (unhide D) _ rfl rfl rfl (by repeat (first | exact List.mem_cons_self | apply List.mem_cons_of_mem)) rfl) | (with_reducible refine at_list ?_;  refine bdPt _ _ _ rfl rfl rfl rfl rfl ?_) | (with_reducible refine at_list ?_; apply stGend (unhide D) rPoint _ _ rfl rfl rfl rfl (by repeat (first | exact List.mem_cons_self | apply List.mem_cons_of_mem)) (by omega) rfl rfl (v3_one' _ _ _); intro B O))
  exact resGT rPoint (unhide B) rfl rfl rfl rfl rfl ⟨rfl, unhide O⟩
theorem mayI_iff {x : Int} : mayI x = true ↔ -268435456 ≤ x ∧ x ≤ 268435456 := by unfold mayI; simp
theorem chkP_iff {x y z : Int} : chkP x y z = true ↔ (-268435456 ≤ x ∧ x ≤ 268435456) ∧ (-268435456 ≤ y ∧ y ≤ 268435456) ∧ (-268435456 ≤ z ∧ z ≤ 268435456) := by
  unfold chkP
  simp [mayI_iff, and_assoc]
theorem LessZ6 (ax ay az bx b_y bz_ : Int) : Ans 200 #[.agg (v3 ax ay az), .agg (v3 bx b_y bz_)]
    (if chkP ax ay az && chkP bx b_y bz_ then .tuple #[.agg (v3 (ax - bx) (ay - b_y) (az - bz_)), .int .i64 0] else .tuple #[.agg (v3 0 0 0), .int .i64 7]) := by
  intro w
  have h1 := CheckZ ax ay az
  have h2 := CheckZ bx b_y bz_
  cases e1 : chkP ax ay az
  · rw [e1] at h1
    exact less_a ax ay az bx b_y bz_ w h1
  · rw [e1] at h1
    cases e2 : chkP bx b_y bz_
    · rw [e2] at h2
      exact less_b ax ay az bx b_y bz_ w h1 h2
    · rw [e2] at h2
      have a1 := chkP_iff.1 e1
      have a2 := chkP_iff.1 e2
      have k := less_ok ax ay az bx b_y bz_ w h1 h2
      rw [wrap_self (z := ax - bx) ⟨by omega, by omega⟩, wrap_self (z := ay - b_y) ⟨by omega, by omega⟩, wrap_self (z := az - bz_) ⟨by omega, by omega⟩] at k
      exact k

theorem isNaN_core (x : Int) (w : World) : Calls Tryz.prog 201 #[.int .i64 x] w fun e w' => e = .returned (.bool false) ∧ Below w.heap.size w w' := by
  go_enter Tryz.func201, Tryz.ntmps201
  go_wp2
  go_ret
  exact ⟨by simp, Below.refl _ _⟩
theorem compare_core (x y : Int) (w : World) (h1 : Hid (Ans 201 #[.int .i64 x] (.bool false))) (h2 : Hid (Ans 201 #[.int .i64 y] (.bool false))) :
    Calls Tryz.prog 196 #[.int .i64 x, .int .i64 y] w fun e w' => e = .returned (.int .i64 (cmpI x y)) ∧ Below w.heap.size w w' := by
  have D := hide (Gen.start w)
  by_cases hl : x < y
  · have e : cmpI x y = -1 := if_pos hl
    rw [e]
    go_enter Tryz.func196, Tryz.ntmps196
    go_wp2_with (first | (go_at_call 201; with_reducible refine (unhide h1 _).mono ?_; rintro e w' ⟨he, hb⟩; subst he; have D := hide ((unhide D).keep hb); clear hb) | (go_at_call 201; with_reducible refine (unhide h2 _).mono ?_; rintro e w' ⟨he, hb⟩; subst he; have D := hide ((unhide D).keep hb); clear hb))
    go_ret
    exact ⟨rfl, (unhide D).o⟩
  · by_cases hg : y < x
    · have e : cmpI x y = 1 := by unfold cmpI; rw [if_neg hl, if_pos hg]
      rw [e]
      go_enter Tryz.func196, Tryz.ntmps196
      go_wp2_with (first | (go_at_call 201; with_reducible refine (unhide h1 _).mono ?_; rintro e w' ⟨he, hb⟩; subst he; have D := hide ((unhide D).keep hb); clear hb) | (go_at_call 201; with_reducible refine (unhide h2 _).mono ?_; rintro e w' ⟨he, hb⟩; subst he; have D := hide ((unhide D).keep hb); clear hb))
      go_ret
      exact ⟨rfl, (unhide D).o⟩
    · have e : cmpI x y = 0 := by unfold cmpI; rw [if_neg hl, if_neg hg]
      rw [e]
      go_enter Tryz.func196, Tryz.ntmps196
      go_wp2_with (first | (go_at_call 201; with_reducible refine (unhide h1 _).mono ?_; rintro e w' ⟨he, hb⟩; subst he; have D := hide ((unhide D).keep hb); clear hb) | (go_at_call 201; with_reducible refine (unhide h2 _).mono ?_; rintro e w' ⟨he, hb⟩; subst he; have D := hide ((unhide D).keep hb); clear hb))
      go_ret
      exact ⟨rfl, (unhide D).o⟩
theorem CompareZ (x y : Int) : Ans 196 #[.int .i64 x, .int .i64 y] (.int .i64 (cmpI x y)) := fun w => compare_core x y w (isNaN_core x) (isNaN_core y)

/-- The first that is not 0. -/
def orI (x y z : Int) : Int := if x ≠ 0 then x else if y ≠ 0 then y else z
/-- The order of points. -/
def cmpP (ax ay az bx b_y bz_ : Int) : Int := orI (cmpI ax bx) (cmpI ay b_y) (cmpI az bz_)
/-! Points and spans held against each other. -/
/-- The two spans are the same. -/
def same3 (x y z a b c : Nat) : Bool := same x a && same y b && same z c
section
variable {o : Oper} {ac : Act} (wd : World) (p q : Operand) {ty' : TypeId} {s : Bool}
variable {ops : Array Oper} {rest : List Oper} {Q : Exit → Act → World → Prop}
end

end Go.Proofs.YtnemedgdhojhdaaGreat
