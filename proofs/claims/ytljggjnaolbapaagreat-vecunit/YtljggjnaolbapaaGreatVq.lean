/- Package vec: Near. -/
import Derived.Test.YtljggjnaolbapaaGreatVn
namespace Go.Proofs.YtljggjnaolbapaaGreat
open Go.RowKit
set_option maxRecDepth 4000
set_option linter.unusedVariables false

set_option maxHeartbeats 2000000 in
theorem clos_Near_X (ax ay az bx b_y bz_ : Int) (A B n g0 g1 : Nat) (E : Bool) (w : World) (h0 : Blk w g0 24 (v3 ax ay az)) (h1 : Blk w g1 24 (v3 bx b_y bz_)) (hA : Hid (Ans 72 #[.int .i64 ax] (.agg (cells8 A)))) (hB : Hid (Ans 72 #[.int .i64 bx] (.agg (cells8 B))))
    (hS : Hid (Ans 71 #[.agg (cells8 A), .agg (cells8 B)] (.tuple #[.agg (cells8 n), .bool E]))) :
    Calls Tryz.prog 70 #[.func (Fn.func 75) #[] #[], .pointer (some ⟨g0, 0, none⟩), .pointer (some ⟨g1, 0, none⟩)] w fun e w' => e = .returned (.agg (c16 n n)) ∧ Below w.heap.size w w' := by
  have D0 := hide (Gen.two h0 h1)
  clear h0 h1
  go_enter Tryz.func70, Tryz.ntmps70
  go_upto_region 1 with fail
  have D := hide ((unhide D0).push 58 z16)
  clear D0
  have D1 : Hid (GenZ w _ _ _) := ⟨(unhide D).drew, Nat.le_refl _⟩
  have hlt := hide (fun (p : Nat × TypeId × Array Value) hp => ((unhide D).at_ p hp).lt)
  have hw0 := hide (unhide D).o.size
  clear D
  generalize hZ : (w.alloc (.cells z16 58)) = wz at *
  have hds : wz.drew.heap.size = wz.heap.size := rfl
  rw [hds] at D1
  generalize wz.heap.size = C at D1 hlt hw0
  refine region_lazy (S := GenZ w _ C) (v := .bool E) (ty := 56) (zs := z8) (base := C) (l := [0, 1, 2, 3, 4, 5, 6, 7, 8, 9, 10]) (A := [12]) (z := 11) (t := 13) (r := [14]) (by kernel_rfl) (by kernel_rfl) (by kernel_rfl) (by kernel_rfl) (by kernel_rfl) (by kernel_rfl) (by kernel_rfl) (by kernel_rfl) (by kernel_rfl) (by kernel_rfl) rfl rfl ?_ (fun _ _ h hb => h.keep hb) (fun _ h => h.s) (unhide D1) ?_
  · intro i hi
    simp at hi
    subst hi
    exact ⟨_, rfl, rfl, fun a w => by go_simp⟩
  clear D1
  refine planB_read (v := ?_) rfl rfl (fun u hS => by go_simp; rfl) ?_
  go_simp
  refine planB_read (v := .agg (v3 ax ay az)) rfl rfl (fun u hS => exec_loadG hS.e rVec _ rfl rfl (by repeat (first | exact List.mem_cons_self | apply List.mem_cons_of_mem)) rfl) ?_
  go_simp
  refine planB_call (v := .int .i64 ax) (f := 75) (args := #[.agg (v3 ax ay az)]) rfl rfl (fun u hS => by go_simp) (fun u hS => (alongX ax ay az u).mono fun _ _ ⟨he, hb⟩ => ⟨he, hS.keep hb, hb⟩) ?_
  go_simp
  refine planB_call (v := .agg (cells8 A)) (f := 72) (args := #[.int .i64 ax]) rfl rfl (fun u hS => by go_simp) (fun u hS => (unhide hA u).mono fun _ _ ⟨he, hb⟩ => ⟨he, hS.keep hb, hb⟩) ?_
  go_simp
  refine planB_read (v := ?_) rfl rfl (fun u hS => by go_simp; rfl) ?_
  go_simp
  refine planB_read (v := .agg (v3 bx b_y bz_)) rfl rfl (fun u hS => exec_loadG hS.e rVec _ rfl rfl (by repeat (first | exact List.mem_cons_self | apply List.mem_cons_of_mem)) rfl) ?_
  go_simp
  refine planB_call (v := .int .i64 bx) (f := 75) (args := #[.agg (v3 bx b_y bz_)]) rfl rfl (fun u hS => by go_simp) (fun u hS => (alongX bx b_y bz_ u).mono fun _ _ ⟨he, hb⟩ => ⟨he, hS.keep hb, hb⟩) ?_
  go_simp
  refine planB_call (v := .agg (cells8 B)) (f := 72) (args := #[.int .i64 bx]) rfl rfl (fun u hS => by go_simp) (fun u hS => (unhide hB u).mono fun _ _ ⟨he, hb⟩ => ⟨he, hS.keep hb, hb⟩) ?_
  go_simp
  refine planB_call (v := .tuple #[.agg (cells8 n), .bool E]) (f := 71) (args := #[.agg (cells8 A), .agg (cells8 B)]) rfl rfl (fun u hS => by go_simp) (fun u hS' => (unhide hS u).mono fun _ _ ⟨he, hb⟩ => ⟨he, hS'.keep hb, hb⟩) ?_
  go_simp
  refine planB_read (v := ?_) rfl rfl (fun u hS => by go_simp; rfl) ?_
  go_simp
  refine planB_read (v := ?_) rfl rfl (fun u hS => by go_simp; rfl) ?_
  go_simp
  refine planB_lazy rfl (fun u => by go_simp) rfl rfl (fun c u hS hB hI2 => ?_)
  have hB7 := hB 12 (by simp)
  clear hB hI2
  simp only [pa, dstOf]
  generalize c 12 = c7 at hB7 ⊢
  have D := hide (hS.e.fillZ (cs := cells8 n) (unhide hlt) (unhide hw0) hB7.1 hB7.2)
  refine ⟨_, exec_store8 (n := n) 56 (.tmp 5) (.tmp 17) hB7.1 rfl rfl rfl rfl iWide, ?_⟩
  clear hS hB7 hlt hw0
  generalize u.setRow c7 (cells8 n) = u1 at D ⊢
  simp only [opsOf]
  go_simp
  go_wp2_with (first | (with_reducible refine at_list ?_; apply ldG (unhide D) rWide _ rfl rfl rfl (by repeat (first | exact List.mem_cons_self | apply List.mem_cons_of_mem)) rfl) | (with_reducible refine at_list ?_;  refine bdProd _ _ rfl rfl rfl rfl ?_) | (with_reducible refine at_list ?_; apply stGend (unhide D) rProd _ _ rfl rfl rfl rfl (by repeat (first | exact List.mem_cons_self | apply List.mem_cons_of_mem)) (by omega) rfl rfl (c16_one _ _); intro B O))
  exact resG rProd (unhide B) rfl rfl rfl rfl ⟨rfl, unhide O⟩
set_option maxHeartbeats 2000000 in
theorem clos_Near_Y (ax ay az bx b_y bz_ : Int) (A B n g0 g1 : Nat) (E : Bool) (w : World) (h0 : Blk w g0 24 (v3 ax ay az)) (h1 : Blk w g1 24 (v3 bx b_y bz_)) (hA : Hid (Ans 72 #[.int .i64 ay] (.agg (cells8 A)))) (hB : Hid (Ans 72 #[.int .i64 b_y] (.agg (cells8 B))))
    (hS : Hid (Ans 71 #[.agg (cells8 A), .agg (cells8 B)] (.tuple #[.agg (cells8 n), .bool E]))) :
    Calls Tryz.prog 70 #[.func (Fn.func 76) #[] #[], .pointer (some ⟨g0, 0, none⟩), .pointer (some ⟨g1, 0, none⟩)] w fun e w' => e = .returned (.agg (c16 n n)) ∧ Below w.heap.size w w' := by
  have D0 := hide (Gen.two h0 h1)
  clear h0 h1
  go_enter Tryz.func70, Tryz.ntmps70
  go_upto_region 1 with fail
  have D := hide ((unhide D0).push 58 z16)
  clear D0
  have D1 : Hid (GenZ w _ _ _) := ⟨(unhide D).drew, Nat.le_refl _⟩
  have hlt := hide (fun (p : Nat × TypeId × Array Value) hp => ((unhide D).at_ p hp).lt)
  have hw0 := hide (unhide D).o.size
  clear D
  generalize hZ : (w.alloc (.cells z16 58)) = wz at *
  have hds : wz.drew.heap.size = wz.heap.size := rfl
  rw [hds] at D1
  generalize wz.heap.size = C at D1 hlt hw0
  refine region_lazy (S := GenZ w _ C) (v := .bool E) (ty := 56) (zs := z8) (base := C) (l := [0, 1, 2, 3, 4, 5, 6, 7, 8, 9, 10]) (A := [12]) (z := 11) (t := 13) (r := [14]) (by kernel_rfl) (by kernel_rfl) (by kernel_rfl) (by kernel_rfl) (by kernel_rfl) (by kernel_rfl) (by kernel_rfl) (by kernel_rfl) (by kernel_rfl) (by kernel_rfl) rfl rfl ?_ (fun _ _ h hb => h.keep hb) (fun _ h => h.s) (unhide D1) ?_
  · intro i hi
    simp at hi
    subst hi
    exact ⟨_, rfl, rfl, fun a w => by go_simp⟩
  clear D1
  refine planB_read (v := ?_) rfl rfl (fun u hS => by go_simp; rfl) ?_
  go_simp
  refine planB_read (v := .agg (v3 ax ay az)) rfl rfl (fun u hS => exec_loadG hS.e rVec _ rfl rfl (by repeat (first | exact List.mem_cons_self | apply List.mem_cons_of_mem)) rfl) ?_
  go_simp
  refine planB_call (v := .int .i64 ay) (f := 76) (args := #[.agg (v3 ax ay az)]) rfl rfl (fun u hS => by go_simp) (fun u hS => (alongY ax ay az u).mono fun _ _ ⟨he, hb⟩ => ⟨he, hS.keep hb, hb⟩) ?_
  go_simp
  refine planB_call (v := .agg (cells8 A)) (f := 72) (args := #[.int .i64 ay]) rfl rfl (fun u hS => by go_simp) (fun u hS => (unhide hA u).mono fun _ _ ⟨he, hb⟩ => ⟨he, hS.keep hb, hb⟩) ?_
  go_simp
  refine planB_read (v := ?_) rfl rfl (fun u hS => by go_simp; rfl) ?_
  go_simp
  refine planB_read (v := .agg (v3 bx b_y bz_)) rfl rfl (fun u hS => exec_loadG hS.e rVec _ rfl rfl (by repeat (first | exact List.mem_cons_self | apply List.mem_cons_of_mem)) rfl) ?_
  go_simp
  refine planB_call (v := .int .i64 b_y) (f := 76) (args := #[.agg (v3 bx b_y bz_)]) rfl rfl (fun u hS => by go_simp) (fun u hS => (alongY bx b_y bz_ u).mono fun _ _ ⟨he, hb⟩ => ⟨he, hS.keep hb, hb⟩) ?_
  go_simp
  refine planB_call (v := .agg (cells8 B)) (f := 72) (args := #[.int .i64 b_y]) rfl rfl (fun u hS => by go_simp) (fun u hS => (unhide hB u).mono fun _ _ ⟨he, hb⟩ => ⟨he, hS.keep hb, hb⟩) ?_
  go_simp
  refine planB_call (v := .tuple #[.agg (cells8 n), .bool E]) (f := 71) (args := #[.agg (cells8 A), .agg (cells8 B)]) rfl rfl (fun u hS => by go_simp) (fun u hS' => (unhide hS u).mono fun _ _ ⟨he, hb⟩ => ⟨he, hS'.keep hb, hb⟩) ?_
  go_simp
  refine planB_read (v := ?_) rfl rfl (fun u hS => by go_simp; rfl) ?_
  go_simp
  refine planB_read (v := ?_) rfl rfl (fun u hS => by go_simp; rfl) ?_
  go_simp
  refine planB_lazy rfl (fun u => by go_simp) rfl rfl (fun c u hS hB hI2 => ?_)
  have hB7 := hB 12 (by simp)
  clear hB hI2
  simp only [pa, dstOf]
  generalize c 12 = c7 at hB7 ⊢
  have D := hide (hS.e.fillZ (cs := cells8 n) (unhide hlt) (unhide hw0) hB7.1 hB7.2)
  refine ⟨_, exec_store8 (n := n) 56 (.tmp 5) (.tmp 17) hB7.1 rfl rfl rfl rfl iWide, ?_⟩
  clear hS hB7 hlt hw0
  generalize u.setRow c7 (cells8 n) = u1 at D ⊢
  simp only [opsOf]
  go_simp
  go_wp2_with (first | (with_reducible refine at_list ?_; apply ldG (unhide D) rWide _ rfl rfl rfl (by repeat (first | exact List.mem_cons_self | apply List.mem_cons_of_mem)) rfl) | (with_reducible refine at_list ?_;  refine bdProd _ _ rfl rfl rfl rfl ?_) | (with_reducible refine at_list ?_; apply stGend (unhide D) rProd _ _ rfl rfl rfl rfl (by repeat (first | exact List.mem_cons_self | apply List.mem_cons_of_mem)) (by omega) rfl rfl (c16_one _ _); intro B O))
  exact resG rProd (unhide B) rfl rfl rfl rfl ⟨rfl, unhide O⟩
set_option maxHeartbeats 2000000 in
theorem clos_Near_Z (ax ay az bx b_y bz_ : Int) (A B n g0 g1 : Nat) (E : Bool) (w : World) (h0 : Blk w g0 24 (v3 ax ay az)) (h1 : Blk w g1 24 (v3 bx b_y bz_)) (hA : Hid (Ans 72 #[.int .i64 az] (.agg (cells8 A)))) (hB : Hid (Ans 72 #[.int .i64 bz_] (.agg (cells8 B))))
    (hS : Hid (Ans 71 #[.agg (cells8 A), .agg (cells8 B)] (.tuple #[.agg (cells8 n), .bool E]))) :
    Calls Tryz.prog 70 #[.func (Fn.func 77) #[] #[], .pointer (some ⟨g0, 0, none⟩), .pointer (some ⟨g1, 0, none⟩)] w fun e w' => e = .returned (.agg (c16 n n)) ∧ Below w.heap.size w w' := by
  have D0 := hide (Gen.two h0 h1)
  clear h0 h1
  go_enter Tryz.func70, Tryz.ntmps70
  go_upto_region 1 with fail
  have D := hide ((unhide D0).push 58 z16)
  clear D0
  have D1 : Hid (GenZ w _ _ _) := ⟨(unhide D).drew, Nat.le_refl _⟩
  have hlt := hide (fun (p : Nat × TypeId × Array Value) hp => ((unhide D).at_ p hp).lt)
  have hw0 := hide (unhide D).o.size
  clear D
  generalize hZ : (w.alloc (.cells z16 58)) = wz at *
  have hds : wz.drew.heap.size = wz.heap.size := rfl
  rw [hds] at D1
  generalize wz.heap.size = C at D1 hlt hw0
  refine region_lazy (S := GenZ w _ C) (v := .bool E) (ty := 56) (zs := z8) (base := C) (l := [0, 1, 2, 3, 4, 5, 6, 7, 8, 9, 10]) (A := [12]) (z := 11) (t := 13) (r := [14]) (by kernel_rfl) (by kernel_rfl) (by kernel_rfl) (by kernel_rfl) (by kernel_rfl) (by kernel_rfl) (by kernel_rfl) (by kernel_rfl) (by kernel_rfl) (by kernel_rfl) rfl rfl ?_ (fun _ _ h hb => h.keep hb) (fun _ h => h.s) (unhide D1) ?_
  · intro i hi
    simp at hi
    subst hi
    exact ⟨_, rfl, rfl, fun a w => by go_simp⟩
  clear D1
  refine planB_read (v := ?_) rfl rfl (fun u hS => by go_simp; rfl) ?_
  go_simp
  refine planB_read (v := .agg (v3 ax ay az)) rfl rfl (fun u hS => exec_loadG hS.e rVec _ rfl rfl (by repeat (first | exact List.mem_cons_self | apply List.mem_cons_of_mem)) rfl) ?_
  go_simp
  refine planB_call (v := .int .i64 az) (f := 77) (args := #[.agg (v3 ax ay az)]) rfl rfl (fun u hS => by go_simp) (fun u hS => (alongZ ax ay az u).mono fun _ _ ⟨he, hb⟩ => ⟨he, hS.keep hb, hb⟩) ?_
  go_simp
  refine planB_call (v := .agg (cells8 A)) (f := 72) (args := #[.int .i64 az]) rfl rfl (fun u hS => by go_simp) (fun u hS => (unhide hA u).mono fun _ _ ⟨he, hb⟩ => ⟨he, hS.keep hb, hb⟩) ?_
  go_simp
  refine planB_read (v := ?_) rfl rfl (fun u hS => by go_simp; rfl) ?_
  go_simp
  refine planB_read (v := .agg (v3 bx b_y bz_)) rfl rfl (fun u hS => exec_loadG hS.e rVec _ rfl rfl (by repeat (first | exact List.mem_cons_self | apply List.mem_cons_of_mem)) rfl) ?_
  go_simp
  refine planB_call (v := .int .i64 bz_) (f := 77) (args := #[.agg (v3 bx b_y bz_)]) rfl rfl (fun u hS => by go_simp) (fun u hS => (alongZ bx b_y bz_ u).mono fun _ _ ⟨he, hb⟩ => ⟨he, hS.keep hb, hb⟩) ?_
  go_simp
  refine planB_call (v := .agg (cells8 B)) (f := 72) (args := #[.int .i64 bz_]) rfl rfl (fun u hS => by go_simp) (fun u hS => (unhide hB u).mono fun _ _ ⟨he, hb⟩ => ⟨he, hS.keep hb, hb⟩) ?_
  go_simp
  refine planB_call (v := .tuple #[.agg (cells8 n), .bool E]) (f := 71) (args := #[.agg (cells8 A), .agg (cells8 B)]) rfl rfl (fun u hS => by go_simp) (fun u hS' => (unhide hS u).mono fun _ _ ⟨he, hb⟩ => ⟨he, hS'.keep hb, hb⟩) ?_
  go_simp
  refine planB_read (v := ?_) rfl rfl (fun u hS => by go_simp; rfl) ?_
  go_simp
  refine planB_read (v := ?_) rfl rfl (fun u hS => by go_simp; rfl) ?_
  go_simp
  refine planB_lazy rfl (fun u => by go_simp) rfl rfl (fun c u hS hB hI2 => ?_)
  have hB7 := hB 12 (by simp)
  clear hB hI2
  simp only [pa, dstOf]
  generalize c 12 = c7 at hB7 ⊢
  have D := hide (hS.e.fillZ (cs := cells8 n) (unhide hlt) (unhide hw0) hB7.1 hB7.2)
  refine ⟨_, exec_store8 (n := n) 56 (.tmp 5) (.tmp 17) hB7.1 rfl rfl rfl rfl iWide, ?_⟩
  clear hS hB7 hlt hw0
  generalize u.setRow c7 (cells8 n) = u1 at D ⊢
  simp only [opsOf]
  go_simp
  go_wp2_with (first | (with_reducible refine at_list ?_; apply ldG (unhide D) rWide _ rfl rfl rfl (by repeat (first | exact List.mem_cons_self | apply List.mem_cons_of_mem)) rfl) | (with_reducible refine at_list ?_;  refine bdProd _ _ rfl rfl rfl rfl ?_) | (with_reducible refine at_list ?_; apply stGend (unhide D) rProd _ _ rfl rfl rfl rfl (by repeat (first | exact List.mem_cons_self | apply List.mem_cons_of_mem)) (by omega) rfl rfl (c16_one _ _); intro B O))
  exact resG rProd (unhide B) rfl rfl rfl rfl ⟨rfl, unhide O⟩

theorem near_neg (ax ay az bx b_y bz_ r : Int) (w : World) (hr : r < 0) :
    Calls Tryz.prog 27 #[.agg (v3 ax ay az), .agg (v3 bx b_y bz_), .int .i64 r] w fun e w' => e = .returned (.bool false) ∧ Below w.heap.size w w' := by
  go_enter Tryz.func27, Tryz.ntmps27
  go_upto_region 1 with fail
  have D := hide (((Gen.start w).push 24 (v3 ax ay az)).push 24 (v3 bx b_y bz_))
  simp only [szA] at D
  go_wp2
  go_ret
  exact ⟨rfl, (unhide D).o⟩
set_option maxHeartbeats 2000000 in
theorem near_core (ax ay az bx b_y bz_ r c : Int) (X Y Z P S T : Nat) (L : Bool) (w : World) (hr : ¬ r < 0) (hL : decide (c ≤ 0) = L)
    (hX : Hid (∀ u g0 g1, Blk u g0 24 (v3 ax ay az) → Blk u g1 24 (v3 bx b_y bz_) → Calls Tryz.prog 70 #[.func (Fn.func 75) #[] #[], .pointer (some ⟨g0, 0, none⟩), .pointer (some ⟨g1, 0, none⟩)] u fun e w' => e = .returned (.agg (c16 X X)) ∧ Below u.heap.size u w'))
    (hY : Hid (∀ u g0 g1, Blk u g0 24 (v3 ax ay az) → Blk u g1 24 (v3 bx b_y bz_) → Calls Tryz.prog 70 #[.func (Fn.func 76) #[] #[], .pointer (some ⟨g0, 0, none⟩), .pointer (some ⟨g1, 0, none⟩)] u fun e w' => e = .returned (.agg (c16 Y Y)) ∧ Below u.heap.size u w'))
    (hZ : Hid (∀ u g0 g1, Blk u g0 24 (v3 ax ay az) → Blk u g1 24 (v3 bx b_y bz_) → Calls Tryz.prog 70 #[.func (Fn.func 77) #[] #[], .pointer (some ⟨g0, 0, none⟩), .pointer (some ⟨g1, 0, none⟩)] u fun e w' => e = .returned (.agg (c16 Z Z)) ∧ Below u.heap.size u w'))
    (hS : Hid (∀ u g, Blk u g 58 (prs [(X, X), (Y, Y), (Z, Z)]).toArray → Calls Tryz.prog 74 #[.slice (some ⟨g, 0, none⟩) 3 3] u fun e w' => e = .returned (.agg (cells8 S)) ∧ Below u.heap.size u w'))
    (t1 : Hid (Ans 51 #[.int .i64 r, .int .i64 r] (.agg (c16 P P))))
    (hT : Hid (∀ u g, Blk u g 58 (prs [(P, P)]).toArray → Calls Tryz.prog 74 #[.slice (some ⟨g, 0, none⟩) 1 1] u fun e w' => e = .returned (.agg (cells8 T)) ∧ Below u.heap.size u w'))
    (hC : Hid (Ans 73 #[.agg (cells8 S), .agg (cells8 T)] (.int .i64 c))) :
    Calls Tryz.prog 27 #[.agg (v3 ax ay az), .agg (v3 bx b_y bz_), .int .i64 r] w fun e w' => e = .returned (.bool L) ∧ Below w.heap.size w w' := by
  go_enter Tryz.func27, Tryz.ntmps27
  go_upto_region 1 with fail
  have D := hide (((Gen.start w).push 24 (v3 ax ay az)).push 24 (v3 bx b_y bz_))
  simp only [szA] at D
  go_wp2_with (first | (go_at_call 70; (first | with_reducible refine (unhide hX _ _ _ ((unhide D).blk (by repeat (first | exact List.mem_cons_self | apply List.mem_cons_of_mem))) ((unhide D).blk (by repeat (first | exact List.mem_cons_self | apply List.mem_cons_of_mem)))).mono ?_ | with_reducible refine (unhide hY _ _ _ ((unhide D).blk (by repeat (first | exact List.mem_cons_self | apply List.mem_cons_of_mem))) ((unhide D).blk (by repeat (first | exact List.mem_cons_self | apply List.mem_cons_of_mem)))).mono ?_ | with_reducible refine (unhide hZ _ _ _ ((unhide D).blk (by repeat (first | exact List.mem_cons_self | apply List.mem_cons_of_mem))) ((unhide D).blk (by repeat (first | exact List.mem_cons_self | apply List.mem_cons_of_mem)))).mono ?_); rintro e w' ⟨he, hb⟩; subst he; have D := hide ((unhide D).keep hb); clear hb) | (with_reducible refine at_list ?_;  refine wpList_turns rfl (exec_bs3 _ (.tmp 12) (.tmp 14) (.tmp 16) rfl rfl rfl rfl) ?_; have D := hide ((unhide D).push 58 (prs [(X, X), (Y, Y), (Z, Z)]).toArray)) | (with_reducible refine at_list ?_;  refine wpList_turns rfl (exec_bs1 _ (.tmp 21) rfl rfl) ?_; have D := hide ((unhide D).push 58 (prs [(P, P)]).toArray)) | (go_at_call 74; (first | with_reducible refine (unhide hS _ _ ((unhide D).blk List.mem_cons_self)).mono ?_ | with_reducible refine (unhide hT _ _ ((unhide D).blk List.mem_cons_self)).mono ?_); rintro e w' ⟨he, hb⟩; subst he; have D := hide ((unhide D).keep hb); clear hb) | (go_at_call 51; with_reducible refine (unhide t1 _).mono ?_; rintro e w' ⟨he, hb⟩; subst he; have D := hide ((unhide D).keep hb); clear hb) | (go_at_call 73; with_reducible refine (unhide hC _).mono ?_; rintro e w' ⟨he, hb⟩; subst he; have D := hide ((unhide D).keep hb); clear hb))
  go_ret
  exact ⟨rfl, (unhide D).o⟩
theorem cmpI_is_le (x y : Int) : decide (cmpI x y ≤ 0) = decide (x ≤ y) := by
  unfold cmpI
  by_cases h1 : x < y
  · rw [if_pos h1, decide_eq_true (by decide), decide_eq_true (by omega)]
  · rw [if_neg h1]
    by_cases h2 : y < x
    · rw [if_pos h2, decide_eq_false (by decide), decide_eq_false (by omega)]
    · rw [if_neg h2, decide_eq_true (by decide), decide_eq_true (by omega)]
theorem NearSub (x y : Int) (hx : I64 x) (hy : I64 y) : Ans 71 #[V x, V y] (.tuple #[V (x - y), .bool true]) := fun u => by
  have k := SubZ x y hx.fit hy.fit u
  rw [toldZ_fit ((hx.sz.sub hy.sz).fit (by decide))] at k
  exact k
theorem NearSum (x y z : Int) (hx : Sz 70 x) (hy : Sz 70 y) (hz : Sz 70 z) (u : World) (g : Nat) (hB : Blk u g 58 (prs [(enc x, enc x), (enc y, enc y), (enc z, enc z)]).toArray) :
    Calls Tryz.prog 74 #[.slice (some ⟨g, 0, none⟩) 3 3] u fun e w' => e = .returned (V (sqr x y z)) ∧ Below u.heap.size u w' := by
  have k := SumZ 3 g (nth3 x y z) (nth3 x y z) u (by decide) hB.lt (fun k _ => nth3_all (P := Sz 70) hx hy hz k) (fun k _ => nth3_all (P := Sz 70) hx hy hz k) (fun k hk => ?_)
  · rw [dot3] at k
    exact k
  · refine prs_range hB ?_
    rcases (show k = 0 ∨ k = 1 ∨ k = 2 by omega) with rfl | rfl | rfl <;> rfl
/-- Near? -/
def nearB (ax ay az bx b_y bz_ r : Int) : Bool := decide (0 ≤ r ∧ sqr (ax - bx) (ay - b_y) (az - bz_) ≤ r * r)
theorem NearZ (ax ay az bx b_y bz_ r : Int) (h1 : I64 ax) (h2 : I64 ay) (h3 : I64 az) (h4 : I64 bx) (h5 : I64 b_y) (h6 : I64 bz_) (h7 : I64 r) :
    Ans 27 #[.agg (v3 ax ay az), .agg (v3 bx b_y bz_), .int .i64 r] (.bool (nearB ax ay az bx b_y bz_ r)) := by
  intro w
  unfold nearB
  by_cases hr : r < 0
  · rw [decide_eq_false (by omega)]
    exact near_neg ax ay az bx b_y bz_ r w hr
  · have s1 := (h1.sz.sub h4.sz).mono (show 64 ≤ 70 by decide)
    have s2 := (h2.sz.sub h5.sz).mono (show 64 ≤ 70 by decide)
    have s3 := (h3.sz.sub h6.sz).mono (show 64 ≤ 70 by decide)
    have hS : Sz 142 (sqr (ax - bx) (ay - b_y) (az - bz_)) := (((s1.mul s1).add (s2.mul s2)).add ((s3.mul s3).mono (by decide))).mono (by decide)
    rw [show decide (0 ≤ r ∧ sqr (ax - bx) (ay - b_y) (az - bz_) ≤ r * r) = decide (sqr (ax - bx) (ay - b_y) (az - bz_) ≤ r * r) from by simp only [show 0 ≤ r by omega, true_and]]
    exact near_core ax ay az bx b_y bz_ r _ (enc (ax - bx)) (enc (ay - b_y)) (enc (az - bz_)) (enc r) (enc (sqr (ax - bx) (ay - b_y) (az - bz_))) (enc (r * r)) _ w hr (cmpI_is_le _ _)
      (fun u g0 g1 b0 b1 => clos_Near_X ax ay az bx b_y bz_ _ _ _ g0 g1 true u b0 b1 (VRawZ ax h1) (VRawZ bx h4) (NearSub ax bx h1 h4))
      (fun u g0 g1 b0 b1 => clos_Near_Y ax ay az bx b_y bz_ _ _ _ g0 g1 true u b0 b1 (VRawZ ay h2) (VRawZ b_y h5) (NearSub ay b_y h2 h5))
      (fun u g0 g1 b0 b1 => clos_Near_Z ax ay az bx b_y bz_ _ _ _ g0 g1 true u b0 b1 (VRawZ az h3) (VRawZ bz_ h6) (NearSub az bz_ h3 h6))
      (fun u g hB => NearSum _ _ _ s1 s2 s3 u g hB) (TimesZ r r h7 h7) (fun u g hB => OneProd r h7 u g hB) (fun u => CmpZ _ _ (hS.fit (by decide)) ((h7.sz.mul h7.sz).fit (by decide)) u)

end Go.Proofs.YtljggjnaolbapaaGreat
