/- Package mass: raw, product, moment, back, each, Back, Of. -/
import Derived.Test.YtnemedgdhojhdaaGreatIb
import Derived.Test.YtnemedgdhojhdaaGreatHh
namespace Go.Proofs.YtnemedgdhojhdaaGreat
open Go.RowKit
set_option maxRecDepth 4000
set_option linter.unusedVariables false

theorem Gen.rowB {w0 u : World} {l : List (Nat × TypeId × Array Value)} {C c : Nat} (d : Gen w0 l u) (hl : ∀ p ∈ l, p.1 < C) (h0 : w0.heap.size ≤ C) (hc : C ≤ c) (cs : Array Value) : Gen w0 l (u.setRow c cs) :=
  ⟨fun p hp => (d.at_ p hp).rowOther _ (by have := hl p hp; omega), below_row d.o (by omega) _⟩
theorem Gen.moreB {w0 w : World} {l : List (Nat × TypeId × Array Value)} {g : Nat} {t : TypeId} {cs : Array Value} (d : Gen w0 l w) (b : Blk w g t cs) : Gen w0 ((g, t, cs) :: l) w := ⟨fun p hp => by
  rcases List.mem_cons.1 hp with e | hp
  · subst e; exact b
  · exact d.at_ p hp, d.o⟩
set_option maxHeartbeats 4000000 in
theorem mraw_core (x : Int) (m : Nat) (w : World) (h0 : Hid (Ans 91 #[.int .i64 x] (.agg (cells8 m)))) : Calls Tryz.prog 96 #[.int .i64 x] w fun e w' => e = .returned (.agg (cells8 m)) ∧ Below w.heap.size w w' := by
  go_enter Tryz.func96, Tryz.ntmps96
  go_upto_region 1 with fail
  have D := hide (((Gd.start w).push 75 (z8)))
  refine list_start (S := Gd w [(w.heap.size, 75, z8)]) (unhide D) ?_
  clear D
  refine list_read (v := .int .i64 x) rfl rfl (fun u hS => by go_simp) ?_
  try go_simp
  refine list_call (v := .agg (cells8 m)) (f := 91) (args := #[.int .i64 x]) rfl rfl (fun u hS => by go_simp) (fun u hS => (unhide h0 u).mono fun _ _ ⟨he, hb⟩ => ⟨he, hS.keep hb⟩) ?_
  try go_simp
  refine list_store (l1 := []) (l2 := []) (l' := [(w.heap.size, 75, cells8 m)]) (g := w.heap.size) (old := z8) (cs := cells8 m) (.tmp 2) (.tmp 4) rfl rfl rfl rfl rfl rfl rWide rfl rfl (cells8_one _) (by omega) ?_
  try go_simp
  refine list_end (fun u1 hS => ?_)
  have D := hide hS
  clear hS
  go_wp2
  exact resG rWide ((unhide D).g.blk (g := w.heap.size) (t := 75) (cs := cells8 m) (by repeat (first | exact List.mem_cons_self | apply List.mem_cons_of_mem))) rfl rfl rfl rfl ⟨rfl, (unhide D).g.o⟩
set_option maxHeartbeats 4000000 in
theorem mproduct_core (m1 m2 m3 : Nat) (w : World) (h0 : Hid (Ans 126 #[.agg (cells8 m1), .agg (cells8 m2)] (.tuple #[.agg (cells8 m3), .bool true]))) : Calls Tryz.prog 95 #[.agg (cells8 m1), .agg (cells8 m2)] w fun e w' => e = .returned (.agg (cells8 m3)) ∧ Below w.heap.size w w' := by
  go_enter Tryz.func95, Tryz.ntmps95
  go_upto_region 1 with fail
  have D := hide (((((Gd.start w).push 75 (cells8 m1)).push 75 (cells8 m2)).push 75 (z8)))
  simp only [szA] at D
  refine list_start (S := Gd w [(w.heap.size + 1 + 1, 75, z8), (w.heap.size + 1, 75, cells8 m2), (w.heap.size, 75, cells8 m1)]) (unhide D) ?_
  clear D
  refine list_read (v := .agg (cells8 m1)) rfl rfl (fun u hS => exec_loadG (g := w.heap.size) (t := 75) (cs := cells8 m1) hS.g rWide _ rfl rfl (by repeat (first | exact List.mem_cons_self | apply List.mem_cons_of_mem)) rfl) ?_
  try go_simp
  refine list_read (v := .agg (cells8 m2)) rfl rfl (fun u hS => exec_loadG (g := w.heap.size + 1) (t := 75) (cs := cells8 m2) hS.g rWide _ rfl rfl (by repeat (first | exact List.mem_cons_self | apply List.mem_cons_of_mem)) rfl) ?_
  try go_simp
  refine list_call (v := .tuple #[.agg (cells8 m3), .bool true]) (f := 126) (args := #[.agg (cells8 m1), .agg (cells8 m2)]) rfl rfl (fun u hS => by go_simp) (fun u hS => (unhide h0 u).mono fun _ _ ⟨he, hb⟩ => ⟨he, hS.keep hb⟩) ?_
  try go_simp
  refine list_read (v := .tuple #[.agg (cells8 m3), .bool true]) rfl rfl (fun u hS => by go_simp) ?_
  try go_simp
  refine list_read (v := .agg (cells8 m3)) rfl rfl (fun u hS => by go_simp) ?_
  try go_simp
  refine list_read (v := .bool true) rfl rfl (fun u hS => by go_simp) ?_
  try go_simp
  refine list_new (z := z8) (ty := 75) (v := fun g => .pointer (some ⟨g, 0, none⟩)) rfl rfl (fun u => by go_simp) (fun g1 hgg1 => ?_)
  try go_simp
  refine list_store (l1 := []) (l2 := [(w.heap.size + 1 + 1, 75, z8), (w.heap.size + 1, 75, cells8 m2), (w.heap.size, 75, cells8 m1)]) (l' := [(g1, 75, cells8 m3), (w.heap.size + 1 + 1, 75, z8), (w.heap.size + 1, 75, cells8 m2), (w.heap.size, 75, cells8 m1)]) (g := g1) (old := z8) (cs := cells8 m3) (.tmp 5) (.tmp 11) rfl rfl rfl rfl rfl rfl rWide rfl rfl (cells8_one _) hgg1 ?_
  try go_simp
  refine list_read (v := .bool true) rfl rfl (fun u hS => by go_simp) ?_
  try go_simp
  refine list_end (fun u1 hS => ?_)
  have D := hide hS
  clear hS
  go_upto_region 2 with fail
  refine list_start (S := Gd w [(g1, 75, cells8 m3), (w.heap.size + 1 + 1, 75, z8), (w.heap.size + 1, 75, cells8 m2), (w.heap.size, 75, cells8 m1)]) (unhide D) ?_
  clear D
  refine list_read (v := .agg (cells8 m3)) rfl rfl (fun u hS => exec_loadG (g := g1) (t := 75) (cs := cells8 m3) hS.g rWide _ rfl rfl (by repeat (first | exact List.mem_cons_self | apply List.mem_cons_of_mem)) rfl) ?_
  try go_simp
  refine list_store (l1 := [(g1, 75, cells8 m3)]) (l2 := [(w.heap.size + 1, 75, cells8 m2), (w.heap.size, 75, cells8 m1)]) (l' := [(g1, 75, cells8 m3), (w.heap.size + 1 + 1, 75, cells8 m3), (w.heap.size + 1, 75, cells8 m2), (w.heap.size, 75, cells8 m1)]) (g := w.heap.size + 1 + 1) (old := z8) (cs := cells8 m3) (.tmp 4) (.tmp 13) rfl rfl rfl rfl rfl rfl rWide rfl rfl (cells8_one _) (by omega) ?_
  try go_simp
  refine list_end (fun u2 hS => ?_)
  have D := hide hS
  clear hS
  go_wp2
  exact resG rWide ((unhide D).g.blk (g := w.heap.size + 1 + 1) (t := 75) (cs := cells8 m3) (by repeat (first | exact List.mem_cons_self | apply List.mem_cons_of_mem))) rfl rfl rfl rfl ⟨rfl, (unhide D).g.o⟩
set_option maxHeartbeats 4000000 in
theorem moment_core {N1 N2 N3 N4 N5 N7 N8 N9 N10 N11 : Nat} {b6 b12 : Bool} {v13 : Int} (x y z : Int) (w : World) (h0 : Hid (Ans 96 #[.int .i64 y] (.agg (cells8 N1)))) (h1 : Hid (Ans 95 #[.agg (cells8 N1), .agg (cells8 N1)] (.agg (cells8 N2)))) (h2 : Hid (Ans 96 #[.int .i64 z] (.agg (cells8 N3)))) (h3 : Hid (Ans 95 #[.agg (cells8 N3), .agg (cells8 N3)] (.agg (cells8 N4)))) (h4 : Hid (Ans 93 #[.agg (cells8 N2), .agg (cells8 N4)] (.tuple #[.agg (cells8 N5), .bool b6]))) (h5 : Hid (Ans 96 #[.int .i64 x] (.agg (cells8 N7)))) (h6 : Hid (Ans 95 #[.agg (cells8 N7), .agg (cells8 N5)] (.agg (cells8 N8)))) (h7 : Hid (Ans 91 #[.int .i64 3] (.agg (cells8 N9)))) (h8 : Hid (Ans 97 #[.agg (cells8 N8), .agg (cells8 N9)] (.tuple #[.agg (cells8 N10), .agg (cells8 N11), .bool b12]))) (h9 : Hid (Ans 94 #[.agg (cells8 N10), .int .i64 96] (.int .i64 v13))) : Calls Tryz.prog 53 #[.int .i64 x, .int .i64 y, .int .i64 z] w fun e w' => e = .returned (.int .i64 v13) ∧ Below w.heap.size w w' := by
  go_enter Tryz.func53, Tryz.ntmps53
  go_upto_region 1 with fail
  have D := hide ((Gen.start w))
  refine list_start (S := Gen w _) (unhide D) ?_
  clear D
  refine list_read (v := .int .i64 y) rfl rfl (fun u hS => by go_simp) ?_
  try go_simp
  refine list_call (v := .agg (cells8 N1)) (f := 96) (args := #[.int .i64 y]) rfl rfl (fun u hS => by go_simp) (fun u hS => (unhide h0 u).mono fun _ _ ⟨he, hb⟩ => ⟨he, hS.keep hb⟩) ?_
  try go_simp
  refine list_read (v := .int .i64 y) rfl rfl (fun u hS => by go_simp) ?_
  try go_simp
  refine list_call (v := .agg (cells8 N1)) (f := 96) (args := #[.int .i64 y]) rfl rfl (fun u hS => by go_simp) (fun u hS => (unhide h0 u).mono fun _ _ ⟨he, hb⟩ => ⟨he, hS.keep hb⟩) ?_
  try go_simp
  refine list_call (v := .agg (cells8 N2)) (f := 95) (args := #[.agg (cells8 N1), .agg (cells8 N1)]) rfl rfl (fun u hS => by go_simp) (fun u hS => (unhide h1 u).mono fun _ _ ⟨he, hb⟩ => ⟨he, hS.keep hb⟩) ?_
  try go_simp
  refine list_read (v := .int .i64 z) rfl rfl (fun u hS => by go_simp) ?_
  try go_simp
  refine list_call (v := .agg (cells8 N3)) (f := 96) (args := #[.int .i64 z]) rfl rfl (fun u hS => by go_simp) (fun u hS => (unhide h2 u).mono fun _ _ ⟨he, hb⟩ => ⟨he, hS.keep hb⟩) ?_
  try go_simp
  refine list_read (v := .int .i64 z) rfl rfl (fun u hS => by go_simp) ?_
  try go_simp
  refine list_call (v := .agg (cells8 N3)) (f := 96) (args := #[.int .i64 z]) rfl rfl (fun u hS => by go_simp) (fun u hS => (unhide h2 u).mono fun _ _ ⟨he, hb⟩ => ⟨he, hS.keep hb⟩) ?_
  try go_simp
  refine list_call (v := .agg (cells8 N4)) (f := 95) (args := #[.agg (cells8 N3), .agg (cells8 N3)]) rfl rfl (fun u hS => by go_simp) (fun u hS => (unhide h3 u).mono fun _ _ ⟨he, hb⟩ => ⟨he, hS.keep hb⟩) ?_
  try go_simp
  refine list_call (v := .tuple #[.agg (cells8 N5), .bool b6]) (f := 93) (args := #[.agg (cells8 N2), .agg (cells8 N4)]) rfl rfl (fun u hS => by go_simp) (fun u hS => (unhide h4 u).mono fun _ _ ⟨he, hb⟩ => ⟨he, hS.keep hb⟩) ?_
  try go_simp
  refine list_read (v := .tuple #[.agg (cells8 N5), .bool b6]) rfl rfl (fun u hS => by go_simp) ?_
  try go_simp
  refine list_read (v := .agg (cells8 N5)) rfl rfl (fun u hS => by go_simp) ?_
  try go_simp
  refine list_read (v := .bool b6) rfl rfl (fun u hS => by go_simp) ?_
  try go_simp
  intro u1 hS
  have D := hide hS
  clear hS
  go_upto_region 2 with (first | (with_reducible refine at_list ?_; refine stG (unhide D) rWide _ _ rfl rfl rfl rfl rfl rfl (cells8_one _) ?_; intro D'; have D := hide D'; clear D'))
  generalize hz_g1 : u1.heap.size = g1 at *
  clear hz_g1
  have D1 : Hid (GenZ w _ _ _) := ⟨(unhide D).drew, Nat.le_refl _⟩
  have hlt := hide (fun (p : Nat × TypeId × Array Value) hp => ((unhide D).at_ p hp).lt)
  have hw0 := hide (unhide D).o.size
  clear D
  try simp only [szA] at hlt hw0
  refine region_allocsL (S := GenZ w _ _) (t := 75) (z := z8) (base := _) (l := [0, 1, 2, 3, 4, 5, 6, 7, 8, 9]) (A := [10, 11]) (T := [12, 13, 14]) (ft := 12) (Z := [8, 9]) (by kernel_rfl) (by kernel_rfl) (by kernel_rfl) (by kernel_rfl) (by kernel_rfl) (by kernel_rfl) (by kernel_rfl) (by kernel_rfl) (by kernel_rfl) (by kernel_rfl) (by kernel_rfl) (by kernel_rfl) (by kernel_rfl) (by rintro ⟨_, _, h⟩; have h1 := And.left h; cases h1) (by intro d v c a w h; exact And.intro (by cases d <;> exact And.left h) (And.right h)) (by kernel_rfl) (?_) (fun _ _ h hb => h.keep hb) (fun _ h => h.s) (unhide D1) ?_
  · intro i hi
    simp at hi
    rcases hi with rfl | rfl
    all_goals exact ⟨_, rfl, rfl, fun a w => by go_simp⟩
  clear D1
  refine planB_read (v := .int .i64 x) rfl rfl (fun u hS => by go_simp) ?_
  try go_simp
  refine planB_call (v := .agg (cells8 N7)) (f := 96) (args := #[.int .i64 x]) rfl rfl (fun u hS => by go_simp) (fun u hS => (unhide h5 u).mono fun _ _ ⟨he, hb⟩ => ⟨he, hS.keep hb, hb⟩) ?_
  try go_simp
  refine planB_read (v := .agg (cells8 N5)) rfl rfl (fun u hS => exec_loadG (g := g1) (cs := cells8 N5) hS.e rWide _ rfl rfl (by repeat (first | exact List.mem_cons_self | apply List.mem_cons_of_mem)) rfl) ?_
  try go_simp
  refine planB_call (v := .agg (cells8 N8)) (f := 95) (args := #[.agg (cells8 N7), .agg (cells8 N5)]) rfl rfl (fun u hS => by go_simp) (fun u hS => (unhide h6 u).mono fun _ _ ⟨he, hb⟩ => ⟨he, hS.keep hb, hb⟩) ?_
  try go_simp
  refine planB_call (v := .agg (cells8 N9)) (f := 91) (args := #[.int .i64 3]) rfl rfl (fun u hS => by go_simp) (fun u hS => (unhide h7 u).mono fun _ _ ⟨he, hb⟩ => ⟨he, hS.keep hb, hb⟩) ?_
  try go_simp
  refine planB_call (v := .tuple #[.agg (cells8 N10), .agg (cells8 N11), .bool b12]) (f := 97) (args := #[.agg (cells8 N8), .agg (cells8 N9)]) rfl rfl (fun u hS => by go_simp) (fun u hS => (unhide h8 u).mono fun _ _ ⟨he, hb⟩ => ⟨he, hS.keep hb, hb⟩) ?_
  try go_simp
  refine planB_read (v := .tuple #[.agg (cells8 N10), .agg (cells8 N11), .bool b12]) rfl rfl (fun u hS => by go_simp) ?_
  try go_simp
  refine planB_read (v := .agg (cells8 N10)) rfl rfl (fun u hS => by go_simp) ?_
  try go_simp
  refine planB_read (v := .agg (cells8 N11)) rfl rfl (fun u hS => by go_simp) ?_
  try go_simp
  refine planB_read (v := .bool b12) rfl rfl (fun u hS => by go_simp) ?_
  try go_simp
  refine planB_tail (fun c u2 hS hB hI => ?_)
  have k10 := hB 10 (by simp)
  have k11 := hB 11 (by simp)
  have n10_11 : c 10 ≠ c 11 := fun hc => by have := hI 10 (by simp) 11 (by simp) hc; omega
  simp only [pa, dstOf, opsOf]
  generalize c 10 = c2_10 at *
  generalize c 11 = c2_11 at *
  clear hI hB
  have D0 := hide hS.e
  have hw1 := unhide hw0
  clear hS
  have D2 := D0
  have D2 : Hid (Gen w [(g1, 75, cells8 N5)] (u2.setRow c2_10 (cells8 N10))) := hide (Gen.rowB (unhide D2) (unhide hlt) (unhide hw0) k10.2 (cells8 N10))
  have D2 : Hid (Gen w [(g1, 75, cells8 N5)] ((u2.setRow c2_10 (cells8 N10)).setRow c2_11 (cells8 N11))) := hide (Gen.rowB (unhide D2) (unhide hlt) (unhide hw0) k11.2 (cells8 N11))
  have D2 := hide ((unhide D2).moreB ((k10.1.row (cells8 N10)).rowOther (cells8 N11) n10_11))
  have D2 := hide ((unhide D2).moreB ((k11.1.rowOther (cells8 N10) (Ne.symm n10_11)).row (cells8 N11)))
  have e0 := hide k10.1
  have e1 := hide (k11.1.rowOther (cells8 N10) (Ne.symm n10_11))
  refine wpList_store_row rfl 75 (.tmp 9) (.tmp 33) rfl _ (cells8 N10) rfl rfl 75 _ (unhide e0) iWide rfl (cells8_one _) ?_
  refine wpList_store_row rfl 75 (.tmp 10) (.tmp 34) rfl _ (cells8 N11) rfl rfl 75 _ (unhide e1) iWide rfl (cells8_one _) ?_
  generalize (u2.setRow c2_10 (cells8 N10)).setRow c2_11 (cells8 N11) = x2 at D2 ⊢
  clear k10 k11 e0 e1 D0 hlt hw0 hw1 n10_11
  have D := D2
  clear D2
  go_simp
  go_upto_region 3 with fail
  refine list_start (S := Gen w _) (unhide D) ?_
  clear D
  refine list_read (v := .agg (cells8 N10)) rfl rfl (fun u hS => exec_loadG (g := c2_10) (cs := cells8 N10) hS rWide _ rfl rfl (by repeat (first | exact List.mem_cons_self | apply List.mem_cons_of_mem)) rfl) ?_
  try go_simp
  refine list_call (v := .int .i64 v13) (f := 94) (args := #[.agg (cells8 N10), .int .i64 96]) rfl rfl (fun u hS => by go_simp) (fun u hS => (unhide h9 u).mono fun _ _ ⟨he, hb⟩ => ⟨he, hS.keep hb⟩) ?_
  try go_simp
  refine list_read (v := .int .i64 v13) rfl rfl (fun u hS => by go_simp) ?_
  try go_simp
  refine list_end (fun u3 hS => ?_)
  have D := hide hS
  clear hS
  go_wp2
  go_ret
  exact ⟨rfl, (unhide D).o⟩
set_option maxHeartbeats 4000000 in
theorem back_0 (x : Int) (w : World) (e0 : Hid (decide ((x : Int) ≤ 0) = true)) : Calls Tryz.prog 56 #[.int .i64 x] w fun e w' => e = .returned (.int .i64 0) ∧ Below w.heap.size w w' := by
  go_enter Tryz.func56, Tryz.ntmps56
  go_upto_region 1 with fail
  have D := hide ((Gd.start w))
  refine list_start (S := Gd w []) (unhide D) ?_
  clear D
  refine list_read (v := .int .i64 x) rfl rfl (fun u hS => by go_simp) ?_
  try go_simp
  refine list_read (v := .bool true) rfl rfl (fun u hS => exec_leqS _ _ (unhide e0) rfl rfl rfl) ?_
  try go_simp
  refine list_end (fun u1 hS => ?_)
  have D := hide hS
  clear hS
  go_upto_region 2 with fail
  refine list_start (S := Gd w []) (unhide D) ?_
  clear D
  refine list_read (v := .int .i64 0) rfl rfl (fun u hS => by go_simp) ?_
  try go_simp
  refine list_end (fun u2 hS => ?_)
  have D := hide hS
  clear hS
  go_wp2
  go_ret
  exact ⟨rfl, (unhide D).g.o⟩
set_option maxHeartbeats 4000000 in
theorem back_1 (x v : Int) (w : World) (e0 : Hid (decide ((x : Int) ≤ 0) = false)) (h0 : Hid (Ans 101 #[.int .i64 4294967296, .int .i64 x] (.int .i64 v))) : Calls Tryz.prog 56 #[.int .i64 x] w fun e w' => e = .returned (.int .i64 v) ∧ Below w.heap.size w w' := by
  go_enter Tryz.func56, Tryz.ntmps56
  go_upto_region 1 with fail
  have D := hide ((Gd.start w))
  refine list_start (S := Gd w []) (unhide D) ?_
  clear D
  refine list_read (v := .int .i64 x) rfl rfl (fun u hS => by go_simp) ?_
  try go_simp
  refine list_read (v := .bool false) rfl rfl (fun u hS => exec_leqS _ _ (unhide e0) rfl rfl rfl) ?_
  try go_simp
  refine list_end (fun u1 hS => ?_)
  have D := hide hS
  clear hS
  go_upto_region 3 with fail
  refine list_start (S := Gd w []) (unhide D) ?_
  clear D
  refine list_read (v := .int .i64 x) rfl rfl (fun u hS => by go_simp) ?_
  try go_simp
  refine list_call (v := .int .i64 v) (f := 101) (args := #[.int .i64 4294967296, .int .i64 x]) rfl rfl (fun u hS => by go_simp) (fun u hS => (unhide h0 u).mono fun _ _ ⟨he, hb⟩ => ⟨he, hS.keep hb⟩) ?_
  try go_simp
  refine list_read (v := .int .i64 v) rfl rfl (fun u hS => by go_simp) ?_
  try go_simp
  refine list_end (fun u3 hS => ?_)
  have D := hide hS
  clear hS
  go_wp2
  go_ret
  exact ⟨rfl, (unhide D).g.o⟩
set_option maxHeartbeats 4000000 in
theorem back1_core (x y z v : Int) (w : World) (h0 : Hid (Ans 56 #[.int .i64 x] (.int .i64 v))) : Calls Tryz.prog 55 #[.int .i64 x, .int .i64 y, .int .i64 z] w fun e w' => e = .returned (.int .i64 v) ∧ Below w.heap.size w w' := by
  go_enter Tryz.func55, Tryz.ntmps55
  go_upto_region 1 with fail
  have D := hide ((Gd.start w))
  refine list_start (S := Gd w []) (unhide D) ?_
  clear D
  refine list_read (v := .int .i64 x) rfl rfl (fun u hS => by go_simp) ?_
  try go_simp
  refine list_call (v := .int .i64 v) (f := 56) (args := #[.int .i64 x]) rfl rfl (fun u hS => by go_simp) (fun u hS => (unhide h0 u).mono fun _ _ ⟨he, hb⟩ => ⟨he, hS.keep hb⟩) ?_
  try go_simp
  refine list_read (v := .int .i64 v) rfl rfl (fun u hS => by go_simp) ?_
  try go_simp
  refine list_end (fun u1 hS => ?_)
  have D := hide hS
  clear hS
  go_wp2
  go_ret
  exact ⟨rfl, (unhide D).g.o⟩
theorem MRawZ (x : Int) (hx : I64 x) : Ans 96 #[.int .i64 x] (V x) := fun w => mraw_core x (enc x) w (fun u => OfZ x hx.1 hx.2 u)
theorem MProdZ (x y : Int) (hx : Fit x) (hy : Fit y) (h : Fit (x * y)) : Ans 95 #[V x, V y] (V (x * y)) := fun w => mproduct_core (enc x) (enc y) (enc (x * y)) w (fun u => by
  have k := MulZ x y hx hy u
  rw [toldZ_fit h] at k
  exact k)
/-- A moment: m by 3 times b b and c c, of raw numbers. -/
def moI (m b c : Int) : Int := cl ((m * (b * b + c * c)).fdiv 3 / 18446744073709551616)
theorem moI_sz {m b c : Int} (hm : I64 m) (hb : I64 b) (hc : I64 c) : Sz 127 (b * b + c * c) ∧ Sz 190 (m * (b * b + c * c)) := by
  have h := (hb.sz.mul hb.sz).add (hc.sz.mul hc.sz)
  exact ⟨h, hm.sz.mul h⟩
theorem MomentZ (m b c : Int) (hm : I64 m) (hb : I64 b) (hc : I64 c) : Ans 53 #[.int .i64 m, .int .i64 b, .int .i64 c] (.int .i64 (moI m b c)) := fun w => by
  obtain ⟨s1, s2⟩ := moI_sz hm hb hc
  have f3 : Fit (3 : Int) := (show I64 3 from ⟨by decide, by decide⟩).fit
  have hq : Fit ((m * (b * b + c * c)).fdiv 3) := (s2.fdiv (show (3 : Int) ≠ 0 by decide)).fit (by decide)
  have hD := fun u => DivZ (m * (b * b + c * c)) 3 (s2.fit (by decide)) f3 u
  have hd : dq (m * (b * b + c * c)) 3 = true := by unfold dq; rw [fit_true hq]; rfl
  rw [hd] at hD
  have hI := InZ ((m * (b * b + c * c)).fdiv 3) 96 hq ⟨by decide, by decide⟩
  exact moment_core m b c w (MRawZ b hb) (MProdZ b b hb.fit hb.fit ((hb.sz.mul hb.sz).fit (by decide))) (MRawZ c hc) (MProdZ c c hc.fit hc.fit ((hc.sz.mul hc.sz).fit (by decide)))
    (fun u => by
      have k := AddZ (b * b) (c * c) ((hb.sz.mul hb.sz).fit (by decide)) ((hc.sz.mul hc.sz).fit (by decide)) u
      rw [toldZ_fit (s1.fit (by decide))] at k
      exact k) (MRawZ m hm) (MProdZ m (b * b + c * c) hm.fit (s1.fit (by decide)) (s2.fit (by decide))) (fun u => OfZ 3 (by decide) (by decide) u) hD hI
/-- 1 by a number above 0, and else 0. -/
def bkI (x : Int) : Int := if x ≤ 0 then 0 else divD 4294967296 x
theorem BackNZ (x : Int) (hx : I64 x) : Ans 56 #[.int .i64 x] (.int .i64 (bkI x)) := fun w => by
  unfold bkI
  by_cases h : x ≤ 0
  · rw [if_pos h]; exact back_0 x w (decide_eq_true h)
  · rw [if_neg h]; exact back_1 x _ w (decide_eq_false h) (FixDivZ 4294967296 x ⟨by decide, by decide⟩ hx)
theorem Back1Z (x y z : Int) (hx : I64 x) : Ans 55 #[.int .i64 x, .int .i64 y, .int .i64 z] (.int .i64 (bkI x)) := fun w => back1_core x y z _ w (BackNZ x hx)
theorem Gd.one {w : World} {g : Nat} {t : TypeId} {cs : Array Value} (h : Blk w g t cs) : Gd w [(g, t, cs)] w := ⟨⟨fun p hp => by
  rcases List.mem_cons.1 hp with rfl | hp
  · exact h
  · (cases hp), Below.refl _ _⟩, by simp⟩
theorem of1_core (x y z m v : Int) (g : Nat) (w : World) (hB : Blk w g 22 #[.int .i64 m]) (h0 : Hid (Ans 53 #[.int .i64 m, .int .i64 y, .int .i64 z] (.int .i64 v))) : Calls Tryz.prog 52 #[.int .i64 x, .int .i64 y, .int .i64 z, .pointer (some ⟨g, 0, none⟩)] w fun e w' => e = .returned (.int .i64 v) ∧ Below w.heap.size w w' := by
  have D := hide (Gd.one hB)
  clear hB
  go_enter Tryz.func52, Tryz.ntmps52
  go_upto_region 1 with fail
  refine list_start (S := Gd w [(g, 22, #[.int .i64 m])]) (unhide D) ?_
  clear D
  refine list_read (v := .int .i64 m) rfl rfl (fun u hS => exec_loadN_Fix (g := g) (t := 22) (cs := #[.int .i64 m]) hS.g _ rfl rfl (by repeat (first | exact List.mem_cons_self | apply List.mem_cons_of_mem)) rfl) ?_
  try go_simp
  refine list_read (v := .int .i64 y) rfl rfl (fun u hS => by go_simp) ?_
  try go_simp
  refine list_read (v := .int .i64 z) rfl rfl (fun u hS => by go_simp) ?_
  try go_simp
  refine list_call (v := .int .i64 v) (f := 53) (args := #[.int .i64 m, .int .i64 y, .int .i64 z]) rfl rfl (fun u hS => by go_simp) (fun u hS => (unhide h0 u).mono fun _ _ ⟨he, hb⟩ => ⟨he, hS.keep hb⟩) ?_
  try go_simp
  refine list_read (v := .int .i64 v) rfl rfl (fun u hS => by go_simp) ?_
  try go_simp
  refine list_end (fun u1 hS => ?_)
  have D := hide hS
  clear hS
  go_wp2
  go_ret
  exact ⟨rfl, (unhide D).g.o⟩
set_option maxHeartbeats 4000000 in
theorem each_Back10 (x y z a1 a2 a3 : Int) (w : World) (h0 : Hid (Ans 55 #[.int .i64 x, .int .i64 y, .int .i64 z] (.int .i64 a1))) (h1 : Hid (Ans 55 #[.int .i64 y, .int .i64 z, .int .i64 x] (.int .i64 a2))) (h2 : Hid (Ans 55 #[.int .i64 z, .int .i64 x, .int .i64 y] (.int .i64 a3))) : Calls Tryz.prog 51 #[.agg (v3 x y z), .func (Fn.func 55) #[] #[]] w fun e w' => e = .returned (.agg (v3 a1 a2 a3)) ∧ Below w.heap.size w w' := by
  go_enter Tryz.func51, Tryz.ntmps51
  go_upto_region 1 with fail
  have D := hide ((((Gd.start w).push 24 (v3 x y z)).push 24 (v3 0 0 0)))
  simp only [szA] at D
  refine region_allocs (S := Gd w [(w.heap.size + 1, 24, v3 0 0 0), (w.heap.size, 24, v3 x y z)]) (t := 0) (z := #[]) (base := w.heap.size) (l := [0, 1, 2, 3, 4, 5, 6, 7, 8, 9, 10, 11, 12, 13, 14, 15, 16, 17, 18, 19, 20, 21, 22, 23, 24]) (A := []) (T := [25]) (by kernel_rfl) (by kernel_rfl) (by kernel_rfl) (by kernel_rfl) (by kernel_rfl) (by kernel_rfl) (by kernel_rfl) (by kernel_rfl) (by kernel_rfl) (by kernel_rfl) (fun i hi => by cases hi) (fun _ _ h hb => h.keep hb) (fun _ h => h.g.o.size) (unhide D).drew ?_
  clear D
  refine planB_read (v := .func (Fn.func 55) #[] #[]) rfl rfl (fun u hS => by go_simp) ?_
  try go_simp
  refine planB_read (v := .pointer (some ⟨w.heap.size, 0, none⟩)) rfl rfl (fun u hS => by go_simp) ?_
  try go_simp
  refine planB_read (v := .int .i64 x) rfl rfl (fun u hS => exec_loadN_Fix (g := w.heap.size) (t := 24) (cs := v3 x y z) hS.g _ rfl rfl (by repeat (first | exact List.mem_cons_self | apply List.mem_cons_of_mem)) rfl) ?_
  try go_simp
  refine planB_read (v := .pointer (some ⟨w.heap.size, 1, none⟩)) rfl rfl (fun u hS => by go_simp) ?_
  try go_simp
  refine planB_read (v := .int .i64 y) rfl rfl (fun u hS => exec_loadN_Fix (g := w.heap.size) (t := 24) (cs := v3 x y z) hS.g _ rfl rfl (by repeat (first | exact List.mem_cons_self | apply List.mem_cons_of_mem)) rfl) ?_
  try go_simp
  refine planB_read (v := .pointer (some ⟨w.heap.size, 2, none⟩)) rfl rfl (fun u hS => by go_simp) ?_
  try go_simp
  refine planB_read (v := .int .i64 z) rfl rfl (fun u hS => exec_loadN_Fix (g := w.heap.size) (t := 24) (cs := v3 x y z) hS.g _ rfl rfl (by repeat (first | exact List.mem_cons_self | apply List.mem_cons_of_mem)) rfl) ?_
  try go_simp
  refine planB_call (v := .int .i64 a1) (f := 55) (args := #[.int .i64 x, .int .i64 y, .int .i64 z]) rfl rfl (fun u hS => by go_simp) (fun u hS => (unhide h0 u).mono fun _ _ ⟨he, hb⟩ => ⟨he, hS.keep hb, hb⟩) ?_
  try go_simp
  refine planB_read (v := .func (Fn.func 55) #[] #[]) rfl rfl (fun u hS => by go_simp) ?_
  try go_simp
  refine planB_read (v := .pointer (some ⟨w.heap.size, 1, none⟩)) rfl rfl (fun u hS => by go_simp) ?_
  try go_simp
  refine planB_read (v := .int .i64 y) rfl rfl (fun u hS => exec_loadN_Fix (g := w.heap.size) (t := 24) (cs := v3 x y z) hS.g _ rfl rfl (by repeat (first | exact List.mem_cons_self | apply List.mem_cons_of_mem)) rfl) ?_
  try go_simp
  refine planB_read (v := .pointer (some ⟨w.heap.size, 2, none⟩)) rfl rfl (fun u hS => by go_simp) ?_
  try go_simp
  refine planB_read (v := .int .i64 z) rfl rfl (fun u hS => exec_loadN_Fix (g := w.heap.size) (t := 24) (cs := v3 x y z) hS.g _ rfl rfl (by repeat (first | exact List.mem_cons_self | apply List.mem_cons_of_mem)) rfl) ?_
  try go_simp
  refine planB_read (v := .pointer (some ⟨w.heap.size, 0, none⟩)) rfl rfl (fun u hS => by go_simp) ?_
  try go_simp
  refine planB_read (v := .int .i64 x) rfl rfl (fun u hS => exec_loadN_Fix (g := w.heap.size) (t := 24) (cs := v3 x y z) hS.g _ rfl rfl (by repeat (first | exact List.mem_cons_self | apply List.mem_cons_of_mem)) rfl) ?_
  try go_simp
  refine planB_call (v := .int .i64 a2) (f := 55) (args := #[.int .i64 y, .int .i64 z, .int .i64 x]) rfl rfl (fun u hS => by go_simp) (fun u hS => (unhide h1 u).mono fun _ _ ⟨he, hb⟩ => ⟨he, hS.keep hb, hb⟩) ?_
  try go_simp
  refine planB_read (v := .func (Fn.func 55) #[] #[]) rfl rfl (fun u hS => by go_simp) ?_
  try go_simp
  refine planB_read (v := .pointer (some ⟨w.heap.size, 2, none⟩)) rfl rfl (fun u hS => by go_simp) ?_
  try go_simp
  refine planB_read (v := .int .i64 z) rfl rfl (fun u hS => exec_loadN_Fix (g := w.heap.size) (t := 24) (cs := v3 x y z) hS.g _ rfl rfl (by repeat (first | exact List.mem_cons_self | apply List.mem_cons_of_mem)) rfl) ?_
  try go_simp
  refine planB_read (v := .pointer (some ⟨w.heap.size, 0, none⟩)) rfl rfl (fun u hS => by go_simp) ?_
  try go_simp
  refine planB_read (v := .int .i64 x) rfl rfl (fun u hS => exec_loadN_Fix (g := w.heap.size) (t := 24) (cs := v3 x y z) hS.g _ rfl rfl (by repeat (first | exact List.mem_cons_self | apply List.mem_cons_of_mem)) rfl) ?_
  try go_simp
  refine planB_read (v := .pointer (some ⟨w.heap.size, 1, none⟩)) rfl rfl (fun u hS => by go_simp) ?_
  try go_simp
  refine planB_read (v := .int .i64 y) rfl rfl (fun u hS => exec_loadN_Fix (g := w.heap.size) (t := 24) (cs := v3 x y z) hS.g _ rfl rfl (by repeat (first | exact List.mem_cons_self | apply List.mem_cons_of_mem)) rfl) ?_
  try go_simp
  refine planB_call (v := .int .i64 a3) (f := 55) (args := #[.int .i64 z, .int .i64 x, .int .i64 y]) rfl rfl (fun u hS => by go_simp) (fun u hS => (unhide h2 u).mono fun _ _ ⟨he, hb⟩ => ⟨he, hS.keep hb, hb⟩) ?_
  try go_simp
  refine planB_read (v := .agg (v3 a1 a2 a3)) rfl rfl (fun u hS => by go_simp) ?_
  try go_simp
  refine planB_tail (fun cc u hS hB hI => ?_)
  clear hB hI
  simp only [pa, opsOf]
  refine list_go hS ?_
  clear hS
  refine list_store (l1 := []) (l2 := [(w.heap.size, 24, v3 x y z)]) (l' := [(w.heap.size + 1, 24, v3 a1 a2 a3), (w.heap.size, 24, v3 x y z)]) (g := w.heap.size + 1) (old := v3 0 0 0) (cs := v3 a1 a2 a3) (.tmp 4) (.tmp 29) rfl rfl rfl rfl rfl rfl rVec rfl rfl (v3_one _ _ _) (by omega) ?_
  try go_simp
  refine list_end (fun u1 hS => ?_)
  have D := hide hS
  clear hS
  go_wp2
  exact resG rVec ((unhide D).g.blk (g := w.heap.size + 1) (t := 24) (cs := v3 a1 a2 a3) (by repeat (first | exact List.mem_cons_self | apply List.mem_cons_of_mem))) rfl rfl rfl rfl ⟨rfl, (unhide D).g.o⟩
set_option maxHeartbeats 4000000 in
theorem each_Of10 (x y z a1 a2 a3 : Int) (g : Nat) (w : World) (h0 : Hid (∀ u, Below w.heap.size w u → Calls Tryz.prog 52 #[.int .i64 x, .int .i64 y, .int .i64 z, .pointer (some ⟨g, 0, none⟩)] u fun e w' => e = .returned (.int .i64 a1) ∧ Below u.heap.size u w')) (h1 : Hid (∀ u, Below w.heap.size w u → Calls Tryz.prog 52 #[.int .i64 y, .int .i64 z, .int .i64 x, .pointer (some ⟨g, 0, none⟩)] u fun e w' => e = .returned (.int .i64 a2) ∧ Below u.heap.size u w')) (h2 : Hid (∀ u, Below w.heap.size w u → Calls Tryz.prog 52 #[.int .i64 z, .int .i64 x, .int .i64 y, .pointer (some ⟨g, 0, none⟩)] u fun e w' => e = .returned (.int .i64 a3) ∧ Below u.heap.size u w')) : Calls Tryz.prog 51 #[.agg (v3 x y z), .func (Fn.func 52) #[] #[.pointer (some ⟨g, 0, none⟩)]] w fun e w' => e = .returned (.agg (v3 a1 a2 a3)) ∧ Below w.heap.size w w' := by
  go_enter Tryz.func51, Tryz.ntmps51
  go_upto_region 1 with fail
  have D := hide ((((Gd.start w).push 24 (v3 x y z)).push 24 (v3 0 0 0)))
  simp only [szA] at D
  refine region_allocs (S := Gd w [(w.heap.size + 1, 24, v3 0 0 0), (w.heap.size, 24, v3 x y z)]) (t := 0) (z := #[]) (base := w.heap.size) (l := [0, 1, 2, 3, 4, 5, 6, 7, 8, 9, 10, 11, 12, 13, 14, 15, 16, 17, 18, 19, 20, 21, 22, 23, 24]) (A := []) (T := [25]) (by kernel_rfl) (by kernel_rfl) (by kernel_rfl) (by kernel_rfl) (by kernel_rfl) (by kernel_rfl) (by kernel_rfl) (by kernel_rfl) (by kernel_rfl) (by kernel_rfl) (fun i hi => by cases hi) (fun _ _ h hb => h.keep hb) (fun _ h => h.g.o.size) (unhide D).drew ?_
  clear D
  refine planB_read (v := .func (Fn.func 52) #[] #[.pointer (some ⟨g, 0, none⟩)]) rfl rfl (fun u hS => by go_simp) ?_
  try go_simp
  refine planB_read (v := .pointer (some ⟨w.heap.size, 0, none⟩)) rfl rfl (fun u hS => by go_simp) ?_
  try go_simp
  refine planB_read (v := .int .i64 x) rfl rfl (fun u hS => exec_loadN_Fix (g := w.heap.size) (t := 24) (cs := v3 x y z) hS.g _ rfl rfl (by repeat (first | exact List.mem_cons_self | apply List.mem_cons_of_mem)) rfl) ?_
  try go_simp
  refine planB_read (v := .pointer (some ⟨w.heap.size, 1, none⟩)) rfl rfl (fun u hS => by go_simp) ?_
  try go_simp
  refine planB_read (v := .int .i64 y) rfl rfl (fun u hS => exec_loadN_Fix (g := w.heap.size) (t := 24) (cs := v3 x y z) hS.g _ rfl rfl (by repeat (first | exact List.mem_cons_self | apply List.mem_cons_of_mem)) rfl) ?_
  try go_simp
  refine planB_read (v := .pointer (some ⟨w.heap.size, 2, none⟩)) rfl rfl (fun u hS => by go_simp) ?_
  try go_simp
  refine planB_read (v := .int .i64 z) rfl rfl (fun u hS => exec_loadN_Fix (g := w.heap.size) (t := 24) (cs := v3 x y z) hS.g _ rfl rfl (by repeat (first | exact List.mem_cons_self | apply List.mem_cons_of_mem)) rfl) ?_
  try go_simp
  refine planB_call (v := .int .i64 a1) (f := 52) (args := #[.int .i64 x, .int .i64 y, .int .i64 z, .pointer (some ⟨g, 0, none⟩)]) rfl rfl (fun u hS => by go_simp) (fun u hS => (unhide h0 u hS.g.o).mono fun _ _ ⟨he, hb⟩ => ⟨he, hS.keep hb, hb⟩) ?_
  try go_simp
  refine planB_read (v := .func (Fn.func 52) #[] #[.pointer (some ⟨g, 0, none⟩)]) rfl rfl (fun u hS => by go_simp) ?_
  try go_simp
  refine planB_read (v := .pointer (some ⟨w.heap.size, 1, none⟩)) rfl rfl (fun u hS => by go_simp) ?_
  try go_simp
  refine planB_read (v := .int .i64 y) rfl rfl (fun u hS => exec_loadN_Fix (g := w.heap.size) (t := 24) (cs := v3 x y z) hS.g _ rfl rfl (by repeat (first | exact List.mem_cons_self | apply List.mem_cons_of_mem)) rfl) ?_
  try go_simp
  refine planB_read (v := .pointer (some ⟨w.heap.size, 2, none⟩)) rfl rfl (fun u hS => by go_simp) ?_
  try go_simp
  refine planB_read (v := .int .i64 z) rfl rfl (fun u hS => exec_loadN_Fix (g := w.heap.size) (t := 24) (cs := v3 x y z) hS.g _ rfl rfl (by repeat (first | exact List.mem_cons_self | apply List.mem_cons_of_mem)) rfl) ?_
  try go_simp
  refine planB_read (v := .pointer (some ⟨w.heap.size, 0, none⟩)) rfl rfl (fun u hS => by go_simp) ?_
  try go_simp
  refine planB_read (v := .int .i64 x) rfl rfl (fun u hS => exec_loadN_Fix (g := w.heap.size) (t := 24) (cs := v3 x y z) hS.g _ rfl rfl (by repeat (first | exact List.mem_cons_self | apply List.mem_cons_of_mem)) rfl) ?_
  try go_simp
  refine planB_call (v := .int .i64 a2) (f := 52) (args := #[.int .i64 y, .int .i64 z, .int .i64 x, .pointer (some ⟨g, 0, none⟩)]) rfl rfl (fun u hS => by go_simp) (fun u hS => (unhide h1 u hS.g.o).mono fun _ _ ⟨he, hb⟩ => ⟨he, hS.keep hb, hb⟩) ?_
  try go_simp
  refine planB_read (v := .func (Fn.func 52) #[] #[.pointer (some ⟨g, 0, none⟩)]) rfl rfl (fun u hS => by go_simp) ?_
  try go_simp
  refine planB_read (v := .pointer (some ⟨w.heap.size, 2, none⟩)) rfl rfl (fun u hS => by go_simp) ?_
  try go_simp
  refine planB_read (v := .int .i64 z) rfl rfl (fun u hS => exec_loadN_Fix (g := w.heap.size) (t := 24) (cs := v3 x y z) hS.g _ rfl rfl (by repeat (first | exact List.mem_cons_self | apply List.mem_cons_of_mem)) rfl) ?_
  try go_simp
  refine planB_read (v := .pointer (some ⟨w.heap.size, 0, none⟩)) rfl rfl (fun u hS => by go_simp) ?_
  try go_simp
  refine planB_read (v := .int .i64 x) rfl rfl (fun u hS => exec_loadN_Fix (g := w.heap.size) (t := 24) (cs := v3 x y z) hS.g _ rfl rfl (by repeat (first | exact List.mem_cons_self | apply List.mem_cons_of_mem)) rfl) ?_
  try go_simp
  refine planB_read (v := .pointer (some ⟨w.heap.size, 1, none⟩)) rfl rfl (fun u hS => by go_simp) ?_
  try go_simp
  refine planB_read (v := .int .i64 y) rfl rfl (fun u hS => exec_loadN_Fix (g := w.heap.size) (t := 24) (cs := v3 x y z) hS.g _ rfl rfl (by repeat (first | exact List.mem_cons_self | apply List.mem_cons_of_mem)) rfl) ?_
  try go_simp
  refine planB_call (v := .int .i64 a3) (f := 52) (args := #[.int .i64 z, .int .i64 x, .int .i64 y, .pointer (some ⟨g, 0, none⟩)]) rfl rfl (fun u hS => by go_simp) (fun u hS => (unhide h2 u hS.g.o).mono fun _ _ ⟨he, hb⟩ => ⟨he, hS.keep hb, hb⟩) ?_
  try go_simp
  refine planB_read (v := .agg (v3 a1 a2 a3)) rfl rfl (fun u hS => by go_simp) ?_
  try go_simp
  refine planB_tail (fun cc u hS hB hI => ?_)
  clear hB hI
  simp only [pa, opsOf]
  refine list_go hS ?_
  clear hS
  refine list_store (l1 := []) (l2 := [(w.heap.size, 24, v3 x y z)]) (l' := [(w.heap.size + 1, 24, v3 a1 a2 a3), (w.heap.size, 24, v3 x y z)]) (g := w.heap.size + 1) (old := v3 0 0 0) (cs := v3 a1 a2 a3) (.tmp 4) (.tmp 29) rfl rfl rfl rfl rfl rfl rVec rfl rfl (v3_one _ _ _) (by omega) ?_
  try go_simp
  refine list_end (fun u1 hS => ?_)
  have D := hide hS
  clear hS
  go_wp2
  exact resG rVec ((unhide D).g.blk (g := w.heap.size + 1) (t := 24) (cs := v3 a1 a2 a3) (by repeat (first | exact List.mem_cons_self | apply List.mem_cons_of_mem))) rfl rfl rfl rfl ⟨rfl, (unhide D).g.o⟩
set_option maxHeartbeats 4000000 in
theorem massBack_core (m x y z a0 a1 a2 a3 : Int) (w : World) (h0 : Hid (Ans 51 #[.agg (v3 x y z), .func (Fn.func 55) #[] #[]] (.agg (v3 a1 a2 a3)))) (h1 : Hid (Ans 56 #[.int .i64 m] (.int .i64 a0))) : Calls Tryz.prog 31 #[.agg (ms m x y z)] w fun e w' => e = .returned (.agg (ms a0 a1 a2 a3)) ∧ Below w.heap.size w w' := by
  go_enter Tryz.func31, Tryz.ntmps31
  go_upto_region 1 with fail
  have D := hide ((((Gd.start w).push 46 (ms m x y z)).push 46 (ms 0 0 0 0)))
  simp only [szA] at D
  refine list_start (S := Gd w [(w.heap.size + 1, 46, ms 0 0 0 0), (w.heap.size, 46, ms m x y z)]) (unhide D) ?_
  clear D
  refine list_read (v := .pointer (some ⟨w.heap.size, 1, none⟩)) rfl rfl (fun u hS => by go_simp) ?_
  try go_simp
  refine list_read (v := .agg (v3 x y z)) rfl rfl (fun u hS => exec_loadSub (i := 1) (g := w.heap.size) (t := 46) (cs := ms m x y z) hS.g rVec (vs := v3 x y z) _ rfl rfl (by repeat (first | exact List.mem_cons_self | apply List.mem_cons_of_mem)) rfl rfl) ?_
  try go_simp
  refine list_call (v := .agg (v3 a1 a2 a3)) (f := 51) (args := #[.agg (v3 x y z), .func (Fn.func 55) #[] #[]]) rfl rfl (fun u hS => by go_simp) (fun u hS => (unhide h0 u).mono fun _ _ ⟨he, hb⟩ => ⟨he, hS.keep hb⟩) ?_
  try go_simp
  refine list_new (z := v3 0 0 0) (ty := 24) (v := fun g => .pointer (some ⟨g, 0, none⟩)) rfl rfl (fun u => by go_simp) (fun g1 hgg1 => ?_)
  try go_simp
  refine list_store (l1 := []) (l2 := [(w.heap.size + 1, 46, ms 0 0 0 0), (w.heap.size, 46, ms m x y z)]) (l' := [(g1, 24, v3 a1 a2 a3), (w.heap.size + 1, 46, ms 0 0 0 0), (w.heap.size, 46, ms m x y z)]) (g := g1) (old := v3 0 0 0) (cs := v3 a1 a2 a3) (.tmp 3) (.tmp 6) rfl rfl rfl rfl rfl rfl rVec rfl rfl (v3_one _ _ _) hgg1 ?_
  try go_simp
  refine list_end (fun u1 hS => ?_)
  have D := hide hS
  clear hS
  go_upto_region 2 with fail
  refine region_allocs (S := Gd w [(g1, 24, v3 a1 a2 a3), (w.heap.size + 1, 46, ms 0 0 0 0), (w.heap.size, 46, ms m x y z)]) (t := 0) (z := #[]) (base := w.heap.size) (l := [0, 1, 2, 3, 4]) (A := []) (T := [5]) (by kernel_rfl) (by kernel_rfl) (by kernel_rfl) (by kernel_rfl) (by kernel_rfl) (by kernel_rfl) (by kernel_rfl) (by kernel_rfl) (by kernel_rfl) (by kernel_rfl) (fun i hi => by cases hi) (fun _ _ h hb => h.keep hb) (fun _ h => h.g.o.size) (unhide D).drew ?_
  clear D
  refine planB_read (v := .pointer (some ⟨w.heap.size, 0, none⟩)) rfl rfl (fun u hS => by go_simp) ?_
  try go_simp
  refine planB_read (v := .int .i64 m) rfl rfl (fun u hS => exec_loadN_Fix (g := w.heap.size) (t := 46) (cs := ms m x y z) hS.g _ rfl rfl (by repeat (first | exact List.mem_cons_self | apply List.mem_cons_of_mem)) rfl) ?_
  try go_simp
  refine planB_call (v := .int .i64 a0) (f := 56) (args := #[.int .i64 m]) rfl rfl (fun u hS => by go_simp) (fun u hS => (unhide h1 u).mono fun _ _ ⟨he, hb⟩ => ⟨he, hS.keep hb, hb⟩) ?_
  try go_simp
  refine planB_read (v := .agg (v3 a1 a2 a3)) rfl rfl (fun u hS => exec_loadG (g := g1) (t := 24) (cs := v3 a1 a2 a3) hS.g rVec _ rfl rfl (by repeat (first | exact List.mem_cons_self | apply List.mem_cons_of_mem)) rfl) ?_
  try go_simp
  refine planB_read (v := .agg (ms a0 a1 a2 a3)) rfl rfl (fun u hS => by go_simp) ?_
  try go_simp
  refine planB_tail (fun cc u hS hB hI => ?_)
  clear hB hI
  simp only [pa, opsOf]
  refine list_go hS ?_
  clear hS
  refine list_store (l1 := [(g1, 24, v3 a1 a2 a3)]) (l2 := [(w.heap.size, 46, ms m x y z)]) (l' := [(g1, 24, v3 a1 a2 a3), (w.heap.size + 1, 46, ms a0 a1 a2 a3), (w.heap.size, 46, ms m x y z)]) (g := w.heap.size + 1) (old := ms 0 0 0 0) (cs := ms a0 a1 a2 a3) (.tmp 2) (.tmp 11) rfl rfl rfl rfl rfl rfl rMass rfl rfl (ms_one _ _ _ _) (by omega) ?_
  try go_simp
  refine list_end (fun u2 hS => ?_)
  have D := hide hS
  clear hS
  go_wp2
  exact resG rMass ((unhide D).g.blk (g := w.heap.size + 1) (t := 46) (cs := ms a0 a1 a2 a3) (by repeat (first | exact List.mem_cons_self | apply List.mem_cons_of_mem))) rfl rfl rfl rfl ⟨rfl, (unhide D).g.o⟩
theorem MassBackZ (m x y z : Int) (hm : I64 m) (hx : I64 x) (hy : I64 y) (hz : I64 z) : Ans 31 #[.agg (ms m x y z)] (.agg (ms (bkI m) (bkI x) (bkI y) (bkI z))) := fun w =>
  massBack_core m x y z _ _ _ _ w (fun u => each_Back10 x y z _ _ _ u (Back1Z x y z hx) (Back1Z y z x hy) (Back1Z z x y hz)) (BackNZ m hm)
set_option maxHeartbeats 4000000 in
theorem of_err (kd rr x y z : Int) (A : Option Addr) (n cp : Nat) (m : Int) (q : Int) (w : World) (h0 : Hid (∀ u, Below w.heap.size w u → Calls Tryz.prog 20 #[.agg (sh kd rr x y z A n cp)] u fun e w' => e = .returned (.tuple #[.agg (v3 0 0 0), .int .i64 q]) ∧ Below u.heap.size u w')) (e0 : Hid (decide ((q : Int) = 0) = false)) : Calls Tryz.prog 29 #[.agg (sh kd rr x y z A n cp), .int .i64 m] w fun e w' => e = .returned (.tuple #[.agg (ms 0 0 0 0), .int .i64 q]) ∧ Below w.heap.size w w' := by
  go_enter Tryz.func29, Tryz.ntmps29
  go_upto_region 1 with fail
  have D := hide (((((Gd.start w).push 27 (sh kd rr x y z A n cp)).push 22 (#[.int .i64 m])).push 46 (ms 0 0 0 0)))
  simp only [szA] at D
  refine list_start (S := Gd w [(w.heap.size + 1 + 1, 46, ms 0 0 0 0), (w.heap.size + 1, 22, #[.int .i64 m]), (w.heap.size, 27, sh kd rr x y z A n cp)]) (unhide D) ?_
  clear D
  refine list_read (v := .agg (sh kd rr x y z A n cp)) rfl rfl (fun u hS => exec_loadG (g := w.heap.size) (t := 27) (cs := sh kd rr x y z A n cp) hS.g rShape _ rfl rfl (by repeat (first | exact List.mem_cons_self | apply List.mem_cons_of_mem)) rfl) ?_
  try go_simp
  refine list_call (v := .tuple #[.agg (v3 0 0 0), .int .i64 q]) (f := 20) (args := #[.agg (sh kd rr x y z A n cp)]) rfl rfl (fun u hS => by go_simp) (fun u hS => (unhide h0 u hS.g.o).mono fun _ _ ⟨he, hb⟩ => ⟨he, hS.keep hb⟩) ?_
  try go_simp
  refine list_read (v := .tuple #[.agg (v3 0 0 0), .int .i64 q]) rfl rfl (fun u hS => by go_simp) ?_
  try go_simp
  refine list_read (v := .agg (v3 0 0 0)) rfl rfl (fun u hS => by go_simp) ?_
  try go_simp
  refine list_read (v := .int .i64 q) rfl rfl (fun u hS => by go_simp) ?_
  try go_simp
  refine list_new (z := v3 0 0 0) (ty := 24) (v := fun g => .pointer (some ⟨g, 0, none⟩)) rfl rfl (fun u => by go_simp) (fun g1 hgg1 => ?_)
  try go_simp
  refine list_store (l1 := []) (l2 := [(w.heap.size + 1 + 1, 46, ms 0 0 0 0), (w.heap.size + 1, 22, #[.int .i64 m]), (w.heap.size, 27, sh kd rr x y z A n cp)]) (l' := [(g1, 24, v3 0 0 0), (w.heap.size + 1 + 1, 46, ms 0 0 0 0), (w.heap.size + 1, 22, #[.int .i64 m]), (w.heap.size, 27, sh kd rr x y z A n cp)]) (g := g1) (old := v3 0 0 0) (cs := v3 0 0 0) (.tmp 6) (.tmp 12) rfl rfl rfl rfl rfl rfl rVec rfl rfl (v3_one _ _ _) hgg1 ?_
  try go_simp
  refine list_read (v := .int .i64 q) rfl rfl (fun u hS => by go_simp) ?_
  try go_simp
  refine list_end (fun u1 hS => ?_)
  have D := hide hS
  clear hS
  go_upto_region 2 with fail
  refine list_start (S := Gd w [(g1, 24, v3 0 0 0), (w.heap.size + 1 + 1, 46, ms 0 0 0 0), (w.heap.size + 1, 22, #[.int .i64 m]), (w.heap.size, 27, sh kd rr x y z A n cp)]) (unhide D) ?_
  clear D
  refine list_read (v := .int .i64 q) rfl rfl (fun u hS => by go_simp) ?_
  try go_simp
  refine list_read (v := .bool true) rfl rfl (fun u hS => exec_neqS _ _ (unhide e0) rfl rfl rfl) ?_
  try go_simp
  refine list_end (fun u2 hS => ?_)
  have D := hide hS
  clear hS
  go_upto_region 3 with fail
  refine list_start (S := Gd w [(g1, 24, v3 0 0 0), (w.heap.size + 1 + 1, 46, ms 0 0 0 0), (w.heap.size + 1, 22, #[.int .i64 m]), (w.heap.size, 27, sh kd rr x y z A n cp)]) (unhide D) ?_
  clear D
  refine list_read (v := .agg (ms 0 0 0 0)) rfl rfl (fun u hS => by go_simp) ?_
  try go_simp
  refine list_read (v := .int .i64 q) rfl rfl (fun u hS => by go_simp) ?_
  try go_simp
  refine list_store (l1 := [(g1, 24, v3 0 0 0)]) (l2 := [(w.heap.size + 1, 22, #[.int .i64 m]), (w.heap.size, 27, sh kd rr x y z A n cp)]) (l' := [(g1, 24, v3 0 0 0), (w.heap.size + 1 + 1, 46, ms 0 0 0 0), (w.heap.size + 1, 22, #[.int .i64 m]), (w.heap.size, 27, sh kd rr x y z A n cp)]) (g := w.heap.size + 1 + 1) (old := ms 0 0 0 0) (cs := ms 0 0 0 0) (.tmp 4) (.tmp 16) rfl rfl rfl rfl rfl rfl rMass rfl rfl (ms_one _ _ _ _) (by omega) ?_
  try go_simp
  refine list_read (v := .int .i64 q) rfl rfl (fun u hS => by go_simp) ?_
  try go_simp
  refine list_end (fun u3 hS => ?_)
  have D := hide hS
  clear hS
  go_wp2
  exact resGT rMass ((unhide D).g.blk (g := w.heap.size + 1 + 1) (t := 46) (cs := ms 0 0 0 0) (by repeat (first | exact List.mem_cons_self | apply List.mem_cons_of_mem))) rfl rfl rfl rfl rfl ⟨rfl, (unhide D).g.o⟩
set_option maxHeartbeats 4000000 in
theorem of_low (kd rr x y z : Int) (A : Option Addr) (n cp : Nat) (m : Int) (p1 p2 p3 : Int) (w : World) (h0 : Hid (∀ u, Below w.heap.size w u → Calls Tryz.prog 20 #[.agg (sh kd rr x y z A n cp)] u fun e w' => e = .returned (.tuple #[.agg (v3 p1 p2 p3), .int .i64 0]) ∧ Below u.heap.size u w')) (e0 : Hid (decide ((m : Int) < 16777216) = true)) : Calls Tryz.prog 29 #[.agg (sh kd rr x y z A n cp), .int .i64 m] w fun e w' => e = .returned (.tuple #[.agg (ms 0 0 0 0), .int .i64 2]) ∧ Below w.heap.size w w' := by
  go_enter Tryz.func29, Tryz.ntmps29
  go_upto_region 1 with fail
  have D := hide (((((Gd.start w).push 27 (sh kd rr x y z A n cp)).push 22 (#[.int .i64 m])).push 46 (ms 0 0 0 0)))
  simp only [szA] at D
  refine list_start (S := Gd w [(w.heap.size + 1 + 1, 46, ms 0 0 0 0), (w.heap.size + 1, 22, #[.int .i64 m]), (w.heap.size, 27, sh kd rr x y z A n cp)]) (unhide D) ?_
  clear D
  refine list_read (v := .agg (sh kd rr x y z A n cp)) rfl rfl (fun u hS => exec_loadG (g := w.heap.size) (t := 27) (cs := sh kd rr x y z A n cp) hS.g rShape _ rfl rfl (by repeat (first | exact List.mem_cons_self | apply List.mem_cons_of_mem)) rfl) ?_
  try go_simp
  refine list_call (v := .tuple #[.agg (v3 p1 p2 p3), .int .i64 0]) (f := 20) (args := #[.agg (sh kd rr x y z A n cp)]) rfl rfl (fun u hS => by go_simp) (fun u hS => (unhide h0 u hS.g.o).mono fun _ _ ⟨he, hb⟩ => ⟨he, hS.keep hb⟩) ?_
  try go_simp
  refine list_read (v := .tuple #[.agg (v3 p1 p2 p3), .int .i64 0]) rfl rfl (fun u hS => by go_simp) ?_
  try go_simp
  refine list_read (v := .agg (v3 p1 p2 p3)) rfl rfl (fun u hS => by go_simp) ?_
  try go_simp
  refine list_read (v := .int .i64 0) rfl rfl (fun u hS => by go_simp) ?_
  try go_simp
  refine list_new (z := v3 0 0 0) (ty := 24) (v := fun g => .pointer (some ⟨g, 0, none⟩)) rfl rfl (fun u => by go_simp) (fun g1 hgg1 => ?_)
  try go_simp
  refine list_store (l1 := []) (l2 := [(w.heap.size + 1 + 1, 46, ms 0 0 0 0), (w.heap.size + 1, 22, #[.int .i64 m]), (w.heap.size, 27, sh kd rr x y z A n cp)]) (l' := [(g1, 24, v3 p1 p2 p3), (w.heap.size + 1 + 1, 46, ms 0 0 0 0), (w.heap.size + 1, 22, #[.int .i64 m]), (w.heap.size, 27, sh kd rr x y z A n cp)]) (g := g1) (old := v3 0 0 0) (cs := v3 p1 p2 p3) (.tmp 6) (.tmp 12) rfl rfl rfl rfl rfl rfl rVec rfl rfl (v3_one _ _ _) hgg1 ?_
  try go_simp
  refine list_read (v := .int .i64 0) rfl rfl (fun u hS => by go_simp) ?_
  try go_simp
  refine list_end (fun u1 hS => ?_)
  have D := hide hS
  clear hS
  go_upto_region 2 with fail
  refine list_start (S := Gd w [(g1, 24, v3 p1 p2 p3), (w.heap.size + 1 + 1, 46, ms 0 0 0 0), (w.heap.size + 1, 22, #[.int .i64 m]), (w.heap.size, 27, sh kd rr x y z A n cp)]) (unhide D) ?_
  clear D
  refine list_read (v := .int .i64 0) rfl rfl (fun u hS => by go_simp) ?_
  try go_simp
  refine list_read (v := .bool false) rfl rfl (fun u hS => by go_simp) ?_
  try go_simp
  refine list_end (fun u2 hS => ?_)
  have D := hide hS
  clear hS
  go_upto_region 4 with fail
  refine list_start (S := Gd w [(g1, 24, v3 p1 p2 p3), (w.heap.size + 1 + 1, 46, ms 0 0 0 0), (w.heap.size + 1, 22, #[.int .i64 m]), (w.heap.size, 27, sh kd rr x y z A n cp)]) (unhide D) ?_
  clear D
  refine list_read (v := .int .i64 m) rfl rfl (fun u hS => exec_loadN_Fix (g := w.heap.size + 1) (t := 22) (cs := #[.int .i64 m]) hS.g _ rfl rfl (by repeat (first | exact List.mem_cons_self | apply List.mem_cons_of_mem)) rfl) ?_
  try go_simp
  refine list_read (v := .bool true) rfl rfl (fun u hS => exec_lssS _ _ (unhide e0) rfl rfl rfl) ?_
  try go_simp
  refine list_read (v := .bool true) rfl rfl (fun u hS => by go_simp) ?_
  try go_simp
  refine list_skip ?_ ?_ ?_
  · rfl
  · rfl
  try go_simp
  refine list_skip ?_ ?_ ?_
  · rfl
  · rfl
  try go_simp
  refine list_read (v := .bool true) rfl rfl (fun u hS => by go_simp) ?_
  try go_simp
  refine list_end (fun u4 hS => ?_)
  have D := hide hS
  clear hS
  go_upto_region 5 with fail
  refine list_start (S := Gd w [(g1, 24, v3 p1 p2 p3), (w.heap.size + 1 + 1, 46, ms 0 0 0 0), (w.heap.size + 1, 22, #[.int .i64 m]), (w.heap.size, 27, sh kd rr x y z A n cp)]) (unhide D) ?_
  clear D
  refine list_read (v := .agg (ms 0 0 0 0)) rfl rfl (fun u hS => by go_simp) ?_
  try go_simp
  refine list_store (l1 := [(g1, 24, v3 p1 p2 p3)]) (l2 := [(w.heap.size + 1, 22, #[.int .i64 m]), (w.heap.size, 27, sh kd rr x y z A n cp)]) (l' := [(g1, 24, v3 p1 p2 p3), (w.heap.size + 1 + 1, 46, ms 0 0 0 0), (w.heap.size + 1, 22, #[.int .i64 m]), (w.heap.size, 27, sh kd rr x y z A n cp)]) (g := w.heap.size + 1 + 1) (old := ms 0 0 0 0) (cs := ms 0 0 0 0) (.tmp 4) (.tmp 24) rfl rfl rfl rfl rfl rfl rMass rfl rfl (ms_one _ _ _ _) (by omega) ?_
  try go_simp
  refine list_read (v := .int .i64 2) rfl rfl (fun u hS => by go_simp) ?_
  try go_simp
  refine list_end (fun u5 hS => ?_)
  have D := hide hS
  clear hS
  go_wp2
  exact resGT rMass ((unhide D).g.blk (g := w.heap.size + 1 + 1) (t := 46) (cs := ms 0 0 0 0) (by repeat (first | exact List.mem_cons_self | apply List.mem_cons_of_mem))) rfl rfl rfl rfl rfl ⟨rfl, (unhide D).g.o⟩
set_option maxHeartbeats 4000000 in
theorem of_high (kd rr x y z : Int) (A : Option Addr) (n cp : Nat) (m : Int) (p1 p2 p3 : Int) (w : World) (h0 : Hid (∀ u, Below w.heap.size w u → Calls Tryz.prog 20 #[.agg (sh kd rr x y z A n cp)] u fun e w' => e = .returned (.tuple #[.agg (v3 p1 p2 p3), .int .i64 0]) ∧ Below u.heap.size u w')) (e0 : Hid (decide ((m : Int) < 16777216) = false)) (e1 : Hid (decide ((4503599627370496 : Int) < m) = true)) : Calls Tryz.prog 29 #[.agg (sh kd rr x y z A n cp), .int .i64 m] w fun e w' => e = .returned (.tuple #[.agg (ms 0 0 0 0), .int .i64 2]) ∧ Below w.heap.size w w' := by
  go_enter Tryz.func29, Tryz.ntmps29
  go_upto_region 1 with fail
  have D := hide (((((Gd.start w).push 27 (sh kd rr x y z A n cp)).push 22 (#[.int .i64 m])).push 46 (ms 0 0 0 0)))
  simp only [szA] at D
  refine list_start (S := Gd w [(w.heap.size + 1 + 1, 46, ms 0 0 0 0), (w.heap.size + 1, 22, #[.int .i64 m]), (w.heap.size, 27, sh kd rr x y z A n cp)]) (unhide D) ?_
  clear D
  refine list_read (v := .agg (sh kd rr x y z A n cp)) rfl rfl (fun u hS => exec_loadG (g := w.heap.size) (t := 27) (cs := sh kd rr x y z A n cp) hS.g rShape _ rfl rfl (by repeat (first | exact List.mem_cons_self | apply List.mem_cons_of_mem)) rfl) ?_
  try go_simp
  refine list_call (v := .tuple #[.agg (v3 p1 p2 p3), .int .i64 0]) (f := 20) (args := #[.agg (sh kd rr x y z A n cp)]) rfl rfl (fun u hS => by go_simp) (fun u hS => (unhide h0 u hS.g.o).mono fun _ _ ⟨he, hb⟩ => ⟨he, hS.keep hb⟩) ?_
  try go_simp
  refine list_read (v := .tuple #[.agg (v3 p1 p2 p3), .int .i64 0]) rfl rfl (fun u hS => by go_simp) ?_
  try go_simp
  refine list_read (v := .agg (v3 p1 p2 p3)) rfl rfl (fun u hS => by go_simp) ?_
  try go_simp
  refine list_read (v := .int .i64 0) rfl rfl (fun u hS => by go_simp) ?_
  try go_simp
  refine list_new (z := v3 0 0 0) (ty := 24) (v := fun g => .pointer (some ⟨g, 0, none⟩)) rfl rfl (fun u => by go_simp) (fun g1 hgg1 => ?_)
  try go_simp
  refine list_store (l1 := []) (l2 := [(w.heap.size + 1 + 1, 46, ms 0 0 0 0), (w.heap.size + 1, 22, #[.int .i64 m]), (w.heap.size, 27, sh kd rr x y z A n cp)]) (l' := [(g1, 24, v3 p1 p2 p3), (w.heap.size + 1 + 1, 46, ms 0 0 0 0), (w.heap.size + 1, 22, #[.int .i64 m]), (w.heap.size, 27, sh kd rr x y z A n cp)]) (g := g1) (old := v3 0 0 0) (cs := v3 p1 p2 p3) (.tmp 6) (.tmp 12) rfl rfl rfl rfl rfl rfl rVec rfl rfl (v3_one _ _ _) hgg1 ?_
  try go_simp
  refine list_read (v := .int .i64 0) rfl rfl (fun u hS => by go_simp) ?_
  try go_simp
  refine list_end (fun u1 hS => ?_)
  have D := hide hS
  clear hS
  go_upto_region 2 with fail
  refine list_start (S := Gd w [(g1, 24, v3 p1 p2 p3), (w.heap.size + 1 + 1, 46, ms 0 0 0 0), (w.heap.size + 1, 22, #[.int .i64 m]), (w.heap.size, 27, sh kd rr x y z A n cp)]) (unhide D) ?_
  clear D
  refine list_read (v := .int .i64 0) rfl rfl (fun u hS => by go_simp) ?_
  try go_simp
  refine list_read (v := .bool false) rfl rfl (fun u hS => by go_simp) ?_
  try go_simp
  refine list_end (fun u2 hS => ?_)
  have D := hide hS
  clear hS
  go_upto_region 4 with fail
  refine list_start (S := Gd w [(g1, 24, v3 p1 p2 p3), (w.heap.size + 1 + 1, 46, ms 0 0 0 0), (w.heap.size + 1, 22, #[.int .i64 m]), (w.heap.size, 27, sh kd rr x y z A n cp)]) (unhide D) ?_
  clear D
  refine list_read (v := .int .i64 m) rfl rfl (fun u hS => exec_loadN_Fix (g := w.heap.size + 1) (t := 22) (cs := #[.int .i64 m]) hS.g _ rfl rfl (by repeat (first | exact List.mem_cons_self | apply List.mem_cons_of_mem)) rfl) ?_
  try go_simp
  refine list_read (v := .bool false) rfl rfl (fun u hS => exec_lssS _ _ (unhide e0) rfl rfl rfl) ?_
  try go_simp
  refine list_read (v := .bool false) rfl rfl (fun u hS => by go_simp) ?_
  try go_simp
  refine list_read (v := .int .i64 m) rfl rfl (fun u hS => exec_loadN_Fix (g := w.heap.size + 1) (t := 22) (cs := #[.int .i64 m]) hS.g _ rfl rfl (by repeat (first | exact List.mem_cons_self | apply List.mem_cons_of_mem)) rfl) ?_
  try go_simp
  refine list_read (v := .bool true) rfl rfl (fun u hS => exec_gtrS _ _ (unhide e1) rfl rfl rfl) ?_
  try go_simp
  refine list_read (v := .bool true) rfl rfl (fun u hS => by go_simp) ?_
  try go_simp
  refine list_end (fun u4 hS => ?_)
  have D := hide hS
  clear hS
  go_upto_region 5 with fail
  refine list_start (S := Gd w [(g1, 24, v3 p1 p2 p3), (w.heap.size + 1 + 1, 46, ms 0 0 0 0), (w.heap.size + 1, 22, #[.int .i64 m]), (w.heap.size, 27, sh kd rr x y z A n cp)]) (unhide D) ?_
  clear D
  refine list_read (v := .agg (ms 0 0 0 0)) rfl rfl (fun u hS => by go_simp) ?_
  try go_simp
  refine list_store (l1 := [(g1, 24, v3 p1 p2 p3)]) (l2 := [(w.heap.size + 1, 22, #[.int .i64 m]), (w.heap.size, 27, sh kd rr x y z A n cp)]) (l' := [(g1, 24, v3 p1 p2 p3), (w.heap.size + 1 + 1, 46, ms 0 0 0 0), (w.heap.size + 1, 22, #[.int .i64 m]), (w.heap.size, 27, sh kd rr x y z A n cp)]) (g := w.heap.size + 1 + 1) (old := ms 0 0 0 0) (cs := ms 0 0 0 0) (.tmp 4) (.tmp 24) rfl rfl rfl rfl rfl rfl rMass rfl rfl (ms_one _ _ _ _) (by omega) ?_
  try go_simp
  refine list_read (v := .int .i64 2) rfl rfl (fun u hS => by go_simp) ?_
  try go_simp
  refine list_end (fun u5 hS => ?_)
  have D := hide hS
  clear hS
  go_wp2
  exact resGT rMass ((unhide D).g.blk (g := w.heap.size + 1 + 1) (t := 46) (cs := ms 0 0 0 0) (by repeat (first | exact List.mem_cons_self | apply List.mem_cons_of_mem))) rfl rfl rfl rfl rfl ⟨rfl, (unhide D).g.o⟩
set_option maxHeartbeats 4000000 in
theorem of_ok (kd rr x y z : Int) (A : Option Addr) (n cp : Nat) (m : Int) (p1 p2 p3 a1 a2 a3 : Int) (w : World) (h0 : Hid (∀ u, Below w.heap.size w u → Calls Tryz.prog 20 #[.agg (sh kd rr x y z A n cp)] u fun e w' => e = .returned (.tuple #[.agg (v3 p1 p2 p3), .int .i64 0]) ∧ Below u.heap.size u w')) (e0 : Hid (decide ((m : Int) < 16777216) = false)) (e1 : Hid (decide ((4503599627370496 : Int) < m) = false)) (h1 : Hid (∀ u, Blk u (w.heap.size + 1) 22 #[.int .i64 m] → Calls Tryz.prog 51 #[.agg (v3 p1 p2 p3), .func (Fn.func 52) #[] #[.pointer (some ⟨w.heap.size + 1, 0, none⟩)]] u fun e w' => e = .returned (.agg (v3 a1 a2 a3)) ∧ Below u.heap.size u w')) : Calls Tryz.prog 29 #[.agg (sh kd rr x y z A n cp), .int .i64 m] w fun e w' => e = .returned (.tuple #[.agg (ms m a1 a2 a3), .int .i64 0]) ∧ Below w.heap.size w w' := by
  go_enter Tryz.func29, Tryz.ntmps29
  go_upto_region 1 with fail
  have D := hide (((((Gd.start w).push 27 (sh kd rr x y z A n cp)).push 22 (#[.int .i64 m])).push 46 (ms 0 0 0 0)))
  simp only [szA] at D
  refine list_start (S := Gd w [(w.heap.size + 1 + 1, 46, ms 0 0 0 0), (w.heap.size + 1, 22, #[.int .i64 m]), (w.heap.size, 27, sh kd rr x y z A n cp)]) (unhide D) ?_
  clear D
  refine list_read (v := .agg (sh kd rr x y z A n cp)) rfl rfl (fun u hS => exec_loadG (g := w.heap.size) (t := 27) (cs := sh kd rr x y z A n cp) hS.g rShape _ rfl rfl (by repeat (first | exact List.mem_cons_self | apply List.mem_cons_of_mem)) rfl) ?_
  try go_simp
  refine list_call (v := .tuple #[.agg (v3 p1 p2 p3), .int .i64 0]) (f := 20) (args := #[.agg (sh kd rr x y z A n cp)]) rfl rfl (fun u hS => by go_simp) (fun u hS => (unhide h0 u hS.g.o).mono fun _ _ ⟨he, hb⟩ => ⟨he, hS.keep hb⟩) ?_
  try go_simp
  refine list_read (v := .tuple #[.agg (v3 p1 p2 p3), .int .i64 0]) rfl rfl (fun u hS => by go_simp) ?_
  try go_simp
  refine list_read (v := .agg (v3 p1 p2 p3)) rfl rfl (fun u hS => by go_simp) ?_
  try go_simp
  refine list_read (v := .int .i64 0) rfl rfl (fun u hS => by go_simp) ?_
  try go_simp
  refine list_new (z := v3 0 0 0) (ty := 24) (v := fun g => .pointer (some ⟨g, 0, none⟩)) rfl rfl (fun u => by go_simp) (fun g1 hgg1 => ?_)
  try go_simp
  refine list_store (l1 := []) (l2 := [(w.heap.size + 1 + 1, 46, ms 0 0 0 0), (w.heap.size + 1, 22, #[.int .i64 m]), (w.heap.size, 27, sh kd rr x y z A n cp)]) (l' := [(g1, 24, v3 p1 p2 p3), (w.heap.size + 1 + 1, 46, ms 0 0 0 0), (w.heap.size + 1, 22, #[.int .i64 m]), (w.heap.size, 27, sh kd rr x y z A n cp)]) (g := g1) (old := v3 0 0 0) (cs := v3 p1 p2 p3) (.tmp 6) (.tmp 12) rfl rfl rfl rfl rfl rfl rVec rfl rfl (v3_one _ _ _) hgg1 ?_
  try go_simp
  refine list_read (v := .int .i64 0) rfl rfl (fun u hS => by go_simp) ?_
  try go_simp
  refine list_end (fun u1 hS => ?_)
  have D := hide hS
  clear hS
  go_upto_region 2 with fail
  refine list_start (S := Gd w [(g1, 24, v3 p1 p2 p3), (w.heap.size + 1 + 1, 46, ms 0 0 0 0), (w.heap.size + 1, 22, #[.int .i64 m]), (w.heap.size, 27, sh kd rr x y z A n cp)]) (unhide D) ?_
  clear D
  refine list_read (v := .int .i64 0) rfl rfl (fun u hS => by go_simp) ?_
  try go_simp
  refine list_read (v := .bool false) rfl rfl (fun u hS => by go_simp) ?_
  try go_simp
  refine list_end (fun u2 hS => ?_)
  have D := hide hS
  clear hS
  go_upto_region 4 with fail
  refine list_start (S := Gd w [(g1, 24, v3 p1 p2 p3), (w.heap.size + 1 + 1, 46, ms 0 0 0 0), (w.heap.size + 1, 22, #[.int .i64 m]), (w.heap.size, 27, sh kd rr x y z A n cp)]) (unhide D) ?_
  clear D
  refine list_read (v := .int .i64 m) rfl rfl (fun u hS => exec_loadN_Fix (g := w.heap.size + 1) (t := 22) (cs := #[.int .i64 m]) hS.g _ rfl rfl (by repeat (first | exact List.mem_cons_self | apply List.mem_cons_of_mem)) rfl) ?_
  try go_simp
  refine list_read (v := .bool false) rfl rfl (fun u hS => exec_lssS _ _ (unhide e0) rfl rfl rfl) ?_
  try go_simp
  refine list_read (v := .bool false) rfl rfl (fun u hS => by go_simp) ?_
  try go_simp
  refine list_read (v := .int .i64 m) rfl rfl (fun u hS => exec_loadN_Fix (g := w.heap.size + 1) (t := 22) (cs := #[.int .i64 m]) hS.g _ rfl rfl (by repeat (first | exact List.mem_cons_self | apply List.mem_cons_of_mem)) rfl) ?_
  try go_simp
  refine list_read (v := .bool false) rfl rfl (fun u hS => exec_gtrS _ _ (unhide e1) rfl rfl rfl) ?_
  try go_simp
  refine list_read (v := .bool false) rfl rfl (fun u hS => by go_simp) ?_
  try go_simp
  refine list_end (fun u4 hS => ?_)
  have D := hide hS
  clear hS
  go_upto_region 6 with fail
  refine list_start (S := Gd w [(g1, 24, v3 p1 p2 p3), (w.heap.size + 1 + 1, 46, ms 0 0 0 0), (w.heap.size + 1, 22, #[.int .i64 m]), (w.heap.size, 27, sh kd rr x y z A n cp)]) (unhide D) ?_
  clear D
  refine list_read (v := .agg (v3 p1 p2 p3)) rfl rfl (fun u hS => exec_loadG (g := g1) (t := 24) (cs := v3 p1 p2 p3) hS.g rVec _ rfl rfl (by repeat (first | exact List.mem_cons_self | apply List.mem_cons_of_mem)) rfl) ?_
  try go_simp
  refine list_read (v := .func (Fn.func 52) #[] #[.pointer (some ⟨w.heap.size + 1, 0, none⟩)]) rfl rfl (fun u hS => by go_simp) ?_
  try go_simp
  refine list_call (v := .agg (v3 a1 a2 a3)) (f := 51) (args := #[.agg (v3 p1 p2 p3), .func (Fn.func 52) #[] #[.pointer (some ⟨w.heap.size + 1, 0, none⟩)]]) rfl rfl (fun u hS => by go_simp) (fun u hS => (unhide h1 u (hS.g.blk (g := w.heap.size + 1) (t := 22) (cs := #[.int .i64 m]) (by repeat (first | exact List.mem_cons_self | apply List.mem_cons_of_mem)))).mono fun _ _ ⟨he, hb⟩ => ⟨he, hS.keep hb⟩) ?_
  try go_simp
  refine list_new (z := v3 0 0 0) (ty := 24) (v := fun g => .pointer (some ⟨g, 0, none⟩)) rfl rfl (fun u => by go_simp) (fun g2 hgg2 => ?_)
  try go_simp
  refine list_store (l1 := []) (l2 := [(g1, 24, v3 p1 p2 p3), (w.heap.size + 1 + 1, 46, ms 0 0 0 0), (w.heap.size + 1, 22, #[.int .i64 m]), (w.heap.size, 27, sh kd rr x y z A n cp)]) (l' := [(g2, 24, v3 a1 a2 a3), (g1, 24, v3 p1 p2 p3), (w.heap.size + 1 + 1, 46, ms 0 0 0 0), (w.heap.size + 1, 22, #[.int .i64 m]), (w.heap.size, 27, sh kd rr x y z A n cp)]) (g := g2) (old := v3 0 0 0) (cs := v3 a1 a2 a3) (.tmp 8) (.tmp 27) rfl rfl rfl rfl rfl rfl rVec rfl rfl (v3_one _ _ _) hgg2 ?_
  try go_simp
  refine list_end (fun u6 hS => ?_)
  have D := hide hS
  clear hS
  go_upto_region 7 with fail
  refine list_start (S := Gd w [(g2, 24, v3 a1 a2 a3), (g1, 24, v3 p1 p2 p3), (w.heap.size + 1 + 1, 46, ms 0 0 0 0), (w.heap.size + 1, 22, #[.int .i64 m]), (w.heap.size, 27, sh kd rr x y z A n cp)]) (unhide D) ?_
  clear D
  refine list_read (v := .int .i64 m) rfl rfl (fun u hS => exec_loadN_Fix (g := w.heap.size + 1) (t := 22) (cs := #[.int .i64 m]) hS.g _ rfl rfl (by repeat (first | exact List.mem_cons_self | apply List.mem_cons_of_mem)) rfl) ?_
  try go_simp
  refine list_read (v := .agg (v3 a1 a2 a3)) rfl rfl (fun u hS => exec_loadG (g := g2) (t := 24) (cs := v3 a1 a2 a3) hS.g rVec _ rfl rfl (by repeat (first | exact List.mem_cons_self | apply List.mem_cons_of_mem)) rfl) ?_
  try go_simp
  refine list_read (v := .agg (ms m a1 a2 a3)) rfl rfl (fun u hS => by go_simp) ?_
  try go_simp
  refine list_store (l1 := [(g2, 24, v3 a1 a2 a3), (g1, 24, v3 p1 p2 p3)]) (l2 := [(w.heap.size + 1, 22, #[.int .i64 m]), (w.heap.size, 27, sh kd rr x y z A n cp)]) (l' := [(g2, 24, v3 a1 a2 a3), (g1, 24, v3 p1 p2 p3), (w.heap.size + 1 + 1, 46, ms m a1 a2 a3), (w.heap.size + 1, 22, #[.int .i64 m]), (w.heap.size, 27, sh kd rr x y z A n cp)]) (g := w.heap.size + 1 + 1) (old := ms 0 0 0 0) (cs := ms m a1 a2 a3) (.tmp 4) (.tmp 30) rfl rfl rfl rfl rfl rfl rMass rfl rfl (ms_one _ _ _ _) (by omega) ?_
  try go_simp
  refine list_read (v := .int .i64 0) rfl rfl (fun u hS => by go_simp) ?_
  try go_simp
  refine list_end (fun u7 hS => ?_)
  have D := hide hS
  clear hS
  go_wp2
  exact resGT rMass ((unhide D).g.blk (g := w.heap.size + 1 + 1) (t := 46) (cs := ms m a1 a2 a3) (by repeat (first | exact List.mem_cons_self | apply List.mem_cons_of_mem))) rfl rfl rfl rfl rfl ⟨rfl, (unhide D).g.o⟩
theorem EachOf (x y z m : Int) (g : Nat) (u : World) (hB : Blk u g 22 #[.int .i64 m]) (hm : I64 m) (hx : I64 x) (hy : I64 y) (hz : I64 z) : Calls Tryz.prog 51 #[.agg (v3 x y z), .func (Fn.func 52) #[] #[.pointer (some ⟨g, 0, none⟩)]] u fun e w' => e = .returned (.agg (v3 (moI m y z) (moI m z x) (moI m x y))) ∧ Below u.heap.size u w' :=
  each_Of10 x y z _ _ _ g u (fun v hv => of1_core x y z m _ g v (hB.below hv hB.lt) (MomentZ m y z hm hy hz)) (fun v hv => of1_core y z x m _ g v (hB.below hv hB.lt) (MomentZ m z x hm hz hx)) (fun v hv => of1_core z x y m _ g v (hB.below hv hB.lt) (MomentZ m x y hm hx hy))

end Go.Proofs.YtnemedgdhojhdaaGreat
