/- The document's layer 4: between, Between; the law MatBetween. For every matrix r and every vector d (int64 numbers) the law MatBetween returns true, and its arguments read behind the call as they did before. No condition. -/
import Derived.Test.YtcbepibdeokboaaNp
import Derived.Test.YtcbepibdeokboaaNz
namespace Go.Proofs.Ytcbepibdeokboaa
open Go.RowKit
set_option maxRecDepth 4000
set_option linter.unusedVariables false

theorem share3b {G H : Nat → Nat → World → Prop} {R : Prop} (main : (∀ c d u, H c d u → G c d u) → R) (rest : ∀ c d u, H c d u → G c d u) : R := main rest
theorem Gen.three3 {u w0 : World} {g0 g1 g2 : Nat} {t0 t1 t2 : TypeId} {c0 c1 c2 : Array Value} (h0 : Blk u g0 t0 c0) (h1 : Blk u g1 t1 c1) (h2 : Blk u g2 t2 c2) (o : Below w0.heap.size w0 u) : Gen w0 [(g0, t0, c0), (g1, t1, c1), (g2, t2, c2)] u := by
  refine ⟨fun p hp => ?_, o⟩
  simp only [List.mem_cons, List.not_mem_nil, or_false] at hp
  rcases hp with rfl | rfl | rfl
  · exact h0
  · exact h1
  · exact h2
set_option maxHeartbeats 8000000 in
theorem rbetween_core (X : Nat → Int) (x y z v : Int) (i k : Nat) (hi : i < 3) (hk : k < 3) (P0 P1 P2 S0 S1 : Nat) (w : World) (h0 : Hid (Ans 69 #[.int .i64 (X (i * 3)), .int .i64 x, .int .i64 (X (k * 3))] (.agg (cells8 P0)))) (h1 : Hid (Ans 69 #[.int .i64 (X (i * 3 + 1)), .int .i64 y, .int .i64 (X (k * 3 + 1))] (.agg (cells8 P1)))) (h2 : Hid (Ans 69 #[.int .i64 (X (i * 3 + 2)), .int .i64 z, .int .i64 (X (k * 3 + 2))] (.agg (cells8 P2)))) (p0 : Hid (Ans 68 #[.agg (cells8 P0), .agg (cells8 P1)] (.agg (cells8 S0)))) (p1 : Hid (Ans 68 #[.agg (cells8 S0), .agg (cells8 P2)] (.agg (cells8 S1))))
    (hI : Hid (Ans 37 #[.agg (cells8 S1), .int .i64 96] (.int .i64 v))) :
    Calls Try.prog 43 #[.agg (m9 X), .agg (v3 x y z), .int .i64 i, .int .i64 k] w fun e w' => e = .returned (.int .i64 v) ∧ Below w.heap.size w w' := by
  go_enter Try.func43, Try.ntmps43
  go_upto_region 1 with fail
  have D := hide (((Gen.start w).push 27 (m9 X)).push 24 (v3 x y z))
  simp only [szA] at D
  generalize hw3 : (w.alloc (.cells (m9 X) 27)).alloc (.cells (v3 x y z) 24) = w3 at D ⊢
  clear hw3
  generalize hgm : w.heap.size + 1 = gv at D ⊢
  have hgv : w.heap.size ≤ gv := by omega
  have hne : w.heap.size ≠ gv := by omega
  clear hgm
  have hlt := hide (fun (p : Nat × TypeId × Array Value) hp => ((unhide D).at_ p hp).lt)
  have hw0 := hide (unhide D).o.size
  apply share3b (H := fun c0 c1 u => Hid (Gen w [(gv, 24, v3 x y z), (c0, 24, v3 (X (i * 3)) (X (i * 3 + 1)) (X (i * 3 + 2))), (c1, 24, v3 (X (k * 3)) (X (k * 3 + 1)) (X (k * 3 + 2)))] u))
  · intro rest
    have D0 := (unhide D).drew
    have l3 : gv < w3.heap.size := unhide hlt (gv, 24, v3 x y z) (by repeat (first | exact List.mem_cons_self | apply List.mem_cons_of_mem))
    have l5 : w.heap.size < w3.heap.size := unhide hlt (w.heap.size, 27, m9 X) (by repeat (first | exact List.mem_cons_self | apply List.mem_cons_of_mem))
    refine region_famT (S := Gen w [(gv, 24, v3 x y z), (w.heap.size, 27, m9 X)]) (F := [[0, 1, 2, 3, 4, 5, 6, 7, 8, 9, 10, 11], [0, 1, 2, 3, 4, 5, 6, 7, 9, 8, 10, 11]]) (t := [8, 9, 10, 11]) (by kernel_rfl) (by kernel_rfl) (by kernel_rfl) (by kernel_rfl) (by kernel_rfl) ?_ D0 ?_
    · intro j o a w hj ho
      have hj' : j = 8 ∨ j = 9 ∨ j = 10 ∨ j = 11 := by simpa using hj
      rcases hj' with rfl | rfl | rfl | rfl
      · cases ho; exact ne_alloc rfl a w
      · cases ho; exact ne_alloc rfl a w
      · cases ho; exact ne_store rfl a w
      · cases ho; exact ne_store rfl a w
    have E1 := D0.push 24 (v3 0 0 0)
    have E2 := E1.push 24 (v3 0 0 0)
    simp only [szA] at E2
    have b0 := E2.blk (g := w3.drew.heap.size) (t := 24) (cs := v3 0 0 0) (by repeat (first | exact List.mem_cons_self | apply List.mem_cons_of_mem))
    have b1 := E2.blk (g := w3.drew.heap.size + 1) (t := 24) (cs := v3 0 0 0) (by repeat (first | exact List.mem_cons_self | apply List.mem_cons_of_mem))
    intro l hl
    rcases List.mem_cons.1 hl with rfl | hl
    · refine walk_read (v := .int .i64 i) rfl rfl rfl (fun u hS => by go_simp) ?_
      try go_simp
      refine walk_read (v := ?_) rfl rfl rfl (fun u hS => by go_simp; rfl) ?_
      try go_simp
      refine walk_read (v := .pointer (some ⟨w.heap.size, i * 3, none⟩)) rfl rfl rfl (fun u hS => exec_ix3 (k := i) u (.tmp 12) (.tmp 11) hi rfl rfl rfl) ?_
      try go_simp
      refine walk_read (v := .agg (v3 (X (i * 3)) (X (i * 3 + 1)) (X (i * 3 + 2)))) rfl rfl rfl (fun u hS => exec_ldRow (k := i) (.tmp 13) rfl rfl (hS.blk (g := w.heap.size) (t := 27) (cs := m9 X) (by repeat (first | exact List.mem_cons_self | apply List.mem_cons_of_mem))) hi) ?_
      try go_simp
      refine walk_read (v := .int .i64 k) rfl rfl rfl (fun u hS => by go_simp) ?_
      try go_simp
      refine walk_read (v := ?_) rfl rfl rfl (fun u hS => by go_simp; rfl) ?_
      try go_simp
      refine walk_read (v := .pointer (some ⟨w.heap.size, k * 3, none⟩)) rfl rfl rfl (fun u hS => exec_ix3 (k := k) u (.tmp 16) (.tmp 15) hk rfl rfl rfl) ?_
      try go_simp
      refine walk_read (v := .agg (v3 (X (k * 3)) (X (k * 3 + 1)) (X (k * 3 + 2)))) rfl rfl rfl (fun u hS => exec_ldRow (k := k) (.tmp 17) rfl rfl (hS.blk (g := w.heap.size) (t := 27) (cs := m9 X) (by repeat (first | exact List.mem_cons_self | apply List.mem_cons_of_mem))) hk) ?_
      try go_simp
      refine walk_turn (v := ptr (w3.drew.heap.size)) (w' := (w3.drew.alloc (.cells (v3 0 0 0) 24))) rfl rfl rfl (by go_simp) E1.tail ?_
      try go_simp
      refine walk_turn (v := ptr (w3.drew.heap.size + 1)) (w' := ((w3.drew.alloc (.cells (v3 0 0 0) 24)).alloc (.cells (v3 0 0 0) 24))) rfl rfl rfl (by go_simp) E2.tail.tail ?_
      try go_simp
      have x0 := (E2.tail.tail).rowIn (g := w3.drew.heap.size) (fun p hp => by simp only [List.mem_cons, List.not_mem_nil, or_false] at hp; rcases hp with rfl | rfl; exact Nat.ne_of_lt (show gv < _ by simp only [szD]; omega); exact Nat.ne_of_lt (show w.heap.size < _ by simp only [szD]; omega)) (by simp only [szD]; omega) (v3 (X (i * 3)) (X (i * 3 + 1)) (X (i * 3 + 2)))
      have y0 := b0
      refine walk_storeQ rfl rfl rfl (exec_store3 (.tmp 9) (.tmp 14) y0 rfl rfl rfl) x0 ?_
      go_simp
      have x1 := (x0).rowIn (g := w3.drew.heap.size + 1) (fun p hp => by simp only [List.mem_cons, List.not_mem_nil, or_false] at hp; rcases hp with rfl | rfl; exact Nat.ne_of_lt (show gv < _ by simp only [szD]; omega); exact Nat.ne_of_lt (show w.heap.size < _ by simp only [szD]; omega)) (by simp only [szD]; omega) (v3 (X (k * 3)) (X (k * 3 + 1)) (X (k * 3 + 2)))
      have y1 := (b1.rowOther (k := w3.drew.heap.size) (v3 (X (i * 3)) (X (i * 3 + 1)) (X (i * 3 + 2))) (by omega))
      refine walk_storeQ rfl rfl rfl (exec_store3 (.tmp 10) (.tmp 18) y1 rfl rfl rfl) x1 ?_
      go_simp
      refine walk_end ?_
      have F : Hid (Gen w [(gv, 24, v3 x y z), (w3.heap.size, 24, v3 (X (i * 3)) (X (i * 3 + 1)) (X (i * 3 + 2))), (w3.heap.size + 1, 24, v3 (X (k * 3)) (X (k * 3 + 1)) (X (k * 3 + 2)))] ((((w3.alloc (.cells (v3 0 0 0) 24)).alloc (.cells (v3 0 0 0) 24)).drew.setRow w3.heap.size (v3 (X (i * 3)) (X (i * 3 + 1)) (X (i * 3 + 2)))).setRow (w3.heap.size + 1) (v3 (X (k * 3)) (X (k * 3 + 1)) (X (k * 3 + 2))))) := hide (Gen.three3 (x1.blk (g := gv) (t := 24) (cs := v3 x y z) (by repeat (first | exact List.mem_cons_self | apply List.mem_cons_of_mem))) ((y0.row (v3 (X (i * 3)) (X (i * 3 + 1)) (X (i * 3 + 2)))).rowOther (k := w3.drew.heap.size + 1) (v3 (X (k * 3)) (X (k * 3 + 1)) (X (k * 3 + 2))) (by omega)) (y1.row (v3 (X (k * 3)) (X (k * 3 + 1)) (X (k * 3 + 2)))) x1.o)
      clear E1 E2 b0 b1 x0 x1 y0 y1
      generalize ((((w3.alloc (.cells (v3 0 0 0) 24)).alloc (.cells (v3 0 0 0) 24)).drew.setRow w3.heap.size (v3 (X (i * 3)) (X (i * 3 + 1)) (X (i * 3 + 2)))).setRow (w3.heap.size + 1) (v3 (X (k * 3)) (X (k * 3 + 1)) (X (k * 3 + 2)))) = u1 at F ⊢
      generalize w3.heap.size + 1 = c1 at F ⊢
      generalize w3.heap.size = c0 at F ⊢
      exact rest c0 c1 u1 F
    rcases List.mem_cons.1 hl with rfl | hl
    · refine walk_read (v := .int .i64 i) rfl rfl rfl (fun u hS => by go_simp) ?_
      try go_simp
      refine walk_read (v := ?_) rfl rfl rfl (fun u hS => by go_simp; rfl) ?_
      try go_simp
      refine walk_read (v := .pointer (some ⟨w.heap.size, i * 3, none⟩)) rfl rfl rfl (fun u hS => exec_ix3 (k := i) u (.tmp 12) (.tmp 11) hi rfl rfl rfl) ?_
      try go_simp
      refine walk_read (v := .agg (v3 (X (i * 3)) (X (i * 3 + 1)) (X (i * 3 + 2)))) rfl rfl rfl (fun u hS => exec_ldRow (k := i) (.tmp 13) rfl rfl (hS.blk (g := w.heap.size) (t := 27) (cs := m9 X) (by repeat (first | exact List.mem_cons_self | apply List.mem_cons_of_mem))) hi) ?_
      try go_simp
      refine walk_read (v := .int .i64 k) rfl rfl rfl (fun u hS => by go_simp) ?_
      try go_simp
      refine walk_read (v := ?_) rfl rfl rfl (fun u hS => by go_simp; rfl) ?_
      try go_simp
      refine walk_read (v := .pointer (some ⟨w.heap.size, k * 3, none⟩)) rfl rfl rfl (fun u hS => exec_ix3 (k := k) u (.tmp 16) (.tmp 15) hk rfl rfl rfl) ?_
      try go_simp
      refine walk_read (v := .agg (v3 (X (k * 3)) (X (k * 3 + 1)) (X (k * 3 + 2)))) rfl rfl rfl (fun u hS => exec_ldRow (k := k) (.tmp 17) rfl rfl (hS.blk (g := w.heap.size) (t := 27) (cs := m9 X) (by repeat (first | exact List.mem_cons_self | apply List.mem_cons_of_mem))) hk) ?_
      try go_simp
      refine walk_turn (v := ptr (w3.drew.heap.size)) (w' := (w3.drew.alloc (.cells (v3 0 0 0) 24))) rfl rfl rfl (by go_simp) E1.tail ?_
      try go_simp
      refine walk_turn (v := ptr (w3.drew.heap.size + 1)) (w' := ((w3.drew.alloc (.cells (v3 0 0 0) 24)).alloc (.cells (v3 0 0 0) 24))) rfl rfl rfl (by go_simp) E2.tail.tail ?_
      try go_simp
      have x0 := (E2.tail.tail).rowIn (g := w3.drew.heap.size + 1) (fun p hp => by simp only [List.mem_cons, List.not_mem_nil, or_false] at hp; rcases hp with rfl | rfl; exact Nat.ne_of_lt (show gv < _ by simp only [szD]; omega); exact Nat.ne_of_lt (show w.heap.size < _ by simp only [szD]; omega)) (by simp only [szD]; omega) (v3 (X (i * 3)) (X (i * 3 + 1)) (X (i * 3 + 2)))
      have y0 := b1
      refine walk_storeQ rfl rfl rfl (exec_store3 (.tmp 9) (.tmp 14) y0 rfl rfl rfl) x0 ?_
      go_simp
      have x1 := (x0).rowIn (g := w3.drew.heap.size) (fun p hp => by simp only [List.mem_cons, List.not_mem_nil, or_false] at hp; rcases hp with rfl | rfl; exact Nat.ne_of_lt (show gv < _ by simp only [szD]; omega); exact Nat.ne_of_lt (show w.heap.size < _ by simp only [szD]; omega)) (by simp only [szD]; omega) (v3 (X (k * 3)) (X (k * 3 + 1)) (X (k * 3 + 2)))
      have y1 := (b0.rowOther (k := w3.drew.heap.size + 1) (v3 (X (i * 3)) (X (i * 3 + 1)) (X (i * 3 + 2))) (by omega))
      refine walk_storeQ rfl rfl rfl (exec_store3 (.tmp 10) (.tmp 18) y1 rfl rfl rfl) x1 ?_
      go_simp
      refine walk_end ?_
      have F : Hid (Gen w [(gv, 24, v3 x y z), (w3.heap.size + 1, 24, v3 (X (i * 3)) (X (i * 3 + 1)) (X (i * 3 + 2))), (w3.heap.size, 24, v3 (X (k * 3)) (X (k * 3 + 1)) (X (k * 3 + 2)))] ((((w3.alloc (.cells (v3 0 0 0) 24)).alloc (.cells (v3 0 0 0) 24)).drew.setRow (w3.heap.size + 1) (v3 (X (i * 3)) (X (i * 3 + 1)) (X (i * 3 + 2)))).setRow w3.heap.size (v3 (X (k * 3)) (X (k * 3 + 1)) (X (k * 3 + 2))))) := hide (Gen.three3 (x1.blk (g := gv) (t := 24) (cs := v3 x y z) (by repeat (first | exact List.mem_cons_self | apply List.mem_cons_of_mem))) ((y0.row (v3 (X (i * 3)) (X (i * 3 + 1)) (X (i * 3 + 2)))).rowOther (k := w3.drew.heap.size) (v3 (X (k * 3)) (X (k * 3 + 1)) (X (k * 3 + 2))) (by omega)) (y1.row (v3 (X (k * 3)) (X (k * 3 + 1)) (X (k * 3 + 2)))) x1.o)
      clear E1 E2 b0 b1 x0 x1 y0 y1
      generalize ((((w3.alloc (.cells (v3 0 0 0) 24)).alloc (.cells (v3 0 0 0) 24)).drew.setRow (w3.heap.size + 1) (v3 (X (i * 3)) (X (i * 3 + 1)) (X (i * 3 + 2)))).setRow w3.heap.size (v3 (X (k * 3)) (X (k * 3 + 1)) (X (k * 3 + 2)))) = u1 at F ⊢
      generalize w3.heap.size + 1 = c0 at F ⊢
      generalize w3.heap.size = c1 at F ⊢
      exact rest c0 c1 u1 F
    · cases hl
  intro c0 c1 u1 G
  clear D hlt hw0
  have D := G
  clear G
  go_upto_region 2 with fail
  refine region_plan (S := Gen w _) (l := [0, 1, 2, 3, 4, 5, 6, 7, 8, 9, 10, 11, 12, 13, 14, 15, 16, 17, 18, 19, 20, 21, 22, 23, 24]) (by kernel_rfl) (by kernel_rfl) (by kernel_rfl) (by kernel_rfl) (by kernel_rfl) (by kernel_rfl) (by kernel_rfl) (unhide D).drew ?_
  clear D
  refine plan_read (v := .pointer (some ⟨c0, 0, none⟩)) rfl rfl (fun u hS => by go_simp) ?_
  try go_simp
  refine plan_read (v := .int .i64 (X (i * 3))) rfl rfl (fun u hS => exec_loadFG (g := c0) (cs := v3 (X (i * 3)) (X (i * 3 + 1)) (X (i * 3 + 2))) hS _ rfl rfl (by repeat (first | exact List.mem_cons_self | apply List.mem_cons_of_mem)) rfl) ?_
  try go_simp
  refine plan_read (v := .pointer (some ⟨gv, 0, none⟩)) rfl rfl (fun u hS => by go_simp) ?_
  try go_simp
  refine plan_read (v := .int .i64 x) rfl rfl (fun u hS => exec_loadFG (g := gv) (cs := v3 x y z) hS _ rfl rfl (by repeat (first | exact List.mem_cons_self | apply List.mem_cons_of_mem)) rfl) ?_
  try go_simp
  refine plan_read (v := .pointer (some ⟨c1, 0, none⟩)) rfl rfl (fun u hS => by go_simp) ?_
  try go_simp
  refine plan_read (v := .int .i64 (X (k * 3))) rfl rfl (fun u hS => exec_loadFG (g := c1) (cs := v3 (X (k * 3)) (X (k * 3 + 1)) (X (k * 3 + 2))) hS _ rfl rfl (by repeat (first | exact List.mem_cons_self | apply List.mem_cons_of_mem)) rfl) ?_
  try go_simp
  refine plan_call (v := .agg (cells8 P0)) (f := 69) (args := #[.int .i64 (X (i * 3)), .int .i64 x, .int .i64 (X (k * 3))]) rfl rfl (fun u hS => by go_simp) (fun u hS => (unhide h0 u).mono fun _ _ ⟨he, hb⟩ => ⟨he, hS.keep hb⟩) ?_
  try go_simp
  refine plan_read (v := .pointer (some ⟨c0, 1, none⟩)) rfl rfl (fun u hS => by go_simp) ?_
  try go_simp
  refine plan_read (v := .int .i64 (X (i * 3 + 1))) rfl rfl (fun u hS => exec_loadFG (g := c0) (cs := v3 (X (i * 3)) (X (i * 3 + 1)) (X (i * 3 + 2))) hS _ rfl rfl (by repeat (first | exact List.mem_cons_self | apply List.mem_cons_of_mem)) rfl) ?_
  try go_simp
  refine plan_read (v := .pointer (some ⟨gv, 1, none⟩)) rfl rfl (fun u hS => by go_simp) ?_
  try go_simp
  refine plan_read (v := .int .i64 y) rfl rfl (fun u hS => exec_loadFG (g := gv) (cs := v3 x y z) hS _ rfl rfl (by repeat (first | exact List.mem_cons_self | apply List.mem_cons_of_mem)) rfl) ?_
  try go_simp
  refine plan_read (v := .pointer (some ⟨c1, 1, none⟩)) rfl rfl (fun u hS => by go_simp) ?_
  try go_simp
  refine plan_read (v := .int .i64 (X (k * 3 + 1))) rfl rfl (fun u hS => exec_loadFG (g := c1) (cs := v3 (X (k * 3)) (X (k * 3 + 1)) (X (k * 3 + 2))) hS _ rfl rfl (by repeat (first | exact List.mem_cons_self | apply List.mem_cons_of_mem)) rfl) ?_
  try go_simp
  refine plan_call (v := .agg (cells8 P1)) (f := 69) (args := #[.int .i64 (X (i * 3 + 1)), .int .i64 y, .int .i64 (X (k * 3 + 1))]) rfl rfl (fun u hS => by go_simp) (fun u hS => (unhide h1 u).mono fun _ _ ⟨he, hb⟩ => ⟨he, hS.keep hb⟩) ?_
  try go_simp
  refine plan_call (v := .agg (cells8 S0)) (f := 68) (args := #[.agg (cells8 P0), .agg (cells8 P1)]) rfl rfl (fun u hS => by go_simp) (fun u hS => (unhide p0 u).mono fun _ _ ⟨he, hb⟩ => ⟨he, hS.keep hb⟩) ?_
  try go_simp
  refine plan_read (v := .pointer (some ⟨c0, 2, none⟩)) rfl rfl (fun u hS => by go_simp) ?_
  try go_simp
  refine plan_read (v := .int .i64 (X (i * 3 + 2))) rfl rfl (fun u hS => exec_loadFG (g := c0) (cs := v3 (X (i * 3)) (X (i * 3 + 1)) (X (i * 3 + 2))) hS _ rfl rfl (by repeat (first | exact List.mem_cons_self | apply List.mem_cons_of_mem)) rfl) ?_
  try go_simp
  refine plan_read (v := .pointer (some ⟨gv, 2, none⟩)) rfl rfl (fun u hS => by go_simp) ?_
  try go_simp
  refine plan_read (v := .int .i64 z) rfl rfl (fun u hS => exec_loadFG (g := gv) (cs := v3 x y z) hS _ rfl rfl (by repeat (first | exact List.mem_cons_self | apply List.mem_cons_of_mem)) rfl) ?_
  try go_simp
  refine plan_read (v := .pointer (some ⟨c1, 2, none⟩)) rfl rfl (fun u hS => by go_simp) ?_
  try go_simp
  refine plan_read (v := .int .i64 (X (k * 3 + 2))) rfl rfl (fun u hS => exec_loadFG (g := c1) (cs := v3 (X (k * 3)) (X (k * 3 + 1)) (X (k * 3 + 2))) hS _ rfl rfl (by repeat (first | exact List.mem_cons_self | apply List.mem_cons_of_mem)) rfl) ?_
  try go_simp
  refine plan_call (v := .agg (cells8 P2)) (f := 69) (args := #[.int .i64 (X (i * 3 + 2)), .int .i64 z, .int .i64 (X (k * 3 + 2))]) rfl rfl (fun u hS => by go_simp) (fun u hS => (unhide h2 u).mono fun _ _ ⟨he, hb⟩ => ⟨he, hS.keep hb⟩) ?_
  try go_simp
  refine plan_call (v := .agg (cells8 S1)) (f := 68) (args := #[.agg (cells8 S0), .agg (cells8 P2)]) rfl rfl (fun u hS => by go_simp) (fun u hS => (unhide p1 u).mono fun _ _ ⟨he, hb⟩ => ⟨he, hS.keep hb⟩) ?_
  try go_simp
  refine plan_call (v := .int .i64 v) (f := 37) (args := #[.agg (cells8 S1), .int .i64 96]) rfl rfl (fun u hS => by go_simp) (fun u hS => (unhide hI u).mono fun _ _ ⟨he, hb⟩ => ⟨he, hS.keep hb⟩) ?_
  try go_simp
  refine plan_read (v := .int .i64 v) rfl rfl (fun u hS => by go_simp) ?_
  try go_simp
  refine plan_end (fun u hS => ?_)
  have O := hide hS.o
  clear hS
  go_wp2
  go_ret
  exact ⟨rfl, unhide O⟩
theorem RBetweenN {X : Nat → Int} (hX : ∀ j, I64 (X j)) {x y z : Int} (hx : I64 x) (hy : I64 y) (hz : I64 z) (i k : Nat) (hi : i < 3) (hk : k < 3) : Ans 43 #[.agg (m9 X), .agg (v3 x y z), .int .i64 i, .int .i64 k] (.int .i64 (beI X x y z (i * 3 + k))) := fun w => by
  have e1 : (i * 3 + k) / 3 = i := by omega
  have e2 : (i * 3 + k) % 3 = k := by omega
  have s1 := ((hX (i * 3)).sz.mul hx.sz).mul (hX (k * 3)).sz
  have s2 := ((hX (i * 3 + 1)).sz.mul hy.sz).mul (hX (k * 3 + 1)).sz
  have s3 := ((hX (i * 3 + 2)).sz.mul hz.sz).mul (hX (k * 3 + 2)).sz
  have t := InR (X (i * 3) * x * X (k * 3) + X (i * 3 + 1) * y * X (k * 3 + 1) + X (i * 3 + 2) * z * X (k * 3 + 2)) 96 (((s1.add s2).add (s3.mono (by decide))).fit (by decide)) ⟨by decide, by decide⟩
  rw [inI_96] at t
  unfold beI
  rw [e1, e2]
  exact rbetween_core X x y z _ i k hi hk _ _ _ _ _ w (Three4 _ _ _ (hX _) hx (hX _)) (Three4 _ _ _ (hX _) hy (hX _)) (Three4 _ _ _ (hX _) hz (hX _)) (Plus3 s1 s2 (by decide)) (Plus3 (s1.add s2) (s3.mono (by decide)) (by decide)) t
set_option maxHeartbeats 8000000 in
theorem rbetweenM_core (X f : Nat → Int) (x y z : Int) (w : World) (hF : Hid (∀ i : Nat, i < 3 → ∀ k : Nat, k < 3 → Ans 43 #[.agg (m9 X), .agg (v3 x y z), .int .i64 i, .int .i64 k] (.int .i64 (f (i * 3 + k))))) :
    Calls Try.prog 21 #[.agg (m9 X), .agg (v3 x y z)] w fun e w' => e = .returned (.agg (m9 (rows9 f 3))) ∧ Below w.heap.size w w' := by
  go_enter Try.func21, Try.ntmps21
  go_upto_region 1 with fail
  have D := hide (((((Gen.start w).push 27 (m9 X)).push 24 (v3 x y z)).push 27 zM).push 27 zM)
  simp only [szA] at D
  go_upto_region 2 with fail
  generalize hw3 : ((((w.alloc (.cells (m9 X) 27)).alloc (.cells (v3 x y z) 24)).alloc (.cells zM 27)).alloc (.cells zM 27)) = w3 at D ⊢
  clear hw3
  have hl8 := hide (fun p hp => Nat.ne_of_lt (show p.1 < w.heap.size + 1 + 1 + 1 by
    simp only [List.mem_cons, List.not_mem_nil, or_false] at hp
    rcases hp with rfl | rfl | rfl <;> (dsimp only; omega)) : ∀ p ∈ [(w.heap.size + 1 + 1, 27, zM), (w.heap.size + 1, 24, v3 x y z), (w.heap.size, 27, m9 X)], p.1 ≠ w.heap.size + 1 + 1 + 1)
  have hw8 := hide (show w.heap.size ≤ w.heap.size + 1 + 1 + 1 by omega)
  generalize hg7 : w.heap.size + 1 + 1 + 1 = g7 at *
  clear hg7
  go_wp2_with fail
  go_loopw [6] (fun i wr => ∃ k : Nat, k ≤ 3 ∧ i = .int .i64 k ∧ Hid (Gen w [(g7, 27, m9 (rows9 f k)), (w.heap.size + 1 + 1, 27, zM), (w.heap.size + 1, 24, v3 x y z), (w.heap.size, 27, m9 X)] wr)) (fun i _ => 3 - (intOf i).toNat)
  case atStart => exact ⟨0, by omega, rfl, D⟩
  case round =>
    obtain ⟨k, hk, rfl, hD⟩ := hrel
    by_cases hkn : k < 3
    · have hg : (k : Int) < 3 := by omega
      have F0 := hide (unhide hF k hkn 0 (by decide))
      have F1 := hide (unhide hF k hkn 1 (by decide))
      have F2 := hide (unhide hF k hkn 2 (by decide))
      clear hF D
      have D := hD
      clear hD
      go_upto_region 5 with fail
      refine region_last (S := Gen w _) (f := 16) (l := [0, 1, 2, 3, 4, 5, 6, 7, 8, 9, 10, 11, 12, 13, 14, 15]) (by kernel_rfl) (by kernel_rfl) (by kernel_rfl) (by kernel_rfl) (by kernel_rfl) (by kernel_rfl) (by kernel_rfl) (by kernel_rfl) (by kernel_rfl) (by kernel_rfl) rfl rfl (unhide D).drew ?_
      clear D
      refine plan_read (v := .int .i64 k) rfl rfl (fun u hS => by go_simp) ?_
      try go_simp
      refine plan_read (v := .agg (m9 X)) rfl rfl (fun u hS => exec_loadG (g := w.heap.size) (cs := m9 X) hS rMat _ rfl rfl (by repeat (first | exact List.mem_cons_self | apply List.mem_cons_of_mem)) rfl) ?_
      try go_simp
      refine plan_read (v := .agg (v3 x y z)) rfl rfl (fun u hS => exec_loadG hS rVec _ rfl rfl (by repeat (first | exact List.mem_cons_self | apply List.mem_cons_of_mem)) rfl) ?_
      try go_simp
      refine plan_read (v := .int .i64 k) rfl rfl (fun u hS => by go_simp) ?_
      try go_simp
      refine plan_call (v := .int .i64 (f (k * 3))) (f := 43) (args := #[.agg (m9 X), .agg (v3 x y z), .int .i64 k, .int .i64 0]) rfl rfl (fun u hS => by go_simp) (fun u hS => (unhide F0 u).mono fun _ _ ⟨he, hb⟩ => ⟨he, hS.keep hb⟩) ?_
      try go_simp
      refine plan_read (v := .agg (m9 X)) rfl rfl (fun u hS => exec_loadG (g := w.heap.size) (cs := m9 X) hS rMat _ rfl rfl (by repeat (first | exact List.mem_cons_self | apply List.mem_cons_of_mem)) rfl) ?_
      try go_simp
      refine plan_read (v := .agg (v3 x y z)) rfl rfl (fun u hS => exec_loadG hS rVec _ rfl rfl (by repeat (first | exact List.mem_cons_self | apply List.mem_cons_of_mem)) rfl) ?_
      try go_simp
      refine plan_read (v := .int .i64 k) rfl rfl (fun u hS => by go_simp) ?_
      try go_simp
      refine plan_call (v := .int .i64 (f (k * 3 + 1))) (f := 43) (args := #[.agg (m9 X), .agg (v3 x y z), .int .i64 k, .int .i64 1]) rfl rfl (fun u hS => by go_simp) (fun u hS => (unhide F1 u).mono fun _ _ ⟨he, hb⟩ => ⟨he, hS.keep hb⟩) ?_
      try go_simp
      refine plan_read (v := .agg (m9 X)) rfl rfl (fun u hS => exec_loadG (g := w.heap.size) (cs := m9 X) hS rMat _ rfl rfl (by repeat (first | exact List.mem_cons_self | apply List.mem_cons_of_mem)) rfl) ?_
      try go_simp
      refine plan_read (v := .agg (v3 x y z)) rfl rfl (fun u hS => exec_loadG hS rVec _ rfl rfl (by repeat (first | exact List.mem_cons_self | apply List.mem_cons_of_mem)) rfl) ?_
      try go_simp
      refine plan_read (v := .int .i64 k) rfl rfl (fun u hS => by go_simp) ?_
      try go_simp
      refine plan_call (v := .int .i64 (f (k * 3 + 2))) (f := 43) (args := #[.agg (m9 X), .agg (v3 x y z), .int .i64 k, .int .i64 2]) rfl rfl (fun u hS => by go_simp) (fun u hS => (unhide F2 u).mono fun _ _ ⟨he, hb⟩ => ⟨he, hS.keep hb⟩) ?_
      try go_simp
      refine plan_read (v := .agg (v3 (f (k * 3)) (f (k * 3 + 1)) (f (k * 3 + 2)))) rfl rfl (fun u hS => by go_simp) ?_
      try go_simp
      refine plan_read (v := .pointer (some ⟨g7, 0, none⟩)) rfl rfl (fun u hS => by go_simp) ?_
      try go_simp
      refine plan_read (v := .pointer (some ⟨g7, k * 3, none⟩)) rfl rfl (fun u hS => exec_ix3 u (.tmp 25) (.tmp 11) hkn rfl rfl rfl) ?_
      try go_simp
      refine plan_last (fun u hS => ?_)
      have B5 := hide (hS.blk (g := g7) (t := 27) (cs := m9 (rows9 f k)) (by repeat (first | exact List.mem_cons_self | apply List.mem_cons_of_mem)))
      refine wp_store_mid 24 (.tmp 26) (.tmp 24) rfl g7 (k * 3) (v3 (f (k * 3)) (f (k * 3 + 1)) (f (k * 3 + 2))) rfl rfl (m9_there (unhide B5) hkn) iVec3 (v3_one _ _ _) ?_
      have D := hide (hS.setM hkn (unhide hw8) (unhide hl8))
      clear hS B5 F0 F1 F2
      generalize u.setCells _ _ _ = u1 at D ⊢
      go_wp2
      go_roundw
      case rel => exact ⟨k + 1, by omega, by go_num, D⟩
      case measure => simp [intOf]; omega
    · obtain rfl : k = 3 := by omega
      have D := hD
      clear hD hF
      go_wp2_with (first | (with_reducible refine at_list ?_;  apply ldG (g := g7) (cs := m9 (rows9 f 3)) (unhide D) rMat _ rfl rfl rfl (by repeat (first | exact List.mem_cons_self | apply List.mem_cons_of_mem)) rfl) | (with_reducible refine at_list ?_; apply stGend (unhide D) rMat _ _ rfl rfl rfl rfl (by repeat (first | exact List.mem_cons_self | apply List.mem_cons_of_mem)) (by omega) rfl rfl (m9_one _); intro B O))
      exact resG rMat (unhide B) rfl rfl rfl rfl ⟨rfl, unhide O⟩
theorem RBetweenZ {X : Nat → Int} (hX : ∀ j, I64 (X j)) {x y z : Int} (hx : I64 x) (hy : I64 y) (hz : I64 z) : Ans 21 #[.agg (m9 X), .agg (v3 x y z)] (.agg (m9 (beI X x y z))) := fun w =>
  rbetweenM_core X (beI X x y z) x y z w (fun i hi k hk => RBetweenN hX hx hy hz i k hi hk)
set_option maxHeartbeats 2000000 in
theorem matBetween_core (X R : Nat → Int) (x y z : Int) (w : World) (e0 : sameM R R = true) (h1 : Hid (Ans 20 #[.agg (m9 X), .agg (v3 x y z)] (.agg (m9 R)))) (h2 : Hid (Ans 21 #[.agg (m9 X), .agg (v3 x y z)] (.agg (m9 R)))) (hW : Hid (Ans 17 #[] (.bool true))) :
    Calls Try.prog 5 #[.agg (m9 X), .agg (v3 x y z)] w fun e w' => e = .returned (.bool true) ∧ Below w.heap.size w w' := by
  go_enter Try.func5, Try.ntmps5
  go_upto_region 1 with fail
  have D := hide (((Gen.start w).push 27 (m9 X)).push 24 (v3 x y z))
  simp only [szA] at D
  refine region_plan (S := Gen w _) (l := [0, 1, 2, 3, 4, 5, 6, 7, 8, 9, 10]) (by kernel_rfl) (by kernel_rfl) (by kernel_rfl) (by kernel_rfl) (by kernel_rfl) (by kernel_rfl) (by kernel_rfl) (unhide D).drew ?_
  clear D
  refine plan_read (v := .agg (m9 X)) rfl rfl (fun u hS => exec_loadG hS rMat _ rfl rfl (by repeat (first | exact List.mem_cons_self | apply List.mem_cons_of_mem)) rfl) ?_
  try go_simp
  refine plan_read (v := .agg (v3 x y z)) rfl rfl (fun u hS => exec_loadG hS rVec _ rfl rfl (by repeat (first | exact List.mem_cons_self | apply List.mem_cons_of_mem)) rfl) ?_
  try go_simp
  refine plan_call (v := .agg (m9 R)) (f := 20) (args := #[.agg (m9 X), .agg (v3 x y z)]) rfl rfl (fun u hS => by go_simp) (fun u hS => (unhide h1 u).mono fun _ _ ⟨he, hb⟩ => ⟨he, hS.keep hb⟩) ?_
  try go_simp
  refine plan_read (v := .agg (m9 X)) rfl rfl (fun u hS => exec_loadG hS rMat _ rfl rfl (by repeat (first | exact List.mem_cons_self | apply List.mem_cons_of_mem)) rfl) ?_
  try go_simp
  refine plan_read (v := .agg (v3 x y z)) rfl rfl (fun u hS => exec_loadG hS rVec _ rfl rfl (by repeat (first | exact List.mem_cons_self | apply List.mem_cons_of_mem)) rfl) ?_
  try go_simp
  refine plan_call (v := .agg (m9 R)) (f := 21) (args := #[.agg (m9 X), .agg (v3 x y z)]) rfl rfl (fun u hS => by go_simp) (fun u hS => (unhide h2 u).mono fun _ _ ⟨he, hb⟩ => ⟨he, hS.keep hb⟩) ?_
  try go_simp
  refine plan_read (v := .bool true) rfl rfl (fun u hS => exec_eql_mat _ _ _ e0 rfl rfl rfl) ?_
  try go_simp
  refine plan_read (v := .bool true) rfl rfl (fun u hS => by go_simp) ?_
  try go_simp
  refine plan_call (v := .bool true) (f := 17) (args := #[]) rfl rfl (fun u hS => by go_simp) (fun u hS => (unhide hW u).mono fun _ _ ⟨he, hb⟩ => ⟨he, hS.keep hb⟩) ?_
  try go_simp
  refine plan_read (v := .bool true) rfl rfl (fun u hS => by go_simp) ?_
  try go_simp
  refine plan_read (v := .bool true) rfl rfl (fun u hS => by go_simp) ?_
  try go_simp
  refine plan_end (fun u hS => ?_)
  have O := hide hS.o
  clear hS
  go_wp2
  go_ret
  exact ⟨rfl, unhide O⟩
theorem matBetween_walk (X0 : Nat → Int) (x1 y1 z1 : Int) (k0 : ∀ j, (Lit.int .i64 (X0 j)).wf = true) (k1 : (Lit.int .i64 x1).wf = true) (l1 : (Lit.int .i64 y1).wf = true) (m1 : (Lit.int .i64 z1).wf = true) (w : World) :
    Calls Try.prog 5 #[.agg (m9 X0), .agg (v3 x1 y1 z1)] w fun e w' => e = .returned (.bool true) ∧ Below w.heap.size w w' := by
  have hX : ∀ j, I64 (X0 j) := fun j => I64.wf (k0 j)
  exact matBetween_core X0 _ x1 y1 z1 w (sameM_self _) (BetweenZ hX (I64.wf k1) (I64.wf l1) (I64.wf m1)) (RBetweenZ hX (I64.wf k1) (I64.wf l1) (I64.wf m1)) Awake4Z

end Go.Proofs.Ytcbepibdeokboaa

namespace Go.Proofs.Ytcbepibdeokboaa
open Go.ChangeShapes Go.WideShapes Go.ChangeAt Go.RowKit
set_option maxRecDepth 4000
set_option linter.unusedVariables false

theorem matBetween_own : ownKnob Try.prog.godebug = none := by kernel_rfl

set_option maxRecDepth 100000 in
theorem matBetween_lifted (os : Os) (started : os.Started) (H : Type) (enc : TypeId × Value → H) :
    ReturnsInHanded {} Try.checked os 5 .any (Rows.matBetweenSpec.pre6 enc Try.prog Try.f5 Rows.matBetweenRow.domain false) (Rows.matBetweenSpec.post enc Try.prog Try.f5 false true false false) := by
  refine returnsInHanded_of_change (C := Try.checked) matBetween_own started (by kernel_rfl) Try.func5
    (ChangeSpec.witness6 (enc := enc) (C := Try.checked) false ⟨#[], #[.agg #[.int .i64 0, .int .i64 0, .int .i64 0, .int .i64 0, .int .i64 0, .int .i64 0, .int .i64 0, .int .i64 0, .int .i64 0], .agg #[.int .i64 0, .int .i64 0, .int .i64 0]], []⟩ 8 (by kernel_rfl) (by kernel_rfl) (by kernel_rfl) (by kernel_rfl)) ?_
  intro W base args ds gs before hval0 hW hcnd _
  have hval : ∀ (j : Nat) t v, Try.f5.params[j]? = some t → args[j]? = some v → Value.okWide Try.prog W .any base t v := hval0
  have hW' := hW
  obtain ⟨p, q, hA0, hV, rfl, hfz, hnd⟩ := hW
  have hA : DataW.TrodAll enc Try.prog W 0 (fun _ => true) true Try.f5.params.toList args.toList ds p := hA0
  rw [Try.params5] at hA hval
  obtain ⟨v0, vs0, d0, ds0, p0, q0, hargs, rfl, rfl, h0, r0⟩ := trodAll_cons hA
  obtain ⟨v1, vs1, d1, ds1, p1, q1, rfl, rfl, rfl, h1, r1⟩ := trodAll_cons r0
  obtain ⟨rfl, rfl, rfl⟩ := trodAll_nil r1
  obtain rfl : args = #[v0, v1] := by cases args; simp_all
  obtain ⟨rfl, rfl⟩ := trodVars_none hV
  obtain ⟨X0, rfl, rfl, rfl, k0⟩ := open_mat (hval 0 27 v0 rfl rfl) h0
  obtain ⟨x1, y1, z1, rfl, rfl, rfl, k1, l1, m1⟩ := open_vec (hval 1 24 v1 rfl rfl) h1
  clear hA0 hval0
  refine (matBetween_walk X0 x1 y1 z1 k0 k1 l1 m1 W).mono fun e W' ⟨he, bel⟩ => ?_
  subst he
  exact ⟨_, rfl, _, _, _, [], [], [], hW', trodAll_mk1 (shut_bool Try.underlying4 _), (trodAll_cons_mk (shut_mat k0) (trodAll_cons_mk (shut_vec k1 l1 m1) trodAll_mk0)), rfl, bel.frame _, fun h => by cases h⟩

theorem matBetween_named : Try.pinned.checked.prog.funcNamed Rows.matBetweenRow.func = some 5 := by kernel_rfl
theorem matBetween_k1 : (Rows.matBetweenRow.wf (OpenSpec.ofChange Rows.matBetweenSpec) && laidOutB Try.pinned.checked.prog && mapsRowed Try.pinned.checked.prog && Try.f5.params.all (Try.pinned.checked.prog.readableRec ·) && namedTie Try.pinned.checked.prog Rows.matBetweenRow.named Rows.matBetweenSpec.vars) = true := by kernel_rfl
theorem matBetween_k2 : ((Rows.matBetweenRow.stops == []) && (Try.pinned.checked.prog.stops == []) && (Rows.matBetweenRow.knobs == []) && (Try.pinned.checked.prog.stopKnobs == [])) = true := by kernel_rfl
theorem matBetween_k3 : (Rows.matBetweenRow.inPlace == Try.pinned.checked.prog.inPlace 5) = true := by kernel_rfl
theorem matBetween_k4 : (Rows.matBetweenRow.unfollowed == Try.pinned.checked.prog.unfollowed 5) = true := by kernel_rfl
theorem matBetween_k5 : (Rows.matBetweenRow.recurses == Try.pinned.checked.prog.recurses 5) = true := by kernel_rfl
theorem matBetween_k6 : (Rows.matBetweenRow.named == Try.pinned.checked.prog.varsNamed 5) = true := by kernel_rfl
theorem matBetween_k7 : ((Rows.matBetweenRow.maps == (Try.f5.params.toList ++ Rows.matBetweenSpec.plain.varTypes Try.pinned.checked.prog).any (Try.pinned.checked.prog.mapsRec ·)) && (Rows.matBetweenRow.ifaces == (Try.f5.params.toList ++ Rows.matBetweenSpec.plain.varTypes Try.pinned.checked.prog).any (Try.pinned.checked.prog.ifacesRec ·)) && (Rows.matBetweenRow.mapsOut == Try.pinned.checked.prog.mapsAmong Try.f5.resultTypes.toList) &&
  (Rows.matBetweenRow.loops == (Try.f5.params.toList ++ Rows.matBetweenSpec.plain.varTypes Try.pinned.checked.prog).any (Try.pinned.checked.prog.loopsFrom ·)) && (Rows.matBetweenRow.wideKeys == (Try.f5.params.toList ++ Rows.matBetweenSpec.plain.varTypes Try.pinned.checked.prog ++ Try.f5.resultTypes.toList).any (Try.pinned.checked.prog.wideKeysFrom ·)) &&
  Rows.matBetweenSpec.vars.all (Try.pinned.checked.prog.varReadable ·) && Try.f5.resultTypes.all (fun t => Try.pinned.checked.prog.readableRec t && decide (t < Try.pinned.checked.prog.types.size)) && (Rows.matBetweenRow.ifacesOut == Try.f5.resultTypes.toList.any (Try.pinned.checked.prog.ifacesRec ·)) && (Rows.matBetweenRow.loopsOut == Try.f5.resultTypes.toList.any (Try.pinned.checked.prog.loopsFrom ·)) && (Rows.matBetweenRow.plainKeys == Try.pinned.checked.prog.plainKeys) && Rows.matBetweenRow.shortTexts.isNone) = true := by kernel_rfl
theorem matBetween_k8 : (Rows.matBetweenRow.lifted == Rows.matSumsRow.lifted) = true := by kernel_rfl
theorem matBetween_k9 : ((Try.pinned.checked.prog.make == some Rows.matBetweenRow.make) && (Rows.matBetweenRow.kinds == (if Rows.matBetweenRow.domain.isEmpty then [] else Try.f5.params.toList.map fun t => match Try.pinned.checked.prog.underlying t with | some (.int k) => some k | _ => none)) && (Rows.matBetweenRow.pinned == Rows.matBetweenRow.pinnedBy) &&
  (Rows.matBetweenRow.veiled == (Try.f5.params.toList ++ Rows.matBetweenSpec.plain.varTypes Try.pinned.checked.prog ++ Try.f5.resultTypes.toList).any (Try.pinned.checked.prog.veiledRec ·)) && Rows.matBetweenRow.veiledFits Try.pinned.checked.prog Try.f5.params.toList (Try.f5.params.toList ++ Rows.matBetweenSpec.plain.varTypes Try.pinned.checked.prog ++ Try.f5.resultTypes.toList)) = true := by kernel_rfl
theorem matBetween_closed : joinedFacts Try.pinned.checked.prog 5 Try.f5 Rows.matBetweenSpec Rows.matBetweenRow = true :=
  joined_split ⟨matBetween_k1, matBetween_k2, matBetween_k3, matBetween_k4, matBetween_k5, matBetween_k6, matBetween_k7, seat_heard, seat_enter, lifts_of matBetween_k8, matBetween_k9⟩
theorem matBetween_over : Rows.matBetweenRow.holds Try.pinned (OpenSpec.ofChange Rows.matBetweenSpec) :=
  OpenClaim.holds_of_wide 5 Try.f5 rfl rfl rfl rfl rfl rfl rfl ⟨rfl, rfl, rfl, rfl, rfl⟩ rfl rfl rfl rfl rfl matBetween_named Try.func5 matBetween_closed
    (of_decide_eq_true (by kernel_rfl)) (by unfold Func.isWrapper; rw [if_neg (of_decide_eq_false (by kernel_rfl))]; exact ⟨rfl, rfl⟩)
    (fun os started H enc _ => matBetween_lifted os started H enc)

/-- The statement. -/
theorem matBetween_holds : Rows.MatBetweenSaid := matBetween_over

end Go.Proofs.Ytcbepibdeokboaa
