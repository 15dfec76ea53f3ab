/- The document's layer 4: three, Exact, Det; the law MatDet. -/
import Derived.Test.YtcbepibdeokboaaGreatSy
import Derived.Test.YtcbepibdeokboaaGreatHg
import Derived.Test.YtcbepibdeokboaaGreatNl
namespace Go.Proofs.YtcbepibdeokboaaGreat
open Go.RowKit
set_option maxRecDepth 4000
set_option linter.unusedVariables false

theorem Gen.four4 {u w0 : World} {g0 g1 g2 g3 : Nat} {t0 t1 t2 t3 : TypeId} {c0 c1 c2 c3 : Array Value} (h0 : Blk u g0 t0 c0) (h1 : Blk u g1 t1 c1) (h2 : Blk u g2 t2 c2) (h3 : Blk u g3 t3 c3) (o : Below w0.heap.size w0 u) : Gen w0 [(g0, t0, c0), (g1, t1, c1), (g2, t2, c2), (g3, t3, c3)] u := by
  refine ⟨fun p hp => ?_, o⟩
  simp only [List.mem_cons, List.not_mem_nil, or_false] at hp
  rcases hp with rfl | rfl | rfl | rfl
  · exact h0
  · exact h1
  · exact h2
  · exact h3
theorem walk_storeQ {P : Program} {ops : Array Oper} {S : World → Prop} {Q : Exit → Act → World → Prop} {tn : Nat → Bool} {i : Nat} {r : List Nat} {a : Act} {w w' : World} {o : Oper} (ho : ops[i]? = some o) (hw : Region.wanted o (yielded ops a.tmps) = true) (ht : tn i = true)
    (h : (execOp a.eval o).run P w = .ok .skip w') (hS : S w') (hr : Walk P ops S Q tn r (a.put o.dst undef) w') : Walk P ops S Q tn (i :: r) a w :=
  ⟨o, ho, .inr (.inr ⟨hw, ht, by rw [h]; exact ⟨hS, hr⟩⟩)⟩
theorem exec_store3 {o : Oper} {a : Act} {w : World} (x y : Operand) {g : Nat} {t : TypeId} {p q r p' q' r' : Int} (hg : Blk w g t (v3 p' q' r')) (ho : o.op = .store 24 x y) (hx : a.eval x = .pointer (some ⟨g, 0, none⟩)) (hy : a.eval y = .agg (v3 p q r)) :
    (execOp a.eval o).run Tryz.prog w = .ok .skip (w.setRow g (v3 p q r)) := by
  unfold execOp
  simp only [ho, hx, hy, Instr.storeAt, Instr.sureAddr, Sem.run_bind, Sem.run_pure, Result.andThen_ok, run_storeVar_row w g t 24 (v3 p' q' r') (v3 p q r) hg iVec3 rfl (v3_one _ _ _)]
theorem share4 {G H : Nat → Nat → Nat → World → Prop} {R : Prop} (main : (∀ c d e u, H c d e u → G c d e u) → R) (rest : ∀ c d e u, H c d e u → G c d e u) : R := main rest
theorem szD (w : World) : w.drew.heap.size = w.heap.size := rfl
theorem Gen.rowIn {w0 u : World} {l : List (Nat × TypeId × Array Value)} {g : Nat} (d : Gen w0 l u) (hne : ∀ p ∈ l, p.1 ≠ g) (hg : w0.heap.size ≤ g) (cs : Array Value) : Gen w0 l (u.setRow g cs) :=
  ⟨fun p hp => (d.at_ p hp).rowOther _ (hne p hp), below_row d.o hg _⟩

theorem three4_core (x y z : Int) (A1 A2 A3 P1 P2 : Nat) (w : World) (r1 : Hid (Ans 64 #[.int .i64 x] (.agg (cells8 A1)))) (r2 : Hid (Ans 64 #[.int .i64 y] (.agg (cells8 A2)))) (r3 : Hid (Ans 64 #[.int .i64 z] (.agg (cells8 A3)))) (t1 : Hid (Ans 63 #[.agg (cells8 A1), .agg (cells8 A2)] (.agg (cells8 P1)))) (t2 : Hid (Ans 63 #[.agg (cells8 P1), .agg (cells8 A3)] (.agg (cells8 P2)))) :
    Calls Tryz.prog 53 #[.int .i64 x, .int .i64 y, .int .i64 z] w fun e w' => e = .returned (.agg (cells8 P2)) ∧ Below w.heap.size w w' := by
  go_enter Tryz.func53, Tryz.ntmps53
  go_upto_region 1 with fail
  have D := hide ((Gen.start w).push 54 z8)
  refine list_start (S := Gen w _) (unhide D) ?_
  clear D
  refine list_read (v := .int .i64 x) rfl rfl (fun u hS => by go_simp) ?_
  try go_simp
  refine list_call (v := .agg (cells8 A1)) (f := 64) (args := #[.int .i64 x]) rfl rfl (fun u hS => by go_simp) (fun u hS => (unhide r1 u).mono fun _ _ ⟨he, hb⟩ => ⟨he, hS.keep hb⟩) ?_
  try go_simp
  refine list_read (v := .int .i64 y) rfl rfl (fun u hS => by go_simp) ?_
  try go_simp
  refine list_call (v := .agg (cells8 A2)) (f := 64) (args := #[.int .i64 y]) rfl rfl (fun u hS => by go_simp) (fun u hS => (unhide r2 u).mono fun _ _ ⟨he, hb⟩ => ⟨he, hS.keep hb⟩) ?_
  try go_simp
  refine list_call (v := .agg (cells8 P1)) (f := 63) (args := #[.agg (cells8 A1), .agg (cells8 A2)]) rfl rfl (fun u hS => by go_simp) (fun u hS => (unhide t1 u).mono fun _ _ ⟨he, hb⟩ => ⟨he, hS.keep hb⟩) ?_
  try go_simp
  refine list_read (v := .int .i64 z) rfl rfl (fun u hS => by go_simp) ?_
  try go_simp
  refine list_call (v := .agg (cells8 A3)) (f := 64) (args := #[.int .i64 z]) rfl rfl (fun u hS => by go_simp) (fun u hS => (unhide r3 u).mono fun _ _ ⟨he, hb⟩ => ⟨he, hS.keep hb⟩) ?_
  try go_simp
  refine list_call (v := .agg (cells8 P2)) (f := 63) (args := #[.agg (cells8 P1), .agg (cells8 A3)]) rfl rfl (fun u hS => by go_simp) (fun u hS => (unhide t2 u).mono fun _ _ ⟨he, hb⟩ => ⟨he, hS.keep hb⟩) ?_
  try go_simp
  intro u hS
  have B0 := hide (hS.blk (g := w.heap.size) (t := 54) (cs := z8) (by repeat (first | exact List.mem_cons_self | apply List.mem_cons_of_mem)))
  refine wpList_store_row rfl 54 (.tmp 6) (.tmp 14) rfl _ (cells8 P2) rfl rfl 54 z8 (unhide B0) iWide rfl (cells8_one _) ?_
  have B := hide ((unhide B0).row (cells8 P2))
  have O := hide (below_row hS.o (show w.heap.size ≤ w.heap.size by omega) (cells8 P2))
  clear hS B0
  go_wp2
  exact resG rWide (unhide B) rfl rfl rfl rfl ⟨rfl, unhide O⟩
theorem Three4 (x y z : Int) (hx : I64 x) (hy : I64 y) (hz : I64 z) : Ans 53 #[.int .i64 x, .int .i64 y, .int .i64 z] (V (x * y * z)) := fun w =>
  three4_core x y z _ _ _ _ _ w (Raw3 x hx) (Raw3 y hy) (Raw3 z hz) (Times3 hx.sz hy.sz (by decide)) (Times3 (hx.sz.mul hy.sz) hz.sz (by decide))

set_option maxHeartbeats 16000000 in
theorem exact4_core (X : Nat → Int) (P00 P01 P02 P10 P11 P12 S00 S01 S10 S11 R0 : Nat) (w : World) (h00 : Hid (Ans 53 #[.int .i64 (X 0), .int .i64 (X 4), .int .i64 (X 8)] (.agg (cells8 P00)))) (h01 : Hid (Ans 53 #[.int .i64 (X 1), .int .i64 (X 5), .int .i64 (X 6)] (.agg (cells8 P01)))) (h02 : Hid (Ans 53 #[.int .i64 (X 2), .int .i64 (X 3), .int .i64 (X 7)] (.agg (cells8 P02)))) (p00 : Hid (Ans 52 #[.agg (cells8 P00), .agg (cells8 P01)] (.agg (cells8 S00)))) (p01 : Hid (Ans 52 #[.agg (cells8 S00), .agg (cells8 P02)] (.agg (cells8 S01)))) (h10 : Hid (Ans 53 #[.int .i64 (X 2), .int .i64 (X 4), .int .i64 (X 6)] (.agg (cells8 P10)))) (h11 : Hid (Ans 53 #[.int .i64 (X 1), .int .i64 (X 3), .int .i64 (X 8)] (.agg (cells8 P11)))) (h12 : Hid (Ans 53 #[.int .i64 (X 0), .int .i64 (X 5), .int .i64 (X 7)] (.agg (cells8 P12)))) (p10 : Hid (Ans 52 #[.agg (cells8 P10), .agg (cells8 P11)] (.agg (cells8 S10)))) (p11 : Hid (Ans 52 #[.agg (cells8 S10), .agg (cells8 P12)] (.agg (cells8 S11)))) (hL : Hid (Ans 54 #[.agg (cells8 S01), .agg (cells8 S11)] (.agg (cells8 R0)))) :
    Calls Tryz.prog 31 #[.agg (m9 X)] w fun e w' => e = .returned (.agg (cells8 R0)) ∧ Below w.heap.size w w' := by
  go_enter Tryz.func31, Tryz.ntmps31
  go_upto_region 1 with fail
  have D := hide (((Gen.start w).push 27 (m9 X)).push 54 z8)
  simp only [szA] at D
  generalize hw3 : (w.alloc (.cells (m9 X) 27)).alloc (.cells z8 54) = w3 at D ⊢
  clear hw3
  have D := hide ((unhide D).sub (l' := [(w.heap.size, 27, m9 X), (w.heap.size + 1, 54, z8), (w.heap.size, 27, m9 X)]) (by
    intro p hp
    simp only [List.mem_cons, List.not_mem_nil, or_false] at hp ⊢
    rcases hp with rfl | rfl | rfl
    · exact .inr rfl
    · exact .inl rfl
    · exact .inr rfl))
  have hlt := hide (fun (p : Nat × TypeId × Array Value) hp => ((unhide D).at_ p hp).lt)
  have hw0 := hide (unhide D).o.size
  apply share4 (H := fun c0 c1 c2 u => Hid (Gen w [((w.heap.size + 1), 54, z8), (c0, 24, v3 (X (0 * 3)) (X (0 * 3 + 1)) (X (0 * 3 + 2))), (c1, 24, v3 (X (1 * 3)) (X (1 * 3 + 1)) (X (1 * 3 + 2))), (c2, 24, v3 (X (2 * 3)) (X (2 * 3 + 1)) (X (2 * 3 + 2)))] u))
  · intro rest
    have D0 := (unhide D).drew
    have l5 : w.heap.size < w3.heap.size := unhide hlt (w.heap.size, 27, m9 X) (by repeat (first | exact List.mem_cons_self | apply List.mem_cons_of_mem))
    have l3 : (w.heap.size + 1) < w3.heap.size := unhide hlt ((w.heap.size + 1), 54, z8) (by repeat (first | exact List.mem_cons_self | apply List.mem_cons_of_mem))
    have l0 := l5

    refine region_famT (S := Gen w [(w.heap.size, 27, m9 X), ((w.heap.size + 1), 54, z8), (w.heap.size, 27, m9 X)]) (F := [[0, 1, 2, 3, 4, 5, 6, 7, 8, 9, 10, 11, 12, 13, 14], [0, 1, 2, 3, 4, 5, 6, 7, 8, 9, 11, 10, 12, 13, 14], [0, 1, 2, 3, 4, 5, 6, 7, 8, 10, 9, 11, 12, 13, 14], [0, 1, 2, 3, 4, 5, 6, 7, 8, 10, 11, 9, 12, 13, 14], [0, 1, 2, 3, 4, 5, 6, 7, 8, 11, 9, 10, 12, 13, 14], [0, 1, 2, 3, 4, 5, 6, 7, 8, 11, 10, 9, 12, 13, 14]]) (t := [9, 10, 11, 12, 13, 14]) (by kernel_rfl) (by kernel_rfl) (by kernel_rfl) (by kernel_rfl) (by kernel_rfl) ?_ D0 ?_
    · intro j o a w hj ho
      have hj' : j = 9 ∨ j = 10 ∨ j = 11 ∨ j = 12 ∨ j = 13 ∨ j = 14 := by simpa using hj
      rcases hj' with rfl | rfl | rfl | rfl | rfl | rfl
      · cases ho; exact ne_alloc rfl a w
      · cases ho; exact ne_alloc rfl a w
      · cases ho; exact ne_alloc rfl a w
      · cases ho; exact ne_store rfl a w
      · cases ho; exact ne_store rfl a w
      · cases ho; exact ne_store rfl a w
    have E1 := D0.push 24 (v3 0 0 0)
    have E2 := E1.push 24 (v3 0 0 0)
    have E3 := E2.push 24 (v3 0 0 0)
    simp only [szA] at E2 E3
    have b0 := E3.blk (g := w3.drew.heap.size) (t := 24) (cs := v3 0 0 0) (by repeat (first | exact List.mem_cons_self | apply List.mem_cons_of_mem))
    have b1 := E3.blk (g := w3.drew.heap.size + 1) (t := 24) (cs := v3 0 0 0) (by repeat (first | exact List.mem_cons_self | apply List.mem_cons_of_mem))
    have b2 := E3.blk (g := w3.drew.heap.size + 1 + 1) (t := 24) (cs := v3 0 0 0) (by repeat (first | exact List.mem_cons_self | apply List.mem_cons_of_mem))
    intro l hl
    rcases List.mem_cons.1 hl with rfl | hl
    · refine walk_read (v := ?_) rfl rfl rfl (fun u hS => by go_simp; rfl) ?_
      go_simp
      refine walk_read (v := .pointer (some ⟨w.heap.size, 0 * 3, none⟩)) rfl rfl rfl (fun u hS => exec_ix3 (k := 0) u (.tmp 8) (.const (.int .i64 0)) (by decide) rfl rfl rfl) ?_
      go_simp
      refine walk_read (v := .agg (v3 (X (0 * 3)) (X (0 * 3 + 1)) (X (0 * 3 + 2)))) rfl rfl rfl (fun u hS => exec_ldRow (k := 0) (.tmp 9) rfl rfl (hS.blk (g := w.heap.size) (t := 27) (cs := m9 X) (by repeat (first | exact List.mem_cons_self | apply List.mem_cons_of_mem))) (by decide)) ?_
      go_simp
      refine walk_read (v := ?_) rfl rfl rfl (fun u hS => by go_simp; rfl) ?_
      go_simp
      refine walk_read (v := .pointer (some ⟨w.heap.size, 1 * 3, none⟩)) rfl rfl rfl (fun u hS => exec_ix3 (k := 1) u (.tmp 11) (.const (.int .i64 1)) (by decide) rfl rfl rfl) ?_
      go_simp
      refine walk_read (v := .agg (v3 (X (1 * 3)) (X (1 * 3 + 1)) (X (1 * 3 + 2)))) rfl rfl rfl (fun u hS => exec_ldRow (k := 1) (.tmp 12) rfl rfl (hS.blk (g := w.heap.size) (t := 27) (cs := m9 X) (by repeat (first | exact List.mem_cons_self | apply List.mem_cons_of_mem))) (by decide)) ?_
      go_simp
      refine walk_read (v := ?_) rfl rfl rfl (fun u hS => by go_simp; rfl) ?_
      go_simp
      refine walk_read (v := .pointer (some ⟨w.heap.size, 2 * 3, none⟩)) rfl rfl rfl (fun u hS => exec_ix3 (k := 2) u (.tmp 14) (.const (.int .i64 2)) (by decide) rfl rfl rfl) ?_
      go_simp
      refine walk_read (v := .agg (v3 (X (2 * 3)) (X (2 * 3 + 1)) (X (2 * 3 + 2)))) rfl rfl rfl (fun u hS => exec_ldRow (k := 2) (.tmp 15) rfl rfl (hS.blk (g := w.heap.size) (t := 27) (cs := m9 X) (by repeat (first | exact List.mem_cons_self | apply List.mem_cons_of_mem))) (by decide)) ?_
      go_simp
      refine walk_turn (v := ptr (w3.drew.heap.size)) (w' := (w3.drew.alloc (.cells (v3 0 0 0) 24))) rfl rfl rfl (by go_simp) E1.tail ?_
      go_simp
      refine walk_turn (v := ptr (w3.drew.heap.size + 1)) (w' := ((w3.drew.alloc (.cells (v3 0 0 0) 24)).alloc (.cells (v3 0 0 0) 24))) rfl rfl rfl (by go_simp) E2.tail.tail ?_
      go_simp
      refine walk_turn (v := ptr (w3.drew.heap.size + 1 + 1)) (w' := (((w3.drew.alloc (.cells (v3 0 0 0) 24)).alloc (.cells (v3 0 0 0) 24)).alloc (.cells (v3 0 0 0) 24))) rfl rfl rfl (by go_simp) E3.tail.tail.tail ?_
      go_simp
      have x0 := (E3.tail.tail.tail).rowIn (g := w3.drew.heap.size) (fun p hp => by simp only [List.mem_cons, List.not_mem_nil, or_false] at hp; rcases hp with rfl | rfl | rfl; exact Nat.ne_of_lt (show w.heap.size < _ by simp only [szD]; omega); exact Nat.ne_of_lt (show (w.heap.size + 1) < _ by simp only [szD]; omega); exact Nat.ne_of_lt (show w.heap.size < _ by simp only [szD]; omega)) (by simp only [szD]; omega) (v3 (X (0 * 3)) (X (0 * 3 + 1)) (X (0 * 3 + 2)))
      have y0 := b0
      refine walk_storeQ rfl rfl rfl (exec_store3 (.tmp 3) (.tmp 10) y0 rfl rfl rfl) x0 ?_
      go_simp
      have x1 := (x0).rowIn (g := w3.drew.heap.size + 1) (fun p hp => by simp only [List.mem_cons, List.not_mem_nil, or_false] at hp; rcases hp with rfl | rfl | rfl; exact Nat.ne_of_lt (show w.heap.size < _ by simp only [szD]; omega); exact Nat.ne_of_lt (show (w.heap.size + 1) < _ by simp only [szD]; omega); exact Nat.ne_of_lt (show w.heap.size < _ by simp only [szD]; omega)) (by simp only [szD]; omega) (v3 (X (1 * 3)) (X (1 * 3 + 1)) (X (1 * 3 + 2)))
      have y1 := (b1.rowOther (k := w3.drew.heap.size) (v3 (X (0 * 3)) (X (0 * 3 + 1)) (X (0 * 3 + 2))) (by omega))
      refine walk_storeQ rfl rfl rfl (exec_store3 (.tmp 4) (.tmp 13) y1 rfl rfl rfl) x1 ?_
      go_simp
      have x2 := (x1).rowIn (g := w3.drew.heap.size + 1 + 1) (fun p hp => by simp only [List.mem_cons, List.not_mem_nil, or_false] at hp; rcases hp with rfl | rfl | rfl; exact Nat.ne_of_lt (show w.heap.size < _ by simp only [szD]; omega); exact Nat.ne_of_lt (show (w.heap.size + 1) < _ by simp only [szD]; omega); exact Nat.ne_of_lt (show w.heap.size < _ by simp only [szD]; omega)) (by simp only [szD]; omega) (v3 (X (2 * 3)) (X (2 * 3 + 1)) (X (2 * 3 + 2)))
      have y2 := ((b2.rowOther (k := w3.drew.heap.size) (v3 (X (0 * 3)) (X (0 * 3 + 1)) (X (0 * 3 + 2))) (by omega)).rowOther (k := w3.drew.heap.size + 1) (v3 (X (1 * 3)) (X (1 * 3 + 1)) (X (1 * 3 + 2))) (by omega))
      refine walk_storeQ rfl rfl rfl (exec_store3 (.tmp 5) (.tmp 16) y2 rfl rfl rfl) x2 ?_
      go_simp
      refine walk_end ?_
      have F : Hid (Gen w [((w.heap.size + 1), 54, z8), (w3.heap.size, 24, v3 (X (0 * 3)) (X (0 * 3 + 1)) (X (0 * 3 + 2))), (w3.heap.size + 1, 24, v3 (X (1 * 3)) (X (1 * 3 + 1)) (X (1 * 3 + 2))), (w3.heap.size + 1 + 1, 24, v3 (X (2 * 3)) (X (2 * 3 + 1)) (X (2 * 3 + 2)))] ((((((w3.alloc (.cells (v3 0 0 0) 24)).alloc (.cells (v3 0 0 0) 24)).alloc (.cells (v3 0 0 0) 24)).drew.setRow w3.heap.size (v3 (X (0 * 3)) (X (0 * 3 + 1)) (X (0 * 3 + 2)))).setRow (w3.heap.size + 1) (v3 (X (1 * 3)) (X (1 * 3 + 1)) (X (1 * 3 + 2)))).setRow (w3.heap.size + 1 + 1) (v3 (X (2 * 3)) (X (2 * 3 + 1)) (X (2 * 3 + 2))))) := hide (Gen.four4 (x2.blk (g := (w.heap.size + 1)) (t := 54) (cs := z8) (by repeat (first | exact List.mem_cons_self | apply List.mem_cons_of_mem))) (((y0.row (v3 (X (0 * 3)) (X (0 * 3 + 1)) (X (0 * 3 + 2)))).rowOther (k := w3.drew.heap.size + 1) (v3 (X (1 * 3)) (X (1 * 3 + 1)) (X (1 * 3 + 2))) (by omega)).rowOther (k := w3.drew.heap.size + 1 + 1) (v3 (X (2 * 3)) (X (2 * 3 + 1)) (X (2 * 3 + 2))) (by omega)) ((y1.row (v3 (X (1 * 3)) (X (1 * 3 + 1)) (X (1 * 3 + 2)))).rowOther (k := w3.drew.heap.size + 1 + 1) (v3 (X (2 * 3)) (X (2 * 3 + 1)) (X (2 * 3 + 2))) (by omega)) (y2.row (v3 (X (2 * 3)) (X (2 * 3 + 1)) (X (2 * 3 + 2)))) x2.o)
      clear E1 E2 E3 b0 b1 b2 x0 x1 x2 y0 y1 y2
      generalize ((((((w3.alloc (.cells (v3 0 0 0) 24)).alloc (.cells (v3 0 0 0) 24)).alloc (.cells (v3 0 0 0) 24)).drew.setRow w3.heap.size (v3 (X (0 * 3)) (X (0 * 3 + 1)) (X (0 * 3 + 2)))).setRow (w3.heap.size + 1) (v3 (X (1 * 3)) (X (1 * 3 + 1)) (X (1 * 3 + 2)))).setRow (w3.heap.size + 1 + 1) (v3 (X (2 * 3)) (X (2 * 3 + 1)) (X (2 * 3 + 2)))) = u1 at F ⊢
      generalize w3.heap.size + 1 + 1 = c2 at F ⊢
      generalize w3.heap.size + 1 = c1 at F ⊢
      generalize w3.heap.size = c0 at F ⊢
      exact rest c0 c1 c2 u1 F
    rcases List.mem_cons.1 hl with rfl | hl
    · as_aux_lemma =>
        refine walk_read (v := ?_) rfl rfl rfl (fun u hS => by go_simp; rfl) ?_
        go_simp
        refine walk_read (v := .pointer (some ⟨w.heap.size, 0 * 3, none⟩)) rfl rfl rfl (fun u hS => exec_ix3 (k := 0) u (.tmp 8) (.const (.int .i64 0)) (by decide) rfl rfl rfl) ?_
        go_simp
        refine walk_read (v := .agg (v3 (X (0 * 3)) (X (0 * 3 + 1)) (X (0 * 3 + 2)))) rfl rfl rfl (fun u hS => exec_ldRow (k := 0) (.tmp 9) rfl rfl (hS.blk (g := w.heap.size) (t := 27) (cs := m9 X) (by repeat (first | exact List.mem_cons_self | apply List.mem_cons_of_mem))) (by decide)) ?_
        go_simp
        refine walk_read (v := ?_) rfl rfl rfl (fun u hS => by go_simp; rfl) ?_
        go_simp
        refine walk_read (v := .pointer (some ⟨w.heap.size, 1 * 3, none⟩)) rfl rfl rfl (fun u hS => exec_ix3 (k := 1) u (.tmp 11) (.const (.int .i64 1)) (by decide) rfl rfl rfl) ?_
        go_simp
        refine walk_read (v := .agg (v3 (X (1 * 3)) (X (1 * 3 + 1)) (X (1 * 3 + 2)))) rfl rfl rfl (fun u hS => exec_ldRow (k := 1) (.tmp 12) rfl rfl (hS.blk (g := w.heap.size) (t := 27) (cs := m9 X) (by repeat (first | exact List.mem_cons_self | apply List.mem_cons_of_mem))) (by decide)) ?_
        go_simp
        refine walk_read (v := ?_) rfl rfl rfl (fun u hS => by go_simp; rfl) ?_
        go_simp
        refine walk_read (v := .pointer (some ⟨w.heap.size, 2 * 3, none⟩)) rfl rfl rfl (fun u hS => exec_ix3 (k := 2) u (.tmp 14) (.const (.int .i64 2)) (by decide) rfl rfl rfl) ?_
        go_simp
        refine walk_read (v := .agg (v3 (X (2 * 3)) (X (2 * 3 + 1)) (X (2 * 3 + 2)))) rfl rfl rfl (fun u hS => exec_ldRow (k := 2) (.tmp 15) rfl rfl (hS.blk (g := w.heap.size) (t := 27) (cs := m9 X) (by repeat (first | exact List.mem_cons_self | apply List.mem_cons_of_mem))) (by decide)) ?_
        go_simp
        refine walk_turn (v := ptr (w3.drew.heap.size)) (w' := (w3.drew.alloc (.cells (v3 0 0 0) 24))) rfl rfl rfl (by go_simp) E1.tail ?_
        go_simp
        refine walk_turn (v := ptr (w3.drew.heap.size + 1)) (w' := ((w3.drew.alloc (.cells (v3 0 0 0) 24)).alloc (.cells (v3 0 0 0) 24))) rfl rfl rfl (by go_simp) E2.tail.tail ?_
        go_simp
        refine walk_turn (v := ptr (w3.drew.heap.size + 1 + 1)) (w' := (((w3.drew.alloc (.cells (v3 0 0 0) 24)).alloc (.cells (v3 0 0 0) 24)).alloc (.cells (v3 0 0 0) 24))) rfl rfl rfl (by go_simp) E3.tail.tail.tail ?_
        go_simp
        have x0 := (E3.tail.tail.tail).rowIn (g := w3.drew.heap.size) (fun p hp => by simp only [List.mem_cons, List.not_mem_nil, or_false] at hp; rcases hp with rfl | rfl | rfl; exact Nat.ne_of_lt (show w.heap.size < _ by simp only [szD]; omega); exact Nat.ne_of_lt (show (w.heap.size + 1) < _ by simp only [szD]; omega); exact Nat.ne_of_lt (show w.heap.size < _ by simp only [szD]; omega)) (by simp only [szD]; omega) (v3 (X (0 * 3)) (X (0 * 3 + 1)) (X (0 * 3 + 2)))
        have y0 := b0
        refine walk_storeQ rfl rfl rfl (exec_store3 (.tmp 3) (.tmp 10) y0 rfl rfl rfl) x0 ?_
        go_simp
        have x1 := (x0).rowIn (g := w3.drew.heap.size + 1 + 1) (fun p hp => by simp only [List.mem_cons, List.not_mem_nil, or_false] at hp; rcases hp with rfl | rfl | rfl; exact Nat.ne_of_lt (show w.heap.size < _ by simp only [szD]; omega); exact Nat.ne_of_lt (show (w.heap.size + 1) < _ by simp only [szD]; omega); exact Nat.ne_of_lt (show w.heap.size < _ by simp only [szD]; omega)) (by simp only [szD]; omega) (v3 (X (1 * 3)) (X (1 * 3 + 1)) (X (1 * 3 + 2)))
        have y1 := (b2.rowOther (k := w3.drew.heap.size) (v3 (X (0 * 3)) (X (0 * 3 + 1)) (X (0 * 3 + 2))) (by omega))
        refine walk_storeQ rfl rfl rfl (exec_store3 (.tmp 4) (.tmp 13) y1 rfl rfl rfl) x1 ?_
        go_simp
        have x2 := (x1).rowIn (g := w3.drew.heap.size + 1) (fun p hp => by simp only [List.mem_cons, List.not_mem_nil, or_false] at hp; rcases hp with rfl | rfl | rfl; exact Nat.ne_of_lt (show w.heap.size < _ by simp only [szD]; omega); exact Nat.ne_of_lt (show (w.heap.size + 1) < _ by simp only [szD]; omega); exact Nat.ne_of_lt (show w.heap.size < _ by simp only [szD]; omega)) (by simp only [szD]; omega) (v3 (X (2 * 3)) (X (2 * 3 + 1)) (X (2 * 3 + 2)))
        have y2 := ((b1.rowOther (k := w3.drew.heap.size) (v3 (X (0 * 3)) (X (0 * 3 + 1)) (X (0 * 3 + 2))) (by omega)).rowOther (k := w3.drew.heap.size + 1 + 1) (v3 (X (1 * 3)) (X (1 * 3 + 1)) (X (1 * 3 + 2))) (by omega))
        refine walk_storeQ rfl rfl rfl (exec_store3 (.tmp 5) (.tmp 16) y2 rfl rfl rfl) x2 ?_
        go_simp
        refine walk_end ?_
        have F : Hid (Gen w [((w.heap.size + 1), 54, z8), (w3.heap.size, 24, v3 (X (0 * 3)) (X (0 * 3 + 1)) (X (0 * 3 + 2))), (w3.heap.size + 1 + 1, 24, v3 (X (1 * 3)) (X (1 * 3 + 1)) (X (1 * 3 + 2))), (w3.heap.size + 1, 24, v3 (X (2 * 3)) (X (2 * 3 + 1)) (X (2 * 3 + 2)))] ((((((w3.alloc (.cells (v3 0 0 0) 24)).alloc (.cells (v3 0 0 0) 24)).alloc (.cells (v3 0 0 0) 24)).drew.setRow w3.heap.size (v3 (X (0 * 3)) (X (0 * 3 + 1)) (X (0 * 3 + 2)))).setRow (w3.heap.size + 1 + 1) (v3 (X (1 * 3)) (X (1 * 3 + 1)) (X (1 * 3 + 2)))).setRow (w3.heap.size + 1) (v3 (X (2 * 3)) (X (2 * 3 + 1)) (X (2 * 3 + 2))))) := hide (Gen.four4 (x2.blk (g := (w.heap.size + 1)) (t := 54) (cs := z8) (by repeat (first | exact List.mem_cons_self | apply List.mem_cons_of_mem))) (((y0.row (v3 (X (0 * 3)) (X (0 * 3 + 1)) (X (0 * 3 + 2)))).rowOther (k := w3.drew.heap.size + 1 + 1) (v3 (X (1 * 3)) (X (1 * 3 + 1)) (X (1 * 3 + 2))) (by omega)).rowOther (k := w3.drew.heap.size + 1) (v3 (X (2 * 3)) (X (2 * 3 + 1)) (X (2 * 3 + 2))) (by omega)) ((y1.row (v3 (X (1 * 3)) (X (1 * 3 + 1)) (X (1 * 3 + 2)))).rowOther (k := w3.drew.heap.size + 1) (v3 (X (2 * 3)) (X (2 * 3 + 1)) (X (2 * 3 + 2))) (by omega)) (y2.row (v3 (X (2 * 3)) (X (2 * 3 + 1)) (X (2 * 3 + 2)))) x2.o)
        clear E1 E2 E3 b0 b1 b2 x0 x1 x2 y0 y1 y2
        generalize ((((((w3.alloc (.cells (v3 0 0 0) 24)).alloc (.cells (v3 0 0 0) 24)).alloc (.cells (v3 0 0 0) 24)).drew.setRow w3.heap.size (v3 (X (0 * 3)) (X (0 * 3 + 1)) (X (0 * 3 + 2)))).setRow (w3.heap.size + 1 + 1) (v3 (X (1 * 3)) (X (1 * 3 + 1)) (X (1 * 3 + 2)))).setRow (w3.heap.size + 1) (v3 (X (2 * 3)) (X (2 * 3 + 1)) (X (2 * 3 + 2)))) = u1 at F ⊢
        generalize w3.heap.size + 1 + 1 = c1 at F ⊢
        generalize w3.heap.size + 1 = c2 at F ⊢
        generalize w3.heap.size = c0 at F ⊢
        exact rest c0 c1 c2 u1 F
    rcases List.mem_cons.1 hl with rfl | hl
    · as_aux_lemma =>
        refine walk_read (v := ?_) rfl rfl rfl (fun u hS => by go_simp; rfl) ?_
        go_simp
        refine walk_read (v := .pointer (some ⟨w.heap.size, 0 * 3, none⟩)) rfl rfl rfl (fun u hS => exec_ix3 (k := 0) u (.tmp 8) (.const (.int .i64 0)) (by decide) rfl rfl rfl) ?_
        go_simp
        refine walk_read (v := .agg (v3 (X (0 * 3)) (X (0 * 3 + 1)) (X (0 * 3 + 2)))) rfl rfl rfl (fun u hS => exec_ldRow (k := 0) (.tmp 9) rfl rfl (hS.blk (g := w.heap.size) (t := 27) (cs := m9 X) (by repeat (first | exact List.mem_cons_self | apply List.mem_cons_of_mem))) (by decide)) ?_
        go_simp
        refine walk_read (v := ?_) rfl rfl rfl (fun u hS => by go_simp; rfl) ?_
        go_simp
        refine walk_read (v := .pointer (some ⟨w.heap.size, 1 * 3, none⟩)) rfl rfl rfl (fun u hS => exec_ix3 (k := 1) u (.tmp 11) (.const (.int .i64 1)) (by decide) rfl rfl rfl) ?_
        go_simp
        refine walk_read (v := .agg (v3 (X (1 * 3)) (X (1 * 3 + 1)) (X (1 * 3 + 2)))) rfl rfl rfl (fun u hS => exec_ldRow (k := 1) (.tmp 12) rfl rfl (hS.blk (g := w.heap.size) (t := 27) (cs := m9 X) (by repeat (first | exact List.mem_cons_self | apply List.mem_cons_of_mem))) (by decide)) ?_
        go_simp
        refine walk_read (v := ?_) rfl rfl rfl (fun u hS => by go_simp; rfl) ?_
        go_simp
        refine walk_read (v := .pointer (some ⟨w.heap.size, 2 * 3, none⟩)) rfl rfl rfl (fun u hS => exec_ix3 (k := 2) u (.tmp 14) (.const (.int .i64 2)) (by decide) rfl rfl rfl) ?_
        go_simp
        refine walk_read (v := .agg (v3 (X (2 * 3)) (X (2 * 3 + 1)) (X (2 * 3 + 2)))) rfl rfl rfl (fun u hS => exec_ldRow (k := 2) (.tmp 15) rfl rfl (hS.blk (g := w.heap.size) (t := 27) (cs := m9 X) (by repeat (first | exact List.mem_cons_self | apply List.mem_cons_of_mem))) (by decide)) ?_
        go_simp
        refine walk_turn (v := ptr (w3.drew.heap.size)) (w' := (w3.drew.alloc (.cells (v3 0 0 0) 24))) rfl rfl rfl (by go_simp) E1.tail ?_
        go_simp
        refine walk_turn (v := ptr (w3.drew.heap.size + 1)) (w' := ((w3.drew.alloc (.cells (v3 0 0 0) 24)).alloc (.cells (v3 0 0 0) 24))) rfl rfl rfl (by go_simp) E2.tail.tail ?_
        go_simp
        refine walk_turn (v := ptr (w3.drew.heap.size + 1 + 1)) (w' := (((w3.drew.alloc (.cells (v3 0 0 0) 24)).alloc (.cells (v3 0 0 0) 24)).alloc (.cells (v3 0 0 0) 24))) rfl rfl rfl (by go_simp) E3.tail.tail.tail ?_
        go_simp
        have x0 := (E3.tail.tail.tail).rowIn (g := w3.drew.heap.size + 1) (fun p hp => by simp only [List.mem_cons, List.not_mem_nil, or_false] at hp; rcases hp with rfl | rfl | rfl; exact Nat.ne_of_lt (show w.heap.size < _ by simp only [szD]; omega); exact Nat.ne_of_lt (show (w.heap.size + 1) < _ by simp only [szD]; omega); exact Nat.ne_of_lt (show w.heap.size < _ by simp only [szD]; omega)) (by simp only [szD]; omega) (v3 (X (0 * 3)) (X (0 * 3 + 1)) (X (0 * 3 + 2)))
        have y0 := b1
        refine walk_storeQ rfl rfl rfl (exec_store3 (.tmp 3) (.tmp 10) y0 rfl rfl rfl) x0 ?_
        go_simp
        have x1 := (x0).rowIn (g := w3.drew.heap.size) (fun p hp => by simp only [List.mem_cons, List.not_mem_nil, or_false] at hp; rcases hp with rfl | rfl | rfl; exact Nat.ne_of_lt (show w.heap.size < _ by simp only [szD]; omega); exact Nat.ne_of_lt (show (w.heap.size + 1) < _ by simp only [szD]; omega); exact Nat.ne_of_lt (show w.heap.size < _ by simp only [szD]; omega)) (by simp only [szD]; omega) (v3 (X (1 * 3)) (X (1 * 3 + 1)) (X (1 * 3 + 2)))
        have y1 := (b0.rowOther (k := w3.drew.heap.size + 1) (v3 (X (0 * 3)) (X (0 * 3 + 1)) (X (0 * 3 + 2))) (by omega))
        refine walk_storeQ rfl rfl rfl (exec_store3 (.tmp 4) (.tmp 13) y1 rfl rfl rfl) x1 ?_
        go_simp
        have x2 := (x1).rowIn (g := w3.drew.heap.size + 1 + 1) (fun p hp => by simp only [List.mem_cons, List.not_mem_nil, or_false] at hp; rcases hp with rfl | rfl | rfl; exact Nat.ne_of_lt (show w.heap.size < _ by simp only [szD]; omega); exact Nat.ne_of_lt (show (w.heap.size + 1) < _ by simp only [szD]; omega); exact Nat.ne_of_lt (show w.heap.size < _ by simp only [szD]; omega)) (by simp only [szD]; omega) (v3 (X (2 * 3)) (X (2 * 3 + 1)) (X (2 * 3 + 2)))
        have y2 := ((b2.rowOther (k := w3.drew.heap.size + 1) (v3 (X (0 * 3)) (X (0 * 3 + 1)) (X (0 * 3 + 2))) (by omega)).rowOther (k := w3.drew.heap.size) (v3 (X (1 * 3)) (X (1 * 3 + 1)) (X (1 * 3 + 2))) (by omega))
        refine walk_storeQ rfl rfl rfl (exec_store3 (.tmp 5) (.tmp 16) y2 rfl rfl rfl) x2 ?_
        go_simp
        refine walk_end ?_
        have F : Hid (Gen w [((w.heap.size + 1), 54, z8), (w3.heap.size + 1, 24, v3 (X (0 * 3)) (X (0 * 3 + 1)) (X (0 * 3 + 2))), (w3.heap.size, 24, v3 (X (1 * 3)) (X (1 * 3 + 1)) (X (1 * 3 + 2))), (w3.heap.size + 1 + 1, 24, v3 (X (2 * 3)) (X (2 * 3 + 1)) (X (2 * 3 + 2)))] ((((((w3.alloc (.cells (v3 0 0 0) 24)).alloc (.cells (v3 0 0 0) 24)).alloc (.cells (v3 0 0 0) 24)).drew.setRow (w3.heap.size + 1) (v3 (X (0 * 3)) (X (0 * 3 + 1)) (X (0 * 3 + 2)))).setRow w3.heap.size (v3 (X (1 * 3)) (X (1 * 3 + 1)) (X (1 * 3 + 2)))).setRow (w3.heap.size + 1 + 1) (v3 (X (2 * 3)) (X (2 * 3 + 1)) (X (2 * 3 + 2))))) := hide (Gen.four4 (x2.blk (g := (w.heap.size + 1)) (t := 54) (cs := z8) (by repeat (first | exact List.mem_cons_self | apply List.mem_cons_of_mem))) (((y0.row (v3 (X (0 * 3)) (X (0 * 3 + 1)) (X (0 * 3 + 2)))).rowOther (k := w3.drew.heap.size) (v3 (X (1 * 3)) (X (1 * 3 + 1)) (X (1 * 3 + 2))) (by omega)).rowOther (k := w3.drew.heap.size + 1 + 1) (v3 (X (2 * 3)) (X (2 * 3 + 1)) (X (2 * 3 + 2))) (by omega)) ((y1.row (v3 (X (1 * 3)) (X (1 * 3 + 1)) (X (1 * 3 + 2)))).rowOther (k := w3.drew.heap.size + 1 + 1) (v3 (X (2 * 3)) (X (2 * 3 + 1)) (X (2 * 3 + 2))) (by omega)) (y2.row (v3 (X (2 * 3)) (X (2 * 3 + 1)) (X (2 * 3 + 2)))) x2.o)
        clear E1 E2 E3 b0 b1 b2 x0 x1 x2 y0 y1 y2
        generalize ((((((w3.alloc (.cells (v3 0 0 0) 24)).alloc (.cells (v3 0 0 0) 24)).alloc (.cells (v3 0 0 0) 24)).drew.setRow (w3.heap.size + 1) (v3 (X (0 * 3)) (X (0 * 3 + 1)) (X (0 * 3 + 2)))).setRow w3.heap.size (v3 (X (1 * 3)) (X (1 * 3 + 1)) (X (1 * 3 + 2)))).setRow (w3.heap.size + 1 + 1) (v3 (X (2 * 3)) (X (2 * 3 + 1)) (X (2 * 3 + 2)))) = u1 at F ⊢
        generalize w3.heap.size + 1 + 1 = c2 at F ⊢
        generalize w3.heap.size + 1 = c0 at F ⊢
        generalize w3.heap.size = c1 at F ⊢
        exact rest c0 c1 c2 u1 F
    rcases List.mem_cons.1 hl with rfl | hl
    · as_aux_lemma =>
        refine walk_read (v := ?_) rfl rfl rfl (fun u hS => by go_simp; rfl) ?_
        go_simp
        refine walk_read (v := .pointer (some ⟨w.heap.size, 0 * 3, none⟩)) rfl rfl rfl (fun u hS => exec_ix3 (k := 0) u (.tmp 8) (.const (.int .i64 0)) (by decide) rfl rfl rfl) ?_
        go_simp
        refine walk_read (v := .agg (v3 (X (0 * 3)) (X (0 * 3 + 1)) (X (0 * 3 + 2)))) rfl rfl rfl (fun u hS => exec_ldRow (k := 0) (.tmp 9) rfl rfl (hS.blk (g := w.heap.size) (t := 27) (cs := m9 X) (by repeat (first | exact List.mem_cons_self | apply List.mem_cons_of_mem))) (by decide)) ?_
        go_simp
        refine walk_read (v := ?_) rfl rfl rfl (fun u hS => by go_simp; rfl) ?_
        go_simp
        refine walk_read (v := .pointer (some ⟨w.heap.size, 1 * 3, none⟩)) rfl rfl rfl (fun u hS => exec_ix3 (k := 1) u (.tmp 11) (.const (.int .i64 1)) (by decide) rfl rfl rfl) ?_
        go_simp
        refine walk_read (v := .agg (v3 (X (1 * 3)) (X (1 * 3 + 1)) (X (1 * 3 + 2)))) rfl rfl rfl (fun u hS => exec_ldRow (k := 1) (.tmp 12) rfl rfl (hS.blk (g := w.heap.size) (t := 27) (cs := m9 X) (by repeat (first | exact List.mem_cons_self | apply List.mem_cons_of_mem))) (by decide)) ?_
        go_simp
        refine walk_read (v := ?_) rfl rfl rfl (fun u hS => by go_simp; rfl) ?_
        go_simp
        refine walk_read (v := .pointer (some ⟨w.heap.size, 2 * 3, none⟩)) rfl rfl rfl (fun u hS => exec_ix3 (k := 2) u (.tmp 14) (.const (.int .i64 2)) (by decide) rfl rfl rfl) ?_
        go_simp
        refine walk_read (v := .agg (v3 (X (2 * 3)) (X (2 * 3 + 1)) (X (2 * 3 + 2)))) rfl rfl rfl (fun u hS => exec_ldRow (k := 2) (.tmp 15) rfl rfl (hS.blk (g := w.heap.size) (t := 27) (cs := m9 X) (by repeat (first | exact List.mem_cons_self | apply List.mem_cons_of_mem))) (by decide)) ?_
        go_simp
        refine walk_turn (v := ptr (w3.drew.heap.size)) (w' := (w3.drew.alloc (.cells (v3 0 0 0) 24))) rfl rfl rfl (by go_simp) E1.tail ?_
        go_simp
        refine walk_turn (v := ptr (w3.drew.heap.size + 1)) (w' := ((w3.drew.alloc (.cells (v3 0 0 0) 24)).alloc (.cells (v3 0 0 0) 24))) rfl rfl rfl (by go_simp) E2.tail.tail ?_
        go_simp
        refine walk_turn (v := ptr (w3.drew.heap.size + 1 + 1)) (w' := (((w3.drew.alloc (.cells (v3 0 0 0) 24)).alloc (.cells (v3 0 0 0) 24)).alloc (.cells (v3 0 0 0) 24))) rfl rfl rfl (by go_simp) E3.tail.tail.tail ?_
        go_simp
        have x0 := (E3.tail.tail.tail).rowIn (g := w3.drew.heap.size + 1 + 1) (fun p hp => by simp only [List.mem_cons, List.not_mem_nil, or_false] at hp; rcases hp with rfl | rfl | rfl; exact Nat.ne_of_lt (show w.heap.size < _ by simp only [szD]; omega); exact Nat.ne_of_lt (show (w.heap.size + 1) < _ by simp only [szD]; omega); exact Nat.ne_of_lt (show w.heap.size < _ by simp only [szD]; omega)) (by simp only [szD]; omega) (v3 (X (0 * 3)) (X (0 * 3 + 1)) (X (0 * 3 + 2)))
        have y0 := b2
        refine walk_storeQ rfl rfl rfl (exec_store3 (.tmp 3) (.tmp 10) y0 rfl rfl rfl) x0 ?_
        go_simp
        have x1 := (x0).rowIn (g := w3.drew.heap.size) (fun p hp => by simp only [List.mem_cons, List.not_mem_nil, or_false] at hp; rcases hp with rfl | rfl | rfl; exact Nat.ne_of_lt (show w.heap.size < _ by simp only [szD]; omega); exact Nat.ne_of_lt (show (w.heap.size + 1) < _ by simp only [szD]; omega); exact Nat.ne_of_lt (show w.heap.size < _ by simp only [szD]; omega)) (by simp only [szD]; omega) (v3 (X (1 * 3)) (X (1 * 3 + 1)) (X (1 * 3 + 2)))
        have y1 := (b0.rowOther (k := w3.drew.heap.size + 1 + 1) (v3 (X (0 * 3)) (X (0 * 3 + 1)) (X (0 * 3 + 2))) (by omega))
        refine walk_storeQ rfl rfl rfl (exec_store3 (.tmp 4) (.tmp 13) y1 rfl rfl rfl) x1 ?_
        go_simp
        have x2 := (x1).rowIn (g := w3.drew.heap.size + 1) (fun p hp => by simp only [List.mem_cons, List.not_mem_nil, or_false] at hp; rcases hp with rfl | rfl | rfl; exact Nat.ne_of_lt (show w.heap.size < _ by simp only [szD]; omega); exact Nat.ne_of_lt (show (w.heap.size + 1) < _ by simp only [szD]; omega); exact Nat.ne_of_lt (show w.heap.size < _ by simp only [szD]; omega)) (by simp only [szD]; omega) (v3 (X (2 * 3)) (X (2 * 3 + 1)) (X (2 * 3 + 2)))
        have y2 := ((b1.rowOther (k := w3.drew.heap.size + 1 + 1) (v3 (X (0 * 3)) (X (0 * 3 + 1)) (X (0 * 3 + 2))) (by omega)).rowOther (k := w3.drew.heap.size) (v3 (X (1 * 3)) (X (1 * 3 + 1)) (X (1 * 3 + 2))) (by omega))
        refine walk_storeQ rfl rfl rfl (exec_store3 (.tmp 5) (.tmp 16) y2 rfl rfl rfl) x2 ?_
        go_simp
        refine walk_end ?_
        have F : Hid (Gen w [((w.heap.size + 1), 54, z8), (w3.heap.size + 1 + 1, 24, v3 (X (0 * 3)) (X (0 * 3 + 1)) (X (0 * 3 + 2))), (w3.heap.size, 24, v3 (X (1 * 3)) (X (1 * 3 + 1)) (X (1 * 3 + 2))), (w3.heap.size + 1, 24, v3 (X (2 * 3)) (X (2 * 3 + 1)) (X (2 * 3 + 2)))] ((((((w3.alloc (.cells (v3 0 0 0) 24)).alloc (.cells (v3 0 0 0) 24)).alloc (.cells (v3 0 0 0) 24)).drew.setRow (w3.heap.size + 1 + 1) (v3 (X (0 * 3)) (X (0 * 3 + 1)) (X (0 * 3 + 2)))).setRow w3.heap.size (v3 (X (1 * 3)) (X (1 * 3 + 1)) (X (1 * 3 + 2)))).setRow (w3.heap.size + 1) (v3 (X (2 * 3)) (X (2 * 3 + 1)) (X (2 * 3 + 2))))) := hide (Gen.four4 (x2.blk (g := (w.heap.size + 1)) (t := 54) (cs := z8) (by repeat (first | exact List.mem_cons_self | apply List.mem_cons_of_mem))) (((y0.row (v3 (X (0 * 3)) (X (0 * 3 + 1)) (X (0 * 3 + 2)))).rowOther (k := w3.drew.heap.size) (v3 (X (1 * 3)) (X (1 * 3 + 1)) (X (1 * 3 + 2))) (by omega)).rowOther (k := w3.drew.heap.size + 1) (v3 (X (2 * 3)) (X (2 * 3 + 1)) (X (2 * 3 + 2))) (by omega)) ((y1.row (v3 (X (1 * 3)) (X (1 * 3 + 1)) (X (1 * 3 + 2)))).rowOther (k := w3.drew.heap.size + 1) (v3 (X (2 * 3)) (X (2 * 3 + 1)) (X (2 * 3 + 2))) (by omega)) (y2.row (v3 (X (2 * 3)) (X (2 * 3 + 1)) (X (2 * 3 + 2)))) x2.o)
        clear E1 E2 E3 b0 b1 b2 x0 x1 x2 y0 y1 y2
        generalize ((((((w3.alloc (.cells (v3 0 0 0) 24)).alloc (.cells (v3 0 0 0) 24)).alloc (.cells (v3 0 0 0) 24)).drew.setRow (w3.heap.size + 1 + 1) (v3 (X (0 * 3)) (X (0 * 3 + 1)) (X (0 * 3 + 2)))).setRow w3.heap.size (v3 (X (1 * 3)) (X (1 * 3 + 1)) (X (1 * 3 + 2)))).setRow (w3.heap.size + 1) (v3 (X (2 * 3)) (X (2 * 3 + 1)) (X (2 * 3 + 2)))) = u1 at F ⊢
        generalize w3.heap.size + 1 + 1 = c0 at F ⊢
        generalize w3.heap.size + 1 = c2 at F ⊢
        generalize w3.heap.size = c1 at F ⊢
        exact rest c0 c1 c2 u1 F
    rcases List.mem_cons.1 hl with rfl | hl
    · as_aux_lemma =>
        refine walk_read (v := ?_) rfl rfl rfl (fun u hS => by go_simp; rfl) ?_
        go_simp
        refine walk_read (v := .pointer (some ⟨w.heap.size, 0 * 3, none⟩)) rfl rfl rfl (fun u hS => exec_ix3 (k := 0) u (.tmp 8) (.const (.int .i64 0)) (by decide) rfl rfl rfl) ?_
        go_simp
        refine walk_read (v := .agg (v3 (X (0 * 3)) (X (0 * 3 + 1)) (X (0 * 3 + 2)))) rfl rfl rfl (fun u hS => exec_ldRow (k := 0) (.tmp 9) rfl rfl (hS.blk (g := w.heap.size) (t := 27) (cs := m9 X) (by repeat (first | exact List.mem_cons_self | apply List.mem_cons_of_mem))) (by decide)) ?_
        go_simp
        refine walk_read (v := ?_) rfl rfl rfl (fun u hS => by go_simp; rfl) ?_
        go_simp
        refine walk_read (v := .pointer (some ⟨w.heap.size, 1 * 3, none⟩)) rfl rfl rfl (fun u hS => exec_ix3 (k := 1) u (.tmp 11) (.const (.int .i64 1)) (by decide) rfl rfl rfl) ?_
        go_simp
        refine walk_read (v := .agg (v3 (X (1 * 3)) (X (1 * 3 + 1)) (X (1 * 3 + 2)))) rfl rfl rfl (fun u hS => exec_ldRow (k := 1) (.tmp 12) rfl rfl (hS.blk (g := w.heap.size) (t := 27) (cs := m9 X) (by repeat (first | exact List.mem_cons_self | apply List.mem_cons_of_mem))) (by decide)) ?_
        go_simp
        refine walk_read (v := ?_) rfl rfl rfl (fun u hS => by go_simp; rfl) ?_
        go_simp
        refine walk_read (v := .pointer (some ⟨w.heap.size, 2 * 3, none⟩)) rfl rfl rfl (fun u hS => exec_ix3 (k := 2) u (.tmp 14) (.const (.int .i64 2)) (by decide) rfl rfl rfl) ?_
        go_simp
        refine walk_read (v := .agg (v3 (X (2 * 3)) (X (2 * 3 + 1)) (X (2 * 3 + 2)))) rfl rfl rfl (fun u hS => exec_ldRow (k := 2) (.tmp 15) rfl rfl (hS.blk (g := w.heap.size) (t := 27) (cs := m9 X) (by repeat (first | exact List.mem_cons_self | apply List.mem_cons_of_mem))) (by decide)) ?_
        go_simp
        refine walk_turn (v := ptr (w3.drew.heap.size)) (w' := (w3.drew.alloc (.cells (v3 0 0 0) 24))) rfl rfl rfl (by go_simp) E1.tail ?_
        go_simp
        refine walk_turn (v := ptr (w3.drew.heap.size + 1)) (w' := ((w3.drew.alloc (.cells (v3 0 0 0) 24)).alloc (.cells (v3 0 0 0) 24))) rfl rfl rfl (by go_simp) E2.tail.tail ?_
        go_simp
        refine walk_turn (v := ptr (w3.drew.heap.size + 1 + 1)) (w' := (((w3.drew.alloc (.cells (v3 0 0 0) 24)).alloc (.cells (v3 0 0 0) 24)).alloc (.cells (v3 0 0 0) 24))) rfl rfl rfl (by go_simp) E3.tail.tail.tail ?_
        go_simp
        have x0 := (E3.tail.tail.tail).rowIn (g := w3.drew.heap.size + 1) (fun p hp => by simp only [List.mem_cons, List.not_mem_nil, or_false] at hp; rcases hp with rfl | rfl | rfl; exact Nat.ne_of_lt (show w.heap.size < _ by simp only [szD]; omega); exact Nat.ne_of_lt (show (w.heap.size + 1) < _ by simp only [szD]; omega); exact Nat.ne_of_lt (show w.heap.size < _ by simp only [szD]; omega)) (by simp only [szD]; omega) (v3 (X (0 * 3)) (X (0 * 3 + 1)) (X (0 * 3 + 2)))
        have y0 := b1
        refine walk_storeQ rfl rfl rfl (exec_store3 (.tmp 3) (.tmp 10) y0 rfl rfl rfl) x0 ?_
        go_simp
        have x1 := (x0).rowIn (g := w3.drew.heap.size + 1 + 1) (fun p hp => by simp only [List.mem_cons, List.not_mem_nil, or_false] at hp; rcases hp with rfl | rfl | rfl; exact Nat.ne_of_lt (show w.heap.size < _ by simp only [szD]; omega); exact Nat.ne_of_lt (show (w.heap.size + 1) < _ by simp only [szD]; omega); exact Nat.ne_of_lt (show w.heap.size < _ by simp only [szD]; omega)) (by simp only [szD]; omega) (v3 (X (1 * 3)) (X (1 * 3 + 1)) (X (1 * 3 + 2)))
        have y1 := (b2.rowOther (k := w3.drew.heap.size + 1) (v3 (X (0 * 3)) (X (0 * 3 + 1)) (X (0 * 3 + 2))) (by omega))
        refine walk_storeQ rfl rfl rfl (exec_store3 (.tmp 4) (.tmp 13) y1 rfl rfl rfl) x1 ?_
        go_simp
        have x2 := (x1).rowIn (g := w3.drew.heap.size) (fun p hp => by simp only [List.mem_cons, List.not_mem_nil, or_false] at hp; rcases hp with rfl | rfl | rfl; exact Nat.ne_of_lt (show w.heap.size < _ by simp only [szD]; omega); exact Nat.ne_of_lt (show (w.heap.size + 1) < _ by simp only [szD]; omega); exact Nat.ne_of_lt (show w.heap.size < _ by simp only [szD]; omega)) (by simp only [szD]; omega) (v3 (X (2 * 3)) (X (2 * 3 + 1)) (X (2 * 3 + 2)))
        have y2 := ((b0.rowOther (k := w3.drew.heap.size + 1) (v3 (X (0 * 3)) (X (0 * 3 + 1)) (X (0 * 3 + 2))) (by omega)).rowOther (k := w3.drew.heap.size + 1 + 1) (v3 (X (1 * 3)) (X (1 * 3 + 1)) (X (1 * 3 + 2))) (by omega))
        refine walk_storeQ rfl rfl rfl (exec_store3 (.tmp 5) (.tmp 16) y2 rfl rfl rfl) x2 ?_
        go_simp
        refine walk_end ?_
        have F : Hid (Gen w [((w.heap.size + 1), 54, z8), (w3.heap.size + 1, 24, v3 (X (0 * 3)) (X (0 * 3 + 1)) (X (0 * 3 + 2))), (w3.heap.size + 1 + 1, 24, v3 (X (1 * 3)) (X (1 * 3 + 1)) (X (1 * 3 + 2))), (w3.heap.size, 24, v3 (X (2 * 3)) (X (2 * 3 + 1)) (X (2 * 3 + 2)))] ((((((w3.alloc (.cells (v3 0 0 0) 24)).alloc (.cells (v3 0 0 0) 24)).alloc (.cells (v3 0 0 0) 24)).drew.setRow (w3.heap.size + 1) (v3 (X (0 * 3)) (X (0 * 3 + 1)) (X (0 * 3 + 2)))).setRow (w3.heap.size + 1 + 1) (v3 (X (1 * 3)) (X (1 * 3 + 1)) (X (1 * 3 + 2)))).setRow w3.heap.size (v3 (X (2 * 3)) (X (2 * 3 + 1)) (X (2 * 3 + 2))))) := hide (Gen.four4 (x2.blk (g := (w.heap.size + 1)) (t := 54) (cs := z8) (by repeat (first | exact List.mem_cons_self | apply List.mem_cons_of_mem))) (((y0.row (v3 (X (0 * 3)) (X (0 * 3 + 1)) (X (0 * 3 + 2)))).rowOther (k := w3.drew.heap.size + 1 + 1) (v3 (X (1 * 3)) (X (1 * 3 + 1)) (X (1 * 3 + 2))) (by omega)).rowOther (k := w3.drew.heap.size) (v3 (X (2 * 3)) (X (2 * 3 + 1)) (X (2 * 3 + 2))) (by omega)) ((y1.row (v3 (X (1 * 3)) (X (1 * 3 + 1)) (X (1 * 3 + 2)))).rowOther (k := w3.drew.heap.size) (v3 (X (2 * 3)) (X (2 * 3 + 1)) (X (2 * 3 + 2))) (by omega)) (y2.row (v3 (X (2 * 3)) (X (2 * 3 + 1)) (X (2 * 3 + 2)))) x2.o)
        clear E1 E2 E3 b0 b1 b2 x0 x1 x2 y0 y1 y2
        generalize ((((((w3.alloc (.cells (v3 0 0 0) 24)).alloc (.cells (v3 0 0 0) 24)).alloc (.cells (v3 0 0 0) 24)).drew.setRow (w3.heap.size + 1) (v3 (X (0 * 3)) (X (0 * 3 + 1)) (X (0 * 3 + 2)))).setRow (w3.heap.size + 1 + 1) (v3 (X (1 * 3)) (X (1 * 3 + 1)) (X (1 * 3 + 2)))).setRow w3.heap.size (v3 (X (2 * 3)) (X (2 * 3 + 1)) (X (2 * 3 + 2)))) = u1 at F ⊢
        generalize w3.heap.size + 1 + 1 = c1 at F ⊢
        generalize w3.heap.size + 1 = c0 at F ⊢
        generalize w3.heap.size = c2 at F ⊢
        exact rest c0 c1 c2 u1 F
    rcases List.mem_cons.1 hl with rfl | hl
    · as_aux_lemma =>
        refine walk_read (v := ?_) rfl rfl rfl (fun u hS => by go_simp; rfl) ?_
        go_simp
        refine walk_read (v := .pointer (some ⟨w.heap.size, 0 * 3, none⟩)) rfl rfl rfl (fun u hS => exec_ix3 (k := 0) u (.tmp 8) (.const (.int .i64 0)) (by decide) rfl rfl rfl) ?_
        go_simp
        refine walk_read (v := .agg (v3 (X (0 * 3)) (X (0 * 3 + 1)) (X (0 * 3 + 2)))) rfl rfl rfl (fun u hS => exec_ldRow (k := 0) (.tmp 9) rfl rfl (hS.blk (g := w.heap.size) (t := 27) (cs := m9 X) (by repeat (first | exact List.mem_cons_self | apply List.mem_cons_of_mem))) (by decide)) ?_
        go_simp
        refine walk_read (v := ?_) rfl rfl rfl (fun u hS => by go_simp; rfl) ?_
        go_simp
        refine walk_read (v := .pointer (some ⟨w.heap.size, 1 * 3, none⟩)) rfl rfl rfl (fun u hS => exec_ix3 (k := 1) u (.tmp 11) (.const (.int .i64 1)) (by decide) rfl rfl rfl) ?_
        go_simp
        refine walk_read (v := .agg (v3 (X (1 * 3)) (X (1 * 3 + 1)) (X (1 * 3 + 2)))) rfl rfl rfl (fun u hS => exec_ldRow (k := 1) (.tmp 12) rfl rfl (hS.blk (g := w.heap.size) (t := 27) (cs := m9 X) (by repeat (first | exact List.mem_cons_self | apply List.mem_cons_of_mem))) (by decide)) ?_
        go_simp
        refine walk_read (v := ?_) rfl rfl rfl (fun u hS => by go_simp; rfl) ?_
        go_simp
        refine walk_read (v := .pointer (some ⟨w.heap.size, 2 * 3, none⟩)) rfl rfl rfl (fun u hS => exec_ix3 (k := 2) u (.tmp 14) (.const (.int .i64 2)) (by decide) rfl rfl rfl) ?_
        go_simp
        refine walk_read (v := .agg (v3 (X (2 * 3)) (X (2 * 3 + 1)) (X (2 * 3 + 2)))) rfl rfl rfl (fun u hS => exec_ldRow (k := 2) (.tmp 15) rfl rfl (hS.blk (g := w.heap.size) (t := 27) (cs := m9 X) (by repeat (first | exact List.mem_cons_self | apply List.mem_cons_of_mem))) (by decide)) ?_
        go_simp
        refine walk_turn (v := ptr (w3.drew.heap.size)) (w' := (w3.drew.alloc (.cells (v3 0 0 0) 24))) rfl rfl rfl (by go_simp) E1.tail ?_
        go_simp
        refine walk_turn (v := ptr (w3.drew.heap.size + 1)) (w' := ((w3.drew.alloc (.cells (v3 0 0 0) 24)).alloc (.cells (v3 0 0 0) 24))) rfl rfl rfl (by go_simp) E2.tail.tail ?_
        go_simp
        refine walk_turn (v := ptr (w3.drew.heap.size + 1 + 1)) (w' := (((w3.drew.alloc (.cells (v3 0 0 0) 24)).alloc (.cells (v3 0 0 0) 24)).alloc (.cells (v3 0 0 0) 24))) rfl rfl rfl (by go_simp) E3.tail.tail.tail ?_
        go_simp
        have x0 := (E3.tail.tail.tail).rowIn (g := w3.drew.heap.size + 1 + 1) (fun p hp => by simp only [List.mem_cons, List.not_mem_nil, or_false] at hp; rcases hp with rfl | rfl | rfl; exact Nat.ne_of_lt (show w.heap.size < _ by simp only [szD]; omega); exact Nat.ne_of_lt (show (w.heap.size + 1) < _ by simp only [szD]; omega); exact Nat.ne_of_lt (show w.heap.size < _ by simp only [szD]; omega)) (by simp only [szD]; omega) (v3 (X (0 * 3)) (X (0 * 3 + 1)) (X (0 * 3 + 2)))
        have y0 := b2
        refine walk_storeQ rfl rfl rfl (exec_store3 (.tmp 3) (.tmp 10) y0 rfl rfl rfl) x0 ?_
        go_simp
        have x1 := (x0).rowIn (g := w3.drew.heap.size + 1) (fun p hp => by simp only [List.mem_cons, List.not_mem_nil, or_false] at hp; rcases hp with rfl | rfl | rfl; exact Nat.ne_of_lt (show w.heap.size < _ by simp only [szD]; omega); exact Nat.ne_of_lt (show (w.heap.size + 1) < _ by simp only [szD]; omega); exact Nat.ne_of_lt (show w.heap.size < _ by simp only [szD]; omega)) (by simp only [szD]; omega) (v3 (X (1 * 3)) (X (1 * 3 + 1)) (X (1 * 3 + 2)))
        have y1 := (b1.rowOther (k := w3.drew.heap.size + 1 + 1) (v3 (X (0 * 3)) (X (0 * 3 + 1)) (X (0 * 3 + 2))) (by omega))
        refine walk_storeQ rfl rfl rfl (exec_store3 (.tmp 4) (.tmp 13) y1 rfl rfl rfl) x1 ?_
        go_simp
        have x2 := (x1).rowIn (g := w3.drew.heap.size) (fun p hp => by simp only [List.mem_cons, List.not_mem_nil, or_false] at hp; rcases hp with rfl | rfl | rfl; exact Nat.ne_of_lt (show w.heap.size < _ by simp only [szD]; omega); exact Nat.ne_of_lt (show (w.heap.size + 1) < _ by simp only [szD]; omega); exact Nat.ne_of_lt (show w.heap.size < _ by simp only [szD]; omega)) (by simp only [szD]; omega) (v3 (X (2 * 3)) (X (2 * 3 + 1)) (X (2 * 3 + 2)))
        have y2 := ((b0.rowOther (k := w3.drew.heap.size + 1 + 1) (v3 (X (0 * 3)) (X (0 * 3 + 1)) (X (0 * 3 + 2))) (by omega)).rowOther (k := w3.drew.heap.size + 1) (v3 (X (1 * 3)) (X (1 * 3 + 1)) (X (1 * 3 + 2))) (by omega))
        refine walk_storeQ rfl rfl rfl (exec_store3 (.tmp 5) (.tmp 16) y2 rfl rfl rfl) x2 ?_
        go_simp
        refine walk_end ?_
        have F : Hid (Gen w [((w.heap.size + 1), 54, z8), (w3.heap.size + 1 + 1, 24, v3 (X (0 * 3)) (X (0 * 3 + 1)) (X (0 * 3 + 2))), (w3.heap.size + 1, 24, v3 (X (1 * 3)) (X (1 * 3 + 1)) (X (1 * 3 + 2))), (w3.heap.size, 24, v3 (X (2 * 3)) (X (2 * 3 + 1)) (X (2 * 3 + 2)))] ((((((w3.alloc (.cells (v3 0 0 0) 24)).alloc (.cells (v3 0 0 0) 24)).alloc (.cells (v3 0 0 0) 24)).drew.setRow (w3.heap.size + 1 + 1) (v3 (X (0 * 3)) (X (0 * 3 + 1)) (X (0 * 3 + 2)))).setRow (w3.heap.size + 1) (v3 (X (1 * 3)) (X (1 * 3 + 1)) (X (1 * 3 + 2)))).setRow w3.heap.size (v3 (X (2 * 3)) (X (2 * 3 + 1)) (X (2 * 3 + 2))))) := hide (Gen.four4 (x2.blk (g := (w.heap.size + 1)) (t := 54) (cs := z8) (by repeat (first | exact List.mem_cons_self | apply List.mem_cons_of_mem))) (((y0.row (v3 (X (0 * 3)) (X (0 * 3 + 1)) (X (0 * 3 + 2)))).rowOther (k := w3.drew.heap.size + 1) (v3 (X (1 * 3)) (X (1 * 3 + 1)) (X (1 * 3 + 2))) (by omega)).rowOther (k := w3.drew.heap.size) (v3 (X (2 * 3)) (X (2 * 3 + 1)) (X (2 * 3 + 2))) (by omega)) ((y1.row (v3 (X (1 * 3)) (X (1 * 3 + 1)) (X (1 * 3 + 2)))).rowOther (k := w3.drew.heap.size) (v3 (X (2 * 3)) (X (2 * 3 + 1)) (X (2 * 3 + 2))) (by omega)) (y2.row (v3 (X (2 * 3)) (X (2 * 3 + 1)) (X (2 * 3 + 2)))) x2.o)
        clear E1 E2 E3 b0 b1 b2 x0 x1 x2 y0 y1 y2
        generalize ((((((w3.alloc (.cells (v3 0 0 0) 24)).alloc (.cells (v3 0 0 0) 24)).alloc (.cells (v3 0 0 0) 24)).drew.setRow (w3.heap.size + 1 + 1) (v3 (X (0 * 3)) (X (0 * 3 + 1)) (X (0 * 3 + 2)))).setRow (w3.heap.size + 1) (v3 (X (1 * 3)) (X (1 * 3 + 1)) (X (1 * 3 + 2)))).setRow w3.heap.size (v3 (X (2 * 3)) (X (2 * 3 + 1)) (X (2 * 3 + 2)))) = u1 at F ⊢
        generalize w3.heap.size + 1 + 1 = c0 at F ⊢
        generalize w3.heap.size + 1 = c1 at F ⊢
        generalize w3.heap.size = c2 at F ⊢
        exact rest c0 c1 c2 u1 F
    · cases hl
  intro c0 c1 c2 u1 G
  clear D hlt hw0
  have D := G
  clear G
  go_upto_region 2 with fail
  have D1 : Hid (GenZ w _ u1.heap.size u1.drew) := ⟨(unhide D).drew, Nat.le_refl _⟩
  have hlt := hide (fun (p : Nat × TypeId × Array Value) hp => ((unhide D).at_ p hp).lt)
  have hw0 := hide (unhide D).o.size
  clear D
  generalize u1.heap.size = C0 at D1 hlt hw0
  refine region_allocs (S := GenZ w _ C0) (t := 54) (z := z8) (base := C0) (l := [0, 1, 2, 3, 4, 5, 6, 7, 8, 9, 10, 11, 12, 13, 14, 15, 16, 17, 18, 19, 20, 21, 22]) (A := [23]) (T := [24]) (by kernel_rfl) (by kernel_rfl) (by kernel_rfl) (by kernel_rfl) (by kernel_rfl) (by kernel_rfl) (by kernel_rfl) (by kernel_rfl) (by kernel_rfl) (by kernel_rfl) ?_ (fun _ _ h hb => h.keep hb) (fun _ h => h.s) (unhide D1) ?_
  · intro i hi
    simp at hi
    subst hi
    exact ⟨_, rfl, rfl, fun a w => by go_simp⟩
  clear D1
  refine planB_read (v := ?_) rfl rfl (fun u hS => by go_simp; rfl) ?_
  try go_simp
  refine planB_read (v := .int .i64 (X 0)) rfl rfl (fun u hS => exec_loadFG hS.e _ rfl rfl (by repeat (first | exact List.mem_cons_self | apply List.mem_cons_of_mem)) rfl) ?_
  try go_simp
  refine planB_read (v := ?_) rfl rfl (fun u hS => by go_simp; rfl) ?_
  try go_simp
  refine planB_read (v := .int .i64 (X 4)) rfl rfl (fun u hS => exec_loadFG hS.e _ rfl rfl (by repeat (first | exact List.mem_cons_self | apply List.mem_cons_of_mem)) rfl) ?_
  try go_simp
  refine planB_read (v := ?_) rfl rfl (fun u hS => by go_simp; rfl) ?_
  try go_simp
  refine planB_read (v := .int .i64 (X 8)) rfl rfl (fun u hS => exec_loadFG hS.e _ rfl rfl (by repeat (first | exact List.mem_cons_self | apply List.mem_cons_of_mem)) rfl) ?_
  try go_simp
  refine planB_call (v := .agg (cells8 P00)) (f := 53) (args := #[.int .i64 (X 0), .int .i64 (X 4), .int .i64 (X 8)]) rfl rfl (fun u hS => by go_simp) (fun u hS => (unhide h00 u).mono fun _ _ ⟨he, hb⟩ => ⟨he, hS.keep hb, hb⟩) ?_
  try go_simp
  refine planB_read (v := ?_) rfl rfl (fun u hS => by go_simp; rfl) ?_
  try go_simp
  refine planB_read (v := .int .i64 (X 1)) rfl rfl (fun u hS => exec_loadFG hS.e _ rfl rfl (by repeat (first | exact List.mem_cons_self | apply List.mem_cons_of_mem)) rfl) ?_
  try go_simp
  refine planB_read (v := ?_) rfl rfl (fun u hS => by go_simp; rfl) ?_
  try go_simp
  refine planB_read (v := .int .i64 (X 5)) rfl rfl (fun u hS => exec_loadFG hS.e _ rfl rfl (by repeat (first | exact List.mem_cons_self | apply List.mem_cons_of_mem)) rfl) ?_
  try go_simp
  refine planB_read (v := ?_) rfl rfl (fun u hS => by go_simp; rfl) ?_
  try go_simp
  refine planB_read (v := .int .i64 (X 6)) rfl rfl (fun u hS => exec_loadFG hS.e _ rfl rfl (by repeat (first | exact List.mem_cons_self | apply List.mem_cons_of_mem)) rfl) ?_
  try go_simp
  refine planB_call (v := .agg (cells8 P01)) (f := 53) (args := #[.int .i64 (X 1), .int .i64 (X 5), .int .i64 (X 6)]) rfl rfl (fun u hS => by go_simp) (fun u hS => (unhide h01 u).mono fun _ _ ⟨he, hb⟩ => ⟨he, hS.keep hb, hb⟩) ?_
  try go_simp
  refine planB_call (v := .agg (cells8 S00)) (f := 52) (args := #[.agg (cells8 P00), .agg (cells8 P01)]) rfl rfl (fun u hS => by go_simp) (fun u hS => (unhide p00 u).mono fun _ _ ⟨he, hb⟩ => ⟨he, hS.keep hb, hb⟩) ?_
  try go_simp
  refine planB_read (v := ?_) rfl rfl (fun u hS => by go_simp; rfl) ?_
  try go_simp
  refine planB_read (v := .int .i64 (X 2)) rfl rfl (fun u hS => exec_loadFG hS.e _ rfl rfl (by repeat (first | exact List.mem_cons_self | apply List.mem_cons_of_mem)) rfl) ?_
  try go_simp
  refine planB_read (v := ?_) rfl rfl (fun u hS => by go_simp; rfl) ?_
  try go_simp
  refine planB_read (v := .int .i64 (X 3)) rfl rfl (fun u hS => exec_loadFG hS.e _ rfl rfl (by repeat (first | exact List.mem_cons_self | apply List.mem_cons_of_mem)) rfl) ?_
  try go_simp
  refine planB_read (v := ?_) rfl rfl (fun u hS => by go_simp; rfl) ?_
  try go_simp
  refine planB_read (v := .int .i64 (X 7)) rfl rfl (fun u hS => exec_loadFG hS.e _ rfl rfl (by repeat (first | exact List.mem_cons_self | apply List.mem_cons_of_mem)) rfl) ?_
  try go_simp
  refine planB_call (v := .agg (cells8 P02)) (f := 53) (args := #[.int .i64 (X 2), .int .i64 (X 3), .int .i64 (X 7)]) rfl rfl (fun u hS => by go_simp) (fun u hS => (unhide h02 u).mono fun _ _ ⟨he, hb⟩ => ⟨he, hS.keep hb, hb⟩) ?_
  try go_simp
  refine planB_call (v := .agg (cells8 S01)) (f := 52) (args := #[.agg (cells8 S00), .agg (cells8 P02)]) rfl rfl (fun u hS => by go_simp) (fun u hS => (unhide p01 u).mono fun _ _ ⟨he, hb⟩ => ⟨he, hS.keep hb, hb⟩) ?_
  try go_simp
  refine planB_tail (fun c u hS hB hI => ?_)
  have h4' := hB 23 (by simp)
  clear hB hI
  simp only [pa, dstOf, opsOf]
  generalize c 23 = gA at h4' ⊢
  have D := hide (hS.e.fillZ (cs := cells8 S01) (unhide hlt) (unhide hw0) h4'.1 h4'.2)
  refine wpList_store_row rfl 54 (.tmp 6) (.tmp 39) rfl gA (cells8 S01) rfl rfl 54 _ h4'.1 iWide rfl (cells8_one _) ?_
  clear hS h4' hlt hw0
  generalize u.setRow gA (cells8 S01) = u2 at D ⊢
  go_simp
  go_upto_region 3 with fail
  have D1 : Hid (GenZ w _ u2.heap.size u2.drew) := ⟨(unhide D).drew, Nat.le_refl _⟩
  have hlt := hide (fun (p : Nat × TypeId × Array Value) hp => ((unhide D).at_ p hp).lt)
  have hw0 := hide (unhide D).o.size
  clear D
  generalize u2.heap.size = C1 at D1 hlt hw0
  refine region_allocs (S := GenZ w _ C1) (t := 54) (z := z8) (base := C1) (l := [0, 1, 2, 3, 4, 5, 6, 7, 8, 9, 10, 11, 12, 13, 14, 15, 16, 17, 18, 19, 20, 21, 22]) (A := [23]) (T := [24]) (by kernel_rfl) (by kernel_rfl) (by kernel_rfl) (by kernel_rfl) (by kernel_rfl) (by kernel_rfl) (by kernel_rfl) (by kernel_rfl) (by kernel_rfl) (by kernel_rfl) ?_ (fun _ _ h hb => h.keep hb) (fun _ h => h.s) (unhide D1) ?_
  · intro i hi
    simp at hi
    subst hi
    exact ⟨_, rfl, rfl, fun a w => by go_simp⟩
  clear D1
  refine planB_read (v := ?_) rfl rfl (fun u hS => by go_simp; rfl) ?_
  try go_simp
  refine planB_read (v := .int .i64 (X 2)) rfl rfl (fun u hS => exec_loadFG hS.e _ rfl rfl (by repeat (first | exact List.mem_cons_self | apply List.mem_cons_of_mem)) rfl) ?_
  try go_simp
  refine planB_read (v := ?_) rfl rfl (fun u hS => by go_simp; rfl) ?_
  try go_simp
  refine planB_read (v := .int .i64 (X 4)) rfl rfl (fun u hS => exec_loadFG hS.e _ rfl rfl (by repeat (first | exact List.mem_cons_self | apply List.mem_cons_of_mem)) rfl) ?_
  try go_simp
  refine planB_read (v := ?_) rfl rfl (fun u hS => by go_simp; rfl) ?_
  try go_simp
  refine planB_read (v := .int .i64 (X 6)) rfl rfl (fun u hS => exec_loadFG hS.e _ rfl rfl (by repeat (first | exact List.mem_cons_self | apply List.mem_cons_of_mem)) rfl) ?_
  try go_simp
  refine planB_call (v := .agg (cells8 P10)) (f := 53) (args := #[.int .i64 (X 2), .int .i64 (X 4), .int .i64 (X 6)]) rfl rfl (fun u hS => by go_simp) (fun u hS => (unhide h10 u).mono fun _ _ ⟨he, hb⟩ => ⟨he, hS.keep hb, hb⟩) ?_
  try go_simp
  refine planB_read (v := ?_) rfl rfl (fun u hS => by go_simp; rfl) ?_
  try go_simp
  refine planB_read (v := .int .i64 (X 1)) rfl rfl (fun u hS => exec_loadFG hS.e _ rfl rfl (by repeat (first | exact List.mem_cons_self | apply List.mem_cons_of_mem)) rfl) ?_
  try go_simp
  refine planB_read (v := ?_) rfl rfl (fun u hS => by go_simp; rfl) ?_
  try go_simp
  refine planB_read (v := .int .i64 (X 3)) rfl rfl (fun u hS => exec_loadFG hS.e _ rfl rfl (by repeat (first | exact List.mem_cons_self | apply List.mem_cons_of_mem)) rfl) ?_
  try go_simp
  refine planB_read (v := ?_) rfl rfl (fun u hS => by go_simp; rfl) ?_
  try go_simp
  refine planB_read (v := .int .i64 (X 8)) rfl rfl (fun u hS => exec_loadFG hS.e _ rfl rfl (by repeat (first | exact List.mem_cons_self | apply List.mem_cons_of_mem)) rfl) ?_
  try go_simp
  refine planB_call (v := .agg (cells8 P11)) (f := 53) (args := #[.int .i64 (X 1), .int .i64 (X 3), .int .i64 (X 8)]) rfl rfl (fun u hS => by go_simp) (fun u hS => (unhide h11 u).mono fun _ _ ⟨he, hb⟩ => ⟨he, hS.keep hb, hb⟩) ?_
  try go_simp
  refine planB_call (v := .agg (cells8 S10)) (f := 52) (args := #[.agg (cells8 P10), .agg (cells8 P11)]) rfl rfl (fun u hS => by go_simp) (fun u hS => (unhide p10 u).mono fun _ _ ⟨he, hb⟩ => ⟨he, hS.keep hb, hb⟩) ?_
  try go_simp
  refine planB_read (v := ?_) rfl rfl (fun u hS => by go_simp; rfl) ?_
  try go_simp
  refine planB_read (v := .int .i64 (X 0)) rfl rfl (fun u hS => exec_loadFG hS.e _ rfl rfl (by repeat (first | exact List.mem_cons_self | apply List.mem_cons_of_mem)) rfl) ?_
  try go_simp
  refine planB_read (v := ?_) rfl rfl (fun u hS => by go_simp; rfl) ?_
  try go_simp
  refine planB_read (v := .int .i64 (X 5)) rfl rfl (fun u hS => exec_loadFG hS.e _ rfl rfl (by repeat (first | exact List.mem_cons_self | apply List.mem_cons_of_mem)) rfl) ?_
  try go_simp
  refine planB_read (v := ?_) rfl rfl (fun u hS => by go_simp; rfl) ?_
  try go_simp
  refine planB_read (v := .int .i64 (X 7)) rfl rfl (fun u hS => exec_loadFG hS.e _ rfl rfl (by repeat (first | exact List.mem_cons_self | apply List.mem_cons_of_mem)) rfl) ?_
  try go_simp
  refine planB_call (v := .agg (cells8 P12)) (f := 53) (args := #[.int .i64 (X 0), .int .i64 (X 5), .int .i64 (X 7)]) rfl rfl (fun u hS => by go_simp) (fun u hS => (unhide h12 u).mono fun _ _ ⟨he, hb⟩ => ⟨he, hS.keep hb, hb⟩) ?_
  try go_simp
  refine planB_call (v := .agg (cells8 S11)) (f := 52) (args := #[.agg (cells8 S10), .agg (cells8 P12)]) rfl rfl (fun u hS => by go_simp) (fun u hS => (unhide p11 u).mono fun _ _ ⟨he, hb⟩ => ⟨he, hS.keep hb, hb⟩) ?_
  try go_simp
  refine planB_tail (fun c u hS hB hI => ?_)
  have h4' := hB 23 (by simp)
  clear hB hI
  simp only [pa, dstOf, opsOf]
  generalize c 23 = gB at h4' ⊢
  have D := hide (hS.e.fillZ (cs := cells8 S11) (unhide hlt) (unhide hw0) h4'.1 h4'.2)
  refine wpList_store_row rfl 54 (.tmp 7) (.tmp 62) rfl gB (cells8 S11) rfl rfl 54 _ h4'.1 iWide rfl (cells8_one _) ?_
  clear hS h4' hlt hw0
  generalize u.setRow gB (cells8 S11) = u3 at D ⊢
  go_simp
  go_wp2_with (first | (with_reducible refine at_list ?_; apply ldG (unhide D) rWide _ rfl rfl rfl (by repeat (first | exact List.mem_cons_self | apply List.mem_cons_of_mem)) rfl) | (go_at_call 54; with_reducible refine (unhide hL _).mono ?_; rintro e w' ⟨he, hb⟩; subst he; have D := hide ((unhide D).keep hb); clear hb) | (with_reducible refine at_list ?_; apply stGend (unhide D) rWide _ _ rfl rfl rfl rfl (by repeat (first | exact List.mem_cons_self | apply List.mem_cons_of_mem)) (by omega) rfl rfl (cells8_one _); intro B O))
  exact resG rWide (unhide B) rfl rfl rfl rfl ⟨rfl, unhide O⟩
theorem exact4_eq (X : Nat → Int) : X 0 * X 4 * X 8 + X 1 * X 5 * X 6 + X 2 * X 3 * X 7 - (X 2 * X 4 * X 6 + X 1 * X 3 * X 8 + X 0 * X 5 * X 7) = detM X := by
  show _ = X 0 * (X 4 * X 8 - X 5 * X 7) + X 1 * (X 5 * X 6 - X 3 * X 8) + X 2 * (X 3 * X 7 - X 4 * X 6)
  grind
theorem Exact4 {X : Nat → Int} (hX : ∀ j, I64 (X j)) : Ans 31 #[.agg (m9 X)] (V (detM X)) := fun w => by
  have s : ∀ i j k, Sz 189 (X i * X j * X k) := fun i j k => (((hX i).sz.mul (hX j).sz).mul (hX k).sz)
  have a := (s 0 4 8).add (s 1 5 6)
  have b := a.add ((s 2 3 7).mono (show 189 ≤ 190 by decide))
  have c' := (s 2 4 6).add (s 1 3 8)
  have d' := c'.add ((s 0 5 7).mono (show 189 ≤ 190 by decide))
  rw [← exact4_eq]
  exact exact4_core X _ _ _ _ _ _ _ _ _ _ _ w (Three4 _ _ _ (hX _) (hX _) (hX _)) (Three4 _ _ _ (hX _) (hX _) (hX _)) (Three4 _ _ _ (hX _) (hX _) (hX _)) (Plus3 (s 0 4 8) (s 1 5 6) (by decide)) (Plus3 a ((s 2 3 7).mono (by decide)) (by decide)) (Three4 _ _ _ (hX _) (hX _) (hX _)) (Three4 _ _ _ (hX _) (hX _) (hX _)) (Three4 _ _ _ (hX _) (hX _) (hX _)) (Plus3 (s 2 4 6) (s 1 3 8) (by decide)) (Plus3 c' ((s 0 5 7).mono (by decide)) (by decide)) (Less3 b d' (by decide))
end Go.Proofs.YtcbepibdeokboaaGreat
