/- Package quat: Back; the law QuatBack. -/
import Derived.Test.YtlmmpgophpbjnaaDoorTl
import Derived.Test.YtlmmpgophpbjnaaDoorHg
namespace Go.Proofs.YtlmmpgophpbjnaaDoor
open Go.RowKit
set_option maxRecDepth 4000
set_option linter.unusedVariables false

set_option maxHeartbeats 2000000 in
theorem qBack_core (a b c d x y z : Int) (w : World) (h1 : Hid (Ans 52 #[.int .i64 0, .int .i64 b] (.int .i64 x))) (h2 : Hid (Ans 52 #[.int .i64 0, .int .i64 c] (.int .i64 y))) (h3 : Hid (Ans 52 #[.int .i64 0, .int .i64 d] (.int .i64 z))) :
    Calls Tryd.prog 21 #[.agg (q4 a b c d)] w fun e w' => e = .returned (.agg (q4 a x y z)) ∧ Below w.heap.size w w' := by
  go_enter Tryd.func21, Tryd.ntmps21
  go_upto_region 1 with fail
  have D := hide (((Gen.start w).push 24 (q4 a b c d)).push 24 (q4 0 0 0 0))
  simp only [szA] at D
  refine region_last (S := Gen w _) (f := 12) (l := [0, 1, 2, 3, 4, 5, 6, 7, 8, 9, 10, 11]) (by kernel_rfl) (by kernel_rfl) (by kernel_rfl) (by kernel_rfl) (by kernel_rfl) (by kernel_rfl) (by kernel_rfl) (by kernel_rfl) (by kernel_rfl) (by kernel_rfl) rfl rfl (unhide D).drew ?_
  clear D
  refine plan_read (v := ?_) rfl rfl (fun u hS => by go_simp; rfl) ?_
  go_simp
  refine plan_read (v := .int .i64 a) rfl rfl (fun u hS => exec_loadFG hS _ rfl rfl (by repeat (first | exact List.mem_cons_self | apply List.mem_cons_of_mem)) rfl) ?_
  go_simp
  refine plan_read (v := ?_) rfl rfl (fun u hS => by go_simp; rfl) ?_
  go_simp
  refine plan_read (v := .int .i64 b) rfl rfl (fun u hS => exec_loadFG hS _ rfl rfl (by repeat (first | exact List.mem_cons_self | apply List.mem_cons_of_mem)) rfl) ?_
  go_simp
  refine plan_call (v := .int .i64 x) (f := 52) (args := #[.int .i64 0, .int .i64 b]) rfl rfl (fun u hS => by go_simp) (fun u hS => (unhide h1 u).mono fun _ _ ⟨he, hb⟩ => ⟨he, hS.keep hb⟩) ?_
  go_simp
  refine plan_read (v := ?_) rfl rfl (fun u hS => by go_simp; rfl) ?_
  go_simp
  refine plan_read (v := .int .i64 c) rfl rfl (fun u hS => exec_loadFG hS _ rfl rfl (by repeat (first | exact List.mem_cons_self | apply List.mem_cons_of_mem)) rfl) ?_
  go_simp
  refine plan_call (v := .int .i64 y) (f := 52) (args := #[.int .i64 0, .int .i64 c]) rfl rfl (fun u hS => by go_simp) (fun u hS => (unhide h2 u).mono fun _ _ ⟨he, hb⟩ => ⟨he, hS.keep hb⟩) ?_
  go_simp
  refine plan_read (v := ?_) rfl rfl (fun u hS => by go_simp; rfl) ?_
  go_simp
  refine plan_read (v := .int .i64 d) rfl rfl (fun u hS => exec_loadFG hS _ rfl rfl (by repeat (first | exact List.mem_cons_self | apply List.mem_cons_of_mem)) rfl) ?_
  go_simp
  refine plan_call (v := .int .i64 z) (f := 52) (args := #[.int .i64 0, .int .i64 d]) rfl rfl (fun u hS => by go_simp) (fun u hS => (unhide h3 u).mono fun _ _ ⟨he, hb⟩ => ⟨he, hS.keep hb⟩) ?_
  go_simp
  refine plan_read (v := .agg (q4 a x y z)) rfl rfl (fun u hS => by go_simp) ?_
  go_simp
  refine plan_last (fun u hS => ?_)
  have B0 := hide (hS.blk (g := w.heap.size + 1) (t := 24) (cs := q4 0 0 0 0) (by repeat (first | exact List.mem_cons_self | apply List.mem_cons_of_mem)))
  refine wp_store_row 24 (.tmp 2) (.tmp 14) rfl _ (q4 a x y z) rfl rfl 24 (q4 0 0 0 0) (unhide B0) rQuat.i rfl (q4_one _ _ _ _) ?_
  have B := hide ((unhide B0).row (q4 a x y z))
  have O := hide (below_row hS.o (show w.heap.size ≤ w.heap.size + 1 by omega) (q4 a x y z))
  clear hS B0
  go_wp2
  exact resG rQuat (unhide B) rfl rfl rfl rfl ⟨rfl, unhide O⟩
theorem QBackZ (a b c d : Int) (h1 : I64 b) (h2 : I64 c) (h3 : I64 d) : Ans 21 #[.agg (q4 a b c d)] (.agg (q4 a (cl (0 - b)) (cl (0 - c)) (cl (0 - d)))) := fun w =>
  have i0 : I64 0 := ⟨by decide, by decide⟩
  qBack_core a b c d _ _ _ w (FixSubZ 0 b i0 h1) (FixSubZ 0 c i0 h2) (FixSubZ 0 d i0 h3)
theorem m9_range {w : World} {g : Nat} {t : TypeId} {f : Nat → Int} (h : Blk w g t (m9 f)) {k : Nat} (hk : k < 3) : w.rangeAt g (k * 3) (v3 (f (k * 3)) (f (k * 3 + 1)) (f (k * 3 + 2))).toList := by
  intro j v hv
  have hj : j < 3 := (List.getElem?_eq_some_iff.1 hv).1
  rw [h.cell, ← hv]
  rcases (show k = 0 ∨ k = 1 ∨ k = 2 by omega) with rfl | rfl | rfl <;> rcases (show j = 0 ∨ j = 1 ∨ j = 2 by omega) with rfl | rfl | rfl <;> rfl
theorem exec_ldMidV {o : Oper} {a : Act} {w : World} {g k : Nat} {x y z : Int} (p : Operand) (ho : o.op = .load 26 p) (hx : a.eval p = .pointer (some ⟨g, k, none⟩)) (hr : w.rangeAt g k (v3 x y z).toList) : (execOp a.eval o).run Tryd.prog w = .ok (.value (.agg (v3 x y z))) w := by
  unfold execOp
  simp only [ho, hx, Instr.loadAt, Instr.sureAddr, Sem.run_bind, Sem.run_pure, Result.andThen_ok, run_loadVar_mid w g k 26 (v3 x y z).toList _ hr Tryd.underlying26 rfl iVec3]
theorem exec_neqZ {o : Oper} {a : Act} (w : World) (p q : Operand) {x y : Int} {k : IntKind} {ty ty' : TypeId} {b : Bool} (hb : (x != y) = b) (ho : o.op = .binOp .neq ty p q ty') (hx : a.eval p = .int k x) (hy : a.eval q = .int k y) : (execOp a.eval o).run Tryd.prog w = .ok (.value (.bool b)) w := by
  subst hb
  unfold execOp
  simp only [ho, hx, hy]
  go_simp
theorem Gen.four4 {u w0 : World} {g0 g1 g2 g3 : Nat} {t0 t1 t2 t3 : TypeId} {c0 c1 c2 c3 : Array Value} (h0 : Blk u g0 t0 c0) (h1 : Blk u g1 t1 c1) (h2 : Blk u g2 t2 c2) (h3 : Blk u g3 t3 c3) (o : Below w0.heap.size w0 u) : Gen w0 [(g0, t0, c0), (g1, t1, c1), (g2, t2, c2), (g3, t3, c3)] u := by
  refine ⟨fun p hp => ?_, o⟩
  simp only [List.mem_cons, List.not_mem_nil, or_false] at hp
  rcases hp with rfl | rfl | rfl | rfl
  · exact h0
  · exact h1
  · exact h2
  · exact h3
theorem walk_storeQ {P : Program} {ops : Array Oper} {S : World → Prop} {Q : Exit → Act → World → Prop} {tn : Nat → Bool} {i : Nat} {r : List Nat} {a : Act} {w w' : World} {o : Oper} (ho : ops[i]? = some o) (hw : Region.wanted o (yielded ops a.tmps) = true) (ht : tn i = true)
    (h : (execOp a.eval o).run P w = .ok .skip w') (hS : S w') (hr : Walk P ops S Q tn r (a.put o.dst undef) w') : Walk P ops S Q tn (i :: r) a w :=
  ⟨o, ho, .inr (.inr ⟨hw, ht, by rw [h]; exact ⟨hS, hr⟩⟩)⟩
theorem exec_store3 {o : Oper} {a : Act} {w : World} (x y : Operand) {g : Nat} {t : TypeId} {p q r p' q' r' : Int} (hg : Blk w g t (v3 p' q' r')) (ho : o.op = .store 26 x y) (hx : a.eval x = .pointer (some ⟨g, 0, none⟩)) (hy : a.eval y = .agg (v3 p q r)) :
    (execOp a.eval o).run Tryd.prog w = .ok .skip (w.setRow g (v3 p q r)) := by
  unfold execOp
  simp only [ho, hx, hy, Instr.storeAt, Instr.sureAddr, Sem.run_bind, Sem.run_pure, Result.andThen_ok, run_storeVar_row w g t 26 (v3 p' q' r') (v3 p q r) hg iVec3 rfl (v3_one _ _ _)]
theorem share4 {G H : Nat → Nat → Nat → World → Prop} {R : Prop} (main : (∀ c d e u, H c d e u → G c d e u) → R) (rest : ∀ c d e u, H c d e u → G c d e u) : R := main rest
theorem szD (w : World) : w.drew.heap.size = w.heap.size := rfl
theorem Gen.rowIn {w0 u : World} {l : List (Nat × TypeId × Array Value)} {g : Nat} (d : Gen w0 l u) (hne : ∀ p ∈ l, p.1 ≠ g) (hg : w0.heap.size ≤ g) (cs : Array Value) : Gen w0 l (u.setRow g cs) :=
  ⟨fun p hp => (d.at_ p hp).rowOther _ (hne p hp), below_row d.o hg _⟩
set_option maxHeartbeats 8000000 in
theorem back5_core (a b c d x y z r : Int) (X Y : Nat → Int) (TP TT : Array Value) (w : World) (hP : Tab 1 TP w) (hT : Tab 0 TT w) (hr : (r != r) = false) (s0 : sameV (X (0 * 3)) (X (0 * 3 + 1)) (X (0 * 3 + 2)) (Y (0 * 3)) (Y (1 * 3)) (Y (2 * 3)) = true) (s1 : sameV (X (1 * 3)) (X (1 * 3 + 1)) (X (1 * 3 + 2)) (Y (0 * 3 + 1)) (Y (1 * 3 + 1)) (Y (2 * 3 + 1)) = true) (s2 : sameV (X (2 * 3)) (X (2 * 3 + 1)) (X (2 * 3 + 2)) (Y (0 * 3 + 2)) (Y (1 * 3 + 2)) (Y (2 * 3 + 2)) = true)
    (hW : Hid (∀ u, Tab 1 TP u → Tab 0 TT u → Calls Tryd.prog 12 #[] u fun e w' => e = .returned (.bool true) ∧ Below u.heap.size u w'))
    (hB : Hid (Ans 21 #[.agg (q4 a b c d)] (.agg (q4 a x y z))))
    (h1 : Hid (∀ u, Tab 0 TT u → Calls Tryd.prog 10 #[.agg (q4 a b c d)] u fun e w' => e = .returned (.tuple #[.agg (m9 X), .int .i64 r]) ∧ Below u.heap.size u w')) (h2 : Hid (∀ u, Tab 0 TT u → Calls Tryd.prog 10 #[.agg (q4 a x y z)] u fun e w' => e = .returned (.tuple #[.agg (m9 Y), .int .i64 r]) ∧ Below u.heap.size u w')) :
    Calls Tryd.prog 6 #[.agg (q4 a b c d)] w fun e w' => e = .returned (.bool true) ∧ Below w.heap.size w w' := by
  have p0 : 0 < 3 := by decide
  have p1 : 1 < 3 := by decide
  have p2 : 2 < 3 := by decide
  have hPlt := hP.lt
  have hTlt := hT.lt
  have HP := hide hP
  have HT := hide hT
  clear hP hT
  go_enter Tryd.func6, Tryd.ntmps6
  go_upto_region 1 with fail
  have D := hide ((Gen.start w).push 24 (q4 a b c d))
  go_upto_region 2 with (first | (with_reducible refine at_list ?_; apply ldG (unhide D) rQuat _ rfl rfl rfl (by repeat (first | exact List.mem_cons_self | apply List.mem_cons_of_mem)) rfl) | (go_at_call 10; with_reducible refine (unhide h1 _ ((unhide HT).below (unhide D).o hTlt)).mono ?_; rintro e w1 ⟨he, hb⟩; subst he; have D := hide ((unhide D).keep hb); clear hb) | (with_reducible refine at_list ?_; refine stG (unhide D) rMat _ _ rfl rfl rfl rfl rfl rfl (m9_one _) ?_; intro D'; have D := hide D'; clear D'))
  clear h1
  go_upto_region 5 with (first | (with_reducible refine at_list ?_; apply ldG (unhide D) rQuat _ rfl rfl rfl (by repeat (first | exact List.mem_cons_self | apply List.mem_cons_of_mem)) rfl) | (go_at_call 21; with_reducible refine (unhide hB _).mono ?_; rintro e w' ⟨he, hb⟩; subst he; have D := hide ((unhide D).keep hb); clear hb) | (go_at_call 10; with_reducible refine (unhide h2 _ ((unhide HT).below (unhide D).o hTlt)).mono ?_; rintro e w2 ⟨he, hb⟩; subst he; have D := hide ((unhide D).keep hb); clear hb) | (with_reducible refine at_list ?_; refine stG (unhide D) rMat _ _ rfl rfl rfl rfl rfl rfl (m9_one _) ?_; intro D'; have D := hide D'; clear D') | (with_reducible refine at_list ?_;  refine wpList_value rfl (exec_neqZ _ (.tmp 21) (.tmp 22) hr rfl rfl rfl) ?_))
  clear h2 hB
  generalize hw3 : (w2.alloc (.cells (m9 Y) 29)) = w3 at D ⊢
  clear hw3
  generalize w2.heap.size = g5 at *
  generalize w1.heap.size = g3 at *
  have hlt := hide (fun (p : Nat × TypeId × Array Value) hp => ((unhide D).at_ p hp).lt)
  have hw0 := hide (unhide D).o.size
  apply share4 (H := fun c0 c1 c2 u => Hid (Gen w [(g3, 29, m9 X), (c0, 26, v3 (Y (0 * 3)) (Y (0 * 3 + 1)) (Y (0 * 3 + 2))), (c1, 26, v3 (Y (1 * 3)) (Y (1 * 3 + 1)) (Y (1 * 3 + 2))), (c2, 26, v3 (Y (2 * 3)) (Y (2 * 3 + 1)) (Y (2 * 3 + 2)))] u))
  · intro rest
    have D0 := (unhide D).drew
    have l5 : g5 < w3.heap.size := unhide hlt (g5, 29, m9 Y) (by repeat (first | exact List.mem_cons_self | apply List.mem_cons_of_mem))
    have l3 : g3 < w3.heap.size := unhide hlt (g3, 29, m9 X) (by repeat (first | exact List.mem_cons_self | apply List.mem_cons_of_mem))
    have l0 : w.heap.size < w3.heap.size := unhide hlt (w.heap.size, 24, q4 a b c d) (by repeat (first | exact List.mem_cons_self | apply List.mem_cons_of_mem))

    refine region_famT (S := Gen w [(g5, 29, m9 Y), (g3, 29, m9 X), (w.heap.size, 24, q4 a b c d)]) (F := [[0, 1, 2, 3, 4, 5, 6, 7, 8, 9, 10, 11, 12, 13, 14], [0, 1, 2, 3, 4, 5, 6, 7, 8, 9, 11, 10, 12, 13, 14], [0, 1, 2, 3, 4, 5, 6, 7, 8, 10, 9, 11, 12, 13, 14], [0, 1, 2, 3, 4, 5, 6, 7, 8, 10, 11, 9, 12, 13, 14], [0, 1, 2, 3, 4, 5, 6, 7, 8, 11, 9, 10, 12, 13, 14], [0, 1, 2, 3, 4, 5, 6, 7, 8, 11, 10, 9, 12, 13, 14]]) (t := [9, 10, 11, 12, 13, 14]) (by kernel_rfl) (by kernel_rfl) (by kernel_rfl) (by kernel_rfl) (by kernel_rfl) ?_ D0 ?_
    · intro j o a w hj ho
      have hj' : j = 9 ∨ j = 10 ∨ j = 11 ∨ j = 12 ∨ j = 13 ∨ j = 14 := by simpa using hj
      rcases hj' with rfl | rfl | rfl | rfl | rfl | rfl
      · cases ho; exact ne_alloc rfl a w
      · cases ho; exact ne_alloc rfl a w
      · cases ho; exact ne_alloc rfl a w
      · cases ho; exact ne_store rfl a w
      · cases ho; exact ne_store rfl a w
      · cases ho; exact ne_store rfl a w
    have E1 := D0.push 26 (v3 0 0 0)
    have E2 := E1.push 26 (v3 0 0 0)
    have E3 := E2.push 26 (v3 0 0 0)
    simp only [szA] at E2 E3
    have b0 := E3.blk (g := w3.drew.heap.size) (t := 26) (cs := v3 0 0 0) (by repeat (first | exact List.mem_cons_self | apply List.mem_cons_of_mem))
    have b1 := E3.blk (g := w3.drew.heap.size + 1) (t := 26) (cs := v3 0 0 0) (by repeat (first | exact List.mem_cons_self | apply List.mem_cons_of_mem))
    have b2 := E3.blk (g := w3.drew.heap.size + 1 + 1) (t := 26) (cs := v3 0 0 0) (by repeat (first | exact List.mem_cons_self | apply List.mem_cons_of_mem))
    intro l hl
    rcases List.mem_cons.1 hl with rfl | hl
    · refine walk_read (v := ?_) rfl rfl rfl (fun u hS => by go_simp; rfl) ?_
      go_simp
      refine walk_read (v := .pointer (some ⟨g5, 0 * 3, none⟩)) rfl rfl rfl (fun u hS => exec_ix3 (k := 0) u (.tmp 24) (.const (.int .i64 0)) (by decide) rfl rfl rfl) ?_
      go_simp
      refine walk_read (v := .agg (v3 (Y (0 * 3)) (Y (0 * 3 + 1)) (Y (0 * 3 + 2)))) rfl rfl rfl (fun u hS => exec_ldMidV (.tmp 25) rfl rfl (m9_range (hS.blk (g := g5) (t := 29) (cs := m9 Y) (by repeat (first | exact List.mem_cons_self | apply List.mem_cons_of_mem))) (show 0 < 3 by decide))) ?_
      go_simp
      refine walk_read (v := ?_) rfl rfl rfl (fun u hS => by go_simp; rfl) ?_
      go_simp
      refine walk_read (v := .pointer (some ⟨g5, 1 * 3, none⟩)) rfl rfl rfl (fun u hS => exec_ix3 (k := 1) u (.tmp 27) (.const (.int .i64 1)) (by decide) rfl rfl rfl) ?_
      go_simp
      refine walk_read (v := .agg (v3 (Y (1 * 3)) (Y (1 * 3 + 1)) (Y (1 * 3 + 2)))) rfl rfl rfl (fun u hS => exec_ldMidV (.tmp 28) rfl rfl (m9_range (hS.blk (g := g5) (t := 29) (cs := m9 Y) (by repeat (first | exact List.mem_cons_self | apply List.mem_cons_of_mem))) (show 1 < 3 by decide))) ?_
      go_simp
      refine walk_read (v := ?_) rfl rfl rfl (fun u hS => by go_simp; rfl) ?_
      go_simp
      refine walk_read (v := .pointer (some ⟨g5, 2 * 3, none⟩)) rfl rfl rfl (fun u hS => exec_ix3 (k := 2) u (.tmp 30) (.const (.int .i64 2)) (by decide) rfl rfl rfl) ?_
      go_simp
      refine walk_read (v := .agg (v3 (Y (2 * 3)) (Y (2 * 3 + 1)) (Y (2 * 3 + 2)))) rfl rfl rfl (fun u hS => exec_ldMidV (.tmp 31) rfl rfl (m9_range (hS.blk (g := g5) (t := 29) (cs := m9 Y) (by repeat (first | exact List.mem_cons_self | apply List.mem_cons_of_mem))) (show 2 < 3 by decide))) ?_
      go_simp
      refine walk_turn (v := ptr (w3.drew.heap.size)) (w' := (w3.drew.alloc (.cells (v3 0 0 0) 26))) rfl rfl rfl (by go_simp) E1.tail ?_
      go_simp
      refine walk_turn (v := ptr (w3.drew.heap.size + 1)) (w' := ((w3.drew.alloc (.cells (v3 0 0 0) 26)).alloc (.cells (v3 0 0 0) 26))) rfl rfl rfl (by go_simp) E2.tail.tail ?_
      go_simp
      refine walk_turn (v := ptr (w3.drew.heap.size + 1 + 1)) (w' := (((w3.drew.alloc (.cells (v3 0 0 0) 26)).alloc (.cells (v3 0 0 0) 26)).alloc (.cells (v3 0 0 0) 26))) rfl rfl rfl (by go_simp) E3.tail.tail.tail ?_
      go_simp
      have x0 := (E3.tail.tail.tail).rowIn (g := w3.drew.heap.size) (fun p hp => by simp only [List.mem_cons, List.not_mem_nil, or_false] at hp; rcases hp with rfl | rfl | rfl; exact Nat.ne_of_lt (show g5 < _ by simp only [szD]; omega); exact Nat.ne_of_lt (show g3 < _ by simp only [szD]; omega); exact Nat.ne_of_lt (show w.heap.size < _ by simp only [szD]; omega)) (by simp only [szD]; omega) (v3 (Y (0 * 3)) (Y (0 * 3 + 1)) (Y (0 * 3 + 2)))
      have y0 := b0
      refine walk_storeQ rfl rfl rfl (exec_store3 (.tmp 7) (.tmp 26) y0 rfl rfl rfl) x0 ?_
      go_simp
      have x1 := (x0).rowIn (g := w3.drew.heap.size + 1) (fun p hp => by simp only [List.mem_cons, List.not_mem_nil, or_false] at hp; rcases hp with rfl | rfl | rfl; exact Nat.ne_of_lt (show g5 < _ by simp only [szD]; omega); exact Nat.ne_of_lt (show g3 < _ by simp only [szD]; omega); exact Nat.ne_of_lt (show w.heap.size < _ by simp only [szD]; omega)) (by simp only [szD]; omega) (v3 (Y (1 * 3)) (Y (1 * 3 + 1)) (Y (1 * 3 + 2)))
      have y1 := (b1.rowOther (k := w3.drew.heap.size) (v3 (Y (0 * 3)) (Y (0 * 3 + 1)) (Y (0 * 3 + 2))) (by omega))
      refine walk_storeQ rfl rfl rfl (exec_store3 (.tmp 8) (.tmp 29) y1 rfl rfl rfl) x1 ?_
      go_simp
      have x2 := (x1).rowIn (g := w3.drew.heap.size + 1 + 1) (fun p hp => by simp only [List.mem_cons, List.not_mem_nil, or_false] at hp; rcases hp with rfl | rfl | rfl; exact Nat.ne_of_lt (show g5 < _ by simp only [szD]; omega); exact Nat.ne_of_lt (show g3 < _ by simp only [szD]; omega); exact Nat.ne_of_lt (show w.heap.size < _ by simp only [szD]; omega)) (by simp only [szD]; omega) (v3 (Y (2 * 3)) (Y (2 * 3 + 1)) (Y (2 * 3 + 2)))
      have y2 := ((b2.rowOther (k := w3.drew.heap.size) (v3 (Y (0 * 3)) (Y (0 * 3 + 1)) (Y (0 * 3 + 2))) (by omega)).rowOther (k := w3.drew.heap.size + 1) (v3 (Y (1 * 3)) (Y (1 * 3 + 1)) (Y (1 * 3 + 2))) (by omega))
      refine walk_storeQ rfl rfl rfl (exec_store3 (.tmp 9) (.tmp 32) y2 rfl rfl rfl) x2 ?_
      go_simp
      refine walk_end ?_
      have F : Hid (Gen w [(g3, 29, m9 X), (w3.heap.size, 26, v3 (Y (0 * 3)) (Y (0 * 3 + 1)) (Y (0 * 3 + 2))), (w3.heap.size + 1, 26, v3 (Y (1 * 3)) (Y (1 * 3 + 1)) (Y (1 * 3 + 2))), (w3.heap.size + 1 + 1, 26, v3 (Y (2 * 3)) (Y (2 * 3 + 1)) (Y (2 * 3 + 2)))] ((((((w3.alloc (.cells (v3 0 0 0) 26)).alloc (.cells (v3 0 0 0) 26)).alloc (.cells (v3 0 0 0) 26)).drew.setRow w3.heap.size (v3 (Y (0 * 3)) (Y (0 * 3 + 1)) (Y (0 * 3 + 2)))).setRow (w3.heap.size + 1) (v3 (Y (1 * 3)) (Y (1 * 3 + 1)) (Y (1 * 3 + 2)))).setRow (w3.heap.size + 1 + 1) (v3 (Y (2 * 3)) (Y (2 * 3 + 1)) (Y (2 * 3 + 2))))) := hide (Gen.four4 (x2.blk (g := g3) (t := 29) (cs := m9 X) (by repeat (first | exact List.mem_cons_self | apply List.mem_cons_of_mem))) (((y0.row (v3 (Y (0 * 3)) (Y (0 * 3 + 1)) (Y (0 * 3 + 2)))).rowOther (k := w3.drew.heap.size + 1) (v3 (Y (1 * 3)) (Y (1 * 3 + 1)) (Y (1 * 3 + 2))) (by omega)).rowOther (k := w3.drew.heap.size + 1 + 1) (v3 (Y (2 * 3)) (Y (2 * 3 + 1)) (Y (2 * 3 + 2))) (by omega)) ((y1.row (v3 (Y (1 * 3)) (Y (1 * 3 + 1)) (Y (1 * 3 + 2)))).rowOther (k := w3.drew.heap.size + 1 + 1) (v3 (Y (2 * 3)) (Y (2 * 3 + 1)) (Y (2 * 3 + 2))) (by omega)) (y2.row (v3 (Y (2 * 3)) (Y (2 * 3 + 1)) (Y (2 * 3 + 2)))) x2.o)
      clear E1 E2 E3 b0 b1 b2 x0 x1 x2 y0 y1 y2
      generalize ((((((w3.alloc (.cells (v3 0 0 0) 26)).alloc (.cells (v3 0 0 0) 26)).alloc (.cells (v3 0 0 0) 26)).drew.setRow w3.heap.size (v3 (Y (0 * 3)) (Y (0 * 3 + 1)) (Y (0 * 3 + 2)))).setRow (w3.heap.size + 1) (v3 (Y (1 * 3)) (Y (1 * 3 + 1)) (Y (1 * 3 + 2)))).setRow (w3.heap.size + 1 + 1) (v3 (Y (2 * 3)) (Y (2 * 3 + 1)) (Y (2 * 3 + 2)))) = u1 at F ⊢
      generalize w3.heap.size + 1 + 1 = c2 at F ⊢
      generalize w3.heap.size + 1 = c1 at F ⊢
      generalize w3.heap.size = c0 at F ⊢
      exact rest c0 c1 c2 u1 F
    rcases List.mem_cons.1 hl with rfl | hl
    · as_aux_lemma =>
        refine walk_read (v := ?_) rfl rfl rfl (fun u hS => by go_simp; rfl) ?_
        go_simp
        refine walk_read (v := .pointer (some ⟨g5, 0 * 3, none⟩)) rfl rfl rfl (fun u hS => exec_ix3 (k := 0) u (.tmp 24) (.const (.int .i64 0)) (by decide) rfl rfl rfl) ?_
        go_simp
        refine walk_read (v := .agg (v3 (Y (0 * 3)) (Y (0 * 3 + 1)) (Y (0 * 3 + 2)))) rfl rfl rfl (fun u hS => exec_ldMidV (.tmp 25) rfl rfl (m9_range (hS.blk (g := g5) (t := 29) (cs := m9 Y) (by repeat (first | exact List.mem_cons_self | apply List.mem_cons_of_mem))) (show 0 < 3 by decide))) ?_
        go_simp
        refine walk_read (v := ?_) rfl rfl rfl (fun u hS => by go_simp; rfl) ?_
        go_simp
        refine walk_read (v := .pointer (some ⟨g5, 1 * 3, none⟩)) rfl rfl rfl (fun u hS => exec_ix3 (k := 1) u (.tmp 27) (.const (.int .i64 1)) (by decide) rfl rfl rfl) ?_
        go_simp
        refine walk_read (v := .agg (v3 (Y (1 * 3)) (Y (1 * 3 + 1)) (Y (1 * 3 + 2)))) rfl rfl rfl (fun u hS => exec_ldMidV (.tmp 28) rfl rfl (m9_range (hS.blk (g := g5) (t := 29) (cs := m9 Y) (by repeat (first | exact List.mem_cons_self | apply List.mem_cons_of_mem))) (show 1 < 3 by decide))) ?_
        go_simp
        refine walk_read (v := ?_) rfl rfl rfl (fun u hS => by go_simp; rfl) ?_
        go_simp
        refine walk_read (v := .pointer (some ⟨g5, 2 * 3, none⟩)) rfl rfl rfl (fun u hS => exec_ix3 (k := 2) u (.tmp 30) (.const (.int .i64 2)) (by decide) rfl rfl rfl) ?_
        go_simp
        refine walk_read (v := .agg (v3 (Y (2 * 3)) (Y (2 * 3 + 1)) (Y (2 * 3 + 2)))) rfl rfl rfl (fun u hS => exec_ldMidV (.tmp 31) rfl rfl (m9_range (hS.blk (g := g5) (t := 29) (cs := m9 Y) (by repeat (first | exact List.mem_cons_self | apply List.mem_cons_of_mem))) (show 2 < 3 by decide))) ?_
        go_simp
        refine walk_turn (v := ptr (w3.drew.heap.size)) (w' := (w3.drew.alloc (.cells (v3 0 0 0) 26))) rfl rfl rfl (by go_simp) E1.tail ?_
        go_simp
        refine walk_turn (v := ptr (w3.drew.heap.size + 1)) (w' := ((w3.drew.alloc (.cells (v3 0 0 0) 26)).alloc (.cells (v3 0 0 0) 26))) rfl rfl rfl (by go_simp) E2.tail.tail ?_
        go_simp
        refine walk_turn (v := ptr (w3.drew.heap.size + 1 + 1)) (w' := (((w3.drew.alloc (.cells (v3 0 0 0) 26)).alloc (.cells (v3 0 0 0) 26)).alloc (.cells (v3 0 0 0) 26))) rfl rfl rfl (by go_simp) E3.tail.tail.tail ?_
        go_simp
        have x0 := (E3.tail.tail.tail).rowIn (g := w3.drew.heap.size) (fun p hp => by simp only [List.mem_cons, List.not_mem_nil, or_false] at hp; rcases hp with rfl | rfl | rfl; exact Nat.ne_of_lt (show g5 < _ by simp only [szD]; omega); exact Nat.ne_of_lt (show g3 < _ by simp only [szD]; omega); exact Nat.ne_of_lt (show w.heap.size < _ by simp only [szD]; omega)) (by simp only [szD]; omega) (v3 (Y (0 * 3)) (Y (0 * 3 + 1)) (Y (0 * 3 + 2)))
        have y0 := b0
        refine walk_storeQ rfl rfl rfl (exec_store3 (.tmp 7) (.tmp 26) y0 rfl rfl rfl) x0 ?_
        go_simp
        have x1 := (x0).rowIn (g := w3.drew.heap.size + 1 + 1) (fun p hp => by simp only [List.mem_cons, List.not_mem_nil, or_false] at hp; rcases hp with rfl | rfl | rfl; exact Nat.ne_of_lt (show g5 < _ by simp only [szD]; omega); exact Nat.ne_of_lt (show g3 < _ by simp only [szD]; omega); exact Nat.ne_of_lt (show w.heap.size < _ by simp only [szD]; omega)) (by simp only [szD]; omega) (v3 (Y (1 * 3)) (Y (1 * 3 + 1)) (Y (1 * 3 + 2)))
        have y1 := (b2.rowOther (k := w3.drew.heap.size) (v3 (Y (0 * 3)) (Y (0 * 3 + 1)) (Y (0 * 3 + 2))) (by omega))
        refine walk_storeQ rfl rfl rfl (exec_store3 (.tmp 8) (.tmp 29) y1 rfl rfl rfl) x1 ?_
        go_simp
        have x2 := (x1).rowIn (g := w3.drew.heap.size + 1) (fun p hp => by simp only [List.mem_cons, List.not_mem_nil, or_false] at hp; rcases hp with rfl | rfl | rfl; exact Nat.ne_of_lt (show g5 < _ by simp only [szD]; omega); exact Nat.ne_of_lt (show g3 < _ by simp only [szD]; omega); exact Nat.ne_of_lt (show w.heap.size < _ by simp only [szD]; omega)) (by simp only [szD]; omega) (v3 (Y (2 * 3)) (Y (2 * 3 + 1)) (Y (2 * 3 + 2)))
        have y2 := ((b1.rowOther (k := w3.drew.heap.size) (v3 (Y (0 * 3)) (Y (0 * 3 + 1)) (Y (0 * 3 + 2))) (by omega)).rowOther (k := w3.drew.heap.size + 1 + 1) (v3 (Y (1 * 3)) (Y (1 * 3 + 1)) (Y (1 * 3 + 2))) (by omega))
        refine walk_storeQ rfl rfl rfl (exec_store3 (.tmp 9) (.tmp 32) y2 rfl rfl rfl) x2 ?_
        go_simp
        refine walk_end ?_
        have F : Hid (Gen w [(g3, 29, m9 X), (w3.heap.size, 26, v3 (Y (0 * 3)) (Y (0 * 3 + 1)) (Y (0 * 3 + 2))), (w3.heap.size + 1 + 1, 26, v3 (Y (1 * 3)) (Y (1 * 3 + 1)) (Y (1 * 3 + 2))), (w3.heap.size + 1, 26, v3 (Y (2 * 3)) (Y (2 * 3 + 1)) (Y (2 * 3 + 2)))] ((((((w3.alloc (.cells (v3 0 0 0) 26)).alloc (.cells (v3 0 0 0) 26)).alloc (.cells (v3 0 0 0) 26)).drew.setRow w3.heap.size (v3 (Y (0 * 3)) (Y (0 * 3 + 1)) (Y (0 * 3 + 2)))).setRow (w3.heap.size + 1 + 1) (v3 (Y (1 * 3)) (Y (1 * 3 + 1)) (Y (1 * 3 + 2)))).setRow (w3.heap.size + 1) (v3 (Y (2 * 3)) (Y (2 * 3 + 1)) (Y (2 * 3 + 2))))) := hide (Gen.four4 (x2.blk (g := g3) (t := 29) (cs := m9 X) (by repeat (first | exact List.mem_cons_self | apply List.mem_cons_of_mem))) (((y0.row (v3 (Y (0 * 3)) (Y (0 * 3 + 1)) (Y (0 * 3 + 2)))).rowOther (k := w3.drew.heap.size + 1 + 1) (v3 (Y (1 * 3)) (Y (1 * 3 + 1)) (Y (1 * 3 + 2))) (by omega)).rowOther (k := w3.drew.heap.size + 1) (v3 (Y (2 * 3)) (Y (2 * 3 + 1)) (Y (2 * 3 + 2))) (by omega)) ((y1.row (v3 (Y (1 * 3)) (Y (1 * 3 + 1)) (Y (1 * 3 + 2)))).rowOther (k := w3.drew.heap.size + 1) (v3 (Y (2 * 3)) (Y (2 * 3 + 1)) (Y (2 * 3 + 2))) (by omega)) (y2.row (v3 (Y (2 * 3)) (Y (2 * 3 + 1)) (Y (2 * 3 + 2)))) x2.o)
        clear E1 E2 E3 b0 b1 b2 x0 x1 x2 y0 y1 y2
        generalize ((((((w3.alloc (.cells (v3 0 0 0) 26)).alloc (.cells (v3 0 0 0) 26)).alloc (.cells (v3 0 0 0) 26)).drew.setRow w3.heap.size (v3 (Y (0 * 3)) (Y (0 * 3 + 1)) (Y (0 * 3 + 2)))).setRow (w3.heap.size + 1 + 1) (v3 (Y (1 * 3)) (Y (1 * 3 + 1)) (Y (1 * 3 + 2)))).setRow (w3.heap.size + 1) (v3 (Y (2 * 3)) (Y (2 * 3 + 1)) (Y (2 * 3 + 2)))) = u1 at F ⊢
        generalize w3.heap.size + 1 + 1 = c1 at F ⊢
        generalize w3.heap.size + 1 = c2 at F ⊢
        generalize w3.heap.size = c0 at F ⊢
        exact rest c0 c1 c2 u1 F
    rcases List.mem_cons.1 hl with rfl | hl
    · as_aux_lemma =>
        refine walk_read (v := ?_) rfl rfl rfl (fun u hS => by go_simp; rfl) ?_
        go_simp
        refine walk_read (v := .pointer (some ⟨g5, 0 * 3, none⟩)) rfl rfl rfl (fun u hS => exec_ix3 (k := 0) u (.tmp 24) (.const (.int .i64 0)) (by decide) rfl rfl rfl) ?_
        go_simp
        refine walk_read (v := .agg (v3 (Y (0 * 3)) (Y (0 * 3 + 1)) (Y (0 * 3 + 2)))) rfl rfl rfl (fun u hS => exec_ldMidV (.tmp 25) rfl rfl (m9_range (hS.blk (g := g5) (t := 29) (cs := m9 Y) (by repeat (first | exact List.mem_cons_self | apply List.mem_cons_of_mem))) (show 0 < 3 by decide))) ?_
        go_simp
        refine walk_read (v := ?_) rfl rfl rfl (fun u hS => by go_simp; rfl) ?_
        go_simp
        refine walk_read (v := .pointer (some ⟨g5, 1 * 3, none⟩)) rfl rfl rfl (fun u hS => exec_ix3 (k := 1) u (.tmp 27) (.const (.int .i64 1)) (by decide) rfl rfl rfl) ?_
        go_simp
        refine walk_read (v := .agg (v3 (Y (1 * 3)) (Y (1 * 3 + 1)) (Y (1 * 3 + 2)))) rfl rfl rfl (fun u hS => exec_ldMidV (.tmp 28) rfl rfl (m9_range (hS.blk (g := g5) (t := 29) (cs := m9 Y) (by repeat (first | exact List.mem_cons_self | apply List.mem_cons_of_mem))) (show 1 < 3 by decide))) ?_
        go_simp
        refine walk_read (v := ?_) rfl rfl rfl (fun u hS => by go_simp; rfl) ?_
        go_simp
        refine walk_read (v := .pointer (some ⟨g5, 2 * 3, none⟩)) rfl rfl rfl (fun u hS => exec_ix3 (k := 2) u (.tmp 30) (.const (.int .i64 2)) (by decide) rfl rfl rfl) ?_
        go_simp
        refine walk_read (v := .agg (v3 (Y (2 * 3)) (Y (2 * 3 + 1)) (Y (2 * 3 + 2)))) rfl rfl rfl (fun u hS => exec_ldMidV (.tmp 31) rfl rfl (m9_range (hS.blk (g := g5) (t := 29) (cs := m9 Y) (by repeat (first | exact List.mem_cons_self | apply List.mem_cons_of_mem))) (show 2 < 3 by decide))) ?_
        go_simp
        refine walk_turn (v := ptr (w3.drew.heap.size)) (w' := (w3.drew.alloc (.cells (v3 0 0 0) 26))) rfl rfl rfl (by go_simp) E1.tail ?_
        go_simp
        refine walk_turn (v := ptr (w3.drew.heap.size + 1)) (w' := ((w3.drew.alloc (.cells (v3 0 0 0) 26)).alloc (.cells (v3 0 0 0) 26))) rfl rfl rfl (by go_simp) E2.tail.tail ?_
        go_simp
        refine walk_turn (v := ptr (w3.drew.heap.size + 1 + 1)) (w' := (((w3.drew.alloc (.cells (v3 0 0 0) 26)).alloc (.cells (v3 0 0 0) 26)).alloc (.cells (v3 0 0 0) 26))) rfl rfl rfl (by go_simp) E3.tail.tail.tail ?_
        go_simp
        have x0 := (E3.tail.tail.tail).rowIn (g := w3.drew.heap.size + 1) (fun p hp => by simp only [List.mem_cons, List.not_mem_nil, or_false] at hp; rcases hp with rfl | rfl | rfl; exact Nat.ne_of_lt (show g5 < _ by simp only [szD]; omega); exact Nat.ne_of_lt (show g3 < _ by simp only [szD]; omega); exact Nat.ne_of_lt (show w.heap.size < _ by simp only [szD]; omega)) (by simp only [szD]; omega) (v3 (Y (0 * 3)) (Y (0 * 3 + 1)) (Y (0 * 3 + 2)))
        have y0 := b1
        refine walk_storeQ rfl rfl rfl (exec_store3 (.tmp 7) (.tmp 26) y0 rfl rfl rfl) x0 ?_
        go_simp
        have x1 := (x0).rowIn (g := w3.drew.heap.size) (fun p hp => by simp only [List.mem_cons, List.not_mem_nil, or_false] at hp; rcases hp with rfl | rfl | rfl; exact Nat.ne_of_lt (show g5 < _ by simp only [szD]; omega); exact Nat.ne_of_lt (show g3 < _ by simp only [szD]; omega); exact Nat.ne_of_lt (show w.heap.size < _ by simp only [szD]; omega)) (by simp only [szD]; omega) (v3 (Y (1 * 3)) (Y (1 * 3 + 1)) (Y (1 * 3 + 2)))
        have y1 := (b0.rowOther (k := w3.drew.heap.size + 1) (v3 (Y (0 * 3)) (Y (0 * 3 + 1)) (Y (0 * 3 + 2))) (by omega))
        refine walk_storeQ rfl rfl rfl (exec_store3 (.tmp 8) (.tmp 29) y1 rfl rfl rfl) x1 ?_
        go_simp
        have x2 := (x1).rowIn (g := w3.drew.heap.size + 1 + 1) (fun p hp => by simp only [List.mem_cons, List.not_mem_nil, or_false] at hp; rcases hp with rfl | rfl | rfl; exact Nat.ne_of_lt (show g5 < _ by simp only [szD]; omega); exact Nat.ne_of_lt (show g3 < _ by simp only [szD]; omega); exact Nat.ne_of_lt (show w.heap.size < _ by simp only [szD]; omega)) (by simp only [szD]; omega) (v3 (Y (2 * 3)) (Y (2 * 3 + 1)) (Y (2 * 3 + 2)))
        have y2 := ((b2.rowOther (k := w3.drew.heap.size + 1) (v3 (Y (0 * 3)) (Y (0 * 3 + 1)) (Y (0 * 3 + 2))) (by omega)).rowOther (k := w3.drew.heap.size) (v3 (Y (1 * 3)) (Y (1 * 3 + 1)) (Y (1 * 3 + 2))) (by omega))
        refine walk_storeQ rfl rfl rfl (exec_store3 (.tmp 9) (.tmp 32) y2 rfl rfl rfl) x2 ?_
        go_simp
        refine walk_end ?_
        have F : Hid (Gen w [(g3, 29, m9 X), (w3.heap.size + 1, 26, v3 (Y (0 * 3)) (Y (0 * 3 + 1)) (Y (0 * 3 + 2))), (w3.heap.size, 26, v3 (Y (1 * 3)) (Y (1 * 3 + 1)) (Y (1 * 3 + 2))), (w3.heap.size + 1 + 1, 26, v3 (Y (2 * 3)) (Y (2 * 3 + 1)) (Y (2 * 3 + 2)))] ((((((w3.alloc (.cells (v3 0 0 0) 26)).alloc (.cells (v3 0 0 0) 26)).alloc (.cells (v3 0 0 0) 26)).drew.setRow (w3.heap.size + 1) (v3 (Y (0 * 3)) (Y (0 * 3 + 1)) (Y (0 * 3 + 2)))).setRow w3.heap.size (v3 (Y (1 * 3)) (Y (1 * 3 + 1)) (Y (1 * 3 + 2)))).setRow (w3.heap.size + 1 + 1) (v3 (Y (2 * 3)) (Y (2 * 3 + 1)) (Y (2 * 3 + 2))))) := hide (Gen.four4 (x2.blk (g := g3) (t := 29) (cs := m9 X) (by repeat (first | exact List.mem_cons_self | apply List.mem_cons_of_mem))) (((y0.row (v3 (Y (0 * 3)) (Y (0 * 3 + 1)) (Y (0 * 3 + 2)))).rowOther (k := w3.drew.heap.size) (v3 (Y (1 * 3)) (Y (1 * 3 + 1)) (Y (1 * 3 + 2))) (by omega)).rowOther (k := w3.drew.heap.size + 1 + 1) (v3 (Y (2 * 3)) (Y (2 * 3 + 1)) (Y (2 * 3 + 2))) (by omega)) ((y1.row (v3 (Y (1 * 3)) (Y (1 * 3 + 1)) (Y (1 * 3 + 2)))).rowOther (k := w3.drew.heap.size + 1 + 1) (v3 (Y (2 * 3)) (Y (2 * 3 + 1)) (Y (2 * 3 + 2))) (by omega)) (y2.row (v3 (Y (2 * 3)) (Y (2 * 3 + 1)) (Y (2 * 3 + 2)))) x2.o)
        clear E1 E2 E3 b0 b1 b2 x0 x1 x2 y0 y1 y2
        generalize ((((((w3.alloc (.cells (v3 0 0 0) 26)).alloc (.cells (v3 0 0 0) 26)).alloc (.cells (v3 0 0 0) 26)).drew.setRow (w3.heap.size + 1) (v3 (Y (0 * 3)) (Y (0 * 3 + 1)) (Y (0 * 3 + 2)))).setRow w3.heap.size (v3 (Y (1 * 3)) (Y (1 * 3 + 1)) (Y (1 * 3 + 2)))).setRow (w3.heap.size + 1 + 1) (v3 (Y (2 * 3)) (Y (2 * 3 + 1)) (Y (2 * 3 + 2)))) = u1 at F ⊢
        generalize w3.heap.size + 1 + 1 = c2 at F ⊢
        generalize w3.heap.size + 1 = c0 at F ⊢
        generalize w3.heap.size = c1 at F ⊢
        exact rest c0 c1 c2 u1 F
    rcases List.mem_cons.1 hl with rfl | hl
    · as_aux_lemma =>
        refine walk_read (v := ?_) rfl rfl rfl (fun u hS => by go_simp; rfl) ?_
        go_simp
        refine walk_read (v := .pointer (some ⟨g5, 0 * 3, none⟩)) rfl rfl rfl (fun u hS => exec_ix3 (k := 0) u (.tmp 24) (.const (.int .i64 0)) (by decide) rfl rfl rfl) ?_
        go_simp
        refine walk_read (v := .agg (v3 (Y (0 * 3)) (Y (0 * 3 + 1)) (Y (0 * 3 + 2)))) rfl rfl rfl (fun u hS => exec_ldMidV (.tmp 25) rfl rfl (m9_range (hS.blk (g := g5) (t := 29) (cs := m9 Y) (by repeat (first | exact List.mem_cons_self | apply List.mem_cons_of_mem))) (show 0 < 3 by decide))) ?_
        go_simp
        refine walk_read (v := ?_) rfl rfl rfl (fun u hS => by go_simp; rfl) ?_
        go_simp
        refine walk_read (v := .pointer (some ⟨g5, 1 * 3, none⟩)) rfl rfl rfl (fun u hS => exec_ix3 (k := 1) u (.tmp 27) (.const (.int .i64 1)) (by decide) rfl rfl rfl) ?_
        go_simp
        refine walk_read (v := .agg (v3 (Y (1 * 3)) (Y (1 * 3 + 1)) (Y (1 * 3 + 2)))) rfl rfl rfl (fun u hS => exec_ldMidV (.tmp 28) rfl rfl (m9_range (hS.blk (g := g5) (t := 29) (cs := m9 Y) (by repeat (first | exact List.mem_cons_self | apply List.mem_cons_of_mem))) (show 1 < 3 by decide))) ?_
        go_simp
        refine walk_read (v := ?_) rfl rfl rfl (fun u hS => by go_simp; rfl) ?_
        go_simp
        refine walk_read (v := .pointer (some ⟨g5, 2 * 3, none⟩)) rfl rfl rfl (fun u hS => exec_ix3 (k := 2) u (.tmp 30) (.const (.int .i64 2)) (by decide) rfl rfl rfl) ?_
        go_simp
        refine walk_read (v := .agg (v3 (Y (2 * 3)) (Y (2 * 3 + 1)) (Y (2 * 3 + 2)))) rfl rfl rfl (fun u hS => exec_ldMidV (.tmp 31) rfl rfl (m9_range (hS.blk (g := g5) (t := 29) (cs := m9 Y) (by repeat (first | exact List.mem_cons_self | apply List.mem_cons_of_mem))) (show 2 < 3 by decide))) ?_
        go_simp
        refine walk_turn (v := ptr (w3.drew.heap.size)) (w' := (w3.drew.alloc (.cells (v3 0 0 0) 26))) rfl rfl rfl (by go_simp) E1.tail ?_
        go_simp
        refine walk_turn (v := ptr (w3.drew.heap.size + 1)) (w' := ((w3.drew.alloc (.cells (v3 0 0 0) 26)).alloc (.cells (v3 0 0 0) 26))) rfl rfl rfl (by go_simp) E2.tail.tail ?_
        go_simp
        refine walk_turn (v := ptr (w3.drew.heap.size + 1 + 1)) (w' := (((w3.drew.alloc (.cells (v3 0 0 0) 26)).alloc (.cells (v3 0 0 0) 26)).alloc (.cells (v3 0 0 0) 26))) rfl rfl rfl (by go_simp) E3.tail.tail.tail ?_
        go_simp
        have x0 := (E3.tail.tail.tail).rowIn (g := w3.drew.heap.size + 1 + 1) (fun p hp => by simp only [List.mem_cons, List.not_mem_nil, or_false] at hp; rcases hp with rfl | rfl | rfl; exact Nat.ne_of_lt (show g5 < _ by simp only [szD]; omega); exact Nat.ne_of_lt (show g3 < _ by simp only [szD]; omega); exact Nat.ne_of_lt (show w.heap.size < _ by simp only [szD]; omega)) (by simp only [szD]; omega) (v3 (Y (0 * 3)) (Y (0 * 3 + 1)) (Y (0 * 3 + 2)))
        have y0 := b2
        refine walk_storeQ rfl rfl rfl (exec_store3 (.tmp 7) (.tmp 26) y0 rfl rfl rfl) x0 ?_
        go_simp
        have x1 := (x0).rowIn (g := w3.drew.heap.size) (fun p hp => by simp only [List.mem_cons, List.not_mem_nil, or_false] at hp; rcases hp with rfl | rfl | rfl; exact Nat.ne_of_lt (show g5 < _ by simp only [szD]; omega); exact Nat.ne_of_lt (show g3 < _ by simp only [szD]; omega); exact Nat.ne_of_lt (show w.heap.size < _ by simp only [szD]; omega)) (by simp only [szD]; omega) (v3 (Y (1 * 3)) (Y (1 * 3 + 1)) (Y (1 * 3 + 2)))
        have y1 := (b0.rowOther (k := w3.drew.heap.size + 1 + 1) (v3 (Y (0 * 3)) (Y (0 * 3 + 1)) (Y (0 * 3 + 2))) (by omega))
        refine walk_storeQ rfl rfl rfl (exec_store3 (.tmp 8) (.tmp 29) y1 rfl rfl rfl) x1 ?_
        go_simp
        have x2 := (x1).rowIn (g := w3.drew.heap.size + 1) (fun p hp => by simp only [List.mem_cons, List.not_mem_nil, or_false] at hp; rcases hp with rfl | rfl | rfl; exact Nat.ne_of_lt (show g5 < _ by simp only [szD]; omega); exact Nat.ne_of_lt (show g3 < _ by simp only [szD]; omega); exact Nat.ne_of_lt (show w.heap.size < _ by simp only [szD]; omega)) (by simp only [szD]; omega) (v3 (Y (2 * 3)) (Y (2 * 3 + 1)) (Y (2 * 3 + 2)))
        have y2 := ((b1.rowOther (k := w3.drew.heap.size + 1 + 1) (v3 (Y (0 * 3)) (Y (0 * 3 + 1)) (Y (0 * 3 + 2))) (by omega)).rowOther (k := w3.drew.heap.size) (v3 (Y (1 * 3)) (Y (1 * 3 + 1)) (Y (1 * 3 + 2))) (by omega))
        refine walk_storeQ rfl rfl rfl (exec_store3 (.tmp 9) (.tmp 32) y2 rfl rfl rfl) x2 ?_
        go_simp
        refine walk_end ?_
        have F : Hid (Gen w [(g3, 29, m9 X), (w3.heap.size + 1 + 1, 26, v3 (Y (0 * 3)) (Y (0 * 3 + 1)) (Y (0 * 3 + 2))), (w3.heap.size, 26, v3 (Y (1 * 3)) (Y (1 * 3 + 1)) (Y (1 * 3 + 2))), (w3.heap.size + 1, 26, v3 (Y (2 * 3)) (Y (2 * 3 + 1)) (Y (2 * 3 + 2)))] ((((((w3.alloc (.cells (v3 0 0 0) 26)).alloc (.cells (v3 0 0 0) 26)).alloc (.cells (v3 0 0 0) 26)).drew.setRow (w3.heap.size + 1 + 1) (v3 (Y (0 * 3)) (Y (0 * 3 + 1)) (Y (0 * 3 + 2)))).setRow w3.heap.size (v3 (Y (1 * 3)) (Y (1 * 3 + 1)) (Y (1 * 3 + 2)))).setRow (w3.heap.size + 1) (v3 (Y (2 * 3)) (Y (2 * 3 + 1)) (Y (2 * 3 + 2))))) := hide (Gen.four4 (x2.blk (g := g3) (t := 29) (cs := m9 X) (by repeat (first | exact List.mem_cons_self | apply List.mem_cons_of_mem))) (((y0.row (v3 (Y (0 * 3)) (Y (0 * 3 + 1)) (Y (0 * 3 + 2)))).rowOther (k := w3.drew.heap.size) (v3 (Y (1 * 3)) (Y (1 * 3 + 1)) (Y (1 * 3 + 2))) (by omega)).rowOther (k := w3.drew.heap.size + 1) (v3 (Y (2 * 3)) (Y (2 * 3 + 1)) (Y (2 * 3 + 2))) (by omega)) ((y1.row (v3 (Y (1 * 3)) (Y (1 * 3 + 1)) (Y (1 * 3 + 2)))).rowOther (k := w3.drew.heap.size + 1) (v3 (Y (2 * 3)) (Y (2 * 3 + 1)) (Y (2 * 3 + 2))) (by omega)) (y2.row (v3 (Y (2 * 3)) (Y (2 * 3 + 1)) (Y (2 * 3 + 2)))) x2.o)
        clear E1 E2 E3 b0 b1 b2 x0 x1 x2 y0 y1 y2
        generalize ((((((w3.alloc (.cells (v3 0 0 0) 26)).alloc (.cells (v3 0 0 0) 26)).alloc (.cells (v3 0 0 0) 26)).drew.setRow (w3.heap.size + 1 + 1) (v3 (Y (0 * 3)) (Y (0 * 3 + 1)) (Y (0 * 3 + 2)))).setRow w3.heap.size (v3 (Y (1 * 3)) (Y (1 * 3 + 1)) (Y (1 * 3 + 2)))).setRow (w3.heap.size + 1) (v3 (Y (2 * 3)) (Y (2 * 3 + 1)) (Y (2 * 3 + 2)))) = u1 at F ⊢
        generalize w3.heap.size + 1 + 1 = c0 at F ⊢
        generalize w3.heap.size + 1 = c2 at F ⊢
        generalize w3.heap.size = c1 at F ⊢
        exact rest c0 c1 c2 u1 F
    rcases List.mem_cons.1 hl with rfl | hl
    · as_aux_lemma =>
        refine walk_read (v := ?_) rfl rfl rfl (fun u hS => by go_simp; rfl) ?_
        go_simp
        refine walk_read (v := .pointer (some ⟨g5, 0 * 3, none⟩)) rfl rfl rfl (fun u hS => exec_ix3 (k := 0) u (.tmp 24) (.const (.int .i64 0)) (by decide) rfl rfl rfl) ?_
        go_simp
        refine walk_read (v := .agg (v3 (Y (0 * 3)) (Y (0 * 3 + 1)) (Y (0 * 3 + 2)))) rfl rfl rfl (fun u hS => exec_ldMidV (.tmp 25) rfl rfl (m9_range (hS.blk (g := g5) (t := 29) (cs := m9 Y) (by repeat (first | exact List.mem_cons_self | apply List.mem_cons_of_mem))) (show 0 < 3 by decide))) ?_
        go_simp
        refine walk_read (v := ?_) rfl rfl rfl (fun u hS => by go_simp; rfl) ?_
        go_simp
        refine walk_read (v := .pointer (some ⟨g5, 1 * 3, none⟩)) rfl rfl rfl (fun u hS => exec_ix3 (k := 1) u (.tmp 27) (.const (.int .i64 1)) (by decide) rfl rfl rfl) ?_
        go_simp
        refine walk_read (v := .agg (v3 (Y (1 * 3)) (Y (1 * 3 + 1)) (Y (1 * 3 + 2)))) rfl rfl rfl (fun u hS => exec_ldMidV (.tmp 28) rfl rfl (m9_range (hS.blk (g := g5) (t := 29) (cs := m9 Y) (by repeat (first | exact List.mem_cons_self | apply List.mem_cons_of_mem))) (show 1 < 3 by decide))) ?_
        go_simp
        refine walk_read (v := ?_) rfl rfl rfl (fun u hS => by go_simp; rfl) ?_
        go_simp
        refine walk_read (v := .pointer (some ⟨g5, 2 * 3, none⟩)) rfl rfl rfl (fun u hS => exec_ix3 (k := 2) u (.tmp 30) (.const (.int .i64 2)) (by decide) rfl rfl rfl) ?_
        go_simp
        refine walk_read (v := .agg (v3 (Y (2 * 3)) (Y (2 * 3 + 1)) (Y (2 * 3 + 2)))) rfl rfl rfl (fun u hS => exec_ldMidV (.tmp 31) rfl rfl (m9_range (hS.blk (g := g5) (t := 29) (cs := m9 Y) (by repeat (first | exact List.mem_cons_self | apply List.mem_cons_of_mem))) (show 2 < 3 by decide))) ?_
        go_simp
        refine walk_turn (v := ptr (w3.drew.heap.size)) (w' := (w3.drew.alloc (.cells (v3 0 0 0) 26))) rfl rfl rfl (by go_simp) E1.tail ?_
        go_simp
        refine walk_turn (v := ptr (w3.drew.heap.size + 1)) (w' := ((w3.drew.alloc (.cells (v3 0 0 0) 26)).alloc (.cells (v3 0 0 0) 26))) rfl rfl rfl (by go_simp) E2.tail.tail ?_
        go_simp
        refine walk_turn (v := ptr (w3.drew.heap.size + 1 + 1)) (w' := (((w3.drew.alloc (.cells (v3 0 0 0) 26)).alloc (.cells (v3 0 0 0) 26)).alloc (.cells (v3 0 0 0) 26))) rfl rfl rfl (by go_simp) E3.tail.tail.tail ?_
        go_simp
        have x0 := (E3.tail.tail.tail).rowIn (g := w3.drew.heap.size + 1) (fun p hp => by simp only [List.mem_cons, List.not_mem_nil, or_false] at hp; rcases hp with rfl | rfl | rfl; exact Nat.ne_of_lt (show g5 < _ by simp only [szD]; omega); exact Nat.ne_of_lt (show g3 < _ by simp only [szD]; omega); exact Nat.ne_of_lt (show w.heap.size < _ by simp only [szD]; omega)) (by simp only [szD]; omega) (v3 (Y (0 * 3)) (Y (0 * 3 + 1)) (Y (0 * 3 + 2)))
        have y0 := b1
        refine walk_storeQ rfl rfl rfl (exec_store3 (.tmp 7) (.tmp 26) y0 rfl rfl rfl) x0 ?_
        go_simp
        have x1 := (x0).rowIn (g := w3.drew.heap.size + 1 + 1) (fun p hp => by simp only [List.mem_cons, List.not_mem_nil, or_false] at hp; rcases hp with rfl | rfl | rfl; exact Nat.ne_of_lt (show g5 < _ by simp only [szD]; omega); exact Nat.ne_of_lt (show g3 < _ by simp only [szD]; omega); exact Nat.ne_of_lt (show w.heap.size < _ by simp only [szD]; omega)) (by simp only [szD]; omega) (v3 (Y (1 * 3)) (Y (1 * 3 + 1)) (Y (1 * 3 + 2)))
        have y1 := (b2.rowOther (k := w3.drew.heap.size + 1) (v3 (Y (0 * 3)) (Y (0 * 3 + 1)) (Y (0 * 3 + 2))) (by omega))
        refine walk_storeQ rfl rfl rfl (exec_store3 (.tmp 8) (.tmp 29) y1 rfl rfl rfl) x1 ?_
        go_simp
        have x2 := (x1).rowIn (g := w3.drew.heap.size) (fun p hp => by simp only [List.mem_cons, List.not_mem_nil, or_false] at hp; rcases hp with rfl | rfl | rfl; exact Nat.ne_of_lt (show g5 < _ by simp only [szD]; omega); exact Nat.ne_of_lt (show g3 < _ by simp only [szD]; omega); exact Nat.ne_of_lt (show w.heap.size < _ by simp only [szD]; omega)) (by simp only [szD]; omega) (v3 (Y (2 * 3)) (Y (2 * 3 + 1)) (Y (2 * 3 + 2)))
        have y2 := ((b0.rowOther (k := w3.drew.heap.size + 1) (v3 (Y (0 * 3)) (Y (0 * 3 + 1)) (Y (0 * 3 + 2))) (by omega)).rowOther (k := w3.drew.heap.size + 1 + 1) (v3 (Y (1 * 3)) (Y (1 * 3 + 1)) (Y (1 * 3 + 2))) (by omega))
        refine walk_storeQ rfl rfl rfl (exec_store3 (.tmp 9) (.tmp 32) y2 rfl rfl rfl) x2 ?_
        go_simp
        refine walk_end ?_
        have F : Hid (Gen w [(g3, 29, m9 X), (w3.heap.size + 1, 26, v3 (Y (0 * 3)) (Y (0 * 3 + 1)) (Y (0 * 3 + 2))), (w3.heap.size + 1 + 1, 26, v3 (Y (1 * 3)) (Y (1 * 3 + 1)) (Y (1 * 3 + 2))), (w3.heap.size, 26, v3 (Y (2 * 3)) (Y (2 * 3 + 1)) (Y (2 * 3 + 2)))] ((((((w3.alloc (.cells (v3 0 0 0) 26)).alloc (.cells (v3 0 0 0) 26)).alloc (.cells (v3 0 0 0) 26)).drew.setRow (w3.heap.size + 1) (v3 (Y (0 * 3)) (Y (0 * 3 + 1)) (Y (0 * 3 + 2)))).setRow (w3.heap.size + 1 + 1) (v3 (Y (1 * 3)) (Y (1 * 3 + 1)) (Y (1 * 3 + 2)))).setRow w3.heap.size (v3 (Y (2 * 3)) (Y (2 * 3 + 1)) (Y (2 * 3 + 2))))) := hide (Gen.four4 (x2.blk (g := g3) (t := 29) (cs := m9 X) (by repeat (first | exact List.mem_cons_self | apply List.mem_cons_of_mem))) (((y0.row (v3 (Y (0 * 3)) (Y (0 * 3 + 1)) (Y (0 * 3 + 2)))).rowOther (k := w3.drew.heap.size + 1 + 1) (v3 (Y (1 * 3)) (Y (1 * 3 + 1)) (Y (1 * 3 + 2))) (by omega)).rowOther (k := w3.drew.heap.size) (v3 (Y (2 * 3)) (Y (2 * 3 + 1)) (Y (2 * 3 + 2))) (by omega)) ((y1.row (v3 (Y (1 * 3)) (Y (1 * 3 + 1)) (Y (1 * 3 + 2)))).rowOther (k := w3.drew.heap.size) (v3 (Y (2 * 3)) (Y (2 * 3 + 1)) (Y (2 * 3 + 2))) (by omega)) (y2.row (v3 (Y (2 * 3)) (Y (2 * 3 + 1)) (Y (2 * 3 + 2)))) x2.o)
        clear E1 E2 E3 b0 b1 b2 x0 x1 x2 y0 y1 y2
        generalize ((((((w3.alloc (.cells (v3 0 0 0) 26)).alloc (.cells (v3 0 0 0) 26)).alloc (.cells (v3 0 0 0) 26)).drew.setRow (w3.heap.size + 1) (v3 (Y (0 * 3)) (Y (0 * 3 + 1)) (Y (0 * 3 + 2)))).setRow (w3.heap.size + 1 + 1) (v3 (Y (1 * 3)) (Y (1 * 3 + 1)) (Y (1 * 3 + 2)))).setRow w3.heap.size (v3 (Y (2 * 3)) (Y (2 * 3 + 1)) (Y (2 * 3 + 2)))) = u1 at F ⊢
        generalize w3.heap.size + 1 + 1 = c1 at F ⊢
        generalize w3.heap.size + 1 = c0 at F ⊢
        generalize w3.heap.size = c2 at F ⊢
        exact rest c0 c1 c2 u1 F
    rcases List.mem_cons.1 hl with rfl | hl
    · as_aux_lemma =>
        refine walk_read (v := ?_) rfl rfl rfl (fun u hS => by go_simp; rfl) ?_
        go_simp
        refine walk_read (v := .pointer (some ⟨g5, 0 * 3, none⟩)) rfl rfl rfl (fun u hS => exec_ix3 (k := 0) u (.tmp 24) (.const (.int .i64 0)) (by decide) rfl rfl rfl) ?_
        go_simp
        refine walk_read (v := .agg (v3 (Y (0 * 3)) (Y (0 * 3 + 1)) (Y (0 * 3 + 2)))) rfl rfl rfl (fun u hS => exec_ldMidV (.tmp 25) rfl rfl (m9_range (hS.blk (g := g5) (t := 29) (cs := m9 Y) (by repeat (first | exact List.mem_cons_self | apply List.mem_cons_of_mem))) (show 0 < 3 by decide))) ?_
        go_simp
        refine walk_read (v := ?_) rfl rfl rfl (fun u hS => by go_simp; rfl) ?_
        go_simp
        refine walk_read (v := .pointer (some ⟨g5, 1 * 3, none⟩)) rfl rfl rfl (fun u hS => exec_ix3 (k := 1) u (.tmp 27) (.const (.int .i64 1)) (by decide) rfl rfl rfl) ?_
        go_simp
        refine walk_read (v := .agg (v3 (Y (1 * 3)) (Y (1 * 3 + 1)) (Y (1 * 3 + 2)))) rfl rfl rfl (fun u hS => exec_ldMidV (.tmp 28) rfl rfl (m9_range (hS.blk (g := g5) (t := 29) (cs := m9 Y) (by repeat (first | exact List.mem_cons_self | apply List.mem_cons_of_mem))) (show 1 < 3 by decide))) ?_
        go_simp
        refine walk_read (v := ?_) rfl rfl rfl (fun u hS => by go_simp; rfl) ?_
        go_simp
        refine walk_read (v := .pointer (some ⟨g5, 2 * 3, none⟩)) rfl rfl rfl (fun u hS => exec_ix3 (k := 2) u (.tmp 30) (.const (.int .i64 2)) (by decide) rfl rfl rfl) ?_
        go_simp
        refine walk_read (v := .agg (v3 (Y (2 * 3)) (Y (2 * 3 + 1)) (Y (2 * 3 + 2)))) rfl rfl rfl (fun u hS => exec_ldMidV (.tmp 31) rfl rfl (m9_range (hS.blk (g := g5) (t := 29) (cs := m9 Y) (by repeat (first | exact List.mem_cons_self | apply List.mem_cons_of_mem))) (show 2 < 3 by decide))) ?_
        go_simp
        refine walk_turn (v := ptr (w3.drew.heap.size)) (w' := (w3.drew.alloc (.cells (v3 0 0 0) 26))) rfl rfl rfl (by go_simp) E1.tail ?_
        go_simp
        refine walk_turn (v := ptr (w3.drew.heap.size + 1)) (w' := ((w3.drew.alloc (.cells (v3 0 0 0) 26)).alloc (.cells (v3 0 0 0) 26))) rfl rfl rfl (by go_simp) E2.tail.tail ?_
        go_simp
        refine walk_turn (v := ptr (w3.drew.heap.size + 1 + 1)) (w' := (((w3.drew.alloc (.cells (v3 0 0 0) 26)).alloc (.cells (v3 0 0 0) 26)).alloc (.cells (v3 0 0 0) 26))) rfl rfl rfl (by go_simp) E3.tail.tail.tail ?_
        go_simp
        have x0 := (E3.tail.tail.tail).rowIn (g := w3.drew.heap.size + 1 + 1) (fun p hp => by simp only [List.mem_cons, List.not_mem_nil, or_false] at hp; rcases hp with rfl | rfl | rfl; exact Nat.ne_of_lt (show g5 < _ by simp only [szD]; omega); exact Nat.ne_of_lt (show g3 < _ by simp only [szD]; omega); exact Nat.ne_of_lt (show w.heap.size < _ by simp only [szD]; omega)) (by simp only [szD]; omega) (v3 (Y (0 * 3)) (Y (0 * 3 + 1)) (Y (0 * 3 + 2)))
        have y0 := b2
        refine walk_storeQ rfl rfl rfl (exec_store3 (.tmp 7) (.tmp 26) y0 rfl rfl rfl) x0 ?_
        go_simp
        have x1 := (x0).rowIn (g := w3.drew.heap.size + 1) (fun p hp => by simp only [List.mem_cons, List.not_mem_nil, or_false] at hp; rcases hp with rfl | rfl | rfl; exact Nat.ne_of_lt (show g5 < _ by simp only [szD]; omega); exact Nat.ne_of_lt (show g3 < _ by simp only [szD]; omega); exact Nat.ne_of_lt (show w.heap.size < _ by simp only [szD]; omega)) (by simp only [szD]; omega) (v3 (Y (1 * 3)) (Y (1 * 3 + 1)) (Y (1 * 3 + 2)))
        have y1 := (b1.rowOther (k := w3.drew.heap.size + 1 + 1) (v3 (Y (0 * 3)) (Y (0 * 3 + 1)) (Y (0 * 3 + 2))) (by omega))
        refine walk_storeQ rfl rfl rfl (exec_store3 (.tmp 8) (.tmp 29) y1 rfl rfl rfl) x1 ?_
        go_simp
        have x2 := (x1).rowIn (g := w3.drew.heap.size) (fun p hp => by simp only [List.mem_cons, List.not_mem_nil, or_false] at hp; rcases hp with rfl | rfl | rfl; exact Nat.ne_of_lt (show g5 < _ by simp only [szD]; omega); exact Nat.ne_of_lt (show g3 < _ by simp only [szD]; omega); exact Nat.ne_of_lt (show w.heap.size < _ by simp only [szD]; omega)) (by simp only [szD]; omega) (v3 (Y (2 * 3)) (Y (2 * 3 + 1)) (Y (2 * 3 + 2)))
        have y2 := ((b0.rowOther (k := w3.drew.heap.size + 1 + 1) (v3 (Y (0 * 3)) (Y (0 * 3 + 1)) (Y (0 * 3 + 2))) (by omega)).rowOther (k := w3.drew.heap.size + 1) (v3 (Y (1 * 3)) (Y (1 * 3 + 1)) (Y (1 * 3 + 2))) (by omega))
        refine walk_storeQ rfl rfl rfl (exec_store3 (.tmp 9) (.tmp 32) y2 rfl rfl rfl) x2 ?_
        go_simp
        refine walk_end ?_
        have F : Hid (Gen w [(g3, 29, m9 X), (w3.heap.size + 1 + 1, 26, v3 (Y (0 * 3)) (Y (0 * 3 + 1)) (Y (0 * 3 + 2))), (w3.heap.size + 1, 26, v3 (Y (1 * 3)) (Y (1 * 3 + 1)) (Y (1 * 3 + 2))), (w3.heap.size, 26, v3 (Y (2 * 3)) (Y (2 * 3 + 1)) (Y (2 * 3 + 2)))] ((((((w3.alloc (.cells (v3 0 0 0) 26)).alloc (.cells (v3 0 0 0) 26)).alloc (.cells (v3 0 0 0) 26)).drew.setRow (w3.heap.size + 1 + 1) (v3 (Y (0 * 3)) (Y (0 * 3 + 1)) (Y (0 * 3 + 2)))).setRow (w3.heap.size + 1) (v3 (Y (1 * 3)) (Y (1 * 3 + 1)) (Y (1 * 3 + 2)))).setRow w3.heap.size (v3 (Y (2 * 3)) (Y (2 * 3 + 1)) (Y (2 * 3 + 2))))) := hide (Gen.four4 (x2.blk (g := g3) (t := 29) (cs := m9 X) (by repeat (first | exact List.mem_cons_self | apply List.mem_cons_of_mem))) (((y0.row (v3 (Y (0 * 3)) (Y (0 * 3 + 1)) (Y (0 * 3 + 2)))).rowOther (k := w3.drew.heap.size + 1) (v3 (Y (1 * 3)) (Y (1 * 3 + 1)) (Y (1 * 3 + 2))) (by omega)).rowOther (k := w3.drew.heap.size) (v3 (Y (2 * 3)) (Y (2 * 3 + 1)) (Y (2 * 3 + 2))) (by omega)) ((y1.row (v3 (Y (1 * 3)) (Y (1 * 3 + 1)) (Y (1 * 3 + 2)))).rowOther (k := w3.drew.heap.size) (v3 (Y (2 * 3)) (Y (2 * 3 + 1)) (Y (2 * 3 + 2))) (by omega)) (y2.row (v3 (Y (2 * 3)) (Y (2 * 3 + 1)) (Y (2 * 3 + 2)))) x2.o)
        clear E1 E2 E3 b0 b1 b2 x0 x1 x2 y0 y1 y2
        generalize ((((((w3.alloc (.cells (v3 0 0 0) 26)).alloc (.cells (v3 0 0 0) 26)).alloc (.cells (v3 0 0 0) 26)).drew.setRow (w3.heap.size + 1 + 1) (v3 (Y (0 * 3)) (Y (0 * 3 + 1)) (Y (0 * 3 + 2)))).setRow (w3.heap.size + 1) (v3 (Y (1 * 3)) (Y (1 * 3 + 1)) (Y (1 * 3 + 2)))).setRow w3.heap.size (v3 (Y (2 * 3)) (Y (2 * 3 + 1)) (Y (2 * 3 + 2)))) = u1 at F ⊢
        generalize w3.heap.size + 1 + 1 = c0 at F ⊢
        generalize w3.heap.size + 1 = c1 at F ⊢
        generalize w3.heap.size = c2 at F ⊢
        exact rest c0 c1 c2 u1 F
    · cases hl
  intro c0 c1 c2 u1 G
  clear D hlt hw0
  have D := G
  clear G
  as_aux_lemma =>
    go_wp2_with (first | (with_reducible refine at_list ?_;  refine wpList_value rfl (exec_ix3 (k := 0) _ (.tmp 33) (.const (.int .i64 0)) p0 rfl rfl rfl) ?_) | (with_reducible refine at_list ?_;  refine wpList_valuew rfl (exec_ix3 (k := 1) _ (.tmp 45) (.const (.int .i64 1)) p1 rfl rfl rfl) ?_) | (with_reducible refine at_list ?_;  refine wpList_valuew rfl (exec_ix3 (k := 2) _ (.tmp 58) (.const (.int .i64 2)) p2 rfl rfl rfl) ?_) | (with_reducible refine at_list ?_;  refine wpList_value rfl (exec_ldMidV (.tmp 34) rfl rfl (m9_range ((unhide D).blk (g := g3) (t := 29) (cs := m9 X) (by repeat (first | exact List.mem_cons_self | apply List.mem_cons_of_mem))) p0)) ?_) | (with_reducible refine at_list ?_;  refine wpList_valuew rfl (exec_ldMidV (.tmp 46) rfl rfl (m9_range ((unhide D).blk (g := g3) (t := 29) (cs := m9 X) (by repeat (first | exact List.mem_cons_self | apply List.mem_cons_of_mem))) p1)) ?_) | (with_reducible refine at_list ?_;  refine wpList_valuew rfl (exec_ldMidV (.tmp 59) rfl rfl (m9_range ((unhide D).blk (g := g3) (t := 29) (cs := m9 X) (by repeat (first | exact List.mem_cons_self | apply List.mem_cons_of_mem))) p2)) ?_) | (with_reducible refine at_list ?_; apply ldFw (unhide D) _ rfl rfl rfl (by repeat (first | exact List.mem_cons_self | apply List.mem_cons_of_mem)) rfl) | (with_reducible refine at_list ?_; apply ldF (unhide D) _ rfl rfl rfl (by repeat (first | exact List.mem_cons_self | apply List.mem_cons_of_mem)) rfl) | (with_reducible refine at_list ?_; refine eqlV _ _ _ s0 rfl rfl rfl rfl ?_) | (with_reducible refine at_list ?_; refine eqlVw _ _ _ s1 rfl rfl rfl rfl ?_) | (with_reducible refine at_list ?_; refine eqlVw _ _ _ s2 rfl rfl rfl rfl ?_) | (go_at_call 12; with_reducible refine (unhide hW _ ((unhide HP).below (unhide D).o hPlt) ((unhide HT).below (unhide D).o hTlt)).mono ?_; rintro e w' ⟨he, hb⟩; subst he; have D := hide ((unhide D).keep hb); clear hb))
    go_ret
    exact ⟨rfl, (unhide D).o⟩
theorem trn_0 (a b c d : Int) : trn a b c d 24 0 = 0 + a * a * 1 + b * b * 1 + c * c * -1 + d * d * -1 := rfl
theorem trn_1 (a b c d : Int) : trn a b c d 24 1 = 0 + b * c * 2 + a * d * -2 := rfl
theorem trn_2 (a b c d : Int) : trn a b c d 24 2 = 0 + b * d * 2 + a * c * 2 := rfl
theorem trn_3 (a b c d : Int) : trn a b c d 24 3 = 0 + b * c * 2 + a * d * 2 := rfl
theorem trn_4 (a b c d : Int) : trn a b c d 24 4 = 0 + a * a * 1 + b * b * -1 + c * c * 1 + d * d * -1 := rfl
theorem trn_5 (a b c d : Int) : trn a b c d 24 5 = 0 + c * d * 2 + a * b * -2 := rfl
theorem trn_6 (a b c d : Int) : trn a b c d 24 6 = 0 + b * d * 2 + a * c * -2 := rfl
theorem trn_7 (a b c d : Int) : trn a b c d 24 7 = 0 + c * d * 2 + a * b * 2 := rfl
theorem trn_8 (a b c d : Int) : trn a b c d 24 8 = 0 + a * a * 1 + b * b * -1 + c * c * -1 + d * d * 1 := rfl
theorem sq4_neg (a b c d : Int) : sq4 a (-b) (-c) (-d) = sq4 a b c d := by
  unfold sq4
  rw [Int.neg_mul_neg, Int.neg_mul_neg, Int.neg_mul_neg]
theorem matQ_back0 (a b c d : Int) : matQ a b c d 0 = matQ a (-b) (-c) (-d) 0 := by
  unfold matQ
  rw [sq4_neg, trn_0, trn_0]
  congr 1
  grind
theorem matQ_back1 (a b c d : Int) : matQ a b c d 1 = matQ a (-b) (-c) (-d) 3 := by
  unfold matQ
  rw [sq4_neg, trn_1, trn_3]
  congr 1
  grind
theorem matQ_back2 (a b c d : Int) : matQ a b c d 2 = matQ a (-b) (-c) (-d) 6 := by
  unfold matQ
  rw [sq4_neg, trn_2, trn_6]
  congr 1
  grind
theorem matQ_back3 (a b c d : Int) : matQ a b c d 3 = matQ a (-b) (-c) (-d) 1 := by
  unfold matQ
  rw [sq4_neg, trn_3, trn_1]
  congr 1
  grind
theorem matQ_back4 (a b c d : Int) : matQ a b c d 4 = matQ a (-b) (-c) (-d) 4 := by
  unfold matQ
  rw [sq4_neg, trn_4, trn_4]
  congr 1
  grind
theorem matQ_back5 (a b c d : Int) : matQ a b c d 5 = matQ a (-b) (-c) (-d) 7 := by
  unfold matQ
  rw [sq4_neg, trn_5, trn_7]
  congr 1
  grind
theorem matQ_back6 (a b c d : Int) : matQ a b c d 6 = matQ a (-b) (-c) (-d) 2 := by
  unfold matQ
  rw [sq4_neg, trn_6, trn_2]
  congr 1
  grind
theorem matQ_back7 (a b c d : Int) : matQ a b c d 7 = matQ a (-b) (-c) (-d) 5 := by
  unfold matQ
  rw [sq4_neg, trn_7, trn_5]
  congr 1
  grind
theorem matQ_back8 (a b c d : Int) : matQ a b c d 8 = matQ a (-b) (-c) (-d) 8 := by
  unfold matQ
  rw [sq4_neg, trn_8, trn_8]
  congr 1
  grind
theorem back_I64 {a : Int} (h : I64 a) (h0 : -9223372036854775808 < a) : cl (0 - a) = -a := by
  rw [Int.zero_sub]
  exact cl_self ⟨by have := h.2; omega, by omega⟩
theorem big_sq {x : Int} (h : 9223372036854775807 ≤ x) : 73786976294838206464 < x * x := by
  have := Int.mul_le_mul h h (by decide) (by omega)
  omega
theorem chk_big {n : Int} (h : 73786976294838206464 < n) : chk n = 9 := by
  unfold chk
  rw [if_neg (by omega), if_pos h]
theorem quatBack_walk (a b c d : Int) (k0 : (Lit.int .i64 a).wf = true) (l0 : (Lit.int .i64 b).wf = true) (m0 : (Lit.int .i64 c).wf = true) (n0 : (Lit.int .i64 d).wf = true) (w : World) (hP : Tab 1 tabP w) (hT : Tab 0 tabT w) :
    Calls Tryd.prog 6 #[.agg (q4 a b c d)] w fun e w' => e = .returned (.bool true) ∧ Below w.heap.size w w' := by
  have h0 := I64.wf k0
  have h1 := I64.wf l0
  have h2 := I64.wf m0
  have h3 := I64.wf n0
  have hB := QBackZ a b c d h1 h2 h3
  have bad : ∀ x y z, I64 x → I64 y → I64 z → Ans 21 #[.agg (q4 a b c d)] (.agg (q4 a x y z)) → chk (sq4 a b c d) = 9 → chk (sq4 a x y z) = 9 → Calls Tryd.prog 6 #[.agg (q4 a b c d)] w fun e w' => e = .returned (.bool true) ∧ Below w.heap.size w w' := fun x y z i1 i2 i3 hb hc hc2 =>
    back5_core a b c d x y z 9 (fun _ => 0) (fun _ => 0) tabP tabT w hP hT (by decide) (by decide) (by decide) (by decide) (fun u p q => awake5Z u p q) hb (fun u _ => QMatBad a b c d h0 h1 h2 h3 hc u) (fun u _ => QMatBad a x y z h0 i1 i2 i3 hc2 u)
  have hg := sq4_ge a (cl (0 - b)) (cl (0 - c)) (cl (0 - d))
  have hg2 := sq4_ge a b c d
  by_cases f1 : -9223372036854775808 < b
  · by_cases f2 : -9223372036854775808 < c
    · by_cases f3 : -9223372036854775808 < d
      · rw [back_I64 h1 f1, back_I64 h2 f2, back_I64 h3 f3] at hB
        have i1 : I64 (-b) := by rw [← back_I64 h1 f1]; exact cl_I64 _
        have i2 : I64 (-c) := by rw [← back_I64 h2 f2]; exact cl_I64 _
        have i3 : I64 (-d) := by rw [← back_I64 h3 f3]; exact cl_I64 _
        rcases chk_cases (sq4 a b c d) with hc | hc
        · have hc2 : chk (sq4 a (-b) (-c) (-d)) = 0 := by rw [sq4_neg]; exact hc
          refine back5_core a b c d _ _ _ 0 (matQ a b c d) (matQ a (-b) (-c) (-d)) tabP tabT w hP hT (by decide) ?_ ?_ ?_ (fun u p q => awake5Z u p q) hB (fun u p => QMatZ a b c d h0 h1 h2 h3 hc u p) (fun u p => QMatZ a (-b) (-c) (-d) h0 i1 i2 i3 hc2 u p)
          · exact decide_eq_true ⟨matQ_back0 a b c d, matQ_back1 a b c d, matQ_back2 a b c d⟩
          · exact decide_eq_true ⟨matQ_back3 a b c d, matQ_back4 a b c d, matQ_back5 a b c d⟩
          · exact decide_eq_true ⟨matQ_back6 a b c d, matQ_back7 a b c d, matQ_back8 a b c d⟩
        · exact bad _ _ _ i1 i2 i3 hB hc (by rw [sq4_neg]; exact hc)
      · have e : d = -9223372036854775808 := by have := h3.1; omega
        subst e
        exact bad _ _ _ (cl_I64 _) (cl_I64 _) (cl_I64 _) hB (chk_big (by have := hg2.2.2.2; omega)) (chk_big (by have := hg.2.2.2; rw [show cl (0 - -9223372036854775808) = 9223372036854775807 from rfl] at *; omega))
    · have e : c = -9223372036854775808 := by have := h2.1; omega
      subst e
      exact bad _ _ _ (cl_I64 _) (cl_I64 _) (cl_I64 _) hB (chk_big (by have := hg2.2.2.1; omega)) (chk_big (by have := hg.2.2.1; rw [show cl (0 - -9223372036854775808) = 9223372036854775807 from rfl] at *; omega))
  · have e : b = -9223372036854775808 := by have := h1.1; omega
    subst e
    exact bad _ _ _ (cl_I64 _) (cl_I64 _) (cl_I64 _) hB (chk_big (by have := hg2.2.1; omega)) (chk_big (by have := hg.2.1; rw [show cl (0 - -9223372036854775808) = 9223372036854775807 from rfl] at *; omega))

end Go.Proofs.YtlmmpgophpbjnaaDoor
