/- Package mat: raw, times, products, sum, the minors' closure, quotient. Package mat: Between. Package mat: minors. Package mat: minorsOfColumn, determinant, Det, One, Diag. Package mat: Solve, Inverse. -/
import Derived.Test.YtcbepibdeokboaaGreatNq
namespace Go.Proofs.YtcbepibdeokboaaGreat
open Go.RowKit
set_option maxRecDepth 4000
set_option linter.unusedVariables false

theorem bMNum (a b c : Nat) : Tryz.prog.built 57 [(0, .agg (cells8 a)), (1, .agg (cells8 b)), (2, .agg (cells8 c))] = some (ws [a, b, c]) := by kernel_rfl
theorem arrMNum : Tryz.prog.underlying 57 = some (.array (Tryz.prog.arrayLen 57) (Tryz.prog.elem 57)) := by kernel_rfl
theorem lenMNum : Tryz.prog.arrayLen 57 = 3 := by kernel_rfl
theorem elMNum : (Tryz.prog.info? (Tryz.prog.elem 57)).map (·.size) = some 8 := by kernel_rfl
theorem exec_ixn {o : Oper} {a : Act} (w : World) {g b k : Nat} (x y : Operand) (hk : k < 3) (ho : o.op = .indexAddr 57 x y) (hx : a.eval x = .pointer (some ⟨g, b, none⟩)) (hy : a.eval y = .int .i64 k) : (execOp a.eval o).run Tryz.prog w = .ok (.value (.pointer (some ⟨g, b + k * 8, none⟩))) w := by
  unfold execOp
  simp only [ho, hx, hy, Sem.run_bind, run_indexAt_array w _ _ _ _ arrMNum, lenMNum]
  rw [if_pos ⟨by omega, by omega⟩, run_sizeOf elMNum]
  simp only [Result.andThen_ok, Sem.run_pure, Addr.add_mid, Int.toNat_natCast]
theorem arrMAll : Tryz.prog.underlying 75 = some (.array (Tryz.prog.arrayLen 75) (Tryz.prog.elem 75)) := by kernel_rfl
theorem lenMAll : Tryz.prog.arrayLen 75 = 3 := by kernel_rfl
theorem elMAll : (Tryz.prog.info? (Tryz.prog.elem 75)).map (·.size) = some 24 := by kernel_rfl
theorem exec_ixa {o : Oper} {a : Act} (w : World) {g k : Nat} (x y : Operand) (hk : k < 3) (ho : o.op = .indexAddr 75 x y) (hx : a.eval x = .pointer (some ⟨g, 0, none⟩)) (hy : a.eval y = .int .i64 k) : (execOp a.eval o).run Tryz.prog w = .ok (.value (.pointer (some ⟨g, k * 24, none⟩))) w := by
  unfold execOp
  simp only [ho, hx, hy, Sem.run_bind, run_indexAt_array w _ _ _ _ arrMAll, lenMAll]
  rw [if_pos ⟨by omega, by omega⟩, run_sizeOf elMAll]
  simp only [Result.andThen_ok, Sem.run_pure, Addr.add_mid, Int.toNat_natCast, Nat.zero_add]
abbrev z24m : Array Value := #[.int .u64 0, .int .u64 0, .int .u64 0, .int .u64 0, .int .u64 0, .int .u64 0, .int .u64 0, .int .u64 0, .int .u64 0, .int .u64 0, .int .u64 0, .int .u64 0, .int .u64 0, .int .u64 0, .int .u64 0, .int .u64 0, .int .u64 0, .int .u64 0, .int .u64 0, .int .u64 0, .int .u64 0, .int .u64 0, .int .u64 0, .int .u64 0]
theorem z24m_ws : z24m = ws [0, 0, 0] := by kernel_rfl

set_option maxHeartbeats 1000000 in
theorem mraw_core (q0 q1 q2 : Int) (A1 A2 A3 : Nat) (w : World) (h0 : Hid (Ans 51 #[.int .i64 q0] (.agg (cells8 A1)))) (h1 : Hid (Ans 51 #[.int .i64 q1] (.agg (cells8 A2)))) (h2 : Hid (Ans 51 #[.int .i64 q2] (.agg (cells8 A3)))) :
    Calls Tryz.prog 30 #[.agg (v3 q0 q1 q2)] w fun e w' => e = .returned (.agg (ws [A1, A2, A3])) ∧ Below w.heap.size w w' := by
  go_enter Tryz.func30, Tryz.ntmps30
  go_upto_region 1 with fail
  have D := hide (((Gen.start w).push 24 (v3 q0 q1 q2)).push 57 z24m)
  simp only [szA] at D
  refine region_last (S := Gen w _) (f := 10) (l := [0, 1, 2, 3, 4, 5, 6, 7, 8, 9]) (by kernel_rfl) (by kernel_rfl) (by kernel_rfl) (by kernel_rfl) (by kernel_rfl) (by kernel_rfl) (by kernel_rfl) (by kernel_rfl) (by kernel_rfl) (by kernel_rfl) rfl rfl (unhide D).drew ?_
  clear D
  refine plan_read (v := ?_) rfl rfl (fun u hS => by go_simp; rfl) ?_
  try go_simp
  refine plan_read (v := .int .i64 q0) rfl rfl (fun u hS => exec_loadFG hS _ rfl rfl (by repeat (first | exact List.mem_cons_self | apply List.mem_cons_of_mem)) rfl) ?_
  try go_simp
  refine plan_call (v := .agg (cells8 A1)) (f := 51) (args := #[.int .i64 q0]) rfl rfl (fun u hS => by go_simp) (fun u hS => (unhide h0 u).mono fun _ _ ⟨he, hb⟩ => ⟨he, hS.keep hb⟩) ?_
  try go_simp
  refine plan_read (v := ?_) rfl rfl (fun u hS => by go_simp; rfl) ?_
  try go_simp
  refine plan_read (v := .int .i64 q1) rfl rfl (fun u hS => exec_loadFG hS _ rfl rfl (by repeat (first | exact List.mem_cons_self | apply List.mem_cons_of_mem)) rfl) ?_
  try go_simp
  refine plan_call (v := .agg (cells8 A2)) (f := 51) (args := #[.int .i64 q1]) rfl rfl (fun u hS => by go_simp) (fun u hS => (unhide h1 u).mono fun _ _ ⟨he, hb⟩ => ⟨he, hS.keep hb⟩) ?_
  try go_simp
  refine plan_read (v := ?_) rfl rfl (fun u hS => by go_simp; rfl) ?_
  try go_simp
  refine plan_read (v := .int .i64 q2) rfl rfl (fun u hS => exec_loadFG hS _ rfl rfl (by repeat (first | exact List.mem_cons_self | apply List.mem_cons_of_mem)) rfl) ?_
  try go_simp
  refine plan_call (v := .agg (cells8 A3)) (f := 51) (args := #[.int .i64 q2]) rfl rfl (fun u hS => by go_simp) (fun u hS => (unhide h2 u).mono fun _ _ ⟨he, hb⟩ => ⟨he, hS.keep hb⟩) ?_
  try go_simp
  refine plan_read (v := .agg (ws [A1, A2, A3])) rfl rfl (fun u hS => exec_build3 _ 57 (.tmp 5) (.tmp 8) (.tmp 11) rfl rfl rfl rfl (bMNum A1 A2 A3)) ?_
  refine plan_last (fun u hS => ?_)
  have B0 := hide (hS.blk (g := w.heap.size + 1) (t := 57) (cs := z24m) (by repeat (first | exact List.mem_cons_self | apply List.mem_cons_of_mem)))
  refine wp_store_row 57 (.tmp 2) (.tmp 12) rfl _ (ws [A1, A2, A3]) rfl rfl 57 z24m (unhide B0) rMNum.i rfl (ws_one _) ?_
  have B := hide ((unhide B0).row (ws [A1, A2, A3]))
  have O := hide (below_row hS.o (show w.heap.size ≤ w.heap.size + 1 by omega) (ws [A1, A2, A3]))
  clear hS B0
  go_wp2
  exact resG rMNum (unhide B) rfl rfl rfl rfl ⟨rfl, unhide O⟩
theorem MRawZ (a b c : Int) (h0 : I64 a) (h1 : I64 b) (h2 : I64 c) : Ans 30 #[.agg (v3 a b c)] (.agg (ws [enc a, enc b, enc c])) := fun w =>
  mraw_core a b c _ _ _ w (fun u => OfZ a h0.1 h0.2 u) (fun u => OfZ b h1.1 h1.2 u) (fun u => OfZ c h2.1 h2.2 u)

theorem mtimes_core (N M P : Nat) (E : Bool) (w : World) (hM : Hid (Ans 73 #[.agg (cells8 N), .agg (cells8 M)] (.tuple #[.agg (cells8 P), .bool E]))) :
    Calls Tryz.prog 46 #[.agg (cells8 N), .agg (cells8 M)] w fun e w' => e = .returned (.agg (cells8 P)) ∧ Below w.heap.size w w' := by
  go_enter Tryz.func46, Tryz.ntmps46
  go_upto_region 1 with fail
  have D := hide ((((Gen.start w).push 54 (cells8 N)).push 54 (cells8 M)).push 54 z8)
  simp only [szA] at D
  go_wp2_with (first | (with_reducible refine at_list ?_; apply ldG (unhide D) rWide _ rfl rfl rfl (by repeat (first | exact List.mem_cons_self | apply List.mem_cons_of_mem)) rfl) | (go_at_call 73; with_reducible refine (unhide hM _).mono ?_; rintro e w' ⟨he, hb⟩; subst he; have D := hide ((unhide D).keep hb); clear hb) | (with_reducible refine at_list ?_; refine stG (unhide D) rWide _ _ rfl rfl rfl rfl rfl rfl (cells8_one _) ?_; intro D'; have D := hide D'; clear D') | (with_reducible refine at_list ?_; apply stGend (unhide D) rWide _ _ rfl rfl rfl rfl (by repeat (first | exact List.mem_cons_self | apply List.mem_cons_of_mem)) (by omega) rfl rfl (cells8_one _); intro B O))
  exact resG rWide (unhide B) rfl rfl rfl rfl ⟨rfl, unhide O⟩
theorem MTimesZ {j k : Nat} (x y : Int) (hx : Sz j x) (hy : Sz k y) (h : j + k ≤ 510) : Ans 46 #[V x, V y] (V (x * y)) := fun w => mtimes_core _ _ _ true w (mul_told x y hx hy h)

set_option maxHeartbeats 2000000 in
theorem mproducts_core (a0 a1 a2 b0 b1 b2 p0 p1 p2 : Nat) (w : World) (h0 : Hid (Ans 46 #[.agg (cells8 a0), .agg (cells8 b0)] (.agg (cells8 p0)))) (h1 : Hid (Ans 46 #[.agg (cells8 a1), .agg (cells8 b1)] (.agg (cells8 p1)))) (h2 : Hid (Ans 46 #[.agg (cells8 a2), .agg (cells8 b2)] (.agg (cells8 p2)))) :
    Calls Tryz.prog 49 #[.agg (ws [a0, a1, a2]), .agg (ws [b0, b1, b2])] w fun e w' => e = .returned (.agg (ws [p0, p1, p2])) ∧ Below w.heap.size w w' := by
  go_enter Tryz.func49, Tryz.ntmps49
  go_upto_region 1 with fail
  have D := hide ((((Gen.start w).push 57 (ws [a0, a1, a2])).push 57 (ws [b0, b1, b2])).push 57 z24m)
  simp only [szA] at D
  refine region_last (S := Gen w _) (f := 16) (l := [0, 1, 2, 3, 4, 5, 6, 7, 8, 9, 10, 11, 12, 13, 14, 15]) (by kernel_rfl) (by kernel_rfl) (by kernel_rfl) (by kernel_rfl) (by kernel_rfl) (by kernel_rfl) (by kernel_rfl) (by kernel_rfl) (by kernel_rfl) (by kernel_rfl) rfl rfl (unhide D).drew ?_
  clear D
  refine plan_read (v := .pointer (some ⟨w.heap.size, 0, none⟩)) rfl rfl (fun u hS => exec_ixn u (b := 0) (k := 0) (.tmp 2) (.const (.int .i64 0)) (by decide) rfl rfl rfl) ?_
  try go_simp
  refine plan_read (v := .agg (cells8 a0)) rfl rfl (fun u hS => exec_ldMid (.tmp 5) rfl rfl (ws_range (hS.blk (g := w.heap.size) (t := 57) (cs := ws [a0, a1, a2]) (by repeat (first | exact List.mem_cons_self | apply List.mem_cons_of_mem))) (k := 0) (n := a0) rfl)) ?_
  try go_simp
  refine plan_read (v := .pointer (some ⟨w.heap.size + 1, 0, none⟩)) rfl rfl (fun u hS => exec_ixn u (b := 0) (k := 0) (.tmp 3) (.const (.int .i64 0)) (by decide) rfl rfl rfl) ?_
  try go_simp
  refine plan_read (v := .agg (cells8 b0)) rfl rfl (fun u hS => exec_ldMid (.tmp 7) rfl rfl (ws_range (hS.blk (g := w.heap.size + 1) (t := 57) (cs := ws [b0, b1, b2]) (by repeat (first | exact List.mem_cons_self | apply List.mem_cons_of_mem))) (k := 0) (n := b0) rfl)) ?_
  try go_simp
  refine plan_call (v := .agg (cells8 p0)) (f := 46) (args := #[.agg (cells8 a0), .agg (cells8 b0)]) rfl rfl (fun u hS => by go_simp) (fun u hS => (unhide h0 u).mono fun _ _ ⟨he, hb⟩ => ⟨he, hS.keep hb⟩) ?_
  try go_simp
  refine plan_read (v := .pointer (some ⟨w.heap.size, 8, none⟩)) rfl rfl (fun u hS => exec_ixn u (b := 0) (k := 1) (.tmp 2) (.const (.int .i64 1)) (by decide) rfl rfl rfl) ?_
  try go_simp
  refine plan_read (v := .agg (cells8 a1)) rfl rfl (fun u hS => exec_ldMid (.tmp 10) rfl rfl (ws_range (hS.blk (g := w.heap.size) (t := 57) (cs := ws [a0, a1, a2]) (by repeat (first | exact List.mem_cons_self | apply List.mem_cons_of_mem))) (k := 1) (n := a1) rfl)) ?_
  try go_simp
  refine plan_read (v := .pointer (some ⟨w.heap.size + 1, 8, none⟩)) rfl rfl (fun u hS => exec_ixn u (b := 0) (k := 1) (.tmp 3) (.const (.int .i64 1)) (by decide) rfl rfl rfl) ?_
  try go_simp
  refine plan_read (v := .agg (cells8 b1)) rfl rfl (fun u hS => exec_ldMid (.tmp 12) rfl rfl (ws_range (hS.blk (g := w.heap.size + 1) (t := 57) (cs := ws [b0, b1, b2]) (by repeat (first | exact List.mem_cons_self | apply List.mem_cons_of_mem))) (k := 1) (n := b1) rfl)) ?_
  try go_simp
  refine plan_call (v := .agg (cells8 p1)) (f := 46) (args := #[.agg (cells8 a1), .agg (cells8 b1)]) rfl rfl (fun u hS => by go_simp) (fun u hS => (unhide h1 u).mono fun _ _ ⟨he, hb⟩ => ⟨he, hS.keep hb⟩) ?_
  try go_simp
  refine plan_read (v := .pointer (some ⟨w.heap.size, 16, none⟩)) rfl rfl (fun u hS => exec_ixn u (b := 0) (k := 2) (.tmp 2) (.const (.int .i64 2)) (by decide) rfl rfl rfl) ?_
  try go_simp
  refine plan_read (v := .agg (cells8 a2)) rfl rfl (fun u hS => exec_ldMid (.tmp 15) rfl rfl (ws_range (hS.blk (g := w.heap.size) (t := 57) (cs := ws [a0, a1, a2]) (by repeat (first | exact List.mem_cons_self | apply List.mem_cons_of_mem))) (k := 2) (n := a2) rfl)) ?_
  try go_simp
  refine plan_read (v := .pointer (some ⟨w.heap.size + 1, 16, none⟩)) rfl rfl (fun u hS => exec_ixn u (b := 0) (k := 2) (.tmp 3) (.const (.int .i64 2)) (by decide) rfl rfl rfl) ?_
  try go_simp
  refine plan_read (v := .agg (cells8 b2)) rfl rfl (fun u hS => exec_ldMid (.tmp 17) rfl rfl (ws_range (hS.blk (g := w.heap.size + 1) (t := 57) (cs := ws [b0, b1, b2]) (by repeat (first | exact List.mem_cons_self | apply List.mem_cons_of_mem))) (k := 2) (n := b2) rfl)) ?_
  try go_simp
  refine plan_call (v := .agg (cells8 p2)) (f := 46) (args := #[.agg (cells8 a2), .agg (cells8 b2)]) rfl rfl (fun u hS => by go_simp) (fun u hS => (unhide h2 u).mono fun _ _ ⟨he, hb⟩ => ⟨he, hS.keep hb⟩) ?_
  try go_simp
  refine plan_read (v := .agg (ws [p0, p1, p2])) rfl rfl (fun u hS => exec_build3 _ 57 (.tmp 9) (.tmp 14) (.tmp 19) rfl rfl rfl rfl (bMNum p0 p1 p2)) ?_
  refine plan_last (fun u hS => ?_)
  have B0 := hide (hS.blk (g := w.heap.size + 1 + 1) (t := 57) (cs := z24m) (by repeat (first | exact List.mem_cons_self | apply List.mem_cons_of_mem)))
  refine wp_store_row 57 (.tmp 4) (.tmp 20) rfl _ (ws [p0, p1, p2]) rfl rfl 57 z24m (unhide B0) rMNum.i rfl (ws_one _) ?_
  have B := hide ((unhide B0).row (ws [p0, p1, p2]))
  have O := hide (below_row hS.o (show w.heap.size ≤ w.heap.size + 1 + 1 by omega) (ws [p0, p1, p2]))
  clear hS B0
  go_wp2
  exact resG rMNum (unhide B) rfl rfl rfl rfl ⟨rfl, unhide O⟩
theorem MProductsZ {j k : Nat} (a0 a1 a2 b0 b1 b2 : Int) (x0 : Sz j a0) (x1 : Sz j a1) (x2 : Sz j a2) (y0 : Sz k b0) (y1 : Sz k b1) (y2 : Sz k b2) (h : j + k ≤ 510) :
    Ans 49 #[.agg (ws [enc a0, enc a1, enc a2]), .agg (ws [enc b0, enc b1, enc b2])] (.agg (ws [enc (a0 * b0), enc (a1 * b1), enc (a2 * b2)])) := fun w =>
  mproducts_core _ _ _ _ _ _ _ _ _ w (MTimesZ a0 b0 x0 y0 h) (MTimesZ a1 b1 x1 y1 h) (MTimesZ a2 b2 x2 y2 h)

theorem ws3_at (a b c : Nat) (k : Nat) (h : k < 3) (u : World) : (Instr.index 57 (.agg (ws [a, b, c])) (.int .i64 k)).run Tryz.prog u = .ok (.agg (cells8 ([a, b, c].getD k 0))) u := by
  rcases (show k = 0 ∨ k = 1 ∨ k = 2 by omega) with rfl | rfl | rfl <;> kernel_rfl
set_option maxHeartbeats 2000000 in
theorem msum_core (L M Pr : List Nat) (ls ss : Nat → Nat) (w : World) (hLs : (ws L).size = 24) (hMs : (ws M).size = 24) (h0 : Hid (ss 0 = 0)) (hI : Hid (∀ k : Nat, k < 3 → ∀ u, (Instr.index 57 (.agg (ws Pr)) (.int .i64 k)).run Tryz.prog u = .ok (.agg (cells8 (ls k))) u))
    (hP : Hid (Ans 49 #[.agg (ws L), .agg (ws M)] (.agg (ws Pr)))) (hA : Hid (∀ k, k < 3 → Ans 50 #[.agg (cells8 (ss k)), .agg (cells8 (ls k))] (.tuple #[.agg (cells8 (ss (k + 1))), .bool true]))) :
    Calls Tryz.prog 29 #[.agg (ws L), .agg (ws M)] w fun e w' => e = .returned (.agg (cells8 (ss 3))) ∧ Below w.heap.size w w' := by
  go_enter Tryz.func29, Tryz.ntmps29
  go_upto_region 2 with fail
  have D := hide (((((Gen.start w).push 57 (ws L)).push 57 (ws M)).push 54 z8).push 54 z8)
  simp only [szA] at D
  generalize hgz : ((((w.alloc (.cells (ws L) 57)).alloc (.cells (ws M) 57)).alloc (.cells z8 54)).alloc (.cells z8 54)) = w1 at D ⊢
  clear hgz
  rw [show z8 = cells8 0 from cells8_0.symm] at D
  go_wp2_with (first | (with_reducible refine at_list ?_;  apply ldG (unhide D) rMNum _ rfl rfl rfl (by repeat (first | exact List.mem_cons_self | apply List.mem_cons_of_mem)) (by first | exact hLs | exact hMs)) | (go_at_call 49; with_reducible refine (unhide hP _).mono ?_; rintro e w' ⟨he, hb⟩; subst he; have D := hide ((unhide D).keep hb); clear hb))
  clear hP
  go_loopw [11] (fun i wr => ∃ k : Nat, k ≤ 3 ∧ i = .int .i64 k ∧ Hid (Gen w [(w.heap.size + 1 + 1 + 1, 54, cells8 (ss k)), (w.heap.size + 1 + 1, 54, cells8 0)] wr)) (fun i _ => 3 - (intOf i).toNat)
  case atStart => exact ⟨0, by omega, rfl, by rw [unhide h0]; exact ⟨fun p hp => (unhide D).at_ p (by
    simp only [List.mem_cons, List.not_mem_nil, or_false] at hp ⊢
    rcases hp with rfl | rfl
    · exact .inl rfl
    · exact .inr (.inl rfl)), (unhide D).o⟩⟩
  case round =>
    obtain ⟨k, hk, rfl, hD⟩ := hrel
    by_cases hkn : k < 3
    · have hg : (k : Int) < 3 := by omega
      have Ik := hide (fun u => unhide hI k hkn u)
      have Ak := hide (unhide hA k hkn)
      clear hI hA D
      have D := hD
      clear hD
      go_upto_region 5 with (first | (with_reducible refine at_list ?_;  refine wpList_value rfl (exec_idxT _ (.tmp 10) (.tmp 11) (unhide Ik _) rfl rfl rfl) ?_) | (with_reducible refine at_list ?_; refine stG (unhide D) rWide _ _ rfl rfl rfl rfl rfl rfl (cells8_one _) ?_; intro D'; have D := hide D'; clear D'))
      clear Ik
      go_upto_region 6 with (first | (with_reducible refine at_list ?_; apply ldG (unhide D) rWide _ rfl rfl rfl (by repeat (first | exact List.mem_cons_self | apply List.mem_cons_of_mem)) rfl) | (go_at_call 50; with_reducible refine (unhide Ak _).mono ?_; rintro e w' ⟨he, hb⟩; subst he; have D := hide ((unhide D).keep hb); clear hb) | (with_reducible refine at_list ?_;  have B3 := hide ((unhide D).blk (g := w.heap.size + 1 + 1 + 1) (t := 54) (cs := cells8 (ss k)) (by repeat (first | exact List.mem_cons_self | apply List.mem_cons_of_mem))); have B2 := hide ((unhide D).blk (g := w.heap.size + 1 + 1) (t := 54) (cs := cells8 0) (by repeat (first | exact List.mem_cons_self | apply List.mem_cons_of_mem))); have O3 := hide (unhide D).o; refine st8 (n := ss (k + 1)) 54 (.tmp 5) (.tmp 18) (unhide B3) rfl rfl rfl rfl rfl iWide ?_))
      have D := hide (Gen.pair ((unhide B3).row (cells8 (ss (k + 1)))) ((unhide B2).rowOther (cells8 (ss (k + 1))) (by omega)) (below_row (unhide O3) (show w.heap.size ≤ w.heap.size + 1 + 1 + 1 by omega) (cells8 (ss (k + 1)))))
      clear B2 B3 O3
      go_wp2
      go_roundw
      case rel => exact ⟨k + 1, by omega, by go_num, D⟩
      case measure => simp [intOf]; omega
    · obtain rfl : k = 3 := by omega
      have D := hD
      clear hD hI hA
      go_wp2_with (first | (with_reducible refine at_list ?_; apply ldG (unhide D) rWide _ rfl rfl rfl (by repeat (first | exact List.mem_cons_self | apply List.mem_cons_of_mem)) rfl) | (with_reducible refine at_list ?_; apply stGend (unhide D) rWide _ _ rfl rfl rfl rfl (by repeat (first | exact List.mem_cons_self | apply List.mem_cons_of_mem)) (by omega) rfl rfl (cells8_one _); intro B O))
      exact resG rWide (unhide B) rfl rfl rfl rfl ⟨rfl, unhide O⟩
/-- The partial sums of three numbers. -/
def smk (x y z : Int) : Nat → Int
  | 0 => 0
  | 1 => x
  | 2 => x + y
  | _ => x + y + z
def n3 (x y z : Int) (k : Nat) : Int := if k = 0 then x else if k = 1 then y else z
theorem MSumZ {j k : Nat} (a0 a1 a2 b0 b1 b2 : Int) (x0 : Sz j a0) (x1 : Sz j a1) (x2 : Sz j a2) (y0 : Sz k b0) (y1 : Sz k b1) (y2 : Sz k b2) (h : j + k ≤ 500) :
    Ans 29 #[.agg (ws [enc a0, enc a1, enc a2]), .agg (ws [enc b0, enc b1, enc b2])] (V (a0 * b0 + a1 * b1 + a2 * b2)) := fun w => by
  have s0 := x0.mul y0
  have s1 := x1.mul y1
  have s2 := x2.mul y2
  have t1 := s0.add s1
  have t2 := t1.add (s2.mono (show j + k ≤ j + k + 1 by omega))
  refine msum_core _ _ _ (fun i => enc (n3 (a0 * b0) (a1 * b1) (a2 * b2) i)) (fun i => enc (smk (a0 * b0) (a1 * b1) (a2 * b2) i)) w (ws_size _) (ws_size _) rfl (fun i hi u => ?_) (MProductsZ a0 a1 a2 b0 b1 b2 x0 x1 x2 y0 y1 y2 (by omega)) (fun i hi u => ?_)
  · rw [ws3_at _ _ _ i hi u]
    rcases (show i = 0 ∨ i = 1 ∨ i = 2 by omega) with rfl | rfl | rfl <;> rfl
  · rcases (show i = 0 ∨ i = 1 ∨ i = 2 by omega) with rfl | rfl | rfl
    · have t := AddZ 0 (a0 * b0) fit_zero (s0.fit (by omega)) u
      rw [Int.zero_add, toldZ_fit (s0.fit (by omega))] at t
      exact t
    · have t := AddZ (a0 * b0) (a1 * b1) (s0.fit (by omega)) (s1.fit (by omega)) u
      rw [toldZ_fit (t1.fit (by omega))] at t
      exact t
    · have t := AddZ (a0 * b0 + a1 * b1) (a2 * b2) (t1.fit (by omega)) (s2.fit (by omega)) u
      rw [toldZ_fit (t2.fit (by omega))] at t
      exact t

theorem mquot_core (v z : Int) (N W L q m : Nat) (E : Bool) (w : World) (hS : Hid (Ans 47 #[.agg (cells8 N), .int .i64 z] (.tuple #[.agg (cells8 L), .bool E]))) (hD : Hid (Ans 48 #[.agg (cells8 L), .agg (cells8 W)] (.tuple #[.agg (cells8 q), .agg (cells8 m), .bool E]))) (hI : Hid (Ans 43 #[.agg (cells8 q), .int .i64 32] (.int .i64 v))) :
    Calls Tryz.prog 28 #[.agg (cells8 N), .agg (cells8 W), .int .i64 z] w fun e w' => e = .returned (.int .i64 v) ∧ Below w.heap.size w w' := by
  go_enter Tryz.func28, Tryz.ntmps28
  go_upto_region 1 with fail
  have D := hide (((Gen.start w).push 54 (cells8 N)).push 54 (cells8 W))
  simp only [szA] at D
  go_upto_region 2 with (first | (with_reducible refine at_list ?_; apply ldG (unhide D) rWide _ rfl rfl rfl (by repeat (first | exact List.mem_cons_self | apply List.mem_cons_of_mem)) rfl) | (go_at_call 47; with_reducible refine (unhide hS _).mono ?_; rintro e w' ⟨he, hb⟩; subst he; have D := hide ((unhide D).keep hb); clear hb) | (with_reducible refine at_list ?_; refine stG (unhide D) rWide _ _ rfl rfl rfl rfl rfl rfl (cells8_one _) ?_; intro D'; have D := hide D'; clear D'))
  go_upto_region 3 with (first | (with_reducible refine at_list ?_; apply ldG (unhide D) rWide _ rfl rfl rfl (by repeat (first | exact List.mem_cons_self | apply List.mem_cons_of_mem)) rfl) | (go_at_call 48; with_reducible refine (unhide hD _).mono ?_; rintro e w' ⟨he, hb⟩; subst he; have D := hide ((unhide D).keep hb); clear hb) | (with_reducible refine at_list ?_;  refine stOne (n := q) rfl _ _ rfl rfl rfl rfl ?_) | (with_reducible refine at_list ?_;  refine stTwoG (n := q) (m := m) (unhide D) rfl _ _ rfl rfl rfl rfl ?_; intro w1 D'; have D := D'; clear D'))
  go_wp2_with (first | (with_reducible refine at_list ?_; apply ldG (unhide D) rWide _ rfl rfl rfl (by repeat (first | exact List.mem_cons_self | apply List.mem_cons_of_mem)) rfl) | (go_at_call 43; with_reducible refine (unhide hI _).mono ?_; rintro e w' ⟨he, hb⟩; subst he; have D := hide ((unhide D).keep hb); clear hb))
  go_ret
  exact ⟨rfl, (unhide D).o⟩
/-- A quotient, lifted, brought in. -/
def mquo (n d : Int) (s : Nat) : Int := cl ((n * ((2 ^ s : Nat) : Int)).fdiv d)
theorem MQuotZ (n d : Int) (s : Nat) (hs : s ≤ 64) (hn : Sz 300 n) (hd : Sz 300 d) (h0 : d ≠ 0) : Ans 28 #[V n, V d, .int .i64 s] (.int .i64 (mquo n d s)) := fun w => by
  have hp : Sz (300 + s) (n * ((2 ^ s : Nat) : Int)) := hn.mul (show Sz s _ by unfold Sz; rw [Int.natAbs_natCast]; exact Nat.le_refl _)
  have hS : Ans 47 #[V n, .int .i64 s] (.tuple #[V (n * ((2 ^ s : Nat) : Int)), .bool true]) := fun u => by
    have k := ShlZ n s (hn.fit (by decide)) (by omega) (by omega) u
    rw [Int.toNat_natCast, fit_true (hp.fit (by omega))] at k
    exact k
  have hq : Sz (301 + s) ((n * ((2 ^ s : Nat) : Int)).fdiv d) := (hp.fdiv h0).mono (by omega)
  have hI := InZ ((n * ((2 ^ s : Nat) : Int)).fdiv d) 32 (hq.fit (by omega)) ⟨by decide, by decide⟩
  rw [inI_32] at hI
  exact mquot_core _ _ _ _ _ _ _ true w hS (div_told _ d hp hd (by omega) (by decide) h0) hI

set_option maxHeartbeats 4000000 in
theorem minor_00 (n0 n1 n2 n3 n4 n5 n6 n7 n8 P R M : Nat) (E : Bool) (g : Nat) (w : World) (hB : Blk w g 75 (ws [n0, n1, n2, n3, n4, n5, n6, n7, n8])) (hP : Hid (Ans 46 #[.agg (cells8 n4), .agg (cells8 n8)] (.agg (cells8 P)))) (hR : Hid (Ans 46 #[.agg (cells8 n5), .agg (cells8 n7)] (.agg (cells8 R)))) (hM : Hid (Ans 45 #[.agg (cells8 P), .agg (cells8 R)] (.tuple #[.agg (cells8 M), .bool E]))) :
    Calls Tryz.prog 44 #[.int .i64 0, .int .i64 0, .pointer (some ⟨g, 0, none⟩)] w fun e w' => e = .returned (.agg (cells8 M)) ∧ Below w.heap.size w w' := by
  have D := hide (Gen.one hB)
  have hgl := hide hB.lt
  clear hB
  go_enter Tryz.func44, Tryz.ntmps44
  go_upto_region 3 with fail
  have D := hide ((unhide D).push 54 z8)
  generalize hw1 : (w.alloc (.cells z8 54)) = w1 at D ⊢
  have D1 : Hid (GenZ w _ w1.heap.size w1.drew) := ⟨(unhide D).drew, Nat.le_refl _⟩
  have hlt := hide (fun (p : Nat × TypeId × Array Value) hp => ((unhide D).at_ p hp).lt)
  have hw0 := hide (unhide D).o.size
  clear D hw1
  generalize w1.heap.size = C at D1 hlt hw0
  refine region_lazy (S := GenZ w _ C) (v := .bool E) (ty := 54) (zs := z8) (base := C) (l := [0, 1, 2, 3, 4, 5, 6, 7, 8, 9, 10, 11, 12, 13, 14, 15, 16, 17, 18, 19, 20, 21, 22, 23, 24]) (A := [26]) (z := 25) (t := 27) (r := [28]) (by kernel_rfl) (by kernel_rfl) (by kernel_rfl) (by kernel_rfl) (by kernel_rfl) (by kernel_rfl) (by kernel_rfl) (by kernel_rfl) (by kernel_rfl) (by kernel_rfl) rfl rfl ?_ (fun _ _ h hb => h.keep hb) (fun _ h => h.s) (unhide D1) ?_
  · intro i hi
    simp at hi
    subst hi
    exact ⟨_, rfl, rfl, fun a w => by go_simp⟩
  clear D1
  refine planB_read (v := .int .i64 1) rfl rfl (fun u hS => by go_simp) ?_
  try go_simp
  refine planB_read (v := .int .i64 1) rfl rfl (fun u hS => by go_simp) ?_
  try go_simp
  refine planB_read (v := .pointer (some ⟨g, 24, none⟩)) rfl rfl (fun u hS => exec_ixa u (k := 1) (.tmp 2) (.tmp 25) (by decide) rfl rfl rfl) ?_
  try go_simp
  refine planB_read (v := .pointer (some ⟨g, 32, none⟩)) rfl rfl (fun u hS => exec_ixn u (b := 24) (k := 1) (.tmp 27) (.tmp 26) (by decide) rfl rfl rfl) ?_
  try go_simp
  refine planB_read (v := .agg (cells8 n4)) rfl rfl (fun u hS => exec_ldMid (.tmp 28) rfl rfl (ws_range (hS.e.blk (g := g) (t := 75) (cs := ws [n0, n1, n2, n3, n4, n5, n6, n7, n8]) (by repeat (first | exact List.mem_cons_self | apply List.mem_cons_of_mem))) (k := 4) (n := n4) rfl)) ?_
  try go_simp
  refine planB_read (v := .int .i64 2) rfl rfl (fun u hS => by go_simp) ?_
  try go_simp
  refine planB_read (v := .int .i64 2) rfl rfl (fun u hS => by go_simp) ?_
  try go_simp
  refine planB_read (v := .pointer (some ⟨g, 48, none⟩)) rfl rfl (fun u hS => exec_ixa u (k := 2) (.tmp 2) (.tmp 30) (by decide) rfl rfl rfl) ?_
  try go_simp
  refine planB_read (v := .pointer (some ⟨g, 64, none⟩)) rfl rfl (fun u hS => exec_ixn u (b := 48) (k := 2) (.tmp 32) (.tmp 31) (by decide) rfl rfl rfl) ?_
  try go_simp
  refine planB_read (v := .agg (cells8 n8)) rfl rfl (fun u hS => exec_ldMid (.tmp 33) rfl rfl (ws_range (hS.e.blk (g := g) (t := 75) (cs := ws [n0, n1, n2, n3, n4, n5, n6, n7, n8]) (by repeat (first | exact List.mem_cons_self | apply List.mem_cons_of_mem))) (k := 8) (n := n8) rfl)) ?_
  try go_simp
  refine planB_call (v := .agg (cells8 P)) (f := 46) (args := #[.agg (cells8 n4), .agg (cells8 n8)]) rfl rfl (fun u hS => by go_simp) (fun u hS => (unhide hP u).mono fun _ _ ⟨he, hb⟩ => ⟨he, hS.keep hb, hb⟩) ?_
  try go_simp
  refine planB_read (v := .int .i64 1) rfl rfl (fun u hS => by go_simp) ?_
  try go_simp
  refine planB_read (v := .int .i64 2) rfl rfl (fun u hS => by go_simp) ?_
  try go_simp
  refine planB_read (v := .pointer (some ⟨g, 24, none⟩)) rfl rfl (fun u hS => exec_ixa u (k := 1) (.tmp 2) (.tmp 36) (by decide) rfl rfl rfl) ?_
  try go_simp
  refine planB_read (v := .pointer (some ⟨g, 40, none⟩)) rfl rfl (fun u hS => exec_ixn u (b := 24) (k := 2) (.tmp 38) (.tmp 37) (by decide) rfl rfl rfl) ?_
  try go_simp
  refine planB_read (v := .agg (cells8 n5)) rfl rfl (fun u hS => exec_ldMid (.tmp 39) rfl rfl (ws_range (hS.e.blk (g := g) (t := 75) (cs := ws [n0, n1, n2, n3, n4, n5, n6, n7, n8]) (by repeat (first | exact List.mem_cons_self | apply List.mem_cons_of_mem))) (k := 5) (n := n5) rfl)) ?_
  try go_simp
  refine planB_read (v := .int .i64 2) rfl rfl (fun u hS => by go_simp) ?_
  try go_simp
  refine planB_read (v := .int .i64 1) rfl rfl (fun u hS => by go_simp) ?_
  try go_simp
  refine planB_read (v := .pointer (some ⟨g, 48, none⟩)) rfl rfl (fun u hS => exec_ixa u (k := 2) (.tmp 2) (.tmp 41) (by decide) rfl rfl rfl) ?_
  try go_simp
  refine planB_read (v := .pointer (some ⟨g, 56, none⟩)) rfl rfl (fun u hS => exec_ixn u (b := 48) (k := 1) (.tmp 43) (.tmp 42) (by decide) rfl rfl rfl) ?_
  try go_simp
  refine planB_read (v := .agg (cells8 n7)) rfl rfl (fun u hS => exec_ldMid (.tmp 44) rfl rfl (ws_range (hS.e.blk (g := g) (t := 75) (cs := ws [n0, n1, n2, n3, n4, n5, n6, n7, n8]) (by repeat (first | exact List.mem_cons_self | apply List.mem_cons_of_mem))) (k := 7) (n := n7) rfl)) ?_
  try go_simp
  refine planB_call (v := .agg (cells8 R)) (f := 46) (args := #[.agg (cells8 n5), .agg (cells8 n7)]) rfl rfl (fun u hS => by go_simp) (fun u hS => (unhide hR u).mono fun _ _ ⟨he, hb⟩ => ⟨he, hS.keep hb, hb⟩) ?_
  try go_simp
  refine planB_call (v := .tuple #[.agg (cells8 M), .bool E]) (f := 45) (args := #[.agg (cells8 P), .agg (cells8 R)]) rfl rfl (fun u hS => by go_simp) (fun u hS => (unhide hM u).mono fun _ _ ⟨he, hb⟩ => ⟨he, hS.keep hb, hb⟩) ?_
  try go_simp
  refine planB_read (v := .tuple #[.agg (cells8 M), .bool E]) rfl rfl (fun u hS => by go_simp) ?_
  try go_simp
  refine planB_read (v := .agg (cells8 M)) rfl rfl (fun u hS => by go_simp) ?_
  try go_simp
  refine planB_lazy rfl (fun u => by go_simp) rfl rfl (fun c u hS hB hI2 => ?_)
  have hB7 := hB 26 (by simp)
  clear hB hI2
  simp only [pa, dstOf]
  generalize c 26 = c7 at hB7 ⊢
  have D := hide (hS.e.fillZ (cs := cells8 M) (unhide hlt) (unhide hw0) hB7.1 hB7.2)
  refine ⟨_, exec_store8 (n := M) 54 (.tmp 10) (.tmp 48) hB7.1 rfl rfl rfl rfl iWide, ?_⟩
  clear hS hB7 hlt hw0
  generalize u.setRow c7 (cells8 M) = u1 at D ⊢
  simp only [opsOf]
  go_simp
  go_wp2_with (first | (with_reducible refine at_list ?_; apply ldG (unhide D) rWide _ rfl rfl rfl (by repeat (first | exact List.mem_cons_self | apply List.mem_cons_of_mem)) rfl) | (with_reducible refine at_list ?_; apply stGend (unhide D) rWide _ _ rfl rfl rfl rfl (by repeat (first | exact List.mem_cons_self | apply List.mem_cons_of_mem)) (by omega) rfl rfl (cells8_one _); intro B O))
  exact resG rWide (unhide B) rfl rfl rfl rfl ⟨rfl, unhide O⟩
set_option maxHeartbeats 4000000 in
theorem minor_01 (n0 n1 n2 n3 n4 n5 n6 n7 n8 P R M : Nat) (E : Bool) (g : Nat) (w : World) (hB : Blk w g 75 (ws [n0, n1, n2, n3, n4, n5, n6, n7, n8])) (hP : Hid (Ans 46 #[.agg (cells8 n5), .agg (cells8 n6)] (.agg (cells8 P)))) (hR : Hid (Ans 46 #[.agg (cells8 n3), .agg (cells8 n8)] (.agg (cells8 R)))) (hM : Hid (Ans 45 #[.agg (cells8 P), .agg (cells8 R)] (.tuple #[.agg (cells8 M), .bool E]))) :
    Calls Tryz.prog 44 #[.int .i64 0, .int .i64 1, .pointer (some ⟨g, 0, none⟩)] w fun e w' => e = .returned (.agg (cells8 M)) ∧ Below w.heap.size w w' := by
  have D := hide (Gen.one hB)
  have hgl := hide hB.lt
  clear hB
  go_enter Tryz.func44, Tryz.ntmps44
  go_upto_region 3 with fail
  have D := hide ((unhide D).push 54 z8)
  generalize hw1 : (w.alloc (.cells z8 54)) = w1 at D ⊢
  have D1 : Hid (GenZ w _ w1.heap.size w1.drew) := ⟨(unhide D).drew, Nat.le_refl _⟩
  have hlt := hide (fun (p : Nat × TypeId × Array Value) hp => ((unhide D).at_ p hp).lt)
  have hw0 := hide (unhide D).o.size
  clear D hw1
  generalize w1.heap.size = C at D1 hlt hw0
  refine region_lazy (S := GenZ w _ C) (v := .bool E) (ty := 54) (zs := z8) (base := C) (l := [0, 1, 2, 3, 4, 5, 6, 7, 8, 9, 10, 11, 12, 13, 14, 15, 16, 17, 18, 19, 20, 21, 22, 23, 24]) (A := [26]) (z := 25) (t := 27) (r := [28]) (by kernel_rfl) (by kernel_rfl) (by kernel_rfl) (by kernel_rfl) (by kernel_rfl) (by kernel_rfl) (by kernel_rfl) (by kernel_rfl) (by kernel_rfl) (by kernel_rfl) rfl rfl ?_ (fun _ _ h hb => h.keep hb) (fun _ h => h.s) (unhide D1) ?_
  · intro i hi
    simp at hi
    subst hi
    exact ⟨_, rfl, rfl, fun a w => by go_simp⟩
  clear D1
  refine planB_read (v := .int .i64 1) rfl rfl (fun u hS => by go_simp) ?_
  try go_simp
  refine planB_read (v := .int .i64 2) rfl rfl (fun u hS => by go_simp) ?_
  try go_simp
  refine planB_read (v := .pointer (some ⟨g, 24, none⟩)) rfl rfl (fun u hS => exec_ixa u (k := 1) (.tmp 2) (.tmp 25) (by decide) rfl rfl rfl) ?_
  try go_simp
  refine planB_read (v := .pointer (some ⟨g, 40, none⟩)) rfl rfl (fun u hS => exec_ixn u (b := 24) (k := 2) (.tmp 27) (.tmp 26) (by decide) rfl rfl rfl) ?_
  try go_simp
  refine planB_read (v := .agg (cells8 n5)) rfl rfl (fun u hS => exec_ldMid (.tmp 28) rfl rfl (ws_range (hS.e.blk (g := g) (t := 75) (cs := ws [n0, n1, n2, n3, n4, n5, n6, n7, n8]) (by repeat (first | exact List.mem_cons_self | apply List.mem_cons_of_mem))) (k := 5) (n := n5) rfl)) ?_
  try go_simp
  refine planB_read (v := .int .i64 2) rfl rfl (fun u hS => by go_simp) ?_
  try go_simp
  refine planB_read (v := .int .i64 0) rfl rfl (fun u hS => by go_simp) ?_
  try go_simp
  refine planB_read (v := .pointer (some ⟨g, 48, none⟩)) rfl rfl (fun u hS => exec_ixa u (k := 2) (.tmp 2) (.tmp 30) (by decide) rfl rfl rfl) ?_
  try go_simp
  refine planB_read (v := .pointer (some ⟨g, 48, none⟩)) rfl rfl (fun u hS => exec_ixn u (b := 48) (k := 0) (.tmp 32) (.tmp 31) (by decide) rfl rfl rfl) ?_
  try go_simp
  refine planB_read (v := .agg (cells8 n6)) rfl rfl (fun u hS => exec_ldMid (.tmp 33) rfl rfl (ws_range (hS.e.blk (g := g) (t := 75) (cs := ws [n0, n1, n2, n3, n4, n5, n6, n7, n8]) (by repeat (first | exact List.mem_cons_self | apply List.mem_cons_of_mem))) (k := 6) (n := n6) rfl)) ?_
  try go_simp
  refine planB_call (v := .agg (cells8 P)) (f := 46) (args := #[.agg (cells8 n5), .agg (cells8 n6)]) rfl rfl (fun u hS => by go_simp) (fun u hS => (unhide hP u).mono fun _ _ ⟨he, hb⟩ => ⟨he, hS.keep hb, hb⟩) ?_
  try go_simp
  refine planB_read (v := .int .i64 1) rfl rfl (fun u hS => by go_simp) ?_
  try go_simp
  refine planB_read (v := .int .i64 0) rfl rfl (fun u hS => by go_simp) ?_
  try go_simp
  refine planB_read (v := .pointer (some ⟨g, 24, none⟩)) rfl rfl (fun u hS => exec_ixa u (k := 1) (.tmp 2) (.tmp 36) (by decide) rfl rfl rfl) ?_
  try go_simp
  refine planB_read (v := .pointer (some ⟨g, 24, none⟩)) rfl rfl (fun u hS => exec_ixn u (b := 24) (k := 0) (.tmp 38) (.tmp 37) (by decide) rfl rfl rfl) ?_
  try go_simp
  refine planB_read (v := .agg (cells8 n3)) rfl rfl (fun u hS => exec_ldMid (.tmp 39) rfl rfl (ws_range (hS.e.blk (g := g) (t := 75) (cs := ws [n0, n1, n2, n3, n4, n5, n6, n7, n8]) (by repeat (first | exact List.mem_cons_self | apply List.mem_cons_of_mem))) (k := 3) (n := n3) rfl)) ?_
  try go_simp
  refine planB_read (v := .int .i64 2) rfl rfl (fun u hS => by go_simp) ?_
  try go_simp
  refine planB_read (v := .int .i64 2) rfl rfl (fun u hS => by go_simp) ?_
  try go_simp
  refine planB_read (v := .pointer (some ⟨g, 48, none⟩)) rfl rfl (fun u hS => exec_ixa u (k := 2) (.tmp 2) (.tmp 41) (by decide) rfl rfl rfl) ?_
  try go_simp
  refine planB_read (v := .pointer (some ⟨g, 64, none⟩)) rfl rfl (fun u hS => exec_ixn u (b := 48) (k := 2) (.tmp 43) (.tmp 42) (by decide) rfl rfl rfl) ?_
  try go_simp
  refine planB_read (v := .agg (cells8 n8)) rfl rfl (fun u hS => exec_ldMid (.tmp 44) rfl rfl (ws_range (hS.e.blk (g := g) (t := 75) (cs := ws [n0, n1, n2, n3, n4, n5, n6, n7, n8]) (by repeat (first | exact List.mem_cons_self | apply List.mem_cons_of_mem))) (k := 8) (n := n8) rfl)) ?_
  try go_simp
  refine planB_call (v := .agg (cells8 R)) (f := 46) (args := #[.agg (cells8 n3), .agg (cells8 n8)]) rfl rfl (fun u hS => by go_simp) (fun u hS => (unhide hR u).mono fun _ _ ⟨he, hb⟩ => ⟨he, hS.keep hb, hb⟩) ?_
  try go_simp
  refine planB_call (v := .tuple #[.agg (cells8 M), .bool E]) (f := 45) (args := #[.agg (cells8 P), .agg (cells8 R)]) rfl rfl (fun u hS => by go_simp) (fun u hS => (unhide hM u).mono fun _ _ ⟨he, hb⟩ => ⟨he, hS.keep hb, hb⟩) ?_
  try go_simp
  refine planB_read (v := .tuple #[.agg (cells8 M), .bool E]) rfl rfl (fun u hS => by go_simp) ?_
  try go_simp
  refine planB_read (v := .agg (cells8 M)) rfl rfl (fun u hS => by go_simp) ?_
  try go_simp
  refine planB_lazy rfl (fun u => by go_simp) rfl rfl (fun c u hS hB hI2 => ?_)
  have hB7 := hB 26 (by simp)
  clear hB hI2
  simp only [pa, dstOf]
  generalize c 26 = c7 at hB7 ⊢
  have D := hide (hS.e.fillZ (cs := cells8 M) (unhide hlt) (unhide hw0) hB7.1 hB7.2)
  refine ⟨_, exec_store8 (n := M) 54 (.tmp 10) (.tmp 48) hB7.1 rfl rfl rfl rfl iWide, ?_⟩
  clear hS hB7 hlt hw0
  generalize u.setRow c7 (cells8 M) = u1 at D ⊢
  simp only [opsOf]
  go_simp
  go_wp2_with (first | (with_reducible refine at_list ?_; apply ldG (unhide D) rWide _ rfl rfl rfl (by repeat (first | exact List.mem_cons_self | apply List.mem_cons_of_mem)) rfl) | (with_reducible refine at_list ?_; apply stGend (unhide D) rWide _ _ rfl rfl rfl rfl (by repeat (first | exact List.mem_cons_self | apply List.mem_cons_of_mem)) (by omega) rfl rfl (cells8_one _); intro B O))
  exact resG rWide (unhide B) rfl rfl rfl rfl ⟨rfl, unhide O⟩
set_option maxHeartbeats 4000000 in
theorem minor_02 (n0 n1 n2 n3 n4 n5 n6 n7 n8 P R M : Nat) (E : Bool) (g : Nat) (w : World) (hB : Blk w g 75 (ws [n0, n1, n2, n3, n4, n5, n6, n7, n8])) (hP : Hid (Ans 46 #[.agg (cells8 n3), .agg (cells8 n7)] (.agg (cells8 P)))) (hR : Hid (Ans 46 #[.agg (cells8 n4), .agg (cells8 n6)] (.agg (cells8 R)))) (hM : Hid (Ans 45 #[.agg (cells8 P), .agg (cells8 R)] (.tuple #[.agg (cells8 M), .bool E]))) :
    Calls Tryz.prog 44 #[.int .i64 0, .int .i64 2, .pointer (some ⟨g, 0, none⟩)] w fun e w' => e = .returned (.agg (cells8 M)) ∧ Below w.heap.size w w' := by
  have D := hide (Gen.one hB)
  have hgl := hide hB.lt
  clear hB
  go_enter Tryz.func44, Tryz.ntmps44
  go_upto_region 3 with fail
  have D := hide ((unhide D).push 54 z8)
  generalize hw1 : (w.alloc (.cells z8 54)) = w1 at D ⊢
  have D1 : Hid (GenZ w _ w1.heap.size w1.drew) := ⟨(unhide D).drew, Nat.le_refl _⟩
  have hlt := hide (fun (p : Nat × TypeId × Array Value) hp => ((unhide D).at_ p hp).lt)
  have hw0 := hide (unhide D).o.size
  clear D hw1
  generalize w1.heap.size = C at D1 hlt hw0
  refine region_lazy (S := GenZ w _ C) (v := .bool E) (ty := 54) (zs := z8) (base := C) (l := [0, 1, 2, 3, 4, 5, 6, 7, 8, 9, 10, 11, 12, 13, 14, 15, 16, 17, 18, 19, 20, 21, 22, 23, 24]) (A := [26]) (z := 25) (t := 27) (r := [28]) (by kernel_rfl) (by kernel_rfl) (by kernel_rfl) (by kernel_rfl) (by kernel_rfl) (by kernel_rfl) (by kernel_rfl) (by kernel_rfl) (by kernel_rfl) (by kernel_rfl) rfl rfl ?_ (fun _ _ h hb => h.keep hb) (fun _ h => h.s) (unhide D1) ?_
  · intro i hi
    simp at hi
    subst hi
    exact ⟨_, rfl, rfl, fun a w => by go_simp⟩
  clear D1
  refine planB_read (v := .int .i64 1) rfl rfl (fun u hS => by go_simp) ?_
  try go_simp
  refine planB_read (v := .int .i64 0) rfl rfl (fun u hS => by go_simp) ?_
  try go_simp
  refine planB_read (v := .pointer (some ⟨g, 24, none⟩)) rfl rfl (fun u hS => exec_ixa u (k := 1) (.tmp 2) (.tmp 25) (by decide) rfl rfl rfl) ?_
  try go_simp
  refine planB_read (v := .pointer (some ⟨g, 24, none⟩)) rfl rfl (fun u hS => exec_ixn u (b := 24) (k := 0) (.tmp 27) (.tmp 26) (by decide) rfl rfl rfl) ?_
  try go_simp
  refine planB_read (v := .agg (cells8 n3)) rfl rfl (fun u hS => exec_ldMid (.tmp 28) rfl rfl (ws_range (hS.e.blk (g := g) (t := 75) (cs := ws [n0, n1, n2, n3, n4, n5, n6, n7, n8]) (by repeat (first | exact List.mem_cons_self | apply List.mem_cons_of_mem))) (k := 3) (n := n3) rfl)) ?_
  try go_simp
  refine planB_read (v := .int .i64 2) rfl rfl (fun u hS => by go_simp) ?_
  try go_simp
  refine planB_read (v := .int .i64 1) rfl rfl (fun u hS => by go_simp) ?_
  try go_simp
  refine planB_read (v := .pointer (some ⟨g, 48, none⟩)) rfl rfl (fun u hS => exec_ixa u (k := 2) (.tmp 2) (.tmp 30) (by decide) rfl rfl rfl) ?_
  try go_simp
  refine planB_read (v := .pointer (some ⟨g, 56, none⟩)) rfl rfl (fun u hS => exec_ixn u (b := 48) (k := 1) (.tmp 32) (.tmp 31) (by decide) rfl rfl rfl) ?_
  try go_simp
  refine planB_read (v := .agg (cells8 n7)) rfl rfl (fun u hS => exec_ldMid (.tmp 33) rfl rfl (ws_range (hS.e.blk (g := g) (t := 75) (cs := ws [n0, n1, n2, n3, n4, n5, n6, n7, n8]) (by repeat (first | exact List.mem_cons_self | apply List.mem_cons_of_mem))) (k := 7) (n := n7) rfl)) ?_
  try go_simp
  refine planB_call (v := .agg (cells8 P)) (f := 46) (args := #[.agg (cells8 n3), .agg (cells8 n7)]) rfl rfl (fun u hS => by go_simp) (fun u hS => (unhide hP u).mono fun _ _ ⟨he, hb⟩ => ⟨he, hS.keep hb, hb⟩) ?_
  try go_simp
  refine planB_read (v := .int .i64 1) rfl rfl (fun u hS => by go_simp) ?_
  try go_simp
  refine planB_read (v := .int .i64 1) rfl rfl (fun u hS => by go_simp) ?_
  try go_simp
  refine planB_read (v := .pointer (some ⟨g, 24, none⟩)) rfl rfl (fun u hS => exec_ixa u (k := 1) (.tmp 2) (.tmp 36) (by decide) rfl rfl rfl) ?_
  try go_simp
  refine planB_read (v := .pointer (some ⟨g, 32, none⟩)) rfl rfl (fun u hS => exec_ixn u (b := 24) (k := 1) (.tmp 38) (.tmp 37) (by decide) rfl rfl rfl) ?_
  try go_simp
  refine planB_read (v := .agg (cells8 n4)) rfl rfl (fun u hS => exec_ldMid (.tmp 39) rfl rfl (ws_range (hS.e.blk (g := g) (t := 75) (cs := ws [n0, n1, n2, n3, n4, n5, n6, n7, n8]) (by repeat (first | exact List.mem_cons_self | apply List.mem_cons_of_mem))) (k := 4) (n := n4) rfl)) ?_
  try go_simp
  refine planB_read (v := .int .i64 2) rfl rfl (fun u hS => by go_simp) ?_
  try go_simp
  refine planB_read (v := .int .i64 0) rfl rfl (fun u hS => by go_simp) ?_
  try go_simp
  refine planB_read (v := .pointer (some ⟨g, 48, none⟩)) rfl rfl (fun u hS => exec_ixa u (k := 2) (.tmp 2) (.tmp 41) (by decide) rfl rfl rfl) ?_
  try go_simp
  refine planB_read (v := .pointer (some ⟨g, 48, none⟩)) rfl rfl (fun u hS => exec_ixn u (b := 48) (k := 0) (.tmp 43) (.tmp 42) (by decide) rfl rfl rfl) ?_
  try go_simp
  refine planB_read (v := .agg (cells8 n6)) rfl rfl (fun u hS => exec_ldMid (.tmp 44) rfl rfl (ws_range (hS.e.blk (g := g) (t := 75) (cs := ws [n0, n1, n2, n3, n4, n5, n6, n7, n8]) (by repeat (first | exact List.mem_cons_self | apply List.mem_cons_of_mem))) (k := 6) (n := n6) rfl)) ?_
  try go_simp
  refine planB_call (v := .agg (cells8 R)) (f := 46) (args := #[.agg (cells8 n4), .agg (cells8 n6)]) rfl rfl (fun u hS => by go_simp) (fun u hS => (unhide hR u).mono fun _ _ ⟨he, hb⟩ => ⟨he, hS.keep hb, hb⟩) ?_
  try go_simp
  refine planB_call (v := .tuple #[.agg (cells8 M), .bool E]) (f := 45) (args := #[.agg (cells8 P), .agg (cells8 R)]) rfl rfl (fun u hS => by go_simp) (fun u hS => (unhide hM u).mono fun _ _ ⟨he, hb⟩ => ⟨he, hS.keep hb, hb⟩) ?_
  try go_simp
  refine planB_read (v := .tuple #[.agg (cells8 M), .bool E]) rfl rfl (fun u hS => by go_simp) ?_
  try go_simp
  refine planB_read (v := .agg (cells8 M)) rfl rfl (fun u hS => by go_simp) ?_
  try go_simp
  refine planB_lazy rfl (fun u => by go_simp) rfl rfl (fun c u hS hB hI2 => ?_)
  have hB7 := hB 26 (by simp)
  clear hB hI2
  simp only [pa, dstOf]
  generalize c 26 = c7 at hB7 ⊢
  have D := hide (hS.e.fillZ (cs := cells8 M) (unhide hlt) (unhide hw0) hB7.1 hB7.2)
  refine ⟨_, exec_store8 (n := M) 54 (.tmp 10) (.tmp 48) hB7.1 rfl rfl rfl rfl iWide, ?_⟩
  clear hS hB7 hlt hw0
  generalize u.setRow c7 (cells8 M) = u1 at D ⊢
  simp only [opsOf]
  go_simp
  go_wp2_with (first | (with_reducible refine at_list ?_; apply ldG (unhide D) rWide _ rfl rfl rfl (by repeat (first | exact List.mem_cons_self | apply List.mem_cons_of_mem)) rfl) | (with_reducible refine at_list ?_; apply stGend (unhide D) rWide _ _ rfl rfl rfl rfl (by repeat (first | exact List.mem_cons_self | apply List.mem_cons_of_mem)) (by omega) rfl rfl (cells8_one _); intro B O))
  exact resG rWide (unhide B) rfl rfl rfl rfl ⟨rfl, unhide O⟩
set_option maxHeartbeats 4000000 in
theorem minor_10 (n0 n1 n2 n3 n4 n5 n6 n7 n8 P R M : Nat) (E : Bool) (g : Nat) (w : World) (hB : Blk w g 75 (ws [n0, n1, n2, n3, n4, n5, n6, n7, n8])) (hP : Hid (Ans 46 #[.agg (cells8 n7), .agg (cells8 n2)] (.agg (cells8 P)))) (hR : Hid (Ans 46 #[.agg (cells8 n8), .agg (cells8 n1)] (.agg (cells8 R)))) (hM : Hid (Ans 45 #[.agg (cells8 P), .agg (cells8 R)] (.tuple #[.agg (cells8 M), .bool E]))) :
    Calls Tryz.prog 44 #[.int .i64 1, .int .i64 0, .pointer (some ⟨g, 0, none⟩)] w fun e w' => e = .returned (.agg (cells8 M)) ∧ Below w.heap.size w w' := by
  have D := hide (Gen.one hB)
  have hgl := hide hB.lt
  clear hB
  go_enter Tryz.func44, Tryz.ntmps44
  go_upto_region 3 with fail
  have D := hide ((unhide D).push 54 z8)
  generalize hw1 : (w.alloc (.cells z8 54)) = w1 at D ⊢
  have D1 : Hid (GenZ w _ w1.heap.size w1.drew) := ⟨(unhide D).drew, Nat.le_refl _⟩
  have hlt := hide (fun (p : Nat × TypeId × Array Value) hp => ((unhide D).at_ p hp).lt)
  have hw0 := hide (unhide D).o.size
  clear D hw1
  generalize w1.heap.size = C at D1 hlt hw0
  refine region_lazy (S := GenZ w _ C) (v := .bool E) (ty := 54) (zs := z8) (base := C) (l := [0, 1, 2, 3, 4, 5, 6, 7, 8, 9, 10, 11, 12, 13, 14, 15, 16, 17, 18, 19, 20, 21, 22, 23, 24]) (A := [26]) (z := 25) (t := 27) (r := [28]) (by kernel_rfl) (by kernel_rfl) (by kernel_rfl) (by kernel_rfl) (by kernel_rfl) (by kernel_rfl) (by kernel_rfl) (by kernel_rfl) (by kernel_rfl) (by kernel_rfl) rfl rfl ?_ (fun _ _ h hb => h.keep hb) (fun _ h => h.s) (unhide D1) ?_
  · intro i hi
    simp at hi
    subst hi
    exact ⟨_, rfl, rfl, fun a w => by go_simp⟩
  clear D1
  refine planB_read (v := .int .i64 2) rfl rfl (fun u hS => by go_simp) ?_
  try go_simp
  refine planB_read (v := .int .i64 1) rfl rfl (fun u hS => by go_simp) ?_
  try go_simp
  refine planB_read (v := .pointer (some ⟨g, 48, none⟩)) rfl rfl (fun u hS => exec_ixa u (k := 2) (.tmp 2) (.tmp 25) (by decide) rfl rfl rfl) ?_
  try go_simp
  refine planB_read (v := .pointer (some ⟨g, 56, none⟩)) rfl rfl (fun u hS => exec_ixn u (b := 48) (k := 1) (.tmp 27) (.tmp 26) (by decide) rfl rfl rfl) ?_
  try go_simp
  refine planB_read (v := .agg (cells8 n7)) rfl rfl (fun u hS => exec_ldMid (.tmp 28) rfl rfl (ws_range (hS.e.blk (g := g) (t := 75) (cs := ws [n0, n1, n2, n3, n4, n5, n6, n7, n8]) (by repeat (first | exact List.mem_cons_self | apply List.mem_cons_of_mem))) (k := 7) (n := n7) rfl)) ?_
  try go_simp
  refine planB_read (v := .int .i64 0) rfl rfl (fun u hS => by go_simp) ?_
  try go_simp
  refine planB_read (v := .int .i64 2) rfl rfl (fun u hS => by go_simp) ?_
  try go_simp
  refine planB_read (v := .pointer (some ⟨g, 0, none⟩)) rfl rfl (fun u hS => exec_ixa u (k := 0) (.tmp 2) (.tmp 30) (by decide) rfl rfl rfl) ?_
  try go_simp
  refine planB_read (v := .pointer (some ⟨g, 16, none⟩)) rfl rfl (fun u hS => exec_ixn u (b := 0) (k := 2) (.tmp 32) (.tmp 31) (by decide) rfl rfl rfl) ?_
  try go_simp
  refine planB_read (v := .agg (cells8 n2)) rfl rfl (fun u hS => exec_ldMid (.tmp 33) rfl rfl (ws_range (hS.e.blk (g := g) (t := 75) (cs := ws [n0, n1, n2, n3, n4, n5, n6, n7, n8]) (by repeat (first | exact List.mem_cons_self | apply List.mem_cons_of_mem))) (k := 2) (n := n2) rfl)) ?_
  try go_simp
  refine planB_call (v := .agg (cells8 P)) (f := 46) (args := #[.agg (cells8 n7), .agg (cells8 n2)]) rfl rfl (fun u hS => by go_simp) (fun u hS => (unhide hP u).mono fun _ _ ⟨he, hb⟩ => ⟨he, hS.keep hb, hb⟩) ?_
  try go_simp
  refine planB_read (v := .int .i64 2) rfl rfl (fun u hS => by go_simp) ?_
  try go_simp
  refine planB_read (v := .int .i64 2) rfl rfl (fun u hS => by go_simp) ?_
  try go_simp
  refine planB_read (v := .pointer (some ⟨g, 48, none⟩)) rfl rfl (fun u hS => exec_ixa u (k := 2) (.tmp 2) (.tmp 36) (by decide) rfl rfl rfl) ?_
  try go_simp
  refine planB_read (v := .pointer (some ⟨g, 64, none⟩)) rfl rfl (fun u hS => exec_ixn u (b := 48) (k := 2) (.tmp 38) (.tmp 37) (by decide) rfl rfl rfl) ?_
  try go_simp
  refine planB_read (v := .agg (cells8 n8)) rfl rfl (fun u hS => exec_ldMid (.tmp 39) rfl rfl (ws_range (hS.e.blk (g := g) (t := 75) (cs := ws [n0, n1, n2, n3, n4, n5, n6, n7, n8]) (by repeat (first | exact List.mem_cons_self | apply List.mem_cons_of_mem))) (k := 8) (n := n8) rfl)) ?_
  try go_simp
  refine planB_read (v := .int .i64 0) rfl rfl (fun u hS => by go_simp) ?_
  try go_simp
  refine planB_read (v := .int .i64 1) rfl rfl (fun u hS => by go_simp) ?_
  try go_simp
  refine planB_read (v := .pointer (some ⟨g, 0, none⟩)) rfl rfl (fun u hS => exec_ixa u (k := 0) (.tmp 2) (.tmp 41) (by decide) rfl rfl rfl) ?_
  try go_simp
  refine planB_read (v := .pointer (some ⟨g, 8, none⟩)) rfl rfl (fun u hS => exec_ixn u (b := 0) (k := 1) (.tmp 43) (.tmp 42) (by decide) rfl rfl rfl) ?_
  try go_simp
  refine planB_read (v := .agg (cells8 n1)) rfl rfl (fun u hS => exec_ldMid (.tmp 44) rfl rfl (ws_range (hS.e.blk (g := g) (t := 75) (cs := ws [n0, n1, n2, n3, n4, n5, n6, n7, n8]) (by repeat (first | exact List.mem_cons_self | apply List.mem_cons_of_mem))) (k := 1) (n := n1) rfl)) ?_
  try go_simp
  refine planB_call (v := .agg (cells8 R)) (f := 46) (args := #[.agg (cells8 n8), .agg (cells8 n1)]) rfl rfl (fun u hS => by go_simp) (fun u hS => (unhide hR u).mono fun _ _ ⟨he, hb⟩ => ⟨he, hS.keep hb, hb⟩) ?_
  try go_simp
  refine planB_call (v := .tuple #[.agg (cells8 M), .bool E]) (f := 45) (args := #[.agg (cells8 P), .agg (cells8 R)]) rfl rfl (fun u hS => by go_simp) (fun u hS => (unhide hM u).mono fun _ _ ⟨he, hb⟩ => ⟨he, hS.keep hb, hb⟩) ?_
  try go_simp
  refine planB_read (v := .tuple #[.agg (cells8 M), .bool E]) rfl rfl (fun u hS => by go_simp) ?_
  try go_simp
  refine planB_read (v := .agg (cells8 M)) rfl rfl (fun u hS => by go_simp) ?_
  try go_simp
  refine planB_lazy rfl (fun u => by go_simp) rfl rfl (fun c u hS hB hI2 => ?_)
  have hB7 := hB 26 (by simp)
  clear hB hI2
  simp only [pa, dstOf]
  generalize c 26 = c7 at hB7 ⊢
  have D := hide (hS.e.fillZ (cs := cells8 M) (unhide hlt) (unhide hw0) hB7.1 hB7.2)
  refine ⟨_, exec_store8 (n := M) 54 (.tmp 10) (.tmp 48) hB7.1 rfl rfl rfl rfl iWide, ?_⟩
  clear hS hB7 hlt hw0
  generalize u.setRow c7 (cells8 M) = u1 at D ⊢
  simp only [opsOf]
  go_simp
  go_wp2_with (first | (with_reducible refine at_list ?_; apply ldG (unhide D) rWide _ rfl rfl rfl (by repeat (first | exact List.mem_cons_self | apply List.mem_cons_of_mem)) rfl) | (with_reducible refine at_list ?_; apply stGend (unhide D) rWide _ _ rfl rfl rfl rfl (by repeat (first | exact List.mem_cons_self | apply List.mem_cons_of_mem)) (by omega) rfl rfl (cells8_one _); intro B O))
  exact resG rWide (unhide B) rfl rfl rfl rfl ⟨rfl, unhide O⟩
set_option maxHeartbeats 4000000 in
theorem minor_11 (n0 n1 n2 n3 n4 n5 n6 n7 n8 P R M : Nat) (E : Bool) (g : Nat) (w : World) (hB : Blk w g 75 (ws [n0, n1, n2, n3, n4, n5, n6, n7, n8])) (hP : Hid (Ans 46 #[.agg (cells8 n8), .agg (cells8 n0)] (.agg (cells8 P)))) (hR : Hid (Ans 46 #[.agg (cells8 n6), .agg (cells8 n2)] (.agg (cells8 R)))) (hM : Hid (Ans 45 #[.agg (cells8 P), .agg (cells8 R)] (.tuple #[.agg (cells8 M), .bool E]))) :
    Calls Tryz.prog 44 #[.int .i64 1, .int .i64 1, .pointer (some ⟨g, 0, none⟩)] w fun e w' => e = .returned (.agg (cells8 M)) ∧ Below w.heap.size w w' := by
  have D := hide (Gen.one hB)
  have hgl := hide hB.lt
  clear hB
  go_enter Tryz.func44, Tryz.ntmps44
  go_upto_region 3 with fail
  have D := hide ((unhide D).push 54 z8)
  generalize hw1 : (w.alloc (.cells z8 54)) = w1 at D ⊢
  have D1 : Hid (GenZ w _ w1.heap.size w1.drew) := ⟨(unhide D).drew, Nat.le_refl _⟩
  have hlt := hide (fun (p : Nat × TypeId × Array Value) hp => ((unhide D).at_ p hp).lt)
  have hw0 := hide (unhide D).o.size
  clear D hw1
  generalize w1.heap.size = C at D1 hlt hw0
  refine region_lazy (S := GenZ w _ C) (v := .bool E) (ty := 54) (zs := z8) (base := C) (l := [0, 1, 2, 3, 4, 5, 6, 7, 8, 9, 10, 11, 12, 13, 14, 15, 16, 17, 18, 19, 20, 21, 22, 23, 24]) (A := [26]) (z := 25) (t := 27) (r := [28]) (by kernel_rfl) (by kernel_rfl) (by kernel_rfl) (by kernel_rfl) (by kernel_rfl) (by kernel_rfl) (by kernel_rfl) (by kernel_rfl) (by kernel_rfl) (by kernel_rfl) rfl rfl ?_ (fun _ _ h hb => h.keep hb) (fun _ h => h.s) (unhide D1) ?_
  · intro i hi
    simp at hi
    subst hi
    exact ⟨_, rfl, rfl, fun a w => by go_simp⟩
  clear D1
  refine planB_read (v := .int .i64 2) rfl rfl (fun u hS => by go_simp) ?_
  try go_simp
  refine planB_read (v := .int .i64 2) rfl rfl (fun u hS => by go_simp) ?_
  try go_simp
  refine planB_read (v := .pointer (some ⟨g, 48, none⟩)) rfl rfl (fun u hS => exec_ixa u (k := 2) (.tmp 2) (.tmp 25) (by decide) rfl rfl rfl) ?_
  try go_simp
  refine planB_read (v := .pointer (some ⟨g, 64, none⟩)) rfl rfl (fun u hS => exec_ixn u (b := 48) (k := 2) (.tmp 27) (.tmp 26) (by decide) rfl rfl rfl) ?_
  try go_simp
  refine planB_read (v := .agg (cells8 n8)) rfl rfl (fun u hS => exec_ldMid (.tmp 28) rfl rfl (ws_range (hS.e.blk (g := g) (t := 75) (cs := ws [n0, n1, n2, n3, n4, n5, n6, n7, n8]) (by repeat (first | exact List.mem_cons_self | apply List.mem_cons_of_mem))) (k := 8) (n := n8) rfl)) ?_
  try go_simp
  refine planB_read (v := .int .i64 0) rfl rfl (fun u hS => by go_simp) ?_
  try go_simp
  refine planB_read (v := .int .i64 0) rfl rfl (fun u hS => by go_simp) ?_
  try go_simp
  refine planB_read (v := .pointer (some ⟨g, 0, none⟩)) rfl rfl (fun u hS => exec_ixa u (k := 0) (.tmp 2) (.tmp 30) (by decide) rfl rfl rfl) ?_
  try go_simp
  refine planB_read (v := .pointer (some ⟨g, 0, none⟩)) rfl rfl (fun u hS => exec_ixn u (b := 0) (k := 0) (.tmp 32) (.tmp 31) (by decide) rfl rfl rfl) ?_
  try go_simp
  refine planB_read (v := .agg (cells8 n0)) rfl rfl (fun u hS => exec_ldMid (.tmp 33) rfl rfl (ws_range (hS.e.blk (g := g) (t := 75) (cs := ws [n0, n1, n2, n3, n4, n5, n6, n7, n8]) (by repeat (first | exact List.mem_cons_self | apply List.mem_cons_of_mem))) (k := 0) (n := n0) rfl)) ?_
  try go_simp
  refine planB_call (v := .agg (cells8 P)) (f := 46) (args := #[.agg (cells8 n8), .agg (cells8 n0)]) rfl rfl (fun u hS => by go_simp) (fun u hS => (unhide hP u).mono fun _ _ ⟨he, hb⟩ => ⟨he, hS.keep hb, hb⟩) ?_
  try go_simp
  refine planB_read (v := .int .i64 2) rfl rfl (fun u hS => by go_simp) ?_
  try go_simp
  refine planB_read (v := .int .i64 0) rfl rfl (fun u hS => by go_simp) ?_
  try go_simp
  refine planB_read (v := .pointer (some ⟨g, 48, none⟩)) rfl rfl (fun u hS => exec_ixa u (k := 2) (.tmp 2) (.tmp 36) (by decide) rfl rfl rfl) ?_
  try go_simp
  refine planB_read (v := .pointer (some ⟨g, 48, none⟩)) rfl rfl (fun u hS => exec_ixn u (b := 48) (k := 0) (.tmp 38) (.tmp 37) (by decide) rfl rfl rfl) ?_
  try go_simp
  refine planB_read (v := .agg (cells8 n6)) rfl rfl (fun u hS => exec_ldMid (.tmp 39) rfl rfl (ws_range (hS.e.blk (g := g) (t := 75) (cs := ws [n0, n1, n2, n3, n4, n5, n6, n7, n8]) (by repeat (first | exact List.mem_cons_self | apply List.mem_cons_of_mem))) (k := 6) (n := n6) rfl)) ?_
  try go_simp
  refine planB_read (v := .int .i64 0) rfl rfl (fun u hS => by go_simp) ?_
  try go_simp
  refine planB_read (v := .int .i64 2) rfl rfl (fun u hS => by go_simp) ?_
  try go_simp
  refine planB_read (v := .pointer (some ⟨g, 0, none⟩)) rfl rfl (fun u hS => exec_ixa u (k := 0) (.tmp 2) (.tmp 41) (by decide) rfl rfl rfl) ?_
  try go_simp
  refine planB_read (v := .pointer (some ⟨g, 16, none⟩)) rfl rfl (fun u hS => exec_ixn u (b := 0) (k := 2) (.tmp 43) (.tmp 42) (by decide) rfl rfl rfl) ?_
  try go_simp
  refine planB_read (v := .agg (cells8 n2)) rfl rfl (fun u hS => exec_ldMid (.tmp 44) rfl rfl (ws_range (hS.e.blk (g := g) (t := 75) (cs := ws [n0, n1, n2, n3, n4, n5, n6, n7, n8]) (by repeat (first | exact List.mem_cons_self | apply List.mem_cons_of_mem))) (k := 2) (n := n2) rfl)) ?_
  try go_simp
  refine planB_call (v := .agg (cells8 R)) (f := 46) (args := #[.agg (cells8 n6), .agg (cells8 n2)]) rfl rfl (fun u hS => by go_simp) (fun u hS => (unhide hR u).mono fun _ _ ⟨he, hb⟩ => ⟨he, hS.keep hb, hb⟩) ?_
  try go_simp
  refine planB_call (v := .tuple #[.agg (cells8 M), .bool E]) (f := 45) (args := #[.agg (cells8 P), .agg (cells8 R)]) rfl rfl (fun u hS => by go_simp) (fun u hS => (unhide hM u).mono fun _ _ ⟨he, hb⟩ => ⟨he, hS.keep hb, hb⟩) ?_
  try go_simp
  refine planB_read (v := .tuple #[.agg (cells8 M), .bool E]) rfl rfl (fun u hS => by go_simp) ?_
  try go_simp
  refine planB_read (v := .agg (cells8 M)) rfl rfl (fun u hS => by go_simp) ?_
  try go_simp
  refine planB_lazy rfl (fun u => by go_simp) rfl rfl (fun c u hS hB hI2 => ?_)
  have hB7 := hB 26 (by simp)
  clear hB hI2
  simp only [pa, dstOf]
  generalize c 26 = c7 at hB7 ⊢
  have D := hide (hS.e.fillZ (cs := cells8 M) (unhide hlt) (unhide hw0) hB7.1 hB7.2)
  refine ⟨_, exec_store8 (n := M) 54 (.tmp 10) (.tmp 48) hB7.1 rfl rfl rfl rfl iWide, ?_⟩
  clear hS hB7 hlt hw0
  generalize u.setRow c7 (cells8 M) = u1 at D ⊢
  simp only [opsOf]
  go_simp
  go_wp2_with (first | (with_reducible refine at_list ?_; apply ldG (unhide D) rWide _ rfl rfl rfl (by repeat (first | exact List.mem_cons_self | apply List.mem_cons_of_mem)) rfl) | (with_reducible refine at_list ?_; apply stGend (unhide D) rWide _ _ rfl rfl rfl rfl (by repeat (first | exact List.mem_cons_self | apply List.mem_cons_of_mem)) (by omega) rfl rfl (cells8_one _); intro B O))
  exact resG rWide (unhide B) rfl rfl rfl rfl ⟨rfl, unhide O⟩
set_option maxHeartbeats 4000000 in
theorem minor_12 (n0 n1 n2 n3 n4 n5 n6 n7 n8 P R M : Nat) (E : Bool) (g : Nat) (w : World) (hB : Blk w g 75 (ws [n0, n1, n2, n3, n4, n5, n6, n7, n8])) (hP : Hid (Ans 46 #[.agg (cells8 n6), .agg (cells8 n1)] (.agg (cells8 P)))) (hR : Hid (Ans 46 #[.agg (cells8 n7), .agg (cells8 n0)] (.agg (cells8 R)))) (hM : Hid (Ans 45 #[.agg (cells8 P), .agg (cells8 R)] (.tuple #[.agg (cells8 M), .bool E]))) :
    Calls Tryz.prog 44 #[.int .i64 1, .int .i64 2, .pointer (some ⟨g, 0, none⟩)] w fun e w' => e = .returned (.agg (cells8 M)) ∧ Below w.heap.size w w' := by
  have D := hide (Gen.one hB)
  have hgl := hide hB.lt
  clear hB
  go_enter Tryz.func44, Tryz.ntmps44
  go_upto_region 3 with fail
  have D := hide ((unhide D).push 54 z8)
  generalize hw1 : (w.alloc (.cells z8 54)) = w1 at D ⊢
  have D1 : Hid (GenZ w _ w1.heap.size w1.drew) := ⟨(unhide D).drew, Nat.le_refl _⟩
  have hlt := hide (fun (p : Nat × TypeId × Array Value) hp => ((unhide D).at_ p hp).lt)
  have hw0 := hide (unhide D).o.size
  clear D hw1
  generalize w1.heap.size = C at D1 hlt hw0
  refine region_lazy (S := GenZ w _ C) (v := .bool E) (ty := 54) (zs := z8) (base := C) (l := [0, 1, 2, 3, 4, 5, 6, 7, 8, 9, 10, 11, 12, 13, 14, 15, 16, 17, 18, 19, 20, 21, 22, 23, 24]) (A := [26]) (z := 25) (t := 27) (r := [28]) (by kernel_rfl) (by kernel_rfl) (by kernel_rfl) (by kernel_rfl) (by kernel_rfl) (by kernel_rfl) (by kernel_rfl) (by kernel_rfl) (by kernel_rfl) (by kernel_rfl) rfl rfl ?_ (fun _ _ h hb => h.keep hb) (fun _ h => h.s) (unhide D1) ?_
  · intro i hi
    simp at hi
    subst hi
    exact ⟨_, rfl, rfl, fun a w => by go_simp⟩
  clear D1
  refine planB_read (v := .int .i64 2) rfl rfl (fun u hS => by go_simp) ?_
  try go_simp
  refine planB_read (v := .int .i64 0) rfl rfl (fun u hS => by go_simp) ?_
  try go_simp
  refine planB_read (v := .pointer (some ⟨g, 48, none⟩)) rfl rfl (fun u hS => exec_ixa u (k := 2) (.tmp 2) (.tmp 25) (by decide) rfl rfl rfl) ?_
  try go_simp
  refine planB_read (v := .pointer (some ⟨g, 48, none⟩)) rfl rfl (fun u hS => exec_ixn u (b := 48) (k := 0) (.tmp 27) (.tmp 26) (by decide) rfl rfl rfl) ?_
  try go_simp
  refine planB_read (v := .agg (cells8 n6)) rfl rfl (fun u hS => exec_ldMid (.tmp 28) rfl rfl (ws_range (hS.e.blk (g := g) (t := 75) (cs := ws [n0, n1, n2, n3, n4, n5, n6, n7, n8]) (by repeat (first | exact List.mem_cons_self | apply List.mem_cons_of_mem))) (k := 6) (n := n6) rfl)) ?_
  try go_simp
  refine planB_read (v := .int .i64 0) rfl rfl (fun u hS => by go_simp) ?_
  try go_simp
  refine planB_read (v := .int .i64 1) rfl rfl (fun u hS => by go_simp) ?_
  try go_simp
  refine planB_read (v := .pointer (some ⟨g, 0, none⟩)) rfl rfl (fun u hS => exec_ixa u (k := 0) (.tmp 2) (.tmp 30) (by decide) rfl rfl rfl) ?_
  try go_simp
  refine planB_read (v := .pointer (some ⟨g, 8, none⟩)) rfl rfl (fun u hS => exec_ixn u (b := 0) (k := 1) (.tmp 32) (.tmp 31) (by decide) rfl rfl rfl) ?_
  try go_simp
  refine planB_read (v := .agg (cells8 n1)) rfl rfl (fun u hS => exec_ldMid (.tmp 33) rfl rfl (ws_range (hS.e.blk (g := g) (t := 75) (cs := ws [n0, n1, n2, n3, n4, n5, n6, n7, n8]) (by repeat (first | exact List.mem_cons_self | apply List.mem_cons_of_mem))) (k := 1) (n := n1) rfl)) ?_
  try go_simp
  refine planB_call (v := .agg (cells8 P)) (f := 46) (args := #[.agg (cells8 n6), .agg (cells8 n1)]) rfl rfl (fun u hS => by go_simp) (fun u hS => (unhide hP u).mono fun _ _ ⟨he, hb⟩ => ⟨he, hS.keep hb, hb⟩) ?_
  try go_simp
  refine planB_read (v := .int .i64 2) rfl rfl (fun u hS => by go_simp) ?_
  try go_simp
  refine planB_read (v := .int .i64 1) rfl rfl (fun u hS => by go_simp) ?_
  try go_simp
  refine planB_read (v := .pointer (some ⟨g, 48, none⟩)) rfl rfl (fun u hS => exec_ixa u (k := 2) (.tmp 2) (.tmp 36) (by decide) rfl rfl rfl) ?_
  try go_simp
  refine planB_read (v := .pointer (some ⟨g, 56, none⟩)) rfl rfl (fun u hS => exec_ixn u (b := 48) (k := 1) (.tmp 38) (.tmp 37) (by decide) rfl rfl rfl) ?_
  try go_simp
  refine planB_read (v := .agg (cells8 n7)) rfl rfl (fun u hS => exec_ldMid (.tmp 39) rfl rfl (ws_range (hS.e.blk (g := g) (t := 75) (cs := ws [n0, n1, n2, n3, n4, n5, n6, n7, n8]) (by repeat (first | exact List.mem_cons_self | apply List.mem_cons_of_mem))) (k := 7) (n := n7) rfl)) ?_
  try go_simp
  refine planB_read (v := .int .i64 0) rfl rfl (fun u hS => by go_simp) ?_
  try go_simp
  refine planB_read (v := .int .i64 0) rfl rfl (fun u hS => by go_simp) ?_
  try go_simp
  refine planB_read (v := .pointer (some ⟨g, 0, none⟩)) rfl rfl (fun u hS => exec_ixa u (k := 0) (.tmp 2) (.tmp 41) (by decide) rfl rfl rfl) ?_
  try go_simp
  refine planB_read (v := .pointer (some ⟨g, 0, none⟩)) rfl rfl (fun u hS => exec_ixn u (b := 0) (k := 0) (.tmp 43) (.tmp 42) (by decide) rfl rfl rfl) ?_
  try go_simp
  refine planB_read (v := .agg (cells8 n0)) rfl rfl (fun u hS => exec_ldMid (.tmp 44) rfl rfl (ws_range (hS.e.blk (g := g) (t := 75) (cs := ws [n0, n1, n2, n3, n4, n5, n6, n7, n8]) (by repeat (first | exact List.mem_cons_self | apply List.mem_cons_of_mem))) (k := 0) (n := n0) rfl)) ?_
  try go_simp
  refine planB_call (v := .agg (cells8 R)) (f := 46) (args := #[.agg (cells8 n7), .agg (cells8 n0)]) rfl rfl (fun u hS => by go_simp) (fun u hS => (unhide hR u).mono fun _ _ ⟨he, hb⟩ => ⟨he, hS.keep hb, hb⟩) ?_
  try go_simp
  refine planB_call (v := .tuple #[.agg (cells8 M), .bool E]) (f := 45) (args := #[.agg (cells8 P), .agg (cells8 R)]) rfl rfl (fun u hS => by go_simp) (fun u hS => (unhide hM u).mono fun _ _ ⟨he, hb⟩ => ⟨he, hS.keep hb, hb⟩) ?_
  try go_simp
  refine planB_read (v := .tuple #[.agg (cells8 M), .bool E]) rfl rfl (fun u hS => by go_simp) ?_
  try go_simp
  refine planB_read (v := .agg (cells8 M)) rfl rfl (fun u hS => by go_simp) ?_
  try go_simp
  refine planB_lazy rfl (fun u => by go_simp) rfl rfl (fun c u hS hB hI2 => ?_)
  have hB7 := hB 26 (by simp)
  clear hB hI2
  simp only [pa, dstOf]
  generalize c 26 = c7 at hB7 ⊢
  have D := hide (hS.e.fillZ (cs := cells8 M) (unhide hlt) (unhide hw0) hB7.1 hB7.2)
  refine ⟨_, exec_store8 (n := M) 54 (.tmp 10) (.tmp 48) hB7.1 rfl rfl rfl rfl iWide, ?_⟩
  clear hS hB7 hlt hw0
  generalize u.setRow c7 (cells8 M) = u1 at D ⊢
  simp only [opsOf]
  go_simp
  go_wp2_with (first | (with_reducible refine at_list ?_; apply ldG (unhide D) rWide _ rfl rfl rfl (by repeat (first | exact List.mem_cons_self | apply List.mem_cons_of_mem)) rfl) | (with_reducible refine at_list ?_; apply stGend (unhide D) rWide _ _ rfl rfl rfl rfl (by repeat (first | exact List.mem_cons_self | apply List.mem_cons_of_mem)) (by omega) rfl rfl (cells8_one _); intro B O))
  exact resG rWide (unhide B) rfl rfl rfl rfl ⟨rfl, unhide O⟩
set_option maxHeartbeats 4000000 in
theorem minor_20 (n0 n1 n2 n3 n4 n5 n6 n7 n8 P R M : Nat) (E : Bool) (g : Nat) (w : World) (hB : Blk w g 75 (ws [n0, n1, n2, n3, n4, n5, n6, n7, n8])) (hP : Hid (Ans 46 #[.agg (cells8 n1), .agg (cells8 n5)] (.agg (cells8 P)))) (hR : Hid (Ans 46 #[.agg (cells8 n2), .agg (cells8 n4)] (.agg (cells8 R)))) (hM : Hid (Ans 45 #[.agg (cells8 P), .agg (cells8 R)] (.tuple #[.agg (cells8 M), .bool E]))) :
    Calls Tryz.prog 44 #[.int .i64 2, .int .i64 0, .pointer (some ⟨g, 0, none⟩)] w fun e w' => e = .returned (.agg (cells8 M)) ∧ Below w.heap.size w w' := by
  have D := hide (Gen.one hB)
  have hgl := hide hB.lt
  clear hB
  go_enter Tryz.func44, Tryz.ntmps44
  go_upto_region 3 with fail
  have D := hide ((unhide D).push 54 z8)
  generalize hw1 : (w.alloc (.cells z8 54)) = w1 at D ⊢
  have D1 : Hid (GenZ w _ w1.heap.size w1.drew) := ⟨(unhide D).drew, Nat.le_refl _⟩
  have hlt := hide (fun (p : Nat × TypeId × Array Value) hp => ((unhide D).at_ p hp).lt)
  have hw0 := hide (unhide D).o.size
  clear D hw1
  generalize w1.heap.size = C at D1 hlt hw0
  refine region_lazy (S := GenZ w _ C) (v := .bool E) (ty := 54) (zs := z8) (base := C) (l := [0, 1, 2, 3, 4, 5, 6, 7, 8, 9, 10, 11, 12, 13, 14, 15, 16, 17, 18, 19, 20, 21, 22, 23, 24]) (A := [26]) (z := 25) (t := 27) (r := [28]) (by kernel_rfl) (by kernel_rfl) (by kernel_rfl) (by kernel_rfl) (by kernel_rfl) (by kernel_rfl) (by kernel_rfl) (by kernel_rfl) (by kernel_rfl) (by kernel_rfl) rfl rfl ?_ (fun _ _ h hb => h.keep hb) (fun _ h => h.s) (unhide D1) ?_
  · intro i hi
    simp at hi
    subst hi
    exact ⟨_, rfl, rfl, fun a w => by go_simp⟩
  clear D1
  refine planB_read (v := .int .i64 0) rfl rfl (fun u hS => by go_simp) ?_
  try go_simp
  refine planB_read (v := .int .i64 1) rfl rfl (fun u hS => by go_simp) ?_
  try go_simp
  refine planB_read (v := .pointer (some ⟨g, 0, none⟩)) rfl rfl (fun u hS => exec_ixa u (k := 0) (.tmp 2) (.tmp 25) (by decide) rfl rfl rfl) ?_
  try go_simp
  refine planB_read (v := .pointer (some ⟨g, 8, none⟩)) rfl rfl (fun u hS => exec_ixn u (b := 0) (k := 1) (.tmp 27) (.tmp 26) (by decide) rfl rfl rfl) ?_
  try go_simp
  refine planB_read (v := .agg (cells8 n1)) rfl rfl (fun u hS => exec_ldMid (.tmp 28) rfl rfl (ws_range (hS.e.blk (g := g) (t := 75) (cs := ws [n0, n1, n2, n3, n4, n5, n6, n7, n8]) (by repeat (first | exact List.mem_cons_self | apply List.mem_cons_of_mem))) (k := 1) (n := n1) rfl)) ?_
  try go_simp
  refine planB_read (v := .int .i64 1) rfl rfl (fun u hS => by go_simp) ?_
  try go_simp
  refine planB_read (v := .int .i64 2) rfl rfl (fun u hS => by go_simp) ?_
  try go_simp
  refine planB_read (v := .pointer (some ⟨g, 24, none⟩)) rfl rfl (fun u hS => exec_ixa u (k := 1) (.tmp 2) (.tmp 30) (by decide) rfl rfl rfl) ?_
  try go_simp
  refine planB_read (v := .pointer (some ⟨g, 40, none⟩)) rfl rfl (fun u hS => exec_ixn u (b := 24) (k := 2) (.tmp 32) (.tmp 31) (by decide) rfl rfl rfl) ?_
  try go_simp
  refine planB_read (v := .agg (cells8 n5)) rfl rfl (fun u hS => exec_ldMid (.tmp 33) rfl rfl (ws_range (hS.e.blk (g := g) (t := 75) (cs := ws [n0, n1, n2, n3, n4, n5, n6, n7, n8]) (by repeat (first | exact List.mem_cons_self | apply List.mem_cons_of_mem))) (k := 5) (n := n5) rfl)) ?_
  try go_simp
  refine planB_call (v := .agg (cells8 P)) (f := 46) (args := #[.agg (cells8 n1), .agg (cells8 n5)]) rfl rfl (fun u hS => by go_simp) (fun u hS => (unhide hP u).mono fun _ _ ⟨he, hb⟩ => ⟨he, hS.keep hb, hb⟩) ?_
  try go_simp
  refine planB_read (v := .int .i64 0) rfl rfl (fun u hS => by go_simp) ?_
  try go_simp
  refine planB_read (v := .int .i64 2) rfl rfl (fun u hS => by go_simp) ?_
  try go_simp
  refine planB_read (v := .pointer (some ⟨g, 0, none⟩)) rfl rfl (fun u hS => exec_ixa u (k := 0) (.tmp 2) (.tmp 36) (by decide) rfl rfl rfl) ?_
  try go_simp
  refine planB_read (v := .pointer (some ⟨g, 16, none⟩)) rfl rfl (fun u hS => exec_ixn u (b := 0) (k := 2) (.tmp 38) (.tmp 37) (by decide) rfl rfl rfl) ?_
  try go_simp
  refine planB_read (v := .agg (cells8 n2)) rfl rfl (fun u hS => exec_ldMid (.tmp 39) rfl rfl (ws_range (hS.e.blk (g := g) (t := 75) (cs := ws [n0, n1, n2, n3, n4, n5, n6, n7, n8]) (by repeat (first | exact List.mem_cons_self | apply List.mem_cons_of_mem))) (k := 2) (n := n2) rfl)) ?_
  try go_simp
  refine planB_read (v := .int .i64 1) rfl rfl (fun u hS => by go_simp) ?_
  try go_simp
  refine planB_read (v := .int .i64 1) rfl rfl (fun u hS => by go_simp) ?_
  try go_simp
  refine planB_read (v := .pointer (some ⟨g, 24, none⟩)) rfl rfl (fun u hS => exec_ixa u (k := 1) (.tmp 2) (.tmp 41) (by decide) rfl rfl rfl) ?_
  try go_simp
  refine planB_read (v := .pointer (some ⟨g, 32, none⟩)) rfl rfl (fun u hS => exec_ixn u (b := 24) (k := 1) (.tmp 43) (.tmp 42) (by decide) rfl rfl rfl) ?_
  try go_simp
  refine planB_read (v := .agg (cells8 n4)) rfl rfl (fun u hS => exec_ldMid (.tmp 44) rfl rfl (ws_range (hS.e.blk (g := g) (t := 75) (cs := ws [n0, n1, n2, n3, n4, n5, n6, n7, n8]) (by repeat (first | exact List.mem_cons_self | apply List.mem_cons_of_mem))) (k := 4) (n := n4) rfl)) ?_
  try go_simp
  refine planB_call (v := .agg (cells8 R)) (f := 46) (args := #[.agg (cells8 n2), .agg (cells8 n4)]) rfl rfl (fun u hS => by go_simp) (fun u hS => (unhide hR u).mono fun _ _ ⟨he, hb⟩ => ⟨he, hS.keep hb, hb⟩) ?_
  try go_simp
  refine planB_call (v := .tuple #[.agg (cells8 M), .bool E]) (f := 45) (args := #[.agg (cells8 P), .agg (cells8 R)]) rfl rfl (fun u hS => by go_simp) (fun u hS => (unhide hM u).mono fun _ _ ⟨he, hb⟩ => ⟨he, hS.keep hb, hb⟩) ?_
  try go_simp
  refine planB_read (v := .tuple #[.agg (cells8 M), .bool E]) rfl rfl (fun u hS => by go_simp) ?_
  try go_simp
  refine planB_read (v := .agg (cells8 M)) rfl rfl (fun u hS => by go_simp) ?_
  try go_simp
  refine planB_lazy rfl (fun u => by go_simp) rfl rfl (fun c u hS hB hI2 => ?_)
  have hB7 := hB 26 (by simp)
  clear hB hI2
  simp only [pa, dstOf]
  generalize c 26 = c7 at hB7 ⊢
  have D := hide (hS.e.fillZ (cs := cells8 M) (unhide hlt) (unhide hw0) hB7.1 hB7.2)
  refine ⟨_, exec_store8 (n := M) 54 (.tmp 10) (.tmp 48) hB7.1 rfl rfl rfl rfl iWide, ?_⟩
  clear hS hB7 hlt hw0
  generalize u.setRow c7 (cells8 M) = u1 at D ⊢
  simp only [opsOf]
  go_simp
  go_wp2_with (first | (with_reducible refine at_list ?_; apply ldG (unhide D) rWide _ rfl rfl rfl (by repeat (first | exact List.mem_cons_self | apply List.mem_cons_of_mem)) rfl) | (with_reducible refine at_list ?_; apply stGend (unhide D) rWide _ _ rfl rfl rfl rfl (by repeat (first | exact List.mem_cons_self | apply List.mem_cons_of_mem)) (by omega) rfl rfl (cells8_one _); intro B O))
  exact resG rWide (unhide B) rfl rfl rfl rfl ⟨rfl, unhide O⟩
set_option maxHeartbeats 4000000 in
theorem minor_21 (n0 n1 n2 n3 n4 n5 n6 n7 n8 P R M : Nat) (E : Bool) (g : Nat) (w : World) (hB : Blk w g 75 (ws [n0, n1, n2, n3, n4, n5, n6, n7, n8])) (hP : Hid (Ans 46 #[.agg (cells8 n2), .agg (cells8 n3)] (.agg (cells8 P)))) (hR : Hid (Ans 46 #[.agg (cells8 n0), .agg (cells8 n5)] (.agg (cells8 R)))) (hM : Hid (Ans 45 #[.agg (cells8 P), .agg (cells8 R)] (.tuple #[.agg (cells8 M), .bool E]))) :
    Calls Tryz.prog 44 #[.int .i64 2, .int .i64 1, .pointer (some ⟨g, 0, none⟩)] w fun e w' => e = .returned (.agg (cells8 M)) ∧ Below w.heap.size w w' := by
  have D := hide (Gen.one hB)
  have hgl := hide hB.lt
  clear hB
  go_enter Tryz.func44, Tryz.ntmps44
  go_upto_region 3 with fail
  have D := hide ((unhide D).push 54 z8)
  generalize hw1 : (w.alloc (.cells z8 54)) = w1 at D ⊢
  have D1 : Hid (GenZ w _ w1.heap.size w1.drew) := ⟨(unhide D).drew, Nat.le_refl _⟩
  have hlt := hide (fun (p : Nat × TypeId × Array Value) hp => ((unhide D).at_ p hp).lt)
  have hw0 := hide (unhide D).o.size
  clear D hw1
  generalize w1.heap.size = C at D1 hlt hw0
  refine region_lazy (S := GenZ w _ C) (v := .bool E) (ty := 54) (zs := z8) (base := C) (l := [0, 1, 2, 3, 4, 5, 6, 7, 8, 9, 10, 11, 12, 13, 14, 15, 16, 17, 18, 19, 20, 21, 22, 23, 24]) (A := [26]) (z := 25) (t := 27) (r := [28]) (by kernel_rfl) (by kernel_rfl) (by kernel_rfl) (by kernel_rfl) (by kernel_rfl) (by kernel_rfl) (by kernel_rfl) (by kernel_rfl) (by kernel_rfl) (by kernel_rfl) rfl rfl ?_ (fun _ _ h hb => h.keep hb) (fun _ h => h.s) (unhide D1) ?_
  · intro i hi
    simp at hi
    subst hi
    exact ⟨_, rfl, rfl, fun a w => by go_simp⟩
  clear D1
  refine planB_read (v := .int .i64 0) rfl rfl (fun u hS => by go_simp) ?_
  try go_simp
  refine planB_read (v := .int .i64 2) rfl rfl (fun u hS => by go_simp) ?_
  try go_simp
  refine planB_read (v := .pointer (some ⟨g, 0, none⟩)) rfl rfl (fun u hS => exec_ixa u (k := 0) (.tmp 2) (.tmp 25) (by decide) rfl rfl rfl) ?_
  try go_simp
  refine planB_read (v := .pointer (some ⟨g, 16, none⟩)) rfl rfl (fun u hS => exec_ixn u (b := 0) (k := 2) (.tmp 27) (.tmp 26) (by decide) rfl rfl rfl) ?_
  try go_simp
  refine planB_read (v := .agg (cells8 n2)) rfl rfl (fun u hS => exec_ldMid (.tmp 28) rfl rfl (ws_range (hS.e.blk (g := g) (t := 75) (cs := ws [n0, n1, n2, n3, n4, n5, n6, n7, n8]) (by repeat (first | exact List.mem_cons_self | apply List.mem_cons_of_mem))) (k := 2) (n := n2) rfl)) ?_
  try go_simp
  refine planB_read (v := .int .i64 1) rfl rfl (fun u hS => by go_simp) ?_
  try go_simp
  refine planB_read (v := .int .i64 0) rfl rfl (fun u hS => by go_simp) ?_
  try go_simp
  refine planB_read (v := .pointer (some ⟨g, 24, none⟩)) rfl rfl (fun u hS => exec_ixa u (k := 1) (.tmp 2) (.tmp 30) (by decide) rfl rfl rfl) ?_
  try go_simp
  refine planB_read (v := .pointer (some ⟨g, 24, none⟩)) rfl rfl (fun u hS => exec_ixn u (b := 24) (k := 0) (.tmp 32) (.tmp 31) (by decide) rfl rfl rfl) ?_
  try go_simp
  refine planB_read (v := .agg (cells8 n3)) rfl rfl (fun u hS => exec_ldMid (.tmp 33) rfl rfl (ws_range (hS.e.blk (g := g) (t := 75) (cs := ws [n0, n1, n2, n3, n4, n5, n6, n7, n8]) (by repeat (first | exact List.mem_cons_self | apply List.mem_cons_of_mem))) (k := 3) (n := n3) rfl)) ?_
  try go_simp
  refine planB_call (v := .agg (cells8 P)) (f := 46) (args := #[.agg (cells8 n2), .agg (cells8 n3)]) rfl rfl (fun u hS => by go_simp) (fun u hS => (unhide hP u).mono fun _ _ ⟨he, hb⟩ => ⟨he, hS.keep hb, hb⟩) ?_
  try go_simp
  refine planB_read (v := .int .i64 0) rfl rfl (fun u hS => by go_simp) ?_
  try go_simp
  refine planB_read (v := .int .i64 0) rfl rfl (fun u hS => by go_simp) ?_
  try go_simp
  refine planB_read (v := .pointer (some ⟨g, 0, none⟩)) rfl rfl (fun u hS => exec_ixa u (k := 0) (.tmp 2) (.tmp 36) (by decide) rfl rfl rfl) ?_
  try go_simp
  refine planB_read (v := .pointer (some ⟨g, 0, none⟩)) rfl rfl (fun u hS => exec_ixn u (b := 0) (k := 0) (.tmp 38) (.tmp 37) (by decide) rfl rfl rfl) ?_
  try go_simp
  refine planB_read (v := .agg (cells8 n0)) rfl rfl (fun u hS => exec_ldMid (.tmp 39) rfl rfl (ws_range (hS.e.blk (g := g) (t := 75) (cs := ws [n0, n1, n2, n3, n4, n5, n6, n7, n8]) (by repeat (first | exact List.mem_cons_self | apply List.mem_cons_of_mem))) (k := 0) (n := n0) rfl)) ?_
  try go_simp
  refine planB_read (v := .int .i64 1) rfl rfl (fun u hS => by go_simp) ?_
  try go_simp
  refine planB_read (v := .int .i64 2) rfl rfl (fun u hS => by go_simp) ?_
  try go_simp
  refine planB_read (v := .pointer (some ⟨g, 24, none⟩)) rfl rfl (fun u hS => exec_ixa u (k := 1) (.tmp 2) (.tmp 41) (by decide) rfl rfl rfl) ?_
  try go_simp
  refine planB_read (v := .pointer (some ⟨g, 40, none⟩)) rfl rfl (fun u hS => exec_ixn u (b := 24) (k := 2) (.tmp 43) (.tmp 42) (by decide) rfl rfl rfl) ?_
  try go_simp
  refine planB_read (v := .agg (cells8 n5)) rfl rfl (fun u hS => exec_ldMid (.tmp 44) rfl rfl (ws_range (hS.e.blk (g := g) (t := 75) (cs := ws [n0, n1, n2, n3, n4, n5, n6, n7, n8]) (by repeat (first | exact List.mem_cons_self | apply List.mem_cons_of_mem))) (k := 5) (n := n5) rfl)) ?_
  try go_simp
  refine planB_call (v := .agg (cells8 R)) (f := 46) (args := #[.agg (cells8 n0), .agg (cells8 n5)]) rfl rfl (fun u hS => by go_simp) (fun u hS => (unhide hR u).mono fun _ _ ⟨he, hb⟩ => ⟨he, hS.keep hb, hb⟩) ?_
  try go_simp
  refine planB_call (v := .tuple #[.agg (cells8 M), .bool E]) (f := 45) (args := #[.agg (cells8 P), .agg (cells8 R)]) rfl rfl (fun u hS => by go_simp) (fun u hS => (unhide hM u).mono fun _ _ ⟨he, hb⟩ => ⟨he, hS.keep hb, hb⟩) ?_
  try go_simp
  refine planB_read (v := .tuple #[.agg (cells8 M), .bool E]) rfl rfl (fun u hS => by go_simp) ?_
  try go_simp
  refine planB_read (v := .agg (cells8 M)) rfl rfl (fun u hS => by go_simp) ?_
  try go_simp
  refine planB_lazy rfl (fun u => by go_simp) rfl rfl (fun c u hS hB hI2 => ?_)
  have hB7 := hB 26 (by simp)
  clear hB hI2
  simp only [pa, dstOf]
  generalize c 26 = c7 at hB7 ⊢
  have D := hide (hS.e.fillZ (cs := cells8 M) (unhide hlt) (unhide hw0) hB7.1 hB7.2)
  refine ⟨_, exec_store8 (n := M) 54 (.tmp 10) (.tmp 48) hB7.1 rfl rfl rfl rfl iWide, ?_⟩
  clear hS hB7 hlt hw0
  generalize u.setRow c7 (cells8 M) = u1 at D ⊢
  simp only [opsOf]
  go_simp
  go_wp2_with (first | (with_reducible refine at_list ?_; apply ldG (unhide D) rWide _ rfl rfl rfl (by repeat (first | exact List.mem_cons_self | apply List.mem_cons_of_mem)) rfl) | (with_reducible refine at_list ?_; apply stGend (unhide D) rWide _ _ rfl rfl rfl rfl (by repeat (first | exact List.mem_cons_self | apply List.mem_cons_of_mem)) (by omega) rfl rfl (cells8_one _); intro B O))
  exact resG rWide (unhide B) rfl rfl rfl rfl ⟨rfl, unhide O⟩
set_option maxHeartbeats 4000000 in
theorem minor_22 (n0 n1 n2 n3 n4 n5 n6 n7 n8 P R M : Nat) (E : Bool) (g : Nat) (w : World) (hB : Blk w g 75 (ws [n0, n1, n2, n3, n4, n5, n6, n7, n8])) (hP : Hid (Ans 46 #[.agg (cells8 n0), .agg (cells8 n4)] (.agg (cells8 P)))) (hR : Hid (Ans 46 #[.agg (cells8 n1), .agg (cells8 n3)] (.agg (cells8 R)))) (hM : Hid (Ans 45 #[.agg (cells8 P), .agg (cells8 R)] (.tuple #[.agg (cells8 M), .bool E]))) :
    Calls Tryz.prog 44 #[.int .i64 2, .int .i64 2, .pointer (some ⟨g, 0, none⟩)] w fun e w' => e = .returned (.agg (cells8 M)) ∧ Below w.heap.size w w' := by
  have D := hide (Gen.one hB)
  have hgl := hide hB.lt
  clear hB
  go_enter Tryz.func44, Tryz.ntmps44
  go_upto_region 3 with fail
  have D := hide ((unhide D).push 54 z8)
  generalize hw1 : (w.alloc (.cells z8 54)) = w1 at D ⊢
  have D1 : Hid (GenZ w _ w1.heap.size w1.drew) := ⟨(unhide D).drew, Nat.le_refl _⟩
  have hlt := hide (fun (p : Nat × TypeId × Array Value) hp => ((unhide D).at_ p hp).lt)
  have hw0 := hide (unhide D).o.size
  clear D hw1
  generalize w1.heap.size = C at D1 hlt hw0
  refine region_lazy (S := GenZ w _ C) (v := .bool E) (ty := 54) (zs := z8) (base := C) (l := [0, 1, 2, 3, 4, 5, 6, 7, 8, 9, 10, 11, 12, 13, 14, 15, 16, 17, 18, 19, 20, 21, 22, 23, 24]) (A := [26]) (z := 25) (t := 27) (r := [28]) (by kernel_rfl) (by kernel_rfl) (by kernel_rfl) (by kernel_rfl) (by kernel_rfl) (by kernel_rfl) (by kernel_rfl) (by kernel_rfl) (by kernel_rfl) (by kernel_rfl) rfl rfl ?_ (fun _ _ h hb => h.keep hb) (fun _ h => h.s) (unhide D1) ?_
  · intro i hi
    simp at hi
    subst hi
    exact ⟨_, rfl, rfl, fun a w => by go_simp⟩
  clear D1
  refine planB_read (v := .int .i64 0) rfl rfl (fun u hS => by go_simp) ?_
  try go_simp
  refine planB_read (v := .int .i64 0) rfl rfl (fun u hS => by go_simp) ?_
  try go_simp
  refine planB_read (v := .pointer (some ⟨g, 0, none⟩)) rfl rfl (fun u hS => exec_ixa u (k := 0) (.tmp 2) (.tmp 25) (by decide) rfl rfl rfl) ?_
  try go_simp
  refine planB_read (v := .pointer (some ⟨g, 0, none⟩)) rfl rfl (fun u hS => exec_ixn u (b := 0) (k := 0) (.tmp 27) (.tmp 26) (by decide) rfl rfl rfl) ?_
  try go_simp
  refine planB_read (v := .agg (cells8 n0)) rfl rfl (fun u hS => exec_ldMid (.tmp 28) rfl rfl (ws_range (hS.e.blk (g := g) (t := 75) (cs := ws [n0, n1, n2, n3, n4, n5, n6, n7, n8]) (by repeat (first | exact List.mem_cons_self | apply List.mem_cons_of_mem))) (k := 0) (n := n0) rfl)) ?_
  try go_simp
  refine planB_read (v := .int .i64 1) rfl rfl (fun u hS => by go_simp) ?_
  try go_simp
  refine planB_read (v := .int .i64 1) rfl rfl (fun u hS => by go_simp) ?_
  try go_simp
  refine planB_read (v := .pointer (some ⟨g, 24, none⟩)) rfl rfl (fun u hS => exec_ixa u (k := 1) (.tmp 2) (.tmp 30) (by decide) rfl rfl rfl) ?_
  try go_simp
  refine planB_read (v := .pointer (some ⟨g, 32, none⟩)) rfl rfl (fun u hS => exec_ixn u (b := 24) (k := 1) (.tmp 32) (.tmp 31) (by decide) rfl rfl rfl) ?_
  try go_simp
  refine planB_read (v := .agg (cells8 n4)) rfl rfl (fun u hS => exec_ldMid (.tmp 33) rfl rfl (ws_range (hS.e.blk (g := g) (t := 75) (cs := ws [n0, n1, n2, n3, n4, n5, n6, n7, n8]) (by repeat (first | exact List.mem_cons_self | apply List.mem_cons_of_mem))) (k := 4) (n := n4) rfl)) ?_
  try go_simp
  refine planB_call (v := .agg (cells8 P)) (f := 46) (args := #[.agg (cells8 n0), .agg (cells8 n4)]) rfl rfl (fun u hS => by go_simp) (fun u hS => (unhide hP u).mono fun _ _ ⟨he, hb⟩ => ⟨he, hS.keep hb, hb⟩) ?_
  try go_simp
  refine planB_read (v := .int .i64 0) rfl rfl (fun u hS => by go_simp) ?_
  try go_simp
  refine planB_read (v := .int .i64 1) rfl rfl (fun u hS => by go_simp) ?_
  try go_simp
  refine planB_read (v := .pointer (some ⟨g, 0, none⟩)) rfl rfl (fun u hS => exec_ixa u (k := 0) (.tmp 2) (.tmp 36) (by decide) rfl rfl rfl) ?_
  try go_simp
  refine planB_read (v := .pointer (some ⟨g, 8, none⟩)) rfl rfl (fun u hS => exec_ixn u (b := 0) (k := 1) (.tmp 38) (.tmp 37) (by decide) rfl rfl rfl) ?_
  try go_simp
  refine planB_read (v := .agg (cells8 n1)) rfl rfl (fun u hS => exec_ldMid (.tmp 39) rfl rfl (ws_range (hS.e.blk (g := g) (t := 75) (cs := ws [n0, n1, n2, n3, n4, n5, n6, n7, n8]) (by repeat (first | exact List.mem_cons_self | apply List.mem_cons_of_mem))) (k := 1) (n := n1) rfl)) ?_
  try go_simp
  refine planB_read (v := .int .i64 1) rfl rfl (fun u hS => by go_simp) ?_
  try go_simp
  refine planB_read (v := .int .i64 0) rfl rfl (fun u hS => by go_simp) ?_
  try go_simp
  refine planB_read (v := .pointer (some ⟨g, 24, none⟩)) rfl rfl (fun u hS => exec_ixa u (k := 1) (.tmp 2) (.tmp 41) (by decide) rfl rfl rfl) ?_
  try go_simp
  refine planB_read (v := .pointer (some ⟨g, 24, none⟩)) rfl rfl (fun u hS => exec_ixn u (b := 24) (k := 0) (.tmp 43) (.tmp 42) (by decide) rfl rfl rfl) ?_
  try go_simp
  refine planB_read (v := .agg (cells8 n3)) rfl rfl (fun u hS => exec_ldMid (.tmp 44) rfl rfl (ws_range (hS.e.blk (g := g) (t := 75) (cs := ws [n0, n1, n2, n3, n4, n5, n6, n7, n8]) (by repeat (first | exact List.mem_cons_self | apply List.mem_cons_of_mem))) (k := 3) (n := n3) rfl)) ?_
  try go_simp
  refine planB_call (v := .agg (cells8 R)) (f := 46) (args := #[.agg (cells8 n1), .agg (cells8 n3)]) rfl rfl (fun u hS => by go_simp) (fun u hS => (unhide hR u).mono fun _ _ ⟨he, hb⟩ => ⟨he, hS.keep hb, hb⟩) ?_
  try go_simp
  refine planB_call (v := .tuple #[.agg (cells8 M), .bool E]) (f := 45) (args := #[.agg (cells8 P), .agg (cells8 R)]) rfl rfl (fun u hS => by go_simp) (fun u hS => (unhide hM u).mono fun _ _ ⟨he, hb⟩ => ⟨he, hS.keep hb, hb⟩) ?_
  try go_simp
  refine planB_read (v := .tuple #[.agg (cells8 M), .bool E]) rfl rfl (fun u hS => by go_simp) ?_
  try go_simp
  refine planB_read (v := .agg (cells8 M)) rfl rfl (fun u hS => by go_simp) ?_
  try go_simp
  refine planB_lazy rfl (fun u => by go_simp) rfl rfl (fun c u hS hB hI2 => ?_)
  have hB7 := hB 26 (by simp)
  clear hB hI2
  simp only [pa, dstOf]
  generalize c 26 = c7 at hB7 ⊢
  have D := hide (hS.e.fillZ (cs := cells8 M) (unhide hlt) (unhide hw0) hB7.1 hB7.2)
  refine ⟨_, exec_store8 (n := M) 54 (.tmp 10) (.tmp 48) hB7.1 rfl rfl rfl rfl iWide, ?_⟩
  clear hS hB7 hlt hw0
  generalize u.setRow c7 (cells8 M) = u1 at D ⊢
  simp only [opsOf]
  go_simp
  go_wp2_with (first | (with_reducible refine at_list ?_; apply ldG (unhide D) rWide _ rfl rfl rfl (by repeat (first | exact List.mem_cons_self | apply List.mem_cons_of_mem)) rfl) | (with_reducible refine at_list ?_; apply stGend (unhide D) rWide _ _ rfl rfl rfl rfl (by repeat (first | exact List.mem_cons_self | apply List.mem_cons_of_mem)) (by omega) rfl rfl (cells8_one _); intro B O))
  exact resG rWide (unhide B) rfl rfl rfl rfl ⟨rfl, unhide O⟩

end Go.Proofs.YtcbepibdeokboaaGreat

namespace Go.Proofs.YtcbepibdeokboaaGreat
open Go.RowKit
set_option maxRecDepth 4000
set_option linter.unusedVariables false
attribute [local go_sem] Oper.semAt_some

end Go.Proofs.YtcbepibdeokboaaGreat

namespace Go.Proofs.YtcbepibdeokboaaGreat
open Go.RowKit
set_option maxRecDepth 4000
set_option linter.unusedVariables false
attribute [local go_sem] Oper.semAt_some

theorem rAll : Rw 75 72 := ⟨⟨_, Tryz.underlying75, rfl⟩, by kernel_rfl⟩
theorem resT1 {P : Program} {fn : Func} {p : Tmp} {tmps : Array Value} {w : World} {v : Value} (h : fn.results = #[.tmp p]) (hp : tmps.getD p undef = v) : (results fn tmps).run P w = .ok v w := by
  have hp' : tmps[p]?.getD undef = v := by simpa using hp
  simp [results, h, hp']
set_option maxRecDepth 100000 in
set_option maxHeartbeats 4000000 in
theorem minors_core (X : Nat → Int) (f : Nat → Nat) (w : World) (hF : Hid (∀ k, k < 3 → Ans 30 #[.agg (v3 (X (k * 3)) (X (k * 3 + 1)) (X (k * 3 + 2)))] (.agg (ws [f (k * 3), f (k * 3 + 1), f (k * 3 + 2)])))) :
    Calls Tryz.prog 25 #[.agg (m9 X)] w fun e w' => ∃ g, e = .returned (.func (Fn.func 44) #[] #[ptr g]) ∧ Blk w' g 75 (ws9 f) ∧ w.heap.size ≤ g ∧ Below w.heap.size w w' := by
  refine (callsIn_wide (n := 5)).1 (callsIn_of_wp_marks Tryz.func25 rfl trivial (wpIn_wide.2 ?_) rfl)
  simp only [Tryz.ntmps25, List.size_toArray, List.length_cons, List.length_nil, Nat.reduceAdd, Nat.reduceSub, Array.replicate_succ, Array.replicate_zero, List.push_toArray, List.append_toArray, List.nil_append, List.cons_append]
  go_upto_region 2 with fail
  have D := hide (((Gen.start w).push 27 (m9 X)).push 75 (Tryz.zeroCells75))
  simp only [szA] at D
  go_wp2_with (first | (with_reducible refine at_list ?_; apply ldG (unhide D) rMat _ rfl rfl rfl (by repeat (first | exact List.mem_cons_self | apply List.mem_cons_of_mem)) rfl) | (go_at_call 14; with_reducible refine (rows_core X _).mono ?_; rintro e w1 ⟨he, hb1, hb⟩; subst he; have D := hide ((unhide D).keep hb); have B1 := hide hb1; clear hb hb1))
  rename_i Q' K k D0
  clear D0
  simp only [szA] at B1
  have hs1 : w.heap.size + 1 + 1 < w1.heap.size := (unhide B1).lt
  refine (wpIn_wide (n := 5)).1 ?_
  refine wpIn_rangeFunc_ownH rfl (by decide) (gf := 35) (lb := #[ptr (w.heap.size + 1 + 1)]) rfl trivial (enters_of Tryz.func35 (by kernel_rfl) rfl)
    (rows_stops X (w.heap.size + 1 + 1) w1 B1 (KeepsG []) 4) keepsG_t (keepsG_b (by simp)) (Below.refl _ _) (fun _ => rfl)
    (fun pre W => Gen w [(w.heap.size + 1, 75, ws9 (pn f pre)), (w.heap.size, 27, m9 X)] W)
    (fun _ _ _ => False)
    (fun s A B row h hg hr => gen_own (f := fun pre => _) (by omega) s A B row h hg hr)
    (fun _ _ _ _ _ h _ _ => h.elim)
    (by
      have e : ws9 (pn f []) = Tryz.zeroCells75 := by kernel_rfl
      rw [e]
      exact (unhide D).sub (by
      intro p hp
      simp only [List.mem_cons, List.not_mem_nil, or_false] at hp ⊢
      rcases hp with rfl | rfl
      · exact .inl rfl
      · exact .inr (rfl)))
    (fun k a' W => ∃ b, Blk W b 24 (v3 (X (k.1 * 3)) (X (k.1 * 3 + 1)) (X (k.1 * 3 + 2))) ∧ a' = { tmps := #[.agg (m9 X), ptr w.heap.size, .nilFunc, ptr (w.heap.size + 1), .int .i64 k.1, ptr b, .agg (m9 X), .func (Fn.func 35) #[] #[ptr (w.heap.size + 1 + 1)], .int .i64 k.1, .agg (v3 (X (k.1 * 3)) (X (k.1 * 3 + 1)) (X (k.1 * 3 + 2))), undef, undef, undef, undef, undef], defers := [] })
    (fun k a' _ A B row ⟨b, h1, h3⟩ hg hr => ⟨b, h1.turned hg (fun r e => (hr r e).2), h3⟩)
    ?assign ?body ?done ?stop
  case assign =>
    rintro l pre p W K hi hK
    clear D B1
    have D := hide (Gen.start W)
    refine wpIn_seq (round_region rfl (fun ⟨_, _, h⟩ => h) ?_)
    go_wp2
    refine round_region rfl (fun ⟨_, _, h⟩ => h) ?_
    go_wp2_with (first | (with_reducible refine at_list ?_; refine stG (unhide D) rVec _ _ rfl rfl rfl rfl rfl rfl (v3_one _ _ _) ?_; intro D'; have D := hide D'; clear D'))
    have hb := (unhide D).o
    exact hK _ _ (Below.keepsFrom hb) (keepsG_below hb) (hi.keep hb) ⟨_, (unhide D).blk (by repeat (first | exact List.mem_cons_self | apply List.mem_cons_of_mem)), rfl⟩
  case body =>
    rintro l pre p a' W _ _ hi ⟨b, hb, rfl⟩ _
    clear D B1
    have D := hide ((hi.more hb).since (Gen.start W))
    have hpk := p.2
    have Fk := hide (unhide hF p.1 p.2)
    refine wpIn_block (round_region rfl (fun ⟨_, _, h⟩ => h) ?_)
    go_wp2_with (first | (with_reducible refine at_list ?_; apply ldG (unhide D) rVec _ rfl rfl rfl (by repeat (first | exact List.mem_cons_self | apply List.mem_cons_of_mem)) rfl) | (go_at_call 30; with_reducible refine (unhide Fk _).mono ?_; rintro e w' ⟨he, hb⟩; subst he; have D := hide ((unhide D).keep hb); clear hb) | (with_reducible refine at_list ?_;  refine wpList_value rfl (exec_ixa _ (.tmp 3) (.tmp 10) hpk rfl rfl rfl) ?_) | (with_reducible refine at_one ?_))
    unfold Stop
    have hW := (unhide D).o
    have D2 := hi.keep hW
    refine wpList_of_wp rfl (wp_store_mid 57 (.tmp 13) (.tmp 12) rfl (w.heap.size + 1) (p.1 * 24) (ws [f (p.1 * 3), f (p.1 * 3 + 1), f (p.1 * 3 + 2)]) rfl rfl (there_of (D2.blk (g := w.heap.size + 1) (cs := ws9 (pn f pre)) (by repeat (first | exact List.mem_cons_self | apply List.mem_cons_of_mem))) (by rw [show (ws9 (pn f pre)).size = 72 from ws_size _, ws_size]; simp only [List.length_cons, List.length_nil]; omega)) rMNum.i (ws_one _) ?_)
    go_simp
    exact ⟨(Below.keepsFrom hW).trans (keepsFrom_cells _ _ _), keepsG_t (keepsG_below hW) (keepsG_cells (by simp) _ _ _), D2.setN p (by omega) (by
      intro q hq
      simp only [List.mem_cons, List.not_mem_nil, or_false] at hq
      subst hq; simp)⟩
  case done =>
    rintro Df xs W hD rfl hI hK
    clear D B1
    refine k _ _ ?_
    have hd := hide hD
    have hk := hide hK
    clear hD hK
    have e : ws9 (pn f (up3 3)) = ws9 f := by kernel_rfl
    rw [e] at hI
    have D := hide hI
    refine (wp_seq (wp_region_lit ?_))
    go_wp2
    have hK := unhide hk
    have h3 := unhide D
    refine ⟨by simp, .inl ⟨_, _, rfl, run_takeDeferred hK, ?_⟩⟩
    have h4 : Gen w _ (W.putObj Df (.deferred none)) := gen_own (f := fun (_ : Unit) => _) (B := w1.heap.size) (by omega) () W _ _ h3 (grownBy_putObj' _ _ _) (fun r e => by cases e; exact ⟨unhide hd, _, hK, rfl⟩)
    exact ⟨_, resT1 rfl rfl, w.heap.size + 1, rfl, h4.blk (by repeat (first | exact List.mem_cons_self | apply List.mem_cons_of_mem)), by omega, h4.o⟩
  case stop =>
    rintro Df c pre W hD hp hF hK
    exact hF.elim

end Go.Proofs.YtcbepibdeokboaaGreat

namespace Go.Proofs.YtcbepibdeokboaaGreat
open Go.RowKit
set_option maxRecDepth 4000
set_option linter.unusedVariables false

theorem mcolumn_core (g j m0 m1 m2 : Nat) (c : Array Value) (w : World) (hB : Blk w g 75 c) (h0 : Hid (∀ u, Blk u g 75 c → Calls Tryz.prog 44 #[.int .i64 0, .int .i64 j, ptr g] u fun e w' => e = .returned (.agg (cells8 m0)) ∧ Below u.heap.size u w')) (h1 : Hid (∀ u, Blk u g 75 c → Calls Tryz.prog 44 #[.int .i64 1, .int .i64 j, ptr g] u fun e w' => e = .returned (.agg (cells8 m1)) ∧ Below u.heap.size u w')) (h2 : Hid (∀ u, Blk u g 75 c → Calls Tryz.prog 44 #[.int .i64 2, .int .i64 j, ptr g] u fun e w' => e = .returned (.agg (cells8 m2)) ∧ Below u.heap.size u w')) :
    Calls Tryz.prog 27 #[.func (Fn.func 44) #[] #[ptr g], .int .i64 j] w fun e w' => e = .returned (.agg (ws [m0, m1, m2])) ∧ Below w.heap.size w w' := by
  have D := hide (Gen.one hB)
  clear hB
  go_enter Tryz.func27, Tryz.ntmps27
  go_upto_region 1 with fail
  have D := hide ((unhide D).push 57 z24m)
  generalize w.alloc (.cells z24m 57) = w1 at D ⊢
  refine list_start (S := Gen w _) (unhide D) ?_
  clear D
  refine list_read (v := ?_) rfl rfl (fun u hS => by go_simp; rfl) ?_
  try go_simp
  refine list_read (v := ?_) rfl rfl (fun u hS => by go_simp; rfl) ?_
  try go_simp
  refine list_call (v := .agg (cells8 m0)) (f := 44) (args := #[.int .i64 0, .int .i64 j, ptr g]) rfl rfl (fun u hS => by go_simp) (fun u hS => (unhide h0 u (hS.blk (g := g) (t := 75) (cs := c) (by repeat (first | exact List.mem_cons_self | apply List.mem_cons_of_mem)))).mono fun _ _ ⟨he, hb⟩ => ⟨he, hS.keep hb⟩) ?_
  try go_simp
  refine list_read (v := ?_) rfl rfl (fun u hS => by go_simp; rfl) ?_
  try go_simp
  refine list_read (v := ?_) rfl rfl (fun u hS => by go_simp; rfl) ?_
  try go_simp
  refine list_call (v := .agg (cells8 m1)) (f := 44) (args := #[.int .i64 1, .int .i64 j, ptr g]) rfl rfl (fun u hS => by go_simp) (fun u hS => (unhide h1 u (hS.blk (g := g) (t := 75) (cs := c) (by repeat (first | exact List.mem_cons_self | apply List.mem_cons_of_mem)))).mono fun _ _ ⟨he, hb⟩ => ⟨he, hS.keep hb⟩) ?_
  try go_simp
  refine list_read (v := ?_) rfl rfl (fun u hS => by go_simp; rfl) ?_
  try go_simp
  refine list_read (v := ?_) rfl rfl (fun u hS => by go_simp; rfl) ?_
  try go_simp
  refine list_call (v := .agg (cells8 m2)) (f := 44) (args := #[.int .i64 2, .int .i64 j, ptr g]) rfl rfl (fun u hS => by go_simp) (fun u hS => (unhide h2 u (hS.blk (g := g) (t := 75) (cs := c) (by repeat (first | exact List.mem_cons_self | apply List.mem_cons_of_mem)))).mono fun _ _ ⟨he, hb⟩ => ⟨he, hS.keep hb⟩) ?_
  try go_simp
  refine list_read (v := .agg (ws [m0, m1, m2])) rfl rfl (fun u hS => exec_build3 _ 57 (.tmp 7) (.tmp 10) (.tmp 13) rfl rfl rfl rfl (bMNum m0 m1 m2)) ?_
  intro u hS
  have B0 := hide (hS.blk (g := w.heap.size) (t := 57) (cs := z24m) (by repeat (first | exact List.mem_cons_self | apply List.mem_cons_of_mem)))
  refine wpList_store_row rfl 57 (.tmp 4) (.tmp 14) rfl _ (ws [m0, m1, m2]) rfl rfl 57 z24m (unhide B0) rMNum.i rfl (ws_one _) ?_
  have B := hide ((unhide B0).row (ws [m0, m1, m2]))
  have O := hide (below_row hS.o (show w.heap.size ≤ w.heap.size by omega) (ws [m0, m1, m2]))
  clear hS B0
  go_wp2
  exact resG rMNum (unhide B) rfl rfl rfl rfl ⟨rfl, unhide O⟩
theorem mdet_core (X : Nat → Int) (g m0 m1 m2 r : Nat) (L : List Nat) (c : Array Value) (w : World) (hB : Blk w g 75 c) (hR : Hid (Ans 30 #[.agg (v3 (X 0) (X 1) (X 2))] (.agg (ws L)))) (h0 : Hid (∀ u, Blk u g 75 c → Calls Tryz.prog 44 #[.int .i64 0, .int .i64 0, ptr g] u fun e w' => e = .returned (.agg (cells8 m0)) ∧ Below u.heap.size u w')) (h1 : Hid (∀ u, Blk u g 75 c → Calls Tryz.prog 44 #[.int .i64 0, .int .i64 1, ptr g] u fun e w' => e = .returned (.agg (cells8 m1)) ∧ Below u.heap.size u w')) (h2 : Hid (∀ u, Blk u g 75 c → Calls Tryz.prog 44 #[.int .i64 0, .int .i64 2, ptr g] u fun e w' => e = .returned (.agg (cells8 m2)) ∧ Below u.heap.size u w')) (hS0 : Hid (Ans 29 #[.agg (ws L), .agg (ws [m0, m1, m2])] (.agg (cells8 r)))) :
    Calls Tryz.prog 26 #[.agg (m9 X), .func (Fn.func 44) #[] #[ptr g]] w fun e w' => e = .returned (.agg (cells8 r)) ∧ Below w.heap.size w w' := by
  have D := hide (Gen.one hB)
  clear hB
  go_enter Tryz.func26, Tryz.ntmps26
  go_upto_region 1 with fail
  have D := hide (((unhide D).push 27 (m9 X)).push 54 z8)
  simp only [szA] at D
  generalize (w.alloc (.cells (m9 X) 27)).alloc (.cells z8 54) = w1 at D ⊢
  refine list_start (S := Gen w _) (unhide D) ?_
  clear D
  refine list_read (v := .pointer (some ⟨w.heap.size, 0, none⟩)) rfl rfl (fun u hS => by go_simp) ?_
  try go_simp
  refine list_read (v := .pointer (some ⟨w.heap.size, 0, none⟩)) rfl rfl (fun u hS => exec_ix3 u (k := 0) (.tmp 5) (.const (.int .i64 0)) (by decide) rfl rfl rfl) ?_
  try go_simp
  refine list_read (v := .agg (v3 (X 0) (X 1) (X 2))) rfl rfl (fun u hS => exec_ldRow (k := 0) (.tmp 6) rfl rfl (hS.blk (g := w.heap.size) (t := 27) (cs := m9 X) (by repeat (first | exact List.mem_cons_self | apply List.mem_cons_of_mem))) (by decide)) ?_
  try go_simp
  refine list_call (v := .agg (ws L)) (f := 30) (args := #[.agg (v3 (X 0) (X 1) (X 2))]) rfl rfl (fun u hS => by go_simp) (fun u hS => (unhide hR u).mono fun _ _ ⟨he, hb⟩ => ⟨he, hS.keep hb⟩) ?_
  try go_simp
  refine list_read (v := ?_) rfl rfl (fun u hS => by go_simp; rfl) ?_
  try go_simp
  refine list_call (v := .agg (cells8 m0)) (f := 44) (args := #[.int .i64 0, .int .i64 0, ptr g]) rfl rfl (fun u hS => by go_simp) (fun u hS => (unhide h0 u (hS.blk (g := g) (t := 75) (cs := c) (by repeat (first | exact List.mem_cons_self | apply List.mem_cons_of_mem)))).mono fun _ _ ⟨he, hb⟩ => ⟨he, hS.keep hb⟩) ?_
  try go_simp
  refine list_read (v := ?_) rfl rfl (fun u hS => by go_simp; rfl) ?_
  try go_simp
  refine list_call (v := .agg (cells8 m1)) (f := 44) (args := #[.int .i64 0, .int .i64 1, ptr g]) rfl rfl (fun u hS => by go_simp) (fun u hS => (unhide h1 u (hS.blk (g := g) (t := 75) (cs := c) (by repeat (first | exact List.mem_cons_self | apply List.mem_cons_of_mem)))).mono fun _ _ ⟨he, hb⟩ => ⟨he, hS.keep hb⟩) ?_
  try go_simp
  refine list_read (v := ?_) rfl rfl (fun u hS => by go_simp; rfl) ?_
  try go_simp
  refine list_call (v := .agg (cells8 m2)) (f := 44) (args := #[.int .i64 0, .int .i64 2, ptr g]) rfl rfl (fun u hS => by go_simp) (fun u hS => (unhide h2 u (hS.blk (g := g) (t := 75) (cs := c) (by repeat (first | exact List.mem_cons_self | apply List.mem_cons_of_mem)))).mono fun _ _ ⟨he, hb⟩ => ⟨he, hS.keep hb⟩) ?_
  try go_simp
  refine list_read (v := .agg (ws [m0, m1, m2])) rfl rfl (fun u hS => exec_build3 _ 57 (.tmp 10) (.tmp 12) (.tmp 14) rfl rfl rfl rfl (bMNum m0 m1 m2)) ?_
  try go_simp
  refine list_call (v := .agg (cells8 r)) (f := 29) (args := #[.agg (ws L), .agg (ws [m0, m1, m2])]) rfl rfl (fun u hS => by go_simp) (fun u hS => (unhide hS0 u).mono fun _ _ ⟨he, hb⟩ => ⟨he, hS.keep hb⟩) ?_
  try go_simp
  intro u hS
  have B0 := hide (hS.blk (g := w.heap.size + 1) (t := 54) (cs := z8) (by repeat (first | exact List.mem_cons_self | apply List.mem_cons_of_mem)))
  refine wpList_store_row rfl 54 (.tmp 4) (.tmp 16) rfl _ (cells8 r) rfl rfl 54 z8 (unhide B0) iWide rfl (cells8_one _) ?_
  have B := hide ((unhide B0).row (cells8 r))
  have O := hide (below_row hS.o (show w.heap.size ≤ w.heap.size + 1 by omega) (cells8 r))
  clear hS B0
  go_wp2
  exact resG rWide (unhide B) rfl rfl rfl rfl ⟨rfl, unhide O⟩

/-- The signed determinant of what is left without a row and a column. -/
def mnr (X : Nat → Int) (i j : Nat) : Int := X ((i + 1) % 3 * 3 + (j + 1) % 3) * X ((i + 2) % 3 * 3 + (j + 2) % 3) - X ((i + 1) % 3 * 3 + (j + 2) % 3) * X ((i + 2) % 3 * 3 + (j + 1) % 3)
/-- The exact determinant. -/
def detM (X : Nat → Int) : Int := X 0 * mnr X 0 0 + X 1 * mnr X 0 1 + X 2 * mnr X 0 2
theorem mnr_sz {X : Nat → Int} (hX : ∀ j, I64 (X j)) (i j : Nat) : Sz 127 (mnr X i j) := by
  unfold mnr
  have a := ((hX ((i + 1) % 3 * 3 + (j + 1) % 3)).sz.mul (hX ((i + 2) % 3 * 3 + (j + 2) % 3)).sz)
  have b := ((hX ((i + 1) % 3 * 3 + (j + 2) % 3)).sz.mul (hX ((i + 2) % 3 * 3 + (j + 1) % 3)).sz)
  exact a.sub b
theorem detM_sz {X : Nat → Int} (hX : ∀ j, I64 (X j)) : Sz 192 (detM X) := by
  unfold detM
  have a := (hX 0).sz.mul (mnr_sz hX 0 0)
  have b := (hX 1).sz.mul (mnr_sz hX 0 1)
  have c := (hX 2).sz.mul (mnr_sz hX 0 2)
  exact (a.add b).add (c.mono (by decide))
theorem sub_told {j : Nat} (x y : Int) (hx : Sz j x) (hy : Sz j y) (h : j + 1 ≤ 510) : Ans 45 #[V x, V y] (.tuple #[V (x - y), .bool true]) := fun u => by
  have t := SubZ x y (hx.fit (by omega)) (hy.fit (by omega)) u
  rw [toldZ_fit ((hx.sub hy).fit (by omega))] at t
  exact t
abbrev ex9 (X : Nat → Int) : Array Value := ws9 fun j => enc (X j)
theorem MinorZ {X : Nat → Int} (hX : ∀ j, I64 (X j)) (g : Nat) {i j : Nat} (hi : i < 3) (hj : j < 3) (u : World) (hB : Blk u g 75 (ex9 X)) :
    Calls Tryz.prog 44 #[.int .i64 i, .int .i64 j, ptr g] u fun e w' => e = .returned (V (mnr X i j)) ∧ Below u.heap.size u w' := by
  have t : ∀ a b, Ans 46 #[V (X a), V (X b)] (V (X a * X b)) := fun a b => MTimesZ (X a) (X b) (hX a).sz (hX b).sz (by decide)
  have s : ∀ a b c d, Ans 45 #[V (X a * X b), V (X c * X d)] (.tuple #[V (X a * X b - X c * X d), .bool true]) := fun a b c d => sub_told _ _ ((hX a).sz.mul (hX b).sz) ((hX c).sz.mul (hX d).sz) (by decide)
  rcases (show i = 0 ∨ i = 1 ∨ i = 2 by omega) with rfl | rfl | rfl <;> rcases (show j = 0 ∨ j = 1 ∨ j = 2 by omega) with rfl | rfl | rfl
  · exact minor_00 _ _ _ _ _ _ _ _ _ _ _ _ true g u hB (t 4 8) (t 5 7) (s 4 8 5 7)
  · exact minor_01 _ _ _ _ _ _ _ _ _ _ _ _ true g u hB (t 5 6) (t 3 8) (s 5 6 3 8)
  · exact minor_02 _ _ _ _ _ _ _ _ _ _ _ _ true g u hB (t 3 7) (t 4 6) (s 3 7 4 6)
  · exact minor_10 _ _ _ _ _ _ _ _ _ _ _ _ true g u hB (t 7 2) (t 8 1) (s 7 2 8 1)
  · exact minor_11 _ _ _ _ _ _ _ _ _ _ _ _ true g u hB (t 8 0) (t 6 2) (s 8 0 6 2)
  · exact minor_12 _ _ _ _ _ _ _ _ _ _ _ _ true g u hB (t 6 1) (t 7 0) (s 6 1 7 0)
  · exact minor_20 _ _ _ _ _ _ _ _ _ _ _ _ true g u hB (t 1 5) (t 2 4) (s 1 5 2 4)
  · exact minor_21 _ _ _ _ _ _ _ _ _ _ _ _ true g u hB (t 2 3) (t 0 5) (s 2 3 0 5)
  · exact minor_22 _ _ _ _ _ _ _ _ _ _ _ _ true g u hB (t 0 4) (t 1 3) (s 0 4 1 3)
theorem MinorsZ {X : Nat → Int} (hX : ∀ j, I64 (X j)) (w : World) : Calls Tryz.prog 25 #[.agg (m9 X)] w fun e w' => ∃ g, e = .returned (.func (Fn.func 44) #[] #[ptr g]) ∧ Blk w' g 75 (ex9 X) ∧ w.heap.size ≤ g ∧ Below w.heap.size w w' :=
  minors_core X (fun j => enc (X j)) w (fun k _ => MRawZ _ _ _ (hX _) (hX _) (hX _))
theorem MColumnZ {X : Nat → Int} (hX : ∀ j, I64 (X j)) (g : Nat) {j : Nat} (hj : j < 3) (u : World) (hB : Blk u g 75 (ex9 X)) :
    Calls Tryz.prog 27 #[.func (Fn.func 44) #[] #[ptr g], .int .i64 j] u fun e w' => e = .returned (.agg (ws [enc (mnr X 0 j), enc (mnr X 1 j), enc (mnr X 2 j)])) ∧ Below u.heap.size u w' :=
  mcolumn_core g j _ _ _ _ u hB (fun u hB => MinorZ hX g (i := 0) (by decide) hj u hB) (fun u hB => MinorZ hX g (i := 1) (by decide) hj u hB) (fun u hB => MinorZ hX g (i := 2) (by decide) hj u hB)
theorem DeterminantZ {X : Nat → Int} (hX : ∀ j, I64 (X j)) (g : Nat) (u : World) (hB : Blk u g 75 (ex9 X)) :
    Calls Tryz.prog 26 #[.agg (m9 X), .func (Fn.func 44) #[] #[ptr g]] u fun e w' => e = .returned (V (detM X)) ∧ Below u.heap.size u w' :=
  mdet_core X g _ _ _ _ _ _ u hB (MRawZ _ _ _ (hX _) (hX _) (hX _)) (fun u hB => MinorZ hX g (i := 0) (j := 0) (by decide) (by decide) u hB) (fun u hB => MinorZ hX g (i := 0) (j := 1) (by decide) (by decide) u hB) (fun u hB => MinorZ hX g (i := 0) (j := 2) (by decide) (by decide) u hB)
    (MSumZ _ _ _ _ _ _ (hX 0).sz (hX 1).sz (hX 2).sz (mnr_sz hX 0 0) (mnr_sz hX 0 1) (mnr_sz hX 0 2) (by decide))
theorem det_walk (X : Nat → Int) (v : Int) (r : Nat) (c : Array Value) (w : World) (hM : Hid (∀ u : World, Calls Tryz.prog 25 #[.agg (m9 X)] u fun e w' => ∃ g, e = .returned (.func (Fn.func 44) #[] #[ptr g]) ∧ Blk w' g 75 c ∧ u.heap.size ≤ g ∧ Below u.heap.size u w'))
    (hD : Hid (∀ g u, Blk u g 75 c → Calls Tryz.prog 26 #[.agg (m9 X), .func (Fn.func 44) #[] #[ptr g]] u fun e w' => e = .returned (.agg (cells8 r)) ∧ Below u.heap.size u w')) (hI : Hid (Ans 43 #[.agg (cells8 r), .int .i64 96] (.int .i64 v))) :
    Calls Tryz.prog 22 #[.agg (m9 X)] w fun e w' => e = .returned (.int .i64 v) ∧ Below w.heap.size w w' := by
  go_enter Tryz.func22, Tryz.ntmps22
  go_upto_region 1 with fail
  have D := hide ((Gen.start w).push 27 (m9 X))
  refine region_walk (S := Gen w _) (l := [0, 1, 2, 3, 4, 5]) (t := [2, 3, 4]) (by kernel_rfl) (by kernel_rfl) (by kernel_rfl) (by kernel_rfl) (by kernel_rfl) (by kernel_rfl) (by kernel_rfl) (by kernel_rfl) (unhide D).drew ?_
  have D0 := (unhide D).drew
  clear D
  refine walk_read (v := .agg (m9 X)) rfl rfl rfl (fun u hS => exec_ldG hS rMat _ rfl rfl (by repeat (first | exact List.mem_cons_self | apply List.mem_cons_of_mem)) rfl) ?_
  go_simp
  refine walk_read (v := .agg (m9 X)) rfl rfl rfl (fun u hS => exec_ldG hS rMat _ rfl rfl (by repeat (first | exact List.mem_cons_self | apply List.mem_cons_of_mem)) rfl) ?_
  go_simp
  refine walk_call (f := 25) (args := #[.agg (m9 X)]) rfl rfl rfl (by go_simp) ?_
  refine (unhide hM _).mono fun e w1 ⟨g, he, hb1, _, hb⟩ => ?_
  have D1 := D0.keep hb
  refine ⟨_, he, D1, ?_⟩
  clear hb he D0
  go_simp
  refine walk_call (f := 26) (args := #[.agg (m9 X), .func (Fn.func 44) #[] #[ptr g]]) rfl rfl rfl (by go_simp) ?_
  refine (unhide hD g _ hb1).mono fun e w2 ⟨he, hb⟩ => ?_
  have D2 := D1.keep hb
  refine ⟨_, he, D2, ?_⟩
  clear hb he D1 hb1
  go_simp
  refine walk_call (f := 43) (args := #[.agg (cells8 r), .int .i64 96]) rfl rfl rfl (by go_simp) ?_
  refine (unhide hI _).mono fun e w3 ⟨he, hb⟩ => ?_
  have D3 := D2.keep hb
  refine ⟨_, he, D3, ?_⟩
  clear hb he D2
  go_simp
  refine walk_read (v := .int .i64 v) rfl rfl rfl (fun u hS => by go_simp) ?_
  go_simp
  refine walk_end ?_
  have O := hide D3.o
  clear D3
  go_wp2
  go_ret
  exact ⟨rfl, unhide O⟩
/-- The determinant, brought in. -/
def detI (X : Nat → Int) : Int := cl (detM X / 18446744073709551616)
theorem DetZ {X : Nat → Int} (hX : ∀ j, I64 (X j)) : Ans 22 #[.agg (m9 X)] (.int .i64 (detI X)) := fun w =>
  det_walk X _ _ _ w (fun u => MinorsZ hX u) (fun g u hB => DeterminantZ hX g u hB) (InZ _ 96 ((detM_sz hX).fit (by decide)) ⟨by decide, by decide⟩)

/-- A diagonal. -/
def dg (x y z : Int) (j : Nat) : Int := if j = 0 then x else if j = 4 then y else if j = 8 then z else 0
theorem bDia (x y z : Int) : Tryz.prog.built 25 [(0, .agg (v3 x 0 0)), (1, .agg (v3 0 y 0)), (2, .agg (v3 0 0 z))] = some (m9 (dg x y z)) := by kernel_rfl
theorem diag_core (x y z : Int) (w : World) :
    Calls Tryz.prog 21 #[.agg (v3 x y z)] w fun e w' => e = .returned (.agg (m9 (dg x y z))) ∧ Below w.heap.size w w' := by
  go_enter Tryz.func21, Tryz.ntmps21
  go_upto_region 1 with fail
  have D := hide (((Gen.start w).push 24 (v3 x y z)).push 27 zM)
  simp only [szA] at D
  go_wp2_with (first | (with_reducible refine at_list ?_; apply ldF (unhide D) _ rfl rfl rfl (by repeat (first | exact List.mem_cons_self | apply List.mem_cons_of_mem)) rfl))
  have E := ((Gen.start w).push 24 (v3 x y z)).push 27 (m9 (dg x y z))
  simp only [szA] at E
  exact resG rMat (E.blk (g := w.heap.size + 1) (t := 27) (cs := m9 (dg x y z)) (by repeat (first | exact List.mem_cons_self | apply List.mem_cons_of_mem))) rfl rfl rfl rfl ⟨rfl, E.o⟩
theorem one_core (w : World) :
    Calls Tryz.prog 24 #[] w fun e w' => e = .returned (.agg (m9 (dg 4294967296 4294967296 4294967296))) ∧ Below w.heap.size w w' := by
  have hD := hide (diag_core 4294967296 4294967296 4294967296)
  go_enter Tryz.func24, Tryz.ntmps24
  go_upto_region 1 with fail
  have D := hide ((Gen.start w).push 27 zM)
  go_wp2_with (first | (go_at_call 21; with_reducible refine (unhide hD _).mono ?_; rintro e w' ⟨he, hb⟩; subst he; have D := hide ((unhide D).keep hb); clear hb) | (with_reducible refine at_list ?_; apply stGend (unhide D) rMat _ _ rfl rfl rfl rfl (by repeat (first | exact List.mem_cons_self | apply List.mem_cons_of_mem)) (by omega) rfl rfl (m9_one _); intro B O))
  exact resG rMat (unhide B) rfl rfl rfl rfl ⟨rfl, unhide O⟩

end Go.Proofs.YtcbepibdeokboaaGreat

namespace Go.Proofs.YtcbepibdeokboaaGreat
open Go.RowKit
set_option maxRecDepth 4000
set_option linter.unusedVariables false

theorem zV_one : (v3 0 0 0).all (·.oneCell') = true := v3_one 0 0 0
set_option maxHeartbeats 2000000 in
theorem solve_none (X : Nat → Int) (x y z : Int) (r : Nat) (c : Array Value) (w : World) (hM : Hid (∀ u : World, Calls Tryz.prog 25 #[.agg (m9 X)] u fun e w' => ∃ g, e = .returned (.func (Fn.func 44) #[] #[ptr g]) ∧ Blk w' g 75 c ∧ u.heap.size ≤ g ∧ Below u.heap.size u w'))
    (hD : Hid (∀ g u, Blk u g 75 c → Calls Tryz.prog 26 #[.agg (m9 X), .func (Fn.func 44) #[] #[ptr g]] u fun e w' => e = .returned (.agg (cells8 r)) ∧ Below u.heap.size u w')) (h0 : same r 0 = true) :
    Calls Tryz.prog 12 #[.agg (m9 X), .agg (v3 x y z)] w fun e w' => e = .returned (.tuple #[.agg (v3 0 0 0), .bool false]) ∧ Below w.heap.size w w' := by
  go_enter Tryz.func12, Tryz.ntmps12
  go_upto_region 1 with fail
  have D := hide ((((Gen.start w).push 27 (m9 X)).push 24 (v3 x y z)).push 24 (v3 0 0 0))
  simp only [szA] at D
  go_upto_region 2 with (first | (with_reducible refine at_list ?_; apply ldG (unhide D) rMat _ rfl rfl rfl (by repeat (first | exact List.mem_cons_self | apply List.mem_cons_of_mem)) rfl) | (go_at_call 25; with_reducible refine (unhide hM _).mono ?_; rintro e w1 ⟨g, he, hb1, hgs, hb⟩; subst he; have D := hide (((unhide D).keep hb).more hb1); clear hb hb1))
  go_upto_region 3 with (first | (with_reducible refine at_list ?_; apply ldG (unhide D) rMat _ rfl rfl rfl (by repeat (first | exact List.mem_cons_self | apply List.mem_cons_of_mem)) rfl) | (go_at_call 26; have B0 := (unhide D).blk (g := g) (t := 75) (cs := c) (by repeat (first | exact List.mem_cons_self | apply List.mem_cons_of_mem)); with_reducible refine (unhide hD g _ B0).mono ?_; clear B0; rintro e w2 ⟨he, hb⟩; subst he; have D := hide ((unhide D).keep hb); clear hb) | (with_reducible refine at_list ?_; refine stG (unhide D) rWide _ _ rfl rfl rfl rfl rfl rfl (cells8_one _) ?_; intro D'; have D := hide D'; clear D'))
  go_wp2_with (first | (with_reducible refine at_list ?_; apply ldG (unhide D) rWide _ rfl rfl rfl (by repeat (first | exact List.mem_cons_self | apply List.mem_cons_of_mem)) rfl) | (with_reducible refine at_list ?_;  refine bd0 54 rfl rfl bWide0 ?_) | (with_reducible refine at_list ?_; refine eqlE h0 _ _ rfl rfl rfl rfl ?_) | (with_reducible refine at_list ?_; apply stGend (unhide D) rVec _ _ rfl rfl rfl rfl (by repeat (first | exact List.mem_cons_self | apply List.mem_cons_of_mem)) (by omega) rfl rfl (zV_one); intro B O))
  exact resGT rVec (unhide B) rfl rfl rfl rfl rfl ⟨rfl, unhide O⟩
set_option maxHeartbeats 2000000 in
theorem inverse_none (X : Nat → Int) (r : Nat) (c : Array Value) (w : World) (hM : Hid (∀ u : World, Calls Tryz.prog 25 #[.agg (m9 X)] u fun e w' => ∃ g, e = .returned (.func (Fn.func 44) #[] #[ptr g]) ∧ Blk w' g 75 c ∧ u.heap.size ≤ g ∧ Below u.heap.size u w'))
    (hD : Hid (∀ g u, Blk u g 75 c → Calls Tryz.prog 26 #[.agg (m9 X), .func (Fn.func 44) #[] #[ptr g]] u fun e w' => e = .returned (.agg (cells8 r)) ∧ Below u.heap.size u w')) (h0 : same r 0 = true) :
    Calls Tryz.prog 10 #[.agg (m9 X)] w fun e w' => e = .returned (.tuple #[.agg zM, .bool false]) ∧ Below w.heap.size w w' := by
  go_enter Tryz.func10, Tryz.ntmps10
  go_upto_region 1 with fail
  have D := hide (((Gen.start w).push 27 (m9 X)).push 27 zM)
  simp only [szA] at D
  go_upto_region 2 with (first | (with_reducible refine at_list ?_; apply ldG (unhide D) rMat _ rfl rfl rfl (by repeat (first | exact List.mem_cons_self | apply List.mem_cons_of_mem)) rfl) | (go_at_call 25; with_reducible refine (unhide hM _).mono ?_; rintro e w1 ⟨g, he, hb1, hgs, hb⟩; subst he; have D := hide (((unhide D).keep hb).more hb1); clear hb hb1))
  go_upto_region 3 with (first | (with_reducible refine at_list ?_; apply ldG (unhide D) rMat _ rfl rfl rfl (by repeat (first | exact List.mem_cons_self | apply List.mem_cons_of_mem)) rfl) | (go_at_call 26; have B0 := (unhide D).blk (g := g) (t := 75) (cs := c) (by repeat (first | exact List.mem_cons_self | apply List.mem_cons_of_mem)); with_reducible refine (unhide hD g _ B0).mono ?_; clear B0; rintro e w2 ⟨he, hb⟩; subst he; have D := hide ((unhide D).keep hb); clear hb) | (with_reducible refine at_list ?_; refine stG (unhide D) rWide _ _ rfl rfl rfl rfl rfl rfl (cells8_one _) ?_; intro D'; have D := hide D'; clear D'))
  go_wp2_with (first | (with_reducible refine at_list ?_; apply ldG (unhide D) rWide _ rfl rfl rfl (by repeat (first | exact List.mem_cons_self | apply List.mem_cons_of_mem)) rfl) | (with_reducible refine at_list ?_;  refine bd0 54 rfl rfl bWide0 ?_) | (with_reducible refine at_list ?_; refine eqlE h0 _ _ rfl rfl rfl rfl ?_) | (with_reducible refine at_list ?_; apply stGend (unhide D) rMat _ _ rfl rfl rfl rfl (by repeat (first | exact List.mem_cons_self | apply List.mem_cons_of_mem)) (by omega) rfl rfl (m9_one (fun _ => 0)); intro B O))
  exact resGT rMat (unhide B) rfl rfl rfl rfl rfl ⟨rfl, unhide O⟩

set_option maxHeartbeats 8000000 in
theorem solve_core (X f : Nat → Int) (x y z : Int) (r : Nat) (L : List Nat) (mc : Nat → Nat → Nat) (s : Nat → Nat) (c : Array Value) (w : World) (hM : Hid (∀ u : World, Calls Tryz.prog 25 #[.agg (m9 X)] u fun e w' => ∃ g, e = .returned (.func (Fn.func 44) #[] #[ptr g]) ∧ Blk w' g 75 c ∧ u.heap.size ≤ g ∧ Below u.heap.size u w'))
    (hD : Hid (∀ g u, Blk u g 75 c → Calls Tryz.prog 26 #[.agg (m9 X), .func (Fn.func 44) #[] #[ptr g]] u fun e w' => e = .returned (.agg (cells8 r)) ∧ Below u.heap.size u w')) (h0 : same r 0 = false)
    (hC : Hid (∀ g, ∀ k : Nat, k < 3 → ∀ u, Blk u g 75 c → Calls Tryz.prog 27 #[.func (Fn.func 44) #[] #[ptr g], .int .i64 k] u fun e w' => e = .returned (.agg (ws [mc k 0, mc k 1, mc k 2])) ∧ Below u.heap.size u w')) (hR : Hid (Ans 30 #[.agg (v3 x y z)] (.agg (ws L))))
    (hS0 : Hid (∀ k, k < 3 → Ans 29 #[.agg (ws [mc k 0, mc k 1, mc k 2]), .agg (ws L)] (.agg (cells8 (s k))))) (hQ : Hid (∀ k, k < 3 → Ans 28 #[.agg (cells8 (s k)), .agg (cells8 r), .int .i64 32] (.int .i64 (f k)))) (hV : Hid (∀ a b c, Ans 16 #[.agg (v3 a b c)] (.agg (v3 a b c)))) :
    Calls Tryz.prog 12 #[.agg (m9 X), .agg (v3 x y z)] w fun e w' => e = .returned (.tuple #[.agg (l3 f), .bool true]) ∧ Below w.heap.size w w' := by
  go_enter Tryz.func12, Tryz.ntmps12
  go_upto_region 1 with fail
  have D := hide ((((Gen.start w).push 27 (m9 X)).push 24 (v3 x y z)).push 24 (v3 0 0 0))
  simp only [szA] at D
  go_upto_region 2 with (first | (with_reducible refine at_list ?_; apply ldG (unhide D) rMat _ rfl rfl rfl (by repeat (first | exact List.mem_cons_self | apply List.mem_cons_of_mem)) rfl) | (go_at_call 25; with_reducible refine (unhide hM _).mono ?_; rintro e w1 ⟨g, he, hb1, hgs, hb⟩; subst he; have D := hide (((unhide D).keep hb).more hb1); clear hb hb1))
  go_upto_region 3 with (first | (with_reducible refine at_list ?_; apply ldG (unhide D) rMat _ rfl rfl rfl (by repeat (first | exact List.mem_cons_self | apply List.mem_cons_of_mem)) rfl) | (go_at_call 26; have B0 := (unhide D).blk (g := g) (t := 75) (cs := c) (by repeat (first | exact List.mem_cons_self | apply List.mem_cons_of_mem)); with_reducible refine (unhide hD g _ B0).mono ?_; clear B0; rintro e w2 ⟨he, hb⟩; subst he; have D := hide ((unhide D).keep hb); clear hb) | (with_reducible refine at_list ?_; refine stG (unhide D) rWide _ _ rfl rfl rfl rfl rfl rfl (cells8_one _) ?_; intro D'; have D := hide D'; clear D'))
  go_upto_region 5 with (first | (with_reducible refine at_list ?_; apply ldG (unhide D) rWide _ rfl rfl rfl (by repeat (first | exact List.mem_cons_self | apply List.mem_cons_of_mem)) rfl) | (with_reducible refine at_list ?_;  refine bd0 54 rfl rfl bWide0 ?_) | (with_reducible refine at_list ?_; refine eqlE h0 _ _ rfl rfl rfl rfl ?_))
  have hl8 := hide (fun p hp => Nat.ne_of_lt ((unhide D).at_ p hp).lt)
  have hw8 := hide (unhide D).o.size
  have D := hide ((unhide D).push 38 (v3 0 0 0))
  simp only [szA] at D hl8 hw8
  go_upto_region 6 with fail
  generalize hg1 : ((w2.alloc (.cells (cells8 r) 54)).alloc (.cells (v3 0 0 0) 38)) = w8 at D ⊢
  clear hg1
  generalize w2.heap.size = g7 at *
  clear hM hD hgs
  go_wp2_with fail
  go_loopw [19] (fun i wr => ∃ k : Nat, k ≤ 3 ∧ i = .int .i64 k ∧ Hid (Gen w [(g7 + 1, 38, l3 (pl f (up3 k))), (g7, 54, cells8 r), (g, 75, c), (w.heap.size + 1 + 1, 24, v3 0 0 0), (w.heap.size + 1, 24, v3 x y z), (w.heap.size, 27, m9 X)] wr)) (fun i _ => 3 - (intOf i).toNat)
  case atStart => exact ⟨0, by omega, rfl, D⟩
  case round =>
    obtain ⟨k, hk, rfl, hD⟩ := hrel
    by_cases hkn : k < 3
    · have hg : (k : Int) < 3 := by omega
      have Ck := hide (unhide hC g k hkn)
      have Sk := hide (unhide hS0 k hkn)
      have Qk := hide (unhide hQ k hkn)
      clear hC hS0 hQ D
      have D := hD
      clear hD
      go_upto_region 9 with fail
      refine region_last (S := Gen w _) (f := 10) (l := [0, 1, 2, 3, 4, 5, 6, 7, 8, 9]) (by kernel_rfl) (by kernel_rfl) (by kernel_rfl) (by kernel_rfl) (by kernel_rfl) (by kernel_rfl) (by kernel_rfl) (by kernel_rfl) (by kernel_rfl) (by kernel_rfl) rfl rfl (unhide D).drew ?_
      clear D
      refine plan_read (v := .int .i64 k) rfl rfl (fun u hS => by go_simp) ?_
      go_simp
      refine plan_read (v := .func (Fn.func 44) #[] #[ptr g]) rfl rfl (fun u hS => by go_simp) ?_
      go_simp
      refine plan_read (v := .int .i64 k) rfl rfl (fun u hS => by go_simp) ?_
      go_simp
      refine plan_call (v := .agg (ws [mc k 0, mc k 1, mc k 2])) (f := 27) (args := #[.func (Fn.func 44) #[] #[ptr g], .int .i64 k]) rfl rfl (fun u hS => by go_simp) (fun u hS => (unhide Ck u (hS.blk (g := g) (t := 75) (cs := c) (by repeat (first | exact List.mem_cons_self | apply List.mem_cons_of_mem)))).mono fun _ _ ⟨he, hb⟩ => ⟨he, hS.keep hb⟩) ?_
      go_simp
      refine plan_read (v := .agg (v3 x y z)) rfl rfl (fun u hS => exec_loadG hS rVec _ rfl rfl (by repeat (first | exact List.mem_cons_self | apply List.mem_cons_of_mem)) rfl) ?_
      go_simp
      refine plan_call (v := .agg (ws L)) (f := 30) (args := #[.agg (v3 x y z)]) rfl rfl (fun u hS => by go_simp) (fun u hS => (unhide hR u).mono fun _ _ ⟨he, hb⟩ => ⟨he, hS.keep hb⟩) ?_
      go_simp
      refine plan_call (v := .agg (cells8 (s k))) (f := 29) (args := #[.agg (ws [mc k 0, mc k 1, mc k 2]), .agg (ws L)]) rfl rfl (fun u hS => by go_simp) (fun u hS => (unhide Sk u).mono fun _ _ ⟨he, hb⟩ => ⟨he, hS.keep hb⟩) ?_
      go_simp
      refine plan_read (v := .agg (cells8 r)) rfl rfl (fun u hS => exec_loadG hS rWide _ rfl rfl (by repeat (first | exact List.mem_cons_self | apply List.mem_cons_of_mem)) rfl) ?_
      go_simp
      refine plan_call (v := .int .i64 (f k)) (f := 28) (args := #[.agg (cells8 (s k)), .agg (cells8 r), .int .i64 32]) rfl rfl (fun u hS => by go_simp) (fun u hS => (unhide Qk u).mono fun _ _ ⟨he, hb⟩ => ⟨he, hS.keep hb⟩) ?_
      go_simp
      refine plan_read (v := .pointer (some ⟨g7 + 1, k, none⟩)) rfl rfl (fun u hS => exec_ixl u (.tmp 8) (.tmp 22) hkn rfl rfl rfl) ?_
      go_simp
      refine plan_last (fun u hS => ?_)
      refine wp_store1 22 (.tmp 31) (.tmp 30) rfl rfl rfl (hS.blk (g := g7 + 1) (cs := l3 (pl f (up3 k))) (by repeat (first | exact List.mem_cons_self | apply List.mem_cons_of_mem))) hkn iFix ?_
      have D := hide (hS.setL ⟨k, hkn⟩ (by have := unhide hw8; omega) (by
        intro p hp
        have := unhide hl8 p hp
        exact this))
      clear hS Ck Sk Qk
      rw [← up3_succ hkn] at D
      generalize u.setCell _ _ = u1 at D ⊢
      go_wp2
      go_roundw
      case rel => exact ⟨k + 1, by omega, by go_num, D⟩
      case measure => simp [intOf]; omega
    · obtain rfl : k = 3 := by omega
      have D := hD
      clear hD hC hS0 hQ
      have e : l3 (pl f (up3 3)) = l3 f := by kernel_rfl
      rw [e] at D
      have V := hide (unhide hV (f 0) (f 1) (f 2))
      go_wp2_with (first | (with_reducible refine at_list ?_; apply ldG (unhide D) rList _ rfl rfl rfl (by repeat (first | exact List.mem_cons_self | apply List.mem_cons_of_mem)) rfl) | (go_at_call 16; with_reducible refine (unhide V _).mono ?_; rintro e w' ⟨he, hb⟩; subst he; have D := hide ((unhide D).keep hb); clear hb) | (with_reducible refine at_list ?_; apply stGend (unhide D) rVec _ _ rfl rfl rfl rfl (by repeat (first | exact List.mem_cons_self | apply List.mem_cons_of_mem)) (by omega) rfl rfl (v3_one _ _ _); intro B O))
      exact resGT rVec (unhide B) rfl rfl rfl rfl rfl ⟨rfl, unhide O⟩

theorem idx_num (mc : Nat → Nat) {k : Nat} (h : k < 3) (u : World) : (Instr.index 57 (.agg (ws [mc 0, mc 1, mc 2])) (.int .i64 k)).run Tryz.prog u = .ok (.agg (cells8 (mc k))) u := by
  rcases (show k = 0 ∨ k = 1 ∨ k = 2 by omega) with rfl | rfl | rfl <;> kernel_rfl
set_option maxHeartbeats 8000000 in
theorem inverse_core (X f : Nat → Int) (r : Nat) (mc : Nat → Nat → Nat) (c : Array Value) (w : World) (hM : Hid (∀ u : World, Calls Tryz.prog 25 #[.agg (m9 X)] u fun e w' => ∃ g, e = .returned (.func (Fn.func 44) #[] #[ptr g]) ∧ Blk w' g 75 c ∧ u.heap.size ≤ g ∧ Below u.heap.size u w'))
    (hD : Hid (∀ g u, Blk u g 75 c → Calls Tryz.prog 26 #[.agg (m9 X), .func (Fn.func 44) #[] #[ptr g]] u fun e w' => e = .returned (.agg (cells8 r)) ∧ Below u.heap.size u w')) (h0 : same r 0 = false)
    (hC : Hid (∀ g, ∀ k : Nat, k < 3 → ∀ u, Blk u g 75 c → Calls Tryz.prog 27 #[.func (Fn.func 44) #[] #[ptr g], .int .i64 k] u fun e w' => e = .returned (.agg (ws [mc k 0, mc k 1, mc k 2])) ∧ Below u.heap.size u w'))
    (hQ : Hid (∀ k, k < 3 → ∀ j, j < 3 → Ans 28 #[.agg (cells8 (mc k j)), .agg (cells8 r), .int .i64 64] (.int .i64 (f (k * 3 + j))))) (hV : Hid (∀ a b c, Ans 16 #[.agg (v3 a b c)] (.agg (v3 a b c)))) :
    Calls Tryz.prog 10 #[.agg (m9 X)] w fun e w' => e = .returned (.tuple #[.agg (m9 (rows9 f 3)), .bool true]) ∧ Below w.heap.size w w' := by
  go_enter Tryz.func10, Tryz.ntmps10
  go_upto_region 1 with fail
  have D := hide (((Gen.start w).push 27 (m9 X)).push 27 zM)
  simp only [szA] at D
  go_upto_region 2 with (first | (with_reducible refine at_list ?_; apply ldG (unhide D) rMat _ rfl rfl rfl (by repeat (first | exact List.mem_cons_self | apply List.mem_cons_of_mem)) rfl) | (go_at_call 25; with_reducible refine (unhide hM _).mono ?_; rintro e w1 ⟨g, he, hb1, hgs, hb⟩; subst he; have D := hide (((unhide D).keep hb).more hb1); clear hb hb1))
  go_upto_region 3 with (first | (with_reducible refine at_list ?_; apply ldG (unhide D) rMat _ rfl rfl rfl (by repeat (first | exact List.mem_cons_self | apply List.mem_cons_of_mem)) rfl) | (go_at_call 26; have B0 := (unhide D).blk (g := g) (t := 75) (cs := c) (by repeat (first | exact List.mem_cons_self | apply List.mem_cons_of_mem)); with_reducible refine (unhide hD g _ B0).mono ?_; clear B0; rintro e w2 ⟨he, hb⟩; subst he; have D := hide ((unhide D).keep hb); clear hb) | (with_reducible refine at_list ?_; refine stG (unhide D) rWide _ _ rfl rfl rfl rfl rfl rfl (cells8_one _) ?_; intro D'; have D := hide D'; clear D'))
  go_upto_region 5 with (first | (with_reducible refine at_list ?_; apply ldG (unhide D) rWide _ rfl rfl rfl (by repeat (first | exact List.mem_cons_self | apply List.mem_cons_of_mem)) rfl) | (with_reducible refine at_list ?_;  refine bd0 54 rfl rfl bWide0 ?_) | (with_reducible refine at_list ?_; refine eqlE h0 _ _ rfl rfl rfl rfl ?_))
  have hl8 := hide (fun p hp => Nat.ne_of_lt ((unhide D).at_ p hp).lt)
  have hw8 := hide (unhide D).o.size
  have D := hide ((unhide D).push 27 zM)
  simp only [szA] at D hl8 hw8
  go_upto_region 6 with fail
  generalize hg1 : ((w2.alloc (.cells (cells8 r) 54)).alloc (.cells zM 27)) = w8 at D ⊢
  clear hg1
  generalize w2.heap.size = g7 at *
  clear hM hD hgs
  go_wp2_with fail
  go_loopw [20] (fun i wr => ∃ k : Nat, k ≤ 3 ∧ i = .int .i64 k ∧ Hid (Gen w [(g7 + 1, 27, m9 (rows9 f k)), (g7, 54, cells8 r), (g, 75, c), (w.heap.size + 1, 27, zM), (w.heap.size, 27, m9 X)] wr)) (fun i _ => 3 - (intOf i).toNat)
  case atStart => exact ⟨0, by omega, rfl, D⟩
  case round =>
    obtain ⟨k, hk, rfl, hD⟩ := hrel
    by_cases hkn : k < 3
    · have hg : (k : Int) < 3 := by omega
      have Ck := hide (unhide hC g k hkn)
      have Qk := hide (unhide hQ k hkn)
      clear hC hQ D
      have D := hD
      clear hD
      go_upto_region 9 with fail
      have hlr := hide (fun p hp => Nat.ne_of_lt ((unhide D).at_ p hp).lt)
      have hwr := hide (unhide D).o.size
      have D := hide ((unhide D).push 38 (v3 0 0 0))
      go_upto_region 10 with fail
      generalize hgl : wr.heap.size = gl at *
      generalize wr.alloc (.cells (v3 0 0 0) 38) = w9 at D ⊢
      go_wp2_with (go_at_call 27; have B0 := (unhide D).blk (g := g) (t := 75) (cs := c) (by repeat (first | exact List.mem_cons_self | apply List.mem_cons_of_mem)); with_reducible refine (unhide Ck _ B0).mono ?_; clear B0; rintro e w10 ⟨he, hb⟩; subst he; have D := hide ((unhide D).keep hb); clear hb)
      clear Ck
      go_loopw [26] (fun i wr2 => ∃ q : Nat, q ≤ 3 ∧ i = .int .i64 q ∧ Hid (Gen w [(gl, 38, l3 (pl (fun j => f (k * 3 + j)) (up3 q))), (g7 + 1, 27, m9 (rows9 f k)), (g7, 54, cells8 r), (g, 75, c), (w.heap.size + 1, 27, zM), (w.heap.size, 27, m9 X)] wr2)) (fun i _ => 3 - (intOf i).toNat)
      case atStart => exact ⟨0, by omega, rfl, D⟩
      case round =>
        obtain ⟨q, hq, rfl, hD⟩ := hrel
        by_cases hqn : q < 3
        · have hg2 : (q : Int) < 3 := by omega
          have Qq := hide (unhide Qk q hqn)
          have Ik := hide (idx_num (mc k) hqn)
          clear Qk D
          have D := hD
          clear hD
          go_upto_region 13 with (first | (with_reducible refine at_list ?_;  refine wpList_value rfl (exec_idxT _ (.tmp 25) (.tmp 26) (unhide Ik _) rfl rfl rfl) ?_) | (with_reducible refine at_list ?_; refine stG (unhide D) rWide _ _ rfl rfl rfl rfl rfl rfl (cells8_one _) ?_; intro D'; have D := hide D'; clear D'))
          clear Ik
          go_wp2_with (first | (with_reducible refine at_list ?_; apply ldG (unhide D) rWide _ rfl rfl rfl (by repeat (first | exact List.mem_cons_self | apply List.mem_cons_of_mem)) rfl) | (go_at_call 28; with_reducible refine (unhide Qq _).mono ?_; rintro e w' ⟨he, hb⟩; subst he; have D := hide ((unhide D).keep hb); clear hb) | (with_reducible refine at_list ?_;  refine wpList_value rfl (exec_ixl _ (.tmp 8) (.tmp 30) hqn rfl rfl rfl) ?_) | (with_reducible refine at_one ?_))
          unfold Stop
          refine wpList_of_wp rfl (wp_store1 22 (.tmp 34) (.tmp 33) rfl rfl rfl ((unhide D).blk (g := gl) (cs := l3 (pl (fun j => f (k * 3 + j)) (up3 q))) (by repeat (first | exact List.mem_cons_self | apply List.mem_cons_of_mem))) hqn iFix ?_)
          have D := hide ((unhide D).tail.setL ⟨q, hqn⟩ (unhide hwr) (fun p hp => unhide hlr p hp))
          clear Qq
          rw [← up3_succ hqn] at D
          generalize World.setCell _ _ _ = u1 at D ⊢
          go_simp
          go_wp2
          go_roundw
          case rel => exact ⟨q + 1, by omega, by go_num, D⟩
          case measure => simp [intOf]; omega
        · obtain rfl : q = 3 := by omega
          have D := hD
          clear hD Qk
          have e : l3 (pl (fun j => f (k * 3 + j)) (up3 3)) = v3 (f (k * 3)) (f (k * 3 + 1)) (f (k * 3 + 2)) := by kernel_rfl
          rw [e] at D
          have V := hide (unhide hV (f (k * 3)) (f (k * 3 + 1)) (f (k * 3 + 2)))
          go_upto_region 15 with fail
          go_wp2_with (first | (with_reducible refine at_list ?_; apply ldG (unhide D) rList _ rfl rfl rfl (by repeat (first | exact List.mem_cons_self | apply List.mem_cons_of_mem)) rfl) | (go_at_call 16; with_reducible refine (unhide V _).mono ?_; rintro e w' ⟨he, hb⟩; subst he; have D := hide ((unhide D).keep hb); clear hb) | (with_reducible refine at_list ?_;  refine wpList_value rfl (exec_ix3 _ (.tmp 39) (.tmp 36) hkn rfl rfl rfl) ?_) | (with_reducible refine at_one ?_))
          unfold Stop
          refine wpList_of_wp rfl (wp_store_mid 24 (.tmp 40) (.tmp 38) rfl (g7 + 1) (k * 3) (v3 (f (k * 3)) (f (k * 3 + 1)) (f (k * 3 + 2))) rfl rfl (m9_there ((unhide D).blk (g := g7 + 1) (t := 27) (cs := m9 (rows9 f k)) (by repeat (first | exact List.mem_cons_self | apply List.mem_cons_of_mem))) hkn) iVec3 (v3_one _ _ _) ?_)
          have D := hide ((unhide D).tail.setM hkn (by have := unhide hw8; omega) (fun p hp => unhide hl8 p hp))
          clear V
          generalize World.setCells _ _ _ _ = u1 at D ⊢
          go_simp
          go_wp2
          go_roundw
          case rel => exact ⟨k + 1, by omega, by go_num, D⟩
          case measure => simp [intOf]; omega
    · obtain rfl : k = 3 := by omega
      have D := hD
      clear hD hC hQ
      go_wp2_with (first | (with_reducible refine at_list ?_; apply ldG (unhide D) rMat _ rfl rfl rfl (by repeat (first | exact List.mem_cons_self | apply List.mem_cons_of_mem)) rfl) | (with_reducible refine at_list ?_; apply stGend (unhide D) rMat _ _ rfl rfl rfl rfl (by repeat (first | exact List.mem_cons_self | apply List.mem_cons_of_mem)) (by omega) rfl rfl (m9_one _); intro B O))
      exact resGT rMat (unhide B) rfl rfl rfl rfl rfl ⟨rfl, unhide O⟩

end Go.Proofs.YtcbepibdeokboaaGreat
