/- Package shape's laws: awake; reaches in numbers; ShapeHalves. -/
import Derived.Test.YtnemedgdhojhdaaGreatIe
namespace Go.Proofs.YtnemedgdhojhdaaGreat
open Go.RowKit
set_option maxRecDepth 4000
set_option linter.unusedVariables false

theorem sameV_selfI (x y z : Int) : sameV x y z x y z = true := by simp [sameV]
set_option maxHeartbeats 4000000 in
theorem awake9_core (w : World) (h0 : Hid (∀ u, Below w.heap.size w u → Calls Tryz.prog 20 #[.agg (sh 2 4294967296 0 0 8589934592 none 0 0)] u fun e w' => e = .returned (.tuple #[.agg (v3 4294967296 4294967296 12884901888), .int .i64 0]) ∧ Below u.heap.size u w')) (h1 : Hid (∀ u, Below w.heap.size w u → Calls Tryz.prog 22 #[.agg (sh 3 0 4294967296 8589934592 8589934592 none 0 0)] u fun e w' => e = .returned (.tuple #[.int .i64 12884901888, .int .i64 0]) ∧ Below u.heap.size u w')) (e0 : Hid (sameV 4294967296 4294967296 12884901888 4294967296 4294967296 12884901888 = true)) (h2 : Hid (∀ u, Below w.heap.size w u → Calls Tryz.prog 17 #[.agg (sh 3 0 0 4294967296 4294967296 none 0 0)] u fun e w' => e = .returned (.int .i64 2) ∧ Below u.heap.size u w')) : Calls Tryz.prog 13 #[] w fun e w' => e = .returned (.bool true) ∧ Below w.heap.size w w' := by
  go_enter Tryz.func13, Tryz.ntmps13
  go_upto_region 1 with fail
  have D := hide ((Gd.start w))
  refine list_start (S := Gd w []) (unhide D) ?_
  clear D
  refine list_read (v := .agg (v3 0 0 8589934592)) rfl rfl (fun u hS => by go_simp) ?_
  try go_simp
  refine list_read (v := .agg (sh 2 4294967296 0 0 8589934592 none 0 0)) rfl rfl (fun u hS => by go_simp) ?_
  try go_simp
  refine list_call (v := .tuple #[.agg (v3 4294967296 4294967296 12884901888), .int .i64 0]) (f := 20) (args := #[.agg (sh 2 4294967296 0 0 8589934592 none 0 0)]) rfl rfl (fun u hS => by go_simp) (fun u hS => (unhide h0 u hS.g.o).mono fun _ _ ⟨he, hb⟩ => ⟨he, hS.keep hb⟩) ?_
  try go_simp
  refine list_read (v := .tuple #[.agg (v3 4294967296 4294967296 12884901888), .int .i64 0]) rfl rfl (fun u hS => by go_simp) ?_
  try go_simp
  refine list_read (v := .agg (v3 4294967296 4294967296 12884901888)) rfl rfl (fun u hS => by go_simp) ?_
  try go_simp
  refine list_read (v := .int .i64 0) rfl rfl (fun u hS => by go_simp) ?_
  try go_simp
  refine list_new (z := v3 0 0 0) (ty := 24) (v := fun g => .pointer (some ⟨g, 0, none⟩)) rfl rfl (fun u => by go_simp) (fun g1 hgg1 => ?_)
  try go_simp
  refine list_store (l1 := []) (l2 := []) (l' := [(g1, 24, v3 4294967296 4294967296 12884901888)]) (g := g1) (old := v3 0 0 0) (cs := v3 4294967296 4294967296 12884901888) (.tmp 1) (.tmp 9) rfl rfl rfl rfl rfl rfl rVec rfl rfl (v3_one _ _ _) hgg1 ?_
  try go_simp
  refine list_read (v := .int .i64 0) rfl rfl (fun u hS => by go_simp) ?_
  try go_simp
  refine list_end (fun u1 hS => ?_)
  have D := hide hS
  clear hS
  go_upto_region 2 with fail
  refine list_start (S := Gd w [(g1, 24, v3 4294967296 4294967296 12884901888)]) (unhide D) ?_
  clear D
  refine list_read (v := .agg (v3 4294967296 8589934592 8589934592)) rfl rfl (fun u hS => by go_simp) ?_
  try go_simp
  refine list_read (v := .agg (sh 3 0 4294967296 8589934592 8589934592 none 0 0)) rfl rfl (fun u hS => by go_simp) ?_
  try go_simp
  refine list_call (v := .tuple #[.int .i64 12884901888, .int .i64 0]) (f := 22) (args := #[.agg (sh 3 0 4294967296 8589934592 8589934592 none 0 0)]) rfl rfl (fun u hS => by go_simp) (fun u hS => (unhide h1 u hS.g.o).mono fun _ _ ⟨he, hb⟩ => ⟨he, hS.keep hb⟩) ?_
  try go_simp
  refine list_read (v := .tuple #[.int .i64 12884901888, .int .i64 0]) rfl rfl (fun u hS => by go_simp) ?_
  try go_simp
  refine list_read (v := .int .i64 12884901888) rfl rfl (fun u hS => by go_simp) ?_
  try go_simp
  refine list_read (v := .int .i64 0) rfl rfl (fun u hS => by go_simp) ?_
  try go_simp
  refine list_read (v := .int .i64 12884901888) rfl rfl (fun u hS => by go_simp) ?_
  try go_simp
  refine list_read (v := .int .i64 0) rfl rfl (fun u hS => by go_simp) ?_
  try go_simp
  refine list_end (fun u2 hS => ?_)
  have D := hide hS
  clear hS
  go_upto_region 3 with fail
  refine list_start (S := Gd w [(g1, 24, v3 4294967296 4294967296 12884901888)]) (unhide D) ?_
  clear D
  refine list_read (v := .int .i64 0) rfl rfl (fun u hS => by go_simp) ?_
  try go_simp
  refine list_read (v := .bool true) rfl rfl (fun u hS => by go_simp) ?_
  try go_simp
  refine list_read (v := .bool true) rfl rfl (fun u hS => by go_simp) ?_
  try go_simp
  refine list_read (v := .agg (v3 4294967296 4294967296 12884901888)) rfl rfl (fun u hS => exec_loadG (g := g1) (t := 24) (cs := v3 4294967296 4294967296 12884901888) hS.g rVec _ rfl rfl (by repeat (first | exact List.mem_cons_self | apply List.mem_cons_of_mem)) rfl) ?_
  try go_simp
  refine list_read (v := .agg (v3 4294967296 4294967296 12884901888)) rfl rfl (fun u hS => by go_simp) ?_
  try go_simp
  refine list_read (v := .bool true) rfl rfl (fun u hS => exec_eql_vec (s := true) _ _ _ (unhide e0) rfl rfl rfl) ?_
  try go_simp
  refine list_read (v := .bool true) rfl rfl (fun u hS => by go_simp) ?_
  try go_simp
  refine list_read (v := .bool true) rfl rfl (fun u hS => by go_simp) ?_
  try go_simp
  refine list_read (v := .int .i64 0) rfl rfl (fun u hS => by go_simp) ?_
  try go_simp
  refine list_read (v := .bool true) rfl rfl (fun u hS => by go_simp) ?_
  try go_simp
  refine list_read (v := .bool true) rfl rfl (fun u hS => by go_simp) ?_
  try go_simp
  refine list_read (v := .bool true) rfl rfl (fun u hS => by go_simp) ?_
  try go_simp
  refine list_read (v := .int .i64 12884901888) rfl rfl (fun u hS => by go_simp) ?_
  try go_simp
  refine list_read (v := .bool true) rfl rfl (fun u hS => by go_simp) ?_
  try go_simp
  refine list_read (v := .bool true) rfl rfl (fun u hS => by go_simp) ?_
  try go_simp
  refine list_read (v := .bool true) rfl rfl (fun u hS => by go_simp) ?_
  try go_simp
  refine list_read (v := .agg (v3 0 4294967296 4294967296)) rfl rfl (fun u hS => by go_simp) ?_
  try go_simp
  refine list_read (v := .agg (sh 3 0 0 4294967296 4294967296 none 0 0)) rfl rfl (fun u hS => by go_simp) ?_
  try go_simp
  refine list_call (v := .int .i64 2) (f := 17) (args := #[.agg (sh 3 0 0 4294967296 4294967296 none 0 0)]) rfl rfl (fun u hS => by go_simp) (fun u hS => (unhide h2 u hS.g.o).mono fun _ _ ⟨he, hb⟩ => ⟨he, hS.keep hb⟩) ?_
  try go_simp
  refine list_read (v := .bool true) rfl rfl (fun u hS => by go_simp) ?_
  try go_simp
  refine list_read (v := .bool true) rfl rfl (fun u hS => by go_simp) ?_
  try go_simp
  refine list_read (v := .bool true) rfl rfl (fun u hS => by go_simp) ?_
  try go_simp
  refine list_end (fun u3 hS => ?_)
  have D := hide hS
  clear hS
  go_wp2
  go_ret
  exact ⟨rfl, (unhide D).g.o⟩
/-- A reach of a point in numbers. -/
theorem lu_facts {x y z : Int} (hx : inM x) (hy : inM y) (hz : inM z) : 0 ≤ upR (sqr x y z) 1 ∧ upR (sqr x y z) 1 ≤ 549755813888 ∧ asI x ≤ upR (sqr x y z) 1 ∧ asI y ≤ upR (sqr x y z) 1 ∧ asI z ≤ upR (sqr x y z) 1 := by
  obtain ⟨x0, x1, _, _, x2⟩ := asI_M hx
  obtain ⟨y0, y1, _, _, y2⟩ := asI_M hy
  obtain ⟨z0, z1, _, _, z2⟩ := asI_M hz
  have qx : asI x * asI x = x * x := by rcases x2 with h | h <;> rw [h] <;> grind
  have qy : asI y * asI y = y * y := by rcases y2 with h | h <;> rw [h] <;> grind
  have qz : asI z * asI z = z * z := by rcases z2 with h | h <;> rw [h] <;> grind
  have hs : sqr x y z = asI x * asI x + asI y * asI y + asI z * asI z := by unfold sqr; rw [qx, qy, qz]
  have bx : asI x * asI x ≤ 274877906944 * 274877906944 := Int.mul_le_mul x1 x1 x0 (by decide)
  have b_y : asI y * asI y ≤ 274877906944 * 274877906944 := Int.mul_le_mul y1 y1 y0 (by decide)
  have bz : asI z * asI z ≤ 274877906944 * 274877906944 := Int.mul_le_mul z1 z1 z0 (by decide)
  have nx := Int.mul_nonneg x0 x0
  have ny := Int.mul_nonneg y0 y0
  have nz := Int.mul_nonneg z0 z0
  have hn : 0 ≤ sqr x y z := by rw [hs]; omega
  have hu : upc (sqr x y z) 1 ≤ 549755813888 := upc_le hn (by decide) (by rw [hs]; omega)
  have h0 := upc_nn (sqr x y z) 1
  obtain ⟨hq, _⟩ := upc_spec hn (show (0 : Int) < 1 by decide)
  rw [Int.mul_one] at hq
  have e : upR (sqr x y z) 1 = upc (sqr x y z) 1 := by rw [upR_1]; exact cl_self ⟨by omega, by omega⟩
  rw [e]
  exact ⟨h0, hu, le_of_sq h0 (by omega), le_of_sq h0 (by omega), le_of_sq h0 (by omega)⟩
theorem reach3 : upR (sqr (-4294967296) (-8589934592) (-8589934592)) 1 = 12884901888 := by
  have hn : (0 : Int) ≤ sqr (-4294967296) (-8589934592) (-8589934592) := by decide
  have h1 : upc (sqr (-4294967296) (-8589934592) (-8589934592)) 1 ≤ 12884901888 := upc_le hn (by decide) (by decide)
  obtain ⟨hq, _⟩ := upc_spec hn (show (0 : Int) < 1 by decide)
  have h0 := upc_nn (sqr (-4294967296) (-8589934592) (-8589934592)) 1
  rw [upR_1]
  generalize upc (sqr (-4294967296) (-8589934592) (-8589934592)) 1 = u at *
  have e2 : sqr (-4294967296) (-8589934592) (-8589934592) = 12884901888 * 12884901888 := by decide
  rw [e2, Int.mul_one] at hq
  have h2 : 12884901888 ≤ u := le_of_sq h0 hq
  rw [show u = 12884901888 by omega]
  decide
/-- The halves and the reach of a shape that may be, in numbers. -/
theorem ha_facts {kd rr x y z : Int} {n : Nat} {ps : Nat → Pt} (hr : I64 rr) (hx : I64 x) (hy : I64 y) (hz : I64 z) (hI : pI64 n ps) (h0 : chE kd rr x y z n ps = 0) :
    (0 ≤ rr ∧ rr ≤ 274877906944) ∧ haX kd rr x y z n ps = mostR (szX (coP kd x y z ps)) (coN kd n) + rr ∧ haY kd rr x y z n ps = mostR (szY (coP kd x y z ps)) (coN kd n) + rr ∧ haZ kd rr x y z n ps = mostR (szZ (coP kd x y z ps)) (coN kd n) + rr ∧ reI kd rr x y z n ps = rr + mostR (luP (coP kd x y z ps)) (coN kd n) ∧
    (0 ≤ mostR (szX (coP kd x y z ps)) (coN kd n) ∧ mostR (szX (coP kd x y z ps)) (coN kd n) ≤ mostR (luP (coP kd x y z ps)) (coN kd n)) ∧ (0 ≤ mostR (szY (coP kd x y z ps)) (coN kd n) ∧ mostR (szY (coP kd x y z ps)) (coN kd n) ≤ mostR (luP (coP kd x y z ps)) (coN kd n)) ∧
    (0 ≤ mostR (szZ (coP kd x y z ps)) (coN kd n) ∧ mostR (szZ (coP kd x y z ps)) (coN kd n) ≤ mostR (luP (coP kd x y z ps)) (coN kd n)) ∧ mostR (luP (coP kd x y z ps)) (coN kd n) ≤ 549755813888 := by
  have hM := coP_M hr hx hy hz hI h0
  obtain ⟨hh, hnh, _⟩ := chE_fine h0
  obtain ⟨m1, _, _⟩ := (nhB_iff hr hx hy hz hI).1 hnh
  have hr0 : 0 ≤ rr := by
    rcases hdB_kind hh with rfl | rfl | rfl | rfl <;> (unfold hdB at hh; simp at hh; omega)
  have hL := fun i (hi : i < coN kd n) => lu_facts (hM i hi).1 (hM i hi).2.1 (hM i hi).2.2
  have l0 := mostR_nn (luP (coP kd x y z ps)) (coN kd n)
  have l1 := mostR_le (luP (coP kd x y z ps)) (M := 549755813888) (by decide) (coN kd n) (fun i hi => (hL i hi).2.1)
  have lg := mostR_ge (luP (coP kd x y z ps)) (coN kd n)
  have x0 := mostR_nn (szX (coP kd x y z ps)) (coN kd n)
  have y0 := mostR_nn (szY (coP kd x y z ps)) (coN kd n)
  have z0 := mostR_nn (szZ (coP kd x y z ps)) (coN kd n)
  have x1 := mostR_le (szX (coP kd x y z ps)) l0 (coN kd n) (fun i hi => Int.le_trans (hL i hi).2.2.1 (lg i hi))
  have y1 := mostR_le (szY (coP kd x y z ps)) l0 (coN kd n) (fun i hi => Int.le_trans (hL i hi).2.2.2.1 (lg i hi))
  have z1 := mostR_le (szZ (coP kd x y z ps)) l0 (coN kd n) (fun i hi => Int.le_trans (hL i hi).2.2.2.2 (lg i hi))
  have hm := m1.2
  refine ⟨⟨hr0, hm⟩, ?_, ?_, ?_, ?_, ⟨x0, x1⟩, ⟨y0, y1⟩, ⟨z0, z1⟩, l1⟩
  · unfold haX; rw [if_pos h0]; exact cl_self ⟨by omega, by omega⟩
  · unfold haY; rw [if_pos h0]; exact cl_self ⟨by omega, by omega⟩
  · unfold haZ; rw [if_pos h0]; exact cl_self ⟨by omega, by omega⟩
  · unfold reI; rw [if_pos h0]; exact cl_self ⟨by omega, by omega⟩
def p000 : Nat → Pt := fun _ => (0, 0, 0)
theorem awake9Z : Ans 13 #[] (.bool true) := fun w => by
  have i : ∀ z : Int, -100000000000 ≤ z → z ≤ 100000000000 → I64 z := fun z h1 h2 => ⟨by omega, by omega⟩
  have e0 : pI64 0 p000 := fun i hi => absurd hi (Nat.not_lt_zero i)
  have hH := fun u => HalfS 2 4294967296 0 0 8589934592 none 0 0 p000 u (by decide) (i _ (by decide) (by decide)) (i _ (by decide) (by decide)) (i _ (by decide) (by decide)) (i _ (by decide) (by decide)) (.inl rfl) e0
  have hR := fun u => ReachS 3 0 4294967296 8589934592 8589934592 none 0 0 p000 u (by decide) (i _ (by decide) (by decide)) (i _ (by decide) (by decide)) (i _ (by decide) (by decide)) (i _ (by decide) (by decide)) (.inl rfl) e0
  have hC := fun u => CheckS 3 0 0 4294967296 4294967296 none 0 0 p000 u (by decide) (i _ (by decide) (by decide)) (i _ (by decide) (by decide)) (i _ (by decide) (by decide)) (i _ (by decide) (by decide)) (.inl rfl) e0
  rw [show chE 2 4294967296 0 0 8589934592 0 p000 = 0 by kernel_rfl, show haX 2 4294967296 0 0 8589934592 0 p000 = 4294967296 by kernel_rfl, show haY 2 4294967296 0 0 8589934592 0 p000 = 4294967296 by kernel_rfl, show haZ 2 4294967296 0 0 8589934592 0 p000 = 12884901888 by kernel_rfl] at hH
  have eR : chE 3 0 4294967296 8589934592 8589934592 0 p000 = 0 := by kernel_rfl
  have eM : reI 3 0 4294967296 8589934592 8589934592 0 p000 = 12884901888 := by
    unfold reI
    rw [if_pos eR, show coN 3 0 = 8 from rfl]
    have hk : ∀ k, k < 8 → luP (coP 3 4294967296 8589934592 8589934592 p000) k = 12884901888 := fun k hk => by
      rw [← reach3]
      show upR (sqr (boxP 4294967296 8589934592 8589934592 k).1 (boxP 4294967296 8589934592 8589934592 k).2.1 (boxP 4294967296 8589934592 8589934592 k).2.2) 1 = _
      rcases (show k = 0 ∨ k = 1 ∨ k = 2 ∨ k = 3 ∨ k = 4 ∨ k = 5 ∨ k = 6 ∨ k = 7 by omega) with rfl | rfl | rfl | rfl | rfl | rfl | rfl | rfl <;> exact congrArg (fun s => upR s 1) (by decide)
    have l1 := mostR_le (luP (coP 3 4294967296 8589934592 8589934592 p000)) (M := 12884901888) (by decide) 8 (fun i hi => by rw [hk i hi]; exact Int.le_refl _)
    have l2 := mostR_ge (luP (coP 3 4294967296 8589934592 8589934592 p000)) 8 0 (by decide)
    rw [hk 0 (by decide)] at l2
    rw [cl_self ⟨by omega, by omega⟩]
    omega
  rw [eR, eM] at hR
  rw [show chE 3 0 0 4294967296 4294967296 0 p000 = 2 by kernel_rfl] at hC
  exact awake9_core w (fun u _ => hH u) (fun u _ => hR u) (sameV_selfI _ _ _) (fun u _ => hC u)
set_option maxHeartbeats 4000000 in
theorem halves_a (kd rr x y z : Int) (A : Option Addr) (n cp : Nat) (r : Int) (w : World) (e0 : Hid (decide ((100 : Int) < n) = true)) (h0 : Hid (Ans 13 #[] (.bool true))) : Calls Tryz.prog 8 #[.agg (sh kd rr x y z A n cp), .int .i64 r] w fun e w' => e = .returned (.bool true) ∧ Below w.heap.size w w' := by
  go_enter Tryz.func8, Tryz.ntmps8
  go_upto_region 1 with fail
  have D := hide (((Gd.start w).push 27 (sh kd rr x y z A n cp)))
  refine list_start (S := Gd w [(w.heap.size, 27, sh kd rr x y z A n cp)]) (unhide D) ?_
  clear D
  refine list_read (v := .pointer (some ⟨w.heap.size, 5, none⟩)) rfl rfl (fun u hS => by go_simp) ?_
  try go_simp
  refine list_read (v := .slice A n cp) rfl rfl (fun u hS => exec_loadV_Vecs (g := w.heap.size) (t := 27) (cs := sh kd rr x y z A n cp) hS.g _ rfl rfl (by repeat (first | exact List.mem_cons_self | apply List.mem_cons_of_mem)) rfl) ?_
  try go_simp
  refine list_read (v := .int .i64 n) rfl rfl (fun u hS => by go_simp) ?_
  try go_simp
  refine list_read (v := .bool true) rfl rfl (fun u hS => exec_gtrS _ _ (unhide e0) rfl rfl rfl) ?_
  try go_simp
  refine list_read (v := .bool true) rfl rfl (fun u hS => by go_simp) ?_
  try go_simp
  refine list_skip ?_ ?_ ?_
  · rfl
  · rfl
  try go_simp
  refine list_skip ?_ ?_ ?_
  · rfl
  · rfl
  try go_simp
  refine list_read (v := .bool true) rfl rfl (fun u hS => by go_simp) ?_
  try go_simp
  refine list_read (v := .bool true) rfl rfl (fun u hS => by go_simp) ?_
  try go_simp
  refine list_skip ?_ ?_ ?_
  · rfl
  · rfl
  try go_simp
  refine list_skip ?_ ?_ ?_
  · rfl
  · rfl
  try go_simp
  refine list_read (v := .bool true) rfl rfl (fun u hS => by go_simp) ?_
  try go_simp
  refine list_end (fun u1 hS => ?_)
  have D := hide hS
  clear hS
  go_upto_region 2 with fail
  refine list_start (S := Gd w [(w.heap.size, 27, sh kd rr x y z A n cp)]) (unhide D) ?_
  clear D
  refine list_call (v := .bool true) (f := 13) (args := #[]) rfl rfl (fun u hS => by go_simp) (fun u hS => (unhide h0 u).mono fun _ _ ⟨he, hb⟩ => ⟨he, hS.keep hb⟩) ?_
  try go_simp
  refine list_read (v := .bool true) rfl rfl (fun u hS => by go_simp) ?_
  try go_simp
  refine list_end (fun u2 hS => ?_)
  have D := hide hS
  clear hS
  go_wp2
  go_ret
  exact ⟨rfl, (unhide D).g.o⟩
set_option maxHeartbeats 4000000 in
theorem halves_b (kd rr x y z : Int) (A : Option Addr) (n cp : Nat) (r : Int) (w : World) (e0 : Hid (decide ((100 : Int) < n) = false)) (e1 : Hid (decide ((r : Int) < 0) = true)) (h0 : Hid (Ans 13 #[] (.bool true))) : Calls Tryz.prog 8 #[.agg (sh kd rr x y z A n cp), .int .i64 r] w fun e w' => e = .returned (.bool true) ∧ Below w.heap.size w w' := by
  go_enter Tryz.func8, Tryz.ntmps8
  go_upto_region 1 with fail
  have D := hide (((Gd.start w).push 27 (sh kd rr x y z A n cp)))
  refine list_start (S := Gd w [(w.heap.size, 27, sh kd rr x y z A n cp)]) (unhide D) ?_
  clear D
  refine list_read (v := .pointer (some ⟨w.heap.size, 5, none⟩)) rfl rfl (fun u hS => by go_simp) ?_
  try go_simp
  refine list_read (v := .slice A n cp) rfl rfl (fun u hS => exec_loadV_Vecs (g := w.heap.size) (t := 27) (cs := sh kd rr x y z A n cp) hS.g _ rfl rfl (by repeat (first | exact List.mem_cons_self | apply List.mem_cons_of_mem)) rfl) ?_
  try go_simp
  refine list_read (v := .int .i64 n) rfl rfl (fun u hS => by go_simp) ?_
  try go_simp
  refine list_read (v := .bool false) rfl rfl (fun u hS => exec_gtrS _ _ (unhide e0) rfl rfl rfl) ?_
  try go_simp
  refine list_read (v := .bool false) rfl rfl (fun u hS => by go_simp) ?_
  try go_simp
  refine list_read (v := .int .i64 r) rfl rfl (fun u hS => by go_simp) ?_
  try go_simp
  refine list_read (v := .bool true) rfl rfl (fun u hS => exec_lssS _ _ (unhide e1) rfl rfl rfl) ?_
  try go_simp
  refine list_read (v := .bool true) rfl rfl (fun u hS => by go_simp) ?_
  try go_simp
  refine list_read (v := .bool true) rfl rfl (fun u hS => by go_simp) ?_
  try go_simp
  refine list_skip ?_ ?_ ?_
  · rfl
  · rfl
  try go_simp
  refine list_skip ?_ ?_ ?_
  · rfl
  · rfl
  try go_simp
  refine list_read (v := .bool true) rfl rfl (fun u hS => by go_simp) ?_
  try go_simp
  refine list_end (fun u1 hS => ?_)
  have D := hide hS
  clear hS
  go_upto_region 2 with fail
  refine list_start (S := Gd w [(w.heap.size, 27, sh kd rr x y z A n cp)]) (unhide D) ?_
  clear D
  refine list_call (v := .bool true) (f := 13) (args := #[]) rfl rfl (fun u hS => by go_simp) (fun u hS => (unhide h0 u).mono fun _ _ ⟨he, hb⟩ => ⟨he, hS.keep hb⟩) ?_
  try go_simp
  refine list_read (v := .bool true) rfl rfl (fun u hS => by go_simp) ?_
  try go_simp
  refine list_end (fun u2 hS => ?_)
  have D := hide hS
  clear hS
  go_wp2
  go_ret
  exact ⟨rfl, (unhide D).g.o⟩
set_option maxHeartbeats 4000000 in
theorem halves_c (kd rr x y z : Int) (A : Option Addr) (n cp : Nat) (r : Int) (w : World) (e0 : Hid (decide ((100 : Int) < n) = false)) (e1 : Hid (decide ((r : Int) < 0) = false)) (e2 : Hid (decide ((274877906944 : Int) < r) = true)) (h0 : Hid (Ans 13 #[] (.bool true))) : Calls Tryz.prog 8 #[.agg (sh kd rr x y z A n cp), .int .i64 r] w fun e w' => e = .returned (.bool true) ∧ Below w.heap.size w w' := by
  go_enter Tryz.func8, Tryz.ntmps8
  go_upto_region 1 with fail
  have D := hide (((Gd.start w).push 27 (sh kd rr x y z A n cp)))
  refine list_start (S := Gd w [(w.heap.size, 27, sh kd rr x y z A n cp)]) (unhide D) ?_
  clear D
  refine list_read (v := .pointer (some ⟨w.heap.size, 5, none⟩)) rfl rfl (fun u hS => by go_simp) ?_
  try go_simp
  refine list_read (v := .slice A n cp) rfl rfl (fun u hS => exec_loadV_Vecs (g := w.heap.size) (t := 27) (cs := sh kd rr x y z A n cp) hS.g _ rfl rfl (by repeat (first | exact List.mem_cons_self | apply List.mem_cons_of_mem)) rfl) ?_
  try go_simp
  refine list_read (v := .int .i64 n) rfl rfl (fun u hS => by go_simp) ?_
  try go_simp
  refine list_read (v := .bool false) rfl rfl (fun u hS => exec_gtrS _ _ (unhide e0) rfl rfl rfl) ?_
  try go_simp
  refine list_read (v := .bool false) rfl rfl (fun u hS => by go_simp) ?_
  try go_simp
  refine list_read (v := .int .i64 r) rfl rfl (fun u hS => by go_simp) ?_
  try go_simp
  refine list_read (v := .bool false) rfl rfl (fun u hS => exec_lssS _ _ (unhide e1) rfl rfl rfl) ?_
  try go_simp
  refine list_read (v := .bool false) rfl rfl (fun u hS => by go_simp) ?_
  try go_simp
  refine list_read (v := .bool false) rfl rfl (fun u hS => by go_simp) ?_
  try go_simp
  refine list_read (v := .int .i64 r) rfl rfl (fun u hS => by go_simp) ?_
  try go_simp
  refine list_read (v := .bool true) rfl rfl (fun u hS => exec_gtrS _ _ (unhide e2) rfl rfl rfl) ?_
  try go_simp
  refine list_read (v := .bool true) rfl rfl (fun u hS => by go_simp) ?_
  try go_simp
  refine list_end (fun u1 hS => ?_)
  have D := hide hS
  clear hS
  go_upto_region 2 with fail
  refine list_start (S := Gd w [(w.heap.size, 27, sh kd rr x y z A n cp)]) (unhide D) ?_
  clear D
  refine list_call (v := .bool true) (f := 13) (args := #[]) rfl rfl (fun u hS => by go_simp) (fun u hS => (unhide h0 u).mono fun _ _ ⟨he, hb⟩ => ⟨he, hS.keep hb⟩) ?_
  try go_simp
  refine list_read (v := .bool true) rfl rfl (fun u hS => by go_simp) ?_
  try go_simp
  refine list_end (fun u2 hS => ?_)
  have D := hide hS
  clear hS
  go_wp2
  go_ret
  exact ⟨rfl, (unhide D).g.o⟩
set_option maxHeartbeats 4000000 in
theorem halves_d (kd rr x y z : Int) (A : Option Addr) (n cp : Nat) (r : Int) (E : Int) (w : World) (e0 : Hid (decide ((100 : Int) < n) = false)) (e1 : Hid (decide ((r : Int) < 0) = false)) (e2 : Hid (decide ((274877906944 : Int) < r) = false)) (h0 : Hid (∀ u, Below w.heap.size w u → Calls Tryz.prog 20 #[.agg (sh kd rr x y z A n cp)] u fun e w' => e = .returned (.tuple #[.agg (v3 0 0 0), .int .i64 E]) ∧ Below u.heap.size u w')) (h1 : Hid (∀ u, Below w.heap.size w u → Calls Tryz.prog 22 #[.agg (sh kd rr x y z A n cp)] u fun e w' => e = .returned (.tuple #[.int .i64 0, .int .i64 E]) ∧ Below u.heap.size u w')) (e3 : Hid (decide ((E : Int) = 0) = false)) (e4 : Hid (decide ((E : Int) = E) = true)) (h2 : Hid (Ans 13 #[] (.bool true))) : Calls Tryz.prog 8 #[.agg (sh kd rr x y z A n cp), .int .i64 r] w fun e w' => e = .returned (.bool true) ∧ Below w.heap.size w w' := by
  go_enter Tryz.func8, Tryz.ntmps8
  go_upto_region 1 with fail
  have D := hide (((Gd.start w).push 27 (sh kd rr x y z A n cp)))
  refine list_start (S := Gd w [(w.heap.size, 27, sh kd rr x y z A n cp)]) (unhide D) ?_
  clear D
  refine list_read (v := .pointer (some ⟨w.heap.size, 5, none⟩)) rfl rfl (fun u hS => by go_simp) ?_
  try go_simp
  refine list_read (v := .slice A n cp) rfl rfl (fun u hS => exec_loadV_Vecs (g := w.heap.size) (t := 27) (cs := sh kd rr x y z A n cp) hS.g _ rfl rfl (by repeat (first | exact List.mem_cons_self | apply List.mem_cons_of_mem)) rfl) ?_
  try go_simp
  refine list_read (v := .int .i64 n) rfl rfl (fun u hS => by go_simp) ?_
  try go_simp
  refine list_read (v := .bool false) rfl rfl (fun u hS => exec_gtrS _ _ (unhide e0) rfl rfl rfl) ?_
  try go_simp
  refine list_read (v := .bool false) rfl rfl (fun u hS => by go_simp) ?_
  try go_simp
  refine list_read (v := .int .i64 r) rfl rfl (fun u hS => by go_simp) ?_
  try go_simp
  refine list_read (v := .bool false) rfl rfl (fun u hS => exec_lssS _ _ (unhide e1) rfl rfl rfl) ?_
  try go_simp
  refine list_read (v := .bool false) rfl rfl (fun u hS => by go_simp) ?_
  try go_simp
  refine list_read (v := .bool false) rfl rfl (fun u hS => by go_simp) ?_
  try go_simp
  refine list_read (v := .int .i64 r) rfl rfl (fun u hS => by go_simp) ?_
  try go_simp
  refine list_read (v := .bool false) rfl rfl (fun u hS => exec_gtrS _ _ (unhide e2) rfl rfl rfl) ?_
  try go_simp
  refine list_read (v := .bool false) rfl rfl (fun u hS => by go_simp) ?_
  try go_simp
  refine list_end (fun u1 hS => ?_)
  have D := hide hS
  clear hS
  go_upto_region 3 with fail
  refine list_start (S := Gd w [(w.heap.size, 27, sh kd rr x y z A n cp)]) (unhide D) ?_
  clear D
  refine list_read (v := .agg (sh kd rr x y z A n cp)) rfl rfl (fun u hS => exec_loadG (g := w.heap.size) (t := 27) (cs := sh kd rr x y z A n cp) hS.g rShape _ rfl rfl (by repeat (first | exact List.mem_cons_self | apply List.mem_cons_of_mem)) rfl) ?_
  try go_simp
  refine list_call (v := .tuple #[.agg (v3 0 0 0), .int .i64 E]) (f := 20) (args := #[.agg (sh kd rr x y z A n cp)]) rfl rfl (fun u hS => by go_simp) (fun u hS => (unhide h0 u hS.g.o).mono fun _ _ ⟨he, hb⟩ => ⟨he, hS.keep hb⟩) ?_
  try go_simp
  refine list_read (v := .tuple #[.agg (v3 0 0 0), .int .i64 E]) rfl rfl (fun u hS => by go_simp) ?_
  try go_simp
  refine list_read (v := .agg (v3 0 0 0)) rfl rfl (fun u hS => by go_simp) ?_
  try go_simp
  refine list_read (v := .int .i64 E) rfl rfl (fun u hS => by go_simp) ?_
  try go_simp
  refine list_new (z := v3 0 0 0) (ty := 24) (v := fun g => .pointer (some ⟨g, 0, none⟩)) rfl rfl (fun u => by go_simp) (fun g1 hgg1 => ?_)
  try go_simp
  refine list_store (l1 := []) (l2 := [(w.heap.size, 27, sh kd rr x y z A n cp)]) (l' := [(g1, 24, v3 0 0 0), (w.heap.size, 27, sh kd rr x y z A n cp)]) (g := g1) (old := v3 0 0 0) (cs := v3 0 0 0) (.tmp 5) (.tmp 31) rfl rfl rfl rfl rfl rfl rVec rfl rfl (v3_one _ _ _) hgg1 ?_
  try go_simp
  refine list_read (v := .int .i64 E) rfl rfl (fun u hS => by go_simp) ?_
  try go_simp
  refine list_end (fun u3 hS => ?_)
  have D := hide hS
  clear hS
  go_upto_region 4 with fail
  refine list_start (S := Gd w [(g1, 24, v3 0 0 0), (w.heap.size, 27, sh kd rr x y z A n cp)]) (unhide D) ?_
  clear D
  refine list_read (v := .agg (sh kd rr x y z A n cp)) rfl rfl (fun u hS => exec_loadG (g := w.heap.size) (t := 27) (cs := sh kd rr x y z A n cp) hS.g rShape _ rfl rfl (by repeat (first | exact List.mem_cons_self | apply List.mem_cons_of_mem)) rfl) ?_
  try go_simp
  refine list_call (v := .tuple #[.int .i64 0, .int .i64 E]) (f := 22) (args := #[.agg (sh kd rr x y z A n cp)]) rfl rfl (fun u hS => by go_simp) (fun u hS => (unhide h1 u hS.g.o).mono fun _ _ ⟨he, hb⟩ => ⟨he, hS.keep hb⟩) ?_
  try go_simp
  refine list_read (v := .tuple #[.int .i64 0, .int .i64 E]) rfl rfl (fun u hS => by go_simp) ?_
  try go_simp
  refine list_read (v := .int .i64 0) rfl rfl (fun u hS => by go_simp) ?_
  try go_simp
  refine list_read (v := .int .i64 E) rfl rfl (fun u hS => by go_simp) ?_
  try go_simp
  refine list_read (v := .int .i64 0) rfl rfl (fun u hS => by go_simp) ?_
  try go_simp
  refine list_read (v := .int .i64 E) rfl rfl (fun u hS => by go_simp) ?_
  try go_simp
  refine list_end (fun u4 hS => ?_)
  have D := hide hS
  clear hS
  go_upto_region 5 with fail
  refine list_start (S := Gd w [(g1, 24, v3 0 0 0), (w.heap.size, 27, sh kd rr x y z A n cp)]) (unhide D) ?_
  clear D
  refine list_read (v := .int .i64 E) rfl rfl (fun u hS => by go_simp) ?_
  try go_simp
  refine list_read (v := .bool true) rfl rfl (fun u hS => exec_neqS _ _ (unhide e3) rfl rfl rfl) ?_
  try go_simp
  refine list_read (v := .bool true) rfl rfl (fun u hS => by go_simp) ?_
  try go_simp
  refine list_skip ?_ ?_ ?_
  · rfl
  · rfl
  try go_simp
  refine list_skip ?_ ?_ ?_
  · rfl
  · rfl
  try go_simp
  refine list_read (v := .bool true) rfl rfl (fun u hS => by go_simp) ?_
  try go_simp
  refine list_end (fun u5 hS => ?_)
  have D := hide hS
  clear hS
  go_upto_region 6 with fail
  refine list_start (S := Gd w [(g1, 24, v3 0 0 0), (w.heap.size, 27, sh kd rr x y z A n cp)]) (unhide D) ?_
  clear D
  refine list_read (v := .int .i64 E) rfl rfl (fun u hS => by go_simp) ?_
  try go_simp
  refine list_read (v := .int .i64 E) rfl rfl (fun u hS => by go_simp) ?_
  try go_simp
  refine list_read (v := .bool true) rfl rfl (fun u hS => exec_eqlS _ _ (unhide e4) rfl rfl rfl) ?_
  try go_simp
  refine list_read (v := .bool true) rfl rfl (fun u hS => by go_simp) ?_
  try go_simp
  refine list_call (v := .bool true) (f := 13) (args := #[]) rfl rfl (fun u hS => by go_simp) (fun u hS => (unhide h2 u).mono fun _ _ ⟨he, hb⟩ => ⟨he, hS.keep hb⟩) ?_
  try go_simp
  refine list_read (v := .bool true) rfl rfl (fun u hS => by go_simp) ?_
  try go_simp
  refine list_read (v := .bool true) rfl rfl (fun u hS => by go_simp) ?_
  try go_simp
  refine list_end (fun u6 hS => ?_)
  have D := hide hS
  clear hS
  go_wp2
  go_ret
  exact ⟨rfl, (unhide D).g.o⟩
theorem exec_addI {o : Oper} {a : Act} {w : World} {x y v : Int} {ty ty' : TypeId} (p q : Operand) (hb : IntKind.i64.wrap (x + y) = v) (ho : o.op = .binOp .add ty p q ty') (hx : a.eval p = .int .i64 x) (hy : a.eval q = .int .i64 y) : (execOp a.eval o).run Tryz.prog w = .ok (.value (.int .i64 v)) w := by
  subst hb
  unfold execOp
  simp only [ho, hx, hy]
  go_simp
set_option maxHeartbeats 4000000 in
theorem halves_e (kd rr x y z : Int) (A : Option Addr) (n cp : Nat) (r : Int) (p1 p2 p3 tt q E : Int) (w : World) (h_q : Hid (IntKind.i64.wrap (rr + r) = q)) (e0 : Hid (decide ((100 : Int) < n) = false)) (e1 : Hid (decide ((r : Int) < 0) = false)) (e2 : Hid (decide ((274877906944 : Int) < r) = false)) (h1 : Hid (∀ u, Below w.heap.size w u → Calls Tryz.prog 20 #[.agg (sh kd rr x y z A n cp)] u fun e w' => e = .returned (.tuple #[.agg (v3 p1 p2 p3), .int .i64 0]) ∧ Below u.heap.size u w')) (h2 : Hid (∀ u, Below w.heap.size w u → Calls Tryz.prog 22 #[.agg (sh kd rr x y z A n cp)] u fun e w' => e = .returned (.tuple #[.int .i64 tt, .int .i64 0]) ∧ Below u.heap.size u w')) (h3 : Hid (∀ u, Below w.heap.size w u → Calls Tryz.prog 20 #[.agg (sh kd q x y z A n cp)] u fun e w' => e = .returned (.tuple #[.agg (v3 0 0 0), .int .i64 E]) ∧ Below u.heap.size u w')) (h4 : Hid (∀ u, Below w.heap.size w u → Calls Tryz.prog 22 #[.agg (sh kd q x y z A n cp)] u fun e w' => e = .returned (.tuple #[.int .i64 0, .int .i64 E]) ∧ Below u.heap.size u w')) (e3 : Hid (decide ((E : Int) = 0) = false)) (e4 : Hid (decide ((274877906944 : Int) < q) = true)) (h5 : Hid (Ans 13 #[] (.bool true))) : Calls Tryz.prog 8 #[.agg (sh kd rr x y z A n cp), .int .i64 r] w fun e w' => e = .returned (.bool true) ∧ Below w.heap.size w w' := by
  go_enter Tryz.func8, Tryz.ntmps8
  go_upto_region 1 with fail
  have D := hide (((Gd.start w).push 27 (sh kd rr x y z A n cp)))
  refine list_start (S := Gd w [(w.heap.size, 27, sh kd rr x y z A n cp)]) (unhide D) ?_
  clear D
  refine list_read (v := .pointer (some ⟨w.heap.size, 5, none⟩)) rfl rfl (fun u hS => by go_simp) ?_
  try go_simp
  refine list_read (v := .slice A n cp) rfl rfl (fun u hS => exec_loadV_Vecs (g := w.heap.size) (t := 27) (cs := sh kd rr x y z A n cp) hS.g _ rfl rfl (by repeat (first | exact List.mem_cons_self | apply List.mem_cons_of_mem)) rfl) ?_
  try go_simp
  refine list_read (v := .int .i64 n) rfl rfl (fun u hS => by go_simp) ?_
  try go_simp
  refine list_read (v := .bool false) rfl rfl (fun u hS => exec_gtrS _ _ (unhide e0) rfl rfl rfl) ?_
  try go_simp
  refine list_read (v := .bool false) rfl rfl (fun u hS => by go_simp) ?_
  try go_simp
  refine list_read (v := .int .i64 r) rfl rfl (fun u hS => by go_simp) ?_
  try go_simp
  refine list_read (v := .bool false) rfl rfl (fun u hS => exec_lssS _ _ (unhide e1) rfl rfl rfl) ?_
  try go_simp
  refine list_read (v := .bool false) rfl rfl (fun u hS => by go_simp) ?_
  try go_simp
  refine list_read (v := .bool false) rfl rfl (fun u hS => by go_simp) ?_
  try go_simp
  refine list_read (v := .int .i64 r) rfl rfl (fun u hS => by go_simp) ?_
  try go_simp
  refine list_read (v := .bool false) rfl rfl (fun u hS => exec_gtrS _ _ (unhide e2) rfl rfl rfl) ?_
  try go_simp
  refine list_read (v := .bool false) rfl rfl (fun u hS => by go_simp) ?_
  try go_simp
  refine list_end (fun u1 hS => ?_)
  have D := hide hS
  clear hS
  go_upto_region 3 with fail
  refine list_start (S := Gd w [(w.heap.size, 27, sh kd rr x y z A n cp)]) (unhide D) ?_
  clear D
  refine list_read (v := .agg (sh kd rr x y z A n cp)) rfl rfl (fun u hS => exec_loadG (g := w.heap.size) (t := 27) (cs := sh kd rr x y z A n cp) hS.g rShape _ rfl rfl (by repeat (first | exact List.mem_cons_self | apply List.mem_cons_of_mem)) rfl) ?_
  try go_simp
  refine list_call (v := .tuple #[.agg (v3 p1 p2 p3), .int .i64 0]) (f := 20) (args := #[.agg (sh kd rr x y z A n cp)]) rfl rfl (fun u hS => by go_simp) (fun u hS => (unhide h1 u hS.g.o).mono fun _ _ ⟨he, hb⟩ => ⟨he, hS.keep hb⟩) ?_
  try go_simp
  refine list_read (v := .tuple #[.agg (v3 p1 p2 p3), .int .i64 0]) rfl rfl (fun u hS => by go_simp) ?_
  try go_simp
  refine list_read (v := .agg (v3 p1 p2 p3)) rfl rfl (fun u hS => by go_simp) ?_
  try go_simp
  refine list_read (v := .int .i64 0) rfl rfl (fun u hS => by go_simp) ?_
  try go_simp
  refine list_new (z := v3 0 0 0) (ty := 24) (v := fun g => .pointer (some ⟨g, 0, none⟩)) rfl rfl (fun u => by go_simp) (fun g1 hgg1 => ?_)
  try go_simp
  refine list_store (l1 := []) (l2 := [(w.heap.size, 27, sh kd rr x y z A n cp)]) (l' := [(g1, 24, v3 p1 p2 p3), (w.heap.size, 27, sh kd rr x y z A n cp)]) (g := g1) (old := v3 0 0 0) (cs := v3 p1 p2 p3) (.tmp 5) (.tmp 31) rfl rfl rfl rfl rfl rfl rVec rfl rfl (v3_one _ _ _) hgg1 ?_
  try go_simp
  refine list_read (v := .int .i64 0) rfl rfl (fun u hS => by go_simp) ?_
  try go_simp
  refine list_end (fun u3 hS => ?_)
  have D := hide hS
  clear hS
  go_upto_region 4 with fail
  refine list_start (S := Gd w [(g1, 24, v3 p1 p2 p3), (w.heap.size, 27, sh kd rr x y z A n cp)]) (unhide D) ?_
  clear D
  refine list_read (v := .agg (sh kd rr x y z A n cp)) rfl rfl (fun u hS => exec_loadG (g := w.heap.size) (t := 27) (cs := sh kd rr x y z A n cp) hS.g rShape _ rfl rfl (by repeat (first | exact List.mem_cons_self | apply List.mem_cons_of_mem)) rfl) ?_
  try go_simp
  refine list_call (v := .tuple #[.int .i64 tt, .int .i64 0]) (f := 22) (args := #[.agg (sh kd rr x y z A n cp)]) rfl rfl (fun u hS => by go_simp) (fun u hS => (unhide h2 u hS.g.o).mono fun _ _ ⟨he, hb⟩ => ⟨he, hS.keep hb⟩) ?_
  try go_simp
  refine list_read (v := .tuple #[.int .i64 tt, .int .i64 0]) rfl rfl (fun u hS => by go_simp) ?_
  try go_simp
  refine list_read (v := .int .i64 tt) rfl rfl (fun u hS => by go_simp) ?_
  try go_simp
  refine list_read (v := .int .i64 0) rfl rfl (fun u hS => by go_simp) ?_
  try go_simp
  refine list_read (v := .int .i64 tt) rfl rfl (fun u hS => by go_simp) ?_
  try go_simp
  refine list_read (v := .int .i64 0) rfl rfl (fun u hS => by go_simp) ?_
  try go_simp
  refine list_end (fun u4 hS => ?_)
  have D := hide hS
  clear hS
  go_upto_region 5 with fail
  refine list_start (S := Gd w [(g1, 24, v3 p1 p2 p3), (w.heap.size, 27, sh kd rr x y z A n cp)]) (unhide D) ?_
  clear D
  refine list_read (v := .int .i64 0) rfl rfl (fun u hS => by go_simp) ?_
  try go_simp
  refine list_read (v := .bool false) rfl rfl (fun u hS => by go_simp) ?_
  try go_simp
  refine list_read (v := .bool false) rfl rfl (fun u hS => by go_simp) ?_
  try go_simp
  refine list_read (v := .int .i64 0) rfl rfl (fun u hS => by go_simp) ?_
  try go_simp
  refine list_read (v := .bool false) rfl rfl (fun u hS => by go_simp) ?_
  try go_simp
  refine list_read (v := .bool false) rfl rfl (fun u hS => by go_simp) ?_
  try go_simp
  refine list_end (fun u5 hS => ?_)
  have D := hide hS
  clear hS
  go_upto_region 7 with fail
  refine list_start (S := Gd w [(g1, 24, v3 p1 p2 p3), (w.heap.size, 27, sh kd rr x y z A n cp)]) (unhide D) ?_
  clear D
  refine list_read (v := .agg (sh kd rr x y z A n cp)) rfl rfl (fun u hS => exec_loadG (g := w.heap.size) (t := 27) (cs := sh kd rr x y z A n cp) hS.g rShape _ rfl rfl (by repeat (first | exact List.mem_cons_self | apply List.mem_cons_of_mem)) rfl) ?_
  try go_simp
  refine list_new (z := sh 0 0 0 0 0 none 0 0) (ty := 27) (v := fun g => .pointer (some ⟨g, 0, none⟩)) rfl rfl (fun u => by go_simp) (fun g2 hgg2 => ?_)
  try go_simp
  refine list_store (l1 := []) (l2 := [(g1, 24, v3 p1 p2 p3), (w.heap.size, 27, sh kd rr x y z A n cp)]) (l' := [(g2, 27, sh kd rr x y z A n cp), (g1, 24, v3 p1 p2 p3), (w.heap.size, 27, sh kd rr x y z A n cp)]) (g := g2) (old := sh 0 0 0 0 0 none 0 0) (cs := sh kd rr x y z A n cp) (.tmp 9) (.tmp 50) rfl rfl rfl rfl rfl rfl rShape rfl rfl (sh_one _ _ _ _ _ _ _ _) hgg2 ?_
  try go_simp
  refine list_end (fun u7 hS => ?_)
  have D := hide hS
  clear hS
  go_upto_region 8 with fail
  refine list_start (S := Gd w [(g2, 27, sh kd rr x y z A n cp), (g1, 24, v3 p1 p2 p3), (w.heap.size, 27, sh kd rr x y z A n cp)]) (unhide D) ?_
  clear D
  refine list_read (v := .pointer (some ⟨w.heap.size, 1, none⟩)) rfl rfl (fun u hS => by go_simp) ?_
  try go_simp
  refine list_read (v := .int .i64 rr) rfl rfl (fun u hS => exec_loadN_Fix (g := w.heap.size) (t := 27) (cs := sh kd rr x y z A n cp) hS.g _ rfl rfl (by repeat (first | exact List.mem_cons_self | apply List.mem_cons_of_mem)) rfl) ?_
  try go_simp
  refine list_read (v := .int .i64 r) rfl rfl (fun u hS => by go_simp) ?_
  try go_simp
  refine list_read (v := .int .i64 q) rfl rfl (fun u hS => exec_addI _ _ (unhide h_q) rfl rfl rfl) ?_
  try go_simp
  refine list_read (v := .pointer (some ⟨g2, 1, none⟩)) rfl rfl (fun u hS => by go_simp) ?_
  try go_simp
  refine list_storeC (i := 1) (l1 := []) (l2 := [(g1, 24, v3 p1 p2 p3), (w.heap.size, 27, sh kd rr x y z A n cp)]) (l' := [(g2, 27, sh kd q x y z A n cp), (g1, 24, v3 p1 p2 p3), (w.heap.size, 27, sh kd rr x y z A n cp)]) (g := g2) (old := sh kd rr x y z A n cp) (.tmp 55) (.tmp 54) rfl rfl rfl rfl rfl rfl (show 1 < 6 from by decide) (by kernel_rfl) hgg2 ?_
  try go_simp
  refine list_end (fun u8 hS => ?_)
  have D := hide hS
  clear hS
  go_upto_region 9 with fail
  refine list_start (S := Gd w [(g2, 27, sh kd q x y z A n cp), (g1, 24, v3 p1 p2 p3), (w.heap.size, 27, sh kd rr x y z A n cp)]) (unhide D) ?_
  clear D
  refine list_read (v := .agg (sh kd q x y z A n cp)) rfl rfl (fun u hS => exec_loadG (g := g2) (t := 27) (cs := sh kd q x y z A n cp) hS.g rShape _ rfl rfl (by repeat (first | exact List.mem_cons_self | apply List.mem_cons_of_mem)) rfl) ?_
  try go_simp
  refine list_call (v := .tuple #[.agg (v3 0 0 0), .int .i64 E]) (f := 20) (args := #[.agg (sh kd q x y z A n cp)]) rfl rfl (fun u hS => by go_simp) (fun u hS => (unhide h3 u hS.g.o).mono fun _ _ ⟨he, hb⟩ => ⟨he, hS.keep hb⟩) ?_
  try go_simp
  refine list_read (v := .tuple #[.agg (v3 0 0 0), .int .i64 E]) rfl rfl (fun u hS => by go_simp) ?_
  try go_simp
  refine list_read (v := .agg (v3 0 0 0)) rfl rfl (fun u hS => by go_simp) ?_
  try go_simp
  refine list_read (v := .int .i64 E) rfl rfl (fun u hS => by go_simp) ?_
  try go_simp
  refine list_new (z := v3 0 0 0) (ty := 24) (v := fun g => .pointer (some ⟨g, 0, none⟩)) rfl rfl (fun u => by go_simp) (fun g3 hgg3 => ?_)
  try go_simp
  refine list_store (l1 := []) (l2 := [(g2, 27, sh kd q x y z A n cp), (g1, 24, v3 p1 p2 p3), (w.heap.size, 27, sh kd rr x y z A n cp)]) (l' := [(g3, 24, v3 0 0 0), (g2, 27, sh kd q x y z A n cp), (g1, 24, v3 p1 p2 p3), (w.heap.size, 27, sh kd rr x y z A n cp)]) (g := g3) (old := v3 0 0 0) (cs := v3 0 0 0) (.tmp 10) (.tmp 59) rfl rfl rfl rfl rfl rfl rVec rfl rfl (v3_one _ _ _) hgg3 ?_
  try go_simp
  refine list_read (v := .int .i64 E) rfl rfl (fun u hS => by go_simp) ?_
  try go_simp
  refine list_end (fun u9 hS => ?_)
  have D := hide hS
  clear hS
  go_upto_region 10 with fail
  refine list_start (S := Gd w [(g3, 24, v3 0 0 0), (g2, 27, sh kd q x y z A n cp), (g1, 24, v3 p1 p2 p3), (w.heap.size, 27, sh kd rr x y z A n cp)]) (unhide D) ?_
  clear D
  refine list_read (v := .agg (sh kd q x y z A n cp)) rfl rfl (fun u hS => exec_loadG (g := g2) (t := 27) (cs := sh kd q x y z A n cp) hS.g rShape _ rfl rfl (by repeat (first | exact List.mem_cons_self | apply List.mem_cons_of_mem)) rfl) ?_
  try go_simp
  refine list_call (v := .tuple #[.int .i64 0, .int .i64 E]) (f := 22) (args := #[.agg (sh kd q x y z A n cp)]) rfl rfl (fun u hS => by go_simp) (fun u hS => (unhide h4 u hS.g.o).mono fun _ _ ⟨he, hb⟩ => ⟨he, hS.keep hb⟩) ?_
  try go_simp
  refine list_read (v := .tuple #[.int .i64 0, .int .i64 E]) rfl rfl (fun u hS => by go_simp) ?_
  try go_simp
  refine list_read (v := .int .i64 0) rfl rfl (fun u hS => by go_simp) ?_
  try go_simp
  refine list_read (v := .int .i64 E) rfl rfl (fun u hS => by go_simp) ?_
  try go_simp
  refine list_read (v := .int .i64 0) rfl rfl (fun u hS => by go_simp) ?_
  try go_simp
  refine list_read (v := .int .i64 E) rfl rfl (fun u hS => by go_simp) ?_
  try go_simp
  refine list_end (fun u10 hS => ?_)
  have D := hide hS
  clear hS
  go_upto_region 11 with fail
  refine list_start (S := Gd w [(g3, 24, v3 0 0 0), (g2, 27, sh kd q x y z A n cp), (g1, 24, v3 p1 p2 p3), (w.heap.size, 27, sh kd rr x y z A n cp)]) (unhide D) ?_
  clear D
  refine list_read (v := .int .i64 E) rfl rfl (fun u hS => by go_simp) ?_
  try go_simp
  refine list_read (v := .bool true) rfl rfl (fun u hS => exec_neqS _ _ (unhide e3) rfl rfl rfl) ?_
  try go_simp
  refine list_read (v := .bool true) rfl rfl (fun u hS => by go_simp) ?_
  try go_simp
  refine list_skip ?_ ?_ ?_
  · rfl
  · rfl
  try go_simp
  refine list_skip ?_ ?_ ?_
  · rfl
  · rfl
  try go_simp
  refine list_read (v := .bool true) rfl rfl (fun u hS => by go_simp) ?_
  try go_simp
  refine list_end (fun u11 hS => ?_)
  have D := hide hS
  clear hS
  go_upto_region 12 with fail
  refine list_start (S := Gd w [(g3, 24, v3 0 0 0), (g2, 27, sh kd q x y z A n cp), (g1, 24, v3 p1 p2 p3), (w.heap.size, 27, sh kd rr x y z A n cp)]) (unhide D) ?_
  clear D
  refine list_read (v := .pointer (some ⟨g2, 1, none⟩)) rfl rfl (fun u hS => by go_simp) ?_
  try go_simp
  refine list_read (v := .int .i64 q) rfl rfl (fun u hS => exec_loadN_Fix (g := g2) (t := 27) (cs := sh kd q x y z A n cp) hS.g _ rfl rfl (by repeat (first | exact List.mem_cons_self | apply List.mem_cons_of_mem)) rfl) ?_
  try go_simp
  refine list_read (v := .bool true) rfl rfl (fun u hS => exec_gtrS _ _ (unhide e4) rfl rfl rfl) ?_
  try go_simp
  refine list_read (v := .bool true) rfl rfl (fun u hS => by go_simp) ?_
  try go_simp
  refine list_call (v := .bool true) (f := 13) (args := #[]) rfl rfl (fun u hS => by go_simp) (fun u hS => (unhide h5 u).mono fun _ _ ⟨he, hb⟩ => ⟨he, hS.keep hb⟩) ?_
  try go_simp
  refine list_read (v := .bool true) rfl rfl (fun u hS => by go_simp) ?_
  try go_simp
  refine list_read (v := .bool true) rfl rfl (fun u hS => by go_simp) ?_
  try go_simp
  refine list_end (fun u12 hS => ?_)
  have D := hide hS
  clear hS
  go_wp2
  go_ret
  exact ⟨rfl, (unhide D).g.o⟩
set_option maxHeartbeats 8000000 in
theorem halves_f (kd rr x y z : Int) (A : Option Addr) (n cp : Nat) (r : Int) (p1 p2 p3 tt q s1 s2 s3 s4 : Int) (w : World) (h_q : Hid (IntKind.i64.wrap (rr + r) = q)) (h_s1 : Hid (IntKind.i64.wrap (p1 + r) = s1)) (h_s2 : Hid (IntKind.i64.wrap (p2 + r) = s2)) (h_s3 : Hid (IntKind.i64.wrap (p3 + r) = s3)) (h_s4 : Hid (IntKind.i64.wrap (tt + r) = s4)) (e0 : Hid (decide ((100 : Int) < n) = false)) (e1 : Hid (decide ((r : Int) < 0) = false)) (e2 : Hid (decide ((274877906944 : Int) < r) = false)) (h5 : Hid (∀ u, Below w.heap.size w u → Calls Tryz.prog 20 #[.agg (sh kd rr x y z A n cp)] u fun e w' => e = .returned (.tuple #[.agg (v3 p1 p2 p3), .int .i64 0]) ∧ Below u.heap.size u w')) (h6 : Hid (∀ u, Below w.heap.size w u → Calls Tryz.prog 22 #[.agg (sh kd rr x y z A n cp)] u fun e w' => e = .returned (.tuple #[.int .i64 tt, .int .i64 0]) ∧ Below u.heap.size u w')) (h7 : Hid (∀ u, Below w.heap.size w u → Calls Tryz.prog 20 #[.agg (sh kd q x y z A n cp)] u fun e w' => e = .returned (.tuple #[.agg (v3 s1 s2 s3), .int .i64 0]) ∧ Below u.heap.size u w')) (h8 : Hid (∀ u, Below w.heap.size w u → Calls Tryz.prog 22 #[.agg (sh kd q x y z A n cp)] u fun e w' => e = .returned (.tuple #[.int .i64 s4, .int .i64 0]) ∧ Below u.heap.size u w')) (e3 : Hid (decide ((mx3 p1 p2 p3 : Int) ≤ tt) = true)) (e4 : Hid (decide ((rr : Int) ≤ mn3 p1 p2 p3) = true)) (e5 : Hid (sameV s1 s2 s3 s1 s2 s3 = true)) (e6 : Hid (decide ((s4 : Int) = s4) = true)) (h9 : Hid (Ans 13 #[] (.bool true))) : Calls Tryz.prog 8 #[.agg (sh kd rr x y z A n cp), .int .i64 r] w fun e w' => e = .returned (.bool true) ∧ Below w.heap.size w w' := by
  go_enter Tryz.func8, Tryz.ntmps8
  go_upto_region 1 with fail
  have D := hide (((Gd.start w).push 27 (sh kd rr x y z A n cp)))
  refine list_start (S := Gd w [(w.heap.size, 27, sh kd rr x y z A n cp)]) (unhide D) ?_
  clear D
  refine list_read (v := .pointer (some ⟨w.heap.size, 5, none⟩)) rfl rfl (fun u hS => by go_simp) ?_
  try go_simp
  refine list_read (v := .slice A n cp) rfl rfl (fun u hS => exec_loadV_Vecs (g := w.heap.size) (t := 27) (cs := sh kd rr x y z A n cp) hS.g _ rfl rfl (by repeat (first | exact List.mem_cons_self | apply List.mem_cons_of_mem)) rfl) ?_
  try go_simp
  refine list_read (v := .int .i64 n) rfl rfl (fun u hS => by go_simp) ?_
  try go_simp
  refine list_read (v := .bool false) rfl rfl (fun u hS => exec_gtrS _ _ (unhide e0) rfl rfl rfl) ?_
  try go_simp
  refine list_read (v := .bool false) rfl rfl (fun u hS => by go_simp) ?_
  try go_simp
  refine list_read (v := .int .i64 r) rfl rfl (fun u hS => by go_simp) ?_
  try go_simp
  refine list_read (v := .bool false) rfl rfl (fun u hS => exec_lssS _ _ (unhide e1) rfl rfl rfl) ?_
  try go_simp
  refine list_read (v := .bool false) rfl rfl (fun u hS => by go_simp) ?_
  try go_simp
  refine list_read (v := .bool false) rfl rfl (fun u hS => by go_simp) ?_
  try go_simp
  refine list_read (v := .int .i64 r) rfl rfl (fun u hS => by go_simp) ?_
  try go_simp
  refine list_read (v := .bool false) rfl rfl (fun u hS => exec_gtrS _ _ (unhide e2) rfl rfl rfl) ?_
  try go_simp
  refine list_read (v := .bool false) rfl rfl (fun u hS => by go_simp) ?_
  try go_simp
  refine list_end (fun u1 hS => ?_)
  have D := hide hS
  clear hS
  go_upto_region 3 with fail
  refine list_start (S := Gd w [(w.heap.size, 27, sh kd rr x y z A n cp)]) (unhide D) ?_
  clear D
  refine list_read (v := .agg (sh kd rr x y z A n cp)) rfl rfl (fun u hS => exec_loadG (g := w.heap.size) (t := 27) (cs := sh kd rr x y z A n cp) hS.g rShape _ rfl rfl (by repeat (first | exact List.mem_cons_self | apply List.mem_cons_of_mem)) rfl) ?_
  try go_simp
  refine list_call (v := .tuple #[.agg (v3 p1 p2 p3), .int .i64 0]) (f := 20) (args := #[.agg (sh kd rr x y z A n cp)]) rfl rfl (fun u hS => by go_simp) (fun u hS => (unhide h5 u hS.g.o).mono fun _ _ ⟨he, hb⟩ => ⟨he, hS.keep hb⟩) ?_
  try go_simp
  refine list_read (v := .tuple #[.agg (v3 p1 p2 p3), .int .i64 0]) rfl rfl (fun u hS => by go_simp) ?_
  try go_simp
  refine list_read (v := .agg (v3 p1 p2 p3)) rfl rfl (fun u hS => by go_simp) ?_
  try go_simp
  refine list_read (v := .int .i64 0) rfl rfl (fun u hS => by go_simp) ?_
  try go_simp
  refine list_new (z := v3 0 0 0) (ty := 24) (v := fun g => .pointer (some ⟨g, 0, none⟩)) rfl rfl (fun u => by go_simp) (fun g1 hgg1 => ?_)
  try go_simp
  refine list_store (l1 := []) (l2 := [(w.heap.size, 27, sh kd rr x y z A n cp)]) (l' := [(g1, 24, v3 p1 p2 p3), (w.heap.size, 27, sh kd rr x y z A n cp)]) (g := g1) (old := v3 0 0 0) (cs := v3 p1 p2 p3) (.tmp 5) (.tmp 31) rfl rfl rfl rfl rfl rfl rVec rfl rfl (v3_one _ _ _) hgg1 ?_
  try go_simp
  refine list_read (v := .int .i64 0) rfl rfl (fun u hS => by go_simp) ?_
  try go_simp
  refine list_end (fun u3 hS => ?_)
  have D := hide hS
  clear hS
  go_upto_region 4 with fail
  refine list_start (S := Gd w [(g1, 24, v3 p1 p2 p3), (w.heap.size, 27, sh kd rr x y z A n cp)]) (unhide D) ?_
  clear D
  refine list_read (v := .agg (sh kd rr x y z A n cp)) rfl rfl (fun u hS => exec_loadG (g := w.heap.size) (t := 27) (cs := sh kd rr x y z A n cp) hS.g rShape _ rfl rfl (by repeat (first | exact List.mem_cons_self | apply List.mem_cons_of_mem)) rfl) ?_
  try go_simp
  refine list_call (v := .tuple #[.int .i64 tt, .int .i64 0]) (f := 22) (args := #[.agg (sh kd rr x y z A n cp)]) rfl rfl (fun u hS => by go_simp) (fun u hS => (unhide h6 u hS.g.o).mono fun _ _ ⟨he, hb⟩ => ⟨he, hS.keep hb⟩) ?_
  try go_simp
  refine list_read (v := .tuple #[.int .i64 tt, .int .i64 0]) rfl rfl (fun u hS => by go_simp) ?_
  try go_simp
  refine list_read (v := .int .i64 tt) rfl rfl (fun u hS => by go_simp) ?_
  try go_simp
  refine list_read (v := .int .i64 0) rfl rfl (fun u hS => by go_simp) ?_
  try go_simp
  refine list_read (v := .int .i64 tt) rfl rfl (fun u hS => by go_simp) ?_
  try go_simp
  refine list_read (v := .int .i64 0) rfl rfl (fun u hS => by go_simp) ?_
  try go_simp
  refine list_end (fun u4 hS => ?_)
  have D := hide hS
  clear hS
  go_upto_region 5 with fail
  refine list_start (S := Gd w [(g1, 24, v3 p1 p2 p3), (w.heap.size, 27, sh kd rr x y z A n cp)]) (unhide D) ?_
  clear D
  refine list_read (v := .int .i64 0) rfl rfl (fun u hS => by go_simp) ?_
  try go_simp
  refine list_read (v := .bool false) rfl rfl (fun u hS => by go_simp) ?_
  try go_simp
  refine list_read (v := .bool false) rfl rfl (fun u hS => by go_simp) ?_
  try go_simp
  refine list_read (v := .int .i64 0) rfl rfl (fun u hS => by go_simp) ?_
  try go_simp
  refine list_read (v := .bool false) rfl rfl (fun u hS => by go_simp) ?_
  try go_simp
  refine list_read (v := .bool false) rfl rfl (fun u hS => by go_simp) ?_
  try go_simp
  refine list_end (fun u5 hS => ?_)
  have D := hide hS
  clear hS
  go_upto_region 7 with fail
  refine list_start (S := Gd w [(g1, 24, v3 p1 p2 p3), (w.heap.size, 27, sh kd rr x y z A n cp)]) (unhide D) ?_
  clear D
  refine list_read (v := .agg (sh kd rr x y z A n cp)) rfl rfl (fun u hS => exec_loadG (g := w.heap.size) (t := 27) (cs := sh kd rr x y z A n cp) hS.g rShape _ rfl rfl (by repeat (first | exact List.mem_cons_self | apply List.mem_cons_of_mem)) rfl) ?_
  try go_simp
  refine list_new (z := sh 0 0 0 0 0 none 0 0) (ty := 27) (v := fun g => .pointer (some ⟨g, 0, none⟩)) rfl rfl (fun u => by go_simp) (fun g2 hgg2 => ?_)
  try go_simp
  refine list_store (l1 := []) (l2 := [(g1, 24, v3 p1 p2 p3), (w.heap.size, 27, sh kd rr x y z A n cp)]) (l' := [(g2, 27, sh kd rr x y z A n cp), (g1, 24, v3 p1 p2 p3), (w.heap.size, 27, sh kd rr x y z A n cp)]) (g := g2) (old := sh 0 0 0 0 0 none 0 0) (cs := sh kd rr x y z A n cp) (.tmp 9) (.tmp 50) rfl rfl rfl rfl rfl rfl rShape rfl rfl (sh_one _ _ _ _ _ _ _ _) hgg2 ?_
  try go_simp
  refine list_end (fun u7 hS => ?_)
  have D := hide hS
  clear hS
  go_upto_region 8 with fail
  refine list_start (S := Gd w [(g2, 27, sh kd rr x y z A n cp), (g1, 24, v3 p1 p2 p3), (w.heap.size, 27, sh kd rr x y z A n cp)]) (unhide D) ?_
  clear D
  refine list_read (v := .pointer (some ⟨w.heap.size, 1, none⟩)) rfl rfl (fun u hS => by go_simp) ?_
  try go_simp
  refine list_read (v := .int .i64 rr) rfl rfl (fun u hS => exec_loadN_Fix (g := w.heap.size) (t := 27) (cs := sh kd rr x y z A n cp) hS.g _ rfl rfl (by repeat (first | exact List.mem_cons_self | apply List.mem_cons_of_mem)) rfl) ?_
  try go_simp
  refine list_read (v := .int .i64 r) rfl rfl (fun u hS => by go_simp) ?_
  try go_simp
  refine list_read (v := .int .i64 q) rfl rfl (fun u hS => exec_addI _ _ (unhide h_q) rfl rfl rfl) ?_
  try go_simp
  refine list_read (v := .pointer (some ⟨g2, 1, none⟩)) rfl rfl (fun u hS => by go_simp) ?_
  try go_simp
  refine list_storeC (i := 1) (l1 := []) (l2 := [(g1, 24, v3 p1 p2 p3), (w.heap.size, 27, sh kd rr x y z A n cp)]) (l' := [(g2, 27, sh kd q x y z A n cp), (g1, 24, v3 p1 p2 p3), (w.heap.size, 27, sh kd rr x y z A n cp)]) (g := g2) (old := sh kd rr x y z A n cp) (.tmp 55) (.tmp 54) rfl rfl rfl rfl rfl rfl (show 1 < 6 from by decide) (by kernel_rfl) hgg2 ?_
  try go_simp
  refine list_end (fun u8 hS => ?_)
  have D := hide hS
  clear hS
  go_upto_region 9 with fail
  refine list_start (S := Gd w [(g2, 27, sh kd q x y z A n cp), (g1, 24, v3 p1 p2 p3), (w.heap.size, 27, sh kd rr x y z A n cp)]) (unhide D) ?_
  clear D
  refine list_read (v := .agg (sh kd q x y z A n cp)) rfl rfl (fun u hS => exec_loadG (g := g2) (t := 27) (cs := sh kd q x y z A n cp) hS.g rShape _ rfl rfl (by repeat (first | exact List.mem_cons_self | apply List.mem_cons_of_mem)) rfl) ?_
  try go_simp
  refine list_call (v := .tuple #[.agg (v3 s1 s2 s3), .int .i64 0]) (f := 20) (args := #[.agg (sh kd q x y z A n cp)]) rfl rfl (fun u hS => by go_simp) (fun u hS => (unhide h7 u hS.g.o).mono fun _ _ ⟨he, hb⟩ => ⟨he, hS.keep hb⟩) ?_
  try go_simp
  refine list_read (v := .tuple #[.agg (v3 s1 s2 s3), .int .i64 0]) rfl rfl (fun u hS => by go_simp) ?_
  try go_simp
  refine list_read (v := .agg (v3 s1 s2 s3)) rfl rfl (fun u hS => by go_simp) ?_
  try go_simp
  refine list_read (v := .int .i64 0) rfl rfl (fun u hS => by go_simp) ?_
  try go_simp
  refine list_new (z := v3 0 0 0) (ty := 24) (v := fun g => .pointer (some ⟨g, 0, none⟩)) rfl rfl (fun u => by go_simp) (fun g3 hgg3 => ?_)
  try go_simp
  refine list_store (l1 := []) (l2 := [(g2, 27, sh kd q x y z A n cp), (g1, 24, v3 p1 p2 p3), (w.heap.size, 27, sh kd rr x y z A n cp)]) (l' := [(g3, 24, v3 s1 s2 s3), (g2, 27, sh kd q x y z A n cp), (g1, 24, v3 p1 p2 p3), (w.heap.size, 27, sh kd rr x y z A n cp)]) (g := g3) (old := v3 0 0 0) (cs := v3 s1 s2 s3) (.tmp 10) (.tmp 59) rfl rfl rfl rfl rfl rfl rVec rfl rfl (v3_one _ _ _) hgg3 ?_
  try go_simp
  refine list_read (v := .int .i64 0) rfl rfl (fun u hS => by go_simp) ?_
  try go_simp
  refine list_end (fun u9 hS => ?_)
  have D := hide hS
  clear hS
  go_upto_region 10 with fail
  refine list_start (S := Gd w [(g3, 24, v3 s1 s2 s3), (g2, 27, sh kd q x y z A n cp), (g1, 24, v3 p1 p2 p3), (w.heap.size, 27, sh kd rr x y z A n cp)]) (unhide D) ?_
  clear D
  refine list_read (v := .agg (sh kd q x y z A n cp)) rfl rfl (fun u hS => exec_loadG (g := g2) (t := 27) (cs := sh kd q x y z A n cp) hS.g rShape _ rfl rfl (by repeat (first | exact List.mem_cons_self | apply List.mem_cons_of_mem)) rfl) ?_
  try go_simp
  refine list_call (v := .tuple #[.int .i64 s4, .int .i64 0]) (f := 22) (args := #[.agg (sh kd q x y z A n cp)]) rfl rfl (fun u hS => by go_simp) (fun u hS => (unhide h8 u hS.g.o).mono fun _ _ ⟨he, hb⟩ => ⟨he, hS.keep hb⟩) ?_
  try go_simp
  refine list_read (v := .tuple #[.int .i64 s4, .int .i64 0]) rfl rfl (fun u hS => by go_simp) ?_
  try go_simp
  refine list_read (v := .int .i64 s4) rfl rfl (fun u hS => by go_simp) ?_
  try go_simp
  refine list_read (v := .int .i64 0) rfl rfl (fun u hS => by go_simp) ?_
  try go_simp
  refine list_read (v := .int .i64 s4) rfl rfl (fun u hS => by go_simp) ?_
  try go_simp
  refine list_read (v := .int .i64 0) rfl rfl (fun u hS => by go_simp) ?_
  try go_simp
  refine list_end (fun u10 hS => ?_)
  have D := hide hS
  clear hS
  go_upto_region 11 with fail
  refine list_start (S := Gd w [(g3, 24, v3 s1 s2 s3), (g2, 27, sh kd q x y z A n cp), (g1, 24, v3 p1 p2 p3), (w.heap.size, 27, sh kd rr x y z A n cp)]) (unhide D) ?_
  clear D
  refine list_read (v := .int .i64 0) rfl rfl (fun u hS => by go_simp) ?_
  try go_simp
  refine list_read (v := .bool false) rfl rfl (fun u hS => by go_simp) ?_
  try go_simp
  refine list_read (v := .bool false) rfl rfl (fun u hS => by go_simp) ?_
  try go_simp
  refine list_read (v := .int .i64 0) rfl rfl (fun u hS => by go_simp) ?_
  try go_simp
  refine list_read (v := .bool false) rfl rfl (fun u hS => by go_simp) ?_
  try go_simp
  refine list_read (v := .bool false) rfl rfl (fun u hS => by go_simp) ?_
  try go_simp
  refine list_end (fun u11 hS => ?_)
  have D := hide hS
  clear hS
  go_upto_region 13 with fail
  refine list_start (S := Gd w [(g3, 24, v3 s1 s2 s3), (g2, 27, sh kd q x y z A n cp), (g1, 24, v3 p1 p2 p3), (w.heap.size, 27, sh kd rr x y z A n cp)]) (unhide D) ?_
  clear D
  refine list_read (v := .pointer (some ⟨g1, 0, none⟩)) rfl rfl (fun u hS => by go_simp) ?_
  try go_simp
  refine list_read (v := .int .i64 p1) rfl rfl (fun u hS => exec_loadN_Fix (g := g1) (t := 24) (cs := v3 p1 p2 p3) hS.g _ rfl rfl (by repeat (first | exact List.mem_cons_self | apply List.mem_cons_of_mem)) rfl) ?_
  try go_simp
  refine list_read (v := .pointer (some ⟨g1, 1, none⟩)) rfl rfl (fun u hS => by go_simp) ?_
  try go_simp
  refine list_read (v := .int .i64 p2) rfl rfl (fun u hS => exec_loadN_Fix (g := g1) (t := 24) (cs := v3 p1 p2 p3) hS.g _ rfl rfl (by repeat (first | exact List.mem_cons_self | apply List.mem_cons_of_mem)) rfl) ?_
  try go_simp
  refine list_read (v := .pointer (some ⟨g1, 2, none⟩)) rfl rfl (fun u hS => by go_simp) ?_
  try go_simp
  refine list_read (v := .int .i64 p3) rfl rfl (fun u hS => exec_loadN_Fix (g := g1) (t := 24) (cs := v3 p1 p2 p3) hS.g _ rfl rfl (by repeat (first | exact List.mem_cons_self | apply List.mem_cons_of_mem)) rfl) ?_
  try go_simp
  refine list_read (v := .int .i64 (mx3 p1 p2 p3)) rfl rfl (fun u hS => exec_mx3 (.tmp 79) (.tmp 81) (.tmp 83) rfl rfl rfl rfl) ?_
  try go_simp
  refine list_read (v := .int .i64 tt) rfl rfl (fun u hS => by go_simp) ?_
  try go_simp
  refine list_read (v := .bool true) rfl rfl (fun u hS => exec_leqS _ _ (unhide e3) rfl rfl rfl) ?_
  try go_simp
  refine list_read (v := .bool true) rfl rfl (fun u hS => by go_simp) ?_
  try go_simp
  refine list_read (v := .pointer (some ⟨g1, 0, none⟩)) rfl rfl (fun u hS => by go_simp) ?_
  try go_simp
  refine list_read (v := .int .i64 p1) rfl rfl (fun u hS => exec_loadN_Fix (g := g1) (t := 24) (cs := v3 p1 p2 p3) hS.g _ rfl rfl (by repeat (first | exact List.mem_cons_self | apply List.mem_cons_of_mem)) rfl) ?_
  try go_simp
  refine list_read (v := .pointer (some ⟨g1, 1, none⟩)) rfl rfl (fun u hS => by go_simp) ?_
  try go_simp
  refine list_read (v := .int .i64 p2) rfl rfl (fun u hS => exec_loadN_Fix (g := g1) (t := 24) (cs := v3 p1 p2 p3) hS.g _ rfl rfl (by repeat (first | exact List.mem_cons_self | apply List.mem_cons_of_mem)) rfl) ?_
  try go_simp
  refine list_read (v := .pointer (some ⟨g1, 2, none⟩)) rfl rfl (fun u hS => by go_simp) ?_
  try go_simp
  refine list_read (v := .int .i64 p3) rfl rfl (fun u hS => exec_loadN_Fix (g := g1) (t := 24) (cs := v3 p1 p2 p3) hS.g _ rfl rfl (by repeat (first | exact List.mem_cons_self | apply List.mem_cons_of_mem)) rfl) ?_
  try go_simp
  refine list_read (v := .int .i64 (mn3 p1 p2 p3)) rfl rfl (fun u hS => exec_mn3 (.tmp 89) (.tmp 91) (.tmp 93) rfl rfl rfl rfl) ?_
  try go_simp
  refine list_read (v := .pointer (some ⟨w.heap.size, 1, none⟩)) rfl rfl (fun u hS => by go_simp) ?_
  try go_simp
  refine list_read (v := .int .i64 rr) rfl rfl (fun u hS => exec_loadN_Fix (g := w.heap.size) (t := 27) (cs := sh kd rr x y z A n cp) hS.g _ rfl rfl (by repeat (first | exact List.mem_cons_self | apply List.mem_cons_of_mem)) rfl) ?_
  try go_simp
  refine list_read (v := .bool true) rfl rfl (fun u hS => exec_geqS _ _ (unhide e4) rfl rfl rfl) ?_
  try go_simp
  refine list_read (v := .bool true) rfl rfl (fun u hS => by go_simp) ?_
  try go_simp
  refine list_read (v := .bool true) rfl rfl (fun u hS => by go_simp) ?_
  try go_simp
  refine list_end (fun u13 hS => ?_)
  have D := hide hS
  clear hS
  go_upto_region 14 with fail
  refine list_start (S := Gd w [(g3, 24, v3 s1 s2 s3), (g2, 27, sh kd q x y z A n cp), (g1, 24, v3 p1 p2 p3), (w.heap.size, 27, sh kd rr x y z A n cp)]) (unhide D) ?_
  clear D
  refine list_read (v := .bool true) rfl rfl (fun u hS => by go_simp) ?_
  try go_simp
  refine list_read (v := .bool true) rfl rfl (fun u hS => by go_simp) ?_
  try go_simp
  refine list_read (v := .agg (v3 s1 s2 s3)) rfl rfl (fun u hS => exec_loadG (g := g3) (t := 24) (cs := v3 s1 s2 s3) hS.g rVec _ rfl rfl (by repeat (first | exact List.mem_cons_self | apply List.mem_cons_of_mem)) rfl) ?_
  try go_simp
  refine list_read (v := .pointer (some ⟨g1, 0, none⟩)) rfl rfl (fun u hS => by go_simp) ?_
  try go_simp
  refine list_read (v := .int .i64 p1) rfl rfl (fun u hS => exec_loadN_Fix (g := g1) (t := 24) (cs := v3 p1 p2 p3) hS.g _ rfl rfl (by repeat (first | exact List.mem_cons_self | apply List.mem_cons_of_mem)) rfl) ?_
  try go_simp
  refine list_read (v := .int .i64 r) rfl rfl (fun u hS => by go_simp) ?_
  try go_simp
  refine list_read (v := .int .i64 s1) rfl rfl (fun u hS => exec_addI _ _ (unhide h_s1) rfl rfl rfl) ?_
  try go_simp
  refine list_read (v := .pointer (some ⟨g1, 1, none⟩)) rfl rfl (fun u hS => by go_simp) ?_
  try go_simp
  refine list_read (v := .int .i64 p2) rfl rfl (fun u hS => exec_loadN_Fix (g := g1) (t := 24) (cs := v3 p1 p2 p3) hS.g _ rfl rfl (by repeat (first | exact List.mem_cons_self | apply List.mem_cons_of_mem)) rfl) ?_
  try go_simp
  refine list_read (v := .int .i64 r) rfl rfl (fun u hS => by go_simp) ?_
  try go_simp
  refine list_read (v := .int .i64 s2) rfl rfl (fun u hS => exec_addI _ _ (unhide h_s2) rfl rfl rfl) ?_
  try go_simp
  refine list_read (v := .pointer (some ⟨g1, 2, none⟩)) rfl rfl (fun u hS => by go_simp) ?_
  try go_simp
  refine list_read (v := .int .i64 p3) rfl rfl (fun u hS => exec_loadN_Fix (g := g1) (t := 24) (cs := v3 p1 p2 p3) hS.g _ rfl rfl (by repeat (first | exact List.mem_cons_self | apply List.mem_cons_of_mem)) rfl) ?_
  try go_simp
  refine list_read (v := .int .i64 r) rfl rfl (fun u hS => by go_simp) ?_
  try go_simp
  refine list_read (v := .int .i64 s3) rfl rfl (fun u hS => exec_addI _ _ (unhide h_s3) rfl rfl rfl) ?_
  try go_simp
  refine list_read (v := .agg (v3 s1 s2 s3)) rfl rfl (fun u hS => by go_simp) ?_
  try go_simp
  refine list_read (v := .bool true) rfl rfl (fun u hS => exec_eql_vec (s := true) _ _ _ (unhide e5) rfl rfl rfl) ?_
  try go_simp
  refine list_read (v := .bool true) rfl rfl (fun u hS => by go_simp) ?_
  try go_simp
  refine list_read (v := .bool true) rfl rfl (fun u hS => by go_simp) ?_
  try go_simp
  refine list_read (v := .int .i64 s4) rfl rfl (fun u hS => by go_simp) ?_
  try go_simp
  refine list_read (v := .int .i64 tt) rfl rfl (fun u hS => by go_simp) ?_
  try go_simp
  refine list_read (v := .int .i64 r) rfl rfl (fun u hS => by go_simp) ?_
  try go_simp
  refine list_read (v := .int .i64 s4) rfl rfl (fun u hS => exec_addI _ _ (unhide h_s4) rfl rfl rfl) ?_
  try go_simp
  refine list_read (v := .bool true) rfl rfl (fun u hS => exec_eqlS _ _ (unhide e6) rfl rfl rfl) ?_
  try go_simp
  refine list_read (v := .bool true) rfl rfl (fun u hS => by go_simp) ?_
  try go_simp
  refine list_read (v := .bool true) rfl rfl (fun u hS => by go_simp) ?_
  try go_simp
  refine list_call (v := .bool true) (f := 13) (args := #[]) rfl rfl (fun u hS => by go_simp) (fun u hS => (unhide h9 u).mono fun _ _ ⟨he, hb⟩ => ⟨he, hS.keep hb⟩) ?_
  try go_simp
  refine list_read (v := .bool true) rfl rfl (fun u hS => by go_simp) ?_
  try go_simp
  refine list_read (v := .bool true) rfl rfl (fun u hS => by go_simp) ?_
  try go_simp
  refine list_end (fun u14 hS => ?_)
  have D := hide hS
  clear hS
  go_wp2
  go_ret
  exact ⟨rfl, (unhide D).g.o⟩
theorem mn3_ge {x y z m : Int} : m ≤ mn3 x y z ↔ m ≤ x ∧ m ≤ y ∧ m ≤ z := by
  unfold mn3 mn2
  repeat' split
  all_goals omega
theorem hdB_mono {kd rr x y z r : Int} {n : Nat} (h : hdB kd rr x y z n = true) (hr : 0 ≤ r) : hdB kd (rr + r) x y z n = true := by
  rcases hdB_kind h with rfl | rfl | rfl | rfl <;> (unfold hdB at h ⊢; simp at h ⊢; exact ⟨by omega, h.2⟩)
theorem wrap_I {z : Int} (h : I64 z) : IntKind.i64.wrap z = z := by
  unfold I64 at h
  rw [IntKind.wrap_i64]
  omega
theorem shapeHalves_all (kd rr x y z : Int) (A : Option Addr) (n cp : Nat) (ps : Nat → Pt) (r : Int) (hn : n ≤ 9223372036854775807) (hr : I64 rr) (hx : I64 x) (hy : I64 y) (hz : I64 z) (hrr : I64 r) (w : World) (hP : PRow w A n ps) (hI : pI64 n ps) :
    Calls Tryz.prog 8 #[.agg (sh kd rr x y z A n cp), .int .i64 r] w fun e w' => e = .returned (.bool true) ∧ Below w.heap.size w w' := by
  by_cases c1 : (100 : Int) < n
  · exact halves_a kd rr x y z A n cp r w (decide_eq_true c1) awake9Z
  by_cases c2 : r < 0
  · exact halves_b kd rr x y z A n cp r w (decide_eq_false c1) (decide_eq_true c2) awake9Z
  by_cases c3 : 274877906944 < r
  · exact halves_c kd rr x y z A n cp r w (decide_eq_false c1) (decide_eq_false c2) (decide_eq_true c3) awake9Z
  have hn4 : n ≤ 400 := by omega
  have hH := fun u (hu : Below w.heap.size w u) => HalfS kd rr x y z A n cp ps u hn4 hr hx hy hz (hP.below hu) hI
  have hR := fun u (hu : Below w.heap.size w u) => ReachS kd rr x y z A n cp ps u hn4 hr hx hy hz (hP.below hu) hI
  by_cases h0 : chE kd rr x y z n ps = 0
  · obtain ⟨⟨r0, r1⟩, e1, e2, e3, e4, ⟨x0, x1⟩, ⟨y0, y1⟩, ⟨z0, z1⟩, l1⟩ := ha_facts hr hx hy hz hI h0
    have hq : I64 (rr + r) := ⟨by omega, by omega⟩
    have hH2 := fun u (hu : Below w.heap.size w u) => HalfS kd (rr + r) x y z A n cp ps u hn4 hq hx hy hz (hP.below hu) hI
    have hR2 := fun u (hu : Below w.heap.size w u) => ReachS kd (rr + r) x y z A n cp ps u hn4 hq hx hy hz (hP.below hu) hI
    rw [h0] at hH hR
    by_cases h1 : chE kd (rr + r) x y z n ps = 0
    · obtain ⟨_, f1, f2, f3, f4, _⟩ := ha_facts hq hx hy hz hI h1
      rw [h1, f1, f2, f3] at hH2
      rw [h1, f4] at hR2
      rw [e1, e2, e3] at hH
      rw [e4] at hR
      generalize mostR (szX (coP kd x y z ps)) (coN kd n) = X at *
      generalize mostR (szY (coP kd x y z ps)) (coN kd n) = Y at *
      generalize mostR (szZ (coP kd x y z ps)) (coN kd n) = Z at *
      generalize mostR (luP (coP kd x y z ps)) (coN kd n) = L at *
      rw [← Int.add_assoc, ← Int.add_assoc, ← Int.add_assoc] at hH2
      rw [show rr + r + L = rr + L + r by omega] at hR2
      exact halves_f kd rr x y z A n cp r _ _ _ _ _ _ _ _ _ w (wrap_I hq) (wrap_I ⟨by omega, by omega⟩) (wrap_I ⟨by omega, by omega⟩) (wrap_I ⟨by omega, by omega⟩) (wrap_I ⟨by omega, by omega⟩) (decide_eq_false c1) (decide_eq_false c2) (decide_eq_false c3) hH hR hH2 hR2
        (decide_eq_true (mx3_le.2 ⟨by omega, by omega, by omega⟩)) (decide_eq_true (mn3_ge.2 ⟨by omega, by omega, by omega⟩)) (sameV_selfI _ _ _) (decide_eq_true rfl) awake9Z
    · have g1 : haX kd (rr + r) x y z n ps = 0 := if_neg h1
      have g2 : haY kd (rr + r) x y z n ps = 0 := if_neg h1
      have g3 : haZ kd (rr + r) x y z n ps = 0 := if_neg h1
      have g4 : reI kd (rr + r) x y z n ps = 0 := if_neg h1
      rw [g1, g2, g3] at hH2
      rw [g4] at hR2
      have hbig : 274877906944 < rr + r := by
        obtain ⟨hh, hnh, hf⟩ := chE_fine h0
        rcases Int.lt_or_le 274877906944 (rr + r) with h | h
        · exact h
        · exfalso
          apply h1
          have n2 : nhB (rr + r) x y z n ps = true := (nhB_iff hq hx hy hz hI).2 ⟨⟨by omega, h⟩, ((nhB_iff hr hx hy hz hI).1 hnh).2⟩
          unfold chE
          rw [hdB_mono hh (by omega), n2]
          by_cases k4 : kd = 4
          · rw [hf k4]; simp
          · simp [k4]
      exact halves_e kd rr x y z A n cp r _ _ _ _ _ _ w (wrap_I hq) (decide_eq_false c1) (decide_eq_false c2) (decide_eq_false c3) hH hR hH2 hR2 (decide_eq_false h1) (decide_eq_true hbig) awake9Z
  · have g1 : haX kd rr x y z n ps = 0 := if_neg h0
    have g2 : haY kd rr x y z n ps = 0 := if_neg h0
    have g3 : haZ kd rr x y z n ps = 0 := if_neg h0
    have g4 : reI kd rr x y z n ps = 0 := if_neg h0
    rw [g1, g2, g3] at hH
    rw [g4] at hR
    exact halves_d kd rr x y z A n cp r _ w (decide_eq_false c1) (decide_eq_false c2) (decide_eq_false c3) hH hR (decide_eq_false h0) (decide_eq_true rfl) awake9Z

end Go.Proofs.YtnemedgdhojhdaaGreat
