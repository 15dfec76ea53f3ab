/- Package mat's contracts over integers; the document's Rows and Diag; awake. -/
import Derived.Test.YtcbepibdeokboaaGreatNq
import Derived.Test.YtcbepibdeokboaaGreatNr
namespace Go.Proofs.YtcbepibdeokboaaGreat
open Go.RowKit
set_option maxRecDepth 4000
set_option linter.unusedVariables false

theorem VectorZ : ∀ a b c, Ans 16 #[.agg (v3 a b c)] (.agg (v3 a b c)) := fun a b c w => vector_core a b c w
def apI (X : Nat → Int) (x y z : Int) (k : Nat) : Int := cl ((X (k * 3) * x + X (k * 3 + 1) * y + X (k * 3 + 2) * z) / 4294967296)
theorem ApplyZ {X : Nat → Int} (hX : ∀ j, I64 (X j)) {x y z : Int} (hx : I64 x) (hy : I64 y) (hz : I64 z) : Ans 5 #[.agg (m9 X), .agg (v3 x y z)] (.agg (l3 (apI X x y z))) := fun w =>
  apply_core X (apI X x y z) x y z w VectorZ (fun k _ => DotZ _ _ _ _ _ _ (hX _) (hX _) (hX _) hx hy hz)
def muI (X Y : Nat → Int) (i : Nat) : Int := cl ((X (i / 3 * 3) * tr Y (i % 3 * 3) + X (i / 3 * 3 + 1) * tr Y (i % 3 * 3 + 1) + X (i / 3 * 3 + 2) * tr Y (i % 3 * 3 + 2)) / 4294967296)
theorem MulMZ {X Y : Nat → Int} (hX : ∀ j, I64 (X j)) (hY : ∀ j, I64 (Y j)) : Ans 7 #[.agg (m9 X), .agg (m9 Y)] (.agg (m9 (muI X Y))) := fun w =>
  mmul_core X Y (muI X Y) w VectorZ (fun k hk j hj => by
    have e1 : (k * 3 + j) / 3 = k := by omega
    have e2 : (k * 3 + j) % 3 = j := by omega
    unfold muI
    rw [e1, e2]
    exact DotZ _ _ _ _ _ _ (hX _) (hX _) (hX _) (hY _) (hY _) (hY _))
def beI (X : Nat → Int) (x y z : Int) (i : Nat) : Int := cl ((X (i / 3 * 3) * x * X (i % 3 * 3) + X (i / 3 * 3 + 1) * y * X (i % 3 * 3 + 1) + X (i / 3 * 3 + 2) * z * X (i % 3 * 3 + 2)) / 18446744073709551616)
theorem same_zeroM {d : Int} (h : Sz 192 d) (b : Bool) (hb : decide (d = 0) = b) : same (enc d) 0 = b := by
  have e : (0 : Nat) = enc 0 := by kernel_rfl
  rw [e, same_enc (h.fit (by decide)) fit_zero]
  exact hb
def ivI (X : Nat → Int) (i : Nat) : Int := mquo (mnr X (i % 3) (i / 3)) (detM X) 64
theorem InverseNo {X : Nat → Int} (hX : ∀ j, I64 (X j)) (h0 : detM X = 0) : Ans 10 #[.agg (m9 X)] (.tuple #[.agg zM, .bool false]) := fun w =>
  inverse_none X _ _ w (fun u => MinorsZ hX u) (fun g u hB => DeterminantZ hX g u hB) (same_zeroM (detM_sz hX) _ (decide_eq_true h0))
theorem InverseYes {X : Nat → Int} (hX : ∀ j, I64 (X j)) (h0 : detM X ≠ 0) : Ans 10 #[.agg (m9 X)] (.tuple #[.agg (m9 (ivI X)), .bool true]) := fun w => by
  have k := inverse_core X (ivI X) _ (fun k j => enc (mnr X j k)) _ w (fun u => MinorsZ hX u) (fun g u hB => DeterminantZ hX g u hB) (same_zeroM (detM_sz hX) _ (decide_eq_false h0)) (fun g k hk u hB => MColumnZ hX g hk u hB)
    (fun k hk j hj => by
      have e1 : (k * 3 + j) / 3 = k := by omega
      have e2 : (k * 3 + j) % 3 = j := by omega
      unfold ivI
      rw [e1, e2]
      exact MQuotZ _ _ 64 (by decide) ((mnr_sz hX j k).mono (by decide)) ((detM_sz hX).mono (by decide)) h0) VectorZ
  exact k
def svI (X : Nat → Int) (x y z : Int) (k : Nat) : Int := mquo (mnr X 0 k * x + mnr X 1 k * y + mnr X 2 k * z) (detM X) 32
theorem SolveNo {X : Nat → Int} (hX : ∀ j, I64 (X j)) (x y z : Int) (h0 : detM X = 0) : Ans 12 #[.agg (m9 X), .agg (v3 x y z)] (.tuple #[.agg (v3 0 0 0), .bool false]) := fun w =>
  solve_none X x y z _ _ w (fun u => MinorsZ hX u) (fun g u hB => DeterminantZ hX g u hB) (same_zeroM (detM_sz hX) _ (decide_eq_true h0))
theorem SolveYes {X : Nat → Int} (hX : ∀ j, I64 (X j)) {x y z : Int} (hx : I64 x) (hy : I64 y) (hz : I64 z) (h0 : detM X ≠ 0) : Ans 12 #[.agg (m9 X), .agg (v3 x y z)] (.tuple #[.agg (l3 (svI X x y z)), .bool true]) := fun w =>
  solve_core X (svI X x y z) x y z _ _ (fun k j => enc (mnr X j k)) (fun k => enc (mnr X 0 k * x + mnr X 1 k * y + mnr X 2 k * z)) _ w (fun u => MinorsZ hX u) (fun g u hB => DeterminantZ hX g u hB) (same_zeroM (detM_sz hX) _ (decide_eq_false h0)) (fun g k hk u hB => MColumnZ hX g hk u hB)
    (MRawZ x y z hx hy hz) (fun k _ => MSumZ (j := 127) (k := 63) _ _ _ _ _ _ (mnr_sz hX 0 k) (mnr_sz hX 1 k) (mnr_sz hX 2 k) hx.sz hy.sz hz.sz (by decide))
    (fun k _ => by
      have s1 := (mnr_sz hX 0 k).mul hx.sz
      have s2 := (mnr_sz hX 1 k).mul hy.sz
      have s3 := (mnr_sz hX 2 k).mul hz.sz
      exact MQuotZ _ _ 32 (by decide) (((s1.add s2).add (s3.mono (by decide))).mono (by decide)) ((detM_sz hX).mono (by decide)) h0) VectorZ
theorem OneZ : Ans 24 #[] (.agg (m9 (dg 4294967296 4294967296 4294967296))) := fun w => one_core w
theorem DiagZ (x y z : Int) : Ans 21 #[.agg (v3 x y z)] (.agg (m9 (dg x y z))) := fun w => diag_core x y z w
theorem dg_64 {x y z : Int} (hx : I64 x) (hy : I64 y) (hz : I64 z) (j : Nat) : I64 (dg x y z j) := by
  unfold dg
  split
  · exact hx
  · split
    · exact hy
    · split
      · exact hz
      · exact ⟨by decide, by decide⟩
theorem tr_64 {X : Nat → Int} (hX : ∀ j, I64 (X j)) (j : Nat) : I64 (tr X j) := hX _

/-- Rows set one after the other. -/
theorem rrows_core (x0 x1 x2 x3 x4 x5 x6 x7 x8 : Int) (w : World) :
    Calls Tryz.prog 20 #[.agg (v3 x0 x1 x2), .agg (v3 x3 x4 x5), .agg (v3 x6 x7 x8)] w fun e w' => e = .returned (.agg #[.int .i64 x0, .int .i64 x1, .int .i64 x2, .int .i64 x3, .int .i64 x4, .int .i64 x5, .int .i64 x6, .int .i64 x7, .int .i64 x8]) ∧ Below w.heap.size w w' := by
  go_enter Tryz.func20, Tryz.ntmps20
  go_wp2
  have E := (((((Gen.start w).push 24 (v3 x0 x1 x2)).push 24 (v3 x3 x4 x5)).push 24 (v3 x6 x7 x8)).push 27 #[.int .i64 x0, .int .i64 x1, .int .i64 x2, .int .i64 x3, .int .i64 x4, .int .i64 x5, .int .i64 x6, .int .i64 x7, .int .i64 x8]).push 27 #[.int .i64 x0, .int .i64 x1, .int .i64 x2, .int .i64 x3, .int .i64 x4, .int .i64 x5, .int .i64 x6, .int .i64 x7, .int .i64 x8]
  simp only [szA] at E
  exact resG rMat (E.blk (g := w.heap.size + 1 + 1 + 1) (t := 27) (cs := #[.int .i64 x0, .int .i64 x1, .int .i64 x2, .int .i64 x3, .int .i64 x4, .int .i64 x5, .int .i64 x6, .int .i64 x7, .int .i64 x8]) (by repeat (first | exact List.mem_cons_self | apply List.mem_cons_of_mem))) rfl rfl rfl rfl ⟨rfl, E.o⟩
theorem RRowsZ (x0 x1 x2 x3 x4 x5 x6 x7 x8 : Int) : Ans 20 #[.agg (v3 x0 x1 x2), .agg (v3 x3 x4 x5), .agg (v3 x6 x7 x8)] (.agg #[.int .i64 x0, .int .i64 x1, .int .i64 x2, .int .i64 x3, .int .i64 x4, .int .i64 x5, .int .i64 x6, .int .i64 x7, .int .i64 x8]) := fun w => rrows_core x0 x1 x2 x3 x4 x5 x6 x7 x8 w
theorem rdiag_core (x y z : Int) (w : World) :
    Calls Tryz.prog 23 #[.agg (v3 x y z)] w fun e w' => e = .returned (.agg (m9 (dg x y z))) ∧ Below w.heap.size w w' := by
  have hR := hide (RRowsZ x 0 0 0 y 0 0 0 z)
  go_enter Tryz.func23, Tryz.ntmps23
  go_upto_region 1 with fail
  have D := hide (((Gen.start w).push 24 (v3 x y z)).push 27 zM)
  simp only [szA] at D
  generalize (w.alloc (.cells (v3 x y z) 24)).alloc (.cells zM 27) = w1 at D ⊢
  go_wp2_with (first | (with_reducible refine at_list ?_; apply ldF (unhide D) _ rfl rfl rfl (by repeat (first | exact List.mem_cons_self | apply List.mem_cons_of_mem)) rfl) | (go_at_call 20; with_reducible refine (unhide hR _).mono ?_; rintro e w' ⟨he, hb⟩; subst he; have D := hide ((unhide D).keep hb); clear hb) | (with_reducible refine at_one ?_))
  unfold Stop
  have B0 := hide ((unhide D).blk (g := w.heap.size + 1) (t := 27) (cs := zM) (by repeat (first | exact List.mem_cons_self | apply List.mem_cons_of_mem)))
  refine wpList_store_row rfl 27 (.tmp 2) (.tmp 12) rfl _ (m9 (dg x y z)) rfl rfl 27 zM (unhide B0) rMat.i rfl (m9_one _) ?_
  have B := hide ((unhide B0).row (m9 (dg x y z)))
  have O := hide (below_row (unhide D).o (show w.heap.size ≤ w.heap.size + 1 by omega) (m9 (dg x y z)))
  clear D B0
  go_simp
  go_wp2
  exact resG rMat (unhide B) rfl rfl rfl rfl ⟨rfl, unhide O⟩
theorem RDiagZ (x y z : Int) : Ans 23 #[.agg (v3 x y z)] (.agg (m9 (dg x y z))) := fun w => rdiag_core x y z w

set_option maxHeartbeats 8000000 in
theorem awake4_core (X Y Iv : Nat → Int) (D1 : Nat → Int) (w : World) (ed : ((103079215104 : Int) == 103079215104) = true) (e1 : sameM Iv Y = true) (e2 : sameV 8589934592 17179869184 2147483648 8589934592 17179869184 2147483648 = true)
    (hDg : Hid (Ans 21 #[.agg (v3 8589934592 17179869184 2147483648)] (.agg (m9 X)))) (hIv : Hid (Ans 10 #[.agg (m9 X)] (.tuple #[.agg (m9 Iv), .bool true]))) (hNo : Hid (Ans 10 #[.agg zM] (.tuple #[.agg zM, .bool false])))
    (hD1 : Hid (Ans 21 #[.agg (v3 8589934592 12884901888 17179869184)] (.agg (m9 D1)))) (hDe : Hid (Ans 22 #[.agg (m9 D1)] (.int .i64 103079215104))) (hY : Hid (Ans 23 #[.agg (v3 2147483648 1073741824 8589934592)] (.agg (m9 Y))))
    (hOne : Hid (Ans 24 #[] (.agg (m9 (dg 4294967296 4294967296 4294967296))))) (hAp : Hid (Ans 5 #[.agg (m9 (dg 4294967296 4294967296 4294967296)), .agg (v3 8589934592 17179869184 2147483648)] (.agg (v3 8589934592 17179869184 2147483648)))) :
    Calls Tryz.prog 9 #[] w fun e w' => e = .returned (.bool true) ∧ Below w.heap.size w w' := by
  go_enter Tryz.func9, Tryz.ntmps9
  go_upto_region 2 with fail
  have D := hide ((Gen.start w).push 24 (v3 8589934592 17179869184 2147483648))
  generalize w.alloc _ = w1 at D ⊢
  go_upto_region 3 with (first | (with_reducible refine at_list ?_; apply ldG (unhide D) rVec _ rfl rfl rfl (by repeat (first | exact List.mem_cons_self | apply List.mem_cons_of_mem)) rfl) | (go_at_call 21; with_reducible refine (unhide hDg _).mono ?_; rintro e w' ⟨he, hb⟩; subst he; have D := hide ((unhide D).keep hb); clear hb) | (go_at_call 10; with_reducible refine (unhide hIv _).mono ?_; rintro e w' ⟨he, hb⟩; subst he; have D := hide ((unhide D).keep hb); clear hb) | (with_reducible refine at_list ?_; refine stG (unhide D) rMat _ _ rfl rfl rfl rfl rfl rfl (m9_one _) ?_; intro D'; have D := hide D'; clear D'))
  go_upto_region 4 with (first | (with_reducible refine at_list ?_;  refine bd0 27 rfl rfl (show Tryz.prog.built 27 [] = some zM by kernel_rfl) ?_) | (go_at_call 10; with_reducible refine (unhide hNo _).mono ?_; rintro e w' ⟨he, hb⟩; subst he; have D := hide ((unhide D).keep hb); clear hb) | (with_reducible refine at_list ?_; refine stG (unhide D) rMat _ _ rfl rfl rfl rfl rfl rfl (m9_one (fun _ => 0)) ?_; intro D'; have D := hide D'; clear D'))
  refine region_plan (S := Gen w _) (l := [0, 1, 2, 3, 4, 5, 6, 7, 8, 9, 10, 11, 12, 13, 14, 15, 16, 17, 18, 19, 20, 21, 22, 23, 24]) (by kernel_rfl) (by kernel_rfl) (by kernel_rfl) (by kernel_rfl) (by kernel_rfl) (by kernel_rfl) (by kernel_rfl) (unhide D).drew ?_
  clear D
  refine plan_read (v := .agg (v3 8589934592 12884901888 17179869184)) rfl rfl (fun u hS => by go_simp) ?_
  try go_simp
  refine plan_call (v := .agg (m9 D1)) (f := 21) (args := #[.agg (v3 8589934592 12884901888 17179869184)]) rfl rfl (fun u hS => by go_simp) (fun u hS => (unhide hD1 u).mono fun _ _ ⟨he, hb⟩ => ⟨he, hS.keep hb⟩) ?_
  try go_simp
  refine plan_call (v := .int .i64 103079215104) (f := 22) (args := #[.agg (m9 D1)]) rfl rfl (fun u hS => by go_simp) (fun u hS => (unhide hDe u).mono fun _ _ ⟨he, hb⟩ => ⟨he, hS.keep hb⟩) ?_
  try go_simp
  refine plan_read (v := .bool true) rfl rfl (fun u hS => by go_simp) ?_
  try go_simp
  refine plan_read (v := ?_) rfl rfl (fun u hS => by go_simp; rfl) ?_
  try go_simp
  refine plan_read (v := ?_) rfl rfl (fun u hS => by go_simp; rfl) ?_
  try go_simp
  refine plan_read (v := ?_) rfl rfl (fun u hS => by go_simp; rfl) ?_
  try go_simp
  refine plan_read (v := ?_) rfl rfl (fun u hS => by go_simp; rfl) ?_
  try go_simp
  refine plan_read (v := .agg (m9 Iv)) rfl rfl (fun u hS => exec_loadG hS rMat _ rfl rfl (by repeat (first | exact List.mem_cons_self | apply List.mem_cons_of_mem)) rfl) ?_
  try go_simp
  refine plan_read (v := .agg (v3 2147483648 1073741824 8589934592)) rfl rfl (fun u hS => by go_simp) ?_
  try go_simp
  refine plan_call (v := .agg (m9 Y)) (f := 23) (args := #[.agg (v3 2147483648 1073741824 8589934592)]) rfl rfl (fun u hS => by go_simp) (fun u hS => (unhide hY u).mono fun _ _ ⟨he, hb⟩ => ⟨he, hS.keep hb⟩) ?_
  try go_simp
  refine plan_read (v := .bool true) rfl rfl (fun u hS => exec_eql_mat _ _ _ e1 rfl rfl rfl) ?_
  try go_simp
  refine plan_read (v := ?_) rfl rfl (fun u hS => by go_simp; rfl) ?_
  try go_simp
  refine plan_read (v := ?_) rfl rfl (fun u hS => by go_simp; rfl) ?_
  try go_simp
  refine plan_read (v := ?_) rfl rfl (fun u hS => by go_simp; rfl) ?_
  try go_simp
  refine plan_read (v := ?_) rfl rfl (fun u hS => by go_simp; rfl) ?_
  try go_simp
  refine plan_read (v := ?_) rfl rfl (fun u hS => by go_simp; rfl) ?_
  try go_simp
  refine plan_read (v := ?_) rfl rfl (fun u hS => by go_simp; rfl) ?_
  try go_simp
  refine plan_call (v := .agg (m9 (dg 4294967296 4294967296 4294967296))) (f := 24) (args := #[]) rfl rfl (fun u hS => by go_simp) (fun u hS => (unhide hOne u).mono fun _ _ ⟨he, hb⟩ => ⟨he, hS.keep hb⟩) ?_
  try go_simp
  refine plan_read (v := .agg (v3 8589934592 17179869184 2147483648)) rfl rfl (fun u hS => exec_loadG hS rVec _ rfl rfl (by repeat (first | exact List.mem_cons_self | apply List.mem_cons_of_mem)) rfl) ?_
  try go_simp
  refine plan_call (v := .agg (v3 8589934592 17179869184 2147483648)) (f := 5) (args := #[.agg (m9 (dg 4294967296 4294967296 4294967296)), .agg (v3 8589934592 17179869184 2147483648)]) rfl rfl (fun u hS => by go_simp) (fun u hS => (unhide hAp u).mono fun _ _ ⟨he, hb⟩ => ⟨he, hS.keep hb⟩) ?_
  try go_simp
  refine plan_read (v := .agg (v3 8589934592 17179869184 2147483648)) rfl rfl (fun u hS => exec_loadG hS rVec _ rfl rfl (by repeat (first | exact List.mem_cons_self | apply List.mem_cons_of_mem)) rfl) ?_
  try go_simp
  refine plan_read (v := .bool true) rfl rfl (fun u hS => exec_eql_vec _ _ _ e2 rfl rfl rfl) ?_
  try go_simp
  refine plan_read (v := ?_) rfl rfl (fun u hS => by go_simp; rfl) ?_
  try go_simp
  refine plan_read (v := ?_) rfl rfl (fun u hS => by go_simp; rfl) ?_
  try go_simp
  refine plan_end (fun u hS => ?_)
  have O := hide hS.o
  clear hS
  go_wp2
  go_ret
  exact ⟨rfl, unhide O⟩
theorem ApplyAs {X : Nat → Int} (hX : ∀ j, I64 (X j)) {x y z : Int} (hx : I64 x) (hy : I64 y) (hz : I64 z) {c : Array Value} (h : l3 (apI X x y z) = c) : Ans 5 #[.agg (m9 X), .agg (v3 x y z)] (.agg c) := h ▸ ApplyZ hX hx hy hz
theorem DetAs {X : Nat → Int} (hX : ∀ j, I64 (X j)) {v : Int} (h : detI X = v) : Ans 22 #[.agg (m9 X)] (.int .i64 v) := h ▸ DetZ hX
theorem aw_n0 : detM (dg 8589934592 17179869184 2147483648) ≠ 0 := of_decide_eq_false (by kernel_rfl)
theorem aw_n1 : detM (fun _ => 0) = 0 := by kernel_rfl
theorem aw_e1 : sameM (ivI (dg 8589934592 17179869184 2147483648)) (dg 2147483648 1073741824 8589934592) = true := by kernel_rfl
theorem aw_e2 : detI (dg 8589934592 12884901888 17179869184) = 103079215104 := by kernel_rfl
theorem aw_e3 : l3 (apI (dg 4294967296 4294967296 4294967296) 8589934592 17179869184 2147483648) = v3 8589934592 17179869184 2147483648 := by kernel_rfl
theorem aw_e4 : sameV 8589934592 17179869184 2147483648 8589934592 17179869184 2147483648 = true := by kernel_rfl
theorem aw_i1 : I64 8589934592 := ⟨by decide, by decide⟩
theorem aw_i2 : I64 17179869184 := ⟨by decide, by decide⟩
theorem aw_i3 : I64 2147483648 := ⟨by decide, by decide⟩
theorem aw_i4 : I64 12884901888 := ⟨by decide, by decide⟩
theorem aw_i5 : I64 4294967296 := ⟨by decide, by decide⟩
theorem aw_k2 : Ans 10 #[.agg zM] (.tuple #[.agg zM, .bool false]) := InverseNo (X := fun _ => 0) (fun _ => (⟨by decide, by decide⟩ : I64 0)) aw_n1
theorem Awake4Z : Ans 9 #[] (.bool true) := fun w =>
  awake4_core _ _ _ _ w (by simp) aw_e1 aw_e4 (DiagZ _ _ _) (InverseYes (dg_64 aw_i1 aw_i2 aw_i3) aw_n0) aw_k2 (DiagZ _ _ _) (DetAs (dg_64 aw_i1 aw_i4 aw_i2) aw_e2) (RDiagZ _ _ _) OneZ (ApplyAs (dg_64 aw_i5 aw_i5 aw_i5) aw_i1 aw_i2 aw_i3 aw_e3)

end Go.Proofs.YtcbepibdeokboaaGreat
