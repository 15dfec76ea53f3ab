/- Package mat's law MatDiag. -/
import Derived.Test.YtkhfmhiinalfoaaNl
namespace Go.Proofs.Ytkhfmhiinalfoaa
open Go.RowKit
set_option maxRecDepth 4000
set_option linter.unusedVariables false

theorem exec_storeV {o : Oper} {a : Act} {w : World} {g : Nat} {t : TypeId} {old : Array Value} {c0 c1 c2 : Int} (ty : TypeId) (x y : Operand) (hb : Blk w g t old) (hold : old.size = 3) (hi : (Try.prog.info? ty).map (·.size) = some 3) (ho : o.op = .store ty x y) (hx : a.eval x = .pointer (some ⟨g, 0, none⟩)) (hy : a.eval y = .agg (v3 c0 c1 c2)) : (execOp a.eval o).run Try.prog w = .ok .skip (w.setRow g (v3 c0 c1 c2)) := by
  unfold execOp
  simp only [ho, hx, hy, Instr.storeAt, Instr.sureAddr, Sem.run_bind, Sem.run_pure, Result.andThen_ok, run_storeVar_row w g t ty old (v3 c0 c1 c2) hb hi hold (v3_one _ _ _)]

set_option maxHeartbeats 16000000 in
theorem diag_zero (M Dg0 : Nat → Int) (x y z p q r s0 s1 s2 : Int) (w : World) (hz : Hid (x = 0 ∨ (x ≠ 0 ∧ y = 0) ∨ (x ≠ 0 ∧ y ≠ 0 ∧ z = 0))) (eM : sameM M (fun _ => 0) = true) (eS : sameV s0 s1 s2 0 0 0 = true) (hDg : Hid (Ans 12 #[.agg (v3 x y z)] (.agg (m9 Dg0)))) (hIv : Hid (Ans 25 #[.agg (m9 Dg0)] (.tuple #[.agg (m9 M), .bool false]))) (hSv : Hid (Ans 26 #[.agg (m9 Dg0), .agg (v3 p q r)] (.tuple #[.agg (v3 s0 s1 s2), .bool false]))) (hW : Hid (Ans 17 #[] (.bool true))) :
    Calls Try.prog 9 #[.agg (v3 x y z), .agg (v3 p q r)] w fun e w' => e = .returned (.bool true) ∧ Below w.heap.size w w' := by
  go_enter Try.func9, Try.ntmps9
  go_upto_region 1 with fail
  have D := hide (((Gen.start w).push 24 (v3 x y z)).push 24 (v3 p q r))
  simp only [szA] at D
  generalize (w.alloc (.cells (v3 x y z) 24)).alloc (.cells (v3 p q r) 24) = w1 at D ⊢
  go_upto_region 2 with (first | (with_reducible refine at_list ?_; apply ldG (unhide D) rVec _ rfl rfl rfl (by repeat (first | exact List.mem_cons_self | apply List.mem_cons_of_mem)) rfl) | (go_at_call 12; with_reducible refine (unhide hDg _).mono ?_; rintro e w' ⟨he, hb⟩; subst he; have D := hide ((unhide D).keep hb); clear hb) | (go_at_call 25; with_reducible refine (unhide hIv _).mono ?_; rintro e w2 ⟨he, hb⟩; subst he; have D := hide ((unhide D).keep hb); clear hb) | (with_reducible refine at_list ?_; refine stG (unhide D) rMat _ _ rfl rfl rfl rfl rfl rfl (m9_one _) ?_; intro D'; have D := hide D'; clear D'))
  generalize w2.alloc _ = w3 at D ⊢
  generalize w2.heap.size = gM at *
  have D1 : Hid (GenZ w _ w3.heap.size w3.drew) := ⟨(unhide D).drew, Nat.le_refl _⟩
  have hlt := hide (fun (p : Nat × TypeId × Array Value) hp => ((unhide D).at_ p hp).lt)
  have hw0 := hide (unhide D).o.size
  clear D
  generalize w3.heap.size = C at D1 hlt hw0
  refine region_lazy (S := GenZ w _ C) (v := .bool false) (ty := 24) (zs := v3 0 0 0) (base := C) (l := [0, 1, 2, 3, 4, 5]) (A := [7]) (z := 6) (t := 8) (r := [9]) (by kernel_rfl) (by kernel_rfl) (by kernel_rfl) (by kernel_rfl) (by kernel_rfl) (by kernel_rfl) (by kernel_rfl) (by kernel_rfl) (by kernel_rfl) (by kernel_rfl) rfl rfl ?_ (fun _ _ h hb => h.keep hb) (fun _ h => h.s) (unhide D1) ?_
  · intro i hi
    simp at hi
    subst hi
    exact ⟨_, rfl, rfl, fun a w => by go_simp⟩
  clear D1
  refine planB_read (v := .agg (v3 x y z)) rfl rfl (fun u hS => exec_loadG hS.e rVec _ rfl rfl (by repeat (first | exact List.mem_cons_self | apply List.mem_cons_of_mem)) rfl) ?_
  try go_simp
  refine planB_call (v := .agg (m9 Dg0)) (f := 12) (args := #[.agg (v3 x y z)]) rfl rfl (fun u hS => by go_simp) (fun u hS => (unhide hDg u).mono fun _ _ ⟨he, hb⟩ => ⟨he, hS.keep hb, hb⟩) ?_
  try go_simp
  refine planB_read (v := .agg (v3 p q r)) rfl rfl (fun u hS => exec_loadG hS.e rVec _ rfl rfl (by repeat (first | exact List.mem_cons_self | apply List.mem_cons_of_mem)) rfl) ?_
  try go_simp
  refine planB_call (v := .tuple #[.agg (v3 s0 s1 s2), .bool false]) (f := 26) (args := #[.agg (m9 Dg0), .agg (v3 p q r)]) rfl rfl (fun u hS => by go_simp) (fun u hS => (unhide hSv u).mono fun _ _ ⟨he, hb⟩ => ⟨he, hS.keep hb, hb⟩) ?_
  try go_simp
  refine planB_read (v := .tuple #[.agg (v3 s0 s1 s2), .bool false]) rfl rfl (fun u hS => by go_simp) ?_
  try go_simp
  refine planB_read (v := .agg (v3 s0 s1 s2)) rfl rfl (fun u hS => by go_simp) ?_
  try go_simp
  refine planB_lazy rfl (fun u => by go_simp) rfl rfl (fun c u hS hB hI2 => ?_)
  have hB7 := hB 7 (by simp)
  clear hB hI2
  simp only [pa, dstOf]
  generalize c 7 = gS at hB7 ⊢
  have D := hide (hS.e.fillZ (cs := v3 s0 s1 s2) (unhide hlt) (unhide hw0) hB7.1 hB7.2)
  refine ⟨_, exec_storeV 24 (.tmp 7) (.tmp 21) hB7.1 rfl iVec3 rfl rfl rfl, ?_⟩
  clear hS hB7 hlt hw0
  generalize u.setRow gS (v3 s0 s1 s2) = u1 at D ⊢
  simp only [opsOf]
  go_simp
  go_upto_region 3 with fail
  clear hDg hIv hSv
  go_cut [35] (fun s35 wx => s35 = .bool true ∧ u1 = wx)
  case first =>
    rcases unhide hz with h0 | ⟨h0, h1⟩ | ⟨h0, h1, h2⟩
    · have e0 : (x == 0) = true := beq_iff_eq.2 h0
      clear h0 hz
      go_wp2_with (first | (with_reducible refine at_list ?_; apply ldF (unhide D) _ rfl rfl rfl (by repeat (first | exact List.mem_cons_self | apply List.mem_cons_of_mem)) rfl) | (with_reducible refine at_list ?_;  refine eqlZ _ _ e0 rfl rfl rfl rfl ?_))
      go_meet
      case rel => exact ⟨rfl, rfl⟩
    · have e0 : (x == 0) = false := beq_eq_false_iff_ne.2 h0
      have e1 : (y == 0) = true := beq_iff_eq.2 h1
      clear h0 h1 hz
      go_wp2_with (first | (with_reducible refine at_list ?_; apply ldF (unhide D) _ rfl rfl rfl (by repeat (first | exact List.mem_cons_self | apply List.mem_cons_of_mem)) rfl) | (with_reducible refine at_list ?_; apply ldFw (unhide D) _ rfl rfl rfl (by repeat (first | exact List.mem_cons_self | apply List.mem_cons_of_mem)) rfl) | (with_reducible refine at_list ?_;  refine eqlZ _ _ e0 rfl rfl rfl rfl ?_) | (with_reducible refine at_list ?_;  refine eqlZw _ _ e1 rfl rfl rfl rfl ?_))
      go_meet
      case rel => exact ⟨rfl, rfl⟩
    · have e0 : (x == 0) = false := beq_eq_false_iff_ne.2 h0
      have e1 : (y == 0) = false := beq_eq_false_iff_ne.2 h1
      have e2 : (z == 0) = true := beq_iff_eq.2 h2
      clear h0 h1 h2 hz
      go_wp2_with (first | (with_reducible refine at_list ?_; apply ldF (unhide D) _ rfl rfl rfl (by repeat (first | exact List.mem_cons_self | apply List.mem_cons_of_mem)) rfl) | (with_reducible refine at_list ?_; apply ldFw (unhide D) _ rfl rfl rfl (by repeat (first | exact List.mem_cons_self | apply List.mem_cons_of_mem)) rfl) | (with_reducible refine at_list ?_;  refine eqlZ _ _ e0 rfl rfl rfl rfl ?_) | (with_reducible refine at_list ?_;  refine eqlZw _ _ e1 rfl rfl rfl rfl ?_) | (with_reducible refine at_list ?_;  refine eqlZw _ _ e2 rfl rfl rfl rfl ?_))
      go_meet
      case rel => exact ⟨rfl, rfl⟩
  case rest =>
    obtain ⟨hs, hw⟩ := hcut
    subst hs hw
    go_upto_region 4 with fail
    refine list_start (S := Gen w _) (unhide D) ?_
    clear D
    try clear hz
    refine list_read (v := .bool false) rfl rfl (fun u hS => by go_simp) ?_
    try go_simp
    refine list_read (v := .bool true) rfl rfl (fun u hS => by go_simp) ?_
    try go_simp
    refine list_read (v := .bool true) rfl rfl (fun u hS => by go_simp) ?_
    try go_simp
    refine list_read (v := .bool false) rfl rfl (fun u hS => by go_simp) ?_
    try go_simp
    refine list_read (v := .bool true) rfl rfl (fun u hS => by go_simp) ?_
    try go_simp
    refine list_read (v := .bool true) rfl rfl (fun u hS => by go_simp) ?_
    try go_simp
    refine list_read (v := .bool true) rfl rfl (fun u hS => by go_simp) ?_
    try go_simp
    refine list_read (v := .agg (m9 M)) rfl rfl (fun u hS => exec_loadG hS rMat _ rfl rfl (by repeat (first | exact List.mem_cons_self | apply List.mem_cons_of_mem)) rfl) ?_
    try go_simp
    refine list_read (v := .agg zM) rfl rfl (fun u hS => exec_build0 _ 27 rfl (show Try.prog.built 27 [] = some zM by kernel_rfl)) ?_
    try go_simp
    refine list_read (v := .bool true) rfl rfl (fun u hS => exec_eql_mat (Y := fun _ => 0) _ _ _ eM rfl rfl rfl) ?_
    try go_simp
    refine list_read (v := .bool true) rfl rfl (fun u hS => by go_simp) ?_
    try go_simp
    refine list_read (v := .bool true) rfl rfl (fun u hS => by go_simp) ?_
    try go_simp
    refine list_read (v := .agg (v3 s0 s1 s2)) rfl rfl (fun u hS => exec_loadG hS rVec _ rfl rfl (by repeat (first | exact List.mem_cons_self | apply List.mem_cons_of_mem)) rfl) ?_
    try go_simp
    refine list_read (v := .agg (v3 0 0 0)) rfl rfl (fun u hS => by go_simp) ?_
    try go_simp
    refine list_read (v := .bool true) rfl rfl (fun u hS => exec_eql_vec _ _ _ eS rfl rfl rfl) ?_
    try go_simp
    refine list_read (v := .bool true) rfl rfl (fun u hS => by go_simp) ?_
    try go_simp
    refine list_read (v := .bool true) rfl rfl (fun u hS => by go_simp) ?_
    try go_simp
    refine list_call (v := .bool true) (f := 17) (args := #[]) rfl rfl (fun u hS => by go_simp) (fun u hS => (unhide hW u).mono fun _ _ ⟨he, hb⟩ => ⟨he, hS.keep hb⟩) ?_
    try go_simp
    refine list_read (v := .bool true) rfl rfl (fun u hS => by go_simp) ?_
    try go_simp
    refine list_read (v := .bool true) rfl rfl (fun u hS => by go_simp) ?_
    try go_simp
    refine list_end (fun u hS => ?_)
    have O := hide hS.o
    clear hS
    go_wp2
    go_ret
    exact ⟨rfl, unhide O⟩

set_option maxHeartbeats 16000000 in
theorem diag_some (M W Dg0 : Nat → Int) (x y z p q r s0 s1 s2 va vb vc vd ve vf : Int) (w : World) (e0 : (x == 0) = false) (e1 : (y == 0) = false) (e2 : (z == 0) = false) (eM : sameM M W = true) (eS : sameV s0 s1 s2 vd ve vf = true) (hDg : Hid (Ans 12 #[.agg (v3 x y z)] (.agg (m9 Dg0)))) (hIv : Hid (Ans 25 #[.agg (m9 Dg0)] (.tuple #[.agg (m9 M), .bool true]))) (hSv : Hid (Ans 26 #[.agg (m9 Dg0), .agg (v3 p q r)] (.tuple #[.agg (v3 s0 s1 s2), .bool true]))) (hW : Hid (Ans 17 #[] (.bool true)))
    (h1 : Hid (Ans 27 #[.int .i64 4294967296, .int .i64 x] (.int .i64 va))) (h2 : Hid (Ans 27 #[.int .i64 4294967296, .int .i64 y] (.int .i64 vb))) (h3 : Hid (Ans 27 #[.int .i64 4294967296, .int .i64 z] (.int .i64 vc))) (hWt : Hid (Ans 12 #[.agg (v3 va vb vc)] (.agg (m9 W))))
    (h4 : Hid (Ans 27 #[.int .i64 p, .int .i64 x] (.int .i64 vd))) (h5 : Hid (Ans 27 #[.int .i64 q, .int .i64 y] (.int .i64 ve))) (h6 : Hid (Ans 27 #[.int .i64 r, .int .i64 z] (.int .i64 vf))) :
    Calls Try.prog 9 #[.agg (v3 x y z), .agg (v3 p q r)] w fun e w' => e = .returned (.bool true) ∧ Below w.heap.size w w' := by
  go_enter Try.func9, Try.ntmps9
  go_upto_region 1 with fail
  have D := hide (((Gen.start w).push 24 (v3 x y z)).push 24 (v3 p q r))
  simp only [szA] at D
  generalize (w.alloc (.cells (v3 x y z) 24)).alloc (.cells (v3 p q r) 24) = w1 at D ⊢
  go_upto_region 2 with (first | (with_reducible refine at_list ?_; apply ldG (unhide D) rVec _ rfl rfl rfl (by repeat (first | exact List.mem_cons_self | apply List.mem_cons_of_mem)) rfl) | (go_at_call 12; with_reducible refine (unhide hDg _).mono ?_; rintro e w' ⟨he, hb⟩; subst he; have D := hide ((unhide D).keep hb); clear hb) | (go_at_call 25; with_reducible refine (unhide hIv _).mono ?_; rintro e w2 ⟨he, hb⟩; subst he; have D := hide ((unhide D).keep hb); clear hb) | (with_reducible refine at_list ?_; refine stG (unhide D) rMat _ _ rfl rfl rfl rfl rfl rfl (m9_one _) ?_; intro D'; have D := hide D'; clear D'))
  generalize w2.alloc _ = w3 at D ⊢
  generalize w2.heap.size = gM at *
  have D1 : Hid (GenZ w _ w3.heap.size w3.drew) := ⟨(unhide D).drew, Nat.le_refl _⟩
  have hlt := hide (fun (p : Nat × TypeId × Array Value) hp => ((unhide D).at_ p hp).lt)
  have hw0 := hide (unhide D).o.size
  clear D
  generalize w3.heap.size = C at D1 hlt hw0
  refine region_lazy (S := GenZ w _ C) (v := .bool true) (ty := 24) (zs := v3 0 0 0) (base := C) (l := [0, 1, 2, 3, 4, 5]) (A := [7]) (z := 6) (t := 8) (r := [9]) (by kernel_rfl) (by kernel_rfl) (by kernel_rfl) (by kernel_rfl) (by kernel_rfl) (by kernel_rfl) (by kernel_rfl) (by kernel_rfl) (by kernel_rfl) (by kernel_rfl) rfl rfl ?_ (fun _ _ h hb => h.keep hb) (fun _ h => h.s) (unhide D1) ?_
  · intro i hi
    simp at hi
    subst hi
    exact ⟨_, rfl, rfl, fun a w => by go_simp⟩
  clear D1
  refine planB_read (v := .agg (v3 x y z)) rfl rfl (fun u hS => exec_loadG hS.e rVec _ rfl rfl (by repeat (first | exact List.mem_cons_self | apply List.mem_cons_of_mem)) rfl) ?_
  try go_simp
  refine planB_call (v := .agg (m9 Dg0)) (f := 12) (args := #[.agg (v3 x y z)]) rfl rfl (fun u hS => by go_simp) (fun u hS => (unhide hDg u).mono fun _ _ ⟨he, hb⟩ => ⟨he, hS.keep hb, hb⟩) ?_
  try go_simp
  refine planB_read (v := .agg (v3 p q r)) rfl rfl (fun u hS => exec_loadG hS.e rVec _ rfl rfl (by repeat (first | exact List.mem_cons_self | apply List.mem_cons_of_mem)) rfl) ?_
  try go_simp
  refine planB_call (v := .tuple #[.agg (v3 s0 s1 s2), .bool true]) (f := 26) (args := #[.agg (m9 Dg0), .agg (v3 p q r)]) rfl rfl (fun u hS => by go_simp) (fun u hS => (unhide hSv u).mono fun _ _ ⟨he, hb⟩ => ⟨he, hS.keep hb, hb⟩) ?_
  try go_simp
  refine planB_read (v := .tuple #[.agg (v3 s0 s1 s2), .bool true]) rfl rfl (fun u hS => by go_simp) ?_
  try go_simp
  refine planB_read (v := .agg (v3 s0 s1 s2)) rfl rfl (fun u hS => by go_simp) ?_
  try go_simp
  refine planB_lazy rfl (fun u => by go_simp) rfl rfl (fun c u hS hB hI2 => ?_)
  have hB7 := hB 7 (by simp)
  clear hB hI2
  simp only [pa, dstOf]
  generalize c 7 = gS at hB7 ⊢
  have D := hide (hS.e.fillZ (cs := v3 s0 s1 s2) (unhide hlt) (unhide hw0) hB7.1 hB7.2)
  refine ⟨_, exec_storeV 24 (.tmp 7) (.tmp 21) hB7.1 rfl iVec3 rfl rfl rfl, ?_⟩
  clear hS hB7 hlt hw0
  generalize u.setRow gS (v3 s0 s1 s2) = u1 at D ⊢
  simp only [opsOf]
  go_simp
  clear hDg hIv hSv
  go_upto_region 5 with (first | (with_reducible refine at_list ?_; apply ldF (unhide D) _ rfl rfl rfl (by repeat (first | exact List.mem_cons_self | apply List.mem_cons_of_mem)) rfl) | (with_reducible refine at_list ?_; apply ldFw (unhide D) _ rfl rfl rfl (by repeat (first | exact List.mem_cons_self | apply List.mem_cons_of_mem)) rfl) | (with_reducible refine at_list ?_;  refine eqlZ _ _ e0 rfl rfl rfl rfl ?_) | (with_reducible refine at_list ?_;  refine eqlZw _ _ e1 rfl rfl rfl rfl ?_) | (with_reducible refine at_list ?_;  refine eqlZw _ _ e2 rfl rfl rfl rfl ?_))
  have D1 : Hid (GenZ w _ u1.heap.size u1.drew) := ⟨(unhide D).drew, Nat.le_refl _⟩
  have hlt := hide (fun (p : Nat × TypeId × Array Value) hp => ((unhide D).at_ p hp).lt)
  have hw0 := hide (unhide D).o.size
  clear D
  generalize u1.heap.size = C2 at D1 hlt hw0
  refine region_allocs (S := GenZ w _ C2) (t := 27) (z := zM) (base := C2) (l := [0, 1, 2, 3, 4, 5, 6, 7, 8, 9, 10]) (A := [11]) (T := [12]) (by kernel_rfl) (by kernel_rfl) (by kernel_rfl) (by kernel_rfl) (by kernel_rfl) (by kernel_rfl) (by kernel_rfl) (by kernel_rfl) (by kernel_rfl) (by kernel_rfl) ?_ (fun _ _ h hb => h.keep hb) (fun _ h => h.s) (unhide D1) ?_
  · intro i hi
    simp at hi
    subst hi
    exact ⟨_, rfl, rfl, fun a w => by go_simp⟩
  clear D1
  refine planB_read (v := ?_) rfl rfl (fun u hS => by go_simp; rfl) ?_
  try go_simp
  refine planB_read (v := .int .i64 x) rfl rfl (fun u hS => exec_loadFG hS.e _ rfl rfl (by repeat (first | exact List.mem_cons_self | apply List.mem_cons_of_mem)) rfl) ?_
  try go_simp
  refine planB_call (v := .int .i64 va) (f := 27) (args := #[.int .i64 4294967296, .int .i64 x]) rfl rfl (fun u hS => by go_simp) (fun u hS => (unhide h1 u).mono fun _ _ ⟨he, hb⟩ => ⟨he, hS.keep hb, hb⟩) ?_
  try go_simp
  refine planB_read (v := ?_) rfl rfl (fun u hS => by go_simp; rfl) ?_
  try go_simp
  refine planB_read (v := .int .i64 y) rfl rfl (fun u hS => exec_loadFG hS.e _ rfl rfl (by repeat (first | exact List.mem_cons_self | apply List.mem_cons_of_mem)) rfl) ?_
  try go_simp
  refine planB_call (v := .int .i64 vb) (f := 27) (args := #[.int .i64 4294967296, .int .i64 y]) rfl rfl (fun u hS => by go_simp) (fun u hS => (unhide h2 u).mono fun _ _ ⟨he, hb⟩ => ⟨he, hS.keep hb, hb⟩) ?_
  try go_simp
  refine planB_read (v := ?_) rfl rfl (fun u hS => by go_simp; rfl) ?_
  try go_simp
  refine planB_read (v := .int .i64 z) rfl rfl (fun u hS => exec_loadFG hS.e _ rfl rfl (by repeat (first | exact List.mem_cons_self | apply List.mem_cons_of_mem)) rfl) ?_
  try go_simp
  refine planB_call (v := .int .i64 vc) (f := 27) (args := #[.int .i64 4294967296, .int .i64 z]) rfl rfl (fun u hS => by go_simp) (fun u hS => (unhide h3 u).mono fun _ _ ⟨he, hb⟩ => ⟨he, hS.keep hb, hb⟩) ?_
  try go_simp
  refine planB_read (v := .agg (v3 va vb vc)) rfl rfl (fun u hS => by go_simp) ?_
  try go_simp
  refine planB_call (v := .agg (m9 W)) (f := 12) (args := #[.agg (v3 va vb vc)]) rfl rfl (fun u hS => by go_simp) (fun u hS => (unhide hWt u).mono fun _ _ ⟨he, hb⟩ => ⟨he, hS.keep hb, hb⟩) ?_
  try go_simp
  refine planB_tail (fun c' u hS hB hI => ?_)
  have h4' := hB 11 (by simp)
  clear hB hI
  simp only [pa, dstOf, opsOf]
  generalize c' 11 = gW at h4' ⊢
  have D := hide (hS.e.fillZ (cs := m9 W) (unhide hlt) (unhide hw0) h4'.1 h4'.2)
  refine wpList_store_row rfl 27 (.tmp 9) (.tmp 65) rfl gW (m9 W) rfl rfl 27 _ h4'.1 rMat.i rfl (m9_one _) ?_
  clear hS h4' hlt hw0 h1 h2 h3 hWt
  generalize u.setRow gW (m9 W) = u2 at D ⊢
  go_simp
  go_upto_region 6 with fail
  refine region_plan (S := Gen w _) (l := [0, 1, 2, 3, 4, 5, 6, 7, 8, 9, 10, 11, 12, 13, 14, 15, 16, 17, 18, 19, 20, 21, 22, 23, 24, 25, 26, 27, 28, 29, 30, 31, 32]) (by kernel_rfl) (by kernel_rfl) (by kernel_rfl) (by kernel_rfl) (by kernel_rfl) (by kernel_rfl) (by kernel_rfl) (unhide D).drew ?_
  clear D
  refine plan_read (v := .bool true) rfl rfl (fun u hS => by go_simp) ?_
  try go_simp
  refine plan_read (v := .bool true) rfl rfl (fun u hS => by go_simp) ?_
  try go_simp
  refine plan_read (v := .bool true) rfl rfl (fun u hS => by go_simp) ?_
  try go_simp
  refine plan_read (v := .bool true) rfl rfl (fun u hS => by go_simp) ?_
  try go_simp
  refine plan_read (v := .bool true) rfl rfl (fun u hS => by go_simp) ?_
  try go_simp
  refine plan_read (v := .agg (m9 M)) rfl rfl (fun u hS => exec_loadG hS rMat _ rfl rfl (by repeat (first | exact List.mem_cons_self | apply List.mem_cons_of_mem)) rfl) ?_
  try go_simp
  refine plan_read (v := .agg (m9 W)) rfl rfl (fun u hS => exec_loadG hS rMat _ rfl rfl (by repeat (first | exact List.mem_cons_self | apply List.mem_cons_of_mem)) rfl) ?_
  try go_simp
  refine plan_read (v := .bool true) rfl rfl (fun u hS => exec_eql_mat _ _ _ eM rfl rfl rfl) ?_
  try go_simp
  refine plan_read (v := .bool true) rfl rfl (fun u hS => by go_simp) ?_
  try go_simp
  refine plan_read (v := .bool true) rfl rfl (fun u hS => by go_simp) ?_
  try go_simp
  refine plan_read (v := .agg (v3 s0 s1 s2)) rfl rfl (fun u hS => exec_loadG hS rVec _ rfl rfl (by repeat (first | exact List.mem_cons_self | apply List.mem_cons_of_mem)) rfl) ?_
  try go_simp
  refine plan_read (v := ?_) rfl rfl (fun u hS => by go_simp; rfl) ?_
  try go_simp
  refine plan_read (v := .int .i64 p) rfl rfl (fun u hS => exec_loadFG hS _ rfl rfl (by repeat (first | exact List.mem_cons_self | apply List.mem_cons_of_mem)) rfl) ?_
  try go_simp
  refine plan_read (v := ?_) rfl rfl (fun u hS => by go_simp; rfl) ?_
  try go_simp
  refine plan_read (v := .int .i64 x) rfl rfl (fun u hS => exec_loadFG hS _ rfl rfl (by repeat (first | exact List.mem_cons_self | apply List.mem_cons_of_mem)) rfl) ?_
  try go_simp
  refine plan_call (v := .int .i64 vd) (f := 27) (args := #[.int .i64 p, .int .i64 x]) rfl rfl (fun u hS => by go_simp) (fun u hS => (unhide h4 u).mono fun _ _ ⟨he, hb⟩ => ⟨he, hS.keep hb⟩) ?_
  try go_simp
  refine plan_read (v := ?_) rfl rfl (fun u hS => by go_simp; rfl) ?_
  try go_simp
  refine plan_read (v := .int .i64 q) rfl rfl (fun u hS => exec_loadFG hS _ rfl rfl (by repeat (first | exact List.mem_cons_self | apply List.mem_cons_of_mem)) rfl) ?_
  try go_simp
  refine plan_read (v := ?_) rfl rfl (fun u hS => by go_simp; rfl) ?_
  try go_simp
  refine plan_read (v := .int .i64 y) rfl rfl (fun u hS => exec_loadFG hS _ rfl rfl (by repeat (first | exact List.mem_cons_self | apply List.mem_cons_of_mem)) rfl) ?_
  try go_simp
  refine plan_call (v := .int .i64 ve) (f := 27) (args := #[.int .i64 q, .int .i64 y]) rfl rfl (fun u hS => by go_simp) (fun u hS => (unhide h5 u).mono fun _ _ ⟨he, hb⟩ => ⟨he, hS.keep hb⟩) ?_
  try go_simp
  refine plan_read (v := ?_) rfl rfl (fun u hS => by go_simp; rfl) ?_
  try go_simp
  refine plan_read (v := .int .i64 r) rfl rfl (fun u hS => exec_loadFG hS _ rfl rfl (by repeat (first | exact List.mem_cons_self | apply List.mem_cons_of_mem)) rfl) ?_
  try go_simp
  refine plan_read (v := ?_) rfl rfl (fun u hS => by go_simp; rfl) ?_
  try go_simp
  refine plan_read (v := .int .i64 z) rfl rfl (fun u hS => exec_loadFG hS _ rfl rfl (by repeat (first | exact List.mem_cons_self | apply List.mem_cons_of_mem)) rfl) ?_
  try go_simp
  refine plan_call (v := .int .i64 vf) (f := 27) (args := #[.int .i64 r, .int .i64 z]) rfl rfl (fun u hS => by go_simp) (fun u hS => (unhide h6 u).mono fun _ _ ⟨he, hb⟩ => ⟨he, hS.keep hb⟩) ?_
  try go_simp
  refine plan_read (v := .agg (v3 vd ve vf)) rfl rfl (fun u hS => by go_simp) ?_
  try go_simp
  refine plan_read (v := .bool true) rfl rfl (fun u hS => exec_eql_vec _ _ _ eS rfl rfl rfl) ?_
  try go_simp
  refine plan_read (v := .bool true) rfl rfl (fun u hS => by go_simp) ?_
  try go_simp
  refine plan_read (v := .bool true) rfl rfl (fun u hS => by go_simp) ?_
  try go_simp
  refine plan_call (v := .bool true) (f := 17) (args := #[]) rfl rfl (fun u hS => by go_simp) (fun u hS => (unhide hW u).mono fun _ _ ⟨he, hb⟩ => ⟨he, hS.keep hb⟩) ?_
  try go_simp
  refine plan_read (v := .bool true) rfl rfl (fun u hS => by go_simp) ?_
  try go_simp
  refine plan_read (v := .bool true) rfl rfl (fun u hS => by go_simp) ?_
  try go_simp
  refine plan_end (fun u hS => ?_)
  have O := hide hS.o
  clear hS
  go_wp2
  go_ret
  exact ⟨rfl, unhide O⟩

theorem detM_dg (x y z : Int) : detM (dg x y z) = x * (y * z) := by
  show x * (y * z - 0 * 0) + 0 * (0 * 0 - 0 * z) + 0 * (0 * 0 - y * 0) = _
  grind
theorem fdiv_cut (c n x : Int) (hc : c ≠ 0) : (c * n).fdiv (c * x) = n.fdiv x := by
  rcases Int.lt_or_gt_of_ne hc with h | h
  · obtain ⟨k, rfl⟩ : ∃ k : Int, c = -k := ⟨-c, by omega⟩
    rw [Int.neg_mul, Int.neg_mul, Int.neg_fdiv_neg, Int.mul_fdiv_mul_of_pos _ _ (by omega)]
  · exact Int.mul_fdiv_mul_of_pos _ _ h
theorem mquo_cut (c n x : Int) (hc : c ≠ 0) (s : Nat) (m d : Int) (h1 : m = c * n) (h2 : d = c * x) : mquo m d s = cl ((n * ((2 ^ s : Nat) : Int)).fdiv x) := by
  unfold mquo
  rw [h1, h2, Int.mul_assoc, fdiv_cut _ _ _ hc]
theorem divD_yes (p x : Int) (hx : x ≠ 0) : divD p x = cl ((p * 4294967296).fdiv x) := by
  unfold divD
  split
  · rename_i h
    rw [h, Int.zero_mul, Int.zero_fdiv]
    rfl
  · first
    | rfl
    | rw [if_neg hx]
theorem mquo_no (d : Int) (s : Nat) : mquo 0 d s = 0 := by
  unfold mquo
  rw [Int.zero_mul, Int.zero_fdiv]
  rfl
theorem diag_inv (x y z : Int) (hx : x ≠ 0) (hy : y ≠ 0) (hz : z ≠ 0) : sameM (ivI (dg x y z)) (dg (divD 4294967296 x) (divD 4294967296 y) (divD 4294967296 z)) = true := sameM_of fun j hj => by
  have hd := detM_dg x y z
  have hyz : y * z ≠ 0 := Int.mul_ne_zero hy hz
  have hxz : x * z ≠ 0 := Int.mul_ne_zero hx hz
  have hxy : x * y ≠ 0 := Int.mul_ne_zero hx hy
  have k : ∀ i j : Nat, mnr (dg x y z) i j = 0 → mquo (mnr (dg x y z) i j) (detM (dg x y z)) 64 = 0 := fun i j h => by rw [h]; exact mquo_no _ _
  have e64 : (1 : Int) * ((2 ^ 64 : Nat) : Int) = 4294967296 * 4294967296 := by decide
  rcases (show j = 0 ∨ j = 1 ∨ j = 2 ∨ j = 3 ∨ j = 4 ∨ j = 5 ∨ j = 6 ∨ j = 7 ∨ j = 8 by omega) with rfl | rfl | rfl | rfl | rfl | rfl | rfl | rfl | rfl
  · show mquo (mnr (dg x y z) 0 0) (detM (dg x y z)) 64 = divD 4294967296 x
    rw [mquo_cut (y * z) 1 x hyz 64 _ _ (by first | (simp [mnr, dg]; done) | (simp [mnr, dg]; grind)) (by rw [hd]; grind), divD_yes _ _ hx, e64]
  · exact k 1 0 (by simp [mnr, dg])
  · exact k 2 0 (by simp [mnr, dg])
  · exact k 0 1 (by simp [mnr, dg])
  · show mquo (mnr (dg x y z) 1 1) (detM (dg x y z)) 64 = divD 4294967296 y
    rw [mquo_cut (x * z) 1 y hxz 64 _ _ (by first | (simp [mnr, dg]; done) | (simp [mnr, dg]; grind)) (by rw [hd]; grind), divD_yes _ _ hy, e64]
  · exact k 2 1 (by simp [mnr, dg])
  · exact k 0 2 (by simp [mnr, dg])
  · exact k 1 2 (by simp [mnr, dg])
  · show mquo (mnr (dg x y z) 2 2) (detM (dg x y z)) 64 = divD 4294967296 z
    rw [mquo_cut (x * y) 1 z hxy 64 _ _ (by first | (simp [mnr, dg]; done) | (simp [mnr, dg]; grind)) (by rw [hd]; grind), divD_yes _ _ hz, e64]
theorem diag_solve (x y z p q r : Int) (hx : x ≠ 0) (hy : y ≠ 0) (hz : z ≠ 0) : sameV (svI (dg x y z) p q r 0) (svI (dg x y z) p q r 1) (svI (dg x y z) p q r 2) (divD p x) (divD q y) (divD r z) = true := by
  have hd := detM_dg x y z
  have hyz : y * z ≠ 0 := Int.mul_ne_zero hy hz
  have hxz : x * z ≠ 0 := Int.mul_ne_zero hx hz
  have hxy : x * y ≠ 0 := Int.mul_ne_zero hx hy
  have a0 : svI (dg x y z) p q r 0 = divD p x := by
    unfold svI
    rw [mquo_cut (y * z) p x hyz 32 _ _ (by first | (simp [mnr, dg]; done) | (simp [mnr, dg]; grind)) (by rw [hd]; grind), divD_yes _ _ hx]
    rfl
  have a1 : svI (dg x y z) p q r 1 = divD q y := by
    unfold svI
    rw [mquo_cut (x * z) q y hxz 32 _ _ (by first | (simp [mnr, dg]; done) | (simp [mnr, dg]; grind)) (by rw [hd]; grind), divD_yes _ _ hy]
    rfl
  have a2 : svI (dg x y z) p q r 2 = divD r z := by
    unfold svI
    rw [mquo_cut (x * y) r z hxy 32 _ _ (by first | (simp [mnr, dg]; done) | (simp [mnr, dg]; grind)) (by rw [hd]; grind), divD_yes _ _ hz]
    rfl
  rw [a0, a1, a2]
  simp [sameV]
theorem matDiag_walk (x0 y0 z0 x1 y1 z1 : Int) (k0 : (Lit.int .i64 x0).wf = true) (l0 : (Lit.int .i64 y0).wf = true) (m0 : (Lit.int .i64 z0).wf = true) (k1 : (Lit.int .i64 x1).wf = true) (l1 : (Lit.int .i64 y1).wf = true) (m1 : (Lit.int .i64 z1).wf = true) (w : World) :
    Calls Try.prog 9 #[.agg (v3 x0 y0 z0), .agg (v3 x1 y1 z1)] w fun e w' => e = .returned (.bool true) ∧ Below w.heap.size w w' := by
  have hx := I64.wf k0
  have hy := I64.wf l0
  have hz := I64.wf m0
  have hD := dg_64 hx hy hz
  have hd := detM_dg x0 y0 z0
  by_cases h : x0 = 0 ∨ (x0 ≠ 0 ∧ y0 = 0) ∨ (x0 ≠ 0 ∧ y0 ≠ 0 ∧ z0 = 0)
  · have h0 : detM (dg x0 y0 z0) = 0 := by
      rw [hd]
      rcases h with h | ⟨_, h⟩ | ⟨_, _, h⟩ <;> rw [h] <;> simp
    exact diag_zero (fun _ => 0) _ x0 y0 z0 x1 y1 z1 0 0 0 w h (by decide) (by decide) (DiagZ _ _ _) (InverseNo hD h0) (SolveNo hD _ _ _ h0) Awake4Z
  · have nx : x0 ≠ 0 := fun e => h (.inl e)
    have ny : y0 ≠ 0 := fun e => h (.inr (.inl ⟨nx, e⟩))
    have nz : z0 ≠ 0 := fun e => h (.inr (.inr ⟨nx, ny, e⟩))
    have h0 : detM (dg x0 y0 z0) ≠ 0 := by
      rw [hd]
      exact Int.mul_ne_zero nx (Int.mul_ne_zero ny nz)
    exact diag_some _ _ _ x0 y0 z0 x1 y1 z1 _ _ _ _ _ _ _ _ _ w (beq_eq_false_iff_ne.2 nx) (beq_eq_false_iff_ne.2 ny) (beq_eq_false_iff_ne.2 nz) (diag_inv x0 y0 z0 nx ny nz) (diag_solve x0 y0 z0 x1 y1 z1 nx ny nz) (DiagZ _ _ _) (InverseYes hD h0) (SolveYes hD (I64.wf k1) (I64.wf l1) (I64.wf m1) h0) Awake4Z
      (FixDivZ _ _ aw_i5 hx) (FixDivZ _ _ aw_i5 hy) (FixDivZ _ _ aw_i5 hz) (DiagZ _ _ _) (FixDivZ _ _ (I64.wf k1) hx) (FixDivZ _ _ (I64.wf l1) hy) (FixDivZ _ _ (I64.wf m1) hz)

end Go.Proofs.Ytkhfmhiinalfoaa
