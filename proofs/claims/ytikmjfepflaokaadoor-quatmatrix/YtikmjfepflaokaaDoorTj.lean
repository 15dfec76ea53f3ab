/- Package quat: Matrix. Package quat: Spin, Back. -/
import Derived.Test.YtikmjfepflaokaaDoorTh
namespace Go.Proofs.YtikmjfepflaokaaDoor
open Go.RowKit
set_option maxRecDepth 4000
set_option linter.unusedVariables false

/-- The cells of a matrix. -/
abbrev m9 (f : Nat → Int) : Array Value := #[.int .i64 (f 0), .int .i64 (f 1), .int .i64 (f 2), .int .i64 (f 3), .int .i64 (f 4), .int .i64 (f 5), .int .i64 (f 6), .int .i64 (f 7), .int .i64 (f 8)]
abbrev zM : Array Value := #[.int .i64 0, .int .i64 0, .int .i64 0, .int .i64 0, .int .i64 0, .int .i64 0, .int .i64 0, .int .i64 0, .int .i64 0]
theorem m9_one (f : Nat → Int) : (m9 f).all (·.oneCell') = true := by simp [Value.oneCell']
theorem rMat : Rw 29 9 := ⟨⟨_, Tryd.underlying29, rfl⟩, by kernel_rfl⟩
/-- The first k rows of X, the others zero. -/
def rows9 (X : Nat → Int) (k j : Nat) : Int := if j < 3 * k then X j else 0
theorem m9_put (X : Nat → Int) (k : Nat) (hk : k < 3) : putC (m9 (rows9 X k)) (k * 3) (v3 (X (k * 3)) (X (k * 3 + 1)) (X (k * 3 + 2))).toList = m9 (rows9 X (k + 1)) := by
  rcases (show k = 0 ∨ k = 1 ∨ k = 2 by omega) with rfl | rfl | rfl <;> rfl
theorem m9_there {w : World} {g : Nat} {t : TypeId} {f : Nat → Int} (h : Blk w g t (m9 f)) {k : Nat} (hk : k < 3) : w.there g (k * 3) 3 := by
  intro j hj
  refine ⟨?_, h.frozen _⟩
  have hs : (m9 f).size = 9 := rfl
  rw [h.cell, Array.getElem?_eq_getElem (by rw [hs]; omega)]
  rfl
theorem Gen.setM {w0 w : World} {l : List (Nat × TypeId × Array Value)} {g k : Nat} {t : TypeId} {X : Nat → Int} (d : Gen w0 ((g, t, m9 (rows9 X k)) :: l) w) (hk : k < 3) (hg : w0.heap.size ≤ g) (hl : ∀ p ∈ l, p.1 ≠ g) : Gen w0 ((g, t, m9 (rows9 X (k + 1))) :: l) (w.setCells g (k * 3) (v3 (X (k * 3)) (X (k * 3 + 1)) (X (k * 3 + 2))).toList) := by
  refine ⟨fun p hp => ?_, below_cells hg _ _ _ d.o⟩
  rcases List.mem_cons.1 hp with e | hp
  · subst e
    have h := Blk.putC (v3 (X (k * 3)) (X (k * 3 + 1)) (X (k * 3 + 2))).toList (k * 3) _ _ (d.at_ _ List.mem_cons_self)
    rwa [m9_put X k hk] at h
  · exact Blk.putOther (hl p hp) _ _ _ (d.at_ p (List.mem_cons_of_mem _ hp))
theorem arrThree : Tryd.prog.underlying 27 = some (.array (Tryd.prog.arrayLen 27) (Tryd.prog.elem 27)) := by kernel_rfl
theorem lenThree : Tryd.prog.arrayLen 27 = 3 := by kernel_rfl
theorem elThree : (Tryd.prog.info? (Tryd.prog.elem 27)).map (·.size) = some 3 := by kernel_rfl
theorem exec_ix3 {o : Oper} {a : Act} (w : World) {g k : Nat} (x y : Operand) (hk : k < 3) (ho : o.op = .indexAddr 27 x y) (hx : a.eval x = .pointer (some ⟨g, 0, none⟩)) (hy : a.eval y = .int .i64 k) : (execOp a.eval o).run Tryd.prog w = .ok (.value (.pointer (some ⟨g, k * 3, none⟩))) w := by
  unfold execOp
  simp only [ho, hx, hy, Sem.run_bind, run_indexAt_array w _ _ _ _ arrThree, lenThree]
  rw [if_pos ⟨by omega, by omega⟩, run_sizeOf elThree]
  simp only [Result.andThen_ok, Sem.run_pure, Addr.add_mid, Int.toNat_natCast, Nat.zero_add]
theorem exec_mulI {o : Oper} {a : Act} (w : World) (p q : Operand) {x y z : Int} (hz : wrap64 (x * y) = z) (ho : o.op = .binOp .mul 3 p q 3) (hx : a.eval p = .int .i64 x) (hy : a.eval q = .int .i64 y) : (execOp a.eval o).run Tryd.prog w = .ok (.value (.int .i64 z)) w := by
  subst hz
  unfold execOp
  simp only [ho, hx, hy]
  go_simp
  unfold wrap64
  exact IntKind.wrap_i64 _
theorem exec_addI {o : Oper} {a : Act} (w : World) (p q : Operand) {x y z : Int} (hz : wrap64 (x + y) = z) (ho : o.op = .binOp .add 3 p q 3) (hx : a.eval p = .int .i64 x) (hy : a.eval q = .int .i64 y) : (execOp a.eval o).run Tryd.prog w = .ok (.value (.int .i64 z)) w := by
  subst hz
  unfold execOp
  simp only [ho, hx, hy]
  go_simp
  unfold wrap64
  exact IntKind.wrap_i64 _
set_option maxHeartbeats 2000000 in
theorem clos_QMat (i j : Nat) (hi : i < 3) (hj : j < 3) (L : List Nat) (n N : Nat) (v : Int) (g0 g1 g2 : Nat) (u : World) (h0 : Blk u g0 60 (ws L)) (h1 : Blk u g1 3 #[.int .i64 i]) (h2 : Blk u g2 42 (cells8 N)) (hn : L[i * 3 + j]? = some n) (hF : Hid (Ans 31 #[.agg (cells8 n), .agg (cells8 N)] (.int .i64 v))) :
    Calls Tryd.prog 30 #[.int .i64 j, .pointer (some ⟨g0, 0, none⟩), .pointer (some ⟨g1, 0, none⟩), .pointer (some ⟨g2, 0, none⟩)] u fun e w' => e = .returned (.int .i64 v) ∧ Below u.heap.size u w' := by
  have D := hide (Gen.third h0 h1 h2 (Below.refl _ u))
  have z1 : wrap64 ((i : Int) * 3) = ((i * 3 : Nat) : Int) := by rw [wrap_self ⟨by omega, by omega⟩]; omega
  have z2 : wrap64 (((i * 3 : Nat) : Int) + (j : Int)) = ((i * 3 + j : Nat) : Int) := by rw [wrap_self ⟨by omega, by omega⟩]; omega
  have Z1 := hide z1
  have Z2 := hide z2
  clear h0 h1 h2 z1 z2
  go_enter Tryd.func30, Tryd.ntmps30
  go_upto_region 1 with fail
  refine region_plan (S := Gen u _) (l := [0, 1, 2, 3, 4, 5, 6, 7, 8]) (by kernel_rfl) (by kernel_rfl) (by kernel_rfl) (by kernel_rfl) (by kernel_rfl) (by kernel_rfl) (by kernel_rfl) (unhide D).drew ?_
  clear D
  refine plan_read (v := .int .i64 i) rfl rfl (fun u hS => exec_loadIG hS _ rfl rfl (by repeat (first | exact List.mem_cons_self | apply List.mem_cons_of_mem)) rfl) ?_
  go_simp
  refine plan_read (v := .int .i64 ((i * 3 : Nat) : Int)) rfl rfl (fun u hS => exec_mulI u (.tmp 6) (.const (.int .i64 3)) (unhide Z1) rfl rfl rfl) ?_
  refine plan_read (v := .int .i64 j) rfl rfl (fun u hS => by go_simp) ?_
  refine plan_read (v := .int .i64 ((i * 3 + j : Nat) : Int)) rfl rfl (fun u hS => exec_addI u (.tmp 7) (.tmp 8) (unhide Z2) rfl rfl rfl) ?_
  refine plan_read (v := .pointer (some ⟨g0, (i * 3 + j) * 8, none⟩)) rfl rfl (fun u hS => exec_ix9 u (.tmp 1) (.tmp 9) (show i * 3 + j < 9 by omega) rfl rfl rfl) ?_
  refine plan_read (v := .agg (cells8 n)) rfl rfl (fun u hS => exec_ldMid (.tmp 10) rfl rfl (ws_range (hS.blk (g := g0) (t := 60) (cs := ws L) (by repeat (first | exact List.mem_cons_self | apply List.mem_cons_of_mem))) hn)) ?_
  refine plan_read (v := .agg (cells8 N)) rfl rfl (fun u hS => exec_loadG hS rWide (.tmp 3) rfl rfl (by repeat (first | exact List.mem_cons_self | apply List.mem_cons_of_mem)) rfl) ?_
  refine plan_call (v := .int .i64 v) (f := 31) (args := #[.agg (cells8 n), .agg (cells8 N)]) rfl rfl (fun u hS => by go_simp) (fun u hS => (unhide hF u).mono fun _ _ ⟨he, hb⟩ => ⟨he, hS.keep hb⟩) ?_
  refine plan_read (v := .int .i64 v) rfl rfl (fun u hS => by go_simp) ?_
  refine plan_end (fun u hS => ?_)
  have O := hide hS.o
  clear hS Z1 Z2
  go_simp
  go_wp2
  go_ret
  exact ⟨rfl, unhide O⟩
theorem qMat_bad (a b c d : Int) (e0 e1 e2 e3 n : Nat) (w : World) (hR : Hid (Ans 26 #[.agg (q4 a b c d)] (.agg (ws [e0, e1, e2, e3])))) (hS : Hid (Ans 27 #[.agg (ws [e0, e1, e2, e3])] (.agg (cells8 n)))) (hC : Hid (Ans 28 #[.agg (cells8 n)] (.int .i64 9))) :
    Calls Tryd.prog 10 #[.agg (q4 a b c d)] w fun e w' => e = .returned (.tuple #[.agg zM, .int .i64 9]) ∧ Below w.heap.size w w' := by
  go_enter Tryd.func10, Tryd.ntmps10
  go_upto_region 1 with fail
  have D := hide (((Gen.start w).push 24 (q4 a b c d)).push 29 zM)
  simp only [szA] at D
  go_wp2_with (first | (with_reducible refine at_list ?_; apply ldG (unhide D) rQuat _ rfl rfl rfl (by repeat (first | exact List.mem_cons_self | apply List.mem_cons_of_mem)) rfl) | (with_reducible refine at_list ?_; apply ldG (unhide D) rNum _ rfl rfl rfl (by repeat (first | exact List.mem_cons_self | apply List.mem_cons_of_mem)) rfl) | (with_reducible refine at_list ?_; apply ldG (unhide D) rWide _ rfl rfl rfl (by repeat (first | exact List.mem_cons_self | apply List.mem_cons_of_mem)) rfl) | (go_at_call 26; with_reducible refine (unhide hR _).mono ?_; rintro e w' ⟨he, hb⟩; subst he; have D := hide ((unhide D).keep hb); clear hb) | (go_at_call 27; with_reducible refine (unhide hS _).mono ?_; rintro e w' ⟨he, hb⟩; subst he; have D := hide ((unhide D).keep hb); clear hb) | (go_at_call 28; with_reducible refine (unhide hC _).mono ?_; rintro e w' ⟨he, hb⟩; subst he; have D := hide ((unhide D).keep hb); clear hb) | (with_reducible refine at_list ?_; refine stG (unhide D) rNum _ _ rfl rfl rfl rfl rfl rfl (ws_one _) ?_; intro D'; have D := hide D'; clear D') | (with_reducible refine at_list ?_; refine stG (unhide D) rWide _ _ rfl rfl rfl rfl rfl rfl (cells8_one _) ?_; intro D'; have D := hide D'; clear D') | (with_reducible refine at_list ?_; apply stGend (unhide D) rMat _ _ rfl rfl rfl rfl (by repeat (first | exact List.mem_cons_self | apply List.mem_cons_of_mem)) (by omega) rfl rfl (m9_one (fun _ => 0)); intro B O))
  exact resGT rMat (unhide B) rfl rfl rfl rfl rfl ⟨rfl, unhide O⟩
set_option maxHeartbeats 8000000 in
theorem qMat_core (T : Array Value) (a b c d : Int) (e0 e1 e2 e3 n : Nat) (E : List Nat) (X : Nat → Int) (w : World) (hT : Tab 0 T w) (hEs : (ws E).size = 72) (hR : Hid (Ans 26 #[.agg (q4 a b c d)] (.agg (ws [e0, e1, e2, e3])))) (hS : Hid (Ans 27 #[.agg (ws [e0, e1, e2, e3])] (.agg (cells8 n)))) (hC : Hid (Ans 28 #[.agg (cells8 n)] (.int .i64 0)))
    (hTn : Hid (∀ u, Tab 0 T u → Calls Tryd.prog 29 #[.agg (ws [e0, e1, e2, e3])] u fun e w' => e = .returned (.agg (ws E)) ∧ Below u.heap.size u w'))
    (hC0 : Hid (∀ k : Nat, k < 3 → ∀ u g0 g1 g2, Blk u g0 60 (ws E) → Blk u g1 3 #[.int .i64 k] → Blk u g2 42 (cells8 n) → Calls Tryd.prog 30 #[.int .i64 0, .pointer (some ⟨g0, 0, none⟩), .pointer (some ⟨g1, 0, none⟩), .pointer (some ⟨g2, 0, none⟩)] u fun e w' => e = .returned (.int .i64 (X (k * 3))) ∧ Below u.heap.size u w'))
    (hC1 : Hid (∀ k : Nat, k < 3 → ∀ u g0 g1 g2, Blk u g0 60 (ws E) → Blk u g1 3 #[.int .i64 k] → Blk u g2 42 (cells8 n) → Calls Tryd.prog 30 #[.int .i64 1, .pointer (some ⟨g0, 0, none⟩), .pointer (some ⟨g1, 0, none⟩), .pointer (some ⟨g2, 0, none⟩)] u fun e w' => e = .returned (.int .i64 (X (k * 3 + 1))) ∧ Below u.heap.size u w'))
    (hC2 : Hid (∀ k : Nat, k < 3 → ∀ u g0 g1 g2, Blk u g0 60 (ws E) → Blk u g1 3 #[.int .i64 k] → Blk u g2 42 (cells8 n) → Calls Tryd.prog 30 #[.int .i64 2, .pointer (some ⟨g0, 0, none⟩), .pointer (some ⟨g1, 0, none⟩), .pointer (some ⟨g2, 0, none⟩)] u fun e w' => e = .returned (.int .i64 (X (k * 3 + 2))) ∧ Below u.heap.size u w')) :
    Calls Tryd.prog 10 #[.agg (q4 a b c d)] w fun e w' => e = .returned (.tuple #[.agg (m9 (rows9 X 3)), .int .i64 0]) ∧ Below w.heap.size w w' := by
  have hTlt := hT.lt
  have HT := hide hT
  clear hT
  go_enter Tryd.func10, Tryd.ntmps10
  go_upto_region 1 with fail
  have D := hide (((Gen.start w).push 24 (q4 a b c d)).push 29 zM)
  simp only [szA] at D
  go_upto_region 6 with (first | (with_reducible refine at_list ?_; apply ldG (unhide D) rQuat _ rfl rfl rfl (by repeat (first | exact List.mem_cons_self | apply List.mem_cons_of_mem)) rfl) | (with_reducible refine at_list ?_; apply ldG (unhide D) rNum _ rfl rfl rfl (by repeat (first | exact List.mem_cons_self | apply List.mem_cons_of_mem)) rfl) | (with_reducible refine at_list ?_; apply ldG (unhide D) rWide _ rfl rfl rfl (by repeat (first | exact List.mem_cons_self | apply List.mem_cons_of_mem)) rfl) | (go_at_call 26; with_reducible refine (unhide hR _).mono ?_; rintro e w4 ⟨he, hb⟩; subst he; have D := hide ((unhide D).keep hb); clear hb) | (go_at_call 27; with_reducible refine (unhide hS _).mono ?_; rintro e w5 ⟨he, hb⟩; subst he; have D := hide ((unhide D).keep hb); clear hb) | (go_at_call 28; with_reducible refine (unhide hC _).mono ?_; rintro e w6 ⟨he, hb⟩; subst he; have D := hide ((unhide D).keep hb); clear hb) | (with_reducible refine at_list ?_; refine stG (unhide D) rNum _ _ rfl rfl rfl rfl rfl rfl (ws_one _) ?_; intro D'; have D := hide D'; clear D') | (with_reducible refine at_list ?_; refine stG (unhide D) rWide _ _ rfl rfl rfl rfl rfl rfl (cells8_one _) ?_; intro D'; have D := hide D'; clear D'))
  go_upto_region 7 with (first | (with_reducible refine at_list ?_; apply ldG (unhide D) rNum _ rfl rfl rfl (by repeat (first | exact List.mem_cons_self | apply List.mem_cons_of_mem)) rfl) | (go_at_call 29; with_reducible refine (unhide hTn _ ((unhide HT).below (unhide D).o hTlt)).mono ?_; rintro e w7 ⟨he, hb⟩; subst he; have D := hide ((unhide D).keep hb); clear hb) | (with_reducible refine at_list ?_;  refine stG (unhide D) rNine _ _ rfl rfl rfl rfl rfl hEs (ws_one _) ?_; intro D'; have D := hide D'; clear D'))
  clear HT hR hS hC hTn
  go_upto_region 8 with fail
  have hl8 := hide (fun p hp => Nat.ne_of_lt ((unhide D).at_ p hp).lt)
  have hw8 := hide (unhide D).o.size
  have D := hide ((unhide D).push 29 zM)
  simp only [szA] at D hl8 hw8
  generalize hg1 : ((w7.alloc (.cells (ws E) 60)).alloc (.cells zM 29)) = w8 at D ⊢
  clear hg1
  generalize w7.heap.size = g7 at *
  generalize w5.heap.size = g5 at *
  generalize w4.heap.size = g4 at *
  go_wp2_with fail
  go_loopw [23] (fun i wr => ∃ k : Nat, k ≤ 3 ∧ i = .int .i64 k ∧ Hid (Gen w [(g7 + 1, 29, m9 (rows9 X k)), (g7, 60, ws E), (g5, 42, cells8 n), (g4, 56, ws [e0, e1, e2, e3]), (w.heap.size + 1, 29, zM), (w.heap.size, 24, q4 a b c d)] wr)) (fun i _ => 3 - (intOf i).toNat)
  case atStart => exact ⟨0, by omega, rfl, D⟩
  case round =>
    obtain ⟨k, hk, rfl, hD⟩ := hrel
    by_cases hkn : k < 3
    · have hg : (k : Int) < 3 := by omega
      have C0 := hide (fun u g0 g1 g2 => unhide hC0 k hkn u g0 g1 g2)
      have C1 := hide (fun u g0 g1 g2 => unhide hC1 k hkn u g0 g1 g2)
      have C2 := hide (fun u g0 g1 g2 => unhide hC2 k hkn u g0 g1 g2)
      clear hC0 hC1 hC2 D
      have D := hD
      clear hD
      go_upto_region 12 with fail
      have D := hide ((unhide D).push 3 #[.int .i64 k])
      generalize hx0 : X (k * 3) = y0 at *
      generalize hx1 : X (k * 3 + 1) = y1 at *
      generalize hx2 : X (k * 3 + 2) = y2 at *
      refine region_last (S := Gen w _) (f := 10) (l := [0, 1, 2, 3, 4, 5, 6, 7, 8, 9]) (by kernel_rfl) (by kernel_rfl) (by kernel_rfl) (by kernel_rfl) (by kernel_rfl) (by kernel_rfl) (by kernel_rfl) (by kernel_rfl) (by kernel_rfl) (by kernel_rfl) rfl rfl (unhide D).drew ?_
      clear D
      refine plan_read (v := .int .i64 k) rfl rfl (fun u hS => exec_loadIG hS (.tmp 9) rfl rfl (by repeat (first | exact List.mem_cons_self | apply List.mem_cons_of_mem)) rfl) ?_
      go_simp
      refine plan_read (v := ?_) rfl rfl (fun u hS => by go_simp; rfl) ?_
      go_simp
      refine plan_call (v := .int .i64 y0) (f := 30) (args := #[.int .i64 0, .pointer (some ⟨g7, 0, none⟩), .pointer (some ⟨wr.heap.size, 0, none⟩), .pointer (some ⟨g5, 0, none⟩)]) rfl rfl (fun u hS => by go_simp) (fun u hS => (unhide C0 u _ _ _ (hS.blk (by repeat (first | exact List.mem_cons_self | apply List.mem_cons_of_mem))) (hS.blk (by repeat (first | exact List.mem_cons_self | apply List.mem_cons_of_mem))) (hS.blk (by repeat (first | exact List.mem_cons_self | apply List.mem_cons_of_mem)))).mono fun _ _ ⟨he, hb⟩ => ⟨he, hS.keep hb⟩) ?_
      go_simp
      refine plan_read (v := ?_) rfl rfl (fun u hS => by go_simp; rfl) ?_
      go_simp
      refine plan_call (v := .int .i64 y1) (f := 30) (args := #[.int .i64 1, .pointer (some ⟨g7, 0, none⟩), .pointer (some ⟨wr.heap.size, 0, none⟩), .pointer (some ⟨g5, 0, none⟩)]) rfl rfl (fun u hS => by go_simp) (fun u hS => (unhide C1 u _ _ _ (hS.blk (by repeat (first | exact List.mem_cons_self | apply List.mem_cons_of_mem))) (hS.blk (by repeat (first | exact List.mem_cons_self | apply List.mem_cons_of_mem))) (hS.blk (by repeat (first | exact List.mem_cons_self | apply List.mem_cons_of_mem)))).mono fun _ _ ⟨he, hb⟩ => ⟨he, hS.keep hb⟩) ?_
      go_simp
      refine plan_read (v := ?_) rfl rfl (fun u hS => by go_simp; rfl) ?_
      go_simp
      refine plan_call (v := .int .i64 y2) (f := 30) (args := #[.int .i64 2, .pointer (some ⟨g7, 0, none⟩), .pointer (some ⟨wr.heap.size, 0, none⟩), .pointer (some ⟨g5, 0, none⟩)]) rfl rfl (fun u hS => by go_simp) (fun u hS => (unhide C2 u _ _ _ (hS.blk (by repeat (first | exact List.mem_cons_self | apply List.mem_cons_of_mem))) (hS.blk (by repeat (first | exact List.mem_cons_self | apply List.mem_cons_of_mem))) (hS.blk (by repeat (first | exact List.mem_cons_self | apply List.mem_cons_of_mem)))).mono fun _ _ ⟨he, hb⟩ => ⟨he, hS.keep hb⟩) ?_
      go_simp
      refine plan_read (v := .agg (v3 y0 y1 y2)) rfl rfl (fun u hS => by go_simp) ?_
      go_simp
      refine plan_read (v := .pointer (some ⟨g7 + 1, 0, none⟩)) rfl rfl (fun u hS => by go_simp) ?_
      go_simp
      refine plan_read (v := .pointer (some ⟨g7 + 1, k * 3, none⟩)) rfl rfl (fun u hS => exec_ix3 u (.tmp 35) (.tmp 27) hkn rfl rfl rfl) ?_
      go_simp
      refine plan_last (fun u hS => ?_)
      have B5 := hide (hS.blk (g := g7 + 1) (t := 29) (cs := m9 (rows9 X k)) (by repeat (first | exact List.mem_cons_self | apply List.mem_cons_of_mem)))
      refine wp_store_mid 26 (.tmp 36) (.tmp 34) rfl (g7 + 1) (k * 3) (v3 y0 y1 y2) rfl rfl (m9_there (unhide B5) hkn) iVec3 (v3_one _ _ _) ?_
      have D := hide (hS.tail.setM hkn (Nat.le_trans (unhide hw8) (Nat.le_refl _)) (unhide hl8))
      rw [hx0, hx1, hx2] at D
      clear hS B5 C0 C1 C2 hx0 hx1 hx2
      generalize u.setCells _ _ _ = u1 at D ⊢
      go_wp2
      go_roundw
      case rel => exact ⟨k + 1, by omega, by go_num, D⟩
      case measure => simp [intOf]; omega
    · obtain rfl : k = 3 := by omega
      have D := hD
      clear hD hC0 hC1 hC2
      go_wp2_with (first | (with_reducible refine at_list ?_; apply ldG (unhide D) rMat _ rfl rfl rfl (by repeat (first | exact List.mem_cons_self | apply List.mem_cons_of_mem)) rfl) | (with_reducible refine at_list ?_; apply stGend (unhide D) rMat _ _ rfl rfl rfl rfl (by repeat (first | exact List.mem_cons_self | apply List.mem_cons_of_mem)) (by omega) rfl rfl (m9_one _); intro B O))
      exact resGT rMat (unhide B) rfl rfl rfl rfl rfl ⟨rfl, unhide O⟩
/-- A number of the matrix. -/
def matQ (a b c d : Int) (j : Nat) : Int := quo (trn a b c d 24 j) (sq4 a b c d)
theorem QMatBad (a b c d : Int) (h0 : I64 a) (h1 : I64 b) (h2 : I64 c) (h3 : I64 d) (hc : chk (sq4 a b c d) = 9) : Ans 10 #[.agg (q4 a b c d)] (.tuple #[.agg zM, .int .i64 9]) := fun w =>
  qMat_bad a b c d _ _ _ _ _ w (QRawZ a b c d h0 h1 h2 h3) (QSquareZ a b c d (n4_I64 h0 h1 h2 h3)) (hc ▸ CheckN _ ((sq4_sz (n4_I64 h0 h1 h2 h3)).mono (by decide)))
theorem QMatZ (a b c d : Int) (h0 : I64 a) (h1 : I64 b) (h2 : I64 c) (h3 : I64 d) (hc : chk (sq4 a b c d) = 0) (w : World) (hT : Tab 0 tabT w) :
    Calls Tryd.prog 10 #[.agg (q4 a b c d)] w fun e w' => e = .returned (.tuple #[.agg (m9 (matQ a b c d)), .int .i64 0]) ∧ Below w.heap.size w w' := by
  have hq := n4_I64 h0 h1 h2 h3
  have hs := (sq4_sz hq).mono (show 130 ≤ 200 by decide)
  have hp : 0 < sq4 a b c d := by have := chk_pos hc; omega
  have hF : ∀ j, Ans 31 #[V (trn a b c d 24 j), V (sq4 a b c d)] (.int .i64 (matQ a b c d j)) := fun j => QuotZ _ _ ((trn_sz hq 24 j (by decide)).mono (by decide)) hs hp
  exact qMat_core tabT a b c d _ _ _ _ _ (ac9 (trn a b c d 24)) (matQ a b c d) w hT rfl (QRawZ a b c d h0 h1 h2 h3) (QSquareZ a b c d hq) (hc ▸ CheckN _ hs) (fun u h => TurnZ a b c d hq u h)
    (fun k hk u g0 g1 g2 b0 b1 b2 => clos_QMat k 0 hk (by decide) _ _ _ _ g0 g1 g2 u b0 b1 b2 (ac9_get (show k * 3 + 0 < 9 by omega)) (hF _))
    (fun k hk u g0 g1 g2 b0 b1 b2 => clos_QMat k 1 hk (by decide) _ _ _ _ g0 g1 g2 u b0 b1 b2 (ac9_get (show k * 3 + 1 < 9 by omega)) (hF _))
    (fun k hk u g0 g1 g2 b0 b1 b2 => clos_QMat k 2 hk (by decide) _ _ _ _ g0 g1 g2 u b0 b1 b2 (ac9_get (show k * 3 + 2 < 9 by omega)) (hF _))

end Go.Proofs.YtikmjfepflaokaaDoor

namespace Go.Proofs.YtikmjfepflaokaaDoor
open Go.RowKit
set_option maxRecDepth 4000
set_option linter.unusedVariables false

set_option maxHeartbeats 4000000 in
theorem clos_QSpin (k : Nat) (hk : k < 4) (Sp Wa : List Nat) (x t y M L R : Nat) (E : Bool) (v : Int) (g0 g1 g2 : Nat) (w : World) (h0 : Blk w g0 56 (ws Sp)) (h1 : Blk w g1 42 (cells8 t)) (h2 : Blk w g2 56 (ws Wa)) (hx : Sp[k]? = some x) (hy : Wa[k]? = some y)
    (hM : Hid (Ans 45 #[.agg (cells8 x), .agg (cells8 t)] (.tuple #[.agg (cells8 M), .bool E]))) (hL : Hid (Ans 48 #[.agg (cells8 y), .int .i64 65] (.tuple #[.agg (cells8 L), .bool E]))) (hA : Hid (Ans 47 #[.agg (cells8 L), .agg (cells8 M)] (.tuple #[.agg (cells8 R), .bool E]))) (hI : Hid (Ans 42 #[.agg (cells8 R), .int .i64 97] (.int .i64 v))) :
    Calls Tryd.prog 53 #[.int .i64 k, .pointer (some ⟨g0, 0, none⟩), .pointer (some ⟨g1, 0, none⟩), .pointer (some ⟨g2, 0, none⟩)] w fun e w' => e = .returned (.int .i64 v) ∧ Below w.heap.size w w' := by
  have D := hide (Gen.third h0 h1 h2 (Below.refl _ w))
  clear h0 h1 h2
  go_enter Tryd.func53, Tryd.ntmps53
  go_upto_region 1 with fail
  have D1 : Hid (GenZ w _ _ _) := ⟨(unhide D).drew, Nat.le_refl _⟩
  have hlt := hide (fun (p : Nat × TypeId × Array Value) hp => ((unhide D).at_ p hp).lt)
  clear D
  have hds : w.drew.heap.size = w.heap.size := rfl
  rw [hds] at D1
  refine region_lazy (S := GenZ w _ w.heap.size) (v := .bool E) (ty := 42) (zs := z8) (base := w.heap.size) (l := [0, 1, 2, 3, 4, 5, 6]) (A := [8]) (z := 7) (t := 9) (r := [10]) (by kernel_rfl) (by kernel_rfl) (by kernel_rfl) (by kernel_rfl) (by kernel_rfl) (by kernel_rfl) (by kernel_rfl) (by kernel_rfl) (by kernel_rfl) (by kernel_rfl) rfl rfl ?_ (fun _ _ h hb => h.keep hb) (fun _ h => h.s) (unhide D1) ?_
  · intro i hi
    simp at hi
    subst hi
    exact ⟨_, rfl, rfl, fun a w => by go_simp⟩
  clear D1 hds
  refine planB_read (v := ?_) rfl rfl (fun u hS => by go_simp; rfl) ?_
  go_simp
  refine planB_read (v := .pointer (some ⟨g0, k * 8, none⟩)) rfl rfl (fun u hS => exec_ix u (.tmp 1) (.tmp 11) hk rfl rfl rfl) ?_
  go_simp
  refine planB_read (v := .agg (cells8 x)) rfl rfl (fun u hS => exec_ldMid (.tmp 12) rfl rfl (ws_range (hS.e.blk (g := g0) (t := 56) (cs := ws Sp) (by repeat (first | exact List.mem_cons_self | apply List.mem_cons_of_mem))) hx)) ?_
  go_simp
  refine planB_read (v := .agg (cells8 t)) rfl rfl (fun u hS => exec_loadG hS.e rWide (.tmp 2) rfl rfl (by repeat (first | exact List.mem_cons_self | apply List.mem_cons_of_mem)) rfl) ?_
  go_simp
  refine planB_call (v := .tuple #[.agg (cells8 M), .bool E]) (f := 45) (args := #[.agg (cells8 x), .agg (cells8 t)]) rfl rfl (fun u hS => by go_simp) (fun u hS => (unhide hM u).mono fun _ _ ⟨he, hb⟩ => ⟨he, hS.keep hb, hb⟩) ?_
  go_simp
  refine planB_read (v := ?_) rfl rfl (fun u hS => by go_simp; rfl) ?_
  go_simp
  refine planB_read (v := ?_) rfl rfl (fun u hS => by go_simp; rfl) ?_
  go_simp
  refine planB_lazy rfl (fun u => by go_simp) rfl rfl (fun c u hS hB hI2 => ?_)
  have hB7 := hB 8 (by simp)
  clear hB hI2
  simp only [pa, dstOf]
  generalize c 8 = c7 at hB7 ⊢
  have D := hide (hS.e.fillZ (cs := cells8 M) (unhide hlt) (Nat.le_refl _) hB7.1 hB7.2)
  refine ⟨_, exec_store8 (n := M) 42 (.tmp 6) (.tmp 16) hB7.1 rfl rfl rfl rfl iWide, ?_⟩
  clear hS hB7 hlt
  generalize u.setRow c7 (cells8 M) = u1 at D ⊢
  simp only [opsOf]
  go_simp
  go_upto_region 3 with (first | (with_reducible refine at_list ?_;  refine wpList_value rfl (exec_ix _ (.tmp 3) (.tmp 19) hk rfl rfl rfl) ?_) | (with_reducible refine at_list ?_;  refine wpList_value rfl (exec_ldMid (.tmp 20) rfl rfl (ws_range ((unhide D).blk (g := g2) (t := 56) (cs := ws Wa) (by repeat (first | exact List.mem_cons_self | apply List.mem_cons_of_mem))) hy)) ?_) | (go_at_call 48; with_reducible refine (unhide hL _).mono ?_; rintro e w' ⟨he, hb⟩; subst he; have D := hide ((unhide D).keep hb); clear hb) | (with_reducible refine at_list ?_;  have hl := hide (fun p hp => Nat.ne_of_lt ((unhide D).at_ p hp).lt); have hw := hide (unhide D).o.size; refine stG (unhide D) rWide _ _ rfl rfl rfl rfl rfl rfl (cells8_one _) ?_; intro D'; have D := hide D'; clear D'))
  go_upto_region 4 with (first | (with_reducible refine at_list ?_; apply ldG (unhide D) rWide _ rfl rfl rfl (by repeat (first | exact List.mem_cons_self | apply List.mem_cons_of_mem)) rfl) | (go_at_call 47; with_reducible refine (unhide hA _).mono ?_; rintro e w' ⟨he, hb⟩; subst he; have D := hide ((unhide D).keep hb); clear hb) | (with_reducible refine at_list ?_;  refine stSetG (n := R) (unhide D) (unhide hw) (unhide hl) _ _ rfl rfl rfl rfl rfl ?_; intro w5 D'; have D := D'; clear D'))
  clear hl hw
  go_wp2_with (first | (with_reducible refine at_list ?_; apply ldG (unhide D) rWide _ rfl rfl rfl (by repeat (first | exact List.mem_cons_self | apply List.mem_cons_of_mem)) rfl) | (go_at_call 42; with_reducible refine (unhide hI _).mono ?_; rintro e w' ⟨he, hb⟩; subst he; have D := hide ((unhide D).keep hb); clear hb))
  go_ret
  exact ⟨rfl, (unhide D).o⟩
theorem bSpin (x y z : Int) : Tryd.prog.built 24 [(1, .int .i64 x), (2, .int .i64 y), (3, .int .i64 z)] = some (q4 0 x y z) := by kernel_rfl
set_option maxHeartbeats 4000000 in
theorem qSpin_core (T : Array Value) (a b c d vx vy vz t x0 x1 x2 x3 : Int) (q0 q1 q2 q3 e0 e1 e2 e3 tw : Nat) (V' : List Nat) (w : World) (hT : Tab 1 T w) (hQ : Hid (Ans 26 #[.agg (q4 a b c d)] (.agg (ws [q0, q1, q2, q3])))) (hV : Hid (Ans 26 #[.agg (q4 0 vx vy vz)] (.agg (ws V')))) (hO : Hid (Ans 46 #[.int .i64 t] (.agg (cells8 tw))))
    (hR : Hid (∀ u, Tab 1 T u → Calls Tryd.prog 39 #[.agg (ws V'), .agg (ws [q0, q1, q2, q3])] u fun e w' => e = .returned (.agg (ws [e0, e1, e2, e3])) ∧ Below u.heap.size u w'))
    (hE : Hid (∀ u g0 g1 g2, Blk u g0 56 (ws [e0, e1, e2, e3]) → Blk u g1 42 (cells8 tw) → Blk u g2 56 (ws [q0, q1, q2, q3]) → Calls Tryd.prog 40 #[.func (Fn.func 53) #[] #[.pointer (some ⟨g0, 0, none⟩), .pointer (some ⟨g1, 0, none⟩), .pointer (some ⟨g2, 0, none⟩)]] u fun e w' => e = .returned (.agg (q4 x0 x1 x2 x3)) ∧ Below u.heap.size u w')) :
    Calls Tryd.prog 22 #[.agg (q4 a b c d), .agg (v3 vx vy vz), .int .i64 t] w fun e w' => e = .returned (.agg (q4 x0 x1 x2 x3)) ∧ Below w.heap.size w w' := by
  have hTlt := hT.lt
  have HT := hide hT
  clear hT
  go_enter Tryd.func22, Tryd.ntmps22
  go_upto_region 1 with fail
  have D := hide ((((Gen.start w).push 24 (q4 a b c d)).push 26 (v3 vx vy vz)).push 24 (q4 0 0 0 0))
  simp only [szA] at D
  go_upto_region 2 with (first | (with_reducible refine at_list ?_; apply ldG (unhide D) rQuat _ rfl rfl rfl (by repeat (first | exact List.mem_cons_self | apply List.mem_cons_of_mem)) rfl) | (go_at_call 26; with_reducible refine (unhide hQ _).mono ?_; rintro e w4 ⟨he, hb⟩; subst he; have D := hide ((unhide D).keep hb); clear hb) | (with_reducible refine at_list ?_; refine stG (unhide D) rNum _ _ rfl rfl rfl rfl rfl rfl (ws_one _) ?_; intro D'; have D := hide D'; clear D'))
  generalize hw1 : (w4.alloc (.cells (ws [q0, q1, q2, q3]) 56)) = w1 at D ⊢
  clear hw1
  generalize w4.heap.size = g4 at *
  have D1 : Hid (GenZ w _ w1.heap.size w1.drew) := ⟨(unhide D).drew, Nat.le_refl _⟩
  have hlt := hide (fun (p : Nat × TypeId × Array Value) hp => ((unhide D).at_ p hp).lt)
  have hw0 := hide (unhide D).o.size
  clear D
  generalize w1.heap.size = C at D1 hlt hw0
  refine region_allocs (S := GenZ w _ C) (t := 56) (z := z32) (base := C) (l := [0, 1, 2, 3, 4, 5, 6, 7, 8, 9]) (A := [10]) (T := [11]) (by kernel_rfl) (by kernel_rfl) (by kernel_rfl) (by kernel_rfl) (by kernel_rfl) (by kernel_rfl) (by kernel_rfl) (by kernel_rfl) (by kernel_rfl) (by kernel_rfl) ?_ (fun _ _ h hb => h.keep hb) (fun _ h => h.s) (unhide D1) ?_
  · intro i hi
    simp at hi
    subst hi
    exact ⟨_, rfl, rfl, fun a w => by go_simp⟩
  clear D1
  refine planB_read (v := ?_) rfl rfl (fun u hS => by go_simp; rfl) ?_
  go_simp
  refine planB_read (v := .int .i64 vx) rfl rfl (fun u hS => exec_loadFG hS.e _ rfl rfl (by repeat (first | exact List.mem_cons_self | apply List.mem_cons_of_mem)) rfl) ?_
  go_simp
  refine planB_read (v := ?_) rfl rfl (fun u hS => by go_simp; rfl) ?_
  go_simp
  refine planB_read (v := .int .i64 vy) rfl rfl (fun u hS => exec_loadFG hS.e _ rfl rfl (by repeat (first | exact List.mem_cons_self | apply List.mem_cons_of_mem)) rfl) ?_
  go_simp
  refine planB_read (v := ?_) rfl rfl (fun u hS => by go_simp; rfl) ?_
  go_simp
  refine planB_read (v := .int .i64 vz) rfl rfl (fun u hS => exec_loadFG hS.e _ rfl rfl (by repeat (first | exact List.mem_cons_self | apply List.mem_cons_of_mem)) rfl) ?_
  go_simp
  refine planB_read (v := .agg (q4 0 vx vy vz)) rfl rfl (fun u hS => by go_simp) ?_
  go_simp
  refine planB_call (v := .agg (ws V')) (f := 26) (args := #[.agg (q4 0 vx vy vz)]) rfl rfl (fun u hS => by go_simp) (fun u hS => (unhide hV u).mono fun _ _ ⟨he, hb⟩ => ⟨he, hS.keep hb, hb⟩) ?_
  go_simp
  refine planB_read (v := .agg (ws [q0, q1, q2, q3])) rfl rfl (fun u hS => exec_loadG hS.e rNum (.tmp 7) rfl rfl (by repeat (first | exact List.mem_cons_self | apply List.mem_cons_of_mem)) rfl) ?_
  go_simp
  refine planB_call (v := .agg (ws [e0, e1, e2, e3])) (f := 39) (args := #[.agg (ws V'), .agg (ws [q0, q1, q2, q3])]) rfl rfl (fun u hS => by go_simp) (fun u hS => (unhide hR u ((unhide HT).below hS.e.o hTlt)).mono fun _ _ ⟨he, hb⟩ => ⟨he, hS.keep hb, hb⟩) ?_
  go_simp
  refine planB_tail (fun c u hS hB hI => ?_)
  have h7 := hB 10 (by simp)
  simp only [pa, dstOf, opsOf]
  generalize c 10 = c7 at h7 ⊢
  have D := hide (hS.e.fillZ (cs := ws [e0, e1, e2, e3]) (unhide hlt) (unhide hw0) h7.1 h7.2)
  have H7 := hide h7.1
  clear hS hB hI h7 hlt hw0
  refine wpList_store_row rfl 56 (.tmp 8) (.tmp 21) rfl _ (ws [e0, e1, e2, e3]) rfl rfl 56 _ (unhide H7) rNum.i rfl (ws_one _) ?_
  generalize u.setRow c7 (ws [e0, e1, e2, e3]) = u1 at D ⊢
  clear H7 HT
  go_simp
  go_wp2_with (first | (go_at_call 46; with_reducible refine (unhide hO _).mono ?_; rintro e w' ⟨he, hb⟩; subst he; have D := hide ((unhide D).keep hb); clear hb) | (with_reducible refine at_list ?_; refine stG (unhide D) rWide _ _ rfl rfl rfl rfl rfl rfl (cells8_one _) ?_; intro D'; have D := hide D'; clear D') | (go_at_call 40; with_reducible refine (unhide hE _ _ _ _ ((unhide D).blk (by repeat (first | exact List.mem_cons_self | apply List.mem_cons_of_mem))) ((unhide D).blk (by repeat (first | exact List.mem_cons_self | apply List.mem_cons_of_mem))) ((unhide D).blk (by repeat (first | exact List.mem_cons_self | apply List.mem_cons_of_mem)))).mono ?_; rintro e w' ⟨he, hb⟩; subst he; have D := hide ((unhide D).keep hb); clear hb) | (with_reducible refine at_list ?_; apply stGend (unhide D) rQuat _ _ rfl rfl rfl rfl (by repeat (first | exact List.mem_cons_self | apply List.mem_cons_of_mem)) (by omega) rfl rfl (q4_one _ _ _ _); intro B O))
  exact resG rQuat (unhide B) rfl rfl rfl rfl ⟨rfl, unhide O⟩
/-- A number that is turned. -/
def spn (a p t : Int) : Int := cl ((a * 36893488147419103232 + p * t) / 36893488147419103232)
theorem SpinIn (k : Nat) (hk : k < 4) (a b c d : Int) (hq : ∀ j, Sz 63 (n4 a b c d j)) (f : Nat → Int) (hf : ∀ j, Sz 150 (f j)) (t : Int) (ht : I64 t) (g0 g1 g2 : Nat) (w : World) (h0 : Blk w g0 56 (ws (ac4 f))) (h1 : Blk w g1 42 (cells8 (enc t))) (h2 : Blk w g2 56 (ws [enc a, enc b, enc c, enc d])) :
    Calls Tryd.prog 53 #[.int .i64 k, .pointer (some ⟨g0, 0, none⟩), .pointer (some ⟨g1, 0, none⟩), .pointer (some ⟨g2, 0, none⟩)] w fun e w' => e = .returned (.int .i64 (spn (n4 a b c d k) (f k) t)) ∧ Below w.heap.size w w' := by
  have s1 : Sz 213 (f k * t) := (hf k).mul ht.sz
  have s2 : Sz 128 (n4 a b c d k * ((2 ^ (65 : Int).toNat : Nat) : Int)) := (hq k).mul (show Sz 65 _ by unfold Sz; decide)
  have hL : Ans 48 #[V (n4 a b c d k), .int .i64 65] (.tuple #[V (n4 a b c d k * ((2 ^ (65 : Int).toNat : Nat) : Int)), .bool true]) := fun u => by
    have t' := ShlZ (n4 a b c d k) 65 ((hq k).fit (by decide)) (by decide) (by decide) u
    rw [fit_true (s2.fit (by decide))] at t'
    exact t'
  have s3 := (s2.mono (show 128 ≤ 213 by decide)).add s1
  have hA : Ans 47 #[V (n4 a b c d k * ((2 ^ (65 : Int).toNat : Nat) : Int)), V (f k * t)] (.tuple #[V (n4 a b c d k * ((2 ^ (65 : Int).toNat : Nat) : Int) + f k * t), .bool true]) := fun u => by
    have t' := AddZ _ (f k * t) (s2.fit (by decide)) (s1.fit (by decide)) u
    rw [toldZ_fit (s3.fit (by decide))] at t'
    exact t'
  have hI := InZ (n4 a b c d k * ((2 ^ (65 : Int).toNat : Nat) : Int) + f k * t) 97 (s3.fit (by decide)) ⟨by decide, by decide⟩
  exact clos_QSpin k hk _ _ _ _ _ _ _ _ true _ g0 g1 g2 w h0 h1 h2 (ac4_get hk) (n4_get hk) (mul_told _ _ (hf k) ht.sz (by decide)) hL hA hI
theorem QSpinZ (a b c d vx vy vz t : Int) (h0 : I64 a) (h1 : I64 b) (h2 : I64 c) (h3 : I64 d) (k0 : I64 vx) (k1 : I64 vy) (k2 : I64 vz) (ht : I64 t) (w : World) (hT : Tab 1 tabP w) :
    Calls Tryd.prog 22 #[.agg (q4 a b c d), .agg (v3 vx vy vz), .int .i64 t] w fun e w' => e = .returned (.agg (q4 (spn a (prd 0 vx vy vz a b c d 16 0) t) (spn b (prd 0 vx vy vz a b c d 16 1) t) (spn c (prd 0 vx vy vz a b c d 16 2) t) (spn d (prd 0 vx vy vz a b c d 16 3) t))) ∧ Below w.heap.size w w' := by
  have hq := n4_I64 h0 h1 h2 h3
  have i0 : I64 0 := ⟨by decide, by decide⟩
  have hp := n4_I64 i0 k0 k1 k2
  have hf : ∀ j, Sz 150 (prd 0 vx vy vz a b c d 16 j) := fun j => (prd_sz hp hq 16 j (by decide)).mono (by decide)
  exact qSpin_core tabP a b c d vx vy vz t _ _ _ _ _ _ _ _ _ _ _ _ _ _ w hT (QRawZ a b c d h0 h1 h2 h3) (QRawZ 0 vx vy vz i0 k0 k1 k2) (fun u => OfZ t ht.1 ht.2 u) (fun u h => ProductZ 0 vx vy vz a b c d hp hq u h) (fun u g0 g1 g2 b0 b1 b2 =>
    qeach_Spin (Gen u [(g0, 56, ws (ac4 (prd 0 vx vy vz a b c d 16))), (g1, 42, cells8 (enc t)), (g2, 56, ws [enc a, enc b, enc c, enc d])]) g0 g1 g2 _ _ _ _ u (Gen.third b0 b1 b2 (Below.refl _ u)) (fun _ _ h hb => h.keep hb)
      (fun v hS => SpinIn 0 (by decide) a b c d hq _ hf t ht g0 g1 g2 v (hS.blk (by repeat (first | exact List.mem_cons_self | apply List.mem_cons_of_mem))) (hS.blk (by repeat (first | exact List.mem_cons_self | apply List.mem_cons_of_mem))) (hS.blk (by repeat (first | exact List.mem_cons_self | apply List.mem_cons_of_mem)))) (fun v hS => SpinIn 1 (by decide) a b c d hq _ hf t ht g0 g1 g2 v (hS.blk (by repeat (first | exact List.mem_cons_self | apply List.mem_cons_of_mem))) (hS.blk (by repeat (first | exact List.mem_cons_self | apply List.mem_cons_of_mem))) (hS.blk (by repeat (first | exact List.mem_cons_self | apply List.mem_cons_of_mem))))
      (fun v hS => SpinIn 2 (by decide) a b c d hq _ hf t ht g0 g1 g2 v (hS.blk (by repeat (first | exact List.mem_cons_self | apply List.mem_cons_of_mem))) (hS.blk (by repeat (first | exact List.mem_cons_self | apply List.mem_cons_of_mem))) (hS.blk (by repeat (first | exact List.mem_cons_self | apply List.mem_cons_of_mem)))) (fun v hS => SpinIn 3 (by decide) a b c d hq _ hf t ht g0 g1 g2 v (hS.blk (by repeat (first | exact List.mem_cons_self | apply List.mem_cons_of_mem))) (hS.blk (by repeat (first | exact List.mem_cons_self | apply List.mem_cons_of_mem))) (hS.blk (by repeat (first | exact List.mem_cons_self | apply List.mem_cons_of_mem)))))

end Go.Proofs.YtikmjfepflaokaaDoor
