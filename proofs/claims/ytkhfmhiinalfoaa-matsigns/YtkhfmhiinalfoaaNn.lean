/- Package mat's law MatSigns. -/
import Derived.Test.YtkhfmhiinalfoaaNl
namespace Go.Proofs.Ytkhfmhiinalfoaa
open Go.RowKit
set_option maxRecDepth 4000
set_option linter.unusedVariables false

theorem inner4_core (a : Int) (A B : Bool) (w : World) (hA : decide (-9223372036854775807 < a) = A) (hB : decide (a < 9223372036854775807) = B) :
    Calls Try.prog 24 #[.int .i64 a] w fun e w' => e = .returned (.bool (A && B)) ∧ Below w.heap.size w w' := by
  go_enter Try.func24, Try.ntmps24
  cases A
  · go_wp2_with (first | (with_reducible refine at_list ?_;  refine gtrZ _ _ hA rfl rfl rfl rfl ?_))
    go_ret
    exact ⟨rfl, Below.refl _ _⟩
  · cases B
    · go_wp2_with (first | (with_reducible refine at_list ?_;  refine gtrZ _ _ hA rfl rfl rfl rfl ?_) | (with_reducible refine at_list ?_;  refine lssZw _ _ hB rfl rfl rfl rfl ?_))
      go_ret
      exact ⟨rfl, Below.refl _ _⟩
    · go_wp2_with (first | (with_reducible refine at_list ?_;  refine gtrZ _ _ hA rfl rfl rfl rfl ?_) | (with_reducible refine at_list ?_;  refine lssZw _ _ hB rfl rfl rfl rfl ?_))
      go_ret
      exact ⟨rfl, Below.refl _ _⟩
def inn4 (a : Int) : Bool := decide (-9223372036854775807 < a) && decide (a < 9223372036854775807)
theorem Inner4Z (a : Int) : Ans 24 #[.int .i64 a] (.bool (inn4 a)) := fun w => inner4_core a _ _ w rfl rfl
/-- A row in the place i. -/
def upd (Y : Nat → Int) (i : Nat) (a b c : Int) (j : Nat) : Int := if j / 3 = i then (if j % 3 = 0 then a else if j % 3 = 1 then b else c) else Y j
theorem upd_put (Y : Nat → Int) {i : Nat} (hi : i < 3) (a b c : Int) : putC (m9 Y) (i * 3) (v3 a b c).toList = m9 (upd Y i a b c) := by
  rcases (show i = 0 ∨ i = 1 ∨ i = 2 by omega) with rfl | rfl | rfl <;> simp [putC, upd]
theorem Gen.setU {w0 w : World} {l : List (Nat × TypeId × Array Value)} {g : Nat} {t : TypeId} {Y : Nat → Int} {i : Nat} (hi : i < 3) (a b c : Int) (d : Gen w0 ((g, t, m9 Y) :: l) w) (hg : w0.heap.size ≤ g) (hl : ∀ p ∈ l, p.1 ≠ g) : Gen w0 ((g, t, m9 (upd Y i a b c)) :: l) (w.setCells g (i * 3) (v3 a b c).toList) := by
  refine ⟨fun p hp => ?_, below_cells hg _ _ _ d.o⟩
  rcases List.mem_cons.1 hp with e | hp
  · subst e
    have h := Blk.putC (v3 a b c).toList (i * 3) _ _ (d.at_ _ List.mem_cons_self)
    rwa [upd_put _ hi] at h
  · exact Blk.putOther (hl p hp) _ _ _ (d.at_ p (List.mem_cons_of_mem _ hp))
/-- The rows i and k exchanged. -/
abbrev swp (X : Nat → Int) (i k : Nat) : Nat → Int := upd (upd X i (X (k * 3)) (X (k * 3 + 1)) (X (k * 3 + 2))) k (X (i * 3)) (X (i * 3 + 1)) (X (i * 3 + 2))
theorem tmod3 (w : Int) : w.tmod 3 = 0 ∨ w.tmod 3 = 1 ∨ w.tmod 3 = 2 ∨ w.tmod 3 = -1 ∨ w.tmod 3 = -2 := by
  by_cases h : 0 ≤ w
  · rw [Int.tmod_eq_emod_of_nonneg h]
    omega
  · obtain ⟨n, rfl⟩ : ∃ n : Int, w = -n := ⟨-w, by omega⟩
    rw [Int.neg_tmod, Int.tmod_eq_emod_of_nonneg (by omega)]
    omega
set_option maxHeartbeats 16000000 in
theorem signs_core (X : Nat → Int) (which a : Int) (bb : Nat → Nat → Int) (w : World) (e1 : ((4294967296 : Int) == 4294967296) = true) (ea : (a == a) = true)
    (hO : Hid (Ans 10 #[] (.agg (m9 (dg 4294967296 4294967296 4294967296))))) (hD1 : Hid (Ans 18 #[.agg (m9 (dg 4294967296 4294967296 4294967296))] (.int .i64 4294967296))) (hT : Hid (Ans 15 #[.agg (m9 X)] (.agg (m9 (tr X))))) (hDT : Hid (Ans 18 #[.agg (m9 (tr X))] (.int .i64 a))) (hDX : Hid (Ans 18 #[.agg (m9 X)] (.int .i64 a)))
    (hDS : Hid (∀ i, i < 3 → ∀ k, k < 3 → k = (i + 1) % 3 → Ans 18 #[.agg (m9 (swp X i k))] (.int .i64 (bb i k)))) (hN : Hid (∀ z, Ans 24 #[.int .i64 z] (.bool (inn4 z)))) (hW : Hid (Ans 17 #[] (.bool true)))
    (hC0 : Hid (∀ i, i < 3 → ∀ k, k < 3 → k = (i + 1) % 3 → inn4 a = true → inn4 (bb i k) = true → bb i k = wrap64 (-a) ∨ bb i k = wrap64 (wrap64 (-a) - 1))) :
    Calls Try.prog 8 #[.agg (m9 X), .int .i64 which] w fun e w' => e = .returned (.bool true) ∧ Below w.heap.size w w' := by
  have hr := hide (tmod3 which)
  go_enter Try.func8, Try.ntmps8
  go_upto_region 1 with fail
  have D := hide ((Gen.start w).push 27 (m9 X))
  go_upto_region 2 with fail
  generalize w.alloc (.cells (m9 X) 27) = w1 at D ⊢
  generalize which.tmod 3 = r at hr ⊢
  go_upto_if 13 with fail
  go_cut [5] (fun s5 wx => ∃ i : Nat, i < 3 ∧ s5 = .int .i64 i ∧ Hid (Gen w [(w.heap.size, 27, m9 X)] wx))
  case first =>
    rcases unhide hr with rfl | rfl | rfl | rfl | rfl
    · go_wp2
      go_meet
      case rel => exact ⟨0, by decide, rfl, D⟩
    · go_wp2
      go_meet
      case rel => exact ⟨1, by decide, rfl, D⟩
    · go_wp2
      go_meet
      case rel => exact ⟨2, by decide, rfl, D⟩
    · go_wp2
      go_meet
      case rel => exact ⟨2, by decide, rfl, D⟩
    · go_wp2
      go_meet
      case rel => exact ⟨1, by decide, rfl, D⟩
  case rest =>
    obtain ⟨i, hi, rfl, D⟩ := hcut
    clear hr
    go_upto_region 4 with fail
    go_cut [6] (fun s6 wx => ∃ k : Nat, k = (i + 1) % 3 ∧ k < 3 ∧ s6 = .int .i64 k ∧ Hid (Gen w [(w.heap.size, 27, m9 X)] wx))
    case first =>
      rcases (show i = 0 ∨ i = 1 ∨ i = 2 by omega) with rfl | rfl | rfl
      · go_wp2
        go_meet
        case rel => exact ⟨1, rfl, by decide, rfl, D⟩
      · go_wp2
        go_meet
        case rel => exact ⟨2, rfl, by decide, rfl, D⟩
      · go_wp2
        go_meet
        case rel => exact ⟨0, rfl, by decide, rfl, D⟩
    case rest =>
    obtain ⟨k, hk3, hk, rfl, D⟩ := hcut
    have hB0 := hide (unhide hN (bb i k))
    have hA0 := hide (unhide hN a)
    have hS0 := hide (unhide hDS i hi k hk hk3)
    have hE0 := hide (unhide hC0 i hi k hk hk3)
    clear hDS hC0 hN hk3
    go_upto_region 5 with fail
    generalize hwc : wc = wd at D ⊢
    clear hwc
    have hl := hide (fun p hp => Nat.ne_of_lt ((unhide D).at_ p hp).lt)
    have hw := hide (unhide D).o.size
    go_upto_region 6 with (first | (with_reducible refine at_list ?_; apply ldG (unhide D) rMat _ rfl rfl rfl (by repeat (first | exact List.mem_cons_self | apply List.mem_cons_of_mem)) rfl) | (with_reducible refine at_list ?_; refine stG (unhide D) rMat _ _ rfl rfl rfl rfl rfl rfl (m9_one _) ?_; intro D'; have D := hide D'; clear D'))
    generalize wd.alloc _ = we at D ⊢
    generalize wd.heap.size = g7 at *
    go_wp2_with (first | (with_reducible refine at_list ?_;  refine wpList_value rfl (exec_ix3 _ (.tmp 22) (.tmp 21) hk rfl rfl rfl) ?_) | (with_reducible refine at_list ?_;  refine wpList_value rfl (exec_ldRow (.tmp 23) rfl rfl ((unhide D).blk (g := w.heap.size) (t := 27) (cs := m9 X) (by repeat (first | exact List.mem_cons_self | apply List.mem_cons_of_mem))) hk) ?_) | (with_reducible refine at_list ?_;  refine wpList_value rfl (exec_ix3 _ (.tmp 25) (.tmp 20) hi rfl rfl rfl) ?_) | (with_reducible refine at_one ?_))
    unfold Stop
    refine wpList_of_wp rfl (wp_store_mid 24 (.tmp 26) (.tmp 24) rfl g7 (i * 3) (v3 (X (k * 3)) (X (k * 3 + 1)) (X (k * 3 + 2))) rfl rfl (m9_there ((unhide D).blk (g := g7) (t := 27) (cs := m9 X) (by repeat (first | exact List.mem_cons_self | apply List.mem_cons_of_mem))) hi) iVec3 (v3_one _ _ _) ?_)
    have D := hide ((unhide D).setU hi (X (k * 3)) (X (k * 3 + 1)) (X (k * 3 + 2)) (unhide hw) (fun p hp => unhide hl p hp))
    generalize World.setCells _ _ _ _ = w7 at D ⊢
    go_simp
    go_upto_region 7 with fail
    go_wp2_with (first | (with_reducible refine at_list ?_;  refine wpList_value rfl (exec_ix3 _ (.tmp 29) (.tmp 28) hi rfl rfl rfl) ?_) | (with_reducible refine at_list ?_;  refine wpList_value rfl (exec_ldRow (.tmp 30) rfl rfl ((unhide D).blk (g := w.heap.size) (t := 27) (cs := m9 X) (by repeat (first | exact List.mem_cons_self | apply List.mem_cons_of_mem))) hi) ?_) | (with_reducible refine at_list ?_;  refine wpList_value rfl (exec_ix3 _ (.tmp 32) (.tmp 27) hk rfl rfl rfl) ?_) | (with_reducible refine at_one ?_))
    unfold Stop
    refine wpList_of_wp rfl (wp_store_mid 24 (.tmp 33) (.tmp 31) rfl g7 (k * 3) (v3 (X (i * 3)) (X (i * 3 + 1)) (X (i * 3 + 2))) rfl rfl (m9_there ((unhide D).blk (g := g7) (t := 27) (cs := m9 (upd X i (X (k * 3)) (X (k * 3 + 1)) (X (k * 3 + 2)))) (by repeat (first | exact List.mem_cons_self | apply List.mem_cons_of_mem))) hk) iVec3 (v3_one _ _ _) ?_)
    have D := hide ((unhide D).setU hk (X (i * 3)) (X (i * 3 + 1)) (X (i * 3 + 2)) (unhide hw) (fun p hp => unhide hl p hp))
    generalize World.setCells _ _ _ _ = w8 at D ⊢
    go_simp
    go_upto_region 8 with fail
    refine region_plan (S := Gen w _) (l := [0, 1, 2, 3, 4, 5]) (by kernel_rfl) (by kernel_rfl) (by kernel_rfl) (by kernel_rfl) (by kernel_rfl) (by kernel_rfl) (by kernel_rfl) (unhide D).drew ?_
    clear D
    refine plan_read (v := .agg (m9 X)) rfl rfl (fun u hS => exec_loadG hS rMat _ rfl rfl (by repeat (first | exact List.mem_cons_self | apply List.mem_cons_of_mem)) rfl) ?_
    go_simp
    refine plan_call (v := .int .i64 a) (f := 18) (args := #[.agg (m9 X)]) rfl rfl (fun u hS => by go_simp) (fun u hS => (unhide hDX u).mono fun _ _ ⟨he, hb⟩ => ⟨he, hS.keep hb⟩) ?_
    go_simp
    refine plan_read (v := .agg (m9 (swp X i k))) rfl rfl (fun u hS => exec_loadG hS rMat _ rfl rfl (by repeat (first | exact List.mem_cons_self | apply List.mem_cons_of_mem)) rfl) ?_
    go_simp
    refine plan_call (v := .int .i64 (bb i k)) (f := 18) (args := #[.agg (m9 (swp X i k))]) rfl rfl (fun u hS => by go_simp) (fun u hS => (unhide hS0 u).mono fun _ _ ⟨he, hb⟩ => ⟨he, hS.keep hb⟩) ?_
    go_simp
    refine plan_read (v := .int .i64 a) rfl rfl (fun u hS => by go_simp) ?_
    go_simp
    refine plan_read (v := .int .i64 (bb i k)) rfl rfl (fun u hS => by go_simp) ?_
    go_simp
    refine plan_end (fun u hS => ?_)
    have D := hide hS
    clear hS hS0
    generalize bb i k = b at *
    generalize upd (upd X i _ _ _) k _ _ _ = Z at *
    go_upto_region 9 with fail
    refine list_start (S := Gen w _) (unhide D) ?_
    clear D
    generalize inn4 a = A at *
    generalize inn4 b = B at *
    have hA := hA0
    have hB := hB0
    cases A
    · clear hE0
      refine list_call (v := .agg (m9 (dg 4294967296 4294967296 4294967296))) (f := 10) (args := #[]) rfl rfl (fun u hS => by go_simp) (fun u hS => (unhide hO u).mono fun _ _ ⟨he, hb⟩ => ⟨he, hS.keep hb⟩) ?_
      try go_simp
      refine list_call (v := .int .i64 4294967296) (f := 18) (args := #[.agg (m9 (dg 4294967296 4294967296 4294967296))]) rfl rfl (fun u hS => by go_simp) (fun u hS => (unhide hD1 u).mono fun _ _ ⟨he, hb⟩ => ⟨he, hS.keep hb⟩) ?_
      try go_simp
      refine list_read (v := .bool true) rfl rfl (fun u hS => exec_eqlZ u (.tmp 39) (.const (.int .i64 4294967296)) e1 rfl rfl rfl) ?_
      try go_simp
      refine list_read (v := .bool true) rfl rfl (fun u hS => by go_simp) ?_
      try go_simp
      refine list_read (v := .agg (m9 X)) rfl rfl (fun u hS => exec_loadG hS rMat _ rfl rfl (by repeat (first | exact List.mem_cons_self | apply List.mem_cons_of_mem)) rfl) ?_
      try go_simp
      refine list_call (v := .agg (m9 (tr X))) (f := 15) (args := #[.agg (m9 X)]) rfl rfl (fun u hS => by go_simp) (fun u hS => (unhide hT u).mono fun _ _ ⟨he, hb⟩ => ⟨he, hS.keep hb⟩) ?_
      try go_simp
      refine list_call (v := .int .i64 a) (f := 18) (args := #[.agg (m9 (tr X))]) rfl rfl (fun u hS => by go_simp) (fun u hS => (unhide hDT u).mono fun _ _ ⟨he, hb⟩ => ⟨he, hS.keep hb⟩) ?_
      try go_simp
      refine list_read (v := .int .i64 a) rfl rfl (fun u hS => by go_simp) ?_
      try go_simp
      refine list_read (v := .bool true) rfl rfl (fun u hS => exec_eqlZ u (.tmp 44) (.tmp 45) ea rfl rfl rfl) ?_
      try go_simp
      refine list_read (v := .bool true) rfl rfl (fun u hS => by go_simp) ?_
      try go_simp
      refine list_read (v := .bool true) rfl rfl (fun u hS => by go_simp) ?_
      try go_simp
      refine list_read (v := .int .i64 a) rfl rfl (fun u hS => by go_simp) ?_
      try go_simp
      refine list_call (v := .bool false) (f := 24) (args := #[.int .i64 a]) rfl rfl (fun u hS => by go_simp) (fun u hS => (unhide hA u).mono fun _ _ ⟨he, hb⟩ => ⟨he, hS.keep hb⟩) ?_
      try go_simp
      refine list_read (v := .bool true) rfl rfl (fun u hS => by go_simp) ?_
      try go_simp
      refine list_read (v := .bool true) rfl rfl (fun u hS => by go_simp) ?_
      try go_simp
      refine list_skip ?_ ?_ ?_
      · rfl
      · rfl
      try go_simp
      refine list_skip ?_ ?_ ?_
      · rfl
      · rfl
      try go_simp
      refine list_skip ?_ ?_ ?_
      · rfl
      · rfl
      try go_simp
      refine list_read (v := .bool true) rfl rfl (fun u hS => by go_simp) ?_
      try go_simp
      refine list_read (v := .bool true) rfl rfl (fun u hS => by go_simp) ?_
      try go_simp
      refine list_skip ?_ ?_ ?_
      · rfl
      · rfl
      try go_simp
      refine list_skip ?_ ?_ ?_
      · rfl
      · rfl
      try go_simp
      refine list_skip ?_ ?_ ?_
      · rfl
      · rfl
      try go_simp
      refine list_skip ?_ ?_ ?_
      · rfl
      · rfl
      try go_simp
      refine list_read (v := .bool true) rfl rfl (fun u hS => by go_simp) ?_
      try go_simp
      refine list_read (v := .bool true) rfl rfl (fun u hS => by go_simp) ?_
      try go_simp
      refine list_skip ?_ ?_ ?_
      · rfl
      · rfl
      try go_simp
      refine list_skip ?_ ?_ ?_
      · rfl
      · rfl
      try go_simp
      refine list_skip ?_ ?_ ?_
      · rfl
      · rfl
      try go_simp
      refine list_skip ?_ ?_ ?_
      · rfl
      · rfl
      try go_simp
      refine list_skip ?_ ?_ ?_
      · rfl
      · rfl
      try go_simp
      refine list_read (v := .bool true) rfl rfl (fun u hS => by go_simp) ?_
      try go_simp
      refine list_read (v := .bool true) rfl rfl (fun u hS => by go_simp) ?_
      try go_simp
      refine list_read (v := .bool true) rfl rfl (fun u hS => by go_simp) ?_
      try go_simp
      refine list_call (v := .bool true) (f := 17) (args := #[]) rfl rfl (fun u hS => by go_simp) (fun u hS => (unhide hW u).mono fun _ _ ⟨he, hb⟩ => ⟨he, hS.keep hb⟩) ?_
      try go_simp
      refine list_read (v := .bool true) rfl rfl (fun u hS => by go_simp) ?_
      try go_simp
      refine list_read (v := .bool true) rfl rfl (fun u hS => by go_simp) ?_
      try go_simp
      refine list_end (fun u hS => ?_)
      have O := hide hS.o
      clear hS
      go_wp2
      go_ret
      exact ⟨rfl, unhide O⟩
    cases B
    · clear hE0
      refine list_call (v := .agg (m9 (dg 4294967296 4294967296 4294967296))) (f := 10) (args := #[]) rfl rfl (fun u hS => by go_simp) (fun u hS => (unhide hO u).mono fun _ _ ⟨he, hb⟩ => ⟨he, hS.keep hb⟩) ?_
      try go_simp
      refine list_call (v := .int .i64 4294967296) (f := 18) (args := #[.agg (m9 (dg 4294967296 4294967296 4294967296))]) rfl rfl (fun u hS => by go_simp) (fun u hS => (unhide hD1 u).mono fun _ _ ⟨he, hb⟩ => ⟨he, hS.keep hb⟩) ?_
      try go_simp
      refine list_read (v := .bool true) rfl rfl (fun u hS => exec_eqlZ u (.tmp 39) (.const (.int .i64 4294967296)) e1 rfl rfl rfl) ?_
      try go_simp
      refine list_read (v := .bool true) rfl rfl (fun u hS => by go_simp) ?_
      try go_simp
      refine list_read (v := .agg (m9 X)) rfl rfl (fun u hS => exec_loadG hS rMat _ rfl rfl (by repeat (first | exact List.mem_cons_self | apply List.mem_cons_of_mem)) rfl) ?_
      try go_simp
      refine list_call (v := .agg (m9 (tr X))) (f := 15) (args := #[.agg (m9 X)]) rfl rfl (fun u hS => by go_simp) (fun u hS => (unhide hT u).mono fun _ _ ⟨he, hb⟩ => ⟨he, hS.keep hb⟩) ?_
      try go_simp
      refine list_call (v := .int .i64 a) (f := 18) (args := #[.agg (m9 (tr X))]) rfl rfl (fun u hS => by go_simp) (fun u hS => (unhide hDT u).mono fun _ _ ⟨he, hb⟩ => ⟨he, hS.keep hb⟩) ?_
      try go_simp
      refine list_read (v := .int .i64 a) rfl rfl (fun u hS => by go_simp) ?_
      try go_simp
      refine list_read (v := .bool true) rfl rfl (fun u hS => exec_eqlZ u (.tmp 44) (.tmp 45) ea rfl rfl rfl) ?_
      try go_simp
      refine list_read (v := .bool true) rfl rfl (fun u hS => by go_simp) ?_
      try go_simp
      refine list_read (v := .bool true) rfl rfl (fun u hS => by go_simp) ?_
      try go_simp
      refine list_read (v := .int .i64 a) rfl rfl (fun u hS => by go_simp) ?_
      try go_simp
      refine list_call (v := .bool true) (f := 24) (args := #[.int .i64 a]) rfl rfl (fun u hS => by go_simp) (fun u hS => (unhide hA u).mono fun _ _ ⟨he, hb⟩ => ⟨he, hS.keep hb⟩) ?_
      try go_simp
      refine list_read (v := .bool false) rfl rfl (fun u hS => by go_simp) ?_
      try go_simp
      refine list_read (v := .bool false) rfl rfl (fun u hS => by go_simp) ?_
      try go_simp
      refine list_read (v := .int .i64 b) rfl rfl (fun u hS => by go_simp) ?_
      try go_simp
      refine list_call (v := .bool false) (f := 24) (args := #[.int .i64 b]) rfl rfl (fun u hS => by go_simp) (fun u hS => (unhide hB u).mono fun _ _ ⟨he, hb⟩ => ⟨he, hS.keep hb⟩) ?_
      try go_simp
      refine list_read (v := .bool true) rfl rfl (fun u hS => by go_simp) ?_
      try go_simp
      refine list_read (v := .bool true) rfl rfl (fun u hS => by go_simp) ?_
      try go_simp
      refine list_read (v := .bool true) rfl rfl (fun u hS => by go_simp) ?_
      try go_simp
      refine list_skip ?_ ?_ ?_
      · rfl
      · rfl
      try go_simp
      refine list_skip ?_ ?_ ?_
      · rfl
      · rfl
      try go_simp
      refine list_skip ?_ ?_ ?_
      · rfl
      · rfl
      try go_simp
      refine list_skip ?_ ?_ ?_
      · rfl
      · rfl
      try go_simp
      refine list_read (v := .bool true) rfl rfl (fun u hS => by go_simp) ?_
      try go_simp
      refine list_read (v := .bool true) rfl rfl (fun u hS => by go_simp) ?_
      try go_simp
      refine list_skip ?_ ?_ ?_
      · rfl
      · rfl
      try go_simp
      refine list_skip ?_ ?_ ?_
      · rfl
      · rfl
      try go_simp
      refine list_skip ?_ ?_ ?_
      · rfl
      · rfl
      try go_simp
      refine list_skip ?_ ?_ ?_
      · rfl
      · rfl
      try go_simp
      refine list_skip ?_ ?_ ?_
      · rfl
      · rfl
      try go_simp
      refine list_read (v := .bool true) rfl rfl (fun u hS => by go_simp) ?_
      try go_simp
      refine list_read (v := .bool true) rfl rfl (fun u hS => by go_simp) ?_
      try go_simp
      refine list_read (v := .bool true) rfl rfl (fun u hS => by go_simp) ?_
      try go_simp
      refine list_call (v := .bool true) (f := 17) (args := #[]) rfl rfl (fun u hS => by go_simp) (fun u hS => (unhide hW u).mono fun _ _ ⟨he, hb⟩ => ⟨he, hS.keep hb⟩) ?_
      try go_simp
      refine list_read (v := .bool true) rfl rfl (fun u hS => by go_simp) ?_
      try go_simp
      refine list_read (v := .bool true) rfl rfl (fun u hS => by go_simp) ?_
      try go_simp
      refine list_end (fun u hS => ?_)
      have O := hide hS.o
      clear hS
      go_wp2
      go_ret
      exact ⟨rfl, unhide O⟩
    cases hC : (b == wrap64 (-a))
    · have hE : (b == wrap64 (wrap64 (-a) - 1)) = true := by
        rcases unhide hE0 rfl rfl with h | h
        · rw [beq_eq_false_iff_ne] at hC
          exact absurd h hC
        · exact beq_iff_eq.2 h
      clear hE0
      refine list_call (v := .agg (m9 (dg 4294967296 4294967296 4294967296))) (f := 10) (args := #[]) rfl rfl (fun u hS => by go_simp) (fun u hS => (unhide hO u).mono fun _ _ ⟨he, hb⟩ => ⟨he, hS.keep hb⟩) ?_
      try go_simp
      refine list_call (v := .int .i64 4294967296) (f := 18) (args := #[.agg (m9 (dg 4294967296 4294967296 4294967296))]) rfl rfl (fun u hS => by go_simp) (fun u hS => (unhide hD1 u).mono fun _ _ ⟨he, hb⟩ => ⟨he, hS.keep hb⟩) ?_
      try go_simp
      refine list_read (v := .bool true) rfl rfl (fun u hS => exec_eqlZ u (.tmp 39) (.const (.int .i64 4294967296)) e1 rfl rfl rfl) ?_
      try go_simp
      refine list_read (v := .bool true) rfl rfl (fun u hS => by go_simp) ?_
      try go_simp
      refine list_read (v := .agg (m9 X)) rfl rfl (fun u hS => exec_loadG hS rMat _ rfl rfl (by repeat (first | exact List.mem_cons_self | apply List.mem_cons_of_mem)) rfl) ?_
      try go_simp
      refine list_call (v := .agg (m9 (tr X))) (f := 15) (args := #[.agg (m9 X)]) rfl rfl (fun u hS => by go_simp) (fun u hS => (unhide hT u).mono fun _ _ ⟨he, hb⟩ => ⟨he, hS.keep hb⟩) ?_
      try go_simp
      refine list_call (v := .int .i64 a) (f := 18) (args := #[.agg (m9 (tr X))]) rfl rfl (fun u hS => by go_simp) (fun u hS => (unhide hDT u).mono fun _ _ ⟨he, hb⟩ => ⟨he, hS.keep hb⟩) ?_
      try go_simp
      refine list_read (v := .int .i64 a) rfl rfl (fun u hS => by go_simp) ?_
      try go_simp
      refine list_read (v := .bool true) rfl rfl (fun u hS => exec_eqlZ u (.tmp 44) (.tmp 45) ea rfl rfl rfl) ?_
      try go_simp
      refine list_read (v := .bool true) rfl rfl (fun u hS => by go_simp) ?_
      try go_simp
      refine list_read (v := .bool true) rfl rfl (fun u hS => by go_simp) ?_
      try go_simp
      refine list_read (v := .int .i64 a) rfl rfl (fun u hS => by go_simp) ?_
      try go_simp
      refine list_call (v := .bool true) (f := 24) (args := #[.int .i64 a]) rfl rfl (fun u hS => by go_simp) (fun u hS => (unhide hA u).mono fun _ _ ⟨he, hb⟩ => ⟨he, hS.keep hb⟩) ?_
      try go_simp
      refine list_read (v := .bool false) rfl rfl (fun u hS => by go_simp) ?_
      try go_simp
      refine list_read (v := .bool false) rfl rfl (fun u hS => by go_simp) ?_
      try go_simp
      refine list_read (v := .int .i64 b) rfl rfl (fun u hS => by go_simp) ?_
      try go_simp
      refine list_call (v := .bool true) (f := 24) (args := #[.int .i64 b]) rfl rfl (fun u hS => by go_simp) (fun u hS => (unhide hB u).mono fun _ _ ⟨he, hb⟩ => ⟨he, hS.keep hb⟩) ?_
      try go_simp
      refine list_read (v := .bool false) rfl rfl (fun u hS => by go_simp) ?_
      try go_simp
      refine list_read (v := .bool false) rfl rfl (fun u hS => by go_simp) ?_
      try go_simp
      refine list_read (v := .bool false) rfl rfl (fun u hS => by go_simp) ?_
      try go_simp
      refine list_read (v := .int .i64 b) rfl rfl (fun u hS => by go_simp) ?_
      try go_simp
      refine list_read (v := .int .i64 a) rfl rfl (fun u hS => by go_simp) ?_
      try go_simp
      refine list_read (v := .int .i64 (wrap64 (-a))) rfl rfl (fun u hS => by go_simp; unfold wrap64; exact IntKind.wrap_i64 _) ?_
      try go_simp
      refine list_read (v := .bool false) rfl rfl (fun u hS => exec_eqlZ u (.tmp 58) (.tmp 60) hC rfl rfl rfl) ?_
      try go_simp
      refine list_read (v := .bool false) rfl rfl (fun u hS => by go_simp) ?_
      try go_simp
      refine list_read (v := .bool false) rfl rfl (fun u hS => by go_simp) ?_
      try go_simp
      refine list_read (v := .int .i64 b) rfl rfl (fun u hS => by go_simp) ?_
      try go_simp
      refine list_read (v := .int .i64 a) rfl rfl (fun u hS => by go_simp) ?_
      try go_simp
      refine list_read (v := .int .i64 (wrap64 (-a))) rfl rfl (fun u hS => by go_simp; unfold wrap64; exact IntKind.wrap_i64 _) ?_
      try go_simp
      refine list_read (v := .int .i64 (wrap64 (wrap64 (-a) - 1))) rfl rfl (fun u hS => by go_simp; unfold wrap64; exact IntKind.wrap_i64 _) ?_
      try go_simp
      refine list_read (v := .bool true) rfl rfl (fun u hS => exec_eqlZ u (.tmp 64) (.tmp 67) hE rfl rfl rfl) ?_
      try go_simp
      refine list_read (v := .bool true) rfl rfl (fun u hS => by go_simp) ?_
      try go_simp
      refine list_read (v := .bool true) rfl rfl (fun u hS => by go_simp) ?_
      try go_simp
      refine list_read (v := .bool true) rfl rfl (fun u hS => by go_simp) ?_
      try go_simp
      refine list_call (v := .bool true) (f := 17) (args := #[]) rfl rfl (fun u hS => by go_simp) (fun u hS => (unhide hW u).mono fun _ _ ⟨he, hb⟩ => ⟨he, hS.keep hb⟩) ?_
      try go_simp
      refine list_read (v := .bool true) rfl rfl (fun u hS => by go_simp) ?_
      try go_simp
      refine list_read (v := .bool true) rfl rfl (fun u hS => by go_simp) ?_
      try go_simp
      refine list_end (fun u hS => ?_)
      have O := hide hS.o
      clear hS
      go_wp2
      go_ret
      exact ⟨rfl, unhide O⟩
    · clear hE0
      refine list_call (v := .agg (m9 (dg 4294967296 4294967296 4294967296))) (f := 10) (args := #[]) rfl rfl (fun u hS => by go_simp) (fun u hS => (unhide hO u).mono fun _ _ ⟨he, hb⟩ => ⟨he, hS.keep hb⟩) ?_
      try go_simp
      refine list_call (v := .int .i64 4294967296) (f := 18) (args := #[.agg (m9 (dg 4294967296 4294967296 4294967296))]) rfl rfl (fun u hS => by go_simp) (fun u hS => (unhide hD1 u).mono fun _ _ ⟨he, hb⟩ => ⟨he, hS.keep hb⟩) ?_
      try go_simp
      refine list_read (v := .bool true) rfl rfl (fun u hS => exec_eqlZ u (.tmp 39) (.const (.int .i64 4294967296)) e1 rfl rfl rfl) ?_
      try go_simp
      refine list_read (v := .bool true) rfl rfl (fun u hS => by go_simp) ?_
      try go_simp
      refine list_read (v := .agg (m9 X)) rfl rfl (fun u hS => exec_loadG hS rMat _ rfl rfl (by repeat (first | exact List.mem_cons_self | apply List.mem_cons_of_mem)) rfl) ?_
      try go_simp
      refine list_call (v := .agg (m9 (tr X))) (f := 15) (args := #[.agg (m9 X)]) rfl rfl (fun u hS => by go_simp) (fun u hS => (unhide hT u).mono fun _ _ ⟨he, hb⟩ => ⟨he, hS.keep hb⟩) ?_
      try go_simp
      refine list_call (v := .int .i64 a) (f := 18) (args := #[.agg (m9 (tr X))]) rfl rfl (fun u hS => by go_simp) (fun u hS => (unhide hDT u).mono fun _ _ ⟨he, hb⟩ => ⟨he, hS.keep hb⟩) ?_
      try go_simp
      refine list_read (v := .int .i64 a) rfl rfl (fun u hS => by go_simp) ?_
      try go_simp
      refine list_read (v := .bool true) rfl rfl (fun u hS => exec_eqlZ u (.tmp 44) (.tmp 45) ea rfl rfl rfl) ?_
      try go_simp
      refine list_read (v := .bool true) rfl rfl (fun u hS => by go_simp) ?_
      try go_simp
      refine list_read (v := .bool true) rfl rfl (fun u hS => by go_simp) ?_
      try go_simp
      refine list_read (v := .int .i64 a) rfl rfl (fun u hS => by go_simp) ?_
      try go_simp
      refine list_call (v := .bool true) (f := 24) (args := #[.int .i64 a]) rfl rfl (fun u hS => by go_simp) (fun u hS => (unhide hA u).mono fun _ _ ⟨he, hb⟩ => ⟨he, hS.keep hb⟩) ?_
      try go_simp
      refine list_read (v := .bool false) rfl rfl (fun u hS => by go_simp) ?_
      try go_simp
      refine list_read (v := .bool false) rfl rfl (fun u hS => by go_simp) ?_
      try go_simp
      refine list_read (v := .int .i64 b) rfl rfl (fun u hS => by go_simp) ?_
      try go_simp
      refine list_call (v := .bool true) (f := 24) (args := #[.int .i64 b]) rfl rfl (fun u hS => by go_simp) (fun u hS => (unhide hB u).mono fun _ _ ⟨he, hb⟩ => ⟨he, hS.keep hb⟩) ?_
      try go_simp
      refine list_read (v := .bool false) rfl rfl (fun u hS => by go_simp) ?_
      try go_simp
      refine list_read (v := .bool false) rfl rfl (fun u hS => by go_simp) ?_
      try go_simp
      refine list_read (v := .bool false) rfl rfl (fun u hS => by go_simp) ?_
      try go_simp
      refine list_read (v := .int .i64 b) rfl rfl (fun u hS => by go_simp) ?_
      try go_simp
      refine list_read (v := .int .i64 a) rfl rfl (fun u hS => by go_simp) ?_
      try go_simp
      refine list_read (v := .int .i64 (wrap64 (-a))) rfl rfl (fun u hS => by go_simp; unfold wrap64; exact IntKind.wrap_i64 _) ?_
      try go_simp
      refine list_read (v := .bool true) rfl rfl (fun u hS => exec_eqlZ u (.tmp 58) (.tmp 60) hC rfl rfl rfl) ?_
      try go_simp
      refine list_read (v := .bool true) rfl rfl (fun u hS => by go_simp) ?_
      try go_simp
      refine list_read (v := .bool true) rfl rfl (fun u hS => by go_simp) ?_
      try go_simp
      refine list_skip ?_ ?_ ?_
      · rfl
      · rfl
      try go_simp
      refine list_skip ?_ ?_ ?_
      · rfl
      · rfl
      try go_simp
      refine list_skip ?_ ?_ ?_
      · rfl
      · rfl
      try go_simp
      refine list_skip ?_ ?_ ?_
      · rfl
      · rfl
      try go_simp
      refine list_skip ?_ ?_ ?_
      · rfl
      · rfl
      try go_simp
      refine list_read (v := .bool true) rfl rfl (fun u hS => by go_simp) ?_
      try go_simp
      refine list_read (v := .bool true) rfl rfl (fun u hS => by go_simp) ?_
      try go_simp
      refine list_read (v := .bool true) rfl rfl (fun u hS => by go_simp) ?_
      try go_simp
      refine list_call (v := .bool true) (f := 17) (args := #[]) rfl rfl (fun u hS => by go_simp) (fun u hS => (unhide hW u).mono fun _ _ ⟨he, hb⟩ => ⟨he, hS.keep hb⟩) ?_
      try go_simp
      refine list_read (v := .bool true) rfl rfl (fun u hS => by go_simp) ?_
      try go_simp
      refine list_read (v := .bool true) rfl rfl (fun u hS => by go_simp) ?_
      try go_simp
      refine list_end (fun u hS => ?_)
      have O := hide hS.o
      clear hS
      go_wp2
      go_ret
      exact ⟨rfl, unhide O⟩

theorem detM_tr (X : Nat → Int) : detM (tr X) = detM X := by
  show X 0 * (X 4 * X 8 - X 7 * X 5) + X 3 * (X 7 * X 2 - X 1 * X 8) + X 6 * (X 1 * X 5 - X 4 * X 2) = X 0 * (X 4 * X 8 - X 5 * X 7) + X 1 * (X 5 * X 6 - X 3 * X 8) + X 2 * (X 3 * X 7 - X 4 * X 6)
  grind
theorem detM_swp (X : Nat → Int) (i k : Nat) (hi : i < 3) (h : k = (i + 1) % 3) : detM (swp X i k) = -detM X := by
  subst h
  rcases (show i = 0 ∨ i = 1 ∨ i = 2 by omega) with rfl | rfl | rfl
  · show X 3 * (X 1 * X 8 - X 2 * X 7) + X 4 * (X 2 * X 6 - X 0 * X 8) + X 5 * (X 0 * X 7 - X 1 * X 6) = -(X 0 * (X 4 * X 8 - X 5 * X 7) + X 1 * (X 5 * X 6 - X 3 * X 8) + X 2 * (X 3 * X 7 - X 4 * X 6))
    grind
  · show X 0 * (X 7 * X 5 - X 8 * X 4) + X 1 * (X 8 * X 3 - X 6 * X 5) + X 2 * (X 6 * X 4 - X 7 * X 3) = -(X 0 * (X 4 * X 8 - X 5 * X 7) + X 1 * (X 5 * X 6 - X 3 * X 8) + X 2 * (X 3 * X 7 - X 4 * X 6))
    grind
  · show X 6 * (X 4 * X 2 - X 5 * X 1) + X 7 * (X 5 * X 0 - X 3 * X 2) + X 8 * (X 3 * X 1 - X 4 * X 0) = -(X 0 * (X 4 * X 8 - X 5 * X 7) + X 1 * (X 5 * X 6 - X 3 * X 8) + X 2 * (X 3 * X 7 - X 4 * X 6))
    grind
theorem inn4_cl {z : Int} (h : inn4 (cl z) = true) : cl z = z ∧ -9223372036854775807 < z ∧ z < 9223372036854775807 := by
  unfold inn4 at h
  rw [Bool.and_eq_true, decide_eq_true_eq, decide_eq_true_eq] at h
  revert h
  unfold cl
  split
  · intro h; omega
  · split
    · intro h; omega
    · intro h; exact ⟨rfl, h⟩
theorem opp4_math (N M : Int) (e : M = -N) : inn4 (cl (N / 18446744073709551616)) = true → inn4 (cl (M / 18446744073709551616)) = true → cl (M / 18446744073709551616) = wrap64 (-(cl (N / 18446744073709551616))) ∨ cl (M / 18446744073709551616) = wrap64 (wrap64 (-(cl (N / 18446744073709551616))) - 1) := by
  intro h1 h2
  obtain ⟨a1, a2, a3⟩ := inn4_cl h1
  obtain ⟨b1, b2, b3⟩ := inn4_cl h2
  rw [a1, b1, wrap_self (z := -(N / 18446744073709551616)) ⟨by omega, by omega⟩, wrap_self (z := -(N / 18446744073709551616) - 1) ⟨by omega, by omega⟩]
  omega
theorem upd_64 {Y : Nat → Int} (hY : ∀ j, I64 (Y j)) (i : Nat) {a b c : Int} (ha : I64 a) (hb : I64 b) (hc : I64 c) (j : Nat) : I64 (upd Y i a b c j) := by
  unfold upd
  split
  · split
    · exact ha
    · split
      · exact hb
      · exact hc
  · exact hY j
theorem one_det : detI (dg 4294967296 4294967296 4294967296) = 4294967296 := by kernel_rfl
theorem matSigns_walk (X0 : Nat → Int) (a1 : Int) (k0 : ∀ j, (Lit.int .i64 (X0 j)).wf = true) (w1 : (Lit.int .i64 a1).wf = true) (w : World) :
    Calls Try.prog 8 #[.agg (m9 X0), .int .i64 a1] w fun e w' => e = .returned (.bool true) ∧ Below w.heap.size w w' := by
  have hX : ∀ j, I64 (X0 j) := fun j => I64.wf (k0 j)
  have hT : Ans 18 #[.agg (m9 (tr X0))] (.int .i64 (detI X0)) := by
    have k := DetZ (tr_64 hX)
    unfold detI at k ⊢
    rwa [detM_tr] at k
  exact signs_core X0 a1 (detI X0) (fun i k => detI (swp X0 i k)) w (by simp) (by simp) OneZ (DetAs (dg_64 aw_i5 aw_i5 aw_i5) one_det) (TurnedZ X0) hT (DetZ hX)
    (fun i _ k _ _ => DetZ (upd_64 (upd_64 hX i (hX _) (hX _) (hX _)) k (hX _) (hX _) (hX _))) Inner4Z Awake4Z
    (fun i hi k _ h => opp4_math (detM X0) (detM (swp X0 i k)) (detM_swp X0 i k hi h))

end Go.Proofs.Ytkhfmhiinalfoaa
