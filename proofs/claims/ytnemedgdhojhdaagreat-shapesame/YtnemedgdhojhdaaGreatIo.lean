/- Lists of vectors held against each other; shapes held against each other; copies. -/
import Derived.Test.YtnemedgdhojhdaaGreatIk
namespace Go.Proofs.YtnemedgdhojhdaaGreat
open Go.RowKit
set_option maxRecDepth 4000
set_option linter.unusedVariables false

theorem exec_neq_vecB {o : Oper} {ac : Act} (wd : World) (p q : Operand) {x y z a b c : Int} {ty' : TypeId} {s t : Bool} (hb : sameV x y z a b c = s) (hs : (!s) = t) (ho : o.op = .binOp .neq 24 p q ty') (hx : ac.eval p = .agg (v3 x y z)) (hy : ac.eval q = .agg (v3 a b c)) : (execOp ac.eval o).run Tryz.prog wd = .ok (.value (.bool t)) wd := by
  subst hs
  exact exec_neq_vec wd p q hb ho hx hy
/-- Are two lists of n and k points the same? -/
def eqVs (n k : Nat) (ps qs : Nat → Pt) : Bool := decide (n = k) && (List.range n).all fun i => sameV (ps i).1 (ps i).2.1 (ps i).2.2 (qs i).1 (qs i).2.1 (qs i).2.2
set_option maxHeartbeats 4000000 in
theorem equalL_len (A B : Option Addr) (n k c1 c2 : Nat) (w : World) (e0 : Hid (decide ((n : Int) = k) = false)) : Calls Tryz.prog 48 #[.slice A n c1, .slice B k c2] w fun e w' => e = .returned (.bool false) ∧ Below w.heap.size w w' := by
  go_enter Tryz.func48, Tryz.ntmps48
  go_upto_region 1 with fail
  have D := hide ((Gd.start w))
  refine list_start (S := Gd w []) (unhide D) ?_
  clear D
  refine list_read (v := .slice A n c1) rfl rfl (fun u hS => by go_simp) ?_
  try go_simp
  refine list_read (v := .int .i64 n) rfl rfl (fun u hS => by go_simp) ?_
  try go_simp
  refine list_read (v := .slice B k c2) rfl rfl (fun u hS => by go_simp) ?_
  try go_simp
  refine list_read (v := .int .i64 k) rfl rfl (fun u hS => by go_simp) ?_
  try go_simp
  refine list_read (v := .bool true) rfl rfl (fun u hS => exec_neqS _ _ (unhide e0) rfl rfl rfl) ?_
  try go_simp
  refine list_end (fun u1 hS => ?_)
  have D := hide hS
  clear hS
  go_upto_region 2 with fail
  refine list_start (S := Gd w []) (unhide D) ?_
  clear D
  refine list_read (v := .bool false) rfl rfl (fun u hS => by go_simp) ?_
  try go_simp
  refine list_end (fun u2 hS => ?_)
  have D := hide hS
  clear hS
  go_wp2
  go_ret
  exact ⟨rfl, (unhide D).g.o⟩
set_option maxHeartbeats 4000000 in
theorem equalL_core (A B : Option Addr) (n c1 c2 m : Nat) (ps qs : Nat → Pt) (bb : Bool) (w : World) (hn : n ≤ 9223372036854775807) (hm : m ≤ n) (hP : Hid (PRow w A n ps)) (hQ : Hid (PRow w B n qs)) (hl : Hid (∀ i, i < m → sameV (ps i).1 (ps i).2.1 (ps i).2.2 (qs i).1 (qs i).2.1 (qs i).2.2 = true)) (hr : Hid (m < n → sameV (ps m).1 (ps m).2.1 (ps m).2.2 (qs m).1 (qs m).2.1 (qs m).2.2 = false)) (h1 : Hid (m < n → bb = false)) (h2 : Hid (¬ m < n → bb = true)) :
    Calls Tryz.prog 48 #[.slice A n c1, .slice B n c2] w fun e w' => e = .returned (.bool bb) ∧ Below w.heap.size w w' := by
  go_enter Tryz.func48, Tryz.ntmps48
  go_wp2
  go_loopw [13] (fun i wr => ∃ k : Nat, k ≤ m ∧ i = .int .i64 k ∧ Hid (Below w.heap.size w wr)) (fun i _ => n - (intOf i).toNat)
  case atStart => exact ⟨0, Nat.zero_le _, rfl, Below.refl _ _⟩
  case round =>
    obtain ⟨k, hk, rfl, hB⟩ := hrel
    by_cases hkn : k < n
    · obtain ⟨g0, off0, rfl, hg0, hr0⟩ := (unhide hP).resolve_left (by omega)
      obtain ⟨g1, off1, rfl, hg1, hr1⟩ := (unhide hQ).resolve_left (by omega)
      have hpt := hide (at_below (hr0 k hkn) (unhide hB) hg0)
      have hlt := hide (Nat.lt_of_lt_of_le hg0 (unhide hB).size)
      have hqt := hide (at_below (hr1 k hkn) (unhide hB) hg1)
      have hlu := hide (Nat.lt_of_lt_of_le hg1 (unhide hB).size)
      clear hr0 hg0 hr1 hg1
      have ans : ∃ b : Bool, b = decide (k = m) ∧ sameV (ps k).1 (ps k).2.1 (ps k).2.2 (qs k).1 (qs k).2.1 (qs k).2.2 = !b := by
        by_cases e : k = m
        · subst e; exact ⟨true, by simp, unhide hr hkn⟩
        · exact ⟨false, by simp [e], unhide hl k (by omega)⟩
      obtain ⟨b, hbe0, hs0⟩ := ans
      have hbe := hide hbe0
      have hs := hide hs0
      clear hbe0 hs0
      go_upto_region 6 with fail
      have D := hide (Gd.start wr)
      refine region_plan (S := Gd wr []) (l := [0, 1, 2, 3, 4, 5, 6, 7, 8]) (by kernel_rfl) (by kernel_rfl) (by kernel_rfl) (by kernel_rfl) (by kernel_rfl) (by kernel_rfl) (by kernel_rfl) (unhide D).drew ?_
      clear D
      refine plan_read (v := .slice (some ⟨g0, off0, none⟩) n c1) rfl rfl (fun u hS => by go_simp) ?_
      try go_simp
      refine plan_read (v := .int .i64 k) rfl rfl (fun u hS => by go_simp) ?_
      try go_simp
      refine plan_read (v := .pointer (some ⟨g0, off0 + k * 3, none⟩)) rfl rfl (fun u hS => exec_ixV u (.tmp 16) (.tmp 17) hkn rfl rfl rfl) ?_
      try go_simp
      refine plan_read (v := .agg (v3 (ps k).1 (ps k).2.1 (ps k).2.2)) rfl rfl (fun u hS => exec_ldV (.tmp 18) rfl rfl (at_below (unhide hpt) hS.g.o (unhide hlt))) ?_
      try go_simp
      refine plan_read (v := .slice (some ⟨g1, off1, none⟩) n c2) rfl rfl (fun u hS => by go_simp) ?_
      try go_simp
      refine plan_read (v := .int .i64 k) rfl rfl (fun u hS => by go_simp) ?_
      try go_simp
      refine plan_read (v := .pointer (some ⟨g1, off1 + k * 3, none⟩)) rfl rfl (fun u hS => exec_ixV u (.tmp 20) (.tmp 21) hkn rfl rfl rfl) ?_
      try go_simp
      refine plan_read (v := .agg (v3 (qs k).1 (qs k).2.1 (qs k).2.2)) rfl rfl (fun u hS => exec_ldV (.tmp 22) rfl rfl (at_below (unhide hqt) hS.g.o (unhide hlu))) ?_
      try go_simp
      refine plan_read (v := .bool b) rfl rfl (fun u hS => exec_neq_vecB u (.tmp 19) (.tmp 23) (unhide hs) (Bool.not_not b) rfl rfl rfl) ?_
      try go_simp
      refine plan_end (fun u4 hS => ?_)
      have hB4 := hide ((unhide hB).trans (hS.g.o.mono (unhide hB).size))
      clear hS hB hpt hlt hqt hlu
      cases b
      · go_wp2
        go_roundw
        case rel =>
          have hkm : k ≠ m := of_decide_eq_false (unhide hbe).symm
          exact ⟨k + 1, by omega, by go_num, hB4⟩
        case measure => simp [intOf]; omega
      · go_wp2
        go_ret
        have hkm : k = m := of_decide_eq_true (unhide hbe).symm
        exact ⟨by rw [unhide h1 (by omega)]; rfl, unhide hB4⟩
    · go_wp2
      go_ret
      exact ⟨by rw [unhide h2 (by omega)]; rfl, unhide hB⟩
theorem equalL_all (A B : Option Addr) (n k c1 c2 : Nat) (ps qs : Nat → Pt) (w : World) (hn : n ≤ 9223372036854775807) (hP : PRow w A n ps) (hQ : PRow w B k qs) :
    Calls Tryz.prog 48 #[.slice A n c1, .slice B k c2] w fun e w' => e = .returned (.bool (eqVs n k ps qs)) ∧ Below w.heap.size w w' := by
  by_cases e : n = k
  · subst e
    obtain ⟨m, g1, g2, g3⟩ := firstN (fun i => sameV (ps i).1 (ps i).2.1 (ps i).2.2 (qs i).1 (qs i).2.1 (qs i).2.2) n
    refine equalL_core A B n c1 c2 m ps qs _ w hn g1 hP hQ g2 g3 (fun h => ?_) (fun h => ?_)
    · unfold eqVs
      rw [decide_eq_true rfl, Bool.true_and, List.all_eq_false]
      exact ⟨m, List.mem_range.2 h, by rw [g3 h]; decide⟩
    · unfold eqVs
      rw [decide_eq_true rfl, Bool.true_and, List.all_eq_true]
      exact fun i hi => g2 i (by have := List.mem_range.1 hi; omega)
  · have hv : eqVs n k ps qs = false := by unfold eqVs; rw [decide_eq_false e]; rfl
    rw [hv]
    exact equalL_len A B n k c1 c2 w (decide_eq_false (by omega))
set_option maxHeartbeats 4000000 in
theorem sameL_len (A B : Option Addr) (n k c1 c2 : Nat) (w : World) (e0 : Hid (decide ((n : Int) = k) = false)) : Calls Tryz.prog 16 #[.slice A n c1, .slice B k c2] w fun e w' => e = .returned (.bool false) ∧ Below w.heap.size w w' := by
  go_enter Tryz.func16, Tryz.ntmps16
  go_upto_region 1 with fail
  have D := hide ((Gd.start w))
  refine list_start (S := Gd w []) (unhide D) ?_
  clear D
  refine list_read (v := .slice A n c1) rfl rfl (fun u hS => by go_simp) ?_
  try go_simp
  refine list_read (v := .int .i64 n) rfl rfl (fun u hS => by go_simp) ?_
  try go_simp
  refine list_read (v := .slice B k c2) rfl rfl (fun u hS => by go_simp) ?_
  try go_simp
  refine list_read (v := .int .i64 k) rfl rfl (fun u hS => by go_simp) ?_
  try go_simp
  refine list_read (v := .bool true) rfl rfl (fun u hS => exec_neqS _ _ (unhide e0) rfl rfl rfl) ?_
  try go_simp
  refine list_end (fun u1 hS => ?_)
  have D := hide hS
  clear hS
  go_upto_region 2 with fail
  refine list_start (S := Gd w []) (unhide D) ?_
  clear D
  refine list_read (v := .bool false) rfl rfl (fun u hS => by go_simp) ?_
  try go_simp
  refine list_end (fun u2 hS => ?_)
  have D := hide hS
  clear hS
  go_wp2
  go_ret
  exact ⟨rfl, (unhide D).g.o⟩
set_option maxHeartbeats 4000000 in
theorem sameL_core (A B : Option Addr) (n c1 c2 m : Nat) (ps qs : Nat → Pt) (bb : Bool) (w : World) (hn : n ≤ 9223372036854775807) (hm : m ≤ n) (hP : Hid (PRow w A n ps)) (hQ : Hid (PRow w B n qs)) (hl : Hid (∀ i, i < m → sameV (ps i).1 (ps i).2.1 (ps i).2.2 (qs i).1 (qs i).2.1 (qs i).2.2 = true)) (hr : Hid (m < n → sameV (ps m).1 (ps m).2.1 (ps m).2.2 (qs m).1 (qs m).2.1 (qs m).2.2 = false)) (h1 : Hid (m < n → bb = false)) (h2 : Hid (¬ m < n → bb = true)) :
    Calls Tryz.prog 16 #[.slice A n c1, .slice B n c2] w fun e w' => e = .returned (.bool bb) ∧ Below w.heap.size w w' := by
  go_enter Tryz.func16, Tryz.ntmps16
  go_wp2
  go_loopw [5] (fun i wr => ∃ k : Nat, k ≤ m ∧ i = .int .i64 k ∧ Hid (Below w.heap.size w wr)) (fun i _ => n - (intOf i).toNat)
  case atStart => exact ⟨0, Nat.zero_le _, rfl, Below.refl _ _⟩
  case round =>
    obtain ⟨k, hk, rfl, hB⟩ := hrel
    by_cases hkn : k < n
    · obtain ⟨g0, off0, rfl, hg0, hr0⟩ := (unhide hP).resolve_left (by omega)
      obtain ⟨g1, off1, rfl, hg1, hr1⟩ := (unhide hQ).resolve_left (by omega)
      have hpt := hide (at_below (hr0 k hkn) (unhide hB) hg0)
      have hlt := hide (Nat.lt_of_lt_of_le hg0 (unhide hB).size)
      have hqt := hide (at_below (hr1 k hkn) (unhide hB) hg1)
      have hlu := hide (Nat.lt_of_lt_of_le hg1 (unhide hB).size)
      clear hr0 hg0 hr1 hg1
      have ans : ∃ b : Bool, b = decide (k = m) ∧ sameV (ps k).1 (ps k).2.1 (ps k).2.2 (qs k).1 (qs k).2.1 (qs k).2.2 = !b := by
        by_cases e : k = m
        · subst e; exact ⟨true, by simp, unhide hr hkn⟩
        · exact ⟨false, by simp [e], unhide hl k (by omega)⟩
      obtain ⟨b, hbe0, hs0⟩ := ans
      have hbe := hide hbe0
      have hs := hide hs0
      clear hbe0 hs0
      go_upto_region 6 with fail
      have D := hide (Gd.start wr)
      refine region_plan (S := Gd wr []) (l := [0, 1, 2, 3, 4, 5, 6, 7, 8]) (by kernel_rfl) (by kernel_rfl) (by kernel_rfl) (by kernel_rfl) (by kernel_rfl) (by kernel_rfl) (by kernel_rfl) (unhide D).drew ?_
      clear D
      refine plan_read (v := .slice (some ⟨g0, off0, none⟩) n c1) rfl rfl (fun u hS => by go_simp) ?_
      try go_simp
      refine plan_read (v := .int .i64 k) rfl rfl (fun u hS => by go_simp) ?_
      try go_simp
      refine plan_read (v := .pointer (some ⟨g0, off0 + k * 3, none⟩)) rfl rfl (fun u hS => exec_ixV u (.tmp 17) (.tmp 18) hkn rfl rfl rfl) ?_
      try go_simp
      refine plan_read (v := .agg (v3 (ps k).1 (ps k).2.1 (ps k).2.2)) rfl rfl (fun u hS => exec_ldV (.tmp 19) rfl rfl (at_below (unhide hpt) hS.g.o (unhide hlt))) ?_
      try go_simp
      refine plan_read (v := .slice (some ⟨g1, off1, none⟩) n c2) rfl rfl (fun u hS => by go_simp) ?_
      try go_simp
      refine plan_read (v := .int .i64 k) rfl rfl (fun u hS => by go_simp) ?_
      try go_simp
      refine plan_read (v := .pointer (some ⟨g1, off1 + k * 3, none⟩)) rfl rfl (fun u hS => exec_ixV u (.tmp 21) (.tmp 22) hkn rfl rfl rfl) ?_
      try go_simp
      refine plan_read (v := .agg (v3 (qs k).1 (qs k).2.1 (qs k).2.2)) rfl rfl (fun u hS => exec_ldV (.tmp 23) rfl rfl (at_below (unhide hqt) hS.g.o (unhide hlu))) ?_
      try go_simp
      refine plan_read (v := .bool b) rfl rfl (fun u hS => exec_neq_vecB u (.tmp 20) (.tmp 24) (unhide hs) (Bool.not_not b) rfl rfl rfl) ?_
      try go_simp
      refine plan_end (fun u4 hS => ?_)
      have hB4 := hide ((unhide hB).trans (hS.g.o.mono (unhide hB).size))
      clear hS hB hpt hlt hqt hlu
      cases b
      · go_wp2
        go_roundw
        case rel =>
          have hkm : k ≠ m := of_decide_eq_false (unhide hbe).symm
          exact ⟨k + 1, by omega, by go_num, hB4⟩
        case measure => simp [intOf]; omega
      · go_wp2
        go_ret
        have hkm : k = m := of_decide_eq_true (unhide hbe).symm
        exact ⟨by rw [unhide h1 (by omega)]; rfl, unhide hB4⟩
    · go_wp2
      go_ret
      exact ⟨by rw [unhide h2 (by omega)]; rfl, unhide hB⟩
theorem sameL_all (A B : Option Addr) (n k c1 c2 : Nat) (ps qs : Nat → Pt) (w : World) (hn : n ≤ 9223372036854775807) (hP : PRow w A n ps) (hQ : PRow w B k qs) :
    Calls Tryz.prog 16 #[.slice A n c1, .slice B k c2] w fun e w' => e = .returned (.bool (eqVs n k ps qs)) ∧ Below w.heap.size w w' := by
  by_cases e : n = k
  · subst e
    obtain ⟨m, g1, g2, g3⟩ := firstN (fun i => sameV (ps i).1 (ps i).2.1 (ps i).2.2 (qs i).1 (qs i).2.1 (qs i).2.2) n
    refine sameL_core A B n c1 c2 m ps qs _ w hn g1 hP hQ g2 g3 (fun h => ?_) (fun h => ?_)
    · unfold eqVs
      rw [decide_eq_true rfl, Bool.true_and, List.all_eq_false]
      exact ⟨m, List.mem_range.2 h, by rw [g3 h]; decide⟩
    · unfold eqVs
      rw [decide_eq_true rfl, Bool.true_and, List.all_eq_true]
      exact fun i hi => g2 i (by have := List.mem_range.1 hi; omega)
  · have hv : eqVs n k ps qs = false := by unfold eqVs; rw [decide_eq_false e]; rfl
    rw [hv]
    exact sameL_len A B n k c1 c2 w (decide_eq_false (by omega))
/-- Are two shapes the same? -/
def sameSh (kd rr x y z : Int) (n : Nat) (ps : Nat → Pt) (k2 r2 x2 y2 z2 : Int) (n2 : Nat) (qs : Nat → Pt) : Bool := decide (kd = k2) && (decide (rr = r2) && (sameV x y z x2 y2 z2 && eqVs n n2 ps qs))
set_option maxHeartbeats 4000000 in
theorem shSame_0 (kd rr x y z : Int) (A : Option Addr) (n cp : Nat) (k2 r2 x2 y2 z2 : Int) (B : Option Addr) (n2 cq : Nat) (w : World) (e0 : Hid (decide ((kd : Int) = k2) = false)) : Calls Tryz.prog 25 #[.agg (sh kd rr x y z A n cp), .agg (sh k2 r2 x2 y2 z2 B n2 cq)] w fun e w' => e = .returned (.bool false) ∧ Below w.heap.size w w' := by
  go_enter Tryz.func25, Tryz.ntmps25
  go_upto_region 1 with fail
  have D := hide ((((Gd.start w).push 27 (sh kd rr x y z A n cp)).push 27 (sh k2 r2 x2 y2 z2 B n2 cq)))
  simp only [szA] at D
  refine list_start (S := Gd w [(w.heap.size + 1, 27, sh k2 r2 x2 y2 z2 B n2 cq), (w.heap.size, 27, sh kd rr x y z A n cp)]) (unhide D) ?_
  clear D
  refine list_read (v := .pointer (some ⟨w.heap.size, 0, none⟩)) rfl rfl (fun u hS => by go_simp) ?_
  try go_simp
  refine list_read (v := .int .i64 kd) rfl rfl (fun u hS => exec_loadN_int (g := w.heap.size) (t := 27) (cs := sh kd rr x y z A n cp) hS.g _ rfl rfl (by repeat (first | exact List.mem_cons_self | apply List.mem_cons_of_mem)) rfl) ?_
  try go_simp
  refine list_read (v := .pointer (some ⟨w.heap.size + 1, 0, none⟩)) rfl rfl (fun u hS => by go_simp) ?_
  try go_simp
  refine list_read (v := .int .i64 k2) rfl rfl (fun u hS => exec_loadN_int (g := w.heap.size + 1) (t := 27) (cs := sh k2 r2 x2 y2 z2 B n2 cq) hS.g _ rfl rfl (by repeat (first | exact List.mem_cons_self | apply List.mem_cons_of_mem)) rfl) ?_
  try go_simp
  refine list_read (v := .bool false) rfl rfl (fun u hS => exec_eqlS _ _ (unhide e0) rfl rfl rfl) ?_
  try go_simp
  refine list_read (v := .bool false) rfl rfl (fun u hS => by go_simp) ?_
  try go_simp
  refine list_skip ?_ ?_ ?_
  · rfl
  · rfl
  try go_simp
  refine list_skip ?_ ?_ ?_
  · rfl
  · rfl
  try go_simp
  refine list_skip ?_ ?_ ?_
  · rfl
  · rfl
  try go_simp
  refine list_skip ?_ ?_ ?_
  · rfl
  · rfl
  try go_simp
  refine list_skip ?_ ?_ ?_
  · rfl
  · rfl
  try go_simp
  refine list_read (v := .bool false) rfl rfl (fun u hS => by go_simp) ?_
  try go_simp
  refine list_read (v := .bool false) rfl rfl (fun u hS => by go_simp) ?_
  try go_simp
  refine list_skip ?_ ?_ ?_
  · rfl
  · rfl
  try go_simp
  refine list_skip ?_ ?_ ?_
  · rfl
  · rfl
  try go_simp
  refine list_skip ?_ ?_ ?_
  · rfl
  · rfl
  try go_simp
  refine list_skip ?_ ?_ ?_
  · rfl
  · rfl
  try go_simp
  refine list_skip ?_ ?_ ?_
  · rfl
  · rfl
  try go_simp
  refine list_read (v := .bool false) rfl rfl (fun u hS => by go_simp) ?_
  try go_simp
  refine list_read (v := .bool false) rfl rfl (fun u hS => by go_simp) ?_
  try go_simp
  refine list_skip ?_ ?_ ?_
  · rfl
  · rfl
  try go_simp
  refine list_skip ?_ ?_ ?_
  · rfl
  · rfl
  try go_simp
  refine list_skip ?_ ?_ ?_
  · rfl
  · rfl
  try go_simp
  refine list_skip ?_ ?_ ?_
  · rfl
  · rfl
  try go_simp
  refine list_skip ?_ ?_ ?_
  · rfl
  · rfl
  try go_simp
  refine list_read (v := .bool false) rfl rfl (fun u hS => by go_simp) ?_
  try go_simp
  refine list_read (v := .bool false) rfl rfl (fun u hS => by go_simp) ?_
  try go_simp
  refine list_end (fun u1 hS => ?_)
  have D := hide hS
  clear hS
  go_wp2
  go_ret
  exact ⟨rfl, (unhide D).g.o⟩
set_option maxHeartbeats 4000000 in
theorem shSame_1 (kd rr x y z : Int) (A : Option Addr) (n cp : Nat) (k2 r2 x2 y2 z2 : Int) (B : Option Addr) (n2 cq : Nat) (w : World) (e0 : Hid (decide ((kd : Int) = k2) = true)) (e1 : Hid (decide ((rr : Int) = r2) = false)) : Calls Tryz.prog 25 #[.agg (sh kd rr x y z A n cp), .agg (sh k2 r2 x2 y2 z2 B n2 cq)] w fun e w' => e = .returned (.bool false) ∧ Below w.heap.size w w' := by
  go_enter Tryz.func25, Tryz.ntmps25
  go_upto_region 1 with fail
  have D := hide ((((Gd.start w).push 27 (sh kd rr x y z A n cp)).push 27 (sh k2 r2 x2 y2 z2 B n2 cq)))
  simp only [szA] at D
  refine list_start (S := Gd w [(w.heap.size + 1, 27, sh k2 r2 x2 y2 z2 B n2 cq), (w.heap.size, 27, sh kd rr x y z A n cp)]) (unhide D) ?_
  clear D
  refine list_read (v := .pointer (some ⟨w.heap.size, 0, none⟩)) rfl rfl (fun u hS => by go_simp) ?_
  try go_simp
  refine list_read (v := .int .i64 kd) rfl rfl (fun u hS => exec_loadN_int (g := w.heap.size) (t := 27) (cs := sh kd rr x y z A n cp) hS.g _ rfl rfl (by repeat (first | exact List.mem_cons_self | apply List.mem_cons_of_mem)) rfl) ?_
  try go_simp
  refine list_read (v := .pointer (some ⟨w.heap.size + 1, 0, none⟩)) rfl rfl (fun u hS => by go_simp) ?_
  try go_simp
  refine list_read (v := .int .i64 k2) rfl rfl (fun u hS => exec_loadN_int (g := w.heap.size + 1) (t := 27) (cs := sh k2 r2 x2 y2 z2 B n2 cq) hS.g _ rfl rfl (by repeat (first | exact List.mem_cons_self | apply List.mem_cons_of_mem)) rfl) ?_
  try go_simp
  refine list_read (v := .bool true) rfl rfl (fun u hS => exec_eqlS _ _ (unhide e0) rfl rfl rfl) ?_
  try go_simp
  refine list_read (v := .bool true) rfl rfl (fun u hS => by go_simp) ?_
  try go_simp
  refine list_read (v := .pointer (some ⟨w.heap.size, 1, none⟩)) rfl rfl (fun u hS => by go_simp) ?_
  try go_simp
  refine list_read (v := .int .i64 rr) rfl rfl (fun u hS => exec_loadN_Fix (g := w.heap.size) (t := 27) (cs := sh kd rr x y z A n cp) hS.g _ rfl rfl (by repeat (first | exact List.mem_cons_self | apply List.mem_cons_of_mem)) rfl) ?_
  try go_simp
  refine list_read (v := .pointer (some ⟨w.heap.size + 1, 1, none⟩)) rfl rfl (fun u hS => by go_simp) ?_
  try go_simp
  refine list_read (v := .int .i64 r2) rfl rfl (fun u hS => exec_loadN_Fix (g := w.heap.size + 1) (t := 27) (cs := sh k2 r2 x2 y2 z2 B n2 cq) hS.g _ rfl rfl (by repeat (first | exact List.mem_cons_self | apply List.mem_cons_of_mem)) rfl) ?_
  try go_simp
  refine list_read (v := .bool false) rfl rfl (fun u hS => exec_eqlS _ _ (unhide e1) rfl rfl rfl) ?_
  try go_simp
  refine list_read (v := .bool false) rfl rfl (fun u hS => by go_simp) ?_
  try go_simp
  refine list_read (v := .bool false) rfl rfl (fun u hS => by go_simp) ?_
  try go_simp
  refine list_skip ?_ ?_ ?_
  · rfl
  · rfl
  try go_simp
  refine list_skip ?_ ?_ ?_
  · rfl
  · rfl
  try go_simp
  refine list_skip ?_ ?_ ?_
  · rfl
  · rfl
  try go_simp
  refine list_skip ?_ ?_ ?_
  · rfl
  · rfl
  try go_simp
  refine list_skip ?_ ?_ ?_
  · rfl
  · rfl
  try go_simp
  refine list_read (v := .bool false) rfl rfl (fun u hS => by go_simp) ?_
  try go_simp
  refine list_read (v := .bool false) rfl rfl (fun u hS => by go_simp) ?_
  try go_simp
  refine list_skip ?_ ?_ ?_
  · rfl
  · rfl
  try go_simp
  refine list_skip ?_ ?_ ?_
  · rfl
  · rfl
  try go_simp
  refine list_skip ?_ ?_ ?_
  · rfl
  · rfl
  try go_simp
  refine list_skip ?_ ?_ ?_
  · rfl
  · rfl
  try go_simp
  refine list_skip ?_ ?_ ?_
  · rfl
  · rfl
  try go_simp
  refine list_read (v := .bool false) rfl rfl (fun u hS => by go_simp) ?_
  try go_simp
  refine list_read (v := .bool false) rfl rfl (fun u hS => by go_simp) ?_
  try go_simp
  refine list_end (fun u1 hS => ?_)
  have D := hide hS
  clear hS
  go_wp2
  go_ret
  exact ⟨rfl, (unhide D).g.o⟩
set_option maxHeartbeats 4000000 in
theorem shSame_2 (kd rr x y z : Int) (A : Option Addr) (n cp : Nat) (k2 r2 x2 y2 z2 : Int) (B : Option Addr) (n2 cq : Nat) (w : World) (e0 : Hid (decide ((kd : Int) = k2) = true)) (e1 : Hid (decide ((rr : Int) = r2) = true)) (e2 : Hid (sameV x y z x2 y2 z2 = false)) : Calls Tryz.prog 25 #[.agg (sh kd rr x y z A n cp), .agg (sh k2 r2 x2 y2 z2 B n2 cq)] w fun e w' => e = .returned (.bool false) ∧ Below w.heap.size w w' := by
  go_enter Tryz.func25, Tryz.ntmps25
  go_upto_region 1 with fail
  have D := hide ((((Gd.start w).push 27 (sh kd rr x y z A n cp)).push 27 (sh k2 r2 x2 y2 z2 B n2 cq)))
  simp only [szA] at D
  refine list_start (S := Gd w [(w.heap.size + 1, 27, sh k2 r2 x2 y2 z2 B n2 cq), (w.heap.size, 27, sh kd rr x y z A n cp)]) (unhide D) ?_
  clear D
  refine list_read (v := .pointer (some ⟨w.heap.size, 0, none⟩)) rfl rfl (fun u hS => by go_simp) ?_
  try go_simp
  refine list_read (v := .int .i64 kd) rfl rfl (fun u hS => exec_loadN_int (g := w.heap.size) (t := 27) (cs := sh kd rr x y z A n cp) hS.g _ rfl rfl (by repeat (first | exact List.mem_cons_self | apply List.mem_cons_of_mem)) rfl) ?_
  try go_simp
  refine list_read (v := .pointer (some ⟨w.heap.size + 1, 0, none⟩)) rfl rfl (fun u hS => by go_simp) ?_
  try go_simp
  refine list_read (v := .int .i64 k2) rfl rfl (fun u hS => exec_loadN_int (g := w.heap.size + 1) (t := 27) (cs := sh k2 r2 x2 y2 z2 B n2 cq) hS.g _ rfl rfl (by repeat (first | exact List.mem_cons_self | apply List.mem_cons_of_mem)) rfl) ?_
  try go_simp
  refine list_read (v := .bool true) rfl rfl (fun u hS => exec_eqlS _ _ (unhide e0) rfl rfl rfl) ?_
  try go_simp
  refine list_read (v := .bool true) rfl rfl (fun u hS => by go_simp) ?_
  try go_simp
  refine list_read (v := .pointer (some ⟨w.heap.size, 1, none⟩)) rfl rfl (fun u hS => by go_simp) ?_
  try go_simp
  refine list_read (v := .int .i64 rr) rfl rfl (fun u hS => exec_loadN_Fix (g := w.heap.size) (t := 27) (cs := sh kd rr x y z A n cp) hS.g _ rfl rfl (by repeat (first | exact List.mem_cons_self | apply List.mem_cons_of_mem)) rfl) ?_
  try go_simp
  refine list_read (v := .pointer (some ⟨w.heap.size + 1, 1, none⟩)) rfl rfl (fun u hS => by go_simp) ?_
  try go_simp
  refine list_read (v := .int .i64 r2) rfl rfl (fun u hS => exec_loadN_Fix (g := w.heap.size + 1) (t := 27) (cs := sh k2 r2 x2 y2 z2 B n2 cq) hS.g _ rfl rfl (by repeat (first | exact List.mem_cons_self | apply List.mem_cons_of_mem)) rfl) ?_
  try go_simp
  refine list_read (v := .bool true) rfl rfl (fun u hS => exec_eqlS _ _ (unhide e1) rfl rfl rfl) ?_
  try go_simp
  refine list_read (v := .bool true) rfl rfl (fun u hS => by go_simp) ?_
  try go_simp
  refine list_read (v := .bool true) rfl rfl (fun u hS => by go_simp) ?_
  try go_simp
  refine list_read (v := .pointer (some ⟨w.heap.size, 2, none⟩)) rfl rfl (fun u hS => by go_simp) ?_
  try go_simp
  refine list_read (v := .agg (v3 x y z)) rfl rfl (fun u hS => exec_loadSub (i := 2) (g := w.heap.size) (t := 27) (cs := sh kd rr x y z A n cp) hS.g rVec (vs := v3 x y z) _ rfl rfl (by repeat (first | exact List.mem_cons_self | apply List.mem_cons_of_mem)) rfl rfl) ?_
  try go_simp
  refine list_read (v := .pointer (some ⟨w.heap.size + 1, 2, none⟩)) rfl rfl (fun u hS => by go_simp) ?_
  try go_simp
  refine list_read (v := .agg (v3 x2 y2 z2)) rfl rfl (fun u hS => exec_loadSub (i := 2) (g := w.heap.size + 1) (t := 27) (cs := sh k2 r2 x2 y2 z2 B n2 cq) hS.g rVec (vs := v3 x2 y2 z2) _ rfl rfl (by repeat (first | exact List.mem_cons_self | apply List.mem_cons_of_mem)) rfl rfl) ?_
  try go_simp
  refine list_read (v := .bool false) rfl rfl (fun u hS => exec_eql_vec (s := false) _ _ _ (unhide e2) rfl rfl rfl) ?_
  try go_simp
  refine list_read (v := .bool false) rfl rfl (fun u hS => by go_simp) ?_
  try go_simp
  refine list_read (v := .bool false) rfl rfl (fun u hS => by go_simp) ?_
  try go_simp
  refine list_skip ?_ ?_ ?_
  · rfl
  · rfl
  try go_simp
  refine list_skip ?_ ?_ ?_
  · rfl
  · rfl
  try go_simp
  refine list_skip ?_ ?_ ?_
  · rfl
  · rfl
  try go_simp
  refine list_skip ?_ ?_ ?_
  · rfl
  · rfl
  try go_simp
  refine list_skip ?_ ?_ ?_
  · rfl
  · rfl
  try go_simp
  refine list_read (v := .bool false) rfl rfl (fun u hS => by go_simp) ?_
  try go_simp
  refine list_read (v := .bool false) rfl rfl (fun u hS => by go_simp) ?_
  try go_simp
  refine list_end (fun u1 hS => ?_)
  have D := hide hS
  clear hS
  go_wp2
  go_ret
  exact ⟨rfl, (unhide D).g.o⟩
set_option maxHeartbeats 4000000 in
theorem shSame_3 (kd rr x y z : Int) (A : Option Addr) (n cp : Nat) (k2 r2 x2 y2 z2 : Int) (B : Option Addr) (n2 cq : Nat) (t : Bool) (w : World) (e0 : Hid (decide ((kd : Int) = k2) = true)) (e1 : Hid (decide ((rr : Int) = r2) = true)) (e2 : Hid (sameV x y z x2 y2 z2 = true)) (h0 : Hid (∀ u, Below w.heap.size w u → Calls Tryz.prog 48 #[.slice A n cp, .slice B n2 cq] u fun e w' => e = .returned (.bool t) ∧ Below u.heap.size u w')) : Calls Tryz.prog 25 #[.agg (sh kd rr x y z A n cp), .agg (sh k2 r2 x2 y2 z2 B n2 cq)] w fun e w' => e = .returned (.bool t) ∧ Below w.heap.size w w' := by
  go_enter Tryz.func25, Tryz.ntmps25
  go_upto_region 1 with fail
  have D := hide ((((Gd.start w).push 27 (sh kd rr x y z A n cp)).push 27 (sh k2 r2 x2 y2 z2 B n2 cq)))
  simp only [szA] at D
  refine list_start (S := Gd w [(w.heap.size + 1, 27, sh k2 r2 x2 y2 z2 B n2 cq), (w.heap.size, 27, sh kd rr x y z A n cp)]) (unhide D) ?_
  clear D
  refine list_read (v := .pointer (some ⟨w.heap.size, 0, none⟩)) rfl rfl (fun u hS => by go_simp) ?_
  try go_simp
  refine list_read (v := .int .i64 kd) rfl rfl (fun u hS => exec_loadN_int (g := w.heap.size) (t := 27) (cs := sh kd rr x y z A n cp) hS.g _ rfl rfl (by repeat (first | exact List.mem_cons_self | apply List.mem_cons_of_mem)) rfl) ?_
  try go_simp
  refine list_read (v := .pointer (some ⟨w.heap.size + 1, 0, none⟩)) rfl rfl (fun u hS => by go_simp) ?_
  try go_simp
  refine list_read (v := .int .i64 k2) rfl rfl (fun u hS => exec_loadN_int (g := w.heap.size + 1) (t := 27) (cs := sh k2 r2 x2 y2 z2 B n2 cq) hS.g _ rfl rfl (by repeat (first | exact List.mem_cons_self | apply List.mem_cons_of_mem)) rfl) ?_
  try go_simp
  refine list_read (v := .bool true) rfl rfl (fun u hS => exec_eqlS _ _ (unhide e0) rfl rfl rfl) ?_
  try go_simp
  refine list_read (v := .bool true) rfl rfl (fun u hS => by go_simp) ?_
  try go_simp
  refine list_read (v := .pointer (some ⟨w.heap.size, 1, none⟩)) rfl rfl (fun u hS => by go_simp) ?_
  try go_simp
  refine list_read (v := .int .i64 rr) rfl rfl (fun u hS => exec_loadN_Fix (g := w.heap.size) (t := 27) (cs := sh kd rr x y z A n cp) hS.g _ rfl rfl (by repeat (first | exact List.mem_cons_self | apply List.mem_cons_of_mem)) rfl) ?_
  try go_simp
  refine list_read (v := .pointer (some ⟨w.heap.size + 1, 1, none⟩)) rfl rfl (fun u hS => by go_simp) ?_
  try go_simp
  refine list_read (v := .int .i64 r2) rfl rfl (fun u hS => exec_loadN_Fix (g := w.heap.size + 1) (t := 27) (cs := sh k2 r2 x2 y2 z2 B n2 cq) hS.g _ rfl rfl (by repeat (first | exact List.mem_cons_self | apply List.mem_cons_of_mem)) rfl) ?_
  try go_simp
  refine list_read (v := .bool true) rfl rfl (fun u hS => exec_eqlS _ _ (unhide e1) rfl rfl rfl) ?_
  try go_simp
  refine list_read (v := .bool true) rfl rfl (fun u hS => by go_simp) ?_
  try go_simp
  refine list_read (v := .bool true) rfl rfl (fun u hS => by go_simp) ?_
  try go_simp
  refine list_read (v := .pointer (some ⟨w.heap.size, 2, none⟩)) rfl rfl (fun u hS => by go_simp) ?_
  try go_simp
  refine list_read (v := .agg (v3 x y z)) rfl rfl (fun u hS => exec_loadSub (i := 2) (g := w.heap.size) (t := 27) (cs := sh kd rr x y z A n cp) hS.g rVec (vs := v3 x y z) _ rfl rfl (by repeat (first | exact List.mem_cons_self | apply List.mem_cons_of_mem)) rfl rfl) ?_
  try go_simp
  refine list_read (v := .pointer (some ⟨w.heap.size + 1, 2, none⟩)) rfl rfl (fun u hS => by go_simp) ?_
  try go_simp
  refine list_read (v := .agg (v3 x2 y2 z2)) rfl rfl (fun u hS => exec_loadSub (i := 2) (g := w.heap.size + 1) (t := 27) (cs := sh k2 r2 x2 y2 z2 B n2 cq) hS.g rVec (vs := v3 x2 y2 z2) _ rfl rfl (by repeat (first | exact List.mem_cons_self | apply List.mem_cons_of_mem)) rfl rfl) ?_
  try go_simp
  refine list_read (v := .bool true) rfl rfl (fun u hS => exec_eql_vec (s := true) _ _ _ (unhide e2) rfl rfl rfl) ?_
  try go_simp
  refine list_read (v := .bool true) rfl rfl (fun u hS => by go_simp) ?_
  try go_simp
  refine list_read (v := .bool true) rfl rfl (fun u hS => by go_simp) ?_
  try go_simp
  refine list_read (v := .pointer (some ⟨w.heap.size, 5, none⟩)) rfl rfl (fun u hS => by go_simp) ?_
  try go_simp
  refine list_read (v := .slice A n cp) rfl rfl (fun u hS => exec_loadV_Vecs (g := w.heap.size) (t := 27) (cs := sh kd rr x y z A n cp) hS.g _ rfl rfl (by repeat (first | exact List.mem_cons_self | apply List.mem_cons_of_mem)) rfl) ?_
  try go_simp
  refine list_read (v := .pointer (some ⟨w.heap.size + 1, 5, none⟩)) rfl rfl (fun u hS => by go_simp) ?_
  try go_simp
  refine list_read (v := .slice B n2 cq) rfl rfl (fun u hS => exec_loadV_Vecs (g := w.heap.size + 1) (t := 27) (cs := sh k2 r2 x2 y2 z2 B n2 cq) hS.g _ rfl rfl (by repeat (first | exact List.mem_cons_self | apply List.mem_cons_of_mem)) rfl) ?_
  try go_simp
  refine list_call (v := .bool t) (f := 48) (args := #[.slice A n cp, .slice B n2 cq]) rfl rfl (fun u hS => by go_simp) (fun u hS => (unhide h0 u hS.g.o).mono fun _ _ ⟨he, hb⟩ => ⟨he, hS.keep hb⟩) ?_
  try go_simp
  refine list_read (v := .bool t) rfl rfl (fun u hS => by go_simp) ?_
  try go_simp
  refine list_read (v := .bool t) rfl rfl (fun u hS => by go_simp) ?_
  try go_simp
  refine list_end (fun u1 hS => ?_)
  have D := hide hS
  clear hS
  go_wp2
  go_ret
  exact ⟨rfl, (unhide D).g.o⟩
theorem shSame_all (kd rr x y z : Int) (A : Option Addr) (n cp : Nat) (k2 r2 x2 y2 z2 : Int) (B : Option Addr) (n2 cq : Nat) (ps qs : Nat → Pt) (w : World) (hn : n ≤ 9223372036854775807) (hP : PRow w A n ps) (hQ : PRow w B n2 qs) :
    Calls Tryz.prog 25 #[.agg (sh kd rr x y z A n cp), .agg (sh k2 r2 x2 y2 z2 B n2 cq)] w fun e w' => e = .returned (.bool (sameSh kd rr x y z n ps k2 r2 x2 y2 z2 n2 qs)) ∧ Below w.heap.size w w' := by
  unfold sameSh
  cases h0 : decide (kd = k2)
  · exact shSame_0 kd rr x y z A n cp k2 r2 x2 y2 z2 B n2 cq w h0
  · cases h1 : decide (rr = r2)
    · exact shSame_1 kd rr x y z A n cp k2 r2 x2 y2 z2 B n2 cq w h0 h1
    · cases h2 : sameV x y z x2 y2 z2
      · exact shSame_2 kd rr x y z A n cp k2 r2 x2 y2 z2 B n2 cq w h0 h1 h2
      · exact shSame_3 kd rr x y z A n cp k2 r2 x2 y2 z2 B n2 cq _ w h0 h1 h2 (fun u hu => equalL_all A B n n2 cp cq ps qs u hn (hP.below hu) (hQ.below hu))
set_option maxHeartbeats 4000000 in
theorem rfSame_0 (kd rr x y z : Int) (A : Option Addr) (n cp : Nat) (k2 r2 x2 y2 z2 : Int) (B : Option Addr) (n2 cq : Nat) (w : World) (e0 : Hid (decide ((kd : Int) = k2) = false)) : Calls Tryz.prog 19 #[.agg (sh kd rr x y z A n cp), .agg (sh k2 r2 x2 y2 z2 B n2 cq)] w fun e w' => e = .returned (.bool false) ∧ Below w.heap.size w w' := by
  go_enter Tryz.func19, Tryz.ntmps19
  go_upto_region 1 with fail
  have D := hide ((((Gd.start w).push 27 (sh kd rr x y z A n cp)).push 27 (sh k2 r2 x2 y2 z2 B n2 cq)))
  simp only [szA] at D
  refine list_start (S := Gd w [(w.heap.size + 1, 27, sh k2 r2 x2 y2 z2 B n2 cq), (w.heap.size, 27, sh kd rr x y z A n cp)]) (unhide D) ?_
  clear D
  refine list_read (v := .pointer (some ⟨w.heap.size, 0, none⟩)) rfl rfl (fun u hS => by go_simp) ?_
  try go_simp
  refine list_read (v := .int .i64 kd) rfl rfl (fun u hS => exec_loadN_int (g := w.heap.size) (t := 27) (cs := sh kd rr x y z A n cp) hS.g _ rfl rfl (by repeat (first | exact List.mem_cons_self | apply List.mem_cons_of_mem)) rfl) ?_
  try go_simp
  refine list_read (v := .pointer (some ⟨w.heap.size + 1, 0, none⟩)) rfl rfl (fun u hS => by go_simp) ?_
  try go_simp
  refine list_read (v := .int .i64 k2) rfl rfl (fun u hS => exec_loadN_int (g := w.heap.size + 1) (t := 27) (cs := sh k2 r2 x2 y2 z2 B n2 cq) hS.g _ rfl rfl (by repeat (first | exact List.mem_cons_self | apply List.mem_cons_of_mem)) rfl) ?_
  try go_simp
  refine list_read (v := .bool false) rfl rfl (fun u hS => exec_eqlS _ _ (unhide e0) rfl rfl rfl) ?_
  try go_simp
  refine list_read (v := .bool false) rfl rfl (fun u hS => by go_simp) ?_
  try go_simp
  refine list_skip ?_ ?_ ?_
  · rfl
  · rfl
  try go_simp
  refine list_skip ?_ ?_ ?_
  · rfl
  · rfl
  try go_simp
  refine list_skip ?_ ?_ ?_
  · rfl
  · rfl
  try go_simp
  refine list_skip ?_ ?_ ?_
  · rfl
  · rfl
  try go_simp
  refine list_skip ?_ ?_ ?_
  · rfl
  · rfl
  try go_simp
  refine list_read (v := .bool false) rfl rfl (fun u hS => by go_simp) ?_
  try go_simp
  refine list_read (v := .bool false) rfl rfl (fun u hS => by go_simp) ?_
  try go_simp
  refine list_skip ?_ ?_ ?_
  · rfl
  · rfl
  try go_simp
  refine list_skip ?_ ?_ ?_
  · rfl
  · rfl
  try go_simp
  refine list_skip ?_ ?_ ?_
  · rfl
  · rfl
  try go_simp
  refine list_skip ?_ ?_ ?_
  · rfl
  · rfl
  try go_simp
  refine list_skip ?_ ?_ ?_
  · rfl
  · rfl
  try go_simp
  refine list_read (v := .bool false) rfl rfl (fun u hS => by go_simp) ?_
  try go_simp
  refine list_read (v := .bool false) rfl rfl (fun u hS => by go_simp) ?_
  try go_simp
  refine list_skip ?_ ?_ ?_
  · rfl
  · rfl
  try go_simp
  refine list_skip ?_ ?_ ?_
  · rfl
  · rfl
  try go_simp
  refine list_skip ?_ ?_ ?_
  · rfl
  · rfl
  try go_simp
  refine list_skip ?_ ?_ ?_
  · rfl
  · rfl
  try go_simp
  refine list_skip ?_ ?_ ?_
  · rfl
  · rfl
  try go_simp
  refine list_read (v := .bool false) rfl rfl (fun u hS => by go_simp) ?_
  try go_simp
  refine list_read (v := .bool false) rfl rfl (fun u hS => by go_simp) ?_
  try go_simp
  refine list_end (fun u1 hS => ?_)
  have D := hide hS
  clear hS
  go_wp2
  go_ret
  exact ⟨rfl, (unhide D).g.o⟩
set_option maxHeartbeats 4000000 in
theorem rfSame_1 (kd rr x y z : Int) (A : Option Addr) (n cp : Nat) (k2 r2 x2 y2 z2 : Int) (B : Option Addr) (n2 cq : Nat) (w : World) (e0 : Hid (decide ((kd : Int) = k2) = true)) (e1 : Hid (decide ((rr : Int) = r2) = false)) : Calls Tryz.prog 19 #[.agg (sh kd rr x y z A n cp), .agg (sh k2 r2 x2 y2 z2 B n2 cq)] w fun e w' => e = .returned (.bool false) ∧ Below w.heap.size w w' := by
  go_enter Tryz.func19, Tryz.ntmps19
  go_upto_region 1 with fail
  have D := hide ((((Gd.start w).push 27 (sh kd rr x y z A n cp)).push 27 (sh k2 r2 x2 y2 z2 B n2 cq)))
  simp only [szA] at D
  refine list_start (S := Gd w [(w.heap.size + 1, 27, sh k2 r2 x2 y2 z2 B n2 cq), (w.heap.size, 27, sh kd rr x y z A n cp)]) (unhide D) ?_
  clear D
  refine list_read (v := .pointer (some ⟨w.heap.size, 0, none⟩)) rfl rfl (fun u hS => by go_simp) ?_
  try go_simp
  refine list_read (v := .int .i64 kd) rfl rfl (fun u hS => exec_loadN_int (g := w.heap.size) (t := 27) (cs := sh kd rr x y z A n cp) hS.g _ rfl rfl (by repeat (first | exact List.mem_cons_self | apply List.mem_cons_of_mem)) rfl) ?_
  try go_simp
  refine list_read (v := .pointer (some ⟨w.heap.size + 1, 0, none⟩)) rfl rfl (fun u hS => by go_simp) ?_
  try go_simp
  refine list_read (v := .int .i64 k2) rfl rfl (fun u hS => exec_loadN_int (g := w.heap.size + 1) (t := 27) (cs := sh k2 r2 x2 y2 z2 B n2 cq) hS.g _ rfl rfl (by repeat (first | exact List.mem_cons_self | apply List.mem_cons_of_mem)) rfl) ?_
  try go_simp
  refine list_read (v := .bool true) rfl rfl (fun u hS => exec_eqlS _ _ (unhide e0) rfl rfl rfl) ?_
  try go_simp
  refine list_read (v := .bool true) rfl rfl (fun u hS => by go_simp) ?_
  try go_simp
  refine list_read (v := .pointer (some ⟨w.heap.size, 1, none⟩)) rfl rfl (fun u hS => by go_simp) ?_
  try go_simp
  refine list_read (v := .int .i64 rr) rfl rfl (fun u hS => exec_loadN_Fix (g := w.heap.size) (t := 27) (cs := sh kd rr x y z A n cp) hS.g _ rfl rfl (by repeat (first | exact List.mem_cons_self | apply List.mem_cons_of_mem)) rfl) ?_
  try go_simp
  refine list_read (v := .pointer (some ⟨w.heap.size + 1, 1, none⟩)) rfl rfl (fun u hS => by go_simp) ?_
  try go_simp
  refine list_read (v := .int .i64 r2) rfl rfl (fun u hS => exec_loadN_Fix (g := w.heap.size + 1) (t := 27) (cs := sh k2 r2 x2 y2 z2 B n2 cq) hS.g _ rfl rfl (by repeat (first | exact List.mem_cons_self | apply List.mem_cons_of_mem)) rfl) ?_
  try go_simp
  refine list_read (v := .bool false) rfl rfl (fun u hS => exec_eqlS _ _ (unhide e1) rfl rfl rfl) ?_
  try go_simp
  refine list_read (v := .bool false) rfl rfl (fun u hS => by go_simp) ?_
  try go_simp
  refine list_read (v := .bool false) rfl rfl (fun u hS => by go_simp) ?_
  try go_simp
  refine list_skip ?_ ?_ ?_
  · rfl
  · rfl
  try go_simp
  refine list_skip ?_ ?_ ?_
  · rfl
  · rfl
  try go_simp
  refine list_skip ?_ ?_ ?_
  · rfl
  · rfl
  try go_simp
  refine list_skip ?_ ?_ ?_
  · rfl
  · rfl
  try go_simp
  refine list_skip ?_ ?_ ?_
  · rfl
  · rfl
  try go_simp
  refine list_read (v := .bool false) rfl rfl (fun u hS => by go_simp) ?_
  try go_simp
  refine list_read (v := .bool false) rfl rfl (fun u hS => by go_simp) ?_
  try go_simp
  refine list_skip ?_ ?_ ?_
  · rfl
  · rfl
  try go_simp
  refine list_skip ?_ ?_ ?_
  · rfl
  · rfl
  try go_simp
  refine list_skip ?_ ?_ ?_
  · rfl
  · rfl
  try go_simp
  refine list_skip ?_ ?_ ?_
  · rfl
  · rfl
  try go_simp
  refine list_skip ?_ ?_ ?_
  · rfl
  · rfl
  try go_simp
  refine list_read (v := .bool false) rfl rfl (fun u hS => by go_simp) ?_
  try go_simp
  refine list_read (v := .bool false) rfl rfl (fun u hS => by go_simp) ?_
  try go_simp
  refine list_end (fun u1 hS => ?_)
  have D := hide hS
  clear hS
  go_wp2
  go_ret
  exact ⟨rfl, (unhide D).g.o⟩
set_option maxHeartbeats 4000000 in
theorem rfSame_2 (kd rr x y z : Int) (A : Option Addr) (n cp : Nat) (k2 r2 x2 y2 z2 : Int) (B : Option Addr) (n2 cq : Nat) (w : World) (e0 : Hid (decide ((kd : Int) = k2) = true)) (e1 : Hid (decide ((rr : Int) = r2) = true)) (e2 : Hid (sameV x y z x2 y2 z2 = false)) : Calls Tryz.prog 19 #[.agg (sh kd rr x y z A n cp), .agg (sh k2 r2 x2 y2 z2 B n2 cq)] w fun e w' => e = .returned (.bool false) ∧ Below w.heap.size w w' := by
  go_enter Tryz.func19, Tryz.ntmps19
  go_upto_region 1 with fail
  have D := hide ((((Gd.start w).push 27 (sh kd rr x y z A n cp)).push 27 (sh k2 r2 x2 y2 z2 B n2 cq)))
  simp only [szA] at D
  refine list_start (S := Gd w [(w.heap.size + 1, 27, sh k2 r2 x2 y2 z2 B n2 cq), (w.heap.size, 27, sh kd rr x y z A n cp)]) (unhide D) ?_
  clear D
  refine list_read (v := .pointer (some ⟨w.heap.size, 0, none⟩)) rfl rfl (fun u hS => by go_simp) ?_
  try go_simp
  refine list_read (v := .int .i64 kd) rfl rfl (fun u hS => exec_loadN_int (g := w.heap.size) (t := 27) (cs := sh kd rr x y z A n cp) hS.g _ rfl rfl (by repeat (first | exact List.mem_cons_self | apply List.mem_cons_of_mem)) rfl) ?_
  try go_simp
  refine list_read (v := .pointer (some ⟨w.heap.size + 1, 0, none⟩)) rfl rfl (fun u hS => by go_simp) ?_
  try go_simp
  refine list_read (v := .int .i64 k2) rfl rfl (fun u hS => exec_loadN_int (g := w.heap.size + 1) (t := 27) (cs := sh k2 r2 x2 y2 z2 B n2 cq) hS.g _ rfl rfl (by repeat (first | exact List.mem_cons_self | apply List.mem_cons_of_mem)) rfl) ?_
  try go_simp
  refine list_read (v := .bool true) rfl rfl (fun u hS => exec_eqlS _ _ (unhide e0) rfl rfl rfl) ?_
  try go_simp
  refine list_read (v := .bool true) rfl rfl (fun u hS => by go_simp) ?_
  try go_simp
  refine list_read (v := .pointer (some ⟨w.heap.size, 1, none⟩)) rfl rfl (fun u hS => by go_simp) ?_
  try go_simp
  refine list_read (v := .int .i64 rr) rfl rfl (fun u hS => exec_loadN_Fix (g := w.heap.size) (t := 27) (cs := sh kd rr x y z A n cp) hS.g _ rfl rfl (by repeat (first | exact List.mem_cons_self | apply List.mem_cons_of_mem)) rfl) ?_
  try go_simp
  refine list_read (v := .pointer (some ⟨w.heap.size + 1, 1, none⟩)) rfl rfl (fun u hS => by go_simp) ?_
  try go_simp
  refine list_read (v := .int .i64 r2) rfl rfl (fun u hS => exec_loadN_Fix (g := w.heap.size + 1) (t := 27) (cs := sh k2 r2 x2 y2 z2 B n2 cq) hS.g _ rfl rfl (by repeat (first | exact List.mem_cons_self | apply List.mem_cons_of_mem)) rfl) ?_
  try go_simp
  refine list_read (v := .bool true) rfl rfl (fun u hS => exec_eqlS _ _ (unhide e1) rfl rfl rfl) ?_
  try go_simp
  refine list_read (v := .bool true) rfl rfl (fun u hS => by go_simp) ?_
  try go_simp
  refine list_read (v := .bool true) rfl rfl (fun u hS => by go_simp) ?_
  try go_simp
  refine list_read (v := .pointer (some ⟨w.heap.size, 2, none⟩)) rfl rfl (fun u hS => by go_simp) ?_
  try go_simp
  refine list_read (v := .agg (v3 x y z)) rfl rfl (fun u hS => exec_loadSub (i := 2) (g := w.heap.size) (t := 27) (cs := sh kd rr x y z A n cp) hS.g rVec (vs := v3 x y z) _ rfl rfl (by repeat (first | exact List.mem_cons_self | apply List.mem_cons_of_mem)) rfl rfl) ?_
  try go_simp
  refine list_read (v := .pointer (some ⟨w.heap.size + 1, 2, none⟩)) rfl rfl (fun u hS => by go_simp) ?_
  try go_simp
  refine list_read (v := .agg (v3 x2 y2 z2)) rfl rfl (fun u hS => exec_loadSub (i := 2) (g := w.heap.size + 1) (t := 27) (cs := sh k2 r2 x2 y2 z2 B n2 cq) hS.g rVec (vs := v3 x2 y2 z2) _ rfl rfl (by repeat (first | exact List.mem_cons_self | apply List.mem_cons_of_mem)) rfl rfl) ?_
  try go_simp
  refine list_read (v := .bool false) rfl rfl (fun u hS => exec_eql_vec (s := false) _ _ _ (unhide e2) rfl rfl rfl) ?_
  try go_simp
  refine list_read (v := .bool false) rfl rfl (fun u hS => by go_simp) ?_
  try go_simp
  refine list_read (v := .bool false) rfl rfl (fun u hS => by go_simp) ?_
  try go_simp
  refine list_skip ?_ ?_ ?_
  · rfl
  · rfl
  try go_simp
  refine list_skip ?_ ?_ ?_
  · rfl
  · rfl
  try go_simp
  refine list_skip ?_ ?_ ?_
  · rfl
  · rfl
  try go_simp
  refine list_skip ?_ ?_ ?_
  · rfl
  · rfl
  try go_simp
  refine list_skip ?_ ?_ ?_
  · rfl
  · rfl
  try go_simp
  refine list_read (v := .bool false) rfl rfl (fun u hS => by go_simp) ?_
  try go_simp
  refine list_read (v := .bool false) rfl rfl (fun u hS => by go_simp) ?_
  try go_simp
  refine list_end (fun u1 hS => ?_)
  have D := hide hS
  clear hS
  go_wp2
  go_ret
  exact ⟨rfl, (unhide D).g.o⟩
set_option maxHeartbeats 4000000 in
theorem rfSame_3 (kd rr x y z : Int) (A : Option Addr) (n cp : Nat) (k2 r2 x2 y2 z2 : Int) (B : Option Addr) (n2 cq : Nat) (t : Bool) (w : World) (e0 : Hid (decide ((kd : Int) = k2) = true)) (e1 : Hid (decide ((rr : Int) = r2) = true)) (e2 : Hid (sameV x y z x2 y2 z2 = true)) (h0 : Hid (∀ u, Below w.heap.size w u → Calls Tryz.prog 16 #[.slice A n cp, .slice B n2 cq] u fun e w' => e = .returned (.bool t) ∧ Below u.heap.size u w')) : Calls Tryz.prog 19 #[.agg (sh kd rr x y z A n cp), .agg (sh k2 r2 x2 y2 z2 B n2 cq)] w fun e w' => e = .returned (.bool t) ∧ Below w.heap.size w w' := by
  go_enter Tryz.func19, Tryz.ntmps19
  go_upto_region 1 with fail
  have D := hide ((((Gd.start w).push 27 (sh kd rr x y z A n cp)).push 27 (sh k2 r2 x2 y2 z2 B n2 cq)))
  simp only [szA] at D
  refine list_start (S := Gd w [(w.heap.size + 1, 27, sh k2 r2 x2 y2 z2 B n2 cq), (w.heap.size, 27, sh kd rr x y z A n cp)]) (unhide D) ?_
  clear D
  refine list_read (v := .pointer (some ⟨w.heap.size, 0, none⟩)) rfl rfl (fun u hS => by go_simp) ?_
  try go_simp
  refine list_read (v := .int .i64 kd) rfl rfl (fun u hS => exec_loadN_int (g := w.heap.size) (t := 27) (cs := sh kd rr x y z A n cp) hS.g _ rfl rfl (by repeat (first | exact List.mem_cons_self | apply List.mem_cons_of_mem)) rfl) ?_
  try go_simp
  refine list_read (v := .pointer (some ⟨w.heap.size + 1, 0, none⟩)) rfl rfl (fun u hS => by go_simp) ?_
  try go_simp
  refine list_read (v := .int .i64 k2) rfl rfl (fun u hS => exec_loadN_int (g := w.heap.size + 1) (t := 27) (cs := sh k2 r2 x2 y2 z2 B n2 cq) hS.g _ rfl rfl (by repeat (first | exact List.mem_cons_self | apply List.mem_cons_of_mem)) rfl) ?_
  try go_simp
  refine list_read (v := .bool true) rfl rfl (fun u hS => exec_eqlS _ _ (unhide e0) rfl rfl rfl) ?_
  try go_simp
  refine list_read (v := .bool true) rfl rfl (fun u hS => by go_simp) ?_
  try go_simp
  refine list_read (v := .pointer (some ⟨w.heap.size, 1, none⟩)) rfl rfl (fun u hS => by go_simp) ?_
  try go_simp
  refine list_read (v := .int .i64 rr) rfl rfl (fun u hS => exec_loadN_Fix (g := w.heap.size) (t := 27) (cs := sh kd rr x y z A n cp) hS.g _ rfl rfl (by repeat (first | exact List.mem_cons_self | apply List.mem_cons_of_mem)) rfl) ?_
  try go_simp
  refine list_read (v := .pointer (some ⟨w.heap.size + 1, 1, none⟩)) rfl rfl (fun u hS => by go_simp) ?_
  try go_simp
  refine list_read (v := .int .i64 r2) rfl rfl (fun u hS => exec_loadN_Fix (g := w.heap.size + 1) (t := 27) (cs := sh k2 r2 x2 y2 z2 B n2 cq) hS.g _ rfl rfl (by repeat (first | exact List.mem_cons_self | apply List.mem_cons_of_mem)) rfl) ?_
  try go_simp
  refine list_read (v := .bool true) rfl rfl (fun u hS => exec_eqlS _ _ (unhide e1) rfl rfl rfl) ?_
  try go_simp
  refine list_read (v := .bool true) rfl rfl (fun u hS => by go_simp) ?_
  try go_simp
  refine list_read (v := .bool true) rfl rfl (fun u hS => by go_simp) ?_
  try go_simp
  refine list_read (v := .pointer (some ⟨w.heap.size, 2, none⟩)) rfl rfl (fun u hS => by go_simp) ?_
  try go_simp
  refine list_read (v := .agg (v3 x y z)) rfl rfl (fun u hS => exec_loadSub (i := 2) (g := w.heap.size) (t := 27) (cs := sh kd rr x y z A n cp) hS.g rVec (vs := v3 x y z) _ rfl rfl (by repeat (first | exact List.mem_cons_self | apply List.mem_cons_of_mem)) rfl rfl) ?_
  try go_simp
  refine list_read (v := .pointer (some ⟨w.heap.size + 1, 2, none⟩)) rfl rfl (fun u hS => by go_simp) ?_
  try go_simp
  refine list_read (v := .agg (v3 x2 y2 z2)) rfl rfl (fun u hS => exec_loadSub (i := 2) (g := w.heap.size + 1) (t := 27) (cs := sh k2 r2 x2 y2 z2 B n2 cq) hS.g rVec (vs := v3 x2 y2 z2) _ rfl rfl (by repeat (first | exact List.mem_cons_self | apply List.mem_cons_of_mem)) rfl rfl) ?_
  try go_simp
  refine list_read (v := .bool true) rfl rfl (fun u hS => exec_eql_vec (s := true) _ _ _ (unhide e2) rfl rfl rfl) ?_
  try go_simp
  refine list_read (v := .bool true) rfl rfl (fun u hS => by go_simp) ?_
  try go_simp
  refine list_read (v := .bool true) rfl rfl (fun u hS => by go_simp) ?_
  try go_simp
  refine list_read (v := .pointer (some ⟨w.heap.size, 5, none⟩)) rfl rfl (fun u hS => by go_simp) ?_
  try go_simp
  refine list_read (v := .slice A n cp) rfl rfl (fun u hS => exec_loadV_Vecs (g := w.heap.size) (t := 27) (cs := sh kd rr x y z A n cp) hS.g _ rfl rfl (by repeat (first | exact List.mem_cons_self | apply List.mem_cons_of_mem)) rfl) ?_
  try go_simp
  refine list_read (v := .pointer (some ⟨w.heap.size + 1, 5, none⟩)) rfl rfl (fun u hS => by go_simp) ?_
  try go_simp
  refine list_read (v := .slice B n2 cq) rfl rfl (fun u hS => exec_loadV_Vecs (g := w.heap.size + 1) (t := 27) (cs := sh k2 r2 x2 y2 z2 B n2 cq) hS.g _ rfl rfl (by repeat (first | exact List.mem_cons_self | apply List.mem_cons_of_mem)) rfl) ?_
  try go_simp
  refine list_call (v := .bool t) (f := 16) (args := #[.slice A n cp, .slice B n2 cq]) rfl rfl (fun u hS => by go_simp) (fun u hS => (unhide h0 u hS.g.o).mono fun _ _ ⟨he, hb⟩ => ⟨he, hS.keep hb⟩) ?_
  try go_simp
  refine list_read (v := .bool t) rfl rfl (fun u hS => by go_simp) ?_
  try go_simp
  refine list_read (v := .bool t) rfl rfl (fun u hS => by go_simp) ?_
  try go_simp
  refine list_end (fun u1 hS => ?_)
  have D := hide hS
  clear hS
  go_wp2
  go_ret
  exact ⟨rfl, (unhide D).g.o⟩
theorem rfSame_all (kd rr x y z : Int) (A : Option Addr) (n cp : Nat) (k2 r2 x2 y2 z2 : Int) (B : Option Addr) (n2 cq : Nat) (ps qs : Nat → Pt) (w : World) (hn : n ≤ 9223372036854775807) (hP : PRow w A n ps) (hQ : PRow w B n2 qs) :
    Calls Tryz.prog 19 #[.agg (sh kd rr x y z A n cp), .agg (sh k2 r2 x2 y2 z2 B n2 cq)] w fun e w' => e = .returned (.bool (sameSh kd rr x y z n ps k2 r2 x2 y2 z2 n2 qs)) ∧ Below w.heap.size w w' := by
  unfold sameSh
  cases h0 : decide (kd = k2)
  · exact rfSame_0 kd rr x y z A n cp k2 r2 x2 y2 z2 B n2 cq w h0
  · cases h1 : decide (rr = r2)
    · exact rfSame_1 kd rr x y z A n cp k2 r2 x2 y2 z2 B n2 cq w h0 h1
    · cases h2 : sameV x y z x2 y2 z2
      · exact rfSame_2 kd rr x y z A n cp k2 r2 x2 y2 z2 B n2 cq w h0 h1 h2
      · exact rfSame_3 kd rr x y z A n cp k2 r2 x2 y2 z2 B n2 cq _ w h0 h1 h2 (fun u hu => sameL_all A B n n2 cp cq ps qs u hn (hP.below hu) (hQ.below hu))
set_option maxHeartbeats 2000000 in
theorem cloneA_core (ad : Addr) (n c : Nat) (ps : Nat → Pt) (w : World) (hn : n ≤ 256) (hr : Hid (∀ j u, (cellsN n ps)[j]? = some u → w.cell? (ad.add j) = some u)) :
    Calls Tryz.prog 47 #[.slice (some ad) n c] w fun e w' => (∃ v', e = .returned v' ∧ w'.ownsRow w.heap.size 24 3 v' n (cellsN n ps)) ∧ Below w.heap.size w w' := by
  obtain ⟨i0, hi, hz0, hz1, hz2⟩ := info_parts infoVec
  have tS : Tryz.prog.underlying 25 = some (.slice 24) := by kernel_rfl
  have q22 : ∀ (w : World) (a : Option Addr) (n c n' c' : Nat), (binOp .eql 25 (.slice a n c) (.slice none n' c')).run Tryz.prog w = .ok (.bool a.isNone) w := fun w a n c n' c' => Lib.run_eql_slice_nil w _ _ a n c n' c' tS
  have u22 : ∀ w, Sem.run Tryz.prog (underlying 25) w = .ok (TypeDesc.slice 24) w := run_underlying tS
  go_enter Tryz.func47, Tryz.ntmps47
  go_wp2_with (at_builtin; refine wpList_append_own _ rfl _ _ 25 rfl w.heap.size 24 i0 (.agg (v3 0 0 0)) 3 24 tS hi hz0 hz1 hz2 rfl (by decide) _ _ _ rfl (World.ownsRow_made w #[] 0 (Nat.le_refl _) (Nat.zero_le _) rfl) ad n c (cellsN n ps) rfl ?qc1 ?qc2 ?qc3 ?qc4 ?qc5 ?qc6 ?_)
  case qc1 => unfold cellsN; rw [cellsP_len]; simp
  case qc2 =>
    intro j u hj
    exact Lib.cell?_alloc_some _ (unhide hr j u hj)
  case qc3 => exact cellsP_one _
  case qc4 => unfold maxLen; omega
  case qc5 => omega
  case qc6 => simp only [szA]; omega
  intro v' w1 hown hgrow hnil
  go_wp2
  go_ret
  refine ⟨⟨v', rfl, by simpa using hown⟩, ?_⟩
  exact ((Below.refl _ w).alloc (Nat.le_refl _) _).grown hgrow (by simp) (by intro k hk; simp [Value.ownBlock] at hk; omega)
set_option maxHeartbeats 2000000 in
theorem cloneN_core (n c : Nat) (w : World) : Calls Tryz.prog 47 #[.slice none n c] w fun e w' => e = .returned (.slice none 0 0) ∧ Below w.heap.size w w' := by
  have tS : Tryz.prog.underlying 25 = some (.slice 24) := by kernel_rfl
  have q22 : ∀ (w : World) (a : Option Addr) (n c n' c' : Nat), (binOp .eql 25 (.slice a n c) (.slice none n' c')).run Tryz.prog w = .ok (.bool a.isNone) w := fun w a n c n' c' => Lib.run_eql_slice_nil w _ _ a n c n' c' tS
  go_enter Tryz.func47, Tryz.ntmps47
  go_wp2
  go_ret
  exact ⟨rfl, Below.refl _ _⟩
theorem CloneS (A : Option Addr) (n c : Nat) (ps : Nat → Pt) (w : World) (hn : n ≤ 256) (hP : PRow w A n ps) :
    Calls Tryz.prog 47 #[.slice A n c] w fun e w' => (∃ v', e = .returned v' ∧ w'.ownsRow w.heap.size 24 3 v' n (cellsN n ps)) ∧ Below w.heap.size w w' := by
  rcases hP with h0 | ⟨g, off, rfl, hg, hr⟩
  · subst h0
    cases A with
    | none => exact (cloneN_core 0 c w).mono fun e w' ⟨he, hb⟩ => ⟨⟨_, he, World.ownsRow_nil _ _ _ _⟩, hb⟩
    | some ad => exact cloneA_core ad 0 c ps w (by decide) (fun j u hj => by unfold cellsN at hj; simp [cellsP] at hj)
  · exact cloneA_core ⟨g, off, none⟩ n c ps w hn (fun j u hj => by rw [Addr.add_mid]; exact cellsN_lies hr j u hj)
theorem wp_storeS {o : Oper} {a : Act} {w : World} {K : Act → World → Prop} {Q : Exit → Act → World → Prop} {A : Option Addr} {n c : Nat} {g i : Nat} {t : TypeId} {cs : Array Value} (ty : TypeId) (x y : Operand) (ho : o.op = .store ty x y)
    (hx : a.eval x = .pointer (some ⟨g, i, none⟩)) (hy : a.eval y = .slice A n c) (hb : Blk w g t cs) (hi : i < cs.size) (hs : (Tryz.prog.info? ty).map (·.size) = some 1)
    (h : K (a.put o.dst undef) (w.setCell ⟨g, i, none⟩ (.slice A n c))) : o.wp Tryz.prog a w K Q := by
  have hc : w.cell? ⟨g, i, none⟩ = some cs[i] := by rw [hb.cell i]; simp [hi]
  have hf := hb.frozen i
  have hadd : (⟨g, i, none⟩ : Addr).add 0 = ⟨g, i, none⟩ := by unfold Addr.add; split <;> simp_all
  have hst : (store ((⟨g, i, none⟩ : Addr).add 0) (.slice A n c)).run Tryz.prog w = .ok () (w.setCell ⟨g, i, none⟩ (.slice A n c)) := by
    rw [hadd, run_store Tryz.prog w _ _ _ (by simp [Value.oneCell']), hc]
    simp [hf]
  cases hq : Tryz.prog.info? ty with
  | none => simp [hq] at hs
  | some inf =>
    have h1 : inf.size = 1 := by simpa [hq] using hs
    unfold Oper.wp execOp
    simp only [ho, hx, hy, Instr.storeAt, Instr.sureAddr, Sem.run_bind, Sem.run_pure, Result.andThen_ok]
    simp [storeVar, sizeOf, typeInfo, hq, h1, Value.cells, storeCells, hst]
    exact h
section
variable {ops : Array Oper} {rest : List Oper} {o : Oper} {a : Act} {w0 : World} {Q : Exit → Act → World → Prop} {l : List (Nat × TypeId × Array Value)}
theorem Gd.setM {w0 w : World} {l1 l2 : List (Nat × TypeId × Array Value)} {g i : Nat} {t : TypeId} {old : Array Value} (d : Gd w0 (l1 ++ (g, t, old) :: l2) w) (hg : w0.heap.size ≤ g) (vs : List Value) : Gd w0 (l1 ++ (g, t, putC old i vs) :: l2) (w.setCells g i vs) := by
  obtain ⟨a1, a2⟩ := d.apart
  refine ⟨⟨fun p hp => ?_, below_cells hg vs i w d.g.o⟩, by have := d.n; simpa using this⟩
  rcases List.mem_append.1 hp with hp | hp
  · exact Blk.putOther (a1 p hp) vs i w (d.g.at_ p (List.mem_append_left _ hp))
  · rcases List.mem_cons.1 hp with e | hp
    · subst e
      exact Blk.putC vs i old w (d.g.at_ (g, t, old) (List.mem_append_right _ List.mem_cons_self))
    · exact Blk.putOther (a2 p hp) vs i w (d.g.at_ p (List.mem_append_right _ (List.mem_cons_of_mem _ hp)))
theorem list_storeM {l1 l2 l' : List (Nat × TypeId × Array Value)} {g i k : Nat} {t ty : TypeId} {old cs : Array Value} (x y : Operand) (hl : l = l1 ++ (g, t, old) :: l2) (hl' : l' = l1 ++ (g, t, putC old i cs.toList) :: l2) (ho : o.op = .store ty x y) (hgd : o.guard = none)
    (hx : a.eval x = .pointer (some ⟨g, i, none⟩)) (hy : a.eval y = .agg cs) (hr : Rw ty k) (hk : cs.size = k) (hi : i + k ≤ old.size) (h1 : cs.all (·.oneCell') = true) (hg : w0.heap.size ≤ g)
    (h : LW Tryz.prog ops (Gd w0 l') Q rest (a.put o.dst undef)) : LW Tryz.prog ops (Gd w0 l) Q (o :: rest) a := fun w hS => by
  subst hl hl'
  have hB := hS.g.at_ (g, t, old) (List.mem_append_right _ List.mem_cons_self)
  refine wpList_store_mid hgd ty x y ho g i cs hx hy (fun j hj => ⟨?_, hB.frozen _⟩) (hk ▸ hr.i) h1 (h _ (hS.setM hg _))
  have e := hB.cell (i + j)
  rw [e, Array.getElem?_eq_getElem (by show i + j < old.size; omega)]
  rfl
end
theorem own_setCell {w : World} {B n size g i : Nat} {t : TypeId} {v : Value} {xs : List Value} (h : w.ownsRow B t size v n xs) (hg : g < B) (x : Value) : (w.setCell ⟨g, i, none⟩ x).ownsRow B t size v n xs := by
  refine ⟨h.1, ?_⟩
  rcases h.2 with hn | ⟨k, cap, cur, rfl, hb, hk, rest⟩
  · exact .inl hn
  · exact .inr ⟨k, cap, cur, rfl, hb, (heap_setCell_other w ⟨g, i, none⟩ k x (by show k ≠ g; omega)).trans hk, rest⟩
theorem own_setRow {w : World} {B n size g : Nat} {t : TypeId} {v : Value} {xs : List Value} (h : w.ownsRow B t size v n xs) (hg : g < B) (cs : Array Value) : (w.setRow g cs).ownsRow B t size v n xs := by
  refine ⟨h.1, ?_⟩
  rcases h.2 with hn | ⟨k, cap, cur, rfl, hb, hk, rest⟩
  · exact .inl hn
  · exact .inr ⟨k, cap, cur, rfl, hb, Blk.rowOther (t := t) (cs := cur) hk cs (by omega), rest⟩
theorem list_storeW {ops : Array Oper} {rest : List Oper} {o : Oper} {a : Act} {w0 w : World} {Q : Exit → Act → World → Prop} {l1 l2 : List (Nat × TypeId × Array Value)} {g i : Nat} {t ty : TypeId} {old : Array Value} {A : Option Addr} {n c : Nat} (x y : Operand) (hS : Gd w0 (l1 ++ (g, t, old) :: l2) w) (ho : o.op = .store ty x y) (hgd : o.guard = none)
    (hx : a.eval x = .pointer (some ⟨g, i, none⟩)) (hy : a.eval y = .slice A n c) (hi : i < old.size) (hs : (Tryz.prog.info? ty).map (·.size) = some 1) (hg : w0.heap.size ≤ g)
    (h : Gd w0 (l1 ++ (g, t, old.setIfInBounds i (.slice A n c)) :: l2) (w.setCell ⟨g, i, none⟩ (.slice A n c)) → wpList Tryz.prog ops Q rest (a.put o.dst undef) (w.setCell ⟨g, i, none⟩ (.slice A n c))) : wpList Tryz.prog ops Q (o :: rest) a w := by
  unfold wpList
  rw [if_pos (by simp [Region.wanted, hgd])]
  refine .inl ?_
  exact wp_storeS ty x y ho hx hy (hS.g.at_ (g, t, old) (List.mem_append_right _ List.mem_cons_self)) hi hs (h (hS.setC hg _))
set_option maxHeartbeats 4000000 in
theorem copy_core (kd rr x y z : Int) (A : Option Addr) (n cp : Nat) (xs : List Value) (w : World) (hC : Hid (∀ u, Below w.heap.size w u → Calls Tryz.prog 47 #[.slice A n cp] u fun e w' => (∃ v, e = .returned v ∧ w'.ownsRow u.heap.size 24 3 v n xs) ∧ Below u.heap.size u w')) :
    Calls Tryz.prog 24 #[.agg (sh kd rr x y z A n cp)] w fun e w' => (∃ A5 c5, e = .returned (.agg (sh kd rr x y z A5 n c5)) ∧ w'.ownsRow w.heap.size 24 3 (.slice A5 n c5) n xs) ∧ Below w.heap.size w w' := by
  go_enter Tryz.func24, Tryz.ntmps24
  go_upto_region 1 with fail
  have D := hide (((Gd.start w).push 27 (sh kd rr x y z A n cp)).push 27 (sh 0 0 0 0 0 none 0 0))
  simp only [szA] at D
  refine list_start (S := Gd w [(w.heap.size + 1, 27, sh 0 0 0 0 0 none 0 0), (w.heap.size, 27, sh kd rr x y z A n cp)]) (unhide D) ?_
  clear D
  refine list_read (v := .pointer (some ⟨w.heap.size, 5, none⟩)) rfl rfl (fun u hS => by go_simp) ?_
  try go_simp
  refine list_read (v := .slice A n cp) rfl rfl (fun u hS => exec_loadV_Vecs (g := w.heap.size) (t := 27) (cs := sh kd rr x y z A n cp) hS.g _ rfl rfl (by repeat (first | exact List.mem_cons_self | apply List.mem_cons_of_mem)) rfl) ?_
  try go_simp
  intro u hS
  refine list_callE (f := 47) (args := #[.slice A n cp]) rfl (by go_simp) (unhide hC u hS.g.o) ?_
  rintro e5 w5 ⟨⟨v5, he5, hown⟩, hb5⟩
  obtain ⟨A5, n5, c5, hv5⟩ : ∃ A5 n5 c5, v5 = .slice A5 n5 c5 ∧ n5 = n := by
    rcases hown.2 with ⟨h, h0⟩ | ⟨g, cap, cur, h, _⟩
    · exact ⟨none, 0, 0, h, h0.symm⟩
    · exact ⟨_, n, cap, h, rfl⟩
  obtain ⟨rfl, rfl⟩ := hv5
  refine ⟨_, he5, ?_⟩
  clear he5
  have hsz := (hS.g.blk (g := w.heap.size + 1) (t := 27) (cs := sh 0 0 0 0 0 none 0 0) (by repeat (first | exact List.mem_cons_self | apply List.mem_cons_of_mem))).lt
  have hD5 := hide (hS.keep hb5)
  have hown5 := hide (own_base (B' := w.heap.size + 2) hown (by omega))
  clear hS hb5 hown hsz hC
  try go_simp
  refine list_turn (w' := w5) (v := .pointer (some ⟨w.heap.size, 5, none⟩)) rfl (by go_simp) ?_
  try go_simp
  refine list_storeW (i := 5) (l1 := [(w.heap.size + 1, 27, sh 0 0 0 0 0 none 0 0)]) (l2 := []) (g := w.heap.size) (t := 27) (old := sh kd rr x y z A n5 cp) (.tmp 6) (.tmp 5) (unhide hD5) rfl rfl rfl rfl (show 5 < 6 from by decide) (by kernel_rfl) (Nat.le_refl _) (fun hD6 => ?_)
  have hown6 := hide (own_setCell (g := w.heap.size) (i := 5) (unhide hown5) (by omega) (.slice A5 n5 c5))
  have D : Hid (Gd w [(w.heap.size + 1, 27, sh 0 0 0 0 0 none 0 0), (w.heap.size, 27, sh kd rr x y z A5 n5 c5)] _) := hide hD6
  clear hD5 hown5 hD6
  generalize w5.setCell _ _ = w6 at D hown6 ⊢
  try go_simp
  refine wpL_fin ?_
  go_upto_region 2 with fail
  refine list_start (S := fun u => u = w6) rfl ?_
  refine list_read (v := .agg (sh kd rr x y z A5 n5 c5)) rfl rfl (fun u hS => by subst hS; exact exec_loadG (g := w.heap.size) (t := 27) (cs := sh kd rr x y z A5 n5 c5) (unhide D).g rShape _ rfl rfl (by repeat (first | exact List.mem_cons_self | apply List.mem_cons_of_mem)) rfl) ?_
  try go_simp
  rintro u rfl
  refine wpList_store_row rfl 27 (.tmp 2) (.tmp 7) rfl (w.heap.size + 1) (sh kd rr x y z A5 n5 c5) rfl rfl 27 (sh 0 0 0 0 0 none 0 0) ((unhide D).g.blk (g := w.heap.size + 1) (t := 27) (cs := sh 0 0 0 0 0 none 0 0) (by repeat (first | exact List.mem_cons_self | apply List.mem_cons_of_mem))) rShape.i rfl (sh_one _ _ _ _ _ _ _ _) ?_
  have B := hide (((unhide D).g.blk (g := w.heap.size + 1) (t := 27) (cs := sh 0 0 0 0 0 none 0 0) (by repeat (first | exact List.mem_cons_self | apply List.mem_cons_of_mem))).row (sh kd rr x y z A5 n5 c5))
  have O := hide (below_row (unhide D).g.o (show w.heap.size ≤ w.heap.size + 1 by omega) (sh kd rr x y z A5 n5 c5))
  have hown7 := hide (own_setRow (g := w.heap.size + 1) (unhide hown6) (by omega) (sh kd rr x y z A5 n5 c5))
  clear D hown6
  generalize World.setRow _ _ _ = w7 at B O hown7 ⊢
  refine wpL_fin ?_
  go_wp2
  exact resG rShape (unhide B) rfl rfl rfl rfl ⟨⟨A5, c5, rfl, own_base (unhide hown7) (by omega)⟩, unhide O⟩

end Go.Proofs.YtnemedgdhojhdaaGreat
