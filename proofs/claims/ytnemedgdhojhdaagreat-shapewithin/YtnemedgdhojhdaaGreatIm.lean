/- A core's points, cell by cell; the law ShapeTurned. -/
import Derived.Test.YtnemedgdhojhdaaGreatIk
namespace Go.Proofs.YtnemedgdhojhdaaGreat
open Go.RowKit
set_option maxRecDepth 4000
set_option linter.unusedVariables false

theorem cur_cells {w : World} {g n i : Nat} {t : TypeId} {cur : Array Value} {ps : Nat → Pt} (h : Blk w g t cur) (hc : cur.toList.take (n * 3) = cellsN n ps) (hi : i < n) : w.cell? ⟨g, i * 3, none⟩ = some (.int .i64 (ps i).1) ∧ w.cell? ⟨g, i * 3 + 1, none⟩ = some (.int .i64 (ps i).2.1) ∧ w.cell? ⟨g, i * 3 + 2, none⟩ = some (.int .i64 (ps i).2.2) := by
  obtain ⟨c0, c1, c2⟩ := cellsN_at ps hi
  have hx : ∀ j, j < n * 3 → w.cell? ⟨g, j, none⟩ = (cellsN n ps)[j]? := fun j hj => by
    rw [h.cell, ← hc, List.getElem?_take, if_pos hj]
    simp
  exact ⟨by rw [hx _ (by omega)]; exact c0, by rw [hx _ (by omega)]; exact c1, by rw [hx _ (by omega)]; exact c2⟩
theorem exec_ldFixC {o : Oper} {a : Act} {w : World} {g i : Nat} {z : Int} (x : Operand) (ho : o.op = .load 22 x) (hx : a.eval x = .pointer (some ⟨g, i, none⟩)) (hcc : w.cell? ⟨g, i, none⟩ = some (.int .i64 z)) : (execOp a.eval o).run Tryz.prog w = .ok (.value (.int .i64 z)) w := by
  unfold execOp
  simp only [ho, hx]
  go_simp
theorem exec_negS {o : Oper} {a : Act} {w : World} {x v : Int} {ty : TypeId} (p : Operand) (hb : IntKind.i64.wrap (-x) = v) (ho : o.op = .unOp .neg ty p) (hx : a.eval p = .int .i64 x) : (execOp a.eval o).run Tryz.prog w = .ok (.value (.int .i64 v)) w := by
  subst hb
  unfold execOp
  simp only [ho, hx]
  go_simp
/-- Does one of the first k have it? -/
def anyR (f : Nat → Bool) : Nat → Bool
  | 0 => false
  | k + 1 => anyR f k || f k
theorem anyR_of {f : Nat → Bool} : ∀ {k i : Nat}, i < k → f i = true → anyR f k = true
  | 0, i, h, _ => absurd h (Nat.not_lt_zero i)
  | k + 1, i, h, hf => by
    show (anyR f k || f k) = true
    rcases Nat.lt_or_ge i k with h' | h'
    · rw [anyR_of h' hf]; rfl
    · have e : i = k := by omega
      subst e
      rw [hf]; simp
set_option maxHeartbeats 4000000 in
theorem turned_no (kd rr x y z : Int) (E : Int) (w : World) (h0 : Hid (∀ u, Below w.heap.size w u → Calls Tryz.prog 14 #[.agg (sh kd rr x y z none 0 0)] u fun e w' => e = .returned (.tuple #[.slice none 0 0, .int .i64 E]) ∧ Below u.heap.size u w')) (e0 : Hid (decide ((E : Int) = 0) = false)) (h1 : Hid (Ans 13 #[] (.bool true))) : Calls Tryz.prog 7 #[.int .i64 kd, .int .i64 rr, .agg (v3 x y z)] w fun e w' => e = .returned (.bool true) ∧ Below w.heap.size w w' := by
  go_enter Tryz.func7, Tryz.ntmps7
  go_upto_region 1 with fail
  have D := hide (((Gd.start w).push 24 (v3 x y z)))
  refine list_start (S := Gd w [(w.heap.size, 24, v3 x y z)]) (unhide D) ?_
  clear D
  refine list_read (v := .int .i64 kd) rfl rfl (fun u hS => by go_simp) ?_
  try go_simp
  refine list_read (v := .int .i64 rr) rfl rfl (fun u hS => by go_simp) ?_
  try go_simp
  refine list_read (v := .agg (v3 x y z)) rfl rfl (fun u hS => exec_loadG (g := w.heap.size) (t := 24) (cs := v3 x y z) hS.g rVec _ rfl rfl (by repeat (first | exact List.mem_cons_self | apply List.mem_cons_of_mem)) rfl) ?_
  try go_simp
  refine list_read (v := .agg (sh kd rr x y z none 0 0)) rfl rfl (fun u hS => by go_simp) ?_
  try go_simp
  refine list_new (z := sh 0 0 0 0 0 none 0 0) (ty := 27) (v := fun g => .pointer (some ⟨g, 0, none⟩)) rfl rfl (fun u => by go_simp) (fun g1 hgg1 => ?_)
  try go_simp
  refine list_store (l1 := []) (l2 := [(w.heap.size, 24, v3 x y z)]) (l' := [(g1, 27, sh kd rr x y z none 0 0), (w.heap.size, 24, v3 x y z)]) (g := g1) (old := sh 0 0 0 0 0 none 0 0) (cs := sh kd rr x y z none 0 0) (.tmp 7) (.tmp 16) rfl rfl rfl rfl rfl rfl rShape rfl rfl (sh_one _ _ _ _ _ _ _ _) hgg1 ?_
  try go_simp
  refine list_end (fun u1 hS => ?_)
  have D := hide hS
  clear hS
  go_upto_region 2 with fail
  refine list_start (S := Gd w [(g1, 27, sh kd rr x y z none 0 0), (w.heap.size, 24, v3 x y z)]) (unhide D) ?_
  clear D
  refine list_read (v := .agg (sh kd rr x y z none 0 0)) rfl rfl (fun u hS => exec_loadG (g := g1) (t := 27) (cs := sh kd rr x y z none 0 0) hS.g rShape _ rfl rfl (by repeat (first | exact List.mem_cons_self | apply List.mem_cons_of_mem)) rfl) ?_
  try go_simp
  refine list_call (v := .tuple #[.slice none 0 0, .int .i64 E]) (f := 14) (args := #[.agg (sh kd rr x y z none 0 0)]) rfl rfl (fun u hS => by go_simp) (fun u hS => (unhide h0 u hS.g.o).mono fun _ _ ⟨he, hb⟩ => ⟨he, hS.keep hb⟩) ?_
  try go_simp
  refine list_read (v := .tuple #[.slice none 0 0, .int .i64 E]) rfl rfl (fun u hS => by go_simp) ?_
  try go_simp
  refine list_read (v := .slice none 0 0) rfl rfl (fun u hS => by go_simp) ?_
  try go_simp
  refine list_read (v := .int .i64 E) rfl rfl (fun u hS => by go_simp) ?_
  try go_simp
  refine list_read (v := .slice none 0 0) rfl rfl (fun u hS => by go_simp) ?_
  try go_simp
  refine list_read (v := .int .i64 E) rfl rfl (fun u hS => by go_simp) ?_
  try go_simp
  refine list_end (fun u2 hS => ?_)
  have D := hide hS
  clear hS
  go_upto_region 3 with fail
  refine list_start (S := Gd w [(g1, 27, sh kd rr x y z none 0 0), (w.heap.size, 24, v3 x y z)]) (unhide D) ?_
  clear D
  refine list_read (v := .int .i64 E) rfl rfl (fun u hS => by go_simp) ?_
  try go_simp
  refine list_read (v := .bool true) rfl rfl (fun u hS => exec_neqS _ _ (unhide e0) rfl rfl rfl) ?_
  try go_simp
  refine list_read (v := .bool true) rfl rfl (fun u hS => by go_simp) ?_
  try go_simp
  refine list_skip ?_ ?_ ?_
  · rfl
  · rfl
  try go_simp
  refine list_skip ?_ ?_ ?_
  · rfl
  · rfl
  try go_simp
  refine list_read (v := .bool true) rfl rfl (fun u hS => by go_simp) ?_
  try go_simp
  refine list_end (fun u3 hS => ?_)
  have D := hide hS
  clear hS
  go_upto_region 4 with fail
  refine list_start (S := Gd w [(g1, 27, sh kd rr x y z none 0 0), (w.heap.size, 24, v3 x y z)]) (unhide D) ?_
  clear D
  refine list_read (v := .slice none 0 0) rfl rfl (fun u hS => by go_simp) ?_
  try go_simp
  refine list_read (v := .int .i64 0) rfl rfl (fun u hS => by go_simp) ?_
  try go_simp
  refine list_read (v := .bool true) rfl rfl (fun u hS => by go_simp) ?_
  try go_simp
  refine list_read (v := .bool true) rfl rfl (fun u hS => by go_simp) ?_
  try go_simp
  refine list_call (v := .bool true) (f := 13) (args := #[]) rfl rfl (fun u hS => by go_simp) (fun u hS => (unhide h1 u).mono fun _ _ ⟨he, hb⟩ => ⟨he, hS.keep hb⟩) ?_
  try go_simp
  refine list_read (v := .bool true) rfl rfl (fun u hS => by go_simp) ?_
  try go_simp
  refine list_read (v := .bool true) rfl rfl (fun u hS => by go_simp) ?_
  try go_simp
  refine list_end (fun u4 hS => ?_)
  have D := hide hS
  clear hS
  go_wp2
  go_ret
  exact ⟨rfl, (unhide D).g.o⟩
set_option maxHeartbeats 16000000 in
theorem turned_yes (kd rr x y z : Int) (m : Nat) (P : Nat → Pt) (ff : Nat → Nat → Bool) (w : World) (hm0 : 0 < m) (hmm : m ≤ 9223372036854775807) (hm8 : Hid (m = 1 ∨ m = 2 ∨ m = 8)) (hN : Hid (∀ i, i < m → IntKind.i64.wrap (-(P i).1) = -(P i).1 ∧ IntKind.i64.wrap (-(P i).2.1) = -(P i).2.1 ∧ IntKind.i64.wrap (-(P i).2.2) = -(P i).2.2))
    (hF : Hid (∀ i k, sameV (P k).1 (P k).2.1 (P k).2.2 (-(P i).1) (-(P i).2.1) (-(P i).2.2) = ff i k)) (hT : Hid (∀ i, i < m → anyR (ff i) m = true)) (hA : Hid (Ans 13 #[] (.bool true))) (hC : Hid (∀ u, Below w.heap.size w u → Calls Tryz.prog 14 #[.agg (sh kd rr x y z none 0 0)] u fun e w' => (∃ v, e = .returned (.tuple #[v, .int .i64 0]) ∧ w'.ownsRow u.heap.size 24 3 v m (cellsN m P)) ∧ Below u.heap.size u w')) (e0 : Hid (decide ((3 : Int) < kd) = false)) :
    Calls Tryz.prog 7 #[.int .i64 kd, .int .i64 rr, .agg (v3 x y z)] w fun e w' => e = .returned (.bool true) ∧ Below w.heap.size w w' := by
  go_enter Tryz.func7, Tryz.ntmps7
  go_upto_region 1 with fail
  have D := hide ((Gd.start w).push 24 (v3 x y z))
  refine list_start (S := Gd w [(w.heap.size, 24, v3 x y z)]) (unhide D) ?_
  clear D
  refine list_read (v := .int .i64 kd) rfl rfl (fun u hS => by go_simp) ?_
  try go_simp
  refine list_read (v := .int .i64 rr) rfl rfl (fun u hS => by go_simp) ?_
  try go_simp
  refine list_read (v := .agg (v3 x y z)) rfl rfl (fun u hS => exec_loadG (g := w.heap.size) (t := 24) (cs := v3 x y z) hS.g rVec _ rfl rfl (by repeat (first | exact List.mem_cons_self | apply List.mem_cons_of_mem)) rfl) ?_
  try go_simp
  refine list_read (v := .agg (sh kd rr x y z none 0 0)) rfl rfl (fun u hS => by go_simp) ?_
  try go_simp
  refine list_new (z := sh 0 0 0 0 0 none 0 0) (ty := 27) (v := fun g => .pointer (some ⟨g, 0, none⟩)) rfl rfl (fun u => by go_simp) (fun g1 hgg1 => ?_)
  try go_simp
  refine list_store (l1 := []) (l2 := [(w.heap.size, 24, v3 x y z)]) (l' := [(g1, 27, sh kd rr x y z none 0 0), (w.heap.size, 24, v3 x y z)]) (g := g1) (old := sh 0 0 0 0 0 none 0 0) (cs := sh kd rr x y z none 0 0) (.tmp 7) (.tmp 16) rfl rfl rfl rfl rfl rfl rShape rfl rfl (sh_one _ _ _ _ _ _ _ _) hgg1 ?_
  try go_simp
  refine list_end (fun u1 hS => ?_)
  have D := hide hS
  clear hS
  go_upto_region 2 with fail
  refine list_start (S := Gd w [(g1, 27, sh kd rr x y z none 0 0), (w.heap.size, 24, v3 x y z)]) (unhide D) ?_
  clear D
  refine list_read (v := .agg (sh kd rr x y z none 0 0)) rfl rfl (fun u hS => exec_loadG (g := g1) (t := 27) (cs := sh kd rr x y z none 0 0) hS.g rShape _ rfl rfl (by repeat (first | exact List.mem_cons_self | apply List.mem_cons_of_mem)) rfl) ?_
  try go_simp
  intro u hS
  refine list_callE (f := 14) (args := #[.agg (sh kd rr x y z none 0 0)]) rfl (by go_simp) (unhide hC u hS.g.o) ?_
  rintro e5 w5 ⟨⟨v5, he5, hown⟩, hb5⟩
  refine ⟨_, he5, ?_⟩
  clear he5
  obtain ⟨gC, cC, cur, rfl, hbC, hBC, hcC, hcur⟩ := own_block hown hm0
  have hcur := hide hcur
  have hggC : w.heap.size ≤ gC := Nat.le_trans hS.g.o.size hbC
  refine list_go (S := Gd w [(gC, 24, cur), (g1, 27, sh kd rr x y z none 0 0), (w.heap.size, 24, v3 x y z)]) (hS.more hb5 hBC hbC) ?_
  clear hS hb5 hBC hown hbC hcC
  try go_simp
  refine list_read (v := .tuple #[.slice (some ⟨gC, 0, none⟩) m cC, .int .i64 0]) rfl rfl (fun u hS => by go_simp) ?_
  try go_simp
  refine list_read (v := .slice (some ⟨gC, 0, none⟩) m cC) rfl rfl (fun u hS => by go_simp) ?_
  try go_simp
  refine list_read (v := .int .i64 0) rfl rfl (fun u hS => by go_simp) ?_
  try go_simp
  refine list_read (v := .slice (some ⟨gC, 0, none⟩) m cC) rfl rfl (fun u hS => by go_simp) ?_
  try go_simp
  refine list_read (v := .int .i64 0) rfl rfl (fun u hS => by go_simp) ?_
  try go_simp
  refine list_end (fun u2 hS => ?_)
  have D := hide hS
  clear hS
  go_upto_region 3 with fail
  refine list_start (S := Gd w [(gC, 24, cur), (g1, 27, sh kd rr x y z none 0 0), (w.heap.size, 24, v3 x y z)]) (unhide D) ?_
  clear D
  refine list_read (v := .int .i64 0) rfl rfl (fun u hS => by go_simp) ?_
  try go_simp
  refine list_read (v := .bool false) rfl rfl (fun u hS => by go_simp) ?_
  try go_simp
  refine list_read (v := .bool false) rfl rfl (fun u hS => by go_simp) ?_
  try go_simp
  refine list_read (v := .int .i64 kd) rfl rfl (fun u hS => by go_simp) ?_
  try go_simp
  refine list_read (v := .bool false) rfl rfl (fun u hS => exec_gtrS _ _ (unhide e0) rfl rfl rfl) ?_
  try go_simp
  refine list_read (v := .bool false) rfl rfl (fun u hS => by go_simp) ?_
  try go_simp
  refine list_end (fun u3 hS => ?_)
  have D := hide hS
  clear hS
  go_upto_region 5 with fail
  go_wp2
  go_loopw [10] (fun a wr => ∃ i : Nat, i ≤ m ∧ a = .int .i64 i ∧ Hid (Gd w [(gC, 24, cur), (g1, 27, sh kd rr x y z none 0 0), (w.heap.size, 24, v3 x y z)] wr)) (fun a _ => m - (intOf a).toNat)
  case atStart => exact ⟨0, Nat.zero_le _, rfl, unhide D⟩
  case round =>
    obtain ⟨i, hi, rfl, hD⟩ := hrel
    clear D
    by_cases him : i < m
    · obtain ⟨h_n1, h_n2, h_n3⟩ := unhide hN i him
      have h_n1 := hide h_n1
      have h_n2 := hide h_n2
      have h_n3 := hide h_n3
      go_upto_region 9 with fail
      go_wp2
      go_loopw [11, 12] (fun b a wr2 => ∃ k : Nat, k ≤ m ∧ a = .int .i64 k ∧ b = .bool (anyR (ff i) k) ∧ Hid (Gd w [(gC, 24, cur), (g1, 27, sh kd rr x y z none 0 0), (w.heap.size, 24, v3 x y z)] wr2)) (fun _ a _ => m - (intOf a).toNat)
      case atStart => exact ⟨0, Nat.zero_le _, rfl, rfl, unhide hD⟩
      case round =>
        obtain ⟨k, hk, rfl, rfl, hD2⟩ := hrel
        clear hD
        by_cases hkm : k < m
        · have hff := hide (show sameV (P k).1 (P k).2.1 (P k).2.2 (-(P i).1) (-(P i).2.1) (-(P i).2.2) = ff i k from unhide hF i k)
          go_upto_region 12 with fail
          have D := hD2
          clear hD2
          generalize hb : anyR (ff i) k = bb
          have hb := hide hb
          cases bb
          · refine region_plan (S := Gd w [(gC, 24, cur), (g1, 27, sh kd rr x y z none 0 0), (w.heap.size, 24, v3 x y z)]) (l := [0, 1, 2, 3, 4, 5, 6, 7, 8, 9, 10, 11, 12, 13, 14, 15, 16, 17, 18, 19, 20, 21, 22, 23, 24, 25, 26, 27]) (by kernel_rfl) (by kernel_rfl) (by kernel_rfl) (by kernel_rfl) (by kernel_rfl) (by kernel_rfl) (by kernel_rfl) (unhide D).drew ?_
            clear D
            refine plan_read (v := .bool false) rfl rfl (fun u hS => by go_simp) ?_
            try go_simp
            refine plan_read (v := .bool false) rfl rfl (fun u hS => by go_simp) ?_
            try go_simp
            refine plan_read (v := .slice (some ⟨gC, 0, none⟩) m cC) rfl rfl (fun u hS => by go_simp) ?_
            try go_simp
            refine plan_read (v := .int .i64 k) rfl rfl (fun u hS => by go_simp) ?_
            try go_simp
            refine plan_read (v := .pointer (some ⟨gC, k * 3, none⟩)) rfl rfl (fun u hS => exec_ixV0 u (.tmp 48) (.tmp 49) hkm rfl rfl rfl) ?_
            try go_simp
            refine plan_read (v := .agg (v3 ((P k).1) ((P k).2.1) ((P k).2.2))) rfl rfl (fun u hS => exec_ldV (.tmp 50) rfl rfl (cur_range (hS.g.blk (g := gC) (t := 24) (cs := cur) (by repeat (first | exact List.mem_cons_self | apply List.mem_cons_of_mem))) (unhide hcur) hkm)) ?_
            try go_simp
            refine plan_read (v := .slice (some ⟨gC, 0, none⟩) m cC) rfl rfl (fun u hS => by go_simp) ?_
            try go_simp
            refine plan_read (v := .int .i64 i) rfl rfl (fun u hS => by go_simp) ?_
            try go_simp
            refine plan_read (v := .pointer (some ⟨gC, i * 3, none⟩)) rfl rfl (fun u hS => exec_ixV0 u (.tmp 52) (.tmp 53) him rfl rfl rfl) ?_
            try go_simp
            refine plan_read (v := .pointer (some ⟨gC, i * 3, none⟩)) rfl rfl (fun u hS => by go_simp) ?_
            try go_simp
            refine plan_read (v := .int .i64 ((P i).1)) rfl rfl (fun u hS => exec_ldFixC (.tmp 55) rfl rfl (cur_cells (hS.g.blk (g := gC) (t := 24) (cs := cur) (by repeat (first | exact List.mem_cons_self | apply List.mem_cons_of_mem))) (unhide hcur) him).1) ?_
            try go_simp
            refine plan_read (v := .int .i64 (-(P i).1)) rfl rfl (fun u hS => exec_negS (.tmp 56) (unhide h_n1) rfl rfl) ?_
            try go_simp
            refine plan_read (v := .slice (some ⟨gC, 0, none⟩) m cC) rfl rfl (fun u hS => by go_simp) ?_
            try go_simp
            refine plan_read (v := .int .i64 i) rfl rfl (fun u hS => by go_simp) ?_
            try go_simp
            refine plan_read (v := .pointer (some ⟨gC, i * 3, none⟩)) rfl rfl (fun u hS => exec_ixV0 u (.tmp 58) (.tmp 59) him rfl rfl rfl) ?_
            try go_simp
            refine plan_read (v := .pointer (some ⟨gC, i * 3 + 1, none⟩)) rfl rfl (fun u hS => by go_simp) ?_
            try go_simp
            refine plan_read (v := .int .i64 ((P i).2.1)) rfl rfl (fun u hS => exec_ldFixC (.tmp 61) rfl rfl (cur_cells (hS.g.blk (g := gC) (t := 24) (cs := cur) (by repeat (first | exact List.mem_cons_self | apply List.mem_cons_of_mem))) (unhide hcur) him).2.1) ?_
            try go_simp
            refine plan_read (v := .int .i64 (-(P i).2.1)) rfl rfl (fun u hS => exec_negS (.tmp 62) (unhide h_n2) rfl rfl) ?_
            try go_simp
            refine plan_read (v := .slice (some ⟨gC, 0, none⟩) m cC) rfl rfl (fun u hS => by go_simp) ?_
            try go_simp
            refine plan_read (v := .int .i64 i) rfl rfl (fun u hS => by go_simp) ?_
            try go_simp
            refine plan_read (v := .pointer (some ⟨gC, i * 3, none⟩)) rfl rfl (fun u hS => exec_ixV0 u (.tmp 64) (.tmp 65) him rfl rfl rfl) ?_
            try go_simp
            refine plan_read (v := .pointer (some ⟨gC, i * 3 + 2, none⟩)) rfl rfl (fun u hS => by go_simp) ?_
            try go_simp
            refine plan_read (v := .int .i64 ((P i).2.2)) rfl rfl (fun u hS => exec_ldFixC (.tmp 67) rfl rfl (cur_cells (hS.g.blk (g := gC) (t := 24) (cs := cur) (by repeat (first | exact List.mem_cons_self | apply List.mem_cons_of_mem))) (unhide hcur) him).2.2) ?_
            try go_simp
            refine plan_read (v := .int .i64 (-(P i).2.2)) rfl rfl (fun u hS => exec_negS (.tmp 68) (unhide h_n3) rfl rfl) ?_
            try go_simp
            refine plan_read (v := .agg (v3 (-(P i).1) (-(P i).2.1) (-(P i).2.2))) rfl rfl (fun u hS => by go_simp) ?_
            try go_simp
            refine plan_read (v := .bool (ff i k)) rfl rfl (fun u hS => exec_eql_vec (s := (ff i k)) _ _ _ (unhide hff) rfl rfl rfl) ?_
            try go_simp
            refine plan_read (v := .bool (ff i k)) rfl rfl (fun u hS => by go_simp) ?_
            try go_simp
            refine plan_read (v := .bool (ff i k)) rfl rfl (fun u hS => by go_simp) ?_
            try go_simp
            refine plan_end (fun u12 hS => ?_)
            have D := hide hS
            clear hS
            go_wp2
            go_roundw
            case rel =>
              have hb0 := unhide hb
              exact ⟨k + 1, by omega, by go_num, congrArg Value.bool (show ff i k = (anyR (ff i) k || ff i k) by rw [hb0]; rfl), D⟩
            case measure => simp [intOf]; omega
          · refine region_plan (S := Gd w [(gC, 24, cur), (g1, 27, sh kd rr x y z none 0 0), (w.heap.size, 24, v3 x y z)]) (l := [0, 1, 2, 3, 4, 5, 6, 7, 8, 9, 10, 11, 12, 13, 14, 15, 16, 17, 18, 19, 20, 21, 22, 23, 24, 25, 26, 27]) (by kernel_rfl) (by kernel_rfl) (by kernel_rfl) (by kernel_rfl) (by kernel_rfl) (by kernel_rfl) (by kernel_rfl) (unhide D).drew ?_
            clear D
            refine plan_read (v := .bool true) rfl rfl (fun u hS => by go_simp) ?_
            try go_simp
            refine plan_read (v := .bool true) rfl rfl (fun u hS => by go_simp) ?_
            try go_simp
            refine plan_skip rfl ?_ ?_
            · rfl
            try go_simp
            refine plan_skip rfl ?_ ?_
            · rfl
            try go_simp
            refine plan_skip rfl ?_ ?_
            · rfl
            try go_simp
            refine plan_skip rfl ?_ ?_
            · rfl
            try go_simp
            refine plan_skip rfl ?_ ?_
            · rfl
            try go_simp
            refine plan_skip rfl ?_ ?_
            · rfl
            try go_simp
            refine plan_skip rfl ?_ ?_
            · rfl
            try go_simp
            refine plan_skip rfl ?_ ?_
            · rfl
            try go_simp
            refine plan_skip rfl ?_ ?_
            · rfl
            try go_simp
            refine plan_skip rfl ?_ ?_
            · rfl
            try go_simp
            refine plan_skip rfl ?_ ?_
            · rfl
            try go_simp
            refine plan_skip rfl ?_ ?_
            · rfl
            try go_simp
            refine plan_skip rfl ?_ ?_
            · rfl
            try go_simp
            refine plan_skip rfl ?_ ?_
            · rfl
            try go_simp
            refine plan_skip rfl ?_ ?_
            · rfl
            try go_simp
            refine plan_skip rfl ?_ ?_
            · rfl
            try go_simp
            refine plan_skip rfl ?_ ?_
            · rfl
            try go_simp
            refine plan_skip rfl ?_ ?_
            · rfl
            try go_simp
            refine plan_skip rfl ?_ ?_
            · rfl
            try go_simp
            refine plan_skip rfl ?_ ?_
            · rfl
            try go_simp
            refine plan_skip rfl ?_ ?_
            · rfl
            try go_simp
            refine plan_skip rfl ?_ ?_
            · rfl
            try go_simp
            refine plan_skip rfl ?_ ?_
            · rfl
            try go_simp
            refine plan_skip rfl ?_ ?_
            · rfl
            try go_simp
            refine plan_read (v := .bool true) rfl rfl (fun u hS => by go_simp) ?_
            try go_simp
            refine plan_read (v := .bool true) rfl rfl (fun u hS => by go_simp) ?_
            try go_simp
            refine plan_end (fun u12 hS => ?_)
            have D := hide hS
            clear hS
            go_wp2
            go_roundw
            case rel =>
              have hb0 := unhide hb
              exact ⟨k + 1, by omega, by go_num, congrArg Value.bool (show true = (anyR (ff i) k || ff i k) by rw [hb0]; rfl), D⟩
            case measure => simp [intOf]; omega
        · obtain rfl : m = k := by omega
          rw [unhide hT i him]
          go_upto_region 13 with fail
          have D := hD2
          clear hD2
          refine list_start (S := Gd w [(gC, 24, cur), (g1, 27, sh kd rr x y z none 0 0), (w.heap.size, 24, v3 x y z)]) (unhide D) ?_
          clear D
          refine list_read (v := .bool true) rfl rfl (fun u hS => by go_simp) ?_
          try go_simp
          refine list_read (v := .bool false) rfl rfl (fun u hS => by go_simp) ?_
          try go_simp
          refine list_end (fun u13 hS => ?_)
          have D := hide hS
          clear hS
          go_wp2
          go_roundw
          case rel => exact ⟨i + 1, by omega, by go_num, D⟩
          case measure => simp [intOf]; omega
    · obtain rfl : m = i := by omega
      go_upto_region 15 with fail
      have D := hD
      clear hD
      rcases (show m = 1 ∨ m = 2 ∨ m = 8 by have := unhide hm8; omega) with rfl | rfl | rfl
      · refine list_start (S := Gd w [(gC, 24, cur), (g1, 27, sh kd rr x y z none 0 0), (w.heap.size, 24, v3 x y z)]) (unhide D) ?_
        clear D
        refine list_read (v := .slice (some ⟨gC, 0, none⟩) 1 cC) rfl rfl (fun u hS => by go_simp) ?_
        try go_simp
        refine list_read (v := .int .i64 1) rfl rfl (fun u hS => by go_simp) ?_
        try go_simp
        refine list_read (v := .bool true) rfl rfl (fun u hS => by go_simp) ?_
        try go_simp
        refine list_read (v := .bool true) rfl rfl (fun u hS => by go_simp) ?_
        try go_simp
        refine list_skip ?_ ?_ ?_
        · rfl
        · rfl
        try go_simp
        refine list_skip ?_ ?_ ?_
        · rfl
        · rfl
        try go_simp
        refine list_skip ?_ ?_ ?_
        · rfl
        · rfl
        try go_simp
        refine list_read (v := .bool true) rfl rfl (fun u hS => by go_simp) ?_
        try go_simp
        refine list_read (v := .bool true) rfl rfl (fun u hS => by go_simp) ?_
        try go_simp
        refine list_skip ?_ ?_ ?_
        · rfl
        · rfl
        try go_simp
        refine list_skip ?_ ?_ ?_
        · rfl
        · rfl
        try go_simp
        refine list_skip ?_ ?_ ?_
        · rfl
        · rfl
        try go_simp
        refine list_read (v := .bool true) rfl rfl (fun u hS => by go_simp) ?_
        try go_simp
        refine list_read (v := .bool true) rfl rfl (fun u hS => by go_simp) ?_
        try go_simp
        refine list_call (v := .bool true) (f := 13) (args := #[]) rfl rfl (fun u hS => by go_simp) (fun u hS => (unhide hA u).mono fun _ _ ⟨he, hb⟩ => ⟨he, hS.keep hb⟩) ?_
        try go_simp
        refine list_read (v := .bool true) rfl rfl (fun u hS => by go_simp) ?_
        try go_simp
        refine list_read (v := .bool true) rfl rfl (fun u hS => by go_simp) ?_
        try go_simp
        refine list_end (fun u15 hS => ?_)
        have D := hide hS
        clear hS
        go_wp2
        go_ret
        exact ⟨rfl, (unhide D).g.o⟩
      · refine list_start (S := Gd w [(gC, 24, cur), (g1, 27, sh kd rr x y z none 0 0), (w.heap.size, 24, v3 x y z)]) (unhide D) ?_
        clear D
        refine list_read (v := .slice (some ⟨gC, 0, none⟩) 2 cC) rfl rfl (fun u hS => by go_simp) ?_
        try go_simp
        refine list_read (v := .int .i64 2) rfl rfl (fun u hS => by go_simp) ?_
        try go_simp
        refine list_read (v := .bool false) rfl rfl (fun u hS => by go_simp) ?_
        try go_simp
        refine list_read (v := .bool false) rfl rfl (fun u hS => by go_simp) ?_
        try go_simp
        refine list_read (v := .slice (some ⟨gC, 0, none⟩) 2 cC) rfl rfl (fun u hS => by go_simp) ?_
        try go_simp
        refine list_read (v := .int .i64 2) rfl rfl (fun u hS => by go_simp) ?_
        try go_simp
        refine list_read (v := .bool true) rfl rfl (fun u hS => by go_simp) ?_
        try go_simp
        refine list_read (v := .bool true) rfl rfl (fun u hS => by go_simp) ?_
        try go_simp
        refine list_read (v := .bool true) rfl rfl (fun u hS => by go_simp) ?_
        try go_simp
        refine list_skip ?_ ?_ ?_
        · rfl
        · rfl
        try go_simp
        refine list_skip ?_ ?_ ?_
        · rfl
        · rfl
        try go_simp
        refine list_skip ?_ ?_ ?_
        · rfl
        · rfl
        try go_simp
        refine list_read (v := .bool true) rfl rfl (fun u hS => by go_simp) ?_
        try go_simp
        refine list_read (v := .bool true) rfl rfl (fun u hS => by go_simp) ?_
        try go_simp
        refine list_call (v := .bool true) (f := 13) (args := #[]) rfl rfl (fun u hS => by go_simp) (fun u hS => (unhide hA u).mono fun _ _ ⟨he, hb⟩ => ⟨he, hS.keep hb⟩) ?_
        try go_simp
        refine list_read (v := .bool true) rfl rfl (fun u hS => by go_simp) ?_
        try go_simp
        refine list_read (v := .bool true) rfl rfl (fun u hS => by go_simp) ?_
        try go_simp
        refine list_end (fun u15 hS => ?_)
        have D := hide hS
        clear hS
        go_wp2
        go_ret
        exact ⟨rfl, (unhide D).g.o⟩
      · refine list_start (S := Gd w [(gC, 24, cur), (g1, 27, sh kd rr x y z none 0 0), (w.heap.size, 24, v3 x y z)]) (unhide D) ?_
        clear D
        refine list_read (v := .slice (some ⟨gC, 0, none⟩) 8 cC) rfl rfl (fun u hS => by go_simp) ?_
        try go_simp
        refine list_read (v := .int .i64 8) rfl rfl (fun u hS => by go_simp) ?_
        try go_simp
        refine list_read (v := .bool false) rfl rfl (fun u hS => by go_simp) ?_
        try go_simp
        refine list_read (v := .bool false) rfl rfl (fun u hS => by go_simp) ?_
        try go_simp
        refine list_read (v := .slice (some ⟨gC, 0, none⟩) 8 cC) rfl rfl (fun u hS => by go_simp) ?_
        try go_simp
        refine list_read (v := .int .i64 8) rfl rfl (fun u hS => by go_simp) ?_
        try go_simp
        refine list_read (v := .bool false) rfl rfl (fun u hS => by go_simp) ?_
        try go_simp
        refine list_read (v := .bool false) rfl rfl (fun u hS => by go_simp) ?_
        try go_simp
        refine list_read (v := .bool false) rfl rfl (fun u hS => by go_simp) ?_
        try go_simp
        refine list_read (v := .slice (some ⟨gC, 0, none⟩) 8 cC) rfl rfl (fun u hS => by go_simp) ?_
        try go_simp
        refine list_read (v := .int .i64 8) rfl rfl (fun u hS => by go_simp) ?_
        try go_simp
        refine list_read (v := .bool true) rfl rfl (fun u hS => by go_simp) ?_
        try go_simp
        refine list_read (v := .bool true) rfl rfl (fun u hS => by go_simp) ?_
        try go_simp
        refine list_read (v := .bool true) rfl rfl (fun u hS => by go_simp) ?_
        try go_simp
        refine list_call (v := .bool true) (f := 13) (args := #[]) rfl rfl (fun u hS => by go_simp) (fun u hS => (unhide hA u).mono fun _ _ ⟨he, hb⟩ => ⟨he, hS.keep hb⟩) ?_
        try go_simp
        refine list_read (v := .bool true) rfl rfl (fun u hS => by go_simp) ?_
        try go_simp
        refine list_read (v := .bool true) rfl rfl (fun u hS => by go_simp) ?_
        try go_simp
        refine list_end (fun u15 hS => ?_)
        have D := hide hS
        clear hS
        go_wp2
        go_ret
        exact ⟨rfl, (unhide D).g.o⟩
theorem wrap_M {x : Int} (h : inM x) : IntKind.i64.wrap (-x) = -x := wrap_I (inM_I64 (inM_neg h))
/-- Which point of a core is the opposite one. -/
def oppN (kd : Int) (i : Nat) : Nat := if kd = 1 then 0 else if kd = 2 then 1 - i else 7 - i
theorem opp_is {kd rr x y z : Int} (hr : I64 rr) (hx : I64 x) (hy : I64 y) (hz : I64 z) (h0 : chE kd rr x y z 0 p000 = 0) {i : Nat} (hi : i < coN kd 0) :
    oppN kd i < coN kd 0 ∧ (coP kd x y z p000 (oppN kd i)).1 = -(coP kd x y z p000 i).1 ∧ (coP kd x y z p000 (oppN kd i)).2.1 = -(coP kd x y z p000 i).2.1 ∧ (coP kd x y z p000 (oppN kd i)).2.2 = -(coP kd x y z p000 i).2.2 := by
  have e0 : pI64 0 p000 := fun i hi => absurd hi (Nat.not_lt_zero i)
  obtain ⟨hh, hnh, _⟩ := chE_fine h0
  obtain ⟨m1, ⟨m2, m3, m4⟩, m5⟩ := (nhB_iff hr hx hy hz e0).1 hnh
  rcases hdB_kind hh with rfl | rfl | rfl | rfl
  · exact ⟨show 0 < 1 by decide, rfl, rfl, rfl⟩
  · have hxy : x = 0 ∧ y = 0 := by
      unfold hdB at hh
      simp at hh
      omega
    obtain ⟨rfl, rfl⟩ := hxy
    have hi2 : i < 2 := hi
    rcases (show i = 0 ∨ i = 1 by omega) with rfl | rfl
    · refine ⟨by decide, rfl, rfl, ?_⟩
      show z = -cl (0 - z)
      rw [inM_cl m4]; omega
    · refine ⟨by decide, rfl, rfl, ?_⟩
      show cl (0 - z) = -z
      exact inM_cl m4
  · have hi8 : i < 8 := hi
    refine ⟨show 7 - i < 8 by omega, ?_⟩
    show (boxP x y z (7 - i)).1 = -(boxP x y z i).1 ∧ (boxP x y z (7 - i)).2.1 = -(boxP x y z i).2.1 ∧ (boxP x y z (7 - i)).2.2 = -(boxP x y z i).2.2
    rw [boxP_M m2 m3 m4, boxP_M m2 m3 m4]
    rcases (show i = 0 ∨ i = 1 ∨ i = 2 ∨ i = 3 ∨ i = 4 ∨ i = 5 ∨ i = 6 ∨ i = 7 by omega) with rfl | rfl | rfl | rfl | rfl | rfl | rfl | rfl <;> simp
  · exact absurd hi (Nat.not_lt_zero i)
theorem shapeTurned_walk (kd rr x y z : Int) (h0 : (Lit.int .i64 kd).wf = true) (h1 : (Lit.int .i64 rr).wf = true) (k : (Lit.int .i64 x).wf = true) (l : (Lit.int .i64 y).wf = true) (m : (Lit.int .i64 z).wf = true) (w : World) :
    Calls Tryz.prog 7 #[.int .i64 kd, .int .i64 rr, .agg (v3 x y z)] w fun e w' => e = .returned (.bool true) ∧ Below w.heap.size w w' := by
  have hr := I64.wf h1
  have hx := I64.wf k
  have hy := I64.wf l
  have hz := I64.wf m
  have e0 : pI64 0 p000 := fun i hi => absurd hi (Nat.not_lt_zero i)
  by_cases hE : chE kd rr x y z 0 p000 = 0
  · have hM := coP_M hr hx hy hz e0 hE
    have h3 : ¬ (3 < kd) ∧ (coN kd 0 = 1 ∨ coN kd 0 = 2 ∨ coN kd 0 = 8) := by
      obtain ⟨hh, _⟩ := chE_fine hE
      rcases hdB_kind hh with rfl | rfl | rfl | rfl
      · exact ⟨by decide, .inl rfl⟩
      · exact ⟨by decide, .inr (.inl rfl)⟩
      · exact ⟨by decide, .inr (.inr rfl)⟩
      · unfold hdB at hh
        simp at hh
    exact turned_yes kd rr x y z (coN kd 0) (coP kd x y z p000) _ w (coN_pos hE).1 (by have := (coN_pos hE).2; omega) h3.2 (fun i hi => ⟨wrap_M (hM i hi).1, wrap_M (hM i hi).2.1, wrap_M (hM i hi).2.2⟩) (fun i k => rfl)
      (fun i hi => by
        obtain ⟨o1, o2, o3, o4⟩ := opp_is hr hx hy hz hE hi
        exact anyR_of o1 (by show sameV _ _ _ _ _ _ = true; rw [o2, o3, o4]; exact sameV_selfI _ _ _)) awake9Z
      (fun u hu => CoreYes kd rr x y z none 0 0 p000 u (by decide) hr hx hy hz (.inl rfl) e0 hE) (decide_eq_false h3.1)
  · exact turned_no kd rr x y z _ w (fun u hu => CoreNo kd rr x y z none 0 0 p000 u (by decide) hr hx hy hz (.inl rfl) e0 hE) (decide_eq_false hE) awake9Z

end Go.Proofs.YtnemedgdhojhdaaGreat
