/- The law ShapeSame. -/
import Derived.Test.YtnemedgdhojhdaaGreatIo
namespace Go.Proofs.YtnemedgdhojhdaaGreat
open Go.RowKit
set_option maxRecDepth 4000
set_option linter.unusedVariables false

theorem exec_neqB {o : Oper} {a : Act} (w : World) (p q : Operand) {b : Bool} {ty' : TypeId} (ho : o.op = .binOp .neq 4 p q ty') (hx : a.eval p = .bool b) (hy : a.eval q = .bool b) : (execOp a.eval o).run Tryz.prog w = .ok (.value (.bool false)) w := by
  unfold execOp
  simp only [ho, hx, hy, Sem.run_bind, Sem.run_pure]
  cases b <;> rfl
theorem bs0V (w : World) : (Instr.buildSlice 25 0 #[]).run Tryz.prog w = .ok (.slice (some ⟨w.heap.size, 0, none⟩) 0 0) (w.alloc (.cells #[] 24)) := by kernel_rfl
theorem exec_bs0V {o : Oper} {ac : Act} (w : World) (ho : o.op = .buildSlice 25 0 #[]) : (execOp ac.eval o).run Tryz.prog w = .ok (.value (.slice (some ⟨w.heap.size, 0, none⟩) 0 0)) (w.alloc (.cells #[] 24)) := by
  unfold execOp
  have e : ((#[] : Array (Nat × Operand)).map fun (i, x) => (i, ac.eval x)) = #[] := by simp
  simp only [ho, Sem.run_bind, e, bs0V, Result.andThen_ok, Sem.run_pure]
theorem own_blockS {w : World} {B n : Nat} {v : Value} {t : TypeId} {xs : List Value} (h : w.ownsRow B t 3 v n xs) (hn : 0 < n) : ∃ g c cur, v = .slice (some ⟨g, 0, none⟩) n c ∧ B ≤ g ∧ Blk w g t cur ∧ n ≤ c ∧ cur.toList.take (n * 3) = xs ∧ cur.size = c * 3 := by
  rcases h.2 with ⟨_, h0⟩ | ⟨g, cap, cur, hv, hb, hg, hc, _, hs, ht⟩
  · omega
  · exact ⟨g, cap, cur, hv, hb, hg, hc, ht, hs⟩
theorem prow_of {w : World} {g n : Nat} {t : TypeId} {cur : Array Value} {ps : Nat → Pt} (h : Blk w g t cur) (hc : cur.toList.take (n * 3) = cellsN n ps) : PRow w (some ⟨g, 0, none⟩) n ps :=
  .inr ⟨g, 0, rfl, h.lt, fun i hi => by rw [Nat.zero_add]; exact cur_range h hc hi⟩
theorem app_list (w : World) (B : Nat) (ty : TypeId) (A : Option Addr) (n c : Nat) (ps : Nat → Pt) (v : Value) (hown : w.ownsRow B 24 3 v 0 []) (hP : PRow w A n ps) (hn : n ≤ 256) (hA : A = none → n = 0 ∧ c = 0) (hB : B ≤ w.heap.size) :
    ∃ v' w', (Builtin.append_ #[25, 25] ty #[v, .slice A n c]).run Tryz.prog w = .ok v' w' ∧ w'.ownsRow B 24 3 v' n (cellsN n ps) ∧ w.grownBy w' v.ownBlock := by
  obtain ⟨i0, hi, hz0, hz1, hz2⟩ := info_parts infoVec
  have main : ∀ ad : Addr, (∀ j u, (cellsN n ps)[j]? = some u → w.cell? (ad.add j) = some u) → ∃ v' w', (Builtin.append_ #[25, 25] ty #[v, .slice (some ad) n c]).run Tryz.prog w = .ok v' w' ∧ w'.ownsRow B 24 3 v' n (cellsN n ps) ∧ w.grownBy w' v.ownBlock := fun ad h => by
    obtain ⟨v', w', h1, h2, h3, _⟩ := run_append_own (w := w) B 25 ty 24 i0 (.agg (v3 0 0 0)) 3 24 (by kernel_rfl) hi hz0 hz1 hz2 rfl (by decide) v 0 [] hown ad n c (cellsN n ps) (by unfold cellsN; rw [cellsP_len]; simp) h (cellsP_one _) (by unfold maxLen; omega) (by omega) hB
    exact ⟨v', w', h1, by simpa using h2, h3⟩
  rcases hP with h0 | ⟨g, off, rfl, hg, hr⟩
  · subst h0
    cases A with
    | none =>
      obtain ⟨_, rfl⟩ := hA rfl
      refine ⟨v, w, run_append_owned_none (w := w) B 25 ty 24 i0 3 (by kernel_rfl) hi v 0 [] hown, ?_, World.grownBy.refl _ _⟩
      exact hown
    | some ad => exact main ad (fun j u hj => by unfold cellsN at hj; simp [cellsP] at hj)
  · exact main ⟨g, off, none⟩ (fun j u hj => by rw [Addr.add_mid]; exact cellsN_lies hr j u hj)
set_option maxHeartbeats 4000000 in
theorem same9_a (kd rr x y z : Int) (A : Option Addr) (n cp : Nat) (k2 r2 x2 y2 z2 : Int) (B : Option Addr) (n2 cq : Nat) (w : World) (e0 : Hid (decide ((100 : Int) < n) = true)) (h0 : Hid (Ans 13 #[] (.bool true))) : Calls Tryz.prog 5 #[.agg (sh kd rr x y z A n cp), .agg (sh k2 r2 x2 y2 z2 B n2 cq)] w fun e w' => e = .returned (.bool true) ∧ Below w.heap.size w w' := by
  go_enter Tryz.func5, Tryz.ntmps5
  go_upto_region 1 with fail
  have D := hide ((((Gd.start w).push 27 (sh kd rr x y z A n cp)).push 27 (sh k2 r2 x2 y2 z2 B n2 cq)))
  simp only [szA] at D
  refine list_start (S := Gd w [(w.heap.size + 1, 27, sh k2 r2 x2 y2 z2 B n2 cq), (w.heap.size, 27, sh kd rr x y z A n cp)]) (unhide D) ?_
  clear D
  refine list_read (v := .pointer (some ⟨w.heap.size, 5, none⟩)) rfl rfl (fun u hS => by go_simp) ?_
  try go_simp
  refine list_read (v := .slice A n cp) rfl rfl (fun u hS => exec_loadV_Vecs (g := w.heap.size) (t := 27) (cs := sh kd rr x y z A n cp) hS.g _ rfl rfl (by repeat (first | exact List.mem_cons_self | apply List.mem_cons_of_mem)) rfl) ?_
  try go_simp
  refine list_read (v := .int .i64 n) rfl rfl (fun u hS => by go_simp) ?_
  try go_simp
  refine list_read (v := .bool true) rfl rfl (fun u hS => exec_gtrS _ _ (unhide e0) rfl rfl rfl) ?_
  try go_simp
  refine list_read (v := .bool true) rfl rfl (fun u hS => by go_simp) ?_
  try go_simp
  refine list_skip ?_ ?_ ?_
  · rfl
  · rfl
  try go_simp
  refine list_skip ?_ ?_ ?_
  · rfl
  · rfl
  try go_simp
  refine list_skip ?_ ?_ ?_
  · rfl
  · rfl
  try go_simp
  refine list_skip ?_ ?_ ?_
  · rfl
  · rfl
  try go_simp
  refine list_read (v := .bool true) rfl rfl (fun u hS => by go_simp) ?_
  try go_simp
  refine list_end (fun u1 hS => ?_)
  have D := hide hS
  clear hS
  go_upto_region 2 with fail
  refine list_start (S := Gd w [(w.heap.size + 1, 27, sh k2 r2 x2 y2 z2 B n2 cq), (w.heap.size, 27, sh kd rr x y z A n cp)]) (unhide D) ?_
  clear D
  refine list_call (v := .bool true) (f := 13) (args := #[]) rfl rfl (fun u hS => by go_simp) (fun u hS => (unhide h0 u).mono fun _ _ ⟨he, hb⟩ => ⟨he, hS.keep hb⟩) ?_
  try go_simp
  refine list_read (v := .bool true) rfl rfl (fun u hS => by go_simp) ?_
  try go_simp
  refine list_end (fun u2 hS => ?_)
  have D := hide hS
  clear hS
  go_wp2
  go_ret
  exact ⟨rfl, (unhide D).g.o⟩
set_option maxHeartbeats 4000000 in
theorem same9_b (kd rr x y z : Int) (A : Option Addr) (n cp : Nat) (k2 r2 x2 y2 z2 : Int) (B : Option Addr) (n2 cq : Nat) (w : World) (e0 : Hid (decide ((100 : Int) < n) = false)) (e1 : Hid (decide ((100 : Int) < n2) = true)) (h0 : Hid (Ans 13 #[] (.bool true))) : Calls Tryz.prog 5 #[.agg (sh kd rr x y z A n cp), .agg (sh k2 r2 x2 y2 z2 B n2 cq)] w fun e w' => e = .returned (.bool true) ∧ Below w.heap.size w w' := by
  go_enter Tryz.func5, Tryz.ntmps5
  go_upto_region 1 with fail
  have D := hide ((((Gd.start w).push 27 (sh kd rr x y z A n cp)).push 27 (sh k2 r2 x2 y2 z2 B n2 cq)))
  simp only [szA] at D
  refine list_start (S := Gd w [(w.heap.size + 1, 27, sh k2 r2 x2 y2 z2 B n2 cq), (w.heap.size, 27, sh kd rr x y z A n cp)]) (unhide D) ?_
  clear D
  refine list_read (v := .pointer (some ⟨w.heap.size, 5, none⟩)) rfl rfl (fun u hS => by go_simp) ?_
  try go_simp
  refine list_read (v := .slice A n cp) rfl rfl (fun u hS => exec_loadV_Vecs (g := w.heap.size) (t := 27) (cs := sh kd rr x y z A n cp) hS.g _ rfl rfl (by repeat (first | exact List.mem_cons_self | apply List.mem_cons_of_mem)) rfl) ?_
  try go_simp
  refine list_read (v := .int .i64 n) rfl rfl (fun u hS => by go_simp) ?_
  try go_simp
  refine list_read (v := .bool false) rfl rfl (fun u hS => exec_gtrS _ _ (unhide e0) rfl rfl rfl) ?_
  try go_simp
  refine list_read (v := .bool false) rfl rfl (fun u hS => by go_simp) ?_
  try go_simp
  refine list_read (v := .pointer (some ⟨w.heap.size + 1, 5, none⟩)) rfl rfl (fun u hS => by go_simp) ?_
  try go_simp
  refine list_read (v := .slice B n2 cq) rfl rfl (fun u hS => exec_loadV_Vecs (g := w.heap.size + 1) (t := 27) (cs := sh k2 r2 x2 y2 z2 B n2 cq) hS.g _ rfl rfl (by repeat (first | exact List.mem_cons_self | apply List.mem_cons_of_mem)) rfl) ?_
  try go_simp
  refine list_read (v := .int .i64 n2) rfl rfl (fun u hS => by go_simp) ?_
  try go_simp
  refine list_read (v := .bool true) rfl rfl (fun u hS => exec_gtrS _ _ (unhide e1) rfl rfl rfl) ?_
  try go_simp
  refine list_read (v := .bool true) rfl rfl (fun u hS => by go_simp) ?_
  try go_simp
  refine list_end (fun u1 hS => ?_)
  have D := hide hS
  clear hS
  go_upto_region 2 with fail
  refine list_start (S := Gd w [(w.heap.size + 1, 27, sh k2 r2 x2 y2 z2 B n2 cq), (w.heap.size, 27, sh kd rr x y z A n cp)]) (unhide D) ?_
  clear D
  refine list_call (v := .bool true) (f := 13) (args := #[]) rfl rfl (fun u hS => by go_simp) (fun u hS => (unhide h0 u).mono fun _ _ ⟨he, hb⟩ => ⟨he, hS.keep hb⟩) ?_
  try go_simp
  refine list_read (v := .bool true) rfl rfl (fun u hS => by go_simp) ?_
  try go_simp
  refine list_end (fun u2 hS => ?_)
  have D := hide hS
  clear hS
  go_wp2
  go_ret
  exact ⟨rfl, (unhide D).g.o⟩
set_option maxHeartbeats 16000000 in
theorem same9_nil (kd rr x y z : Int) (A : Option Addr) (n cp : Nat) (k2 r2 x2 y2 z2 : Int) (B : Option Addr) (n2 cq : Nat) (ps : Nat → Pt) (t : Bool) (w : World) (hn0 : Hid (n = 0)) (hnb : n ≤ 9223372036854775807) (hn1 : Hid (n ≤ 100)) (hnil : Hid (A = none → n = 0 ∧ cp = 0)) (hP : Hid (∀ {u : World}, Below w.heap.size w u → PRow u A n ps)) (hCo : Hid (∀ u, Below w.heap.size w u → Calls Tryz.prog 24 #[.agg (sh kd rr x y z A n cp)] u fun e w' => (∃ A5 c5, e = .returned (.agg (sh kd rr x y z A5 n c5)) ∧ w'.ownsRow u.heap.size 24 3 (.slice A5 n c5) n (cellsN n ps)) ∧ Below u.heap.size u w')) (hRf : Hid (∀ u A5 c5, Below w.heap.size w u → Calls Tryz.prog 19 #[.agg (sh kd rr x y z A5 n c5), .agg (sh kd rr x y z A n cp)] u fun e w' => e = .returned (.bool true) ∧ Below u.heap.size u w')) (hSv : Hid (∀ u A5 c5, Below w.heap.size w u → Calls Tryz.prog 16 #[.slice A n cp, .slice A5 n c5] u fun e w' => e = .returned (.bool true) ∧ Below u.heap.size u w')) (hA : Hid (Ans 13 #[] (.bool true))) (e0 : Hid (decide ((100 : Int) < n) = false)) (e1 : Hid (decide ((100 : Int) < n2) = false)) (h0 : Hid (∀ u, Below w.heap.size w u → Calls Tryz.prog 25 #[.agg (sh kd rr x y z A n cp), .agg (sh k2 r2 x2 y2 z2 B n2 cq)] u fun e w' => e = .returned (.bool t) ∧ Below u.heap.size u w')) (h1 : Hid (∀ u, Below w.heap.size w u → Calls Tryz.prog 19 #[.agg (sh kd rr x y z A n cp), .agg (sh k2 r2 x2 y2 z2 B n2 cq)] u fun e w' => e = .returned (.bool t) ∧ Below u.heap.size u w')) :
    Calls Tryz.prog 5 #[.agg (sh kd rr x y z A n cp), .agg (sh k2 r2 x2 y2 z2 B n2 cq)] w fun e w' => e = .returned (.bool true) ∧ Below w.heap.size w w' := by
  go_enter Tryz.func5, Tryz.ntmps5
  go_upto_region 1 with fail
  have D := hide (((Gd.start w).push 27 (sh kd rr x y z A n cp)).push 27 (sh k2 r2 x2 y2 z2 B n2 cq))
  simp only [szA] at D
  refine list_start (S := Gd w [(w.heap.size + 1, 27, sh k2 r2 x2 y2 z2 B n2 cq), (w.heap.size, 27, sh kd rr x y z A n cp)]) (unhide D) ?_
  clear D
  refine list_read (v := .pointer (some ⟨w.heap.size, 5, none⟩)) rfl rfl (fun u hS => by go_simp) ?_
  try go_simp
  refine list_read (v := .slice A n cp) rfl rfl (fun u hS => exec_loadV_Vecs (g := w.heap.size) (t := 27) (cs := sh kd rr x y z A n cp) hS.g _ rfl rfl (by repeat (first | exact List.mem_cons_self | apply List.mem_cons_of_mem)) rfl) ?_
  try go_simp
  refine list_read (v := .int .i64 n) rfl rfl (fun u hS => by go_simp) ?_
  try go_simp
  refine list_read (v := .bool false) rfl rfl (fun u hS => exec_gtrS _ _ (unhide e0) rfl rfl rfl) ?_
  try go_simp
  refine list_read (v := .bool false) rfl rfl (fun u hS => by go_simp) ?_
  try go_simp
  refine list_read (v := .pointer (some ⟨w.heap.size + 1, 5, none⟩)) rfl rfl (fun u hS => by go_simp) ?_
  try go_simp
  refine list_read (v := .slice B n2 cq) rfl rfl (fun u hS => exec_loadV_Vecs (g := w.heap.size + 1) (t := 27) (cs := sh k2 r2 x2 y2 z2 B n2 cq) hS.g _ rfl rfl (by repeat (first | exact List.mem_cons_self | apply List.mem_cons_of_mem)) rfl) ?_
  try go_simp
  refine list_read (v := .int .i64 n2) rfl rfl (fun u hS => by go_simp) ?_
  try go_simp
  refine list_read (v := .bool false) rfl rfl (fun u hS => exec_gtrS _ _ (unhide e1) rfl rfl rfl) ?_
  try go_simp
  refine list_read (v := .bool false) rfl rfl (fun u hS => by go_simp) ?_
  try go_simp
  refine list_end (fun u1 hS => ?_)
  have D := hide hS
  clear hS
  go_upto_region 3 with fail
  refine list_start (S := Gd w [(w.heap.size + 1, 27, sh k2 r2 x2 y2 z2 B n2 cq), (w.heap.size, 27, sh kd rr x y z A n cp)]) (unhide D) ?_
  clear D
  refine list_read (v := .agg (sh kd rr x y z A n cp)) rfl rfl (fun u hS => exec_loadG (g := w.heap.size) (t := 27) (cs := sh kd rr x y z A n cp) hS.g rShape _ rfl rfl (by repeat (first | exact List.mem_cons_self | apply List.mem_cons_of_mem)) rfl) ?_
  try go_simp
  intro u hS
  refine list_callE (f := 24) (args := #[.agg (sh kd rr x y z A n cp)]) rfl (by go_simp) (unhide hCo u hS.g.o) ?_
  rintro e5 w5 ⟨⟨A5, c5, he5, hown⟩, hb5⟩
  refine ⟨_, he5, ?_⟩
  clear he5
  refine list_go (S := Gd w [(w.heap.size + 1, 27, sh k2 r2 x2 y2 z2 B n2 cq), (w.heap.size, 27, sh kd rr x y z A n cp)]) (hS.keep hb5) ?_
  clear hS hb5 hown
  try go_simp
  refine list_new (z := sh 0 0 0 0 0 none 0 0) (ty := 27) (v := fun g => .pointer (some ⟨g, 0, none⟩)) rfl rfl (fun u => by go_simp) (fun g1 hgg1 => ?_)
  try go_simp
  refine list_store (l1 := []) (l2 := [(w.heap.size + 1, 27, sh k2 r2 x2 y2 z2 B n2 cq), (w.heap.size, 27, sh kd rr x y z A n cp)]) (l' := [(g1, 27, sh kd rr x y z A5 n c5), (w.heap.size + 1, 27, sh k2 r2 x2 y2 z2 B n2 cq), (w.heap.size, 27, sh kd rr x y z A n cp)]) (g := g1) (old := sh 0 0 0 0 0 none 0 0) (cs := sh kd rr x y z A5 n c5) (.tmp 5) (.tmp 20) rfl rfl rfl rfl rfl rfl rShape rfl rfl (sh_one _ _ _ _ _ _ _ _) hgg1 ?_
  try go_simp
  refine list_end (fun u3 hS => ?_)
  have D := hide hS
  clear hS
  go_upto_region 4 with fail
  refine region_plan (S := Gd w [(g1, 27, sh kd rr x y z A5 n c5), (w.heap.size + 1, 27, sh k2 r2 x2 y2 z2 B n2 cq), (w.heap.size, 27, sh kd rr x y z A n cp)]) (l := [0, 1, 2, 3, 4, 5, 6, 7, 8, 9, 10, 11, 12]) (by kernel_rfl) (by kernel_rfl) (by kernel_rfl) (by kernel_rfl) (by kernel_rfl) (by kernel_rfl) (by kernel_rfl) (unhide D).drew ?_
  clear D
  refine plan_read (v := .agg (sh kd rr x y z A n cp)) rfl rfl (fun u hS => exec_loadG (g := w.heap.size) (t := 27) (cs := sh kd rr x y z A n cp) hS.g rShape _ rfl rfl (by repeat (first | exact List.mem_cons_self | apply List.mem_cons_of_mem)) rfl) ?_
  try go_simp
  refine plan_read (v := .agg (sh k2 r2 x2 y2 z2 B n2 cq)) rfl rfl (fun u hS => exec_loadG (g := w.heap.size + 1) (t := 27) (cs := sh k2 r2 x2 y2 z2 B n2 cq) hS.g rShape _ rfl rfl (by repeat (first | exact List.mem_cons_self | apply List.mem_cons_of_mem)) rfl) ?_
  try go_simp
  refine plan_call (v := .bool t) (f := 25) (args := #[.agg (sh kd rr x y z A n cp), .agg (sh k2 r2 x2 y2 z2 B n2 cq)]) rfl rfl (fun u hS => by go_simp) (fun u hS => (unhide h0 u hS.g.o).mono fun _ _ ⟨he, hb⟩ => ⟨he, hS.keep hb⟩) ?_
  try go_simp
  refine plan_read (v := .agg (sh kd rr x y z A n cp)) rfl rfl (fun u hS => exec_loadG (g := w.heap.size) (t := 27) (cs := sh kd rr x y z A n cp) hS.g rShape _ rfl rfl (by repeat (first | exact List.mem_cons_self | apply List.mem_cons_of_mem)) rfl) ?_
  try go_simp
  refine plan_read (v := .agg (sh k2 r2 x2 y2 z2 B n2 cq)) rfl rfl (fun u hS => exec_loadG (g := w.heap.size + 1) (t := 27) (cs := sh k2 r2 x2 y2 z2 B n2 cq) hS.g rShape _ rfl rfl (by repeat (first | exact List.mem_cons_self | apply List.mem_cons_of_mem)) rfl) ?_
  try go_simp
  refine plan_call (v := .bool t) (f := 19) (args := #[.agg (sh kd rr x y z A n cp), .agg (sh k2 r2 x2 y2 z2 B n2 cq)]) rfl rfl (fun u hS => by go_simp) (fun u hS => (unhide h1 u hS.g.o).mono fun _ _ ⟨he, hb⟩ => ⟨he, hS.keep hb⟩) ?_
  try go_simp
  refine plan_read (v := .bool false) rfl rfl (fun u hS => exec_neqB u (.tmp 23) (.tmp 26) rfl rfl rfl) ?_
  try go_simp
  refine plan_read (v := .bool false) rfl rfl (fun u hS => by go_simp) ?_
  try go_simp
  refine plan_read (v := .agg (sh kd rr x y z A5 n c5)) rfl rfl (fun u hS => exec_loadG (g := g1) (t := 27) (cs := sh kd rr x y z A5 n c5) hS.g rShape _ rfl rfl (by repeat (first | exact List.mem_cons_self | apply List.mem_cons_of_mem)) rfl) ?_
  try go_simp
  refine plan_read (v := .agg (sh kd rr x y z A n cp)) rfl rfl (fun u hS => exec_loadG (g := w.heap.size) (t := 27) (cs := sh kd rr x y z A n cp) hS.g rShape _ rfl rfl (by repeat (first | exact List.mem_cons_self | apply List.mem_cons_of_mem)) rfl) ?_
  try go_simp
  refine plan_call (v := .bool true) (f := 19) (args := #[.agg (sh kd rr x y z A5 n c5), .agg (sh kd rr x y z A n cp)]) rfl rfl (fun u hS => by go_simp) (fun u hS => (unhide hRf u A5 c5 hS.g.o).mono fun _ _ ⟨he, hb⟩ => ⟨he, hS.keep hb⟩) ?_
  try go_simp
  refine plan_read (v := .bool false) rfl rfl (fun u hS => by go_simp) ?_
  try go_simp
  refine plan_read (v := .bool false) rfl rfl (fun u hS => by go_simp) ?_
  try go_simp
  refine plan_end (fun u4 hS => ?_)
  have D := hide hS
  clear hS
  go_upto_region 6 with fail
  refine list_start (S := Gd w [(g1, 27, sh kd rr x y z A5 n c5), (w.heap.size + 1, 27, sh k2 r2 x2 y2 z2 B n2 cq), (w.heap.size, 27, sh kd rr x y z A n cp)]) (unhide D) ?_
  clear D
  intro u6 hS
  refine list_turn (v := .slice (some ⟨u6.heap.size, 0, none⟩) 0 0) (w' := u6.alloc (.cells #[] 24)) rfl (exec_bs0V u6 rfl) ?_
  try go_simp
  have hS7 := hide (hS.push 24 #[])
  have own7 := World.ownsRow_made (base := u6.heap.size) (size := 3) (e := 24) u6 #[] 0 (Nat.le_refl _) (Nat.zero_le _) rfl
  refine list_turn (w' := u6.alloc (.cells #[] 24)) (v := .pointer (some ⟨w.heap.size, 5, none⟩)) rfl (by go_simp) ?_
  try go_simp
  refine list_turn (w' := u6.alloc (.cells #[] 24)) (v := .slice A n cp) rfl (exec_loadV_Vecs (g := w.heap.size) (t := 27) (cs := sh kd rr x y z A n cp) (unhide hS7).g _ rfl rfl (by repeat (first | exact List.mem_cons_self | apply List.mem_cons_of_mem)) rfl) ?_
  try go_simp
  obtain ⟨v8, w8, r8, own8, grow8⟩ := app_list (u6.alloc (.cells #[] 24)) u6.heap.size 25 A n cp ps _ own7 (unhide hP ((unhide hS7).g.o)) (by have := unhide hn1; omega) (unhide hnil) (by simp only [szA]; omega)
  have hS8 := hide (hS.grownOver (u := u6.alloc (.cells #[] 24)) (hS.again.push 24 #[]).tail grow8 (fun q e => by
    have hq : u6.heap.size = q := by simpa [Value.ownBlock] using e
    exact ⟨by have := hS.g.o.size; omega, fun p hp => by have := (hS.g.at_ p hp).lt; omega⟩))
  have hu6 := hS.g.o.size
  have hb8 := Below.grown ((Below.refl _ u6).alloc (Nat.le_refl _) (.cells #[] 24)) grow8 (by simp only [szA]; omega) (fun q e => by
    have hq : u6.heap.size = q := by simpa [Value.ownBlock] using e
    omega)
  refine list_turn (v := v8) (w' := w8) rfl (exec_append (v := .slice (some ⟨u6.heap.size, 0, none⟩) 0 0) (y := .slice A n cp) 25 (.tmp 34) (.tmp 36) rfl rfl rfl r8) ?_
  try go_simp
  refine list_turn (v := v8) (w' := w8) rfl (by go_simp) ?_
  try go_simp
  refine wpL_fin ?_
  obtain ⟨A8, c8, rfl, _⟩ := own_prow own8
  have D := hS8
  clear hS hS7 own7 r8 own8 grow8 hS8 hb8 hu6
  go_upto_region 7 with fail
  go_wp2
  go_loopw [7] (fun a wr => ∃ k : Nat, k ≤ n ∧ a = .int .i64 k ∧ Hid (Gd w [(g1, 27, sh kd rr x y z A5 n c5), (w.heap.size + 1, 27, sh k2 r2 x2 y2 z2 B n2 cq), (w.heap.size, 27, sh kd rr x y z A n cp)] wr)) (fun a _ => n - (intOf a).toNat)
  case atStart => exact ⟨0, Nat.zero_le _, rfl, D⟩
  case round =>
    obtain ⟨k, hk, rfl, hD⟩ := hrel
    clear D
    have D := hD
    clear hD
    go_upto_region 8 with fail
    generalize htt : decide ((k : Int) < n) = tt
    have htt := hide htt
    refine list_start (S := Gd w [(g1, 27, sh kd rr x y z A5 n c5), (w.heap.size + 1, 27, sh k2 r2 x2 y2 z2 B n2 cq), (w.heap.size, 27, sh kd rr x y z A n cp)]) (unhide D) ?_
    clear D
    refine list_read (v := .int .i64 k) rfl rfl (fun u hS => by go_simp) ?_
    try go_simp
    refine list_read (v := .pointer (some ⟨g1, 5, none⟩)) rfl rfl (fun u hS => by go_simp) ?_
    try go_simp
    refine list_read (v := .slice A5 n c5) rfl rfl (fun u hS => exec_loadV_Vecs (g := g1) (t := 27) (cs := sh kd rr x y z A5 n c5) hS.g _ rfl rfl (by repeat (first | exact List.mem_cons_self | apply List.mem_cons_of_mem)) rfl) ?_
    try go_simp
    refine list_read (v := .int .i64 n) rfl rfl (fun u hS => by go_simp) ?_
    try go_simp
    refine list_read (v := .bool tt) rfl rfl (fun u hS => exec_lssS _ _ (unhide htt) rfl rfl rfl) ?_
    try go_simp
    refine list_end (fun u8 hS => ?_)
    have D := hide hS
    clear hS
    cases tt
    · have hkn : ¬ k < n := by have := of_decide_eq_false (unhide htt); omega
      go_upto_region 11 with fail
      refine list_start (S := Gd w [(g1, 27, sh kd rr x y z A5 n c5), (w.heap.size + 1, 27, sh k2 r2 x2 y2 z2 B n2 cq), (w.heap.size, 27, sh kd rr x y z A n cp)]) (unhide D) ?_
      clear D
      refine list_read (v := .pointer (some ⟨w.heap.size, 5, none⟩)) rfl rfl (fun u hS => by go_simp) ?_
      try go_simp
      refine list_read (v := .slice A n cp) rfl rfl (fun u hS => exec_loadV_Vecs (g := w.heap.size) (t := 27) (cs := sh kd rr x y z A n cp) hS.g _ rfl rfl (by repeat (first | exact List.mem_cons_self | apply List.mem_cons_of_mem)) rfl) ?_
      try go_simp
      refine list_read (v := .slice A8 n c8) rfl rfl (fun u hS => by go_simp) ?_
      try go_simp
      refine list_call (v := .bool true) (f := 16) (args := #[.slice A n cp, .slice A8 n c8]) rfl rfl (fun u hS => by go_simp) (fun u hS => (unhide hSv u A8 c8 hS.g.o).mono fun _ _ ⟨he, hb⟩ => ⟨he, hS.keep hb⟩) ?_
      try go_simp
      refine list_read (v := .bool true) rfl rfl (fun u hS => by go_simp) ?_
      try go_simp
      refine list_call (v := .bool true) (f := 13) (args := #[]) rfl rfl (fun u hS => by go_simp) (fun u hS => (unhide hA u).mono fun _ _ ⟨he, hb⟩ => ⟨he, hS.keep hb⟩) ?_
      try go_simp
      refine list_read (v := .bool true) rfl rfl (fun u hS => by go_simp) ?_
      try go_simp
      refine list_read (v := .bool true) rfl rfl (fun u hS => by go_simp) ?_
      try go_simp
      refine list_end (fun u11 hS => ?_)
      have D := hide hS
      clear hS
      go_wp2
      go_ret
      exact ⟨rfl, (unhide D).g.o⟩
    · exfalso
      have := of_decide_eq_true (unhide htt)
      have := unhide hn0
      omega
set_option maxHeartbeats 16000000 in
theorem same9_pos (kd rr x y z : Int) (A : Option Addr) (n cp : Nat) (k2 r2 x2 y2 z2 : Int) (B : Option Addr) (n2 cq : Nat) (ps : Nat → Pt) (t : Bool) (w : World) (hn0 : Hid (0 < n)) (hnb : n ≤ 9223372036854775807) (hn1 : Hid (n ≤ 100)) (hnil : Hid (A = none → n = 0 ∧ cp = 0)) (hP : Hid (∀ {u : World}, Below w.heap.size w u → PRow u A n ps)) (hCo : Hid (∀ u, Below w.heap.size w u → Calls Tryz.prog 24 #[.agg (sh kd rr x y z A n cp)] u fun e w' => (∃ A5 c5, e = .returned (.agg (sh kd rr x y z A5 n c5)) ∧ w'.ownsRow u.heap.size 24 3 (.slice A5 n c5) n (cellsN n ps)) ∧ Below u.heap.size u w')) (hRf : Hid (∀ u gA cA, PRow u (some ⟨gA, 0, none⟩) n ps → Below w.heap.size w u → Calls Tryz.prog 19 #[.agg (sh kd rr x y z (some ⟨gA, 0, none⟩) n cA), .agg (sh kd rr x y z A n cp)] u fun e w' => e = .returned (.bool true) ∧ Below u.heap.size u w')) (hSv : Hid (∀ u gA cA, PRow u (some ⟨gA, 0, none⟩) n ps → Below w.heap.size w u → Calls Tryz.prog 16 #[.slice A n cp, .slice (some ⟨gA, 0, none⟩) n cA] u fun e w' => e = .returned (.bool true) ∧ Below u.heap.size u w')) (hA : Hid (Ans 13 #[] (.bool true))) (e0 : Hid (decide ((100 : Int) < n) = false)) (e1 : Hid (decide ((100 : Int) < n2) = false)) (h0 : Hid (∀ u, Below w.heap.size w u → Calls Tryz.prog 25 #[.agg (sh kd rr x y z A n cp), .agg (sh k2 r2 x2 y2 z2 B n2 cq)] u fun e w' => e = .returned (.bool t) ∧ Below u.heap.size u w')) (h1 : Hid (∀ u, Below w.heap.size w u → Calls Tryz.prog 19 #[.agg (sh kd rr x y z A n cp), .agg (sh k2 r2 x2 y2 z2 B n2 cq)] u fun e w' => e = .returned (.bool t) ∧ Below u.heap.size u w')) :
    Calls Tryz.prog 5 #[.agg (sh kd rr x y z A n cp), .agg (sh k2 r2 x2 y2 z2 B n2 cq)] w fun e w' => e = .returned (.bool true) ∧ Below w.heap.size w w' := by
  go_enter Tryz.func5, Tryz.ntmps5
  go_upto_region 1 with fail
  have D := hide (((Gd.start w).push 27 (sh kd rr x y z A n cp)).push 27 (sh k2 r2 x2 y2 z2 B n2 cq))
  simp only [szA] at D
  refine list_start (S := Gd w [(w.heap.size + 1, 27, sh k2 r2 x2 y2 z2 B n2 cq), (w.heap.size, 27, sh kd rr x y z A n cp)]) (unhide D) ?_
  clear D
  refine list_read (v := .pointer (some ⟨w.heap.size, 5, none⟩)) rfl rfl (fun u hS => by go_simp) ?_
  try go_simp
  refine list_read (v := .slice A n cp) rfl rfl (fun u hS => exec_loadV_Vecs (g := w.heap.size) (t := 27) (cs := sh kd rr x y z A n cp) hS.g _ rfl rfl (by repeat (first | exact List.mem_cons_self | apply List.mem_cons_of_mem)) rfl) ?_
  try go_simp
  refine list_read (v := .int .i64 n) rfl rfl (fun u hS => by go_simp) ?_
  try go_simp
  refine list_read (v := .bool false) rfl rfl (fun u hS => exec_gtrS _ _ (unhide e0) rfl rfl rfl) ?_
  try go_simp
  refine list_read (v := .bool false) rfl rfl (fun u hS => by go_simp) ?_
  try go_simp
  refine list_read (v := .pointer (some ⟨w.heap.size + 1, 5, none⟩)) rfl rfl (fun u hS => by go_simp) ?_
  try go_simp
  refine list_read (v := .slice B n2 cq) rfl rfl (fun u hS => exec_loadV_Vecs (g := w.heap.size + 1) (t := 27) (cs := sh k2 r2 x2 y2 z2 B n2 cq) hS.g _ rfl rfl (by repeat (first | exact List.mem_cons_self | apply List.mem_cons_of_mem)) rfl) ?_
  try go_simp
  refine list_read (v := .int .i64 n2) rfl rfl (fun u hS => by go_simp) ?_
  try go_simp
  refine list_read (v := .bool false) rfl rfl (fun u hS => exec_gtrS _ _ (unhide e1) rfl rfl rfl) ?_
  try go_simp
  refine list_read (v := .bool false) rfl rfl (fun u hS => by go_simp) ?_
  try go_simp
  refine list_end (fun u1 hS => ?_)
  have D := hide hS
  clear hS
  go_upto_region 3 with fail
  refine list_start (S := Gd w [(w.heap.size + 1, 27, sh k2 r2 x2 y2 z2 B n2 cq), (w.heap.size, 27, sh kd rr x y z A n cp)]) (unhide D) ?_
  clear D
  refine list_read (v := .agg (sh kd rr x y z A n cp)) rfl rfl (fun u hS => exec_loadG (g := w.heap.size) (t := 27) (cs := sh kd rr x y z A n cp) hS.g rShape _ rfl rfl (by repeat (first | exact List.mem_cons_self | apply List.mem_cons_of_mem)) rfl) ?_
  try go_simp
  intro u hS
  refine list_callE (f := 24) (args := #[.agg (sh kd rr x y z A n cp)]) rfl (by go_simp) (unhide hCo u hS.g.o) ?_
  rintro e5 w5 ⟨⟨A5, c5, he5, hown⟩, hb5⟩
  refine ⟨_, he5, ?_⟩
  clear he5
  obtain ⟨gC, cC, cur, hv5, hbC, hBC, hcC, hcur, hcs⟩ := own_blockS hown (unhide hn0)
  simp only [Value.slice.injEq, true_and] at hv5
  obtain ⟨rfl, rfl⟩ := hv5
  have hcur := hide hcur
  have hcs := hide hcs
  have hggC : w.heap.size ≤ gC := Nat.le_trans hS.g.o.size hbC
  refine list_go (S := Gd w [(gC, 24, cur), (w.heap.size + 1, 27, sh k2 r2 x2 y2 z2 B n2 cq), (w.heap.size, 27, sh kd rr x y z A n cp)]) (hS.more hb5 hBC hbC) ?_
  clear hS hb5 hBC hown hbC
  try go_simp
  refine list_new (z := sh 0 0 0 0 0 none 0 0) (ty := 27) (v := fun g => .pointer (some ⟨g, 0, none⟩)) rfl rfl (fun u => by go_simp) (fun g1 hgg1 => ?_)
  try go_simp
  refine list_store (l1 := []) (l2 := [(gC, 24, cur), (w.heap.size + 1, 27, sh k2 r2 x2 y2 z2 B n2 cq), (w.heap.size, 27, sh kd rr x y z A n cp)]) (l' := [(g1, 27, sh kd rr x y z (some ⟨gC, 0, none⟩) n c5), (gC, 24, cur), (w.heap.size + 1, 27, sh k2 r2 x2 y2 z2 B n2 cq), (w.heap.size, 27, sh kd rr x y z A n cp)]) (g := g1) (old := sh 0 0 0 0 0 none 0 0) (cs := sh kd rr x y z (some ⟨gC, 0, none⟩) n c5) (.tmp 5) (.tmp 20) rfl rfl rfl rfl rfl rfl rShape rfl rfl (sh_one _ _ _ _ _ _ _ _) hgg1 ?_
  try go_simp
  refine list_end (fun u3 hS => ?_)
  have D := hide hS
  clear hS
  go_upto_region 4 with fail
  refine region_plan (S := Gd w [(g1, 27, sh kd rr x y z (some ⟨gC, 0, none⟩) n c5), (gC, 24, cur), (w.heap.size + 1, 27, sh k2 r2 x2 y2 z2 B n2 cq), (w.heap.size, 27, sh kd rr x y z A n cp)]) (l := [0, 1, 2, 3, 4, 5, 6, 7, 8, 9, 10, 11, 12]) (by kernel_rfl) (by kernel_rfl) (by kernel_rfl) (by kernel_rfl) (by kernel_rfl) (by kernel_rfl) (by kernel_rfl) (unhide D).drew ?_
  clear D
  refine plan_read (v := .agg (sh kd rr x y z A n cp)) rfl rfl (fun u hS => exec_loadG (g := w.heap.size) (t := 27) (cs := sh kd rr x y z A n cp) hS.g rShape _ rfl rfl (by repeat (first | exact List.mem_cons_self | apply List.mem_cons_of_mem)) rfl) ?_
  try go_simp
  refine plan_read (v := .agg (sh k2 r2 x2 y2 z2 B n2 cq)) rfl rfl (fun u hS => exec_loadG (g := w.heap.size + 1) (t := 27) (cs := sh k2 r2 x2 y2 z2 B n2 cq) hS.g rShape _ rfl rfl (by repeat (first | exact List.mem_cons_self | apply List.mem_cons_of_mem)) rfl) ?_
  try go_simp
  refine plan_call (v := .bool t) (f := 25) (args := #[.agg (sh kd rr x y z A n cp), .agg (sh k2 r2 x2 y2 z2 B n2 cq)]) rfl rfl (fun u hS => by go_simp) (fun u hS => (unhide h0 u hS.g.o).mono fun _ _ ⟨he, hb⟩ => ⟨he, hS.keep hb⟩) ?_
  try go_simp
  refine plan_read (v := .agg (sh kd rr x y z A n cp)) rfl rfl (fun u hS => exec_loadG (g := w.heap.size) (t := 27) (cs := sh kd rr x y z A n cp) hS.g rShape _ rfl rfl (by repeat (first | exact List.mem_cons_self | apply List.mem_cons_of_mem)) rfl) ?_
  try go_simp
  refine plan_read (v := .agg (sh k2 r2 x2 y2 z2 B n2 cq)) rfl rfl (fun u hS => exec_loadG (g := w.heap.size + 1) (t := 27) (cs := sh k2 r2 x2 y2 z2 B n2 cq) hS.g rShape _ rfl rfl (by repeat (first | exact List.mem_cons_self | apply List.mem_cons_of_mem)) rfl) ?_
  try go_simp
  refine plan_call (v := .bool t) (f := 19) (args := #[.agg (sh kd rr x y z A n cp), .agg (sh k2 r2 x2 y2 z2 B n2 cq)]) rfl rfl (fun u hS => by go_simp) (fun u hS => (unhide h1 u hS.g.o).mono fun _ _ ⟨he, hb⟩ => ⟨he, hS.keep hb⟩) ?_
  try go_simp
  refine plan_read (v := .bool false) rfl rfl (fun u hS => exec_neqB u (.tmp 23) (.tmp 26) rfl rfl rfl) ?_
  try go_simp
  refine plan_read (v := .bool false) rfl rfl (fun u hS => by go_simp) ?_
  try go_simp
  refine plan_read (v := .agg (sh kd rr x y z (some ⟨gC, 0, none⟩) n c5)) rfl rfl (fun u hS => exec_loadG (g := g1) (t := 27) (cs := sh kd rr x y z (some ⟨gC, 0, none⟩) n c5) hS.g rShape _ rfl rfl (by repeat (first | exact List.mem_cons_self | apply List.mem_cons_of_mem)) rfl) ?_
  try go_simp
  refine plan_read (v := .agg (sh kd rr x y z A n cp)) rfl rfl (fun u hS => exec_loadG (g := w.heap.size) (t := 27) (cs := sh kd rr x y z A n cp) hS.g rShape _ rfl rfl (by repeat (first | exact List.mem_cons_self | apply List.mem_cons_of_mem)) rfl) ?_
  try go_simp
  refine plan_call (v := .bool true) (f := 19) (args := #[.agg (sh kd rr x y z (some ⟨gC, 0, none⟩) n c5), .agg (sh kd rr x y z A n cp)]) rfl rfl (fun u hS => by go_simp) (fun u hS => (unhide hRf u gC c5 (prow_of (hS.g.blk (g := gC) (t := 24) (cs := cur) (by repeat (first | exact List.mem_cons_self | apply List.mem_cons_of_mem))) (unhide hcur)) hS.g.o).mono fun _ _ ⟨he, hb⟩ => ⟨he, hS.keep hb⟩) ?_
  try go_simp
  refine plan_read (v := .bool false) rfl rfl (fun u hS => by go_simp) ?_
  try go_simp
  refine plan_read (v := .bool false) rfl rfl (fun u hS => by go_simp) ?_
  try go_simp
  refine plan_end (fun u4 hS => ?_)
  have D := hide hS
  clear hS
  go_upto_region 6 with fail
  refine list_start (S := Gd w [(g1, 27, sh kd rr x y z (some ⟨gC, 0, none⟩) n c5), (gC, 24, cur), (w.heap.size + 1, 27, sh k2 r2 x2 y2 z2 B n2 cq), (w.heap.size, 27, sh kd rr x y z A n cp)]) (unhide D) ?_
  clear D
  intro u6 hS
  refine list_turn (v := .slice (some ⟨u6.heap.size, 0, none⟩) 0 0) (w' := u6.alloc (.cells #[] 24)) rfl (exec_bs0V u6 rfl) ?_
  try go_simp
  have hS7 := hide (hS.push 24 #[])
  have own7 := World.ownsRow_made (base := u6.heap.size) (size := 3) (e := 24) u6 #[] 0 (Nat.le_refl _) (Nat.zero_le _) rfl
  refine list_turn (w' := u6.alloc (.cells #[] 24)) (v := .pointer (some ⟨w.heap.size, 5, none⟩)) rfl (by go_simp) ?_
  try go_simp
  refine list_turn (w' := u6.alloc (.cells #[] 24)) (v := .slice A n cp) rfl (exec_loadV_Vecs (g := w.heap.size) (t := 27) (cs := sh kd rr x y z A n cp) (unhide hS7).g _ rfl rfl (by repeat (first | exact List.mem_cons_self | apply List.mem_cons_of_mem)) rfl) ?_
  try go_simp
  obtain ⟨v8, w8, r8, own8, grow8⟩ := app_list (u6.alloc (.cells #[] 24)) u6.heap.size 25 A n cp ps _ own7 (unhide hP ((unhide hS7).g.o)) (by have := unhide hn1; omega) (unhide hnil) (by simp only [szA]; omega)
  have hS8 := hide (hS.grownOver (u := u6.alloc (.cells #[] 24)) (hS.again.push 24 #[]).tail grow8 (fun q e => by
    have hq : u6.heap.size = q := by simpa [Value.ownBlock] using e
    exact ⟨by have := hS.g.o.size; omega, fun p hp => by have := (hS.g.at_ p hp).lt; omega⟩))
  have hu6 := hS.g.o.size
  have hb8 := Below.grown ((Below.refl _ u6).alloc (Nat.le_refl _) (.cells #[] 24)) grow8 (by simp only [szA]; omega) (fun q e => by
    have hq : u6.heap.size = q := by simpa [Value.ownBlock] using e
    omega)
  refine list_turn (v := v8) (w' := w8) rfl (exec_append (v := .slice (some ⟨u6.heap.size, 0, none⟩) 0 0) (y := .slice A n cp) 25 (.tmp 34) (.tmp 36) rfl rfl rfl r8) ?_
  try go_simp
  refine list_turn (v := v8) (w' := w8) rfl (by go_simp) ?_
  try go_simp
  refine wpL_fin ?_
  obtain ⟨gO, cO, curO, rfl, hbO, hBO, hcO, hcurO, _⟩ := own_blockS own8 (unhide hn0)
  have hcurO := hide hcurO
  have D := hide (hS.more hb8 hBO hbO)
  clear hS hS7 own7 r8 own8 grow8 hS8 hb8 hbO hBO hcO hu6
  go_upto_region 7 with fail
  go_wp2
  go_loopw [7] (fun a wr => ∃ (k : Nat) (cu2 : Array Value), k ≤ n ∧ a = .int .i64 k ∧ Hid (cu2.size = c5 * 3) ∧ Hid (Gd w [(gO, 24, curO), (g1, 27, sh kd rr x y z (some ⟨gC, 0, none⟩) n c5), (gC, 24, cu2), (w.heap.size + 1, 27, sh k2 r2 x2 y2 z2 B n2 cq), (w.heap.size, 27, sh kd rr x y z A n cp)] wr)) (fun a _ => n - (intOf a).toNat)
  case atStart => exact ⟨0, cur, Nat.zero_le _, rfl, hcs, D⟩
  case round =>
    obtain ⟨k, cu2, hk, rfl, hcs2, hD⟩ := hrel
    clear D
    have D := hD
    clear hD
    go_upto_region 8 with fail
    generalize htt : decide ((k : Int) < n) = tt
    have htt := hide htt
    refine list_start (S := Gd w [(gO, 24, curO), (g1, 27, sh kd rr x y z (some ⟨gC, 0, none⟩) n c5), (gC, 24, cu2), (w.heap.size + 1, 27, sh k2 r2 x2 y2 z2 B n2 cq), (w.heap.size, 27, sh kd rr x y z A n cp)]) (unhide D) ?_
    clear D
    refine list_read (v := .int .i64 k) rfl rfl (fun u hS => by go_simp) ?_
    try go_simp
    refine list_read (v := .pointer (some ⟨g1, 5, none⟩)) rfl rfl (fun u hS => by go_simp) ?_
    try go_simp
    refine list_read (v := .slice (some ⟨gC, 0, none⟩) n c5) rfl rfl (fun u hS => exec_loadV_Vecs (g := g1) (t := 27) (cs := sh kd rr x y z (some ⟨gC, 0, none⟩) n c5) hS.g _ rfl rfl (by repeat (first | exact List.mem_cons_self | apply List.mem_cons_of_mem)) rfl) ?_
    try go_simp
    refine list_read (v := .int .i64 n) rfl rfl (fun u hS => by go_simp) ?_
    try go_simp
    refine list_read (v := .bool tt) rfl rfl (fun u hS => exec_lssS _ _ (unhide htt) rfl rfl rfl) ?_
    try go_simp
    refine list_end (fun u8 hS => ?_)
    have D := hide hS
    clear hS
    cases tt
    · have hkn : ¬ k < n := by have := of_decide_eq_false (unhide htt); omega
      go_upto_region 11 with fail
      refine list_start (S := Gd w [(gO, 24, curO), (g1, 27, sh kd rr x y z (some ⟨gC, 0, none⟩) n c5), (gC, 24, cu2), (w.heap.size + 1, 27, sh k2 r2 x2 y2 z2 B n2 cq), (w.heap.size, 27, sh kd rr x y z A n cp)]) (unhide D) ?_
      clear D
      refine list_read (v := .pointer (some ⟨w.heap.size, 5, none⟩)) rfl rfl (fun u hS => by go_simp) ?_
      try go_simp
      refine list_read (v := .slice A n cp) rfl rfl (fun u hS => exec_loadV_Vecs (g := w.heap.size) (t := 27) (cs := sh kd rr x y z A n cp) hS.g _ rfl rfl (by repeat (first | exact List.mem_cons_self | apply List.mem_cons_of_mem)) rfl) ?_
      try go_simp
      refine list_read (v := .slice (some ⟨gO, 0, none⟩) n cO) rfl rfl (fun u hS => by go_simp) ?_
      try go_simp
      refine list_call (v := .bool true) (f := 16) (args := #[.slice A n cp, .slice (some ⟨gO, 0, none⟩) n cO]) rfl rfl (fun u hS => by go_simp) (fun u hS => (unhide hSv u gO cO (prow_of (hS.g.blk (g := gO) (t := 24) (cs := curO) (by repeat (first | exact List.mem_cons_self | apply List.mem_cons_of_mem))) (unhide hcurO)) hS.g.o).mono fun _ _ ⟨he, hb⟩ => ⟨he, hS.keep hb⟩) ?_
      try go_simp
      refine list_read (v := .bool true) rfl rfl (fun u hS => by go_simp) ?_
      try go_simp
      refine list_call (v := .bool true) (f := 13) (args := #[]) rfl rfl (fun u hS => by go_simp) (fun u hS => (unhide hA u).mono fun _ _ ⟨he, hb⟩ => ⟨he, hS.keep hb⟩) ?_
      try go_simp
      refine list_read (v := .bool true) rfl rfl (fun u hS => by go_simp) ?_
      try go_simp
      refine list_read (v := .bool true) rfl rfl (fun u hS => by go_simp) ?_
      try go_simp
      refine list_end (fun u11 hS => ?_)
      have D := hide hS
      clear hS
      go_wp2
      go_ret
      exact ⟨rfl, (unhide D).g.o⟩
    · have hkn : k < n := by have := of_decide_eq_true (unhide htt); omega
      go_upto_region 10 with fail
      refine list_start (S := Gd w [(gO, 24, curO), (g1, 27, sh kd rr x y z (some ⟨gC, 0, none⟩) n c5), (gC, 24, cu2), (w.heap.size + 1, 27, sh k2 r2 x2 y2 z2 B n2 cq), (w.heap.size, 27, sh kd rr x y z A n cp)]) (unhide D) ?_
      clear D
      refine list_read (v := .pointer (some ⟨g1, 5, none⟩)) rfl rfl (fun u hS => by go_simp) ?_
      try go_simp
      refine list_read (v := .slice (some ⟨gC, 0, none⟩) n c5) rfl rfl (fun u hS => exec_loadV_Vecs (g := g1) (t := 27) (cs := sh kd rr x y z (some ⟨gC, 0, none⟩) n c5) hS.g _ rfl rfl (by repeat (first | exact List.mem_cons_self | apply List.mem_cons_of_mem)) rfl) ?_
      try go_simp
      refine list_read (v := .int .i64 k) rfl rfl (fun u hS => by go_simp) ?_
      try go_simp
      refine list_read (v := .agg (v3 77 0 0)) rfl rfl (fun u hS => by go_simp) ?_
      try go_simp
      refine list_read (v := .pointer (some ⟨gC, k * 3, none⟩)) rfl rfl (fun u hS => exec_ixV0 u (.tmp 46) (.tmp 47) hkn rfl rfl rfl) ?_
      try go_simp
      refine list_storeM (i := k * 3) (l1 := [(gO, 24, curO), (g1, 27, sh kd rr x y z (some ⟨gC, 0, none⟩) n c5)]) (l2 := [(w.heap.size + 1, 27, sh k2 r2 x2 y2 z2 B n2 cq), (w.heap.size, 27, sh kd rr x y z A n cp)]) (l' := [(gO, 24, curO), (g1, 27, sh kd rr x y z (some ⟨gC, 0, none⟩) n c5), (gC, 24, putC cu2 (k * 3) (v3 77 0 0).toList), (w.heap.size + 1, 27, sh k2 r2 x2 y2 z2 B n2 cq), (w.heap.size, 27, sh kd rr x y z A n cp)]) (g := gC) (old := cu2) (cs := v3 77 0 0) (.tmp 49) (.tmp 48) rfl rfl rfl rfl rfl rfl rVec rfl (by have := unhide hcs2; omega) (v3_one _ _ _) hggC ?_
      try go_simp
      refine list_end (fun u10 hS => ?_)
      have D := hide hS
      clear hS
      go_wp2
      go_roundw
      case rel => exact ⟨k + 1, _, by omega, by go_num, hide (by rw [putC_size]; exact unhide hcs2), D⟩
      case measure => simp [intOf]; omega
theorem eqVs_self (n : Nat) (ps : Nat → Pt) : eqVs n n ps ps = true := by
  unfold eqVs
  rw [decide_eq_true rfl, Bool.true_and, List.all_eq_true]
  exact fun i _ => sameV_selfI _ _ _
theorem sameSh_self (kd rr x y z : Int) (n : Nat) (ps : Nat → Pt) : sameSh kd rr x y z n ps kd rr x y z n ps = true := by
  unfold sameSh
  rw [decide_eq_true rfl, decide_eq_true rfl, sameV_selfI, eqVs_self]
  rfl
theorem shapeSame_all (kd rr x y z : Int) (A : Option Addr) (n cp : Nat) (k2 r2 x2 y2 z2 : Int) (B : Option Addr) (n2 cq : Nat) (ps qs : Nat → Pt) (hn : n ≤ 9223372036854775807) (hnil : A = none → cp = 0) (w : World) (hP : PRow w A n ps) (hQ : PRow w B n2 qs) :
    Calls Tryz.prog 5 #[.agg (sh kd rr x y z A n cp), .agg (sh k2 r2 x2 y2 z2 B n2 cq)] w fun e w' => e = .returned (.bool true) ∧ Below w.heap.size w w' := by
  by_cases c1 : (100 : Int) < n
  · exact same9_a kd rr x y z A n cp k2 r2 x2 y2 z2 B n2 cq w (decide_eq_true c1) awake9Z
  by_cases c2 : (100 : Int) < n2
  · exact same9_b kd rr x y z A n cp k2 r2 x2 y2 z2 B n2 cq w (decide_eq_false c1) (decide_eq_true c2) awake9Z
  have hCo := fun u (hu : Below w.heap.size w u) => copy_core kd rr x y z A n cp (cellsN n ps) u (fun v hv => CloneS A n cp ps v (by omega) ((hP.below hu).below hv))
  have hS1 := fun u (hu : Below w.heap.size w u) => shSame_all kd rr x y z A n cp k2 r2 x2 y2 z2 B n2 cq ps qs u hn (hP.below hu) (hQ.below hu)
  have hS2 := fun u (hu : Below w.heap.size w u) => rfSame_all kd rr x y z A n cp k2 r2 x2 y2 z2 B n2 cq ps qs u hn (hP.below hu) (hQ.below hu)
  have hnn : A = none → n = 0 ∧ cp = 0 := fun h => ⟨by
    rcases hP with h0 | ⟨g, off, h1, _⟩
    · exact h0
    · rw [h] at h1; (cases h1), hnil h⟩
  rcases Nat.eq_zero_or_pos n with h0 | h0
  · refine same9_nil kd rr x y z A n cp k2 r2 x2 y2 z2 B n2 cq ps _ w h0 hn (by show n ≤ 100; omega) hnn (fun hu => hP.below hu) hCo (fun u A5 c5 hu => ?_) (fun u A5 c5 hu => ?_) awake9Z (decide_eq_false c1) (decide_eq_false c2) hS1 hS2
    · have t := rfSame_all kd rr x y z A5 n c5 kd rr x y z A n cp ps ps u hn (.inl h0) (hP.below hu)
      rw [sameSh_self] at t
      exact t
    · have t := sameL_all A A5 n n cp c5 ps ps u hn (hP.below hu) (.inl h0)
      rw [eqVs_self] at t
      exact t
  · refine same9_pos kd rr x y z A n cp k2 r2 x2 y2 z2 B n2 cq ps _ w h0 hn (by show n ≤ 100; omega) hnn (fun hu => hP.below hu) hCo (fun u gA cA hA hu => ?_) (fun u gA cA hA hu => ?_) awake9Z (decide_eq_false c1) (decide_eq_false c2) hS1 hS2
    · have t := rfSame_all kd rr x y z (some ⟨gA, 0, none⟩) n cA kd rr x y z A n cp ps ps u hn hA (hP.below hu)
      rw [sameSh_self] at t
      exact t
    · have t := sameL_all A (some ⟨gA, 0, none⟩) n n cp cA ps ps u hn (hP.below hu) hA
      rw [eqVs_self] at t
      exact t

end Go.Proofs.YtnemedgdhojhdaaGreat
