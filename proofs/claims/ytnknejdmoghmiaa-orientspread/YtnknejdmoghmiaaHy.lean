/- The law OrientSpread. -/
import Derived.Test.YtnknejdmoghmiaaHx
namespace Go.Proofs.Ytnknejdmoghmiaa
open Go.RowKit
set_option maxRecDepth 4000
set_option linter.unusedVariables false

theorem szInt : (Try.prog.info? 3).map (·.size) = some 1 := by kernel_rfl
theorem elInts : Try.prog.underlying 72 = some (.slice (Try.prog.elem 72)) ∧ Try.prog.elem 72 = 3 := ⟨by kernel_rfl, by kernel_rfl⟩
theorem exec_ixI {o : Oper} {a : Act} (w : World) {g n c i : Nat} (x y : Operand) (hi : i < n) (ho : o.op = .indexAddr 72 x y) (hx : a.eval x = .slice (some ⟨g, 0, none⟩) n c) (hy : a.eval y = .int .i64 (i : Int)) :
    (execOp a.eval o).run Try.prog w = .ok (.value (.pointer (some ⟨g, i, none⟩))) w := by
  unfold execOp
  simp only [ho, hx, hy, Sem.run_bind, run_indexAt_slice w 72 _ _ _ _ _ elInts.1]
  rw [if_pos ⟨by omega, by omega⟩, elInts.2, run_sizeOf' szInt]
  simp only [Result.andThen_ok, Sem.run_pure, Addr.add_mid, Int.toNat_natCast, Nat.zero_add, Nat.mul_one]
theorem exec_loadC {o : Oper} {a : Act} {w : World} {g i : Nat} {z : Int} (x : Operand) (ho : o.op = .load 3 x) (hx : a.eval x = .pointer (some ⟨g, i, none⟩)) (hcc : w.cell? ⟨g, i, none⟩ = some (.int .i64 z)) :
    (execOp a.eval o).run Try.prog w = .ok (.value (.int .i64 z)) w := by
  unfold execOp
  simp only [ho, hx]
  go_simp
theorem exec_geqN {o : Oper} {a : Act} {w : World} (p q : Operand) {x y : Int} {k : IntKind} {ty ty' : TypeId} {b : Bool} (hb : decide (y ≤ x) = b) (ho : o.op = .binOp .geq ty p q ty') (hx : a.eval p = .int k x) (hy : a.eval q = .int k y) : (execOp a.eval o).run Try.prog w = .ok (.value (.bool b)) w := by
  subst hb
  unfold execOp
  simp only [ho, hx, hy]
  go_simp
theorem exec_gtrN {o : Oper} {a : Act} {w : World} (p q : Operand) {x y : Int} {k : IntKind} {ty ty' : TypeId} {b : Bool} (hb : decide (y < x) = b) (ho : o.op = .binOp .gtr ty p q ty') (hx : a.eval p = .int k x) (hy : a.eval q = .int k y) : (execOp a.eval o).run Try.prog w = .ok (.value (.bool b)) w := by
  subst hb
  unfold execOp
  simp only [ho, hx, hy]
  go_simp
theorem wpL_end {P : Program} {ops : Array Oper} {Q : Exit → Act → World → Prop} {a : Act} {w : World} (h : Q .normal a w) : wpList P ops Q [] a w := h
theorem own_ints {w : World} {B m c : Nat} {A : Option Addr} {l : List Nat} (h : w.ownsRow B 3 1 (.slice A m c) m (cellsI l)) (hm : 0 < m) : ∃ g, A = some ⟨g, 0, none⟩ ∧ B ≤ g ∧ g < w.heap.size ∧ ∀ k, k < m → w.cell? ⟨g, k, none⟩ = some (.int .i64 ((l.getD k 0 : Nat) : Int)) := by
  rcases h.2 with ⟨_, h0⟩ | ⟨g, cap, cur, hv, hb, hg, _⟩
  · omega
  · injection hv with e1 e2 e3
    subst e1 e3
    refine ⟨g, rfl, hb, (Array.getElem?_eq_some_iff.1 hg).1, fun k hk => ?_⟩
    rw [h.cellAt k (by omega)]
    have hl : l.length = m := by
      have := h.1
      simpa [cellsI] using this
    unfold cellsI
    rw [List.getElem?_map, List.getElem?_eq_getElem (by omega)]
    simp [List.getD, show k < l.length by omega]
theorem bs1P (x y z : Int) (w : World) : (Instr.buildSlice 65 1 #[(0, .agg (v3 x y z))]).run Try.prog w = .ok (.slice (some ⟨w.heap.size, 0, none⟩) 1 1) (w.alloc (.cells (v3 x y z) 26)) := by kernel_rfl
theorem exec_bs1P {o : Oper} {ac : Act} (w : World) (p : Operand) {x y z : Int} (ho : o.op = .buildSlice 65 1 #[(0, p)]) (hp : ac.eval p = .agg (v3 x y z)) :
    (execOp ac.eval o).run Try.prog w = .ok (.value (.slice (some ⟨w.heap.size, 0, none⟩) 1 1)) (w.alloc (.cells (v3 x y z) 26)) := by
  unfold execOp
  have e : (#[(0, p)].map fun (i, x) => (i, ac.eval x)) = #[(0, .agg (v3 x y z))] := by simp [hp]
  simp only [ho, Sem.run_bind, e, bs1P, Result.andThen_ok, Sem.run_pure]
theorem app_ptP (w : World) (B : Nat) (ty : TypeId) (v : Value) (n : Nat) (xs : List Value) (g : Nat) (x y z : Int) (hown : w.ownsRow B 26 3 v n xs) (hb : Blk w g 26 (v3 x y z)) (hn : n ≤ 400) (hB : B ≤ w.heap.size) :
    ∃ v' w', (Builtin.append_ #[65, 65] ty #[v, .slice (some ⟨g, 0, none⟩) 1 1]).run Try.prog w = .ok v' w' ∧ w'.ownsRow B 26 3 v' (n + 1) (xs ++ [.int .i64 x, .int .i64 y, .int .i64 z]) ∧ w.grownBy w' v.ownBlock := by
  obtain ⟨i0, hi, hz0, hz1, hz2⟩ := info_parts infoPoint
  obtain ⟨v', w', h1, h2, h3, _⟩ := run_append_own (w := w) B 65 ty 26 i0 (.agg (v3 0 0 0)) 3 24 (by kernel_rfl) hi hz0 hz1 hz2 rfl (by decide) v n xs hown ⟨g, 0, none⟩ 1 1 [.int .i64 x, .int .i64 y, .int .i64 z] rfl (fun j u hj => by
    match j, hj with
    | 0, hj => cases hj; exact (hb.cell 0)
    | 1, hj => cases hj; exact (hb.cell 1)
    | 2, hj => cases hj; exact (hb.cell 2)) (fun u hu => by
    simp only [List.mem_cons, List.not_mem_nil, or_false] at hu
    rcases hu with rfl | rfl | rfl <;> rfl) (by unfold maxLen; omega) (by omega) hB
  exact ⟨v', w', h1, h2, h3⟩
/-- A point is appended to the caller's own row; a row of ints of the caller's stays. -/
theorem step_ptP {w0 W : World} {vs va : Value} {n m : Nat} {xs ys : List Value} {x y z : Int} (ty : TypeId) (hI : W.ownsRow w0.heap.size 3 1 vs n xs) (hQ : W.ownsRow w0.heap.size 26 3 va m ys) (hn : m ≤ 400) (hB : Below w0.heap.size w0 W) :
    ∃ v' W', (Builtin.append_ #[65, 65] ty #[va, .slice (some ⟨W.heap.size, 0, none⟩) 1 1]).run Try.prog (W.alloc (.cells (v3 x y z) 26)) = .ok v' W' ∧ W'.ownsRow w0.heap.size 3 1 vs n xs ∧ W'.ownsRow w0.heap.size 26 3 v' (m + 1) (ys ++ [.int .i64 x, .int .i64 y, .int .i64 z]) ∧ Below w0.heap.size w0 W' := by
  have D : Gen w0 [] W := ⟨fun p hp => (by cases hp), hB⟩
  have D1 := D.push 26 (v3 x y z)
  have hI1 := hI.alloc (.cells (v3 x y z) 26)
  have hQ1 := hQ.alloc (.cells (v3 x y z) 26)
  obtain ⟨v', W', h1, h2, h3⟩ := app_ptP (W.alloc (.cells (v3 x y z) 26)) w0.heap.size ty va m ys W.heap.size x y z hQ1 (D1.blk (g := W.heap.size) (t := 26) (cs := v3 x y z) (by repeat (first | exact List.mem_cons_self | apply List.mem_cons_of_mem))) hn D1.o.size
  exact ⟨v', W', h1, hI1.kept h3 (own_apart hI1 hQ1), h2, D1.o.grown h3 D1.o.size (fun k e => (hQ1.lt k e).1)⟩
theorem cellsN_succ (n : Nat) (qs : Nat → Pt) : cellsN (n + 1) qs = cellsN n qs ++ [.int .i64 (qs n).1, .int .i64 (qs n).2.1, .int .i64 (qs n).2.2] := by
  unfold cellsN
  rw [List.range_succ, List.map_append, List.map_singleton, cellsP_snoc]
theorem spreadL_3 (A : Option Addr) (n c : Nat) (w : World)
    (hS : Hid (∀ u, Below w.heap.size w u → Calls Try.prog 60 #[.slice A n c] u fun e w' => e = .returned (.tuple #[.slice none 0 0, .int .i64 3]) ∧ Below u.heap.size u w'))
    (hK : Hid (∀ u, Below w.heap.size w u → Calls Try.prog 58 #[.slice A n c] u fun e w' => e = .returned (.tuple #[.int .i64 0, .int .i64 3]) ∧ Below u.heap.size u w')) (haw : Hid (Ans 53 #[] (.bool true))) :
    Calls Try.prog 19 #[.slice A n c] w fun e w' => e = .returned (.bool true) ∧ Below w.heap.size w w' := by
  go_enter Try.func19, Try.ntmps19
  go_upto_region 1 with fail
  have D := hide (Gen.start w)
  go_wp2_with (first | (go_at_call 60; with_reducible refine (unhide hS _ (unhide D).o).mono ?_; rintro e w' ⟨he, hb⟩; subst he; have D := hide ((unhide D).keep hb); clear hb) | (go_at_call 58; with_reducible refine (unhide hK _ (unhide D).o).mono ?_; rintro e w' ⟨he, hb⟩; subst he; have D := hide ((unhide D).keep hb); clear hb) | (go_at_call 53; with_reducible refine (unhide haw _).mono ?_; rintro e w' ⟨he, hb⟩; subst he; have D := hide ((unhide D).keep hb); clear hb))
  go_ret
  exact ⟨rfl, (unhide D).o⟩
theorem spreadL_7 (A : Option Addr) (n c : Nat) (w : World)
    (hS : Hid (∀ u, Below w.heap.size w u → Calls Try.prog 60 #[.slice A n c] u fun e w' => e = .returned (.tuple #[.slice none 0 0, .int .i64 7]) ∧ Below u.heap.size u w'))
    (hK : Hid (∀ u, Below w.heap.size w u → Calls Try.prog 58 #[.slice A n c] u fun e w' => e = .returned (.tuple #[.int .i64 0, .int .i64 7]) ∧ Below u.heap.size u w')) (haw : Hid (Ans 53 #[] (.bool true))) :
    Calls Try.prog 19 #[.slice A n c] w fun e w' => e = .returned (.bool true) ∧ Below w.heap.size w w' := by
  go_enter Try.func19, Try.ntmps19
  go_upto_region 1 with fail
  have D := hide (Gen.start w)
  go_wp2_with (first | (go_at_call 60; with_reducible refine (unhide hS _ (unhide D).o).mono ?_; rintro e w' ⟨he, hb⟩; subst he; have D := hide ((unhide D).keep hb); clear hb) | (go_at_call 58; with_reducible refine (unhide hK _ (unhide D).o).mono ?_; rintro e w' ⟨he, hb⟩; subst he; have D := hide ((unhide D).keep hb); clear hb) | (go_at_call 53; with_reducible refine (unhide haw _).mono ?_; rintro e w' ⟨he, hb⟩; subst he; have D := hide ((unhide D).keep hb); clear hb))
  go_ret
  exact ⟨rfl, (unhide D).o⟩
set_option maxHeartbeats 8000000 in
theorem spreadL_0 (A : Option Addr) (n c m : Nat) (ps : Nat → Pt) (l : List Nat) (r : Int) (w : World) (hn : n ≤ 9223372036854775807) (hm4 : m ≤ 4) (f : Nat → Nat) (hl : Hid (∀ k, l.getD k 0 = f k)) (hr : wrap64 (r + 1) = (m : Int)) (hP : Hid (PRow w A n ps))
    (hin : Hid (∀ k, k < m → f k < n)) (hup : Hid (∀ k, k + 1 < m → f k < f (k + 1)))
    (hS : Hid (∀ u, Below w.heap.size w u → Calls Try.prog 60 #[.slice A n c] u fun e w' => (∃ v, e = .returned (.tuple #[v, .int .i64 0]) ∧ w'.ownsRow u.heap.size 3 1 v m (cellsI l)) ∧ Below u.heap.size u w'))
    (hK : Hid (∀ u, Below w.heap.size w u → Calls Try.prog 58 #[.slice A n c] u fun e w' => e = .returned (.tuple #[.int .i64 r, .int .i64 0]) ∧ Below u.heap.size u w'))
    (hK2 : Hid (∀ (u : World) (k : Nat) (B : Option Addr) (cB : Nat), k < m → PRow u B (k + 1) (fun i => ps (f i)) → Calls Try.prog 58 #[.slice B (k + 1) cB] u fun e w' => e = .returned (.tuple #[.int .i64 (k : Int), .int .i64 0]) ∧ Below u.heap.size u w')) (haw : Hid (Ans 53 #[] (.bool true))) :
    Calls Try.prog 19 #[.slice A n c] w fun e w' => e = .returned (.bool true) ∧ Below w.heap.size w w' := by
  have hr' := hide hr
  clear hr
  go_enter Try.func19, Try.ntmps19
  go_upto_region 1 with fail
  have D := hide (Gen.start w)
  go_upto_region 2 with (first | (go_at_call 60; with_reducible refine (unhide hS _ (unhide D).o).mono ?_; rintro e w1 ⟨⟨v, he, hown⟩, hb⟩; subst he; have hI := hide hown; have D := hide ((unhide D).keep hb); clear hb hown))
  obtain ⟨A', c', rfl⟩ := own_int (unhide hI)
  have hI := hide (own_base (B' := w.heap.size) (unhide hI) (Nat.le_refl _))
  clear hS
  go_upto_region 3 with (first | (go_at_call 58; with_reducible refine (unhide hK _ (unhide D).o).mono ?_; rintro e w2 ⟨he, hb⟩; subst he; have hI := hide (own_below (unhide hI) hb); have D := hide ((unhide D).keep hb); clear hb))
  have hI0 := hI
  have D0 := D
  clear hI D hK
  go_upto_region 8 with fail
  go_wp2
  go_loopw [7, 8] (fun vs i wr => ∃ k : Nat, k ≤ m ∧ i = .int .i64 k ∧ Hid (wr.ownsRow w.heap.size 26 3 vs k (cellsN k (fun i => ps (f i)))) ∧ Hid (wr.ownsRow w.heap.size 3 1 (.slice A' m c') m (cellsI l)) ∧ Hid (Below w.heap.size w wr)) (fun _ i _ => m - (intOf i).toNat)
  case atStart => exact ⟨0, Nat.zero_le _, rfl, World.ownsRow_nil _ _ _ _, unhide hI0, (unhide D0).o⟩
  case round =>
    obtain ⟨k, hk, rfl, hQ, hI, hB⟩ := hrel
    clear hI0 D0
    by_cases hkm : k < m
    · obtain ⟨gI, rfl, hbI, hgI, hce⟩ := own_ints (unhide hI) (by omega)
      have hce : ∀ k, k < m → wr.cell? ⟨gI, k, none⟩ = some (.int .i64 ((f k : Nat) : Int)) := fun k h => by rw [← unhide hl k]; exact hce k h
      have hjn := hide (unhide hin k hkm)
      have e0 := hide (show decide (((f k : Nat) : Int) < 0) = false from decide_eq_false (by omega))
      have e1 := hide (show decide ((n : Int) ≤ ((f k : Nat) : Int)) = false from decide_eq_false (by have := unhide hjn; omega))
      have hce := hide hce
      go_upto_region 11 with fail
      rcases Nat.eq_zero_or_pos k with hk0 | hk0
      · have ek := hide (show decide ((0 : Int) < (k : Int)) = false from decide_eq_false (by omega))
        clear hk0
        have E := hide (Gen.start wr)
        refine region_plan (S := Gen wr []) (l := [0, 1, 2, 3, 4, 5, 6, 7, 8, 9, 10, 11, 12, 13, 14, 15, 16, 17, 18, 19, 20, 21, 22, 23, 24, 25, 26, 27, 28, 29]) (by kernel_rfl) (by kernel_rfl) (by kernel_rfl) (by kernel_rfl) (by kernel_rfl) (by kernel_rfl) (by kernel_rfl) (unhide E).drew ?_
        clear E
        refine plan_read (v := .slice (some ⟨gI, 0, none⟩) m c') rfl rfl (fun u hS => by go_simp) ?_
        try go_simp
        refine plan_read (v := .int .i64 k) rfl rfl (fun u hS => by go_simp) ?_
        try go_simp
        refine plan_read (v := .pointer (some ⟨gI, k, none⟩)) rfl rfl (fun u hS => exec_ixI u (.tmp 42) (.tmp 43) hkm rfl rfl rfl) ?_
        try go_simp
        refine plan_read (v := .int .i64 ((f k : Nat) : Int)) rfl rfl (fun u hS => exec_loadC (.tmp 44) rfl rfl ((hS.o.cell (by exact hgI)).trans (unhide hce k hkm))) ?_
        try go_simp
        refine plan_read (v := .bool false) rfl rfl (fun u hS => exec_lssN _ _ (unhide e0) rfl rfl rfl) ?_
        try go_simp
        refine plan_read (v := .bool false) rfl rfl (fun u hS => by go_simp) ?_
        try go_simp
        refine plan_read (v := .slice (some ⟨gI, 0, none⟩) m c') rfl rfl (fun u hS => by go_simp) ?_
        try go_simp
        refine plan_read (v := .int .i64 k) rfl rfl (fun u hS => by go_simp) ?_
        try go_simp
        refine plan_read (v := .pointer (some ⟨gI, k, none⟩)) rfl rfl (fun u hS => exec_ixI u (.tmp 48) (.tmp 49) hkm rfl rfl rfl) ?_
        try go_simp
        refine plan_read (v := .int .i64 ((f k : Nat) : Int)) rfl rfl (fun u hS => exec_loadC (.tmp 50) rfl rfl ((hS.o.cell (by exact hgI)).trans (unhide hce k hkm))) ?_
        try go_simp
        refine plan_read (v := .slice A n c) rfl rfl (fun u hS => by go_simp) ?_
        try go_simp
        refine plan_read (v := .int .i64 n) rfl rfl (fun u hS => by go_simp) ?_
        try go_simp
        refine plan_read (v := .bool false) rfl rfl (fun u hS => exec_geqN _ _ (unhide e1) rfl rfl rfl) ?_
        try go_simp
        refine plan_read (v := .bool false) rfl rfl (fun u hS => by go_simp) ?_
        try go_simp
        refine plan_read (v := .bool false) rfl rfl (fun u hS => by go_simp) ?_
        try go_simp
        refine plan_read (v := .int .i64 k) rfl rfl (fun u hS => by go_simp) ?_
        try go_simp
        refine plan_read (v := .bool false) rfl rfl (fun u hS => exec_gtrN _ _ (unhide ek) rfl rfl rfl) ?_
        try go_simp
        refine plan_read (v := .bool false) rfl rfl (fun u hS => by go_simp) ?_
        try go_simp
        refine plan_skip rfl rfl ?_
        try go_simp
        refine plan_skip rfl rfl ?_
        try go_simp
        refine plan_skip rfl rfl ?_
        try go_simp
        refine plan_skip rfl rfl ?_
        try go_simp
        refine plan_skip rfl rfl ?_
        try go_simp
        refine plan_skip rfl rfl ?_
        try go_simp
        refine plan_skip rfl rfl ?_
        try go_simp
        refine plan_skip rfl rfl ?_
        try go_simp
        refine plan_skip rfl rfl ?_
        try go_simp
        refine plan_skip rfl rfl ?_
        try go_simp
        refine plan_read (v := .bool false) rfl rfl (fun u hS => by go_simp) ?_
        try go_simp
        refine plan_read (v := .bool false) rfl rfl (fun u hS => by go_simp) ?_
        try go_simp
        refine plan_end (fun u2 hS => ?_)
        have hQ2 := hide (own_below (unhide hQ) hS.o)
        have hI2 := hide (own_below (unhide hI) hS.o)
        have hB2 := hide ((unhide hB).trans (hS.o.mono (unhide hB).size))
        have hce2 := hide (show u2.cell? ⟨gI, k, none⟩ = some (.int .i64 ((f k : Nat) : Int)) from (hS.o.cell (by exact hgI)).trans (unhide hce k hkm))
        clear hS hQ hI hB hce
        obtain ⟨g0, off0, rfl, hg0, hr0⟩ := (unhide hP).resolve_left (by have := unhide hjn; omega)
        have hpt := hide (at_below (hr0 _ (unhide hjn)) (unhide hB2) hg0)
        obtain ⟨v2, W4, r4, hI4, hQ4, hB4⟩ := step_ptP (x := (ps (f k)).1) (y := (ps (f k)).2.1) (z := (ps (f k)).2.2) 65 (unhide hI2) (unhide hQ2) (by omega) (unhide hB2)
        have hI4 := hide hI4
        have hQ4 : Hid (W4.ownsRow w.heap.size 26 3 v2 (k + 1) (cellsN (k + 1) (fun i => ps (f i)))) := by rw [cellsN_succ]; exact hQ4
        have hB4 := hide hB4
        clear hQ2 hI2 hB2
        have hjj := unhide hjn
        go_upto_region 13 with fail
        refine wp_region_lit ?_
        refine wpList_value (v := u7) rfl (by go_simp) ?_
        try go_simp
        refine wpList_value (v := .slice (some ⟨g0, off0, none⟩) n c) rfl (by go_simp) ?_
        try go_simp
        refine wpList_value (v := .slice (some ⟨gI, 0, none⟩) m c') rfl (by go_simp) ?_
        try go_simp
        refine wpList_value (v := .int .i64 k) rfl (by go_simp) ?_
        try go_simp
        refine wpList_value (v := .pointer (some ⟨gI, k, none⟩)) rfl (exec_ixI _ (.tmp 74) (.tmp 75) hkm rfl rfl rfl) ?_
        try go_simp
        refine wpList_value (v := .int .i64 ((f k : Nat) : Int)) rfl (exec_loadC (.tmp 76) rfl rfl (unhide hce2)) ?_
        try go_simp
        refine wpList_value (v := .pointer (some ⟨g0, off0 + f k * 3, none⟩)) rfl (exec_ixP _ elPoints (.tmp 73) (.tmp 77) hjj rfl rfl rfl) ?_
        try go_simp
        refine wpList_value (v := .agg (v3 (ps (f k)).1 (ps (f k)).2.1 (ps (f k)).2.2)) rfl (exec_ldP (.tmp 78) rfl rfl (unhide hpt)) ?_
        try go_simp
        refine wpList_turns (v := .slice (some ⟨u2.heap.size, 0, none⟩) 1 1) rfl (exec_bs1P _ (.tmp 79) rfl rfl) ?_
        try go_simp
        refine wpList_turns (v := v2) rfl (exec_append (v := u7) (y := .slice (some ⟨u2.heap.size, 0, none⟩) 1 1) 65 (.tmp 72) (.tmp 80) rfl rfl rfl r4) ?_
        try go_simp
        refine wpList_value (v := v2) rfl (by go_simp) ?_
        try go_simp
        refine wpL_end ?_
        clear r4 hpt hce2
        obtain ⟨gB, cB, rfl, hbB, hgB, hcB, hPB⟩ := own_row (unhide hQ4) (by omega)
        have hPB := hide hPB
        have D := hide (Gen.start W4)
        go_upto_region 15 with (first | (go_at_call 58; with_reducible refine (unhide hK2 _ k _ _ hkm (unhide hPB)).mono ?_; rintro e w2 ⟨he, hb⟩; subst he; have hI5 := hide (own_below (unhide hI4) hb); have hQ5 := hide (own_below (unhide hQ4) hb); have hB5 := hide ((unhide hB4).trans (hb.mono (unhide hB4).size)); clear hb))
        clear hI4 hQ4 hB4 hPB D
        go_wp2
        go_roundw
        case rel => exact ⟨k + 1, by omega, by go_num, unhide hQ5, unhide hI5, unhide hB5⟩
        case measure => simp [intOf]; omega
      · have ek := hide (show decide ((0 : Int) < (k : Int)) = true from decide_eq_true (by omega))
        have hk1 := hide (show IntKind.i64.wrap ((k : Int) - 1) = ((k - 1 : Nat) : Int) from by rw [IntKind.wrap_i64]; omega)
        have e2 := hide (show decide (((f k : Nat) : Int) ≤ ((f (k - 1) : Nat) : Int)) = false from decide_eq_false (by have := unhide hup (k - 1) (by omega); rw [show k - 1 + 1 = k by omega] at this; omega))
        have E := hide (Gen.start wr)
        refine region_plan (S := Gen wr []) (l := [0, 1, 2, 3, 4, 5, 6, 7, 8, 9, 10, 11, 12, 13, 14, 15, 16, 17, 18, 19, 20, 21, 22, 23, 24, 25, 26, 27, 28, 29]) (by kernel_rfl) (by kernel_rfl) (by kernel_rfl) (by kernel_rfl) (by kernel_rfl) (by kernel_rfl) (by kernel_rfl) (unhide E).drew ?_
        clear E
        refine plan_read (v := .slice (some ⟨gI, 0, none⟩) m c') rfl rfl (fun u hS => by go_simp) ?_
        try go_simp
        refine plan_read (v := .int .i64 k) rfl rfl (fun u hS => by go_simp) ?_
        try go_simp
        refine plan_read (v := .pointer (some ⟨gI, k, none⟩)) rfl rfl (fun u hS => exec_ixI u (.tmp 42) (.tmp 43) hkm rfl rfl rfl) ?_
        try go_simp
        refine plan_read (v := .int .i64 ((f k : Nat) : Int)) rfl rfl (fun u hS => exec_loadC (.tmp 44) rfl rfl ((hS.o.cell (by exact hgI)).trans (unhide hce k hkm))) ?_
        try go_simp
        refine plan_read (v := .bool false) rfl rfl (fun u hS => exec_lssN _ _ (unhide e0) rfl rfl rfl) ?_
        try go_simp
        refine plan_read (v := .bool false) rfl rfl (fun u hS => by go_simp) ?_
        try go_simp
        refine plan_read (v := .slice (some ⟨gI, 0, none⟩) m c') rfl rfl (fun u hS => by go_simp) ?_
        try go_simp
        refine plan_read (v := .int .i64 k) rfl rfl (fun u hS => by go_simp) ?_
        try go_simp
        refine plan_read (v := .pointer (some ⟨gI, k, none⟩)) rfl rfl (fun u hS => exec_ixI u (.tmp 48) (.tmp 49) hkm rfl rfl rfl) ?_
        try go_simp
        refine plan_read (v := .int .i64 ((f k : Nat) : Int)) rfl rfl (fun u hS => exec_loadC (.tmp 50) rfl rfl ((hS.o.cell (by exact hgI)).trans (unhide hce k hkm))) ?_
        try go_simp
        refine plan_read (v := .slice A n c) rfl rfl (fun u hS => by go_simp) ?_
        try go_simp
        refine plan_read (v := .int .i64 n) rfl rfl (fun u hS => by go_simp) ?_
        try go_simp
        refine plan_read (v := .bool false) rfl rfl (fun u hS => exec_geqN _ _ (unhide e1) rfl rfl rfl) ?_
        try go_simp
        refine plan_read (v := .bool false) rfl rfl (fun u hS => by go_simp) ?_
        try go_simp
        refine plan_read (v := .bool false) rfl rfl (fun u hS => by go_simp) ?_
        try go_simp
        refine plan_read (v := .int .i64 k) rfl rfl (fun u hS => by go_simp) ?_
        try go_simp
        refine plan_read (v := .bool true) rfl rfl (fun u hS => exec_gtrN _ _ (unhide ek) rfl rfl rfl) ?_
        try go_simp
        refine plan_read (v := .bool true) rfl rfl (fun u hS => by go_simp) ?_
        try go_simp
        refine plan_read (v := .slice (some ⟨gI, 0, none⟩) m c') rfl rfl (fun u hS => by go_simp) ?_
        try go_simp
        refine plan_read (v := .int .i64 k) rfl rfl (fun u hS => by go_simp) ?_
        try go_simp
        refine plan_read (v := .int .i64 ((k - 1 : Nat) : Int)) rfl rfl (fun u hS => by go_simp; exact unhide hk1) ?_
        try go_simp
        refine plan_read (v := .pointer (some ⟨gI, k - 1, none⟩)) rfl rfl (fun u hS => exec_ixI u (.tmp 60) (.tmp 62) (show k - 1 < m by omega) rfl rfl rfl) ?_
        try go_simp
        refine plan_read (v := .int .i64 ((f (k - 1) : Nat) : Int)) rfl rfl (fun u hS => exec_loadC (.tmp 63) rfl rfl ((hS.o.cell (by exact hgI)).trans (unhide hce (k - 1) (by omega)))) ?_
        try go_simp
        refine plan_read (v := .slice (some ⟨gI, 0, none⟩) m c') rfl rfl (fun u hS => by go_simp) ?_
        try go_simp
        refine plan_read (v := .int .i64 k) rfl rfl (fun u hS => by go_simp) ?_
        try go_simp
        refine plan_read (v := .pointer (some ⟨gI, k, none⟩)) rfl rfl (fun u hS => exec_ixI u (.tmp 65) (.tmp 66) hkm rfl rfl rfl) ?_
        try go_simp
        refine plan_read (v := .int .i64 ((f k : Nat) : Int)) rfl rfl (fun u hS => exec_loadC (.tmp 67) rfl rfl ((hS.o.cell (by exact hgI)).trans (unhide hce k hkm))) ?_
        try go_simp
        refine plan_read (v := .bool false) rfl rfl (fun u hS => exec_geqN _ _ (unhide e2) rfl rfl rfl) ?_
        try go_simp
        refine plan_read (v := .bool false) rfl rfl (fun u hS => by go_simp) ?_
        try go_simp
        refine plan_read (v := .bool false) rfl rfl (fun u hS => by go_simp) ?_
        try go_simp
        refine plan_end (fun u2 hS => ?_)
        have hQ2 := hide (own_below (unhide hQ) hS.o)
        have hI2 := hide (own_below (unhide hI) hS.o)
        have hB2 := hide ((unhide hB).trans (hS.o.mono (unhide hB).size))
        have hce2 := hide (show u2.cell? ⟨gI, k, none⟩ = some (.int .i64 ((f k : Nat) : Int)) from (hS.o.cell (by exact hgI)).trans (unhide hce k hkm))
        clear hS hQ hI hB hce
        obtain ⟨g0, off0, rfl, hg0, hr0⟩ := (unhide hP).resolve_left (by have := unhide hjn; omega)
        have hpt := hide (at_below (hr0 _ (unhide hjn)) (unhide hB2) hg0)
        obtain ⟨v2, W4, r4, hI4, hQ4, hB4⟩ := step_ptP (x := (ps (f k)).1) (y := (ps (f k)).2.1) (z := (ps (f k)).2.2) 65 (unhide hI2) (unhide hQ2) (by omega) (unhide hB2)
        have hI4 := hide hI4
        have hQ4 : Hid (W4.ownsRow w.heap.size 26 3 v2 (k + 1) (cellsN (k + 1) (fun i => ps (f i)))) := by rw [cellsN_succ]; exact hQ4
        have hB4 := hide hB4
        clear hQ2 hI2 hB2
        have hjj := unhide hjn
        go_upto_region 13 with fail
        refine wp_region_lit ?_
        refine wpList_value (v := u7) rfl (by go_simp) ?_
        try go_simp
        refine wpList_value (v := .slice (some ⟨g0, off0, none⟩) n c) rfl (by go_simp) ?_
        try go_simp
        refine wpList_value (v := .slice (some ⟨gI, 0, none⟩) m c') rfl (by go_simp) ?_
        try go_simp
        refine wpList_value (v := .int .i64 k) rfl (by go_simp) ?_
        try go_simp
        refine wpList_value (v := .pointer (some ⟨gI, k, none⟩)) rfl (exec_ixI _ (.tmp 74) (.tmp 75) hkm rfl rfl rfl) ?_
        try go_simp
        refine wpList_value (v := .int .i64 ((f k : Nat) : Int)) rfl (exec_loadC (.tmp 76) rfl rfl (unhide hce2)) ?_
        try go_simp
        refine wpList_value (v := .pointer (some ⟨g0, off0 + f k * 3, none⟩)) rfl (exec_ixP _ elPoints (.tmp 73) (.tmp 77) hjj rfl rfl rfl) ?_
        try go_simp
        refine wpList_value (v := .agg (v3 (ps (f k)).1 (ps (f k)).2.1 (ps (f k)).2.2)) rfl (exec_ldP (.tmp 78) rfl rfl (unhide hpt)) ?_
        try go_simp
        refine wpList_turns (v := .slice (some ⟨u2.heap.size, 0, none⟩) 1 1) rfl (exec_bs1P _ (.tmp 79) rfl rfl) ?_
        try go_simp
        refine wpList_turns (v := v2) rfl (exec_append (v := u7) (y := .slice (some ⟨u2.heap.size, 0, none⟩) 1 1) 65 (.tmp 72) (.tmp 80) rfl rfl rfl r4) ?_
        try go_simp
        refine wpList_value (v := v2) rfl (by go_simp) ?_
        try go_simp
        refine wpL_end ?_
        clear r4 hpt hce2
        obtain ⟨gB, cB, rfl, hbB, hgB, hcB, hPB⟩ := own_row (unhide hQ4) (by omega)
        have hPB := hide hPB
        have D := hide (Gen.start W4)
        go_upto_region 15 with (first | (go_at_call 58; with_reducible refine (unhide hK2 _ k _ _ hkm (unhide hPB)).mono ?_; rintro e w2 ⟨he, hb⟩; subst he; have hI5 := hide (own_below (unhide hI4) hb); have hQ5 := hide (own_below (unhide hQ4) hb); have hB5 := hide ((unhide hB4).trans (hb.mono (unhide hB4).size)); clear hb))
        clear hI4 hQ4 hB4 hPB D
        go_wp2
        go_roundw
        case rel => exact ⟨k + 1, by omega, by go_num, unhide hQ5, unhide hI5, unhide hB5⟩
        case measure => simp [intOf]; omega
    · obtain rfl : k = m := by omega
      have D := hide (Gen.start wr)
      go_upto_region 17 with fail
      go_wp2_with (first | (with_reducible refine at_list ?_;  refine eqlZ _ _ (show (((k : Nat) : Int) == wrap64 (r + 1)) = true from by rw [unhide hr']; exact beq_self_eq_true _) rfl rfl rfl rfl ?_) | (go_at_call 53; with_reducible refine (unhide haw _).mono ?_; rintro e w' ⟨he, hb⟩; subst he; have D := hide ((unhide D).keep hb); clear hb))
      go_ret
      exact ⟨rfl, (unhide hB).trans ((unhide D).o.mono (unhide hB).size)⟩

theorem orientSpread_all (A : Option Addr) (n c : Nat) (ps : Nat → Pt) (w : World) (hn : n ≤ 9223372036854775807) (hP : PRow w A n ps) : Calls Try.prog 19 #[.slice A n c] w fun e w' => e = .returned (.bool true) ∧ Below w.heap.size w w' := by
  have hK := fun u (hu : Below w.heap.size w u) => RankO A n c ps u hn (hP.below hu)
  rcases spE_cases n ps with h | h | h
  · have hm4 := spS_len ps n
    refine spreadL_0 A n c (spS ps n).length ps (spS ps n) (rkI n ps) w hn hm4 (fun k => (spS ps n).getD k 0) (fun _ => rfl) ?_ hP (fun k hk => spS_in ps n k hk) (fun k hk => spS_rise ps n k hk) (fun u hu => SpreadYes A n c ps u hn (hP.below hu) h) (fun u hu => ?_) (fun u k B cB hk hPB => ?_) awake7Z
    · unfold rkI
      rw [if_pos h, wrap_self ⟨by omega, by omega⟩]
      omega
    · have := hK u hu
      rw [h] at this
      exact this
    · have := RankO B (k + 1) cB (spP ps n) u (by omega) hPB
      rw [rkI_again h hk, spE_again h hk] at this
      exact this
  · refine spreadL_3 A n c w (fun u hu => ?_) (fun u hu => ?_) awake7Z
    · have := SpreadNo A n c ps u hn (hP.below hu) (by rw [h]; decide)
      rw [h] at this
      exact this
    · have := hK u hu
      rw [h, show rkI n ps = 0 from if_neg (by rw [h]; decide)] at this
      exact this
  · refine spreadL_7 A n c w (fun u hu => ?_) (fun u hu => ?_) awake7Z
    · have := SpreadNo A n c ps u hn (hP.below hu) (by rw [h]; decide)
      rw [h] at this
      exact this
    · have := hK u hu
      rw [h, show rkI n ps = 0 from if_neg (by rw [h]; decide)] at this
      exact this

end Go.Proofs.Ytnknejdmoghmiaa
