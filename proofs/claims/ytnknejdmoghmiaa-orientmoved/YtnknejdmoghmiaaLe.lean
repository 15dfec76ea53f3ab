/- Package orient: Volume; the law OrientParts. The spread of the spread. The law OrientSpread. Points that are all moved alike: numbers. What the laws of orient call themselves: small, moved, same. The law OrientMoved. -/
import Derived.Test.YtnknejdmoghmiaaHo
import Derived.Laws.Cover1
namespace Go.Proofs.Ytnknejdmoghmiaa
open Go.RowKit
set_option maxRecDepth 4000
set_option linter.unusedVariables false

theorem volF_7 (A : Option Addr) (n c : Nat) (w : World)
    (hR : Hid (∀ u, Below w.heap.size w u → Calls Try.prog 105 #[.int .i64 8, .func (Fn.func 110) #[] #[], .slice A n c] u fun x w' => x = .returned (.int .i64 7) ∧ Below u.heap.size u w')) :
    Calls Try.prog 56 #[.slice A n c] w fun e w' => e = .returned (.tuple #[.agg (cells8 0), .int .i64 7]) ∧ Below w.heap.size w w' := by
  go_enter Try.func56, Try.ntmps56
  go_upto_region 1 with fail
  have D := hide ((Gen.start w).push 40 z8)
  go_wp2_with (first | (go_at_call 105; with_reducible refine (unhide hR _ (unhide D).o).mono ?_; rintro e w' ⟨he, hb⟩; subst he; have D := hide ((unhide D).keep hb); clear hb) | (with_reducible refine at_list ?_;  refine wpList_value rfl (exec_build0 _ 40 rfl bWide0) ?_) | (with_reducible refine at_list ?_; apply stGend (unhide D) rWide _ _ rfl rfl rfl rfl (by repeat (first | exact List.mem_cons_self | apply List.mem_cons_of_mem)) (by omega) rfl rfl (cells8_one _); intro B O))
  exact resGT rWide (unhide B) rfl rfl rfl rfl rfl ⟨rfl, unhide O⟩
theorem volF_8 (A : Option Addr) (n c : Nat) (w : World)
    (hR : Hid (∀ u, Below w.heap.size w u → Calls Try.prog 105 #[.int .i64 8, .func (Fn.func 110) #[] #[], .slice A n c] u fun x w' => x = .returned (.int .i64 8) ∧ Below u.heap.size u w')) :
    Calls Try.prog 56 #[.slice A n c] w fun e w' => e = .returned (.tuple #[.agg (cells8 0), .int .i64 8]) ∧ Below w.heap.size w w' := by
  go_enter Try.func56, Try.ntmps56
  go_upto_region 1 with fail
  have D := hide ((Gen.start w).push 40 z8)
  go_wp2_with (first | (go_at_call 105; with_reducible refine (unhide hR _ (unhide D).o).mono ?_; rintro e w' ⟨he, hb⟩; subst he; have D := hide ((unhide D).keep hb); clear hb) | (with_reducible refine at_list ?_;  refine wpList_value rfl (exec_build0 _ 40 rfl bWide0) ?_) | (with_reducible refine at_list ?_; apply stGend (unhide D) rWide _ _ rfl rfl rfl rfl (by repeat (first | exact List.mem_cons_self | apply List.mem_cons_of_mem)) (by omega) rfl rfl (cells8_one _); intro B O))
  exact resGT rWide (unhide B) rfl rfl rfl rfl rfl ⟨rfl, unhide O⟩
set_option maxHeartbeats 2000000 in
theorem volF_0 (g off c : Nat) (q0 q1 q2 q3 : Pt) (v : Nat) (w : World) (hg : g < w.heap.size)
    (r0 : Hid (w.rangeAt g (off + 0 * 3) (v3 q0.1 q0.2.1 q0.2.2).toList)) (r1 : Hid (w.rangeAt g (off + 1 * 3) (v3 q1.1 q1.2.1 q1.2.2).toList)) (r2 : Hid (w.rangeAt g (off + 2 * 3) (v3 q2.1 q2.2.1 q2.2.2).toList)) (r3 : Hid (w.rangeAt g (off + 3 * 3) (v3 q3.1 q3.2.1 q3.2.2).toList))
    (hR : Hid (∀ u, Below w.heap.size w u → Calls Try.prog 105 #[.int .i64 8, .func (Fn.func 110) #[] #[], .slice (some ⟨g, off, none⟩) 4 c] u fun x w' => x = .returned (.int .i64 0) ∧ Below u.heap.size u w'))
    (hV : Hid (Ans 107 #[.agg (v3 q0.1 q0.2.1 q0.2.2), .agg (v3 q1.1 q1.2.1 q1.2.2), .agg (v3 q2.1 q2.2.1 q2.2.2), .agg (v3 q3.1 q3.2.1 q3.2.2)] (.agg (cells8 v)))) :
    Calls Try.prog 56 #[.slice (some ⟨g, off, none⟩) 4 c] w fun e w' => e = .returned (.tuple #[.agg (cells8 v), .int .i64 0]) ∧ Below w.heap.size w w' := by
  go_enter Try.func56, Try.ntmps56
  go_upto_region 1 with fail
  have D := hide ((Gen.start w).push 40 z8)
  go_upto_region 4 with (first | (go_at_call 105; with_reducible refine (unhide hR _ (unhide D).o).mono ?_; rintro e w' ⟨he, hb⟩; subst he; have D := hide ((unhide D).keep hb); clear hb))
  have D1 : Hid (Gen w [(w.heap.size, 40, bif false then cells8 v else z8)] w') := unhide D
  clear D hR
  refine region_planT (t := 13) (S := fun b u => Gen w [(w.heap.size, 40, bif b then cells8 v else z8)] u) (l := [0, 1, 2, 3, 4, 5, 6, 7, 8, 9, 10, 11, 12, 13, 14]) (by kernel_rfl) (by kernel_rfl) (by kernel_rfl) (by kernel_rfl) (by kernel_rfl) (by kernel_rfl) (by kernel_rfl) (by decide) (unhide D1).drew ?_
  clear D1
  refine planT_read (v := .slice (some ⟨g, off, none⟩) 4 c) rfl (by decide) rfl (fun b u hS => by go_simp) ?_
  go_simp
  refine planT_read (v := .pointer (some ⟨g, off + 0 * 3, none⟩)) rfl (by decide) rfl (fun b u hS => exec_ixP (g := g) (off := off) (n := 4) (c := c) (i := 0) u elPoints _ _ (by decide) rfl rfl rfl) ?_
  go_simp
  refine planT_read (v := .agg (v3 q0.1 q0.2.1 q0.2.2)) rfl (by decide) rfl (fun b u hS => exec_ldP (g := g) (k := off + 0 * 3) _ rfl rfl (at_below (unhide r0) hS.o hg)) ?_
  go_simp
  refine planT_read (v := .slice (some ⟨g, off, none⟩) 4 c) rfl (by decide) rfl (fun b u hS => by go_simp) ?_
  go_simp
  refine planT_read (v := .pointer (some ⟨g, off + 1 * 3, none⟩)) rfl (by decide) rfl (fun b u hS => exec_ixP (g := g) (off := off) (n := 4) (c := c) (i := 1) u elPoints _ _ (by decide) rfl rfl rfl) ?_
  go_simp
  refine planT_read (v := .agg (v3 q1.1 q1.2.1 q1.2.2)) rfl (by decide) rfl (fun b u hS => exec_ldP (g := g) (k := off + 1 * 3) _ rfl rfl (at_below (unhide r1) hS.o hg)) ?_
  go_simp
  refine planT_read (v := .slice (some ⟨g, off, none⟩) 4 c) rfl (by decide) rfl (fun b u hS => by go_simp) ?_
  go_simp
  refine planT_read (v := .pointer (some ⟨g, off + 2 * 3, none⟩)) rfl (by decide) rfl (fun b u hS => exec_ixP (g := g) (off := off) (n := 4) (c := c) (i := 2) u elPoints _ _ (by decide) rfl rfl rfl) ?_
  go_simp
  refine planT_read (v := .agg (v3 q2.1 q2.2.1 q2.2.2)) rfl (by decide) rfl (fun b u hS => exec_ldP (g := g) (k := off + 2 * 3) _ rfl rfl (at_below (unhide r2) hS.o hg)) ?_
  go_simp
  refine planT_read (v := .slice (some ⟨g, off, none⟩) 4 c) rfl (by decide) rfl (fun b u hS => by go_simp) ?_
  go_simp
  refine planT_read (v := .pointer (some ⟨g, off + 3 * 3, none⟩)) rfl (by decide) rfl (fun b u hS => exec_ixP (g := g) (off := off) (n := 4) (c := c) (i := 3) u elPoints _ _ (by decide) rfl rfl rfl) ?_
  go_simp
  refine planT_read (v := .agg (v3 q3.1 q3.2.1 q3.2.2)) rfl (by decide) rfl (fun b u hS => exec_ldP (g := g) (k := off + 3 * 3) _ rfl rfl (at_below (unhide r3) hS.o hg)) ?_
  go_simp
  refine planT_keep (v := .agg (cells8 v)) (f := 107) (args := #[.agg (v3 q0.1 q0.2.1 q0.2.2), .agg (v3 q1.1 q1.2.1 q1.2.2), .agg (v3 q2.1 q2.2.1 q2.2.2), .agg (v3 q3.1 q3.2.1 q3.2.2)]) rfl (by decide) rfl (fun b u hS => by go_simp) (fun b u hS => (unhide hV u).mono fun _ _ ⟨he, hb⟩ => ⟨he, hS.keep hb⟩) ?_
  go_simp
  refine planT_store rfl rfl (fun u hS => ⟨_, exec_store8 (n := v) 40 (.tmp 2) (.tmp 23) (hS.blk (g := w.heap.size) (t := 40) (cs := z8) (by repeat (first | exact List.mem_cons_self | apply List.mem_cons_of_mem))) rfl rfl rfl rfl iWide, ⟨fun k hk => ?_, below_row hS.o (Nat.le_refl _) _⟩⟩) ?_
  · simp only [List.mem_cons, List.not_mem_nil, or_false] at hk
    rcases hk with rfl
    exact (hS.blk (g := w.heap.size) (t := 40) (cs := z8) (by repeat (first | exact List.mem_cons_self | apply List.mem_cons_of_mem))).row _
  go_simp
  refine planT_read (v := ?_) rfl (by decide) rfl (fun b u hS => by go_simp; rfl) ?_
  go_simp
  refine planT_end (fun u hS => ?_)
  have B := hide (hS.blk (g := w.heap.size) (t := 40) (cs := cells8 v) (by repeat (first | exact List.mem_cons_self | apply List.mem_cons_of_mem)))
  have O := hide hS.o
  clear hS
  go_wp2
  exact resGT rWide (unhide B) rfl rfl rfl rfl rfl ⟨rfl, unhide O⟩
/-- Volume. -/
def vlE (n : Nat) (ps : Nat → Pt) : Int := bif allQ n ps then (bif (n : Int) == 4 then 0 else 8) else 7
def vlI (n : Nat) (ps : Nat → Pt) : Int := if vlE n ps = 0 then volP (ps 0) (ps 1) (ps 2) (ps 3) else 0
theorem vlE_cases (n : Nat) (ps : Nat → Pt) : (vlE n ps = 0 ∧ allQ n ps = true ∧ n = 4) ∨ vlE n ps = 7 ∨ vlE n ps = 8 := by
  unfold vlE
  cases allQ n ps
  · exact .inr (.inl rfl)
  · cases h : ((n : Int) == 4)
    · exact .inr (.inr rfl)
    · exact .inl ⟨rfl, rfl, by have := of_decide_eq_true h; omega⟩
theorem VolumeO (A : Option Addr) (n c : Nat) (ps : Nat → Pt) (w : World) (hn : n ≤ 9223372036854775807) (hP : PRow w A n ps) :
    Calls Try.prog 56 #[.slice A n c] w fun e w' => e = .returned (.tuple #[V (vlI n ps), .int .i64 (vlE n ps)]) ∧ Below w.heap.size w w' := by
  have hR := fun (E : Int) (hE : vlE n ps = E) u (hu : Below w.heap.size w u) => by
    have := RefFour 8 A n c ps u hn (hP.below hu)
    rw [show (bif allQ n ps then (bif (n : Int) == 4 then 0 else 8) else 7) = E from hE] at this
    exact this
  unfold vlI
  rcases vlE_cases n ps with ⟨h, ha, rfl⟩ | h | h
  · rw [h, if_pos rfl]
    obtain ⟨g, off, rfl, hg, hr⟩ := hP.resolve_left (by decide)
    have hq := allQ_iff.1 ha
    exact volF_0 g off c (ps 0) (ps 1) (ps 2) (ps 3) _ w hg (hr 0 (by decide)) (hr 1 (by decide)) (hr 2 (by decide)) (hr 3 (by decide)) (hR 0 h) (VolO _ _ _ _ _ _ _ _ _ _ _ _ (hq 0 (by decide)) (hq 1 (by decide)) (hq 2 (by decide)) (hq 3 (by decide)))
  · rw [h, if_neg (by decide)]
    exact volF_7 A n c w (hR 7 h)
  · rw [h, if_neg (by decide)]
    exact volF_8 A n c w (hR 8 h)

end Go.Proofs.Ytnknejdmoghmiaa

namespace Go.Proofs.Ytnknejdmoghmiaa
open Go.RowKit
set_option maxRecDepth 4000
set_option linter.unusedVariables false

theorem getD_left {l : List Nat} {i k : Nat} (h : i < l.length) : (l ++ [k]).getD i 0 = l.getD i 0 := by simp [List.getD, List.getElem?_append_left h]
theorem getD_end (l : List Nat) (k : Nat) : (l ++ [k]).getD l.length 0 = k := by simp [List.getD]
/-- Each place that was taken raised the rank. -/
theorem spS_up (ps : Nat → Pt) : ∀ n k, k < (spS ps n).length → sg k (fun i => ps ((spS ps n).getD i 0)) (ps ((spS ps n).getD k 0)) ≠ (0, 0, 0)
  | 0, k, h => by cases h
  | n + 1, k, h => by
    have ih := spS_up ps n
    by_cases h0 : sg (spS ps n).length (fun i => ps ((spS ps n).getD i 0)) (ps n) = (0, 0, 0)
    · have e : spS ps (n + 1) = spS ps n := if_pos h0
      rw [e] at h ⊢
      exact ih k h
    · have e : spS ps (n + 1) = spS ps n ++ [n] := if_neg h0
      rw [e] at h ⊢
      rw [List.length_append, List.length_singleton] at h
      rcases Nat.lt_succ_iff_lt_or_eq.1 h with hk | rfl
      · rw [getD_left hk, sg_congr (t' := fun i => ps ((spS ps n).getD i 0)) (fun i hi => by rw [getD_left (by omega)])]
        exact ih k hk
      · rw [getD_end, sg_congr (t' := fun i => ps ((spS ps n).getD i 0)) (fun i hi => by rw [getD_left hi])]
        exact h0
theorem spS_rise (ps : Nat → Pt) : ∀ n k, k + 1 < (spS ps n).length → (spS ps n).getD k 0 < (spS ps n).getD (k + 1) 0
  | 0, k, h => by cases h
  | n + 1, k, h => by
    have ih := spS_rise ps n
    by_cases h0 : sg (spS ps n).length (fun i => ps ((spS ps n).getD i 0)) (ps n) = (0, 0, 0)
    · have e : spS ps (n + 1) = spS ps n := if_pos h0
      rw [e] at h ⊢
      exact ih k h
    · have e : spS ps (n + 1) = spS ps n ++ [n] := if_neg h0
      rw [e] at h ⊢
      rw [List.length_append, List.length_singleton] at h
      rcases Nat.lt_succ_iff_lt_or_eq.1 h with hk | hk
      · rw [getD_left (by omega), getD_left hk]
        exact ih k hk
      · rw [hk, getD_end, getD_left (by omega)]
        have hk' : k < (spS ps n).length := by omega
        have : (spS ps n).getD k 0 = (spS ps n)[k] := by simp [List.getD, hk']
        rw [this]
        exact spS_lt ps n _ (List.getElem_mem hk')
theorem spS_in (ps : Nat → Pt) (n k : Nat) (h : k < (spS ps n).length) : (spS ps n).getD k 0 < n := by
  have : (spS ps n).getD k 0 = (spS ps n)[k] := by simp [List.getD, h]
  rw [this]
  exact spS_lt ps n _ (List.getElem_mem h)
/-- The points of the spread. -/
def spP (ps : Nat → Pt) (n : Nat) : Nat → Pt := fun i => ps ((spS ps n).getD i 0)
theorem spS_again (ps : Nat → Pt) (n : Nat) : ∀ k, k ≤ (spS ps n).length → spS (spP ps n) k = List.range k
  | 0, _ => rfl
  | k + 1, h => by
    have ih := spS_again ps n k (by omega)
    have h0 : sg (spS (spP ps n) k).length (fun i => spP ps n ((spS (spP ps n) k).getD i 0)) (spP ps n k) ≠ (0, 0, 0) := by
      rw [ih, List.length_range, sg_congr (t' := fun i => ps ((spS ps n).getD i 0)) (fun i hi => by rw [show (List.range k).getD i 0 = i by simp [List.getD, hi]]; rfl)]
      exact spS_up ps n k h
    have e : spS (spP ps n) (k + 1) = spS (spP ps n) k ++ [k] := if_neg h0
    rw [e, ih, List.range_succ]
theorem spE_again {ps : Nat → Pt} {n k : Nat} (h : spE n ps = 0) (hk : k ≤ (spS ps n).length) : spE k (spP ps n) = 0 := by
  have ha := allQ_iff.1 (spE_all h)
  have h4 := spS_len ps n
  have hq : allQ k (spP ps n) = true := allQ_iff.2 fun i hi => ha _ (spS_in ps n i (by omega))
  unfold spE
  rw [hq, show decide ((k : Int) ≤ 256) = true from decide_eq_true (by omega)]
  rfl
theorem rkI_again {ps : Nat → Pt} {n k : Nat} (h : spE n ps = 0) (hk : k + 1 ≤ (spS ps n).length) : rkI (k + 1) (spP ps n) = (k : Int) := by
  unfold rkI
  rw [if_pos (spE_again h hk), spS_again ps n (k + 1) hk, List.length_range]
  omega

end Go.Proofs.Ytnknejdmoghmiaa

namespace Go.Proofs.Ytnknejdmoghmiaa
open Go.RowKit
set_option maxRecDepth 4000
set_option linter.unusedVariables false

theorem szInt : (Try.prog.info? 3).map (·.size) = some 1 := by kernel_rfl
theorem elInts : Try.prog.underlying 72 = some (.slice (Try.prog.elem 72)) ∧ Try.prog.elem 72 = 3 := ⟨by kernel_rfl, by kernel_rfl⟩
theorem exec_ixI {o : Oper} {a : Act} (w : World) {g n c i : Nat} (x y : Operand) (hi : i < n) (ho : o.op = .indexAddr 72 x y) (hx : a.eval x = .slice (some ⟨g, 0, none⟩) n c) (hy : a.eval y = .int .i64 (i : Int)) :
    (execOp a.eval o).run Try.prog w = .ok (.value (.pointer (some ⟨g, i, none⟩))) w := by
  unfold execOp
  simp only [ho, hx, hy, Sem.run_bind, run_indexAt_slice w 72 _ _ _ _ _ elInts.1]
  rw [if_pos ⟨by omega, by omega⟩, elInts.2, run_sizeOf' szInt]
  simp only [Result.andThen_ok, Sem.run_pure, Addr.add_mid, Int.toNat_natCast, Nat.zero_add, Nat.mul_one]
theorem exec_loadC {o : Oper} {a : Act} {w : World} {g i : Nat} {z : Int} (x : Operand) (ho : o.op = .load 3 x) (hx : a.eval x = .pointer (some ⟨g, i, none⟩)) (hcc : w.cell? ⟨g, i, none⟩ = some (.int .i64 z)) :
    (execOp a.eval o).run Try.prog w = .ok (.value (.int .i64 z)) w := by
  unfold execOp
  simp only [ho, hx]
  go_simp
theorem exec_geqN {o : Oper} {a : Act} {w : World} (p q : Operand) {x y : Int} {k : IntKind} {ty ty' : TypeId} {b : Bool} (hb : decide (y ≤ x) = b) (ho : o.op = .binOp .geq ty p q ty') (hx : a.eval p = .int k x) (hy : a.eval q = .int k y) : (execOp a.eval o).run Try.prog w = .ok (.value (.bool b)) w := by
  subst hb
  unfold execOp
  simp only [ho, hx, hy]
  go_simp
theorem exec_gtrN {o : Oper} {a : Act} {w : World} (p q : Operand) {x y : Int} {k : IntKind} {ty ty' : TypeId} {b : Bool} (hb : decide (y < x) = b) (ho : o.op = .binOp .gtr ty p q ty') (hx : a.eval p = .int k x) (hy : a.eval q = .int k y) : (execOp a.eval o).run Try.prog w = .ok (.value (.bool b)) w := by
  subst hb
  unfold execOp
  simp only [ho, hx, hy]
  go_simp
theorem wpL_end {P : Program} {ops : Array Oper} {Q : Exit → Act → World → Prop} {a : Act} {w : World} (h : Q .normal a w) : wpList P ops Q [] a w := h
theorem own_ints {w : World} {B m c : Nat} {A : Option Addr} {l : List Nat} (h : w.ownsRow B 3 1 (.slice A m c) m (cellsI l)) (hm : 0 < m) : ∃ g, A = some ⟨g, 0, none⟩ ∧ B ≤ g ∧ g < w.heap.size ∧ ∀ k, k < m → w.cell? ⟨g, k, none⟩ = some (.int .i64 ((l.getD k 0 : Nat) : Int)) := by
  rcases h.2 with ⟨_, h0⟩ | ⟨g, cap, cur, hv, hb, hg, _⟩
  · omega
  · injection hv with e1 e2 e3
    subst e1 e3
    refine ⟨g, rfl, hb, (Array.getElem?_eq_some_iff.1 hg).1, fun k hk => ?_⟩
    rw [h.cellAt k (by omega)]
    have hl : l.length = m := by
      have := h.1
      simpa [cellsI] using this
    unfold cellsI
    rw [List.getElem?_map, List.getElem?_eq_getElem (by omega)]
    simp [List.getD, show k < l.length by omega]
theorem bs1P (x y z : Int) (w : World) : (Instr.buildSlice 65 1 #[(0, .agg (v3 x y z))]).run Try.prog w = .ok (.slice (some ⟨w.heap.size, 0, none⟩) 1 1) (w.alloc (.cells (v3 x y z) 26)) := by kernel_rfl
theorem exec_bs1P {o : Oper} {ac : Act} (w : World) (p : Operand) {x y z : Int} (ho : o.op = .buildSlice 65 1 #[(0, p)]) (hp : ac.eval p = .agg (v3 x y z)) :
    (execOp ac.eval o).run Try.prog w = .ok (.value (.slice (some ⟨w.heap.size, 0, none⟩) 1 1)) (w.alloc (.cells (v3 x y z) 26)) := by
  unfold execOp
  have e : (#[(0, p)].map fun (i, x) => (i, ac.eval x)) = #[(0, .agg (v3 x y z))] := by simp [hp]
  simp only [ho, Sem.run_bind, e, bs1P, Result.andThen_ok, Sem.run_pure]
theorem app_ptP (w : World) (B : Nat) (ty : TypeId) (v : Value) (n : Nat) (xs : List Value) (g : Nat) (x y z : Int) (hown : w.ownsRow B 26 3 v n xs) (hb : Blk w g 26 (v3 x y z)) (hn : n ≤ 400) (hB : B ≤ w.heap.size) :
    ∃ v' w', (Builtin.append_ #[65, 65] ty #[v, .slice (some ⟨g, 0, none⟩) 1 1]).run Try.prog w = .ok v' w' ∧ w'.ownsRow B 26 3 v' (n + 1) (xs ++ [.int .i64 x, .int .i64 y, .int .i64 z]) ∧ w.grownBy w' v.ownBlock := by
  obtain ⟨i0, hi, hz0, hz1, hz2⟩ := info_parts infoPoint
  obtain ⟨v', w', h1, h2, h3, _⟩ := run_append_own (w := w) B 65 ty 26 i0 (.agg (v3 0 0 0)) 3 24 (by kernel_rfl) hi hz0 hz1 hz2 rfl (by decide) v n xs hown ⟨g, 0, none⟩ 1 1 [.int .i64 x, .int .i64 y, .int .i64 z] rfl (fun j u hj => by
    match j, hj with
    | 0, hj => cases hj; exact (hb.cell 0)
    | 1, hj => cases hj; exact (hb.cell 1)
    | 2, hj => cases hj; exact (hb.cell 2)) (fun u hu => by
    simp only [List.mem_cons, List.not_mem_nil, or_false] at hu
    rcases hu with rfl | rfl | rfl <;> rfl) (by unfold maxLen; omega) (by omega) hB
  exact ⟨v', w', h1, h2, h3⟩
/-- A point is appended to the caller's own row; a row of ints of the caller's stays. -/
theorem step_ptP {w0 W : World} {vs va : Value} {n m : Nat} {xs ys : List Value} {x y z : Int} (ty : TypeId) (hI : W.ownsRow w0.heap.size 3 1 vs n xs) (hQ : W.ownsRow w0.heap.size 26 3 va m ys) (hn : m ≤ 400) (hB : Below w0.heap.size w0 W) :
    ∃ v' W', (Builtin.append_ #[65, 65] ty #[va, .slice (some ⟨W.heap.size, 0, none⟩) 1 1]).run Try.prog (W.alloc (.cells (v3 x y z) 26)) = .ok v' W' ∧ W'.ownsRow w0.heap.size 3 1 vs n xs ∧ W'.ownsRow w0.heap.size 26 3 v' (m + 1) (ys ++ [.int .i64 x, .int .i64 y, .int .i64 z]) ∧ Below w0.heap.size w0 W' := by
  have D : Gen w0 [] W := ⟨fun p hp => (by cases hp), hB⟩
  have D1 := D.push 26 (v3 x y z)
  have hI1 := hI.alloc (.cells (v3 x y z) 26)
  have hQ1 := hQ.alloc (.cells (v3 x y z) 26)
  obtain ⟨v', W', h1, h2, h3⟩ := app_ptP (W.alloc (.cells (v3 x y z) 26)) w0.heap.size ty va m ys W.heap.size x y z hQ1 (D1.blk (g := W.heap.size) (t := 26) (cs := v3 x y z) (by repeat (first | exact List.mem_cons_self | apply List.mem_cons_of_mem))) hn D1.o.size
  exact ⟨v', W', h1, hI1.kept h3 (own_apart hI1 hQ1), h2, D1.o.grown h3 D1.o.size (fun k e => (hQ1.lt k e).1)⟩
theorem cellsN_succ (n : Nat) (qs : Nat → Pt) : cellsN (n + 1) qs = cellsN n qs ++ [.int .i64 (qs n).1, .int .i64 (qs n).2.1, .int .i64 (qs n).2.2] := by
  unfold cellsN
  rw [List.range_succ, List.map_append, List.map_singleton, cellsP_snoc]
theorem spreadL_3 (A : Option Addr) (n c : Nat) (w : World)
    (hS : Hid (∀ u, Below w.heap.size w u → Calls Try.prog 60 #[.slice A n c] u fun e w' => e = .returned (.tuple #[.slice none 0 0, .int .i64 3]) ∧ Below u.heap.size u w'))
    (hK : Hid (∀ u, Below w.heap.size w u → Calls Try.prog 58 #[.slice A n c] u fun e w' => e = .returned (.tuple #[.int .i64 0, .int .i64 3]) ∧ Below u.heap.size u w')) (haw : Hid (Ans 53 #[] (.bool true))) :
    Calls Try.prog 19 #[.slice A n c] w fun e w' => e = .returned (.bool true) ∧ Below w.heap.size w w' := by
  go_enter Try.func19, Try.ntmps19
  go_upto_region 1 with fail
  have D := hide (Gen.start w)
  go_wp2_with (first | (go_at_call 60; with_reducible refine (unhide hS _ (unhide D).o).mono ?_; rintro e w' ⟨he, hb⟩; subst he; have D := hide ((unhide D).keep hb); clear hb) | (go_at_call 58; with_reducible refine (unhide hK _ (unhide D).o).mono ?_; rintro e w' ⟨he, hb⟩; subst he; have D := hide ((unhide D).keep hb); clear hb) | (go_at_call 53; with_reducible refine (unhide haw _).mono ?_; rintro e w' ⟨he, hb⟩; subst he; have D := hide ((unhide D).keep hb); clear hb))
  go_ret
  exact ⟨rfl, (unhide D).o⟩
theorem spreadL_7 (A : Option Addr) (n c : Nat) (w : World)
    (hS : Hid (∀ u, Below w.heap.size w u → Calls Try.prog 60 #[.slice A n c] u fun e w' => e = .returned (.tuple #[.slice none 0 0, .int .i64 7]) ∧ Below u.heap.size u w'))
    (hK : Hid (∀ u, Below w.heap.size w u → Calls Try.prog 58 #[.slice A n c] u fun e w' => e = .returned (.tuple #[.int .i64 0, .int .i64 7]) ∧ Below u.heap.size u w')) (haw : Hid (Ans 53 #[] (.bool true))) :
    Calls Try.prog 19 #[.slice A n c] w fun e w' => e = .returned (.bool true) ∧ Below w.heap.size w w' := by
  go_enter Try.func19, Try.ntmps19
  go_upto_region 1 with fail
  have D := hide (Gen.start w)
  go_wp2_with (first | (go_at_call 60; with_reducible refine (unhide hS _ (unhide D).o).mono ?_; rintro e w' ⟨he, hb⟩; subst he; have D := hide ((unhide D).keep hb); clear hb) | (go_at_call 58; with_reducible refine (unhide hK _ (unhide D).o).mono ?_; rintro e w' ⟨he, hb⟩; subst he; have D := hide ((unhide D).keep hb); clear hb) | (go_at_call 53; with_reducible refine (unhide haw _).mono ?_; rintro e w' ⟨he, hb⟩; subst he; have D := hide ((unhide D).keep hb); clear hb))
  go_ret
  exact ⟨rfl, (unhide D).o⟩
set_option maxHeartbeats 8000000 in
theorem spreadL_0 (A : Option Addr) (n c m : Nat) (ps : Nat → Pt) (l : List Nat) (r : Int) (w : World) (hn : n ≤ 9223372036854775807) (hm4 : m ≤ 4) (f : Nat → Nat) (hl : Hid (∀ k, l.getD k 0 = f k)) (hr : wrap64 (r + 1) = (m : Int)) (hP : Hid (PRow w A n ps))
    (hin : Hid (∀ k, k < m → f k < n)) (hup : Hid (∀ k, k + 1 < m → f k < f (k + 1)))
    (hS : Hid (∀ u, Below w.heap.size w u → Calls Try.prog 60 #[.slice A n c] u fun e w' => (∃ v, e = .returned (.tuple #[v, .int .i64 0]) ∧ w'.ownsRow u.heap.size 3 1 v m (cellsI l)) ∧ Below u.heap.size u w'))
    (hK : Hid (∀ u, Below w.heap.size w u → Calls Try.prog 58 #[.slice A n c] u fun e w' => e = .returned (.tuple #[.int .i64 r, .int .i64 0]) ∧ Below u.heap.size u w'))
    (hK2 : Hid (∀ (u : World) (k : Nat) (B : Option Addr) (cB : Nat), k < m → PRow u B (k + 1) (fun i => ps (f i)) → Calls Try.prog 58 #[.slice B (k + 1) cB] u fun e w' => e = .returned (.tuple #[.int .i64 (k : Int), .int .i64 0]) ∧ Below u.heap.size u w')) (haw : Hid (Ans 53 #[] (.bool true))) :
    Calls Try.prog 19 #[.slice A n c] w fun e w' => e = .returned (.bool true) ∧ Below w.heap.size w w' := by
  have hr' := hide hr
  clear hr
  go_enter Try.func19, Try.ntmps19
  go_upto_region 1 with fail
  have D := hide (Gen.start w)
  go_upto_region 2 with (first | (go_at_call 60; with_reducible refine (unhide hS _ (unhide D).o).mono ?_; rintro e w1 ⟨⟨v, he, hown⟩, hb⟩; subst he; have hI := hide hown; have D := hide ((unhide D).keep hb); clear hb hown))
  obtain ⟨A', c', rfl⟩ := own_int (unhide hI)
  have hI := hide (own_base (B' := w.heap.size) (unhide hI) (Nat.le_refl _))
  clear hS
  go_upto_region 3 with (first | (go_at_call 58; with_reducible refine (unhide hK _ (unhide D).o).mono ?_; rintro e w2 ⟨he, hb⟩; subst he; have hI := hide (own_below (unhide hI) hb); have D := hide ((unhide D).keep hb); clear hb))
  have hI0 := hI
  have D0 := D
  clear hI D hK
  go_upto_region 8 with fail
  go_wp2
  go_loopw [7, 8] (fun vs i wr => ∃ k : Nat, k ≤ m ∧ i = .int .i64 k ∧ Hid (wr.ownsRow w.heap.size 26 3 vs k (cellsN k (fun i => ps (f i)))) ∧ Hid (wr.ownsRow w.heap.size 3 1 (.slice A' m c') m (cellsI l)) ∧ Hid (Below w.heap.size w wr)) (fun _ i _ => m - (intOf i).toNat)
  case atStart => exact ⟨0, Nat.zero_le _, rfl, World.ownsRow_nil _ _ _ _, unhide hI0, (unhide D0).o⟩
  case round =>
    obtain ⟨k, hk, rfl, hQ, hI, hB⟩ := hrel
    clear hI0 D0
    by_cases hkm : k < m
    · obtain ⟨gI, rfl, hbI, hgI, hce⟩ := own_ints (unhide hI) (by omega)
      have hce : ∀ k, k < m → wr.cell? ⟨gI, k, none⟩ = some (.int .i64 ((f k : Nat) : Int)) := fun k h => by rw [← unhide hl k]; exact hce k h
      have hjn := hide (unhide hin k hkm)
      have e0 := hide (show decide (((f k : Nat) : Int) < 0) = false from decide_eq_false (by omega))
      have e1 := hide (show decide ((n : Int) ≤ ((f k : Nat) : Int)) = false from decide_eq_false (by have := unhide hjn; omega))
      have hce := hide hce
      go_upto_region 11 with fail
      rcases Nat.eq_zero_or_pos k with hk0 | hk0
      · have ek := hide (show decide ((0 : Int) < (k : Int)) = false from decide_eq_false (by omega))
        clear hk0
        have E := hide (Gen.start wr)
        refine region_plan (S := Gen wr []) (l := [0, 1, 2, 3, 4, 5, 6, 7, 8, 9, 10, 11, 12, 13, 14, 15, 16, 17, 18, 19, 20, 21, 22, 23, 24, 25, 26, 27, 28, 29]) (by kernel_rfl) (by kernel_rfl) (by kernel_rfl) (by kernel_rfl) (by kernel_rfl) (by kernel_rfl) (by kernel_rfl) (unhide E).drew ?_
        clear E
        refine plan_read (v := .slice (some ⟨gI, 0, none⟩) m c') rfl rfl (fun u hS => by go_simp) ?_
        try go_simp
        refine plan_read (v := .int .i64 k) rfl rfl (fun u hS => by go_simp) ?_
        try go_simp
        refine plan_read (v := .pointer (some ⟨gI, k, none⟩)) rfl rfl (fun u hS => exec_ixI u (.tmp 42) (.tmp 43) hkm rfl rfl rfl) ?_
        try go_simp
        refine plan_read (v := .int .i64 ((f k : Nat) : Int)) rfl rfl (fun u hS => exec_loadC (.tmp 44) rfl rfl ((hS.o.cell (by exact hgI)).trans (unhide hce k hkm))) ?_
        try go_simp
        refine plan_read (v := .bool false) rfl rfl (fun u hS => exec_lssN _ _ (unhide e0) rfl rfl rfl) ?_
        try go_simp
        refine plan_read (v := .bool false) rfl rfl (fun u hS => by go_simp) ?_
        try go_simp
        refine plan_read (v := .slice (some ⟨gI, 0, none⟩) m c') rfl rfl (fun u hS => by go_simp) ?_
        try go_simp
        refine plan_read (v := .int .i64 k) rfl rfl (fun u hS => by go_simp) ?_
        try go_simp
        refine plan_read (v := .pointer (some ⟨gI, k, none⟩)) rfl rfl (fun u hS => exec_ixI u (.tmp 48) (.tmp 49) hkm rfl rfl rfl) ?_
        try go_simp
        refine plan_read (v := .int .i64 ((f k : Nat) : Int)) rfl rfl (fun u hS => exec_loadC (.tmp 50) rfl rfl ((hS.o.cell (by exact hgI)).trans (unhide hce k hkm))) ?_
        try go_simp
        refine plan_read (v := .slice A n c) rfl rfl (fun u hS => by go_simp) ?_
        try go_simp
        refine plan_read (v := .int .i64 n) rfl rfl (fun u hS => by go_simp) ?_
        try go_simp
        refine plan_read (v := .bool false) rfl rfl (fun u hS => exec_geqN _ _ (unhide e1) rfl rfl rfl) ?_
        try go_simp
        refine plan_read (v := .bool false) rfl rfl (fun u hS => by go_simp) ?_
        try go_simp
        refine plan_read (v := .bool false) rfl rfl (fun u hS => by go_simp) ?_
        try go_simp
        refine plan_read (v := .int .i64 k) rfl rfl (fun u hS => by go_simp) ?_
        try go_simp
        refine plan_read (v := .bool false) rfl rfl (fun u hS => exec_gtrN _ _ (unhide ek) rfl rfl rfl) ?_
        try go_simp
        refine plan_read (v := .bool false) rfl rfl (fun u hS => by go_simp) ?_
        try go_simp
        refine plan_skip rfl rfl ?_
        try go_simp
        refine plan_skip rfl rfl ?_
        try go_simp
        refine plan_skip rfl rfl ?_
        try go_simp
        refine plan_skip rfl rfl ?_
        try go_simp
        refine plan_skip rfl rfl ?_
        try go_simp
        refine plan_skip rfl rfl ?_
        try go_simp
        refine plan_skip rfl rfl ?_
        try go_simp
        refine plan_skip rfl rfl ?_
        try go_simp
        refine plan_skip rfl rfl ?_
        try go_simp
        refine plan_skip rfl rfl ?_
        try go_simp
        refine plan_read (v := .bool false) rfl rfl (fun u hS => by go_simp) ?_
        try go_simp
        refine plan_read (v := .bool false) rfl rfl (fun u hS => by go_simp) ?_
        try go_simp
        refine plan_end (fun u2 hS => ?_)
        have hQ2 := hide (own_below (unhide hQ) hS.o)
        have hI2 := hide (own_below (unhide hI) hS.o)
        have hB2 := hide ((unhide hB).trans (hS.o.mono (unhide hB).size))
        have hce2 := hide (show u2.cell? ⟨gI, k, none⟩ = some (.int .i64 ((f k : Nat) : Int)) from (hS.o.cell (by exact hgI)).trans (unhide hce k hkm))
        clear hS hQ hI hB hce
        obtain ⟨g0, off0, rfl, hg0, hr0⟩ := (unhide hP).resolve_left (by have := unhide hjn; omega)
        have hpt := hide (at_below (hr0 _ (unhide hjn)) (unhide hB2) hg0)
        obtain ⟨v2, W4, r4, hI4, hQ4, hB4⟩ := step_ptP (x := (ps (f k)).1) (y := (ps (f k)).2.1) (z := (ps (f k)).2.2) 65 (unhide hI2) (unhide hQ2) (by omega) (unhide hB2)
        have hI4 := hide hI4
        have hQ4 : Hid (W4.ownsRow w.heap.size 26 3 v2 (k + 1) (cellsN (k + 1) (fun i => ps (f i)))) := by rw [cellsN_succ]; exact hQ4
        have hB4 := hide hB4
        clear hQ2 hI2 hB2
        have hjj := unhide hjn
        go_upto_region 13 with fail
        refine wp_region_lit ?_
        refine wpList_value (v := u7) rfl (by go_simp) ?_
        try go_simp
        refine wpList_value (v := .slice (some ⟨g0, off0, none⟩) n c) rfl (by go_simp) ?_
        try go_simp
        refine wpList_value (v := .slice (some ⟨gI, 0, none⟩) m c') rfl (by go_simp) ?_
        try go_simp
        refine wpList_value (v := .int .i64 k) rfl (by go_simp) ?_
        try go_simp
        refine wpList_value (v := .pointer (some ⟨gI, k, none⟩)) rfl (exec_ixI _ (.tmp 74) (.tmp 75) hkm rfl rfl rfl) ?_
        try go_simp
        refine wpList_value (v := .int .i64 ((f k : Nat) : Int)) rfl (exec_loadC (.tmp 76) rfl rfl (unhide hce2)) ?_
        try go_simp
        refine wpList_value (v := .pointer (some ⟨g0, off0 + f k * 3, none⟩)) rfl (exec_ixP _ elPoints (.tmp 73) (.tmp 77) hjj rfl rfl rfl) ?_
        try go_simp
        refine wpList_value (v := .agg (v3 (ps (f k)).1 (ps (f k)).2.1 (ps (f k)).2.2)) rfl (exec_ldP (.tmp 78) rfl rfl (unhide hpt)) ?_
        try go_simp
        refine wpList_turns (v := .slice (some ⟨u2.heap.size, 0, none⟩) 1 1) rfl (exec_bs1P _ (.tmp 79) rfl rfl) ?_
        try go_simp
        refine wpList_turns (v := v2) rfl (exec_append (v := u7) (y := .slice (some ⟨u2.heap.size, 0, none⟩) 1 1) 65 (.tmp 72) (.tmp 80) rfl rfl rfl r4) ?_
        try go_simp
        refine wpList_value (v := v2) rfl (by go_simp) ?_
        try go_simp
        refine wpL_end ?_
        clear r4 hpt hce2
        obtain ⟨gB, cB, rfl, hbB, hgB, hcB, hPB⟩ := own_row (unhide hQ4) (by omega)
        have hPB := hide hPB
        have D := hide (Gen.start W4)
        go_upto_region 15 with (first | (go_at_call 58; with_reducible refine (unhide hK2 _ k _ _ hkm (unhide hPB)).mono ?_; rintro e w2 ⟨he, hb⟩; subst he; have hI5 := hide (own_below (unhide hI4) hb); have hQ5 := hide (own_below (unhide hQ4) hb); have hB5 := hide ((unhide hB4).trans (hb.mono (unhide hB4).size)); clear hb))
        clear hI4 hQ4 hB4 hPB D
        go_wp2
        go_roundw
        case rel => exact ⟨k + 1, by omega, by go_num, unhide hQ5, unhide hI5, unhide hB5⟩
        case measure => simp [intOf]; omega
      · have ek := hide (show decide ((0 : Int) < (k : Int)) = true from decide_eq_true (by omega))
        have hk1 := hide (show IntKind.i64.wrap ((k : Int) - 1) = ((k - 1 : Nat) : Int) from by rw [IntKind.wrap_i64]; omega)
        have e2 := hide (show decide (((f k : Nat) : Int) ≤ ((f (k - 1) : Nat) : Int)) = false from decide_eq_false (by have := unhide hup (k - 1) (by omega); rw [show k - 1 + 1 = k by omega] at this; omega))
        have E := hide (Gen.start wr)
        refine region_plan (S := Gen wr []) (l := [0, 1, 2, 3, 4, 5, 6, 7, 8, 9, 10, 11, 12, 13, 14, 15, 16, 17, 18, 19, 20, 21, 22, 23, 24, 25, 26, 27, 28, 29]) (by kernel_rfl) (by kernel_rfl) (by kernel_rfl) (by kernel_rfl) (by kernel_rfl) (by kernel_rfl) (by kernel_rfl) (unhide E).drew ?_
        clear E
        refine plan_read (v := .slice (some ⟨gI, 0, none⟩) m c') rfl rfl (fun u hS => by go_simp) ?_
        try go_simp
        refine plan_read (v := .int .i64 k) rfl rfl (fun u hS => by go_simp) ?_
        try go_simp
        refine plan_read (v := .pointer (some ⟨gI, k, none⟩)) rfl rfl (fun u hS => exec_ixI u (.tmp 42) (.tmp 43) hkm rfl rfl rfl) ?_
        try go_simp
        refine plan_read (v := .int .i64 ((f k : Nat) : Int)) rfl rfl (fun u hS => exec_loadC (.tmp 44) rfl rfl ((hS.o.cell (by exact hgI)).trans (unhide hce k hkm))) ?_
        try go_simp
        refine plan_read (v := .bool false) rfl rfl (fun u hS => exec_lssN _ _ (unhide e0) rfl rfl rfl) ?_
        try go_simp
        refine plan_read (v := .bool false) rfl rfl (fun u hS => by go_simp) ?_
        try go_simp
        refine plan_read (v := .slice (some ⟨gI, 0, none⟩) m c') rfl rfl (fun u hS => by go_simp) ?_
        try go_simp
        refine plan_read (v := .int .i64 k) rfl rfl (fun u hS => by go_simp) ?_
        try go_simp
        refine plan_read (v := .pointer (some ⟨gI, k, none⟩)) rfl rfl (fun u hS => exec_ixI u (.tmp 48) (.tmp 49) hkm rfl rfl rfl) ?_
        try go_simp
        refine plan_read (v := .int .i64 ((f k : Nat) : Int)) rfl rfl (fun u hS => exec_loadC (.tmp 50) rfl rfl ((hS.o.cell (by exact hgI)).trans (unhide hce k hkm))) ?_
        try go_simp
        refine plan_read (v := .slice A n c) rfl rfl (fun u hS => by go_simp) ?_
        try go_simp
        refine plan_read (v := .int .i64 n) rfl rfl (fun u hS => by go_simp) ?_
        try go_simp
        refine plan_read (v := .bool false) rfl rfl (fun u hS => exec_geqN _ _ (unhide e1) rfl rfl rfl) ?_
        try go_simp
        refine plan_read (v := .bool false) rfl rfl (fun u hS => by go_simp) ?_
        try go_simp
        refine plan_read (v := .bool false) rfl rfl (fun u hS => by go_simp) ?_
        try go_simp
        refine plan_read (v := .int .i64 k) rfl rfl (fun u hS => by go_simp) ?_
        try go_simp
        refine plan_read (v := .bool true) rfl rfl (fun u hS => exec_gtrN _ _ (unhide ek) rfl rfl rfl) ?_
        try go_simp
        refine plan_read (v := .bool true) rfl rfl (fun u hS => by go_simp) ?_
        try go_simp
        refine plan_read (v := .slice (some ⟨gI, 0, none⟩) m c') rfl rfl (fun u hS => by go_simp) ?_
        try go_simp
        refine plan_read (v := .int .i64 k) rfl rfl (fun u hS => by go_simp) ?_
        try go_simp
        refine plan_read (v := .int .i64 ((k - 1 : Nat) : Int)) rfl rfl (fun u hS => by go_simp; exact unhide hk1) ?_
        try go_simp
        refine plan_read (v := .pointer (some ⟨gI, k - 1, none⟩)) rfl rfl (fun u hS => exec_ixI u (.tmp 60) (.tmp 62) (show k - 1 < m by omega) rfl rfl rfl) ?_
        try go_simp
        refine plan_read (v := .int .i64 ((f (k - 1) : Nat) : Int)) rfl rfl (fun u hS => exec_loadC (.tmp 63) rfl rfl ((hS.o.cell (by exact hgI)).trans (unhide hce (k - 1) (by omega)))) ?_
        try go_simp
        refine plan_read (v := .slice (some ⟨gI, 0, none⟩) m c') rfl rfl (fun u hS => by go_simp) ?_
        try go_simp
        refine plan_read (v := .int .i64 k) rfl rfl (fun u hS => by go_simp) ?_
        try go_simp
        refine plan_read (v := .pointer (some ⟨gI, k, none⟩)) rfl rfl (fun u hS => exec_ixI u (.tmp 65) (.tmp 66) hkm rfl rfl rfl) ?_
        try go_simp
        refine plan_read (v := .int .i64 ((f k : Nat) : Int)) rfl rfl (fun u hS => exec_loadC (.tmp 67) rfl rfl ((hS.o.cell (by exact hgI)).trans (unhide hce k hkm))) ?_
        try go_simp
        refine plan_read (v := .bool false) rfl rfl (fun u hS => exec_geqN _ _ (unhide e2) rfl rfl rfl) ?_
        try go_simp
        refine plan_read (v := .bool false) rfl rfl (fun u hS => by go_simp) ?_
        try go_simp
        refine plan_read (v := .bool false) rfl rfl (fun u hS => by go_simp) ?_
        try go_simp
        refine plan_end (fun u2 hS => ?_)
        have hQ2 := hide (own_below (unhide hQ) hS.o)
        have hI2 := hide (own_below (unhide hI) hS.o)
        have hB2 := hide ((unhide hB).trans (hS.o.mono (unhide hB).size))
        have hce2 := hide (show u2.cell? ⟨gI, k, none⟩ = some (.int .i64 ((f k : Nat) : Int)) from (hS.o.cell (by exact hgI)).trans (unhide hce k hkm))
        clear hS hQ hI hB hce
        obtain ⟨g0, off0, rfl, hg0, hr0⟩ := (unhide hP).resolve_left (by have := unhide hjn; omega)
        have hpt := hide (at_below (hr0 _ (unhide hjn)) (unhide hB2) hg0)
        obtain ⟨v2, W4, r4, hI4, hQ4, hB4⟩ := step_ptP (x := (ps (f k)).1) (y := (ps (f k)).2.1) (z := (ps (f k)).2.2) 65 (unhide hI2) (unhide hQ2) (by omega) (unhide hB2)
        have hI4 := hide hI4
        have hQ4 : Hid (W4.ownsRow w.heap.size 26 3 v2 (k + 1) (cellsN (k + 1) (fun i => ps (f i)))) := by rw [cellsN_succ]; exact hQ4
        have hB4 := hide hB4
        clear hQ2 hI2 hB2
        have hjj := unhide hjn
        go_upto_region 13 with fail
        refine wp_region_lit ?_
        refine wpList_value (v := u7) rfl (by go_simp) ?_
        try go_simp
        refine wpList_value (v := .slice (some ⟨g0, off0, none⟩) n c) rfl (by go_simp) ?_
        try go_simp
        refine wpList_value (v := .slice (some ⟨gI, 0, none⟩) m c') rfl (by go_simp) ?_
        try go_simp
        refine wpList_value (v := .int .i64 k) rfl (by go_simp) ?_
        try go_simp
        refine wpList_value (v := .pointer (some ⟨gI, k, none⟩)) rfl (exec_ixI _ (.tmp 74) (.tmp 75) hkm rfl rfl rfl) ?_
        try go_simp
        refine wpList_value (v := .int .i64 ((f k : Nat) : Int)) rfl (exec_loadC (.tmp 76) rfl rfl (unhide hce2)) ?_
        try go_simp
        refine wpList_value (v := .pointer (some ⟨g0, off0 + f k * 3, none⟩)) rfl (exec_ixP _ elPoints (.tmp 73) (.tmp 77) hjj rfl rfl rfl) ?_
        try go_simp
        refine wpList_value (v := .agg (v3 (ps (f k)).1 (ps (f k)).2.1 (ps (f k)).2.2)) rfl (exec_ldP (.tmp 78) rfl rfl (unhide hpt)) ?_
        try go_simp
        refine wpList_turns (v := .slice (some ⟨u2.heap.size, 0, none⟩) 1 1) rfl (exec_bs1P _ (.tmp 79) rfl rfl) ?_
        try go_simp
        refine wpList_turns (v := v2) rfl (exec_append (v := u7) (y := .slice (some ⟨u2.heap.size, 0, none⟩) 1 1) 65 (.tmp 72) (.tmp 80) rfl rfl rfl r4) ?_
        try go_simp
        refine wpList_value (v := v2) rfl (by go_simp) ?_
        try go_simp
        refine wpL_end ?_
        clear r4 hpt hce2
        obtain ⟨gB, cB, rfl, hbB, hgB, hcB, hPB⟩ := own_row (unhide hQ4) (by omega)
        have hPB := hide hPB
        have D := hide (Gen.start W4)
        go_upto_region 15 with (first | (go_at_call 58; with_reducible refine (unhide hK2 _ k _ _ hkm (unhide hPB)).mono ?_; rintro e w2 ⟨he, hb⟩; subst he; have hI5 := hide (own_below (unhide hI4) hb); have hQ5 := hide (own_below (unhide hQ4) hb); have hB5 := hide ((unhide hB4).trans (hb.mono (unhide hB4).size)); clear hb))
        clear hI4 hQ4 hB4 hPB D
        go_wp2
        go_roundw
        case rel => exact ⟨k + 1, by omega, by go_num, unhide hQ5, unhide hI5, unhide hB5⟩
        case measure => simp [intOf]; omega
    · obtain rfl : k = m := by omega
      have D := hide (Gen.start wr)
      go_upto_region 17 with fail
      go_wp2_with (first | (with_reducible refine at_list ?_;  refine eqlZ _ _ (show (((k : Nat) : Int) == wrap64 (r + 1)) = true from by rw [unhide hr']; exact beq_self_eq_true _) rfl rfl rfl rfl ?_) | (go_at_call 53; with_reducible refine (unhide haw _).mono ?_; rintro e w' ⟨he, hb⟩; subst he; have D := hide ((unhide D).keep hb); clear hb))
      go_ret
      exact ⟨rfl, (unhide hB).trans ((unhide D).o.mono (unhide hB).size)⟩

theorem orientSpread_all (A : Option Addr) (n c : Nat) (ps : Nat → Pt) (w : World) (hn : n ≤ 9223372036854775807) (hP : PRow w A n ps) : Calls Try.prog 19 #[.slice A n c] w fun e w' => e = .returned (.bool true) ∧ Below w.heap.size w w' := by
  have hK := fun u (hu : Below w.heap.size w u) => RankO A n c ps u hn (hP.below hu)
  rcases spE_cases n ps with h | h | h
  · have hm4 := spS_len ps n
    refine spreadL_0 A n c (spS ps n).length ps (spS ps n) (rkI n ps) w hn hm4 (fun k => (spS ps n).getD k 0) (fun _ => rfl) ?_ hP (fun k hk => spS_in ps n k hk) (fun k hk => spS_rise ps n k hk) (fun u hu => SpreadYes A n c ps u hn (hP.below hu) h) (fun u hu => ?_) (fun u k B cB hk hPB => ?_) awake7Z
    · unfold rkI
      rw [if_pos h, wrap_self ⟨by omega, by omega⟩]
      omega
    · have := hK u hu
      rw [h] at this
      exact this
    · have := RankO B (k + 1) cB (spP ps n) u (by omega) hPB
      rw [rkI_again h hk, spE_again h hk] at this
      exact this
  · refine spreadL_3 A n c w (fun u hu => ?_) (fun u hu => ?_) awake7Z
    · have := SpreadNo A n c ps u hn (hP.below hu) (by rw [h]; decide)
      rw [h] at this
      exact this
    · have := hK u hu
      rw [h, show rkI n ps = 0 from if_neg (by rw [h]; decide)] at this
      exact this
  · refine spreadL_7 A n c w (fun u hu => ?_) (fun u hu => ?_) awake7Z
    · have := SpreadNo A n c ps u hn (hP.below hu) (by rw [h]; decide)
      rw [h] at this
      exact this
    · have := hK u hu
      rw [h, show rkI n ps = 0 from if_neg (by rw [h]; decide)] at this
      exact this

end Go.Proofs.Ytnknejdmoghmiaa

namespace Go.Proofs.Ytnknejdmoghmiaa
open Go.RowKit
set_option maxRecDepth 4000
set_option linter.unusedVariables false

/-- A point, moved. -/
def mvP (b p : Pt) : Pt := (p.1 + b.1, p.2.1 + b.2.1, p.2.2 + b.2.2)
def mvF (b : Pt) (ps : Nat → Pt) : Nat → Pt := fun i => mvP b (ps i)
theorem mv_sub (x y b : Int) : x + b - (y + b) = x - y := by omega
theorem sg_moved (b : Pt) (m : Nat) (t : Nat → Pt) (p : Pt) : sg m (mvF b t) (mvP b p) = sg m t p := by
  match m with
  | 0 => rfl
  | 1 => simp only [sg, mvF, mvP, mv_sub]
  | 2 => simp only [sg, mvF, mvP, mv_sub]
  | 3 => simp only [sg, mvF, mvP, volI, mv_sub]
  | m + 4 => rfl
theorem spS_moved (b : Pt) (ps : Nat → Pt) : ∀ k, spS (mvF b ps) k = spS ps k
  | 0 => rfl
  | k + 1 => by
    have ih := spS_moved b ps k
    show (if sg (spS (mvF b ps) k).length (fun i => mvF b ps ((spS (mvF b ps) k).getD i 0)) (mvF b ps k) = (0, 0, 0) then spS (mvF b ps) k else spS (mvF b ps) k ++ [k]) = (if sg (spS ps k).length (fun i => ps ((spS ps k).getD i 0)) (ps k) = (0, 0, 0) then spS ps k else spS ps k ++ [k])
    rw [ih]
    have := sg_moved b (spS ps k).length (fun i => ps ((spS ps k).getD i 0)) (ps k)
    rw [show sg (spS ps k).length (fun i => mvF b ps ((spS ps k).getD i 0)) (mvF b ps k) = sg (spS ps k).length (fun i => ps ((spS ps k).getD i 0)) (ps k) from this]
theorem volP_moved (b p q r s : Pt) : volP (mvP b p) (mvP b q) (mvP b r) (mvP b s) = volP p q r s := by
  simp only [volP, volI, mvP, mv_sub]
theorem tuI_moved (b : Pt) (n : Nat) (ps : Nat → Pt) : tuI n (mvF b ps) = tuI n ps := sg_moved b (n - 1) ps (ps (n - 1))
theorem upP_moved (b : Pt) (ps : Nat → Pt) (k : Nat) (p : Pt) : upP (mvF b ps) k (mvP b p) = mvF b (upP ps k p) := by
  funext i
  by_cases h : i = k <;> simp [upP, mvF, h]
theorem isI_moved (b : Pt) (n : Nat) (ps : Nat → Pt) (p : Pt) : isI n (mvF b ps) (mvP b p) = isI n ps p := by
  unfold isI
  rw [sg_moved, tuI_moved]
  congr 2
  funext k
  rw [upP_moved, tuI_moved]
theorem simB_moved (b : Pt) (n : Nat) (ps : Nat → Pt) : simB n (mvF b ps) = simB n ps := by
  unfold simB
  rw [spS_moved]
theorem allQ_far {n : Nat} {ps : Nat → Pt} (h : ∀ i, i < n → chkQ (ps i) = true) : allQ n ps = true := allQ_iff.2 h
/-- Numbers of at most 2^26. -/
def smI (z : Int) : Prop := -67108864 ≤ z ∧ z ≤ 67108864
def smP (p : Pt) : Prop := smI p.1 ∧ smI p.2.1 ∧ smI p.2.2
theorem may_of {z : Int} (h : -134217728 ≤ z ∧ z ≤ 134217728) : mayI z = true := by
  unfold mayI
  rw [decide_eq_true (by omega), decide_eq_true (by omega)]
  rfl
theorem chk_of {p : Pt} (h : smP p) : chkQ p = true := by
  obtain ⟨a, b, c⟩ := h
  unfold smI at a b c
  unfold chkQ chkP
  rw [may_of (by omega), may_of (by omega), may_of (by omega)]
  rfl
theorem chk_moved {b p : Pt} (hb : smP b) (h : smP p) : chkQ (mvP b p) = true := by
  obtain ⟨a1, a2, a3⟩ := h
  obtain ⟨b1, b2, b3⟩ := hb
  unfold smI at a1 a2 a3 b1 b2 b3
  unfold chkQ chkP mvP
  rw [may_of (by simp only []; omega), may_of (by simp only []; omega), may_of (by simp only []; omega)]
  rfl
theorem spE_moved {n : Nat} {b : Pt} {ps : Nat → Pt} (hb : smP b) (h : ∀ i, i < n → smP (ps i)) : spE n (mvF b ps) = spE n ps := by
  unfold spE
  rw [allQ_far (fun i hi => chk_of (h i hi)), allQ_far (n := n) (ps := mvF b ps) (fun i hi => chk_moved hb (h i hi))]
theorem insE_moved {n : Nat} {b p : Pt} {ps : Nat → Pt} (hb : smP b) (hp : smP p) (h : ∀ i, i < n → smP (ps i)) : insE n (mvF b ps) (mvP b p) = insE n ps p := by
  unfold insE
  rw [allQ_far (fun i hi => chk_of (h i hi)), allQ_far (n := n) (ps := mvF b ps) (fun i hi => chk_moved hb (h i hi)), chk_of hp, chk_moved hb hp, simB_moved]
theorem insB_moved {n : Nat} {b p : Pt} {ps : Nat → Pt} (hb : smP b) (hp : smP p) (h : ∀ i, i < n → smP (ps i)) : insB n (mvF b ps) (mvP b p) = insB n ps p := by
  unfold insB
  rw [insE_moved hb hp h, isI_moved]
theorem vlE_moved {n : Nat} {b : Pt} {ps : Nat → Pt} (hb : smP b) (h : ∀ i, i < n → smP (ps i)) : vlE n (mvF b ps) = vlE n ps := by
  unfold vlE
  rw [allQ_far (fun i hi => chk_of (h i hi)), allQ_far (n := n) (ps := mvF b ps) (fun i hi => chk_moved hb (h i hi))]
theorem vlI_moved {n : Nat} {b : Pt} {ps : Nat → Pt} (hb : smP b) (h : ∀ i, i < n → smP (ps i)) : vlI n (mvF b ps) = vlI n ps := by
  unfold vlI
  rw [vlE_moved hb h, show volP (mvF b ps 0) (mvF b ps 1) (mvF b ps 2) (mvF b ps 3) = volP (ps 0) (ps 1) (ps 2) (ps 3) from volP_moved _ _ _ _ _]

end Go.Proofs.Ytnknejdmoghmiaa

namespace Go.Proofs.Ytnknejdmoghmiaa
open Go.RowKit
set_option maxRecDepth 4000
set_option linter.unusedVariables false

section
variable {ops : Array Oper} {rest : List Oper} {o : Oper} {a : Act} {w w0 : World} {Q : Exit → Act → World → Prop} {l : List (Nat × TypeId × Array Value)} {g : Nat} {t : TypeId} {cs : Array Value}
theorem ldI7w (d : Gen w0 l w) {i : Nat} {z : Int} (x : Operand) (ho : o.op = .load 2 x) (hgd : Region.wanted o (yielded ops a.tmps) = true) (hx : a.eval x = .pointer (some ⟨g, i, none⟩)) (hm : (g, t, cs) ∈ l) (hc : cs[i]? = some (.int .i64 z))
    (h : wpList Try.prog ops Q rest (a.put o.dst (.int .i64 z)) w) : wpList Try.prog ops Q (o :: rest) a w := wpList_valuew hgd (exec_loadIGA d x ho hx hm hc) h
end
def mx7 (x y z : Int) : Int := if z > (if y > x then y else x) then z else (if y > x then y else x)
def mn7 (x y z : Int) : Int := if z < (if y < x then y else x) then z else (if y < x then y else x)
/-- Are the numbers at most 2^26? -/
def small7 (p : Pt) : Bool := decide (mx7 p.1 p.2.1 p.2.2 ≤ 67108864) && decide (-67108864 ≤ mn7 p.1 p.2.1 p.2.2)
set_option maxHeartbeats 1000000 in
theorem small7_core (x y z m n : Int) (w : World) (hM : ∀ (w : World) (ts : Array TypeId) (t : TypeId), (Builtin.max_ ts t #[.int .i64 x, .int .i64 y, .int .i64 z]).run Try.prog w = .ok (.int .i64 m) w) (hN : ∀ (w : World) (ts : Array TypeId) (t : TypeId), (Builtin.min_ ts t #[.int .i64 x, .int .i64 y, .int .i64 z]).run Try.prog w = .ok (.int .i64 n) w) :
    Calls Try.prog 65 #[.agg (v3 x y z)] w fun e w' => e = .returned (.bool (decide (m ≤ 67108864) && decide (-67108864 ≤ n))) ∧ Below w.heap.size w w' := by
  go_enter Try.func65, Try.ntmps65
  go_upto_region 1 with fail
  have D := hide ((Gen.start w).push 26 (v3 x y z))
  by_cases h : m ≤ 67108864
  · go_wp2_with (first | (with_reducible refine at_list ?_;  apply ldI (unhide D) _ rfl rfl rfl (by repeat (first | exact List.mem_cons_self | apply List.mem_cons_of_mem)) rfl) | (with_reducible refine at_list ?_;  apply ldI7w (unhide D) _ rfl rfl rfl (by repeat (first | exact List.mem_cons_self | apply List.mem_cons_of_mem)) rfl))
    go_ret
    exact ⟨by simp [h], (unhide D).o⟩
  · have hd := hide (decide_eq_false h)
    go_wp2_with (first | (with_reducible refine at_list ?_;  apply ldI (unhide D) _ rfl rfl rfl (by repeat (first | exact List.mem_cons_self | apply List.mem_cons_of_mem)) rfl))
    go_ret
    exact ⟨by rw [unhide hd]; rfl, (unhide D).o⟩
theorem Small7Z (p : Pt) : Ans 65 #[.agg (v3 p.1 p.2.1 p.2.2)] (.bool (small7 p)) := fun w => small7_core p.1 p.2.1 p.2.2 (mx7 p.1 p.2.1 p.2.2) (mn7 p.1 p.2.1 p.2.2) w (fun w ts t => run_max_int3 w ts t .i64 .i64 .i64 _ _ _) (fun w ts t => run_min_int3 w ts t .i64 .i64 .i64 _ _ _)
theorem small7_yes {p : Pt} (h : small7 p = true) : smP p := by
  unfold small7 at h
  rw [Bool.and_eq_true, decide_eq_true_eq, decide_eq_true_eq] at h
  obtain ⟨h1, h2⟩ := h
  unfold mx7 at h1
  unfold mn7 at h2
  unfold smP smI
  refine ⟨⟨?_, ?_⟩, ⟨?_, ?_⟩, ⟨?_, ?_⟩⟩ <;> (split at h1 <;> split at h2 <;> (first | omega | (split at h1 <;> split at h2 <;> omega) | (split at h1 <;> omega) | (split at h2 <;> omega)))
theorem moved7_core (ax ay az bx b_y bz_ : Int) (w : World) :
    Calls Try.prog 66 #[.agg (v3 ax ay az), .agg (v3 bx b_y bz_)] w fun e w' => e = .returned (.agg (v3 (wrap64 (ax + bx)) (wrap64 (ay + b_y)) (wrap64 (az + bz_)))) ∧ Below w.heap.size w w' := by
  go_enter Try.func66, Try.ntmps66
  go_upto_region 1 with fail
  have D := hide ((((Gen.start w).push 26 (v3 ax ay az)).push 26 (v3 bx b_y bz_)).push 26 (v3 0 0 0))
  simp only [szA] at D
  go_wp2_with (first | (with_reducible refine at_list ?_;  apply ldI (unhide D) _ rfl rfl rfl (by repeat (first | exact List.mem_cons_self | apply List.mem_cons_of_mem)) rfl) | (with_reducible refine at_list ?_;  refine bdPt _ _ _ rfl rfl rfl rfl rfl ?_) | (with_reducible refine at_list ?_; apply stGend (unhide D) rPoint _ _ rfl rfl rfl rfl (by repeat (first | exact List.mem_cons_self | apply List.mem_cons_of_mem)) (by omega) rfl rfl (v3_one' _ _ _); intro B O))
  exact resG rPoint (unhide B) rfl rfl rfl rfl ⟨rfl, unhide O⟩
theorem Moved7Z (p b : Pt) (hp : smP p) (hb : smP b) : Ans 66 #[.agg (v3 p.1 p.2.1 p.2.2), .agg (v3 b.1 b.2.1 b.2.2)] (.agg (v3 (mvP b p).1 (mvP b p).2.1 (mvP b p).2.2)) := fun w => by
  obtain ⟨a1, a2, a3⟩ := hp
  obtain ⟨b1, b2, b3⟩ := hb
  unfold smI at a1 a2 a3 b1 b2 b3
  have k := moved7_core p.1 p.2.1 p.2.2 b.1 b.2.1 b.2.2 w
  rw [wrap_self ⟨by omega, by omega⟩, wrap_self ⟨by omega, by omega⟩, wrap_self ⟨by omega, by omega⟩] at k
  exact k
set_option maxHeartbeats 2000000 in
theorem same7_core (A B : Option Addr) (m c d : Nat) (f : Nat → Nat) (w : World) (hm : m ≤ 4) (h : Hid (m = 0 ∨ ∃ g g', A = some ⟨g, 0, none⟩ ∧ B = some ⟨g', 0, none⟩ ∧ g < w.heap.size ∧ g' < w.heap.size ∧ ∀ k, k < m → w.cell? ⟨g, k, none⟩ = some (.int .i64 ((f k : Nat) : Int)) ∧ w.cell? ⟨g', k, none⟩ = some (.int .i64 ((f k : Nat) : Int)))) :
    Calls Try.prog 62 #[.slice A m c, .slice B m d] w fun e w' => e = .returned (.bool true) ∧ Below w.heap.size w w' := by
  go_enter Try.func62, Try.ntmps62
  go_upto_region 3 with fail
  go_wp2
  go_loopw [5] (fun i wr => ∃ k : Nat, k ≤ m ∧ i = .int .i64 k ∧ Hid (Below w.heap.size w wr)) (fun i _ => m - (intOf i).toNat)
  case atStart => exact ⟨0, Nat.zero_le _, rfl, Below.refl _ _⟩
  case round =>
    obtain ⟨k, hk, rfl, hB⟩ := hrel
    by_cases hkm : k < m
    · obtain ⟨g, g', rfl, rfl, hg, hg', hc⟩ := (unhide h).resolve_left (by omega)
      obtain ⟨c1, c2⟩ := hc k hkm
      have c1 := hide (((unhide hB).cell (p := ⟨g, k, none⟩) hg).trans c1)
      have c2 := hide (((unhide hB).cell (p := ⟨g', k, none⟩) hg').trans c2)
      have hg1 := hide (Nat.lt_of_lt_of_le hg (unhide hB).size)
      have hg2 := hide (Nat.lt_of_lt_of_le hg' (unhide hB).size)
      clear h hc hg hg'
      go_upto_region 6 with fail
      have E := hide (Gen.start wr)
      refine region_plan (S := Gen wr []) (l := [0, 1, 2, 3, 4, 5, 6, 7, 8]) (by kernel_rfl) (by kernel_rfl) (by kernel_rfl) (by kernel_rfl) (by kernel_rfl) (by kernel_rfl) (by kernel_rfl) (unhide E).drew ?_
      clear E
      refine plan_read (v := .slice (some ⟨g, 0, none⟩) m c) rfl rfl (fun u hS => by go_simp) ?_
      try go_simp
      refine plan_read (v := .int .i64 k) rfl rfl (fun u hS => by go_simp) ?_
      try go_simp
      refine plan_read (v := .pointer (some ⟨g, k, none⟩)) rfl rfl (fun u hS => exec_ixI u (.tmp 17) (.tmp 18) hkm rfl rfl rfl) ?_
      try go_simp
      refine plan_read (v := .int .i64 ((f k : Nat) : Int)) rfl rfl (fun u hS => exec_loadC (.tmp 19) rfl rfl ((hS.o.cell (p := ⟨g, k, none⟩) (unhide hg1)).trans (unhide c1))) ?_
      try go_simp
      refine plan_read (v := .slice (some ⟨g', 0, none⟩) m d) rfl rfl (fun u hS => by go_simp) ?_
      try go_simp
      refine plan_read (v := .int .i64 k) rfl rfl (fun u hS => by go_simp) ?_
      try go_simp
      refine plan_read (v := .pointer (some ⟨g', k, none⟩)) rfl rfl (fun u hS => exec_ixI u (.tmp 21) (.tmp 22) hkm rfl rfl rfl) ?_
      try go_simp
      refine plan_read (v := .int .i64 ((f k : Nat) : Int)) rfl rfl (fun u hS => exec_loadC (.tmp 23) rfl rfl ((hS.o.cell (p := ⟨g', k, none⟩) (unhide hg2)).trans (unhide c2))) ?_
      try go_simp
      refine plan_read (v := .bool false) rfl rfl (fun u hS => by go_simp) ?_
      try go_simp
      refine plan_end (fun u2 hS => ?_)
      have hB2 := hide ((unhide hB).trans (hS.o.mono (unhide hB).size))
      clear hS
      go_wp2
      go_roundw
      case rel => exact ⟨k + 1, by omega, by go_num, hB2⟩
      case measure => simp [intOf]; omega
    · obtain rfl : k = m := by omega
      go_wp2
      go_ret
      exact ⟨rfl, unhide hB⟩

end Go.Proofs.Ytnknejdmoghmiaa

namespace Go.Proofs.Ytnknejdmoghmiaa
open Go.RowKit
set_option maxRecDepth 4000
set_option linter.unusedVariables false

theorem own_row0 {w : World} {B n : Nat} {v : Value} {qs : Nat → Pt} (h : w.ownsRow B 26 3 v n (cellsN n qs)) : ∃ A c, v = .slice A n c ∧ n ≤ c ∧ PRow w A n qs := by
  rcases Nat.eq_zero_or_pos n with rfl | hn
  · obtain ⟨A, c, rfl⟩ := own_int h
    exact ⟨A, c, rfl, Nat.zero_le _, .inl rfl⟩
  · obtain ⟨g, c, rfl, _, _, hc, hP⟩ := own_row h hn
    exact ⟨_, c, rfl, hc, hP⟩
theorem moved_long (A : Option Addr) (n c : Nat) (p b : Pt) (w : World) (h : Hid (decide ((100 : Int) < (n : Int)) = true)) (haw : Hid (Ans 53 #[] (.bool true))) :
    Calls Try.prog 18 #[.slice A n c, .agg (v3 p.1 p.2.1 p.2.2), .agg (v3 b.1 b.2.1 b.2.2)] w fun e w' => e = .returned (.bool true) ∧ Below w.heap.size w w' := by
  go_enter Try.func18, Try.ntmps18
  go_upto_region 1 with fail
  have D := hide (((Gen.start w).push 26 (v3 p.1 p.2.1 p.2.2)).push 26 (v3 b.1 b.2.1 b.2.2))
  simp only [szA] at D
  go_wp2_with (first | (with_reducible refine at_list ?_;  refine gtrZ _ _ (unhide h) rfl rfl rfl rfl ?_) | (go_at_call 53; with_reducible refine (unhide haw _).mono ?_; rintro e w' ⟨he, hb⟩; subst he; have D := hide ((unhide D).keep hb); clear hb))
  go_ret
  exact ⟨rfl, (unhide D).o⟩
theorem moved_p (A : Option Addr) (n c : Nat) (p b : Pt) (w : World) (h : Hid (decide ((100 : Int) < (n : Int)) = false)) (hp : Hid (Ans 65 #[.agg (v3 p.1 p.2.1 p.2.2)] (.bool false))) (haw : Hid (Ans 53 #[] (.bool true))) :
    Calls Try.prog 18 #[.slice A n c, .agg (v3 p.1 p.2.1 p.2.2), .agg (v3 b.1 b.2.1 b.2.2)] w fun e w' => e = .returned (.bool true) ∧ Below w.heap.size w w' := by
  go_enter Try.func18, Try.ntmps18
  go_upto_region 1 with fail
  have D := hide (((Gen.start w).push 26 (v3 p.1 p.2.1 p.2.2)).push 26 (v3 b.1 b.2.1 b.2.2))
  simp only [szA] at D
  go_wp2_with (first | (with_reducible refine at_list ?_;  refine gtrZ _ _ (unhide h) rfl rfl rfl rfl ?_) | (with_reducible refine at_list ?_; apply ldG (unhide D) rPoint _ rfl rfl rfl (by repeat (first | exact List.mem_cons_self | apply List.mem_cons_of_mem)) rfl) | (with_reducible refine at_list ?_; apply ldGw (unhide D) rPoint _ rfl rfl rfl (by repeat (first | exact List.mem_cons_self | apply List.mem_cons_of_mem)) rfl) | (go_at_call 65; with_reducible refine (unhide hp _).mono ?_; rintro e w' ⟨he, hb⟩; subst he; have D := hide ((unhide D).keep hb); clear hb) | (go_at_call 53; with_reducible refine (unhide haw _).mono ?_; rintro e w' ⟨he, hb⟩; subst he; have D := hide ((unhide D).keep hb); clear hb))
  go_ret
  exact ⟨rfl, (unhide D).o⟩
theorem moved_b (A : Option Addr) (n c : Nat) (p b : Pt) (w : World) (h : Hid (decide ((100 : Int) < (n : Int)) = false)) (hp : Hid (Ans 65 #[.agg (v3 p.1 p.2.1 p.2.2)] (.bool true))) (hb : Hid (Ans 65 #[.agg (v3 b.1 b.2.1 b.2.2)] (.bool false))) (haw : Hid (Ans 53 #[] (.bool true))) :
    Calls Try.prog 18 #[.slice A n c, .agg (v3 p.1 p.2.1 p.2.2), .agg (v3 b.1 b.2.1 b.2.2)] w fun e w' => e = .returned (.bool true) ∧ Below w.heap.size w w' := by
  go_enter Try.func18, Try.ntmps18
  go_upto_region 1 with fail
  have D := hide (((Gen.start w).push 26 (v3 p.1 p.2.1 p.2.2)).push 26 (v3 b.1 b.2.1 b.2.2))
  simp only [szA] at D
  go_wp2_with (first | (with_reducible refine at_list ?_;  refine gtrZ _ _ (unhide h) rfl rfl rfl rfl ?_) | (with_reducible refine at_list ?_; apply ldG (unhide D) rPoint _ rfl rfl rfl (by repeat (first | exact List.mem_cons_self | apply List.mem_cons_of_mem)) rfl) | (with_reducible refine at_list ?_; apply ldGw (unhide D) rPoint _ rfl rfl rfl (by repeat (first | exact List.mem_cons_self | apply List.mem_cons_of_mem)) rfl) | (go_at_call 65; with_reducible refine (unhide hp _).mono ?_; rintro e w' ⟨he, hb⟩; subst he; have D := hide ((unhide D).keep hb); clear hb) | (go_at_call 65; with_reducible refine (unhide hb _).mono ?_; rintro e w' ⟨he, hb⟩; subst he; have D := hide ((unhide D).keep hb); clear hb) | (go_at_call 53; with_reducible refine (unhide haw _).mono ?_; rintro e w' ⟨he, hb⟩; subst he; have D := hide ((unhide D).keep hb); clear hb))
  go_ret
  exact ⟨rfl, (unhide D).o⟩
set_option maxHeartbeats 8000000 in
theorem moved_all (A : Option Addr) (n c : Nat) (ps : Nat → Pt) (p b : Pt) (w : World) (hn : n ≤ 100) (hnc : n ≤ c) (hPl : Hid (PRow w A n ps)) (h : Hid (decide ((100 : Int) < (n : Int)) = false)) (hp : Hid (Ans 65 #[.agg (v3 p.1 p.2.1 p.2.2)] (.bool true))) (hb : Hid (Ans 65 #[.agg (v3 b.1 b.2.1 b.2.2)] (.bool true))) (hsp : Hid (smP p)) (hsb : Hid (smP b)) (haw : Hid (Ans 53 #[] (.bool true))) :
    Calls Try.prog 18 #[.slice A n c, .agg (v3 p.1 p.2.1 p.2.2), .agg (v3 b.1 b.2.1 b.2.2)] w fun e w' => e = .returned (.bool true) ∧ Below w.heap.size w w' := by
  go_enter Try.func18, Try.ntmps18
  go_upto_region 1 with fail
  have D := hide (((Gen.start w).push 26 (v3 p.1 p.2.1 p.2.2)).push 26 (v3 b.1 b.2.1 b.2.2))
  simp only [szA] at D
  go_upto_region 3 with (first | (with_reducible refine at_list ?_;  refine gtrZ _ _ (unhide h) rfl rfl rfl rfl ?_) | (with_reducible refine at_list ?_; apply ldG (unhide D) rPoint _ rfl rfl rfl (by repeat (first | exact List.mem_cons_self | apply List.mem_cons_of_mem)) rfl) | (with_reducible refine at_list ?_; apply ldGw (unhide D) rPoint _ rfl rfl rfl (by repeat (first | exact List.mem_cons_self | apply List.mem_cons_of_mem)) rfl) | (go_at_call 65; with_reducible refine (unhide hp _).mono ?_; rintro e w' ⟨he, hb⟩; subst he; have D := hide ((unhide D).keep hb); clear hb) | (go_at_call 65; with_reducible refine (unhide hb _).mono ?_; rintro e w' ⟨he, hb⟩; subst he; have D := hide ((unhide D).keep hb); clear hb))
  clear hp hb h
  have D0 := D
  clear D
  go_upto_region 4 with fail
  go_wp2
  go_loopw [7, 8] (fun vs i wr => ∃ k : Nat, k ≤ n ∧ i = .int .i64 k ∧ Hid (∀ j, j < k → smP (ps j)) ∧ Hid (wr.ownsRow (w.heap.size + 2) 26 3 vs k (cellsN k (mvF b ps))) ∧ Hid (Gen w [(w.heap.size + 1, 26, (v3 b.1 b.2.1 b.2.2)), (w.heap.size, 26, (v3 p.1 p.2.1 p.2.2))] wr)) (fun _ i _ => n - (intOf i).toNat)
  case atStart => exact ⟨0, Nat.zero_le _, rfl, fun j hj => absurd hj (by omega), World.ownsRow_nil _ _ _ _, D0⟩
  case round =>
    obtain ⟨k, hk, rfl, hall, hQ, hD⟩ := hrel
    clear D0
    have D := hD
    clear hD
    by_cases hkn : k < n
    · obtain ⟨g0, off0, rfl, hg0, hr0⟩ := (unhide hPl).resolve_left (by omega)
      have hpt := hide (at_below (hr0 k hkn) (unhide D).o hg0)
      have hpt0 := hide (hr0 k hkn)
      have hsz := hide (show w.heap.size + 2 ≤ wr.heap.size from ((unhide D).blk (g := w.heap.size + 1) (t := 26) (cs := (v3 b.1 b.2.1 b.2.2)) (by repeat (first | exact List.mem_cons_self | apply List.mem_cons_of_mem))).lt)
      clear hr0 hPl
      generalize hs : small7 (ps k) = sk
      have hsm : Hid (Ans 65 #[.agg (v3 (ps k).1 (ps k).2.1 (ps k).2.2)] (.bool sk)) := by have := Small7Z (ps k); rwa [hs] at this
      cases sk
      · clear hs hQ hall
        go_wp2_with (first | (with_reducible refine at_list ?_;  refine wpList_value rfl (exec_ixP _ elPoints _ _ hkn rfl rfl rfl) ?_) | (with_reducible refine at_list ?_;  refine wpList_value rfl (exec_ldP (.tmp 44) rfl rfl (unhide hpt)) ?_) | (go_at_call 65; with_reducible refine (unhide hsm _).mono ?_; rintro e w' ⟨he, hb⟩; subst he; have D := hide ((unhide D).keep hb); clear hb) | (go_at_call 53; with_reducible refine (unhide haw _).mono ?_; rintro e w' ⟨he, hb⟩; subst he; have D := hide ((unhide D).keep hb); clear hb))
        go_ret
        exact ⟨rfl, (unhide D).o⟩
      · have hsk := hide (small7_yes hs)
        clear hs
        go_upto_region 9 with (first | (with_reducible refine at_list ?_;  refine wpList_value rfl (exec_ixP _ elPoints _ _ hkn rfl rfl rfl) ?_) | (with_reducible refine at_list ?_;  refine wpList_value rfl (exec_ldP (.tmp 44) rfl rfl (unhide hpt)) ?_) | (go_at_call 65; with_reducible refine (unhide hsm _).mono ?_; rintro e w1 ⟨he, hb1⟩; subst he; have hQ1 := hide (own_below (unhide hQ) hb1); have D1 := hide ((unhide D).keep hb1); have hsz1 := hide (Nat.le_trans (unhide hsz) hb1.size); clear hb1))
        clear hpt hsm hQ D hsz
        have Dd := (unhide D1).drew
        have Qd := (unhide hQ1).drew
        refine region_walk (S := Gen w [(w.heap.size + 1, 26, (v3 b.1 b.2.1 b.2.2)), (w.heap.size, 26, (v3 p.1 p.2.1 p.2.2))]) (l := [0, 1, 2, 3, 4, 5, 6, 7, 8, 9]) (t := [6, 7, 8]) (by kernel_rfl) (by kernel_rfl) (by kernel_rfl) (by kernel_rfl) (by kernel_rfl) (by kernel_rfl) (by kernel_rfl) (by kernel_rfl) Dd ?_
        refine walk_read (v := u7) rfl rfl rfl (fun u hS => by go_simp) ?_
        try go_simp
        refine walk_read (v := .slice (some ⟨g0, off0, none⟩) n c) rfl rfl rfl (fun u hS => by go_simp) ?_
        try go_simp
        refine walk_read (v := .int .i64 k) rfl rfl rfl (fun u hS => by go_simp) ?_
        try go_simp
        refine walk_read (v := .pointer (some ⟨g0, off0 + k * 3, none⟩)) rfl rfl rfl (fun u hS => exec_ixP u elPoints (.tmp 50) (.tmp 51) hkn rfl rfl rfl) ?_
        try go_simp
        refine walk_read (v := .agg (v3 (ps k).1 (ps k).2.1 (ps k).2.2)) rfl rfl rfl (fun u hS => exec_ldP (.tmp 52) rfl rfl (at_below (unhide hpt0) hS.o hg0)) ?_
        try go_simp
        refine walk_read (v := .agg (v3 b.1 b.2.1 b.2.2)) rfl rfl rfl (fun u hS => exec_loadG (g := w.heap.size + 1) (cs := (v3 b.1 b.2.1 b.2.2)) hS rPoint _ rfl rfl (by repeat (first | exact List.mem_cons_self | apply List.mem_cons_of_mem)) rfl) ?_
        try go_simp
        refine walk_call (f := 66) (args := #[.agg (v3 (ps k).1 (ps k).2.1 (ps k).2.2), .agg (v3 b.1 b.2.1 b.2.2)]) rfl rfl rfl (by go_simp) ?_
        refine (Moved7Z (ps k) b (unhide hsk) (unhide hsb) _).mono fun e w2 ⟨he, hb2⟩ => ?_
        have D2 := Dd.keep hb2
        have Q2 := own_below Qd hb2
        have Z2 : w.heap.size + 2 ≤ w2.heap.size := Nat.le_trans (unhide hsz1) hb2.size
        refine ⟨_, he, D2, ?_⟩
        clear he hb2
        go_simp
        have D3 := D2.push 26 (v3 (mvP b (ps k)).1 (mvP b (ps k)).2.1 (mvP b (ps k)).2.2)
        have Q3 := Q2.alloc (.cells (v3 (mvP b (ps k)).1 (mvP b (ps k)).2.1 (mvP b (ps k)).2.2) 26)
        obtain ⟨v4, W4, r4, Q4, G4⟩ := app_ptP (w2.alloc (.cells (v3 (mvP b (ps k)).1 (mvP b (ps k)).2.1 (mvP b (ps k)).2.2) 26)) (w.heap.size + 2) 65 u7 k (cellsN k (mvF b ps)) w2.heap.size _ _ _ Q3 (D3.blk (g := w2.heap.size) (t := 26) (cs := v3 (mvP b (ps k)).1 (mvP b (ps k)).2.1 (mvP b (ps k)).2.2) (by repeat (first | exact List.mem_cons_self | apply List.mem_cons_of_mem))) (by omega) (by simp only [szA]; omega)
        have D4 := D3.tail.grownRow G4 (fun j e => ⟨by have := (Q3.lt j e).1; omega, fun q hq => by
          have := (Q3.lt j e).1
          simp only [List.mem_cons, List.not_mem_nil, or_false] at hq
          rcases hq with rfl | rfl <;> (show _ ≠ j; omega)⟩)
        refine walk_turn (v := .slice (some ⟨w2.heap.size, 0, none⟩) 1 1) rfl rfl rfl (exec_bs1P _ (.tmp 55) rfl rfl) D3.tail ?_
        try go_simp
        refine walk_turn (v := v4) rfl rfl rfl (exec_append (v := u7) (y := .slice (some ⟨w2.heap.size, 0, none⟩) 1 1) 65 (.tmp 49) (.tmp 56) rfl rfl rfl r4) D4 ?_
        try go_simp
        refine walk_read (v := v4) rfl rfl rfl (fun u hS => by go_simp) ?_
        try go_simp
        refine walk_end ?_
        have D5 := hide D4
        have Q5 : Hid (W4.ownsRow (w.heap.size + 2) 26 3 v4 (k + 1) (cellsN (k + 1) (mvF b ps))) := by rw [cellsN_succ]; exact Q4
        clear D4 Q4 D3 Q3 D2 Q2 Dd Qd r4 G4 D1 hQ1
        go_wp2
        go_roundw
        case rel => exact ⟨k + 1, by omega, by go_num, fun j hj => by rcases Nat.lt_succ_iff_lt_or_eq.1 hj with h | rfl; exact unhide hall j h; exact unhide hsk, Q5, D5⟩
        case measure => simp [intOf]; omega
    · obtain rfl : k = n := by omega
      have hk' := unhide hall
      have hE : spE k ps = 0 := by
        unfold spE
        rw [allQ_far (fun i hi => chk_of (hk' i hi)), show decide ((k : Int) ≤ 256) = true from decide_eq_true (by omega)]
        rfl
      have hE2 : spE k (mvF b ps) = 0 := by rw [spE_moved (unhide hsb) hk']; exact hE
      obtain ⟨A', c', rfl, hnc', hPm⟩ := own_row0 (unhide hQ)
      have hPw := (unhide hPl).below (unhide D).o
      have hMq := hide (Moved7Z p b (unhide hsp) (unhide hsb))
      have hS1 := hide (fun (u : World) (hu : Below wr.heap.size wr u) => SpreadYes A k c ps u (by omega) (hPw.below hu) hE)
      have hS2 := hide (fun (u : World) (hu : Below wr.heap.size wr u) => by
        have := SpreadYes A' k c' (mvF b ps) u (by omega) (hPm.below hu) hE2
        rw [spS_moved] at this
        exact this)
      have hI1 := hide (fun (u : World) (hu : Below wr.heap.size wr u) => InsideF A k c ps p u (by omega) hnc (hPw.below hu))
      have hI2 := hide (fun (u : World) (hu : Below wr.heap.size wr u) => by
        have := InsideF A' k c' (mvF b ps) (mvP b p) u (by omega) hnc' (hPm.below hu)
        rw [insB_moved (unhide hsb) (unhide hsp) hk', insE_moved (unhide hsb) (unhide hsp) hk'] at this
        exact this)
      have hV1 := hide (fun (u : World) (hu : Below wr.heap.size wr u) => VolumeO A k c ps u (by omega) (hPw.below hu))
      have hV2 := hide (fun (u : World) (hu : Below wr.heap.size wr u) => by
        have := VolumeO A' k c' (mvF b ps) u (by omega) (hPm.below hu)
        rw [vlI_moved (unhide hsb) hk', vlE_moved (unhide hsb) hk'] at this
        exact this)
      have hm4 := hide (spS_len ps k)
      generalize spS ps k = l at *
      generalize hml : l.length = m at *
      generalize insB k ps p = ib at *
      generalize insE k ps p = ie at *
      generalize vlI k ps = vi at *
      generalize vlE k ps = ve at *
      have hB0 := hide (unhide D).o
      have D' := hide (Gen.two ((unhide D).blk (g := w.heap.size + 1) (t := 26) (cs := (v3 b.1 b.2.1 b.2.2)) (by repeat (first | exact List.mem_cons_self | apply List.mem_cons_of_mem))) ((unhide D).blk (g := w.heap.size) (t := 26) (cs := (v3 p.1 p.2.1 p.2.2)) (by repeat (first | exact List.mem_cons_self | apply List.mem_cons_of_mem))))
      clear D hQ hall hPl hk' hE hE2 hPw hPm hsp hsb hnc hnc'
      have D := D'
      clear D'
      go_upto_region 11 with (first | (with_reducible refine at_list ?_; apply ldG (unhide D) rPoint _ rfl rfl rfl (by repeat (first | exact List.mem_cons_self | apply List.mem_cons_of_mem)) rfl) | (go_at_call 66; with_reducible refine (unhide hMq _).mono ?_; rintro e w' ⟨he, hb⟩; subst he; have D := hide ((unhide D).keep hb); clear hb) | (with_reducible refine at_list ?_; refine stG (unhide D) rPoint _ _ rfl rfl rfl rfl rfl rfl (v3_one' _ _ _) ?_; intro D'; have D := hide D'; clear D'))
      clear hMq
      generalize w'.heap.size = gq at *
      go_upto_region 12 with (first | (go_at_call 60; with_reducible refine (unhide hS1 _ (unhide D).o).mono ?_; rintro e w1 ⟨⟨v, he, hown⟩, hb⟩; subst he; have J1 := hide hown; have D := hide ((unhide D).keep hb); clear hb hown))
      obtain ⟨A1, c1, rfl⟩ := own_int (unhide J1)
      clear hS1
      go_upto_region 13 with (first | (go_at_call 60; with_reducible refine (unhide hS2 _ (unhide D).o).mono ?_; rintro e w2 ⟨⟨v, he, hown⟩, hb⟩; subst he; have J1 := hide (own_below (unhide J1) hb); have J2 := hide hown; have D := hide ((unhide D).keep hb); clear hb hown))
      obtain ⟨A2, c2, rfl⟩ := own_int (unhide J2)
      clear hS2
      have hB1 := hide (unhide D).o
      have hSame : Hid (∀ u, Below w2.heap.size w2 u → Calls Try.prog 62 #[.slice A1 m c1, .slice A2 m c2] u fun e w' => e = .returned (.bool true) ∧ Below u.heap.size u w') := fun u hu => by
        refine same7_core A1 A2 m c1 c2 (fun i => l.getD i 0) u (unhide hm4) ?_
        rcases Nat.eq_zero_or_pos m with h0 | h0
        · exact .inl h0
        · obtain ⟨g, rfl, _, hg, hc⟩ := own_ints (unhide J1) h0
          obtain ⟨g', rfl, _, hg', hc'⟩ := own_ints (unhide J2) h0
          exact .inr ⟨g, g', rfl, rfl, Nat.lt_of_lt_of_le hg hu.size, Nat.lt_of_lt_of_le hg' hu.size, fun i hi => ⟨(hu.cell (p := ⟨g, i, none⟩) hg).trans (hc i hi), (hu.cell (p := ⟨g', i, none⟩) hg').trans (hc' i hi)⟩⟩
      have D' := hide (Gen.three ((unhide D).blk (g := gq) (t := 26) (cs := (v3 (mvP b p).1 (mvP b p).2.1 (mvP b p).2.2)) (by repeat (first | exact List.mem_cons_self | apply List.mem_cons_of_mem))) ((unhide D).blk (g := w.heap.size + 1) (t := 26) (cs := (v3 b.1 b.2.1 b.2.2)) (by repeat (first | exact List.mem_cons_self | apply List.mem_cons_of_mem))) ((unhide D).blk (g := w.heap.size) (t := 26) (cs := (v3 p.1 p.2.1 p.2.2)) (by repeat (first | exact List.mem_cons_self | apply List.mem_cons_of_mem))))
      have hI1 := hide (fun (u : World) (hu : Below w2.heap.size w2 u) => unhide hI1 u ((unhide hB1).trans (hu.mono (unhide hB1).size)))
      have hI2 := hide (fun (u : World) (hu : Below w2.heap.size w2 u) => unhide hI2 u ((unhide hB1).trans (hu.mono (unhide hB1).size)))
      have hV1 := hide (fun (u : World) (hu : Below w2.heap.size w2 u) => unhide hV1 u ((unhide hB1).trans (hu.mono (unhide hB1).size)))
      have hV2 := hide (fun (u : World) (hu : Below w2.heap.size w2 u) => unhide hV2 u ((unhide hB1).trans (hu.mono (unhide hB1).size)))
      have hvv := hide (show same (enc vi) (enc vi) = true from decide_eq_true rfl)
      clear D J1 J2 hm4 hml
      have D := D'
      clear D'
      go_upto_region 14 with (first | (with_reducible refine at_list ?_; apply ldG (unhide D) rPoint _ rfl rfl rfl (by repeat (first | exact List.mem_cons_self | apply List.mem_cons_of_mem)) rfl) | (go_at_call 63; with_reducible refine (unhide hI1 _ (unhide D).o).mono ?_; rintro e w' ⟨he, hb⟩; subst he; have D := hide ((unhide D).keep hb); clear hb))
      clear hI1
      go_upto_region 15 with (first | (with_reducible refine at_list ?_; apply ldG (unhide D) rPoint _ rfl rfl rfl (by repeat (first | exact List.mem_cons_self | apply List.mem_cons_of_mem)) rfl) | (go_at_call 63; with_reducible refine (unhide hI2 _ (unhide D).o).mono ?_; rintro e w' ⟨he, hb⟩; subst he; have D := hide ((unhide D).keep hb); clear hb))
      clear hI2
      go_upto_region 16 with (first | (go_at_call 56; with_reducible refine (unhide hV1 _ (unhide D).o).mono ?_; rintro e w' ⟨he, hb⟩; subst he; have D := hide ((unhide D).keep hb); clear hb) | (with_reducible refine at_list ?_; refine stG (unhide D) rWide _ _ rfl rfl rfl rfl rfl rfl (cells8_one _) ?_; intro D'; have D := hide D'; clear D'))
      clear hV1
      go_upto_region 17 with (first | (go_at_call 56; with_reducible refine (unhide hV2 _ (unhide D).o).mono ?_; rintro e w' ⟨he, hb⟩; subst he; have D := hide ((unhide D).keep hb); clear hb) | (with_reducible refine at_list ?_; refine stG (unhide D) rWide _ _ rfl rfl rfl rfl rfl rfl (cells8_one _) ?_; intro D'; have D := hide D'; clear D'))
      clear hV2
      go_wp2_with (first | (go_at_call 62; with_reducible refine (unhide hSame _ (unhide D).o).mono ?_; rintro e w' ⟨he, hb⟩; subst he; have D := hide ((unhide D).keep hb); clear hb) | (with_reducible refine at_list ?_; apply ldGw (unhide D) rWide _ rfl rfl rfl (by repeat (first | exact List.mem_cons_self | apply List.mem_cons_of_mem)) rfl) | (with_reducible refine at_list ?_;  refine wpList_valuew rfl (exec_eql_wide_is _ _ _ (unhide hvv) rfl rfl rfl) ?_) | (go_at_call 53; with_reducible refine (unhide haw _).mono ?_; rintro e w' ⟨he, hb⟩; subst he; have D := hide ((unhide D).keep hb); clear hb))
      go_ret
      exact ⟨rfl, (unhide hB0).trans (((unhide hB1).trans ((unhide D).o.mono (unhide hB1).size)).mono (unhide hB0).size)⟩

theorem orientMoved_all (A : Option Addr) (n c : Nat) (ps : Nat → Pt) (p b : Pt) (w : World) (hnc : n ≤ c) (hP : PRow w A n ps) :
    Calls Try.prog 18 #[.slice A n c, .agg (v3 p.1 p.2.1 p.2.2), .agg (v3 b.1 b.2.1 b.2.2)] w fun e w' => e = .returned (.bool true) ∧ Below w.heap.size w w' := by
  have hsp := Small7Z p
  have hsb := Small7Z b
  cases h : decide ((100 : Int) < (n : Int))
  · cases hp : small7 p
    · rw [hp] at hsp
      exact moved_p A n c p b w h hsp awake7Z
    · rw [hp] at hsp
      cases hb : small7 b
      · rw [hb] at hsb
        exact moved_b A n c p b w h hsp hsb awake7Z
      · rw [hb] at hsb
        exact moved_all A n c ps p b w (by have := of_decide_eq_false h; omega) hnc hP h hsp hsb (small7_yes hp) (small7_yes hb) awake7Z
  · exact moved_long A n c p b w h awake7Z

end Go.Proofs.Ytnknejdmoghmiaa
