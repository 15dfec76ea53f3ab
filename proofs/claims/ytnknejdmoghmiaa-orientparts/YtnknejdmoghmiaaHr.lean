/- Package orient: Volume; the law OrientParts. -/
import Derived.Test.YtnknejdmoghmiaaHo
namespace Go.Proofs.Ytnknejdmoghmiaa
open Go.RowKit
set_option maxRecDepth 4000
set_option linter.unusedVariables false

theorem volF_7 (A : Option Addr) (n c : Nat) (w : World)
    (hR : Hid (∀ u, Below w.heap.size w u → Calls Try.prog 105 #[.int .i64 8, .func (Fn.func 110) #[] #[], .slice A n c] u fun x w' => x = .returned (.int .i64 7) ∧ Below u.heap.size u w')) :
    Calls Try.prog 56 #[.slice A n c] w fun e w' => e = .returned (.tuple #[.agg (cells8 0), .int .i64 7]) ∧ Below w.heap.size w w' := by
  go_enter Try.func56, Try.ntmps56
  go_upto_region 1 with fail
  have D := hide ((Gen.start w).push 40 z8)
  go_wp2_with (first | (go_at_call 105; with_reducible refine (unhide hR _ (unhide D).o).mono ?_; rintro e w' ⟨he, hb⟩; subst he; have D := hide ((unhide D).keep hb); clear hb) | (with_reducible refine at_list ?_;  refine wpList_value rfl (exec_build0 _ 40 rfl bWide0) ?_) | (with_reducible refine at_list ?_; apply stGend (unhide D) rWide _ _ rfl rfl rfl rfl (by repeat (first | exact List.mem_cons_self | apply List.mem_cons_of_mem)) (by omega) rfl rfl (cells8_one _); intro B O))
  exact resGT rWide (unhide B) rfl rfl rfl rfl rfl ⟨rfl, unhide O⟩
theorem volF_8 (A : Option Addr) (n c : Nat) (w : World)
    (hR : Hid (∀ u, Below w.heap.size w u → Calls Try.prog 105 #[.int .i64 8, .func (Fn.func 110) #[] #[], .slice A n c] u fun x w' => x = .returned (.int .i64 8) ∧ Below u.heap.size u w')) :
    Calls Try.prog 56 #[.slice A n c] w fun e w' => e = .returned (.tuple #[.agg (cells8 0), .int .i64 8]) ∧ Below w.heap.size w w' := by
  go_enter Try.func56, Try.ntmps56
  go_upto_region 1 with fail
  have D := hide ((Gen.start w).push 40 z8)
  go_wp2_with (first | (go_at_call 105; with_reducible refine (unhide hR _ (unhide D).o).mono ?_; rintro e w' ⟨he, hb⟩; subst he; have D := hide ((unhide D).keep hb); clear hb) | (with_reducible refine at_list ?_;  refine wpList_value rfl (exec_build0 _ 40 rfl bWide0) ?_) | (with_reducible refine at_list ?_; apply stGend (unhide D) rWide _ _ rfl rfl rfl rfl (by repeat (first | exact List.mem_cons_self | apply List.mem_cons_of_mem)) (by omega) rfl rfl (cells8_one _); intro B O))
  exact resGT rWide (unhide B) rfl rfl rfl rfl rfl ⟨rfl, unhide O⟩
set_option maxHeartbeats 2000000 in
theorem volF_0 (g off c : Nat) (q0 q1 q2 q3 : Pt) (v : Nat) (w : World) (hg : g < w.heap.size)
    (r0 : Hid (w.rangeAt g (off + 0 * 3) (v3 q0.1 q0.2.1 q0.2.2).toList)) (r1 : Hid (w.rangeAt g (off + 1 * 3) (v3 q1.1 q1.2.1 q1.2.2).toList)) (r2 : Hid (w.rangeAt g (off + 2 * 3) (v3 q2.1 q2.2.1 q2.2.2).toList)) (r3 : Hid (w.rangeAt g (off + 3 * 3) (v3 q3.1 q3.2.1 q3.2.2).toList))
    (hR : Hid (∀ u, Below w.heap.size w u → Calls Try.prog 105 #[.int .i64 8, .func (Fn.func 110) #[] #[], .slice (some ⟨g, off, none⟩) 4 c] u fun x w' => x = .returned (.int .i64 0) ∧ Below u.heap.size u w'))
    (hV : Hid (Ans 107 #[.agg (v3 q0.1 q0.2.1 q0.2.2), .agg (v3 q1.1 q1.2.1 q1.2.2), .agg (v3 q2.1 q2.2.1 q2.2.2), .agg (v3 q3.1 q3.2.1 q3.2.2)] (.agg (cells8 v)))) :
    Calls Try.prog 56 #[.slice (some ⟨g, off, none⟩) 4 c] w fun e w' => e = .returned (.tuple #[.agg (cells8 v), .int .i64 0]) ∧ Below w.heap.size w w' := by
  go_enter Try.func56, Try.ntmps56
  go_upto_region 1 with fail
  have D := hide ((Gen.start w).push 40 z8)
  go_upto_region 4 with (first | (go_at_call 105; with_reducible refine (unhide hR _ (unhide D).o).mono ?_; rintro e w' ⟨he, hb⟩; subst he; have D := hide ((unhide D).keep hb); clear hb))
  have D1 : Hid (Gen w [(w.heap.size, 40, bif false then cells8 v else z8)] w') := unhide D
  clear D hR
  refine region_planT (t := 13) (S := fun b u => Gen w [(w.heap.size, 40, bif b then cells8 v else z8)] u) (l := [0, 1, 2, 3, 4, 5, 6, 7, 8, 9, 10, 11, 12, 13, 14]) (by kernel_rfl) (by kernel_rfl) (by kernel_rfl) (by kernel_rfl) (by kernel_rfl) (by kernel_rfl) (by kernel_rfl) (by decide) (unhide D1).drew ?_
  clear D1
  refine planT_read (v := .slice (some ⟨g, off, none⟩) 4 c) rfl (by decide) rfl (fun b u hS => by go_simp) ?_
  go_simp
  refine planT_read (v := .pointer (some ⟨g, off + 0 * 3, none⟩)) rfl (by decide) rfl (fun b u hS => exec_ixP (g := g) (off := off) (n := 4) (c := c) (i := 0) u elPoints _ _ (by decide) rfl rfl rfl) ?_
  go_simp
  refine planT_read (v := .agg (v3 q0.1 q0.2.1 q0.2.2)) rfl (by decide) rfl (fun b u hS => exec_ldP (g := g) (k := off + 0 * 3) _ rfl rfl (at_below (unhide r0) hS.o hg)) ?_
  go_simp
  refine planT_read (v := .slice (some ⟨g, off, none⟩) 4 c) rfl (by decide) rfl (fun b u hS => by go_simp) ?_
  go_simp
  refine planT_read (v := .pointer (some ⟨g, off + 1 * 3, none⟩)) rfl (by decide) rfl (fun b u hS => exec_ixP (g := g) (off := off) (n := 4) (c := c) (i := 1) u elPoints _ _ (by decide) rfl rfl rfl) ?_
  go_simp
  refine planT_read (v := .agg (v3 q1.1 q1.2.1 q1.2.2)) rfl (by decide) rfl (fun b u hS => exec_ldP (g := g) (k := off + 1 * 3) _ rfl rfl (at_below (unhide r1) hS.o hg)) ?_
  go_simp
  refine planT_read (v := .slice (some ⟨g, off, none⟩) 4 c) rfl (by decide) rfl (fun b u hS => by go_simp) ?_
  go_simp
  refine planT_read (v := .pointer (some ⟨g, off + 2 * 3, none⟩)) rfl (by decide) rfl (fun b u hS => exec_ixP (g := g) (off := off) (n := 4) (c := c) (i := 2) u elPoints _ _ (by decide) rfl rfl rfl) ?_
  go_simp
  refine planT_read (v := .agg (v3 q2.1 q2.2.1 q2.2.2)) rfl (by decide) rfl (fun b u hS => exec_ldP (g := g) (k := off + 2 * 3) _ rfl rfl (at_below (unhide r2) hS.o hg)) ?_
  go_simp
  refine planT_read (v := .slice (some ⟨g, off, none⟩) 4 c) rfl (by decide) rfl (fun b u hS => by go_simp) ?_
  go_simp
  refine planT_read (v := .pointer (some ⟨g, off + 3 * 3, none⟩)) rfl (by decide) rfl (fun b u hS => exec_ixP (g := g) (off := off) (n := 4) (c := c) (i := 3) u elPoints _ _ (by decide) rfl rfl rfl) ?_
  go_simp
  refine planT_read (v := .agg (v3 q3.1 q3.2.1 q3.2.2)) rfl (by decide) rfl (fun b u hS => exec_ldP (g := g) (k := off + 3 * 3) _ rfl rfl (at_below (unhide r3) hS.o hg)) ?_
  go_simp
  refine planT_keep (v := .agg (cells8 v)) (f := 107) (args := #[.agg (v3 q0.1 q0.2.1 q0.2.2), .agg (v3 q1.1 q1.2.1 q1.2.2), .agg (v3 q2.1 q2.2.1 q2.2.2), .agg (v3 q3.1 q3.2.1 q3.2.2)]) rfl (by decide) rfl (fun b u hS => by go_simp) (fun b u hS => (unhide hV u).mono fun _ _ ⟨he, hb⟩ => ⟨he, hS.keep hb⟩) ?_
  go_simp
  refine planT_store rfl rfl (fun u hS => ⟨_, exec_store8 (n := v) 40 (.tmp 2) (.tmp 23) (hS.blk (g := w.heap.size) (t := 40) (cs := z8) (by repeat (first | exact List.mem_cons_self | apply List.mem_cons_of_mem))) rfl rfl rfl rfl iWide, ⟨fun k hk => ?_, below_row hS.o (Nat.le_refl _) _⟩⟩) ?_
  · simp only [List.mem_cons, List.not_mem_nil, or_false] at hk
    rcases hk with rfl
    exact (hS.blk (g := w.heap.size) (t := 40) (cs := z8) (by repeat (first | exact List.mem_cons_self | apply List.mem_cons_of_mem))).row _
  go_simp
  refine planT_read (v := ?_) rfl (by decide) rfl (fun b u hS => by go_simp; rfl) ?_
  go_simp
  refine planT_end (fun u hS => ?_)
  have B := hide (hS.blk (g := w.heap.size) (t := 40) (cs := cells8 v) (by repeat (first | exact List.mem_cons_self | apply List.mem_cons_of_mem)))
  have O := hide hS.o
  clear hS
  go_wp2
  exact resGT rWide (unhide B) rfl rfl rfl rfl rfl ⟨rfl, unhide O⟩
/-- Volume. -/
def vlE (n : Nat) (ps : Nat → Pt) : Int := bif allQ n ps then (bif (n : Int) == 4 then 0 else 8) else 7
def vlI (n : Nat) (ps : Nat → Pt) : Int := if vlE n ps = 0 then volP (ps 0) (ps 1) (ps 2) (ps 3) else 0
theorem vlE_cases (n : Nat) (ps : Nat → Pt) : (vlE n ps = 0 ∧ allQ n ps = true ∧ n = 4) ∨ vlE n ps = 7 ∨ vlE n ps = 8 := by
  unfold vlE
  cases allQ n ps
  · exact .inr (.inl rfl)
  · cases h : ((n : Int) == 4)
    · exact .inr (.inr rfl)
    · exact .inl ⟨rfl, rfl, by have := of_decide_eq_true h; omega⟩
theorem VolumeO (A : Option Addr) (n c : Nat) (ps : Nat → Pt) (w : World) (hn : n ≤ 9223372036854775807) (hP : PRow w A n ps) :
    Calls Try.prog 56 #[.slice A n c] w fun e w' => e = .returned (.tuple #[V (vlI n ps), .int .i64 (vlE n ps)]) ∧ Below w.heap.size w w' := by
  have hR := fun (E : Int) (hE : vlE n ps = E) u (hu : Below w.heap.size w u) => by
    have := RefFour 8 A n c ps u hn (hP.below hu)
    rw [show (bif allQ n ps then (bif (n : Int) == 4 then 0 else 8) else 7) = E from hE] at this
    exact this
  unfold vlI
  rcases vlE_cases n ps with ⟨h, ha, rfl⟩ | h | h
  · rw [h, if_pos rfl]
    obtain ⟨g, off, rfl, hg, hr⟩ := hP.resolve_left (by decide)
    have hq := allQ_iff.1 ha
    exact volF_0 g off c (ps 0) (ps 1) (ps 2) (ps 3) _ w hg (hr 0 (by decide)) (hr 1 (by decide)) (hr 2 (by decide)) (hr 3 (by decide)) (hR 0 h) (VolO _ _ _ _ _ _ _ _ _ _ _ _ (hq 0 (by decide)) (hq 1 (by decide)) (hq 2 (by decide)) (hq 3 (by decide)))
  · rw [h, if_neg (by decide)]
    exact volF_7 A n c w (hR 7 h)
  · rw [h, if_neg (by decide)]
    exact volF_8 A n c w (hR 8 h)

end Go.Proofs.Ytnknejdmoghmiaa
