/- Package vec: Cross. -/
import Derived.Test.YtljggjnaolbapaaGreatVg
namespace Go.Proofs.YtljggjnaolbapaaGreat
open Go.RowKit
set_option maxRecDepth 4000
set_option linter.unusedVariables false

structure GenZ (w0 : World) (l : List (Nat × TypeId × Array Value)) (B : Nat) (w : World) : Prop where
  e : Gen w0 l w
  s : B ≤ w.heap.size
theorem GenZ.keep {w0 w w' : World} {l : List (Nat × TypeId × Array Value)} {B : Nat} (d : GenZ w0 l B w) (hb : Below w.heap.size w w') : GenZ w0 l B w' := ⟨d.e.keep hb, Nat.le_trans d.s hb.size⟩
theorem TurnedZ (x y z : Int) : Ans 54 #[.agg (v3 x y z)] (.agg (v3 y z x)) := by
  intro w
  go_enter Tryz.func54, Tryz.ntmps54
  go_wp2
  exact resG rVec (Blk.at (by simp) rfl) rfl rfl rfl rfl ⟨rfl, below2 w _ _⟩
theorem Gen.third {u w0 : World} {g0 g1 g2 : Nat} {t0 t1 t2 : TypeId} {c0 c1 c2 : Array Value} (h0 : Blk u g0 t0 c0) (h1 : Blk u g1 t1 c1) (h2 : Blk u g2 t2 c2) (o : Below w0.heap.size w0 u) : Gen w0 [(g0, t0, c0), (g1, t1, c1), (g2, t2, c2)] u := by
  refine ⟨fun p hp => ?_, o⟩
  simp only [List.mem_cons, List.not_mem_nil, or_false] at hp
  rcases hp with rfl | rfl | rfl
  · exact h0
  · exact h1
  · exact h2
theorem iVec3 : (Tryz.prog.info? 24).map (·.size) = some 3 := by kernel_rfl

set_option maxHeartbeats 2000000 in
theorem cross_core (ax ay az bx b_y bz_ x y z : Int) (w : World)
    (hE : Hid (∀ u g0 g1 g2 g3, Blk u g0 24 (v3 ay az ax) → Blk u g1 24 (v3 bz_ bx b_y) → Blk u g2 24 (v3 az ax ay) → Blk u g3 24 (v3 b_y bz_ bx) →
      Calls Tryz.prog 40 #[.func (Fn.func 55) #[] #[.pointer (some ⟨g0, 0, none⟩), .pointer (some ⟨g1, 0, none⟩), .pointer (some ⟨g2, 0, none⟩), .pointer (some ⟨g3, 0, none⟩)]] u fun e w' => e = .returned (.agg (v3 x y z)) ∧ Below u.heap.size u w')) :
    Calls Tryz.prog 20 #[.agg (v3 ax ay az), .agg (v3 bx b_y bz_)] w fun e w' => e = .returned (.agg (v3 x y z)) ∧ Below w.heap.size w w' := by
  go_enter Tryz.func20, Tryz.ntmps20
  go_upto_region 1 with fail
  have D := hide ((((Gen.start w).push 24 (v3 ax ay az)).push 24 (v3 bx b_y bz_)).push 24 (v3 0 0 0))
  simp only [szA] at D
  generalize hw1 : (((w.alloc (.cells (v3 ax ay az) 24)).alloc (.cells (v3 bx b_y bz_) 24)).alloc (.cells (v3 0 0 0) 24)) = w1 at D ⊢
  have hs1 : w1.heap.size = w.heap.size + 1 + 1 + 1 := by rw [← hw1]; simp
  clear hw1
  have D1 : Hid (GenZ w _ (w.heap.size + 1 + 1 + 1) w1.drew) := ⟨(unhide D).drew, by show _ ≤ w1.heap.size; omega⟩
  clear D
  refine region_allocs (S := GenZ w _ (w.heap.size + 1 + 1 + 1)) (t := 24) (z := v3 0 0 0) (base := w.heap.size + 1 + 1 + 1) (l := [0, 1, 2, 3]) (A := [4, 5]) (T := [6, 7]) (by kernel_rfl) (by kernel_rfl) (by kernel_rfl) (by kernel_rfl) (by kernel_rfl) (by kernel_rfl) (by kernel_rfl) (by kernel_rfl) (by kernel_rfl) (by kernel_rfl) ?_ (fun _ _ h hb => h.keep hb) (fun _ h => h.s) (unhide D1) ?_
  · intro i hi
    simp at hi
    rcases hi with rfl | rfl
    · exact ⟨_, rfl, rfl, fun a w => by go_simp⟩
    · exact ⟨_, rfl, rfl, fun a w => by go_simp⟩
  clear D1
  refine planB_read (v := .agg (v3 ax ay az)) rfl rfl (fun u hS => exec_loadG hS.e rVec _ rfl rfl (by repeat (first | exact List.mem_cons_self | apply List.mem_cons_of_mem)) rfl) ?_
  go_simp
  refine planB_call (v := .agg (v3 ay az ax)) (f := 54) (args := #[.agg (v3 ax ay az)]) rfl rfl (fun u hS => by go_simp) (fun u hS => (TurnedZ ax ay az u).mono fun _ _ ⟨he, hb⟩ => ⟨he, hS.keep hb, hb⟩) ?_
  go_simp
  refine planB_read (v := .agg (v3 bx b_y bz_)) rfl rfl (fun u hS => exec_loadG hS.e rVec _ rfl rfl (by repeat (first | exact List.mem_cons_self | apply List.mem_cons_of_mem)) rfl) ?_
  go_simp
  refine planB_call (v := .agg (v3 b_y bz_ bx)) (f := 54) (args := #[.agg (v3 bx b_y bz_)]) rfl rfl (fun u hS => by go_simp) (fun u hS => (TurnedZ bx b_y bz_ u).mono fun _ _ ⟨he, hb⟩ => ⟨he, hS.keep hb, hb⟩) ?_
  go_simp
  refine planB_tail (fun c u hS hB hI => ?_)
  have h4 := hB 4 (by simp)
  have h5 := hB 5 (by simp)
  have hne : c 4 ≠ c 5 := fun hc => by have := hI 4 (by simp) 5 (by simp) hc; omega
  simp only [pa, dstOf, opsOf]
  have B2 := hide (hS.e.blk (g := w.heap.size + 1 + 1) (t := 24) (cs := v3 0 0 0) (by repeat (first | exact List.mem_cons_self | apply List.mem_cons_of_mem)))
  have O := hide hS.e.o
  generalize c 4 = c4 at h4 hne ⊢
  generalize c 5 = c5 at h5 hne ⊢
  clear hS hB hI
  have G := hide (Gen.third (((unhide B2).rowOther (v3 ay az ax) (by omega)).rowOther (v3 b_y bz_ bx) (by omega)) ((h4.1.row (v3 ay az ax)).rowOther (v3 b_y bz_ bx) hne) ((h5.1.rowOther (v3 ay az ax) (Ne.symm hne)).row (v3 b_y bz_ bx)) (below_row (below_row (unhide O) (by omega) (v3 ay az ax)) (by omega) (v3 b_y bz_ bx)))
  have H4 := hide h4
  have H5 := hide (h5.1.rowOther (v3 ay az ax) (Ne.symm hne))
  have L5 := hide (show w.heap.size + 1 + 1 < c4 ∧ w.heap.size + 1 + 1 < c5 by omega)
  clear h4 h5 B2 O
  refine wpList_store_row rfl 24 (.tmp 5) (.tmp 10) rfl _ (v3 ay az ax) rfl rfl 24 _ (unhide H4).1 iVec3 rfl (v3_one _ _ _) ?_
  refine wpList_store_row rfl 24 (.tmp 6) (.tmp 12) rfl _ (v3 b_y bz_ bx) rfl rfl 24 _ (unhide H5) iVec3 rfl (v3_one _ _ _) ?_
  generalize (u.setRow c4 (v3 ay az ax)).setRow c5 (v3 b_y bz_ bx) = u1 at G ⊢
  clear H4 H5
  go_simp
  go_upto_region 2 with fail
  have D1 : Hid (GenZ w _ u1.heap.size u1.drew) := ⟨(unhide G).drew, Nat.le_refl _⟩
  have lt2 := hide (show w.heap.size + 1 + 1 < u1.heap.size ∧ c4 < u1.heap.size ∧ c5 < u1.heap.size from ⟨((unhide G).at_ _ List.mem_cons_self).lt, ((unhide G).at_ _ (List.mem_cons_of_mem _ List.mem_cons_self)).lt, ((unhide G).at_ _ (List.mem_cons_of_mem _ (List.mem_cons_of_mem _ List.mem_cons_self))).lt⟩)
  clear G
  refine region_allocs (S := GenZ w _ u1.heap.size) (t := 24) (z := v3 0 0 0) (base := u1.heap.size) (l := [0, 1, 2, 3]) (A := [4, 5]) (T := [6, 7]) (by kernel_rfl) (by kernel_rfl) (by kernel_rfl) (by kernel_rfl) (by kernel_rfl) (by kernel_rfl) (by kernel_rfl) (by kernel_rfl) (by kernel_rfl) (by kernel_rfl) ?_ (fun _ _ h hb => h.keep hb) (fun _ h => h.s) (unhide D1) ?_
  · intro i hi
    simp at hi
    rcases hi with rfl | rfl
    · exact ⟨_, rfl, rfl, fun a w => by go_simp⟩
    · exact ⟨_, rfl, rfl, fun a w => by go_simp⟩
  clear D1
  refine planB_read (v := .agg (v3 ay az ax)) rfl rfl (fun u hS => exec_loadG hS.e rVec _ rfl rfl (by repeat (first | exact List.mem_cons_self | apply List.mem_cons_of_mem)) rfl) ?_
  go_simp
  refine planB_call (v := .agg (v3 az ax ay)) (f := 54) (args := #[.agg (v3 ay az ax)]) rfl rfl (fun u hS => by go_simp) (fun u hS => (TurnedZ ay az ax u).mono fun _ _ ⟨he, hb⟩ => ⟨he, hS.keep hb, hb⟩) ?_
  go_simp
  refine planB_read (v := .agg (v3 b_y bz_ bx)) rfl rfl (fun u hS => exec_loadG hS.e rVec _ rfl rfl (by repeat (first | exact List.mem_cons_self | apply List.mem_cons_of_mem)) rfl) ?_
  go_simp
  refine planB_call (v := .agg (v3 bz_ bx b_y)) (f := 54) (args := #[.agg (v3 b_y bz_ bx)]) rfl rfl (fun u hS => by go_simp) (fun u hS => (TurnedZ b_y bz_ bx u).mono fun _ _ ⟨he, hb⟩ => ⟨he, hS.keep hb, hb⟩) ?_
  go_simp
  refine planB_tail (fun c u hS hB hI => ?_)
  have h4 := hB 4 (by simp)
  have h5 := hB 5 (by simp)
  have hne2 : c 4 ≠ c 5 := fun hc => by have := hI 4 (by simp) 5 (by simp) hc; omega
  simp only [pa, dstOf, opsOf]
  have B2 := hide (hS.e.blk (g := w.heap.size + 1 + 1) (t := 24) (cs := v3 0 0 0) (by repeat (first | exact List.mem_cons_self | apply List.mem_cons_of_mem)))
  have B4 := hide (hS.e.blk (g := c4) (t := 24) (cs := v3 ay az ax) (by repeat (first | exact List.mem_cons_self | apply List.mem_cons_of_mem)))
  have B5 := hide (hS.e.blk (g := c5) (t := 24) (cs := v3 b_y bz_ bx) (by repeat (first | exact List.mem_cons_self | apply List.mem_cons_of_mem)))
  have O := hide hS.e.o
  generalize c 4 = d4 at h4 hne2 ⊢
  generalize c 5 = d5 at h5 hne2 ⊢
  clear hS hB hI
  have lt3 := unhide lt2
  have F2 := hide (((unhide B2).rowOther (v3 az ax ay) (show w.heap.size + 1 + 1 ≠ d4 by omega)).rowOther (v3 bz_ bx b_y) (show w.heap.size + 1 + 1 ≠ d5 by omega))
  have F4 := hide (((unhide B4).rowOther (v3 az ax ay) (show c4 ≠ d4 by omega)).rowOther (v3 bz_ bx b_y) (show c4 ≠ d5 by omega))
  have F5 := hide (((unhide B5).rowOther (v3 az ax ay) (show c5 ≠ d4 by omega)).rowOther (v3 bz_ bx b_y) (show c5 ≠ d5 by omega))
  have E4 := hide ((h4.1.row (v3 az ax ay)).rowOther (v3 bz_ bx b_y) hne2)
  have E5 := hide ((h5.1.rowOther (v3 az ax ay) (Ne.symm hne2)).row (v3 bz_ bx b_y))
  have O2 := hide (below_row (below_row (unhide O) (show w.heap.size ≤ d4 by omega) (v3 az ax ay)) (show w.heap.size ≤ d5 by omega) (v3 bz_ bx b_y))
  refine wpList_store_row rfl 24 (.tmp 7) (.tmp 14) rfl _ (v3 az ax ay) rfl rfl 24 _ h4.1 iVec3 rfl (v3_one _ _ _) ?_
  refine wpList_store_row rfl 24 (.tmp 8) (.tmp 16) rfl _ (v3 bz_ bx b_y) rfl rfl 24 _ (h5.1.rowOther (v3 az ax ay) (Ne.symm hne2)) iVec3 rfl (v3_one _ _ _) ?_
  generalize (u.setRow d4 (v3 az ax ay)).setRow d5 (v3 bz_ bx b_y) = u2 at F2 F4 F5 E4 E5 O2 ⊢
  clear h4 h5 hne hne2 B2 B4 B5 O lt2 lt3 L5
  have D : Hid (Gen w [(w.heap.size + 1 + 1, 24, v3 0 0 0)] u2) := ⟨fun p hp => by rw [List.mem_singleton.1 hp]; exact unhide F2, unhide O2⟩
  have hC := hide (unhide hE u2 c4 d5 d4 c5 (unhide F4) (unhide E5) (unhide E4) (unhide F5))
  clear F2 F4 F5 E4 E5 O2 hE
  go_simp
  go_wp2_with (first | (go_at_call 40; with_reducible refine (unhide hC).mono ?_; rintro e w' ⟨he, hb⟩; subst he; have D := hide ((unhide D).keep hb); clear hb) | (with_reducible refine at_list ?_; apply stGend (unhide D) rVec _ _ rfl rfl rfl rfl (by repeat (first | exact List.mem_cons_self | apply List.mem_cons_of_mem)) (by omega) rfl rfl (v3_one _ _ _); intro B O))
  exact resG rVec (unhide B) rfl rfl rfl rfl ⟨rfl, unhide O⟩

end Go.Proofs.YtljggjnaolbapaaGreat
