/- Package vec's laws: VecTurned. -/
import Derived.Test.YtljggjnaolbapaaVu
namespace Go.Proofs.Ytljggjnaolbapaa
open Go.RowKit
set_option maxRecDepth 4000
set_option linter.unusedVariables false

theorem inner_core (a : Int) (A B : Bool) (w : World) (hA : decide (-9223372036854775807 < a) = A) (hB : decide (a < 9223372036854775807) = B) :
    Calls Try.prog 31 #[.int .i64 a] w fun e w' => e = .returned (.bool (A && B)) ∧ Below w.heap.size w w' := by
  go_enter Try.func31, Try.ntmps31
  cases A
  · go_wp2_with (first | (with_reducible refine at_list ?_;  refine gtrZ _ _ hA rfl rfl rfl rfl ?_))
    go_ret
    exact ⟨rfl, Below.refl _ _⟩
  · cases B
    · go_wp2_with (first | (with_reducible refine at_list ?_;  refine gtrZ _ _ hA rfl rfl rfl rfl ?_) | (with_reducible refine at_list ?_;  refine lssZw _ _ hB rfl rfl rfl rfl ?_))
      go_ret
      exact ⟨rfl, Below.refl _ _⟩
    · go_wp2_with (first | (with_reducible refine at_list ?_;  refine gtrZ _ _ hA rfl rfl rfl rfl ?_) | (with_reducible refine at_list ?_;  refine lssZw _ _ hB rfl rfl rfl rfl ?_))
      go_ret
      exact ⟨rfl, Below.refl _ _⟩
/-- Within, not at an end. -/
def inn (a : Int) : Bool := decide (-9223372036854775807 < a) && decide (a < 9223372036854775807)
theorem InnerZ (a : Int) : Ans 31 #[.int .i64 a] (.bool (inn a)) := fun w => inner_core a _ _ w rfl rfl
theorem opposite_F (a b : Int) (w : World) (hA : Hid (Ans 31 #[.int .i64 a] (.bool false))) :
    Calls Try.prog 18 #[.int .i64 a, .int .i64 b] w fun e w' => e = .returned (.bool true) ∧ Below w.heap.size w w' := by
  have D := hide (Gen.start w)
  go_enter Try.func18, Try.ntmps18
  go_wp2_with (first | (go_at_call 31; with_reducible refine (unhide hA _).mono ?_; rintro e w' ⟨he, hb⟩; subst he; have D := hide ((unhide D).keep hb); clear hb))
  go_ret
  exact ⟨rfl, (unhide D).o⟩
theorem opposite_TF (a b : Int) (w : World) (hA : Hid (Ans 31 #[.int .i64 a] (.bool true))) (hB : Hid (Ans 31 #[.int .i64 b] (.bool false))) :
    Calls Try.prog 18 #[.int .i64 a, .int .i64 b] w fun e w' => e = .returned (.bool true) ∧ Below w.heap.size w w' := by
  have D := hide (Gen.start w)
  go_enter Try.func18, Try.ntmps18
  go_wp2_with (first | (go_at_call 31; with_reducible refine (unhide hA _).mono ?_; rintro e w' ⟨he, hb⟩; subst he; have D := hide ((unhide D).keep hb); clear hb) | (go_at_call 31; with_reducible refine (unhide hB _).mono ?_; rintro e w' ⟨he, hb⟩; subst he; have D := hide ((unhide D).keep hb); clear hb))
  go_ret
  exact ⟨rfl, (unhide D).o⟩
theorem opposite_TTT (a b : Int) (w : World) (hA : Hid (Ans 31 #[.int .i64 a] (.bool true))) (hB : Hid (Ans 31 #[.int .i64 b] (.bool true))) (hC : (b == wrap64 (-a)) = true) :
    Calls Try.prog 18 #[.int .i64 a, .int .i64 b] w fun e w' => e = .returned (.bool true) ∧ Below w.heap.size w w' := by
  have D := hide (Gen.start w)
  go_enter Try.func18, Try.ntmps18
  go_wp2_with (first | (go_at_call 31; with_reducible refine (unhide hA _).mono ?_; rintro e w' ⟨he, hb⟩; subst he; have D := hide ((unhide D).keep hb); clear hb) | (go_at_call 31; with_reducible refine (unhide hB _).mono ?_; rintro e w' ⟨he, hb⟩; subst he; have D := hide ((unhide D).keep hb); clear hb) | (with_reducible refine at_list ?_;  refine eqlZw _ _ hC rfl rfl rfl rfl ?_))
  go_ret
  exact ⟨rfl, (unhide D).o⟩
theorem opposite_TTF (a b : Int) (w : World) (hA : Hid (Ans 31 #[.int .i64 a] (.bool true))) (hB : Hid (Ans 31 #[.int .i64 b] (.bool true))) (hC : (b == wrap64 (-a)) = false) (hE : (b == wrap64 (wrap64 (-a) - 1)) = true) :
    Calls Try.prog 18 #[.int .i64 a, .int .i64 b] w fun e w' => e = .returned (.bool true) ∧ Below w.heap.size w w' := by
  have D := hide (Gen.start w)
  go_enter Try.func18, Try.ntmps18
  go_wp2_with (first | (go_at_call 31; with_reducible refine (unhide hA _).mono ?_; rintro e w' ⟨he, hb⟩; subst he; have D := hide ((unhide D).keep hb); clear hb) | (go_at_call 31; with_reducible refine (unhide hB _).mono ?_; rintro e w' ⟨he, hb⟩; subst he; have D := hide ((unhide D).keep hb); clear hb) | (with_reducible refine at_list ?_;  refine eqlZw _ _ hC rfl rfl rfl rfl ?_) | (with_reducible refine at_list ?_;  refine eqlZw _ _ hE rfl rfl rfl rfl ?_))
  go_ret
  exact ⟨rfl, (unhide D).o⟩
theorem OppZ (a b : Int) (h : inn a = true → inn b = true → b = wrap64 (-a) ∨ b = wrap64 (wrap64 (-a) - 1)) : Ans 18 #[.int .i64 a, .int .i64 b] (.bool true) := by
  intro w
  have hA := InnerZ a
  have hB := InnerZ b
  cases e1 : inn a
  · rw [e1] at hA
    exact opposite_F a b w hA
  · rw [e1] at hA
    cases e2 : inn b
    · rw [e2] at hB
      exact opposite_TF a b w hA hB
    · rw [e2] at hB
      cases e3 : (b == wrap64 (-a))
      · refine opposite_TTF a b w hA hB e3 ?_
        rcases h e1 e2 with h | h
        · rw [beq_eq_false_iff_ne] at e3
          exact absurd h e3
        · exact beq_iff_eq.2 h
      · exact opposite_TTT a b w hA hB e3
theorem inn_cl {z : Int} (h : inn (cl z) = true) : cl z = z ∧ -9223372036854775807 < z ∧ z < 9223372036854775807 := by
  unfold inn at h
  rw [Bool.and_eq_true, decide_eq_true_eq, decide_eq_true_eq] at h
  revert h
  unfold cl
  split
  · intro h; omega
  · split
    · intro h; omega
    · intro h; exact ⟨rfl, h⟩
theorem opp_math (N M : Int) (e : M = -N) : inn (cl (N / 4294967296)) = true → inn (cl (M / 4294967296)) = true → cl (M / 4294967296) = wrap64 (-(cl (N / 4294967296))) ∨ cl (M / 4294967296) = wrap64 (wrap64 (-(cl (N / 4294967296))) - 1) := by
  intro h1 h2
  obtain ⟨a1, a2, a3⟩ := inn_cl h1
  obtain ⟨b1, b2, b3⟩ := inn_cl h2
  rw [a1, b1, wrap_self (z := -(N / 4294967296)) ⟨by omega, by omega⟩, wrap_self (z := -(N / 4294967296) - 1) ⟨by omega, by omega⟩]
  omega
theorem OppCr (p q r s p' q' r' s' : Int) (e : p' * q' + -r' * s' = -(p * q + -r * s)) : Ans 18 #[.int .i64 (crI p q r s), .int .i64 (crI p' q' r' s')] (.bool true) := OppZ _ _ (opp_math _ _ e)
theorem Gen.fourth {u w0 : World} {g0 g1 g2 g3 : Nat} {t0 t1 t2 t3 : TypeId} {c0 c1 c2 c3 : Array Value} (h0 : Blk u g0 t0 c0) (h1 : Blk u g1 t1 c1) (h2 : Blk u g2 t2 c2) (h3 : Blk u g3 t3 c3) (o : Below w0.heap.size w0 u) : Gen w0 [(g0, t0, c0), (g1, t1, c1), (g2, t2, c2), (g3, t3, c3)] u := by
  refine ⟨fun p hp => ?_, o⟩
  simp only [List.mem_cons, List.not_mem_nil, or_false] at hp
  rcases hp with rfl | rfl | rfl | rfl
  · exact h0
  · exact h1
  · exact h2
  · exact h3
set_option maxHeartbeats 4000000 in
theorem turned_core (ax ay az bx b_y bz_ cx cy cz dx dy dz r : Int) (w : World) (er : (r == r) = true) (e0 : sameV 0 0 0 0 0 0 = true) (hC : Hid (Ans 16 #[.agg (v3 ax ay az), .agg (v3 bx b_y bz_)] (.agg (v3 cx cy cz)))) (hC' : Hid (Ans 16 #[.agg (v3 bx b_y bz_), .agg (v3 ax ay az)] (.agg (v3 dx dy dz))))
    (hZ : Hid (Ans 16 #[.agg (v3 ax ay az), .agg (v3 ax ay az)] (.agg (v3 0 0 0)))) (hD : Hid (Ans 17 #[.agg (v3 ax ay az), .agg (v3 bx b_y bz_)] (.int .i64 r))) (hE : Hid (Ans 17 #[.agg (v3 bx b_y bz_), .agg (v3 ax ay az)] (.int .i64 r)))
    (hO0 : Hid (Ans 18 #[.int .i64 cx, .int .i64 dx] (.bool true))) (hO1 : Hid (Ans 18 #[.int .i64 cy, .int .i64 dy] (.bool true))) (hO2 : Hid (Ans 18 #[.int .i64 cz, .int .i64 dz] (.bool true))) :
    Calls Try.prog 3 #[.agg (v3 ax ay az), .agg (v3 bx b_y bz_)] w fun e w' => e = .returned (.bool true) ∧ Below w.heap.size w w' := by
  go_enter Try.func3, Try.ntmps3
  go_upto_region 1 with fail
  have D := hide (((Gen.start w).push 24 (v3 ax ay az)).push 24 (v3 bx b_y bz_))
  simp only [szA] at D
  generalize hw1 : ((w.alloc (.cells (v3 ax ay az) 24)).alloc (.cells (v3 bx b_y bz_) 24)) = w1 at D ⊢
  have hs1 : w1.heap.size = w.heap.size + 1 + 1 := by rw [← hw1]; simp
  clear hw1
  have D1 : Hid (GenZ w _ (w.heap.size + 1 + 1) w1.drew) := ⟨(unhide D).drew, by show _ ≤ w1.heap.size; omega⟩
  clear D
  refine region_allocs (S := GenZ w _ (w.heap.size + 1 + 1)) (t := 24) (z := v3 0 0 0) (base := w.heap.size + 1 + 1) (l := [0, 1, 2, 3, 4, 5]) (A := [6, 7]) (T := [8, 9]) (by kernel_rfl) (by kernel_rfl) (by kernel_rfl) (by kernel_rfl) (by kernel_rfl) (by kernel_rfl) (by kernel_rfl) (by kernel_rfl) (by kernel_rfl) (by kernel_rfl) ?_ (fun _ _ h hb => h.keep hb) (fun _ h => h.s) (unhide D1) ?_
  · intro i hi
    simp at hi
    rcases hi with rfl | rfl
    · exact ⟨_, rfl, rfl, fun a w => by go_simp⟩
    · exact ⟨_, rfl, rfl, fun a w => by go_simp⟩
  clear D1
  refine planB_read (v := .agg (v3 ax ay az)) rfl rfl (fun u hS => exec_loadG hS.e rVec _ rfl rfl (by repeat (first | exact List.mem_cons_self | apply List.mem_cons_of_mem)) rfl) ?_
  go_simp
  refine planB_read (v := .agg (v3 bx b_y bz_)) rfl rfl (fun u hS => exec_loadG hS.e rVec _ rfl rfl (by repeat (first | exact List.mem_cons_self | apply List.mem_cons_of_mem)) rfl) ?_
  go_simp
  refine planB_call (v := .agg (v3 cx cy cz)) (f := 16) (args := #[.agg (v3 ax ay az), .agg (v3 bx b_y bz_)]) rfl rfl (fun u hS => by go_simp) (fun u hS => (unhide hC u).mono fun _ _ ⟨he, hb⟩ => ⟨he, hS.keep hb, hb⟩) ?_
  go_simp
  refine planB_read (v := .agg (v3 bx b_y bz_)) rfl rfl (fun u hS => exec_loadG hS.e rVec _ rfl rfl (by repeat (first | exact List.mem_cons_self | apply List.mem_cons_of_mem)) rfl) ?_
  go_simp
  refine planB_read (v := .agg (v3 ax ay az)) rfl rfl (fun u hS => exec_loadG hS.e rVec _ rfl rfl (by repeat (first | exact List.mem_cons_self | apply List.mem_cons_of_mem)) rfl) ?_
  go_simp
  refine planB_call (v := .agg (v3 dx dy dz)) (f := 16) (args := #[.agg (v3 bx b_y bz_), .agg (v3 ax ay az)]) rfl rfl (fun u hS => by go_simp) (fun u hS => (unhide hC' u).mono fun _ _ ⟨he, hb⟩ => ⟨he, hS.keep hb, hb⟩) ?_
  go_simp
  refine planB_tail (fun c u hS hB hI => ?_)
  have h4 := hB 6 (by simp)
  have h5 := hB 7 (by simp)
  have hne : c 6 ≠ c 7 := fun hc => by have := hI 6 (by simp) 7 (by simp) hc; omega
  simp only [pa, dstOf, opsOf]
  have B1 := hide (hS.e.blk (g := w.heap.size + 1) (t := 24) (cs := v3 bx b_y bz_) (by repeat (first | exact List.mem_cons_self | apply List.mem_cons_of_mem)))
  have B0 := hide (hS.e.blk (g := w.heap.size) (t := 24) (cs := v3 ax ay az) (by repeat (first | exact List.mem_cons_self | apply List.mem_cons_of_mem)))
  have O := hide hS.e.o
  generalize c 6 = c4 at h4 hne ⊢
  generalize c 7 = c5 at h5 hne ⊢
  clear hS hB hI
  have G := hide (Gen.fourth (((unhide B0).rowOther (v3 cx cy cz) (by omega)).rowOther (v3 dx dy dz) (by omega)) (((unhide B1).rowOther (v3 cx cy cz) (by omega)).rowOther (v3 dx dy dz) (by omega)) ((h4.1.row (v3 cx cy cz)).rowOther (v3 dx dy dz) hne) ((h5.1.rowOther (v3 cx cy cz) (Ne.symm hne)).row (v3 dx dy dz)) (below_row (below_row (unhide O) (by omega) (v3 cx cy cz)) (by omega) (v3 dx dy dz)))
  have H4 := hide h4
  have H5 := hide (h5.1.rowOther (v3 cx cy cz) (Ne.symm hne))
  clear h4 h5 B0 B1 O
  refine wpList_store_row rfl 24 (.tmp 5) (.tmp 9) rfl _ (v3 cx cy cz) rfl rfl 24 _ (unhide H4).1 iVec3 rfl (v3_one _ _ _) ?_
  refine wpList_store_row rfl 24 (.tmp 6) (.tmp 12) rfl _ (v3 dx dy dz) rfl rfl 24 _ (unhide H5) iVec3 rfl (v3_one _ _ _) ?_
  generalize (u.setRow c4 (v3 cx cy cz)).setRow c5 (v3 dx dy dz) = u1 at G ⊢
  clear H4 H5
  go_simp
  go_upto_region 2 with fail
  refine region_plan (S := Gen w _) (l := [0, 1, 2, 3, 4, 5, 6, 7, 8, 9, 10, 11, 12, 13, 14, 15, 16, 17, 18, 19, 20, 21, 22, 23, 24, 25, 26, 27, 28, 29, 30, 31, 32, 33, 34, 35, 36, 37, 38]) (by kernel_rfl) (by kernel_rfl) (by kernel_rfl) (by kernel_rfl) (by kernel_rfl) (by kernel_rfl) (by kernel_rfl) (unhide G).drew ?_
  clear G
  refine plan_read (v := .agg (v3 ax ay az)) rfl rfl (fun u hS => exec_loadG hS rVec _ rfl rfl (by repeat (first | exact List.mem_cons_self | apply List.mem_cons_of_mem)) rfl) ?_
  go_simp
  refine plan_read (v := .agg (v3 bx b_y bz_)) rfl rfl (fun u hS => exec_loadG hS rVec _ rfl rfl (by repeat (first | exact List.mem_cons_self | apply List.mem_cons_of_mem)) rfl) ?_
  go_simp
  refine plan_call (v := .int .i64 r) (f := 17) (args := #[.agg (v3 ax ay az), .agg (v3 bx b_y bz_)]) rfl rfl (fun u hS => by go_simp) (fun u hS => (unhide hD u).mono fun _ _ ⟨he, hb⟩ => ⟨he, hS.keep hb⟩) ?_
  go_simp
  refine plan_read (v := .agg (v3 bx b_y bz_)) rfl rfl (fun u hS => exec_loadG hS rVec _ rfl rfl (by repeat (first | exact List.mem_cons_self | apply List.mem_cons_of_mem)) rfl) ?_
  go_simp
  refine plan_read (v := .agg (v3 ax ay az)) rfl rfl (fun u hS => exec_loadG hS rVec _ rfl rfl (by repeat (first | exact List.mem_cons_self | apply List.mem_cons_of_mem)) rfl) ?_
  go_simp
  refine plan_call (v := .int .i64 r) (f := 17) (args := #[.agg (v3 bx b_y bz_), .agg (v3 ax ay az)]) rfl rfl (fun u hS => by go_simp) (fun u hS => (unhide hE u).mono fun _ _ ⟨he, hb⟩ => ⟨he, hS.keep hb⟩) ?_
  go_simp
  refine plan_read (v := .bool true) rfl rfl (fun u hS => exec_eqlZ _ _ _ er rfl rfl rfl) ?_
  go_simp
  refine plan_read (v := ?_) rfl rfl (fun u hS => by go_simp; rfl) ?_
  go_simp
  refine plan_read (v := ?_) rfl rfl (fun u hS => by go_simp; rfl) ?_
  go_simp
  refine plan_read (v := .int .i64 cx) rfl rfl (fun u hS => exec_loadFG hS _ rfl rfl (by repeat (first | exact List.mem_cons_self | apply List.mem_cons_of_mem)) rfl) ?_
  go_simp
  refine plan_read (v := ?_) rfl rfl (fun u hS => by go_simp; rfl) ?_
  go_simp
  refine plan_read (v := .int .i64 dx) rfl rfl (fun u hS => exec_loadFG hS _ rfl rfl (by repeat (first | exact List.mem_cons_self | apply List.mem_cons_of_mem)) rfl) ?_
  go_simp
  refine plan_call (v := .bool true) (f := 18) (args := #[.int .i64 cx, .int .i64 dx]) rfl rfl (fun u hS => by go_simp) (fun u hS => (unhide hO0 u).mono fun _ _ ⟨he, hb⟩ => ⟨he, hS.keep hb⟩) ?_
  go_simp
  refine plan_read (v := ?_) rfl rfl (fun u hS => by go_simp; rfl) ?_
  go_simp
  refine plan_read (v := ?_) rfl rfl (fun u hS => by go_simp; rfl) ?_
  go_simp
  refine plan_read (v := ?_) rfl rfl (fun u hS => by go_simp; rfl) ?_
  go_simp
  refine plan_read (v := .int .i64 cy) rfl rfl (fun u hS => exec_loadFG hS _ rfl rfl (by repeat (first | exact List.mem_cons_self | apply List.mem_cons_of_mem)) rfl) ?_
  go_simp
  refine plan_read (v := ?_) rfl rfl (fun u hS => by go_simp; rfl) ?_
  go_simp
  refine plan_read (v := .int .i64 dy) rfl rfl (fun u hS => exec_loadFG hS _ rfl rfl (by repeat (first | exact List.mem_cons_self | apply List.mem_cons_of_mem)) rfl) ?_
  go_simp
  refine plan_call (v := .bool true) (f := 18) (args := #[.int .i64 cy, .int .i64 dy]) rfl rfl (fun u hS => by go_simp) (fun u hS => (unhide hO1 u).mono fun _ _ ⟨he, hb⟩ => ⟨he, hS.keep hb⟩) ?_
  go_simp
  refine plan_read (v := ?_) rfl rfl (fun u hS => by go_simp; rfl) ?_
  go_simp
  refine plan_read (v := ?_) rfl rfl (fun u hS => by go_simp; rfl) ?_
  go_simp
  refine plan_read (v := ?_) rfl rfl (fun u hS => by go_simp; rfl) ?_
  go_simp
  refine plan_read (v := .int .i64 cz) rfl rfl (fun u hS => exec_loadFG hS _ rfl rfl (by repeat (first | exact List.mem_cons_self | apply List.mem_cons_of_mem)) rfl) ?_
  go_simp
  refine plan_read (v := ?_) rfl rfl (fun u hS => by go_simp; rfl) ?_
  go_simp
  refine plan_read (v := .int .i64 dz) rfl rfl (fun u hS => exec_loadFG hS _ rfl rfl (by repeat (first | exact List.mem_cons_self | apply List.mem_cons_of_mem)) rfl) ?_
  go_simp
  refine plan_call (v := .bool true) (f := 18) (args := #[.int .i64 cz, .int .i64 dz]) rfl rfl (fun u hS => by go_simp) (fun u hS => (unhide hO2 u).mono fun _ _ ⟨he, hb⟩ => ⟨he, hS.keep hb⟩) ?_
  go_simp
  refine plan_read (v := ?_) rfl rfl (fun u hS => by go_simp; rfl) ?_
  go_simp
  refine plan_read (v := ?_) rfl rfl (fun u hS => by go_simp; rfl) ?_
  go_simp
  refine plan_read (v := .agg (v3 ax ay az)) rfl rfl (fun u hS => exec_loadG hS rVec _ rfl rfl (by repeat (first | exact List.mem_cons_self | apply List.mem_cons_of_mem)) rfl) ?_
  go_simp
  refine plan_read (v := .agg (v3 ax ay az)) rfl rfl (fun u hS => exec_loadG hS rVec _ rfl rfl (by repeat (first | exact List.mem_cons_self | apply List.mem_cons_of_mem)) rfl) ?_
  go_simp
  refine plan_call (v := .agg (v3 0 0 0)) (f := 16) (args := #[.agg (v3 ax ay az), .agg (v3 ax ay az)]) rfl rfl (fun u hS => by go_simp) (fun u hS => (unhide hZ u).mono fun _ _ ⟨he, hb⟩ => ⟨he, hS.keep hb⟩) ?_
  go_simp
  refine plan_read (v := .agg (v3 0 0 0)) rfl rfl (fun u hS => by go_simp) ?_
  go_simp
  refine plan_read (v := .bool true) rfl rfl (fun u hS => exec_eql_vec _ _ _ e0 rfl rfl rfl) ?_
  go_simp
  refine plan_read (v := ?_) rfl rfl (fun u hS => by go_simp; rfl) ?_
  go_simp
  refine plan_read (v := ?_) rfl rfl (fun u hS => by go_simp; rfl) ?_
  go_simp
  refine plan_call (v := .bool true) (f := 19) (args := #[]) rfl rfl (fun u hS => by go_simp) (fun u hS => (awake3Z u).mono fun _ _ ⟨he, hb⟩ => ⟨he, hS.keep hb⟩) ?_
  go_simp
  refine plan_read (v := ?_) rfl rfl (fun u hS => by go_simp; rfl) ?_
  go_simp
  refine plan_read (v := ?_) rfl rfl (fun u hS => by go_simp; rfl) ?_
  go_simp
  refine plan_end (fun u hS => ?_)
  have O := hide hS.o
  clear hS
  go_wp2
  go_ret
  exact ⟨rfl, unhide O⟩
theorem crI_self (p q : Int) : crI p q q p = 0 := by
  unfold crI
  rw [show p * q + -q * p = 0 by grind]
  decide
theorem vecTurned_walk (ax ay az bx b_y bz_ : Int) (k0 : (Lit.int .i64 ax).wf = true) (l0 : (Lit.int .i64 ay).wf = true) (m0 : (Lit.int .i64 az).wf = true) (k1 : (Lit.int .i64 bx).wf = true) (l1 : (Lit.int .i64 b_y).wf = true) (m1 : (Lit.int .i64 bz_).wf = true) (w : World) :
    Calls Try.prog 3 #[.agg (v3 ax ay az), .agg (v3 bx b_y bz_)] w fun e w' => e = .returned (.bool true) ∧ Below w.heap.size w w' := by
  have j0 := I64.wf k0
  have j1 := I64.wf l0
  have j2 := I64.wf m0
  have j3 := I64.wf k1
  have j4 := I64.wf l1
  have j5 := I64.wf m1
  have hZ := CrossZ ax ay az ax ay az j0 j1 j2 j0 j1 j2
  rw [crI_self, crI_self, crI_self] at hZ
  have hE := DotZ bx b_y bz_ ax ay az j3 j4 j5 j0 j1 j2
  rw [Int.mul_comm bx ax, Int.mul_comm b_y ay, Int.mul_comm bz_ az] at hE
  exact turned_core ax ay az bx b_y bz_ _ _ _ _ _ _ _ w (by simp) (by decide) (CrossZ ax ay az bx b_y bz_ j0 j1 j2 j3 j4 j5) (CrossZ bx b_y bz_ ax ay az j3 j4 j5 j0 j1 j2) hZ (DotZ ax ay az bx b_y bz_ j0 j1 j2 j3 j4 j5) hE
    (OppCr _ _ _ _ _ _ _ _ (by grind)) (OppCr _ _ _ _ _ _ _ _ (by grind)) (OppCr _ _ _ _ _ _ _ _ (by grind))

end Go.Proofs.Ytljggjnaolbapaa
