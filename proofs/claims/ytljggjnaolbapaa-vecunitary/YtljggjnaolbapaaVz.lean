/- Package vec's laws: VecUnitary. -/
import Derived.Test.YtljggjnaolbapaaVx
namespace Go.Proofs.Ytljggjnaolbapaa
open Go.RowKit
set_option maxRecDepth 4000
set_option linter.unusedVariables false

theorem part_core (a u : Int) (X : Bool) (w : World) (hA : decide (-4294967296 ≤ u) = true) (hB : decide (u ≤ 4294967296) = true) (hC : decide (u < 0) = X) (hD : decide (a < 0) = X) :
    Calls Try.prog 29 #[.int .i64 a, .int .i64 u] w fun e w' => e = .returned (.bool true) ∧ Below w.heap.size w w' := by
  have D := hide (Gen.start w)
  go_enter Try.func29, Try.ntmps29
  cases X
  · go_wp2_with (first | (with_reducible refine at_list ?_;  refine geqZ _ _ hA rfl rfl rfl rfl ?_) | (with_reducible refine at_list ?_;  refine leqZw _ _ hB rfl rfl rfl rfl ?_) | (with_reducible refine at_list ?_;  refine lssZw _ _ hC rfl rfl rfl rfl ?_) | (with_reducible refine at_list ?_;  refine lssZw _ _ hD rfl rfl rfl rfl ?_))
    go_ret
    exact ⟨rfl, (unhide D).o⟩
  · go_wp2_with (first | (with_reducible refine at_list ?_;  refine geqZ _ _ hA rfl rfl rfl rfl ?_) | (with_reducible refine at_list ?_;  refine leqZw _ _ hB rfl rfl rfl rfl ?_) | (with_reducible refine at_list ?_;  refine lssZw _ _ hC rfl rfl rfl rfl ?_) | (with_reducible refine at_list ?_;  refine lssZw _ _ hD rfl rfl rfl rfl ?_))
    go_ret
    exact ⟨rfl, (unhide D).o⟩
theorem PartZ {x u S : Int} (h : PartU x u S) : Ans 29 #[.int .i64 x, .int .i64 u] (.bool true) := fun w =>
  part_core x u (decide (x < 0)) w (decide_eq_true h.l) (decide_eq_true h.r) (decide_eq_decide.2 h.sg) rfl
theorem unitary_none (w : World) (e0 : sameV 0 0 0 0 0 0 = true) (hU : Hid (Ans 24 #[.agg (v3 0 0 0)] (.tuple #[.agg (v3 0 0 0), .bool false]))) (hW : Hid (Ans 19 #[] (.bool true))) :
    Calls Try.prog 5 #[.agg (v3 0 0 0)] w fun e w' => e = .returned (.bool true) ∧ Below w.heap.size w w' := by
  go_enter Try.func5, Try.ntmps5
  go_upto_region 1 with fail
  have D := hide ((Gen.start w).push 24 (v3 0 0 0))
  go_wp2_with (first | (with_reducible refine at_list ?_; apply ldG (unhide D) rVec _ rfl rfl rfl (by repeat (first | exact List.mem_cons_self | apply List.mem_cons_of_mem)) rfl) | (with_reducible refine at_list ?_; apply ldGw (unhide D) rVec _ rfl rfl rfl (by repeat (first | exact List.mem_cons_self | apply List.mem_cons_of_mem)) rfl) | (go_at_call 24; with_reducible refine (unhide hU _).mono ?_; rintro e w' ⟨he, hb⟩; subst he; have D := hide ((unhide D).keep hb); clear hb) | (with_reducible refine at_list ?_; refine stG (unhide D) rVec _ _ rfl rfl rfl rfl rfl rfl (v3_one _ _ _) ?_; intro D'; have D := hide D'; clear D') | (with_reducible refine at_list ?_; refine eqlV _ _ _ e0 rfl rfl rfl rfl ?_) | (with_reducible refine at_list ?_; refine eqlVw _ _ _ e0 rfl rfl rfl rfl ?_) | (go_at_call 19; with_reducible refine (unhide hW _).mono ?_; rintro e w' ⟨he, hb⟩; subst he; have D := hide ((unhide D).keep hb); clear hb))
  go_ret
  exact ⟨rfl, (unhide D).o⟩
set_option maxHeartbeats 4000000 in
theorem unitary_core (ax ay az x y z c1 c2 : Int) (S I O' W' L H' : Nat) (E : Bool) (w : World) (hL1 : decide (0 ≤ c1) = true) (hL2 : decide (c2 ≤ 0) = true) (hU : Hid (Ans 24 #[.agg (v3 ax ay az)] (.tuple #[.agg (v3 x y z), .bool true]))) (hW : Hid (Ans 19 #[] (.bool true)))
    (hS : Hid (Ans 22 #[.agg (v3 x y z)] (.agg (cells8 S)))) (hI : Hid (Ans 26 #[.int .i64 1] (.agg (cells8 I)))) (hA : Hid (Ans 25 #[.agg (cells8 I), .int .i64 64] (.tuple #[.agg (cells8 O'), .bool E]))) (hB : Hid (Ans 25 #[.agg (cells8 I), .int .i64 34] (.tuple #[.agg (cells8 W'), .bool E])))
    (hM : Hid (Ans 27 #[.agg (cells8 O'), .agg (cells8 W')] (.tuple #[.agg (cells8 L), .bool E]))) (hP : Hid (Ans 28 #[.agg (cells8 O'), .agg (cells8 W')] (.tuple #[.agg (cells8 H'), .bool E])))
    (hC1 : Hid (Ans 23 #[.agg (cells8 S), .agg (cells8 L)] (.int .i64 c1))) (hC2 : Hid (Ans 23 #[.agg (cells8 S), .agg (cells8 H')] (.int .i64 c2)))
    (hX : Hid (Ans 29 #[.int .i64 ax, .int .i64 x] (.bool true))) (hY : Hid (Ans 29 #[.int .i64 ay, .int .i64 y] (.bool true))) (hZ : Hid (Ans 29 #[.int .i64 az, .int .i64 z] (.bool true))) :
    Calls Try.prog 5 #[.agg (v3 ax ay az)] w fun e w' => e = .returned (.bool true) ∧ Below w.heap.size w w' := by
  go_enter Try.func5, Try.ntmps5
  go_upto_region 1 with fail
  have D := hide ((Gen.start w).push 24 (v3 ax ay az))
  go_upto_region 4 with (first | (with_reducible refine at_list ?_; apply ldG (unhide D) rVec _ rfl rfl rfl (by repeat (first | exact List.mem_cons_self | apply List.mem_cons_of_mem)) rfl) | (go_at_call 24; with_reducible refine (unhide hU _).mono ?_; rintro e w' ⟨he, hb⟩; subst he; have D := hide ((unhide D).keep hb); clear hb) | (with_reducible refine at_list ?_; refine stG (unhide D) rVec _ _ rfl rfl rfl rfl rfl rfl (v3_one _ _ _) ?_; intro D'; have D := hide D'; clear D'))
  go_upto_region 9 with (first | (with_reducible refine at_list ?_; apply ldG (unhide D) rVec _ rfl rfl rfl (by repeat (first | exact List.mem_cons_self | apply List.mem_cons_of_mem)) rfl) | (with_reducible refine at_list ?_; apply ldG (unhide D) rWide _ rfl rfl rfl (by repeat (first | exact List.mem_cons_self | apply List.mem_cons_of_mem)) rfl) | (go_at_call 22; with_reducible refine (unhide hS _).mono ?_; rintro e w' ⟨he, hb⟩; subst he; have D := hide ((unhide D).keep hb); clear hb) | (with_reducible refine at_list ?_; refine stG (unhide D) rWide _ _ rfl rfl rfl rfl rfl rfl (cells8_one _) ?_; intro D'; have D := hide D'; clear D') | (go_at_call 26; with_reducible refine (unhide hI _).mono ?_; rintro e w' ⟨he, hb⟩; subst he; have D := hide ((unhide D).keep hb); clear hb) | (go_at_call 25; with_reducible refine (unhide hA _).mono ?_; rintro e w' ⟨he, hb⟩; subst he; have D := hide ((unhide D).keep hb); clear hb) | (go_at_call 25; with_reducible refine (unhide hB _).mono ?_; rintro e w' ⟨he, hb⟩; subst he; have D := hide ((unhide D).keep hb); clear hb) | (go_at_call 27; with_reducible refine (unhide hM _).mono ?_; rintro e w' ⟨he, hb⟩; subst he; have D := hide ((unhide D).keep hb); clear hb) | (go_at_call 28; with_reducible refine (unhide hP _).mono ?_; rintro e w' ⟨he, hb⟩; subst he; have D := hide ((unhide D).keep hb); clear hb))
  go_wp2_with (first | (with_reducible refine at_list ?_; apply ldG (unhide D) rWide _ rfl rfl rfl (by repeat (first | exact List.mem_cons_self | apply List.mem_cons_of_mem)) rfl) | (with_reducible refine at_list ?_; apply ldGw (unhide D) rWide _ rfl rfl rfl (by repeat (first | exact List.mem_cons_self | apply List.mem_cons_of_mem)) rfl) | (with_reducible refine at_list ?_; apply ldFw (unhide D) _ rfl rfl rfl (by repeat (first | exact List.mem_cons_self | apply List.mem_cons_of_mem)) rfl) | (go_at_call 23; with_reducible refine (unhide hC1 _).mono ?_; rintro e w' ⟨he, hb⟩; subst he; have D := hide ((unhide D).keep hb); clear hb) | (go_at_call 23; with_reducible refine (unhide hC2 _).mono ?_; rintro e w' ⟨he, hb⟩; subst he; have D := hide ((unhide D).keep hb); clear hb) | (with_reducible refine at_list ?_;  refine geqZ _ _ hL1 rfl rfl rfl rfl ?_) | (with_reducible refine at_list ?_;  refine leqZw _ _ hL2 rfl rfl rfl rfl ?_) | (go_at_call 29; with_reducible refine (unhide hX _).mono ?_; rintro e w' ⟨he, hb⟩; subst he; have D := hide ((unhide D).keep hb); clear hb) | (go_at_call 29; with_reducible refine (unhide hY _).mono ?_; rintro e w' ⟨he, hb⟩; subst he; have D := hide ((unhide D).keep hb); clear hb) | (go_at_call 29; with_reducible refine (unhide hZ _).mono ?_; rintro e w' ⟨he, hb⟩; subst he; have D := hide ((unhide D).keep hb); clear hb) | (go_at_call 19; with_reducible refine (unhide hW _).mono ?_; rintro e w' ⟨he, hb⟩; subst he; have D := hide ((unhide D).keep hb); clear hb))
  go_ret
  exact ⟨rfl, (unhide D).o⟩
theorem shl_one (k : Int) (n : Int) (hn : (1 : Int) * ((2 ^ k.toNat : Nat) : Int) = n) (hf : Fit n) (h0 : 0 ≤ k) (h1 : k < 9223372036854775808) : Ans 25 #[V 1, .int .i64 k] (.tuple #[V n, .bool true]) := fun u => by
  have t := ShlZ 1 k fit_one (by omega) h1 u
  rw [hn, fit_true hf, decide_eq_false (show ¬ k < 0 by omega)] at t
  exact t
theorem cmpI_geT {x y : Int} (h : y ≤ x) : decide (0 ≤ cmpI x y) = true := by
  unfold cmpI
  rw [if_neg (by omega)]
  split <;> decide
theorem vecUnitary_walk (ax ay az : Int) (k0 : (Lit.int .i64 ax).wf = true) (l0 : (Lit.int .i64 ay).wf = true) (m0 : (Lit.int .i64 az).wf = true) (w : World) :
    Calls Try.prog 5 #[.agg (v3 ax ay az)] w fun e w' => e = .returned (.bool true) ∧ Below w.heap.size w w' := by
  have j0 := I64.wf k0
  have j1 := I64.wf l0
  have j2 := I64.wf m0
  by_cases hz : ax = 0 ∧ ay = 0 ∧ az = 0
  · obtain ⟨rfl, rfl, rfl⟩ := hz
    exact unitary_none w (by decide) unit_none awake3Z
  · have hU := UnitZ ax ay az j0 j1 j2 hz
    have hp := sqr_pos hz
    have qx := sq0 ax
    have qy := sq0 ay
    have qz := sq0 az
    have px : PartU ax (shI ax (sqr ax ay az)) (sqr ax ay az) := shI_shr hp (by unfold sqr; omega)
    have py : PartU ay (shI ay (sqr ax ay az)) (sqr ax ay az) := shI_shr hp (by unfold sqr; omega)
    have pz : PartU az (shI az (sqr ax ay az)) (sqr ax ay az) := shI_shr hp (by unfold sqr; omega)
    obtain ⟨b1, b2⟩ := unit_sq hp rfl px py pz
    clear qx qy qz
    generalize shI ax (sqr ax ay az) = x at *
    generalize shI ay (sqr ax ay az) = y at *
    generalize shI az (sqr ax ay az) = z at *
    have ix : I64 x := ⟨by have := px.l; omega, by have := px.r; omega⟩
    have iy : I64 y := ⟨by have := py.l; omega, by have := py.r; omega⟩
    have iz : I64 z := ⟨by have := pz.l; omega, by have := pz.r; omega⟩
    have sO : Sz 64 18446744073709551616 := by unfold Sz; decide
    have sW : Sz 64 17179869184 := by unfold Sz; decide
    have fS : Fit (sqr x y z) := (sqr_sz ix iy iz).fit (by decide)
    exact unitary_core ax ay az x y z _ _ (enc (sqr x y z)) (enc 1) (enc 18446744073709551616) (enc 17179869184) (enc (18446744073709551616 - 17179869184)) (enc (18446744073709551616 + 17179869184)) true w (cmpI_geT b1) (cmpI_leT b2) hU awake3Z (Square3Z x y z ix iy iz)
      (fun u => OfZ 1 (by decide) (by decide) u) (shl_one 64 _ rfl (sO.fit (by decide)) (by decide) (by decide)) (shl_one 34 _ rfl (sW.fit (by decide)) (by decide) (by decide))
      (fun u => by
        have t := SubZ 18446744073709551616 17179869184 (sO.fit (by decide)) (sW.fit (by decide)) u
        rw [toldZ_fit ((sO.sub sW).fit (by decide))] at t
        exact t)
      (add_told sO sW (by decide)) (fun u => CmpZ _ _ fS ((sO.sub sW).fit (by decide)) u) (fun u => CmpZ _ _ fS ((sO.add sW).fit (by decide)) u) (PartZ px) (PartZ py) (PartZ pz)

end Go.Proofs.Ytljggjnaolbapaa
