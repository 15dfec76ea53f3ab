/- Package quat: share, Unit, Spin, Back. Package quat: turn, quotient. -/
import Derived.Test.YtikmjfepflaokaaDoorTf
namespace Go.Proofs.YtikmjfepflaokaaDoor
open Go.RowKit
set_option maxRecDepth 4000
set_option linter.unusedVariables false

set_option maxHeartbeats 4000000 in
theorem qshare_pos (v s : Int) (N W P P2 q m r : Nat) (E : Bool) (w : World) (hs : decide (0 ≤ s) = true) (hM : Hid (Ans 45 #[.agg (cells8 N), .agg (cells8 N)] (.tuple #[.agg (cells8 P), .bool E]))) (hS : Hid (Ans 48 #[.agg (cells8 P), .int .i64 64] (.tuple #[.agg (cells8 P2), .bool E]))) (hD : Hid (Ans 59 #[.agg (cells8 P2), .agg (cells8 W)] (.tuple #[.agg (cells8 q), .agg (cells8 m), .bool E])))
    (hQ : Hid (Ans 74 #[.agg (cells8 q)] (.tuple #[.agg (cells8 r), .bool E]))) (hI : Hid (Ans 42 #[.agg (cells8 r), .int .i64 32] (.int .i64 v))) (hG : Hid (Ans 73 #[.agg (cells8 N)] (.int .i64 s))) :
    Calls Tryd.prog 44 #[.agg (cells8 N), .agg (cells8 W)] w fun e w' => e = .returned (.int .i64 v) ∧ Below w.heap.size w w' := by
  go_enter Tryd.func44, Tryd.ntmps44
  go_upto_region 1 with fail
  have D := hide (((Gen.start w).push 42 (cells8 N)).push 42 (cells8 W))
  simp only [szA] at D
  go_upto_region 2 with (first | (with_reducible refine at_list ?_; apply ldG (unhide D) rWide _ rfl rfl rfl (by repeat (first | exact List.mem_cons_self | apply List.mem_cons_of_mem)) rfl) | (go_at_call 45; with_reducible refine (unhide hM _).mono ?_; rintro e w' ⟨he, hb⟩; subst he; have D := hide ((unhide D).keep hb); clear hb) | (with_reducible refine at_list ?_;  have hl := hide (fun p hp => Nat.ne_of_lt ((unhide D).at_ p hp).lt); have hw := hide (unhide D).o.size; refine stG (unhide D) rWide _ _ rfl rfl rfl rfl rfl rfl (cells8_one _) ?_; intro D'; have D := hide D'; clear D'))
  go_upto_region 3 with (first | (with_reducible refine at_list ?_; apply ldG (unhide D) rWide _ rfl rfl rfl (by repeat (first | exact List.mem_cons_self | apply List.mem_cons_of_mem)) rfl) | (go_at_call 48; with_reducible refine (unhide hS _).mono ?_; rintro e w' ⟨he, hb⟩; subst he; have D := hide ((unhide D).keep hb); clear hb) | (with_reducible refine at_list ?_;  refine stSetG (n := P2) (unhide D) (unhide hw) (unhide hl) _ _ rfl rfl rfl rfl rfl ?_; intro w5 D'; have D := D'; clear D'))
  clear hl hw
  go_upto_region 4 with (first | (with_reducible refine at_list ?_; apply ldG (unhide D) rWide _ rfl rfl rfl (by repeat (first | exact List.mem_cons_self | apply List.mem_cons_of_mem)) rfl) | (go_at_call 59; with_reducible refine (unhide hD _).mono ?_; rintro e w' ⟨he, hb⟩; subst he; have D := hide ((unhide D).keep hb); clear hb) | (with_reducible refine at_list ?_;  refine stOne (n := q) rfl _ _ rfl rfl rfl rfl ?_) | (with_reducible refine at_list ?_;  refine stTwoG (n := q) (m := m) (unhide D) rfl _ _ rfl rfl rfl rfl ?_; intro w1 D'; have D := D'; clear D'))
  go_upto_region 5 with (first | (with_reducible refine at_list ?_; apply ldG (unhide D) rWide _ rfl rfl rfl (by repeat (first | exact List.mem_cons_self | apply List.mem_cons_of_mem)) rfl) | (go_at_call 74; with_reducible refine (unhide hQ _).mono ?_; rintro e w' ⟨he, hb⟩; subst he; have D := hide ((unhide D).keep hb); clear hb) | (with_reducible refine at_list ?_; refine stG (unhide D) rWide _ _ rfl rfl rfl rfl rfl rfl (cells8_one _) ?_; intro D'; have D := hide D'; clear D'))
  go_wp2_with (first | (with_reducible refine at_list ?_; apply ldG (unhide D) rWide _ rfl rfl rfl (by repeat (first | exact List.mem_cons_self | apply List.mem_cons_of_mem)) rfl) | (go_at_call 42; with_reducible refine (unhide hI _).mono ?_; rintro e w' ⟨he, hb⟩; subst he; have D := hide ((unhide D).keep hb); clear hb) | (go_at_call 73; with_reducible refine (unhide hG _).mono ?_; rintro e w' ⟨he, hb⟩; subst he; have D := hide ((unhide D).keep hb); clear hb) | (with_reducible refine at_list ?_;  refine geqZ _ _ hs rfl rfl rfl rfl ?_))
  go_ret
  exact ⟨rfl, (unhide D).o⟩
set_option maxHeartbeats 4000000 in
theorem qshare_whole (v s : Int) (N W P P2 q m r k j : Nat) (E : Bool) (w : World) (hs : decide (0 ≤ s) = false) (hM : Hid (Ans 45 #[.agg (cells8 N), .agg (cells8 N)] (.tuple #[.agg (cells8 P), .bool E]))) (hS : Hid (Ans 48 #[.agg (cells8 P), .int .i64 64] (.tuple #[.agg (cells8 P2), .bool E]))) (hD : Hid (Ans 59 #[.agg (cells8 P2), .agg (cells8 W)] (.tuple #[.agg (cells8 q), .agg (cells8 m), .bool E])))
    (hQ : Hid (Ans 74 #[.agg (cells8 q)] (.tuple #[.agg (cells8 r), .bool E]))) (hI : Hid (Ans 42 #[.agg (cells8 r), .int .i64 32] (.int .i64 v))) (hG : Hid (Ans 73 #[.agg (cells8 N)] (.int .i64 s))) (hK : Hid (Ans 45 #[.agg (cells8 r), .agg (cells8 r)] (.tuple #[.agg (cells8 k), .bool E]))) (hJ : Hid (Ans 45 #[.agg (cells8 k), .agg (cells8 W)] (.tuple #[.agg (cells8 j), .bool E]))) (hX : Hid (same j P2 = true)) :
    Calls Tryd.prog 44 #[.agg (cells8 N), .agg (cells8 W)] w fun e w' => e = .returned (.int .i64 (wrap64 (-v))) ∧ Below w.heap.size w w' := by
  go_enter Tryd.func44, Tryd.ntmps44
  go_upto_region 1 with fail
  have D := hide (((Gen.start w).push 42 (cells8 N)).push 42 (cells8 W))
  simp only [szA] at D
  go_upto_region 2 with (first | (with_reducible refine at_list ?_; apply ldG (unhide D) rWide _ rfl rfl rfl (by repeat (first | exact List.mem_cons_self | apply List.mem_cons_of_mem)) rfl) | (go_at_call 45; with_reducible refine (unhide hM _).mono ?_; rintro e w' ⟨he, hb⟩; subst he; have D := hide ((unhide D).keep hb); clear hb) | (with_reducible refine at_list ?_;  have hl := hide (fun p hp => Nat.ne_of_lt ((unhide D).at_ p hp).lt); have hw := hide (unhide D).o.size; refine stG (unhide D) rWide _ _ rfl rfl rfl rfl rfl rfl (cells8_one _) ?_; intro D'; have D := hide D'; clear D'))
  go_upto_region 3 with (first | (with_reducible refine at_list ?_; apply ldG (unhide D) rWide _ rfl rfl rfl (by repeat (first | exact List.mem_cons_self | apply List.mem_cons_of_mem)) rfl) | (go_at_call 48; with_reducible refine (unhide hS _).mono ?_; rintro e w' ⟨he, hb⟩; subst he; have D := hide ((unhide D).keep hb); clear hb) | (with_reducible refine at_list ?_;  refine stSetG (n := P2) (unhide D) (unhide hw) (unhide hl) _ _ rfl rfl rfl rfl rfl ?_; intro w5 D'; have D := D'; clear D'))
  clear hl hw
  go_upto_region 4 with (first | (with_reducible refine at_list ?_; apply ldG (unhide D) rWide _ rfl rfl rfl (by repeat (first | exact List.mem_cons_self | apply List.mem_cons_of_mem)) rfl) | (go_at_call 59; with_reducible refine (unhide hD _).mono ?_; rintro e w' ⟨he, hb⟩; subst he; have D := hide ((unhide D).keep hb); clear hb) | (with_reducible refine at_list ?_;  refine stOne (n := q) rfl _ _ rfl rfl rfl rfl ?_) | (with_reducible refine at_list ?_;  refine stTwoG (n := q) (m := m) (unhide D) rfl _ _ rfl rfl rfl rfl ?_; intro w1 D'; have D := D'; clear D'))
  go_upto_region 5 with (first | (with_reducible refine at_list ?_; apply ldG (unhide D) rWide _ rfl rfl rfl (by repeat (first | exact List.mem_cons_self | apply List.mem_cons_of_mem)) rfl) | (go_at_call 74; with_reducible refine (unhide hQ _).mono ?_; rintro e w' ⟨he, hb⟩; subst he; have D := hide ((unhide D).keep hb); clear hb) | (with_reducible refine at_list ?_; refine stG (unhide D) rWide _ _ rfl rfl rfl rfl rfl rfl (cells8_one _) ?_; intro D'; have D := hide D'; clear D'))
  go_upto_region 8 with (first | (with_reducible refine at_list ?_; apply ldG (unhide D) rWide _ rfl rfl rfl (by repeat (first | exact List.mem_cons_self | apply List.mem_cons_of_mem)) rfl) | (go_at_call 42; with_reducible refine (unhide hI _).mono ?_; rintro e w' ⟨he, hb⟩; subst he; have D := hide ((unhide D).keep hb); clear hb) | (go_at_call 73; with_reducible refine (unhide hG _).mono ?_; rintro e w' ⟨he, hb⟩; subst he; have D := hide ((unhide D).keep hb); clear hb) | (with_reducible refine at_list ?_;  refine geqZ _ _ hs rfl rfl rfl rfl ?_))
  go_upto_region 9 with (first | (with_reducible refine at_list ?_; apply ldG (unhide D) rWide _ rfl rfl rfl (by repeat (first | exact List.mem_cons_self | apply List.mem_cons_of_mem)) rfl) | (go_at_call 45; with_reducible refine (unhide hK _).mono ?_; rintro e w' ⟨he, hb⟩; subst he; have D := hide ((unhide D).keep hb); clear hb) | (with_reducible refine at_list ?_;  have hl := hide (fun p hp => Nat.ne_of_lt ((unhide D).at_ p hp).lt); have hw := hide (unhide D).o.size; refine stG (unhide D) rWide _ _ rfl rfl rfl rfl rfl rfl (cells8_one _) ?_; intro D'; have D := hide D'; clear D'))
  go_upto_region 10 with (first | (with_reducible refine at_list ?_; apply ldG (unhide D) rWide _ rfl rfl rfl (by repeat (first | exact List.mem_cons_self | apply List.mem_cons_of_mem)) rfl) | (go_at_call 45; with_reducible refine (unhide hJ _).mono ?_; rintro e w' ⟨he, hb⟩; subst he; have D := hide ((unhide D).keep hb); clear hb) | (with_reducible refine at_list ?_;  refine stSetG (n := j) (unhide D) (unhide hw) (unhide hl) _ _ rfl rfl rfl rfl rfl ?_; intro w5 D'; have D := D'; clear D'))
  clear hl hw
  go_wp2_with (first | (with_reducible refine at_list ?_; apply ldG (unhide D) rWide _ rfl rfl rfl (by repeat (first | exact List.mem_cons_self | apply List.mem_cons_of_mem)) rfl) | (with_reducible refine at_list ?_;  refine wpList_value rfl (exec_neq_wide_is (unhide hX) _ _ _ rfl rfl rfl) ?_))
  go_ret
  exact ⟨rfl, (unhide D).o⟩
set_option maxHeartbeats 4000000 in
theorem qshare_up (v s : Int) (N W P P2 q m r k j : Nat) (E : Bool) (w : World) (hs : decide (0 ≤ s) = false) (hM : Hid (Ans 45 #[.agg (cells8 N), .agg (cells8 N)] (.tuple #[.agg (cells8 P), .bool E]))) (hS : Hid (Ans 48 #[.agg (cells8 P), .int .i64 64] (.tuple #[.agg (cells8 P2), .bool E]))) (hD : Hid (Ans 59 #[.agg (cells8 P2), .agg (cells8 W)] (.tuple #[.agg (cells8 q), .agg (cells8 m), .bool E])))
    (hQ : Hid (Ans 74 #[.agg (cells8 q)] (.tuple #[.agg (cells8 r), .bool E]))) (hI : Hid (Ans 42 #[.agg (cells8 r), .int .i64 32] (.int .i64 v))) (hG : Hid (Ans 73 #[.agg (cells8 N)] (.int .i64 s))) (hK : Hid (Ans 45 #[.agg (cells8 r), .agg (cells8 r)] (.tuple #[.agg (cells8 k), .bool E]))) (hJ : Hid (Ans 45 #[.agg (cells8 k), .agg (cells8 W)] (.tuple #[.agg (cells8 j), .bool E]))) (hX : Hid (same j P2 = false)) :
    Calls Tryd.prog 44 #[.agg (cells8 N), .agg (cells8 W)] w fun e w' => e = .returned (.int .i64 (wrap64 (-(wrap64 (v + 1))))) ∧ Below w.heap.size w w' := by
  go_enter Tryd.func44, Tryd.ntmps44
  go_upto_region 1 with fail
  have D := hide (((Gen.start w).push 42 (cells8 N)).push 42 (cells8 W))
  simp only [szA] at D
  go_upto_region 2 with (first | (with_reducible refine at_list ?_; apply ldG (unhide D) rWide _ rfl rfl rfl (by repeat (first | exact List.mem_cons_self | apply List.mem_cons_of_mem)) rfl) | (go_at_call 45; with_reducible refine (unhide hM _).mono ?_; rintro e w' ⟨he, hb⟩; subst he; have D := hide ((unhide D).keep hb); clear hb) | (with_reducible refine at_list ?_;  have hl := hide (fun p hp => Nat.ne_of_lt ((unhide D).at_ p hp).lt); have hw := hide (unhide D).o.size; refine stG (unhide D) rWide _ _ rfl rfl rfl rfl rfl rfl (cells8_one _) ?_; intro D'; have D := hide D'; clear D'))
  go_upto_region 3 with (first | (with_reducible refine at_list ?_; apply ldG (unhide D) rWide _ rfl rfl rfl (by repeat (first | exact List.mem_cons_self | apply List.mem_cons_of_mem)) rfl) | (go_at_call 48; with_reducible refine (unhide hS _).mono ?_; rintro e w' ⟨he, hb⟩; subst he; have D := hide ((unhide D).keep hb); clear hb) | (with_reducible refine at_list ?_;  refine stSetG (n := P2) (unhide D) (unhide hw) (unhide hl) _ _ rfl rfl rfl rfl rfl ?_; intro w5 D'; have D := D'; clear D'))
  clear hl hw
  go_upto_region 4 with (first | (with_reducible refine at_list ?_; apply ldG (unhide D) rWide _ rfl rfl rfl (by repeat (first | exact List.mem_cons_self | apply List.mem_cons_of_mem)) rfl) | (go_at_call 59; with_reducible refine (unhide hD _).mono ?_; rintro e w' ⟨he, hb⟩; subst he; have D := hide ((unhide D).keep hb); clear hb) | (with_reducible refine at_list ?_;  refine stOne (n := q) rfl _ _ rfl rfl rfl rfl ?_) | (with_reducible refine at_list ?_;  refine stTwoG (n := q) (m := m) (unhide D) rfl _ _ rfl rfl rfl rfl ?_; intro w1 D'; have D := D'; clear D'))
  go_upto_region 5 with (first | (with_reducible refine at_list ?_; apply ldG (unhide D) rWide _ rfl rfl rfl (by repeat (first | exact List.mem_cons_self | apply List.mem_cons_of_mem)) rfl) | (go_at_call 74; with_reducible refine (unhide hQ _).mono ?_; rintro e w' ⟨he, hb⟩; subst he; have D := hide ((unhide D).keep hb); clear hb) | (with_reducible refine at_list ?_; refine stG (unhide D) rWide _ _ rfl rfl rfl rfl rfl rfl (cells8_one _) ?_; intro D'; have D := hide D'; clear D'))
  go_upto_region 8 with (first | (with_reducible refine at_list ?_; apply ldG (unhide D) rWide _ rfl rfl rfl (by repeat (first | exact List.mem_cons_self | apply List.mem_cons_of_mem)) rfl) | (go_at_call 42; with_reducible refine (unhide hI _).mono ?_; rintro e w' ⟨he, hb⟩; subst he; have D := hide ((unhide D).keep hb); clear hb) | (go_at_call 73; with_reducible refine (unhide hG _).mono ?_; rintro e w' ⟨he, hb⟩; subst he; have D := hide ((unhide D).keep hb); clear hb) | (with_reducible refine at_list ?_;  refine geqZ _ _ hs rfl rfl rfl rfl ?_))
  go_upto_region 9 with (first | (with_reducible refine at_list ?_; apply ldG (unhide D) rWide _ rfl rfl rfl (by repeat (first | exact List.mem_cons_self | apply List.mem_cons_of_mem)) rfl) | (go_at_call 45; with_reducible refine (unhide hK _).mono ?_; rintro e w' ⟨he, hb⟩; subst he; have D := hide ((unhide D).keep hb); clear hb) | (with_reducible refine at_list ?_;  have hl := hide (fun p hp => Nat.ne_of_lt ((unhide D).at_ p hp).lt); have hw := hide (unhide D).o.size; refine stG (unhide D) rWide _ _ rfl rfl rfl rfl rfl rfl (cells8_one _) ?_; intro D'; have D := hide D'; clear D'))
  go_upto_region 10 with (first | (with_reducible refine at_list ?_; apply ldG (unhide D) rWide _ rfl rfl rfl (by repeat (first | exact List.mem_cons_self | apply List.mem_cons_of_mem)) rfl) | (go_at_call 45; with_reducible refine (unhide hJ _).mono ?_; rintro e w' ⟨he, hb⟩; subst he; have D := hide ((unhide D).keep hb); clear hb) | (with_reducible refine at_list ?_;  refine stSetG (n := j) (unhide D) (unhide hw) (unhide hl) _ _ rfl rfl rfl rfl rfl ?_; intro w5 D'; have D := D'; clear D'))
  clear hl hw
  go_wp2_with (first | (with_reducible refine at_list ?_; apply ldG (unhide D) rWide _ rfl rfl rfl (by repeat (first | exact List.mem_cons_self | apply List.mem_cons_of_mem)) rfl) | (with_reducible refine at_list ?_;  refine wpList_value rfl (exec_neq_wide_is (unhide hX) _ _ _ rfl rfl rfl) ?_))
  go_ret
  exact ⟨rfl, (unhide D).o⟩
theorem sgn_ge (x : Int) : decide (0 ≤ sgn x) = decide (0 ≤ x) := by
  unfold sgn
  by_cases h : x < 0
  · rw [if_pos h, decide_eq_false (show ¬ 0 ≤ x by omega)]; decide
  · rw [if_neg h, decide_eq_true (show 0 ≤ x by omega)]
    split <;> decide
theorem sz_le4 {k : Nat} {a b : Int} (h0 : 0 ≤ a) (h : a ≤ b) (hb : Sz k b) : Sz k a := by
  unfold Sz at *
  omega
theorem neg_up {x r S : Int} (h : PartU x (wrap64 (-(cl (r + 1)))) S) (h0 : 0 ≤ r) : wrap64 (-(wrap64 (cl r + 1))) = wrap64 (-(cl (r + 1))) := by
  have l := h.l
  have r' := h.r
  clear h
  revert l r'
  unfold cl wrap64
  intro l r'
  repeat' split at l
  all_goals (repeat' split at r')
  all_goals (repeat' split)
  all_goals omega
theorem QShareZ (x S : Int) (hx : I64 x) (h0 : 0 < S) (hS : Sz 140 S) (hq : x * x ≤ S) : Ans 44 #[V x, V S] (.int .i64 (shI x S)) := fun w => by
  have hp : Sz 191 (x * x * ((2 ^ (64 : Int).toNat : Nat) : Int)) := ((hx.sz.mul hx.sz).mul (show Sz 64 _ by unfold Sz; decide)).mono (by decide)
  have hp0 : 0 ≤ x * x * ((2 ^ (64 : Int).toNat : Nat) : Int) := Int.mul_nonneg (sq_nn x) (by decide)
  have hM : Ans 45 #[V x, V x] _ := mul_told _ _ hx.sz hx.sz (by decide)
  have hL : Ans 48 #[V (x * x), .int .i64 64] (.tuple #[V (x * x * ((2 ^ (64 : Int).toNat : Nat) : Int)), .bool true]) := fun u => by
    have k := ShlZ (x * x) 64 ((hx.sz.mul hx.sz).fit (by decide)) (by decide) (by decide) u
    rw [fit_true (hp.fit (by decide))] at k
    exact k
  have hd : Sz 192 ((x * x * ((2 ^ (64 : Int).toNat : Nat) : Int)).fdiv S) := (hp.fdiv (by omega)).mono (by decide)
  have hd0 : 0 ≤ (x * x * ((2 ^ (64 : Int).toNat : Nat) : Int)).fdiv S := Int.fdiv_nonneg hp0 (by omega)
  have hD := div_told (x * x * ((2 ^ (64 : Int).toNat : Nat) : Int)) S hp hS (by decide) (by decide) (by omega)
  have hQ := sqrt_told _ hd0 hd (by decide)
  have hr := isq_sz hd
  have hrr : Sz 192 (rt ((x * x * ((2 ^ (64 : Int).toNat : Nat) : Int)).fdiv S) * rt ((x * x * ((2 ^ (64 : Int).toNat : Nat) : Int)).fdiv S)) := sz_le4 (sq0 _) (isq_sq _ hd0).1 hd
  have hr0 := (isq_sq _ hd0).2.2
  have hI : Ans 42 #[V (rt ((x * x * ((2 ^ (64 : Int).toNat : Nat) : Int)).fdiv S)), .int .i64 32] _ := InZ _ 32 (hr.fit (by decide)) ⟨by decide, by decide⟩
  have hG : Ans 73 #[V x] _ := fun u => SignZ x hx.fit u
  have pu := shI_shr h0 hq
  unfold shI upR rex
  unfold shI upR rex at pu
  unfold rfl' at *
  by_cases hx0 : x < 0
  · rw [if_pos hx0] at pu ⊢
    have hK : Ans 45 #[V (rt ((x * x * ((2 ^ (64 : Int).toNat : Nat) : Int)).fdiv S)), V (rt ((x * x * ((2 ^ (64 : Int).toNat : Nat) : Int)).fdiv S))] _ := mul_told _ _ hr hr (by decide)
    have hJ : Ans 45 #[V (rt ((x * x * ((2 ^ (64 : Int).toNat : Nat) : Int)).fdiv S) * rt ((x * x * ((2 ^ (64 : Int).toNat : Nat) : Int)).fdiv S)), V S] _ := mul_told _ _ hrr hS (by decide)
    have hf : Fit (rt ((x * x * ((2 ^ (64 : Int).toNat : Nat) : Int)).fdiv S) * rt ((x * x * ((2 ^ (64 : Int).toNat : Nat) : Int)).fdiv S) * S) := (hrr.mul hS).fit (by decide)
    have hn := hp.fit (k := 191) (by decide)
    have hs := (sgn_ge x).trans (decide_eq_false (show ¬ 0 ≤ x by omega))
    generalize x * x * ((2 ^ (64 : Int).toNat : Nat) : Int) = n at *
    generalize rt (n.fdiv S) = r at *
    rw [inI_32] at hI
    by_cases hb : r * r * S = n
    · rw [if_pos (decide_eq_true hb), inI_32]
      exact qshare_whole _ _ (enc x) (enc S) _ _ _ _ (enc r) _ _ true w hs hM hL hD hQ hI hG hK hJ (by show _ = _; rw [same_enc hf hn]; exact decide_eq_true hb)
    · rw [if_neg (by simpa using hb), inI_32] at pu ⊢
      have k := qshare_up _ _ (enc x) (enc S) _ _ _ _ (enc r) _ _ true w hs hM hL hD hQ hI hG hK hJ (by show _ = _; rw [same_enc hf hn]; exact decide_eq_false hb)
      rw [neg_up pu hr0] at k
      exact k
  · rw [if_neg hx0]
    exact qshare_pos _ _ (enc x) (enc S) _ _ _ _ _ true w ((sgn_ge x).trans (decide_eq_true (by omega))) hM hL hD hQ hI hG
set_option maxHeartbeats 1000000 in
theorem clos_QUnit (k : Nat) (hk : k < 4) (L : List Nat) (n N : Nat) (v : Int) (g0 g1 : Nat) (u : World) (h0 : Blk u g0 56 (ws L)) (h1 : Blk u g1 42 (cells8 N)) (hn : L[k]? = some n) (hF : Hid (Ans 44 #[.agg (cells8 n), .agg (cells8 N)] (.int .i64 v))) :
    Calls Tryd.prog 43 #[.int .i64 k, .pointer (some ⟨g0, 0, none⟩), .pointer (some ⟨g1, 0, none⟩)] u fun e w' => e = .returned (.int .i64 v) ∧ Below u.heap.size u w' := by
  have D := hide (Gen.two h0 h1)
  clear h0 h1
  go_enter Tryd.func43, Tryd.ntmps43
  go_upto_region 1 with fail
  refine region_plan (S := Gen u _) (l := [0, 1, 2, 3, 4, 5]) (by kernel_rfl) (by kernel_rfl) (by kernel_rfl) (by kernel_rfl) (by kernel_rfl) (by kernel_rfl) (by kernel_rfl) (unhide D).drew ?_
  clear D
  refine plan_read (v := ?_) rfl rfl (fun u hS => by go_simp; rfl) ?_
  go_simp
  refine plan_read (v := .pointer (some ⟨g0, k * 8, none⟩)) rfl rfl (fun u hS => exec_ix u (.tmp 1) (.tmp 5) hk rfl rfl rfl) ?_
  go_simp
  refine plan_read (v := .agg (cells8 n)) rfl rfl (fun u hS => exec_ldMid (.tmp 6) rfl rfl (ws_range (hS.blk (g := g0) (t := 56) (cs := ws L) (by repeat (first | exact List.mem_cons_self | apply List.mem_cons_of_mem))) hn)) ?_
  go_simp
  refine plan_read (v := .agg (cells8 N)) rfl rfl (fun u hS => exec_loadG hS rWide _ rfl rfl (by repeat (first | exact List.mem_cons_self | apply List.mem_cons_of_mem)) rfl) ?_
  go_simp
  refine plan_call (v := .int .i64 v) (f := 44) (args := #[.agg (cells8 n), .agg (cells8 N)]) rfl rfl (fun u hS => by go_simp) (fun u hS => (unhide hF u).mono fun _ _ ⟨he, hb⟩ => ⟨he, hS.keep hb⟩) ?_
  go_simp
  refine plan_read (v := ?_) rfl rfl (fun u hS => by go_simp; rfl) ?_
  go_simp
  refine plan_end (fun u hS => ?_)
  have O := hide hS.o
  clear hS
  go_wp2
  go_ret
  exact ⟨rfl, unhide O⟩
theorem qUnit_bad (a b c d : Int) (e0 e1 e2 e3 n : Nat) (w : World) (hR : Hid (Ans 26 #[.agg (q4 a b c d)] (.agg (ws [e0, e1, e2, e3])))) (hS : Hid (Ans 27 #[.agg (ws [e0, e1, e2, e3])] (.agg (cells8 n)))) (hC : Hid (Ans 28 #[.agg (cells8 n)] (.int .i64 9))) :
    Calls Tryd.prog 15 #[.agg (q4 a b c d)] w fun e w' => e = .returned (.tuple #[.agg (q4 0 0 0 0), .int .i64 9]) ∧ Below w.heap.size w w' := by
  go_enter Tryd.func15, Tryd.ntmps15
  go_upto_region 1 with fail
  have D := hide (((Gen.start w).push 24 (q4 a b c d)).push 24 (q4 0 0 0 0))
  simp only [szA] at D
  go_wp2_with (first | (with_reducible refine at_list ?_; apply ldG (unhide D) rQuat _ rfl rfl rfl (by repeat (first | exact List.mem_cons_self | apply List.mem_cons_of_mem)) rfl) | (with_reducible refine at_list ?_; apply ldG (unhide D) rNum _ rfl rfl rfl (by repeat (first | exact List.mem_cons_self | apply List.mem_cons_of_mem)) rfl) | (with_reducible refine at_list ?_; apply ldG (unhide D) rWide _ rfl rfl rfl (by repeat (first | exact List.mem_cons_self | apply List.mem_cons_of_mem)) rfl) | (go_at_call 26; with_reducible refine (unhide hR _).mono ?_; rintro e w' ⟨he, hb⟩; subst he; have D := hide ((unhide D).keep hb); clear hb) | (go_at_call 27; with_reducible refine (unhide hS _).mono ?_; rintro e w' ⟨he, hb⟩; subst he; have D := hide ((unhide D).keep hb); clear hb) | (go_at_call 28; with_reducible refine (unhide hC _).mono ?_; rintro e w' ⟨he, hb⟩; subst he; have D := hide ((unhide D).keep hb); clear hb) | (with_reducible refine at_list ?_; refine stG (unhide D) rNum _ _ rfl rfl rfl rfl rfl rfl (ws_one _) ?_; intro D'; have D := hide D'; clear D') | (with_reducible refine at_list ?_; refine stG (unhide D) rWide _ _ rfl rfl rfl rfl rfl rfl (cells8_one _) ?_; intro D'; have D := hide D'; clear D') | (with_reducible refine at_list ?_; apply stGend (unhide D) rQuat _ _ rfl rfl rfl rfl (by repeat (first | exact List.mem_cons_self | apply List.mem_cons_of_mem)) (by omega) rfl rfl (q4_one _ _ _ _); intro B O))
  exact resGT rQuat (unhide B) rfl rfl rfl rfl rfl ⟨rfl, unhide O⟩
theorem qUnit_core (a b c d x0 x1 x2 x3 : Int) (e0 e1 e2 e3 n : Nat) (w : World) (hR : Hid (Ans 26 #[.agg (q4 a b c d)] (.agg (ws [e0, e1, e2, e3])))) (hS : Hid (Ans 27 #[.agg (ws [e0, e1, e2, e3])] (.agg (cells8 n)))) (hC : Hid (Ans 28 #[.agg (cells8 n)] (.int .i64 0)))
    (hE : Hid (∀ u g0 g1, Blk u g0 56 (ws [e0, e1, e2, e3]) → Blk u g1 42 (cells8 n) → Calls Tryd.prog 40 #[.func (Fn.func 43) #[] #[.pointer (some ⟨g0, 0, none⟩), .pointer (some ⟨g1, 0, none⟩)]] u fun e w' => e = .returned (.agg (q4 x0 x1 x2 x3)) ∧ Below u.heap.size u w')) :
    Calls Tryd.prog 15 #[.agg (q4 a b c d)] w fun e w' => e = .returned (.tuple #[.agg (q4 x0 x1 x2 x3), .int .i64 0]) ∧ Below w.heap.size w w' := by
  go_enter Tryd.func15, Tryd.ntmps15
  go_upto_region 1 with fail
  have D := hide (((Gen.start w).push 24 (q4 a b c d)).push 24 (q4 0 0 0 0))
  simp only [szA] at D
  go_wp2_with (first | (with_reducible refine at_list ?_; apply ldG (unhide D) rQuat _ rfl rfl rfl (by repeat (first | exact List.mem_cons_self | apply List.mem_cons_of_mem)) rfl) | (with_reducible refine at_list ?_; apply ldG (unhide D) rNum _ rfl rfl rfl (by repeat (first | exact List.mem_cons_self | apply List.mem_cons_of_mem)) rfl) | (with_reducible refine at_list ?_; apply ldG (unhide D) rWide _ rfl rfl rfl (by repeat (first | exact List.mem_cons_self | apply List.mem_cons_of_mem)) rfl) | (go_at_call 26; with_reducible refine (unhide hR _).mono ?_; rintro e w' ⟨he, hb⟩; subst he; have D := hide ((unhide D).keep hb); clear hb) | (go_at_call 27; with_reducible refine (unhide hS _).mono ?_; rintro e w' ⟨he, hb⟩; subst he; have D := hide ((unhide D).keep hb); clear hb) | (go_at_call 28; with_reducible refine (unhide hC _).mono ?_; rintro e w' ⟨he, hb⟩; subst he; have D := hide ((unhide D).keep hb); clear hb) | (with_reducible refine at_list ?_; refine stG (unhide D) rNum _ _ rfl rfl rfl rfl rfl rfl (ws_one _) ?_; intro D'; have D := hide D'; clear D') | (with_reducible refine at_list ?_; refine stG (unhide D) rWide _ _ rfl rfl rfl rfl rfl rfl (cells8_one _) ?_; intro D'; have D := hide D'; clear D') | (go_at_call 40; with_reducible refine (unhide hE _ _ _ ((unhide D).blk (by repeat (first | exact List.mem_cons_self | apply List.mem_cons_of_mem))) ((unhide D).blk (by repeat (first | exact List.mem_cons_self | apply List.mem_cons_of_mem)))).mono ?_; rintro e w' ⟨he, hb⟩; subst he; have D := hide ((unhide D).keep hb); clear hb) | (with_reducible refine at_list ?_; apply stGend (unhide D) rQuat _ _ rfl rfl rfl rfl (by repeat (first | exact List.mem_cons_self | apply List.mem_cons_of_mem)) (by omega) rfl rfl (q4_one _ _ _ _); intro B O))
  exact resGT rQuat (unhide B) rfl rfl rfl rfl rfl ⟨rfl, unhide O⟩
theorem sq4_ge (a b c d : Int) : a * a ≤ sq4 a b c d ∧ b * b ≤ sq4 a b c d ∧ c * c ≤ sq4 a b c d ∧ d * d ≤ sq4 a b c d := by
  have := sq0 a
  have := sq0 b
  have := sq0 c
  have := sq0 d
  unfold sq4
  omega
theorem chk_pos {n : Int} (h : chk n = 0) : 4611686018427387904 ≤ n ∧ n ≤ 73786976294838206464 := by
  unfold chk at h
  split at h
  · omega
  · split at h <;> omega
theorem chk_cases (n : Int) : chk n = 0 ∨ chk n = 9 := by
  unfold chk
  split
  · exact .inr rfl
  · split
    · exact .inr rfl
    · exact .inl rfl
theorem QUnitBad (a b c d : Int) (h0 : I64 a) (h1 : I64 b) (h2 : I64 c) (h3 : I64 d) (hc : chk (sq4 a b c d) = 9) : Ans 15 #[.agg (q4 a b c d)] (.tuple #[.agg (q4 0 0 0 0), .int .i64 9]) := fun w =>
  qUnit_bad a b c d _ _ _ _ _ w (QRawZ a b c d h0 h1 h2 h3) (QSquareZ a b c d (n4_I64 h0 h1 h2 h3)) (hc ▸ CheckN _ ((sq4_sz (n4_I64 h0 h1 h2 h3)).mono (by decide)))
theorem QUnitZ (a b c d : Int) (h0 : I64 a) (h1 : I64 b) (h2 : I64 c) (h3 : I64 d) (hc : chk (sq4 a b c d) = 0) : Ans 15 #[.agg (q4 a b c d)] (.tuple #[.agg (q4 (shI a (sq4 a b c d)) (shI b (sq4 a b c d)) (shI c (sq4 a b c d)) (shI d (sq4 a b c d))), .int .i64 0]) := fun w =>
  have hs := (sq4_sz (n4_I64 h0 h1 h2 h3)).mono (show 130 ≤ 140 by decide)
  have hp : 0 < sq4 a b c d := by have := chk_pos hc; omega
  have hg := sq4_ge a b c d
  qUnit_core a b c d _ _ _ _ _ _ _ _ _ w (QRawZ a b c d h0 h1 h2 h3) (QSquareZ a b c d (n4_I64 h0 h1 h2 h3)) (hc ▸ CheckN _ ((sq4_sz (n4_I64 h0 h1 h2 h3)).mono (by decide))) (fun u g0 g1 b0 b1 =>
    qeach_Unit (Gen u [(g0, 56, ws [enc a, enc b, enc c, enc d]), (g1, 42, cells8 (enc (sq4 a b c d)))]) g0 g1 _ _ _ _ u (Gen.two b0 b1) (fun _ _ h hb => h.keep hb)
      (fun v hS => clos_QUnit 0 (by decide) _ _ _ _ g0 g1 v (hS.blk (by repeat (first | exact List.mem_cons_self | apply List.mem_cons_of_mem))) (hS.blk (by repeat (first | exact List.mem_cons_self | apply List.mem_cons_of_mem))) rfl (QShareZ a _ h0 hp hs hg.1)) (fun v hS => clos_QUnit 1 (by decide) _ _ _ _ g0 g1 v (hS.blk (by repeat (first | exact List.mem_cons_self | apply List.mem_cons_of_mem))) (hS.blk (by repeat (first | exact List.mem_cons_self | apply List.mem_cons_of_mem))) rfl (QShareZ b _ h1 hp hs hg.2.1))
      (fun v hS => clos_QUnit 2 (by decide) _ _ _ _ g0 g1 v (hS.blk (by repeat (first | exact List.mem_cons_self | apply List.mem_cons_of_mem))) (hS.blk (by repeat (first | exact List.mem_cons_self | apply List.mem_cons_of_mem))) rfl (QShareZ c _ h2 hp hs hg.2.2.1)) (fun v hS => clos_QUnit 3 (by decide) _ _ _ _ g0 g1 v (hS.blk (by repeat (first | exact List.mem_cons_self | apply List.mem_cons_of_mem))) (hS.blk (by repeat (first | exact List.mem_cons_self | apply List.mem_cons_of_mem))) rfl (QShareZ d _ h3 hp hs hg.2.2.2)))

end Go.Proofs.YtikmjfepflaokaaDoor

namespace Go.Proofs.YtikmjfepflaokaaDoor
open Go.RowKit
set_option maxRecDepth 4000
set_option linter.unusedVariables false

theorem arrNine : Tryd.prog.underlying 60 = some (.array (Tryd.prog.arrayLen 60) (Tryd.prog.elem 60)) := by kernel_rfl
theorem lenNine : Tryd.prog.arrayLen 60 = 9 := by kernel_rfl
theorem elNine : (Tryd.prog.info? (Tryd.prog.elem 60)).map (·.size) = some 8 := by kernel_rfl
theorem exec_ix9 {o : Oper} {a : Act} (w : World) {g k : Nat} (x y : Operand) (hk : k < 9) (ho : o.op = .indexAddr 60 x y) (hx : a.eval x = .pointer (some ⟨g, 0, none⟩)) (hy : a.eval y = .int .i64 k) : (execOp a.eval o).run Tryd.prog w = .ok (.value (.pointer (some ⟨g, k * 8, none⟩))) w := by
  unfold execOp
  simp only [ho, hx, hy, Sem.run_bind, run_indexAt_array w _ _ _ _ arrNine, lenNine]
  rw [if_pos ⟨by omega, by omega⟩, run_sizeOf elNine]
  simp only [Result.andThen_ok, Sem.run_pure, Addr.add_mid, Int.toNat_natCast, Nat.zero_add]
theorem rNine : Rw 60 72 := ⟨⟨_, Tryd.underlying60, rfl⟩, by kernel_rfl⟩
theorem rTurns : Rw 87 96 := ⟨⟨_, Tryd.underlying87, rfl⟩, by kernel_rfl⟩
theorem z72_ws : Tryd.zeroCells60 = ws [0, 0, 0, 0, 0, 0, 0, 0, 0] := by kernel_rfl
set_option maxHeartbeats 4000000 in
theorem turn_core (T : Array Value) (P : List Nat) (at' fa fb : Nat → Nat) (sg : Nat → Int) (N R : Nat → Nat) (st : Nat → List Nat) (w : World) (hT : Tab 0 T w) (hTs : T.size = 96) (hPs : (ws P).size = 32) (h0 : st 0 = [0, 0, 0, 0, 0, 0, 0, 0, 0])
    (hI : Hid (∀ k : Nat, k < 24 → ∀ u, (Instr.index 87 (.agg T) (.int .i64 k)).run Tryd.prog u = .ok (.agg (q4 (at' k) (sg k) (fa k) (fb k))) u))
    (hat : Hid (∀ k, k < 24 → at' k < 9)) (hlen : Hid (∀ k, (st k).length = 9)) (hN : Hid (∀ k, k < 24 → (st k)[at' k]? = some (N k))) (hst : Hid (∀ k, k < 24 → st (k + 1) = (st k).set (at' k) (R k)))
    (hA : Hid (∀ k, k < 24 → Ans 58 #[.agg (q4 (at' k) (sg k) (fa k) (fb k)), .agg (cells8 (N k)), .agg (ws P), .agg (ws P)] (.agg (cells8 (R k))))) :
    Calls Tryd.prog 29 #[.agg (ws P)] w fun e w' => e = .returned (.agg (ws (st 24))) ∧ Below w.heap.size w w' := by
  have hTlt := hT.lt
  have HT := hide hT
  clear hT
  go_enter Tryd.func29, Tryd.ntmps29
  go_upto_region 2 with fail
  have D := hide ((((Gen.start w).push 56 (ws P)).push 60 Tryd.zeroCells60).push 60 Tryd.zeroCells60)
  simp only [szA] at D
  generalize hgz : (((w.alloc (.cells (ws P) 56)).alloc (.cells Tryd.zeroCells60 60)).alloc (.cells Tryd.zeroCells60 60)) = w1 at D ⊢
  clear hgz
  rw [z72_ws] at D
  have T1 := hide ((unhide HT).below (unhide D).o hTlt)
  go_wp2_with (first | (with_reducible refine at_list ?_;  refine wpList_value rfl (exec_loadT rTurns _ rfl rfl (unhide T1) hTs) ?_))
  clear T1 HT
  go_loopw [7] (fun i wr => ∃ k : Nat, k ≤ 24 ∧ i = .int .i64 k ∧ Hid (Gen w [(w.heap.size + 1 + 1, 60, ws (st k)), (w.heap.size + 1, 60, ws [0, 0, 0, 0, 0, 0, 0, 0, 0]), (w.heap.size, 56, ws P)] wr)) (fun i _ => 24 - (intOf i).toNat)
  case atStart => exact ⟨0, by omega, rfl, by rw [h0]; exact D⟩
  case round =>
    obtain ⟨k, hk, rfl, hD⟩ := hrel
    by_cases hkn : k < 24
    · have hg : (k : Int) < 24 := by omega
      have Ik := hide (fun u => unhide hI k hkn u)
      have ak := unhide hat k hkn
      have Nk := hide (unhide hN k hkn)
      have Rk := hide (unhide hst k hkn)
      have Ak := hide (unhide hA k hkn)
      have Lk := hide (unhide hlen k)
      clear hI hat hN hst hA hlen D
      have D := hD
      clear hD
      go_upto_region 5 with (first | (with_reducible refine at_list ?_;  refine wpList_value rfl (exec_idxT _ (.tmp 6) (.tmp 7) (unhide Ik _) rfl rfl rfl) ?_) | (with_reducible refine at_list ?_; refine stG (unhide D) rPart _ _ rfl rfl rfl rfl rfl rfl (q4_one _ _ _ _) ?_; intro D'; have D := hide D'; clear D'))
      clear Ik
      refine region_last (S := Gen w _) (f := 11) (l := [0, 1, 2, 3, 4, 5, 6, 7, 8, 9, 10]) (by kernel_rfl) (by kernel_rfl) (by kernel_rfl) (by kernel_rfl) (by kernel_rfl) (by kernel_rfl) (by kernel_rfl) (by kernel_rfl) (by kernel_rfl) (by kernel_rfl) rfl rfl (unhide D).drew ?_
      clear D
      generalize hak : at' k = m at *
      refine plan_read (v := ?_) rfl rfl (fun u hS => by go_simp; rfl) ?_
      go_simp
      refine plan_read (v := .int .i64 m) rfl rfl (fun u hS => exec_loadIG hS _ rfl rfl (by repeat (first | exact List.mem_cons_self | apply List.mem_cons_of_mem)) rfl) ?_
      go_simp
      refine plan_read (v := .agg (q4 m (sg k) (fa k) (fb k))) rfl rfl (fun u hS => exec_loadG hS rPart _ rfl rfl (by repeat (first | exact List.mem_cons_self | apply List.mem_cons_of_mem)) rfl) ?_
      go_simp
      refine plan_read (v := ?_) rfl rfl (fun u hS => by go_simp; rfl) ?_
      go_simp
      refine plan_read (v := .int .i64 m) rfl rfl (fun u hS => exec_loadIG hS _ rfl rfl (by repeat (first | exact List.mem_cons_self | apply List.mem_cons_of_mem)) rfl) ?_
      go_simp
      refine plan_read (v := .pointer (some ⟨w.heap.size + 1 + 1, m * 8, none⟩)) rfl rfl (fun u hS => exec_ix9 u (.tmp 3) (.tmp 14) ak rfl rfl rfl) ?_
      go_simp
      refine plan_read (v := .agg (cells8 (N k))) rfl rfl (fun u hS => exec_ldMid (.tmp 15) rfl rfl (ws_range (hS.blk (g := w.heap.size + 1 + 1) (t := 60) (cs := ws (st k)) (by repeat (first | exact List.mem_cons_self | apply List.mem_cons_of_mem))) (unhide Nk))) ?_
      go_simp
      refine plan_read (v := .agg (ws P)) rfl rfl (fun u hS => exec_loadG hS rNum (.tmp 1) rfl rfl (by repeat (first | exact List.mem_cons_self | apply List.mem_cons_of_mem)) hPs) ?_
      go_simp
      refine plan_read (v := .agg (ws P)) rfl rfl (fun u hS => exec_loadG hS rNum (.tmp 1) rfl rfl (by repeat (first | exact List.mem_cons_self | apply List.mem_cons_of_mem)) hPs) ?_
      go_simp
      refine plan_call (v := .agg (cells8 (R k))) (f := 58) (args := #[.agg (q4 m (sg k) (fa k) (fb k)), .agg (cells8 (N k)), .agg (ws P), .agg (ws P)]) rfl rfl (fun u hS => by go_simp) (fun u hS => (unhide Ak u).mono fun _ _ ⟨he, hb⟩ => ⟨he, hS.keep hb⟩) ?_
      go_simp
      refine plan_read (v := .pointer (some ⟨w.heap.size + 1 + 1, m * 8, none⟩)) rfl rfl (fun u hS => exec_ix9 u (.tmp 3) (.tmp 11) ak rfl rfl rfl) ?_
      go_simp
      refine plan_last (fun u hS => ?_)
      have B5 := hide (hS.blk (g := w.heap.size + 1 + 1) (t := 60) (cs := ws (st k)) (by repeat (first | exact List.mem_cons_self | apply List.mem_cons_of_mem)))
      refine wp_store_mid 42 (.tmp 20) (.tmp 19) rfl (w.heap.size + 1 + 1) (m * 8) (cells8 (R k)) rfl rfl (ws_there (unhide B5) (by rw [unhide Lk]; exact ak)) iWide (cells8_one _) ?_
      have D := hide (hS.tail.setW (n := R k) (k := m) (by rw [unhide Lk]; exact ak) (show w.heap.size ≤ w.heap.size + 1 + 1 by omega) (fun p hp => by
        simp only [List.mem_cons, List.not_mem_nil, or_false] at hp
        rcases hp with rfl | rfl <;> dsimp only <;> omega))
      clear hS B5 Nk Ak
      rw [← unhide Rk] at D
      generalize u.setCells _ _ _ = u1 at D ⊢
      go_wp2
      go_roundw
      case rel => exact ⟨k + 1, by omega, by go_num, D⟩
      case measure => simp [intOf]; omega
    · obtain rfl : k = 24 := by omega
      have D := hD
      have hz : (ws (st 24)).size = 72 := by rw [ws_size, unhide hlen 24]
      clear hD hI hat hN hst hA hlen
      go_wp2_with (first | (with_reducible refine at_list ?_;  apply ldG (unhide D) rNine _ rfl rfl rfl (by repeat (first | exact List.mem_cons_self | apply List.mem_cons_of_mem)) hz) | (with_reducible refine at_list ?_;  apply stGend (unhide D) rNine _ _ rfl rfl rfl rfl (by repeat (first | exact List.mem_cons_self | apply List.mem_cons_of_mem)) (by omega) rfl hz (ws_one _); intro B O))
      exact resG rNine (unhide B) hz rfl rfl rfl ⟨rfl, unhide O⟩

/-- The parts of a matrix: which number, the sign, which two. -/
def tnL : List (Nat × Int × Nat × Nat) := [(0, 1, 0, 0), (0, 1, 1, 1), (0, -1, 2, 2), (0, -1, 3, 3), (1, 2, 1, 2), (1, -2, 0, 3), (2, 2, 1, 3), (2, 2, 0, 2), (3, 2, 1, 2), (3, 2, 0, 3), (4, 1, 0, 0), (4, -1, 1, 1), (4, 1, 2, 2), (4, -1, 3, 3), (5, 2, 2, 3), (5, -2, 0, 1), (6, 2, 1, 3), (6, -2, 0, 2), (7, 2, 2, 3), (7, 2, 0, 1), (8, 1, 0, 0), (8, -1, 1, 1), (8, -1, 2, 2), (8, 1, 3, 3)]
def tnA (k : Nat) : Nat := (tnL.getD k (0, 0, 0, 0)).1
def tnS (k : Nat) : Int := (tnL.getD k (0, 0, 0, 0)).2.1
def tnF (k : Nat) : Nat := (tnL.getD k (0, 0, 0, 0)).2.2.1
def tnG (k : Nat) : Nat := (tnL.getD k (0, 0, 0, 0)).2.2.2
def tabT : Array Value := (tnL.flatMap fun p => [.int .i64 p.1, .int .i64 p.2.1, .int .i64 p.2.2.1, .int .i64 p.2.2.2]).toArray
theorem lt24 {k : Nat} (h : k < 24) : k = 0 ∨ k = 1 ∨ k = 2 ∨ k = 3 ∨ k = 4 ∨ k = 5 ∨ k = 6 ∨ k = 7 ∨ k = 8 ∨ k = 9 ∨ k = 10 ∨ k = 11 ∨ k = 12 ∨ k = 13 ∨ k = 14 ∨ k = 15 ∨ k = 16 ∨ k = 17 ∨ k = 18 ∨ k = 19 ∨ k = 20 ∨ k = 21 ∨ k = 22 ∨ k = 23 := by omega
theorem tnA_lt (k : Nat) (h : k < 24) : tnA k < 9 := by
  rcases lt24 h with rfl | rfl | rfl | rfl | rfl | rfl | rfl | rfl | rfl | rfl | rfl | rfl | rfl | rfl | rfl | rfl | rfl | rfl | rfl | rfl | rfl | rfl | rfl | rfl <;> decide
theorem tnF_lt (k : Nat) (h : k < 24) : tnF k < 4 := by
  rcases lt24 h with rfl | rfl | rfl | rfl | rfl | rfl | rfl | rfl | rfl | rfl | rfl | rfl | rfl | rfl | rfl | rfl | rfl | rfl | rfl | rfl | rfl | rfl | rfl | rfl <;> decide
theorem tnG_lt (k : Nat) (h : k < 24) : tnG k < 4 := by
  rcases lt24 h with rfl | rfl | rfl | rfl | rfl | rfl | rfl | rfl | rfl | rfl | rfl | rfl | rfl | rfl | rfl | rfl | rfl | rfl | rfl | rfl | rfl | rfl | rfl | rfl <;> decide
theorem tnS_sz (k : Nat) (h : k < 24) : -2 ≤ tnS k ∧ tnS k ≤ 2 := by
  rcases lt24 h with rfl | rfl | rfl | rfl | rfl | rfl | rfl | rfl | rfl | rfl | rfl | rfl | rfl | rfl | rfl | rfl | rfl | rfl | rfl | rfl | rfl | rfl | rfl | rfl <;> decide
theorem tabT_at (k : Nat) (h : k < 24) (u : World) : (Instr.index 87 (.agg tabT) (.int .i64 k)).run Tryd.prog u = .ok (.agg (q4 (tnA k) (tnS k) (tnF k) (tnG k))) u := by
  rcases lt24 h with rfl | rfl | rfl | rfl | rfl | rfl | rfl | rfl | rfl | rfl | rfl | rfl | rfl | rfl | rfl | rfl | rfl | rfl | rfl | rfl | rfl | rfl | rfl | rfl <;> kernel_rfl
def ac9 (f : Nat → Int) : List Nat := [enc (f 0), enc (f 1), enc (f 2), enc (f 3), enc (f 4), enc (f 5), enc (f 6), enc (f 7), enc (f 8)]
theorem lt9 {k : Nat} (h : k < 9) : k = 0 ∨ k = 1 ∨ k = 2 ∨ k = 3 ∨ k = 4 ∨ k = 5 ∨ k = 6 ∨ k = 7 ∨ k = 8 := by omega
theorem ac9_get {f : Nat → Int} {k : Nat} (h : k < 9) : (ac9 f)[k]? = some (enc (f k)) := by
  rcases lt9 h with rfl | rfl | rfl | rfl | rfl | rfl | rfl | rfl | rfl <;> rfl
theorem ac9_set {f g : Nat → Int} {m : Nat} (hm : m < 9) (he : ∀ j, j ≠ m → g j = f j) : ac9 g = (ac9 f).set m (enc (g m)) := by
  unfold ac9
  rcases lt9 hm with rfl | rfl | rfl | rfl | rfl | rfl | rfl | rfl | rfl
  · rw [he 1 (by omega), he 2 (by omega), he 3 (by omega), he 4 (by omega), he 5 (by omega), he 6 (by omega), he 7 (by omega), he 8 (by omega)]; rfl
  · rw [he 0 (by omega), he 2 (by omega), he 3 (by omega), he 4 (by omega), he 5 (by omega), he 6 (by omega), he 7 (by omega), he 8 (by omega)]; rfl
  · rw [he 0 (by omega), he 1 (by omega), he 3 (by omega), he 4 (by omega), he 5 (by omega), he 6 (by omega), he 7 (by omega), he 8 (by omega)]; rfl
  · rw [he 0 (by omega), he 1 (by omega), he 2 (by omega), he 4 (by omega), he 5 (by omega), he 6 (by omega), he 7 (by omega), he 8 (by omega)]; rfl
  · rw [he 0 (by omega), he 1 (by omega), he 2 (by omega), he 3 (by omega), he 5 (by omega), he 6 (by omega), he 7 (by omega), he 8 (by omega)]; rfl
  · rw [he 0 (by omega), he 1 (by omega), he 2 (by omega), he 3 (by omega), he 4 (by omega), he 6 (by omega), he 7 (by omega), he 8 (by omega)]; rfl
  · rw [he 0 (by omega), he 1 (by omega), he 2 (by omega), he 3 (by omega), he 4 (by omega), he 5 (by omega), he 7 (by omega), he 8 (by omega)]; rfl
  · rw [he 0 (by omega), he 1 (by omega), he 2 (by omega), he 3 (by omega), he 4 (by omega), he 5 (by omega), he 6 (by omega), he 8 (by omega)]; rfl
  · rw [he 0 (by omega), he 1 (by omega), he 2 (by omega), he 3 (by omega), he 4 (by omega), he 5 (by omega), he 6 (by omega), he 7 (by omega)]; rfl
/-- The numbers of a matrix, times the square. -/
def trn (q0 q1 q2 q3 : Int) (k j : Nat) : Int := acc tnA tnF tnG tnS (n4 q0 q1 q2 q3) (n4 q0 q1 q2 q3) k j
theorem trn_sz {q0 q1 q2 q3 : Int} (hq : ∀ j, Sz 63 (n4 q0 q1 q2 q3 j)) (k j : Nat) (h : k ≤ 24) : Sz (128 + k) (trn q0 q1 q2 q3 k j) :=
  acc_sz hq hq (n := 24) (fun k hk => sz_two (tnS_sz k hk)) k j h
theorem TurnZ (q0 q1 q2 q3 : Int) (hq : ∀ j, Sz 63 (n4 q0 q1 q2 q3 j)) (w : World) (hT : Tab 0 tabT w) :
    Calls Tryd.prog 29 #[.agg (ws [enc q0, enc q1, enc q2, enc q3])] w fun e w' => e = .returned (.agg (ws (ac9 (trn q0 q1 q2 q3 24)))) ∧ Below w.heap.size w w' :=
  turn_core tabT _ tnA tnF tnG tnS (fun k => enc (trn q0 q1 q2 q3 k (tnA k))) (fun k => enc (trn q0 q1 q2 q3 (k + 1) (tnA k))) (fun k => ac9 (trn q0 q1 q2 q3 k)) w hT rfl (ws_size _) rfl
    (fun k hk u => tabT_at k hk u) tnA_lt (fun _ => rfl) (fun k hk => ac9_get (tnA_lt k hk)) (fun k hk => ac9_set (tnA_lt k hk) (fun j hj => acc_else k hj))
    (fun k hk => by
      have e : trn q0 q1 q2 q3 (k + 1) (tnA k) = trn q0 q1 q2 q3 k (tnA k) + n4 q0 q1 q2 q3 (tnF k) * n4 q0 q1 q2 q3 (tnG k) * tnS k := acc_at k
      show Ans _ _ (V (trn q0 q1 q2 q3 (k + 1) (tnA k)))
      rw [e]
      exact AddedZ (tnA k) (tnS k) (tnS_sz k hk) (tnF k) (tnG k) (tnF_lt k hk) (tnG_lt k hk) _ (k + 1) (by omega) ((trn_sz hq k _ (by omega)).mono (by omega)) q0 q1 q2 q3 q0 q1 q2 q3 hq hq)
theorem quot_core (v : Int) (N W L q m : Nat) (E : Bool) (w : World) (hS : Hid (Ans 48 #[.agg (cells8 N), .int .i64 32] (.tuple #[.agg (cells8 L), .bool E]))) (hD : Hid (Ans 59 #[.agg (cells8 L), .agg (cells8 W)] (.tuple #[.agg (cells8 q), .agg (cells8 m), .bool E]))) (hI : Hid (Ans 42 #[.agg (cells8 q), .int .i64 32] (.int .i64 v))) :
    Calls Tryd.prog 31 #[.agg (cells8 N), .agg (cells8 W)] w fun e w' => e = .returned (.int .i64 v) ∧ Below w.heap.size w w' := by
  go_enter Tryd.func31, Tryd.ntmps31
  go_upto_region 1 with fail
  have D := hide (((Gen.start w).push 42 (cells8 N)).push 42 (cells8 W))
  simp only [szA] at D
  go_upto_region 2 with (first | (with_reducible refine at_list ?_; apply ldG (unhide D) rWide _ rfl rfl rfl (by repeat (first | exact List.mem_cons_self | apply List.mem_cons_of_mem)) rfl) | (go_at_call 48; with_reducible refine (unhide hS _).mono ?_; rintro e w' ⟨he, hb⟩; subst he; have D := hide ((unhide D).keep hb); clear hb) | (with_reducible refine at_list ?_; refine stG (unhide D) rWide _ _ rfl rfl rfl rfl rfl rfl (cells8_one _) ?_; intro D'; have D := hide D'; clear D'))
  go_upto_region 3 with (first | (with_reducible refine at_list ?_; apply ldG (unhide D) rWide _ rfl rfl rfl (by repeat (first | exact List.mem_cons_self | apply List.mem_cons_of_mem)) rfl) | (go_at_call 59; with_reducible refine (unhide hD _).mono ?_; rintro e w' ⟨he, hb⟩; subst he; have D := hide ((unhide D).keep hb); clear hb) | (with_reducible refine at_list ?_;  refine stOne (n := q) rfl _ _ rfl rfl rfl rfl ?_) | (with_reducible refine at_list ?_;  refine stTwoG (n := q) (m := m) (unhide D) rfl _ _ rfl rfl rfl rfl ?_; intro w1 D'; have D := D'; clear D'))
  go_wp2_with (first | (with_reducible refine at_list ?_; apply ldG (unhide D) rWide _ rfl rfl rfl (by repeat (first | exact List.mem_cons_self | apply List.mem_cons_of_mem)) rfl) | (go_at_call 42; with_reducible refine (unhide hI _).mono ?_; rintro e w' ⟨he, hb⟩; subst he; have D := hide ((unhide D).keep hb); clear hb))
  go_ret
  exact ⟨rfl, (unhide D).o⟩
/-- A quotient, brought in. -/
def quo (n d : Int) : Int := cl ((n * 4294967296).fdiv d)
theorem QuotZ (n d : Int) (hn : Sz 200 n) (hd : Sz 200 d) (h0 : 0 < d) : Ans 31 #[V n, V d] (.int .i64 (quo n d)) := fun w => by
  have hp : Sz 232 (n * ((2 ^ (32 : Int).toNat : Nat) : Int)) := hn.mul (show Sz 32 _ by unfold Sz; decide)
  have hS : Ans 48 #[V n, .int .i64 32] (.tuple #[V (n * ((2 ^ (32 : Int).toNat : Nat) : Int)), .bool true]) := fun u => by
    have k := ShlZ n 32 (hn.fit (by decide)) (by decide) (by decide) u
    rw [fit_true (hp.fit (by decide))] at k
    exact k
  have hq : Sz 233 ((n * ((2 ^ (32 : Int).toNat : Nat) : Int)).fdiv d) := (hp.fdiv (by omega)).mono (by decide)
  have hI := InZ ((n * ((2 ^ (32 : Int).toNat : Nat) : Int)).fdiv d) 32 (hq.fit (by decide)) ⟨by decide, by decide⟩
  rw [inI_32] at hI
  exact quot_core _ _ _ _ _ _ true w hS (div_told _ d hp hd (by decide) (by decide) (by omega)) hI

end Go.Proofs.YtikmjfepflaokaaDoor
