/- The law WideTwice, over whatever shifts and products: it returns true where shifts add up. -/
import Derived.Test.YtfoojpfgeicolabZn
import Derived.Deep.DeepCutAuto
namespace Go.Proofs.Ytfoojpfgeicolab
open Go.RowKit

/-- It is an int64. -/
def rng (z : Int) : Prop := -9223372036854775808 ≤ z ∧ z < 9223372036854775808

theorem twice_early (a : Nat) (m n : Int) (w : World) (hAw : Hid (∀ u, Calls Try.prog 11 #[] u fun e w' => e = .returned (.bool true) ∧ Below u.heap.size u w')) (h : m < 0 ∨ n < 0 ∨ 600 < m ∨ 600 < n) :
    Calls Try.prog 8 #[W a, .int .i64 m, .int .i64 n] w fun e w' => e = .returned (.bool true) ∧ Below w.heap.size w w' := by
  by_cases c1 : m < 0
  · have d1 : decide (m < 0) = true := by simpa using c1
    go_enter Try.func8, Try.ntmps8
    go_upto_region 1 with fail
    have D := hide (Env.one w a)
    go_wp2_with (first
      | (go_at_call 11; refine (unhide hAw _).mono ?_; rintro e w' ⟨he, hb⟩; subst he; have D := hide ((unhide D).keep hb); clear hb))
    go_ret
    exact ⟨rfl, (unhide D).o⟩
  · by_cases c2 : n < 0
    · have d1 : decide (m < 0) = false := by simpa using c1
      have d2 : decide (n < 0) = true := by simpa using c2
      go_enter Try.func8, Try.ntmps8
      go_upto_region 1 with fail
      have D := hide (Env.one w a)
      go_wp2_with (first
        | (go_at_call 11; refine (unhide hAw _).mono ?_; rintro e w' ⟨he, hb⟩; subst he; have D := hide ((unhide D).keep hb); clear hb))
      go_ret
      exact ⟨rfl, (unhide D).o⟩
    · by_cases c3 : 600 < m
      · have d1 : decide (m < 0) = false := by simpa using c1
        have d2 : decide (n < 0) = false := by simpa using c2
        have d3 : decide (600 < m) = true := by simpa using c3
        go_enter Try.func8, Try.ntmps8
        go_upto_region 1 with fail
        have D := hide (Env.one w a)
        go_wp2_with (first
          | (go_at_call 11; refine (unhide hAw _).mono ?_; rintro e w' ⟨he, hb⟩; subst he; have D := hide ((unhide D).keep hb); clear hb))
        go_ret
        exact ⟨rfl, (unhide D).o⟩
      · have c4 : 600 < n := by omega
        have d1 : decide (m < 0) = false := by simpa using c1
        have d2 : decide (n < 0) = false := by simpa using c2
        have d3 : decide (600 < m) = false := by simpa using c3
        have d4 : decide (600 < n) = true := by simpa using c4
        go_enter Try.func8, Try.ntmps8
        go_upto_region 1 with fail
        have D := hide (Env.one w a)
        go_wp2_with (first
          | (go_at_call 11; refine (unhide hAw _).mono ?_; rintro e w' ⟨he, hb⟩; subst he; have D := hide ((unhide D).keep hb); clear hb))
        go_ret
        exact ⟨rfl, (unhide D).o⟩

set_option maxRecDepth 100000 in
set_option maxHeartbeats 4000000 in
theorem twice_law (mul : Nat → Nat → Nat) (mulb : Nat → Nat → Bool) (shl shr : Int → Nat → Nat) (shlb : Int → Nat → Bool) (one a : Nat) (m n : Int) (w : World)
    (hMul : Hid (∀ x y u, Calls Try.prog 10 #[W x, W y] u fun e w' => e = .returned (.tuple #[.agg (cells8 (mul x y)), .bool (mulb x y)]) ∧ Below u.heap.size u w'))
    (hShl : Hid (∀ x k u, Hid (rng k) → Calls Try.prog 14 #[W x, .int .i64 k] u fun e w' => e = .returned (.tuple #[.agg (cells8 (shl k x)), .bool (shlb k x)]) ∧ Below u.heap.size u w'))
    (hShr : Hid (∀ x k u, Hid (rng k) → Calls Try.prog 15 #[W x, .int .i64 k] u fun e w' => e = .returned (.agg (cells8 (shr k x))) ∧ Below u.heap.size u w'))
    (hOf : Hid (∀ u, Calls Try.prog 19 #[.int .i64 1] u fun e w' => e = .returned (.agg (cells8 one)) ∧ Below u.heap.size u w'))
    (hAw : Hid (∀ u, Calls Try.prog 11 #[] u fun e w' => e = .returned (.bool true) ∧ Below u.heap.size u w'))
    (hm : Hid (rng m)) (hn : Hid (rng n)) (hmn : Hid (rng (m + n))) (c1 : ¬ m < 0) (c2 : ¬ n < 0) (c3 : ¬ 600 < m) (c4 : ¬ 600 < n)
    (h1 : Hid (same (shr n (shr m a)) (shr (m + n) a) = true))
    (h2 : Hid (shlb m a = true → shlb n (shl m a) = shlb (m + n) a ∧ same (shl n (shl m a)) (shl (m + n) a) = true)) (h3 : Hid (shlb m a = false → shlb (m + n) a = false))
    (h4 : Hid (m ≤ 510 → shlb m one = true ∧ mulb a (shl m one) = shlb m a ∧ same (mul a (shl m one)) (shl m a) = true)) :
    Calls Try.prog 8 #[W a, .int .i64 m, .int .i64 n] w fun e w' => e = .returned (.bool true) ∧ Below w.heap.size w w' := by
  have d1 : decide (m < 0) = false := by simpa using c1
  have d2 : decide (n < 0) = false := by simpa using c2
  have d3 : decide (600 < m) = false := by simpa using c3
  have d4 : decide (600 < n) = false := by simpa using c4
  have hw1 : IntKind.i64.wrap (m + n) = m + n := by rw [IntKind.wrap_i64]; omega
  go_enter Try.func8, Try.ntmps8
  go_upto_region 1 with fail
  have D := hide (Env.one w a)
  go_upto_region 3 with fail
  refine region_plan (S := Env w _) (l := [0, 1, 2, 3, 4, 5, 6, 7, 8, 9, 10]) (by kernel_rfl) (by kernel_rfl) (by kernel_rfl) (by kernel_rfl) (by kernel_rfl) (by kernel_rfl) (by kernel_rfl) ((unhide D).drew) ?_
  clear D
  refine plan_read rfl rfl (fun u hS => exec_load8 (n := a) 25 (.tmp 3) (hS.blk (by repeat (first | exact List.mem_cons_self | apply List.mem_cons_of_mem))) rfl rfl Try.underlying25 rfl iWide) ?_
  refine plan_read (v := ?_) rfl rfl (fun u hS => by go_simp; rfl) ?_
  go_simp
  refine plan_call (v := .agg (cells8 (shr m a))) (f := 15) (args := #[W a, .int .i64 m]) rfl rfl (fun u hS => by go_simp) (fun u hS => (unhide hShr _ _ u hm).mono fun _ _ ⟨he, hb⟩ => ⟨he, hS.keep hb⟩) ?_
  go_simp
  refine plan_read (v := ?_) rfl rfl (fun u hS => by go_simp; rfl) ?_
  go_simp
  refine plan_call (v := .agg (cells8 (shr n (shr m a)))) (f := 15) (args := #[W (shr m a), .int .i64 n]) rfl rfl (fun u hS => by go_simp) (fun u hS => (unhide hShr _ _ u hn).mono fun _ _ ⟨he, hb⟩ => ⟨he, hS.keep hb⟩) ?_
  go_simp
  refine plan_read rfl rfl (fun u hS => exec_load8 (n := a) 25 (.tmp 3) (hS.blk (by repeat (first | exact List.mem_cons_self | apply List.mem_cons_of_mem))) rfl rfl Try.underlying25 rfl iWide) ?_
  refine plan_read (v := ?_) rfl rfl (fun u hS => by go_simp; rfl) ?_
  refine plan_read (v := ?_) rfl rfl (fun u hS => by go_simp; rfl) ?_
  go_simp
  refine plan_read (v := ?_) rfl rfl (fun u hS => by go_simp; rfl) ?_
  go_simp
  refine plan_call (v := .agg (cells8 (shr (m + n) a))) (f := 15) (args := #[W a, .int .i64 (m + n)]) rfl rfl (fun u hS => by go_simp) (fun u hS => (unhide hShr _ _ u hmn).mono fun _ _ ⟨he, hb⟩ => ⟨he, hS.keep hb⟩) ?_
  go_simp
  refine plan_read (v := .bool false) rfl rfl (fun u hS => exec_neq_wide_is (unhide h1) _ (.tmp 36) (.tmp 41) rfl rfl rfl) ?_
  go_simp
  refine plan_end (fun u1 hS => ?_)
  have D := hide hS
  clear hS
  go_upto_region 8 with (first
    | (with_reducible refine at_list ?_; apply ldE (unhide D) _ rfl rfl rfl (by repeat (first | exact List.mem_cons_self | apply List.mem_cons_of_mem)))
    | (with_reducible refine at_list ?_; refine stE (unhide D) _ _ rfl rfl rfl rfl rfl ?_; intro D'; have D := hide D'; clear D')
    | (go_at_call 14; refine (unhide hShl _ _ _ (by assumption)).mono ?_; rintro e w' ⟨he, hb⟩; subst he; have D := hide ((unhide D).keep hb); clear hb))
  generalize hE : shlb m a = E at h2 h3 h4 ⊢
  generalize shlb n (shl m a) = F at h2 ⊢
  generalize shlb (m + n) a = Gg at h2 h3 ⊢
  go_cut [80] (fun s80 wx => s80 = .bool false ∧ w'.alloc (.cells (cells8 (shl (m + n) a)) 25) = wx)
  case first =>
    cases E
    · have h31 := unhide h3 rfl
      subst h31
      go_wp2_with (first
        | (with_reducible refine at_list ?_; apply ldE (unhide D) _ rfl rfl rfl (by repeat (first | exact List.mem_cons_self | apply List.mem_cons_of_mem)))
        | (with_reducible refine at_list ?_; apply ldEw (unhide D) _ rfl rfl rfl (by repeat (first | exact List.mem_cons_self | apply List.mem_cons_of_mem))))
      go_meet
      case rel => exact ⟨rfl, rfl⟩
    · obtain ⟨h21, h22⟩ := unhide h2 rfl
      subst h21
      have h23 := hide h22
      clear h22
      go_wp2_with (first
        | (with_reducible refine at_list ?_; apply ldE (unhide D) _ rfl rfl rfl (by repeat (first | exact List.mem_cons_self | apply List.mem_cons_of_mem)))
        | (with_reducible refine at_list ?_; apply ldEw (unhide D) _ rfl rfl rfl (by repeat (first | exact List.mem_cons_self | apply List.mem_cons_of_mem)))
        | (with_reducible refine at_list ?_; refine neqEw (unhide h23) _ _ rfl rfl rfl rfl ?_))
      go_meet
      case rel => exact ⟨rfl, rfl⟩
  case rest =>
    obtain ⟨hs, hw⟩ := hcut
    subst hs
    subst hw
    clear hE h2 h3 h1
    by_cases c5 : 510 < m
    · have d5 : decide (510 < m) = true := by simpa using c5
      clear h4
      go_wp2_with (first
        | (go_at_call 11; refine (unhide hAw _).mono ?_; rintro e w' ⟨he, hb⟩; subst he; have D := hide ((unhide D).keep hb); clear hb))
      go_ret
      exact ⟨rfl, (unhide D).o⟩
    · have d5 : decide (510 < m) = false := by simpa using c5
      obtain ⟨h41, h42, h43⟩ := unhide h4 (by omega)
      have h44 := hide h43
      clear h43 h4
      go_upto_region 14 with (first
        | (with_reducible refine at_list ?_; apply ldE (unhide D) _ rfl rfl rfl (by repeat (first | exact List.mem_cons_self | apply List.mem_cons_of_mem)))
        | (with_reducible refine at_list ?_; refine stE (unhide D) _ _ rfl rfl rfl rfl rfl ?_; intro D'; have D := hide D'; clear D')
        | (go_at_call 14; refine (unhide hShl _ _ _ (by assumption)).mono ?_; rintro e w' ⟨he, hb⟩; subst he; have D := hide ((unhide D).keep hb); clear hb)
        | (go_at_call 19; refine (unhide hOf _).mono ?_; rintro e w' ⟨he, hb⟩; subst he; have D := hide ((unhide D).keep hb); clear hb)
        | (go_at_call 10; refine (unhide hMul _ _ _).mono ?_; rintro e w' ⟨he, hb⟩; subst he; have D := hide ((unhide D).keep hb); clear hb))
      try rw [h41]
      try rw [h42]
      cases E
      · go_wp2_with (first
          | (with_reducible refine at_list ?_; apply ldE (unhide D) _ rfl rfl rfl (by repeat (first | exact List.mem_cons_self | apply List.mem_cons_of_mem)))
          | (with_reducible refine at_list ?_; apply ldEw (unhide D) _ rfl rfl rfl (by repeat (first | exact List.mem_cons_self | apply List.mem_cons_of_mem)))
          | (go_at_call 11; refine (unhide hAw _).mono ?_; rintro e w' ⟨he, hb⟩; subst he; have D := hide ((unhide D).keep hb); clear hb)
          | (with_reducible refine at_list ?_; refine eqlEw (unhide h44) _ _ rfl rfl rfl rfl ?_))
        go_ret
        exact ⟨rfl, (unhide D).o⟩
      · go_wp2_with (first
          | (with_reducible refine at_list ?_; apply ldE (unhide D) _ rfl rfl rfl (by repeat (first | exact List.mem_cons_self | apply List.mem_cons_of_mem)))
          | (with_reducible refine at_list ?_; apply ldEw (unhide D) _ rfl rfl rfl (by repeat (first | exact List.mem_cons_self | apply List.mem_cons_of_mem)))
          | (go_at_call 11; refine (unhide hAw _).mono ?_; rintro e w' ⟨he, hb⟩; subst he; have D := hide ((unhide D).keep hb); clear hb)
          | (with_reducible refine at_list ?_; refine eqlEw (unhide h44) _ _ rfl rfl rfl rfl ?_))
        go_ret
        exact ⟨rfl, (unhide D).o⟩

end Go.Proofs.Ytfoojpfgeicolab
