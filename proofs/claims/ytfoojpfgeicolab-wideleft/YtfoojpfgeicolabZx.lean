/- The law WideLeft, over whatever quotients, products, sums, shifts, signs and comparisons: it returns true where they are what they are. -/
import Derived.Test.YtfoojpfgeicolabZn
import Derived.Deep.DeepCutAuto
namespace Go.Proofs.Ytfoojpfgeicolab
open Go.RowKit

/-- Two numbers into two new blocks. -/
theorem stE2 {ops : Array Oper} {rest : List Oper} {o1 o2 : Oper} {a : Act} {w w0 : World} {Q : Exit → Act → World → Prop} {l : List (Nat × Nat)} {n m : Nat} {old old' : Array Value} (d : Env w0 l w) (x1 y1 x2 y2 : Operand)
    (hold : old.size = 8) (hold' : old'.size = 8) (ho1 : o1.op = .store 25 x1 y1) (ho2 : o2.op = .store 25 x2 y2) (hg1 : o1.guard = none) (hg2 : o2.guard = none) (hd1 : o1.dst = none)
    (hx1 : a.eval x1 = ptr w.heap.size) (hy1 : a.eval y1 = .agg (cells8 n)) (hx2 : a.eval x2 = ptr (w.heap.size + 1)) (hy2 : a.eval y2 = .agg (cells8 m))
    (h : Env w0 ((w.heap.size + 1, m) :: (w.heap.size, n) :: l) ((((w.alloc (.cells old 25)).alloc (.cells old' 25)).setRow w.heap.size (cells8 n)).setRow (w.heap.size + 1) (cells8 m)) →
      wpList Try.prog ops Q rest (a.put o2.dst undef) ((((w.alloc (.cells old 25)).alloc (.cells old' 25)).setRow w.heap.size (cells8 n)).setRow (w.heap.size + 1) (cells8 m))) :
    wpList Try.prog ops Q (o1 :: o2 :: rest) a ((w.alloc (.cells old 25)).alloc (.cells old' 25)) := by
  refine st8 25 x1 y1 (Blk.first2 w 25 old _) hold ho1 hg1 hx1 hy1 iWide ?_
  rw [hd1]
  refine st8 25 x2 y2 ((Blk.second2 w 25 old' _).rowOther _ (by omega)) hold' ho2 hg2 hx2 hy2 iWide ?_
  refine h ⟨fun p hp => ?_, d.o.trans ((two_new w _ _ _ _).mono d.o.size)⟩
  rcases List.mem_cons.1 hp with e | hp
  · subst e; exact ((Blk.second2 w 25 old' _).rowOther _ (by omega)).row _
  rcases List.mem_cons.1 hp with e | hp
  · subst e; exact ((Blk.first2 w 25 old _).row _).rowOther _ (by omega)
  · exact (d.at_ p hp).below (two_new w _ _ _ _) (d.at_ p hp).lt

set_option maxRecDepth 100000 in
set_option maxHeartbeats 8000000 in
theorem left_law (add mul dq dr : Nat → Nat → Nat) (addb mulb dqb : Nat → Nat → Bool) (shl shr : Nat → Nat) (shlb : Nat → Bool) (one a b : Nat) (n R B C : Int) (w : World)
    (hAdd : Hid (∀ x y u, Calls Try.prog 9 #[W x, W y] u fun e w' => e = .returned (.tuple #[.agg (cells8 (add x y)), .bool (addb x y)]) ∧ Below u.heap.size u w'))
    (hMul : Hid (∀ x y u, Calls Try.prog 10 #[W x, W y] u fun e w' => e = .returned (.tuple #[.agg (cells8 (mul x y)), .bool (mulb x y)]) ∧ Below u.heap.size u w'))
    (hDiv : Hid (∀ x y u, Calls Try.prog 16 #[W x, W y] u fun e w' => e = .returned (.tuple #[.agg (cells8 (dq x y)), .agg (cells8 (dr x y)), .bool (dqb x y)]) ∧ Below u.heap.size u w'))
    (hShl : Hid (∀ x u, Calls Try.prog 14 #[W x, .int .i64 n] u fun e w' => e = .returned (.tuple #[.agg (cells8 (shl x)), .bool (shlb x)]) ∧ Below u.heap.size u w'))
    (hShr : Hid (∀ x u, Calls Try.prog 15 #[W x, .int .i64 n] u fun e w' => e = .returned (.agg (cells8 (shr x))) ∧ Below u.heap.size u w'))
    (hSr : Hid (∀ u, Calls Try.prog 17 #[W (dr a b)] u fun e w' => e = .returned (.int .i64 R) ∧ Below u.heap.size u w'))
    (hSb : Hid (∀ u, Calls Try.prog 17 #[W b] u fun e w' => e = .returned (.int .i64 B) ∧ Below u.heap.size u w'))
    (hCr : Hid (∀ u, Calls Try.prog 18 #[W (dr a b), W b] u fun e w' => e = .returned (.int .i64 C) ∧ Below u.heap.size u w'))
    (hOf : Hid (∀ u, Calls Try.prog 19 #[.int .i64 1] u fun e w' => e = .returned (.agg (cells8 one)) ∧ Below u.heap.size u w'))
    (hAw : Hid (∀ u, Calls Try.prog 11 #[] u fun e w' => e = .returned (.bool true) ∧ Below u.heap.size u w'))
    (hw1 : IntKind.i64.wrap (R * B) = R * B)
    (h1 : Hid (dqb a b = true → mulb (dq a b) b = true → addb (mul (dq a b) b) (dr a b) = true ∧ same (add (mul (dq a b) b) (dr a b)) a = true))
    (h2 : Hid (dqb a b = true → ¬ R * B < 0)) (h3 : Hid (dqb a b = true → (B = 1 ∧ C = -1) ∨ (B = -1 ∧ C = 1)))
    (h5 : Hid (0 ≤ n → n ≤ 510 → shlb one = true ∧ dqb a (shl one) = true ∧ same (dq a (shl one)) (shr a) = true)) :
    Calls Try.prog 5 #[W a, W b, .int .i64 n] w fun e w' => e = .returned (.bool true) ∧ Below w.heap.size w w' := by
  cases hE : dqb a b
  · go_enter Try.func5, Try.ntmps5
    go_upto_region 1 with fail
    have D := hide (Env.two w a b)
    go_upto_region 9 with (first
      | (with_reducible refine at_list ?_; apply ldE (unhide D) _ rfl rfl rfl (by repeat (first | exact List.mem_cons_self | apply List.mem_cons_of_mem)))
      | (with_reducible refine at_list ?_; refine stE2 (unhide D) _ _ _ _ rfl rfl rfl rfl rfl rfl rfl rfl rfl rfl rfl ?_; intro D'; have D := hide D'; clear D')
      | (go_at_call 16; refine (unhide hDiv _ _ _).mono ?_; rintro e w' ⟨he, hb⟩; subst he; have D := hide ((unhide D).keep hb); clear hb))
    clear h1 h2 h3
    by_cases c1 : n < 0
    · have d1 : decide (n < 0) = true := by simpa using c1
      go_wp2_with (first
        | (go_at_call 11; refine (unhide hAw _).mono ?_; rintro e w' ⟨he, hb⟩; subst he; have D := hide ((unhide D).keep hb); clear hb))
      go_ret
      exact ⟨rfl, (unhide D).o⟩
    · have d1 : decide (n < 0) = false := by simpa using c1
      by_cases c2 : 510 < n
      · have d2 : decide (510 < n) = true := by simpa using c2
        go_wp2_with (first
          | (go_at_call 11; refine (unhide hAw _).mono ?_; rintro e w' ⟨he, hb⟩; subst he; have D := hide ((unhide D).keep hb); clear hb))
        go_ret
        exact ⟨rfl, (unhide D).o⟩
      · have d2 : decide (510 < n) = false := by simpa using c2
        obtain ⟨h91, h92, h9⟩ := unhide h5 (by omega) (by omega)
        have h93 := hide h9
        clear h9 h5
        go_upto_region 13 with (first
          | (with_reducible refine at_list ?_; apply ldE (unhide D) _ rfl rfl rfl (by repeat (first | exact List.mem_cons_self | apply List.mem_cons_of_mem)))
          | (with_reducible refine at_list ?_; refine stE (unhide D) _ _ rfl rfl rfl rfl rfl ?_; intro D'; have D := hide D'; clear D')
          | (with_reducible refine at_list ?_; refine stE2 (unhide D) _ _ _ _ rfl rfl rfl rfl rfl rfl rfl rfl rfl rfl rfl ?_; intro D'; have D := hide D'; clear D')
          | (go_at_call 19; refine (unhide hOf _).mono ?_; rintro e w' ⟨he, hb⟩; subst he; have D := hide ((unhide D).keep hb); clear hb)
          | (go_at_call 14; refine (unhide hShl _ _).mono ?_; rintro e w' ⟨he, hb⟩; subst he; have D := hide ((unhide D).keep hb); clear hb)
          | (go_at_call 16; refine (unhide hDiv _ _ _).mono ?_; rintro e w' ⟨he, hb⟩; subst he; have D := hide ((unhide D).keep hb); clear hb))
        try rw [h91]
        try rw [h92]
        refine region_plan (S := Env w _) (l := [0, 1, 2, 3, 4, 5, 6, 7, 8, 9, 10, 11, 12, 13, 14]) (by kernel_rfl) (by kernel_rfl) (by kernel_rfl) (by kernel_rfl) (by kernel_rfl) (by kernel_rfl) (by kernel_rfl) ((unhide D).drew) ?_
        clear D
        refine plan_read (v := ?_) rfl rfl (fun u hS => by go_simp; rfl) ?_
        refine plan_read (v := ?_) rfl rfl (fun u hS => by go_simp; rfl) ?_
        go_simp
        refine plan_read (v := ?_) rfl rfl (fun u hS => by go_simp; rfl) ?_
        refine plan_read (v := ?_) rfl rfl (fun u hS => by go_simp; rfl) ?_
        refine plan_read (v := ?_) rfl rfl (fun u hS => by go_simp; rfl) ?_
        go_simp
        refine plan_read rfl rfl (fun u hS => exec_load8 (n := dq a (shl one)) 25 (.tmp 16) (hS.blk (by repeat (first | exact List.mem_cons_self | apply List.mem_cons_of_mem))) rfl rfl Try.underlying25 rfl iWide) ?_
        refine plan_read rfl rfl (fun u hS => exec_load8 (n := a) 25 (.tmp 3) (hS.blk (by repeat (first | exact List.mem_cons_self | apply List.mem_cons_of_mem))) rfl rfl Try.underlying25 rfl iWide) ?_
        refine plan_read (v := ?_) rfl rfl (fun u hS => by go_simp; rfl) ?_
        go_simp
        refine plan_call (v := .agg (cells8 (shr a))) (f := 15) (args := #[W a, .int .i64 n]) rfl rfl (fun u hS => by go_simp) (fun u hS => (unhide hShr _ u).mono fun _ _ ⟨he, hb⟩ => ⟨he, hS.keep hb⟩) ?_
        go_simp
        refine plan_read (v := .bool true) rfl rfl (fun u hS => exec_eql_wide_is _ (.tmp 102) (.tmp 105) (unhide h93) rfl rfl rfl) ?_
        go_simp
        refine plan_read (v := ?_) rfl rfl (fun u hS => by go_simp; rfl) ?_
        refine plan_read (v := ?_) rfl rfl (fun u hS => by go_simp; rfl) ?_
        go_simp
        refine plan_call (v := .bool true) (f := 11) (args := #[]) rfl rfl (fun u hS => by go_simp) (fun u hS => (unhide hAw u).mono fun _ _ ⟨he, hb⟩ => ⟨he, hS.keep hb⟩) ?_
        go_simp
        refine plan_read (v := ?_) rfl rfl (fun u hS => by go_simp; rfl) ?_
        refine plan_read (v := ?_) rfl rfl (fun u hS => by go_simp; rfl) ?_
        go_simp
        refine plan_end (fun u hS => ?_)
        have O := hide hS.o
        clear hS
        go_wp2
        go_ret
        exact ⟨rfl, unhide O⟩
  · have h1' := hide (unhide h1 hE)
    have h2' := unhide h2 hE
    have h3' := hide (unhide h3 hE)
    clear h1 h2 h3
    go_enter Try.func5, Try.ntmps5
    go_upto_region 1 with fail
    have D := hide (Env.two w a b)
    go_upto_region 5 with (first
      | (with_reducible refine at_list ?_; apply ldE (unhide D) _ rfl rfl rfl (by repeat (first | exact List.mem_cons_self | apply List.mem_cons_of_mem)))
      | (with_reducible refine at_list ?_; refine stE (unhide D) _ _ rfl rfl rfl rfl rfl ?_; intro D'; have D := hide D'; clear D')
      | (with_reducible refine at_list ?_; refine stE2 (unhide D) _ _ _ _ rfl rfl rfl rfl rfl rfl rfl rfl rfl rfl rfl ?_; intro D'; have D := hide D'; clear D')
      | (go_at_call 16; refine (unhide hDiv _ _ _).mono ?_; rintro e w' ⟨he, hb⟩; subst he; have D := hide ((unhide D).keep hb); clear hb)
      | (go_at_call 10; refine (unhide hMul _ _ _).mono ?_; rintro e w' ⟨he, hb⟩; subst he; have D := hide ((unhide D).keep hb); clear hb)
      | (go_at_call 9; refine (unhide hAdd _ _ _).mono ?_; rintro e w' ⟨he, hb⟩; subst he; have D := hide ((unhide D).keep hb); clear hb))
    generalize mulb (dq a b) b = E at h1' ⊢
    generalize addb (mul (dq a b) b) (dr a b) = F at h1' ⊢
    have hP : decide (R * B < 0) = false := by simpa using h2'
    obtain ⟨l, hl, D'⟩ : ∃ l, l = _ ∧ Env w l _ := ⟨_, rfl, unhide D⟩
    clear D
    have D := hide D'
    clear D'
    go_cut [56] (fun s56 wx => s56 = .bool false ∧ Env w l wx)
    case first =>
      refine region_plan (S := Env w l) (l := [0, 1, 2, 3, 4, 5, 6, 7, 8, 9, 10, 11, 12, 13, 14, 15, 16, 17]) (by kernel_rfl) (by kernel_rfl) (by kernel_rfl) (by kernel_rfl) (by kernel_rfl) (by kernel_rfl) (by kernel_rfl) ((unhide D).drew) ?_
      clear D
      subst hl
      cases E
      · refine plan_read (v := ?_) rfl rfl (fun u hS => by go_simp; rfl) ?_
        refine plan_read (v := ?_) rfl rfl (fun u hS => by go_simp; rfl) ?_
        go_simp
        refine plan_skip rfl rfl ?_
        refine plan_skip rfl rfl ?_
        refine plan_skip rfl rfl ?_
        refine plan_skip rfl rfl ?_
        refine plan_skip rfl rfl ?_
        refine plan_skip rfl rfl ?_
        refine plan_skip rfl rfl ?_
        go_simp
        refine plan_read (v := ?_) rfl rfl (fun u hS => by go_simp; rfl) ?_
        refine plan_read (v := ?_) rfl rfl (fun u hS => by go_simp; rfl) ?_
        go_simp
        refine plan_read rfl rfl (fun u hS => exec_load8 (n := dr a b) 25 (.tmp 8) (hS.blk (by repeat (first | exact List.mem_cons_self | apply List.mem_cons_of_mem))) rfl rfl Try.underlying25 rfl iWide) ?_
        refine plan_call (v := .int .i64 R) (f := 17) (args := #[W (dr a b)]) rfl rfl (fun u hS => by go_simp) (fun u hS => (unhide hSr u).mono fun _ _ ⟨he, hb⟩ => ⟨he, hS.keep hb⟩) ?_
        go_simp
        refine plan_read rfl rfl (fun u hS => exec_load8 (n := b) 25 (.tmp 4) (hS.blk (by repeat (first | exact List.mem_cons_self | apply List.mem_cons_of_mem))) rfl rfl Try.underlying25 rfl iWide) ?_
        refine plan_call (v := .int .i64 B) (f := 17) (args := #[W b]) rfl rfl (fun u hS => by go_simp) (fun u hS => (unhide hSb u).mono fun _ _ ⟨he, hb⟩ => ⟨he, hS.keep hb⟩) ?_
        go_simp
        refine plan_read (v := ?_) rfl rfl (fun u hS => by go_simp; rfl) ?_
        go_simp
        refine plan_read (v := ?_) rfl rfl (fun u hS => by go_simp; rfl) ?_
        go_simp
        refine plan_read (v := ?_) rfl rfl (fun u hS => by go_simp; rfl) ?_
        go_simp
        refine plan_end (fun u1 hS => ?_)
        have D := hide hS
        clear hS
        go_wp2_with fail
        go_meet
        case rel => exact ⟨rfl, unhide D⟩

      · obtain ⟨h11, h12⟩ := unhide h1' rfl
        subst h11
        have h13 := hide h12
        clear h12
        refine plan_read (v := ?_) rfl rfl (fun u hS => by go_simp; rfl) ?_
        refine plan_read (v := ?_) rfl rfl (fun u hS => by go_simp; rfl) ?_
        go_simp
        refine plan_read (v := ?_) rfl rfl (fun u hS => by go_simp; rfl) ?_
        refine plan_read (v := ?_) rfl rfl (fun u hS => by go_simp; rfl) ?_
        refine plan_read (v := ?_) rfl rfl (fun u hS => by go_simp; rfl) ?_
        go_simp
        refine plan_read rfl rfl (fun u hS => exec_load8 (n := add (mul (dq a b) b) (dr a b)) 25 (.tmp 12) (hS.blk (by repeat (first | exact List.mem_cons_self | apply List.mem_cons_of_mem))) rfl rfl Try.underlying25 rfl iWide) ?_
        refine plan_read rfl rfl (fun u hS => exec_load8 (n := a) 25 (.tmp 3) (hS.blk (by repeat (first | exact List.mem_cons_self | apply List.mem_cons_of_mem))) rfl rfl Try.underlying25 rfl iWide) ?_
        refine plan_read (v := .bool false) rfl rfl (fun u hS => exec_neq_wide_is (unhide h13) _ (.tmp 44) (.tmp 45) rfl rfl rfl) ?_
        go_simp
        refine plan_read (v := ?_) rfl rfl (fun u hS => by go_simp; rfl) ?_
        refine plan_read (v := ?_) rfl rfl (fun u hS => by go_simp; rfl) ?_
        go_simp
        refine plan_read (v := ?_) rfl rfl (fun u hS => by go_simp; rfl) ?_
        go_simp
        refine plan_read rfl rfl (fun u hS => exec_load8 (n := dr a b) 25 (.tmp 8) (hS.blk (by repeat (first | exact List.mem_cons_self | apply List.mem_cons_of_mem))) rfl rfl Try.underlying25 rfl iWide) ?_
        refine plan_call (v := .int .i64 R) (f := 17) (args := #[W (dr a b)]) rfl rfl (fun u hS => by go_simp) (fun u hS => (unhide hSr u).mono fun _ _ ⟨he, hb⟩ => ⟨he, hS.keep hb⟩) ?_
        go_simp
        refine plan_read rfl rfl (fun u hS => exec_load8 (n := b) 25 (.tmp 4) (hS.blk (by repeat (first | exact List.mem_cons_self | apply List.mem_cons_of_mem))) rfl rfl Try.underlying25 rfl iWide) ?_
        refine plan_call (v := .int .i64 B) (f := 17) (args := #[W b]) rfl rfl (fun u hS => by go_simp) (fun u hS => (unhide hSb u).mono fun _ _ ⟨he, hb⟩ => ⟨he, hS.keep hb⟩) ?_
        go_simp
        refine plan_read (v := ?_) rfl rfl (fun u hS => by go_simp; rfl) ?_
        go_simp
        refine plan_read (v := ?_) rfl rfl (fun u hS => by go_simp; rfl) ?_
        go_simp
        refine plan_read (v := ?_) rfl rfl (fun u hS => by go_simp; rfl) ?_
        go_simp
        refine plan_end (fun u1 hS => ?_)
        have D := hide hS
        clear hS
        go_wp2_with fail
        go_meet
        case rel => exact ⟨rfl, unhide D⟩

    case rest =>
      obtain ⟨hs, hD⟩ := hcut
      subst hs
      subst hl
      clear D
      have D := hide hD
      clear hD h1' hP h2' hw1
      go_upto_region 7 with fail
      obtain ⟨l, hl, D'⟩ : ∃ l, l = _ ∧ Env w l _ := ⟨_, rfl, unhide D⟩
      clear D
      have D := hide D'
      clear D'
      go_cut [76] (fun s76 wx => s76 = .bool false ∧ Env w l wx)
      case first =>
        subst hl
        rcases unhide h3' with ⟨rfl, rfl⟩ | ⟨rfl, rfl⟩
        · go_wp2_with (first
            | (with_reducible refine at_list ?_; apply ldE (unhide D) _ rfl rfl rfl (by repeat (first | exact List.mem_cons_self | apply List.mem_cons_of_mem)))
            | (with_reducible refine at_list ?_; apply ldEw (unhide D) _ rfl rfl rfl (by repeat (first | exact List.mem_cons_self | apply List.mem_cons_of_mem)))
            | (go_at_call 17; with_reducible refine (unhide hSb _).mono ?_; rintro e w' ⟨he, hb⟩; subst he; have D := hide ((unhide D).keep hb); clear hb)
            | (go_at_call 18; with_reducible refine (unhide hCr _).mono ?_; rintro e w' ⟨he, hb⟩; subst he; have D := hide ((unhide D).keep hb); clear hb))
          go_meet
          case rel => exact ⟨rfl, unhide D⟩
        · go_wp2_with (first
            | (with_reducible refine at_list ?_; apply ldE (unhide D) _ rfl rfl rfl (by repeat (first | exact List.mem_cons_self | apply List.mem_cons_of_mem)))
            | (with_reducible refine at_list ?_; apply ldEw (unhide D) _ rfl rfl rfl (by repeat (first | exact List.mem_cons_self | apply List.mem_cons_of_mem)))
            | (go_at_call 17; with_reducible refine (unhide hSb _).mono ?_; rintro e w' ⟨he, hb⟩; subst he; have D := hide ((unhide D).keep hb); clear hb)
            | (go_at_call 18; with_reducible refine (unhide hCr _).mono ?_; rintro e w' ⟨he, hb⟩; subst he; have D := hide ((unhide D).keep hb); clear hb))
          go_meet
          case rel => exact ⟨rfl, unhide D⟩
      case rest =>
        obtain ⟨hs, hD⟩ := hcut
        subst hs
        subst hl
        clear D
        have D := hide hD
        clear hD h3' hSr hSb hCr
        go_upto_region 9 with fail
        by_cases c1 : n < 0
        · have d1 : decide (n < 0) = true := by simpa using c1
          go_wp2_with (first
            | (go_at_call 11; refine (unhide hAw _).mono ?_; rintro e w' ⟨he, hb⟩; subst he; have D := hide ((unhide D).keep hb); clear hb))
          go_ret
          exact ⟨rfl, (unhide D).o⟩
        · have d1 : decide (n < 0) = false := by simpa using c1
          by_cases c2 : 510 < n
          · have d2 : decide (510 < n) = true := by simpa using c2
            go_wp2_with (first
              | (go_at_call 11; refine (unhide hAw _).mono ?_; rintro e w' ⟨he, hb⟩; subst he; have D := hide ((unhide D).keep hb); clear hb))
            go_ret
            exact ⟨rfl, (unhide D).o⟩
          · have d2 : decide (510 < n) = false := by simpa using c2
            obtain ⟨h91, h92, h9⟩ := unhide h5 (by omega) (by omega)
            have h93 := hide h9
            clear h9 h5
            go_upto_region 13 with (first
              | (with_reducible refine at_list ?_; apply ldE (unhide D) _ rfl rfl rfl (by repeat (first | exact List.mem_cons_self | apply List.mem_cons_of_mem)))
              | (with_reducible refine at_list ?_; refine stE (unhide D) _ _ rfl rfl rfl rfl rfl ?_; intro D'; have D := hide D'; clear D')
              | (with_reducible refine at_list ?_; refine stE2 (unhide D) _ _ _ _ rfl rfl rfl rfl rfl rfl rfl rfl rfl rfl rfl ?_; intro D'; have D := hide D'; clear D')
              | (go_at_call 19; refine (unhide hOf _).mono ?_; rintro e w' ⟨he, hb⟩; subst he; have D := hide ((unhide D).keep hb); clear hb)
              | (go_at_call 14; refine (unhide hShl _ _).mono ?_; rintro e w' ⟨he, hb⟩; subst he; have D := hide ((unhide D).keep hb); clear hb)
              | (go_at_call 16; refine (unhide hDiv _ _ _).mono ?_; rintro e w' ⟨he, hb⟩; subst he; have D := hide ((unhide D).keep hb); clear hb))
            try rw [h91]
            try rw [h92]
            refine region_plan (S := Env w _) (l := [0, 1, 2, 3, 4, 5, 6, 7, 8, 9, 10, 11, 12, 13, 14]) (by kernel_rfl) (by kernel_rfl) (by kernel_rfl) (by kernel_rfl) (by kernel_rfl) (by kernel_rfl) (by kernel_rfl) ((unhide D).drew) ?_
            clear D
            refine plan_read (v := ?_) rfl rfl (fun u hS => by go_simp; rfl) ?_
            refine plan_read (v := ?_) rfl rfl (fun u hS => by go_simp; rfl) ?_
            go_simp
            refine plan_read (v := ?_) rfl rfl (fun u hS => by go_simp; rfl) ?_
            refine plan_read (v := ?_) rfl rfl (fun u hS => by go_simp; rfl) ?_
            refine plan_read (v := ?_) rfl rfl (fun u hS => by go_simp; rfl) ?_
            go_simp
            refine plan_read rfl rfl (fun u hS => exec_load8 (n := dq a (shl one)) 25 (.tmp 16) (hS.blk (by repeat (first | exact List.mem_cons_self | apply List.mem_cons_of_mem))) rfl rfl Try.underlying25 rfl iWide) ?_
            refine plan_read rfl rfl (fun u hS => exec_load8 (n := a) 25 (.tmp 3) (hS.blk (by repeat (first | exact List.mem_cons_self | apply List.mem_cons_of_mem))) rfl rfl Try.underlying25 rfl iWide) ?_
            refine plan_read (v := ?_) rfl rfl (fun u hS => by go_simp; rfl) ?_
            go_simp
            refine plan_call (v := .agg (cells8 (shr a))) (f := 15) (args := #[W a, .int .i64 n]) rfl rfl (fun u hS => by go_simp) (fun u hS => (unhide hShr _ u).mono fun _ _ ⟨he, hb⟩ => ⟨he, hS.keep hb⟩) ?_
            go_simp
            refine plan_read (v := .bool true) rfl rfl (fun u hS => exec_eql_wide_is _ (.tmp 102) (.tmp 105) (unhide h93) rfl rfl rfl) ?_
            go_simp
            refine plan_read (v := ?_) rfl rfl (fun u hS => by go_simp; rfl) ?_
            refine plan_read (v := ?_) rfl rfl (fun u hS => by go_simp; rfl) ?_
            go_simp
            refine plan_call (v := .bool true) (f := 11) (args := #[]) rfl rfl (fun u hS => by go_simp) (fun u hS => (unhide hAw u).mono fun _ _ ⟨he, hb⟩ => ⟨he, hS.keep hb⟩) ?_
            go_simp
            refine plan_read (v := ?_) rfl rfl (fun u hS => by go_simp; rfl) ?_
            refine plan_read (v := ?_) rfl rfl (fun u hS => by go_simp; rfl) ?_
            go_simp
            refine plan_end (fun u hS => ?_)
            have O := hide hS.o
            clear hS
            go_wp2
            go_ret
            exact ⟨rfl, unhide O⟩

end Go.Proofs.Ytfoojpfgeicolab
