/- The law WideOrder, over whatever comparisons, sums and opposites: it returns true where the comparison is an order that they keep and turn. -/
import Derived.Test.YtfoojpfgeicolabZn
import Derived.Deep.DeepCutAuto
namespace Go.Proofs.Ytfoojpfgeicolab
open Go.RowKit

/-- The head is a load of a number. -/
theorem at_load {ops : Array Oper} {Q : Exit → Act → World → Prop} {o : Oper} {l : List Oper} {a : Act} {w : World} {x : Operand} (_ : o.op = .load 25 x) (h : wpList Try.prog ops Q (o :: l) a w) : wpList Try.prog ops Q (o :: l) a w := h

theorem skE {ops : Array Oper} {Q : Exit → Act → World → Prop} {o : Oper} {l : List Oper} {a : Act} {w : World} (hgd : Region.wanted o (yielded ops a.tmps) = false) (h : wpList Try.prog ops Q l (a.put o.dst undef) w) : wpList Try.prog ops Q (o :: l) a w := by
  unfold wpList
  rw [if_neg (by rw [hgd]; decide)]
  exact h

/-- It is an int64. -/
def rng (z : Int) : Prop := -9223372036854775808 ≤ z ∧ z < 9223372036854775808

set_option maxRecDepth 100000 in
set_option maxHeartbeats 8000000 in
theorem order_law (add : Nat → Nat → Nat) (addb : Nat → Nat → Bool) (ng : Nat → Nat) (ngb : Nat → Bool) (cm : Nat → Nat → Int) (ec : Int → Nat) (a b c : Nat) (m n : Int) (w : World)
    (hAdd : Hid (∀ x y u, Calls Try.prog 9 #[W x, W y] u fun e w' => e = .returned (.tuple #[.agg (cells8 (add x y)), .bool (addb x y)]) ∧ Below u.heap.size u w'))
    (hNeg : Hid (∀ x u, Calls Try.prog 13 #[W x] u fun e w' => e = .returned (.tuple #[.agg (cells8 (ng x)), .bool (ngb x)]) ∧ Below u.heap.size u w'))
    (hCm : Hid (∀ x y u, Calls Try.prog 18 #[W x, W y] u fun e w' => e = .returned (.int .i64 (cm x y)) ∧ Below u.heap.size u w'))
    (hOf : Hid (∀ z u, Hid (rng z) → Calls Try.prog 19 #[.int .i64 z] u fun e w' => e = .returned (.agg (cells8 (ec z))) ∧ Below u.heap.size u w'))
    (hAw : Hid (∀ u, Calls Try.prog 11 #[] u fun e w' => e = .returned (.bool true) ∧ Below u.heap.size u w'))
    (hm : Hid (rng m)) (hn : Hid (rng n))
    (h1 : Hid (cm a b = -1 ∨ cm a b = 0 ∨ cm a b = 1)) (h1' : Hid (cm b c = -1 ∨ cm b c = 0 ∨ cm b c = 1)) (h2 : Hid (cm b a = -cm a b)) (h3 : Hid (same a b = decide (cm a b = 0)))
    (h4 : Hid (cm a b ≤ 0 → cm b c ≤ 0 → cm a c ≤ 0 ∧ (cm a b < 0 → cm a c < 0)))
    (h5 : Hid (addb a c = true → addb b c = true → cm (add a c) (add b c) = cm a b)) (h6 : Hid (ngb a = true → ngb b = true → cm (ng a) (ng b) = -cm a b))
    (h7 : Hid ((m < n ∧ cm (ec m) (ec n) = -1) ∨ (m = n ∧ cm (ec m) (ec n) = 0) ∨ (n < m ∧ cm (ec m) (ec n) = 1))) :
    Calls Try.prog 7 #[W a, W b, W c, .int .i64 m, .int .i64 n] w fun e w' => e = .returned (.bool true) ∧ Below w.heap.size w w' := by
  go_enter Try.func7, Try.ntmps7
  go_upto_region 1 with fail
  have D := hide (Env.three w a b c).drew
  refine region_plan (S := Env w _) (l := [0, 1, 2, 3, 4, 5, 6, 7, 8, 9, 10, 11]) (by kernel_rfl) (by kernel_rfl) (by kernel_rfl) (by kernel_rfl) (by kernel_rfl) (by kernel_rfl) (by kernel_rfl) (unhide D) ?_
  clear D
  refine plan_read rfl rfl (fun u hS => exec_load8 (n := a) 25 (.tmp 5) (hS.blk (by repeat (first | exact List.mem_cons_self | apply List.mem_cons_of_mem))) rfl rfl Try.underlying25 rfl iWide) ?_
  refine plan_read rfl rfl (fun u hS => exec_load8 (n := b) 25 (.tmp 6) (hS.blk (by repeat (first | exact List.mem_cons_self | apply List.mem_cons_of_mem))) rfl rfl Try.underlying25 rfl iWide) ?_
  refine plan_call (v := .int .i64 (cm a b)) (f := 18) (args := #[W a, W b]) rfl rfl (fun u hS => by go_simp) (fun u hS => (unhide hCm _ _ u).mono fun _ _ ⟨he, hb⟩ => ⟨he, hS.keep hb⟩) ?_
  go_simp
  refine plan_read rfl rfl (fun u hS => exec_load8 (n := b) 25 (.tmp 6) (hS.blk (by repeat (first | exact List.mem_cons_self | apply List.mem_cons_of_mem))) rfl rfl Try.underlying25 rfl iWide) ?_
  refine plan_read rfl rfl (fun u hS => exec_load8 (n := c) 25 (.tmp 7) (hS.blk (by repeat (first | exact List.mem_cons_self | apply List.mem_cons_of_mem))) rfl rfl Try.underlying25 rfl iWide) ?_
  refine plan_call (v := .int .i64 (cm b c)) (f := 18) (args := #[W b, W c]) rfl rfl (fun u hS => by go_simp) (fun u hS => (unhide hCm _ _ u).mono fun _ _ ⟨he, hb⟩ => ⟨he, hS.keep hb⟩) ?_
  go_simp
  refine plan_read rfl rfl (fun u hS => exec_load8 (n := a) 25 (.tmp 5) (hS.blk (by repeat (first | exact List.mem_cons_self | apply List.mem_cons_of_mem))) rfl rfl Try.underlying25 rfl iWide) ?_
  refine plan_read rfl rfl (fun u hS => exec_load8 (n := c) 25 (.tmp 7) (hS.blk (by repeat (first | exact List.mem_cons_self | apply List.mem_cons_of_mem))) rfl rfl Try.underlying25 rfl iWide) ?_
  refine plan_call (v := .int .i64 (cm a c)) (f := 18) (args := #[W a, W c]) rfl rfl (fun u hS => by go_simp) (fun u hS => (unhide hCm _ _ u).mono fun _ _ ⟨he, hb⟩ => ⟨he, hS.keep hb⟩) ?_
  go_simp
  refine plan_read (v := ?_) rfl rfl (fun u hS => by go_simp; rfl) ?_
  refine plan_read (v := ?_) rfl rfl (fun u hS => by go_simp; rfl) ?_
  refine plan_read (v := ?_) rfl rfl (fun u hS => by go_simp; rfl) ?_
  go_simp
  refine plan_end (fun u1 hS => ?_)
  have D := hide hS
  clear hS
  go_upto_region 2 with fail
  generalize hX : cm a b = X at h1 h2 h3 h4 h5 h6 ⊢
  generalize cm b c = Y at h1' h4 ⊢
  generalize cm a c = Z at h4 ⊢
  go_cut [69] (fun s69 wx => s69 = .bool false ∧ Env w [(w.heap.size + 1 + 1, c), (w.heap.size + 1, b), (w.heap.size, a)] wx)
  case first =>
    have hv : Hid (∀ u, Calls Try.prog 18 #[W b, W a] u fun e w' => e = .returned (.int .i64 (-X)) ∧ Below u.heap.size u w') := fun u => (unhide hCm b a u).mono fun _ _ ⟨he, hb⟩ => ⟨by rw [he, unhide h2], hb⟩
    clear h5 h6 hX h2 hCm
    rcases unhide h1 with rfl | rfl | rfl
    · have h31 : Hid (same a b = false) := (unhide h3).trans rfl
      have hv2 : Hid (∀ u, Calls Try.prog 18 #[W b, W a] u fun e w' => e = .returned (.int .i64 1) ∧ Below u.heap.size u w') := hv
      clear hv
      rcases unhide h1' with rfl | rfl | rfl
      · have hz := (unhide h4 (by decide) (by decide)).2 (by decide)
        have hz1 : decide (0 < Z) = false := by simp; omega
        have hz2 : decide (0 ≤ Z) = false := by simp; omega
        clear h4 h3
        go_wp2_with (first
          | (with_reducible refine at_list ?_; refine at_load rfl ?_; apply ldE (unhide D) _ rfl rfl rfl (by repeat (first | exact List.mem_cons_self | apply List.mem_cons_of_mem)))
          | (with_reducible refine at_list ?_; refine at_load rfl ?_; apply ldEw (unhide D) _ rfl rfl rfl (by repeat (first | exact List.mem_cons_self | apply List.mem_cons_of_mem)))
          | (go_at_call 18; refine (unhide hv2 _).mono ?_; rintro e w' ⟨he, hb⟩; subst he; have D := hide ((unhide D).keep hb); clear hb)
          | (with_reducible refine at_list ?_; refine eqlEw (unhide h31) _ _ rfl rfl rfl rfl ?_))
        go_meet
        case rel => exact ⟨rfl, unhide D⟩
      · have hz := (unhide h4 (by decide) (by decide)).2 (by decide)
        have hz1 : decide (0 < Z) = false := by simp; omega
        have hz2 : decide (0 ≤ Z) = false := by simp; omega
        clear h4 h3
        go_wp2_with (first
          | (with_reducible refine at_list ?_; refine at_load rfl ?_; apply ldE (unhide D) _ rfl rfl rfl (by repeat (first | exact List.mem_cons_self | apply List.mem_cons_of_mem)))
          | (with_reducible refine at_list ?_; refine at_load rfl ?_; apply ldEw (unhide D) _ rfl rfl rfl (by repeat (first | exact List.mem_cons_self | apply List.mem_cons_of_mem)))
          | (go_at_call 18; refine (unhide hv2 _).mono ?_; rintro e w' ⟨he, hb⟩; subst he; have D := hide ((unhide D).keep hb); clear hb)
          | (with_reducible refine at_list ?_; refine eqlEw (unhide h31) _ _ rfl rfl rfl rfl ?_))
        go_meet
        case rel => exact ⟨rfl, unhide D⟩
      · clear h4 h3
        go_wp2_with (first
          | (with_reducible refine at_list ?_; refine at_load rfl ?_; apply ldE (unhide D) _ rfl rfl rfl (by repeat (first | exact List.mem_cons_self | apply List.mem_cons_of_mem)))
          | (with_reducible refine at_list ?_; refine at_load rfl ?_; apply ldEw (unhide D) _ rfl rfl rfl (by repeat (first | exact List.mem_cons_self | apply List.mem_cons_of_mem)))
          | (go_at_call 18; refine (unhide hv2 _).mono ?_; rintro e w' ⟨he, hb⟩; subst he; have D := hide ((unhide D).keep hb); clear hb)
          | (with_reducible refine at_list ?_; refine eqlEw (unhide h31) _ _ rfl rfl rfl rfl ?_))
        go_meet
        case rel => exact ⟨rfl, unhide D⟩
    · have h31 : Hid (same a b = true) := (unhide h3).trans rfl
      have hv2 : Hid (∀ u, Calls Try.prog 18 #[W b, W a] u fun e w' => e = .returned (.int .i64 0) ∧ Below u.heap.size u w') := hv
      clear hv
      rcases unhide h1' with rfl | rfl | rfl
      · have hz := (unhide h4 (by decide) (by decide)).1
        have hz1 : decide (0 < Z) = false := by simp; omega
        clear h4 h3
        go_wp2_with (first
          | (with_reducible refine at_list ?_; refine at_load rfl ?_; apply ldE (unhide D) _ rfl rfl rfl (by repeat (first | exact List.mem_cons_self | apply List.mem_cons_of_mem)))
          | (with_reducible refine at_list ?_; refine at_load rfl ?_; apply ldEw (unhide D) _ rfl rfl rfl (by repeat (first | exact List.mem_cons_self | apply List.mem_cons_of_mem)))
          | (go_at_call 18; refine (unhide hv2 _).mono ?_; rintro e w' ⟨he, hb⟩; subst he; have D := hide ((unhide D).keep hb); clear hb)
          | (with_reducible refine at_list ?_; refine eqlEw (unhide h31) _ _ rfl rfl rfl rfl ?_))
        go_meet
        case rel => exact ⟨rfl, unhide D⟩
      · have hz := (unhide h4 (by decide) (by decide)).1
        have hz1 : decide (0 < Z) = false := by simp; omega
        clear h4 h3
        go_wp2_with (first
          | (with_reducible refine at_list ?_; refine at_load rfl ?_; apply ldE (unhide D) _ rfl rfl rfl (by repeat (first | exact List.mem_cons_self | apply List.mem_cons_of_mem)))
          | (with_reducible refine at_list ?_; refine at_load rfl ?_; apply ldEw (unhide D) _ rfl rfl rfl (by repeat (first | exact List.mem_cons_self | apply List.mem_cons_of_mem)))
          | (go_at_call 18; refine (unhide hv2 _).mono ?_; rintro e w' ⟨he, hb⟩; subst he; have D := hide ((unhide D).keep hb); clear hb)
          | (with_reducible refine at_list ?_; refine eqlEw (unhide h31) _ _ rfl rfl rfl rfl ?_))
        go_meet
        case rel => exact ⟨rfl, unhide D⟩
      · clear h4 h3
        go_wp2_with (first
          | (with_reducible refine at_list ?_; refine at_load rfl ?_; apply ldE (unhide D) _ rfl rfl rfl (by repeat (first | exact List.mem_cons_self | apply List.mem_cons_of_mem)))
          | (with_reducible refine at_list ?_; refine at_load rfl ?_; apply ldEw (unhide D) _ rfl rfl rfl (by repeat (first | exact List.mem_cons_self | apply List.mem_cons_of_mem)))
          | (go_at_call 18; refine (unhide hv2 _).mono ?_; rintro e w' ⟨he, hb⟩; subst he; have D := hide ((unhide D).keep hb); clear hb)
          | (with_reducible refine at_list ?_; refine eqlEw (unhide h31) _ _ rfl rfl rfl rfl ?_))
        go_meet
        case rel => exact ⟨rfl, unhide D⟩
    · have h31 : Hid (same a b = false) := (unhide h3).trans rfl
      have hv2 : Hid (∀ u, Calls Try.prog 18 #[W b, W a] u fun e w' => e = .returned (.int .i64 (-1)) ∧ Below u.heap.size u w') := hv
      clear hv h4 h3
      go_wp2_with (first
        | (with_reducible refine at_list ?_; refine at_load rfl ?_; apply ldE (unhide D) _ rfl rfl rfl (by repeat (first | exact List.mem_cons_self | apply List.mem_cons_of_mem)))
        | (with_reducible refine at_list ?_; refine at_load rfl ?_; apply ldEw (unhide D) _ rfl rfl rfl (by repeat (first | exact List.mem_cons_self | apply List.mem_cons_of_mem)))
        | (go_at_call 18; refine (unhide hv2 _).mono ?_; rintro e w' ⟨he, hb⟩; subst he; have D := hide ((unhide D).keep hb); clear hb)
        | (with_reducible refine at_list ?_; refine eqlEw (unhide h31) _ _ rfl rfl rfl rfl ?_))
      go_meet
      case rel => exact ⟨rfl, unhide D⟩
  case rest =>
    obtain ⟨hs, hD⟩ := hcut
    subst hs
    clear D
    have D := hide hD
    clear hD h2 h3 h4 h1'
    go_upto_region 8 with (first
      | (with_reducible refine at_list ?_; refine at_load rfl ?_; apply ldE (unhide D) _ rfl rfl rfl (by repeat (first | exact List.mem_cons_self | apply List.mem_cons_of_mem)))
      | (with_reducible refine at_list ?_; refine stE (unhide D) _ _ rfl rfl rfl rfl rfl ?_; intro D'; have D := hide D'; clear D')
      | (go_at_call 9; refine (unhide hAdd _ _ _).mono ?_; rintro e w' ⟨he, hb⟩; subst he; have D := hide ((unhide D).keep hb); clear hb)
      | (go_at_call 13; refine (unhide hNeg _ _).mono ?_; rintro e w' ⟨he, hb⟩; subst he; have D := hide ((unhide D).keep hb); clear hb))
    have hw1 : IntKind.i64.wrap (-X) = -X := by rcases unhide h1 with rfl | rfl | rfl <;> rfl
    clear hX
    generalize addb a c = E at h5 ⊢
    generalize addb b c = F at h5 ⊢
    generalize ngb a = J at h6 ⊢
    generalize ngb b = L at h6 ⊢
    go_cut [116] (fun s116 wx => s116 = .bool false ∧ Env w [] wx)
    case first =>
      have gp : ∀ (b1 b2 : Bool) (z : Int), True := fun _ _ _ => trivial
      clear gp
      cases E
      · cases J
        · go_wp2_with (first
            | (with_reducible refine at_list ?_; refine at_load (x := .tmp 14) rfl ?_; refine skE rfl ?_)
            | (with_reducible refine at_list ?_; refine at_load (x := .tmp 16) rfl ?_; refine skE rfl ?_)
            | (with_reducible refine at_list ?_; refine at_load (x := .tmp 18) rfl ?_; refine skE rfl ?_)
            | (with_reducible refine at_list ?_; refine at_load (x := .tmp 20) rfl ?_; refine skE rfl ?_))
          go_meet
          case rel => exact ⟨rfl, ⟨fun _ hp => (List.not_mem_nil hp).elim, (unhide D).o⟩⟩
        · cases L
          · go_wp2_with (first
              | (with_reducible refine at_list ?_; refine at_load (x := .tmp 14) rfl ?_; refine skE rfl ?_)
              | (with_reducible refine at_list ?_; refine at_load (x := .tmp 16) rfl ?_; refine skE rfl ?_)
              | (with_reducible refine at_list ?_; refine at_load (x := .tmp 18) rfl ?_; refine skE rfl ?_)
              | (with_reducible refine at_list ?_; refine at_load (x := .tmp 20) rfl ?_; refine skE rfl ?_))
            go_meet
            case rel => exact ⟨rfl, ⟨fun _ hp => (List.not_mem_nil hp).elim, (unhide D).o⟩⟩
          · have h61 := unhide h6 rfl rfl
            have hv : Hid (∀ u, Calls Try.prog 18 #[W (ng a), W (ng b)] u fun e w' => e = .returned (.int .i64 (-X)) ∧ Below u.heap.size u w') := fun u => (unhide hCm (ng a) (ng b) u).mono fun _ _ ⟨he, hb⟩ => ⟨by rw [he, h61], hb⟩
            clear h61 hCm
            go_wp2_with (first
              | (with_reducible refine at_list ?_; refine at_load (x := .tmp 14) rfl ?_; refine skE rfl ?_)
              | (with_reducible refine at_list ?_; refine at_load (x := .tmp 16) rfl ?_; refine skE rfl ?_)
              | (with_reducible refine at_list ?_; refine at_load (x := .tmp 18) rfl ?_; apply ldEw (unhide D) (.tmp 18) rfl rfl rfl (by repeat (first | exact List.mem_cons_self | apply List.mem_cons_of_mem)))
              | (with_reducible refine at_list ?_; refine at_load (x := .tmp 20) rfl ?_; apply ldEw (unhide D) (.tmp 20) rfl rfl rfl (by repeat (first | exact List.mem_cons_self | apply List.mem_cons_of_mem)))
              | (go_at_call 18; with_reducible refine (unhide hv _).mono ?_; rintro e w' ⟨he, hb⟩; subst he; have D := hide ((unhide D).keep hb); clear hb))
            go_meet
            case rel => exact ⟨rfl, ⟨fun _ hp => (List.not_mem_nil hp).elim, (unhide D).o⟩⟩
      · cases F
        · cases J
          · go_wp2_with (first
              | (with_reducible refine at_list ?_; refine at_load (x := .tmp 14) rfl ?_; refine skE rfl ?_)
              | (with_reducible refine at_list ?_; refine at_load (x := .tmp 16) rfl ?_; refine skE rfl ?_)
              | (with_reducible refine at_list ?_; refine at_load (x := .tmp 18) rfl ?_; refine skE rfl ?_)
              | (with_reducible refine at_list ?_; refine at_load (x := .tmp 20) rfl ?_; refine skE rfl ?_))
            go_meet
            case rel => exact ⟨rfl, ⟨fun _ hp => (List.not_mem_nil hp).elim, (unhide D).o⟩⟩
          · cases L
            · go_wp2_with (first
                | (with_reducible refine at_list ?_; refine at_load (x := .tmp 14) rfl ?_; refine skE rfl ?_)
                | (with_reducible refine at_list ?_; refine at_load (x := .tmp 16) rfl ?_; refine skE rfl ?_)
                | (with_reducible refine at_list ?_; refine at_load (x := .tmp 18) rfl ?_; refine skE rfl ?_)
                | (with_reducible refine at_list ?_; refine at_load (x := .tmp 20) rfl ?_; refine skE rfl ?_))
              go_meet
              case rel => exact ⟨rfl, ⟨fun _ hp => (List.not_mem_nil hp).elim, (unhide D).o⟩⟩
            · have h61 := unhide h6 rfl rfl
              have hv : Hid (∀ u, Calls Try.prog 18 #[W (ng a), W (ng b)] u fun e w' => e = .returned (.int .i64 (-X)) ∧ Below u.heap.size u w') := fun u => (unhide hCm (ng a) (ng b) u).mono fun _ _ ⟨he, hb⟩ => ⟨by rw [he, h61], hb⟩
              clear h61 hCm
              go_wp2_with (first
                | (with_reducible refine at_list ?_; refine at_load (x := .tmp 14) rfl ?_; refine skE rfl ?_)
                | (with_reducible refine at_list ?_; refine at_load (x := .tmp 16) rfl ?_; refine skE rfl ?_)
                | (with_reducible refine at_list ?_; refine at_load (x := .tmp 18) rfl ?_; apply ldEw (unhide D) (.tmp 18) rfl rfl rfl (by repeat (first | exact List.mem_cons_self | apply List.mem_cons_of_mem)))
                | (with_reducible refine at_list ?_; refine at_load (x := .tmp 20) rfl ?_; apply ldEw (unhide D) (.tmp 20) rfl rfl rfl (by repeat (first | exact List.mem_cons_self | apply List.mem_cons_of_mem)))
                | (go_at_call 18; with_reducible refine (unhide hv _).mono ?_; rintro e w' ⟨he, hb⟩; subst he; have D := hide ((unhide D).keep hb); clear hb))
              go_meet
              case rel => exact ⟨rfl, ⟨fun _ hp => (List.not_mem_nil hp).elim, (unhide D).o⟩⟩
        · have h51 := unhide h5 rfl rfl
          have hq : Hid (∀ u, Calls Try.prog 18 #[W (add a c), W (add b c)] u fun e w' => e = .returned (.int .i64 X) ∧ Below u.heap.size u w') := fun u => (unhide hCm (add a c) (add b c) u).mono fun _ _ ⟨he, hb⟩ => ⟨by rw [he, h51], hb⟩
          clear h51
          cases J
          · clear hCm
            go_wp2_with (first
              | (with_reducible refine at_list ?_; refine at_load (x := .tmp 14) rfl ?_; apply ldEw (unhide D) (.tmp 14) rfl rfl rfl (by repeat (first | exact List.mem_cons_self | apply List.mem_cons_of_mem)))
              | (with_reducible refine at_list ?_; refine at_load (x := .tmp 16) rfl ?_; apply ldEw (unhide D) (.tmp 16) rfl rfl rfl (by repeat (first | exact List.mem_cons_self | apply List.mem_cons_of_mem)))
              | (with_reducible refine at_list ?_; refine at_load (x := .tmp 18) rfl ?_; refine skE rfl ?_)
              | (with_reducible refine at_list ?_; refine at_load (x := .tmp 20) rfl ?_; refine skE rfl ?_)
              | (go_at_call 18; with_reducible refine (unhide hq _).mono ?_; rintro e w' ⟨he, hb⟩; subst he; have D := hide ((unhide D).keep hb); clear hb))
            go_meet
            case rel => exact ⟨rfl, ⟨fun _ hp => (List.not_mem_nil hp).elim, (unhide D).o⟩⟩
          · cases L
            · clear hCm
              go_wp2_with (first
                | (with_reducible refine at_list ?_; refine at_load (x := .tmp 14) rfl ?_; apply ldEw (unhide D) (.tmp 14) rfl rfl rfl (by repeat (first | exact List.mem_cons_self | apply List.mem_cons_of_mem)))
                | (with_reducible refine at_list ?_; refine at_load (x := .tmp 16) rfl ?_; apply ldEw (unhide D) (.tmp 16) rfl rfl rfl (by repeat (first | exact List.mem_cons_self | apply List.mem_cons_of_mem)))
                | (with_reducible refine at_list ?_; refine at_load (x := .tmp 18) rfl ?_; refine skE rfl ?_)
                | (with_reducible refine at_list ?_; refine at_load (x := .tmp 20) rfl ?_; refine skE rfl ?_)
                | (go_at_call 18; with_reducible refine (unhide hq _).mono ?_; rintro e w' ⟨he, hb⟩; subst he; have D := hide ((unhide D).keep hb); clear hb))
              go_meet
              case rel => exact ⟨rfl, ⟨fun _ hp => (List.not_mem_nil hp).elim, (unhide D).o⟩⟩
            · have h61 := unhide h6 rfl rfl
              have hv : Hid (∀ u, Calls Try.prog 18 #[W (ng a), W (ng b)] u fun e w' => e = .returned (.int .i64 (-X)) ∧ Below u.heap.size u w') := fun u => (unhide hCm (ng a) (ng b) u).mono fun _ _ ⟨he, hb⟩ => ⟨by rw [he, h61], hb⟩
              clear h61 hCm
              go_wp2_with (first
                | (with_reducible refine at_list ?_; refine at_load (x := .tmp 14) rfl ?_; apply ldEw (unhide D) (.tmp 14) rfl rfl rfl (by repeat (first | exact List.mem_cons_self | apply List.mem_cons_of_mem)))
                | (with_reducible refine at_list ?_; refine at_load (x := .tmp 16) rfl ?_; apply ldEw (unhide D) (.tmp 16) rfl rfl rfl (by repeat (first | exact List.mem_cons_self | apply List.mem_cons_of_mem)))
                | (with_reducible refine at_list ?_; refine at_load (x := .tmp 18) rfl ?_; apply ldEw (unhide D) (.tmp 18) rfl rfl rfl (by repeat (first | exact List.mem_cons_self | apply List.mem_cons_of_mem)))
                | (with_reducible refine at_list ?_; refine at_load (x := .tmp 20) rfl ?_; apply ldEw (unhide D) (.tmp 20) rfl rfl rfl (by repeat (first | exact List.mem_cons_self | apply List.mem_cons_of_mem)))
                | (go_at_call 18; with_reducible refine (unhide hq _).mono ?_; rintro e w' ⟨he, hb⟩; subst he; have D := hide ((unhide D).keep hb); clear hb)
                | (go_at_call 18; with_reducible refine (unhide hv _).mono ?_; rintro e w' ⟨he, hb⟩; subst he; have D := hide ((unhide D).keep hb); clear hb))
              go_meet
              case rel => exact ⟨rfl, ⟨fun _ hp => (List.not_mem_nil hp).elim, (unhide D).o⟩⟩
    case rest =>
      obtain ⟨hs, hD⟩ := hcut
      subst hs
      clear D h5 h6 hw1
      have D := hide hD
      clear hD
      rcases unhide h7 with ⟨hmn, hk⟩ | ⟨hmn, hk⟩ | ⟨hmn, hk⟩
      · have hmn1 : decide (m < n) = true := by simpa using hmn
        have hmn2 : (m == n) = false := by simp; omega
        go_wp2_with (first
          | (with_reducible refine at_list ?_; refine at_load rfl ?_; apply ldE (unhide D) _ rfl rfl rfl (by repeat (first | exact List.mem_cons_self | apply List.mem_cons_of_mem)))
          | (go_at_call 19; refine (unhide hOf _ _ (by assumption)).mono ?_; rintro e w' ⟨he, hb⟩; subst he; have D := hide ((unhide D).keep hb); clear hb)
          | (go_at_call 18; refine (unhide hCm _ _ _).mono ?_; rintro e w' ⟨he, hb⟩; subst he; have D := hide ((unhide D).keep hb); clear hb)
          | (go_at_call 11; refine (unhide hAw _).mono ?_; rintro e w' ⟨he, hb⟩; subst he; have D := hide ((unhide D).keep hb); clear hb))
        go_ret
        exact ⟨rfl, (unhide D).o⟩
      · subst hmn
        have hmn1 : decide (m < m) = false := by simp
        have hmn2 : (m == m) = true := by simp
        go_wp2_with (first
          | (with_reducible refine at_list ?_; refine at_load rfl ?_; apply ldE (unhide D) _ rfl rfl rfl (by repeat (first | exact List.mem_cons_self | apply List.mem_cons_of_mem)))
          | (go_at_call 19; refine (unhide hOf _ _ (by assumption)).mono ?_; rintro e w' ⟨he, hb⟩; subst he; have D := hide ((unhide D).keep hb); clear hb)
          | (go_at_call 18; refine (unhide hCm _ _ _).mono ?_; rintro e w' ⟨he, hb⟩; subst he; have D := hide ((unhide D).keep hb); clear hb)
          | (go_at_call 11; refine (unhide hAw _).mono ?_; rintro e w' ⟨he, hb⟩; subst he; have D := hide ((unhide D).keep hb); clear hb))
        go_ret
        exact ⟨rfl, (unhide D).o⟩
      · have hmn1 : decide (m < n) = false := by simp; omega
        have hmn2 : (m == n) = false := by simp; omega
        go_wp2_with (first
          | (with_reducible refine at_list ?_; refine at_load rfl ?_; apply ldE (unhide D) _ rfl rfl rfl (by repeat (first | exact List.mem_cons_self | apply List.mem_cons_of_mem)))
          | (go_at_call 19; refine (unhide hOf _ _ (by assumption)).mono ?_; rintro e w' ⟨he, hb⟩; subst he; have D := hide ((unhide D).keep hb); clear hb)
          | (go_at_call 18; refine (unhide hCm _ _ _).mono ?_; rintro e w' ⟨he, hb⟩; subst he; have D := hide ((unhide D).keep hb); clear hb)
          | (go_at_call 11; refine (unhide hAw _).mono ?_; rintro e w' ⟨he, hb⟩; subst he; have D := hide ((unhide D).keep hb); clear hb))
        go_ret
        exact ⟨rfl, (unhide D).o⟩

end Go.Proofs.Ytfoojpfgeicolab
