/- The law WideBits, over whatever counts of bits, opposites, shifts, comparisons and products: it returns true where they are what they are. -/
import Derived.Test.YtfoojpfgeicolacZn
import Derived.Deep.DeepCutAuto
namespace Go.Proofs.Ytfoojpfgeicolac
open Go.RowKit

/-- The head is a load of a number. -/
theorem at_load {ops : Array Oper} {Q : Exit → Act → World → Prop} {o : Oper} {l : List Oper} {a : Act} {w : World} {x : Operand} (_ : o.op = .load 25 x) (h : wpList Try.prog ops Q (o :: l) a w) : wpList Try.prog ops Q (o :: l) a w := h
theorem Env.tail {w0 w : World} {q : Nat × Nat} {l : List (Nat × Nat)} (d : Env w0 (q :: l) w) : Env w0 l w := ⟨fun p hp => d.at_ p (List.mem_cons_of_mem _ hp), d.o⟩

set_option maxRecDepth 100000 in
set_option maxHeartbeats 8000000 in
theorem bits_law (a b m p one top low : Nat) (ok te le mb : Bool) (N Nb Nm Np S Sp C1 C2 C3 C4 : Int) (w : World)
    (hBa : Hid (∀ u, Calls Try.prog 4 #[W a] u fun e w' => e = .returned (.int .i64 N) ∧ Below u.heap.size u w'))
    (hBb : Hid (∀ u, Calls Try.prog 4 #[W b] u fun e w' => e = .returned (.int .i64 Nb) ∧ Below u.heap.size u w'))
    (hBm : Hid (∀ u, Calls Try.prog 4 #[W m] u fun e w' => e = .returned (.int .i64 Nm) ∧ Below u.heap.size u w'))
    (hBp : Hid (∀ u, Calls Try.prog 4 #[W p] u fun e w' => e = .returned (.int .i64 Np) ∧ Below u.heap.size u w'))
    (hSa : Hid (∀ u, Calls Try.prog 5 #[W a] u fun e w' => e = .returned (.int .i64 S) ∧ Below u.heap.size u w'))
    (hSp : Hid (∀ u, Calls Try.prog 5 #[W p] u fun e w' => e = .returned (.int .i64 Sp) ∧ Below u.heap.size u w'))
    (hNeg : Hid (∀ u, Calls Try.prog 6 #[W a] u fun e w' => e = .returned (.tuple #[.agg (cells8 m), .bool ok]) ∧ Below u.heap.size u w'))
    (hMul : Hid (∀ u, Calls Try.prog 10 #[W a, W b] u fun e w' => e = .returned (.tuple #[.agg (cells8 p), .bool mb]) ∧ Below u.heap.size u w'))
    (hOf : Hid (∀ u, Calls Try.prog 8 #[.int .i64 1] u fun e w' => e = .returned (.agg (cells8 one)) ∧ Below u.heap.size u w'))
    (hT : Hid (∀ u, Calls Try.prog 7 #[W one, .int .i64 N] u fun e w' => e = .returned (.tuple #[.agg (cells8 top), .bool te]) ∧ Below u.heap.size u w'))
    (hL : Hid (∀ u, Calls Try.prog 7 #[W one, .int .i64 (N - 1)] u fun e w' => e = .returned (.tuple #[.agg (cells8 low), .bool le]) ∧ Below u.heap.size u w'))
    (hC1 : Hid (∀ u, Calls Try.prog 9 #[W a, W top] u fun e w' => e = .returned (.int .i64 C1) ∧ Below u.heap.size u w'))
    (hC2 : Hid (∀ u, Calls Try.prog 9 #[W m, W top] u fun e w' => e = .returned (.int .i64 C2) ∧ Below u.heap.size u w'))
    (hC3 : Hid (∀ u, Calls Try.prog 9 #[W a, W low] u fun e w' => e = .returned (.int .i64 C3) ∧ Below u.heap.size u w'))
    (hC4 : Hid (∀ u, Calls Try.prog 9 #[W m, W low] u fun e w' => e = .returned (.int .i64 C4) ∧ Below u.heap.size u w'))
    (hAw : Hid (∀ u, Calls Try.prog 11 #[] u fun e w' => e = .returned (.bool true) ∧ Below u.heap.size u w'))
    (f1 : ¬ N < 0) (f2 : ¬ 512 < N) (f3 : Hid ((N = 0 ∧ S = 0) ∨ (1 ≤ N ∧ (S = 1 ∨ S = -1)))) (f4 : Hid (ok = true → Nm = N))
    (f5 : Hid (N < 511 → te = true ∧ C1 < 0 ∧ (ok = true → C2 < 0)))
    (f6 : Hid (1 ≤ N → N ≤ 511 → le = true ∧ (S = 1 → ¬ C3 < 0) ∧ (S = -1 → ¬ C4 < 0)))
    (f7 : Hid (mb = true → Sp = 0 ∨ (¬ Sp = 0 ∧ (Np = N + Nb ∨ Np = N + Nb - 1)))) (f8 : IntKind.i64.wrap (N + Nb) = N + Nb) (f9 : IntKind.i64.wrap (N + Nb - 1) = N + Nb - 1) (f10 : IntKind.i64.wrap (N - 1) = N - 1) :
    Calls Try.prog 3 #[W a, W b] w fun e w' => e = .returned (.bool true) ∧ Below w.heap.size w w' := by
  obtain ⟨T, hTb⟩ : ∃ T : Bool, Hid (T = decide (1 ≤ N ∧ N ≤ 511)) := ⟨_, rfl⟩
  have d1 : decide (N < 0) = false := by simpa using f1
  have d2 : decide (512 < N) = false := by simpa using f2
  go_enter Try.func3, Try.ntmps3
  go_upto_region 1 with fail
  have D := hide (Env.two w a b)
  go_upto_region 2 with (first
    | (with_reducible refine at_list ?_; refine at_load rfl ?_; apply ldE (unhide D) _ rfl rfl rfl (by repeat (first | exact List.mem_cons_self | apply List.mem_cons_of_mem)))
    | (go_at_call 4; with_reducible refine (unhide hBa _).mono ?_; rintro e w' ⟨he, hb⟩; subst he; have D := hide ((unhide D).keep hb); clear hb))
  obtain ⟨l, hl, D'⟩ : ∃ l, l = _ ∧ Env w l _ := ⟨_, rfl, unhide D⟩
  clear D
  have D := hide D'
  clear D'
  go_cut [30] (fun s30 wx => s30 = .bool false ∧ Env w l wx)
  case first =>
    subst hl
    rcases unhide f3 with ⟨h1, h2⟩ | ⟨h1, h2⟩
    · have e1 : (N == 0) = true := by simp; omega
      have e2 : (S == 0) = true := by simp; omega
      clear h1 h2
      go_wp2_with (first
        | (with_reducible refine at_list ?_; refine at_load rfl ?_; apply ldE (unhide D) _ rfl rfl rfl (by repeat (first | exact List.mem_cons_self | apply List.mem_cons_of_mem)))
        | (with_reducible refine at_list ?_; refine at_load rfl ?_; apply ldEw (unhide D) _ rfl rfl rfl (by repeat (first | exact List.mem_cons_self | apply List.mem_cons_of_mem)))
        | (go_at_call 5; with_reducible refine (unhide hSa _).mono ?_; rintro e w' ⟨he, hb⟩; subst he; have D := hide ((unhide D).keep hb); clear hb))
      go_meet
      case rel => exact ⟨rfl, unhide D⟩
    · have e1 : (N == 0) = false := by simp; omega
      have e2 : (S == 0) = false := by simp; omega
      clear h1 h2
      go_wp2_with (first
        | (with_reducible refine at_list ?_; refine at_load rfl ?_; apply ldE (unhide D) _ rfl rfl rfl (by repeat (first | exact List.mem_cons_self | apply List.mem_cons_of_mem)))
        | (with_reducible refine at_list ?_; refine at_load rfl ?_; apply ldEw (unhide D) _ rfl rfl rfl (by repeat (first | exact List.mem_cons_self | apply List.mem_cons_of_mem)))
        | (go_at_call 5; with_reducible refine (unhide hSa _).mono ?_; rintro e w' ⟨he, hb⟩; subst he; have D := hide ((unhide D).keep hb); clear hb))
      go_meet
      case rel => exact ⟨rfl, unhide D⟩
  case rest =>
    obtain ⟨hs, hD⟩ := hcut
    subst hs
    subst hl
    clear D
    have D := hide hD
    clear hD
    go_upto_region 5 with (first
      | (with_reducible refine at_list ?_; refine at_load rfl ?_; apply ldE (unhide D) _ rfl rfl rfl (by repeat (first | exact List.mem_cons_self | apply List.mem_cons_of_mem)))
      | (with_reducible refine at_list ?_; refine stE (unhide D) _ _ rfl rfl rfl rfl rfl ?_; intro D'; have D := hide D'; clear D')
      | (go_at_call 6; with_reducible refine (unhide hNeg _).mono ?_; rintro e w' ⟨he, hb⟩; subst he; have D := hide ((unhide D).keep hb); clear hb))
    obtain ⟨l, hl, D'⟩ : ∃ l, l = _ ∧ Env w l _ := ⟨_, rfl, unhide D⟩
    clear D
    have D := hide D'
    clear D'
    go_cut [42] (fun s42 wx => s42 = .bool false ∧ Env w l wx)
    case first =>
      subst hl
      cases ok
      · go_wp2_with (first
          | (with_reducible refine at_list ?_; refine at_load rfl ?_; apply ldE (unhide D) _ rfl rfl rfl (by repeat (first | exact List.mem_cons_self | apply List.mem_cons_of_mem)))
          | (with_reducible refine at_list ?_; refine at_load rfl ?_; apply ldEw (unhide D) _ rfl rfl rfl (by repeat (first | exact List.mem_cons_self | apply List.mem_cons_of_mem))))
        go_meet
        case rel => exact ⟨rfl, unhide D⟩
      · have h := unhide f4 rfl
        subst h
        go_wp2_with (first
          | (with_reducible refine at_list ?_; refine at_load rfl ?_; apply ldE (unhide D) _ rfl rfl rfl (by repeat (first | exact List.mem_cons_self | apply List.mem_cons_of_mem)))
          | (with_reducible refine at_list ?_; refine at_load rfl ?_; apply ldEw (unhide D) _ rfl rfl rfl (by repeat (first | exact List.mem_cons_self | apply List.mem_cons_of_mem)))
          | (go_at_call 4; with_reducible refine (unhide hBm _).mono ?_; rintro e w' ⟨he, hb⟩; subst he; have D := hide ((unhide D).keep hb); clear hb))
        go_meet
        case rel => exact ⟨rfl, unhide D⟩
    case rest =>
      obtain ⟨hs, hD⟩ := hcut
      subst hs
      subst hl
      clear D
      have D := hide hD
      clear hD
      go_upto_if 44 with (first
        | (with_reducible refine at_list ?_; refine at_load rfl ?_; apply ldE (unhide D) _ rfl rfl rfl (by repeat (first | exact List.mem_cons_self | apply List.mem_cons_of_mem))))
      obtain ⟨l, hl, D'⟩ : ∃ l, l = _ ∧ Env w l _ := ⟨_, rfl, unhide D⟩
      clear D
      have D := hide D'
      clear D'
      go_cut [] (fun wx => Env w l wx)
      case first =>
        subst hl
        by_cases c : N < 511
        · have e1 : decide (N < 511) = true := by simpa using c
          obtain ⟨h1, h2, h3⟩ := unhide f5 c
          have e2 : decide (0 ≤ C1) = false := by simp; omega
          subst h1
          cases ok
          · go_wp2_with (first
              | (with_reducible refine at_list ?_; refine at_load rfl ?_; apply ldE (unhide D) _ rfl rfl rfl (by repeat (first | exact List.mem_cons_self | apply List.mem_cons_of_mem)))
              | (with_reducible refine at_list ?_; refine at_load rfl ?_; apply ldEw (unhide D) _ rfl rfl rfl (by repeat (first | exact List.mem_cons_self | apply List.mem_cons_of_mem)))
              | (with_reducible refine at_list ?_; refine stE (unhide D) _ _ rfl rfl rfl rfl rfl ?_; intro D'; have D := hide D'; clear D')
              | (go_at_call 8; refine (unhide hOf _).mono ?_; rintro e w' ⟨he, hb⟩; subst he; have D := hide ((unhide D).keep hb); clear hb)
              | (go_at_call 7; with_reducible refine (unhide hT _).mono ?_; rintro e w' ⟨he, hb⟩; subst he; have D := hide ((unhide D).keep hb); clear hb)
              | (go_at_call 9; with_reducible refine (unhide hC1 _).mono ?_; rintro e w' ⟨he, hb⟩; subst he; have D := hide ((unhide D).keep hb); clear hb)
              | (go_at_call 9; with_reducible refine (unhide hC2 _).mono ?_; rintro e w' ⟨he, hb⟩; subst he; have D := hide ((unhide D).keep hb); clear hb))
            go_meet
            case rel => exact (unhide D).tail
          · have h4 := h3 rfl
            have e3 : decide (0 ≤ C2) = false := by simp; omega
            clear h3
            go_wp2_with (first
              | (with_reducible refine at_list ?_; refine at_load rfl ?_; apply ldE (unhide D) _ rfl rfl rfl (by repeat (first | exact List.mem_cons_self | apply List.mem_cons_of_mem)))
              | (with_reducible refine at_list ?_; refine at_load rfl ?_; apply ldEw (unhide D) _ rfl rfl rfl (by repeat (first | exact List.mem_cons_self | apply List.mem_cons_of_mem)))
              | (with_reducible refine at_list ?_; refine stE (unhide D) _ _ rfl rfl rfl rfl rfl ?_; intro D'; have D := hide D'; clear D')
              | (go_at_call 8; refine (unhide hOf _).mono ?_; rintro e w' ⟨he, hb⟩; subst he; have D := hide ((unhide D).keep hb); clear hb)
              | (go_at_call 7; with_reducible refine (unhide hT _).mono ?_; rintro e w' ⟨he, hb⟩; subst he; have D := hide ((unhide D).keep hb); clear hb)
              | (go_at_call 9; with_reducible refine (unhide hC1 _).mono ?_; rintro e w' ⟨he, hb⟩; subst he; have D := hide ((unhide D).keep hb); clear hb)
              | (go_at_call 9; with_reducible refine (unhide hC2 _).mono ?_; rintro e w' ⟨he, hb⟩; subst he; have D := hide ((unhide D).keep hb); clear hb))
            go_meet
            case rel => exact (unhide D).tail
        · have e1 : decide (N < 511) = false := by simpa using c
          go_wp2_with (first
            | (with_reducible refine at_list ?_; refine at_load rfl ?_; apply ldE (unhide D) _ rfl rfl rfl (by repeat (first | exact List.mem_cons_self | apply List.mem_cons_of_mem)))
            | (with_reducible refine at_list ?_; refine at_load rfl ?_; apply ldEw (unhide D) _ rfl rfl rfl (by repeat (first | exact List.mem_cons_self | apply List.mem_cons_of_mem))))
          go_meet
          case rel => exact unhide D
      case rest =>
        have hD := hcut
        clear hcut
        subst hl
        clear D
        have D := hide hD
        clear hD
        go_upto_region 11 with fail
        obtain ⟨l, hl, D'⟩ : ∃ l, l = _ ∧ Env w l _ := ⟨_, rfl, unhide D⟩
        clear D
        have D := hide D'
        clear D'
        go_cut [73] (fun s73 wx => s73 = .bool T ∧ Env w l wx)
        case first =>
          subst hl
          by_cases c1 : 1 ≤ N
          · have e1 : decide (1 ≤ N) = true := by simpa using c1
            by_cases c2 : N ≤ 511
            · have e2 : decide (N ≤ 511) = true := by simpa using c2
              have e3 : Hid (decide (1 ≤ N ∧ N ≤ 511) = true) := by show decide (1 ≤ N ∧ N ≤ 511) = true; simp; omega
              go_wp2_with (first
                | (with_reducible refine at_list ?_; refine at_load rfl ?_; apply ldE (unhide D) _ rfl rfl rfl (by repeat (first | exact List.mem_cons_self | apply List.mem_cons_of_mem)))
                | (with_reducible refine at_list ?_; refine at_load rfl ?_; apply ldEw (unhide D) _ rfl rfl rfl (by repeat (first | exact List.mem_cons_self | apply List.mem_cons_of_mem))))
              go_meet
              case rel => exact ⟨by rw [unhide hTb, unhide e3], unhide D⟩
            · have e2 : decide (N ≤ 511) = false := by simpa using c2
              have e3 : Hid (decide (1 ≤ N ∧ N ≤ 511) = false) := by show decide (1 ≤ N ∧ N ≤ 511) = false; simp; omega
              go_wp2_with (first
                | (with_reducible refine at_list ?_; refine at_load rfl ?_; apply ldE (unhide D) _ rfl rfl rfl (by repeat (first | exact List.mem_cons_self | apply List.mem_cons_of_mem)))
                | (with_reducible refine at_list ?_; refine at_load rfl ?_; apply ldEw (unhide D) _ rfl rfl rfl (by repeat (first | exact List.mem_cons_self | apply List.mem_cons_of_mem))))
              go_meet
              case rel => exact ⟨by rw [unhide hTb, unhide e3], unhide D⟩
          · have e1 : decide (1 ≤ N) = false := by simpa using c1
            have e3 : Hid (decide (1 ≤ N ∧ N ≤ 511) = false) := by show decide (1 ≤ N ∧ N ≤ 511) = false; simp; omega
            go_wp2_with (first
              | (with_reducible refine at_list ?_; refine at_load rfl ?_; apply ldE (unhide D) _ rfl rfl rfl (by repeat (first | exact List.mem_cons_self | apply List.mem_cons_of_mem)))
              | (with_reducible refine at_list ?_; refine at_load rfl ?_; apply ldEw (unhide D) _ rfl rfl rfl (by repeat (first | exact List.mem_cons_self | apply List.mem_cons_of_mem))))
            go_meet
            case rel => exact ⟨by rw [unhide hTb, unhide e3], unhide D⟩
        case rest =>
          obtain ⟨hs, hD⟩ := hcut
          subst hs
          subst hl
          clear D
          have D := hide hD
          clear hD
          go_upto_if 73 with fail
          obtain ⟨l, hl, D'⟩ : ∃ l, l = _ ∧ Env w l _ := ⟨_, rfl, unhide D⟩
          clear D
          have D := hide D'
          clear D'
          go_cut [] (fun wx => Env w l wx)
          case first =>
            subst hl
            cases T
            case true =>
              have c : 1 ≤ N ∧ N ≤ 511 := of_decide_eq_true (unhide hTb).symm
              clear hTb
              obtain ⟨h1, h2, h3⟩ := unhide f6 c.1 c.2
              have hS : S = 1 ∨ S = -1 := by rcases unhide f3 with ⟨k1, k2⟩ | ⟨k1, k2⟩; omega; exact k2
              clear c
              subst h1
              rcases hS with rfl | rfl
              · have h4 := h2 rfl
                have e3 : decide (C3 < 0) = false := by simpa using h4
                clear h2 h3 h4
                go_wp2_with (first
                  | (with_reducible refine at_list ?_; refine at_load rfl ?_; apply ldE (unhide D) _ rfl rfl rfl (by repeat (first | exact List.mem_cons_self | apply List.mem_cons_of_mem)))
                  | (with_reducible refine at_list ?_; refine at_load rfl ?_; apply ldEw (unhide D) _ rfl rfl rfl (by repeat (first | exact List.mem_cons_self | apply List.mem_cons_of_mem)))
                  | (with_reducible refine at_list ?_; refine stE (unhide D) _ _ rfl rfl rfl rfl rfl ?_; intro D'; have D := hide D'; clear D')
                  | (go_at_call 8; refine (unhide hOf _).mono ?_; rintro e w' ⟨he, hb⟩; subst he; have D := hide ((unhide D).keep hb); clear hb)
                  | (go_at_call 7; with_reducible refine (unhide hL _).mono ?_; rintro e w' ⟨he, hb⟩; subst he; have D := hide ((unhide D).keep hb); clear hb)
                  | (go_at_call 5; with_reducible refine (unhide hSa _).mono ?_; rintro e w' ⟨he, hb⟩; subst he; have D := hide ((unhide D).keep hb); clear hb)
                  | (go_at_call 9; with_reducible refine (unhide hC3 _).mono ?_; rintro e w' ⟨he, hb⟩; subst he; have D := hide ((unhide D).keep hb); clear hb)
                  | (go_at_call 9; with_reducible refine (unhide hC4 _).mono ?_; rintro e w' ⟨he, hb⟩; subst he; have D := hide ((unhide D).keep hb); clear hb))
                go_meet
                case rel => exact (unhide D).tail
              · have h4 := h3 rfl
                have e3 : decide (C4 < 0) = false := by simpa using h4
                clear h2 h3 h4
                go_wp2_with (first
                  | (with_reducible refine at_list ?_; refine at_load rfl ?_; apply ldE (unhide D) _ rfl rfl rfl (by repeat (first | exact List.mem_cons_self | apply List.mem_cons_of_mem)))
                  | (with_reducible refine at_list ?_; refine at_load rfl ?_; apply ldEw (unhide D) _ rfl rfl rfl (by repeat (first | exact List.mem_cons_self | apply List.mem_cons_of_mem)))
                  | (with_reducible refine at_list ?_; refine stE (unhide D) _ _ rfl rfl rfl rfl rfl ?_; intro D'; have D := hide D'; clear D')
                  | (go_at_call 8; refine (unhide hOf _).mono ?_; rintro e w' ⟨he, hb⟩; subst he; have D := hide ((unhide D).keep hb); clear hb)
                  | (go_at_call 7; with_reducible refine (unhide hL _).mono ?_; rintro e w' ⟨he, hb⟩; subst he; have D := hide ((unhide D).keep hb); clear hb)
                  | (go_at_call 5; with_reducible refine (unhide hSa _).mono ?_; rintro e w' ⟨he, hb⟩; subst he; have D := hide ((unhide D).keep hb); clear hb)
                  | (go_at_call 9; with_reducible refine (unhide hC3 _).mono ?_; rintro e w' ⟨he, hb⟩; subst he; have D := hide ((unhide D).keep hb); clear hb)
                  | (go_at_call 9; with_reducible refine (unhide hC4 _).mono ?_; rintro e w' ⟨he, hb⟩; subst he; have D := hide ((unhide D).keep hb); clear hb))
                go_meet
                case rel => exact (unhide D).tail
            case false =>
              clear hTb
              go_wp2_with (first
                | (with_reducible refine at_list ?_; refine at_load rfl ?_; apply ldE (unhide D) _ rfl rfl rfl (by repeat (first | exact List.mem_cons_self | apply List.mem_cons_of_mem)))
                | (with_reducible refine at_list ?_; refine at_load rfl ?_; apply ldEw (unhide D) _ rfl rfl rfl (by repeat (first | exact List.mem_cons_self | apply List.mem_cons_of_mem))))
              go_meet
              case rel => exact unhide D
          case rest =>
            have hD := hcut
            clear hcut
            subst hl
            clear D
            have D := hide hD
            clear hD f3 f4 f5 f6
            go_upto_region 16 with (first
              | (with_reducible refine at_list ?_; refine at_load rfl ?_; apply ldE (unhide D) _ rfl rfl rfl (by repeat (first | exact List.mem_cons_self | apply List.mem_cons_of_mem)))
              | (with_reducible refine at_list ?_; refine stE (unhide D) _ _ rfl rfl rfl rfl rfl ?_; intro D'; have D := hide D'; clear D')
              | (go_at_call 10; with_reducible refine (unhide hMul _).mono ?_; rintro e w' ⟨he, hb⟩; subst he; have D := hide ((unhide D).keep hb); clear hb))
            refine region_plan (S := Env w _) (l := [0, 1, 2, 3, 4, 5]) (by kernel_rfl) (by kernel_rfl) (by kernel_rfl) (by kernel_rfl) (by kernel_rfl) (by kernel_rfl) (by kernel_rfl) ((unhide D).drew) ?_
            clear D
            refine plan_read rfl rfl (fun u hS => exec_load8 (n := a) 25 (.tmp 2) (hS.blk (by repeat (first | exact List.mem_cons_self | apply List.mem_cons_of_mem))) rfl rfl Try.underlying25 rfl iWide) ?_
            refine plan_call (v := .int .i64 N) (f := 4) (args := #[W a]) rfl rfl (fun u hS => by go_simp) (fun u hS => (unhide hBa u).mono fun _ _ ⟨he, hb⟩ => ⟨he, hS.keep hb⟩) ?_
            go_simp
            refine plan_read rfl rfl (fun u hS => exec_load8 (n := b) 25 (.tmp 3) (hS.blk (by repeat (first | exact List.mem_cons_self | apply List.mem_cons_of_mem))) rfl rfl Try.underlying25 rfl iWide) ?_
            refine plan_call (v := .int .i64 Nb) (f := 4) (args := #[W b]) rfl rfl (fun u hS => by go_simp) (fun u hS => (unhide hBb u).mono fun _ _ ⟨he, hb⟩ => ⟨he, hS.keep hb⟩) ?_
            go_simp
            refine plan_read (v := ?_) rfl rfl (fun u hS => by go_simp; rfl) ?_
            go_simp
            refine plan_read (v := ?_) rfl rfl (fun u hS => by go_simp; rfl) ?_
            go_simp
            refine plan_end (fun u1 hS => ?_)
            have D := hide hS
            clear hS
            go_upto_region 17 with fail
            cases mb
            · go_wp2_with (first
                | (go_at_call 11; refine (unhide hAw _).mono ?_; rintro e w' ⟨he, hb⟩; subst he; have D := hide ((unhide D).keep hb); clear hb)
                | (with_reducible refine at_list ?_; refine at_load rfl ?_; apply ldE (unhide D) _ rfl rfl rfl (by repeat (first | exact List.mem_cons_self | apply List.mem_cons_of_mem)))
                | (with_reducible refine at_list ?_; refine at_load rfl ?_; apply ldEw (unhide D) _ rfl rfl rfl (by repeat (first | exact List.mem_cons_self | apply List.mem_cons_of_mem)))
                | (go_at_call 5; with_reducible refine (unhide hSp _).mono ?_; rintro e w' ⟨he, hb⟩; subst he; have D := hide ((unhide D).keep hb); clear hb))
              go_ret
              exact ⟨rfl, (unhide D).o⟩
            · rcases unhide f7 rfl with h1 | ⟨h1, h2 | h2⟩
              · have e1 : (Sp == 0) = true := by simp; omega
                clear h1
                go_wp2_with (first
                  | (go_at_call 11; refine (unhide hAw _).mono ?_; rintro e w' ⟨he, hb⟩; subst he; have D := hide ((unhide D).keep hb); clear hb)
                  | (with_reducible refine at_list ?_; refine at_load rfl ?_; apply ldE (unhide D) _ rfl rfl rfl (by repeat (first | exact List.mem_cons_self | apply List.mem_cons_of_mem)))
                  | (with_reducible refine at_list ?_; refine at_load rfl ?_; apply ldEw (unhide D) _ rfl rfl rfl (by repeat (first | exact List.mem_cons_self | apply List.mem_cons_of_mem)))
                  | (go_at_call 5; with_reducible refine (unhide hSp _).mono ?_; rintro e w' ⟨he, hb⟩; subst he; have D := hide ((unhide D).keep hb); clear hb))
                go_ret
                exact ⟨rfl, (unhide D).o⟩
              · have e1 : (Sp == 0) = false := by simp; omega
                clear h1
                subst h2
                go_wp2_with (first
                  | (go_at_call 11; refine (unhide hAw _).mono ?_; rintro e w' ⟨he, hb⟩; subst he; have D := hide ((unhide D).keep hb); clear hb)
                  | (with_reducible refine at_list ?_; refine at_load rfl ?_; apply ldE (unhide D) _ rfl rfl rfl (by repeat (first | exact List.mem_cons_self | apply List.mem_cons_of_mem)))
                  | (with_reducible refine at_list ?_; refine at_load rfl ?_; apply ldEw (unhide D) _ rfl rfl rfl (by repeat (first | exact List.mem_cons_self | apply List.mem_cons_of_mem)))
                  | (go_at_call 5; with_reducible refine (unhide hSp _).mono ?_; rintro e w' ⟨he, hb⟩; subst he; have D := hide ((unhide D).keep hb); clear hb)
                  | (go_at_call 4; with_reducible refine (unhide hBp _).mono ?_; rintro e w' ⟨he, hb⟩; subst he; have D := hide ((unhide D).keep hb); clear hb))
                go_ret
                exact ⟨rfl, (unhide D).o⟩
              · have e1 : (Sp == 0) = false := by simp; omega
                have e2 : (Np == N + Nb) = false := by simp; omega
                have e3 : (Np == N + Nb - 1) = true := by simp; omega
                clear h1 h2
                go_wp2_with (first
                  | (go_at_call 11; refine (unhide hAw _).mono ?_; rintro e w' ⟨he, hb⟩; subst he; have D := hide ((unhide D).keep hb); clear hb)
                  | (with_reducible refine at_list ?_; refine at_load rfl ?_; apply ldE (unhide D) _ rfl rfl rfl (by repeat (first | exact List.mem_cons_self | apply List.mem_cons_of_mem)))
                  | (with_reducible refine at_list ?_; refine at_load rfl ?_; apply ldEw (unhide D) _ rfl rfl rfl (by repeat (first | exact List.mem_cons_self | apply List.mem_cons_of_mem)))
                  | (go_at_call 5; with_reducible refine (unhide hSp _).mono ?_; rintro e w' ⟨he, hb⟩; subst he; have D := hide ((unhide D).keep hb); clear hb)
                  | (go_at_call 4; with_reducible refine (unhide hBp _).mono ?_; rintro e w' ⟨he, hb⟩; subst he; have D := hide ((unhide D).keep hb); clear hb))
                go_ret
                exact ⟨rfl, (unhide D).o⟩


end Go.Proofs.Ytfoojpfgeicolac
