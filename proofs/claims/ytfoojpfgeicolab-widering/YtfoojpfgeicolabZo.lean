/- The law WideRing, over whatever sums and products: it returns true where they keep the ring's laws. -/
import Derived.Test.YtfoojpfgeicolabZn
import Derived.Deep.DeepCutAuto
namespace Go.Proofs.Ytfoojpfgeicolab
open Go.RowKit

set_option maxRecDepth 100000 in
set_option maxHeartbeats 4000000 in
theorem ring_core (add mul : Nat → Nat → Nat) (addb mulb : Nat → Nat → Bool) (a b c : Nat) (w : World)
    (hAdd : Hid (∀ x y u, Calls Try.prog 9 #[W x, W y] u fun e w' => e = .returned (.tuple #[.agg (cells8 (add x y)), .bool (addb x y)]) ∧ Below u.heap.size u w'))
    (hMul : Hid (∀ x y u, Calls Try.prog 10 #[W x, W y] u fun e w' => e = .returned (.tuple #[.agg (cells8 (mul x y)), .bool (mulb x y)]) ∧ Below u.heap.size u w'))
    (hAw : Hid (∀ u, Calls Try.prog 11 #[] u fun e w' => e = .returned (.bool true) ∧ Below u.heap.size u w'))
    (h1 : Hid (same (add a b) (add b a) = true)) (h2 : Hid (addb b a = addb a b))
    (h3 : Hid (addb a b = true → addb b c = true → addb (add a b) c = addb a (add b c) ∧ (addb a (add b c) = true → same (add (add a b) c) (add a (add b c)) = true)))
    (h4 : Hid (same (mul a b) (mul b a) = true)) (h5 : Hid (mulb b a = mulb a b))
    (h6 : Hid (addb b c = true → mulb a b = true → mulb a c = true → mulb a (add b c) = addb (mul a b) (mul a c) ∧ same (mul a (add b c)) (add (mul a b) (mul a c)) = true))
    (h7 : Hid (mulb a b = true → mulb b c = true → mulb (mul a b) c = mulb a (mul b c) ∧ same (mul (mul a b) c) (mul a (mul b c)) = true)) :
    Calls Try.prog 3 #[W a, W b, W c] w fun e w' => e = .returned (.bool true) ∧ Below w.heap.size w w' := by
  go_enter Try.func3, Try.ntmps3
  go_upto_region 1 with fail
  have D := hide (Env.three w a b c)
  go_upto_region 6 with (first
    | (with_reducible refine at_list ?_; apply ldE (unhide D) _ rfl rfl rfl (by repeat (first | exact List.mem_cons_self | apply List.mem_cons_of_mem)))
    | (with_reducible refine at_list ?_; refine stE (unhide D) _ _ rfl rfl rfl rfl rfl ?_; intro D'; have D := hide D'; clear D')
    | (go_at_call 9; refine (unhide hAdd _ _ _).mono ?_; rintro e w' ⟨he, hb⟩; subst he; have D := hide ((unhide D).keep hb); clear hb)
    | (go_at_call 10; refine (unhide hMul _ _ _).mono ?_; rintro e w' ⟨he, hb⟩; subst he; have D := hide ((unhide D).keep hb); clear hb))
  simp only [unhide h2]
  generalize addb a b = E at h3 ⊢
  generalize addb b c = G at h3 h6 ⊢
  generalize addb (add a b) c = X at h3 ⊢
  generalize addb a (add b c) = I at h3 ⊢
  go_cut [87] (fun s87 wx => s87 = .bool false ∧ w'.alloc (.cells (cells8 (add a (add b c))) 25) = wx)
  case first =>
    cases E
    · go_wp2_with (first
        | (with_reducible refine at_list ?_; apply ldE (unhide D) _ rfl rfl rfl (by repeat (first | exact List.mem_cons_self | apply List.mem_cons_of_mem)))
        | (with_reducible refine at_list ?_; apply ldEw (unhide D) _ rfl rfl rfl (by repeat (first | exact List.mem_cons_self | apply List.mem_cons_of_mem)))
        | (with_reducible refine at_list ?_; refine neqE (unhide h1) _ _ rfl rfl rfl rfl ?_))
      go_meet
      case rel => exact ⟨rfl, rfl⟩
    · cases G
      · go_wp2_with (first
          | (with_reducible refine at_list ?_; apply ldE (unhide D) _ rfl rfl rfl (by repeat (first | exact List.mem_cons_self | apply List.mem_cons_of_mem)))
          | (with_reducible refine at_list ?_; apply ldEw (unhide D) _ rfl rfl rfl (by repeat (first | exact List.mem_cons_self | apply List.mem_cons_of_mem)))
          | (with_reducible refine at_list ?_; refine neqE (unhide h1) _ _ rfl rfl rfl rfl ?_))
        go_meet
        case rel => exact ⟨rfl, rfl⟩
      · obtain ⟨h31, h32⟩ := unhide h3 rfl rfl
        subst h31
        cases X
        · go_wp2_with (first
            | (with_reducible refine at_list ?_; apply ldE (unhide D) _ rfl rfl rfl (by repeat (first | exact List.mem_cons_self | apply List.mem_cons_of_mem)))
            | (with_reducible refine at_list ?_; apply ldEw (unhide D) _ rfl rfl rfl (by repeat (first | exact List.mem_cons_self | apply List.mem_cons_of_mem)))
            | (with_reducible refine at_list ?_; refine neqE (unhide h1) _ _ rfl rfl rfl rfl ?_))
          go_meet
          case rel => exact ⟨rfl, rfl⟩
        · have h33 := hide (h32 rfl)
          clear h32
          go_wp2_with (first
            | (with_reducible refine at_list ?_; apply ldE (unhide D) _ rfl rfl rfl (by repeat (first | exact List.mem_cons_self | apply List.mem_cons_of_mem)))
            | (with_reducible refine at_list ?_; apply ldEw (unhide D) _ rfl rfl rfl (by repeat (first | exact List.mem_cons_self | apply List.mem_cons_of_mem)))
            | (with_reducible refine at_list ?_; refine neqE (unhide h1) _ _ rfl rfl rfl rfl ?_)
            | (with_reducible refine at_list ?_; refine neqEw (unhide h33) _ _ rfl rfl rfl rfl ?_))
          go_meet
          case rel => exact ⟨rfl, rfl⟩
  case rest =>
    obtain ⟨hs, hw⟩ := hcut
    subst hs
    subst hw
    go_upto_region 8 with fail
    go_cut [96] (fun s96 wx => s96 = .bool false ∧ w'.alloc (.cells (cells8 (add a (add b c))) 25) = wx)
    case first =>
      cases E
      · go_wp2_with (first
          | (with_reducible refine at_list ?_; apply ldE (unhide D) _ rfl rfl rfl (by repeat (first | exact List.mem_cons_self | apply List.mem_cons_of_mem)))
          | (with_reducible refine at_list ?_; apply ldEw (unhide D) _ rfl rfl rfl (by repeat (first | exact List.mem_cons_self | apply List.mem_cons_of_mem))))
        go_meet
        case rel => exact ⟨rfl, rfl⟩
      · cases G
        · go_wp2_with (first
            | (with_reducible refine at_list ?_; apply ldE (unhide D) _ rfl rfl rfl (by repeat (first | exact List.mem_cons_self | apply List.mem_cons_of_mem)))
            | (with_reducible refine at_list ?_; apply ldEw (unhide D) _ rfl rfl rfl (by repeat (first | exact List.mem_cons_self | apply List.mem_cons_of_mem))))
          go_meet
          case rel => exact ⟨rfl, rfl⟩
        · obtain ⟨h31, h32⟩ := unhide h3 rfl rfl
          subst h31
          clear h32
          cases X
          · go_wp2_with (first
              | (with_reducible refine at_list ?_; apply ldE (unhide D) _ rfl rfl rfl (by repeat (first | exact List.mem_cons_self | apply List.mem_cons_of_mem)))
              | (with_reducible refine at_list ?_; apply ldEw (unhide D) _ rfl rfl rfl (by repeat (first | exact List.mem_cons_self | apply List.mem_cons_of_mem))))
            go_meet
            case rel => exact ⟨rfl, rfl⟩
          · go_wp2_with (first
              | (with_reducible refine at_list ?_; apply ldE (unhide D) _ rfl rfl rfl (by repeat (first | exact List.mem_cons_self | apply List.mem_cons_of_mem)))
              | (with_reducible refine at_list ?_; apply ldEw (unhide D) _ rfl rfl rfl (by repeat (first | exact List.mem_cons_self | apply List.mem_cons_of_mem))))
            go_meet
            case rel => exact ⟨rfl, rfl⟩
    case rest =>
      obtain ⟨hs, hw⟩ := hcut
      subst hs
      subst hw
      clear h3 h1 h2
      go_upto_region 15 with (first
        | (with_reducible refine at_list ?_; apply ldE (unhide D) _ rfl rfl rfl (by repeat (first | exact List.mem_cons_self | apply List.mem_cons_of_mem)))
        | (with_reducible refine at_list ?_; refine stE (unhide D) _ _ rfl rfl rfl rfl rfl ?_; intro D'; have D := hide D'; clear D')
        | (go_at_call 9; refine (unhide hAdd _ _ _).mono ?_; rintro e w' ⟨he, hb⟩; subst he; have D := hide ((unhide D).keep hb); clear hb)
        | (go_at_call 10; refine (unhide hMul _ _ _).mono ?_; rintro e w' ⟨he, hb⟩; subst he; have D := hide ((unhide D).keep hb); clear hb))
      simp only [unhide h5]
      generalize mulb a b = J at h6 h7 ⊢
      generalize mulb a c = L at h6 ⊢
      generalize mulb a (add b c) = N at h6 ⊢
      generalize addb (mul a b) (mul a c) = O at h6 ⊢
      go_cut [153] (fun s153 wx => s153 = .bool false ∧ w'.alloc (.cells (cells8 (add (mul a b) (mul a c))) 25) = wx)
      case first =>
        cases G
        · go_wp2_with (first
            | (with_reducible refine at_list ?_; apply ldE (unhide D) _ rfl rfl rfl (by repeat (first | exact List.mem_cons_self | apply List.mem_cons_of_mem)))
            | (with_reducible refine at_list ?_; apply ldEw (unhide D) _ rfl rfl rfl (by repeat (first | exact List.mem_cons_self | apply List.mem_cons_of_mem)))
            | (with_reducible refine at_list ?_; refine neqE (unhide h4) _ _ rfl rfl rfl rfl ?_))
          go_meet
          case rel => exact ⟨rfl, rfl⟩
        · cases J
          · go_wp2_with (first
              | (with_reducible refine at_list ?_; apply ldE (unhide D) _ rfl rfl rfl (by repeat (first | exact List.mem_cons_self | apply List.mem_cons_of_mem)))
              | (with_reducible refine at_list ?_; apply ldEw (unhide D) _ rfl rfl rfl (by repeat (first | exact List.mem_cons_self | apply List.mem_cons_of_mem)))
              | (with_reducible refine at_list ?_; refine neqE (unhide h4) _ _ rfl rfl rfl rfl ?_))
            go_meet
            case rel => exact ⟨rfl, rfl⟩
          · cases L
            · go_wp2_with (first
                | (with_reducible refine at_list ?_; apply ldE (unhide D) _ rfl rfl rfl (by repeat (first | exact List.mem_cons_self | apply List.mem_cons_of_mem)))
                | (with_reducible refine at_list ?_; apply ldEw (unhide D) _ rfl rfl rfl (by repeat (first | exact List.mem_cons_self | apply List.mem_cons_of_mem)))
                | (with_reducible refine at_list ?_; refine neqE (unhide h4) _ _ rfl rfl rfl rfl ?_))
              go_meet
              case rel => exact ⟨rfl, rfl⟩
            · obtain ⟨h61, h62⟩ := unhide h6 rfl rfl rfl
              subst h61
              have h63 := hide h62
              clear h62
              cases N
              · go_wp2_with (first
                  | (with_reducible refine at_list ?_; apply ldE (unhide D) _ rfl rfl rfl (by repeat (first | exact List.mem_cons_self | apply List.mem_cons_of_mem)))
                  | (with_reducible refine at_list ?_; apply ldEw (unhide D) _ rfl rfl rfl (by repeat (first | exact List.mem_cons_self | apply List.mem_cons_of_mem)))
                  | (with_reducible refine at_list ?_; refine neqE (unhide h4) _ _ rfl rfl rfl rfl ?_)
                  | (with_reducible refine at_list ?_; refine neqEw (unhide h63) _ _ rfl rfl rfl rfl ?_))
                go_meet
                case rel => exact ⟨rfl, rfl⟩
              · go_wp2_with (first
                  | (with_reducible refine at_list ?_; apply ldE (unhide D) _ rfl rfl rfl (by repeat (first | exact List.mem_cons_self | apply List.mem_cons_of_mem)))
                  | (with_reducible refine at_list ?_; apply ldEw (unhide D) _ rfl rfl rfl (by repeat (first | exact List.mem_cons_self | apply List.mem_cons_of_mem)))
                  | (with_reducible refine at_list ?_; refine neqE (unhide h4) _ _ rfl rfl rfl rfl ?_)
                  | (with_reducible refine at_list ?_; refine neqEw (unhide h63) _ _ rfl rfl rfl rfl ?_))
                go_meet
                case rel => exact ⟨rfl, rfl⟩
      case rest =>
        obtain ⟨hs, hw⟩ := hcut
        subst hs
        subst hw
        clear h4 h5 h6
        go_upto_region 20 with (first
          | (with_reducible refine at_list ?_; apply ldE (unhide D) _ rfl rfl rfl (by repeat (first | exact List.mem_cons_self | apply List.mem_cons_of_mem)))
          | (with_reducible refine at_list ?_; refine stE (unhide D) _ _ rfl rfl rfl rfl rfl ?_; intro D'; have D := hide D'; clear D')
          | (go_at_call 9; refine (unhide hAdd _ _ _).mono ?_; rintro e w' ⟨he, hb⟩; subst he; have D := hide ((unhide D).keep hb); clear hb)
          | (go_at_call 10; refine (unhide hMul _ _ _).mono ?_; rintro e w' ⟨he, hb⟩; subst he; have D := hide ((unhide D).keep hb); clear hb))
        generalize mulb b c = Y at h7 ⊢
        generalize mulb (mul a b) c = A at h7 ⊢
        generalize mulb a (mul b c) = B at h7 ⊢
        cases J
        · go_wp2_with (first
            | (go_at_call 11; refine (unhide hAw _).mono ?_; rintro e w' ⟨he, hb⟩; subst he; have D := hide ((unhide D).keep hb); clear hb)
            | (with_reducible refine at_list ?_; apply ldE (unhide D) _ rfl rfl rfl (by repeat (first | exact List.mem_cons_self | apply List.mem_cons_of_mem)))
            | (with_reducible refine at_list ?_; apply ldEw (unhide D) _ rfl rfl rfl (by repeat (first | exact List.mem_cons_self | apply List.mem_cons_of_mem))))
          go_ret
          exact ⟨rfl, (unhide D).o⟩
        · cases Y
          · go_wp2_with (first
              | (go_at_call 11; refine (unhide hAw _).mono ?_; rintro e w' ⟨he, hb⟩; subst he; have D := hide ((unhide D).keep hb); clear hb)
              | (with_reducible refine at_list ?_; apply ldE (unhide D) _ rfl rfl rfl (by repeat (first | exact List.mem_cons_self | apply List.mem_cons_of_mem)))
              | (with_reducible refine at_list ?_; apply ldEw (unhide D) _ rfl rfl rfl (by repeat (first | exact List.mem_cons_self | apply List.mem_cons_of_mem))))
            go_ret
            exact ⟨rfl, (unhide D).o⟩
          · obtain ⟨h71, h72⟩ := unhide h7 rfl rfl
            subst h71
            have h73 := hide h72
            clear h72
            cases A
            · go_wp2_with (first
                | (go_at_call 11; refine (unhide hAw _).mono ?_; rintro e w' ⟨he, hb⟩; subst he; have D := hide ((unhide D).keep hb); clear hb)
                | (with_reducible refine at_list ?_; apply ldE (unhide D) _ rfl rfl rfl (by repeat (first | exact List.mem_cons_self | apply List.mem_cons_of_mem)))
                | (with_reducible refine at_list ?_; apply ldEw (unhide D) _ rfl rfl rfl (by repeat (first | exact List.mem_cons_self | apply List.mem_cons_of_mem)))
                | (with_reducible refine at_list ?_; refine eqlEw (unhide h73) _ _ rfl rfl rfl rfl ?_))
              go_ret
              exact ⟨rfl, (unhide D).o⟩
            · go_wp2_with (first
                | (go_at_call 11; refine (unhide hAw _).mono ?_; rintro e w' ⟨he, hb⟩; subst he; have D := hide ((unhide D).keep hb); clear hb)
                | (with_reducible refine at_list ?_; apply ldE (unhide D) _ rfl rfl rfl (by repeat (first | exact List.mem_cons_self | apply List.mem_cons_of_mem)))
                | (with_reducible refine at_list ?_; apply ldEw (unhide D) _ rfl rfl rfl (by repeat (first | exact List.mem_cons_self | apply List.mem_cons_of_mem)))
                | (with_reducible refine at_list ?_; refine eqlEw (unhide h73) _ _ rfl rfl rfl rfl ?_))
              go_ret
              exact ⟨rfl, (unhide D).o⟩

end Go.Proofs.Ytfoojpfgeicolab
