/- The laws WideMul and WideSqrt, over whatever answers: they return true where both packages answer the same. -/
import Derived.Test.YtfoojpfgeicolaaZn
import Derived.Deep.DeepCutAuto
namespace Go.Proofs.Ytfoojpfgeicolaa
open Go.RowKit

set_option maxRecDepth 100000 in
set_option maxHeartbeats 4000000 in
theorem mul_law (a b r : Nat) (E : Bool) (w : World)
    (hF : Hid (∀ u, Calls Try.prog 24 #[W a, W b] u fun e w' => e = .returned (.tuple #[.agg (cells8 r), .bool E]) ∧ Below u.heap.size u w'))
    (hR : Hid (∀ u, Calls Try.prog 25 #[W a, W b] u fun e w' => e = .returned (.tuple #[.agg (cells8 r), .bool E]) ∧ Below u.heap.size u w'))
    (hAw : Hid (∀ u, Calls Try.prog 18 #[] u fun e w' => e = .returned (.bool true) ∧ Below u.heap.size u w'))
    (hs : Hid (∀ n, same n n = true)) :
    Calls Try.prog 5 #[W a, W b] w fun e w' => e = .returned (.bool true) ∧ Below w.heap.size w w' := by
  go_enter Try.func5, Try.ntmps5
  go_upto_region 1 with fail
  have D := hide (Env.two w a b)
  go_upto_region 3 with (first
    | (with_reducible refine at_list ?_; apply ldE (unhide D) _ rfl rfl rfl (by repeat (first | exact List.mem_cons_self | apply List.mem_cons_of_mem)))
    | (with_reducible refine at_list ?_; refine stE (unhide D) _ _ rfl rfl rfl rfl rfl ?_; intro D'; have D := hide D'; clear D')
    | (go_at_call 24; refine (unhide hF _).mono ?_; rintro e w' ⟨he, hb⟩; subst he; have D := hide ((unhide D).keep hb); clear hb)
    | (go_at_call 25; refine (unhide hR _).mono ?_; rintro e w' ⟨he, hb⟩; subst he; have D := hide ((unhide D).keep hb); clear hb))
  go_wp2_with (first
    | (with_reducible refine at_list ?_; apply ldE (unhide D) _ rfl rfl rfl (by repeat (first | exact List.mem_cons_self | apply List.mem_cons_of_mem)))
    | (with_reducible refine at_list ?_; apply ldEw (unhide D) _ rfl rfl rfl (by repeat (first | exact List.mem_cons_self | apply List.mem_cons_of_mem)))
    | (with_reducible refine at_list ?_; refine eqlE (unhide hs _) _ _ rfl rfl rfl rfl ?_)
    | (with_reducible refine at_list ?_; refine eqlEw (unhide hs _) _ _ rfl rfl rfl rfl ?_)
    | (go_at_call 18; refine (unhide hAw _).mono ?_; rintro e w' ⟨he, hb⟩; subst he; have D := hide ((unhide D).keep hb); clear hb))
  go_ret
  exact ⟨rfl, (unhide D).o⟩

set_option maxRecDepth 100000 in
set_option maxHeartbeats 4000000 in
theorem sqrt_law (a r : Nat) (E : Bool) (w : World)
    (hF : Hid (∀ u, Calls Try.prog 32 #[W a] u fun e w' => e = .returned (.tuple #[.agg (cells8 r), .bool E]) ∧ Below u.heap.size u w'))
    (hR : Hid (∀ u, Calls Try.prog 33 #[W a] u fun e w' => e = .returned (.tuple #[.agg (cells8 r), .bool E]) ∧ Below u.heap.size u w'))
    (hAw : Hid (∀ u, Calls Try.prog 18 #[] u fun e w' => e = .returned (.bool true) ∧ Below u.heap.size u w'))
    (hs : Hid (∀ n, same n n = true)) :
    Calls Try.prog 8 #[W a] w fun e w' => e = .returned (.bool true) ∧ Below w.heap.size w w' := by
  go_enter Try.func8, Try.ntmps8
  go_upto_region 1 with fail
  have D := hide (Env.one w a)
  go_upto_region 3 with (first
    | (with_reducible refine at_list ?_; apply ldE (unhide D) _ rfl rfl rfl (by repeat (first | exact List.mem_cons_self | apply List.mem_cons_of_mem)))
    | (with_reducible refine at_list ?_; refine stE (unhide D) _ _ rfl rfl rfl rfl rfl ?_; intro D'; have D := hide D'; clear D')
    | (go_at_call 32; refine (unhide hF _).mono ?_; rintro e w' ⟨he, hb⟩; subst he; have D := hide ((unhide D).keep hb); clear hb)
    | (go_at_call 33; refine (unhide hR _).mono ?_; rintro e w' ⟨he, hb⟩; subst he; have D := hide ((unhide D).keep hb); clear hb))
  go_wp2_with (first
    | (with_reducible refine at_list ?_; apply ldE (unhide D) _ rfl rfl rfl (by repeat (first | exact List.mem_cons_self | apply List.mem_cons_of_mem)))
    | (with_reducible refine at_list ?_; apply ldEw (unhide D) _ rfl rfl rfl (by repeat (first | exact List.mem_cons_self | apply List.mem_cons_of_mem)))
    | (with_reducible refine at_list ?_; refine eqlE (unhide hs _) _ _ rfl rfl rfl rfl ?_)
    | (with_reducible refine at_list ?_; refine eqlEw (unhide hs _) _ _ rfl rfl rfl rfl ?_)
    | (go_at_call 18; refine (unhide hAw _).mono ?_; rintro e w' ⟨he, hb⟩; subst he; have D := hide ((unhide D).keep hb); clear hb))
  go_ret
  exact ⟨rfl, (unhide D).o⟩

end Go.Proofs.Ytfoojpfgeicolaa
