/- The law WideSums, over whatever sums and differences: it returns true where both packages answer the same. -/
import Derived.Test.YtfoojpfgeicolaaZn
import Derived.Deep.DeepCutAuto
namespace Go.Proofs.Ytfoojpfgeicolaa
open Go.RowKit

set_option maxRecDepth 100000 in
set_option maxHeartbeats 4000000 in
theorem sums_law (add sub : Nat → Nat → Nat) (addb subb : Nat → Nat → Bool) (ng : Nat → Nat) (ngb : Nat → Bool) (a b : Nat) (w : World)
    (hAdd : Hid (∀ x y u, Calls Try.prog 19 #[W x, W y] u fun e w' => e = .returned (.tuple #[.agg (cells8 (add x y)), .bool (addb x y)]) ∧ Below u.heap.size u w'))
    (hSub : Hid (∀ x y u, Calls Try.prog 20 #[W x, W y] u fun e w' => e = .returned (.tuple #[.agg (cells8 (sub x y)), .bool (subb x y)]) ∧ Below u.heap.size u w'))
    (hNeg : Hid (∀ x u, Calls Try.prog 21 #[W x] u fun e w' => e = .returned (.tuple #[.agg (cells8 (ng x)), .bool (ngb x)]) ∧ Below u.heap.size u w'))
    (hRAdd : Hid (∀ x y u, Calls Try.prog 22 #[W x, W y] u fun e w' => e = .returned (.tuple #[.agg (cells8 (add x y)), .bool (addb x y)]) ∧ Below u.heap.size u w'))
    (hRSub : Hid (∀ x y u, Calls Try.prog 23 #[W x, W y] u fun e w' => e = .returned (.tuple #[.agg (cells8 (sub x y)), .bool (subb x y)]) ∧ Below u.heap.size u w'))
    (hAw : Hid (∀ u, Calls Try.prog 18 #[] u fun e w' => e = .returned (.bool true) ∧ Below u.heap.size u w'))
    (h1 : Hid (ng a = sub 0 a ∧ ngb a = subb 0 a)) (hs : Hid (∀ n, same n n = true)) :
    Calls Try.prog 4 #[W a, W b] w fun e w' => e = .returned (.bool true) ∧ Below w.heap.size w w' := by
  go_enter Try.func4, Try.ntmps4
  go_upto_region 1 with fail
  have D := hide (Env.two w a b)
  go_upto_region 7 with (first
    | (with_reducible refine at_list ?_; apply ldE (unhide D) _ rfl rfl rfl (by repeat (first | exact List.mem_cons_self | apply List.mem_cons_of_mem)))
    | (with_reducible refine at_list ?_; refine stE (unhide D) _ _ rfl rfl rfl rfl rfl ?_; intro D'; have D := hide D'; clear D')
    | (with_reducible refine at_list ?_; refine bd0 25 rfl rfl bWide0 ?_)
    | (go_at_call 19; refine (unhide hAdd _ _ _).mono ?_; rintro e w' ⟨he, hb⟩; subst he; have D := hide ((unhide D).keep hb); clear hb)
    | (go_at_call 20; refine (unhide hSub _ _ _).mono ?_; rintro e w' ⟨he, hb⟩; subst he; have D := hide ((unhide D).keep hb); clear hb)
    | (go_at_call 21; refine (unhide hNeg _ _).mono ?_; rintro e w' ⟨he, hb⟩; subst he; have D := hide ((unhide D).keep hb); clear hb)
    | (go_at_call 22; refine (unhide hRAdd _ _ _).mono ?_; rintro e w' ⟨he, hb⟩; subst he; have D := hide ((unhide D).keep hb); clear hb)
    | (go_at_call 23; refine (unhide hRSub _ _ _).mono ?_; rintro e w' ⟨he, hb⟩; subst he; have D := hide ((unhide D).keep hb); clear hb))
  rw [(unhide h1).1] at D
  have h2 := (unhide h1).2
  generalize ngb a = G at h2 ⊢
  subst h2
  generalize addb a b = E
  generalize subb a b = F
  generalize subb 0 a = G
  go_wp2_with (first
    | (with_reducible refine at_list ?_; apply ldE (unhide D) _ rfl rfl rfl (by repeat (first | exact List.mem_cons_self | apply List.mem_cons_of_mem)))
    | (with_reducible refine at_list ?_; apply ldEw (unhide D) _ rfl rfl rfl (by repeat (first | exact List.mem_cons_self | apply List.mem_cons_of_mem)))
    | (with_reducible refine at_list ?_; refine eqlE (unhide hs _) _ _ rfl rfl rfl rfl ?_)
    | (with_reducible refine at_list ?_; refine eqlEw (unhide hs _) _ _ rfl rfl rfl rfl ?_)
    | (go_at_call 18; refine (unhide hAw _).mono ?_; rintro e w' ⟨he, hb⟩; subst he; have D := hide ((unhide D).keep hb); clear hb))
  go_ret
  exact ⟨rfl, (unhide D).o⟩

end Go.Proofs.Ytfoojpfgeicolaa
