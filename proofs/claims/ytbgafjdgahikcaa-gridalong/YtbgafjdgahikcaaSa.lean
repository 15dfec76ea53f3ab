/- The document's numbers of layer 2, In; of layer 3: integers, exact sums, Add, Sub, Scale, Dot, Cross, Move. -/
import Derived.Test.YtbgafjdgahikcaaFo
import Derived.Test.YtbgafjdgahikcaaVr
namespace Go.Proofs.Ytbgafjdgahikcaa
open Go.RowKit
set_option maxRecDepth 4000
set_option linter.unusedVariables false

/-! In. -/
theorem Plus3_core (a b c : Nat) (E : Bool) (w : World) (h : Hid (Ans 91 #[.agg (cells8 a), .agg (cells8 b)] (.tuple #[.agg (cells8 c), .bool E]))) :
    Calls Try.prog 82 #[.agg (cells8 a), .agg (cells8 b)] w fun e w' => e = .returned (.agg (cells8 c)) ∧ Below w.heap.size w w' := by
  go_enter Try.func82, Try.ntmps82
  go_upto_region 1 with fail
  have D := hide ((((Gen.start w).push 40 (cells8 a)).push 40 (cells8 b)).push 40 z8)
  simp only [szA] at D
  go_wp2_with (first | (with_reducible refine at_list ?_; apply ldG (unhide D) rWide _ rfl rfl rfl (by repeat (first | exact List.mem_cons_self | apply List.mem_cons_of_mem)) rfl) | (go_at_call 91; with_reducible refine (unhide h _).mono ?_; rintro e w' ⟨he, hb⟩; subst he; have D := hide ((unhide D).keep hb); clear hb) | (with_reducible refine at_list ?_; refine stG (unhide D) rWide _ _ rfl rfl rfl rfl rfl rfl (cells8_one _) ?_; intro D'; have D := hide D'; clear D') | (with_reducible refine at_list ?_; apply stGend (unhide D) rWide _ _ rfl rfl rfl rfl (by repeat (first | exact List.mem_cons_self | apply List.mem_cons_of_mem)) (by omega) rfl rfl (cells8_one _); intro B O))
  exact resG rWide (unhide B) rfl rfl rfl rfl ⟨rfl, unhide O⟩
theorem Less3_core (a b c : Nat) (E : Bool) (w : World) (h : Hid (Ans 130 #[.agg (cells8 a), .agg (cells8 b)] (.tuple #[.agg (cells8 c), .bool E]))) :
    Calls Try.prog 85 #[.agg (cells8 a), .agg (cells8 b)] w fun e w' => e = .returned (.agg (cells8 c)) ∧ Below w.heap.size w w' := by
  go_enter Try.func85, Try.ntmps85
  go_upto_region 1 with fail
  have D := hide ((((Gen.start w).push 40 (cells8 a)).push 40 (cells8 b)).push 40 z8)
  simp only [szA] at D
  go_wp2_with (first | (with_reducible refine at_list ?_; apply ldG (unhide D) rWide _ rfl rfl rfl (by repeat (first | exact List.mem_cons_self | apply List.mem_cons_of_mem)) rfl) | (go_at_call 130; with_reducible refine (unhide h _).mono ?_; rintro e w' ⟨he, hb⟩; subst he; have D := hide ((unhide D).keep hb); clear hb) | (with_reducible refine at_list ?_; refine stG (unhide D) rWide _ _ rfl rfl rfl rfl rfl rfl (cells8_one _) ?_; intro D'; have D := hide D'; clear D') | (with_reducible refine at_list ?_; apply stGend (unhide D) rWide _ _ rfl rfl rfl rfl (by repeat (first | exact List.mem_cons_self | apply List.mem_cons_of_mem)) (by omega) rfl rfl (cells8_one _); intro B O))
  exact resG rWide (unhide B) rfl rfl rfl rfl ⟨rfl, unhide O⟩
theorem Times3_core (a b c : Nat) (E : Bool) (w : World) (h : Hid (Ans 89 #[.agg (cells8 a), .agg (cells8 b)] (.tuple #[.agg (cells8 c), .bool E]))) :
    Calls Try.prog 128 #[.agg (cells8 a), .agg (cells8 b)] w fun e w' => e = .returned (.agg (cells8 c)) ∧ Below w.heap.size w w' := by
  go_enter Try.func128, Try.ntmps128
  go_upto_region 1 with fail
  have D := hide ((((Gen.start w).push 40 (cells8 a)).push 40 (cells8 b)).push 40 z8)
  simp only [szA] at D
  go_wp2_with (first | (with_reducible refine at_list ?_; apply ldG (unhide D) rWide _ rfl rfl rfl (by repeat (first | exact List.mem_cons_self | apply List.mem_cons_of_mem)) rfl) | (go_at_call 89; with_reducible refine (unhide h _).mono ?_; rintro e w' ⟨he, hb⟩; subst he; have D := hide ((unhide D).keep hb); clear hb) | (with_reducible refine at_list ?_; refine stG (unhide D) rWide _ _ rfl rfl rfl rfl rfl rfl (cells8_one _) ?_; intro D'; have D := hide D'; clear D') | (with_reducible refine at_list ?_; apply stGend (unhide D) rWide _ _ rfl rfl rfl rfl (by repeat (first | exact List.mem_cons_self | apply List.mem_cons_of_mem)) (by omega) rfl rfl (cells8_one _); intro B O))
  exact resG rWide (unhide B) rfl rfl rfl rfl ⟨rfl, unhide O⟩
theorem Twice3_core (a c : Nat) (n : Int) (E : Bool) (w : World) (h : Hid (Ans 164 #[.agg (cells8 a), .int .i64 n] (.tuple #[.agg (cells8 c), .bool E]))) :
    Calls Try.prog 125 #[.agg (cells8 a), .int .i64 n] w fun e w' => e = .returned (.agg (cells8 c)) ∧ Below w.heap.size w w' := by
  go_enter Try.func125, Try.ntmps125
  go_upto_region 1 with fail
  have D := hide (((Gen.start w).push 40 (cells8 a)).push 40 z8)
  simp only [szA] at D
  go_wp2_with (first | (with_reducible refine at_list ?_; apply ldG (unhide D) rWide _ rfl rfl rfl (by repeat (first | exact List.mem_cons_self | apply List.mem_cons_of_mem)) rfl) | (go_at_call 164; with_reducible refine (unhide h _).mono ?_; rintro e w' ⟨he, hb⟩; subst he; have D := hide ((unhide D).keep hb); clear hb) | (with_reducible refine at_list ?_; refine stG (unhide D) rWide _ _ rfl rfl rfl rfl rfl rfl (cells8_one _) ?_; intro D'; have D := hide D'; clear D') | (with_reducible refine at_list ?_; apply stGend (unhide D) rWide _ _ rfl rfl rfl rfl (by repeat (first | exact List.mem_cons_self | apply List.mem_cons_of_mem)) (by omega) rfl rfl (cells8_one _); intro B O))
  exact resG rWide (unhide B) rfl rfl rfl rfl ⟨rfl, unhide O⟩
theorem Plus3 {k : Nat} {x y : Int} (hx : Sz k x) (hy : Sz k y) (hk : k ≤ 500) : Ans 82 #[V x, V y] (V (x + y)) := fun w => Plus3_core _ _ _ true w (add_refS x y hx hy (by omega) (by omega))
theorem Less3 {k : Nat} {x y : Int} (hx : Sz k x) (hy : Sz k y) (hk : k ≤ 500) : Ans 85 #[V x, V y] (V (x - y)) := fun w => Less3_core _ _ _ true w (sub_refS x y hx hy (by omega) (by omega))
theorem Times3 {j k : Nat} {x y : Int} (hx : Sz j x) (hy : Sz k y) (hk : j + k ≤ 500) : Ans 128 #[V x, V y] (V (x * y)) := fun w => Times3_core _ _ _ true w (mul_refS x y hx hy (by omega))
theorem Twice3 {x : Int} (n : Int) (hx : Fit x) (h0 : 0 ≤ n) (hf : Fit (x * ((2 ^ n.toNat : Nat) : Int))) : Ans 125 #[V x, .int .i64 n] (V (x * ((2 ^ n.toNat : Nat) : Int))) := fun w => Twice3_core _ _ n true w (fun u => by
  have t := refShl x n hx u
  rw [fit_true hf, decide_eq_false (show ¬ n < 0 by omega)] at t
  exact t)
theorem i64_64 : I64 64 := ⟨by decide, by decide⟩
end Go.Proofs.Ytbgafjdgahikcaa
