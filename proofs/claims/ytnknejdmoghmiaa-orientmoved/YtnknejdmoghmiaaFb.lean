/- Package fix over integers: In, Of, Add, Sub, Floor, Clamp. -/
import Derived.Test.YtnknejdmoghmiaaFa
namespace Go.Proofs.Ytnknejdmoghmiaa
open Go.RowKit
set_option maxRecDepth 4000
set_option linter.unusedVariables false

/-- A wide number by a power of two, brought in. -/
def inI (x s : Int) : Int := if 32 ≤ s then cl (x / ((2 ^ (s - 32).toNat : Nat) : Int)) else cl (x * ((2 ^ (32 - (if s < 0 then 0 else s)).toNat : Nat) : Int))

theorem in_high (a b : Nat) (s t v : Int) (w : World) (hs : 32 ≤ s) (ht : wrap64 (s - 32) = t)
    (hR : Hid (Ans 121 #[.agg (cells8 a), .int .i64 t] (.agg (cells8 b))))
    (hW : Hid (Ans 120 #[.agg (cells8 b)] (.int .i64 v))) :
    Calls Try.prog 73 #[W a, .int .i64 s] w fun e w' => e = .returned (.int .i64 v) ∧ Below w.heap.size w w' := by
  unfold W
  go_enter Try.func73, Try.ntmps73
  go_upto_region 1 with fail
  have D := hide (Env.one w a)
  go_wp2_with (first | (with_reducible refine at_list ?_; apply ldE (unhide D) _ rfl rfl rfl (by repeat (first | exact List.mem_cons_self | apply List.mem_cons_of_mem))) | (go_at_call 121; with_reducible refine (unhide hR _).mono ?_; rintro e w' ⟨he, hb⟩; subst he; have D := hide ((unhide D).keep hb); clear hb) | (go_at_call 120; with_reducible refine (unhide hW _).mono ?_; rintro e w' ⟨he, hb⟩; subst he; have D := hide ((unhide D).keep hb); clear hb))
  go_ret
  exact ⟨rfl, (unhide D).o⟩

set_option maxHeartbeats 2000000 in
theorem in_low (a b : Nat) (s m sg v : Int) (E c : Bool) (w : World) (hs : ¬ 32 ≤ s) (hm : (if s < 0 then 0 else s) = m) (hm1 : 0 ≤ m) (hm2 : m < 32) (hc : Hid (decide (sg < 0) = c))
    (hR : Hid (Ans 122 #[.agg (cells8 a), .int .i64 (32 - m)] (.tuple #[.agg (cells8 b), .bool E])))
    (hS : Hid (Ans 46 #[.agg (cells8 a)] (.int .i64 sg)))
    (hL : Hid (Ans 123 #[.bool c] (.int .i64 (lim c))))
    (hW : Hid (Ans 120 #[.agg (cells8 b)] (.int .i64 v))) :
    Calls Try.prog 73 #[W a, .int .i64 s] w fun e w' => e = .returned (.int .i64 (bif E then v else lim c)) ∧ Below w.heap.size w w' := by
  unfold W
  go_enter Try.func73, Try.ntmps73
  go_upto_region 1 with fail
  have D := hide (Env.one w a)
  cases E
  · go_wp2_with (first | (with_reducible refine at_list ?_; apply ldE (unhide D) _ rfl rfl rfl (by repeat (first | exact List.mem_cons_self | apply List.mem_cons_of_mem))) | (with_reducible refine at_list ?_; refine stE (unhide D) _ _ rfl rfl rfl rfl rfl ?_; intro D'; have D := hide D'; clear D') | (go_at_call 122; with_reducible refine (unhide hR _).mono ?_; rintro e w' ⟨he, hb⟩; subst he; have D := hide ((unhide D).keep hb); clear hb) | (go_at_call 46; with_reducible refine (unhide hS _).mono ?_; rintro e w' ⟨he, hb⟩; subst he; have D := hide ((unhide D).keep hb); clear hb) | (go_at_call 123; rw [unhide hc]; refine (unhide hL _).mono ?_; rintro e w' ⟨he, hb⟩; subst he; have D := hide ((unhide D).keep hb); clear hb))
    go_ret
    exact ⟨rfl, (unhide D).o⟩
  · go_wp2_with (first | (with_reducible refine at_list ?_; apply ldE (unhide D) _ rfl rfl rfl (by repeat (first | exact List.mem_cons_self | apply List.mem_cons_of_mem))) | (with_reducible refine at_list ?_; refine stE (unhide D) _ _ rfl rfl rfl rfl rfl ?_; intro D'; have D := hide D'; clear D') | (go_at_call 122; with_reducible refine (unhide hR _).mono ?_; rintro e w' ⟨he, hb⟩; subst he; have D := hide ((unhide D).keep hb); clear hb) | (go_at_call 120; with_reducible refine (unhide hW _).mono ?_; rintro e w' ⟨he, hb⟩; subst he; have D := hide ((unhide D).keep hb); clear hb))
    go_ret
    exact ⟨rfl, (unhide D).o⟩

theorem fit_not {z : Int} (h : fit z = false) : ¬ Fit z := fun hc => by rw [fit_true hc] at h; cases h
theorem mul_neg_iff {x : Int} {d : Nat} (hd : 0 < d) : decide (x * (d : Int) < 0) = decide (x < 0) := by
  by_cases h : x < 0
  · rw [decide_eq_true h]
    exact decide_eq_true (Int.mul_neg_of_neg_of_pos h (by omega))
  · rw [decide_eq_false h]
    exact decide_eq_false (by have := Int.mul_nonneg (Int.not_lt.1 h) (Int.natCast_nonneg d); omega)

theorem InZ (x s : Int) (hx : Fit x) (hs : I64 s) : Ans 73 #[V x, .int .i64 s] (.int .i64 (inI x s)) := by
  intro w
  obtain ⟨s1, s2⟩ := hs
  by_cases h : 32 ≤ s
  · have ht : wrap64 (s - 32) = s - 32 := wrap_self ⟨by omega, by omega⟩
    have e : inI x s = cl (x / ((2 ^ (s - 32).toNat : Nat) : Int)) := if_pos h
    rw [e]
    exact in_high (enc x) _ s _ _ w h ht (fun u => ShrZ x (s - 32) hx (by omega) u) (withinZ _ (fit_div hx _ (two_pow_pos _)))
  · have e : inI x s = cl (x * ((2 ^ (32 - (if s < 0 then 0 else s)).toNat : Nat) : Int)) := if_neg h
    rw [e]
    generalize hm : (if s < 0 then 0 else s) = m
    have hm1 : 0 ≤ m ∧ m < 32 := by
      rw [← hm]
      split <;> omega
    have hR := fun u => ShlZ x (32 - m) hx (by omega) (by omega) u
    have e1 : decide (32 - m < 0) = false := decide_eq_false (by omega)
    rw [e1, Bool.false_or] at hR
    have hd : 0 < 2 ^ (32 - m).toNat := Nat.pow_pos (by decide)
    generalize hp : 2 ^ (32 - m).toNat = p at *
    generalize hz : x * (p : Int) = z at *
    have hn := mul_neg_iff (x := x) hd
    rw [hz] at hn
    cases hf : fit z with
    | false =>
      rw [hf] at hR
      have hno := fit_not hf
      have hI : ¬ I64 z := fun hc => hno hc.fit
      have k := in_low (enc x) 0 s m (sgn x) (cl 0) false (decide (x < 0)) w h hm hm1.1 hm1.2 (sgn_neg x) (fun u => hR u) (fun u => SignZ x hx u) (limitZ _) (withinZ 0 fit_zero)
      rw [cl_out hI, hn]
      exact k
    | true =>
      rw [hf] at hR
      exact in_low (enc x) (enc z) s m (sgn x) (cl z) true (decide (x < 0)) w h hm hm1.1 hm1.2 (sgn_neg x) (fun u => hR u) (fun u => SignZ x hx u) (limitZ _) (withinZ z (Fit.of hf))

theorem inI_0 (x : Int) : inI x 0 = cl (x * 4294967296) := rfl
theorem inI_32 (x : Int) : inI x 32 = cl x := by
  have : inI x 32 = cl (x / 1) := rfl
  rw [this, Int.ediv_one]
theorem inI_64 (x : Int) : inI x 64 = cl (x / 4294967296) := rfl
theorem inI_96 (x : Int) : inI x 96 = cl (x / 18446744073709551616) := rfl

def clamp (a l h : Int) : Int := if a < l then l else if h < a then h else a
end Go.Proofs.Ytnknejdmoghmiaa
