/- Package fix over integers: sizes of integers; Int, limit, within, In, Of, Add, Sub, Floor, Clamp. -/
import Derived.Test.YtnknejdmoghmiaaRi
namespace Go.Proofs.Ytnknejdmoghmiaa
open Go.RowKit
set_option maxRecDepth 4000
set_option linter.unusedVariables false

/-- An answer in whatever world; memory that was is as it was. -/
abbrev Ans (f : Nat) (args : Array Value) (v : Value) : Prop := ∀ u : World, Calls Try.prog f args u fun e w' => e = .returned v ∧ Below u.heap.size u w'

/-! Sizes of integers. -/
def Sz (k : Nat) (z : Int) : Prop := z.natAbs ≤ 2 ^ k
theorem Sz.mono {j k : Nat} {z : Int} (h : Sz j z) (hk : j ≤ k) : Sz k z := Nat.le_trans h (Nat.pow_le_pow_right (by decide) hk)
theorem Sz.mul {j k : Nat} {x y : Int} (hx : Sz j x) (hy : Sz k y) : Sz (j + k) (x * y) := by
  unfold Sz at *
  rw [Int.natAbs_mul, Nat.pow_add]
  exact Nat.mul_le_mul hx hy
theorem Sz.add {k : Nat} {x y : Int} (hx : Sz k x) (hy : Sz k y) : Sz (k + 1) (x + y) := by
  unfold Sz at *
  rw [Nat.pow_succ]
  omega
theorem Sz.sub {k : Nat} {x y : Int} (hx : Sz k x) (hy : Sz k y) : Sz (k + 1) (x - y) := by
  unfold Sz at *
  rw [Nat.pow_succ]
  omega
theorem Sz.neg {k : Nat} {x : Int} (hx : Sz k x) : Sz k (-x) := by
  unfold Sz at *
  omega
theorem Sz.fit {k : Nat} {z : Int} (h : Sz k z) (hk : k ≤ 510) : Fit z := by
  obtain ⟨e, he, h5⟩ : ∃ e, M = 2 ^ e ∧ e = 512 := ⟨64 * 8, M_pow8, by omega⟩
  have h2 : 2 ^ (k + 2) ≤ 2 ^ e := Nat.pow_le_pow_right (by decide) (by omega)
  rw [← he, Nat.pow_succ, Nat.pow_succ] at h2
  have hM := M_H
  have hp := Nat.pow_pos (n := k) (show 0 < 2 by decide)
  unfold Sz at h
  constructor <;> omega
theorem ediv_abs (x : Int) (d : Nat) : (x / (d : Int)).natAbs ≤ x.natAbs := by
  rcases Nat.eq_zero_or_pos d with rfl | hd
  · simp
  · rcases Int.le_total 0 x with h | h
    · have h1 := Int.ediv_nonneg h (Int.natCast_nonneg d)
      have h2 := Int.ediv_le_self (d : Int) h
      omega
    · have h1 : x / (d : Int) ≤ 0 := Int.ediv_nonpos_of_nonpos_of_neg h (by omega)
      have h2 : x ≤ x / (d : Int) := by
        refine Int.le_ediv_of_mul_le (by omega) ?_
        have := Int.mul_le_mul_of_nonpos_left h (show (1 : Int) ≤ (d : Int) by omega)
        rw [Int.mul_one] at this
        exact this
      omega
theorem Sz.div {k : Nat} {x : Int} (hx : Sz k x) (d : Nat) : Sz k (x / (d : Int)) := Nat.le_trans (ediv_abs x d) hx
theorem Sz.one : Sz 0 1 := by unfold Sz; decide
theorem Sz.pow (k : Nat) : Sz k ((2 ^ k : Nat) : Int) := by unfold Sz; rw [Int.natAbs_natCast]; exact Nat.le_refl _

/-! int64. -/
def I64 (z : Int) : Prop := -9223372036854775808 ≤ z ∧ z < 9223372036854775808
def i64 (z : Int) : Bool := decide (-9223372036854775808 ≤ z ∧ z < 9223372036854775808)
theorem i64_true {z : Int} (h : I64 z) : i64 z = true := decide_eq_true h
theorem i64_false {z : Int} (h : ¬ I64 z) : i64 z = false := decide_eq_false h
theorem I64.sz {z : Int} (h : I64 z) : Sz 63 z := by
  unfold I64 at h
  unfold Sz
  rw [show 2 ^ 63 = 9223372036854775808 from rfl]
  omega
theorem I64.fit {z : Int} (h : I64 z) : Fit z := h.sz.fit (by decide)
theorem I64.wf {z : Int} (h : (Lit.int .i64 z).wf = true) : I64 z := by
  simp [Lit.wf, IntKind.min, IntKind.max, IntKind.signed, IntKind.bits] at h
  unfold I64
  omega
theorem wrap_I64 (n : Int) : I64 (wrap64 n) := by unfold I64 wrap64; omega
theorem wrap_self {z : Int} (h : I64 z) : wrap64 z = z := by unfold I64 at h; unfold wrap64; omega
theorem lm_enc0 (x : Int) : lm (enc x) 0 = x % 18446744073709551616 := by
  have h : ((M : Nat) : Int) % 18446744073709551616 = 0 := by decide
  unfold lm
  rw [Nat.mul_zero, Nat.pow_zero, Nat.div_one, Int.natCast_emod, enc_int]
  exact Int.emod_emod_of_dvd x (Int.dvd_of_emod_eq_zero h)
theorem wrap_enc (x : Int) : wrap64 (lm (enc x) 0) = wrap64 x := by
  rw [lm_enc0]
  unfold wrap64
  omega

/-- Brought in. -/
def cl (z : Int) : Int := if 9223372036854775807 < z then 9223372036854775807 else if z < -9223372036854775808 then -9223372036854775808 else z
theorem cl_hi {z : Int} (h : 9223372036854775807 < z) : cl z = 9223372036854775807 := if_pos h
theorem cl_lo {z : Int} (h : z < -9223372036854775808) : cl z = -9223372036854775808 := by unfold cl; rw [if_neg (by omega), if_pos h]
theorem cl_self {z : Int} (h : I64 z) : cl z = z := by unfold I64 at h; unfold cl; rw [if_neg (by omega), if_neg (by omega)]
theorem cl_I64 (z : Int) : I64 (cl z) := by
  unfold cl I64
  split
  · omega
  · split <;> omega
theorem cl_mono {x y : Int} (h : x ≤ y) : cl x ≤ cl y := by
  unfold cl
  repeat' split
  all_goals omega
def lim (b : Bool) : Int := bif b then -9223372036854775808 else 9223372036854775807
theorem cl_out {z : Int} (h : ¬ I64 z) : cl z = lim (decide (z < 0)) := by
  unfold I64 at h
  by_cases h0 : z < 0
  · rw [cl_lo (by omega), decide_eq_true h0]; rfl
  · rw [cl_hi (by omega), decide_eq_false h0]; rfl

theorem IntZ (x : Int) (hx : Fit x) : Ans 158 #[V x] (.tuple #[.int .i64 (bif i64 x then x else 0), .bool (i64 x)]) := by
  intro u
  have r := wrap_I64 x
  have ht : wrap64 (lm (enc x) 0) = wrap64 x := wrap_enc x
  have hI : same (enc x) (enc (wrap64 x)) = i64 x := by
    rw [same_enc hx r.fit]
    by_cases h : I64 x
    · rw [i64_true h, decide_eq_true (wrap_self h).symm]
    · rw [i64_false h]
      exact decide_eq_false fun hc => h (hc ▸ r)
  refine int_core (enc x) (enc (wrap64 x)) (wrap64 x) _ _ u ht hI ?_ (fun v => OfZ (wrap64 x) r.1 r.2 v)
  show (bif i64 x then x else 0) = bif i64 x then wrap64 x else 0
  by_cases h : I64 x
  · rw [wrap_self h]
  · rw [i64_false h]; rfl

theorem limitZ (b : Bool) : Ans 123 #[.bool b] (.int .i64 (lim b)) := by
  intro w
  cases b
  · go_enter Try.func123, Try.ntmps123
    go_wp2
    go_ret
    exact ⟨rfl, Below.refl _ _⟩
  · go_enter Try.func123, Try.ntmps123
    go_wp2
    go_ret
    exact ⟨rfl, Below.refl _ _⟩

theorem sgn_neg (x : Int) : decide (sgn x < 0) = decide (x < 0) := by
  unfold sgn
  by_cases h : x < 0
  · rw [if_pos h]; simp [h]
  · rw [if_neg h]
    by_cases h0 : x = 0
    · rw [if_pos h0]; simp [h]
    · rw [if_neg h0]; simp [h]

theorem within_core (a : Nat) (n s : Int) (I b : Bool) (w : World) (hb : Hid (decide (s < 0) = b))
    (hI : Hid (Ans 158 #[.agg (cells8 a)] (.tuple #[.int .i64 n, .bool I])))
    (hS : Hid (Ans 46 #[.agg (cells8 a)] (.int .i64 s)))
    (hL : Hid (Ans 123 #[.bool b] (.int .i64 (lim b)))) :
    Calls Try.prog 120 #[W a] w fun e w' => e = .returned (.int .i64 (bif I then n else lim b)) ∧ Below w.heap.size w w' := by
  unfold W
  go_enter Try.func120, Try.ntmps120
  go_upto_region 1 with fail
  have D := hide (Env.one w a)
  cases I
  · go_upto_region 3 with (first | (with_reducible refine at_list ?_; apply ldE (unhide D) _ rfl rfl rfl (by repeat (first | exact List.mem_cons_self | apply List.mem_cons_of_mem))) | (go_at_call 158; with_reducible refine (unhide hI _).mono ?_; rintro e w' ⟨he, hb⟩; subst he; have D := hide ((unhide D).keep hb); clear hb))
    go_wp2_with (first | (with_reducible refine at_list ?_; apply ldE (unhide D) _ rfl rfl rfl (by repeat (first | exact List.mem_cons_self | apply List.mem_cons_of_mem))) | (go_at_call 46; with_reducible refine (unhide hS _).mono ?_; rintro e w' ⟨he, hb⟩; subst he; have D := hide ((unhide D).keep hb); clear hb) | (go_at_call 123; rw [unhide hb]; refine (unhide hL _).mono ?_; rintro e w' ⟨he, hb⟩; subst he; have D := hide ((unhide D).keep hb); clear hb))
    go_ret
    exact ⟨rfl, (unhide D).o⟩
  · go_wp2_with (first | (with_reducible refine at_list ?_; apply ldE (unhide D) _ rfl rfl rfl (by repeat (first | exact List.mem_cons_self | apply List.mem_cons_of_mem))) | (go_at_call 158; with_reducible refine (unhide hI _).mono ?_; rintro e w' ⟨he, hb⟩; subst he; have D := hide ((unhide D).keep hb); clear hb))
    go_ret
    exact ⟨rfl, (unhide D).o⟩

theorem withinZ (x : Int) (hx : Fit x) : Ans 120 #[V x] (.int .i64 (cl x)) := by
  intro w
  have h := within_core (enc x) _ _ _ (decide (x < 0)) w (sgn_neg x) (IntZ x hx) (fun u => SignZ x hx u) (limitZ _)
  have e : (bif i64 x then (bif i64 x then x else 0) else lim (decide (x < 0))) = cl x := by
    by_cases hi : I64 x
    · rw [i64_true hi, cl_self hi]; rfl
    · rw [i64_false hi, cl_out hi]; rfl
  rw [e] at h
  exact h

end Go.Proofs.Ytnknejdmoghmiaa
