/- Package fix over integers: sizes of integers; Int, limit, within, In, Of, Add, Sub, Floor, Clamp. Package fix over integers: In, Of, Add, Sub, Floor, Clamp. Package fix over integers: the two ways a number goes, brought, raised. Package fix over integers: products, quotients, roots. -/
import Derived.Test.YtnemedgdhojhdaaGreatRi
namespace Go.Proofs.YtnemedgdhojhdaaGreat
open Go.RowKit
set_option maxRecDepth 4000
set_option linter.unusedVariables false

/-- An answer in whatever world; memory that was is as it was. -/
abbrev Ans (f : Nat) (args : Array Value) (v : Value) : Prop := ∀ u : World, Calls Tryz.prog f args u fun e w' => e = .returned v ∧ Below u.heap.size u w'

/-! Sizes of integers. -/
def Sz (k : Nat) (z : Int) : Prop := z.natAbs ≤ 2 ^ k
theorem Sz.mono {j k : Nat} {z : Int} (h : Sz j z) (hk : j ≤ k) : Sz k z := Nat.le_trans h (Nat.pow_le_pow_right (by decide) hk)
theorem Sz.mul {j k : Nat} {x y : Int} (hx : Sz j x) (hy : Sz k y) : Sz (j + k) (x * y) := by
  unfold Sz at *
  rw [Int.natAbs_mul, Nat.pow_add]
  exact Nat.mul_le_mul hx hy
theorem Sz.add {k : Nat} {x y : Int} (hx : Sz k x) (hy : Sz k y) : Sz (k + 1) (x + y) := by
  unfold Sz at *
  rw [Nat.pow_succ]
  omega
theorem Sz.sub {k : Nat} {x y : Int} (hx : Sz k x) (hy : Sz k y) : Sz (k + 1) (x - y) := by
  unfold Sz at *
  rw [Nat.pow_succ]
  omega
theorem Sz.neg {k : Nat} {x : Int} (hx : Sz k x) : Sz k (-x) := by
  unfold Sz at *
  omega
theorem Sz.fit {k : Nat} {z : Int} (h : Sz k z) (hk : k ≤ 510) : Fit z := by
  obtain ⟨e, he, h5⟩ : ∃ e, M = 2 ^ e ∧ e = 512 := ⟨64 * 8, M_pow8, by omega⟩
  have h2 : 2 ^ (k + 2) ≤ 2 ^ e := Nat.pow_le_pow_right (by decide) (by omega)
  rw [← he, Nat.pow_succ, Nat.pow_succ] at h2
  have hM := M_H
  have hp := Nat.pow_pos (n := k) (show 0 < 2 by decide)
  unfold Sz at h
  constructor <;> omega
theorem Sz.one : Sz 0 1 := by unfold Sz; decide
theorem Sz.pow (k : Nat) : Sz k ((2 ^ k : Nat) : Int) := by unfold Sz; rw [Int.natAbs_natCast]; exact Nat.le_refl _

/-! int64. -/
def I64 (z : Int) : Prop := -9223372036854775808 ≤ z ∧ z < 9223372036854775808
def i64 (z : Int) : Bool := decide (-9223372036854775808 ≤ z ∧ z < 9223372036854775808)
theorem i64_true {z : Int} (h : I64 z) : i64 z = true := decide_eq_true h
theorem i64_false {z : Int} (h : ¬ I64 z) : i64 z = false := decide_eq_false h
theorem I64.sz {z : Int} (h : I64 z) : Sz 63 z := by
  unfold I64 at h
  unfold Sz
  rw [show 2 ^ 63 = 9223372036854775808 from rfl]
  omega
theorem I64.fit {z : Int} (h : I64 z) : Fit z := h.sz.fit (by decide)
theorem I64.wf {z : Int} (h : (Lit.int .i64 z).wf = true) : I64 z := by
  simp [Lit.wf, IntKind.min, IntKind.max, IntKind.signed, IntKind.bits] at h
  unfold I64
  omega
theorem wrap_I64 (n : Int) : I64 (wrap64 n) := by unfold I64 wrap64; omega
theorem wrap_self {z : Int} (h : I64 z) : wrap64 z = z := by unfold I64 at h; unfold wrap64; omega
theorem lm_enc0 (x : Int) : lm (enc x) 0 = x % 18446744073709551616 := by
  have h : ((M : Nat) : Int) % 18446744073709551616 = 0 := by decide
  unfold lm
  rw [Nat.mul_zero, Nat.pow_zero, Nat.div_one, Int.natCast_emod, enc_int]
  exact Int.emod_emod_of_dvd x (Int.dvd_of_emod_eq_zero h)
theorem wrap_enc (x : Int) : wrap64 (lm (enc x) 0) = wrap64 x := by
  rw [lm_enc0]
  unfold wrap64
  omega

/-- Brought in. -/
def cl (z : Int) : Int := if 9223372036854775807 < z then 9223372036854775807 else if z < -9223372036854775808 then -9223372036854775808 else z
theorem cl_hi {z : Int} (h : 9223372036854775807 < z) : cl z = 9223372036854775807 := if_pos h
theorem cl_lo {z : Int} (h : z < -9223372036854775808) : cl z = -9223372036854775808 := by unfold cl; rw [if_neg (by omega), if_pos h]
theorem cl_self {z : Int} (h : I64 z) : cl z = z := by unfold I64 at h; unfold cl; rw [if_neg (by omega), if_neg (by omega)]
theorem cl_I64 (z : Int) : I64 (cl z) := by
  unfold cl I64
  split
  · omega
  · split <;> omega
theorem cl_mono {x y : Int} (h : x ≤ y) : cl x ≤ cl y := by
  unfold cl
  repeat' split
  all_goals omega
def lim (b : Bool) : Int := bif b then -9223372036854775808 else 9223372036854775807
theorem cl_out {z : Int} (h : ¬ I64 z) : cl z = lim (decide (z < 0)) := by
  unfold I64 at h
  by_cases h0 : z < 0
  · rw [cl_lo (by omega), decide_eq_true h0]; rfl
  · rw [cl_hi (by omega), decide_eq_false h0]; rfl

theorem IntZ (x : Int) (hx : Fit x) : Ans 163 #[V x] (.tuple #[.int .i64 (bif i64 x then x else 0), .bool (i64 x)]) := by
  intro u
  have r := wrap_I64 x
  have ht : wrap64 (lm (enc x) 0) = wrap64 x := wrap_enc x
  have hI : same (enc x) (enc (wrap64 x)) = i64 x := by
    rw [same_enc hx r.fit]
    by_cases h : I64 x
    · rw [i64_true h, decide_eq_true (wrap_self h).symm]
    · rw [i64_false h]
      exact decide_eq_false fun hc => h (hc ▸ r)
  refine int_core (enc x) (enc (wrap64 x)) (wrap64 x) _ _ u ht hI ?_ (fun v => OfZ (wrap64 x) r.1 r.2 v)
  show (bif i64 x then x else 0) = bif i64 x then wrap64 x else 0
  by_cases h : I64 x
  · rw [wrap_self h]
  · rw [i64_false h]; rfl

theorem limitZ (b : Bool) : Ans 58 #[.bool b] (.int .i64 (lim b)) := by
  intro w
  cases b
  · go_enter Tryz.func58, Tryz.ntmps58
    go_wp2
    go_ret
    exact ⟨rfl, Below.refl _ _⟩
  · go_enter Tryz.func58, Tryz.ntmps58
    go_wp2
    go_ret
    exact ⟨rfl, Below.refl _ _⟩

theorem sgn_neg (x : Int) : decide (sgn x < 0) = decide (x < 0) := by
  unfold sgn
  by_cases h : x < 0
  · rw [if_pos h]; simp [h]
  · rw [if_neg h]
    by_cases h0 : x = 0
    · rw [if_pos h0]; simp [h]
    · rw [if_neg h0]; simp [h]

theorem within_core (a : Nat) (n s : Int) (I b : Bool) (w : World) (hb : Hid (decide (s < 0) = b))
    (hI : Hid (Ans 163 #[.agg (cells8 a)] (.tuple #[.int .i64 n, .bool I])))
    (hS : Hid (Ans 135 #[.agg (cells8 a)] (.int .i64 s)))
    (hL : Hid (Ans 58 #[.bool b] (.int .i64 (lim b)))) :
    Calls Tryz.prog 132 #[W a] w fun e w' => e = .returned (.int .i64 (bif I then n else lim b)) ∧ Below w.heap.size w w' := by
  unfold W
  go_enter Tryz.func132, Tryz.ntmps132
  go_upto_region 1 with fail
  have D := hide (Env.one w a)
  cases I
  · go_upto_region 3 with (first | (with_reducible refine at_list ?_; apply ldE (unhide D) _ rfl rfl rfl (by repeat (first | exact List.mem_cons_self | apply List.mem_cons_of_mem))) | (go_at_call 163; with_reducible refine (unhide hI _).mono ?_; rintro e w' ⟨he, hb⟩; subst he; have D := hide ((unhide D).keep hb); clear hb))
    go_wp2_with (first | (with_reducible refine at_list ?_; apply ldE (unhide D) _ rfl rfl rfl (by repeat (first | exact List.mem_cons_self | apply List.mem_cons_of_mem))) | (go_at_call 135; with_reducible refine (unhide hS _).mono ?_; rintro e w' ⟨he, hb⟩; subst he; have D := hide ((unhide D).keep hb); clear hb) | (go_at_call 58; rw [unhide hb]; refine (unhide hL _).mono ?_; rintro e w' ⟨he, hb⟩; subst he; have D := hide ((unhide D).keep hb); clear hb))
    go_ret
    exact ⟨rfl, (unhide D).o⟩
  · go_wp2_with (first | (with_reducible refine at_list ?_; apply ldE (unhide D) _ rfl rfl rfl (by repeat (first | exact List.mem_cons_self | apply List.mem_cons_of_mem))) | (go_at_call 163; with_reducible refine (unhide hI _).mono ?_; rintro e w' ⟨he, hb⟩; subst he; have D := hide ((unhide D).keep hb); clear hb))
    go_ret
    exact ⟨rfl, (unhide D).o⟩

theorem withinZ (x : Int) (hx : Fit x) : Ans 132 #[V x] (.int .i64 (cl x)) := by
  intro w
  have h := within_core (enc x) _ _ _ (decide (x < 0)) w (sgn_neg x) (IntZ x hx) (fun u => SignZ x hx u) (limitZ _)
  have e : (bif i64 x then (bif i64 x then x else 0) else lim (decide (x < 0))) = cl x := by
    by_cases hi : I64 x
    · rw [i64_true hi, cl_self hi]; rfl
    · rw [i64_false hi, cl_out hi]; rfl
  rw [e] at h
  exact h

end Go.Proofs.YtnemedgdhojhdaaGreat

namespace Go.Proofs.YtnemedgdhojhdaaGreat
open Go.RowKit
set_option maxRecDepth 4000
set_option linter.unusedVariables false

/-- A wide number by a power of two, brought in. -/
def inI (x s : Int) : Int := if 32 ≤ s then cl (x / ((2 ^ (s - 32).toNat : Nat) : Int)) else cl (x * ((2 ^ (32 - (if s < 0 then 0 else s)).toNat : Nat) : Int))

theorem in_high (a b : Nat) (s t v : Int) (w : World) (hs : 32 ≤ s) (ht : wrap64 (s - 32) = t)
    (hR : Hid (Ans 133 #[.agg (cells8 a), .int .i64 t] (.agg (cells8 b))))
    (hW : Hid (Ans 132 #[.agg (cells8 b)] (.int .i64 v))) :
    Calls Tryz.prog 94 #[W a, .int .i64 s] w fun e w' => e = .returned (.int .i64 v) ∧ Below w.heap.size w w' := by
  unfold W
  go_enter Tryz.func94, Tryz.ntmps94
  go_upto_region 1 with fail
  have D := hide (Env.one w a)
  go_wp2_with (first | (with_reducible refine at_list ?_; apply ldE (unhide D) _ rfl rfl rfl (by repeat (first | exact List.mem_cons_self | apply List.mem_cons_of_mem))) | (go_at_call 133; with_reducible refine (unhide hR _).mono ?_; rintro e w' ⟨he, hb⟩; subst he; have D := hide ((unhide D).keep hb); clear hb) | (go_at_call 132; with_reducible refine (unhide hW _).mono ?_; rintro e w' ⟨he, hb⟩; subst he; have D := hide ((unhide D).keep hb); clear hb))
  go_ret
  exact ⟨rfl, (unhide D).o⟩

set_option maxHeartbeats 2000000 in
theorem in_low (a b : Nat) (s m sg v : Int) (E c : Bool) (w : World) (hs : ¬ 32 ≤ s) (hm : (if s < 0 then 0 else s) = m) (hm1 : 0 ≤ m) (hm2 : m < 32) (hc : Hid (decide (sg < 0) = c))
    (hR : Hid (Ans 134 #[.agg (cells8 a), .int .i64 (32 - m)] (.tuple #[.agg (cells8 b), .bool E])))
    (hS : Hid (Ans 135 #[.agg (cells8 a)] (.int .i64 sg)))
    (hL : Hid (Ans 58 #[.bool c] (.int .i64 (lim c))))
    (hW : Hid (Ans 132 #[.agg (cells8 b)] (.int .i64 v))) :
    Calls Tryz.prog 94 #[W a, .int .i64 s] w fun e w' => e = .returned (.int .i64 (bif E then v else lim c)) ∧ Below w.heap.size w w' := by
  unfold W
  go_enter Tryz.func94, Tryz.ntmps94
  go_upto_region 1 with fail
  have D := hide (Env.one w a)
  cases E
  · go_wp2_with (first | (with_reducible refine at_list ?_; apply ldE (unhide D) _ rfl rfl rfl (by repeat (first | exact List.mem_cons_self | apply List.mem_cons_of_mem))) | (with_reducible refine at_list ?_; refine stE (unhide D) _ _ rfl rfl rfl rfl rfl ?_; intro D'; have D := hide D'; clear D') | (go_at_call 134; with_reducible refine (unhide hR _).mono ?_; rintro e w' ⟨he, hb⟩; subst he; have D := hide ((unhide D).keep hb); clear hb) | (go_at_call 135; with_reducible refine (unhide hS _).mono ?_; rintro e w' ⟨he, hb⟩; subst he; have D := hide ((unhide D).keep hb); clear hb) | (go_at_call 58; rw [unhide hc]; refine (unhide hL _).mono ?_; rintro e w' ⟨he, hb⟩; subst he; have D := hide ((unhide D).keep hb); clear hb))
    go_ret
    exact ⟨rfl, (unhide D).o⟩
  · go_wp2_with (first | (with_reducible refine at_list ?_; apply ldE (unhide D) _ rfl rfl rfl (by repeat (first | exact List.mem_cons_self | apply List.mem_cons_of_mem))) | (with_reducible refine at_list ?_; refine stE (unhide D) _ _ rfl rfl rfl rfl rfl ?_; intro D'; have D := hide D'; clear D') | (go_at_call 134; with_reducible refine (unhide hR _).mono ?_; rintro e w' ⟨he, hb⟩; subst he; have D := hide ((unhide D).keep hb); clear hb) | (go_at_call 132; with_reducible refine (unhide hW _).mono ?_; rintro e w' ⟨he, hb⟩; subst he; have D := hide ((unhide D).keep hb); clear hb))
    go_ret
    exact ⟨rfl, (unhide D).o⟩

theorem fit_not {z : Int} (h : fit z = false) : ¬ Fit z := fun hc => by rw [fit_true hc] at h; cases h
theorem mul_neg_iff {x : Int} {d : Nat} (hd : 0 < d) : decide (x * (d : Int) < 0) = decide (x < 0) := by
  by_cases h : x < 0
  · rw [decide_eq_true h]
    exact decide_eq_true (Int.mul_neg_of_neg_of_pos h (by omega))
  · rw [decide_eq_false h]
    exact decide_eq_false (by have := Int.mul_nonneg (Int.not_lt.1 h) (Int.natCast_nonneg d); omega)

theorem InZ (x s : Int) (hx : Fit x) (hs : I64 s) : Ans 94 #[V x, .int .i64 s] (.int .i64 (inI x s)) := by
  intro w
  obtain ⟨s1, s2⟩ := hs
  by_cases h : 32 ≤ s
  · have ht : wrap64 (s - 32) = s - 32 := wrap_self ⟨by omega, by omega⟩
    have e : inI x s = cl (x / ((2 ^ (s - 32).toNat : Nat) : Int)) := if_pos h
    rw [e]
    exact in_high (enc x) _ s _ _ w h ht (fun u => ShrZ x (s - 32) hx (by omega) u) (withinZ _ (fit_div hx _ (two_pow_pos _)))
  · have e : inI x s = cl (x * ((2 ^ (32 - (if s < 0 then 0 else s)).toNat : Nat) : Int)) := if_neg h
    rw [e]
    generalize hm : (if s < 0 then 0 else s) = m
    have hm1 : 0 ≤ m ∧ m < 32 := by
      rw [← hm]
      split <;> omega
    have hR := fun u => ShlZ x (32 - m) hx (by omega) (by omega) u
    have e1 : decide (32 - m < 0) = false := decide_eq_false (by omega)
    rw [e1, Bool.false_or] at hR
    have hd : 0 < 2 ^ (32 - m).toNat := Nat.pow_pos (by decide)
    generalize hp : 2 ^ (32 - m).toNat = p at *
    generalize hz : x * (p : Int) = z at *
    have hn := mul_neg_iff (x := x) hd
    rw [hz] at hn
    cases hf : fit z with
    | false =>
      rw [hf] at hR
      have hno := fit_not hf
      have hI : ¬ I64 z := fun hc => hno hc.fit
      have k := in_low (enc x) 0 s m (sgn x) (cl 0) false (decide (x < 0)) w h hm hm1.1 hm1.2 (sgn_neg x) (fun u => hR u) (fun u => SignZ x hx u) (limitZ _) (withinZ 0 fit_zero)
      rw [cl_out hI, hn]
      exact k
    | true =>
      rw [hf] at hR
      exact in_low (enc x) (enc z) s m (sgn x) (cl z) true (decide (x < 0)) w h hm hm1.1 hm1.2 (sgn_neg x) (fun u => hR u) (fun u => SignZ x hx u) (limitZ _) (withinZ z (Fit.of hf))

theorem add_core (a b s : Int) (c d : Bool) (w : World) (hs : wrap64 (a + b) = s) (hc : decide (s < a) = c) (hd : decide (b < 0) = d)
    (hL : Hid (Ans 58 #[.bool d] (.int .i64 (lim d)))) :
    Calls Tryz.prog 33 #[.int .i64 a, .int .i64 b] w fun e w' => e = .returned (.int .i64 (bif (c != d) then lim d else s)) ∧ Below w.heap.size w w' := by
  have D := hide (Env.start w)
  go_enter Tryz.func33, Tryz.ntmps33
  go_upto_region 2 with fail
  cases c
  all_goals cases d
  all_goals (
    go_wp2_with (first | (go_at_call 58; with_reducible refine (unhide hL _).mono ?_; rintro e w' ⟨he, hb⟩; subst he; have D := hide ((unhide D).keep hb); clear hb))
    go_ret
    exact ⟨by subst hs; rfl, (unhide D).o⟩)
theorem FixAddZ (a b : Int) (ha : I64 a) (hb : I64 b) : Ans 33 #[.int .i64 a, .int .i64 b] (.int .i64 (cl (a + b))) := by
  intro w
  have k := add_core a b _ _ _ w rfl rfl rfl (limitZ _)
  have e : (bif (decide (wrap64 (a + b) < a) != decide (b < 0)) then lim (decide (b < 0)) else wrap64 (a + b)) = cl (a + b) := by
    obtain ⟨a1, a2⟩ := ha
    obtain ⟨b1, b2⟩ := hb
    by_cases h : I64 (a + b)
    · rw [wrap_self h, cl_self h]
      by_cases h2 : b < 0
      · rw [decide_eq_true h2, decide_eq_true (show a + b < a by omega)]; rfl
      · rw [decide_eq_false h2, decide_eq_false (show ¬ a + b < a by omega)]; rfl
    · rw [cl_out h]
      unfold I64 at h
      by_cases h2 : b < 0
      · rw [decide_eq_true h2, decide_eq_false (show ¬ wrap64 (a + b) < a by unfold wrap64; omega), decide_eq_true (show a + b < 0 by omega)]; rfl
      · rw [decide_eq_false h2, decide_eq_true (show wrap64 (a + b) < a by unfold wrap64; omega), decide_eq_false (show ¬ a + b < 0 by omega)]; rfl
  rw [e] at k
  exact k

theorem sub_core (a b s : Int) (c d f : Bool) (w : World) (hs : wrap64 (a - b) = s) (hc : decide (a < s) = c) (hd : decide (b < 0) = d) (hf : decide (0 < b) = f)
    (hL : Hid (Ans 58 #[.bool f] (.int .i64 (lim f)))) :
    Calls Tryz.prog 78 #[.int .i64 a, .int .i64 b] w fun e w' => e = .returned (.int .i64 (bif (c != d) then lim f else s)) ∧ Below w.heap.size w w' := by
  have D := hide (Env.start w)
  go_enter Tryz.func78, Tryz.ntmps78
  go_upto_region 2 with fail
  cases c
  all_goals cases d
  all_goals (
    go_wp2_with (first | (go_at_call 58; with_reducible refine (unhide hL _).mono ?_; rintro e w' ⟨he, hb⟩; subst he; have D := hide ((unhide D).keep hb); clear hb))
    go_ret
    exact ⟨by subst hs; rfl, (unhide D).o⟩)
theorem FixSubZ (a b : Int) (ha : I64 a) (hb : I64 b) : Ans 78 #[.int .i64 a, .int .i64 b] (.int .i64 (cl (a - b))) := by
  intro w
  have k := sub_core a b _ _ _ _ w rfl rfl rfl rfl (limitZ _)
  have e : (bif (decide (a < wrap64 (a - b)) != decide (b < 0)) then lim (decide (0 < b)) else wrap64 (a - b)) = cl (a - b) := by
    obtain ⟨a1, a2⟩ := ha
    obtain ⟨b1, b2⟩ := hb
    by_cases h : I64 (a - b)
    · rw [wrap_self h, cl_self h]
      by_cases h2 : b < 0
      · rw [decide_eq_true h2, decide_eq_true (show a < a - b by omega)]; rfl
      · rw [decide_eq_false h2, decide_eq_false (show ¬ a < a - b by omega)]; rfl
    · rw [cl_out h]
      unfold I64 at h
      by_cases h2 : b < 0
      · rw [decide_eq_true h2, decide_eq_false (show ¬ a < wrap64 (a - b) by unfold wrap64; omega), decide_eq_false (show ¬ a - b < 0 by omega), decide_eq_false (show ¬ 0 < b by omega)]; rfl
      · rw [decide_eq_false h2, decide_eq_true (show a < wrap64 (a - b) by unfold wrap64; omega), decide_eq_true (show a - b < 0 by omega), decide_eq_true (show 0 < b by omega)]; rfl
  rw [e] at k
  exact k

def clamp (a l h : Int) : Int := if a < l then l else if h < a then h else a
end Go.Proofs.YtnemedgdhojhdaaGreat

namespace Go.Proofs.YtnemedgdhojhdaaGreat
open Go.RowKit
set_option maxRecDepth 4000
set_option linter.unusedVariables false

theorem szA (w : World) (o : Obj) : (w.alloc o).heap.size = w.heap.size + 1 := by simp
theorem Env.other {w0 w : World} {l : List (Nat × Nat)} (d : Env w0 l w) (o : Obj) : Env w0 l (w.alloc o) := d.keep ((Below.refl _ w).alloc (Nat.le_refl _) o)
/-- Numbers, in a world of at least so many blocks. -/
structure EnvZ (w0 : World) (l : List (Nat × Nat)) (B : Nat) (w : World) : Prop where
  e : Env w0 l w
  s : B ≤ w.heap.size
theorem EnvZ.keep {w0 w w' : World} {l : List (Nat × Nat)} {B : Nat} (d : EnvZ w0 l B w) (hb : Below w.heap.size w w') : EnvZ w0 l B w' := ⟨d.e.keep hb, Nat.le_trans d.s hb.size⟩
theorem Env.fillZ {w0 w : World} {l : List (Nat × Nat)} {B c n : Nat} {old : Array Value} (d : Env w0 l w) (hl : ∀ p ∈ l, p.1 < B) (h0 : w0.heap.size ≤ B) (hb : Blk w c 75 old) (hc : B ≤ c) : Env w0 ((c, n) :: l) (w.setRow c (cells8 n)) := by
  refine ⟨fun p hp => ?_, below_row d.o (by omega) _⟩
  rcases List.mem_cons.1 hp with e | hp
  · subst e; exact hb.row _
  · have := hl p hp
    exact (d.at_ p hp).rowOther _ (by omega)
theorem Env.zero {w0 w : World} {l : List (Nat × Nat)} (d : Env w0 l w) : Env w0 ((w.heap.size, 0) :: l) (w.alloc (.cells #[.int .u64 0, .int .u64 0, .int .u64 0, .int .u64 0, .int .u64 0, .int .u64 0, .int .u64 0, .int .u64 0] 75)) := by
  have h := d.push 0
  rw [cells8_0] at h
  exact h
theorem Env.two2 {w0 w : World} {l : List (Nat × Nat)} (d : Env w0 l w) (n m : Nat) {c1 c2 : Array Value} :
    Env w0 ((w.heap.size + 1, m) :: (w.heap.size, n) :: l) ((((w.alloc (.cells c1 75)).alloc (.cells c2 75)).setRow w.heap.size (cells8 n)).setRow (w.heap.size + 1) (cells8 m)) := by
  refine ⟨fun p hp => ?_, d.o.trans ((two_new w _ _ _ _).mono d.o.size)⟩
  rcases List.mem_cons.1 hp with e | hp
  · subst e; exact ((Blk.second2 w 75 _ _).rowOther _ (by omega)).row _
  · rcases List.mem_cons.1 hp with e | hp
    · subst e; exact ((Blk.first2 w 75 _ _).row _).rowOther _ (by show w.heap.size ≠ _; omega)
    · have hl := (d.at_ p hp).lt
      exact ((((d.at_ p hp).alloc _).alloc _).rowOther _ (by omega)).rowOther _ (by omega)
section
variable {ops : Array Oper} {rest : List Oper} {o : Oper} {a : Act} {w w0 : World} {Q : Exit → Act → World → Prop} {l : List (Nat × Nat)} {n m g : Nat}
/-- The answer into its block. -/
theorem stEnd (d : Env w0 l w) (x y : Operand) (ho : o.op = .store 75 x y) (hgd : o.guard = none) (hx : a.eval x = ptr g) (hy : a.eval y = .agg (cells8 n)) (hm : (g, m) ∈ l) (hg : w0.heap.size ≤ g)
    (h : Hid (Blk (w.setRow g (cells8 n)) g 75 (cells8 n)) → Hid (Below w0.heap.size w0 (w.setRow g (cells8 n))) → wpList Tryz.prog ops Q rest (a.put o.dst undef) (w.setRow g (cells8 n))) : wpList Tryz.prog ops Q (o :: rest) a w :=
  st8 75 x y (d.blk hm) rfl ho hgd hx hy iWide (h ((d.blk hm).row _) (below_row d.o hg _))
/-- A number into a block that was asked for, and another one behind it. -/
theorem stOne {c1 c2 : Array Value} (h8 : c1.size = 8) (x y : Operand) (ho : o.op = .store 75 x y) (hgd : o.guard = none) (hx : a.eval x = ptr w.heap.size) (hy : a.eval y = .agg (cells8 n))
    (h : wpList Tryz.prog ops Q rest (a.put o.dst undef) (((w.alloc (.cells c1 75)).alloc (.cells c2 75)).setRow w.heap.size (cells8 n))) : wpList Tryz.prog ops Q (o :: rest) a ((w.alloc (.cells c1 75)).alloc (.cells c2 75)) :=
  st8 75 x y (Blk.first2 w 75 _ _) h8 ho hgd hx hy iWide h
theorem stTwo {c1 c2 : Array Value} (d : Env w0 l w) (h8 : c2.size = 8) (x y : Operand) (ho : o.op = .store 75 x y) (hgd : o.guard = none) (hx : a.eval x = ptr (w.heap.size + 1)) (hy : a.eval y = .agg (cells8 m))
    (h : ∀ w', Hid (Env w0 ((w.heap.size + 1, m) :: (w.heap.size, n) :: l) w') → wpList Tryz.prog ops Q rest (a.put o.dst undef) w') : wpList Tryz.prog ops Q (o :: rest) a (((w.alloc (.cells c1 75)).alloc (.cells c2 75)).setRow w.heap.size (cells8 n)) :=
  st8 75 x y ((Blk.second2 w 75 _ _).rowOther _ (by omega)) h8 ho hgd hx hy iWide (h _ (d.two2 n m))
end

theorem down_from (a : Nat) (b : Bool) (w : World) : Calls Tryz.prog 229 #[.agg #[], W a, .bool b] w fun e w' => e = .returned (.agg (cells8 a)) ∧ Below w.heap.size w w' := by
  unfold W
  go_enter Tryz.func229, Tryz.ntmps229
  go_upto_region 1 with fail
  have D := hide (((Env.start w).other (.cells #[] 145)).push a).zero
  simp only [szA] at D
  go_wp2_with (first | (with_reducible refine at_list ?_; apply ldE (unhide D) _ rfl rfl rfl (by repeat (first | exact List.mem_cons_self | apply List.mem_cons_of_mem))) | (with_reducible refine at_list ?_;  apply stEnd (unhide D) _ _ rfl rfl rfl rfl (by repeat (first | exact List.mem_cons_self | apply List.mem_cons_of_mem)) (by omega); intro B O))
  exact res8 (unhide B) rfl rfl rfl Tryz.underlying75 rfl iWide ⟨rfl, unhide O⟩

/-- The next one, where it is not exact. -/
def upN (z : Int) (b : Bool) : Int := bif b then z else z + 1

theorem brought_down (a : Nat) (v : Int) (b : Bool) (w : World) (hF : Hid (Ans 229 #[.agg #[], .agg (cells8 a), .bool b] (.agg (cells8 a)))) (hW : Hid (Ans 132 #[.agg (cells8 a)] (.int .i64 v))) :
    Calls Tryz.prog 171 #[W a, .bool b] w fun e w' => e = .returned (.int .i64 v) ∧ Below w.heap.size w w' := by
  have hm : ∀ u : World, Sem.run Tryz.prog (method 322 145 (Value.agg #[]) "ninepin/fix.from") u = .ok (229, .agg #[]) u := fun u => by kernel_rfl
  unfold W
  go_enter Tryz.func171, Tryz.ntmps171
  go_upto_region 2 with fail
  have D := hide (((Env.start w).push a).other (.cells #[] 145))
  go_wp2_with (first | (with_reducible refine at_list ?_; apply ldE (unhide D) _ rfl rfl rfl (by repeat (first | exact List.mem_cons_self | apply List.mem_cons_of_mem))) | (go_at_call 229; with_reducible refine (unhide hF _).mono ?_; rintro e w' ⟨he, hb⟩; subst he; have D := hide ((unhide D).keep hb); clear hb) | (go_at_call 132; with_reducible refine (unhide hW _).mono ?_; rintro e w' ⟨he, hb⟩; subst he; have D := hide ((unhide D).keep hb); clear hb))
  go_ret
  exact ⟨rfl, (unhide D).o⟩
theorem BroughtDownZ (x : Int) (b : Bool) (hx : Sz 500 x) : Ans 171 #[V x, .bool b] (.int .i64 (cl x)) := fun w =>
  brought_down (enc x) _ b w (fun u => down_from (enc x) b u) (withinZ x (hx.fit (by decide)))
theorem fraised_core (a b : Nat) (x : Int) (E : Bool) (w : World) (hO : Hid (Ans 91 #[.int .i64 x] (.agg (cells8 a)))) (hS : Hid (Ans 134 #[.agg (cells8 a), .int .i64 32] (.tuple #[.agg (cells8 b), .bool E]))) :
    Calls Tryz.prog 170 #[.int .i64 x] w fun e w' => e = .returned (.agg (cells8 b)) ∧ Below w.heap.size w w' := by
  go_enter Tryz.func170, Tryz.ntmps170
  go_upto_region 1 with fail
  have D := hide (Env.start w).zero
  go_wp2_with (first | (with_reducible refine at_list ?_; apply ldE (unhide D) _ rfl rfl rfl (by repeat (first | exact List.mem_cons_self | apply List.mem_cons_of_mem))) | (with_reducible refine at_list ?_; refine stE (unhide D) _ _ rfl rfl rfl rfl rfl ?_; intro D'; have D := hide D'; clear D') | (go_at_call 91; with_reducible refine (unhide hO _).mono ?_; rintro e w' ⟨he, hb⟩; subst he; have D := hide ((unhide D).keep hb); clear hb) | (go_at_call 134; with_reducible refine (unhide hS _).mono ?_; rintro e w' ⟨he, hb⟩; subst he; have D := hide ((unhide D).keep hb); clear hb) | (with_reducible refine at_list ?_;  apply stEnd (unhide D) _ _ rfl rfl rfl rfl (by repeat (first | exact List.mem_cons_self | apply List.mem_cons_of_mem)) (by omega); intro B O))
  exact res8 (unhide B) rfl rfl rfl Tryz.underlying75 rfl iWide ⟨rfl, unhide O⟩
theorem shl_told (x : Int) (k : Nat) (hx : Fit x) (hk : (k : Int) < 9223372036854775808) (hf : Fit (x * ((2 ^ k : Nat) : Int))) : Ans 134 #[V x, .int .i64 k] (.tuple #[V (x * ((2 ^ k : Nat) : Int)), .bool true]) := by
  intro u
  have h := ShlZ x k hx (by omega) hk u
  rw [decide_eq_false (show ¬ (k : Int) < 0 by omega), Int.toNat_natCast, fit_true hf] at h
  exact h
theorem RaisedZ (x : Int) (hx : I64 x) : Ans 170 #[.int .i64 x] (V (x * 4294967296)) := fun w =>
  fraised_core (enc x) _ x true w (fun u => OfZ x hx.1 hx.2 u) (shl_told x 32 hx.fit (by decide) ((hx.sz.mul (Sz.pow 32)).fit (by decide)))

end Go.Proofs.YtnemedgdhojhdaaGreat

namespace Go.Proofs.YtnemedgdhojhdaaGreat
open Go.RowKit
set_option maxRecDepth 4000
set_option linter.unusedVariables false

def mulD (x y : Int) : Int := cl (x * y / 4294967296)
def mulU (x y : Int) : Int := cl (upN (x * y / 4294967296) (decide (x * y % 4294967296 = 0)))
/-! Quotients. -/
theorem quotient_none_down (y : Int) (w : World) : Calls Tryz.prog 142 #[.int .i64 0, .int .i64 y] w fun e w' => e = .returned (.int .i64 0) ∧ Below w.heap.size w w' := by
  have D := hide (Env.start w)
  go_enter Tryz.func142, Tryz.ntmps142
  go_wp2
  go_ret
  exact ⟨rfl, (unhide D).o⟩
theorem quotient_zero_down (x : Int) (b : Bool) (w : World) (hx : ¬ x = 0) (hb : Hid (decide (x < 0) = b)) (hL : Hid (Ans 58 #[.bool b] (.int .i64 (lim b)))) :
    Calls Tryz.prog 142 #[.int .i64 x, .int .i64 0] w fun e w' => e = .returned (.int .i64 (lim b)) ∧ Below w.heap.size w w' := by
  have D := hide (Env.start w)
  have h1 : decide (x = 0) = false := decide_eq_false hx
  have h2 : (x == 0) = false := by simp [hx]
  go_enter Tryz.func142, Tryz.ntmps142
  go_wp2_with (first | (go_at_call 58; rw [unhide hb]; with_reducible refine (unhide hL _).mono ?_; rintro e w' ⟨he, hb⟩; subst he; have D := hide ((unhide D).keep hb); clear hb))
  go_ret
  exact ⟨rfl, (unhide D).o⟩
set_option maxHeartbeats 1000000 in
theorem quotient_by_down (x y v : Int) (a b q r : Nat) (E L : Bool) (w : World) (hx : ¬ x = 0) (hy : ¬ y = 0) (hL : Hid (same r 0 = L))
    (hX : Hid (Ans 170 #[.int .i64 x] (.agg (cells8 a)))) (hY : Hid (Ans 91 #[.int .i64 y] (.agg (cells8 b))))
    (hM : Hid (Ans 97 #[.agg (cells8 a), .agg (cells8 b)] (.tuple #[.agg (cells8 q), .agg (cells8 r), .bool E])))
    (hB : Hid (Ans 171 #[.agg (cells8 q), .bool L] (.int .i64 v))) :
    Calls Tryz.prog 142 #[.int .i64 x, .int .i64 y] w fun e w' => e = .returned (.int .i64 v) ∧ Below w.heap.size w w' := by
  have D := hide (Env.start w)
  have h1 : decide (x = 0) = false := decide_eq_false hx
  have h2 : (x == 0) = false := by simp [hx]
  have h3 : decide (y = 0) = false := decide_eq_false hy
  have h4 : (y == 0) = false := by simp [hy]
  go_enter Tryz.func142, Tryz.ntmps142
  go_upto_region 6 with (first | (go_at_call 170; with_reducible refine (unhide hX _).mono ?_; rintro e w' ⟨he, hb⟩; subst he; have D := hide ((unhide D).keep hb); clear hb) | (go_at_call 91; with_reducible refine (unhide hY _).mono ?_; rintro e w' ⟨he, hb⟩; subst he; have D := hide ((unhide D).keep hb); clear hb) | (go_at_call 97; with_reducible refine (unhide hM _).mono ?_; rintro e w' ⟨he, hb⟩; subst he; have D := hide ((unhide D).keep hb); clear hb) | (with_reducible refine at_list ?_;  refine stOne (n := q) rfl _ _ rfl rfl rfl rfl ?_) | (with_reducible refine at_list ?_;  refine stTwo (n := q) (m := r) (unhide D) rfl _ _ rfl rfl rfl rfl ?_; intro w1 D'; have D := D'; clear D'))
  refine region_plan (S := Env w _) (l := [0, 1, 2, 3, 4, 5]) (by kernel_rfl) (by kernel_rfl) (by kernel_rfl) (by kernel_rfl) (by kernel_rfl) (by kernel_rfl) (by kernel_rfl) ((unhide D).drew) ?_
  clear D
  refine plan_read rfl rfl (fun u hS => exec_load8 (n := q) 75 (.tmp 5) (hS.blk (by repeat (first | exact List.mem_cons_self | apply List.mem_cons_of_mem))) rfl rfl Tryz.underlying75 rfl iWide) ?_
  refine plan_read rfl rfl (fun u hS => exec_load8 (n := r) 75 (.tmp 6) (hS.blk (by repeat (first | exact List.mem_cons_self | apply List.mem_cons_of_mem))) rfl rfl Tryz.underlying75 rfl iWide) ?_
  refine plan_read rfl rfl (fun u hS => exec_build0 _ 75 rfl bWide0) ?_
  go_simp
  refine plan_read (v := .bool L) rfl rfl (fun u hS => exec_eql_wide_is _ (.tmp 25) (.tmp 26) (unhide hL) rfl rfl rfl) ?_
  go_simp
  refine plan_call (v := .int .i64 v) (f := 171) (args := #[.agg (cells8 q), .bool L]) rfl rfl (fun u hS => by go_simp) (fun u hS => (unhide hB u).mono fun _ _ ⟨he, hb⟩ => ⟨he, hS.keep hb⟩) ?_
  go_simp
  refine plan_read (v := ?_) rfl rfl (fun u hS => by go_simp; rfl) ?_
  go_simp
  refine plan_end (fun u hS => ?_)
  have O := hide hS.o
  clear hS
  go_wp2
  go_ret
  exact ⟨rfl, unhide O⟩
def divD (x y : Int) : Int := if x = 0 then 0 else if y = 0 then lim (decide (x < 0)) else cl ((x * 4294967296).fdiv y)
def divU (x y : Int) : Int := if x = 0 then 0 else if y = 0 then lim (decide (x < 0)) else cl (upN ((x * 4294967296).fdiv y) (decide ((x * 4294967296).fmod y = 0)))
theorem raise_sz {x : Int} (hx : I64 x) : Sz 95 (x * 4294967296) := hx.sz.mul (Sz.pow 32)
theorem fdiv_abs (x y : Int) (h0 : y ≠ 0) : (x.fdiv y).natAbs ≤ x.natAbs + 1 := by
  obtain ⟨hq, _⟩ := div_math x y h0
  have h1 := Nat.div_le_self x.natAbs y.natAbs
  have hl : byN x y ≤ x.natAbs + 1 := by unfold byN; split <;> omega
  rw [← hq]
  cases (!(decide (x < 0) == decide (y < 0)))
  · simp only [cond_false]; omega
  · simp only [cond_true]; omega
theorem Sz.fdiv {k : Nat} {x y : Int} (hx : Sz k x) (h0 : y ≠ 0) : Sz (k + 1) (x.fdiv y) := by
  have h := fdiv_abs x y h0
  have hp := Nat.pow_pos (n := k) (show 0 < 2 by decide)
  unfold Sz at *
  rw [Nat.pow_succ]
  omega
theorem fmod_abs (x y : Int) (h0 : y ≠ 0) : (x.fmod y).natAbs < y.natAbs := by
  obtain ⟨_, hr⟩ := div_math x y h0
  have hl := leftN_lt x y h0
  rw [← hr]
  cases decide (y < 0)
  · simp only [cond_false]; omega
  · simp only [cond_true]; omega
theorem Sz.fmod {k : Nat} {x y : Int} (hy : Sz k y) (h0 : y ≠ 0) : Sz k (x.fmod y) := Nat.le_trans (Nat.le_of_lt (fmod_abs x y h0)) hy
theorem div_told {j k : Nat} (x y : Int) (hx : Sz j x) (hy : Sz k y) (hj : j ≤ 500) (hk : k ≤ 500) (h0 : y ≠ 0) : Ans 97 #[V x, V y] (.tuple #[V (x.fdiv y), V (x.fmod y), .bool true]) := by
  intro u
  have k := DivZ x y (hx.fit (by omega)) (hy.fit (by omega)) u
  have hd : dq x y = true := by
    unfold dq
    rw [fit_true ((hx.fdiv h0).fit (by omega))]
    simp [h0]
  rw [hd] at k
  exact k
theorem same_zero {x : Int} (hx : Fit x) : same (enc x) 0 = decide (x = 0) := by
  have := same_enc hx fit_zero
  rw [show enc 0 = 0 from rfl] at this
  exact this
theorem QuotientDownZ (x y : Int) (hx : I64 x) (hy : I64 y) : Ans 142 #[.int .i64 x, .int .i64 y] (.int .i64 (divD x y)) := by
  intro w
  unfold divD
  by_cases h1 : x = 0
  · rw [if_pos h1, h1]; exact quotient_none_down y w
  · rw [if_neg h1]
    by_cases h2 : y = 0
    · rw [if_pos h2, h2]; exact quotient_zero_down x _ w h1 rfl (limitZ _)
    · rw [if_neg h2]
      exact quotient_by_down x y _ _ (enc y) _ _ true _ w h1 h2 (same_zero ((hy.sz.fmod h2).fit (by decide))) (RaisedZ x hx) (fun u => OfZ y hy.1 hy.2 u) (div_told _ y (raise_sz hx) hy.sz (by decide) (by decide) h2) (BroughtDownZ _ _ (((raise_sz hx).fdiv h2).mono (by decide)))
/-! Roots. -/
/-- The root of a number, as an integer. -/
def rt (x : Int) : Int := (isq x.toNat : Nat)
def sqD (x : Int) : Int := if x < 0 then 0 else cl (rt (x * 4294967296))
def sqU (x : Int) : Int := if x < 0 then 0 else cl (upN (rt (x * 4294967296)) (decide (rt (x * 4294967296) * rt (x * 4294967296) = x * 4294967296)))
/-! The faces. -/
theorem face_Div (x y v : Int) (w : World) (h : Hid (Ans 142 #[.int .i64 x, .int .i64 y] (.int .i64 v))) : Calls Tryz.prog 101 #[.int .i64 x, .int .i64 y] w fun e w' => e = .returned (.int .i64 v) ∧ Below w.heap.size w w' := by
  have D := hide (Env.start w)
  go_enter Tryz.func101, Tryz.ntmps101
  go_wp2_with (first | (go_at_call 142; with_reducible refine (unhide h _).mono ?_; rintro e w' ⟨he, hb⟩; subst he; have D := hide ((unhide D).keep hb); clear hb))
  go_ret
  exact ⟨rfl, (unhide D).o⟩
theorem FixDivZ (x y : Int) (hx : I64 x) (hy : I64 y) : Ans 101 #[.int .i64 x, .int .i64 y] (.int .i64 (divD x y)) := fun w => face_Div x y _ w (QuotientDownZ x y hx hy)
end Go.Proofs.YtnemedgdhojhdaaGreat
