/- Package fix over integers: products, quotients, roots. -/
import Derived.Test.YtcbepibdeokboaaFc
namespace Go.Proofs.Ytcbepibdeokboaa
open Go.RowKit
set_option maxRecDepth 4000
set_option linter.unusedVariables false

theorem mul_told {j k : Nat} (x y : Int) (hx : Sz j x) (hy : Sz k y) (h : j + k ≤ 510) : Ans 92 #[V x, V y] (.tuple #[V (x * y), .bool true]) := by
  intro u
  have k := MulZ x y (hx.fit (by omega)) (hy.fit (by omega)) u
  rw [toldZ_fit ((hx.mul hy).fit h)] at k
  exact k
theorem shr_32 (x : Int) (hx : Fit x) : Ans 57 #[V x, .int .i64 32] (V (x / 4294967296)) := fun u => ShrZ x 32 hx (by decide) u
theorem wrap_low (z : Int) : (wrap64 z % 4294967296 == 0) = decide (z % 4294967296 = 0) := by
  have : wrap64 z % 4294967296 = z % 4294967296 := by unfold wrap64; omega
  rw [this]
  by_cases h : z % 4294967296 = 0
  · rw [h]; rfl
  · rw [decide_eq_false h]; simp [h]
def mulD (x y : Int) : Int := cl (x * y / 4294967296)
def mulU (x y : Int) : Int := cl (upN (x * y / 4294967296) (decide (x * y % 4294967296 = 0)))
theorem prod_sz {x y : Int} (hx : I64 x) (hy : I64 y) : Sz 126 (x * y) := hx.sz.mul hy.sz
/-! Quotients. -/
theorem quotient_none_down (y : Int) (w : World) : Calls Try.prog 47 #[.int .i64 0, .int .i64 y] w fun e w' => e = .returned (.int .i64 0) ∧ Below w.heap.size w w' := by
  have D := hide (Env.start w)
  go_enter Try.func47, Try.ntmps47
  go_wp2
  go_ret
  exact ⟨rfl, (unhide D).o⟩
theorem quotient_zero_down (x : Int) (b : Bool) (w : World) (hx : ¬ x = 0) (hb : Hid (decide (x < 0) = b)) (hL : Hid (Ans 59 #[.bool b] (.int .i64 (lim b)))) :
    Calls Try.prog 47 #[.int .i64 x, .int .i64 0] w fun e w' => e = .returned (.int .i64 (lim b)) ∧ Below w.heap.size w w' := by
  have D := hide (Env.start w)
  have h1 : decide (x = 0) = false := decide_eq_false hx
  have h2 : (x == 0) = false := by simp [hx]
  go_enter Try.func47, Try.ntmps47
  go_wp2_with (first | (go_at_call 59; rw [unhide hb]; with_reducible refine (unhide hL _).mono ?_; rintro e w' ⟨he, hb⟩; subst he; have D := hide ((unhide D).keep hb); clear hb))
  go_ret
  exact ⟨rfl, (unhide D).o⟩
set_option maxHeartbeats 1000000 in
theorem quotient_by_down (x y v : Int) (a b q r : Nat) (E L : Bool) (w : World) (hx : ¬ x = 0) (hy : ¬ y = 0) (hL : Hid (same r 0 = L))
    (hX : Hid (Ans 76 #[.int .i64 x] (.agg (cells8 a)))) (hY : Hid (Ans 71 #[.int .i64 y] (.agg (cells8 b))))
    (hM : Hid (Ans 75 #[.agg (cells8 a), .agg (cells8 b)] (.tuple #[.agg (cells8 q), .agg (cells8 r), .bool E])))
    (hB : Hid (Ans 77 #[.agg (cells8 q), .bool L] (.int .i64 v))) :
    Calls Try.prog 47 #[.int .i64 x, .int .i64 y] w fun e w' => e = .returned (.int .i64 v) ∧ Below w.heap.size w w' := by
  have D := hide (Env.start w)
  have h1 : decide (x = 0) = false := decide_eq_false hx
  have h2 : (x == 0) = false := by simp [hx]
  have h3 : decide (y = 0) = false := decide_eq_false hy
  have h4 : (y == 0) = false := by simp [hy]
  go_enter Try.func47, Try.ntmps47
  go_upto_region 6 with (first | (go_at_call 76; with_reducible refine (unhide hX _).mono ?_; rintro e w' ⟨he, hb⟩; subst he; have D := hide ((unhide D).keep hb); clear hb) | (go_at_call 71; with_reducible refine (unhide hY _).mono ?_; rintro e w' ⟨he, hb⟩; subst he; have D := hide ((unhide D).keep hb); clear hb) | (go_at_call 75; with_reducible refine (unhide hM _).mono ?_; rintro e w' ⟨he, hb⟩; subst he; have D := hide ((unhide D).keep hb); clear hb) | (with_reducible refine at_list ?_;  refine stOne (n := q) rfl _ _ rfl rfl rfl rfl ?_) | (with_reducible refine at_list ?_;  refine stTwo (n := q) (m := r) (unhide D) rfl _ _ rfl rfl rfl rfl ?_; intro w1 D'; have D := D'; clear D'))
  refine region_plan (S := Env w _) (l := [0, 1, 2, 3, 4, 5]) (by kernel_rfl) (by kernel_rfl) (by kernel_rfl) (by kernel_rfl) (by kernel_rfl) (by kernel_rfl) (by kernel_rfl) ((unhide D).drew) ?_
  clear D
  refine plan_read rfl rfl (fun u hS => exec_load8 (n := q) 57 (.tmp 5) (hS.blk (by repeat (first | exact List.mem_cons_self | apply List.mem_cons_of_mem))) rfl rfl Try.underlying57 rfl iWide) ?_
  refine plan_read rfl rfl (fun u hS => exec_load8 (n := r) 57 (.tmp 6) (hS.blk (by repeat (first | exact List.mem_cons_self | apply List.mem_cons_of_mem))) rfl rfl Try.underlying57 rfl iWide) ?_
  refine plan_read rfl rfl (fun u hS => exec_build0 _ 57 rfl bWide0) ?_
  go_simp
  refine plan_read (v := .bool L) rfl rfl (fun u hS => exec_eql_wide_is _ (.tmp 25) (.tmp 26) (unhide hL) rfl rfl rfl) ?_
  go_simp
  refine plan_call (v := .int .i64 v) (f := 77) (args := #[.agg (cells8 q), .bool L]) rfl rfl (fun u hS => by go_simp) (fun u hS => (unhide hB u).mono fun _ _ ⟨he, hb⟩ => ⟨he, hS.keep hb⟩) ?_
  go_simp
  refine plan_read (v := ?_) rfl rfl (fun u hS => by go_simp; rfl) ?_
  go_simp
  refine plan_end (fun u hS => ?_)
  have O := hide hS.o
  clear hS
  go_wp2
  go_ret
  exact ⟨rfl, unhide O⟩
def divD (x y : Int) : Int := if x = 0 then 0 else if y = 0 then lim (decide (x < 0)) else cl ((x * 4294967296).fdiv y)
def divU (x y : Int) : Int := if x = 0 then 0 else if y = 0 then lim (decide (x < 0)) else cl (upN ((x * 4294967296).fdiv y) (decide ((x * 4294967296).fmod y = 0)))
theorem raise_sz {x : Int} (hx : I64 x) : Sz 95 (x * 4294967296) := hx.sz.mul (Sz.pow 32)
theorem fdiv_abs (x y : Int) (h0 : y ≠ 0) : (x.fdiv y).natAbs ≤ x.natAbs + 1 := by
  obtain ⟨hq, _⟩ := div_math x y h0
  have h1 := Nat.div_le_self x.natAbs y.natAbs
  have hl : byN x y ≤ x.natAbs + 1 := by unfold byN; split <;> omega
  rw [← hq]
  cases (!(decide (x < 0) == decide (y < 0)))
  · simp only [cond_false]; omega
  · simp only [cond_true]; omega
theorem Sz.fdiv {k : Nat} {x y : Int} (hx : Sz k x) (h0 : y ≠ 0) : Sz (k + 1) (x.fdiv y) := by
  have h := fdiv_abs x y h0
  have hp := Nat.pow_pos (n := k) (show 0 < 2 by decide)
  unfold Sz at *
  rw [Nat.pow_succ]
  omega
theorem fmod_abs (x y : Int) (h0 : y ≠ 0) : (x.fmod y).natAbs < y.natAbs := by
  obtain ⟨_, hr⟩ := div_math x y h0
  have hl := leftN_lt x y h0
  rw [← hr]
  cases decide (y < 0)
  · simp only [cond_false]; omega
  · simp only [cond_true]; omega
theorem Sz.fmod {k : Nat} {x y : Int} (hy : Sz k y) (h0 : y ≠ 0) : Sz k (x.fmod y) := Nat.le_trans (Nat.le_of_lt (fmod_abs x y h0)) hy
theorem div_told {j k : Nat} (x y : Int) (hx : Sz j x) (hy : Sz k y) (hj : j ≤ 500) (hk : k ≤ 500) (h0 : y ≠ 0) : Ans 75 #[V x, V y] (.tuple #[V (x.fdiv y), V (x.fmod y), .bool true]) := by
  intro u
  have k := DivZ x y (hx.fit (by omega)) (hy.fit (by omega)) u
  have hd : dq x y = true := by
    unfold dq
    rw [fit_true ((hx.fdiv h0).fit (by omega))]
    simp [h0]
  rw [hd] at k
  exact k
theorem same_zero {x : Int} (hx : Fit x) : same (enc x) 0 = decide (x = 0) := by
  have := same_enc hx fit_zero
  rw [show enc 0 = 0 from rfl] at this
  exact this
theorem QuotientDownZ (x y : Int) (hx : I64 x) (hy : I64 y) : Ans 47 #[.int .i64 x, .int .i64 y] (.int .i64 (divD x y)) := by
  intro w
  unfold divD
  by_cases h1 : x = 0
  · rw [if_pos h1, h1]; exact quotient_none_down y w
  · rw [if_neg h1]
    by_cases h2 : y = 0
    · rw [if_pos h2, h2]; exact quotient_zero_down x _ w h1 rfl (limitZ _)
    · rw [if_neg h2]
      exact quotient_by_down x y _ _ (enc y) _ _ true _ w h1 h2 (same_zero ((hy.sz.fmod h2).fit (by decide))) (RaisedZ x hx) (fun u => OfZ y hy.1 hy.2 u) (div_told _ y (raise_sz hx) hy.sz (by decide) (by decide) h2) (BroughtDownZ _ _ (((raise_sz hx).fdiv h2).mono (by decide)))
/-! Roots. -/
/-- The root of a number, as an integer. -/
def rt (x : Int) : Int := (isq x.toNat : Nat)
theorem isq_sz {k : Nat} {x : Int} (hx : Sz k x) : Sz k (rt x) := by
  unfold rt Sz at *
  have := isq_le x.toNat
  rw [Int.natAbs_natCast]
  omega
theorem isq_sq (x : Int) (h : 0 ≤ x) : rt x * rt x ≤ x ∧ x < (rt x + 1) * (rt x + 1) ∧ 0 ≤ rt x := by
  obtain ⟨i1, i2⟩ := isq_spec x.toNat
  unfold rt
  generalize isq x.toNat = r at *
  have e1 : ((r * r : Nat) : Int) = (r : Int) * (r : Int) := Int.natCast_mul r r
  have e2 : (((r + 1) * (r + 1) : Nat) : Int) = ((r : Int) + 1) * ((r : Int) + 1) := by rw [Int.natCast_mul]; rfl
  refine ⟨by rw [← e1]; omega, by rw [← e2]; omega, by omega⟩
theorem sq_sz {k : Nat} {x : Int} (h : 0 ≤ x) (hx : Sz k x) : Sz k (rt x * rt x) := by
  obtain ⟨h1, _, h3⟩ := isq_sq x h
  have h4 := Int.mul_nonneg h3 h3
  unfold Sz at *
  omega
theorem sq_told {k : Nat} (x : Int) (h : 0 ≤ x) (hx : Sz k x) (hk : k ≤ 510) : Ans 92 #[V (rt x), V (rt x)] (.tuple #[V (rt x * rt x), .bool true]) := by
  intro u
  have k := MulZ (rt x) (rt x) ((isq_sz hx).fit hk) ((isq_sz hx).fit hk) u
  rw [toldZ_fit ((sq_sz h hx).fit hk)] at k
  exact k
def sqD (x : Int) : Int := if x < 0 then 0 else cl (rt (x * 4294967296))
def sqU (x : Int) : Int := if x < 0 then 0 else cl (upN (rt (x * 4294967296)) (decide (rt (x * 4294967296) * rt (x * 4294967296) = x * 4294967296)))
/-! The faces. -/
theorem face_Div (x y v : Int) (w : World) (h : Hid (Ans 47 #[.int .i64 x, .int .i64 y] (.int .i64 v))) : Calls Try.prog 27 #[.int .i64 x, .int .i64 y] w fun e w' => e = .returned (.int .i64 v) ∧ Below w.heap.size w w' := by
  have D := hide (Env.start w)
  go_enter Try.func27, Try.ntmps27
  go_wp2_with (first | (go_at_call 47; with_reducible refine (unhide h _).mono ?_; rintro e w' ⟨he, hb⟩; subst he; have D := hide ((unhide D).keep hb); clear hb))
  go_ret
  exact ⟨rfl, (unhide D).o⟩
theorem FixDivZ (x y : Int) (hx : I64 x) (hy : I64 y) : Ans 27 #[.int .i64 x, .int .i64 y] (.int .i64 (divD x y)) := fun w => face_Div x y _ w (QuotientDownZ x y hx hy)
end Go.Proofs.Ytcbepibdeokboaa
