/- Package fix over integers: products, quotients, roots. -/
import Derived.Test.YtlekbhdchkdnnaaGreatDoorFc
namespace Go.Proofs.YtlekbhdchkdnnaaGreatDoor
open Go.RowKit
set_option maxRecDepth 4000
set_option linter.unusedVariables false

theorem product_down (x y v : Int) (a b p s : Nat) (E L : Bool) (w : World) (hL : Hid ((wrap64 (x * y) % 4294967296 == 0) = L))
    (hX : Hid (Ans 42 #[.int .i64 x] (.agg (cells8 a)))) (hY : Hid (Ans 42 #[.int .i64 y] (.agg (cells8 b))))
    (hM : Hid (Ans 41 #[.agg (cells8 a), .agg (cells8 b)] (.tuple #[.agg (cells8 p), .bool E])))
    (hS : Hid (Ans 63 #[.agg (cells8 p), .int .i64 32] (.agg (cells8 s))))
    (hB : Hid (Ans 86 #[.agg (cells8 s), .bool L] (.int .i64 v))) :
    Calls Tryz.prog 53 #[.int .i64 x, .int .i64 y] w fun e w' => e = .returned (.int .i64 v) ∧ Below w.heap.size w w' := by
  have D := hide (Env.start w)
  go_enter Tryz.func53, Tryz.ntmps53
  go_wp2_with (first | (with_reducible refine at_list ?_; apply ldE (unhide D) _ rfl rfl rfl (by repeat (first | exact List.mem_cons_self | apply List.mem_cons_of_mem))) | (with_reducible refine at_list ?_; refine stE (unhide D) _ _ rfl rfl rfl rfl rfl ?_; intro D'; have D := hide D'; clear D') | (go_at_call 42; with_reducible refine (unhide hX _).mono ?_; rintro e w' ⟨he, hb⟩; subst he; have D := hide ((unhide D).keep hb); clear hb) | (go_at_call 42; with_reducible refine (unhide hY _).mono ?_; rintro e w' ⟨he, hb⟩; subst he; have D := hide ((unhide D).keep hb); clear hb) | (go_at_call 41; with_reducible refine (unhide hM _).mono ?_; rintro e w' ⟨he, hb⟩; subst he; have D := hide ((unhide D).keep hb); clear hb) | (go_at_call 63; with_reducible refine (unhide hS _).mono ?_; rintro e w' ⟨he, hb⟩; subst he; have D := hide ((unhide D).keep hb); clear hb) | (go_at_call 86; rw [unhide hL]; with_reducible refine (unhide hB _).mono ?_; rintro e w' ⟨he, hb⟩; subst he; have D := hide ((unhide D).keep hb); clear hb))
  go_ret
  exact ⟨rfl, (unhide D).o⟩
theorem product_up (x y v : Int) (a b p s : Nat) (E L : Bool) (w : World) (hL : Hid ((wrap64 (x * y) % 4294967296 == 0) = L))
    (hX : Hid (Ans 42 #[.int .i64 x] (.agg (cells8 a)))) (hY : Hid (Ans 42 #[.int .i64 y] (.agg (cells8 b))))
    (hM : Hid (Ans 41 #[.agg (cells8 a), .agg (cells8 b)] (.tuple #[.agg (cells8 p), .bool E])))
    (hS : Hid (Ans 63 #[.agg (cells8 p), .int .i64 32] (.agg (cells8 s))))
    (hB : Hid (Ans 90 #[.agg (cells8 s), .bool L] (.int .i64 v))) :
    Calls Tryz.prog 56 #[.int .i64 x, .int .i64 y] w fun e w' => e = .returned (.int .i64 v) ∧ Below w.heap.size w w' := by
  have D := hide (Env.start w)
  go_enter Tryz.func56, Tryz.ntmps56
  go_wp2_with (first | (with_reducible refine at_list ?_; apply ldE (unhide D) _ rfl rfl rfl (by repeat (first | exact List.mem_cons_self | apply List.mem_cons_of_mem))) | (with_reducible refine at_list ?_; refine stE (unhide D) _ _ rfl rfl rfl rfl rfl ?_; intro D'; have D := hide D'; clear D') | (go_at_call 42; with_reducible refine (unhide hX _).mono ?_; rintro e w' ⟨he, hb⟩; subst he; have D := hide ((unhide D).keep hb); clear hb) | (go_at_call 42; with_reducible refine (unhide hY _).mono ?_; rintro e w' ⟨he, hb⟩; subst he; have D := hide ((unhide D).keep hb); clear hb) | (go_at_call 41; with_reducible refine (unhide hM _).mono ?_; rintro e w' ⟨he, hb⟩; subst he; have D := hide ((unhide D).keep hb); clear hb) | (go_at_call 63; with_reducible refine (unhide hS _).mono ?_; rintro e w' ⟨he, hb⟩; subst he; have D := hide ((unhide D).keep hb); clear hb) | (go_at_call 90; rw [unhide hL]; with_reducible refine (unhide hB _).mono ?_; rintro e w' ⟨he, hb⟩; subst he; have D := hide ((unhide D).keep hb); clear hb))
  go_ret
  exact ⟨rfl, (unhide D).o⟩

theorem mul_told {j k : Nat} (x y : Int) (hx : Sz j x) (hy : Sz k y) (h : j + k ≤ 510) : Ans 41 #[V x, V y] (.tuple #[V (x * y), .bool true]) := by
  intro u
  have k := MulZ x y (hx.fit (by omega)) (hy.fit (by omega)) u
  rw [toldZ_fit ((hx.mul hy).fit h)] at k
  exact k
theorem shr_32 (x : Int) (hx : Fit x) : Ans 63 #[V x, .int .i64 32] (V (x / 4294967296)) := fun u => ShrZ x 32 hx (by decide) u
theorem wrap_low (z : Int) : (wrap64 z % 4294967296 == 0) = decide (z % 4294967296 = 0) := by
  have : wrap64 z % 4294967296 = z % 4294967296 := by unfold wrap64; omega
  rw [this]
  by_cases h : z % 4294967296 = 0
  · rw [h]; rfl
  · rw [decide_eq_false h]; simp [h]
def mulD (x y : Int) : Int := cl (x * y / 4294967296)
def mulU (x y : Int) : Int := cl (upN (x * y / 4294967296) (decide (x * y % 4294967296 = 0)))
theorem prod_sz {x y : Int} (hx : I64 x) (hy : I64 y) : Sz 126 (x * y) := hx.sz.mul hy.sz
theorem ProductDownZ (x y : Int) (hx : I64 x) (hy : I64 y) : Ans 53 #[.int .i64 x, .int .i64 y] (.int .i64 (mulD x y)) := fun w =>
  product_down x y _ (enc x) (enc y) (enc (x * y)) (enc (x * y / 4294967296)) true _ w (wrap_low (x * y)) (fun u => OfZ x hx.1 hx.2 u) (fun u => OfZ y hy.1 hy.2 u)
    (mul_told x y hx.sz hy.sz (by decide)) (shr_32 _ ((prod_sz hx hy).fit (by decide))) (BroughtDownZ _ _ (((prod_sz hx hy).div 4294967296).mono (by decide)))
theorem ProductUpZ (x y : Int) (hx : I64 x) (hy : I64 y) : Ans 56 #[.int .i64 x, .int .i64 y] (.int .i64 (mulU x y)) := fun w =>
  product_up x y _ (enc x) (enc y) (enc (x * y)) (enc (x * y / 4294967296)) true _ w (wrap_low (x * y)) (fun u => OfZ x hx.1 hx.2 u) (fun u => OfZ y hy.1 hy.2 u)
    (mul_told x y hx.sz hy.sz (by decide)) (shr_32 _ ((prod_sz hx hy).fit (by decide))) (BroughtUpZ _ _ (((prod_sz hx hy).div 4294967296).mono (by decide)))


/-! Quotients. -/
theorem quotient_none_down (y : Int) (w : World) : Calls Tryz.prog 57 #[.int .i64 0, .int .i64 y] w fun e w' => e = .returned (.int .i64 0) ∧ Below w.heap.size w w' := by
  have D := hide (Env.start w)
  go_enter Tryz.func57, Tryz.ntmps57
  go_wp2
  go_ret
  exact ⟨rfl, (unhide D).o⟩
theorem quotient_zero_down (x : Int) (b : Bool) (w : World) (hx : ¬ x = 0) (hb : Hid (decide (x < 0) = b)) (hL : Hid (Ans 49 #[.bool b] (.int .i64 (lim b)))) :
    Calls Tryz.prog 57 #[.int .i64 x, .int .i64 0] w fun e w' => e = .returned (.int .i64 (lim b)) ∧ Below w.heap.size w w' := by
  have D := hide (Env.start w)
  have h1 : decide (x = 0) = false := decide_eq_false hx
  have h2 : (x == 0) = false := by simp [hx]
  go_enter Tryz.func57, Tryz.ntmps57
  go_wp2_with (first | (go_at_call 49; rw [unhide hb]; with_reducible refine (unhide hL _).mono ?_; rintro e w' ⟨he, hb⟩; subst he; have D := hide ((unhide D).keep hb); clear hb))
  go_ret
  exact ⟨rfl, (unhide D).o⟩
set_option maxHeartbeats 1000000 in
theorem quotient_by_down (x y v : Int) (a b q r : Nat) (E L : Bool) (w : World) (hx : ¬ x = 0) (hy : ¬ y = 0) (hL : Hid (same r 0 = L))
    (hX : Hid (Ans 92 #[.int .i64 x] (.agg (cells8 a)))) (hY : Hid (Ans 42 #[.int .i64 y] (.agg (cells8 b))))
    (hM : Hid (Ans 91 #[.agg (cells8 a), .agg (cells8 b)] (.tuple #[.agg (cells8 q), .agg (cells8 r), .bool E])))
    (hB : Hid (Ans 86 #[.agg (cells8 q), .bool L] (.int .i64 v))) :
    Calls Tryz.prog 57 #[.int .i64 x, .int .i64 y] w fun e w' => e = .returned (.int .i64 v) ∧ Below w.heap.size w w' := by
  have D := hide (Env.start w)
  have h1 : decide (x = 0) = false := decide_eq_false hx
  have h2 : (x == 0) = false := by simp [hx]
  have h3 : decide (y = 0) = false := decide_eq_false hy
  have h4 : (y == 0) = false := by simp [hy]
  go_enter Tryz.func57, Tryz.ntmps57
  go_upto_region 6 with (first | (go_at_call 92; with_reducible refine (unhide hX _).mono ?_; rintro e w' ⟨he, hb⟩; subst he; have D := hide ((unhide D).keep hb); clear hb) | (go_at_call 42; with_reducible refine (unhide hY _).mono ?_; rintro e w' ⟨he, hb⟩; subst he; have D := hide ((unhide D).keep hb); clear hb) | (go_at_call 91; with_reducible refine (unhide hM _).mono ?_; rintro e w' ⟨he, hb⟩; subst he; have D := hide ((unhide D).keep hb); clear hb) | (with_reducible refine at_list ?_;  refine stOne (n := q) rfl _ _ rfl rfl rfl rfl ?_) | (with_reducible refine at_list ?_;  refine stTwo (n := q) (m := r) (unhide D) rfl _ _ rfl rfl rfl rfl ?_; intro w1 D'; have D := D'; clear D'))
  refine region_plan (S := Env w _) (l := [0, 1, 2, 3, 4, 5]) (by kernel_rfl) (by kernel_rfl) (by kernel_rfl) (by kernel_rfl) (by kernel_rfl) (by kernel_rfl) (by kernel_rfl) ((unhide D).drew) ?_
  clear D
  refine plan_read rfl rfl (fun u hS => exec_load8 (n := q) 35 (.tmp 5) (hS.blk (by repeat (first | exact List.mem_cons_self | apply List.mem_cons_of_mem))) rfl rfl Tryz.underlying35 rfl iWide) ?_
  refine plan_read rfl rfl (fun u hS => exec_load8 (n := r) 35 (.tmp 6) (hS.blk (by repeat (first | exact List.mem_cons_self | apply List.mem_cons_of_mem))) rfl rfl Tryz.underlying35 rfl iWide) ?_
  refine plan_read rfl rfl (fun u hS => exec_build0 _ 35 rfl bWide0) ?_
  go_simp
  refine plan_read (v := .bool L) rfl rfl (fun u hS => exec_eql_wide_is _ (.tmp 25) (.tmp 26) (unhide hL) rfl rfl rfl) ?_
  go_simp
  refine plan_call (v := .int .i64 v) (f := 86) (args := #[.agg (cells8 q), .bool L]) rfl rfl (fun u hS => by go_simp) (fun u hS => (unhide hB u).mono fun _ _ ⟨he, hb⟩ => ⟨he, hS.keep hb⟩) ?_
  go_simp
  refine plan_read (v := ?_) rfl rfl (fun u hS => by go_simp; rfl) ?_
  go_simp
  refine plan_end (fun u hS => ?_)
  have O := hide hS.o
  clear hS
  go_wp2
  go_ret
  exact ⟨rfl, unhide O⟩
theorem quotient_none_up (y : Int) (w : World) : Calls Tryz.prog 58 #[.int .i64 0, .int .i64 y] w fun e w' => e = .returned (.int .i64 0) ∧ Below w.heap.size w w' := by
  have D := hide (Env.start w)
  go_enter Tryz.func58, Tryz.ntmps58
  go_wp2
  go_ret
  exact ⟨rfl, (unhide D).o⟩
theorem quotient_zero_up (x : Int) (b : Bool) (w : World) (hx : ¬ x = 0) (hb : Hid (decide (x < 0) = b)) (hL : Hid (Ans 49 #[.bool b] (.int .i64 (lim b)))) :
    Calls Tryz.prog 58 #[.int .i64 x, .int .i64 0] w fun e w' => e = .returned (.int .i64 (lim b)) ∧ Below w.heap.size w w' := by
  have D := hide (Env.start w)
  have h1 : decide (x = 0) = false := decide_eq_false hx
  have h2 : (x == 0) = false := by simp [hx]
  go_enter Tryz.func58, Tryz.ntmps58
  go_wp2_with (first | (go_at_call 49; rw [unhide hb]; with_reducible refine (unhide hL _).mono ?_; rintro e w' ⟨he, hb⟩; subst he; have D := hide ((unhide D).keep hb); clear hb))
  go_ret
  exact ⟨rfl, (unhide D).o⟩
set_option maxHeartbeats 1000000 in
theorem quotient_by_up (x y v : Int) (a b q r : Nat) (E L : Bool) (w : World) (hx : ¬ x = 0) (hy : ¬ y = 0) (hL : Hid (same r 0 = L))
    (hX : Hid (Ans 92 #[.int .i64 x] (.agg (cells8 a)))) (hY : Hid (Ans 42 #[.int .i64 y] (.agg (cells8 b))))
    (hM : Hid (Ans 91 #[.agg (cells8 a), .agg (cells8 b)] (.tuple #[.agg (cells8 q), .agg (cells8 r), .bool E])))
    (hB : Hid (Ans 90 #[.agg (cells8 q), .bool L] (.int .i64 v))) :
    Calls Tryz.prog 58 #[.int .i64 x, .int .i64 y] w fun e w' => e = .returned (.int .i64 v) ∧ Below w.heap.size w w' := by
  have D := hide (Env.start w)
  have h1 : decide (x = 0) = false := decide_eq_false hx
  have h2 : (x == 0) = false := by simp [hx]
  have h3 : decide (y = 0) = false := decide_eq_false hy
  have h4 : (y == 0) = false := by simp [hy]
  go_enter Tryz.func58, Tryz.ntmps58
  go_upto_region 6 with (first | (go_at_call 92; with_reducible refine (unhide hX _).mono ?_; rintro e w' ⟨he, hb⟩; subst he; have D := hide ((unhide D).keep hb); clear hb) | (go_at_call 42; with_reducible refine (unhide hY _).mono ?_; rintro e w' ⟨he, hb⟩; subst he; have D := hide ((unhide D).keep hb); clear hb) | (go_at_call 91; with_reducible refine (unhide hM _).mono ?_; rintro e w' ⟨he, hb⟩; subst he; have D := hide ((unhide D).keep hb); clear hb) | (with_reducible refine at_list ?_;  refine stOne (n := q) rfl _ _ rfl rfl rfl rfl ?_) | (with_reducible refine at_list ?_;  refine stTwo (n := q) (m := r) (unhide D) rfl _ _ rfl rfl rfl rfl ?_; intro w1 D'; have D := D'; clear D'))
  refine region_plan (S := Env w _) (l := [0, 1, 2, 3, 4, 5]) (by kernel_rfl) (by kernel_rfl) (by kernel_rfl) (by kernel_rfl) (by kernel_rfl) (by kernel_rfl) (by kernel_rfl) ((unhide D).drew) ?_
  clear D
  refine plan_read rfl rfl (fun u hS => exec_load8 (n := q) 35 (.tmp 5) (hS.blk (by repeat (first | exact List.mem_cons_self | apply List.mem_cons_of_mem))) rfl rfl Tryz.underlying35 rfl iWide) ?_
  refine plan_read rfl rfl (fun u hS => exec_load8 (n := r) 35 (.tmp 6) (hS.blk (by repeat (first | exact List.mem_cons_self | apply List.mem_cons_of_mem))) rfl rfl Tryz.underlying35 rfl iWide) ?_
  refine plan_read rfl rfl (fun u hS => exec_build0 _ 35 rfl bWide0) ?_
  go_simp
  refine plan_read (v := .bool L) rfl rfl (fun u hS => exec_eql_wide_is _ (.tmp 25) (.tmp 26) (unhide hL) rfl rfl rfl) ?_
  go_simp
  refine plan_call (v := .int .i64 v) (f := 90) (args := #[.agg (cells8 q), .bool L]) rfl rfl (fun u hS => by go_simp) (fun u hS => (unhide hB u).mono fun _ _ ⟨he, hb⟩ => ⟨he, hS.keep hb⟩) ?_
  go_simp
  refine plan_read (v := ?_) rfl rfl (fun u hS => by go_simp; rfl) ?_
  go_simp
  refine plan_end (fun u hS => ?_)
  have O := hide hS.o
  clear hS
  go_wp2
  go_ret
  exact ⟨rfl, unhide O⟩

def divD (x y : Int) : Int := if x = 0 then 0 else if y = 0 then lim (decide (x < 0)) else cl ((x * 4294967296).fdiv y)
def divU (x y : Int) : Int := if x = 0 then 0 else if y = 0 then lim (decide (x < 0)) else cl (upN ((x * 4294967296).fdiv y) (decide ((x * 4294967296).fmod y = 0)))
theorem raise_sz {x : Int} (hx : I64 x) : Sz 95 (x * 4294967296) := hx.sz.mul (Sz.pow 32)
theorem fdiv_abs (x y : Int) (h0 : y ≠ 0) : (x.fdiv y).natAbs ≤ x.natAbs + 1 := by
  obtain ⟨hq, _⟩ := div_math x y h0
  have h1 := Nat.div_le_self x.natAbs y.natAbs
  have hl : byN x y ≤ x.natAbs + 1 := by unfold byN; split <;> omega
  rw [← hq]
  cases (!(decide (x < 0) == decide (y < 0)))
  · simp only [cond_false]; omega
  · simp only [cond_true]; omega
theorem Sz.fdiv {k : Nat} {x y : Int} (hx : Sz k x) (h0 : y ≠ 0) : Sz (k + 1) (x.fdiv y) := by
  have h := fdiv_abs x y h0
  have hp := Nat.pow_pos (n := k) (show 0 < 2 by decide)
  unfold Sz at *
  rw [Nat.pow_succ]
  omega
theorem fmod_abs (x y : Int) (h0 : y ≠ 0) : (x.fmod y).natAbs < y.natAbs := by
  obtain ⟨_, hr⟩ := div_math x y h0
  have hl := leftN_lt x y h0
  rw [← hr]
  cases decide (y < 0)
  · simp only [cond_false]; omega
  · simp only [cond_true]; omega
theorem Sz.fmod {k : Nat} {x y : Int} (hy : Sz k y) (h0 : y ≠ 0) : Sz k (x.fmod y) := Nat.le_trans (Nat.le_of_lt (fmod_abs x y h0)) hy
theorem div_told {j k : Nat} (x y : Int) (hx : Sz j x) (hy : Sz k y) (hj : j ≤ 500) (hk : k ≤ 500) (h0 : y ≠ 0) : Ans 91 #[V x, V y] (.tuple #[V (x.fdiv y), V (x.fmod y), .bool true]) := by
  intro u
  have k := DivZ x y (hx.fit (by omega)) (hy.fit (by omega)) u
  have hd : dq x y = true := by
    unfold dq
    rw [fit_true ((hx.fdiv h0).fit (by omega))]
    simp [h0]
  rw [hd] at k
  exact k
theorem same_zero {x : Int} (hx : Fit x) : same (enc x) 0 = decide (x = 0) := by
  have := same_enc hx fit_zero
  rw [show enc 0 = 0 from rfl] at this
  exact this
theorem QuotientDownZ (x y : Int) (hx : I64 x) (hy : I64 y) : Ans 57 #[.int .i64 x, .int .i64 y] (.int .i64 (divD x y)) := by
  intro w
  unfold divD
  by_cases h1 : x = 0
  · rw [if_pos h1, h1]; exact quotient_none_down y w
  · rw [if_neg h1]
    by_cases h2 : y = 0
    · rw [if_pos h2, h2]; exact quotient_zero_down x _ w h1 rfl (limitZ _)
    · rw [if_neg h2]
      exact quotient_by_down x y _ _ (enc y) _ _ true _ w h1 h2 (same_zero ((hy.sz.fmod h2).fit (by decide))) (RaisedZ x hx) (fun u => OfZ y hy.1 hy.2 u) (div_told _ y (raise_sz hx) hy.sz (by decide) (by decide) h2) (BroughtDownZ _ _ (((raise_sz hx).fdiv h2).mono (by decide)))
theorem QuotientUpZ (x y : Int) (hx : I64 x) (hy : I64 y) : Ans 58 #[.int .i64 x, .int .i64 y] (.int .i64 (divU x y)) := by
  intro w
  unfold divU
  by_cases h1 : x = 0
  · rw [if_pos h1, h1]; exact quotient_none_up y w
  · rw [if_neg h1]
    by_cases h2 : y = 0
    · rw [if_pos h2, h2]; exact quotient_zero_up x _ w h1 rfl (limitZ _)
    · rw [if_neg h2]
      exact quotient_by_up x y _ _ (enc y) _ _ true _ w h1 h2 (same_zero ((hy.sz.fmod h2).fit (by decide))) (RaisedZ x hx) (fun u => OfZ y hy.1 hy.2 u) (div_told _ y (raise_sz hx) hy.sz (by decide) (by decide) h2) (BroughtUpZ _ _ (((raise_sz hx).fdiv h2).mono (by decide)))

/-! Roots. -/
theorem root_none_down (x : Int) (w : World) (hx : x < 0) : Calls Tryz.prog 59 #[.int .i64 x] w fun e w' => e = .returned (.int .i64 0) ∧ Below w.heap.size w w' := by
  have D := hide (Env.start w)
  go_enter Tryz.func59, Tryz.ntmps59
  go_wp2
  go_ret
  exact ⟨rfl, (unhide D).o⟩
set_option maxHeartbeats 1000000 in
theorem root_by_down (x v : Int) (a r b : Nat) (E F L : Bool) (w : World) (hx : ¬ x < 0) (hL : Hid (same b a = L))
    (hX : Hid (Ans 92 #[.int .i64 x] (.agg (cells8 a)))) (hR : Hid (Ans 93 #[.agg (cells8 a)] (.tuple #[.agg (cells8 r), .bool E])))
    (hM : Hid (Ans 41 #[.agg (cells8 r), .agg (cells8 r)] (.tuple #[.agg (cells8 b), .bool F])))
    (hB : Hid (Ans 86 #[.agg (cells8 r), .bool L] (.int .i64 v))) :
    Calls Tryz.prog 59 #[.int .i64 x] w fun e w' => e = .returned (.int .i64 v) ∧ Below w.heap.size w w' := by
  have D := hide (Env.start w)
  go_enter Tryz.func59, Tryz.ntmps59
  go_upto_region 6 with (first | (with_reducible refine at_list ?_; apply ldE (unhide D) _ rfl rfl rfl (by repeat (first | exact List.mem_cons_self | apply List.mem_cons_of_mem))) | (with_reducible refine at_list ?_; refine stE (unhide D) _ _ rfl rfl rfl rfl rfl ?_; intro D'; have D := hide D'; clear D') | (go_at_call 92; with_reducible refine (unhide hX _).mono ?_; rintro e w' ⟨he, hb⟩; subst he; have D := hide ((unhide D).keep hb); clear hb) | (go_at_call 93; with_reducible refine (unhide hR _).mono ?_; rintro e w' ⟨he, hb⟩; subst he; have D := hide ((unhide D).keep hb); clear hb) | (go_at_call 41; with_reducible refine (unhide hM _).mono ?_; rintro e w' ⟨he, hb⟩; subst he; have D := hide ((unhide D).keep hb); clear hb))
  refine region_plan (S := Env w _) (l := [0, 1, 2, 3, 4, 5]) (by kernel_rfl) (by kernel_rfl) (by kernel_rfl) (by kernel_rfl) (by kernel_rfl) (by kernel_rfl) (by kernel_rfl) ((unhide D).drew) ?_
  clear D
  refine plan_read rfl rfl (fun u hS => exec_load8 (n := r) 35 (.tmp 4) (hS.blk (by repeat (first | exact List.mem_cons_self | apply List.mem_cons_of_mem))) rfl rfl Tryz.underlying35 rfl iWide) ?_
  refine plan_read rfl rfl (fun u hS => exec_load8 (n := b) 35 (.tmp 6) (hS.blk (by repeat (first | exact List.mem_cons_self | apply List.mem_cons_of_mem))) rfl rfl Tryz.underlying35 rfl iWide) ?_
  refine plan_read rfl rfl (fun u hS => exec_load8 (n := a) 35 (.tmp 3) (hS.blk (by repeat (first | exact List.mem_cons_self | apply List.mem_cons_of_mem))) rfl rfl Tryz.underlying35 rfl iWide) ?_
  go_simp
  refine plan_read (v := .bool L) rfl rfl (fun u hS => exec_eql_wide_is _ (.tmp 24) (.tmp 25) (unhide hL) rfl rfl rfl) ?_
  go_simp
  refine plan_call (v := .int .i64 v) (f := 86) (args := #[.agg (cells8 r), .bool L]) rfl rfl (fun u hS => by go_simp) (fun u hS => (unhide hB u).mono fun _ _ ⟨he, hb⟩ => ⟨he, hS.keep hb⟩) ?_
  go_simp
  refine plan_read (v := ?_) rfl rfl (fun u hS => by go_simp; rfl) ?_
  go_simp
  refine plan_end (fun u hS => ?_)
  have O := hide hS.o
  clear hS
  go_wp2
  go_ret
  exact ⟨rfl, unhide O⟩
theorem root_none_up (x : Int) (w : World) (hx : x < 0) : Calls Tryz.prog 61 #[.int .i64 x] w fun e w' => e = .returned (.int .i64 0) ∧ Below w.heap.size w w' := by
  have D := hide (Env.start w)
  go_enter Tryz.func61, Tryz.ntmps61
  go_wp2
  go_ret
  exact ⟨rfl, (unhide D).o⟩
set_option maxHeartbeats 1000000 in
theorem root_by_up (x v : Int) (a r b : Nat) (E F L : Bool) (w : World) (hx : ¬ x < 0) (hL : Hid (same b a = L))
    (hX : Hid (Ans 92 #[.int .i64 x] (.agg (cells8 a)))) (hR : Hid (Ans 93 #[.agg (cells8 a)] (.tuple #[.agg (cells8 r), .bool E])))
    (hM : Hid (Ans 41 #[.agg (cells8 r), .agg (cells8 r)] (.tuple #[.agg (cells8 b), .bool F])))
    (hB : Hid (Ans 90 #[.agg (cells8 r), .bool L] (.int .i64 v))) :
    Calls Tryz.prog 61 #[.int .i64 x] w fun e w' => e = .returned (.int .i64 v) ∧ Below w.heap.size w w' := by
  have D := hide (Env.start w)
  go_enter Tryz.func61, Tryz.ntmps61
  go_upto_region 6 with (first | (with_reducible refine at_list ?_; apply ldE (unhide D) _ rfl rfl rfl (by repeat (first | exact List.mem_cons_self | apply List.mem_cons_of_mem))) | (with_reducible refine at_list ?_; refine stE (unhide D) _ _ rfl rfl rfl rfl rfl ?_; intro D'; have D := hide D'; clear D') | (go_at_call 92; with_reducible refine (unhide hX _).mono ?_; rintro e w' ⟨he, hb⟩; subst he; have D := hide ((unhide D).keep hb); clear hb) | (go_at_call 93; with_reducible refine (unhide hR _).mono ?_; rintro e w' ⟨he, hb⟩; subst he; have D := hide ((unhide D).keep hb); clear hb) | (go_at_call 41; with_reducible refine (unhide hM _).mono ?_; rintro e w' ⟨he, hb⟩; subst he; have D := hide ((unhide D).keep hb); clear hb))
  refine region_plan (S := Env w _) (l := [0, 1, 2, 3, 4, 5]) (by kernel_rfl) (by kernel_rfl) (by kernel_rfl) (by kernel_rfl) (by kernel_rfl) (by kernel_rfl) (by kernel_rfl) ((unhide D).drew) ?_
  clear D
  refine plan_read rfl rfl (fun u hS => exec_load8 (n := r) 35 (.tmp 4) (hS.blk (by repeat (first | exact List.mem_cons_self | apply List.mem_cons_of_mem))) rfl rfl Tryz.underlying35 rfl iWide) ?_
  refine plan_read rfl rfl (fun u hS => exec_load8 (n := b) 35 (.tmp 6) (hS.blk (by repeat (first | exact List.mem_cons_self | apply List.mem_cons_of_mem))) rfl rfl Tryz.underlying35 rfl iWide) ?_
  refine plan_read rfl rfl (fun u hS => exec_load8 (n := a) 35 (.tmp 3) (hS.blk (by repeat (first | exact List.mem_cons_self | apply List.mem_cons_of_mem))) rfl rfl Tryz.underlying35 rfl iWide) ?_
  go_simp
  refine plan_read (v := .bool L) rfl rfl (fun u hS => exec_eql_wide_is _ (.tmp 24) (.tmp 25) (unhide hL) rfl rfl rfl) ?_
  go_simp
  refine plan_call (v := .int .i64 v) (f := 90) (args := #[.agg (cells8 r), .bool L]) rfl rfl (fun u hS => by go_simp) (fun u hS => (unhide hB u).mono fun _ _ ⟨he, hb⟩ => ⟨he, hS.keep hb⟩) ?_
  go_simp
  refine plan_read (v := ?_) rfl rfl (fun u hS => by go_simp; rfl) ?_
  go_simp
  refine plan_end (fun u hS => ?_)
  have O := hide hS.o
  clear hS
  go_wp2
  go_ret
  exact ⟨rfl, unhide O⟩
/-- The root of a number, as an integer. -/
def rt (x : Int) : Int := (isq x.toNat : Nat)
theorem isq_sz {k : Nat} {x : Int} (hx : Sz k x) : Sz k (rt x) := by
  unfold rt Sz at *
  have := isq_le x.toNat
  rw [Int.natAbs_natCast]
  omega
theorem isq_sq (x : Int) (h : 0 ≤ x) : rt x * rt x ≤ x ∧ x < (rt x + 1) * (rt x + 1) ∧ 0 ≤ rt x := by
  obtain ⟨i1, i2⟩ := isq_spec x.toNat
  unfold rt
  generalize isq x.toNat = r at *
  have e1 : ((r * r : Nat) : Int) = (r : Int) * (r : Int) := Int.natCast_mul r r
  have e2 : (((r + 1) * (r + 1) : Nat) : Int) = ((r : Int) + 1) * ((r : Int) + 1) := by rw [Int.natCast_mul]; rfl
  refine ⟨by rw [← e1]; omega, by rw [← e2]; omega, by omega⟩
theorem sq_sz {k : Nat} {x : Int} (h : 0 ≤ x) (hx : Sz k x) : Sz k (rt x * rt x) := by
  obtain ⟨h1, _, h3⟩ := isq_sq x h
  have h4 := Int.mul_nonneg h3 h3
  unfold Sz at *
  omega
theorem sqrt_told {k : Nat} (x : Int) (h : 0 ≤ x) (hx : Sz k x) (hk : k ≤ 510) : Ans 93 #[V x] (.tuple #[V (rt x), .bool true]) := by
  intro u
  have k := SqrtZ x (hx.fit hk) u
  rw [decide_eq_false (show ¬ x < 0 by omega)] at k
  exact k
theorem sq_told {k : Nat} (x : Int) (h : 0 ≤ x) (hx : Sz k x) (hk : k ≤ 510) : Ans 41 #[V (rt x), V (rt x)] (.tuple #[V (rt x * rt x), .bool true]) := by
  intro u
  have k := MulZ (rt x) (rt x) ((isq_sz hx).fit hk) ((isq_sz hx).fit hk) u
  rw [toldZ_fit ((sq_sz h hx).fit hk)] at k
  exact k
def sqD (x : Int) : Int := if x < 0 then 0 else cl (rt (x * 4294967296))
def sqU (x : Int) : Int := if x < 0 then 0 else cl (upN (rt (x * 4294967296)) (decide (rt (x * 4294967296) * rt (x * 4294967296) = x * 4294967296)))
theorem RootDownZ (x : Int) (hx : I64 x) : Ans 59 #[.int .i64 x] (.int .i64 (sqD x)) := by
  intro w
  unfold sqD
  by_cases h1 : x < 0
  · rw [if_pos h1]; exact root_none_down x w h1
  · rw [if_neg h1]
    have h0 : 0 ≤ x * 4294967296 := by omega
    have hs := raise_sz hx
    exact root_by_down x _ _ _ _ true true _ w h1 (same_enc ((sq_sz h0 hs).fit (by decide)) (hs.fit (by decide))) (RaisedZ x hx) (sqrt_told _ h0 hs (by decide)) (sq_told _ h0 hs (by decide)) (BroughtDownZ _ _ ((isq_sz hs).mono (by decide)))
theorem RootUpZ (x : Int) (hx : I64 x) : Ans 61 #[.int .i64 x] (.int .i64 (sqU x)) := by
  intro w
  unfold sqU
  by_cases h1 : x < 0
  · rw [if_pos h1]; exact root_none_up x w h1
  · rw [if_neg h1]
    have h0 : 0 ≤ x * 4294967296 := by omega
    have hs := raise_sz hx
    exact root_by_up x _ _ _ _ true true _ w h1 (same_enc ((sq_sz h0 hs).fit (by decide)) (hs.fit (by decide))) (RaisedZ x hx) (sqrt_told _ h0 hs (by decide)) (sq_told _ h0 hs (by decide)) (BroughtUpZ _ _ ((isq_sz hs).mono (by decide)))


/-! The faces. -/
theorem face_Mul (x y v : Int) (w : World) (h : Hid (Ans 53 #[.int .i64 x, .int .i64 y] (.int .i64 v))) : Calls Tryz.prog 22 #[.int .i64 x, .int .i64 y] w fun e w' => e = .returned (.int .i64 v) ∧ Below w.heap.size w w' := by
  have D := hide (Env.start w)
  go_enter Tryz.func22, Tryz.ntmps22
  go_wp2_with (first | (go_at_call 53; with_reducible refine (unhide h _).mono ?_; rintro e w' ⟨he, hb⟩; subst he; have D := hide ((unhide D).keep hb); clear hb))
  go_ret
  exact ⟨rfl, (unhide D).o⟩
theorem FixMulZ (x y : Int) (hx : I64 x) (hy : I64 y) : Ans 22 #[.int .i64 x, .int .i64 y] (.int .i64 (mulD x y)) := fun w => face_Mul x y _ w (ProductDownZ x y hx hy)
theorem face_MulUp (x y v : Int) (w : World) (h : Hid (Ans 56 #[.int .i64 x, .int .i64 y] (.int .i64 v))) : Calls Tryz.prog 24 #[.int .i64 x, .int .i64 y] w fun e w' => e = .returned (.int .i64 v) ∧ Below w.heap.size w w' := by
  have D := hide (Env.start w)
  go_enter Tryz.func24, Tryz.ntmps24
  go_wp2_with (first | (go_at_call 56; with_reducible refine (unhide h _).mono ?_; rintro e w' ⟨he, hb⟩; subst he; have D := hide ((unhide D).keep hb); clear hb))
  go_ret
  exact ⟨rfl, (unhide D).o⟩
theorem FixMulUpZ (x y : Int) (hx : I64 x) (hy : I64 y) : Ans 24 #[.int .i64 x, .int .i64 y] (.int .i64 (mulU x y)) := fun w => face_MulUp x y _ w (ProductUpZ x y hx hy)
theorem face_Div (x y v : Int) (w : World) (h : Hid (Ans 57 #[.int .i64 x, .int .i64 y] (.int .i64 v))) : Calls Tryz.prog 25 #[.int .i64 x, .int .i64 y] w fun e w' => e = .returned (.int .i64 v) ∧ Below w.heap.size w w' := by
  have D := hide (Env.start w)
  go_enter Tryz.func25, Tryz.ntmps25
  go_wp2_with (first | (go_at_call 57; with_reducible refine (unhide h _).mono ?_; rintro e w' ⟨he, hb⟩; subst he; have D := hide ((unhide D).keep hb); clear hb))
  go_ret
  exact ⟨rfl, (unhide D).o⟩
theorem FixDivZ (x y : Int) (hx : I64 x) (hy : I64 y) : Ans 25 #[.int .i64 x, .int .i64 y] (.int .i64 (divD x y)) := fun w => face_Div x y _ w (QuotientDownZ x y hx hy)
theorem face_DivUp (x y v : Int) (w : World) (h : Hid (Ans 58 #[.int .i64 x, .int .i64 y] (.int .i64 v))) : Calls Tryz.prog 27 #[.int .i64 x, .int .i64 y] w fun e w' => e = .returned (.int .i64 v) ∧ Below w.heap.size w w' := by
  have D := hide (Env.start w)
  go_enter Tryz.func27, Tryz.ntmps27
  go_wp2_with (first | (go_at_call 58; with_reducible refine (unhide h _).mono ?_; rintro e w' ⟨he, hb⟩; subst he; have D := hide ((unhide D).keep hb); clear hb))
  go_ret
  exact ⟨rfl, (unhide D).o⟩
theorem FixDivUpZ (x y : Int) (hx : I64 x) (hy : I64 y) : Ans 27 #[.int .i64 x, .int .i64 y] (.int .i64 (divU x y)) := fun w => face_DivUp x y _ w (QuotientUpZ x y hx hy)
theorem face_Sqrt (x v : Int) (w : World) (h : Hid (Ans 59 #[.int .i64 x] (.int .i64 v))) : Calls Tryz.prog 28 #[.int .i64 x] w fun e w' => e = .returned (.int .i64 v) ∧ Below w.heap.size w w' := by
  have D := hide (Env.start w)
  go_enter Tryz.func28, Tryz.ntmps28
  go_wp2_with (first | (go_at_call 59; with_reducible refine (unhide h _).mono ?_; rintro e w' ⟨he, hb⟩; subst he; have D := hide ((unhide D).keep hb); clear hb))
  go_ret
  exact ⟨rfl, (unhide D).o⟩
theorem FixSqrtZ (x : Int) (hx : I64 x) : Ans 28 #[.int .i64 x] (.int .i64 (sqD x)) := fun w => face_Sqrt x _ w (RootDownZ x hx)
theorem face_SqrtUp (x v : Int) (w : World) (h : Hid (Ans 61 #[.int .i64 x] (.int .i64 v))) : Calls Tryz.prog 30 #[.int .i64 x] w fun e w' => e = .returned (.int .i64 v) ∧ Below w.heap.size w w' := by
  have D := hide (Env.start w)
  go_enter Tryz.func30, Tryz.ntmps30
  go_wp2_with (first | (go_at_call 61; with_reducible refine (unhide h _).mono ?_; rintro e w' ⟨he, hb⟩; subst he; have D := hide ((unhide D).keep hb); clear hb))
  go_ret
  exact ⟨rfl, (unhide D).o⟩
theorem FixSqrtUpZ (x : Int) (hx : I64 x) : Ans 30 #[.int .i64 x] (.int .i64 (sqU x)) := fun w => face_SqrtUp x _ w (RootUpZ x hx)

end Go.Proofs.YtlekbhdchkdnnaaGreatDoor
