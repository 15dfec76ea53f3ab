/- How many limbs and bits are used: the numbers, and divide for all numbers. The contract of length of package wide: how many bits a number has. The order of numbers by their limbs, and Newton's way to the root: the numbers. No Go in this text. The contract of root of package wide: Newton's way. -/
import Derived.Test.YtnemedgdhojhdaaGreatWw
import Derived.Deep.CutBlock
namespace Go.Proofs.YtnemedgdhojhdaaGreat
open Go.RowKit
set_option maxRecDepth 4000

theorem used_spec (x k : Nat) (h : x < 2 ^ (64 * k)) : x < 2 ^ (64 * usedTo x k) ∧ ∀ j, usedTo x k = j + 1 → 2 ^ (64 * j) ≤ x := by
  induction k with
  | zero => exact ⟨by simpa [usedTo] using h, fun j hj => by simp [usedTo] at hj⟩
  | succ k ih =>
    have hP : 0 < 2 ^ (64 * k) := Nat.pow_pos (by decide)
    unfold usedTo
    by_cases hz : lm x k = 0
    · rw [if_pos hz]
      refine ih ?_
      have h1 : x / 2 ^ (64 * k) < 18446744073709551616 := by
        rw [Nat.div_lt_iff_lt_mul hP, Nat.mul_comm, ← pow_step]; exact h
      have h2 : x / 2 ^ (64 * k) = 0 := by
        unfold lm at hz
        generalize x / 2 ^ (64 * k) = q at *
        omega
      rcases Nat.lt_or_ge x (2 ^ (64 * k)) with h3 | h3
      · exact h3
      · have := Nat.div_pos h3 hP; omega
    · rw [if_neg hz]
      refine ⟨h, fun j hj => ?_⟩
      have e : j = k := by omega
      subst e
      rcases Nat.lt_or_ge x (2 ^ (64 * j)) with h3 | h3
      · exfalso; apply hz; unfold lm; rw [Nat.div_eq_of_lt h3]; rfl
      · exact h3

/-- The bits that the divisor is raised by. -/
structure Norm (y n s : Nat) : Prop where
  eq : 64 - blen (lmN y n) = s
  s64 : s < 64
  lt : y * 2 ^ s < 2 ^ (64 * (n + 1))
  top : 9223372036854775808 ≤ lmN (y * 2 ^ s) n

theorem norm_of (y n : Nat) (h1 : y < 2 ^ (64 * (n + 1))) (h2 : 2 ^ (64 * n) ≤ y) : Norm y n (64 - blen (lmN y n)) := by
  have hP : 0 < 2 ^ (64 * n) := Nat.pow_pos (by decide)
  have ht : y / 2 ^ (64 * n) < 18446744073709551616 := by rw [Nat.div_lt_iff_lt_mul hP, Nat.mul_comm, ← pow_step]; exact h1
  have hl : lmN y n = y / 2 ^ (64 * n) := by unfold lmN; rw [Nat.mod_eq_of_lt ht]
  have hpos : 1 ≤ lmN y n := by rw [hl]; exact Nat.div_pos h2 hP
  have hb1 : blen (lmN y n) ≤ 64 := (blen_lt _ _).2 (lmN_lt _ _)
  have hb0 : 1 ≤ blen (lmN y n) := by
    rcases Nat.eq_zero_or_pos (blen (lmN y n)) with h | h
    · have := (blen_lt (lmN y n) 0).1 (by omega); simp at this; omega
    · exact h
  have hu := (blen_lt (lmN y n) (blen (lmN y n))).1 (Nat.le_refl _)
  have hd : 2 ^ (blen (lmN y n) - 1) ≤ lmN y n := by
    rcases Nat.lt_or_ge (lmN y n) (2 ^ (blen (lmN y n) - 1)) with h | h
    · have := (blen_lt (lmN y n) (blen (lmN y n) - 1)).2 h; omega
    · exact h
  generalize hbb : blen (lmN y n) = b at *
  rw [hl] at hu hd hpos
  have hs : (64 - b) + b = 64 := by omega
  have e1 : 2 ^ (b - 1) * 2 ^ (64 - b) = 9223372036854775808 := by rw [← Nat.pow_add, show b - 1 + (64 - b) = 63 by omega]
  have e2 : 2 ^ b * 2 ^ (64 - b) = 18446744073709551616 := by rw [← Nat.pow_add, show b + (64 - b) = 64 by omega]
  have hS : 0 < 2 ^ (64 - b) := Nat.pow_pos (by decide)
  have hlt : y * 2 ^ (64 - b) < 2 ^ (64 * (n + 1)) := by
    have : y < 2 ^ b * 2 ^ (64 * n) := (Nat.div_lt_iff_lt_mul hP).1 hu
    rw [pow_step, ← e2]
    have h3 := Nat.mul_lt_mul_of_pos_right this hS
    rw [show 2 ^ (64 * n) * (2 ^ b * 2 ^ (64 - b)) = 2 ^ b * 2 ^ (64 * n) * 2 ^ (64 - b) by rw [← Nat.mul_assoc, Nat.mul_comm (2 ^ (64 * n))]]
    exact h3
  refine ⟨by rw [hbb], by omega, hlt, ?_⟩
  have ht2 : y * 2 ^ (64 - b) / 2 ^ (64 * n) < 18446744073709551616 := by rw [Nat.div_lt_iff_lt_mul hP, Nat.mul_comm 18446744073709551616, ← pow_step]; exact hlt
  unfold lmN
  rw [Nat.mod_eq_of_lt ht2, Nat.le_div_iff_mul_le hP, ← e1]
  have h4 : 2 ^ (b - 1) * 2 ^ (64 * n) ≤ y := Nat.le_trans (Nat.mul_le_mul_right _ hd) (Nat.div_mul_le_self _ _)
  rw [Nat.mul_right_comm]
  exact Nat.mul_le_mul_right _ h4

theorem lm_above (x s k k' : Nat) (hk : k' = k + 1) (hx : x < 2 ^ (64 * k')) (hs : s < 64) : lm (x * 2 ^ s) k' = lm x k / 2 ^ (64 - s) := by
  subst hk
  have hP : 0 < 2 ^ (64 * k) := Nat.pow_pos (by decide)
  have hS : 0 < 2 ^ s := Nat.pow_pos (by decide)
  have e2 : 2 ^ s * 2 ^ (64 - s) = 18446744073709551616 := by rw [← Nat.pow_add, show s + (64 - s) = 64 by omega]
  have ht : x / 2 ^ (64 * k) < 18446744073709551616 := by rw [Nat.div_lt_iff_lt_mul hP, Nat.mul_comm, ← pow_step]; exact hx
  have h1 : x * 2 ^ s / 2 ^ (64 * (k + 1)) = x / 2 ^ (64 * k) / 2 ^ (64 - s) := by
    rw [pow_step, ← e2, show 2 ^ (64 * k) * (2 ^ s * 2 ^ (64 - s)) = 2 ^ s * (2 ^ (64 * k) * 2 ^ (64 - s)) by rw [Nat.mul_left_comm], ← Nat.div_div_eq_div_mul, Nat.mul_div_cancel _ hS, Nat.div_div_eq_div_mul]
  unfold lm
  rw [h1, Nat.mod_eq_of_lt ht, Nat.mod_eq_of_lt (Nat.lt_of_le_of_lt (Nat.div_le_self _ _) ht), Int.natCast_ediv, Int.natCast_pow]
  rfl

theorem divide_any (x y : Nat) (w : World) (hx : x < M) (hy : y < M) (hy0 : 0 < y) :
    Calls Tryz.prog 168 #[W x, W y] w fun e w' => e = .returned (.tuple #[.agg (cells8 (x / y)), .agg (cells8 (x % y))]) ∧ Below w.heap.size w w' := by
  have hx8 : ∀ k, k = 8 → x < 2 ^ (64 * k) := fun k hk => by rw [hk, ← M_pow8]; exact hx
  have hy8 : y < 2 ^ (64 * 8) := by rw [← M_pow8]; exact hy
  obtain ⟨hxu, hxj⟩ := used_spec x 8 (hx8 8 rfl)
  obtain ⟨hyu, hyj⟩ := used_spec y 8 hy8
  have hu8 := usedTo_le y 8
  cases hn : usedTo y 8 with
  | zero => rw [hn] at hyu; simp at hyu; omega
  | succ n =>
    rw [hn] at hyu hu8
    have hlow := hyj n hn
    have N := norm_of y n hyu hlow
    refine divide_core x y n (usedTo x 8) _ w hn rfl N.eq N.s64 (by omega) hx hy N.top N.lt hy0 ?_ (lm_above x _ 7 8 rfl (hx8 8 rfl) N.s64)
    show x < y * 2 ^ (64 * (usedTo x 8 - n))
    refine Nat.lt_of_lt_of_le hxu (Nat.le_trans ?_ (Nat.mul_le_mul_right _ hlow))
    rw [← Nat.pow_add]
    exact Nat.pow_le_pow_right (by decide) (by omega)

end Go.Proofs.YtnemedgdhojhdaaGreat

namespace Go.Proofs.YtnemedgdhojhdaaGreat
open Go.RowKit
set_option maxRecDepth 4000

theorem blen_split (x n : Nat) (h2 : 2 ^ n ≤ x) : blen x = n + blen (x / 2 ^ n) := by
  have hP : 0 < 2 ^ n := Nat.pow_pos (by decide)
  have key : ∀ k, blen x ≤ n + k ↔ blen (x / 2 ^ n) ≤ k := fun k => by
    rw [blen_lt, blen_lt, Nat.div_lt_iff_lt_mul hP, Nat.pow_add, Nat.mul_comm (2 ^ n)]
  have hge : n ≤ blen x := by
    rcases Nat.lt_or_ge (blen x) n with h | h
    · have h3 := (blen_lt x n).1 (by omega); omega
    · exact h
  apply Nat.le_antisymm
  · exact (key _).2 (Nat.le_refl _)
  · have := (key (blen x - n)).1 (by omega)
    omega

theorem length_core (x n : Nat) (w : World) (hn : Hid (usedTo x 8 = n + 1)) (hn8 : n < 8) (hl : Hid (((n : Int) * 64 + (blen (lmN x n) : Int)) = (blen x : Int))) (hb : blen (lmN x n) ≤ 64) :
    Calls Tryz.prog 174 #[W x] w fun e w' => e = .returned (.int .i64 (blen x : Nat)) ∧ Below w.heap.size w w' := by
  have hU : Hid (∀ u, Calls Tryz.prog 176 #[W x] u fun e w' => e = .returned (.int .i64 ((n : Int) + 1)) ∧ Below u.heap.size u w') := fun u => (used_any x u).mono fun e w' ⟨he, hb⟩ => ⟨by rw [he, unhide hn]; rfl, hb⟩
  have hZ : Hid (∀ u, Calls Tryz.prog 187 #[.int .u64 (lm x n)] u fun e w' => e = .returned (.int .i64 (blen (lmN x n) : Int)) ∧ w' = u) := fun u => len64_any (lmN x n) (lmN_lt _ _) u
  have hw1 : IntKind.i64.wrap ((n : Int) + 1 - 1) = (n : Int) := by rw [IntKind.wrap_i64]; omega
  have hw1' : IntKind.i64.wrap (n : Int) = (n : Int) := by rw [IntKind.wrap_i64]; omega
  have hw2 : IntKind.i64.wrap ((n : Int) * 64) = (n : Int) * 64 := by rw [IntKind.wrap_i64]; omega
  generalize blen (lmN x n) = b at *
  have hw3 : IntKind.i64.wrap ((n : Int) * 64 + (b : Int)) = (blen x : Int) := by rw [IntKind.wrap_i64, ← unhide hl]; omega
  have hni : (n : Int) < 8 := by omega
  have hne : ¬ ((n : Int) + 1 = 0) := by omega
  have hne' : ((n : Int) + 1 == 0) = false := by simp; omega
  go_enter Tryz.func174, Tryz.ntmps174
  go_upto_region 1 with fail
  have D0 := hide (Blk.new w 157 (cells8 x))
  go_upto_region 2 with (first
    | refine ld8 157 (.tmp 1) (unhide D0) rfl rfl rfl Tryz.underlying157 rfl iLimbs ?_
    | (go_at_call 176; refine (unhide hU _).mono ?_; rintro e w1 ⟨he, hb1⟩; subst he))
  have D1 := hide ((unhide D0).below hb1 (unhide D0).lt)
  have O1 := hide ((((Below.refl w.heap.size w).alloc (Nat.le_refl _) _).trans (hb1.mono (by simp))))
  clear D0 hb1
  have hyn : w1.cell? ⟨w.heap.size, n, none⟩ = some (.int .u64 (lm x n)) := by rw [(unhide D1).cell n, cells8_get x n hn8]
  go_wp2_with (go_at_call 187; refine (unhide hZ _).mono ?_; rintro e w2 ⟨he, hb2⟩; subst he; subst hb2)
  go_ret
  exact ⟨rfl, unhide O1⟩

theorem length_any (x : Nat) (hx : x < M) (w : World) :
    Calls Tryz.prog 174 #[W x] w fun e w' => e = .returned (.int .i64 (blen x : Nat)) ∧ Below w.heap.size w w' := by
  obtain ⟨hxu, hxj⟩ := used_spec x 8 (by rw [← M_pow8]; exact hx)
  have hu8 := usedTo_le x 8
  cases hn : usedTo x 8 with
  | zero =>
    rw [hn] at hxu
    have h0 : x = 0 := by simpa using hxu
    subst h0
    have hU : Hid (∀ u, Calls Tryz.prog 176 #[W 0] u fun e w' => e = .returned (.int .i64 0) ∧ Below u.heap.size u w') := fun u => (used_any 0 u).mono fun e w' ⟨he, hb⟩ => ⟨by rw [he, hn]; rfl, hb⟩
    go_enter Tryz.func174, Tryz.ntmps174
    go_upto_region 1 with fail
    have D0 := hide (Blk.new w 157 (cells8 0))
    go_upto_region 2 with (first
      | refine ld8 157 (.tmp 1) (unhide D0) rfl rfl rfl Tryz.underlying157 rfl iLimbs ?_
      | (go_at_call 176; refine (unhide hU _).mono ?_; rintro e w1 ⟨he, hb1⟩; subst he))
    have O1 := hide ((((Below.refl w.heap.size w).alloc (Nat.le_refl _) _).trans (hb1.mono (by simp))))
    clear D0 hb1
    go_wp2
    go_ret
    exact ⟨rfl, unhide O1⟩
  | succ n =>
    rw [hn] at hxu hu8
    have hlow := hxj n hn
    have hP : 0 < 2 ^ (64 * n) := Nat.pow_pos (by decide)
    have hl : lmN x n = x / 2 ^ (64 * n) := by
      unfold lmN
      rw [Nat.mod_eq_of_lt]
      rw [Nat.div_lt_iff_lt_mul hP, Nat.mul_comm, ← pow_step]; exact hxu
    refine length_core x n w hn (by omega) ?_ ((blen_lt _ _).2 (lmN_lt _ _))
    show ((n : Int) * 64 + (blen (lmN x n) : Int)) = (blen x : Int)
    rw [blen_split x (64 * n) hlow, hl]
    omega

end Go.Proofs.YtnemedgdhojhdaaGreat

namespace Go.Proofs.YtnemedgdhojhdaaGreat
open Go.RowKit
set_option maxRecDepth 4000

theorem low_step (x k : Nat) : x % 2 ^ (64 * (k + 1)) = x % 2 ^ (64 * k) + 2 ^ (64 * k) * lmN x k := by
  unfold lmN
  rw [pow_step, Nat.mod_mul]

theorem cmp_low (x y k : Nat) : cmpTo x y k = if x % 2 ^ (64 * k) < y % 2 ^ (64 * k) then -1 else if y % 2 ^ (64 * k) < x % 2 ^ (64 * k) then 1 else 0 := by
  induction k with
  | zero => simp [cmpTo, Nat.mod_one]
  | succ k ih =>
    have hP : 0 < 2 ^ (64 * k) := Nat.pow_pos (by decide)
    have hx := Nat.mod_lt x hP
    have hy := Nat.mod_lt y hP
    have ex : lm x k = (lmN x k : Int) := rfl
    have ey : lm y k = (lmN y k : Int) := rfl
    rw [low_step, low_step]
    unfold cmpTo
    rw [ih, ex, ey]
    generalize lmN x k = a at *
    generalize lmN y k = b at *
    generalize x % 2 ^ (64 * k) = u at *
    generalize y % 2 ^ (64 * k) = v at *
    generalize 2 ^ (64 * k) = P at *
    rcases Nat.lt_trichotomy a b with h | h | h
    · have : P * (a + 1) ≤ P * b := Nat.mul_le_mul_left _ h
      rw [Nat.mul_add, Nat.mul_one] at this
      rw [if_pos (by omega), if_pos (by omega)]
    · subst h
      rw [if_neg (by omega), if_neg (by omega)]
      simp
    · have : P * (b + 1) ≤ P * a := Nat.mul_le_mul_left _ h
      rw [Nat.mul_add, Nat.mul_one] at this
      rw [if_neg (by omega), if_pos (by omega), if_neg (by omega), if_pos (by omega)]

theorem cmp_of (x y : Nat) (hx : x < M) (hy : y < M) : cmpTo x y 8 = if x < y then -1 else if y < x then 1 else 0 := by
  rw [cmp_low, ← M_pow8, Nat.mod_eq_of_lt hx, Nat.mod_eq_of_lt hy]

theorem amgm (A B t : Nat) (h : A + B ≤ 2 * t) : A * B ≤ t * t := by
  rcases Nat.le_total A t with ha | ha
  · obtain ⟨d, rfl⟩ := Nat.exists_eq_add_of_le ha
    have h1 : A * B ≤ A * (A + 2 * d) := Nat.mul_le_mul_left _ (by omega)
    have h2 : A * (A + 2 * d) = A * A + 2 * (A * d) := by rw [Nat.mul_add, Nat.mul_left_comm]
    have h3 : (A + d) * (A + d) = A * A + 2 * (A * d) + d * d := by rw [Nat.add_mul, Nat.mul_add, Nat.mul_add, Nat.mul_comm d A]; omega
    omega
  · have hb : B ≤ t := by omega
    obtain ⟨d, rfl⟩ := Nat.exists_eq_add_of_le hb
    have h1 : A * B ≤ (B + 2 * d) * B := Nat.mul_le_mul_right _ (by omega)
    have h2 : (B + 2 * d) * B = B * B + 2 * (B * d) := by rw [Nat.add_mul, Nat.mul_assoc, Nat.mul_comm d B]
    have h3 : (B + d) * (B + d) = B * B + 2 * (B * d) + d * d := by rw [Nat.add_mul, Nat.mul_add, Nat.mul_add, Nat.mul_comm d B]; omega
    omega

/-- What Newton's step leaves: the root is not above it. -/
theorem newton_down (x r : Nat) (hr : 0 < r) : x < ((r + x / r) / 2 + 1) * ((r + x / r) / 2 + 1) := by
  have h1 : x < r * (x / r + 1) := Nat.lt_mul_div_succ x hr
  exact Nat.lt_of_lt_of_le h1 (amgm r (x / r + 1) _ (by omega))

theorem newton_stop (x r : Nat) (hr : 0 < r) (h : r ≤ (r + x / r) / 2) : r * r ≤ x := by
  have : r ≤ x / r := by omega
  exact (Nat.le_div_iff_mul_le hr).1 this

theorem newton_pos (x r : Nat) (hr : 0 < r) (hx : 0 < x) : 0 < (r + x / r) / 2 := by
  rcases Nat.lt_or_ge 1 r with h | h
  · generalize x / r = q
    omega
  · have : r = 1 := by omega
    subst this
    rw [Nat.div_one]
    omega

/-- The quotient is hardly above the divisor. -/
theorem newton_small (x r : Nat) (hr : 0 < r) (h : x < (r + 1) * (r + 1)) : x / r ≤ r + 2 := by
  have : x / r < r + 3 := by
    rw [Nat.div_lt_iff_lt_mul hr]
    have h1 : (r + 1) * (r + 1) = r * r + 2 * r + 1 := by rw [Nat.add_mul, Nat.mul_add]; omega
    have h2 : (r + 3) * r = r * r + 3 * r := by rw [Nat.add_mul]
    omega
  omega

theorem newton_start (x : Nat) : x < (2 ^ ((blen x + 1) / 2) + 1) * (2 ^ ((blen x + 1) / 2) + 1) := by
  have h1 := (blen_lt x (blen x)).1 (Nat.le_refl _)
  have h2 : 2 ^ blen x ≤ 2 ^ ((blen x + 1) / 2) * 2 ^ ((blen x + 1) / 2) := by
    rw [← Nat.pow_add]; exact Nat.pow_le_pow_right (by decide) (by omega)
  exact Nat.lt_of_lt_of_le h1 (Nat.le_trans h2 (Nat.mul_le_mul (by omega) (by omega)))

/-- There is one root alone. -/
theorem root_one (x a b : Nat) (ha : a * a ≤ x) (hb : x < (b + 1) * (b + 1)) : a ≤ b := by
  rcases Nat.lt_or_ge b a with h | h
  · have : (b + 1) * (b + 1) ≤ a * a := Nat.mul_le_mul h h
    omega
  · exact h

end Go.Proofs.YtnemedgdhojhdaaGreat

namespace Go.Proofs.YtnemedgdhojhdaaGreat
open Go.RowKit
set_option maxRecDepth 4000

theorem bOne : Tryz.prog.built 157 [(0, .int .u64 1)] = some (cells8 1) := by kernel_rfl

theorem exec_eql_limbs_is {o : Oper} {a : Act} (w : World) (x y : Operand) {n m : Nat} {ty' : TypeId} {b : Bool} (hb : same n m = b) (ho : o.op = .binOp .eql 157 x y ty') (hx : a.eval x = .agg (cells8 n)) (hy : a.eval y = .agg (cells8 m)) :
    (execOp a.eval o).run Tryz.prog w = .ok (.value (.bool b)) w := hb ▸ exec_eql_limbs w x y ho hx hy

/-- The number that limbs hold. -/
def numOf : List Value → Nat
  | [] => 0
  | v :: r => (intOf v).toNat + 18446744073709551616 * numOf r
theorem numOf_from (n c k : Nat) : numOf ((List.range' k c).map fun i => Value.int .u64 (lm n i)) = n / 2 ^ (64 * k) % 2 ^ (64 * c) := by
  induction c generalizing k with
  | zero => simp [numOf, Nat.mod_one]
  | succ c ih =>
    have e : (lm n k).toNat = n / 2 ^ (64 * k) % 18446744073709551616 := rfl
    rw [List.range'_succ, List.map_cons, numOf, ih, pow_step, pow_step, ← Nat.div_div_eq_div_mul, Nat.mul_comm (2 ^ (64 * c)), Nat.mod_mul]
    show (lm n k).toNat + _ = _
    rw [e]
def numAt (w : World) (g : Nat) : Nat := match w.heap[g]? with
  | some (.cells cs _ _) => numOf cs.toList
  | _ => 0
theorem numAt_eq {w : World} {g r : Nat} {t : TypeId} (h : Blk w g t (cells8 r)) (hr : r < M) : numAt w g = r := by
  unfold numAt
  rw [show w.heap[g]? = _ from h]
  have := numOf_from r 8 0
  rw [← M_pow8, Nat.mul_zero, Nat.pow_zero, Nat.div_one, Nat.mod_eq_of_lt hr] at this
  exact this

structure Rt (w0 : World) (g c x r : Nat) (w : World) : Prop where
  x : Blk w g 157 (cells8 x)
  o : Blk w (g + 1) 157 (cells8 0)
  r : Blk w c 157 (cells8 r)
  b : Below g w0 w
  gc : g + 1 < c
theorem Rt.keep {w0 w w' : World} {g c x r : Nat} (h : Rt w0 g c x r w) (hb : Below w.heap.size w w') : Rt w0 g c x r w' :=
  ⟨h.x.below hb h.x.lt, h.o.below hb h.o.lt, h.r.below hb h.r.lt, h.b.trans (hb.mono (Nat.le_of_lt h.x.lt)), h.gc⟩
theorem Rt.put {w0 w : World} {g c x r : Nat} (h : Rt w0 g c x r w) (n : Nat) : Rt w0 g c x n (w.setRow c (cells8 n)) := by
  have := h.gc
  exact ⟨h.x.rowOther _ (by omega), h.o.rowOther _ (by omega), h.r.row _, below_row h.b (by omega) _, h.gc⟩

theorem Rt.row2 {w0 w : World} {g c x r k : Nat} (h : Rt w0 g c x r w) (hc : c < k) (ho : g + 1 < k) (cs cs' : Array Value) : Rt w0 g c x r ((w.setRow k cs).setRow (k + 1) cs') :=
  ⟨(h.x.rowOther _ (by omega)).rowOther _ (by omega), (h.o.rowOther _ (by omega)).rowOther _ (by omega), (h.r.rowOther _ (by omega)).rowOther _ (by omega), below_row (below_row h.b (by omega) _) (by omega) _, h.gc⟩

structure Rs (w0 : World) (g x : Nat) (w : World) : Prop where
  x : Blk w g 157 (cells8 x)
  o : Blk w (g + 1) 157 (cells8 0)
  b : Below g w0 w
theorem Rs.keep {w0 w w' : World} {g x : Nat} (h : Rs w0 g x w) (hb : Below w.heap.size w w') : Rs w0 g x w' :=
  ⟨h.x.below hb h.x.lt, h.o.below hb h.o.lt, h.b.trans (hb.mono (Nat.le_of_lt h.x.lt))⟩
theorem Rs.start (w : World) (x : Nat) : Rs w w.heap.size x ((w.alloc (.cells (cells8 x) 157)).alloc
    (.cells #[.int .u64 0, .int .u64 0, .int .u64 0, .int .u64 0, .int .u64 0, .int .u64 0, .int .u64 0, .int .u64 0] 157)) :=
  ⟨Blk.first2 _ _ _ _, cells8_0 ▸ Blk.second2 _ _ _ _, below2 _ _ _⟩

/-- Where the way is: not below the root, and above 0. -/
structure Nw (x r : Nat) : Prop where
  pos : 0 < r
  le : r ≤ 2 ^ 256
  up : x < (r + 1) * (r + 1)
theorem Nw.lt {x r : Nat} (h : Nw x r) : r < M := Nat.lt_of_le_of_lt h.le (by decide)
theorem Nw.sum {x r : Nat} (h : Nw x r) : r + x / r < M := by
  have h1 := newton_small x r h.pos h.up
  have h2 := h.le
  have h3 : 2 ^ 256 + (2 ^ 256 + 2) < M := by decide
  generalize 2 ^ 256 = P at *
  omega
theorem Nw.next {x r : Nat} (h : Nw x r) (hx : 0 < x) (hlt : (r + x / r) / 2 < r) : Nw x ((r + x / r) / 2) :=
  ⟨newton_pos x r h.pos hx, Nat.le_trans (Nat.le_of_lt hlt) h.le, newton_down x r h.pos⟩

set_option maxHeartbeats 600000 in
theorem root_core (x h p : Nat) (w : World) (hx : Hid (0 < x)) (hM : Hid (x < M)) (hs : Hid (same x 0 = false)) (hh : (blen x + 1) / 2 = h) (hb : blen x ≤ 512) (hp : Hid (2 ^ h = p)) (hst : Hid (Nw x p)) :
    Calls Tryz.prog 156 #[W x] w fun e w' => (∃ r, e = .returned (.agg (cells8 r)) ∧ r * r ≤ x ∧ x < (r + 1) * (r + 1)) ∧ Below w.heap.size w w' := by
  have hL : Hid (∀ u, Calls Tryz.prog 174 #[W x] u fun e w' => e = .returned (.int .i64 (blen x : Int)) ∧ Below u.heap.size u w') := fun u => length_any x (unhide hM) u
  have hW : Hid (∀ u, Calls Tryz.prog 164 #[W 1, .int .i64 (-(h : Int)), .int .u64 0] u fun e w' => e = .returned (.agg (cells8 p)) ∧ Below u.heap.size u w') := fun u => by
    have := win_left 1 h (by decide) (by omega) u
    rw [Nat.one_mul, unhide hp] at this
    exact this
  have hw1 : IntKind.i64.wrap ((blen x : Int) + 1) = (blen x : Int) + 1 := by rw [IntKind.wrap_i64]; omega
  have hw2 : IntKind.i64.wrap (((blen x : Int) + 1).tdiv 2) = (h : Int) := by
    rw [IntKind.wrap_i64, Int.tdiv_eq_ediv_of_nonneg (by omega)]; omega
  have hw3 : IntKind.i64.wrap (-(h : Int)) = -(h : Int) := by rw [IntKind.wrap_i64]; omega
  go_enter Tryz.func156, Tryz.ntmps156
  go_upto_region 1 with fail
  have D0 := hide (Rs.start w x)
  go_wp2_with (first
    | refine bd0 157 rfl rfl bLimbs0 ?_
    | refine wpList_value rfl (exec_eql_limbs_is (n := x) (m := 0) (b := false) _ (.tmp 7) (.tmp 8) (unhide hs) rfl rfl rfl) ?_
    | refine bd1 157 (.const (.int .u64 1)) rfl rfl rfl bOne ?_
    | refine ld8 157 (.tmp 1) (unhide D0).x rfl rfl rfl Tryz.underlying157 rfl iLimbs ?_
    | (go_at_call 174; refine (unhide hL _).mono ?_; rintro e w1 ⟨he, hb1⟩; subst he)
    | (go_at_call 164; refine (unhide hW _).mono ?_; rintro e w2 ⟨he, hb2⟩; subst he)
    | refine st8 (n := p) 157 (.tmp 3) (.tmp 17) (Blk.new w2 157 #[.int .u64 0, .int .u64 0, .int .u64 0, .int .u64 0, .int .u64 0, .int .u64 0, .int .u64 0, .int .u64 0]) rfl rfl rfl rfl rfl iLimbs ?_)
  have D1 : Hid (Rt w w.heap.size w2.heap.size x (p) ((w2.alloc (.cells #[.int .u64 0, .int .u64 0, .int .u64 0, .int .u64 0, .int .u64 0, .int .u64 0, .int .u64 0, .int .u64 0] 157)).setRow w2.heap.size (cells8 (p)))) := by
    have d := ((unhide D0).keep hb1).keep hb2
    have h1 := d.x.lt
    have h2 := d.o.lt
    exact ⟨(d.x.alloc _).rowOther _ (by omega), (d.o.alloc _).rowOther _ (by omega), (Blk.new _ _ _).row _, below_row (d.b.alloc (Nat.le_of_lt d.x.lt) _) (by omega) _, h2⟩
  clear D0 hb1 hb2
  generalize (w2.alloc (.cells #[.int .u64 0, .int .u64 0, .int .u64 0, .int .u64 0, .int .u64 0, .int .u64 0, .int .u64 0, .int .u64 0] 157)).setRow w2.heap.size (cells8 (p)) = w3 at D1 ⊢
  generalize w2.heap.size = c at D1 ⊢
  simp only [Act.put]
  go_loopw [] (fun wr => ∃ r : Nat, Nw x r ∧ Rt w w.heap.size c x r wr) (fun wr => numAt wr c)
  case atStart => exact ⟨_, unhide hst, unhide D1⟩
  case round =>
    obtain ⟨r, N, D⟩ := hrel
    have HN := hide N
    have HD := hide D
    clear N D D1 hL hW hw1 hw2 hw3 hb hh hst
    have hD : Hid (∀ u, Calls Tryz.prog 168 #[W x, W r] u fun e w' => e = .returned (.tuple #[.agg (cells8 (x / r)), .agg (cells8 (x % r))]) ∧ Below u.heap.size u w') := fun u => divide_any x r u (unhide hM) (unhide HN).lt (unhide HN).pos
    have hP : Hid (∀ u, Calls Tryz.prog 162 #[W r, W (x / r)] u fun e w' => e = .returned (.agg (cells8 (r + x / r))) ∧ Below u.heap.size u w') := fun u => plus_any r (x / r) u
    have hV : Hid (∀ u, Calls Tryz.prog 164 #[W (r + x / r), .int .i64 1, .int .u64 0] u fun e w' => e = .returned (.agg (cells8 ((r + x / r) / 2))) ∧ Below u.heap.size u w') := fun u => by
      have := win_right0 (r + x / r) 1 (unhide HN).sum (by decide) u
      rw [Nat.pow_one] at this
      exact this
    have hnM : (r + x / r) / 2 < M := Nat.lt_of_le_of_lt (Nat.div_le_self _ _) (unhide HN).sum
    have hC : Hid (∀ u, Calls Tryz.prog 175 #[W ((r + x / r) / 2), W r] u fun e w' => e = .returned (.int .i64 (if (r + x / r) / 2 < r then -1 else if r < (r + x / r) / 2 then 1 else 0)) ∧ Below u.heap.size u w') := fun u => by
      have := compare_any ((r + x / r) / 2) r u
      rw [cmp_of _ _ hnM (unhide HN).lt] at this
      exact this
    have hrl := hide (unhide HN).lt
    have hdn : Hid ((r + x / r) / 2 < r → Nw x ((r + x / r) / 2)) := fun h => (unhide HN).next (unhide hx) h
    have hsp : Hid (¬ (r + x / r) / 2 < r → r * r ≤ x ∧ x < (r + 1) * (r + 1)) := fun h => ⟨newton_stop x r (unhide HN).pos (by omega), (unhide HN).up⟩
    have hnl := hide hnM
    clear HN hnM
    generalize (r + x / r) / 2 = z at hV hC hdn hsp hnl
    generalize x / r = q at hD hP hV
    generalize x % r = m at hD
    go_upto_region 5 with (first
      | refine ld8 157 (.tmp 1) (unhide HD).x rfl rfl rfl Tryz.underlying157 rfl iLimbs ?_
      | refine ld8 157 (.tmp 3) (unhide HD).r rfl rfl rfl Tryz.underlying157 rfl iLimbs ?_
      | (go_at_call 168; refine (unhide hD _).mono ?_; rintro e w4 ⟨he, hb4⟩; subst he)
      | refine st8 (n := q) 157 (.tmp 4) (.tmp 22) (Blk.first2 w4 157 _ _) rfl rfl rfl rfl rfl iLimbs ?_
      | refine st8 (n := m) 157 (.tmp 5) (.tmp 23) ((Blk.second2 w4 157 _ _).rowOther _ (by omega)) rfl rfl rfl rfl rfl iLimbs ?_)
    have D5 : Hid (Rt w w.heap.size c x r ((((w4.alloc (.cells #[.int .u64 0, .int .u64 0, .int .u64 0, .int .u64 0, .int .u64 0, .int .u64 0, .int .u64 0, .int .u64 0] 157)).alloc (.cells #[.int .u64 0, .int .u64 0, .int .u64 0, .int .u64 0, .int .u64 0, .int .u64 0, .int .u64 0, .int .u64 0] 157)).setRow w4.heap.size (cells8 q)).setRow (w4.heap.size + 1) (cells8 m))) := by
      have d := (unhide HD).keep hb4
      exact (d.keep (below2 _ _ _)).row2 d.r.lt d.o.lt _ _
    have Q5 : Hid (Blk ((((w4.alloc (.cells #[.int .u64 0, .int .u64 0, .int .u64 0, .int .u64 0, .int .u64 0, .int .u64 0, .int .u64 0, .int .u64 0] 157)).alloc (.cells #[.int .u64 0, .int .u64 0, .int .u64 0, .int .u64 0, .int .u64 0, .int .u64 0, .int .u64 0, .int .u64 0] 157)).setRow w4.heap.size (cells8 q)).setRow (w4.heap.size + 1) (cells8 m)) w4.heap.size 157 (cells8 q)) :=
      ((Blk.first2 w4 157 _ _).row _).rowOther _ (by omega)
    have hnu := hide (numAt_eq (unhide HD).r (unhide hrl))
    clear HD hb4 hD
    generalize ((((w4.alloc (.cells #[.int .u64 0, .int .u64 0, .int .u64 0, .int .u64 0, .int .u64 0, .int .u64 0, .int .u64 0, .int .u64 0] 157)).alloc (.cells #[.int .u64 0, .int .u64 0, .int .u64 0, .int .u64 0, .int .u64 0, .int .u64 0, .int .u64 0, .int .u64 0] 157)).setRow w4.heap.size (cells8 q)).setRow (w4.heap.size + 1) (cells8 m)) = w5 at D5 Q5 ⊢
    generalize w4.heap.size = d at Q5 ⊢
    go_upto_region 6 with (first
      | refine ld8 157 (.tmp 3) (unhide D5).r rfl rfl rfl Tryz.underlying157 rfl iLimbs ?_
      | refine ld8 157 (.tmp 4) (unhide Q5) rfl rfl rfl Tryz.underlying157 rfl iLimbs ?_
      | (go_at_call 162; refine (unhide hP _).mono ?_; rintro e w6 ⟨he, hb6⟩; subst he)
      | (go_at_call 164; refine (unhide hV _).mono ?_; rintro e w7 ⟨he, hb7⟩; subst he)
      | refine st8new (n := z) 157 (.tmp 6) (.tmp 27) rfl rfl rfl rfl rfl iLimbs ?_)
    have D6 := hide (((((unhide D5).keep hb6).keep hb7)).keep ((Below.refl _ w7).alloc (Nat.le_refl _) (.cells (cells8 z) 157)))
    have Z6 := hide (Blk.new w7 157 (cells8 z))
    clear D5 Q5 hb6 hb7 hP hV
    generalize w7.alloc (.cells (cells8 z) 157) = w8 at D6 Z6 ⊢
    generalize w7.heap.size = f at Z6 ⊢
    by_cases hlt : z < r
    · simp only [hlt, if_true] at hC
      have hnx := hide (unhide hdn hlt)
      have hme := hide hlt
      clear hdn hsp hlt
      go_wp2_with (first
        | refine ld8 157 (.tmp 6) (unhide Z6) rfl rfl rfl Tryz.underlying157 rfl iLimbs ?_
        | refine ld8 157 (.tmp 3) (unhide D6).r rfl rfl rfl Tryz.underlying157 rfl iLimbs ?_
        | (go_at_call 175; refine (unhide hC _).mono ?_; rintro e w9 ⟨he, hb9⟩; subst he)
        | refine ld8 157 (.tmp 6) ((unhide Z6).below hb9 (unhide Z6).lt) rfl rfl rfl Tryz.underlying157 rfl iLimbs ?_
        | refine st8 (n := z) 157 (.tmp 3) (.tmp 33) ((unhide D6).keep hb9).r rfl rfl rfl rfl rfl iLimbs ?_)
      have D9 := hide (((unhide D6).keep hb9).put z)
      clear D6 hb9
      go_simp
      go_roundw
      case rel => exact ⟨z, unhide hnx, unhide D9⟩
      case measure =>
        rw [unhide hnu, numAt_eq (unhide D9).r (unhide hnl)]
        exact unhide hme
    · simp only [hlt, if_false] at hC
      obtain ⟨v, hv, hv'⟩ : ∃ v : Int, (if r < z then (1 : Int) else 0) = v ∧ 0 ≤ v := ⟨_, rfl, by split <;> omega⟩
      rw [hv] at hC
      have hfin := hide (unhide hsp hlt)
      clear hdn hsp hlt hv
      go_wp2_with (first
        | refine ld8 157 (.tmp 6) (unhide Z6) rfl rfl rfl Tryz.underlying157 rfl iLimbs ?_
        | refine ld8 157 (.tmp 3) (unhide D6).r rfl rfl rfl Tryz.underlying157 rfl iLimbs ?_
        | (go_at_call 175; refine (unhide hC _).mono ?_; rintro e w9 ⟨he, hb9⟩; subst he)
        | refine ld8 157 (.tmp 3) ((unhide D6).keep hb9).r rfl rfl rfl Tryz.underlying157 rfl iLimbs ?_
        | refine st8 (n := r) 157 (.tmp 2) (.tmp 32) ((unhide D6).keep hb9).o rfl rfl rfl rfl rfl iLimbs ?_)
      exact res8 (((unhide D6).keep hb9).o.row _) rfl rfl rfl Tryz.underlying157 rfl iLimbs ⟨⟨r, rfl, unhide hfin⟩, below_row ((unhide D6).keep hb9).b (by omega) _⟩

theorem root_zero (w : World) :
    Calls Tryz.prog 156 #[W 0] w fun e w' => e = .returned (.agg (cells8 0)) ∧ Below w.heap.size w w' := by
  go_enter Tryz.func156, Tryz.ntmps156
  go_upto_region 1 with fail
  have D0 := hide (Rs.start w 0)
  go_wp2_with (first
    | refine bd0 157 rfl rfl bLimbs0 ?_
    | refine wpList_value rfl (exec_eql_limbs_is (n := 0) (m := 0) (b := true) _ (.tmp 7) (.tmp 8) rfl rfl rfl rfl) ?_
    | refine ld8 157 (.tmp 1) (unhide D0).x rfl rfl rfl Tryz.underlying157 rfl iLimbs ?_
    | refine st8 (n := 0) 157 (.tmp 2) (.tmp 10) (unhide D0).o rfl rfl rfl rfl rfl iLimbs ?_)
  exact res8 ((unhide D0).o.row _) rfl rfl rfl Tryz.underlying157 rfl iLimbs ⟨rfl, below_row (unhide D0).b (by omega) _⟩

theorem root_any (x : Nat) (hx : x < M) (w : World) :
    Calls Tryz.prog 156 #[W x] w fun e w' => (∃ r, e = .returned (.agg (cells8 r)) ∧ r * r ≤ x ∧ x < (r + 1) * (r + 1)) ∧ Below w.heap.size w w' := by
  rcases Nat.eq_zero_or_pos x with h0 | h0
  · subst h0
    exact (root_zero w).mono fun e w' ⟨he, hb⟩ => ⟨⟨0, he, by decide, by decide⟩, hb⟩
  have hb := (blen_lt x (64 * 8)).2 (by rw [← M_pow8]; exact hx)
  refine root_core x _ _ w h0 hx ?_ rfl hb rfl ⟨Nat.pow_pos (by decide), Nat.pow_le_pow_right (by decide) (by omega), newton_start x⟩
  show same x 0 = false
  unfold same
  rw [Nat.mod_eq_of_lt hx, Nat.zero_mod]
  simp
  omega

end Go.Proofs.YtnemedgdhojhdaaGreat
