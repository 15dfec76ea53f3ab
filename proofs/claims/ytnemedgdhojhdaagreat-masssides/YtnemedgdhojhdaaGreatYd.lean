/- How many limbs and bits are used: the numbers, and divide for all numbers. The contract of length of package wide: how many bits a number has. The order of numbers by their limbs, and Newton's way to the root: the numbers. No Go in this text. The contract of root of package wide: Newton's way. -/
import Derived.Test.YtnemedgdhojhdaaGreatWw
import Derived.Deep.CutBlock
namespace Go.Proofs.YtnemedgdhojhdaaGreat
open Go.RowKit
set_option maxRecDepth 4000

theorem used_spec (x k : Nat) (h : x < 2 ^ (64 * k)) : x < 2 ^ (64 * usedTo x k) ∧ ∀ j, usedTo x k = j + 1 → 2 ^ (64 * j) ≤ x := by
  induction k with
  | zero => exact ⟨by simpa [usedTo] using h, fun j hj => by simp [usedTo] at hj⟩
  | succ k ih =>
    have hP : 0 < 2 ^ (64 * k) := Nat.pow_pos (by decide)
    unfold usedTo
    by_cases hz : lm x k = 0
    · rw [if_pos hz]
      refine ih ?_
      have h1 : x / 2 ^ (64 * k) < 18446744073709551616 := by
        rw [Nat.div_lt_iff_lt_mul hP, Nat.mul_comm, ← pow_step]; exact h
      have h2 : x / 2 ^ (64 * k) = 0 := by
        unfold lm at hz
        generalize x / 2 ^ (64 * k) = q at *
        omega
      rcases Nat.lt_or_ge x (2 ^ (64 * k)) with h3 | h3
      · exact h3
      · have := Nat.div_pos h3 hP; omega
    · rw [if_neg hz]
      refine ⟨h, fun j hj => ?_⟩
      have e : j = k := by omega
      subst e
      rcases Nat.lt_or_ge x (2 ^ (64 * j)) with h3 | h3
      · exfalso; apply hz; unfold lm; rw [Nat.div_eq_of_lt h3]; rfl
      · exact h3

/-- The bits that the divisor is raised by. -/
structure Norm (y n s : Nat) : Prop where
  eq : 64 - blen (lmN y n) = s
  s64 : s < 64
  lt : y * 2 ^ s < 2 ^ (64 * (n + 1))
  top : 9223372036854775808 ≤ lmN (y * 2 ^ s) n

theorem norm_of (y n : Nat) (h1 : y < 2 ^ (64 * (n + 1))) (h2 : 2 ^ (64 * n) ≤ y) : Norm y n (64 - blen (lmN y n)) := by
  have hP : 0 < 2 ^ (64 * n) := Nat.pow_pos (by decide)
  have ht : y / 2 ^ (64 * n) < 18446744073709551616 := by rw [Nat.div_lt_iff_lt_mul hP, Nat.mul_comm, ← pow_step]; exact h1
  have hl : lmN y n = y / 2 ^ (64 * n) := by unfold lmN; rw [Nat.mod_eq_of_lt ht]
  have hpos : 1 ≤ lmN y n := by rw [hl]; exact Nat.div_pos h2 hP
  have hb1 : blen (lmN y n) ≤ 64 := (blen_lt _ _).2 (lmN_lt _ _)
  have hb0 : 1 ≤ blen (lmN y n) := by
    rcases Nat.eq_zero_or_pos (blen (lmN y n)) with h | h
    · have := (blen_lt (lmN y n) 0).1 (by omega); simp at this; omega
    · exact h
  have hu := (blen_lt (lmN y n) (blen (lmN y n))).1 (Nat.le_refl _)
  have hd : 2 ^ (blen (lmN y n) - 1) ≤ lmN y n := by
    rcases Nat.lt_or_ge (lmN y n) (2 ^ (blen (lmN y n) - 1)) with h | h
    · have := (blen_lt (lmN y n) (blen (lmN y n) - 1)).2 h; omega
    · exact h
  generalize hbb : blen (lmN y n) = b at *
  rw [hl] at hu hd hpos
  have hs : (64 - b) + b = 64 := by omega
  have e1 : 2 ^ (b - 1) * 2 ^ (64 - b) = 9223372036854775808 := by rw [← Nat.pow_add, show b - 1 + (64 - b) = 63 by omega]
  have e2 : 2 ^ b * 2 ^ (64 - b) = 18446744073709551616 := by rw [← Nat.pow_add, show b + (64 - b) = 64 by omega]
  have hS : 0 < 2 ^ (64 - b) := Nat.pow_pos (by decide)
  have hlt : y * 2 ^ (64 - b) < 2 ^ (64 * (n + 1)) := by
    have : y < 2 ^ b * 2 ^ (64 * n) := (Nat.div_lt_iff_lt_mul hP).1 hu
    rw [pow_step, ← e2]
    have h3 := Nat.mul_lt_mul_of_pos_right this hS
    rw [show 2 ^ (64 * n) * (2 ^ b * 2 ^ (64 - b)) = 2 ^ b * 2 ^ (64 * n) * 2 ^ (64 - b) by rw [← Nat.mul_assoc, Nat.mul_comm (2 ^ (64 * n))]]
    exact h3
  refine ⟨by rw [hbb], by omega, hlt, ?_⟩
  have ht2 : y * 2 ^ (64 - b) / 2 ^ (64 * n) < 18446744073709551616 := by rw [Nat.div_lt_iff_lt_mul hP, Nat.mul_comm 18446744073709551616, ← pow_step]; exact hlt
  unfold lmN
  rw [Nat.mod_eq_of_lt ht2, Nat.le_div_iff_mul_le hP, ← e1]
  have h4 : 2 ^ (b - 1) * 2 ^ (64 * n) ≤ y := Nat.le_trans (Nat.mul_le_mul_right _ hd) (Nat.div_mul_le_self _ _)
  rw [Nat.mul_right_comm]
  exact Nat.mul_le_mul_right _ h4

theorem lm_above (x s k k' : Nat) (hk : k' = k + 1) (hx : x < 2 ^ (64 * k')) (hs : s < 64) : lm (x * 2 ^ s) k' = lm x k / 2 ^ (64 - s) := by
  subst hk
  have hP : 0 < 2 ^ (64 * k) := Nat.pow_pos (by decide)
  have hS : 0 < 2 ^ s := Nat.pow_pos (by decide)
  have e2 : 2 ^ s * 2 ^ (64 - s) = 18446744073709551616 := by rw [← Nat.pow_add, show s + (64 - s) = 64 by omega]
  have ht : x / 2 ^ (64 * k) < 18446744073709551616 := by rw [Nat.div_lt_iff_lt_mul hP, Nat.mul_comm, ← pow_step]; exact hx
  have h1 : x * 2 ^ s / 2 ^ (64 * (k + 1)) = x / 2 ^ (64 * k) / 2 ^ (64 - s) := by
    rw [pow_step, ← e2, show 2 ^ (64 * k) * (2 ^ s * 2 ^ (64 - s)) = 2 ^ s * (2 ^ (64 * k) * 2 ^ (64 - s)) by rw [Nat.mul_left_comm], ← Nat.div_div_eq_div_mul, Nat.mul_div_cancel _ hS, Nat.div_div_eq_div_mul]
  unfold lm
  rw [h1, Nat.mod_eq_of_lt ht, Nat.mod_eq_of_lt (Nat.lt_of_le_of_lt (Nat.div_le_self _ _) ht), Int.natCast_ediv, Int.natCast_pow]
  rfl

theorem divide_any (x y : Nat) (w : World) (hx : x < M) (hy : y < M) (hy0 : 0 < y) :
    Calls Tryz.prog 168 #[W x, W y] w fun e w' => e = .returned (.tuple #[.agg (cells8 (x / y)), .agg (cells8 (x % y))]) ∧ Below w.heap.size w w' := by
  have hx8 : ∀ k, k = 8 → x < 2 ^ (64 * k) := fun k hk => by rw [hk, ← M_pow8]; exact hx
  have hy8 : y < 2 ^ (64 * 8) := by rw [← M_pow8]; exact hy
  obtain ⟨hxu, hxj⟩ := used_spec x 8 (hx8 8 rfl)
  obtain ⟨hyu, hyj⟩ := used_spec y 8 hy8
  have hu8 := usedTo_le y 8
  cases hn : usedTo y 8 with
  | zero => rw [hn] at hyu; simp at hyu; omega
  | succ n =>
    rw [hn] at hyu hu8
    have hlow := hyj n hn
    have N := norm_of y n hyu hlow
    refine divide_core x y n (usedTo x 8) _ w hn rfl N.eq N.s64 (by omega) hx hy N.top N.lt hy0 ?_ (lm_above x _ 7 8 rfl (hx8 8 rfl) N.s64)
    show x < y * 2 ^ (64 * (usedTo x 8 - n))
    refine Nat.lt_of_lt_of_le hxu (Nat.le_trans ?_ (Nat.mul_le_mul_right _ hlow))
    rw [← Nat.pow_add]
    exact Nat.pow_le_pow_right (by decide) (by omega)

end Go.Proofs.YtnemedgdhojhdaaGreat

namespace Go.Proofs.YtnemedgdhojhdaaGreat
open Go.RowKit
set_option maxRecDepth 4000

end Go.Proofs.YtnemedgdhojhdaaGreat

namespace Go.Proofs.YtnemedgdhojhdaaGreat
open Go.RowKit
set_option maxRecDepth 4000

theorem amgm (A B t : Nat) (h : A + B ≤ 2 * t) : A * B ≤ t * t := by
  rcases Nat.le_total A t with ha | ha
  · obtain ⟨d, rfl⟩ := Nat.exists_eq_add_of_le ha
    have h1 : A * B ≤ A * (A + 2 * d) := Nat.mul_le_mul_left _ (by omega)
    have h2 : A * (A + 2 * d) = A * A + 2 * (A * d) := by rw [Nat.mul_add, Nat.mul_left_comm]
    have h3 : (A + d) * (A + d) = A * A + 2 * (A * d) + d * d := by rw [Nat.add_mul, Nat.mul_add, Nat.mul_add, Nat.mul_comm d A]; omega
    omega
  · have hb : B ≤ t := by omega
    obtain ⟨d, rfl⟩ := Nat.exists_eq_add_of_le hb
    have h1 : A * B ≤ (B + 2 * d) * B := Nat.mul_le_mul_right _ (by omega)
    have h2 : (B + 2 * d) * B = B * B + 2 * (B * d) := by rw [Nat.add_mul, Nat.mul_assoc, Nat.mul_comm d B]
    have h3 : (B + d) * (B + d) = B * B + 2 * (B * d) + d * d := by rw [Nat.add_mul, Nat.mul_add, Nat.mul_add, Nat.mul_comm d B]; omega
    omega

/-- What Newton's step leaves: the root is not above it. -/
theorem newton_down (x r : Nat) (hr : 0 < r) : x < ((r + x / r) / 2 + 1) * ((r + x / r) / 2 + 1) := by
  have h1 : x < r * (x / r + 1) := Nat.lt_mul_div_succ x hr
  exact Nat.lt_of_lt_of_le h1 (amgm r (x / r + 1) _ (by omega))

theorem newton_pos (x r : Nat) (hr : 0 < r) (hx : 0 < x) : 0 < (r + x / r) / 2 := by
  rcases Nat.lt_or_ge 1 r with h | h
  · generalize x / r = q
    omega
  · have : r = 1 := by omega
    subst this
    rw [Nat.div_one]
    omega

/-- The quotient is hardly above the divisor. -/
theorem newton_small (x r : Nat) (hr : 0 < r) (h : x < (r + 1) * (r + 1)) : x / r ≤ r + 2 := by
  have : x / r < r + 3 := by
    rw [Nat.div_lt_iff_lt_mul hr]
    have h1 : (r + 1) * (r + 1) = r * r + 2 * r + 1 := by rw [Nat.add_mul, Nat.mul_add]; omega
    have h2 : (r + 3) * r = r * r + 3 * r := by rw [Nat.add_mul]
    omega
  omega

/-- There is one root alone. -/
theorem root_one (x a b : Nat) (ha : a * a ≤ x) (hb : x < (b + 1) * (b + 1)) : a ≤ b := by
  rcases Nat.lt_or_ge b a with h | h
  · have : (b + 1) * (b + 1) ≤ a * a := Nat.mul_le_mul h h
    omega
  · exact h

end Go.Proofs.YtnemedgdhojhdaaGreat

namespace Go.Proofs.YtnemedgdhojhdaaGreat
open Go.RowKit
set_option maxRecDepth 4000

theorem bOne : Tryz.prog.built 157 [(0, .int .u64 1)] = some (cells8 1) := by kernel_rfl

/-- The number that limbs hold. -/
def numOf : List Value → Nat
  | [] => 0
  | v :: r => (intOf v).toNat + 18446744073709551616 * numOf r
def numAt (w : World) (g : Nat) : Nat := match w.heap[g]? with
  | some (.cells cs _ _) => numOf cs.toList
  | _ => 0
structure Rt (w0 : World) (g c x r : Nat) (w : World) : Prop where
  x : Blk w g 157 (cells8 x)
  o : Blk w (g + 1) 157 (cells8 0)
  r : Blk w c 157 (cells8 r)
  b : Below g w0 w
  gc : g + 1 < c
theorem Rt.keep {w0 w w' : World} {g c x r : Nat} (h : Rt w0 g c x r w) (hb : Below w.heap.size w w') : Rt w0 g c x r w' :=
  ⟨h.x.below hb h.x.lt, h.o.below hb h.o.lt, h.r.below hb h.r.lt, h.b.trans (hb.mono (Nat.le_of_lt h.x.lt)), h.gc⟩
theorem Rt.put {w0 w : World} {g c x r : Nat} (h : Rt w0 g c x r w) (n : Nat) : Rt w0 g c x n (w.setRow c (cells8 n)) := by
  have := h.gc
  exact ⟨h.x.rowOther _ (by omega), h.o.rowOther _ (by omega), h.r.row _, below_row h.b (by omega) _, h.gc⟩

structure Rs (w0 : World) (g x : Nat) (w : World) : Prop where
  x : Blk w g 157 (cells8 x)
  o : Blk w (g + 1) 157 (cells8 0)
  b : Below g w0 w
theorem Rs.keep {w0 w w' : World} {g x : Nat} (h : Rs w0 g x w) (hb : Below w.heap.size w w') : Rs w0 g x w' :=
  ⟨h.x.below hb h.x.lt, h.o.below hb h.o.lt, h.b.trans (hb.mono (Nat.le_of_lt h.x.lt))⟩
theorem Rs.start (w : World) (x : Nat) : Rs w w.heap.size x ((w.alloc (.cells (cells8 x) 157)).alloc
    (.cells #[.int .u64 0, .int .u64 0, .int .u64 0, .int .u64 0, .int .u64 0, .int .u64 0, .int .u64 0, .int .u64 0] 157)) :=
  ⟨Blk.first2 _ _ _ _, cells8_0 ▸ Blk.second2 _ _ _ _, below2 _ _ _⟩

/-- Where the way is: not below the root, and above 0. -/
structure Nw (x r : Nat) : Prop where
  pos : 0 < r
  le : r ≤ 2 ^ 256
  up : x < (r + 1) * (r + 1)
theorem Nw.lt {x r : Nat} (h : Nw x r) : r < M := Nat.lt_of_le_of_lt h.le (by decide)
theorem Nw.sum {x r : Nat} (h : Nw x r) : r + x / r < M := by
  have h1 := newton_small x r h.pos h.up
  have h2 := h.le
  have h3 : 2 ^ 256 + (2 ^ 256 + 2) < M := by decide
  generalize 2 ^ 256 = P at *
  omega
theorem Nw.next {x r : Nat} (h : Nw x r) (hx : 0 < x) (hlt : (r + x / r) / 2 < r) : Nw x ((r + x / r) / 2) :=
  ⟨newton_pos x r h.pos hx, Nat.le_trans (Nat.le_of_lt hlt) h.le, newton_down x r h.pos⟩

end Go.Proofs.YtnemedgdhojhdaaGreat
