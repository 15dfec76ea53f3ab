/- Package vec: Near. Package vec: what holds of roots, lengths and units, over integers. Package vec's laws: awake. Package vec's laws: VecTriangle. Package vec's laws: VecSame. -/
import Derived.Test.YtnemedgdhojhdaaGreatVn
namespace Go.Proofs.YtnemedgdhojhdaaGreat
open Go.RowKit
set_option maxRecDepth 4000
set_option linter.unusedVariables false

theorem cmpI_is_le (x y : Int) : decide (cmpI x y ≤ 0) = decide (x ≤ y) := by
  unfold cmpI
  by_cases h1 : x < y
  · rw [if_pos h1, decide_eq_true (by decide), decide_eq_true (by omega)]
  · rw [if_neg h1]
    by_cases h2 : y < x
    · rw [if_pos h2, decide_eq_false (by decide), decide_eq_false (by omega)]
    · rw [if_neg h2, decide_eq_true (by decide), decide_eq_true (by omega)]
theorem NearSub (x y : Int) (hx : I64 x) (hy : I64 y) : Ans 206 #[V x, V y] (.tuple #[V (x - y), .bool true]) := fun u => by
  have k := SubZ x y hx.fit hy.fit u
  rw [toldZ_fit ((hx.sz.sub hy.sz).fit (by decide))] at k
  exact k
theorem NearSum (x y z : Int) (hx : Sz 70 x) (hy : Sz 70 y) (hz : Sz 70 z) (u : World) (g : Nat) (hB : Blk u g 134 (prs [(enc x, enc x), (enc y, enc y), (enc z, enc z)]).toArray) :
    Calls Tryz.prog 127 #[.slice (some ⟨g, 0, none⟩) 3 3] u fun e w' => e = .returned (V (sqr x y z)) ∧ Below u.heap.size u w' := by
  have k := SumZ 3 g (nth3 x y z) (nth3 x y z) u (by decide) hB.lt (fun k _ => nth3_all (P := Sz 70) hx hy hz k) (fun k _ => nth3_all (P := Sz 70) hx hy hz k) (fun k hk => ?_)
  · rw [dot3] at k
    exact k
  · refine prs_range hB ?_
    rcases (show k = 0 ∨ k = 1 ∨ k = 2 by omega) with rfl | rfl | rfl <;> rfl
/-- Near? -/
def nearB (ax ay az bx b_y bz_ r : Int) : Bool := decide (0 ≤ r ∧ sqr (ax - bx) (ay - b_y) (az - bz_) ≤ r * r)
end Go.Proofs.YtnemedgdhojhdaaGreat

namespace Go.Proofs.YtnemedgdhojhdaaGreat
open Go.RowKit
set_option maxRecDepth 4000
set_option linter.unusedVariables false

theorem sq0 (x : Int) : 0 ≤ x * x := by
  rcases Int.le_total 0 x with h | h
  · exact Int.mul_nonneg h h
  · exact Int.mul_nonneg_of_nonpos_of_nonpos h h
theorem le_of_sq {x n : Int} (hn : 0 ≤ n) (h : x * x ≤ n * n) : x ≤ n := by
  rcases Int.lt_or_le n x with g | g
  · have h1 : n * n < x * x := by
      have h1 : n * n ≤ n * x := Int.mul_le_mul_of_nonneg_left (by omega) hn
      have h2 : n * x < x * x := Int.mul_lt_mul_of_pos_right g (by omega)
      omega
    omega
  · exact g
theorem lt_of_sq {x n : Int} (hn : 0 ≤ n) (h : x * x < n * n) : x < n := by
  rcases Int.lt_or_le x n with g | g
  · exact g
  · have := Int.mul_le_mul g g hn (by omega)
    omega
theorem cauchy (a b c x y z : Int) : (a*x+b*y+c*z)*(a*x+b*y+c*z) ≤ (a*a+b*b+c*c)*(x*x+y*y+z*z) := by
  have h1 := sq0 (a*y-b*x)
  have h2 := sq0 (a*z-c*x)
  have h3 := sq0 (b*z-c*y)
  grind
/-- The root of n by d, rounded down. -/
theorem rfl_spec {n d : Int} (hn : 0 ≤ n) (hd : 0 < d) : rfl' n d * rfl' n d * d ≤ n ∧ n < (rfl' n d + 1) * (rfl' n d + 1) * d ∧ 0 ≤ rfl' n d := by
  unfold rfl'
  have e : n.fdiv d = n / d := Int.fdiv_eq_ediv_of_nonneg n (by omega)
  rw [e]
  obtain ⟨h1, h2, h3⟩ := isq_sq (n / d) (Int.ediv_nonneg hn (by omega))
  generalize rt (n / d) = r at *
  have k1 : n / d * d ≤ n := Int.ediv_mul_le n (by omega)
  have k2 : n < (n / d + 1) * d := Int.lt_ediv_add_one_mul_self n hd
  refine ⟨?_, ?_, h3⟩
  · exact Int.le_trans (Int.mul_le_mul_of_nonneg_right h1 (by omega)) k1
  · exact Int.lt_of_lt_of_le k2 (Int.mul_le_mul_of_nonneg_right (by omega) (by omega))
/-- Rounded up. -/
def upc (n d : Int) : Int := if rex n d then rfl' n d else rfl' n d + 1
theorem upc_spec {n d : Int} (hn : 0 ≤ n) (hd : 0 < d) : n ≤ upc n d * upc n d * d ∧ rfl' n d ≤ upc n d ∧ upc n d ≤ rfl' n d + 1 ∧ (0 < n → 0 < upc n d ∧ (upc n d - 1) * (upc n d - 1) * d < n) ∧ (upc n d = rfl' n d ↔ rfl' n d * rfl' n d * d = n) := by
  obtain ⟨h1, h2, h3⟩ := rfl_spec hn hd
  unfold upc rex
  generalize rfl' n d = r at *
  by_cases he : r * r * d = n
  · rw [if_pos (by simpa using he)]
    refine ⟨by omega, by omega, by omega, fun h0 => ?_, by simp [he]⟩
    have hr : 0 < r := by
      rcases Int.lt_or_le 0 r with g | g
      · exact g
      · have : r = 0 := by omega
        subst this
        omega
    refine ⟨hr, ?_⟩
    have : (r - 1) * (r - 1) < r * r := by grind
    exact he ▸ Int.mul_lt_mul_of_pos_right this hd
  · rw [if_neg (by simpa using he)]
    refine ⟨by omega, by omega, by omega, fun h0 => ⟨by omega, ?_⟩, ⟨fun h => by omega, fun h => absurd h he⟩⟩
    rw [show r + 1 - 1 = r by omega]
    omega
theorem upc_le {n m : Int} (hn : 0 ≤ n) (hm : 0 ≤ m) (h : n ≤ m * m) : upc n 1 ≤ m := by
  obtain ⟨h1, h2, h3⟩ := rfl_spec hn (show (0 : Int) < 1 by decide)
  unfold upc rex
  generalize rfl' n 1 = r at *
  by_cases he : r * r * 1 = n
  · rw [if_pos (by simpa using he)]
    exact le_of_sq hm (by omega)
  · rw [if_neg (by simpa using he)]
    have := lt_of_sq (x := r) hm (by omega)
    omega
theorem tri_sq {A B a b c x y z : Int} (hA : 0 ≤ A) (hB : 0 ≤ B) (h1 : sqr a b c ≤ A * A) (h2 : sqr x y z ≤ B * B) : sqr (a + x) (b + y) (c + z) ≤ (A + B) * (A + B) := by
  unfold sqr at *
  have hc := cauchy a b c x y z
  have k : (a*a+b*b+c*c)*(x*x+y*y+z*z) ≤ (A * A) * (B * B) := by
    refine Int.mul_le_mul h1 h2 ?_ (sq0 A)
    have := sq0 x
    have := sq0 y
    have := sq0 z
    omega
  have hd : a*x+b*y+c*z ≤ A * B := le_of_sq (Int.mul_nonneg hA hB) (by grind)
  grind
theorem cl_sq (x : Int) : cl x * cl x ≤ x * x := by
  unfold cl
  split
  · exact Int.mul_le_mul (by omega) (by omega) (by omega) (by omega)
  · split
    · have := Int.mul_le_mul (a := 9223372036854775808) (b := 9223372036854775808) (c := -x) (d := -x) (by omega) (by omega) (by omega) (by omega)
      grind
    · exact Int.le_refl _
/-- What is known of each number of a unit. -/
structure PartU (x u S : Int) : Prop where
  lo : u * u * S - 2 * (if u < 0 then -u else u) * S ≤ x * x * 18446744073709551616
  hi : x * x * 18446744073709551616 ≤ u * u * S + 2 * (if u < 0 then -u else u) * S + S
  sg : (u < 0) ↔ (x < 0)
  l : -4294967296 ≤ u
  r : u ≤ 4294967296
theorem shr_pos {x S : Int} (h0 : 0 ≤ x) (hS : 0 < S) (hx : x * x ≤ S) : PartU x (rfl' (x * x * 18446744073709551616) S) S := by
  obtain ⟨h1, h2, h3⟩ := rfl_spec (n := x * x * 18446744073709551616) (Int.mul_nonneg (sq0 x) (by decide)) hS
  generalize rfl' (x * x * 18446744073709551616) S = r at *
  have hr : r ≤ 4294967296 := by
    refine le_of_sq (by decide) ?_
    refine Int.le_of_mul_le_mul_right ?_ hS
    omega
  have k : 0 ≤ r * S := Int.mul_nonneg h3 (by omega)
  rw [show (r + 1) * (r + 1) * S = r * r * S + 2 * (r * S) + S by grind] at h2
  refine ⟨?_, ?_, by omega, by omega, hr⟩
  · rw [if_neg (by omega), Int.mul_assoc 2 r S]; omega
  · rw [if_neg (by omega), Int.mul_assoc 2 r S]; omega
theorem shr_neg {x S : Int} (h0 : x < 0) (hS : 0 < S) (hx : x * x ≤ S) : PartU x (-(upc (x * x * 18446744073709551616) S)) S := by
  have hp : 0 < x * x * 18446744073709551616 := Int.mul_pos (Int.mul_pos_of_neg_of_neg h0 h0) (by decide)
  obtain ⟨h1, h2, h3, h4, h5⟩ := upc_spec (n := x * x * 18446744073709551616) (by omega) hS
  obtain ⟨h6, h7⟩ := h4 hp
  clear h2 h3 h4 h5
  generalize upc (x * x * 18446744073709551616) S = c at *
  have hc : c - 1 < 4294967296 := by
    refine lt_of_sq (by decide) ?_
    refine Int.lt_of_mul_lt_mul_right (a := S) ?_ (by omega)
    omega
  have k : 0 ≤ c * S := Int.mul_nonneg (by omega) (by omega)
  rw [show (c - 1) * (c - 1) * S = c * c * S - 2 * (c * S) + S by grind] at h7
  refine ⟨?_, ?_, by omega, by omega, by omega⟩
  · rw [if_pos (by omega), Int.neg_neg, Int.neg_mul_neg, Int.mul_assoc 2 c S]; omega
  · rw [if_pos (by omega), Int.neg_neg, Int.neg_mul_neg, Int.mul_assoc 2 c S]; omega
theorem unit_sq {x y z u v t S : Int} (hS : 0 < S) (e : sqr x y z = S) (hx : PartU x u S) (hy : PartU y v S) (hz : PartU z t S) :
    18446744073709551616 - 17179869184 ≤ sqr u v t ∧ sqr u v t ≤ 18446744073709551616 + 17179869184 := by
  obtain ⟨a1, a2, _, _, _⟩ := hx
  obtain ⟨b1, b2, _, _, _⟩ := hy
  obtain ⟨c1, c2, _, _, _⟩ := hz
  have eu : u * u = (if u < 0 then -u else u) * (if u < 0 then -u else u) := by split <;> grind
  have ev : v * v = (if v < 0 then -v else v) * (if v < 0 then -v else v) := by split <;> grind
  have et : t * t = (if t < 0 then -t else t) * (if t < 0 then -t else t) := by split <;> grind
  have pu : 0 ≤ (if u < 0 then -u else u) := by split <;> omega
  have pv : 0 ≤ (if v < 0 then -v else v) := by split <;> omega
  have pt : 0 ≤ (if t < 0 then -t else t) := by split <;> omega
  unfold sqr at *
  rw [eu] at a1 a2 ⊢
  rw [ev] at b1 b2 ⊢
  rw [et] at c1 c2 ⊢
  generalize (if u < 0 then -u else u) = f at *
  generalize (if v < 0 then -v else v) = g at *
  generalize (if t < 0 then -t else t) = h at *
  clear eu ev et
  have hs := cauchy f g h 1 1 1
  have k1 : f * f + g * g + h * h - 2 * (f + g + h) ≤ 18446744073709551616 := by
    refine Int.le_of_mul_le_mul_right ?_ hS
    rw [show (f * f + g * g + h * h - 2 * (f + g + h)) * S = (f * f * S - 2 * f * S) + (g * g * S - 2 * g * S) + (h * h * S - 2 * h * S) by grind, ← e]
    rw [← e] at a1 b1 c1
    omega
  have k2 : 18446744073709551616 ≤ f * f + g * g + h * h + 2 * (f + g + h) + 3 := by
    refine Int.le_of_mul_le_mul_right ?_ hS
    rw [show (f * f + g * g + h * h + 2 * (f + g + h) + 3) * S = (f * f * S + 2 * f * S + S) + (g * g * S + 2 * g * S + S) + (h * h * S + 2 * h * S + S) by grind]
    rw [← e] at a2 b2 c2 ⊢
    omega
  have hs' : (f + g + h) * (f + g + h) ≤ 3 * (f * f + g * g + h * h) := by grind
  generalize f * f + g * g + h * h = T at *
  have ps : 0 ≤ f + g + h := by omega
  generalize f + g + h = s at *
  clear hs a1 a2 b1 b2 c1 c2 pu pv pt
  constructor
  · rcases Int.lt_or_le T (18446744073709551616 - 17179869184) with q | q
    · exfalso
      have m1 : 8589934591 ≤ s := by omega
      have m2 := Int.mul_le_mul m1 m1 (by decide) ps
      omega
    · exact q
  · rcases Int.lt_or_le (18446744073709551616 + 17179869184) T with q | q
    · exfalso
      have m1 : 8589934592 ≤ s := by omega
      have m2 := Int.mul_le_mul_of_nonneg_right m1 ps
      omega
    · exact q
/-- A number of a unit, as the program has it. -/
theorem shI_shr {x S : Int} (hS : 0 < S) (hx : x * x ≤ S) : PartU x (shI x S) S := by
  unfold shI
  rw [show ((2 ^ (64 : Int).toNat : Nat) : Int) = 18446744073709551616 from rfl]
  by_cases h0 : x < 0
  · have k := shr_neg h0 hS hx
    rw [if_pos h0, show upR (x * x * 18446744073709551616) S = inI (upc (x * x * 18446744073709551616) S) 32 from rfl, inI_32]
    generalize upc (x * x * 18446744073709551616) S = c at *
    have l := k.l
    have r := k.r
    rw [cl_self ⟨by omega, by omega⟩, wrap_self ⟨by omega, by omega⟩]
    exact k
  · have k := shr_pos (by omega) hS hx
    rw [if_neg h0, inI_32]
    generalize rfl' (x * x * 18446744073709551616) S = c at *
    have l := k.l
    have r := k.r
    rw [cl_self ⟨by omega, by omega⟩]
    exact k

end Go.Proofs.YtnemedgdhojhdaaGreat

namespace Go.Proofs.YtnemedgdhojhdaaGreat
open Go.RowKit
set_option maxRecDepth 4000
set_option linter.unusedVariables false

theorem rt_is {n r : Int} (h0 : 0 ≤ r) (h1 : r * r ≤ n) (h2 : n < (r + 1) * (r + 1)) : rt n = r := by
  obtain ⟨k1, k2, k3⟩ := isq_sq n (by have := sq0 r; omega)
  have a1 := lt_of_sq (x := rt n) (n := r + 1) (by omega) (by omega)
  have a2 := lt_of_sq (x := r) (n := rt n + 1) (by omega) (by omega)
  omega
theorem rfl_is {n d q r : Int} (hq : n.fdiv d = q) (h0 : 0 ≤ r) (h1 : r * r ≤ q) (h2 : q < (r + 1) * (r + 1)) : rfl' n d = r := by
  unfold rfl'
  rw [hq]
  exact rt_is h0 h1 h2
theorem unit7 : shI (-7) (sqr 0 (-7) 0) = -4294967296 := by
  have e : rfl' (-7 * -7 * ((2 ^ (64 : Int).toNat : Nat) : Int)) (sqr 0 (-7) 0) = 4294967296 := rfl_is (q := 18446744073709551616) (by decide) (by decide) (by decide) (by decide)
  unfold shI upR rex
  rw [if_pos (by decide), e, if_pos (show decide (4294967296 * 4294967296 * sqr 0 (-7) 0 = -7 * -7 * ((2 ^ (64 : Int).toNat : Nat) : Int)) = true by decide), inI_32, cl_self ⟨by decide, by decide⟩, wrap_self ⟨by decide, by decide⟩]
theorem unit0 : shI 0 (sqr 0 (-7) 0) = 0 := by
  have e : rfl' (0 * 0 * ((2 ^ (64 : Int).toNat : Nat) : Int)) (sqr 0 (-7) 0) = 0 := rfl_is (q := 0) (by decide) (by decide) (by decide) (by decide)
  unfold shI
  rw [if_neg (by decide), e]
  decide
theorem len5 : inI (rfl' (sqr 12884901888 17179869184 0) 1) 32 = 21474836480 := by
  rw [rfl_is (n := sqr 12884901888 17179869184 0) (q := 461168601842738790400) (r := 21474836480) (by decide) (by decide) (by decide) (by decide)]
  decide
end Go.Proofs.YtnemedgdhojhdaaGreat

namespace Go.Proofs.YtnemedgdhojhdaaGreat
open Go.RowKit
set_option maxRecDepth 4000
set_option linter.unusedVariables false

section
variable {o : Oper} {a : Act} (w : World) (p q : Operand) {x y : Int} {k : IntKind} {ty ty' : TypeId} {b : Bool}
theorem exec_leqZ (hb : decide (x ≤ y) = b) (ho : o.op = .binOp .leq ty p q ty') (hx : a.eval p = .int k x) (hy : a.eval q = .int k y) : (execOp a.eval o).run Tryz.prog w = .ok (.value (.bool b)) w := by
  subst hb
  unfold execOp
  simp only [ho, hx, hy]
  go_simp
theorem exec_geqZ (hb : decide (y ≤ x) = b) (ho : o.op = .binOp .geq ty p q ty') (hx : a.eval p = .int k x) (hy : a.eval q = .int k y) : (execOp a.eval o).run Tryz.prog w = .ok (.value (.bool b)) w := by
  subst hb
  unfold execOp
  simp only [ho, hx, hy]
  go_simp
theorem exec_eqlZ (hb : (x == y) = b) (ho : o.op = .binOp .eql ty p q ty') (hx : a.eval p = .int k x) (hy : a.eval q = .int k y) : (execOp a.eval o).run Tryz.prog w = .ok (.value (.bool b)) w := by
  subst hb
  unfold execOp
  simp only [ho, hx, hy]
  go_simp
end
theorem upR_1 (n : Int) : upR n 1 = cl (upc n 1) := by
  show inI (upc n 1) 32 = _
  exact inI_32 _
theorem upc_nn (n d : Int) : 0 ≤ upc n d := by
  have : 0 ≤ rfl' n d := by unfold rfl' rt; omega
  unfold upc
  split <;> omega
theorem sqr_cl (x y z : Int) : sqr (cl x) (cl y) (cl z) ≤ sqr x y z := by
  have := cl_sq x
  have := cl_sq y
  have := cl_sq z
  unfold sqr
  omega
theorem tri_math (ax ay az bx b_y bz_ : Int) : upR (sqr (cl (ax + bx)) (cl (ay + b_y)) (cl (az + bz_))) 1 ≤ cl (upR (sqr ax ay az) 1 + upR (sqr bx b_y bz_) 1) := by
  rw [upR_1, upR_1, upR_1]
  obtain ⟨a1, -⟩ := upc_spec (sqr_nn ax ay az) (show (0 : Int) < 1 by decide)
  obtain ⟨b1, -⟩ := upc_spec (sqr_nn bx b_y bz_) (show (0 : Int) < 1 by decide)
  have a0 := upc_nn (sqr ax ay az) 1
  have b0 := upc_nn (sqr bx b_y bz_) 1
  rw [Int.mul_one] at a1 b1
  have k := upc_le (sqr_nn (cl (ax + bx)) (cl (ay + b_y)) (cl (az + bz_))) (show 0 ≤ upc (sqr ax ay az) 1 + upc (sqr bx b_y bz_) 1 by omega) (Int.le_trans (sqr_cl _ _ _) (tri_sq a0 b0 a1 b1))
  generalize upc (sqr (cl (ax + bx)) (cl (ay + b_y)) (cl (az + bz_))) 1 = s at *
  generalize upc (sqr ax ay az) 1 = A at *
  generalize upc (sqr bx b_y bz_) 1 = B at *
  clear a1 b1
  unfold cl
  repeat' split
  all_goals omega
theorem len_le (ax ay az : Int) : inI (rfl' (sqr ax ay az) 1) 32 ≤ upR (sqr ax ay az) 1 := by
  rw [inI_32, upR_1]
  exact cl_mono (upc_spec (sqr_nn ax ay az) (show (0 : Int) < 1 by decide)).2.1
theorem upR_I64 (n d : Int) : I64 (upR n d) := by
  show I64 (inI _ 32)
  rw [inI_32]
  exact cl_I64 _
end Go.Proofs.YtnemedgdhojhdaaGreat

namespace Go.Proofs.YtnemedgdhojhdaaGreat
open Go.RowKit
set_option maxRecDepth 4000
set_option linter.unusedVariables false

section
variable {o : Oper} {a : Act} {w : World} (p q : Operand) {x y : Int} {k : IntKind} {ty ty' : TypeId} {b : Bool} {ops : Array Oper} {rest : List Oper} {Q : Exit → Act → World → Prop}
theorem exec_gtrZ (hb : decide (y < x) = b) (ho : o.op = .binOp .gtr ty p q ty') (hx : a.eval p = .int k x) (hy : a.eval q = .int k y) : (execOp a.eval o).run Tryz.prog w = .ok (.value (.bool b)) w := by
  subst hb
  unfold execOp
  simp only [ho, hx, hy]
  go_simp
theorem gtrZ (hb : decide (y < x) = b) (ho : o.op = .binOp .gtr ty p q ty') (hgd : o.guard = none) (hx : a.eval p = .int k x) (hy : a.eval q = .int k y)
    (h : wpList Tryz.prog ops Q rest (a.put o.dst (.bool b)) w) : wpList Tryz.prog ops Q (o :: rest) a w := wpList_value hgd (exec_gtrZ p q hb ho hx hy) h
theorem gtrZw (hb : decide (y < x) = b) (ho : o.op = .binOp .gtr ty p q ty') (hgd : Region.wanted o (yielded ops a.tmps) = true) (hx : a.eval p = .int k x) (hy : a.eval q = .int k y)
    (h : wpList Tryz.prog ops Q rest (a.put o.dst (.bool b)) w) : wpList Tryz.prog ops Q (o :: rest) a w := wpList_valuew hgd (exec_gtrZ p q hb ho hx hy) h
theorem exec_lssZ (hb : decide (x < y) = b) (ho : o.op = .binOp .lss ty p q ty') (hx : a.eval p = .int k x) (hy : a.eval q = .int k y) : (execOp a.eval o).run Tryz.prog w = .ok (.value (.bool b)) w := by
  subst hb
  unfold execOp
  simp only [ho, hx, hy]
  go_simp
theorem lssZ (hb : decide (x < y) = b) (ho : o.op = .binOp .lss ty p q ty') (hgd : o.guard = none) (hx : a.eval p = .int k x) (hy : a.eval q = .int k y)
    (h : wpList Tryz.prog ops Q rest (a.put o.dst (.bool b)) w) : wpList Tryz.prog ops Q (o :: rest) a w := wpList_value hgd (exec_lssZ p q hb ho hx hy) h
theorem lssZw (hb : decide (x < y) = b) (ho : o.op = .binOp .lss ty p q ty') (hgd : Region.wanted o (yielded ops a.tmps) = true) (hx : a.eval p = .int k x) (hy : a.eval q = .int k y)
    (h : wpList Tryz.prog ops Q rest (a.put o.dst (.bool b)) w) : wpList Tryz.prog ops Q (o :: rest) a w := wpList_valuew hgd (exec_lssZ p q hb ho hx hy) h
theorem eqlZ (hb : (x == y) = b) (ho : o.op = .binOp .eql ty p q ty') (hgd : o.guard = none) (hx : a.eval p = .int k x) (hy : a.eval q = .int k y)
    (h : wpList Tryz.prog ops Q rest (a.put o.dst (.bool b)) w) : wpList Tryz.prog ops Q (o :: rest) a w := wpList_value hgd (exec_eqlZ w p q hb ho hx hy) h
theorem eqlZw (hb : (x == y) = b) (ho : o.op = .binOp .eql ty p q ty') (hgd : Region.wanted o (yielded ops a.tmps) = true) (hx : a.eval p = .int k x) (hy : a.eval q = .int k y)
    (h : wpList Tryz.prog ops Q rest (a.put o.dst (.bool b)) w) : wpList Tryz.prog ops Q (o :: rest) a w := wpList_valuew hgd (exec_eqlZ w p q hb ho hx hy) h
theorem leqZ (hb : decide (x ≤ y) = b) (ho : o.op = .binOp .leq ty p q ty') (hgd : o.guard = none) (hx : a.eval p = .int k x) (hy : a.eval q = .int k y)
    (h : wpList Tryz.prog ops Q rest (a.put o.dst (.bool b)) w) : wpList Tryz.prog ops Q (o :: rest) a w := wpList_value hgd (exec_leqZ w p q hb ho hx hy) h
theorem leqZw (hb : decide (x ≤ y) = b) (ho : o.op = .binOp .leq ty p q ty') (hgd : Region.wanted o (yielded ops a.tmps) = true) (hx : a.eval p = .int k x) (hy : a.eval q = .int k y)
    (h : wpList Tryz.prog ops Q rest (a.put o.dst (.bool b)) w) : wpList Tryz.prog ops Q (o :: rest) a w := wpList_valuew hgd (exec_leqZ w p q hb ho hx hy) h
theorem geqZ (hb : decide (y ≤ x) = b) (ho : o.op = .binOp .geq ty p q ty') (hgd : o.guard = none) (hx : a.eval p = .int k x) (hy : a.eval q = .int k y)
    (h : wpList Tryz.prog ops Q rest (a.put o.dst (.bool b)) w) : wpList Tryz.prog ops Q (o :: rest) a w := wpList_value hgd (exec_geqZ w p q hb ho hx hy) h
theorem geqZw (hb : decide (y ≤ x) = b) (ho : o.op = .binOp .geq ty p q ty') (hgd : Region.wanted o (yielded ops a.tmps) = true) (hx : a.eval p = .int k x) (hy : a.eval q = .int k y)
    (h : wpList Tryz.prog ops Q rest (a.put o.dst (.bool b)) w) : wpList Tryz.prog ops Q (o :: rest) a w := wpList_valuew hgd (exec_geqZ w p q hb ho hx hy) h
end
theorem mulD_1 {a : Int} (h : I64 a) : mulD a 4294967296 = a := by
  unfold mulD
  rw [Int.mul_ediv_cancel _ (by decide)]
  exact cl_self h
theorem movI_0 {a : Int} (v : Int) (h : I64 a) : movI a v 0 = a := by
  unfold movI
  rw [Int.mul_zero, Int.add_zero, Int.mul_ediv_cancel _ (by decide)]
  exact cl_self h
theorem movI_v {a : Int} (s : Int) (h : I64 a) : movI a 0 s = a := by
  unfold movI
  rw [Int.zero_mul, Int.add_zero, Int.mul_ediv_cancel _ (by decide)]
  exact cl_self h
theorem cl_neg {a : Int} (h : I64 a) (h0 : -9223372036854775808 < a) : cl (0 - a) = -a := by
  rw [Int.zero_sub]
  exact cl_self ⟨by have := h.2; omega, by omega⟩
theorem sqr_neg (x y z : Int) : sqr (-x) (-y) (-z) = sqr x y z := by
  unfold sqr
  rw [Int.neg_mul_neg, Int.neg_mul_neg, Int.neg_mul_neg]
theorem i0 : I64 0 := ⟨by decide, by decide⟩
end Go.Proofs.YtnemedgdhojhdaaGreat
