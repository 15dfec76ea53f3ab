/- The contracts of math/bits.Len64, LeadingZeros64 and Mul64, and of the multiplier of package wide. -/
import Derived.Test.YtnemedgdhojhdaaGreatWp
import Derived.Lib.Mul64
namespace Go.Proofs.YtnemedgdhojhdaaGreat
open Go.RowKit
set_option maxRecDepth 4000

theorem u64_nat (n : Nat) (h : n < 18446744073709551616) : IntKind.u64.wrap (n : Int) = n := by
  rw [IntKind.wrap_u64]; omega
theorem u64_mod (n : Nat) : IntKind.u64.wrap (n : Int) = ((n % 18446744073709551616 : Nat) : Int) := by
  rw [IntKind.wrap_u64]; omega
theorem low_half (n : Nat) (h : n < 18446744073709551616) : bits .and .u64 (n : Int) 4294967295 = ((n % 4294967296 : Nat) : Int) := by
  have e := bits_and_u64_nat n 4294967295 h (by omega)
  rw [show n &&& 4294967295 = n % 4294967296 from Nat.and_two_pow_sub_one_eq_mod n 32] at e
  exact e
theorem high_half (n : Nat) : (n : Int) / 4294967296 = ((n / 4294967296 : Nat) : Int) := by omega
theorem cast_mul (a b : Nat) : (a : Int) * (b : Int) = ((a * b : Nat) : Int) := (Int.natCast_mul a b).symm
theorem cast_add (a b : Nat) : (a : Int) + (b : Int) = ((a + b : Nat) : Int) := (Int.natCast_add a b).symm

set_option maxHeartbeats 1000000 in
theorem mul64_any (x y : Nat) (hx : x < 18446744073709551616) (hy : y < 18446744073709551616) (w : World) :
    Calls Tryz.prog 189 #[.int .u64 (x : Int), .int .u64 (y : Int)] w fun e w' => e = .returned (.tuple #[.int .u64 ((x * y / 18446744073709551616 : Nat) : Int), .int .u64 ((x * y % 18446744073709551616 : Nat) : Int)]) ∧ w' = w := by
  obtain ⟨b1, b2, b3, hh⟩ := Lib.mul64_hi x y hx hy
  have c1 := Lib.half_mul_le (a := x / 4294967296) (b := y / 4294967296) (by omega) (by omega)
  have c2 := Lib.half_mul_le (a := x / 4294967296) (b := y % 4294967296) (by omega) (by omega)
  have c3 := Lib.half_mul_le (a := x % 4294967296) (b := y / 4294967296) (by omega) (by omega)
  have d1 : x / 4294967296 * (y / 4294967296) < 18446744073709551616 := by omega
  have d2 : x / 4294967296 * (y % 4294967296) < 18446744073709551616 := by omega
  have d3 : x % 4294967296 * (y / 4294967296) < 18446744073709551616 := by omega
  have d4 : x / 4294967296 * (y / 4294967296) + (x / 4294967296 * (y % 4294967296) + x % 4294967296 * (y % 4294967296) / 4294967296) / 4294967296 < 18446744073709551616 := by omega
  have d5 : x / 4294967296 * (y / 4294967296) + (x / 4294967296 * (y % 4294967296) + x % 4294967296 * (y % 4294967296) / 4294967296) / 4294967296 + ((x / 4294967296 * (y % 4294967296) + x % 4294967296 * (y % 4294967296) / 4294967296) % 4294967296 + x % 4294967296 * (y / 4294967296)) / 4294967296 < 18446744073709551616 := by omega
  go_enter Tryz.func189, Tryz.ntmps189
  go_wp2
  simp only [low_half x hx, low_half y hy, high_half, cast_mul, cast_add, u64_nat _ b1, u64_nat _ d2, u64_nat _ b2, low_half _ b2, u64_nat _ d3, u64_nat _ b3, u64_nat _ d1, u64_nat _ d4, u64_nat _ d5, u64_mod (x * y)]
  rw [hh]
  go_ret2
  exact ⟨rfl, rfl⟩

/-- multiplier: a closure over m and a carry of 0. -/
theorem multiplier_any (m : Int) (w : World) :
    Calls Tryz.prog 177 #[.int .u64 m] w fun e w' => e = .returned (.func (.func 188) #[] #[.pointer (some ⟨w.heap.size, 0, none⟩), .pointer (some ⟨w.heap.size + 1, 0, none⟩)]) ∧
      w' = (w.alloc (.cells #[.int .u64 m] 72)).alloc (.cells #[.int .u64 0] 72) := by
  have hmf : ∀ (fn : Fn) (first cap : Array Value) (w : World), (Instr.makeFunc fn first cap).run Tryz.prog w = .ok (.func fn first cap) w := fun _ _ _ _ => rfl
  go_enter Tryz.func177, Tryz.ntmps177
  go_wp2
  go_ret
  exact ⟨rfl, rfl⟩

def alo (x y : Int) : Int := (x + y) % B64
def ahi (x y : Int) : Int := (x + y) / B64
theorem alo_nn (x y : Int) : 0 ≤ alo x y := by unfold alo B64; omega
theorem add64_0 (x y : Int) (hx : 0 ≤ x) (hy : 0 ≤ y) (w : World) :
    (callFunc 190 #[.int .u64 x, .int .u64 y, .int .u64 0]).run Tryz.prog w = .ok (.value (.tuple #[.int .u64 (alo x y), .int .u64 (ahi x y)])) w := by
  have h := add64 x y 0 hx hy (Int.le_refl 0) (by decide) w
  rw [Int.add_zero] at h
  exact h

theorem mul_fits (x y m c hi lo : Nat) (hx : x < 18446744073709551616) (hy : y < 18446744073709551616) (hm : m < 18446744073709551616) (hc : c < 18446744073709551616)
    (hhi : hi = x * m / 18446744073709551616) (hlo : lo = x * m % 18446744073709551616) :
    alo (alo (lo : Int) (y : Int)) (c : Int) = (((x * m + y + c) % 18446744073709551616 : Nat) : Int) ∧
    IntKind.u64.wrap (IntKind.u64.wrap ((hi : Int) + ahi (lo : Int) (y : Int)) + ahi (alo (lo : Int) (y : Int)) (c : Int)) = (((x * m + y + c) / 18446744073709551616 : Nat) : Int) := by
  have hb : x * m ≤ 18446744073709551615 * 18446744073709551615 := Nat.mul_le_mul (by omega) (by omega)
  generalize x * m = p at *
  subst hhi hlo
  unfold alo ahi B64
  rw [IntKind.wrap_u64, IntKind.wrap_u64]
  omega

set_option maxHeartbeats 1000000 in
/-- The closure: x times m, and y, and what was carried: the low limb, and the carry kept. -/
theorem multiplier1_any (x y m c : Nat) (p q : Addr) (w : World) (hx : x < 18446744073709551616) (hy : y < 18446744073709551616) (hm : m < 18446744073709551616) (hc : c < 18446744073709551616)
    (hp : w.cell? p = some (.int .u64 (m : Int))) (hq : w.cell? q = some (.int .u64 (c : Int))) (hz : w.frozen? q = false) :
    Calls Tryz.prog 188 #[.int .u64 (x : Int), .int .u64 (y : Int), .pointer (some p), .pointer (some q)] w fun e w' =>
      e = .returned (.int .u64 (((x * m + y + c) % 18446744073709551616 : Nat) : Int)) ∧ w' = w.setCell q (.int .u64 (((x * m + y + c) / 18446744073709551616 : Nat) : Int)) := by
  obtain ⟨hi, hhi⟩ : ∃ hi, hi = x * m / 18446744073709551616 := ⟨_, rfl⟩
  obtain ⟨lo, hlo⟩ : ∃ lo, lo = x * m % 18446744073709551616 := ⟨_, rfl⟩
  obtain ⟨f1, f2⟩ := mul_fits x y m c hi lo hx hy hm hc hhi hlo
  rw [← f1, ← f2]
  have HM : Hid (∀ w, Calls Tryz.prog 189 #[.int .u64 (x : Int), .int .u64 (m : Int)] w fun e w' => e = .returned (.tuple #[.int .u64 (hi : Int), .int .u64 (lo : Int)]) ∧ w' = w) := by
    intro w
    have := mul64_any x m hx hm w
    rwa [← hhi, ← hlo] at this
  clear f1 f2 hhi hlo
  have n1 : (0 : Int) ≤ (lo : Int) := by omega
  have n2 : (0 : Int) ≤ (y : Int) := by omega
  have n3 : (0 : Int) ≤ (c : Int) := by omega
  go_enter Tryz.func188, Tryz.ntmps188
  go_wp2_with (first
    | (go_at_call 189; refine (unhide HM _).mono ?_; rintro e w' ⟨he, hw⟩; subst he; subst hw)
    | simp only [add64_0 (lo : Int) (y : Int) n1 n2]
    | simp only [add64_0 (alo (lo : Int) (y : Int)) (c : Int) (alo_nn _ _) n3])
  go_ret
  exact ⟨rfl, rfl⟩

end Go.Proofs.YtnemedgdhojhdaaGreat
