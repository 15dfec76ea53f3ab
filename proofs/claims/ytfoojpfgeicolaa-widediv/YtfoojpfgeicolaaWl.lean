/- The contract of math/bits.Div64, of a divisor whose top bit is set. -/
import Derived.Test.YtfoojpfgeicolaaWh
import Derived.Deep.DeepCutAuto
import Derived.Deep.CutBlock
namespace Go.Proofs.Ytfoojpfgeicolaa
open Go.RowKit

theorem wu (n : Int) (h0 : 0 ≤ n) (h : n < 18446744073709551616) : IntKind.u64.wrap n = n := by
  rw [IntKind.wrap_u64]; omega
theorem wm (n m : Int) (h : n % 18446744073709551616 = m % 18446744073709551616) (h0 : 0 ≤ m) (h1 : m < 18446744073709551616) : IntKind.u64.wrap n = m := by
  rw [IntKind.wrap_u64]; omega

/-- One digit of the quotient, on the way: q is not too small; r is what is left of the first digit. -/
structure Dig (n y a b u q r : Int) : Prop where
  yd : y = a * 4294967296 + b
  a0 : 2147483648 ≤ a
  a1 : a < 4294967296
  b0 : 0 ≤ b
  b1 : b < 4294967296
  n0 : 0 ≤ n
  n1 : n < y
  u0 : 0 ≤ u
  u1 : u < 4294967296
  q0 : 0 ≤ q
  q1 : q ≤ 4294967297
  r0 : 0 ≤ r
  r1 : r < 4294967296
  qr : q * a + r = n
  up : n * 4294967296 + u < y * (q + 1)

/-- The digit. -/
structure DigEnd (n y u q : Int) : Prop where
  q0 : 0 ≤ q
  q1 : q < 4294967296
  lo : y * q ≤ n * 4294967296 + u
  up : n * 4294967296 + u < y * (q + 1)

theorem mul_le' {a b c : Int} (hc : 0 ≤ c) (h : a ≤ b) : a * c ≤ b * c := Int.mul_le_mul_of_nonneg_right h hc

theorem Dig.start {n y a b u : Int} (yd : y = a * 4294967296 + b) (a0 : 2147483648 ≤ a) (a1 : a < 4294967296) (b0 : 0 ≤ b) (b1 : b < 4294967296) (n0 : 0 ≤ n) (n1 : n < y) (u0 : 0 ≤ u) (u1 : u < 4294967296) :
    Dig n y a b u (n / a) (n % a) := by
  have hd := Int.mul_ediv_add_emod n a
  have hm0 := Int.emod_nonneg n (show a ≠ 0 by omega)
  have hm1 := Int.emod_lt_of_pos n (show 0 < a by omega)
  have hq0 : 0 ≤ n / a := Int.ediv_nonneg n0 (by omega)
  generalize n / a = q at *
  generalize n % a = r at *
  have hqa : a * q = q * a := Int.mul_comm a q
  have hq1 : q ≤ 4294967297 := by
    by_cases h : q ≤ 4294967297
    · exact h
    · have := mul_le' (c := a) (by omega) (show 4294967298 ≤ q by omega)
      omega
  refine ⟨yd, a0, a1, b0, b1, n0, n1, u0, u1, hq0, hq1, hm0, by omega, by omega, ?_⟩
  have e : y * (q + 1) = (q * a + a) * 4294967296 + b * (q + 1) := by
    rw [yd, Int.add_mul, Int.mul_assoc, Int.mul_comm 4294967296, ← Int.mul_assoc, Int.mul_add, Int.mul_one, hqa]
  have hb : 0 ≤ b * (q + 1) := Int.mul_nonneg b0 (by omega)
  omega

theorem Dig.prod {n y a b u q r : Int} (h : Dig n y a b u q r) : y * q = (n - r) * 4294967296 + q * b := by
  have := h.qr
  rw [h.yd, Int.add_mul, Int.mul_assoc, Int.mul_comm 4294967296, ← Int.mul_assoc, Int.mul_comm a q, Int.mul_comm b q]
  have e : q * a = n - r := by omega
  rw [e]

theorem Dig.qb {n y a b u q r : Int} (h : Dig n y a b u q r) : 0 ≤ q * b ∧ q * b ≤ 18446744073709551615 := by
  refine ⟨Int.mul_nonneg h.q0 h.b0, ?_⟩
  have h1 := mul_le' (c := b) h.b0 h.q1
  have := h.b1
  omega

/-- The test says no: the digit. -/
theorem Dig.done {n y a b u q r : Int} (h : Dig n y a b u q r) (hq : q < 4294967296) (ht : q * b ≤ 4294967296 * r + u) : DigEnd n y u q := by
  have hp := h.prod
  exact ⟨h.q0, hq, by omega, h.up⟩

/-- The test says yes: q was too great. -/
theorem Dig.less {n y a b u q r : Int} (h : Dig n y a b u q r) (ht : 4294967296 ≤ q ∨ 4294967296 * r + u < q * b) : n * 4294967296 + u < y * q ∧ 1 ≤ q := by
  have hp := h.prod
  have hn := h.n1
  have hu := h.u1
  have hq := h.q0
  have hr := h.r0
  have hu0 := h.u0
  have hlt : n * 4294967296 + u < y * q := by
    rcases ht with ht | ht
    · have h1 := Int.mul_le_mul_of_nonneg_left ht (show 0 ≤ y by have := h.n0; omega)
      have h2 : n * 4294967296 + 4294967296 ≤ y * 4294967296 := by
        have := mul_le' (c := 4294967296) (by omega) (show n + 1 ≤ y by omega)
        omega
      omega
    · omega
  refine ⟨hlt, ?_⟩
  by_cases hc : 1 ≤ q
  · exact hc
  · have : q = 0 := by omega
    subst this
    have := h.n0
    omega

theorem Dig.next {n y a b u q r : Int} (h : Dig n y a b u q r) (ht : 4294967296 ≤ q ∨ 4294967296 * r + u < q * b) (hr : r + a < 4294967296) : Dig n y a b u (q - 1) (r + a) := by
  obtain ⟨h1, h2⟩ := h.less ht
  have := h.qr
  have := h.r0
  have := h.a0
  have := h.q1
  refine ⟨h.yd, h.a0, h.a1, h.b0, h.b1, h.n0, h.n1, h.u0, h.u1, by omega, by omega, by omega, hr, ?_, ?_⟩
  · rw [Int.sub_mul]; omega
  · rw [show q - 1 + 1 = q by omega]; exact h1

theorem Dig.leave {n y a b u q r : Int} (h : Dig n y a b u q r) (ht : 4294967296 ≤ q ∨ 4294967296 * r + u < q * b) (hr : 4294967296 ≤ r + a) : DigEnd n y u (q - 1) := by
  obtain ⟨h1, h2⟩ := h.less ht
  have hp := h.prod
  have hqb := h.qb
  have hy : y * (q - 1) = y * q - y := by rw [Int.mul_sub, Int.mul_one]
  have hyd := h.yd
  have hb := h.b0
  have hu := h.u0
  have hlo : y * (q - 1) ≤ n * 4294967296 + u := by omega
  refine ⟨by omega, ?_, hlo, by rw [show q - 1 + 1 = q by omega]; exact h1⟩
  by_cases hc : q - 1 < 4294967296
  · exact hc
  · exfalso
    have h3 := Int.mul_le_mul_of_nonneg_left (show 4294967296 ≤ q - 1 by omega) (show 0 ≤ y by have := h.n0; have := h.n1; omega)
    have h4 := mul_le' (c := 4294967296) (by omega) (show n + 1 ≤ y by have := h.n1; omega)
    have := h.u1
    omega

end Go.Proofs.Ytfoojpfgeicolaa
