/- The contract of math/bits.Div64, of a divisor whose top bit is set. The contract of math/bits.Div64, of a divisor whose top bit is set: the walk. The contracts of math/bits.Div64 where the high part is 0, and of guess of package wide. -/
import Derived.Test.YtnemedgdhojhdaaGreatWh
import Derived.Deep.DeepCutAuto
import Derived.Deep.CutBlock
import Derived.Test.YtnemedgdhojhdaaGreatWp
namespace Go.Proofs.YtnemedgdhojhdaaGreat
open Go.RowKit
set_option maxRecDepth 4000

theorem wu (n : Int) (h0 : 0 ≤ n) (h : n < 18446744073709551616) : IntKind.u64.wrap n = n := by
  rw [IntKind.wrap_u64]; omega
theorem wm (n m : Int) (h : n % 18446744073709551616 = m % 18446744073709551616) (h0 : 0 ≤ m) (h1 : m < 18446744073709551616) : IntKind.u64.wrap n = m := by
  rw [IntKind.wrap_u64]; omega

/-- One digit of the quotient, on the way: q is not too small; r is what is left of the first digit. -/
structure Dig (n y a b u q r : Int) : Prop where
  yd : y = a * 4294967296 + b
  a0 : 2147483648 ≤ a
  a1 : a < 4294967296
  b0 : 0 ≤ b
  b1 : b < 4294967296
  n0 : 0 ≤ n
  n1 : n < y
  u0 : 0 ≤ u
  u1 : u < 4294967296
  q0 : 0 ≤ q
  q1 : q ≤ 4294967297
  r0 : 0 ≤ r
  r1 : r < 4294967296
  qr : q * a + r = n
  up : n * 4294967296 + u < y * (q + 1)

/-- The digit. -/
structure DigEnd (n y u q : Int) : Prop where
  q0 : 0 ≤ q
  q1 : q < 4294967296
  lo : y * q ≤ n * 4294967296 + u
  up : n * 4294967296 + u < y * (q + 1)

theorem mul_le' {a b c : Int} (hc : 0 ≤ c) (h : a ≤ b) : a * c ≤ b * c := Int.mul_le_mul_of_nonneg_right h hc

theorem Dig.start {n y a b u : Int} (yd : y = a * 4294967296 + b) (a0 : 2147483648 ≤ a) (a1 : a < 4294967296) (b0 : 0 ≤ b) (b1 : b < 4294967296) (n0 : 0 ≤ n) (n1 : n < y) (u0 : 0 ≤ u) (u1 : u < 4294967296) :
    Dig n y a b u (n / a) (n % a) := by
  have hd := Int.mul_ediv_add_emod n a
  have hm0 := Int.emod_nonneg n (show a ≠ 0 by omega)
  have hm1 := Int.emod_lt_of_pos n (show 0 < a by omega)
  have hq0 : 0 ≤ n / a := Int.ediv_nonneg n0 (by omega)
  generalize n / a = q at *
  generalize n % a = r at *
  have hqa : a * q = q * a := Int.mul_comm a q
  have hq1 : q ≤ 4294967297 := by
    by_cases h : q ≤ 4294967297
    · exact h
    · have := mul_le' (c := a) (by omega) (show 4294967298 ≤ q by omega)
      omega
  refine ⟨yd, a0, a1, b0, b1, n0, n1, u0, u1, hq0, hq1, hm0, by omega, by omega, ?_⟩
  have e : y * (q + 1) = (q * a + a) * 4294967296 + b * (q + 1) := by
    rw [yd, Int.add_mul, Int.mul_assoc, Int.mul_comm 4294967296, ← Int.mul_assoc, Int.mul_add, Int.mul_one, hqa]
  have hb : 0 ≤ b * (q + 1) := Int.mul_nonneg b0 (by omega)
  omega

theorem Dig.prod {n y a b u q r : Int} (h : Dig n y a b u q r) : y * q = (n - r) * 4294967296 + q * b := by
  have := h.qr
  rw [h.yd, Int.add_mul, Int.mul_assoc, Int.mul_comm 4294967296, ← Int.mul_assoc, Int.mul_comm a q, Int.mul_comm b q]
  have e : q * a = n - r := by omega
  rw [e]

theorem Dig.qb {n y a b u q r : Int} (h : Dig n y a b u q r) : 0 ≤ q * b ∧ q * b ≤ 18446744073709551615 := by
  refine ⟨Int.mul_nonneg h.q0 h.b0, ?_⟩
  have h1 := mul_le' (c := b) h.b0 h.q1
  have := h.b1
  omega

/-- The test says no: the digit. -/
theorem Dig.done {n y a b u q r : Int} (h : Dig n y a b u q r) (hq : q < 4294967296) (ht : q * b ≤ 4294967296 * r + u) : DigEnd n y u q := by
  have hp := h.prod
  exact ⟨h.q0, hq, by omega, h.up⟩

/-- The test says yes: q was too great. -/
theorem Dig.less {n y a b u q r : Int} (h : Dig n y a b u q r) (ht : 4294967296 ≤ q ∨ 4294967296 * r + u < q * b) : n * 4294967296 + u < y * q ∧ 1 ≤ q := by
  have hp := h.prod
  have hn := h.n1
  have hu := h.u1
  have hq := h.q0
  have hr := h.r0
  have hu0 := h.u0
  have hlt : n * 4294967296 + u < y * q := by
    rcases ht with ht | ht
    · have h1 := Int.mul_le_mul_of_nonneg_left ht (show 0 ≤ y by have := h.n0; omega)
      have h2 : n * 4294967296 + 4294967296 ≤ y * 4294967296 := by
        have := mul_le' (c := 4294967296) (by omega) (show n + 1 ≤ y by omega)
        omega
      omega
    · omega
  refine ⟨hlt, ?_⟩
  by_cases hc : 1 ≤ q
  · exact hc
  · have : q = 0 := by omega
    subst this
    have := h.n0
    omega

theorem Dig.next {n y a b u q r : Int} (h : Dig n y a b u q r) (ht : 4294967296 ≤ q ∨ 4294967296 * r + u < q * b) (hr : r + a < 4294967296) : Dig n y a b u (q - 1) (r + a) := by
  obtain ⟨h1, h2⟩ := h.less ht
  have := h.qr
  have := h.r0
  have := h.a0
  have := h.q1
  refine ⟨h.yd, h.a0, h.a1, h.b0, h.b1, h.n0, h.n1, h.u0, h.u1, by omega, by omega, by omega, hr, ?_, ?_⟩
  · rw [Int.sub_mul]; omega
  · rw [show q - 1 + 1 = q by omega]; exact h1

theorem Dig.leave {n y a b u q r : Int} (h : Dig n y a b u q r) (ht : 4294967296 ≤ q ∨ 4294967296 * r + u < q * b) (hr : 4294967296 ≤ r + a) : DigEnd n y u (q - 1) := by
  obtain ⟨h1, h2⟩ := h.less ht
  have hp := h.prod
  have hqb := h.qb
  have hy : y * (q - 1) = y * q - y := by rw [Int.mul_sub, Int.mul_one]
  have hyd := h.yd
  have hb := h.b0
  have hu := h.u0
  have hlo : y * (q - 1) ≤ n * 4294967296 + u := by omega
  refine ⟨by omega, ?_, hlo, by rw [show q - 1 + 1 = q by omega]; exact h1⟩
  by_cases hc : q - 1 < 4294967296
  · exact hc
  · exfalso
    have h3 := Int.mul_le_mul_of_nonneg_left (show 4294967296 ≤ q - 1 by omega) (show 0 ≤ y by have := h.n0; have := h.n1; omega)
    have h4 := mul_le' (c := 4294967296) (by omega) (show n + 1 ≤ y by have := h.n1; omega)
    have := h.u1
    omega

end Go.Proofs.YtnemedgdhojhdaaGreat

namespace Go.Proofs.YtnemedgdhojhdaaGreat
open Go.RowKit
set_option maxRecDepth 4000

set_option maxHeartbeats 4000000 in
theorem div64_core (h l y a b u1 u0 : Int) (w : World) (h0 : (y == 0) = false) (h1 : h < y) (h2 : (h == 0) = false)
    (wy : IntKind.u64.wrap y = y) (wh : IntKind.u64.wrap h = h) (wl : IntKind.u64.wrap l = l)
    (ya : y / 4294967296 = a) (yb : bits .and .u64 y 4294967295 = b) (ha : ¬ a = 0) (l1 : l / 4294967296 = u1) (l0 : bits .and .u64 l 4294967295 = u0) (lz : l / 18446744073709551616 = 0) (ho : bits .or .u64 h 0 = h)
    (q1 q0 R : Int) (D : Hid (∀ q, DigEnd h y u1 q → q = q1)) (D1 : Hid (Dig h y a b u1 (h / a) (h % a))) (D2 : Hid (Dig R y a b u0 (R / a) (R % a))) (D0 : Hid (∀ q, DigEnd R y u0 q → q = q0))
    (e1 : IntKind.u64.wrap (h.tdiv a) = h / a) (e2 : IntKind.u64.wrap (h - IntKind.u64.wrap (h / a * a)) = h % a)
    (e3 : IntKind.u64.wrap (IntKind.u64.wrap (IntKind.u64.wrap (h * 4294967296) + u1) - IntKind.u64.wrap (q1 * y)) = R)
    (e4 : IntKind.u64.wrap (R.tdiv a) = R / a) (e5 : IntKind.u64.wrap (R - IntKind.u64.wrap (R / a * a)) = R % a)
    (Z rr : Int) (e6 : IntKind.u64.wrap (IntKind.u64.wrap (q1 * 4294967296) + q0) = Z)
    (e7 : IntKind.u64.wrap (IntKind.u64.wrap (IntKind.u64.wrap (R * 4294967296) + u0) - IntKind.u64.wrap (q0 * y)) = rr)
    (hz : Hid (∀ w, Calls Tryz.prog 180 #[.int .u64 y] w fun e w' => e = .returned (.int .i64 0) ∧ w' = w)) :
    Calls Tryz.prog 199 #[.int .u64 h, .int .u64 l, .int .u64 y] w fun e w' => e = .returned (.tuple #[.int .u64 Z, .int .u64 rr]) ∧ w' = w := by
  go_enter Tryz.func199, Tryz.ntmps199
  go_upto_block 0 with (go_at_call 180; refine (unhide hz _).mono ?_; rintro e w' ⟨he, hw⟩; subst he; subst hw)
  go_cut [15, 16] (fun s15 s16 wx => w' = wx ∧ ∃ q : Int, s15 = .int .u64 q ∧ DigEnd h y u1 q)
  case first =>
    go_wp2
    go_loop [15, 16] (fun s15 s16 => ∃ q r : Int, s15 = .int .u64 q ∧ s16 = .int .u64 r ∧ Dig h y a b u1 q r) (fun s15 _ => (intOf s15).toNat)
    case atStart => exact ⟨_, _, rfl, rfl, unhide D1⟩
    case round =>
      obtain ⟨q, r, rfl, rfl, D⟩ := hrel
      have HD := hide D
      have wq : IntKind.u64.wrap (q - 1) = q - 1 ∨ ¬ 1 ≤ q := by
        by_cases hq : 1 ≤ q
        · left; exact wu _ (by omega) (by have := D.q1; omega)
        · exact .inr hq
      have wr1 : IntKind.u64.wrap (r + a) = r + a := wu _ (by have := D.r0; have := D.a0; omega) (by have := D.r1; have := D.a1; omega)
      have w1 : IntKind.u64.wrap (q * b) = q * b := by have := D.qb; exact wu _ (by omega) (by omega)
      have w2 : IntKind.u64.wrap (4294967296 * r) = 4294967296 * r := wu _ (by have := D.r0; omega) (by have := D.r1; omega)
      have w3 : IntKind.u64.wrap (4294967296 * r + u1) = 4294967296 * r + u1 := wu _ (by have := D.r0; have := D.u0; omega) (by have := D.r1; have := D.u1; omega)
      by_cases hA : 4294967296 ≤ q
      · have hl := D.less (.inl hA)
        have wq1 : IntKind.u64.wrap (q - 1) = q - 1 := by rcases wq with h | h; exact h; exact absurd hl.2 h
        have dA : decide (4294967296 ≤ q) = true := decide_eq_true hA
        by_cases hr : 4294967296 ≤ r + a
        · have E := hide (D.leave (.inl hA) hr)
          have dr : decide (4294967296 ≤ r + a) = true := decide_eq_true hr
          clear D wq hl hA hr
          go_wp2
          go_meet
          case rel => exact ⟨rfl, q - 1, rfl, unhide E⟩
        · have E := hide (D.next (.inl hA) (by omega))
          have dr : decide (4294967296 ≤ r + a) = false := decide_eq_false hr
          clear D wq hl hA hr
          go_wp2
          go_round
          case rel => exact ⟨q - 1, r + a, rfl, rfl, unhide E⟩
          case measure => have := (unhide HD).q0; have := (unhide E).q0; simp [intOf]; omega
      · have dA : decide (4294967296 ≤ q) = false := decide_eq_false hA
        by_cases hB : 4294967296 * r + u1 < q * b
        · have hl := D.less (.inr hB)
          have wq1 : IntKind.u64.wrap (q - 1) = q - 1 := by rcases wq with h | h; exact h; exact absurd hl.2 h
          have dB : decide (4294967296 * r + u1 < q * b) = true := decide_eq_true hB
          by_cases hr : 4294967296 ≤ r + a
          · have E := hide (D.leave (.inr hB) hr)
            have dr : decide (4294967296 ≤ r + a) = true := decide_eq_true hr
            clear D wq hl hA hB hr
            go_wp2
            go_meet
            case rel => exact ⟨rfl, q - 1, rfl, unhide E⟩
          · have E := hide (D.next (.inr hB) (by omega))
            have dr : decide (4294967296 ≤ r + a) = false := decide_eq_false hr
            clear D wq hl hA hB hr
            go_wp2
            go_round
            case rel => exact ⟨q - 1, r + a, rfl, rfl, unhide E⟩
            case measure => have := (unhide HD).q0; have := (unhide E).q0; simp [intOf]; omega
        · have E := hide (D.done (by omega) (by omega))
          have dB : decide (4294967296 * r + u1 < q * b) = false := decide_eq_false hB
          clear D wq hA hB
          go_wp2
          go_meet
          case rel => exact ⟨rfl, q, rfl, unhide E⟩
  case rest =>
    obtain ⟨hw, q, hq, E⟩ := hcut
    have eq1 := unhide D q E
    subst eq1
    subst hq
    subst hw
    clear E
    go_upto_block 2 with fail
    go_cut [18, 16] (fun s18 s16 wx => w' = wx ∧ ∃ q : Int, s18 = .int .u64 q ∧ DigEnd R y u0 q)
    case first =>
      go_wp2
      go_loop [18, 16] (fun s18 s16 => ∃ q r : Int, s18 = .int .u64 q ∧ s16 = .int .u64 r ∧ Dig R y a b u0 q r) (fun s18 _ => (intOf s18).toNat)
      case atStart => exact ⟨_, _, rfl, rfl, unhide D2⟩
      case round =>
        obtain ⟨q, r, rfl, rfl, D⟩ := hrel
        have HD := hide D
        have wq : IntKind.u64.wrap (q - 1) = q - 1 ∨ ¬ 1 ≤ q := by
          by_cases hq : 1 ≤ q
          · left; exact wu _ (by omega) (by have := D.q1; omega)
          · exact .inr hq
        have wr1 : IntKind.u64.wrap (r + a) = r + a := wu _ (by have := D.r0; have := D.a0; omega) (by have := D.r1; have := D.a1; omega)
        have w1 : IntKind.u64.wrap (q * b) = q * b := by have := D.qb; exact wu _ (by omega) (by omega)
        have w2 : IntKind.u64.wrap (4294967296 * r) = 4294967296 * r := wu _ (by have := D.r0; omega) (by have := D.r1; omega)
        have w3 : IntKind.u64.wrap (4294967296 * r + u0) = 4294967296 * r + u0 := wu _ (by have := D.r0; have := D.u0; omega) (by have := D.r1; have := D.u1; omega)
        by_cases hA : 4294967296 ≤ q
        · have hl := D.less (.inl hA)
          have wq1 : IntKind.u64.wrap (q - 1) = q - 1 := by rcases wq with h | h; exact h; exact absurd hl.2 h
          have dA : decide (4294967296 ≤ q) = true := decide_eq_true hA
          by_cases hr : 4294967296 ≤ r + a
          · have E := hide (D.leave (.inl hA) hr)
            have dr : decide (4294967296 ≤ r + a) = true := decide_eq_true hr
            clear D wq hl hA hr
            go_wp2
            go_meet
            case rel => exact ⟨rfl, q - 1, rfl, unhide E⟩
          · have E := hide (D.next (.inl hA) (by omega))
            have dr : decide (4294967296 ≤ r + a) = false := decide_eq_false hr
            clear D wq hl hA hr
            go_wp2
            go_round
            case rel => exact ⟨q - 1, r + a, rfl, rfl, unhide E⟩
            case measure => have := (unhide HD).q0; have := (unhide E).q0; simp [intOf]; omega
        · have dA : decide (4294967296 ≤ q) = false := decide_eq_false hA
          by_cases hB : 4294967296 * r + u0 < q * b
          · have hl := D.less (.inr hB)
            have wq1 : IntKind.u64.wrap (q - 1) = q - 1 := by rcases wq with h | h; exact h; exact absurd hl.2 h
            have dB : decide (4294967296 * r + u0 < q * b) = true := decide_eq_true hB
            by_cases hr : 4294967296 ≤ r + a
            · have E := hide (D.leave (.inr hB) hr)
              have dr : decide (4294967296 ≤ r + a) = true := decide_eq_true hr
              clear D wq hl hA hB hr
              go_wp2
              go_meet
              case rel => exact ⟨rfl, q - 1, rfl, unhide E⟩
            · have E := hide (D.next (.inr hB) (by omega))
              have dr : decide (4294967296 ≤ r + a) = false := decide_eq_false hr
              clear D wq hl hA hB hr
              go_wp2
              go_round
              case rel => exact ⟨q - 1, r + a, rfl, rfl, unhide E⟩
              case measure => have := (unhide HD).q0; have := (unhide E).q0; simp [intOf]; omega
          · have E := hide (D.done (by omega) (by omega))
            have dB : decide (4294967296 * r + u0 < q * b) = false := decide_eq_false hB
            clear D wq hA hB
            go_wp2
            go_meet
            case rel => exact ⟨rfl, q, rfl, unhide E⟩
    case rest =>
      obtain ⟨hw, q', hq, E⟩ := hcut
      have eq0 := unhide D0 q' E
      subst eq0
      subst hq
      subst hw
      clear E
      go_wp2
      go_ret2
      exact ⟨rfl, rfl⟩

theorem DigEnd.eq {n y u q : Int} (h : DigEnd n y u q) (hy : 0 < y) : q = (n * 4294967296 + u) / y := by
  have h1 := h.lo
  have h2 := h.up
  refine Int.le_antisymm ?_ ?_
  · rw [Int.le_ediv_iff_mul_le hy, Int.mul_comm]; exact h1
  · have : (n * 4294967296 + u) / y < q + 1 := by rw [Int.ediv_lt_iff_lt_mul hy, Int.mul_comm (q + 1)]; exact h2
    omega

theorem tdiv_nn (n a : Int) (hn : 0 ≤ n) : n.tdiv a = n / a := Int.tdiv_eq_ediv_of_nonneg hn

theorem or_zero (h : Nat) (hh : h < 18446744073709551616) : bits .or .u64 (h : Int) 0 = h := by
  have e : bits .or .u64 (h : Int) 0 = IntKind.u64.wrap (((BitVec.ofInt 64 (h : Int) ||| BitVec.ofInt 64 0).toNat : Nat) : Int) := rfl
  rw [e, BitVec.ofInt_natCast, BitVec.toNat_or, BitVec.toNat_ofNat, Nat.mod_eq_of_lt hh, show (BitVec.ofInt 64 0).toNat = 0 from by decide, Nat.or_zero]
  exact wu _ (by omega) (by omega)

/-- Div64, of numbers below 2^64, the divisor's top bit set, and greater than the high part. -/
theorem div64_any (h l y : Nat) (hy : 9223372036854775808 ≤ y) (hy' : y < 18446744073709551616) (hh : h < y) (hl : l < 18446744073709551616) (hh0 : h ≠ 0) (w : World) :
    Calls Tryz.prog 199 #[.int .u64 (h : Int), .int .u64 (l : Int), .int .u64 (y : Int)] w fun e w' =>
      e = .returned (.tuple #[.int .u64 (((h * 18446744073709551616 + l) / y : Nat) : Int), .int .u64 (((h * 18446744073709551616 + l) % y : Nat) : Int)]) ∧ w' = w := by
  have hb := bits_and_u64_nat y 4294967295 hy' (by decide)
  have hb' := bits_and_u64_nat l 4294967295 hl (by decide)
  rw [show y &&& 4294967295 = y % 4294967296 from Nat.and_two_pow_sub_one_eq_mod y 32] at hb
  rw [show l &&& 4294967295 = l % 4294967296 from Nat.and_two_pow_sub_one_eq_mod l 32] at hb'
  have ho : bits .or .u64 (h : Int) 0 = h := or_zero h (by omega)
  have hz : ∀ w, Calls Tryz.prog 180 #[.int .u64 (y : Int)] w fun e w' => e = .returned (.int .i64 0) ∧ w' = w := fun w => by
    have := lz64_any y hy' w
    have hbl : blen y = 64 := by
      have h1 : blen y ≤ 64 := (blen_lt y 64).2 hy'
      have h2 : ¬ blen y ≤ 63 := fun hc => by have := (blen_lt y 63).1 hc; omega
      omega
    rw [hbl] at this
    exact this
  obtain ⟨Y, hY⟩ : ∃ Y : Int, Y = (y : Int) := ⟨_, rfl⟩
  obtain ⟨H, hH⟩ : ∃ H : Int, H = (h : Int) := ⟨_, rfl⟩
  obtain ⟨L, hL⟩ : ∃ L : Int, L = (l : Int) := ⟨_, rfl⟩
  have cb : ((y % 4294967296 : Nat) : Int) = Y % 4294967296 := by omega
  have cl : ((l % 4294967296 : Nat) : Int) = L % 4294967296 := by omega
  have hYb : 9223372036854775808 ≤ Y ∧ Y < 18446744073709551616 ∧ 0 ≤ H ∧ H < Y ∧ 0 ≤ L ∧ L < 18446744073709551616 ∧ H ≠ 0 := by omega
  have cq : (((h * 18446744073709551616 + l) / y : Nat) : Int) = (H * 18446744073709551616 + L) / Y := by
    rw [hH, hL, hY, Int.natCast_ediv]; simp
  have cr : (((h * 18446744073709551616 + l) % y : Nat) : Int) = (H * 18446744073709551616 + L) % Y := by
    rw [hH, hL, hY, Int.natCast_emod]; simp
  rw [cq, cr]
  rw [← hH] at ho ⊢
  rw [← hL] at hb' ⊢
  rw [← hY] at hb hz ⊢
  rw [cb] at hb
  rw [cl] at hb'
  clear cq cr cb cl hH hL hY hy hy' hh hl hh0
  obtain ⟨y1, y2, p1, p2, l1, l2, h0⟩ := hYb
  clear h l y
  have Dg : Dig H Y (Y / 4294967296) (Y % 4294967296) (L / 4294967296) (H / (Y / 4294967296)) (H % (Y / 4294967296)) :=
    Dig.start (by omega) (by omega) (by omega) (by omega) (by omega) p1 p2 (by omega) (by omega)
  obtain ⟨N, hN⟩ : ∃ N, N = H * 4294967296 + L / 4294967296 := ⟨_, rfl⟩
  have hYp : 0 < Y := by omega
  have hR0 := Int.emod_nonneg N (show Y ≠ 0 by omega)
  have hR1 := Int.emod_lt_of_pos N hYp
  have hdm := Int.mul_ediv_add_emod N Y
  have Dg2 : Dig (N % Y) Y (Y / 4294967296) (Y % 4294967296) (L % 4294967296) (N % Y / (Y / 4294967296)) (N % Y % (Y / 4294967296)) :=
    Dig.start (by omega) (by omega) (by omega) (by omega) (by omega) hR0 hR1 (by omega) (by omega)
  obtain ⟨N2, hN2⟩ : ∃ N2, N2 = N % Y * 4294967296 + L % 4294967296 := ⟨_, rfl⟩
  have hR20 := Int.emod_nonneg N2 (show Y ≠ 0 by omega)
  have hR21 := Int.emod_lt_of_pos N2 hYp
  have hdm2 := Int.mul_ediv_add_emod N2 Y
  have hda := Int.mul_ediv_add_emod H (Y / 4294967296)
  have hda2 := Int.mul_ediv_add_emod (N % Y) (Y / 4294967296)
  have hap : 0 < Y / 4294967296 := by omega
  have hra0 := Int.emod_nonneg H (show Y / 4294967296 ≠ 0 by omega)
  have hra1 := Int.emod_lt_of_pos H hap
  have hrb0 := Int.emod_nonneg (N % Y) (show Y / 4294967296 ≠ 0 by omega)
  have hrb1 := Int.emod_lt_of_pos (N % Y) hap
  have hq1b : 0 ≤ N / Y ∧ N / Y < 4294967296 := by
    refine ⟨Int.ediv_nonneg (by omega) (by omega), ?_⟩
    rw [Int.ediv_lt_iff_lt_mul hYp]
    have := mul_le' (c := 4294967296) (by omega) (show H + 1 ≤ Y by omega)
    omega
  have hq0b : 0 ≤ N2 / Y ∧ N2 / Y < 4294967296 := by
    refine ⟨Int.ediv_nonneg (by omega) (by omega), ?_⟩
    rw [Int.ediv_lt_iff_lt_mul hYp]
    have := mul_le' (c := 4294967296) (by omega) (show N % Y + 1 ≤ Y by omega)
    omega
  have hcore := div64_core H L Y (Y / 4294967296) (Y % 4294967296) (L / 4294967296) (L % 4294967296) w (by simp; omega) p2 (by simp; omega) (wu _ (by omega) (by omega)) (wu _ (by omega) (by omega)) (wu _ (by omega) (by omega))
    rfl hb (by omega) rfl hb' (by omega) ho (N / Y) (N2 / Y) (N % Y)
    (fun q hq => by rw [hN]; exact hq.eq hYp) Dg Dg2 (fun q hq => by rw [hN2]; exact hq.eq hYp)
    (by rw [tdiv_nn _ _ p1]; exact wu _ Dg.q0 (by have := Dg.q1; omega))
    (by
      have e : H / (Y / 4294967296) * (Y / 4294967296) = H - H % (Y / 4294967296) := by rw [Int.mul_comm]; omega
      rw [e, wu (H - H % (Y / 4294967296)) (by have := Int.mul_nonneg Dg.q0 (show 0 ≤ Y / 4294967296 by omega); omega) (by omega)]
      rw [show H - (H - H % (Y / 4294967296)) = H % (Y / 4294967296) by omega]
      exact wu _ hra0 (by omega))
    (by
      have e : N / Y * Y = N - N % Y := by rw [Int.mul_comm]; omega
      rw [e]
      rw [IntKind.wrap_u64, IntKind.wrap_u64, IntKind.wrap_u64, IntKind.wrap_u64]
      omega)
    (by rw [tdiv_nn _ _ hR0]; exact wu _ Dg2.q0 (by have := Dg2.q1; omega))
    (by
      have e : N % Y / (Y / 4294967296) * (Y / 4294967296) = N % Y - N % Y % (Y / 4294967296) := by rw [Int.mul_comm]; omega
      rw [e, wu (N % Y - N % Y % (Y / 4294967296)) (by have := Int.mul_nonneg Dg2.q0 (show 0 ≤ Y / 4294967296 by omega); omega) (by omega)]
      rw [show N % Y - (N % Y - N % Y % (Y / 4294967296)) = N % Y % (Y / 4294967296) by omega]
      exact wu _ hrb0 (by omega))
    (N / Y * 4294967296 + N2 / Y) (N2 % Y)
    (by rw [wu (N / Y * 4294967296) (by omega) (by omega)]; exact wu _ (by omega) (by omega))
    (by
      have e : N2 / Y * Y = N2 - N2 % Y := by rw [Int.mul_comm]; omega
      rw [e]
      rw [IntKind.wrap_u64, IntKind.wrap_u64, IntKind.wrap_u64, IntKind.wrap_u64]
      omega) hz
  have eN : H * 18446744073709551616 + L = N2 + N / Y * 4294967296 * Y := by
    have e1 : N / Y * 4294967296 * Y = (N - N % Y) * 4294967296 := by
      rw [Int.mul_assoc, Int.mul_comm 4294967296 Y, ← Int.mul_assoc, Int.mul_comm (N / Y) Y]
      congr 1
      omega
    rw [e1]
    omega
  rw [eN, Int.add_mul_ediv_right _ _ (show Y ≠ 0 by omega), Int.add_mul_emod_self_right, Int.add_comm (N2 / Y)]
  exact hcore

end Go.Proofs.YtnemedgdhojhdaaGreat

namespace Go.Proofs.YtnemedgdhojhdaaGreat
open Go.RowKit
set_option maxRecDepth 4000

set_option maxHeartbeats 1000000 in
theorem div64_low (l y q r : Int) (w : World) (h0 : (y == 0) = false) (h1 : 0 < y) (hn : ¬ y = 0)
    (e1 : IntKind.u64.wrap (l.tdiv y) = q) (e2 : l.tmod y = r) :
    Calls Tryz.prog 199 #[.int .u64 0, .int .u64 l, .int .u64 y] w fun e w' => e = .returned (.tuple #[.int .u64 q, .int .u64 r]) ∧ w' = w.drew := by
  go_enter Tryz.func199, Tryz.ntmps199
  go_wp2
  refine region_plan (S := fun u => u = w.drew) (l := [0, 1, 2, 3, 4, 5, 6, 7]) (by kernel_rfl) (by kernel_rfl) (by kernel_rfl) (by kernel_rfl) (by kernel_rfl) (by kernel_rfl) (by kernel_rfl) rfl ?_
  refine plan_read (v := ?_) rfl rfl (fun u hS => by go_simp; rfl) ?_
  refine plan_read (v := ?_) rfl rfl (fun u hS => by go_simp; rfl) ?_
  refine plan_read (v := .int .u64 q) rfl rfl (fun u hS => by go_simp) ?_
  refine plan_read (v := ?_) rfl rfl (fun u hS => by go_simp; rfl) ?_
  refine plan_read (v := ?_) rfl rfl (fun u hS => by go_simp; rfl) ?_
  refine plan_read (v := .int .u64 r) rfl rfl (fun u hS => by go_simp) ?_
  refine plan_read (v := ?_) rfl rfl (fun u hS => by go_simp; rfl) ?_
  refine plan_read (v := ?_) rfl rfl (fun u hS => by go_simp; rfl) ?_
  refine plan_end (fun u hS => ?_)
  have HS := hide hS
  clear hS
  go_simp
  go_wp2
  go_ret2
  exact ⟨rfl, unhide HS⟩

/-- Div64, of a divisor whose top bit is set. -/
theorem div64_top (h l y : Nat) (hy : 9223372036854775808 ≤ y) (hy' : y < 18446744073709551616) (hh : h < y) (hl : l < 18446744073709551616) (w : World) :
    Calls Tryz.prog 199 #[.int .u64 (h : Int), .int .u64 (l : Int), .int .u64 (y : Int)] w fun e w' =>
      e = .returned (.tuple #[.int .u64 (((h * 18446744073709551616 + l) / y : Nat) : Int), .int .u64 (((h * 18446744073709551616 + l) % y : Nat) : Int)]) ∧ Below w.heap.size w w' := by
  by_cases h0 : h = 0
  · subst h0
    rw [Nat.zero_mul, Nat.zero_add]
    have hb : l / y < 18446744073709551616 := Nat.lt_of_le_of_lt (Nat.div_le_self _ _) hl
    have e1 : IntKind.u64.wrap ((l : Int).tdiv (y : Int)) = ((l / y : Nat) : Int) := by
      rw [tdiv_nn _ _ (by omega), ← Int.natCast_ediv]
      exact wu _ (Int.natCast_nonneg _) (Int.ofNat_lt.2 hb)
    have e2 : (l : Int).tmod (y : Int) = ((l % y : Nat) : Int) := by
      rw [Int.tmod_eq_emod_of_nonneg (by omega), ← Int.natCast_emod]
    refine (div64_low (l : Int) (y : Int) _ _ w (by simp; omega) (by omega) (by omega) e1 e2).mono fun e w' ⟨he, hw⟩ => ⟨he, ?_⟩
    rw [hw]
    exact (Below.refl _ _).drew
  · refine (div64_any h l y hy hy' hh hl h0 w).mono fun e w' ⟨he, hw⟩ => ⟨he, ?_⟩
    rw [hw]
    exact Below.refl _ _

/-- What guess answers. -/
def gs (h l t : Nat) : Nat := if t ≤ h then 18446744073709551615 else (h * 18446744073709551616 + l) / t

theorem guess_any (h l t : Nat) (ht : 9223372036854775808 ≤ t) (ht' : t < 18446744073709551616) (hl : l < 18446744073709551616) (w : World) :
    Calls Tryz.prog 192 #[.int .u64 (h : Int), .int .u64 (l : Int), .int .u64 (t : Int)] w fun e w' => e = .returned (.int .u64 (gs h l t : Int)) ∧ Below w.heap.size w w' := by
  by_cases hc : t ≤ h
  · have eg : gs h l t = 18446744073709551615 := by unfold gs; rw [if_pos hc]
    rw [eg]
    have hci : (t : Int) ≤ (h : Int) := by omega
    clear eg ht ht' hl
    go_enter Tryz.func192, Tryz.ntmps192
    go_wp2
    go_ret
    exact ⟨rfl, Below.refl _ _⟩
  · have eg : gs h l t = (h * 18446744073709551616 + l) / t := by unfold gs; rw [if_neg hc]
    rw [eg]
    have HD := hide (fun w => div64_top h l t ht ht' (by omega) hl w)
    have hci : (h : Int) < (t : Int) := by omega
    clear eg ht ht' hl hc
    obtain ⟨q, hq⟩ : ∃ q, q = (h * 18446744073709551616 + l) / t := ⟨_, rfl⟩
    obtain ⟨r, hr⟩ : ∃ r, r = (h * 18446744073709551616 + l) % t := ⟨_, rfl⟩
    rw [← hq, ← hr] at HD
    rw [← hq]
    clear hq hr
    go_enter Tryz.func192, Tryz.ntmps192
    go_wp2_with (go_at_call 199; refine (unhide HD _).mono ?_; rintro e w' ⟨he, hb⟩; subst he)
    go_ret
    exact ⟨rfl, hb⟩

end Go.Proofs.YtnemedgdhojhdaaGreat
