/- The contract of math/bits.Div64, of a divisor whose top bit is set: the walk. -/
import Derived.Test.YtfoojpfgeicolaaWl
namespace Go.Proofs.Ytfoojpfgeicolaa
open Go.RowKit

set_option maxHeartbeats 4000000 in
theorem div64_core (h l y a b u1 u0 : Int) (w : World) (h0 : (y == 0) = false) (h1 : h < y) (h2 : (h == 0) = false)
    (wy : IntKind.u64.wrap y = y) (wh : IntKind.u64.wrap h = h) (wl : IntKind.u64.wrap l = l)
    (ya : y / 4294967296 = a) (yb : bits .and .u64 y 4294967295 = b) (ha : ¬ a = 0) (l1 : l / 4294967296 = u1) (l0 : bits .and .u64 l 4294967295 = u0) (lz : l / 18446744073709551616 = 0) (ho : bits .or .u64 h 0 = h)
    (q1 q0 R : Int) (D : Hid (∀ q, DigEnd h y u1 q → q = q1)) (D1 : Hid (Dig h y a b u1 (h / a) (h % a))) (D2 : Hid (Dig R y a b u0 (R / a) (R % a))) (D0 : Hid (∀ q, DigEnd R y u0 q → q = q0))
    (e1 : IntKind.u64.wrap (h.tdiv a) = h / a) (e2 : IntKind.u64.wrap (h - IntKind.u64.wrap (h / a * a)) = h % a)
    (e3 : IntKind.u64.wrap (IntKind.u64.wrap (IntKind.u64.wrap (h * 4294967296) + u1) - IntKind.u64.wrap (q1 * y)) = R)
    (e4 : IntKind.u64.wrap (R.tdiv a) = R / a) (e5 : IntKind.u64.wrap (R - IntKind.u64.wrap (R / a * a)) = R % a)
    (Z rr : Int) (e6 : IntKind.u64.wrap (IntKind.u64.wrap (q1 * 4294967296) + q0) = Z)
    (e7 : IntKind.u64.wrap (IntKind.u64.wrap (IntKind.u64.wrap (R * 4294967296) + u0) - IntKind.u64.wrap (q0 * y)) = rr)
    (hz : Hid (∀ w, Calls Try.prog 76 #[.int .u64 y] w fun e w' => e = .returned (.int .i64 0) ∧ w' = w)) :
    Calls Try.prog 82 #[.int .u64 h, .int .u64 l, .int .u64 y] w fun e w' => e = .returned (.tuple #[.int .u64 Z, .int .u64 rr]) ∧ w' = w := by
  go_enter Try.func82, Try.ntmps82
  go_upto_block 0 with (go_at_call 76; refine (unhide hz _).mono ?_; rintro e w' ⟨he, hw⟩; subst he; subst hw)
  go_cut [15, 16] (fun s15 s16 wx => w' = wx ∧ ∃ q : Int, s15 = .int .u64 q ∧ DigEnd h y u1 q)
  case first =>
    go_wp2
    go_loop [15, 16] (fun s15 s16 => ∃ q r : Int, s15 = .int .u64 q ∧ s16 = .int .u64 r ∧ Dig h y a b u1 q r) (fun s15 _ => (intOf s15).toNat)
    case atStart => exact ⟨_, _, rfl, rfl, unhide D1⟩
    case round =>
      obtain ⟨q, r, rfl, rfl, D⟩ := hrel
      have HD := hide D
      have wq : IntKind.u64.wrap (q - 1) = q - 1 ∨ ¬ 1 ≤ q := by
        by_cases hq : 1 ≤ q
        · left; exact wu _ (by omega) (by have := D.q1; omega)
        · exact .inr hq
      have wr1 : IntKind.u64.wrap (r + a) = r + a := wu _ (by have := D.r0; have := D.a0; omega) (by have := D.r1; have := D.a1; omega)
      have w1 : IntKind.u64.wrap (q * b) = q * b := by have := D.qb; exact wu _ (by omega) (by omega)
      have w2 : IntKind.u64.wrap (4294967296 * r) = 4294967296 * r := wu _ (by have := D.r0; omega) (by have := D.r1; omega)
      have w3 : IntKind.u64.wrap (4294967296 * r + u1) = 4294967296 * r + u1 := wu _ (by have := D.r0; have := D.u0; omega) (by have := D.r1; have := D.u1; omega)
      by_cases hA : 4294967296 ≤ q
      · have hl := D.less (.inl hA)
        have wq1 : IntKind.u64.wrap (q - 1) = q - 1 := by rcases wq with h | h; exact h; exact absurd hl.2 h
        have dA : decide (4294967296 ≤ q) = true := decide_eq_true hA
        by_cases hr : 4294967296 ≤ r + a
        · have E := hide (D.leave (.inl hA) hr)
          have dr : decide (4294967296 ≤ r + a) = true := decide_eq_true hr
          clear D wq hl hA hr
          go_wp2
          go_meet
          case rel => exact ⟨rfl, q - 1, rfl, unhide E⟩
        · have E := hide (D.next (.inl hA) (by omega))
          have dr : decide (4294967296 ≤ r + a) = false := decide_eq_false hr
          clear D wq hl hA hr
          go_wp2
          go_round
          case rel => exact ⟨q - 1, r + a, rfl, rfl, unhide E⟩
          case measure => have := (unhide HD).q0; have := (unhide E).q0; simp [intOf]; omega
      · have dA : decide (4294967296 ≤ q) = false := decide_eq_false hA
        by_cases hB : 4294967296 * r + u1 < q * b
        · have hl := D.less (.inr hB)
          have wq1 : IntKind.u64.wrap (q - 1) = q - 1 := by rcases wq with h | h; exact h; exact absurd hl.2 h
          have dB : decide (4294967296 * r + u1 < q * b) = true := decide_eq_true hB
          by_cases hr : 4294967296 ≤ r + a
          · have E := hide (D.leave (.inr hB) hr)
            have dr : decide (4294967296 ≤ r + a) = true := decide_eq_true hr
            clear D wq hl hA hB hr
            go_wp2
            go_meet
            case rel => exact ⟨rfl, q - 1, rfl, unhide E⟩
          · have E := hide (D.next (.inr hB) (by omega))
            have dr : decide (4294967296 ≤ r + a) = false := decide_eq_false hr
            clear D wq hl hA hB hr
            go_wp2
            go_round
            case rel => exact ⟨q - 1, r + a, rfl, rfl, unhide E⟩
            case measure => have := (unhide HD).q0; have := (unhide E).q0; simp [intOf]; omega
        · have E := hide (D.done (by omega) (by omega))
          have dB : decide (4294967296 * r + u1 < q * b) = false := decide_eq_false hB
          clear D wq hA hB
          go_wp2
          go_meet
          case rel => exact ⟨rfl, q, rfl, unhide E⟩
  case rest =>
    obtain ⟨hw, q, hq, E⟩ := hcut
    have eq1 := unhide D q E
    subst eq1
    subst hq
    subst hw
    clear E
    go_upto_block 2 with fail
    go_cut [18, 16] (fun s18 s16 wx => w' = wx ∧ ∃ q : Int, s18 = .int .u64 q ∧ DigEnd R y u0 q)
    case first =>
      go_wp2
      go_loop [18, 16] (fun s18 s16 => ∃ q r : Int, s18 = .int .u64 q ∧ s16 = .int .u64 r ∧ Dig R y a b u0 q r) (fun s18 _ => (intOf s18).toNat)
      case atStart => exact ⟨_, _, rfl, rfl, unhide D2⟩
      case round =>
        obtain ⟨q, r, rfl, rfl, D⟩ := hrel
        have HD := hide D
        have wq : IntKind.u64.wrap (q - 1) = q - 1 ∨ ¬ 1 ≤ q := by
          by_cases hq : 1 ≤ q
          · left; exact wu _ (by omega) (by have := D.q1; omega)
          · exact .inr hq
        have wr1 : IntKind.u64.wrap (r + a) = r + a := wu _ (by have := D.r0; have := D.a0; omega) (by have := D.r1; have := D.a1; omega)
        have w1 : IntKind.u64.wrap (q * b) = q * b := by have := D.qb; exact wu _ (by omega) (by omega)
        have w2 : IntKind.u64.wrap (4294967296 * r) = 4294967296 * r := wu _ (by have := D.r0; omega) (by have := D.r1; omega)
        have w3 : IntKind.u64.wrap (4294967296 * r + u0) = 4294967296 * r + u0 := wu _ (by have := D.r0; have := D.u0; omega) (by have := D.r1; have := D.u1; omega)
        by_cases hA : 4294967296 ≤ q
        · have hl := D.less (.inl hA)
          have wq1 : IntKind.u64.wrap (q - 1) = q - 1 := by rcases wq with h | h; exact h; exact absurd hl.2 h
          have dA : decide (4294967296 ≤ q) = true := decide_eq_true hA
          by_cases hr : 4294967296 ≤ r + a
          · have E := hide (D.leave (.inl hA) hr)
            have dr : decide (4294967296 ≤ r + a) = true := decide_eq_true hr
            clear D wq hl hA hr
            go_wp2
            go_meet
            case rel => exact ⟨rfl, q - 1, rfl, unhide E⟩
          · have E := hide (D.next (.inl hA) (by omega))
            have dr : decide (4294967296 ≤ r + a) = false := decide_eq_false hr
            clear D wq hl hA hr
            go_wp2
            go_round
            case rel => exact ⟨q - 1, r + a, rfl, rfl, unhide E⟩
            case measure => have := (unhide HD).q0; have := (unhide E).q0; simp [intOf]; omega
        · have dA : decide (4294967296 ≤ q) = false := decide_eq_false hA
          by_cases hB : 4294967296 * r + u0 < q * b
          · have hl := D.less (.inr hB)
            have wq1 : IntKind.u64.wrap (q - 1) = q - 1 := by rcases wq with h | h; exact h; exact absurd hl.2 h
            have dB : decide (4294967296 * r + u0 < q * b) = true := decide_eq_true hB
            by_cases hr : 4294967296 ≤ r + a
            · have E := hide (D.leave (.inr hB) hr)
              have dr : decide (4294967296 ≤ r + a) = true := decide_eq_true hr
              clear D wq hl hA hB hr
              go_wp2
              go_meet
              case rel => exact ⟨rfl, q - 1, rfl, unhide E⟩
            · have E := hide (D.next (.inr hB) (by omega))
              have dr : decide (4294967296 ≤ r + a) = false := decide_eq_false hr
              clear D wq hl hA hB hr
              go_wp2
              go_round
              case rel => exact ⟨q - 1, r + a, rfl, rfl, unhide E⟩
              case measure => have := (unhide HD).q0; have := (unhide E).q0; simp [intOf]; omega
          · have E := hide (D.done (by omega) (by omega))
            have dB : decide (4294967296 * r + u0 < q * b) = false := decide_eq_false hB
            clear D wq hA hB
            go_wp2
            go_meet
            case rel => exact ⟨rfl, q, rfl, unhide E⟩
    case rest =>
      obtain ⟨hw, q', hq, E⟩ := hcut
      have eq0 := unhide D0 q' E
      subst eq0
      subst hq
      subst hw
      clear E
      go_wp2
      go_ret2
      exact ⟨rfl, rfl⟩

theorem DigEnd.eq {n y u q : Int} (h : DigEnd n y u q) (hy : 0 < y) : q = (n * 4294967296 + u) / y := by
  have h1 := h.lo
  have h2 := h.up
  refine Int.le_antisymm ?_ ?_
  · rw [Int.le_ediv_iff_mul_le hy, Int.mul_comm]; exact h1
  · have : (n * 4294967296 + u) / y < q + 1 := by rw [Int.ediv_lt_iff_lt_mul hy, Int.mul_comm (q + 1)]; exact h2
    omega

theorem tdiv_nn (n a : Int) (hn : 0 ≤ n) : n.tdiv a = n / a := Int.tdiv_eq_ediv_of_nonneg hn

theorem or_zero (h : Nat) (hh : h < 18446744073709551616) : bits .or .u64 (h : Int) 0 = h := by
  have e : bits .or .u64 (h : Int) 0 = IntKind.u64.wrap (((BitVec.ofInt 64 (h : Int) ||| BitVec.ofInt 64 0).toNat : Nat) : Int) := rfl
  rw [e, BitVec.ofInt_natCast, BitVec.toNat_or, BitVec.toNat_ofNat, Nat.mod_eq_of_lt hh, show (BitVec.ofInt 64 0).toNat = 0 from by decide, Nat.or_zero]
  exact wu _ (by omega) (by omega)

/-- Div64, of numbers below 2^64, the divisor's top bit set, and greater than the high part. -/
theorem div64_any (h l y : Nat) (hy : 9223372036854775808 ≤ y) (hy' : y < 18446744073709551616) (hh : h < y) (hl : l < 18446744073709551616) (hh0 : h ≠ 0) (w : World) :
    Calls Try.prog 82 #[.int .u64 (h : Int), .int .u64 (l : Int), .int .u64 (y : Int)] w fun e w' =>
      e = .returned (.tuple #[.int .u64 (((h * 18446744073709551616 + l) / y : Nat) : Int), .int .u64 (((h * 18446744073709551616 + l) % y : Nat) : Int)]) ∧ w' = w := by
  have hb := bits_and_u64_nat y 4294967295 hy' (by decide)
  have hb' := bits_and_u64_nat l 4294967295 hl (by decide)
  rw [show y &&& 4294967295 = y % 4294967296 from Nat.and_two_pow_sub_one_eq_mod y 32] at hb
  rw [show l &&& 4294967295 = l % 4294967296 from Nat.and_two_pow_sub_one_eq_mod l 32] at hb'
  have ho : bits .or .u64 (h : Int) 0 = h := or_zero h (by omega)
  have hz : ∀ w, Calls Try.prog 76 #[.int .u64 (y : Int)] w fun e w' => e = .returned (.int .i64 0) ∧ w' = w := fun w => by
    have := lz64_any y hy' w
    have hbl : blen y = 64 := by
      have h1 : blen y ≤ 64 := (blen_lt y 64).2 hy'
      have h2 : ¬ blen y ≤ 63 := fun hc => by have := (blen_lt y 63).1 hc; omega
      omega
    rw [hbl] at this
    exact this
  obtain ⟨Y, hY⟩ : ∃ Y : Int, Y = (y : Int) := ⟨_, rfl⟩
  obtain ⟨H, hH⟩ : ∃ H : Int, H = (h : Int) := ⟨_, rfl⟩
  obtain ⟨L, hL⟩ : ∃ L : Int, L = (l : Int) := ⟨_, rfl⟩
  have cb : ((y % 4294967296 : Nat) : Int) = Y % 4294967296 := by omega
  have cl : ((l % 4294967296 : Nat) : Int) = L % 4294967296 := by omega
  have hYb : 9223372036854775808 ≤ Y ∧ Y < 18446744073709551616 ∧ 0 ≤ H ∧ H < Y ∧ 0 ≤ L ∧ L < 18446744073709551616 ∧ H ≠ 0 := by omega
  have cq : (((h * 18446744073709551616 + l) / y : Nat) : Int) = (H * 18446744073709551616 + L) / Y := by
    rw [hH, hL, hY, Int.natCast_ediv]; simp
  have cr : (((h * 18446744073709551616 + l) % y : Nat) : Int) = (H * 18446744073709551616 + L) % Y := by
    rw [hH, hL, hY, Int.natCast_emod]; simp
  rw [cq, cr]
  rw [← hH] at ho ⊢
  rw [← hL] at hb' ⊢
  rw [← hY] at hb hz ⊢
  rw [cb] at hb
  rw [cl] at hb'
  clear cq cr cb cl hH hL hY hy hy' hh hl hh0
  obtain ⟨y1, y2, p1, p2, l1, l2, h0⟩ := hYb
  clear h l y
  have Dg : Dig H Y (Y / 4294967296) (Y % 4294967296) (L / 4294967296) (H / (Y / 4294967296)) (H % (Y / 4294967296)) :=
    Dig.start (by omega) (by omega) (by omega) (by omega) (by omega) p1 p2 (by omega) (by omega)
  obtain ⟨N, hN⟩ : ∃ N, N = H * 4294967296 + L / 4294967296 := ⟨_, rfl⟩
  have hYp : 0 < Y := by omega
  have hR0 := Int.emod_nonneg N (show Y ≠ 0 by omega)
  have hR1 := Int.emod_lt_of_pos N hYp
  have hdm := Int.mul_ediv_add_emod N Y
  have Dg2 : Dig (N % Y) Y (Y / 4294967296) (Y % 4294967296) (L % 4294967296) (N % Y / (Y / 4294967296)) (N % Y % (Y / 4294967296)) :=
    Dig.start (by omega) (by omega) (by omega) (by omega) (by omega) hR0 hR1 (by omega) (by omega)
  obtain ⟨N2, hN2⟩ : ∃ N2, N2 = N % Y * 4294967296 + L % 4294967296 := ⟨_, rfl⟩
  have hR20 := Int.emod_nonneg N2 (show Y ≠ 0 by omega)
  have hR21 := Int.emod_lt_of_pos N2 hYp
  have hdm2 := Int.mul_ediv_add_emod N2 Y
  have hda := Int.mul_ediv_add_emod H (Y / 4294967296)
  have hda2 := Int.mul_ediv_add_emod (N % Y) (Y / 4294967296)
  have hap : 0 < Y / 4294967296 := by omega
  have hra0 := Int.emod_nonneg H (show Y / 4294967296 ≠ 0 by omega)
  have hra1 := Int.emod_lt_of_pos H hap
  have hrb0 := Int.emod_nonneg (N % Y) (show Y / 4294967296 ≠ 0 by omega)
  have hrb1 := Int.emod_lt_of_pos (N % Y) hap
  have hq1b : 0 ≤ N / Y ∧ N / Y < 4294967296 := by
    refine ⟨Int.ediv_nonneg (by omega) (by omega), ?_⟩
    rw [Int.ediv_lt_iff_lt_mul hYp]
    have := mul_le' (c := 4294967296) (by omega) (show H + 1 ≤ Y by omega)
    omega
  have hq0b : 0 ≤ N2 / Y ∧ N2 / Y < 4294967296 := by
    refine ⟨Int.ediv_nonneg (by omega) (by omega), ?_⟩
    rw [Int.ediv_lt_iff_lt_mul hYp]
    have := mul_le' (c := 4294967296) (by omega) (show N % Y + 1 ≤ Y by omega)
    omega
  have hcore := div64_core H L Y (Y / 4294967296) (Y % 4294967296) (L / 4294967296) (L % 4294967296) w (by simp; omega) p2 (by simp; omega) (wu _ (by omega) (by omega)) (wu _ (by omega) (by omega)) (wu _ (by omega) (by omega))
    rfl hb (by omega) rfl hb' (by omega) ho (N / Y) (N2 / Y) (N % Y)
    (fun q hq => by rw [hN]; exact hq.eq hYp) Dg Dg2 (fun q hq => by rw [hN2]; exact hq.eq hYp)
    (by rw [tdiv_nn _ _ p1]; exact wu _ Dg.q0 (by have := Dg.q1; omega))
    (by
      have e : H / (Y / 4294967296) * (Y / 4294967296) = H - H % (Y / 4294967296) := by rw [Int.mul_comm]; omega
      rw [e, wu (H - H % (Y / 4294967296)) (by have := Int.mul_nonneg Dg.q0 (show 0 ≤ Y / 4294967296 by omega); omega) (by omega)]
      rw [show H - (H - H % (Y / 4294967296)) = H % (Y / 4294967296) by omega]
      exact wu _ hra0 (by omega))
    (by
      have e : N / Y * Y = N - N % Y := by rw [Int.mul_comm]; omega
      rw [e]
      rw [IntKind.wrap_u64, IntKind.wrap_u64, IntKind.wrap_u64, IntKind.wrap_u64]
      omega)
    (by rw [tdiv_nn _ _ hR0]; exact wu _ Dg2.q0 (by have := Dg2.q1; omega))
    (by
      have e : N % Y / (Y / 4294967296) * (Y / 4294967296) = N % Y - N % Y % (Y / 4294967296) := by rw [Int.mul_comm]; omega
      rw [e, wu (N % Y - N % Y % (Y / 4294967296)) (by have := Int.mul_nonneg Dg2.q0 (show 0 ≤ Y / 4294967296 by omega); omega) (by omega)]
      rw [show N % Y - (N % Y - N % Y % (Y / 4294967296)) = N % Y % (Y / 4294967296) by omega]
      exact wu _ hrb0 (by omega))
    (N / Y * 4294967296 + N2 / Y) (N2 % Y)
    (by rw [wu (N / Y * 4294967296) (by omega) (by omega)]; exact wu _ (by omega) (by omega))
    (by
      have e : N2 / Y * Y = N2 - N2 % Y := by rw [Int.mul_comm]; omega
      rw [e]
      rw [IntKind.wrap_u64, IntKind.wrap_u64, IntKind.wrap_u64, IntKind.wrap_u64]
      omega) hz
  have eN : H * 18446744073709551616 + L = N2 + N / Y * 4294967296 * Y := by
    have e1 : N / Y * 4294967296 * Y = (N - N % Y) * 4294967296 := by
      rw [Int.mul_assoc, Int.mul_comm 4294967296 Y, ← Int.mul_assoc, Int.mul_comm (N / Y) Y]
      congr 1
      omega
    rw [e1]
    omega
  rw [eN, Int.add_mul_ediv_right _ _ (show Y ≠ 0 by omega), Int.add_mul_emod_self_right, Int.add_comm (N2 / Y)]
  exact hcore

end Go.Proofs.Ytfoojpfgeicolaa
