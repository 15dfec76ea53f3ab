/- The contracts of Add, Sub, Neg, Mul, Shl, Shr and Bits of package wide, over integers. -/
import Derived.Test.YtnknejdmoghmiaaZd
import Derived.Test.YtnknejdmoghmiaaZe
namespace Go.Proofs.Ytnknejdmoghmiaa
open Go.RowKit
set_option maxRecDepth 4000

theorem EndsZ.ends {z : Int} {e : Ending} (h : EndsZ z e) : Ends (!fit z) (enc z) e := by
  unfold EndsZ at h
  unfold Ends
  rw [h]
  cases fit z <;> rfl
theorem Ends.any {n m : Nat} {e : Ending} (h : Ends true n e) : Ends true m e := h
/-- What a face answers of an integer that may not fit. -/
def toldZ (z : Int) : Value := told (!fit z) (enc z)
theorem toldZ_fit {z : Int} (h : Fit z) : toldZ z = .tuple #[V z, .bool true] := by unfold toldZ told; rw [fit_true h]; rfl
theorem toldZ_not {z : Int} (h : fit z = false) : toldZ z = .tuple #[V 0, .bool false] := by
  show _ = Value.tuple #[.agg (cells8 (enc 0)), .bool false]
  unfold toldZ told
  rw [h, show enc 0 = 0 from rfl]
  rfl

theorem AddZ (x y : Int) (hx : Fit x) (hy : Fit y) (w : World) :
    Calls Try.prog 67 #[V x, V y] w fun e w' => e = .returned (toldZ (x + y)) ∧ Below w.heap.size w w' :=
  Add_core (enc x) (enc y) (enc (x + y)) (!fit (x + y)) w fun g h u bg bh => Add1_core _ _ _ _ g h u bg bh fun v => (sumZ x y hx hy v).mono fun _ _ ⟨he, hb⟩ => ⟨he.ends, hb⟩
theorem SubZ (x y : Int) (hx : Fit x) (hy : Fit y) (w : World) :
    Calls Try.prog 129 #[V x, V y] w fun e w' => e = .returned (toldZ (x - y)) ∧ Below w.heap.size w w' :=
  Sub_core (enc x) (enc y) (enc (x - y)) (!fit (x - y)) w fun g h u bg bh => Sub1_core _ _ _ _ g h u bg bh fun v => (differenceZ x y hx hy v).mono fun _ _ ⟨he, hb⟩ => ⟨he.ends, hb⟩
theorem fit_zero : Fit 0 := by have := H_pos; exact ⟨by omega, by omega⟩
theorem NegZ (x : Int) (hx : Fit x) (w : World) :
    Calls Try.prog 48 #[V x] w fun e w' => e = .returned (toldZ (-x)) ∧ Below w.heap.size w w' :=
  Neg_core (enc x) (enc (-x)) (!fit (-x)) w fun g u bg => Neg1_core _ _ _ g u bg fun v => (differenceZ 0 x fit_zero hx v).mono fun _ _ ⟨he, hb⟩ => ⟨by have := he.ends; rwa [Int.zero_sub] at this, hb⟩

theorem timesZ (x y : Nat) (hx : x < M) (hy : y < M) (w : World) :
    Calls Try.prog 134 #[W x, W y] w fun e w' => Ends (decide (M ≤ x * y)) (x * y) e ∧ Below w.heap.size w w' := by
  obtain ⟨hxu, _⟩ := used_spec x 8 (by rw [← M_pow8]; exact hx)
  obtain ⟨hyu, _⟩ := used_spec y 8 (by rw [← M_pow8]; exact hy)
  refine (times_core x y _ _ w rfl rfl hyu).mono fun e w' ⟨he, hb⟩ => ⟨?_, hb⟩
  have hp : part x y (usedTo x 8) = x * y := by unfold part; rw [Nat.mod_eq_of_lt hxu]
  rw [hp] at he
  have hq : x * y / M < M := Nat.div_lt_of_lt_mul (Nat.mul_lt_mul'' hx hy)
  rw [same_nat hq M_pos] at he
  have e1 : (!decide (x * y / M = 0)) = decide (M ≤ x * y) := by
    rw [← decide_not]
    congr 1
    apply propext
    rw [Nat.div_eq_zero_iff]
    have := M_pos
    omega
  rw [e1] at he
  exact he

theorem mul_signs (x y : Int) : (bif !(decide (x < 0) == decide (y < 0)) then -((x.natAbs * y.natAbs : Nat) : Int) else ((x.natAbs * y.natAbs : Nat) : Int)) = x * y := by
  rw [Int.natCast_mul]
  by_cases h1 : x < 0 <;> by_cases h2 : y < 0
  · simp only [h1, h2, decide_true, beq_self_eq_true, Bool.not_true, cond_false]
    rw [show (x.natAbs : Int) = -x by omega, show (y.natAbs : Int) = -y by omega, Int.neg_mul_neg]
  · simp only [h1, h2, decide_true, decide_false, show (true == false) = false from rfl, Bool.not_false, cond_true]
    rw [show (x.natAbs : Int) = -x by omega, show (y.natAbs : Int) = y by omega, Int.neg_mul, Int.neg_neg]
  · simp only [h1, h2, decide_true, decide_false, show (false == true) = false from rfl, Bool.not_false, cond_true]
    rw [show (x.natAbs : Int) = x by omega, show (y.natAbs : Int) = -y by omega, Int.mul_neg, Int.neg_neg]
  · simp only [h1, h2, decide_false, beq_self_eq_true, Bool.not_true, cond_false]
    rw [show (x.natAbs : Int) = x by omega, show (y.natAbs : Int) = y by omega]

theorem MulZ (x y : Int) (hx : Fit x) (hy : Fit y) (w : World) :
    Calls Try.prog 88 #[V x, V y] w fun e w' => e = .returned (toldZ (x * y)) ∧ Below w.heap.size w w' := by
  have hG := signedZ (x.natAbs * y.natAbs % M) (!(decide (x < 0) == decide (y < 0))) (Nat.mod_lt _ M_pos)
  rw [W_mod] at hG
  refine Mul_core (enc x) (enc y) (enc (x * y)) (!fit (x * y)) w fun g h u bg bh => ?_
  refine (Mul1_core _ _ x.natAbs y.natAbs (x.natAbs * y.natAbs) _ (decide (x < 0)) (decide (y < 0)) (decide (M ≤ x.natAbs * y.natAbs)) _ g h u bg bh (sizeZ x hx) (sizeZ y hy) (timesZ _ _ (abs_lt hx) (abs_lt hy)) (belowZ x hx) (belowZ y hy) fun v => (hG v).mono fun _ _ ⟨he, hb⟩ => ⟨he.ends, hb⟩).mono fun e w' ⟨he, hb⟩ => ⟨?_, hb⟩
  by_cases hm : M ≤ x.natAbs * y.natAbs
  · have hf : fit (x * y) = false := by
      have h1 := Int.natAbs_mul x y
      have := M_H
      unfold fit
      rw [decide_eq_false_iff_not]
      omega
    rw [hf]
    simp only [hm, decide_true, Bool.true_or] at he
    exact he.any
  · rw [Nat.mod_eq_of_lt (by omega), mul_signs] at he
    simpa only [hm, decide_false, Bool.false_or] using he

theorem fit_unique {x y : Int} (hx : Fit x) (hy : Fit y) (h : x % (M : Int) = y % (M : Int)) : x = y := by
  have h1 := same_of (n := enc x) (m := enc x) (x := x) (y := y) (by rw [enc_int, Int.emod_emod]) (by rw [enc_int, Int.emod_emod, h]) hx hy
  unfold same at h1
  rw [decide_eq_true rfl] at h1
  exact of_decide_eq_true h1.symm

/-- The integer that eight limbs are. -/
def sv (n : Nat) : Int := if n % M < H then ((n % M : Nat) : Int) else ((n % M : Nat) : Int) - (M : Int)
theorem sv_fit (n : Nat) : Fit (sv n) := by
  have h1 := Nat.mod_lt n M_pos
  have h2 := M_H
  unfold sv
  split <;> constructor <;> omega
theorem sv_mod (n : Nat) : (n : Int) % (M : Int) = sv n % (M : Int) := by
  unfold sv
  split
  · rw [Int.natCast_emod, Int.emod_emod]
  · rw [Int.natCast_emod, Int.sub_emod_right, Int.emod_emod]
theorem cells8_sv (n : Nat) : cells8 n = cells8 (enc (sv n)) := cells8_enc (sv_mod n)

theorem two_pow_pos (n : Nat) : 0 < ((2 ^ n : Nat) : Int) := by have := Nat.pow_pos (n := n) (show 0 < 2 by decide); omega
theorem fit_div {z : Int} (hz : Fit z) (p : Int) (hp : 0 < p) : Fit (z / p) := by
  obtain ⟨h1, h2⟩ := hz
  have hH := H_pos
  constructor
  · rw [Int.le_ediv_iff_mul_le hp, Int.neg_mul]
    have : (H : Int) * 1 ≤ (H : Int) * p := Int.mul_le_mul_of_nonneg_left (by omega) (by omega)
    omega
  · apply Int.ediv_lt_of_lt_mul hp
    have : (H : Int) * 1 ≤ (H : Int) * p := Int.mul_le_mul_of_nonneg_left (by omega) (by omega)
    omega

/-- To the right, with the sign's limbs above: by a power of two, rounded down. -/
theorem winr (z : Int) (hz : Fit z) (n : Nat) (hn : (n : Int) < 9223372036854775808) (w : World) :
    Calls Try.prog 159 #[V z, .int .i64 (n : Int), .int .u64 (if z < 0 then 18446744073709551615 else 0)] w fun e w' => e = .returned (V (z / ((2 ^ n : Nat) : Int))) ∧ Below w.heap.size w w' := by
  have hM := MI
  obtain ⟨h1, h2⟩ := hz
  by_cases h : z < 0
  · rw [if_pos h]
    refine (win_rightF (enc z) n (enc_lt z) hn w).mono fun e w' ⟨he, hb⟩ => ⟨?_, hb⟩
    rw [he, cells8_enc (z := z / ((2 ^ n : Nat) : Int))]
    have hE := enc_neg h (by omega)
    have hpos := two_pow_pos n
    rw [Int.natCast_ediv]
    obtain ⟨d, hd⟩ : ∃ d, 64 * (n / 64 + 2) = n + d := ⟨64 * (n / 64 + 2) - n, by omega⟩
    have hup : (up (enc z) n : Int) = z + ((2 ^ n : Nat) : Int) * (((2 ^ d : Nat) : Int) * (M : Int)) := by
      unfold up
      rw [hd, Nat.pow_add]
      have hp : 1 ≤ 2 ^ n * 2 ^ d := Nat.mul_pos (Nat.pow_pos (by decide)) (Nat.pow_pos (by decide))
      generalize 2 ^ n = A at *
      generalize 2 ^ d = B at *
      rw [Int.natCast_add, hE, Int.natCast_mul, Int.natCast_sub hp, Int.sub_mul, Int.natCast_mul, Int.mul_assoc]
      omega
    rw [hup, Int.add_mul_ediv_left _ _ (by omega), Int.add_mul_emod_self_right]
  · rw [if_neg h]
    refine (win_right0 (enc z) n (enc_lt z) hn w).mono fun e w' ⟨he, hb⟩ => ⟨?_, hb⟩
    rw [he, cells8_enc (z := z / ((2 ^ n : Nat) : Int))]
    rw [Int.natCast_ediv, enc_nn (by omega) (by omega)]

theorem pow_M (n : Nat) : (2 ^ n ∣ M) ∨ (M ∣ 2 ^ n) := by
  obtain ⟨e, he⟩ : ∃ e, M = 2 ^ e := ⟨64 * 8, M_pow8⟩
  rw [he]
  rcases Nat.le_total n e with h | h
  · exact .inl (Nat.pow_dvd_pow 2 h)
  · exact .inr (Nat.pow_dvd_pow 2 h)

/-- It fits, if and only if the way back leads to it. -/
theorem back_iff (x z : Int) (n : Nat) (hz : Fit z) (h : z % (M : Int) = (x * ((2 ^ n : Nat) : Int)) % (M : Int)) :
    decide (z / ((2 ^ n : Nat) : Int) = x) = fit (x * ((2 ^ n : Nat) : Int)) ∧ (Fit (x * ((2 ^ n : Nat) : Int)) → z = x * ((2 ^ n : Nat) : Int)) := by
  have hp := two_pow_pos n
  have hM := pow_M n
  generalize 2 ^ n = P at *
  have key : Fit (x * (P : Int)) → z = x * (P : Int) := fun hf => fit_unique hz hf h
  refine ⟨?_, key⟩
  by_cases hf : Fit (x * (P : Int))
  · rw [fit_true hf, key hf, Int.mul_ediv_cancel _ (by omega)]
    simp
  · have : fit (x * (P : Int)) = false := by
      cases he : fit (x * (P : Int)) with
      | false => rfl
      | true => exact absurd (Fit.of he) hf
    rw [this, decide_eq_false_iff_not]
    intro hq
    apply hf
    rcases hM with ⟨c, hc⟩ | ⟨c, hc⟩
    · have hdv : (P : Int) ∣ z := by
        have h1 : (P : Int) ∣ (M : Int) := ⟨c, by rw [hc, Int.natCast_mul]⟩
        have h2 : (M : Int) ∣ z - x * (P : Int) := Int.dvd_of_emod_eq_zero (by rw [Int.sub_emod, h, Int.sub_self, Int.zero_emod])
        have h3 : (P : Int) ∣ z - x * (P : Int) := Int.dvd_trans h1 h2
        have h4 := Int.dvd_add h3 (Int.dvd_mul_left x (P : Int))
        rwa [Int.sub_add_cancel] at h4
      have := Int.ediv_mul_cancel hdv
      rw [hq] at this
      rw [this]
      exact hz
    · have h0 : z = 0 := by
        apply fit_unique hz fit_zero
        rw [h, hc, Int.natCast_mul, ← Int.mul_assoc, Int.mul_comm x (M : Int), Int.mul_assoc, Int.mul_emod_right, Int.zero_emod]
      rw [h0, Int.zero_ediv] at hq
      rw [← hq, Int.zero_mul]
      exact fit_zero

theorem raisedZ (x n : Int) (hx : Fit x) (h0 : -9223372036854775808 ≤ n) (h1 : n < 9223372036854775808) (w : World) :
    Calls Try.prog 162 #[V x, .int .i64 n] w fun e w' => Ends (decide (n < 0) || !fit (x * ((2 ^ n.toNat : Nat) : Int))) (enc (x * ((2 ^ n.toNat : Nat) : Int))) e ∧ Below w.heap.size w w' := by
  by_cases hn : n < 0
  · refine (raised_no (enc x) n hn w).mono fun e w' ⟨he, hb⟩ => ⟨?_, hb⟩
    simp only [hn, decide_true, Bool.true_or]
    exact he.any
  · obtain ⟨k, rfl⟩ := Int.eq_ofNat_of_zero_le (show 0 ≤ n by omega)
    have hmod : sv (enc x * 2 ^ k) % (M : Int) = (x * ((2 ^ k : Nat) : Int)) % (M : Int) := by
      rw [← sv_mod, Int.natCast_mul, enc_int, Int.mul_emod, Int.emod_emod, ← Int.mul_emod]
    have hz := sv_fit (enc x * 2 ^ k)
    have hL := fun u => win_left (enc x) k (enc_lt x) h1 u
    rw [cells8_sv] at hL
    generalize sv (enc x * 2 ^ k) = z at *
    obtain ⟨hq, hf⟩ := back_iff x z k hz hmod
    refine (raised_core (enc x) (enc z) (enc (z / ((2 ^ k : Nat) : Int))) (k : Int) _ w hn (by rw [IntKind.wrap_i64]; omega) hL (fillZ z hz) (winr z hz k h1)).mono fun e w' ⟨he, hb⟩ => ⟨?_, hb⟩
    rw [same_enc (fit_div hz _ (two_pow_pos k)) hx, hq] at he
    simp only [hn, decide_false, Bool.false_or, Int.toNat_natCast]
    cases hft : fit (x * ((2 ^ k : Nat) : Int)) with
    | false => rw [hft] at he; exact he.any
    | true => rw [hft, hf (Fit.of hft)] at he; exact he

theorem ShlZ (x n : Int) (hx : Fit x) (h0 : -9223372036854775808 ≤ n) (h1 : n < 9223372036854775808) (w : World) :
    Calls Try.prog 122 #[V x, .int .i64 n] w fun e w' => e = .returned (told (decide (n < 0) || !fit (x * ((2 ^ n.toNat : Nat) : Int))) (enc (x * ((2 ^ n.toNat : Nat) : Int)))) ∧ Below w.heap.size w w' :=
  Shl_core (enc x) _ n _ w fun g h u bg bh => Shl1_core _ _ n _ g h u bg bh fun v => raisedZ x n hx h0 h1 v

theorem ShrZ (x n : Int) (hx : Fit x) (h1 : n < 9223372036854775808) (w : World) :
    Calls Try.prog 121 #[V x, .int .i64 n] w fun e w' => e = .returned (V (x / ((2 ^ n.toNat : Nat) : Int))) ∧ Below w.heap.size w w' := by
  have hR := winr x hx n.toNat (by omega)
  refine Shr_core (enc x) _ n _ _ w ?_ (fillZ x hx) hR
  split <;> omega

end Go.Proofs.Ytnknejdmoghmiaa
