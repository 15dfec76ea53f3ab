/- Integers of 512 bits: what an integer is as eight limbs, and which integers fit. No Go in this text. -/
import Derived.Test.YtfoojpfgeicolaaWe
import Derived.Test.YtfoojpfgeicolaaWv
import Derived.Test.YtfoojpfgeicolaaWj
namespace Go.Proofs.Ytfoojpfgeicolaa
open Go.RowKit

/-- 2^511. -/
def H : Nat := 6703903964971298549787012499102923063739682910296196688861780721860882015036773488400937149083451713845015929093243025426876941405973284973216824503042048
theorem M_H : M = 2 * H := by decide
theorem H_pos : 0 < H := by decide
theorem M_pos : 0 < M := by decide
theorem MI : (M : Int) = 2 * (H : Int) := by have := M_H; omega

/-- It is a number of 512 bits. -/
def Fit (z : Int) : Prop := -(H : Int) ≤ z ∧ z < (H : Int)
theorem fit_iff (z : Int) : Fit z ↔ -(H : Int) ≤ z ∧ z < (H : Int) := Iff.rfl
def fit (z : Int) : Bool := decide (-(H : Int) ≤ z ∧ z < (H : Int))
theorem fit_true {z : Int} (h : Fit z) : fit z = true := by simp only [fit, decide_eq_true_eq]; exact h
theorem Fit.of {z : Int} (h : fit z = true) : Fit z := by
  have h2 : -(H : Int) ≤ z ∧ z < (H : Int) := by simpa only [fit, decide_eq_true_eq] using h
  exact h2

/-- The integer as a natural number below 2^512. -/
def enc (z : Int) : Nat := (z % (M : Int)).toNat
theorem enc_int (z : Int) : (enc z : Int) = z % (M : Int) := by
  unfold enc
  have := Int.emod_nonneg z (show (M : Int) ≠ 0 by have := M_pos; omega)
  omega
theorem enc_lt (z : Int) : enc z < M := by
  have h1 := enc_int z
  have h2 := Int.emod_lt_of_pos z (show 0 < (M : Int) by have := M_pos; omega)
  omega
theorem enc_nn {z : Int} (h0 : 0 ≤ z) (h : z < (M : Int)) : (enc z : Int) = z := by rw [enc_int, Int.emod_eq_of_lt h0 h]
theorem enc_neg {z : Int} (h0 : z < 0) (h : -(M : Int) ≤ z) : (enc z : Int) = z + (M : Int) := by
  rw [enc_int, ← Int.add_emod_right, Int.emod_eq_of_lt (by omega) (by omega)]
theorem enc_nat {n : Nat} (h : n < M) : enc (n : Int) = n := by have := enc_nn (z := (n : Int)) (by omega) (by omega); omega

theorem cells8_congr {n m : Nat} (h : n % M = m % M) : cells8 n = cells8 m := by
  have h1 := W_mod n
  have h2 := W_mod m
  rw [h] at h1
  rw [h1] at h2
  simpa [W] using h2
/-- What is the same as z but for multiples of 2^512 has the cells of z. -/
theorem cells8_enc {n : Nat} {z : Int} (h : (n : Int) % (M : Int) = z % (M : Int)) : cells8 n = cells8 (enc z) := by
  apply cells8_congr
  have h1 := enc_int z
  have h2 : ((n % M : Nat) : Int) = (n : Int) % (M : Int) := Int.natCast_emod n M
  rw [Nat.mod_eq_of_lt (enc_lt z)]
  omega

/-- The integer as a value. -/
abbrev V (z : Int) : Value := .agg (cells8 (enc z))

theorem neg_of {n : Nat} {z : Int} (h : (n : Int) % (M : Int) = z % (M : Int)) (h0 : -(M : Int) ≤ z) (h1 : z < (M : Int)) :
    neg n = decide ((H : Int) ≤ z ∨ (z < 0 ∧ -(H : Int) ≤ z)) := by
  unfold neg
  have hm := M_H
  have h2 : ((n % M : Nat) : Int) = (n : Int) % (M : Int) := Int.natCast_emod n M
  rw [h] at h2
  have hd : M / 2 = H := by omega
  rw [hd]
  congr 1
  apply propext
  rcases (show z < 0 ∨ 0 ≤ z by omega) with hz | hz
  · have := enc_neg hz h0
    rw [enc_int] at this
    omega
  · have := enc_nn hz h1
    rw [enc_int] at this
    omega
theorem neg_enc {z : Int} (h : Fit z) : neg (enc z) = decide (z < 0) := by
  have h2 := MI
  obtain ⟨ha, hb⟩ := h
  rw [neg_of (z := z) (by rw [enc_int, Int.emod_emod]) (by omega) (by omega)]
  congr 1
  apply propext
  omega
theorem same_of {n m : Nat} {x y : Int} (hn : (n : Int) % (M : Int) = x % (M : Int)) (hm : (m : Int) % (M : Int) = y % (M : Int)) (hx : Fit x) (hy : Fit y) : same n m = decide (x = y) := by
  unfold same
  have h1 : ((n % M : Nat) : Int) = (n : Int) % (M : Int) := Int.natCast_emod n M
  have h2 : ((m % M : Nat) : Int) = (m : Int) % (M : Int) := Int.natCast_emod m M
  rw [hn, ← enc_int] at h1
  rw [hm, ← enc_int] at h2
  congr 1
  apply propext
  constructor
  · intro h
    have h3 : (enc x : Int) = enc y := by omega
    have hM := MI
    obtain ⟨a1, a2⟩ := hx
    obtain ⟨b1, b2⟩ := hy
    rcases (show x < 0 ∨ 0 ≤ x by omega) with hx0 | hx0 <;> rcases (show y < 0 ∨ 0 ≤ y by omega) with hy0 | hy0
    · have e1 := enc_neg hx0 (by omega); have e2 := enc_neg hy0 (by omega); omega
    · have e1 := enc_neg hx0 (by omega); have e2 := enc_nn hy0 (by omega); omega
    · have e1 := enc_nn hx0 (by omega); have e2 := enc_neg hy0 (by omega); omega
    · have e1 := enc_nn hx0 (by omega); have e2 := enc_nn hy0 (by omega); omega
  · intro h
    rw [h] at h1
    omega
theorem same_enc {x y : Int} (hx : Fit x) (hy : Fit y) : same (enc x) (enc y) = decide (x = y) :=
  same_of (by rw [enc_int, Int.emod_emod]) (by rw [enc_int, Int.emod_emod]) hx hy
theorem same_nat {n m : Nat} (hn : n < M) (hm : m < M) : same n m = decide (n = m) := by
  unfold same
  rw [Nat.mod_eq_of_lt hn, Nat.mod_eq_of_lt hm]

theorem enc_add (x y : Int) : ((enc x + enc y : Nat) : Int) % (M : Int) = (x + y) % (M : Int) := by
  rw [Int.natCast_add, enc_int, enc_int, ← Int.add_emod]
theorem enc_sub (x y : Int) : ((enc x + (M - 1 - enc y) + 1 : Nat) : Int) % (M : Int) = (x - y) % (M : Int) := by
  have h1 := enc_lt y
  have h2 : ((enc x + (M - 1 - enc y) + 1 : Nat) : Int) = (enc x : Int) - (enc y : Int) + (M : Int) := by omega
  rw [h2, Int.add_emod_right, enc_int, enc_int, ← Int.sub_emod]

theorem bad_sum {x y : Int} (hx : Fit x) (hy : Fit y) : (neg (enc x) == neg (enc y) && !(neg (enc x + enc y) == neg (enc x))) = !fit (x + y) := by
  have hM := MI
  rw [neg_enc hx, neg_enc hy]
  obtain ⟨a1, a2⟩ := hx
  obtain ⟨b1, b2⟩ := hy
  rw [neg_of (enc_add x y) (by omega) (by omega)]
  unfold fit
  have e1 : ∀ p q : Prop, [Decidable p] → [Decidable q] → (decide p == decide q) = decide (p ↔ q) := fun p q _ _ => by by_cases p <;> by_cases q <;> simp_all
  rw [e1, e1, ← decide_not, ← Bool.decide_and, ← decide_not]
  congr 1
  apply propext
  omega
theorem bad_diff {x y : Int} (hx : Fit x) (hy : Fit y) : (!(neg (enc x) == neg (enc y)) && !(neg (enc x + (M - 1 - enc y) + 1) == neg (enc x))) = !fit (x - y) := by
  have hM := MI
  rw [neg_enc hx, neg_enc hy]
  obtain ⟨a1, a2⟩ := hx
  obtain ⟨b1, b2⟩ := hy
  rw [neg_of (enc_sub x y) (by omega) (by omega)]
  unfold fit
  have e1 : ∀ p q : Prop, [Decidable p] → [Decidable q] → (decide p == decide q) = decide (p ↔ q) := fun p q _ _ => by by_cases p <;> by_cases q <;> simp_all
  rw [e1, e1, ← decide_not, ← decide_not, ← Bool.decide_and, ← decide_not]
  congr 1
  apply propext
  omega

/-- A number, or the panic, of an integer that may not fit. -/
def EndsZ (z : Int) (e : Ending) : Prop := e = if fit z then .returned (V z) else .panicked noAnswer
theorem EndsZ.of {b : Bool} {n : Nat} {z : Int} {e : Ending} (h : Ends b n e) (hb : b = !fit z) (hn : (n : Int) % (M : Int) = z % (M : Int)) : EndsZ z e := by
  unfold EndsZ
  unfold Ends at h
  rw [h, hb, cells8_enc hn]
  cases fit z <;> rfl

theorem sumZ (x y : Int) (hx : Fit x) (hy : Fit y) (w : World) :
    Calls Try.prog 46 #[V x, V y] w fun e w' => EndsZ (x + y) e ∧ Below w.heap.size w w' :=
  (sum_any (enc x) (enc y) w).mono fun _ _ ⟨he, hb⟩ => ⟨EndsZ.of he (bad_sum hx hy) (enc_add x y), hb⟩
theorem differenceZ (x y : Int) (hx : Fit x) (hy : Fit y) (w : World) :
    Calls Try.prog 48 #[V x, V y] w fun e w' => EndsZ (x - y) e ∧ Below w.heap.size w w' :=
  (difference_core (enc x) (enc y) (M - 1 - enc y) (fun k hk => xor_lm (enc y) k (enc_lt y) hk) w).mono fun _ _ ⟨he, hb⟩ => ⟨EndsZ.of he (bad_diff hx hy) (enc_sub x y), hb⟩
theorem belowZ (x : Int) (hx : Fit x) (w : World) :
    Calls Try.prog 34 #[V x] w fun e w' => e = .returned (.bool (decide (x < 0))) ∧ Below w.heap.size w w' :=
  (below_below (enc x) w).mono fun _ _ ⟨he, hb⟩ => ⟨by rw [he, neg_enc hx], hb⟩
theorem fl_enc {x : Int} (hx : Fit x) : fl (enc x) = if x < 0 then 18446744073709551615 else 0 := by
  unfold fl
  rw [neg_enc hx]
  by_cases h : x < 0 <;> simp [h]
theorem fillZ (x : Int) (hx : Fit x) (w : World) :
    Calls Try.prog 57 #[V x] w fun e w' => e = .returned (.int .u64 (if x < 0 then 18446744073709551615 else 0)) ∧ Below w.heap.size w w' :=
  (fill_any (enc x) w).mono fun _ _ ⟨he, hb⟩ => ⟨by rw [he, fl_enc hx], hb⟩

theorem abs_lt {x : Int} (hx : Fit x) : x.natAbs < M := by
  have := M_H
  have := H_pos
  obtain ⟨h1, h2⟩ := hx
  omega
theorem sizeZ (x : Int) (hx : Fit x) (w : World) :
    Calls Try.prog 41 #[V x] w fun e w' => e = .returned (W x.natAbs) ∧ Below w.heap.size w w' := by
  refine (size_core (enc x) (M - 1 - enc x) (fun k hk => xor_lm (enc x) k (enc_lt x) hk) w).mono fun e w' ⟨he, hb⟩ => ⟨?_, hb⟩
  rw [he, neg_enc hx]
  have hM := M_H
  obtain ⟨h1, h2⟩ := hx
  rcases (show x < 0 ∨ 0 ≤ x by omega) with h | h
  · have e1 := enc_neg h (by omega)
    have : M - 1 - enc x + 1 = x.natAbs := by omega
    simp only [h, decide_true, if_true, this]
  · have e1 := enc_nn h (by omega)
    have : enc x = x.natAbs := by omega
    have hn : ¬ x < 0 := by omega
    simp only [hn, decide_false, Bool.false_eq_true, if_false, this]

theorem signedZ (m : Nat) (b : Bool) (hm : m < M) (w : World) :
    Calls Try.prog 52 #[W m, .bool b] w fun e w' => EndsZ (bif b then -(m : Int) else (m : Int)) e ∧ Below w.heap.size w w' := by
  have hM := MI
  cases b with
  | false =>
    refine (signed_no m w).mono fun e w' ⟨he, hb⟩ => ⟨EndsZ.of he ?_ rfl, hb⟩
    rw [same_nat hm M_pos, neg_of (z := (m : Int)) rfl (by omega) (by omega)]
    simp only [cond_false]
    unfold fit
    rw [← decide_not, ← Bool.decide_and, ← decide_not]
    congr 1
    apply propext
    have := H_pos
    omega
  | true =>
    have e : ((M - 1 - m + 1 : Nat) : Int) % (M : Int) = (-(m : Int)) % (M : Int) := by
      rw [show ((M - 1 - m + 1 : Nat) : Int) = -(m : Int) + (M : Int) by omega, Int.add_emod_right]
    refine (signed_yes m (M - 1 - m) (fun k hk => xor_lm m k hm hk) w).mono fun _ _ ⟨he, hb⟩ => ⟨EndsZ.of he ?_ e, hb⟩
    rw [same_nat hm M_pos, neg_of e (by omega) (by omega)]
    simp only [cond_true]
    unfold fit
    rw [← decide_not, ← decide_not, ← Bool.decide_and, ← decide_not]
    congr 1
    apply propext
    have := H_pos
    omega

end Go.Proofs.Ytfoojpfgeicolaa
