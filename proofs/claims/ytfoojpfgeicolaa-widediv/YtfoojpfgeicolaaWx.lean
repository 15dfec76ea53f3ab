/- Long division, limb by limb: the numbers. No Go in this text. -/
import Derived.Test.YtfoojpfgeicolaaWu
import Derived.Test.YtfoojpfgeicolaaWk
namespace Go.Proofs.Ytfoojpfgeicolaa
open Go.RowKit

/-- The numbers on the way: X is Q times Y and R, which is below Y, k limbs up. -/
structure Df (X Y k Q R : Nat) : Prop where
  eq : X = Q * Y + R
  lt : R < Y * 2 ^ (64 * k)
  dv : 2 ^ (64 * k) ∣ Q

theorem Df.v_lt {X Y i Q R : Nat} (h : Df X Y (i + 1) Q R) : R / 2 ^ (64 * i) < 18446744073709551616 * Y := by
  rw [Nat.div_lt_iff_lt_mul (Nat.pow_pos (by decide))]
  have := h.lt
  rw [pow_step] at this
  rw [Nat.mul_comm 18446744073709551616, Nat.mul_assoc, Nat.mul_comm 18446744073709551616]
  exact this

/-- What is left behind a digit. -/
theorem left_eq (Y i R : Nat) : R - R / 2 ^ (64 * i) / Y * Y * 2 ^ (64 * i) = R / 2 ^ (64 * i) % Y * 2 ^ (64 * i) + R % 2 ^ (64 * i) := by
  have h1 := Nat.div_add_mod R (2 ^ (64 * i))
  have h2 := Nat.div_add_mod (R / 2 ^ (64 * i)) Y
  generalize R / 2 ^ (64 * i) = V at *
  generalize R % 2 ^ (64 * i) = z at *
  generalize 2 ^ (64 * i) = P at *
  have e : V * P = V / Y * Y * P + V % Y * P := by
    rw [← Nat.add_mul, Nat.mul_comm (V / Y) Y, h2]
  rw [Nat.mul_comm P V] at h1
  omega

theorem Df.step {X Y i Q R : Nat} (h : Df X Y (i + 1) Q R) (hY : 0 < Y) :
    Df X Y i (Q + R / 2 ^ (64 * i) / Y * 2 ^ (64 * i)) (R - R / 2 ^ (64 * i) / Y * Y * 2 ^ (64 * i)) := by
  have hP : 0 < 2 ^ (64 * i) := Nat.pow_pos (by decide)
  have hle := left_eq Y i R
  have h1 := Nat.div_add_mod R (2 ^ (64 * i))
  have h2 := Nat.div_mul_le_self (R / 2 ^ (64 * i)) Y
  have h3 : R / 2 ^ (64 * i) / Y * Y * 2 ^ (64 * i) ≤ R := Nat.le_trans (Nat.mul_le_mul_right _ h2) (Nat.div_mul_le_self _ _)
  refine ⟨?_, ?_, ?_⟩
  · rw [Nat.add_mul, Nat.mul_right_comm (R / 2 ^ (64 * i) / Y)]
    have := h.eq
    omega
  · rw [hle]
    have h4 := Nat.mod_lt (R / 2 ^ (64 * i)) hY
    have h5 := Nat.mod_lt R hP
    generalize R / 2 ^ (64 * i) % Y = a at *
    generalize R % 2 ^ (64 * i) = b at *
    calc a * 2 ^ (64 * i) + b < a * 2 ^ (64 * i) + 2 ^ (64 * i) := by omega
      _ = (a + 1) * 2 ^ (64 * i) := by rw [Nat.add_mul, Nat.one_mul]
      _ ≤ Y * 2 ^ (64 * i) := Nat.mul_le_mul_right _ (by omega)
  · refine Nat.dvd_add (Nat.dvd_trans ?_ h.dv) (Nat.dvd_mul_left _ _)
    exact Nat.pow_dvd_pow 2 (by omega)

/-- A digit laid into the quotient. -/
theorem cells8_put (Q d i : Nat) (hi : i < 8) (hd : d < 18446744073709551616) (hQ : 2 ^ (64 * (i + 1)) ∣ Q) : (cells8 Q).setIfInBounds i (.int .u64 (d : Int)) = cells8 (Q + d * 2 ^ (64 * i)) := by
  obtain ⟨t, rfl⟩ := hQ
  apply Array.ext_getElem?
  intro j
  rw [Array.getElem?_setIfInBounds]
  by_cases h8 : j < 8
  · rw [cells8_get _ _ h8]
    have key : lm (2 ^ (64 * (i + 1)) * t + d * 2 ^ (64 * i)) j = if i = j then (d : Int) else lm (2 ^ (64 * (i + 1)) * t) j := by
      have hP : 0 < 2 ^ (64 * i) := Nat.pow_pos (by decide)
      unfold lm
      by_cases e : i = j
      · subst e
        rw [if_pos rfl, pow_step, Nat.mul_assoc, Nat.mul_comm d, ← Nat.mul_add, Nat.mul_div_cancel_left _ hP]
        omega
      · rw [if_neg e]
        rcases Nat.lt_or_ge j i with hlt | hge
        · -- below: both 0
          have e1 : 2 ^ (64 * i) = 2 ^ (64 * j) * (18446744073709551616 * 2 ^ (64 * (i - j - 1))) := by
            rw [show (18446744073709551616 : Nat) = 2 ^ 64 by decide, ← Nat.pow_add, ← Nat.pow_add]; congr 1; omega
          have hJ : 0 < 2 ^ (64 * j) := Nat.pow_pos (by decide)
          rw [pow_step, e1]
          generalize 2 ^ (64 * (i - j - 1)) = z
          generalize 2 ^ (64 * j) = J at *
          rw [show J * (18446744073709551616 * z) * 18446744073709551616 * t = J * (18446744073709551616 * (z * 18446744073709551616 * t)) by simp only [Nat.mul_assoc],
            show d * (J * (18446744073709551616 * z)) = J * (18446744073709551616 * (d * z)) by rw [Nat.mul_left_comm, Nat.mul_left_comm d],
            ← Nat.mul_add, Nat.mul_div_cancel_left _ hJ, Nat.mul_div_cancel_left _ hJ, ← Nat.mul_add, Nat.mul_mod_right, Nat.mul_mod_right]
        · -- above: d does not reach
          have e1 : 2 ^ (64 * j) = 2 ^ (64 * (i + 1)) * 2 ^ (64 * (j - i - 1)) := by rw [← Nat.pow_add]; congr 1; omega
          have hI : 0 < 2 ^ (64 * (i + 1)) := Nat.pow_pos (by decide)
          rw [e1, ← Nat.div_div_eq_div_mul, ← Nat.div_div_eq_div_mul, Nat.mul_add_div hI, Nat.mul_div_cancel_left _ hI, Nat.div_eq_of_lt (a := d * 2 ^ (64 * i)), Nat.add_zero]
          rw [pow_step, Nat.mul_comm]
          exact Nat.mul_lt_mul_of_pos_left hd hP
    rw [cells8_get _ _ h8, key]
    by_cases e : i = j
    · subst e; rw [if_pos rfl, if_pos rfl, if_pos (by exact hi)]
    · rw [if_neg e, if_neg e]
  · rw [if_neg (by omega), Array.getElem?_eq_none (by show 8 ≤ j; omega), Array.getElem?_eq_none (by show 8 ≤ j; omega)]

/-- The row behind a digit. -/
theorem row_left (Y i n R : Nat) (hY : Y < 2 ^ (64 * n)) (hY0 : 0 < Y) (hR : R / 2 ^ (64 * i) < 18446744073709551616 * Y) :
    rowF (winF (lm R) i (R / 2 ^ (64 * i) % Y) (n + 1)) 9 = rowF (lm (R - R / 2 ^ (64 * i) / Y * Y * 2 ^ (64 * i))) 9 := by
  have hP : 0 < 2 ^ (64 * i) := Nat.pow_pos (by decide)
  rw [left_eq]
  have hz := Nat.mod_lt R hP
  have hV := Nat.mod_lt (R / 2 ^ (64 * i)) hY0
  have hRV := Nat.div_add_mod R (2 ^ (64 * i))
  have hVb : R / 2 ^ (64 * i) < 2 ^ (64 * (n + 1)) := by
    rw [pow_step, Nat.mul_comm (2 ^ (64 * n))]
    exact Nat.lt_trans hR (Nat.mul_lt_mul_of_pos_left hY (by decide))
  apply rowF_congr
  intro p _
  unfold winF
  generalize hv : R / 2 ^ (64 * i) % Y = v at *
  have hvb : v < 2 ^ (64 * (n + 1)) := by
    rw [pow_step]
    generalize 2 ^ (64 * n) = N at *
    omega
  have hdiv : (v * 2 ^ (64 * i) + R % 2 ^ (64 * i)) / 2 ^ (64 * i) = v := by
    rw [Nat.mul_comm, Nat.mul_add_div hP, Nat.div_eq_of_lt hz, Nat.add_zero]
  by_cases h1 : i ≤ p ∧ p < i + (n + 1)
  · rw [if_pos h1]
    have := lm_shift (v * 2 ^ (64 * i) + R % 2 ^ (64 * i)) i (p - i)
    rw [hdiv, show i + (p - i) = p by omega] at this
    exact this
  · rw [if_neg h1]
    rcases Nat.lt_or_ge p i with h2 | h2
    · -- below the window
      have : ∀ a b : Nat, a % 2 ^ (64 * i) = b % 2 ^ (64 * i) → lm a p = lm b p := fun a b hab => by
        unfold lm
        have e1 : 2 ^ (64 * i) = 2 ^ (64 * p) * (18446744073709551616 * 2 ^ (64 * (i - p - 1))) := by
          rw [show (18446744073709551616 : Nat) = 2 ^ 64 by decide, ← Nat.pow_add, ← Nat.pow_add]; congr 1; omega
        have hx : ∀ c : Nat, c / 2 ^ (64 * p) % 18446744073709551616 = c % 2 ^ (64 * i) / 2 ^ (64 * p) % 18446744073709551616 := fun c => by
          rw [e1, Nat.mod_mul_right_div_self, Nat.mod_mul_right_mod]
        rw [hx a, hx b, hab]
      apply this
      rw [Nat.mul_comm v, Nat.mul_add_mod, Nat.mod_mod]
    · -- above it
      have : ∀ a : Nat, a / 2 ^ (64 * i) < 2 ^ (64 * (n + 1)) → lm a p = 0 := fun a ha => by
        rw [show p = i + (p - i) by omega, ← lm_shift]
        unfold lm
        rw [Nat.div_eq_of_lt (Nat.lt_of_lt_of_le ha (pow64_le (by omega)))]
        rfl
      rw [this R hVb, this _ (by rw [hdiv]; exact hvb)]

end Go.Proofs.Ytfoojpfgeicolaa
