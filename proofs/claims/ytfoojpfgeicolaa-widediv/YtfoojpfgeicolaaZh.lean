/- The contract of quotient over integers. -/
import Derived.Test.YtfoojpfgeicolaaZg
import Derived.Test.YtfoojpfgeicolaaZf
namespace Go.Proofs.Ytfoojpfgeicolaa
open Go.RowKit

/-- Is one more taken, as what is left lies on the other side? -/
def more (x y : Int) : Bool := !(decide (x < 0) == decide (y < 0)) && !decide (x.natAbs % y.natAbs = 0)
def byN (x y : Int) : Nat := if more x y then x.natAbs / y.natAbs + 1 else x.natAbs / y.natAbs
def leftN (x y : Int) : Nat := if more x y then y.natAbs - x.natAbs % y.natAbs else x.natAbs % y.natAbs

theorem div_math (x y : Int) (hy : y ≠ 0) :
    (bif !(decide (x < 0) == decide (y < 0)) then -(byN x y : Int) else (byN x y : Int)) = x.fdiv y ∧ (bif decide (y < 0) then -(leftN x y : Int) else (leftN x y : Int)) = x.fmod y := by
  have hq : 0 < y.natAbs := by omega
  have h1 := Nat.div_add_mod x.natAbs y.natAbs
  have h2 := Nat.mod_lt x.natAbs hq
  have h3 : ((x.natAbs : Nat) : Int) = (y.natAbs : Int) * ((x.natAbs / y.natAbs : Nat) : Int) + ((x.natAbs % y.natAbs : Nat) : Int) := by
    rw [← Int.natCast_mul, ← Int.natCast_add, h1]
  unfold byN leftN more
  generalize x.natAbs / y.natAbs = D at *
  generalize x.natAbs % y.natAbs = R at *
  have e1 : (y.natAbs : Int) * ((D + 1 : Nat) : Int) = (y.natAbs : Int) * (D : Int) + (y.natAbs : Int) := by
    rw [Int.natCast_add, Int.mul_add]
    simp
  by_cases hx : x < 0 <;> by_cases hy0 : y < 0
  · have hu := (Int.fdiv_fmod_unique' (a := x) (b := y) (r := -(R : Int)) (q := (D : Int)) hy0).2 (by
      refine ⟨?_, by omega, by omega⟩
      rw [show y * (D : Int) = -((y.natAbs : Int) * (D : Int)) by rw [← Int.neg_mul, show -(y.natAbs : Int) = y by omega]]
      omega)
    simp [hx, hy0, hu.1, hu.2]
  · have hy1 : 0 < y := by omega
    by_cases hR : R = 0
    · have hu := (Int.fdiv_fmod_unique (a := x) (b := y) (r := (R : Int)) (q := -(D : Int)) hy1).2 (by
        refine ⟨?_, by omega, by omega⟩
        rw [Int.mul_neg, show y * (D : Int) = (y.natAbs : Int) * (D : Int) by rw [show (y.natAbs : Int) = y by omega]]
        omega)
      simp [hx, hy0, hu.1, hu.2, hR]
    · have hu := (Int.fdiv_fmod_unique (a := x) (b := y) (r := ((y.natAbs - R : Nat) : Int)) (q := -((D + 1 : Nat) : Int)) hy1).2 (by
        refine ⟨?_, by omega, by omega⟩
        have : y * -((D + 1 : Nat) : Int) = -((y.natAbs : Int) * ((D + 1 : Nat) : Int)) := by
          rw [Int.mul_neg, show y = (y.natAbs : Int) by omega, Int.natAbs_natCast]
        rw [this, e1]
        omega)
      simp only [hx, hy0, hR, decide_true, decide_false, show (true == false) = false from rfl, Bool.not_false, Bool.and_self, if_true, cond_true, cond_false]
      exact ⟨hu.1.symm, hu.2.symm⟩
  · by_cases hR : R = 0
    · have hu := (Int.fdiv_fmod_unique' (a := x) (b := y) (r := (R : Int)) (q := -(D : Int)) hy0).2 (by
        refine ⟨?_, by omega, by omega⟩
        rw [Int.mul_neg, show y * (D : Int) = -((y.natAbs : Int) * (D : Int)) by rw [← Int.neg_mul, show -(y.natAbs : Int) = y by omega]]
        omega)
      simp [hx, hy0, hu.1, hu.2, hR]
    · have hu := (Int.fdiv_fmod_unique' (a := x) (b := y) (r := -((y.natAbs - R : Nat) : Int)) (q := -((D + 1 : Nat) : Int)) hy0).2 (by
        refine ⟨?_, by omega, by omega⟩
        have : y * -((D + 1 : Nat) : Int) = (y.natAbs : Int) * ((D + 1 : Nat) : Int) := by
          rw [Int.mul_neg, ← Int.neg_mul, show -y = (y.natAbs : Int) by omega]
        rw [this, e1]
        omega)
      simp only [hx, hy0, hR, decide_true, decide_false, show (false == true) = false from rfl, Bool.not_false, Bool.and_self, if_true, cond_true]
      exact ⟨hu.1.symm, hu.2.symm⟩
  · have hy1 : 0 < y := by omega
    have hu := (Int.fdiv_fmod_unique (a := x) (b := y) (r := (R : Int)) (q := (D : Int)) hy1).2 (by
      refine ⟨?_, by omega, by omega⟩
      rw [show y * (D : Int) = (y.natAbs : Int) * (D : Int) by rw [show (y.natAbs : Int) = y by omega]]
      omega)
    simp [hx, hy0, hu.1, hu.2]

theorem leftN_lt (x y : Int) (hy : y ≠ 0) : leftN x y < y.natAbs := by
  have h2 := Nat.mod_lt x.natAbs (show 0 < y.natAbs by omega)
  unfold leftN more
  split
  · rename_i h
    simp at h
    omega
  · omega
theorem byN_lt (x y : Int) (hx : Fit x) : byN x y < M := by
  have h1 := Nat.div_le_self x.natAbs y.natAbs
  have h2 := M_H
  have h3 := H_pos
  obtain ⟨h4, h5⟩ := hx
  have hH : 1 < H := by decide
  unfold byN
  split <;> omega

/-- What quotient ends in. -/
def EndsQ (x y : Int) (e : Ending) : Prop := e = if !fit (x.fdiv y) then .panicked noAnswer else .returned (.tuple #[V (x.fdiv y), V (x.fmod y)])

theorem quotientZ (x y : Int) (hx : Fit x) (hy : Fit y) (h0 : y ≠ 0) (w : World) :
    Calls Try.prog 59 #[V x, V y] w fun e w' => EndsQ x y e ∧ Below w.heap.size w w' := by
  obtain ⟨hq, hr⟩ := div_math x y h0
  have hq0 : 0 < y.natAbs := by omega
  have hpM := abs_lt hx
  have hqM := abs_lt hy
  have hRM : x.natAbs % y.natAbs < M := Nat.lt_trans (Nat.mod_lt _ hq0) hqM
  have hl := leftN_lt x y h0
  have hG2 := fun v => signedZ (leftN x y) (decide (y < 0)) (Nat.lt_trans hl hqM) v
  rw [hr] at hG2
  have hfm : Fit (x.fmod y) := by
    obtain ⟨h1, h2⟩ := hy
    rw [← hr]
    by_cases h : y < 0
    · simp only [h, decide_true, cond_true]; constructor <;> omega
    · simp only [h, decide_false, cond_false]; constructor <;> omega
  have hG := fun v => signedZ (byN x y) (!(decide (x < 0) == decide (y < 0))) (byN_lt x y hx) v
  rw [hq] at hG
  have hadj : ((!(decide (x < 0) == decide (y < 0))) && !same (x.natAbs % y.natAbs) 0) = more x y := by
    rw [same_nat hRM M_pos]
    rfl
  refine (quotient_core (enc x) (enc y) x.natAbs y.natAbs (x.natAbs / y.natAbs) (x.natAbs % y.natAbs) (byN x y) (leftN x y) (enc (x.fdiv y)) (enc (x.fmod y)) (decide (x < 0)) (decide (y < 0)) _ (more x y) (!fit (x.fdiv y)) w ?_ rfl hadj (sizeZ x hx) (sizeZ y hy) (fun u => divide_any _ _ u hpM hqM hq0) (belowZ x hx) (belowZ y hy) ?_ ?_ ?_ (fun v => (hG v).mono fun _ _ ⟨he, hb⟩ => ⟨he.ends, hb⟩) ?_).mono fun e w' ⟨he, hb⟩ => ⟨he, hb⟩
  · show same (enc y) 0 = false
    have := same_enc hy fit_zero
    rw [show enc 0 = 0 from rfl] at this
    rw [this]
    simpa using h0
  · intro h
    unfold byN leftN
    rw [h]
    exact ⟨rfl, rfl⟩
  · intro h u
    have := plus_any (x.natAbs / y.natAbs) 1 u
    unfold byN
    rw [h]
    exact this
  · intro h u
    have h7 := minus_core y.natAbs (x.natAbs % y.natAbs) (M - 1 - x.natAbs % y.natAbs) (fun k hk => xor_lm _ k hRM hk) u
    refine h7.mono fun e w' ⟨he, hb⟩ => ⟨?_, hb⟩
    rw [he]
    unfold leftN
    rw [h]
    congr 2
    apply cells8_congr
    have hle := Nat.le_of_lt (Nat.mod_lt x.natAbs hq0)
    rw [show y.natAbs + (M - 1 - x.natAbs % y.natAbs) + 1 = (y.natAbs - x.natAbs % y.natAbs) + M by omega, Nat.add_mod_right]
    rfl
  · intro v
    refine (hG2 v).mono fun e w' ⟨he, hb⟩ => ⟨?_, hb⟩
    unfold EndsZ at he
    rw [fit_true hfm] at he
    exact he

end Go.Proofs.Ytfoojpfgeicolaa
