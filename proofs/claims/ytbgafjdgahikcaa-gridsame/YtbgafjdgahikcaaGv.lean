/- The law GridSame: its numbers. -/
import Derived.Test.YtbgafjdgahikcaaGt
namespace Go.Proofs.Ytbgafjdgahikcaa
open Go.RowKit
set_option maxRecDepth 4000
set_option linter.unusedVariables false

theorem sgn_casesG (x : Int) : (x < 0 ∧ sgn x = -1) ∨ (x = 0 ∧ sgn x = 0) ∨ (0 < x ∧ sgn x = 1) := by
  unfold sgn
  rcases (show x < 0 ∨ x = 0 ∨ 0 < x by omega) with h | h | h
  · exact .inl ⟨h, if_pos h⟩
  · exact .inr (.inl ⟨h, by rw [if_neg (by omega), if_pos h]⟩)
  · exact .inr (.inr ⟨h, by rw [if_neg (by omega), if_neg (by omega)]⟩)
theorem DivX {g a : Int} (hg : Fit g) (ha : Fit a) (hx : Fit (g * a)) (h0 : a ≠ 0) : Ans 50 #[V (g * a), V a] (.tuple #[V g, V 0, .bool true]) := fun w => by
  have k := DivZ (g * a) a hx ha w
  have e1 : (g * a).fdiv a = g := Int.mul_fdiv_cancel g h0
  have e2 : (g * a).fmod a = 0 := Int.mul_fmod_left g a
  have e3 : dq (g * a) a = true := by
    unfold dq
    rw [e1, fit_true hg]
    simp [h0]
  rw [e3, e1, e2] at k
  exact k
theorem gcd3_mul (g a b c : Nat) : Nat.gcd (Nat.gcd (Nat.gcd 0 (g * a)) (g * b)) (g * c) = g * Nat.gcd (Nat.gcd (Nat.gcd 0 a) b) c := by
  rw [Nat.gcd_zero_left, Nat.gcd_zero_left, Nat.gcd_mul_left, Nat.gcd_mul_left]
theorem wd3 (x y z : Int) : wd x y z 3 = Nat.gcd (Nat.gcd (Nat.gcd 0 x.natAbs) y.natAbs) z.natAbs := rfl
theorem wd_mul (g : Nat) (a b c : Int) : wd ((g : Int) * a) ((g : Int) * b) ((g : Int) * c) 3 = g * wd a b c 3 := by
  rw [wd3, wd3, Int.natAbs_mul, Int.natAbs_mul, Int.natAbs_mul, Int.natAbs_natCast, gcd3_mul]
theorem wd_dvd (x y z : Int) : ((wd x y z 3 : Nat) : Int) ∣ x ∧ ((wd x y z 3 : Nat) : Int) ∣ y ∧ ((wd x y z 3 : Nat) : Int) ∣ z := by
  rw [wd3]
  refine ⟨?_, ?_, ?_⟩
  · exact Int.ofNat_dvd_left.2 (Nat.dvd_trans (Nat.dvd_trans (Nat.gcd_dvd_left _ _) (Nat.gcd_dvd_left _ _)) (Nat.gcd_dvd_right _ _))
  · exact Int.ofNat_dvd_left.2 (Nat.dvd_trans (Nat.gcd_dvd_left _ _) (Nat.gcd_dvd_right _ _))
  · exact Int.ofNat_dvd_left.2 (Nat.gcd_dvd_right _ _)
theorem same_self' (n : Nat) : same n n = true := by unfold same; simp
theorem same3_self' (x y z : Nat) : same3 x y z x y z = true := by unfold same3; rw [same_self', same_self', same_self']; rfl
theorem sgn_beq {a : Int} (h : a ≠ 0) : (sgn a == 0) = false := by rcases sgn_casesG a with ⟨_, e⟩ | ⟨h0, _⟩ | ⟨_, e⟩ <;> simp_all
theorem gridSame_walk (X Y Z : Nat) (w : World) :
    Calls Try.prog 11 #[.agg (c24 X Y Z)] w fun e w' => e = .returned (.bool true) ∧ Below w.heap.size w w' := by
  have hx := sv_fit X
  have hy := sv_fit Y
  have hz := sv_fit Z
  have ec : c24 X Y Z = c24 (enc (sv X)) (enc (sv Y)) (enc (sv Z)) := by unfold c24; rw [← cells8_sv X, ← cells8_sv Y, ← cells8_sv Z]
  rw [ec]
  generalize sv X = x at *
  generalize sv Y = y at *
  generalize sv Z = z at *
  clear ec
  have p1 := PrimeZ x y z hx hy hz
  cases hp : prOk x y z
  · rw [hp, if_neg (by decide)] at p1
    exact same_no _ _ _ w p1 (same3_self' _ _ _) awake6Z
  · rw [hp, if_pos rfl] at p1
    unfold prOk at hp
    simp only [Bool.and_eq_true, Bool.not_eq_true', decide_eq_false_iff_not] at hp
    obtain ⟨⟨⟨f0, f1⟩, f2⟩, h0⟩ := hp
    obtain ⟨⟨a, ea⟩, ⟨b, eb⟩, ⟨c, ec⟩⟩ := wd_dvd x y z
    have hgl : ((wd x y z 3 : Nat) : Int) < (H : Int) := wd_lt (m := 3) (fun k hk => by
      rcases (show k = 0 ∨ k = 1 ∨ k = 2 by omega) with rfl | rfl | rfl
      · exact f0
      · exact f1
      · exact f2) 3 (Nat.le_refl _)
    have hgg : wd x y z 3 = wd x y z 3 * wd a b c 3 := by
      have := wd_mul (wd x y z 3) a b c
      rw [← ea, ← eb, ← ec] at this
      exact this
    generalize wd x y z 3 = g at *
    have hg0 : (g : Int) ≠ 0 := by omega
    have hw1 : wd a b c 3 = 1 := Nat.eq_of_mul_eq_mul_left (show 0 < g by omega) (by omega)
    subst ea eb ec
    rw [Int.mul_ediv_cancel_left _ hg0, Int.mul_ediv_cancel_left _ hg0, Int.mul_ediv_cancel_left _ hg0] at p1
    have hga : ∀ v : Int, Fit ((g : Int) * v) → Fit v := fun v h => by
      have := fit_div h (g : Int) (by omega)
      rwa [Int.mul_ediv_cancel_left _ hg0] at this
    have hab : ∀ v : Int, fit (((g : Int) * v).natAbs : Int) = true → fit (v.natAbs : Int) = true := fun v h => by
      have h2 := (Fit.of h).2
      refine fit_true ⟨by have := H_pos; omega, Int.lt_of_le_of_lt ?_ h2⟩
      rw [Int.natAbs_mul, Int.natAbs_natCast]
      exact Int.ofNat_le.2 (Nat.le_mul_of_pos_left _ (by omega))
    have hFa := hga a hx
    have hFb := hga b hy
    have hFc := hga c hz
    have hFg : Fit (g : Int) := ⟨by have := H_pos; omega, hgl⟩
    have p2 := PrimeZ a b c hFa hFb hFc
    have hp2 : prOk a b c = true := by
      unfold prOk
      rw [hab a f0, hab b f1, hab c f2, hw1]
      rfl
    rw [hp2, if_pos rfl, hw1] at p2
    rw [show ((1 : Nat) : Int) = 1 from rfl, Int.ediv_one, Int.ediv_one, Int.ediv_one] at p2
    have sA := fun u => SignZ a hFa u
    have sB := fun u => SignZ b hFb u
    have sC := fun u => SignZ c hFc u
    have sG : Ans 46 #[V (g : Int)] (.int .i64 1) := fun u => by
      have k := SignZ (g : Int) hFg u
      rw [show sgn (g : Int) = 1 by rcases sgn_casesG (g : Int) with ⟨h, _⟩ | ⟨h, _⟩ | ⟨_, e⟩; omega; omega; exact e] at k
      exact k
    have s0 : Ans 46 #[V 0] (.int .i64 0) := fun u => SignZ 0 fit_zero u
    have t1 := Times6Z (g : Int) a hFg hFa hx
    have t2 := Times6Z (g : Int) b hFg hFb hy
    have t3 := Times6Z (g : Int) c hFg hFc hz
    by_cases a0 : a = 0
    · have q0 : (sgn a == 0) = true := by rw [a0]; rfl
      by_cases b0 : b = 0
      · have q1 : (sgn b == 0) = true := by rw [b0]; rfl
        have c0 : c ≠ 0 := fun c0 => by
          rw [a0, b0, c0] at hw1
          exact absurd hw1 (by decide)
        exact same_law2 _ _ _ _ _ _ _ _ _ _ _ w p1 p2 (same3_self' _ _ _) sA q0 sB q1 sC (sgn_beq c0) (DivX hFg hFc hz c0) s0 sG t1 t2 t3 (same_self' _) (same_self' _) (same_self' _) awake6Z
      · exact same_law1 _ _ _ _ _ _ _ _ _ _ w p1 p2 (same3_self' _ _ _) sA q0 sB (sgn_beq b0) (DivX hFg hFb hy b0) s0 sG t1 t2 t3 (same_self' _) (same_self' _) (same_self' _) awake6Z
    · exact same_law0 _ _ _ _ _ _ _ _ _ w p1 p2 (same3_self' _ _ _) sA (sgn_beq a0) (DivX hFg hFa hx a0) s0 sG t1 t2 t3 (same_self' _) (same_self' _) (same_self' _) awake6Z

end Go.Proofs.Ytbgafjdgahikcaa
