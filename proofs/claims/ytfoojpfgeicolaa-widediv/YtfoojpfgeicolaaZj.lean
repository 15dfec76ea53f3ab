/- The contracts of Div and Sqrt of package wide, over integers. -/
import Derived.Test.YtfoojpfgeicolaaZi
namespace Go.Proofs.Ytfoojpfgeicolaa
open Go.RowKit

/-- Div has an answer. -/
def dq (x y : Int) : Bool := !decide (y = 0) && fit (x.fdiv y)
theorem DivZ (x y : Int) (hx : Fit x) (hy : Fit y) (w : World) :
    Calls Try.prog 30 #[V x, V y] w fun e w' => e = .returned (.tuple #[.agg (cells8 (bif dq x y then enc (x.fdiv y) else 0)), .agg (cells8 (bif dq x y then enc (x.fmod y) else 0)), .bool (dq x y)]) ∧ Below w.heap.size w w' := by
  by_cases h0 : y = 0
  · subst h0
    refine (Div_core (enc x) (enc 0) 0 0 true w fun u => ?_).mono fun e w' ⟨he, hb⟩ => ⟨?_, hb⟩
    · exact quotient_zero (enc x) u
    · rw [he]
      simp [dq]
  · refine (Div_core (enc x) (enc y) (enc (x.fdiv y)) (enc (x.fmod y)) (!fit (x.fdiv y)) w (quotientZ x y hx hy h0)).mono fun e w' ⟨he, hb⟩ => ⟨?_, hb⟩
    rw [he]
    unfold dq
    cases hf : fit (x.fdiv y) <;> simp [h0]

/-- The root, rounded down. -/
def isq : Nat → Nat
  | 0 => 0
  | x + 1 => if (isq x + 1) * (isq x + 1) ≤ x + 1 then isq x + 1 else isq x
theorem isq_spec : ∀ x, isq x * isq x ≤ x ∧ x < (isq x + 1) * (isq x + 1)
  | 0 => by decide
  | x + 1 => by
    obtain ⟨h1, h2⟩ := isq_spec x
    unfold isq
    split
    · rename_i h
      refine ⟨h, ?_⟩
      have : (isq x + 1) * (isq x + 1) ≤ (isq x + 1 + 1) * (isq x + 1 + 1) - 1 := by
        have e : (isq x + 1 + 1) * (isq x + 1 + 1) = (isq x + 1) * (isq x + 1) + 2 * (isq x + 1) + 1 := by
          rw [Nat.add_mul (isq x + 1) 1, Nat.mul_add (isq x + 1) (isq x + 1) 1]
          omega
        omega
      have e : (isq x + 1 + 1) * (isq x + 1 + 1) = (isq x + 1) * (isq x + 1) + 2 * (isq x + 1) + 1 := by
        rw [Nat.add_mul (isq x + 1) 1, Nat.mul_add (isq x + 1) (isq x + 1) 1]
        omega
      omega
    · exact ⟨by omega, by omega⟩
theorem isq_le (x : Nat) : isq x ≤ x := by
  have h := (isq_spec x).1
  rcases Nat.eq_zero_or_pos (isq x) with h0 | h0
  · omega
  · have := Nat.le_mul_of_pos_right (isq x) h0
    omega
theorem rootZ (x : Nat) (hx : x < M) (w : World) :
    Calls Try.prog 63 #[W x] w fun e w' => e = .returned (.agg (cells8 (isq x))) ∧ Below w.heap.size w w' := by
  refine (root_any x hx w).mono fun e w' ⟨⟨r, he, h1, h2⟩, hb⟩ => ⟨?_, hb⟩
  obtain ⟨h3, h4⟩ := isq_spec x
  have a1 := root_one x r (isq x) h1 h4
  have a2 := root_one x (isq x) r h3 h2
  rw [he, show r = isq x by omega]

/-- A number of before, and the answer's block. -/
structure Sh1 (w0 : World) (g a : Nat) (w : World) : Prop where
  x : Blk w g 25 (cells8 a)
  r : Blk w w0.heap.size 25 (cells8 0)
  o : Below w0.heap.size w0 w
theorem Sh1.keep {w0 w w' : World} {g a : Nat} (h : Sh1 w0 g a w) (hb : Below w.heap.size w w') : Sh1 w0 g a w' :=
  ⟨h.x.below hb h.x.lt, h.r.below hb h.r.lt, h.o.trans (hb.mono h.o.size)⟩

theorem Sqrt1_no (a g : Nat) (w : World) (HX : Hid (Blk w g 25 (cells8 a)))
    (hN : Hid (∀ u, Calls Try.prog 34 #[W a] u fun e w' => e = .returned (.bool true) ∧ Below u.heap.size u w')) :
    Calls Try.prog 62 #[.pointer (some ⟨g, 0, none⟩)] w fun e w' => Ends true 0 e ∧ Below w.heap.size w w' := by
  go_enter Try.func62, Try.ntmps62
  go_wp2_with (first
    | refine ld8 25 (.tmp 0) ((unhide HX).alloc _) rfl rfl rfl Try.underlying25 rfl iWide ?_
    | (go_at_call 34; refine (unhide hN _).mono ?_; rintro e w' ⟨he, hb⟩; subst he))
  exact ⟨rfl, rfl, ((Below.refl _ _).alloc (Nat.le_refl _) _).trans (hb.mono (by simp))⟩

theorem Sqrt1_core (a r n g : Nat) (w : World) (HX : Hid (Blk w g 25 (cells8 a)))
    (hN : Hid (∀ u, Calls Try.prog 34 #[W a] u fun e w' => e = .returned (.bool false) ∧ Below u.heap.size u w'))
    (hR : Hid (∀ u, Calls Try.prog 63 #[W a] u fun e w' => e = .returned (.agg (cells8 r)) ∧ Below u.heap.size u w'))
    (hG : Hid (∀ u, Calls Try.prog 52 #[W r, .bool false] u fun e w' => e = .returned (.agg (cells8 n)) ∧ Below u.heap.size u w')) :
    Calls Try.prog 62 #[.pointer (some ⟨g, 0, none⟩)] w fun e w' => Ends false n e ∧ Below w.heap.size w w' := by
  have D0 : Hid (Sh1 w g a (w.alloc (.cells #[.int .u64 0, .int .u64 0, .int .u64 0, .int .u64 0, .int .u64 0, .int .u64 0, .int .u64 0, .int .u64 0] 25))) :=
    ⟨(unhide HX).alloc _, cells8_0 ▸ Blk.new _ _ _, (Below.refl _ _).alloc (Nat.le_refl _) _⟩
  go_enter Try.func62, Try.ntmps62
  go_wp2_with (first
    | refine ld8 25 (.tmp 0) (unhide D0).x rfl rfl rfl Try.underlying25 rfl iWide ?_
    | (go_at_call 34; refine (unhide hN _).mono ?_; rintro e w1 ⟨he, hb1⟩; subst he)
    | refine ld8 23 (.tmp 5) ((unhide D0).keep hb1).x rfl rfl rfl Try.underlying23 rfl iArr ?_
    | (go_at_call 63; refine (unhide hR _).mono ?_; rintro e w2 ⟨he, hb2⟩; subst he)
    | (go_at_call 52; refine (unhide hG _).mono ?_; rintro e w3 ⟨he, hb3⟩; subst he)
    | refine st8 (n := n) 25 (.tmp 1) (.tmp 8) ((((unhide D0).keep hb1).keep hb2).keep hb3).r rfl rfl rfl rfl rfl iWide ?_)
  exact res8 (((((unhide D0).keep hb1).keep hb2).keep hb3).r.row _) rfl rfl rfl Try.underlying25 rfl iWide ⟨rfl, below_row ((((unhide D0).keep hb1).keep hb2).keep hb3).o (Nat.le_refl _) _⟩

theorem SqrtZ (x : Int) (hx : Fit x) (w : World) :
    Calls Try.prog 32 #[V x] w fun e w' => e = .returned (told (decide (x < 0)) (enc (isq x.toNat : Nat))) ∧ Below w.heap.size w w' := by
  have hN := belowZ x hx
  by_cases h : x < 0
  · simp only [h, decide_true] at hN ⊢
    exact Sqrt_core (enc x) _ true w fun g u bg => (Sqrt1_no (enc x) g u bg hN).mono fun _ _ ⟨he, hb⟩ => ⟨he.any, hb⟩
  · simp only [h, decide_false] at hN ⊢
    refine Sqrt_core (enc x) _ false w fun g u bg => ?_
    have hM := MI
    have hH := M_H
    obtain ⟨h1, h2⟩ := hx
    have he : enc x = x.toNat := by have := enc_nn (z := x) (by omega) (by omega); omega
    have hxM : x.toNat < M := by omega
    have hle := isq_le x.toNat
    have hf : Fit (isq x.toNat : Nat) := ⟨by omega, by omega⟩
    refine Sqrt1_core (enc x) (isq x.toNat) _ g u bg hN ?_ ?_
    · rw [he]; exact rootZ x.toNat hxM
    · intro v
      refine (signedZ (isq x.toNat) false (by omega) v).mono fun e w' ⟨hz, hb⟩ => ⟨?_, hb⟩
      unfold EndsZ at hz
      simp only [cond_false] at hz
      rw [fit_true hf] at hz
      exact hz

end Go.Proofs.Ytfoojpfgeicolaa
