/- The law FixAround: its numbers. -/
import Derived.Test.YtlekbhdchkdnnaaGreatDoorFm
namespace Go.Proofs.YtlekbhdchkdnnaaGreatDoor
open Go.RowKit
set_option maxRecDepth 4000
set_option linter.unusedVariables false

theorem cmpI_lt0 (x y : Int) : decide (cmpI x y < 0) = decide (x < y) := by
  unfold cmpI
  by_cases h : x < y
  · rw [if_pos h, decide_eq_true h]; rfl
  · rw [if_neg h, decide_eq_false h]
    split <;> rfl
theorem cmpI_gt0 (x y : Int) : decide (0 < cmpI x y) = decide (y < x) := by
  unfold cmpI
  by_cases h : x < y
  · rw [if_pos h, decide_eq_false (show ¬ y < x by omega)]; rfl
  · rw [if_neg h]
    by_cases h2 : y < x
    · rw [if_pos h2, decide_eq_true h2]; rfl
    · rw [if_neg h2, decide_eq_false h2]; rfl
theorem beq_dec (x y : Int) : (x == y) = decide (x = y) := by
  by_cases h : x = y
  · rw [decide_eq_true h, h]; simp
  · rw [decide_eq_false h]; simp [h]
theorem cl_inner {z : Int} (h1 : cl z ≠ 9223372036854775807) (h2 : cl z ≠ -9223372036854775808) : cl z = z ∧ I64 z := by
  by_cases h : I64 z
  · exact ⟨cl_self h, h⟩
  · exfalso
    unfold I64 at h
    rcases Int.lt_or_le z 0 with h0 | h0
    · exact h2 (cl_lo (by omega))
    · exact h1 (cl_hi (by omega))
theorem I64.max : I64 9223372036854775807 := ⟨by decide, by decide⟩
theorem I64.min : I64 (-9223372036854775808) := ⟨by decide, by decide⟩

theorem AroundZ (x : Int) (hx : Sz 200 x) : Ans 43 #[.int .i64 (cl (x / 4294967296)), .int .i64 (cl (upN (x / 4294967296) (decide (x % 4294967296 = 0)))), V x] (.bool true) := by
  intro w
  have hl := cl_I64 (x / 4294967296)
  have hh := cl_I64 (upN (x / 4294967296) (decide (x % 4294967296 = 0)))
  have hf : Fit x := hx.fit (by decide)
  refine around_core _ _ _ _ _ _ (enc x) _ _ _ _ _ _ true w (cmpI_gt0 x (9223372036854775807 * 4294967296)) (cmpI_lt0 x (-9223372036854775808 * 4294967296)) (WidesZ _ I64.max) (WidesZ _ I64.min) (CmpS hx (raise_sz I64.max) (by decide) (by decide)) (CmpS hx (raise_sz I64.min) (by decide) (by decide)) (WidesZ _ hl) (WidesZ _ hh) (CmpS (raise_sz hl) hx (by decide) (by decide)) (CmpS hx (raise_sz hh) (by decide) (by decide)) (fun h1 h2 => ?_)
  have h1 := of_decide_eq_false h1
  have h2 := of_decide_eq_false h2
  have e1 : cl (x / 4294967296) = x / 4294967296 := cl_self ⟨by omega, by omega⟩
  by_cases h0 : x % 4294967296 = 0
  · rw [decide_eq_true h0]
    have e2 : upN (x / 4294967296) true = x / 4294967296 := rfl
    rw [e2, e1]
    refine ⟨cmpI_le (by omega), cmpI_le (by omega), ?_, Int.le_refl _, ?_⟩
    · rw [Int.sub_self, wrap_self ⟨by decide, by decide⟩]; decide
    · rw [e1] at hl
      rw [same_enc ((raise_sz hl).fit (by decide)) hf, beq_dec, decide_eq_true (show x / 4294967296 * 4294967296 = x by omega)]
      simp
  · rw [decide_eq_false h0]
    have e2 : upN (x / 4294967296) false = x / 4294967296 + 1 := rfl
    have e3 : cl (x / 4294967296 + 1) = x / 4294967296 + 1 := cl_self ⟨by omega, by omega⟩
    rw [e2, e1, e3]
    refine ⟨cmpI_le (by omega), cmpI_le (by omega), ?_, by omega, ?_⟩
    · rw [show x / 4294967296 + 1 - x / 4294967296 = 1 by omega, wrap_self ⟨by decide, by decide⟩]; decide
    · rw [e1] at hl
      rw [same_enc ((raise_sz hl).fit (by decide)) hf, beq_dec, decide_eq_false (show ¬ x / 4294967296 * 4294967296 = x by omega), decide_eq_false (show ¬ x / 4294967296 = x / 4294967296 + 1 by omega)]

theorem divD_cl (a b : Int) (hb : b ≠ 0) : divD a b = cl ((a * 4294967296).fdiv b) := by
  unfold divD
  rw [if_neg hb]
  by_cases h : a = 0
  · rw [if_pos h, h, Int.zero_mul, Int.zero_fdiv]; rfl
  · rw [if_neg h]
theorem divU_cl (a b : Int) (hb : b ≠ 0) : divU a b = cl (upN ((a * 4294967296).fdiv b) (decide ((a * 4294967296).fmod b = 0))) := by
  unfold divU
  rw [if_neg hb]
  by_cases h : a = 0
  · rw [if_pos h, h, Int.zero_mul, Int.zero_fdiv, Int.zero_fmod]; rfl
  · rw [if_neg h]
theorem fmod_sign (n b : Int) (hb : b ≠ 0) : (b < 0 → b < n.fmod b ∧ n.fmod b ≤ 0) ∧ (¬ b < 0 → 0 ≤ n.fmod b ∧ n.fmod b < b) := by
  obtain ⟨_, hr⟩ := div_math n b hb
  have hl := leftN_lt n b hb
  constructor
  · intro h
    rw [decide_eq_true h] at hr
    simp only [cond_true] at hr
    omega
  · intro h
    rw [decide_eq_false h] at hr
    simp only [cond_false] at hr
    omega

set_option maxHeartbeats 400000 in
theorem fixAround_walk (a b : Int) (ha : (Lit.int .i64 a).wf = true) (hb : (Lit.int .i64 b).wf = true) (w : World) : Calls Tryz.prog 9 #[.int .i64 a, .int .i64 b] w fun e w' => e = .returned (.bool true) ∧ Below w.heap.size w w' := by
  have ha := I64.wf ha
  have hb := I64.wf hb
  have oa := fun u => OfZ a ha.1 ha.2 u
  have ob := fun u => OfZ b hb.1 hb.2 u
  have mp := mul_told a b ha.sz hb.sz (by decide)
  have ml : Ans 22 #[.int .i64 a, .int .i64 b] (.int .i64 (cl (a * b / 4294967296))) := FixMulZ a b ha hb
  have mu : Ans 24 #[.int .i64 a, .int .i64 b] (.int .i64 (cl (upN (a * b / 4294967296) (decide (a * b % 4294967296 = 0))))) := FixMulUpZ a b ha hb
  have ar := AroundZ (a * b) ((prod_sz ha hb).mono (by decide))
  generalize cl (a * b / 4294967296) = lo at ml ar
  generalize cl (upN (a * b / 4294967296) (decide (a * b % 4294967296 = 0))) = hi at mu ar
  have dl := FixDivZ a b ha hb
  have du := FixDivUpZ a b ha hb
  by_cases h0 : b = 0
  · exact arnd_zero a b _ _ (enc a) (enc b) (enc (a * b)) w oa ob mp ml mu ar awake2 (by simp [h0]) (by simp [h0])
  · have hb1 : (b == 0) = false := by simp [h0]
    have hb2 : decide (b = 0) = false := by simp [h0]
    by_cases hor : ((divD a b == 9223372036854775807) || (divU a b == 9223372036854775807) || (divD a b == -9223372036854775808) || (divU a b == -9223372036854775808)) = true
    · exact arnd_ends a b _ _ _ _ (enc a) (enc b) (enc (a * b)) w oa ob mp ml mu ar awake2 dl du _ _ _ _ hb1 hb2 rfl rfl rfl rfl hor
    · have hor : ((divD a b == 9223372036854775807) || (divU a b == 9223372036854775807) || (divD a b == -9223372036854775808) || (divU a b == -9223372036854775808)) = false := by simpa using hor
      simp only [Bool.or_eq_false_iff] at hor
      obtain ⟨⟨⟨e1, e2⟩, e3⟩, e4⟩ := hor
      have f1 : divD a b ≠ 9223372036854775807 := fun hc => by rw [hc] at e1; simp at e1
      have f2 : divU a b ≠ 9223372036854775807 := fun hc => by rw [hc] at e2; simp at e2
      have f3 : divD a b ≠ -9223372036854775808 := fun hc => by rw [hc] at e3; simp at e3
      have f4 : divU a b ≠ -9223372036854775808 := fun hc => by rw [hc] at e4; simp at e4
      have gD := divD_cl a b h0
      have gU := divU_cl a b h0
      rw [gD] at f1 f3
      rw [gU] at f2 f4
      obtain ⟨q1, iq⟩ := cl_inner f1 f3
      obtain ⟨q2, iu⟩ := cl_inner f2 f4
      rw [q1] at gD
      rw [q2] at gU
      have hn := Int.mul_fdiv_add_fmod (a * 4294967296) b
      obtain ⟨sn, sp⟩ := fmod_sign (a * 4294967296) b h0
      have sN := raise_sz ha
      rw [gD] at dl e1 e3
      rw [gU] at du e2 e4
      clear gD gU hor
      generalize (a * 4294967296).fdiv b = q at *
      generalize (a * 4294967296).fmod b = r at *
      have hX : q * b = b * q := Int.mul_comm _ _
      have hY1 : (q + 1) * b = b * q + b := by rw [Int.add_mul, Int.one_mul, Int.mul_comm]
      have hu : (decide (r = 0) = true ∧ upN q (decide (r = 0)) = q) ∨ (decide (r = 0) = false ∧ upN q (decide (r = 0)) = q + 1) := by
        by_cases hr : r = 0
        · left; rw [decide_eq_true hr]; exact ⟨rfl, rfl⟩
        · right; rw [decide_eq_false hr]; exact ⟨rfl, rfl⟩
      have mx := mul_told q b iq.sz hb.sz (by decide)
      have my := mul_told (upN q (decide (r = 0))) b iu.sz hb.sz (by decide)
      have fX : Sz 126 (q * b) := iq.sz.mul hb.sz
      have fY : Sz 126 (upN q (decide (r = 0)) * b) := iu.sz.mul hb.sz
      have hsame : (q * b = upN q (decide (r = 0)) * b) ↔ q = upN q (decide (r = 0)) := ⟨fun hc => Int.eq_of_mul_eq_mul_right h0 hc, fun hc => by rw [← hc]⟩
      generalize hU : upN q (decide (r = 0)) = U at *
      have hdf : wrap64 (U - q) ≤ 1 := by
        rcases hu with ⟨_, rfl⟩ | ⟨_, rfl⟩
        · rw [Int.sub_self, wrap_self ⟨by decide, by decide⟩]; decide
        · rw [show q + 1 - q = 1 by omega, wrap_self ⟨by decide, by decide⟩]; decide
      have hle : q ≤ U := by rcases hu with ⟨_, rfl⟩ | ⟨_, rfl⟩ <;> omega
      have ol : Ans 42 #[.int .i64 q] (.agg (cells8 (enc q))) := fun u => OfZ q iq.1 iq.2 u
      have oh : Ans 42 #[.int .i64 U] (.agg (cells8 (enc U))) := fun u => OfZ U iu.1 iu.2 u
      have wn := WidesZ a ha
      by_cases hb3 : b < 0
      · have sr := sn hb3
        refine arnd_out a b lo hi q U (cmpI (U * b) (a * 4294967296)) (cmpI (a * 4294967296) (q * b)) (enc a) (enc b) (enc (a * b)) (enc q) (enc U) (enc (q * b)) (enc (U * b)) (enc (a * 4294967296)) w oa ob mp ml mu ar awake2 dl du hb1 hb2 e1 e2 e3 e4 ol oh mx my wn (cmpI_le ?_) (cmpI_le ?_) (decide_eq_true hdf) (decide_eq_true hle) (decide_eq_true hb3) (CmpS fY sN (by decide) (by decide)) (CmpS sN fX (by decide) (by decide)) ?_
        · rcases hu with ⟨h1, rfl⟩ | ⟨h1, rfl⟩
          · have := of_decide_eq_true h1; omega
          · omega
        · omega
        · show same _ _ = _
          rw [same_enc (fY.fit (by decide)) (fX.fit (by decide)), beq_dec]
          exact decide_eq_decide.2 (by rw [← hsame, eq_comm])
      · have sr := sp hb3
        refine arnd_in a b lo hi q U (cmpI (q * b) (a * 4294967296)) (cmpI (a * 4294967296) (U * b)) (enc a) (enc b) (enc (a * b)) (enc q) (enc U) (enc (q * b)) (enc (U * b)) (enc (a * 4294967296)) w oa ob mp ml mu ar awake2 dl du hb1 hb2 e1 e2 e3 e4 ol oh mx my wn (cmpI_le ?_) (cmpI_le ?_) (decide_eq_true hdf) (decide_eq_true hle) (decide_eq_false hb3) (CmpS fX sN (by decide) (by decide)) (CmpS sN fY (by decide) (by decide)) ?_
        · omega
        · rcases hu with ⟨h1, rfl⟩ | ⟨h1, rfl⟩
          · have := of_decide_eq_true h1; omega
          · omega
        · show same _ _ = _
          rw [same_enc (fX.fit (by decide)) (fY.fit (by decide)), beq_dec]
          exact decide_eq_decide.2 hsame

end Go.Proofs.YtlekbhdchkdnnaaGreatDoor
