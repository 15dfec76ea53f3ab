/- For all numbers a and b of 512 bits the law WideDiv returns true, and its arguments read behind the call as they did before. No condition. -/
import Derived.Test.YtfoojpfgeicolaaRu
import Derived.Test.YtfoojpfgeicolaaKa
import Derived.Test.YtfoojpfgeicolaaZq
import Derived.Deep.DeepCutAuto
namespace Go.Proofs.Ytfoojpfgeicolaa
open Go.ChangeShapes Go.WideShapes Go.ChangeAt Go.RowKit
set_option linter.unusedVariables false

theorem lft_nat (m n : Nat) : lft m n 0 = ((m % n : Nat) : Int) := by unfold lft; rw [up_zero, Int.natCast_emod]
theorem qut_nat (m n : Nat) : qut m n 0 = ((m / n : Nat) : Int) := by unfold qut; rw [up_zero, show ((2 ^ 0 : Nat) : Int) = 1 from rfl, Int.mul_one, Int.natCast_ediv]
theorem sgn_zero (x : Int) : sgn x = 0 ↔ x = 0 := by
  unfold sgn
  by_cases h : x < 0
  · rw [if_pos h]; omega
  · rw [if_neg h]
    by_cases h0 : x = 0
    · rw [if_pos h0]; omega
    · rw [if_neg h0]; omega
theorem fin_math (x y : Int) (hy : y ≠ 0) :
    qfin ((decide (x < 0)) != (decide (y < 0))) (sgn (lft x.natAbs y.natAbs 0)) (qut x.natAbs y.natAbs 0) = x.fdiv y ∧ rfin ((decide (x < 0)) != (decide (y < 0))) (decide (y < 0)) (sgn (lft x.natAbs y.natAbs 0)) (lft x.natAbs y.natAbs 0) y.natAbs = x.fmod y := by
  obtain ⟨h1, h2⟩ := div_math x y hy
  rw [← h1, ← h2]
  have hl := Nat.mod_lt x.natAbs (show 0 < y.natAbs by omega)
  have hs := sgn_zero (lft x.natAbs y.natAbs 0)
  rw [lft_nat] at hs ⊢
  rw [qut_nat]
  unfold qfin rfin rone byN leftN more
  generalize x.natAbs / y.natAbs = D at *
  generalize x.natAbs % y.natAbs = R at *
  generalize sgn (R : Int) = s at *
  have e : (decide (x < 0) != decide (y < 0)) = !(decide (x < 0) == decide (y < 0)) := rfl
  rw [e]
  generalize (!(decide (x < 0) == decide (y < 0))) = g
  generalize decide (y < 0) = d
  by_cases hR : R = 0
  · have hs0 : s = 0 := hs.2 (by omega)
    subst hs0 hR
    cases g <;> cases d <;> simp
  · have hs0 : s ≠ 0 := fun hc => hR (by have := hs.1 hc; omega)
    cases g <;> cases d <;> simp [hs0, hR] <;> omega


theorem fmod_fit {x y : Int} (hy : Fit y) (h0 : y ≠ 0) : Fit (x.fmod y) := by
  obtain ⟨_, hr⟩ := div_math x y h0
  have hl := leftN_lt x y h0
  obtain ⟨h1, h2⟩ := hy
  rw [← hr]
  by_cases h : y < 0
  · simp only [h, decide_true, cond_true]; constructor <;> omega
  · simp only [h, decide_false, cond_false]; constructor <;> omega
theorem byN_le (x y : Int) : byN x y ≤ x.natAbs + 1 := by
  have h1 := Nat.div_le_self x.natAbs y.natAbs
  unfold byN
  split <;> omega
theorem fdiv_bd {x y : Int} (hx : Fit x) (h0 : y ≠ 0) : Bd (x.fdiv y) := by
  obtain ⟨hq, _⟩ := div_math x y h0
  have hl := byN_le x y
  have hH : 1000 < (H : Int) := by decide
  obtain ⟨h1, h2⟩ := hx
  rw [← hq]
  unfold Bd
  cases (!(decide (x < 0) == decide (y < 0)))
  · simp only [cond_false]; constructor <;> omega
  · simp only [cond_true]; constructor <;> omega
theorem fit_bd {z : Int} (h : Fit z) : Bd z := by
  obtain ⟨h1, h2⟩ := h
  have hH := HI_pos
  unfold Bd
  constructor <;> omega
theorem blen_512 {z : Int} (hz : Fit z) : blen z.natAbs ≤ 512 := by
  rw [blen_lt]
  have h1 := abs_lt hz
  obtain ⟨e, he, h5⟩ : ∃ e, M = 2 ^ e ∧ e = 512 := ⟨64 * 8, M_pow8, by omega⟩
  rw [he] at h1
  rw [← h5]
  exact h1
theorem abs_520 {z : Int} (hz : Fit z) : z.natAbs < 2 ^ 520 := by
  have h1 := abs_lt hz
  obtain ⟨e, he, h5⟩ : ∃ e, M = 2 ^ e ∧ e = 512 := ⟨64 * 8, M_pow8, by omega⟩
  rw [he] at h1
  obtain ⟨f, hf⟩ : ∃ f, f = 520 := ⟨_, rfl⟩
  rw [← hf]
  exact Nat.lt_of_lt_of_le h1 (Nat.pow_le_pow_right (by decide) (by omega))
theorem of_row {z : Int} (hz : Bd z) (u : World) (p c : Nat) (hr : Row u p 520 (bz z)) :
    Calls Try.prog 50 #[sc p 520 c] u fun e w' => e = .returned (.tuple #[.agg (cells8 (fitN z)), .bool (fit z)]) ∧ Below u.heap.size u w' := by
  have b := wide8 H z hz.1 hz.2 HI_pos
  refine (ofZ z 8 520 p 0 c rfl (by decide) b.1 b.2 u (fun k hk => by rw [Nat.zero_add]; exact hr.2 k hk) hr.1).mono fun e w' ⟨he, hb⟩ => ⟨?_, hb⟩
  rw [he, fitN_eq]

theorem refDiv (x y : Int) (hx : Fit x) (hy : Fit y) (h0 : y ≠ 0) (w : World) :
    Calls Try.prog 31 #[V x, V y] w fun e w' => e = .returned (.tuple #[.agg (cells8 (bif dq x y then enc (x.fdiv y) else 0)), .agg (cells8 (bif dq x y then enc (x.fmod y) else 0)), .bool (dq x y)]) ∧ Below w.heap.size w w' := by
  have hn : 0 < y.natAbs := by omega
  obtain ⟨f1, f2⟩ := fin_math x y h0
  have hl0 : lft x.natAbs y.natAbs 0 = ((x.natAbs % y.natAbs : Nat) : Int) := lft_nat _ _
  have hml := Nat.mod_lt x.natAbs hn
  have hlf : Fit (lft x.natAbs y.natAbs 0) := by
    obtain ⟨h1, h2⟩ := hy
    rw [hl0]
    constructor <;> omega
  have hfm := fmod_fit (x := x) hy h0
  have hd : dq x y = fit (x.fdiv y) := by unfold dq; simp [h0]
  refine div_bits (enc x) (enc y) _ _ x.natAbs y.natAbs (blen x.natAbs) (blen y.natAbs) (enc (lft x.natAbs y.natAbs 0)) (decide (x < 0)) (decide (y < 0)) _ (sgn (lft x.natAbs y.natAbs 0)) (sgn y) w
    (fun u => refSign y hy u) (fun hc => h0 ((sgn_zero y).1 hc)) (fun u => refSize x hx u) (fun u => refSize y hy u)
    (fun u g hr => top_bits x.natAbs 520 g 0 520 (by decide) (abs_520 hx) u (fun k hk => by rw [Nat.zero_add]; exact hr.2 k hk))
    (fun u g hr => top_bits y.natAbs 520 g 0 520 (by decide) (abs_520 hy) u (fun k hk => by rw [Nat.zero_add]; exact hr.2 k hk))
    (fun u => refBelow x hx u) (fun u => refBelow y hy u) (fun u p c hr => ?_) (fun u => refSign _ hlf u) (fun u p c z hz hr => of_row hz u p c hr) ?_
    (blen_512 hx) (blen_512 hy) hn ((blen_lt _ _).1 (Nat.le_refl _)) ((blen_lt _ _).1 (Nat.le_refl _)) ?_
  · have := of_row (fit_bd hlf) u p c hr
    have e1 : fitN (lft x.natAbs y.natAbs 0) = enc (lft x.natAbs y.natAbs 0) := by unfold fitN; rw [fit_true hlf]; rfl
    rw [e1, fit_true hlf] at this
    exact this
  · show DivOk _ _ _ _ _
    rw [f1, f2]
    refine ⟨fdiv_bd hx h0, fit_bd hfm, fit_true hfm, fun h => ?_, fun h => ?_⟩
    · rw [hd, h]
      unfold fitN
      rw [h, fit_true hfm]
      exact ⟨rfl, rfl, rfl⟩
    · rw [hd, h]
      exact ⟨rfl, rfl, rfl⟩
  · intro k hk
    have hB : ¬ blen y.natAbs ≤ blen y.natAbs - 1 := by
      have : blen y.natAbs ≠ 0 := fun hc => by
        have := (blen_lt y.natAbs 0).1 (by omega)
        simp at this
        omega
      omega
    rw [blen_lt] at hB
    exact start_up ((blen_lt _ _).1 (Nat.le_refl _)) (.inr (by omega)) hn (by
      have : blen y.natAbs ≠ 0 := fun hc => by
        have := (blen_lt y.natAbs 0).1 (by omega)
        simp at this
        omega
      omega) hk

theorem Env.pair {w0 w : World} {l : List (Nat × Nat)} (d : Env w0 l w) (n m : Nat) {c1 c2 : Array Value} (h1 : c1.size = 8) (h2 : c2.size = 8) :
    Env w0 ((w.heap.size + 1, m) :: (w.heap.size, n) :: l) ((((w.alloc (.cells c1 25)).alloc (.cells c2 25)).setRow w.heap.size (cells8 n)).setRow (w.heap.size + 1) (cells8 m)) := by
  refine ⟨fun p hp => ?_, d.o.trans ((two_new w _ _ _ _).mono d.o.size)⟩
  rcases List.mem_cons.1 hp with e | hp
  · subst e; exact ((Blk.second2 w 25 _ _).rowOther _ (by omega)).row _
  · rcases List.mem_cons.1 hp with e | hp
    · subst e; exact ((Blk.first2 w 25 _ _).row _).rowOther _ (by show w.heap.size ≠ _; omega)
    · have hl := (d.at_ p hp).lt
      exact ((((d.at_ p hp).alloc _).alloc _).rowOther _ (by omega)).rowOther _ (by omega)

set_option maxHeartbeats 1000000 in
theorem div_none (a b : Nat) (w : World) (hSgb : Hid (∀ u, Calls Try.prog 13 #[.agg (cells8 b)] u fun e w' => e = .returned (.int .i64 0) ∧ Below u.heap.size u w')) :
    Calls Try.prog 31 #[W a, W b] w fun e w' => e = .returned (.tuple #[.agg (cells8 0), .agg (cells8 0), .bool false]) ∧ Below w.heap.size w w' := by
  unfold W
  go_enter Try.func31, Try.ntmps31
  go_upto_region 1 with fail
  have D := hide (EnvR.of (Env.four w a b 0 0))
  rw [cells8_0] at D
  go_upto_region 2 with (first
    | (with_reducible refine at_list ?_; apply ldE (unhide D).e _ rfl rfl rfl (by repeat (first | exact List.mem_cons_self | apply List.mem_cons_of_mem)))
    | (go_at_call 13; refine (unhide hSgb _).mono ?_; rintro e w1 ⟨he, hw⟩; subst he; have D := hide ((unhide D).keep hw); clear hw))
  have B4 := hide ((unhide D).e.blk (n := 0) (g := w.heap.size + 1 + 1) (by repeat (first | exact List.mem_cons_self | apply List.mem_cons_of_mem)))
  have B5 := hide ((unhide D).e.blk (n := 0) (g := w.heap.size + 1 + 1 + 1) (by repeat (first | exact List.mem_cons_self | apply List.mem_cons_of_mem)))
  have DO := hide (unhide D).e.o
  clear D
  go_wp2_with (first
    | (with_reducible refine at_list ?_; refine bd0 25 rfl rfl bWide0 ?_)
    | (with_reducible refine at_list ?_; refine st8 (n := 0) 25 (.tmp 4) (.tmp 23) (unhide B4) rfl rfl rfl rfl rfl iWide ?_)
    | (with_reducible refine at_list ?_; refine st8 (n := 0) 25 (.tmp 5) (.tmp 24) ((unhide B5).rowOther _ (by omega)) rfl rfl rfl rfl rfl iWide ?_))
  exact res88s (((unhide B4).row _).rowOther _ (by omega)) (((unhide B5).rowOther _ (by omega)).row _) rfl rfl rfl rfl rfl Try.underlying25 rfl iWide ⟨rfl, below_row (below_row (unhide DO) (by omega) _) (by omega) _⟩

theorem refDivZ (x y : Int) (hx : Fit x) (hy : Fit y) (w : World) :
    Calls Try.prog 31 #[V x, V y] w fun e w' => e = .returned (.tuple #[.agg (cells8 (bif dq x y then enc (x.fdiv y) else 0)), .agg (cells8 (bif dq x y then enc (x.fmod y) else 0)), .bool (dq x y)]) ∧ Below w.heap.size w w' := by
  by_cases h0 : y = 0
  · have hd : dq x y = false := by unfold dq; simp [h0]
    rw [hd]
    exact div_none (enc x) (enc y) w (fun u => by
      have h := refSign y hy u
      rw [show sgn y = 0 from (sgn_zero y).2 h0] at h
      exact h)
  · exact refDiv x y hx hy h0 w

set_option maxRecDepth 100000 in
set_option maxHeartbeats 4000000 in
theorem div_law (a b q r : Nat) (E : Bool) (w : World)
    (hF : Hid (∀ u, Calls Try.prog 30 #[W a, W b] u fun e w' => e = .returned (.tuple #[.agg (cells8 q), .agg (cells8 r), .bool E]) ∧ Below u.heap.size u w'))
    (hR : Hid (∀ u, Calls Try.prog 31 #[W a, W b] u fun e w' => e = .returned (.tuple #[.agg (cells8 q), .agg (cells8 r), .bool E]) ∧ Below u.heap.size u w'))
    (hAw : Hid (∀ u, Calls Try.prog 18 #[] u fun e w' => e = .returned (.bool true) ∧ Below u.heap.size u w'))
    (hs : Hid (∀ n, same n n = true)) :
    Calls Try.prog 7 #[W a, W b] w fun e w' => e = .returned (.bool true) ∧ Below w.heap.size w w' := by
  go_enter Try.func7, Try.ntmps7
  go_upto_region 1 with fail
  have D := hide (Env.two w a b)
  go_upto_region 2 with (first
    | (with_reducible refine at_list ?_; apply ldE (unhide D) _ rfl rfl rfl (by repeat (first | exact List.mem_cons_self | apply List.mem_cons_of_mem)))
    | (go_at_call 30; refine (unhide hF _).mono ?_; rintro e w1 ⟨he, hb⟩; subst he; have D := hide ((unhide D).keep hb); clear hb)
    | (with_reducible refine at_list ?_; refine st8o (n := q) 25 (.tmp 5) (.tmp 15) rfl rfl rfl rfl iWide (Blk.first2 w1 25 _ _) rfl ?_)
    | (with_reducible refine at_list ?_; refine st8o (n := r) 25 (.tmp 6) (.tmp 16) rfl rfl rfl rfl iWide ((Blk.second2 w1 25 _ _).rowOther _ (by omega)) rfl ?_))
  have D := hide ((unhide D).pair q r (c1 := #[.int .u64 0, .int .u64 0, .int .u64 0, .int .u64 0, .int .u64 0, .int .u64 0, .int .u64 0, .int .u64 0]) (c2 := #[.int .u64 0, .int .u64 0, .int .u64 0, .int .u64 0, .int .u64 0, .int .u64 0, .int .u64 0, .int .u64 0]) rfl rfl)
  generalize ((((w1.alloc (.cells #[.int .u64 0, .int .u64 0, .int .u64 0, .int .u64 0, .int .u64 0, .int .u64 0, .int .u64 0, .int .u64 0] 25)).alloc (.cells #[.int .u64 0, .int .u64 0, .int .u64 0, .int .u64 0, .int .u64 0, .int .u64 0, .int .u64 0, .int .u64 0] 25)).setRow w1.heap.size (cells8 q)).setRow (w1.heap.size + 1) (cells8 r)) = w2 at D ⊢
  generalize w1.heap.size = g1 at D ⊢
  go_upto_region 3 with (first
    | (with_reducible refine at_list ?_; apply ldE (unhide D) _ rfl rfl rfl (by repeat (first | exact List.mem_cons_self | apply List.mem_cons_of_mem)))
    | (go_at_call 31; refine (unhide hR _).mono ?_; rintro e w3 ⟨he, hb⟩; subst he; have D := hide ((unhide D).keep hb); clear hb)
    | (with_reducible refine at_list ?_; refine st8o (n := q) 25 (.tmp 8) (.tmp 22) rfl rfl rfl rfl iWide (Blk.first2 w3 25 _ _) rfl ?_)
    | (with_reducible refine at_list ?_; refine st8o (n := r) 25 (.tmp 9) (.tmp 23) rfl rfl rfl rfl iWide ((Blk.second2 w3 25 _ _).rowOther _ (by omega)) rfl ?_))
  have D := hide ((unhide D).pair q r (c1 := #[.int .u64 0, .int .u64 0, .int .u64 0, .int .u64 0, .int .u64 0, .int .u64 0, .int .u64 0, .int .u64 0]) (c2 := #[.int .u64 0, .int .u64 0, .int .u64 0, .int .u64 0, .int .u64 0, .int .u64 0, .int .u64 0, .int .u64 0]) rfl rfl)
  generalize ((((w3.alloc (.cells #[.int .u64 0, .int .u64 0, .int .u64 0, .int .u64 0, .int .u64 0, .int .u64 0, .int .u64 0, .int .u64 0] 25)).alloc (.cells #[.int .u64 0, .int .u64 0, .int .u64 0, .int .u64 0, .int .u64 0, .int .u64 0, .int .u64 0, .int .u64 0] 25)).setRow w3.heap.size (cells8 q)).setRow (w3.heap.size + 1) (cells8 r)) = w4 at D ⊢
  generalize w3.heap.size = g3 at D ⊢
  go_wp2_with (first
    | (with_reducible refine at_list ?_; apply ldE (unhide D) _ rfl rfl rfl (by repeat (first | exact List.mem_cons_self | apply List.mem_cons_of_mem)))
    | (with_reducible refine at_list ?_; apply ldEw (unhide D) _ rfl rfl rfl (by repeat (first | exact List.mem_cons_self | apply List.mem_cons_of_mem)))
    | (with_reducible refine at_list ?_; refine eqlE (unhide hs _) _ _ rfl rfl rfl rfl ?_)
    | (with_reducible refine at_list ?_; refine eqlEw (unhide hs _) _ _ rfl rfl rfl rfl ?_)
    | (go_at_call 18; refine (unhide hAw _).mono ?_; rintro e w' ⟨he, hb⟩; subst he; have D := hide ((unhide D).keep hb); clear hb))
  go_ret
  exact ⟨rfl, (unhide D).o⟩

theorem wideDiv_walk (a b : Nat) (w : World) :
    Calls Try.prog 7 #[W a, W b] w fun e w' => e = .returned (.bool true) ∧ Below w.heap.size w w' := by
  refine div_law a b (dqN a b) (drN a b) (dqB a b) w (fun u => DivN a b u) (fun u => ?_) (fun u => awakeZ u) (fun n => same_self n)
  rw [W_sv a, W_sv b]
  exact refDivZ (sv a) (sv b) (sv_fit a) (sv_fit b) u

theorem wideDiv_own : ownKnob Try.prog.godebug = none := by kernel_rfl

set_option maxRecDepth 100000 in
theorem wideDiv_lifted (os : Os) (started : os.Started) (H : Type) (enc : TypeId × Value → H) :
    ReturnsInHanded {} Try.checked os 7 .any (Rows.wideDivSpec.pre6 enc Try.prog Try.f7 Rows.wideDivRow.domain false) (Rows.wideDivSpec.post enc Try.prog Try.f7 false true false false) := by
  refine returnsInHanded_of_change (C := Try.checked) wideDiv_own started (by kernel_rfl) Try.func7
    (ChangeSpec.witness6 (enc := enc) (C := Try.checked) false ⟨#[], #[.agg #[.int .u64 0, .int .u64 0, .int .u64 0, .int .u64 0, .int .u64 0, .int .u64 0, .int .u64 0, .int .u64 0], .agg #[.int .u64 0, .int .u64 0, .int .u64 0, .int .u64 0, .int .u64 0, .int .u64 0, .int .u64 0, .int .u64 0]], []⟩ 8 (by kernel_rfl) (by kernel_rfl) (by kernel_rfl) (by kernel_rfl)) ?_
  intro W base args ds gs before hval0 hW hcnd _
  have hval : ∀ (j : Nat) t v, Try.f7.params[j]? = some t → args[j]? = some v → Value.okWide Try.prog W .any base t v := hval0
  have hW' := hW
  obtain ⟨p, q, hA0, hV, rfl, hfz, hnd⟩ := hW
  have hA : DataW.TrodAll enc Try.prog W 0 (fun _ => true) true Try.f7.params.toList args.toList ds p := hA0
  rw [Try.params7] at hA hval
  obtain ⟨v0, vs0, d0, ds0, p0, q0, hargs, rfl, rfl, h0, r0⟩ := trodAll_cons hA
  obtain ⟨v1, vs1, d1, ds1, p1, q1, rfl, rfl, rfl, h1, r1⟩ := trodAll_cons r0
  obtain ⟨rfl, rfl, rfl⟩ := trodAll_nil r1
  obtain rfl : args = #[v0, v1] := by cases args; simp_all
  obtain ⟨rfl, rfl⟩ := trodVars_none hV
  obtain ⟨a0, rfl, rfl, rfl⟩ := open_wide (hval 0 25 v0 rfl rfl) h0
  obtain ⟨a1, rfl, rfl, rfl⟩ := open_wide (hval 1 25 v1 rfl rfl) h1
  clear hA0 hval0
  refine (wideDiv_walk a0 a1 W).mono fun e W' ⟨he, bel⟩ => ?_
  subst he
  exact ⟨_, rfl, _, _, _, [], [], [], hW', trodAll_mk1 (shut_bool Try.underlying4 _), (trodAll_cons_mk (shut_wide a0) (trodAll_cons_mk (shut_wide a1) trodAll_mk0)), rfl, bel.frame _, fun h => by cases h⟩

theorem wideDiv_over : Rows.wideDivRow.holds Try.pinned (OpenSpec.ofChange Rows.wideDivSpec) :=
  OpenClaim.holds_of_wide 7 Try.f7 rfl rfl rfl rfl rfl rfl rfl ⟨rfl, rfl, rfl, rfl, rfl⟩ rfl rfl rfl rfl rfl (by kernel_rfl) Try.func7 (by kernel_rfl)
    (of_decide_eq_true (by kernel_rfl)) (by unfold Func.isWrapper; rw [if_neg (of_decide_eq_false (by kernel_rfl))]; exact ⟨rfl, rfl⟩)
    (fun os started H enc _ => wideDiv_lifted os started H enc)

/-- The statement. -/
theorem wideDiv_holds : Rows.WideDivSaid := wideDiv_over

end Go.Proofs.Ytfoojpfgeicolaa
