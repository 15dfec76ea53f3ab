/- For all points a, b, c and d (three int64 numbers each) the law GridLinear returns true, and its arguments read behind the call as they did before. No condition. -/
import Derived.Test.YtmnaffhlilnlhaaAo
import Derived.Test.YtmnaffhlilnlhaaAl
namespace Go.Proofs.Ytmnaffhlilnlhaa
open Go.ChangeShapes Go.WideShapes Go.ChangeAt Go.RowKit
set_option maxRecDepth 4000
set_option linter.unusedVariables false

theorem gridLinear_own : ownKnob Try.prog.godebug = none := by kernel_rfl

set_option maxRecDepth 100000 in
theorem gridLinear_lifted (os : Os) (started : os.Started) (H : Type) (enc : TypeId × Value → H) :
    ReturnsInHanded {} Try.checked os 12 .any (Rows.gridLinearSpec.pre6 enc Try.prog Try.f12 Rows.gridLinearRow.domain false) (Rows.gridLinearSpec.post enc Try.prog Try.f12 false true false false) := by
  refine returnsInHanded_of_change (C := Try.checked) gridLinear_own started (by kernel_rfl) Try.func12
    (ChangeSpec.witness6 (enc := enc) (C := Try.checked) false ⟨#[], #[.agg #[.int .i64 0, .int .i64 0, .int .i64 0], .agg #[.int .i64 0, .int .i64 0, .int .i64 0], .agg #[.int .i64 0, .int .i64 0, .int .i64 0], .agg #[.int .i64 0, .int .i64 0, .int .i64 0]], []⟩ 8 (by kernel_rfl) (by kernel_rfl) (by kernel_rfl) (by kernel_rfl)) ?_
  intro W base args ds gs before hval0 hW hcnd _
  have hval : ∀ (j : Nat) t v, Try.f12.params[j]? = some t → args[j]? = some v → Value.okWide Try.prog W .any base t v := hval0
  have hW' := hW
  obtain ⟨p, q, hA0, hV, rfl, hfz, hnd⟩ := hW
  have hA : DataW.TrodAll enc Try.prog W 0 (fun _ => true) true Try.f12.params.toList args.toList ds p := hA0
  rw [Try.params12] at hA hval
  obtain ⟨v0, vs0, d0, ds0, p0, q0, hargs, rfl, rfl, h0, r0⟩ := trodAll_cons hA
  obtain ⟨v1, vs1, d1, ds1, p1, q1, rfl, rfl, rfl, h1, r1⟩ := trodAll_cons r0
  obtain ⟨v2, vs2, d2, ds2, p2, q2, rfl, rfl, rfl, h2, r2⟩ := trodAll_cons r1
  obtain ⟨v3, vs3, d3, ds3, p3, q3, rfl, rfl, rfl, h3, r3⟩ := trodAll_cons r2
  obtain ⟨rfl, rfl, rfl⟩ := trodAll_nil r3
  obtain rfl : args = #[v0, v1, v2, v3] := by cases args; simp_all
  obtain ⟨rfl, rfl⟩ := trodVars_none hV
  obtain ⟨x0, y0, z0, rfl, rfl, rfl, k0, l0, m0⟩ := open_pt (hval 0 26 v0 rfl rfl) h0
  obtain ⟨x1, y1, z1, rfl, rfl, rfl, k1, l1, m1⟩ := open_pt (hval 1 26 v1 rfl rfl) h1
  obtain ⟨x2, y2, z2, rfl, rfl, rfl, k2, l2, m2⟩ := open_pt (hval 2 26 v2 rfl rfl) h2
  obtain ⟨x3, y3, z3, rfl, rfl, rfl, k3, l3, m3⟩ := open_pt (hval 3 26 v3 rfl rfl) h3
  clear hA0 hval0
  refine (gridLinear_walk x0 y0 z0 x1 y1 z1 x2 y2 z2 x3 y3 z3 k0 l0 m0 k1 l1 m1 k2 l2 m2 k3 l3 m3 W).mono fun e W' ⟨he, bel⟩ => ?_
  subst he
  exact ⟨_, rfl, _, _, _, [], [], [], hW', trodAll_mk1 (shut_bool Try.underlying4 _), (trodAll_cons_mk (shut_pt k0 l0 m0) (trodAll_cons_mk (shut_pt k1 l1 m1) (trodAll_cons_mk (shut_pt k2 l2 m2) (trodAll_cons_mk (shut_pt k3 l3 m3) trodAll_mk0)))), rfl, bel.frame _, fun h => by cases h⟩

theorem gridLinear_over : Rows.gridLinearRow.holds Try.pinned (OpenSpec.ofChange Rows.gridLinearSpec) :=
  OpenClaim.holds_of_wide 12 Try.f12 rfl rfl rfl rfl rfl rfl rfl ⟨rfl, rfl, rfl, rfl, rfl⟩ rfl rfl rfl rfl rfl (by kernel_rfl) Try.func12 (by kernel_rfl)
    (of_decide_eq_true (by kernel_rfl)) (by unfold Func.isWrapper; rw [if_neg (of_decide_eq_false (by kernel_rfl))]; exact ⟨rfl, rfl⟩)
    (fun os started H enc _ => gridLinear_lifted os started H enc)

/-- The statement. -/
theorem gridLinear_holds : Rows.GridLinearSaid := gridLinear_over

end Go.Proofs.Ytmnaffhlilnlhaa
