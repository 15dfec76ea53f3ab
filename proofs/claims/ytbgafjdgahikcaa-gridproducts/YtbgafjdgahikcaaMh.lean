/- For all points a, b and c (three int64 numbers each) the law GridProducts returns true, and its arguments read behind the call as they did before. No condition. -/
import Derived.Test.YtbgafjdgahikcaaGp
import Derived.Test.YtbgafjdgahikcaaGx
namespace Go.Proofs.Ytbgafjdgahikcaa
open Go.ChangeShapes Go.WideShapes Go.ChangeAt Go.RowKit
set_option maxRecDepth 4000
set_option linter.unusedVariables false

theorem gridProducts_own : ownKnob Try.prog.godebug = none := by kernel_rfl

set_option maxRecDepth 100000 in
theorem gridProducts_lifted (os : Os) (started : os.Started) (H : Type) (enc : TypeId × Value → H) :
    ReturnsInHanded {} Try.checked os 5 .any (Rows.gridProductsSpec.pre6 enc Try.prog Try.f5 Rows.gridProductsRow.domain false) (Rows.gridProductsSpec.post enc Try.prog Try.f5 false true false false) := by
  refine returnsInHanded_of_change (C := Try.checked) gridProducts_own started (by kernel_rfl) Try.func5
    (ChangeSpec.witness6 (enc := enc) (C := Try.checked) false ⟨#[], #[.agg #[.int .i64 0, .int .i64 0, .int .i64 0], .agg #[.int .i64 0, .int .i64 0, .int .i64 0], .agg #[.int .i64 0, .int .i64 0, .int .i64 0]], []⟩ 8 (by kernel_rfl) (by kernel_rfl) (by kernel_rfl) (by kernel_rfl)) ?_
  intro W base args ds gs before hval0 hW hcnd _
  have hval : ∀ (j : Nat) t v, Try.f5.params[j]? = some t → args[j]? = some v → Value.okWide Try.prog W .any base t v := hval0
  have hW' := hW
  obtain ⟨p, q, hA0, hV, rfl, hfz, hnd⟩ := hW
  have hA : DataW.TrodAll enc Try.prog W 0 (fun _ => true) true Try.f5.params.toList args.toList ds p := hA0
  rw [Try.params5] at hA hval
  obtain ⟨v0, vs0, d0, ds0, p0, q0, hargs, rfl, rfl, h0, r0⟩ := trodAll_cons hA
  obtain ⟨v1, vs1, d1, ds1, p1, q1, rfl, rfl, rfl, h1, r1⟩ := trodAll_cons r0
  obtain ⟨v2, vs2, d2, ds2, p2, q2, rfl, rfl, rfl, h2, r2⟩ := trodAll_cons r1
  obtain ⟨rfl, rfl, rfl⟩ := trodAll_nil r2
  obtain rfl : args = #[v0, v1, v2] := by cases args; simp_all
  obtain ⟨rfl, rfl⟩ := trodVars_none hV
  obtain ⟨x0, y0, z0, rfl, rfl, rfl, k0, l0, m0⟩ := open_pt (hval 0 26 v0 rfl rfl) h0
  obtain ⟨x1, y1, z1, rfl, rfl, rfl, k1, l1, m1⟩ := open_pt (hval 1 26 v1 rfl rfl) h1
  obtain ⟨x2, y2, z2, rfl, rfl, rfl, k2, l2, m2⟩ := open_pt (hval 2 26 v2 rfl rfl) h2
  clear hA0 hval0
  refine (gridProducts_walk x0 y0 z0 x1 y1 z1 x2 y2 z2 k0 l0 m0 k1 l1 m1 k2 l2 m2 W).mono fun e W' ⟨he, bel⟩ => ?_
  subst he
  exact ⟨_, rfl, _, _, _, [], [], [], hW', trodAll_mk1 (shut_bool Try.underlying4 _), (trodAll_cons_mk (shut_pt k0 l0 m0) (trodAll_cons_mk (shut_pt k1 l1 m1) (trodAll_cons_mk (shut_pt k2 l2 m2) trodAll_mk0))), rfl, bel.frame _, fun h => by cases h⟩

theorem gridProducts_named : Try.pinned.checked.prog.funcNamed Rows.gridProductsRow.func = some 5 := by kernel_rfl
theorem gridProducts_k1 : (Rows.gridProductsRow.wf (OpenSpec.ofChange Rows.gridProductsSpec) && laidOutB Try.pinned.checked.prog && mapsRowed Try.pinned.checked.prog && Try.f5.params.all (Try.pinned.checked.prog.readableRec ·) && namedTie Try.pinned.checked.prog Rows.gridProductsRow.named Rows.gridProductsSpec.vars) = true := by kernel_rfl
theorem gridProducts_k2 : ((Rows.gridProductsRow.stops == []) && (Try.pinned.checked.prog.stops == []) && (Rows.gridProductsRow.knobs == []) && (Try.pinned.checked.prog.stopKnobs == [])) = true := by kernel_rfl
theorem gridProducts_k3 : (Rows.gridProductsRow.inPlace == Try.pinned.checked.prog.inPlace 5) = true := by kernel_rfl
theorem gridProducts_k4 : (Rows.gridProductsRow.unfollowed == Try.pinned.checked.prog.unfollowed 5) = true := by kernel_rfl
theorem gridProducts_k5 : (Rows.gridProductsRow.recurses == Try.pinned.checked.prog.recurses 5) = true := by kernel_rfl
theorem gridProducts_k6 : (Rows.gridProductsRow.named == Try.pinned.checked.prog.varsNamed 5) = true := by kernel_rfl
theorem gridProducts_k7 : ((Rows.gridProductsRow.maps == (Try.f5.params.toList ++ Rows.gridProductsSpec.plain.varTypes Try.pinned.checked.prog).any (Try.pinned.checked.prog.mapsRec ·)) && (Rows.gridProductsRow.ifaces == (Try.f5.params.toList ++ Rows.gridProductsSpec.plain.varTypes Try.pinned.checked.prog).any (Try.pinned.checked.prog.ifacesRec ·)) && (Rows.gridProductsRow.mapsOut == Try.pinned.checked.prog.mapsAmong Try.f5.resultTypes.toList) &&
  (Rows.gridProductsRow.loops == (Try.f5.params.toList ++ Rows.gridProductsSpec.plain.varTypes Try.pinned.checked.prog).any (Try.pinned.checked.prog.loopsFrom ·)) && (Rows.gridProductsRow.wideKeys == (Try.f5.params.toList ++ Rows.gridProductsSpec.plain.varTypes Try.pinned.checked.prog ++ Try.f5.resultTypes.toList).any (Try.pinned.checked.prog.wideKeysFrom ·)) &&
  Rows.gridProductsSpec.vars.all (Try.pinned.checked.prog.varReadable ·) && Try.f5.resultTypes.all (fun t => Try.pinned.checked.prog.readableRec t && decide (t < Try.pinned.checked.prog.types.size)) && (Rows.gridProductsRow.ifacesOut == Try.f5.resultTypes.toList.any (Try.pinned.checked.prog.ifacesRec ·)) && (Rows.gridProductsRow.loopsOut == Try.f5.resultTypes.toList.any (Try.pinned.checked.prog.loopsFrom ·)) && (Rows.gridProductsRow.plainKeys == Try.pinned.checked.prog.plainKeys) && Rows.gridProductsRow.shortTexts.isNone) = true := by kernel_rfl
theorem gridProducts_k8 : (Rows.gridProductsRow.lifted == Rows.gridProductsRow.lifted) = true := by kernel_rfl
theorem gridProducts_k9 : ((Try.pinned.checked.prog.make == some Rows.gridProductsRow.make) && (Rows.gridProductsRow.kinds == (if Rows.gridProductsRow.domain.isEmpty then [] else Try.f5.params.toList.map fun t => match Try.pinned.checked.prog.underlying t with | some (.int k) => some k | _ => none)) && (Rows.gridProductsRow.pinned == Rows.gridProductsRow.pinnedBy) &&
  (Rows.gridProductsRow.veiled == (Try.f5.params.toList ++ Rows.gridProductsSpec.plain.varTypes Try.pinned.checked.prog ++ Try.f5.resultTypes.toList).any (Try.pinned.checked.prog.veiledRec ·)) && Rows.gridProductsRow.veiledFits Try.pinned.checked.prog Try.f5.params.toList (Try.f5.params.toList ++ Rows.gridProductsSpec.plain.varTypes Try.pinned.checked.prog ++ Try.f5.resultTypes.toList)) = true := by kernel_rfl
theorem gridProducts_closed : joinedFacts Try.pinned.checked.prog 5 Try.f5 Rows.gridProductsSpec Rows.gridProductsRow = true :=
  joined_split ⟨gridProducts_k1, gridProducts_k2, gridProducts_k3, gridProducts_k4, gridProducts_k5, gridProducts_k6, gridProducts_k7, seat_heard, seat_enter, lifts_of gridProducts_k8, gridProducts_k9⟩
theorem gridProducts_over : Rows.gridProductsRow.holds Try.pinned (OpenSpec.ofChange Rows.gridProductsSpec) :=
  OpenClaim.holds_of_wide 5 Try.f5 rfl rfl rfl rfl rfl rfl rfl ⟨rfl, rfl, rfl, rfl, rfl⟩ rfl rfl rfl rfl rfl gridProducts_named Try.func5 gridProducts_closed
    (of_decide_eq_true (by kernel_rfl)) (by unfold Func.isWrapper; rw [if_neg (of_decide_eq_false (by kernel_rfl))]; exact ⟨rfl, rfl⟩)
    (fun os started H enc _ => gridProducts_lifted os started H enc)

/-- The statement. -/
theorem gridProducts_holds : Rows.GridProductsSaid := gridProducts_over

end Go.Proofs.Ytbgafjdgahikcaa
