/- For all points a and b (three int64 numbers each) the law GridLess returns true, and its arguments read behind the call as they did before. No condition. -/
import Derived.Test.YtbgafjdgahikcaaGl
import Derived.Test.YtbgafjdgahikcaaGx
namespace Go.Proofs.Ytbgafjdgahikcaa
open Go.ChangeShapes Go.WideShapes Go.ChangeAt Go.RowKit
set_option maxRecDepth 4000
set_option linter.unusedVariables false

theorem gridLess_own : ownKnob Try.prog.godebug = none := by kernel_rfl

set_option maxRecDepth 100000 in
theorem gridLess_lifted (os : Os) (started : os.Started) (H : Type) (enc : TypeId × Value → H) :
    ReturnsInHanded {} Try.checked os 4 .any (Rows.gridLessSpec.pre6 enc Try.prog Try.f4 Rows.gridLessRow.domain false) (Rows.gridLessSpec.post enc Try.prog Try.f4 false true false false) := by
  refine returnsInHanded_of_change (C := Try.checked) gridLess_own started (by kernel_rfl) Try.func4
    (ChangeSpec.witness6 (enc := enc) (C := Try.checked) false ⟨#[], #[.agg #[.int .i64 0, .int .i64 0, .int .i64 0], .agg #[.int .i64 0, .int .i64 0, .int .i64 0]], []⟩ 8 (by kernel_rfl) (by kernel_rfl) (by kernel_rfl) (by kernel_rfl)) ?_
  intro W base args ds gs before hval0 hW hcnd _
  have hval : ∀ (j : Nat) t v, Try.f4.params[j]? = some t → args[j]? = some v → Value.okWide Try.prog W .any base t v := hval0
  have hW' := hW
  obtain ⟨p, q, hA0, hV, rfl, hfz, hnd⟩ := hW
  have hA : DataW.TrodAll enc Try.prog W 0 (fun _ => true) true Try.f4.params.toList args.toList ds p := hA0
  rw [Try.params4] at hA hval
  obtain ⟨v0, vs0, d0, ds0, p0, q0, hargs, rfl, rfl, h0, r0⟩ := trodAll_cons hA
  obtain ⟨v1, vs1, d1, ds1, p1, q1, rfl, rfl, rfl, h1, r1⟩ := trodAll_cons r0
  obtain ⟨rfl, rfl, rfl⟩ := trodAll_nil r1
  obtain rfl : args = #[v0, v1] := by cases args; simp_all
  obtain ⟨rfl, rfl⟩ := trodVars_none hV
  obtain ⟨x0, y0, z0, rfl, rfl, rfl, k0, l0, m0⟩ := open_pt (hval 0 26 v0 rfl rfl) h0
  obtain ⟨x1, y1, z1, rfl, rfl, rfl, k1, l1, m1⟩ := open_pt (hval 1 26 v1 rfl rfl) h1
  clear hA0 hval0
  refine (gridLess_walk x0 y0 z0 x1 y1 z1 k0 l0 m0 k1 l1 m1 W).mono fun e W' ⟨he, bel⟩ => ?_
  subst he
  exact ⟨_, rfl, _, _, _, [], [], [], hW', trodAll_mk1 (shut_bool Try.underlying4 _), (trodAll_cons_mk (shut_pt k0 l0 m0) (trodAll_cons_mk (shut_pt k1 l1 m1) trodAll_mk0)), rfl, bel.frame _, fun h => by cases h⟩

theorem gridLess_named : Try.pinned.checked.prog.funcNamed Rows.gridLessRow.func = some 4 := by kernel_rfl
theorem gridLess_k1 : (Rows.gridLessRow.wf (OpenSpec.ofChange Rows.gridLessSpec) && laidOutB Try.pinned.checked.prog && mapsRowed Try.pinned.checked.prog && Try.f4.params.all (Try.pinned.checked.prog.readableRec ·) && namedTie Try.pinned.checked.prog Rows.gridLessRow.named Rows.gridLessSpec.vars) = true := by kernel_rfl
theorem gridLess_k2 : ((Rows.gridLessRow.stops == []) && (Try.pinned.checked.prog.stops == []) && (Rows.gridLessRow.knobs == []) && (Try.pinned.checked.prog.stopKnobs == [])) = true := by kernel_rfl
theorem gridLess_k3 : (Rows.gridLessRow.inPlace == Try.pinned.checked.prog.inPlace 4) = true := by kernel_rfl
theorem gridLess_k4 : (Rows.gridLessRow.unfollowed == Try.pinned.checked.prog.unfollowed 4) = true := by kernel_rfl
theorem gridLess_k5 : (Rows.gridLessRow.recurses == Try.pinned.checked.prog.recurses 4) = true := by kernel_rfl
theorem gridLess_k6 : (Rows.gridLessRow.named == Try.pinned.checked.prog.varsNamed 4) = true := by kernel_rfl
theorem gridLess_k7 : ((Rows.gridLessRow.maps == (Try.f4.params.toList ++ Rows.gridLessSpec.plain.varTypes Try.pinned.checked.prog).any (Try.pinned.checked.prog.mapsRec ·)) && (Rows.gridLessRow.ifaces == (Try.f4.params.toList ++ Rows.gridLessSpec.plain.varTypes Try.pinned.checked.prog).any (Try.pinned.checked.prog.ifacesRec ·)) && (Rows.gridLessRow.mapsOut == Try.pinned.checked.prog.mapsAmong Try.f4.resultTypes.toList) &&
  (Rows.gridLessRow.loops == (Try.f4.params.toList ++ Rows.gridLessSpec.plain.varTypes Try.pinned.checked.prog).any (Try.pinned.checked.prog.loopsFrom ·)) && (Rows.gridLessRow.wideKeys == (Try.f4.params.toList ++ Rows.gridLessSpec.plain.varTypes Try.pinned.checked.prog ++ Try.f4.resultTypes.toList).any (Try.pinned.checked.prog.wideKeysFrom ·)) &&
  Rows.gridLessSpec.vars.all (Try.pinned.checked.prog.varReadable ·) && Try.f4.resultTypes.all (fun t => Try.pinned.checked.prog.readableRec t && decide (t < Try.pinned.checked.prog.types.size)) && (Rows.gridLessRow.ifacesOut == Try.f4.resultTypes.toList.any (Try.pinned.checked.prog.ifacesRec ·)) && (Rows.gridLessRow.loopsOut == Try.f4.resultTypes.toList.any (Try.pinned.checked.prog.loopsFrom ·)) && (Rows.gridLessRow.plainKeys == Try.pinned.checked.prog.plainKeys) && Rows.gridLessRow.shortTexts.isNone) = true := by kernel_rfl
theorem gridLess_k8 : (Rows.gridLessRow.lifted == Rows.gridProductsRow.lifted) = true := by kernel_rfl
theorem gridLess_k9 : ((Try.pinned.checked.prog.make == some Rows.gridLessRow.make) && (Rows.gridLessRow.kinds == (if Rows.gridLessRow.domain.isEmpty then [] else Try.f4.params.toList.map fun t => match Try.pinned.checked.prog.underlying t with | some (.int k) => some k | _ => none)) && (Rows.gridLessRow.pinned == Rows.gridLessRow.pinnedBy) &&
  (Rows.gridLessRow.veiled == (Try.f4.params.toList ++ Rows.gridLessSpec.plain.varTypes Try.pinned.checked.prog ++ Try.f4.resultTypes.toList).any (Try.pinned.checked.prog.veiledRec ·)) && Rows.gridLessRow.veiledFits Try.pinned.checked.prog Try.f4.params.toList (Try.f4.params.toList ++ Rows.gridLessSpec.plain.varTypes Try.pinned.checked.prog ++ Try.f4.resultTypes.toList)) = true := by kernel_rfl
theorem gridLess_closed : joinedFacts Try.pinned.checked.prog 4 Try.f4 Rows.gridLessSpec Rows.gridLessRow = true :=
  joined_split ⟨gridLess_k1, gridLess_k2, gridLess_k3, gridLess_k4, gridLess_k5, gridLess_k6, gridLess_k7, seat_heard, seat_enter, lifts_of gridLess_k8, gridLess_k9⟩
theorem gridLess_over : Rows.gridLessRow.holds Try.pinned (OpenSpec.ofChange Rows.gridLessSpec) :=
  OpenClaim.holds_of_wide 4 Try.f4 rfl rfl rfl rfl rfl rfl rfl ⟨rfl, rfl, rfl, rfl, rfl⟩ rfl rfl rfl rfl rfl gridLess_named Try.func4 gridLess_closed
    (of_decide_eq_true (by kernel_rfl)) (by unfold Func.isWrapper; rw [if_neg (of_decide_eq_false (by kernel_rfl))]; exact ⟨rfl, rfl⟩)
    (fun os started H enc _ => gridLess_lifted os started H enc)

/-- The statement. -/
theorem gridLess_holds : Rows.GridLessSaid := gridLess_over

end Go.Proofs.Ytbgafjdgahikcaa
