/- For every span n (three numbers of 512 bits) the law GridSame returns true, and its argument reads behind the call as it did before. No condition. -/
import Derived.Test.YtbgafjdgahikcaaGv
import Derived.Test.YtbgafjdgahikcaaGx
namespace Go.Proofs.Ytbgafjdgahikcaa
open Go.ChangeShapes Go.WideShapes Go.ChangeAt Go.RowKit
set_option maxRecDepth 4000
set_option linter.unusedVariables false

theorem gridSame_own : ownKnob Try.prog.godebug = none := by kernel_rfl

set_option maxRecDepth 100000 in
theorem gridSame_lifted (os : Os) (started : os.Started) (H : Type) (enc : TypeId × Value → H) :
    ReturnsInHanded {} Try.checked os 11 .any (Rows.gridSameSpec.pre6 enc Try.prog Try.f11 Rows.gridSameRow.domain false) (Rows.gridSameSpec.post enc Try.prog Try.f11 false true false false) := by
  refine returnsInHanded_of_change (C := Try.checked) gridSame_own started (by kernel_rfl) Try.func11
    (ChangeSpec.witness6 (enc := enc) (C := Try.checked) false ⟨#[], #[.agg #[.int .u64 0, .int .u64 0, .int .u64 0, .int .u64 0, .int .u64 0, .int .u64 0, .int .u64 0, .int .u64 0, .int .u64 0, .int .u64 0, .int .u64 0, .int .u64 0, .int .u64 0, .int .u64 0, .int .u64 0, .int .u64 0, .int .u64 0, .int .u64 0, .int .u64 0, .int .u64 0, .int .u64 0, .int .u64 0, .int .u64 0, .int .u64 0]], []⟩ 8 (by kernel_rfl) (by kernel_rfl) (by kernel_rfl) (by kernel_rfl)) ?_
  intro W base args ds gs before hval0 hW hcnd _
  have hval : ∀ (j : Nat) t v, Try.f11.params[j]? = some t → args[j]? = some v → Value.okWide Try.prog W .any base t v := hval0
  have hW' := hW
  obtain ⟨p, q, hA0, hV, rfl, hfz, hnd⟩ := hW
  have hA : DataW.TrodAll enc Try.prog W 0 (fun _ => true) true Try.f11.params.toList args.toList ds p := hA0
  rw [Try.params11] at hA hval
  obtain ⟨v0, vs0, d0, ds0, p0, q0, hargs, rfl, rfl, h0, r0⟩ := trodAll_cons hA
  obtain ⟨rfl, rfl, rfl⟩ := trodAll_nil r0
  obtain rfl : args = #[v0] := by cases args; simp_all
  obtain ⟨rfl, rfl⟩ := trodVars_none hV
  obtain ⟨x0, y0, z0, rfl, rfl, rfl⟩ := open_span (hval 0 43 v0 rfl rfl) h0
  clear hA0 hval0
  refine (gridSame_walk x0 y0 z0 W).mono fun e W' ⟨he, bel⟩ => ?_
  subst he
  exact ⟨_, rfl, _, _, _, [], [], [], hW', trodAll_mk1 (shut_bool Try.underlying4 _), (trodAll_cons_mk (shut_span x0 y0 z0) trodAll_mk0), rfl, bel.frame _, fun h => by cases h⟩

theorem gridSame_named : Try.pinned.checked.prog.funcNamed Rows.gridSameRow.func = some 11 := by kernel_rfl
theorem gridSame_k1 : (Rows.gridSameRow.wf (OpenSpec.ofChange Rows.gridSameSpec) && laidOutB Try.pinned.checked.prog && mapsRowed Try.pinned.checked.prog && Try.f11.params.all (Try.pinned.checked.prog.readableRec ·) && namedTie Try.pinned.checked.prog Rows.gridSameRow.named Rows.gridSameSpec.vars) = true := by kernel_rfl
theorem gridSame_k2 : ((Rows.gridSameRow.stops == []) && (Try.pinned.checked.prog.stops == []) && (Rows.gridSameRow.knobs == []) && (Try.pinned.checked.prog.stopKnobs == [])) = true := by kernel_rfl
theorem gridSame_k3 : (Rows.gridSameRow.inPlace == Try.pinned.checked.prog.inPlace 11) = true := by kernel_rfl
theorem gridSame_k4 : (Rows.gridSameRow.unfollowed == Try.pinned.checked.prog.unfollowed 11) = true := by kernel_rfl
theorem gridSame_k5 : (Rows.gridSameRow.recurses == Try.pinned.checked.prog.recurses 11) = true := by kernel_rfl
theorem gridSame_k6 : (Rows.gridSameRow.named == Try.pinned.checked.prog.varsNamed 11) = true := by kernel_rfl
theorem gridSame_k7 : ((Rows.gridSameRow.maps == (Try.f11.params.toList ++ Rows.gridSameSpec.plain.varTypes Try.pinned.checked.prog).any (Try.pinned.checked.prog.mapsRec ·)) && (Rows.gridSameRow.ifaces == (Try.f11.params.toList ++ Rows.gridSameSpec.plain.varTypes Try.pinned.checked.prog).any (Try.pinned.checked.prog.ifacesRec ·)) && (Rows.gridSameRow.mapsOut == Try.pinned.checked.prog.mapsAmong Try.f11.resultTypes.toList) &&
  (Rows.gridSameRow.loops == (Try.f11.params.toList ++ Rows.gridSameSpec.plain.varTypes Try.pinned.checked.prog).any (Try.pinned.checked.prog.loopsFrom ·)) && (Rows.gridSameRow.wideKeys == (Try.f11.params.toList ++ Rows.gridSameSpec.plain.varTypes Try.pinned.checked.prog ++ Try.f11.resultTypes.toList).any (Try.pinned.checked.prog.wideKeysFrom ·)) &&
  Rows.gridSameSpec.vars.all (Try.pinned.checked.prog.varReadable ·) && Try.f11.resultTypes.all (fun t => Try.pinned.checked.prog.readableRec t && decide (t < Try.pinned.checked.prog.types.size)) && (Rows.gridSameRow.ifacesOut == Try.f11.resultTypes.toList.any (Try.pinned.checked.prog.ifacesRec ·)) && (Rows.gridSameRow.loopsOut == Try.f11.resultTypes.toList.any (Try.pinned.checked.prog.loopsFrom ·)) && (Rows.gridSameRow.plainKeys == Try.pinned.checked.prog.plainKeys) && Rows.gridSameRow.shortTexts.isNone) = true := by kernel_rfl
theorem gridSame_k8 : (Rows.gridSameRow.lifted == Rows.gridProductsRow.lifted) = true := by kernel_rfl
theorem gridSame_k9 : ((Try.pinned.checked.prog.make == some Rows.gridSameRow.make) && (Rows.gridSameRow.kinds == (if Rows.gridSameRow.domain.isEmpty then [] else Try.f11.params.toList.map fun t => match Try.pinned.checked.prog.underlying t with | some (.int k) => some k | _ => none)) && (Rows.gridSameRow.pinned == Rows.gridSameRow.pinnedBy) &&
  (Rows.gridSameRow.veiled == (Try.f11.params.toList ++ Rows.gridSameSpec.plain.varTypes Try.pinned.checked.prog ++ Try.f11.resultTypes.toList).any (Try.pinned.checked.prog.veiledRec ·)) && Rows.gridSameRow.veiledFits Try.pinned.checked.prog Try.f11.params.toList (Try.f11.params.toList ++ Rows.gridSameSpec.plain.varTypes Try.pinned.checked.prog ++ Try.f11.resultTypes.toList)) = true := by kernel_rfl
theorem gridSame_closed : joinedFacts Try.pinned.checked.prog 11 Try.f11 Rows.gridSameSpec Rows.gridSameRow = true :=
  joined_split ⟨gridSame_k1, gridSame_k2, gridSame_k3, gridSame_k4, gridSame_k5, gridSame_k6, gridSame_k7, seat_heard, seat_enter, lifts_of gridSame_k8, gridSame_k9⟩
theorem gridSame_over : Rows.gridSameRow.holds Try.pinned (OpenSpec.ofChange Rows.gridSameSpec) :=
  OpenClaim.holds_of_wide 11 Try.f11 rfl rfl rfl rfl rfl rfl rfl ⟨rfl, rfl, rfl, rfl, rfl⟩ rfl rfl rfl rfl rfl gridSame_named Try.func11 gridSame_closed
    (of_decide_eq_true (by kernel_rfl)) (by unfold Func.isWrapper; rw [if_neg (of_decide_eq_false (by kernel_rfl))]; exact ⟨rfl, rfl⟩)
    (fun os started H enc _ => gridSame_lifted os started H enc)

/-- The statement. -/
theorem gridSame_holds : Rows.GridSameSaid := gridSame_over

end Go.Proofs.Ytbgafjdgahikcaa
