/- For each slice of points the law OrientSpread returns true, and its argument reads behind the call as it did before. No condition. -/
import Derived.Test.YtnknejdmoghmiaaHy
import Derived.Test.YtnknejdmoghmiaaHw
namespace Go.Proofs.Ytnknejdmoghmiaa
open Go.ChangeShapes Go.WideShapes Go.ChangeAt Go.RowKit
set_option maxRecDepth 4000
set_option linter.unusedVariables false

theorem orientSpread_own : ownKnob Try.prog.godebug = none := by kernel_rfl

set_option maxRecDepth 100000 in
theorem orientSpread_lifted (os : Os) (started : os.Started) (H : Type) (enc : TypeId × Value → H) :
    ReturnsInHanded {} Try.checked os 19 .any (Rows.orientSpreadSpec.pre6 enc Try.prog Try.f19 Rows.orientSpreadRow.domain false) (Rows.orientSpreadSpec.post enc Try.prog Try.f19 false true false false) := by
  refine returnsInHanded_of_change (C := Try.checked) orientSpread_own started (by kernel_rfl) Try.func19
    (ChangeSpec.witness6 (enc := enc) (C := Try.checked) false ⟨#[], #[.slice none 0 0], []⟩ 8 (by kernel_rfl) (by kernel_rfl) (by kernel_rfl) (by kernel_rfl)) ?_
  intro W base args ds gs before hval0 hW hcnd _
  have hval : ∀ (j : Nat) t v, Try.f19.params[j]? = some t → args[j]? = some v → Value.okWide Try.prog W .any base t v := hval0
  have hW' := hW
  obtain ⟨p, q, hA0, hV, rfl, hfz, hnd⟩ := hW
  have hA : DataW.TrodAll enc Try.prog W 0 (fun _ => true) true Try.f19.params.toList args.toList ds p := hA0
  rw [Try.params19] at hA hval
  obtain ⟨v0, vs0, d0, ds0, p0, q0, hargs, rfl, rfl, h0, r0⟩ := trodAll_cons hA
  obtain ⟨rfl, rfl, rfl⟩ := trodAll_nil r0
  obtain rfl : args = #[v0] := by cases args; simp_all
  obtain ⟨rfl, rfl⟩ := trodVars_none hV
  obtain ⟨A0, n0, c0, ps0, rfl, hc0, hn0, hP0, hlt0⟩ := open_pts (hval 0 65 v0 rfl rfl) h0
  clear hA0 hval0
  refine (orientSpread_all A0 n0 c0 ps0 W hn0 hP0).mono fun e W' ⟨he, bel⟩ => ?_
  subst he
  exact ⟨_, rfl, _, _, _, [], _, [], hW', trodAll_mk1 (shut_bool Try.underlying4 _), (trodAll_cons_mk (Below.trod (by kernel_rfl) (by kernel_rfl) (of_decide_eq_true (by kernel_rfl)) h0 bel hlt0) trodAll_mk0), rfl, bel.frame _, fun h => by cases h⟩

theorem orientSpread_named : Try.pinned.checked.prog.funcNamed Rows.orientSpreadRow.func = some 19 := by kernel_rfl
theorem orientSpread_k1 : (Rows.orientSpreadRow.wf (OpenSpec.ofChange Rows.orientSpreadSpec) && laidOutB Try.pinned.checked.prog && mapsRowed Try.pinned.checked.prog && Try.f19.params.all (Try.pinned.checked.prog.readableRec ·) && namedTie Try.pinned.checked.prog Rows.orientSpreadRow.named Rows.orientSpreadSpec.vars) = true := by kernel_rfl
theorem orientSpread_k2 : ((Rows.orientSpreadRow.stops == []) && (Try.pinned.checked.prog.stops == []) && (Rows.orientSpreadRow.knobs == []) && (Try.pinned.checked.prog.stopKnobs == [])) = true := by kernel_rfl
theorem orientSpread_k3 : (Rows.orientSpreadRow.inPlace == Try.pinned.checked.prog.inPlace 19) = true := by kernel_rfl
theorem orientSpread_k4 : (Rows.orientSpreadRow.unfollowed == Try.pinned.checked.prog.unfollowed 19) = true := by kernel_rfl
theorem orientSpread_k5 : (Rows.orientSpreadRow.recurses == Try.pinned.checked.prog.recurses 19) = true := by kernel_rfl
theorem orientSpread_k6 : (Rows.orientSpreadRow.named == Try.pinned.checked.prog.varsNamed 19) = true := by kernel_rfl
theorem orientSpread_k7 : ((Rows.orientSpreadRow.maps == (Try.f19.params.toList ++ Rows.orientSpreadSpec.plain.varTypes Try.pinned.checked.prog).any (Try.pinned.checked.prog.mapsRec ·)) && (Rows.orientSpreadRow.ifaces == (Try.f19.params.toList ++ Rows.orientSpreadSpec.plain.varTypes Try.pinned.checked.prog).any (Try.pinned.checked.prog.ifacesRec ·)) && (Rows.orientSpreadRow.mapsOut == Try.pinned.checked.prog.mapsAmong Try.f19.resultTypes.toList) &&
  (Rows.orientSpreadRow.loops == (Try.f19.params.toList ++ Rows.orientSpreadSpec.plain.varTypes Try.pinned.checked.prog).any (Try.pinned.checked.prog.loopsFrom ·)) && (Rows.orientSpreadRow.wideKeys == (Try.f19.params.toList ++ Rows.orientSpreadSpec.plain.varTypes Try.pinned.checked.prog ++ Try.f19.resultTypes.toList).any (Try.pinned.checked.prog.wideKeysFrom ·)) &&
  Rows.orientSpreadSpec.vars.all (Try.pinned.checked.prog.varReadable ·) && Try.f19.resultTypes.all (fun t => Try.pinned.checked.prog.readableRec t && decide (t < Try.pinned.checked.prog.types.size)) && (Rows.orientSpreadRow.ifacesOut == Try.f19.resultTypes.toList.any (Try.pinned.checked.prog.ifacesRec ·)) && (Rows.orientSpreadRow.loopsOut == Try.f19.resultTypes.toList.any (Try.pinned.checked.prog.loopsFrom ·)) && (Rows.orientSpreadRow.plainKeys == Try.pinned.checked.prog.plainKeys) && Rows.orientSpreadRow.shortTexts.isNone) = true := by kernel_rfl
theorem orientSpread_k8 : (Rows.orientSpreadRow.lifted == Rows.gridRoundRow.lifted) = true := by kernel_rfl
theorem orientSpread_k9 : ((Try.pinned.checked.prog.make == some Rows.orientSpreadRow.make) && (Rows.orientSpreadRow.kinds == (if Rows.orientSpreadRow.domain.isEmpty then [] else Try.f19.params.toList.map fun t => match Try.pinned.checked.prog.underlying t with | some (.int k) => some k | _ => none)) && (Rows.orientSpreadRow.pinned == Rows.orientSpreadRow.pinnedBy) &&
  (Rows.orientSpreadRow.veiled == (Try.f19.params.toList ++ Rows.orientSpreadSpec.plain.varTypes Try.pinned.checked.prog ++ Try.f19.resultTypes.toList).any (Try.pinned.checked.prog.veiledRec ·)) && Rows.orientSpreadRow.veiledFits Try.pinned.checked.prog Try.f19.params.toList (Try.f19.params.toList ++ Rows.orientSpreadSpec.plain.varTypes Try.pinned.checked.prog ++ Try.f19.resultTypes.toList)) = true := by kernel_rfl
theorem orientSpread_closed : joinedFacts Try.pinned.checked.prog 19 Try.f19 Rows.orientSpreadSpec Rows.orientSpreadRow = true :=
  joined_split ⟨orientSpread_k1, orientSpread_k2, orientSpread_k3, orientSpread_k4, orientSpread_k5, orientSpread_k6, orientSpread_k7, seat_heard, seat_enter, lifts_of orientSpread_k8, orientSpread_k9⟩
theorem orientSpread_over : Rows.orientSpreadRow.holds Try.pinned (OpenSpec.ofChange Rows.orientSpreadSpec) :=
  OpenClaim.holds_of_wide 19 Try.f19 rfl rfl rfl rfl rfl rfl rfl ⟨rfl, rfl, rfl, rfl, rfl⟩ rfl rfl rfl rfl rfl orientSpread_named Try.func19 orientSpread_closed
    (of_decide_eq_true (by kernel_rfl)) (by unfold Func.isWrapper; rw [if_neg (of_decide_eq_false (by kernel_rfl))]; exact ⟨rfl, rfl⟩)
    (fun os started H enc _ => orientSpread_lifted os started H enc)

/-- The statement. -/
theorem orientSpread_holds : Rows.OrientSpreadSaid := orientSpread_over

end Go.Proofs.Ytnknejdmoghmiaa
