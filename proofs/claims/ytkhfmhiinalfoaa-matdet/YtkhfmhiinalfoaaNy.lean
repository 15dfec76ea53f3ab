/- For every matrix m (nine int64 numbers) the law MatDet returns true, and its argument reads behind the call as it did before. No condition. -/
import Derived.Test.YtkhfmhiinalfoaaNp
import Derived.Test.YtkhfmhiinalfoaaNz
namespace Go.Proofs.Ytkhfmhiinalfoaa
open Go.ChangeShapes Go.WideShapes Go.ChangeAt Go.RowKit
set_option maxRecDepth 4000
set_option linter.unusedVariables false

theorem matDet_own : ownKnob Try.prog.godebug = none := by kernel_rfl

set_option maxRecDepth 100000 in
theorem matDet_lifted (os : Os) (started : os.Started) (H : Type) (enc : TypeId × Value → H) :
    ReturnsInHanded {} Try.checked os 4 .any (Rows.matDetSpec.pre6 enc Try.prog Try.f4 Rows.matDetRow.domain false) (Rows.matDetSpec.post enc Try.prog Try.f4 false true false false) := by
  refine returnsInHanded_of_change (C := Try.checked) matDet_own started (by kernel_rfl) Try.func4
    (ChangeSpec.witness6 (enc := enc) (C := Try.checked) false ⟨#[], #[.agg #[.int .i64 0, .int .i64 0, .int .i64 0, .int .i64 0, .int .i64 0, .int .i64 0, .int .i64 0, .int .i64 0, .int .i64 0]], []⟩ 8 (by kernel_rfl) (by kernel_rfl) (by kernel_rfl) (by kernel_rfl)) ?_
  intro W base args ds gs before hval0 hW hcnd _
  have hval : ∀ (j : Nat) t v, Try.f4.params[j]? = some t → args[j]? = some v → Value.okWide Try.prog W .any base t v := hval0
  have hW' := hW
  obtain ⟨p, q, hA0, hV, rfl, hfz, hnd⟩ := hW
  have hA : DataW.TrodAll enc Try.prog W 0 (fun _ => true) true Try.f4.params.toList args.toList ds p := hA0
  rw [Try.params4] at hA hval
  obtain ⟨v0, vs0, d0, ds0, p0, q0, hargs, rfl, rfl, h0, r0⟩ := trodAll_cons hA
  obtain ⟨rfl, rfl, rfl⟩ := trodAll_nil r0
  obtain rfl : args = #[v0] := by cases args; simp_all
  obtain ⟨rfl, rfl⟩ := trodVars_none hV
  obtain ⟨X0, rfl, rfl, rfl, k0⟩ := open_mat (hval 0 27 v0 rfl rfl) h0
  clear hA0 hval0
  refine (matDet_walk X0 k0 W).mono fun e W' ⟨he, bel⟩ => ?_
  subst he
  exact ⟨_, rfl, _, _, _, [], [], [], hW', trodAll_mk1 (shut_bool Try.underlying4 _), (trodAll_cons_mk (shut_mat k0) trodAll_mk0), rfl, bel.frame _, fun h => by cases h⟩

theorem matDet_named : Try.pinned.checked.prog.funcNamed Rows.matDetRow.func = some 4 := by kernel_rfl
theorem matDet_k1 : (Rows.matDetRow.wf (OpenSpec.ofChange Rows.matDetSpec) && laidOutB Try.pinned.checked.prog && mapsRowed Try.pinned.checked.prog && Try.f4.params.all (Try.pinned.checked.prog.readableRec ·) && namedTie Try.pinned.checked.prog Rows.matDetRow.named Rows.matDetSpec.vars) = true := by kernel_rfl
theorem matDet_k2 : ((Rows.matDetRow.stops == []) && (Try.pinned.checked.prog.stops == []) && (Rows.matDetRow.knobs == []) && (Try.pinned.checked.prog.stopKnobs == [])) = true := by kernel_rfl
theorem matDet_k3 : (Rows.matDetRow.inPlace == Try.pinned.checked.prog.inPlace 4) = true := by kernel_rfl
theorem matDet_k4 : (Rows.matDetRow.unfollowed == Try.pinned.checked.prog.unfollowed 4) = true := by kernel_rfl
theorem matDet_k5 : (Rows.matDetRow.recurses == Try.pinned.checked.prog.recurses 4) = true := by kernel_rfl
theorem matDet_k6 : (Rows.matDetRow.named == Try.pinned.checked.prog.varsNamed 4) = true := by kernel_rfl
theorem matDet_k7 : ((Rows.matDetRow.maps == (Try.f4.params.toList ++ Rows.matDetSpec.plain.varTypes Try.pinned.checked.prog).any (Try.pinned.checked.prog.mapsRec ·)) && (Rows.matDetRow.ifaces == (Try.f4.params.toList ++ Rows.matDetSpec.plain.varTypes Try.pinned.checked.prog).any (Try.pinned.checked.prog.ifacesRec ·)) && (Rows.matDetRow.mapsOut == Try.pinned.checked.prog.mapsAmong Try.f4.resultTypes.toList) &&
  (Rows.matDetRow.loops == (Try.f4.params.toList ++ Rows.matDetSpec.plain.varTypes Try.pinned.checked.prog).any (Try.pinned.checked.prog.loopsFrom ·)) && (Rows.matDetRow.wideKeys == (Try.f4.params.toList ++ Rows.matDetSpec.plain.varTypes Try.pinned.checked.prog ++ Try.f4.resultTypes.toList).any (Try.pinned.checked.prog.wideKeysFrom ·)) &&
  Rows.matDetSpec.vars.all (Try.pinned.checked.prog.varReadable ·) && Try.f4.resultTypes.all (fun t => Try.pinned.checked.prog.readableRec t && decide (t < Try.pinned.checked.prog.types.size)) && (Rows.matDetRow.ifacesOut == Try.f4.resultTypes.toList.any (Try.pinned.checked.prog.ifacesRec ·)) && (Rows.matDetRow.loopsOut == Try.f4.resultTypes.toList.any (Try.pinned.checked.prog.loopsFrom ·)) && (Rows.matDetRow.plainKeys == Try.pinned.checked.prog.plainKeys) && Rows.matDetRow.shortTexts.isNone) = true := by kernel_rfl
theorem matDet_k8 : (Rows.matDetRow.lifted == Rows.matSumsRow.lifted) = true := by kernel_rfl
theorem matDet_k9 : ((Try.pinned.checked.prog.make == some Rows.matDetRow.make) && (Rows.matDetRow.kinds == (if Rows.matDetRow.domain.isEmpty then [] else Try.f4.params.toList.map fun t => match Try.pinned.checked.prog.underlying t with | some (.int k) => some k | _ => none)) && (Rows.matDetRow.pinned == Rows.matDetRow.pinnedBy) &&
  (Rows.matDetRow.veiled == (Try.f4.params.toList ++ Rows.matDetSpec.plain.varTypes Try.pinned.checked.prog ++ Try.f4.resultTypes.toList).any (Try.pinned.checked.prog.veiledRec ·)) && Rows.matDetRow.veiledFits Try.pinned.checked.prog Try.f4.params.toList (Try.f4.params.toList ++ Rows.matDetSpec.plain.varTypes Try.pinned.checked.prog ++ Try.f4.resultTypes.toList)) = true := by kernel_rfl
theorem matDet_closed : joinedFacts Try.pinned.checked.prog 4 Try.f4 Rows.matDetSpec Rows.matDetRow = true :=
  joined_split ⟨matDet_k1, matDet_k2, matDet_k3, matDet_k4, matDet_k5, matDet_k6, matDet_k7, seat_heard, seat_enter, lifts_of matDet_k8, matDet_k9⟩
theorem matDet_over : Rows.matDetRow.holds Try.pinned (OpenSpec.ofChange Rows.matDetSpec) :=
  OpenClaim.holds_of_wide 4 Try.f4 rfl rfl rfl rfl rfl rfl rfl ⟨rfl, rfl, rfl, rfl, rfl⟩ rfl rfl rfl rfl rfl matDet_named Try.func4 matDet_closed
    (of_decide_eq_true (by kernel_rfl)) (by unfold Func.isWrapper; rw [if_neg (of_decide_eq_false (by kernel_rfl))]; exact ⟨rfl, rfl⟩)
    (fun os started H enc _ => matDet_lifted os started H enc)

/-- The statement. -/
theorem matDet_holds : Rows.MatDetSaid := matDet_over

end Go.Proofs.Ytkhfmhiinalfoaa
