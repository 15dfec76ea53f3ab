/- For all matrices a and b (nine int64 numbers each) and every vector d (three) the law MatTurned returns true, and its arguments read behind the call as they did before. No condition. -/
import Derived.Test.YtkhfmhiinalfoaaNm
import Derived.Test.YtkhfmhiinalfoaaNz
namespace Go.Proofs.Ytkhfmhiinalfoaa
open Go.ChangeShapes Go.WideShapes Go.ChangeAt Go.RowKit
set_option maxRecDepth 4000
set_option linter.unusedVariables false

theorem matTurned_own : ownKnob Try.prog.godebug = none := by kernel_rfl

set_option maxRecDepth 100000 in
theorem matTurned_lifted (os : Os) (started : os.Started) (H : Type) (enc : TypeId × Value → H) :
    ReturnsInHanded {} Try.checked os 7 .any (Rows.matTurnedSpec.pre6 enc Try.prog Try.f7 Rows.matTurnedRow.domain false) (Rows.matTurnedSpec.post enc Try.prog Try.f7 false true false false) := by
  refine returnsInHanded_of_change (C := Try.checked) matTurned_own started (by kernel_rfl) Try.func7
    (ChangeSpec.witness6 (enc := enc) (C := Try.checked) false ⟨#[], #[.agg #[.int .i64 0, .int .i64 0, .int .i64 0, .int .i64 0, .int .i64 0, .int .i64 0, .int .i64 0, .int .i64 0, .int .i64 0], .agg #[.int .i64 0, .int .i64 0, .int .i64 0, .int .i64 0, .int .i64 0, .int .i64 0, .int .i64 0, .int .i64 0, .int .i64 0], .agg #[.int .i64 0, .int .i64 0, .int .i64 0]], []⟩ 8 (by kernel_rfl) (by kernel_rfl) (by kernel_rfl) (by kernel_rfl)) ?_
  intro W base args ds gs before hval0 hW hcnd _
  have hval : ∀ (j : Nat) t v, Try.f7.params[j]? = some t → args[j]? = some v → Value.okWide Try.prog W .any base t v := hval0
  have hW' := hW
  obtain ⟨p, q, hA0, hV, rfl, hfz, hnd⟩ := hW
  have hA : DataW.TrodAll enc Try.prog W 0 (fun _ => true) true Try.f7.params.toList args.toList ds p := hA0
  rw [Try.params7] at hA hval
  obtain ⟨v0, vs0, d0, ds0, p0, q0, hargs, rfl, rfl, h0, r0⟩ := trodAll_cons hA
  obtain ⟨v1, vs1, d1, ds1, p1, q1, rfl, rfl, rfl, h1, r1⟩ := trodAll_cons r0
  obtain ⟨v2, vs2, d2, ds2, p2, q2, rfl, rfl, rfl, h2, r2⟩ := trodAll_cons r1
  obtain ⟨rfl, rfl, rfl⟩ := trodAll_nil r2
  obtain rfl : args = #[v0, v1, v2] := by cases args; simp_all
  obtain ⟨rfl, rfl⟩ := trodVars_none hV
  obtain ⟨X0, rfl, rfl, rfl, k0⟩ := open_mat (hval 0 27 v0 rfl rfl) h0
  obtain ⟨X1, rfl, rfl, rfl, k1⟩ := open_mat (hval 1 27 v1 rfl rfl) h1
  obtain ⟨x2, y2, z2, rfl, rfl, rfl, k2, l2, m2⟩ := open_vec (hval 2 24 v2 rfl rfl) h2
  clear hA0 hval0
  refine (matTurned_walk X0 X1 x2 y2 z2 k0 k1 k2 l2 m2 W).mono fun e W' ⟨he, bel⟩ => ?_
  subst he
  exact ⟨_, rfl, _, _, _, [], [], [], hW', trodAll_mk1 (shut_bool Try.underlying4 _), (trodAll_cons_mk (shut_mat k0) (trodAll_cons_mk (shut_mat k1) (trodAll_cons_mk (shut_vec k2 l2 m2) trodAll_mk0))), rfl, bel.frame _, fun h => by cases h⟩

theorem matTurned_named : Try.pinned.checked.prog.funcNamed Rows.matTurnedRow.func = some 7 := by kernel_rfl
theorem matTurned_k1 : (Rows.matTurnedRow.wf (OpenSpec.ofChange Rows.matTurnedSpec) && laidOutB Try.pinned.checked.prog && mapsRowed Try.pinned.checked.prog && Try.f7.params.all (Try.pinned.checked.prog.readableRec ·) && namedTie Try.pinned.checked.prog Rows.matTurnedRow.named Rows.matTurnedSpec.vars) = true := by kernel_rfl
theorem matTurned_k2 : ((Rows.matTurnedRow.stops == []) && (Try.pinned.checked.prog.stops == []) && (Rows.matTurnedRow.knobs == []) && (Try.pinned.checked.prog.stopKnobs == [])) = true := by kernel_rfl
theorem matTurned_k3 : (Rows.matTurnedRow.inPlace == Try.pinned.checked.prog.inPlace 7) = true := by kernel_rfl
theorem matTurned_k4 : (Rows.matTurnedRow.unfollowed == Try.pinned.checked.prog.unfollowed 7) = true := by kernel_rfl
theorem matTurned_k5 : (Rows.matTurnedRow.recurses == Try.pinned.checked.prog.recurses 7) = true := by kernel_rfl
theorem matTurned_k6 : (Rows.matTurnedRow.named == Try.pinned.checked.prog.varsNamed 7) = true := by kernel_rfl
theorem matTurned_k7 : ((Rows.matTurnedRow.maps == (Try.f7.params.toList ++ Rows.matTurnedSpec.plain.varTypes Try.pinned.checked.prog).any (Try.pinned.checked.prog.mapsRec ·)) && (Rows.matTurnedRow.ifaces == (Try.f7.params.toList ++ Rows.matTurnedSpec.plain.varTypes Try.pinned.checked.prog).any (Try.pinned.checked.prog.ifacesRec ·)) && (Rows.matTurnedRow.mapsOut == Try.pinned.checked.prog.mapsAmong Try.f7.resultTypes.toList) &&
  (Rows.matTurnedRow.loops == (Try.f7.params.toList ++ Rows.matTurnedSpec.plain.varTypes Try.pinned.checked.prog).any (Try.pinned.checked.prog.loopsFrom ·)) && (Rows.matTurnedRow.wideKeys == (Try.f7.params.toList ++ Rows.matTurnedSpec.plain.varTypes Try.pinned.checked.prog ++ Try.f7.resultTypes.toList).any (Try.pinned.checked.prog.wideKeysFrom ·)) &&
  Rows.matTurnedSpec.vars.all (Try.pinned.checked.prog.varReadable ·) && Try.f7.resultTypes.all (fun t => Try.pinned.checked.prog.readableRec t && decide (t < Try.pinned.checked.prog.types.size)) && (Rows.matTurnedRow.ifacesOut == Try.f7.resultTypes.toList.any (Try.pinned.checked.prog.ifacesRec ·)) && (Rows.matTurnedRow.loopsOut == Try.f7.resultTypes.toList.any (Try.pinned.checked.prog.loopsFrom ·)) && (Rows.matTurnedRow.plainKeys == Try.pinned.checked.prog.plainKeys) && Rows.matTurnedRow.shortTexts.isNone) = true := by kernel_rfl
theorem matTurned_k8 : (Rows.matTurnedRow.lifted == Rows.matSumsRow.lifted) = true := by kernel_rfl
theorem matTurned_k9 : ((Try.pinned.checked.prog.make == some Rows.matTurnedRow.make) && (Rows.matTurnedRow.kinds == (if Rows.matTurnedRow.domain.isEmpty then [] else Try.f7.params.toList.map fun t => match Try.pinned.checked.prog.underlying t with | some (.int k) => some k | _ => none)) && (Rows.matTurnedRow.pinned == Rows.matTurnedRow.pinnedBy) &&
  (Rows.matTurnedRow.veiled == (Try.f7.params.toList ++ Rows.matTurnedSpec.plain.varTypes Try.pinned.checked.prog ++ Try.f7.resultTypes.toList).any (Try.pinned.checked.prog.veiledRec ·)) && Rows.matTurnedRow.veiledFits Try.pinned.checked.prog Try.f7.params.toList (Try.f7.params.toList ++ Rows.matTurnedSpec.plain.varTypes Try.pinned.checked.prog ++ Try.f7.resultTypes.toList)) = true := by kernel_rfl
theorem matTurned_closed : joinedFacts Try.pinned.checked.prog 7 Try.f7 Rows.matTurnedSpec Rows.matTurnedRow = true :=
  joined_split ⟨matTurned_k1, matTurned_k2, matTurned_k3, matTurned_k4, matTurned_k5, matTurned_k6, matTurned_k7, seat_heard, seat_enter, lifts_of matTurned_k8, matTurned_k9⟩
theorem matTurned_over : Rows.matTurnedRow.holds Try.pinned (OpenSpec.ofChange Rows.matTurnedSpec) :=
  OpenClaim.holds_of_wide 7 Try.f7 rfl rfl rfl rfl rfl rfl rfl ⟨rfl, rfl, rfl, rfl, rfl⟩ rfl rfl rfl rfl rfl matTurned_named Try.func7 matTurned_closed
    (of_decide_eq_true (by kernel_rfl)) (by unfold Func.isWrapper; rw [if_neg (of_decide_eq_false (by kernel_rfl))]; exact ⟨rfl, rfl⟩)
    (fun os started H enc _ => matTurned_lifted os started H enc)

/-- The statement. -/
theorem matTurned_holds : Rows.MatTurnedSaid := matTurned_over

end Go.Proofs.Ytkhfmhiinalfoaa
