/- For all vectors v and w (three int64 numbers each) the law MatDiag returns true, and its arguments read behind the call as they did before. No condition. -/
import Derived.Test.YtkhfmhiinalfoaaNo
import Derived.Test.YtkhfmhiinalfoaaNz
namespace Go.Proofs.Ytkhfmhiinalfoaa
open Go.ChangeShapes Go.WideShapes Go.ChangeAt Go.RowKit
set_option maxRecDepth 4000
set_option linter.unusedVariables false

theorem matDiag_own : ownKnob Try.prog.godebug = none := by kernel_rfl

set_option maxRecDepth 100000 in
theorem matDiag_lifted (os : Os) (started : os.Started) (H : Type) (enc : TypeId × Value → H) :
    ReturnsInHanded {} Try.checked os 9 .any (Rows.matDiagSpec.pre6 enc Try.prog Try.f9 Rows.matDiagRow.domain false) (Rows.matDiagSpec.post enc Try.prog Try.f9 false true false false) := by
  refine returnsInHanded_of_change (C := Try.checked) matDiag_own started (by kernel_rfl) Try.func9
    (ChangeSpec.witness6 (enc := enc) (C := Try.checked) false ⟨#[], #[.agg #[.int .i64 0, .int .i64 0, .int .i64 0], .agg #[.int .i64 0, .int .i64 0, .int .i64 0]], []⟩ 8 (by kernel_rfl) (by kernel_rfl) (by kernel_rfl) (by kernel_rfl)) ?_
  intro W base args ds gs before hval0 hW hcnd _
  have hval : ∀ (j : Nat) t v, Try.f9.params[j]? = some t → args[j]? = some v → Value.okWide Try.prog W .any base t v := hval0
  have hW' := hW
  obtain ⟨p, q, hA0, hV, rfl, hfz, hnd⟩ := hW
  have hA : DataW.TrodAll enc Try.prog W 0 (fun _ => true) true Try.f9.params.toList args.toList ds p := hA0
  rw [Try.params9] at hA hval
  obtain ⟨v0, vs0, d0, ds0, p0, q0, hargs, rfl, rfl, h0, r0⟩ := trodAll_cons hA
  obtain ⟨v1, vs1, d1, ds1, p1, q1, rfl, rfl, rfl, h1, r1⟩ := trodAll_cons r0
  obtain ⟨rfl, rfl, rfl⟩ := trodAll_nil r1
  obtain rfl : args = #[v0, v1] := by cases args; simp_all
  obtain ⟨rfl, rfl⟩ := trodVars_none hV
  obtain ⟨x0, y0, z0, rfl, rfl, rfl, k0, l0, m0⟩ := open_vec (hval 0 24 v0 rfl rfl) h0
  obtain ⟨x1, y1, z1, rfl, rfl, rfl, k1, l1, m1⟩ := open_vec (hval 1 24 v1 rfl rfl) h1
  clear hA0 hval0
  refine (matDiag_walk x0 y0 z0 x1 y1 z1 k0 l0 m0 k1 l1 m1 W).mono fun e W' ⟨he, bel⟩ => ?_
  subst he
  exact ⟨_, rfl, _, _, _, [], [], [], hW', trodAll_mk1 (shut_bool Try.underlying4 _), (trodAll_cons_mk (shut_vec k0 l0 m0) (trodAll_cons_mk (shut_vec k1 l1 m1) trodAll_mk0)), rfl, bel.frame _, fun h => by cases h⟩

theorem matDiag_named : Try.pinned.checked.prog.funcNamed Rows.matDiagRow.func = some 9 := by kernel_rfl
theorem matDiag_k1 : (Rows.matDiagRow.wf (OpenSpec.ofChange Rows.matDiagSpec) && laidOutB Try.pinned.checked.prog && mapsRowed Try.pinned.checked.prog && Try.f9.params.all (Try.pinned.checked.prog.readableRec ·) && namedTie Try.pinned.checked.prog Rows.matDiagRow.named Rows.matDiagSpec.vars) = true := by kernel_rfl
theorem matDiag_k2 : ((Rows.matDiagRow.stops == []) && (Try.pinned.checked.prog.stops == []) && (Rows.matDiagRow.knobs == []) && (Try.pinned.checked.prog.stopKnobs == [])) = true := by kernel_rfl
theorem matDiag_k3 : (Rows.matDiagRow.inPlace == Try.pinned.checked.prog.inPlace 9) = true := by kernel_rfl
theorem matDiag_k4 : (Rows.matDiagRow.unfollowed == Try.pinned.checked.prog.unfollowed 9) = true := by kernel_rfl
theorem matDiag_k5 : (Rows.matDiagRow.recurses == Try.pinned.checked.prog.recurses 9) = true := by kernel_rfl
theorem matDiag_k6 : (Rows.matDiagRow.named == Try.pinned.checked.prog.varsNamed 9) = true := by kernel_rfl
theorem matDiag_k7 : ((Rows.matDiagRow.maps == (Try.f9.params.toList ++ Rows.matDiagSpec.plain.varTypes Try.pinned.checked.prog).any (Try.pinned.checked.prog.mapsRec ·)) && (Rows.matDiagRow.ifaces == (Try.f9.params.toList ++ Rows.matDiagSpec.plain.varTypes Try.pinned.checked.prog).any (Try.pinned.checked.prog.ifacesRec ·)) && (Rows.matDiagRow.mapsOut == Try.pinned.checked.prog.mapsAmong Try.f9.resultTypes.toList) &&
  (Rows.matDiagRow.loops == (Try.f9.params.toList ++ Rows.matDiagSpec.plain.varTypes Try.pinned.checked.prog).any (Try.pinned.checked.prog.loopsFrom ·)) && (Rows.matDiagRow.wideKeys == (Try.f9.params.toList ++ Rows.matDiagSpec.plain.varTypes Try.pinned.checked.prog ++ Try.f9.resultTypes.toList).any (Try.pinned.checked.prog.wideKeysFrom ·)) &&
  Rows.matDiagSpec.vars.all (Try.pinned.checked.prog.varReadable ·) && Try.f9.resultTypes.all (fun t => Try.pinned.checked.prog.readableRec t && decide (t < Try.pinned.checked.prog.types.size)) && (Rows.matDiagRow.ifacesOut == Try.f9.resultTypes.toList.any (Try.pinned.checked.prog.ifacesRec ·)) && (Rows.matDiagRow.loopsOut == Try.f9.resultTypes.toList.any (Try.pinned.checked.prog.loopsFrom ·)) && (Rows.matDiagRow.plainKeys == Try.pinned.checked.prog.plainKeys) && Rows.matDiagRow.shortTexts.isNone) = true := by kernel_rfl
theorem matDiag_k8 : (Rows.matDiagRow.lifted == Rows.matSumsRow.lifted) = true := by kernel_rfl
theorem matDiag_k9 : ((Try.pinned.checked.prog.make == some Rows.matDiagRow.make) && (Rows.matDiagRow.kinds == (if Rows.matDiagRow.domain.isEmpty then [] else Try.f9.params.toList.map fun t => match Try.pinned.checked.prog.underlying t with | some (.int k) => some k | _ => none)) && (Rows.matDiagRow.pinned == Rows.matDiagRow.pinnedBy) &&
  (Rows.matDiagRow.veiled == (Try.f9.params.toList ++ Rows.matDiagSpec.plain.varTypes Try.pinned.checked.prog ++ Try.f9.resultTypes.toList).any (Try.pinned.checked.prog.veiledRec ·)) && Rows.matDiagRow.veiledFits Try.pinned.checked.prog Try.f9.params.toList (Try.f9.params.toList ++ Rows.matDiagSpec.plain.varTypes Try.pinned.checked.prog ++ Try.f9.resultTypes.toList)) = true := by kernel_rfl
theorem matDiag_closed : joinedFacts Try.pinned.checked.prog 9 Try.f9 Rows.matDiagSpec Rows.matDiagRow = true :=
  joined_split ⟨matDiag_k1, matDiag_k2, matDiag_k3, matDiag_k4, matDiag_k5, matDiag_k6, matDiag_k7, seat_heard, seat_enter, lifts_of matDiag_k8, matDiag_k9⟩
theorem matDiag_over : Rows.matDiagRow.holds Try.pinned (OpenSpec.ofChange Rows.matDiagSpec) :=
  OpenClaim.holds_of_wide 9 Try.f9 rfl rfl rfl rfl rfl rfl rfl ⟨rfl, rfl, rfl, rfl, rfl⟩ rfl rfl rfl rfl rfl matDiag_named Try.func9 matDiag_closed
    (of_decide_eq_true (by kernel_rfl)) (by unfold Func.isWrapper; rw [if_neg (of_decide_eq_false (by kernel_rfl))]; exact ⟨rfl, rfl⟩)
    (fun os started H enc _ => matDiag_lifted os started H enc)

/-- The statement. -/
theorem matDiag_holds : Rows.MatDiagSaid := matDiag_over

end Go.Proofs.Ytkhfmhiinalfoaa
