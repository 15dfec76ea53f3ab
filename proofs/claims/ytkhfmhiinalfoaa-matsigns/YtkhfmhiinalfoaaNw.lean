/- For every matrix m (nine int64 numbers) and every int which the law MatSigns returns true, and its arguments read behind the call as they did before. No condition. -/
import Derived.Test.YtkhfmhiinalfoaaNn
import Derived.Test.YtkhfmhiinalfoaaNz
namespace Go.Proofs.Ytkhfmhiinalfoaa
open Go.ChangeShapes Go.WideShapes Go.ChangeAt Go.RowKit
set_option maxRecDepth 4000
set_option linter.unusedVariables false

theorem matSigns_own : ownKnob Try.prog.godebug = none := by kernel_rfl

set_option maxRecDepth 100000 in
theorem matSigns_lifted (os : Os) (started : os.Started) (H : Type) (enc : TypeId × Value → H) :
    ReturnsInHanded {} Try.checked os 8 .any (Rows.matSignsSpec.pre6 enc Try.prog Try.f8 Rows.matSignsRow.domain false) (Rows.matSignsSpec.post enc Try.prog Try.f8 false true false false) := by
  refine returnsInHanded_of_change (C := Try.checked) matSigns_own started (by kernel_rfl) Try.func8
    (ChangeSpec.witness6 (enc := enc) (C := Try.checked) false ⟨#[], #[.agg #[.int .i64 0, .int .i64 0, .int .i64 0, .int .i64 0, .int .i64 0, .int .i64 0, .int .i64 0, .int .i64 0, .int .i64 0], .int .i64 0], []⟩ 8 (by kernel_rfl) (by kernel_rfl) (by kernel_rfl) (by kernel_rfl)) ?_
  intro W base args ds gs before hval0 hW hcnd _
  have hval : ∀ (j : Nat) t v, Try.f8.params[j]? = some t → args[j]? = some v → Value.okWide Try.prog W .any base t v := hval0
  have hW' := hW
  obtain ⟨p, q, hA0, hV, rfl, hfz, hnd⟩ := hW
  have hA : DataW.TrodAll enc Try.prog W 0 (fun _ => true) true Try.f8.params.toList args.toList ds p := hA0
  rw [Try.params8] at hA hval
  obtain ⟨v0, vs0, d0, ds0, p0, q0, hargs, rfl, rfl, h0, r0⟩ := trodAll_cons hA
  obtain ⟨v1, vs1, d1, ds1, p1, q1, rfl, rfl, rfl, h1, r1⟩ := trodAll_cons r0
  obtain ⟨rfl, rfl, rfl⟩ := trodAll_nil r1
  obtain rfl : args = #[v0, v1] := by cases args; simp_all
  obtain ⟨rfl, rfl⟩ := trodVars_none hV
  obtain ⟨X0, rfl, rfl, rfl, k0⟩ := open_mat (hval 0 27 v0 rfl rfl) h0
  obtain ⟨a1, rfl, rfl, rfl, w1⟩ := open_int Try.underlying3 (hval 1 3 v1 rfl rfl) h1
  clear hA0 hval0
  refine (matSigns_walk X0 a1 k0 w1 W).mono fun e W' ⟨he, bel⟩ => ?_
  subst he
  exact ⟨_, rfl, _, _, _, [], [], [], hW', trodAll_mk1 (shut_bool Try.underlying4 _), (trodAll_cons_mk (shut_mat k0) (trodAll_cons_mk (shut_int Try.underlying3 w1) trodAll_mk0)), rfl, bel.frame _, fun h => by cases h⟩

theorem matSigns_named : Try.pinned.checked.prog.funcNamed Rows.matSignsRow.func = some 8 := by kernel_rfl
theorem matSigns_k1 : (Rows.matSignsRow.wf (OpenSpec.ofChange Rows.matSignsSpec) && laidOutB Try.pinned.checked.prog && mapsRowed Try.pinned.checked.prog && Try.f8.params.all (Try.pinned.checked.prog.readableRec ·) && namedTie Try.pinned.checked.prog Rows.matSignsRow.named Rows.matSignsSpec.vars) = true := by kernel_rfl
theorem matSigns_k2 : ((Rows.matSignsRow.stops == []) && (Try.pinned.checked.prog.stops == []) && (Rows.matSignsRow.knobs == []) && (Try.pinned.checked.prog.stopKnobs == [])) = true := by kernel_rfl
theorem matSigns_k3 : (Rows.matSignsRow.inPlace == Try.pinned.checked.prog.inPlace 8) = true := by kernel_rfl
theorem matSigns_k4 : (Rows.matSignsRow.unfollowed == Try.pinned.checked.prog.unfollowed 8) = true := by kernel_rfl
theorem matSigns_k5 : (Rows.matSignsRow.recurses == Try.pinned.checked.prog.recurses 8) = true := by kernel_rfl
theorem matSigns_k6 : (Rows.matSignsRow.named == Try.pinned.checked.prog.varsNamed 8) = true := by kernel_rfl
theorem matSigns_k7 : ((Rows.matSignsRow.maps == (Try.f8.params.toList ++ Rows.matSignsSpec.plain.varTypes Try.pinned.checked.prog).any (Try.pinned.checked.prog.mapsRec ·)) && (Rows.matSignsRow.ifaces == (Try.f8.params.toList ++ Rows.matSignsSpec.plain.varTypes Try.pinned.checked.prog).any (Try.pinned.checked.prog.ifacesRec ·)) && (Rows.matSignsRow.mapsOut == Try.pinned.checked.prog.mapsAmong Try.f8.resultTypes.toList) &&
  (Rows.matSignsRow.loops == (Try.f8.params.toList ++ Rows.matSignsSpec.plain.varTypes Try.pinned.checked.prog).any (Try.pinned.checked.prog.loopsFrom ·)) && (Rows.matSignsRow.wideKeys == (Try.f8.params.toList ++ Rows.matSignsSpec.plain.varTypes Try.pinned.checked.prog ++ Try.f8.resultTypes.toList).any (Try.pinned.checked.prog.wideKeysFrom ·)) &&
  Rows.matSignsSpec.vars.all (Try.pinned.checked.prog.varReadable ·) && Try.f8.resultTypes.all (fun t => Try.pinned.checked.prog.readableRec t && decide (t < Try.pinned.checked.prog.types.size)) && (Rows.matSignsRow.ifacesOut == Try.f8.resultTypes.toList.any (Try.pinned.checked.prog.ifacesRec ·)) && (Rows.matSignsRow.loopsOut == Try.f8.resultTypes.toList.any (Try.pinned.checked.prog.loopsFrom ·)) && (Rows.matSignsRow.plainKeys == Try.pinned.checked.prog.plainKeys) && Rows.matSignsRow.shortTexts.isNone) = true := by kernel_rfl
theorem matSigns_k8 : (Rows.matSignsRow.lifted == Rows.matSumsRow.lifted) = true := by kernel_rfl
theorem matSigns_k9 : ((Try.pinned.checked.prog.make == some Rows.matSignsRow.make) && (Rows.matSignsRow.kinds == (if Rows.matSignsRow.domain.isEmpty then [] else Try.f8.params.toList.map fun t => match Try.pinned.checked.prog.underlying t with | some (.int k) => some k | _ => none)) && (Rows.matSignsRow.pinned == Rows.matSignsRow.pinnedBy) &&
  (Rows.matSignsRow.veiled == (Try.f8.params.toList ++ Rows.matSignsSpec.plain.varTypes Try.pinned.checked.prog ++ Try.f8.resultTypes.toList).any (Try.pinned.checked.prog.veiledRec ·)) && Rows.matSignsRow.veiledFits Try.pinned.checked.prog Try.f8.params.toList (Try.f8.params.toList ++ Rows.matSignsSpec.plain.varTypes Try.pinned.checked.prog ++ Try.f8.resultTypes.toList)) = true := by kernel_rfl
theorem matSigns_closed : joinedFacts Try.pinned.checked.prog 8 Try.f8 Rows.matSignsSpec Rows.matSignsRow = true :=
  joined_split ⟨matSigns_k1, matSigns_k2, matSigns_k3, matSigns_k4, matSigns_k5, matSigns_k6, matSigns_k7, seat_heard, seat_enter, lifts_of matSigns_k8, matSigns_k9⟩
theorem matSigns_over : Rows.matSignsRow.holds Try.pinned (OpenSpec.ofChange Rows.matSignsSpec) :=
  OpenClaim.holds_of_wide 8 Try.f8 rfl rfl rfl rfl rfl rfl rfl ⟨rfl, rfl, rfl, rfl, rfl⟩ rfl rfl rfl rfl rfl matSigns_named Try.func8 matSigns_closed
    (of_decide_eq_true (by kernel_rfl)) (by unfold Func.isWrapper; rw [if_neg (of_decide_eq_false (by kernel_rfl))]; exact ⟨rfl, rfl⟩)
    (fun os started H enc _ => matSigns_lifted os started H enc)

/-- The statement. -/
theorem matSigns_holds : Rows.MatSignsSaid := matSigns_over

end Go.Proofs.Ytkhfmhiinalfoaa
