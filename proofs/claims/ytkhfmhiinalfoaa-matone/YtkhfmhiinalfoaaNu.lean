/- For every matrix m (nine int64 numbers) and every vector v (three) the law MatOne returns true, and its arguments read behind the call as they did before. No condition. -/
import Derived.Test.YtkhfmhiinalfoaaNm
import Derived.Test.YtkhfmhiinalfoaaNz
namespace Go.Proofs.Ytkhfmhiinalfoaa
open Go.ChangeShapes Go.WideShapes Go.ChangeAt Go.RowKit
set_option maxRecDepth 4000
set_option linter.unusedVariables false

theorem matOne_own : ownKnob Try.prog.godebug = none := by kernel_rfl

set_option maxRecDepth 100000 in
theorem matOne_lifted (os : Os) (started : os.Started) (H : Type) (enc : TypeId × Value → H) :
    ReturnsInHanded {} Try.checked os 6 .any (Rows.matOneSpec.pre6 enc Try.prog Try.f6 Rows.matOneRow.domain false) (Rows.matOneSpec.post enc Try.prog Try.f6 false true false false) := by
  refine returnsInHanded_of_change (C := Try.checked) matOne_own started (by kernel_rfl) Try.func6
    (ChangeSpec.witness6 (enc := enc) (C := Try.checked) false ⟨#[], #[.agg #[.int .i64 0, .int .i64 0, .int .i64 0, .int .i64 0, .int .i64 0, .int .i64 0, .int .i64 0, .int .i64 0, .int .i64 0], .agg #[.int .i64 0, .int .i64 0, .int .i64 0]], []⟩ 8 (by kernel_rfl) (by kernel_rfl) (by kernel_rfl) (by kernel_rfl)) ?_
  intro W base args ds gs before hval0 hW hcnd _
  have hval : ∀ (j : Nat) t v, Try.f6.params[j]? = some t → args[j]? = some v → Value.okWide Try.prog W .any base t v := hval0
  have hW' := hW
  obtain ⟨p, q, hA0, hV, rfl, hfz, hnd⟩ := hW
  have hA : DataW.TrodAll enc Try.prog W 0 (fun _ => true) true Try.f6.params.toList args.toList ds p := hA0
  rw [Try.params6] at hA hval
  obtain ⟨v0, vs0, d0, ds0, p0, q0, hargs, rfl, rfl, h0, r0⟩ := trodAll_cons hA
  obtain ⟨v1, vs1, d1, ds1, p1, q1, rfl, rfl, rfl, h1, r1⟩ := trodAll_cons r0
  obtain ⟨rfl, rfl, rfl⟩ := trodAll_nil r1
  obtain rfl : args = #[v0, v1] := by cases args; simp_all
  obtain ⟨rfl, rfl⟩ := trodVars_none hV
  obtain ⟨X0, rfl, rfl, rfl, k0⟩ := open_mat (hval 0 27 v0 rfl rfl) h0
  obtain ⟨x1, y1, z1, rfl, rfl, rfl, k1, l1, m1⟩ := open_vec (hval 1 24 v1 rfl rfl) h1
  clear hA0 hval0
  refine (matOne_walk X0 x1 y1 z1 k0 k1 l1 m1 W).mono fun e W' ⟨he, bel⟩ => ?_
  subst he
  exact ⟨_, rfl, _, _, _, [], [], [], hW', trodAll_mk1 (shut_bool Try.underlying4 _), (trodAll_cons_mk (shut_mat k0) (trodAll_cons_mk (shut_vec k1 l1 m1) trodAll_mk0)), rfl, bel.frame _, fun h => by cases h⟩

theorem matOne_named : Try.pinned.checked.prog.funcNamed Rows.matOneRow.func = some 6 := by kernel_rfl
theorem matOne_k1 : (Rows.matOneRow.wf (OpenSpec.ofChange Rows.matOneSpec) && laidOutB Try.pinned.checked.prog && mapsRowed Try.pinned.checked.prog && Try.f6.params.all (Try.pinned.checked.prog.readableRec ·) && namedTie Try.pinned.checked.prog Rows.matOneRow.named Rows.matOneSpec.vars) = true := by kernel_rfl
theorem matOne_k2 : ((Rows.matOneRow.stops == []) && (Try.pinned.checked.prog.stops == []) && (Rows.matOneRow.knobs == []) && (Try.pinned.checked.prog.stopKnobs == [])) = true := by kernel_rfl
theorem matOne_k3 : (Rows.matOneRow.inPlace == Try.pinned.checked.prog.inPlace 6) = true := by kernel_rfl
theorem matOne_k4 : (Rows.matOneRow.unfollowed == Try.pinned.checked.prog.unfollowed 6) = true := by kernel_rfl
theorem matOne_k5 : (Rows.matOneRow.recurses == Try.pinned.checked.prog.recurses 6) = true := by kernel_rfl
theorem matOne_k6 : (Rows.matOneRow.named == Try.pinned.checked.prog.varsNamed 6) = true := by kernel_rfl
theorem matOne_k7 : ((Rows.matOneRow.maps == (Try.f6.params.toList ++ Rows.matOneSpec.plain.varTypes Try.pinned.checked.prog).any (Try.pinned.checked.prog.mapsRec ·)) && (Rows.matOneRow.ifaces == (Try.f6.params.toList ++ Rows.matOneSpec.plain.varTypes Try.pinned.checked.prog).any (Try.pinned.checked.prog.ifacesRec ·)) && (Rows.matOneRow.mapsOut == Try.pinned.checked.prog.mapsAmong Try.f6.resultTypes.toList) &&
  (Rows.matOneRow.loops == (Try.f6.params.toList ++ Rows.matOneSpec.plain.varTypes Try.pinned.checked.prog).any (Try.pinned.checked.prog.loopsFrom ·)) && (Rows.matOneRow.wideKeys == (Try.f6.params.toList ++ Rows.matOneSpec.plain.varTypes Try.pinned.checked.prog ++ Try.f6.resultTypes.toList).any (Try.pinned.checked.prog.wideKeysFrom ·)) &&
  Rows.matOneSpec.vars.all (Try.pinned.checked.prog.varReadable ·) && Try.f6.resultTypes.all (fun t => Try.pinned.checked.prog.readableRec t && decide (t < Try.pinned.checked.prog.types.size)) && (Rows.matOneRow.ifacesOut == Try.f6.resultTypes.toList.any (Try.pinned.checked.prog.ifacesRec ·)) && (Rows.matOneRow.loopsOut == Try.f6.resultTypes.toList.any (Try.pinned.checked.prog.loopsFrom ·)) && (Rows.matOneRow.plainKeys == Try.pinned.checked.prog.plainKeys) && Rows.matOneRow.shortTexts.isNone) = true := by kernel_rfl
theorem matOne_k8 : (Rows.matOneRow.lifted == Rows.matSumsRow.lifted) = true := by kernel_rfl
theorem matOne_k9 : ((Try.pinned.checked.prog.make == some Rows.matOneRow.make) && (Rows.matOneRow.kinds == (if Rows.matOneRow.domain.isEmpty then [] else Try.f6.params.toList.map fun t => match Try.pinned.checked.prog.underlying t with | some (.int k) => some k | _ => none)) && (Rows.matOneRow.pinned == Rows.matOneRow.pinnedBy) &&
  (Rows.matOneRow.veiled == (Try.f6.params.toList ++ Rows.matOneSpec.plain.varTypes Try.pinned.checked.prog ++ Try.f6.resultTypes.toList).any (Try.pinned.checked.prog.veiledRec ·)) && Rows.matOneRow.veiledFits Try.pinned.checked.prog Try.f6.params.toList (Try.f6.params.toList ++ Rows.matOneSpec.plain.varTypes Try.pinned.checked.prog ++ Try.f6.resultTypes.toList)) = true := by kernel_rfl
theorem matOne_closed : joinedFacts Try.pinned.checked.prog 6 Try.f6 Rows.matOneSpec Rows.matOneRow = true :=
  joined_split ⟨matOne_k1, matOne_k2, matOne_k3, matOne_k4, matOne_k5, matOne_k6, matOne_k7, seat_heard, seat_enter, lifts_of matOne_k8, matOne_k9⟩
theorem matOne_over : Rows.matOneRow.holds Try.pinned (OpenSpec.ofChange Rows.matOneSpec) :=
  OpenClaim.holds_of_wide 6 Try.f6 rfl rfl rfl rfl rfl rfl rfl ⟨rfl, rfl, rfl, rfl, rfl⟩ rfl rfl rfl rfl rfl matOne_named Try.func6 matOne_closed
    (of_decide_eq_true (by kernel_rfl)) (by unfold Func.isWrapper; rw [if_neg (of_decide_eq_false (by kernel_rfl))]; exact ⟨rfl, rfl⟩)
    (fun os started H enc _ => matOne_lifted os started H enc)

/-- The statement. -/
theorem matOne_holds : Rows.MatOneSaid := matOne_over

end Go.Proofs.Ytkhfmhiinalfoaa
