/- For all matrices a and b and every vector v (int64 numbers) the law MatSums returns true, and its arguments read behind the call as they did before. No condition. -/
import Derived.Test.YtcbepibdeokboaaOa
import Derived.Test.YtcbepibdeokboaaNz
namespace Go.Proofs.Ytcbepibdeokboaa
open Go.ChangeShapes Go.WideShapes Go.ChangeAt Go.RowKit
set_option maxRecDepth 4000
set_option linter.unusedVariables false

theorem matSums_own : ownKnob Try.prog.godebug = none := by kernel_rfl

set_option maxRecDepth 100000 in
theorem matSums_lifted (os : Os) (started : os.Started) (H : Type) (enc : TypeId × Value → H) :
    ReturnsInHanded {} Try.checked os 3 .any (Rows.matSumsSpec.pre6 enc Try.prog Try.f3 Rows.matSumsRow.domain false) (Rows.matSumsSpec.post enc Try.prog Try.f3 false true false false) := by
  refine returnsInHanded_of_change (C := Try.checked) matSums_own started (by kernel_rfl) Try.func3
    (ChangeSpec.witness6 (enc := enc) (C := Try.checked) false ⟨#[], #[.agg #[.int .i64 0, .int .i64 0, .int .i64 0, .int .i64 0, .int .i64 0, .int .i64 0, .int .i64 0, .int .i64 0, .int .i64 0], .agg #[.int .i64 0, .int .i64 0, .int .i64 0, .int .i64 0, .int .i64 0, .int .i64 0, .int .i64 0, .int .i64 0, .int .i64 0], .agg #[.int .i64 0, .int .i64 0, .int .i64 0]], []⟩ 8 (by kernel_rfl) (by kernel_rfl) (by kernel_rfl) (by kernel_rfl)) ?_
  intro W base args ds gs before hval0 hW hcnd _
  have hval : ∀ (j : Nat) t v, Try.f3.params[j]? = some t → args[j]? = some v → Value.okWide Try.prog W .any base t v := hval0
  have hW' := hW
  obtain ⟨p, q, hA0, hV, rfl, hfz, hnd⟩ := hW
  have hA : DataW.TrodAll enc Try.prog W 0 (fun _ => true) true Try.f3.params.toList args.toList ds p := hA0
  rw [Try.params3] at hA hval
  obtain ⟨v0, vs0, d0, ds0, p0, q0, hargs, rfl, rfl, h0, r0⟩ := trodAll_cons hA
  obtain ⟨v1, vs1, d1, ds1, p1, q1, rfl, rfl, rfl, h1, r1⟩ := trodAll_cons r0
  obtain ⟨v2, vs2, d2, ds2, p2, q2, rfl, rfl, rfl, h2, r2⟩ := trodAll_cons r1
  obtain ⟨rfl, rfl, rfl⟩ := trodAll_nil r2
  obtain rfl : args = #[v0, v1, v2] := by cases args; simp_all
  obtain ⟨rfl, rfl⟩ := trodVars_none hV
  obtain ⟨X0, rfl, rfl, rfl, k0⟩ := open_mat (hval 0 27 v0 rfl rfl) h0
  obtain ⟨X1, rfl, rfl, rfl, k1⟩ := open_mat (hval 1 27 v1 rfl rfl) h1
  obtain ⟨x2, y2, z2, rfl, rfl, rfl, k2, l2, m2⟩ := open_vec (hval 2 24 v2 rfl rfl) h2
  clear hA0 hval0
  refine (matSums_walk X0 X1 x2 y2 z2 k0 k1 k2 l2 m2 W).mono fun e W' ⟨he, bel⟩ => ?_
  subst he
  exact ⟨_, rfl, _, _, _, [], [], [], hW', trodAll_mk1 (shut_bool Try.underlying4 _), (trodAll_cons_mk (shut_mat k0) (trodAll_cons_mk (shut_mat k1) (trodAll_cons_mk (shut_vec k2 l2 m2) trodAll_mk0))), rfl, bel.frame _, fun h => by cases h⟩

theorem matSums_named : Try.pinned.checked.prog.funcNamed Rows.matSumsRow.func = some 3 := by kernel_rfl
theorem matSums_k1 : (Rows.matSumsRow.wf (OpenSpec.ofChange Rows.matSumsSpec) && laidOutB Try.pinned.checked.prog && mapsRowed Try.pinned.checked.prog && Try.f3.params.all (Try.pinned.checked.prog.readableRec ·) && namedTie Try.pinned.checked.prog Rows.matSumsRow.named Rows.matSumsSpec.vars) = true := by kernel_rfl
theorem matSums_k2 : ((Rows.matSumsRow.stops == []) && (Try.pinned.checked.prog.stops == []) && (Rows.matSumsRow.knobs == []) && (Try.pinned.checked.prog.stopKnobs == [])) = true := by kernel_rfl
theorem matSums_k3 : (Rows.matSumsRow.inPlace == Try.pinned.checked.prog.inPlace 3) = true := by kernel_rfl
theorem matSums_k4 : (Rows.matSumsRow.unfollowed == Try.pinned.checked.prog.unfollowed 3) = true := by kernel_rfl
theorem matSums_k5 : (Rows.matSumsRow.recurses == Try.pinned.checked.prog.recurses 3) = true := by kernel_rfl
theorem matSums_k6 : (Rows.matSumsRow.named == Try.pinned.checked.prog.varsNamed 3) = true := by kernel_rfl
theorem matSums_k7 : ((Rows.matSumsRow.maps == (Try.f3.params.toList ++ Rows.matSumsSpec.plain.varTypes Try.pinned.checked.prog).any (Try.pinned.checked.prog.mapsRec ·)) && (Rows.matSumsRow.ifaces == (Try.f3.params.toList ++ Rows.matSumsSpec.plain.varTypes Try.pinned.checked.prog).any (Try.pinned.checked.prog.ifacesRec ·)) && (Rows.matSumsRow.mapsOut == Try.pinned.checked.prog.mapsAmong Try.f3.resultTypes.toList) &&
  (Rows.matSumsRow.loops == (Try.f3.params.toList ++ Rows.matSumsSpec.plain.varTypes Try.pinned.checked.prog).any (Try.pinned.checked.prog.loopsFrom ·)) && (Rows.matSumsRow.wideKeys == (Try.f3.params.toList ++ Rows.matSumsSpec.plain.varTypes Try.pinned.checked.prog ++ Try.f3.resultTypes.toList).any (Try.pinned.checked.prog.wideKeysFrom ·)) &&
  Rows.matSumsSpec.vars.all (Try.pinned.checked.prog.varReadable ·) && Try.f3.resultTypes.all (fun t => Try.pinned.checked.prog.readableRec t && decide (t < Try.pinned.checked.prog.types.size)) && (Rows.matSumsRow.ifacesOut == Try.f3.resultTypes.toList.any (Try.pinned.checked.prog.ifacesRec ·)) && (Rows.matSumsRow.loopsOut == Try.f3.resultTypes.toList.any (Try.pinned.checked.prog.loopsFrom ·)) && (Rows.matSumsRow.plainKeys == Try.pinned.checked.prog.plainKeys) && Rows.matSumsRow.shortTexts.isNone) = true := by kernel_rfl
theorem matSums_k8 : (Rows.matSumsRow.lifted == Rows.matSumsRow.lifted) = true := by kernel_rfl
theorem matSums_k9 : ((Try.pinned.checked.prog.make == some Rows.matSumsRow.make) && (Rows.matSumsRow.kinds == (if Rows.matSumsRow.domain.isEmpty then [] else Try.f3.params.toList.map fun t => match Try.pinned.checked.prog.underlying t with | some (.int k) => some k | _ => none)) && (Rows.matSumsRow.pinned == Rows.matSumsRow.pinnedBy) &&
  (Rows.matSumsRow.veiled == (Try.f3.params.toList ++ Rows.matSumsSpec.plain.varTypes Try.pinned.checked.prog ++ Try.f3.resultTypes.toList).any (Try.pinned.checked.prog.veiledRec ·)) && Rows.matSumsRow.veiledFits Try.pinned.checked.prog Try.f3.params.toList (Try.f3.params.toList ++ Rows.matSumsSpec.plain.varTypes Try.pinned.checked.prog ++ Try.f3.resultTypes.toList)) = true := by kernel_rfl
theorem matSums_closed : joinedFacts Try.pinned.checked.prog 3 Try.f3 Rows.matSumsSpec Rows.matSumsRow = true :=
  joined_split ⟨matSums_k1, matSums_k2, matSums_k3, matSums_k4, matSums_k5, matSums_k6, matSums_k7, seat_heard, seat_enter, lifts_of matSums_k8, matSums_k9⟩
theorem matSums_over : Rows.matSumsRow.holds Try.pinned (OpenSpec.ofChange Rows.matSumsSpec) :=
  OpenClaim.holds_of_wide 3 Try.f3 rfl rfl rfl rfl rfl rfl rfl ⟨rfl, rfl, rfl, rfl, rfl⟩ rfl rfl rfl rfl rfl matSums_named Try.func3 matSums_closed
    (of_decide_eq_true (by kernel_rfl)) (by unfold Func.isWrapper; rw [if_neg (of_decide_eq_false (by kernel_rfl))]; exact ⟨rfl, rfl⟩)
    (fun os started H enc _ => matSums_lifted os started H enc)

/-- The statement. -/
theorem matSums_holds : Rows.MatSumsSaid := matSums_over

end Go.Proofs.Ytcbepibdeokboaa
