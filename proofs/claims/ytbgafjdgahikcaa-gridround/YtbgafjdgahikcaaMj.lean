/- For every vector v and every point p (three int64 numbers each) the law GridRound returns true, and its arguments read behind the call as they did before. No condition. -/
import Derived.Test.YtbgafjdgahikcaaGr
import Derived.Test.YtbgafjdgahikcaaGx
namespace Go.Proofs.Ytbgafjdgahikcaa
open Go.ChangeShapes Go.WideShapes Go.ChangeAt Go.RowKit
set_option maxRecDepth 4000
set_option linter.unusedVariables false

theorem gridRound_own : ownKnob Try.prog.godebug = none := by kernel_rfl

set_option maxRecDepth 100000 in
theorem gridRound_lifted (os : Os) (started : os.Started) (H : Type) (enc : TypeId × Value → H) :
    ReturnsInHanded {} Try.checked os 3 .any (Rows.gridRoundSpec.pre6 enc Try.prog Try.f3 Rows.gridRoundRow.domain false) (Rows.gridRoundSpec.post enc Try.prog Try.f3 false true false false) := by
  refine returnsInHanded_of_change (C := Try.checked) gridRound_own started (by kernel_rfl) Try.func3
    (ChangeSpec.witness6 (enc := enc) (C := Try.checked) false ⟨#[], #[.agg #[.int .i64 0, .int .i64 0, .int .i64 0], .agg #[.int .i64 0, .int .i64 0, .int .i64 0]], []⟩ 8 (by kernel_rfl) (by kernel_rfl) (by kernel_rfl) (by kernel_rfl)) ?_
  intro W base args ds gs before hval0 hW hcnd _
  have hval : ∀ (j : Nat) t v, Try.f3.params[j]? = some t → args[j]? = some v → Value.okWide Try.prog W .any base t v := hval0
  have hW' := hW
  obtain ⟨p, q, hA0, hV, rfl, hfz, hnd⟩ := hW
  have hA : DataW.TrodAll enc Try.prog W 0 (fun _ => true) true Try.f3.params.toList args.toList ds p := hA0
  rw [Try.params3] at hA hval
  obtain ⟨v0, vs0, d0, ds0, p0, q0, hargs, rfl, rfl, h0, r0⟩ := trodAll_cons hA
  obtain ⟨v1, vs1, d1, ds1, p1, q1, rfl, rfl, rfl, h1, r1⟩ := trodAll_cons r0
  obtain ⟨rfl, rfl, rfl⟩ := trodAll_nil r1
  obtain rfl : args = #[v0, v1] := by cases args; simp_all
  obtain ⟨rfl, rfl⟩ := trodVars_none hV
  obtain ⟨x0, y0, z0, rfl, rfl, rfl, k0, l0, m0⟩ := open_vec (hval 0 24 v0 rfl rfl) h0
  obtain ⟨x1, y1, z1, rfl, rfl, rfl, k1, l1, m1⟩ := open_pt (hval 1 26 v1 rfl rfl) h1
  clear hA0 hval0
  refine (gridRound_walk x0 y0 z0 x1 y1 z1 k0 l0 m0 k1 l1 m1 W).mono fun e W' ⟨he, bel⟩ => ?_
  subst he
  exact ⟨_, rfl, _, _, _, [], [], [], hW', trodAll_mk1 (shut_bool Try.underlying4 _), (trodAll_cons_mk (shut_vec k0 l0 m0) (trodAll_cons_mk (shut_pt k1 l1 m1) trodAll_mk0)), rfl, bel.frame _, fun h => by cases h⟩

theorem gridRound_named : Try.pinned.checked.prog.funcNamed Rows.gridRoundRow.func = some 3 := by kernel_rfl
theorem gridRound_k1 : (Rows.gridRoundRow.wf (OpenSpec.ofChange Rows.gridRoundSpec) && laidOutB Try.pinned.checked.prog && mapsRowed Try.pinned.checked.prog && Try.f3.params.all (Try.pinned.checked.prog.readableRec ·) && namedTie Try.pinned.checked.prog Rows.gridRoundRow.named Rows.gridRoundSpec.vars) = true := by kernel_rfl
theorem gridRound_k2 : ((Rows.gridRoundRow.stops == []) && (Try.pinned.checked.prog.stops == []) && (Rows.gridRoundRow.knobs == []) && (Try.pinned.checked.prog.stopKnobs == [])) = true := by kernel_rfl
theorem gridRound_k3 : (Rows.gridRoundRow.inPlace == Try.pinned.checked.prog.inPlace 3) = true := by kernel_rfl
theorem gridRound_k4 : (Rows.gridRoundRow.unfollowed == Try.pinned.checked.prog.unfollowed 3) = true := by kernel_rfl
theorem gridRound_k5 : (Rows.gridRoundRow.recurses == Try.pinned.checked.prog.recurses 3) = true := by kernel_rfl
theorem gridRound_k6 : (Rows.gridRoundRow.named == Try.pinned.checked.prog.varsNamed 3) = true := by kernel_rfl
theorem gridRound_k7 : ((Rows.gridRoundRow.maps == (Try.f3.params.toList ++ Rows.gridRoundSpec.plain.varTypes Try.pinned.checked.prog).any (Try.pinned.checked.prog.mapsRec ·)) && (Rows.gridRoundRow.ifaces == (Try.f3.params.toList ++ Rows.gridRoundSpec.plain.varTypes Try.pinned.checked.prog).any (Try.pinned.checked.prog.ifacesRec ·)) && (Rows.gridRoundRow.mapsOut == Try.pinned.checked.prog.mapsAmong Try.f3.resultTypes.toList) &&
  (Rows.gridRoundRow.loops == (Try.f3.params.toList ++ Rows.gridRoundSpec.plain.varTypes Try.pinned.checked.prog).any (Try.pinned.checked.prog.loopsFrom ·)) && (Rows.gridRoundRow.wideKeys == (Try.f3.params.toList ++ Rows.gridRoundSpec.plain.varTypes Try.pinned.checked.prog ++ Try.f3.resultTypes.toList).any (Try.pinned.checked.prog.wideKeysFrom ·)) &&
  Rows.gridRoundSpec.vars.all (Try.pinned.checked.prog.varReadable ·) && Try.f3.resultTypes.all (fun t => Try.pinned.checked.prog.readableRec t && decide (t < Try.pinned.checked.prog.types.size)) && (Rows.gridRoundRow.ifacesOut == Try.f3.resultTypes.toList.any (Try.pinned.checked.prog.ifacesRec ·)) && (Rows.gridRoundRow.loopsOut == Try.f3.resultTypes.toList.any (Try.pinned.checked.prog.loopsFrom ·)) && (Rows.gridRoundRow.plainKeys == Try.pinned.checked.prog.plainKeys) && Rows.gridRoundRow.shortTexts.isNone) = true := by kernel_rfl
theorem gridRound_k8 : (Rows.gridRoundRow.lifted == Rows.gridProductsRow.lifted) = true := by kernel_rfl
theorem gridRound_k9 : ((Try.pinned.checked.prog.make == some Rows.gridRoundRow.make) && (Rows.gridRoundRow.kinds == (if Rows.gridRoundRow.domain.isEmpty then [] else Try.f3.params.toList.map fun t => match Try.pinned.checked.prog.underlying t with | some (.int k) => some k | _ => none)) && (Rows.gridRoundRow.pinned == Rows.gridRoundRow.pinnedBy) &&
  (Rows.gridRoundRow.veiled == (Try.f3.params.toList ++ Rows.gridRoundSpec.plain.varTypes Try.pinned.checked.prog ++ Try.f3.resultTypes.toList).any (Try.pinned.checked.prog.veiledRec ·)) && Rows.gridRoundRow.veiledFits Try.pinned.checked.prog Try.f3.params.toList (Try.f3.params.toList ++ Rows.gridRoundSpec.plain.varTypes Try.pinned.checked.prog ++ Try.f3.resultTypes.toList)) = true := by kernel_rfl
theorem gridRound_closed : joinedFacts Try.pinned.checked.prog 3 Try.f3 Rows.gridRoundSpec Rows.gridRoundRow = true :=
  joined_split ⟨gridRound_k1, gridRound_k2, gridRound_k3, gridRound_k4, gridRound_k5, gridRound_k6, gridRound_k7, seat_heard, seat_enter, lifts_of gridRound_k8, gridRound_k9⟩
theorem gridRound_over : Rows.gridRoundRow.holds Try.pinned (OpenSpec.ofChange Rows.gridRoundSpec) :=
  OpenClaim.holds_of_wide 3 Try.f3 rfl rfl rfl rfl rfl rfl rfl ⟨rfl, rfl, rfl, rfl, rfl⟩ rfl rfl rfl rfl rfl gridRound_named Try.func3 gridRound_closed
    (of_decide_eq_true (by kernel_rfl)) (by unfold Func.isWrapper; rw [if_neg (of_decide_eq_false (by kernel_rfl))]; exact ⟨rfl, rfl⟩)
    (fun os started H enc _ => gridRound_lifted os started H enc)

/-- The statement. -/
theorem gridRound_holds : Rows.GridRoundSaid := gridRound_over

end Go.Proofs.Ytbgafjdgahikcaa
