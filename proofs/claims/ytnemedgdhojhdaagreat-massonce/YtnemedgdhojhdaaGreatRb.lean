/- For each mass the law MassOnce returns true, and its argument reads behind the call as it did before. No condition. -/
import Derived.Test.YtnemedgdhojhdaaGreatIg
import Derived.Test.YtnemedgdhojhdaaGreatIi
namespace Go.Proofs.YtnemedgdhojhdaaGreat
open Go.ChangeShapes Go.WideShapes Go.ChangeAt Go.RowKit
set_option maxRecDepth 4000
set_option linter.unusedVariables false

theorem massOnce_own : ownKnob Tryz.prog.godebug = none := by kernel_rfl

set_option maxRecDepth 100000 in
theorem massOnce_lifted (os : Os) (started : os.Started) (H : Type) (enc : TypeId × Value → H) :
    ReturnsInHanded {} Tryz.checked os 12 .any (Rows.massOnceSpec.pre6 enc Tryz.prog Tryz.f12 Rows.massOnceRow.domain false) (Rows.massOnceSpec.post enc Tryz.prog Tryz.f12 false true false false) := by
  refine returnsInHanded_of_change (C := Tryz.checked) massOnce_own started (by kernel_rfl) Tryz.func12
    (ChangeSpec.witness6 (enc := enc) (C := Tryz.checked) false ⟨#[], #[.agg #[.int .i64 0, .int .i64 0, .int .i64 0, .int .i64 0]], []⟩ 8 (by kernel_rfl) (by kernel_rfl) (by kernel_rfl) (by kernel_rfl)) ?_
  intro W base args ds gs before hval0 hW hcnd _
  have hval : ∀ (j : Nat) t v, Tryz.f12.params[j]? = some t → args[j]? = some v → Value.okWide Tryz.prog W .any base t v := hval0
  have hW' := hW
  obtain ⟨p, q, hA0, hV, rfl, hfz, hnd⟩ := hW
  have hA : DataW.TrodAll enc Tryz.prog W 0 (fun _ => true) true Tryz.f12.params.toList args.toList ds p := hA0
  rw [Tryz.params12] at hA hval
  obtain ⟨v0, vs0, d0, ds0, p0, q0, hargs, rfl, rfl, h0, r0⟩ := trodAll_cons hA
  obtain ⟨rfl, rfl, rfl⟩ := trodAll_nil r0
  obtain rfl : args = #[v0] := by cases args; simp_all
  obtain ⟨rfl, rfl⟩ := trodVars_none hV
  obtain ⟨m0, x0, y0, z0, rfl, k0, hlt0⟩ := open_mass (hval 0 46 v0 rfl rfl) h0
  clear hA0 hval0
  refine (massOnce_walk m0 x0 y0 z0 k0 W).mono fun e W' ⟨he, bel⟩ => ?_
  subst he
  exact ⟨_, rfl, _, _, _, [], _, [], hW', trodAll_mk1 (shut_bool Tryz.underlying4 _), (trodAll_cons_mk (Below.trod (by kernel_rfl) (by kernel_rfl) (of_decide_eq_true (by kernel_rfl)) h0 bel hlt0) trodAll_mk0), rfl, bel.frame _, fun h => by cases h⟩

theorem massOnce_named : Tryz.pinned.checked.prog.funcNamed Rows.massOnceRow.func = some 12 := by kernel_rfl
theorem massOnce_k1 : (Rows.massOnceRow.wf (OpenSpec.ofChange Rows.massOnceSpec) && laidOutB Tryz.pinned.checked.prog && mapsRowed Tryz.pinned.checked.prog && Tryz.f12.params.all (Tryz.pinned.checked.prog.readableRec ·) && namedTie Tryz.pinned.checked.prog Rows.massOnceRow.named Rows.massOnceSpec.vars) = true := by kernel_rfl
theorem massOnce_k2 : ((Rows.massOnceRow.stops == []) && (Tryz.pinned.checked.prog.stops == []) && (Rows.massOnceRow.knobs == []) && (Tryz.pinned.checked.prog.stopKnobs == [])) = true := by kernel_rfl
theorem massOnce_k3 : (Rows.massOnceRow.inPlace == Tryz.pinned.checked.prog.inPlace 12) = true := by kernel_rfl
theorem massOnce_k4 : (Rows.massOnceRow.unfollowed == Tryz.pinned.checked.prog.unfollowed 12) = true := by kernel_rfl
theorem massOnce_k5 : (Rows.massOnceRow.recurses == Tryz.pinned.checked.prog.recurses 12) = true := by kernel_rfl
theorem massOnce_k6 : (Rows.massOnceRow.named == Tryz.pinned.checked.prog.varsNamed 12) = true := by kernel_rfl
theorem massOnce_k7 : ((Rows.massOnceRow.maps == (Tryz.f12.params.toList ++ Rows.massOnceSpec.plain.varTypes Tryz.pinned.checked.prog).any (Tryz.pinned.checked.prog.mapsRec ·)) && (Rows.massOnceRow.ifaces == (Tryz.f12.params.toList ++ Rows.massOnceSpec.plain.varTypes Tryz.pinned.checked.prog).any (Tryz.pinned.checked.prog.ifacesRec ·)) && (Rows.massOnceRow.mapsOut == Tryz.pinned.checked.prog.mapsAmong Tryz.f12.resultTypes.toList) &&
  (Rows.massOnceRow.loops == (Tryz.f12.params.toList ++ Rows.massOnceSpec.plain.varTypes Tryz.pinned.checked.prog).any (Tryz.pinned.checked.prog.loopsFrom ·)) && (Rows.massOnceRow.wideKeys == (Tryz.f12.params.toList ++ Rows.massOnceSpec.plain.varTypes Tryz.pinned.checked.prog ++ Tryz.f12.resultTypes.toList).any (Tryz.pinned.checked.prog.wideKeysFrom ·)) &&
  Rows.massOnceSpec.vars.all (Tryz.pinned.checked.prog.varReadable ·) && Tryz.f12.resultTypes.all (fun t => Tryz.pinned.checked.prog.readableRec t && decide (t < Tryz.pinned.checked.prog.types.size)) && (Rows.massOnceRow.ifacesOut == Tryz.f12.resultTypes.toList.any (Tryz.pinned.checked.prog.ifacesRec ·)) && (Rows.massOnceRow.loopsOut == Tryz.f12.resultTypes.toList.any (Tryz.pinned.checked.prog.loopsFrom ·)) && (Rows.massOnceRow.plainKeys == Tryz.pinned.checked.prog.plainKeys) && Rows.massOnceRow.shortTexts.isNone) = true := by kernel_rfl
theorem massOnce_k8 : (Rows.massOnceRow.lifted == Rows.shapeCoreRow.lifted) = true := by kernel_rfl
theorem massOnce_k9 : ((Tryz.pinned.checked.prog.make == some Rows.massOnceRow.make) && (Rows.massOnceRow.kinds == (if Rows.massOnceRow.domain.isEmpty then [] else Tryz.f12.params.toList.map fun t => match Tryz.pinned.checked.prog.underlying t with | some (.int k) => some k | _ => none)) && (Rows.massOnceRow.pinned == Rows.massOnceRow.pinnedBy) &&
  (Rows.massOnceRow.veiled == (Tryz.f12.params.toList ++ Rows.massOnceSpec.plain.varTypes Tryz.pinned.checked.prog ++ Tryz.f12.resultTypes.toList).any (Tryz.pinned.checked.prog.veiledRec ·)) && Rows.massOnceRow.veiledFits Tryz.pinned.checked.prog Tryz.f12.params.toList (Tryz.f12.params.toList ++ Rows.massOnceSpec.plain.varTypes Tryz.pinned.checked.prog ++ Tryz.f12.resultTypes.toList)) = true := by kernel_rfl
theorem massOnce_closed : joinedFacts Tryz.pinned.checked.prog 12 Tryz.f12 Rows.massOnceSpec Rows.massOnceRow = true :=
  joined_split ⟨massOnce_k1, massOnce_k2, massOnce_k3, massOnce_k4, massOnce_k5, massOnce_k6, massOnce_k7, seat_heard, seat_enter, lifts_of massOnce_k8, massOnce_k9⟩
theorem massOnce_over : Rows.massOnceRow.holds Tryz.pinned (OpenSpec.ofChange Rows.massOnceSpec) :=
  OpenClaim.holds_of_wide 12 Tryz.f12 rfl rfl rfl rfl rfl rfl rfl ⟨rfl, rfl, rfl, rfl, rfl⟩ rfl rfl rfl rfl rfl massOnce_named Tryz.func12 massOnce_closed
    (of_decide_eq_true (by kernel_rfl)) (by unfold Func.isWrapper; rw [if_neg (of_decide_eq_false (by kernel_rfl))]; exact ⟨rfl, rfl⟩)
    (fun os started H enc _ => massOnce_lifted os started H enc)

/-- The statement. -/
theorem massOnce_holds : Rows.MassOnceSaid := massOnce_over

end Go.Proofs.YtnemedgdhojhdaaGreat
