/- For each mass the law MassBack returns true, and its argument reads behind the call as it did before. No condition. -/
import Derived.Test.YtnemedgdhojhdaaGreatIq
import Derived.Test.YtnemedgdhojhdaaGreatIi
namespace Go.Proofs.YtnemedgdhojhdaaGreat
open Go.ChangeShapes Go.WideShapes Go.ChangeAt Go.RowKit
set_option maxRecDepth 4000
set_option linter.unusedVariables false

theorem massBack_own : ownKnob Tryz.prog.godebug = none := by kernel_rfl

set_option maxRecDepth 100000 in
theorem massBack_lifted (os : Os) (started : os.Started) (H : Type) (enc : TypeId × Value → H) :
    ReturnsInHanded {} Tryz.checked os 10 .any (Rows.massBackSpec.pre6 enc Tryz.prog Tryz.f10 Rows.massBackRow.domain false) (Rows.massBackSpec.post enc Tryz.prog Tryz.f10 false true false false) := by
  refine returnsInHanded_of_change (C := Tryz.checked) massBack_own started (by kernel_rfl) Tryz.func10
    (ChangeSpec.witness6 (enc := enc) (C := Tryz.checked) false ⟨#[], #[.agg #[.int .i64 0, .int .i64 0, .int .i64 0, .int .i64 0]], []⟩ 8 (by kernel_rfl) (by kernel_rfl) (by kernel_rfl) (by kernel_rfl)) ?_
  intro W base args ds gs before hval0 hW hcnd _
  have hval : ∀ (j : Nat) t v, Tryz.f10.params[j]? = some t → args[j]? = some v → Value.okWide Tryz.prog W .any base t v := hval0
  have hW' := hW
  obtain ⟨p, q, hA0, hV, rfl, hfz, hnd⟩ := hW
  have hA : DataW.TrodAll enc Tryz.prog W 0 (fun _ => true) true Tryz.f10.params.toList args.toList ds p := hA0
  rw [Tryz.params10] at hA hval
  obtain ⟨v0, vs0, d0, ds0, p0, q0, hargs, rfl, rfl, h0, r0⟩ := trodAll_cons hA
  obtain ⟨rfl, rfl, rfl⟩ := trodAll_nil r0
  obtain rfl : args = #[v0] := by cases args; simp_all
  obtain ⟨rfl, rfl⟩ := trodVars_none hV
  obtain ⟨m0, x0, y0, z0, rfl, k0, hlt0⟩ := open_mass (hval 0 46 v0 rfl rfl) h0
  clear hA0 hval0
  refine (massBack_walk m0 x0 y0 z0 k0 W).mono fun e W' ⟨he, bel⟩ => ?_
  subst he
  exact ⟨_, rfl, _, _, _, [], _, [], hW', trodAll_mk1 (shut_bool Tryz.underlying4 _), (trodAll_cons_mk (Below.trod (by kernel_rfl) (by kernel_rfl) (of_decide_eq_true (by kernel_rfl)) h0 bel hlt0) trodAll_mk0), rfl, bel.frame _, fun h => by cases h⟩

theorem massBack_named : Tryz.pinned.checked.prog.funcNamed Rows.massBackRow.func = some 10 := by kernel_rfl
theorem massBack_k1 : (Rows.massBackRow.wf (OpenSpec.ofChange Rows.massBackSpec) && laidOutB Tryz.pinned.checked.prog && mapsRowed Tryz.pinned.checked.prog && Tryz.f10.params.all (Tryz.pinned.checked.prog.readableRec ·) && namedTie Tryz.pinned.checked.prog Rows.massBackRow.named Rows.massBackSpec.vars) = true := by kernel_rfl
theorem massBack_k2 : ((Rows.massBackRow.stops == []) && (Tryz.pinned.checked.prog.stops == []) && (Rows.massBackRow.knobs == []) && (Tryz.pinned.checked.prog.stopKnobs == [])) = true := by kernel_rfl
theorem massBack_k3 : (Rows.massBackRow.inPlace == Tryz.pinned.checked.prog.inPlace 10) = true := by kernel_rfl
theorem massBack_k4 : (Rows.massBackRow.unfollowed == Tryz.pinned.checked.prog.unfollowed 10) = true := by kernel_rfl
theorem massBack_k5 : (Rows.massBackRow.recurses == Tryz.pinned.checked.prog.recurses 10) = true := by kernel_rfl
theorem massBack_k6 : (Rows.massBackRow.named == Tryz.pinned.checked.prog.varsNamed 10) = true := by kernel_rfl
theorem massBack_k7 : ((Rows.massBackRow.maps == (Tryz.f10.params.toList ++ Rows.massBackSpec.plain.varTypes Tryz.pinned.checked.prog).any (Tryz.pinned.checked.prog.mapsRec ·)) && (Rows.massBackRow.ifaces == (Tryz.f10.params.toList ++ Rows.massBackSpec.plain.varTypes Tryz.pinned.checked.prog).any (Tryz.pinned.checked.prog.ifacesRec ·)) && (Rows.massBackRow.mapsOut == Tryz.pinned.checked.prog.mapsAmong Tryz.f10.resultTypes.toList) &&
  (Rows.massBackRow.loops == (Tryz.f10.params.toList ++ Rows.massBackSpec.plain.varTypes Tryz.pinned.checked.prog).any (Tryz.pinned.checked.prog.loopsFrom ·)) && (Rows.massBackRow.wideKeys == (Tryz.f10.params.toList ++ Rows.massBackSpec.plain.varTypes Tryz.pinned.checked.prog ++ Tryz.f10.resultTypes.toList).any (Tryz.pinned.checked.prog.wideKeysFrom ·)) &&
  Rows.massBackSpec.vars.all (Tryz.pinned.checked.prog.varReadable ·) && Tryz.f10.resultTypes.all (fun t => Tryz.pinned.checked.prog.readableRec t && decide (t < Tryz.pinned.checked.prog.types.size)) && (Rows.massBackRow.ifacesOut == Tryz.f10.resultTypes.toList.any (Tryz.pinned.checked.prog.ifacesRec ·)) && (Rows.massBackRow.loopsOut == Tryz.f10.resultTypes.toList.any (Tryz.pinned.checked.prog.loopsFrom ·)) && (Rows.massBackRow.plainKeys == Tryz.pinned.checked.prog.plainKeys) && Rows.massBackRow.shortTexts.isNone) = true := by kernel_rfl
theorem massBack_k8 : (Rows.massBackRow.lifted == Rows.shapeCoreRow.lifted) = true := by kernel_rfl
theorem massBack_k9 : ((Tryz.pinned.checked.prog.make == some Rows.massBackRow.make) && (Rows.massBackRow.kinds == (if Rows.massBackRow.domain.isEmpty then [] else Tryz.f10.params.toList.map fun t => match Tryz.pinned.checked.prog.underlying t with | some (.int k) => some k | _ => none)) && (Rows.massBackRow.pinned == Rows.massBackRow.pinnedBy) &&
  (Rows.massBackRow.veiled == (Tryz.f10.params.toList ++ Rows.massBackSpec.plain.varTypes Tryz.pinned.checked.prog ++ Tryz.f10.resultTypes.toList).any (Tryz.pinned.checked.prog.veiledRec ·)) && Rows.massBackRow.veiledFits Tryz.pinned.checked.prog Tryz.f10.params.toList (Tryz.f10.params.toList ++ Rows.massBackSpec.plain.varTypes Tryz.pinned.checked.prog ++ Tryz.f10.resultTypes.toList)) = true := by kernel_rfl
theorem massBack_closed : joinedFacts Tryz.pinned.checked.prog 10 Tryz.f10 Rows.massBackSpec Rows.massBackRow = true :=
  joined_split ⟨massBack_k1, massBack_k2, massBack_k3, massBack_k4, massBack_k5, massBack_k6, massBack_k7, seat_heard, seat_enter, lifts_of massBack_k8, massBack_k9⟩
theorem massBack_over : Rows.massBackRow.holds Tryz.pinned (OpenSpec.ofChange Rows.massBackSpec) :=
  OpenClaim.holds_of_wide 10 Tryz.f10 rfl rfl rfl rfl rfl rfl rfl ⟨rfl, rfl, rfl, rfl, rfl⟩ rfl rfl rfl rfl rfl massBack_named Tryz.func10 massBack_closed
    (of_decide_eq_true (by kernel_rfl)) (by unfold Func.isWrapper; rw [if_neg (of_decide_eq_false (by kernel_rfl))]; exact ⟨rfl, rfl⟩)
    (fun os started H enc _ => massBack_lifted os started H enc)

/-- The statement. -/
theorem massBack_holds : Rows.MassBackSaid := massBack_over

end Go.Proofs.YtnemedgdhojhdaaGreat
