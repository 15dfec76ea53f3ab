/- For each kind, radius and halves the law ShapeTurned returns true, and its arguments read behind the call as they did before. No condition. -/
import Derived.Test.YtnemedgdhojhdaaGreatIm
import Derived.Test.YtnemedgdhojhdaaGreatIi
namespace Go.Proofs.YtnemedgdhojhdaaGreat
open Go.ChangeShapes Go.WideShapes Go.ChangeAt Go.RowKit
set_option maxRecDepth 4000
set_option linter.unusedVariables false


theorem shapeTurned_own : ownKnob Tryz.prog.godebug = none := by kernel_rfl

set_option maxRecDepth 100000 in
theorem shapeTurned_lifted (os : Os) (started : os.Started) (H : Type) (enc : TypeId × Value → H) :
    ReturnsInHanded {} Tryz.checked os 7 .any (Rows.shapeTurnedSpec.pre6 enc Tryz.prog Tryz.f7 Rows.shapeTurnedRow.domain false) (Rows.shapeTurnedSpec.post enc Tryz.prog Tryz.f7 false true false false) := by
  refine returnsInHanded_of_change (C := Tryz.checked) shapeTurned_own started (by kernel_rfl) Tryz.func7
    (ChangeSpec.witness6 (enc := enc) (C := Tryz.checked) false ⟨#[], #[.int .i64 0, .int .i64 0, .agg #[.int .i64 0, .int .i64 0, .int .i64 0]], []⟩ 8 (by kernel_rfl) (by kernel_rfl) (by kernel_rfl) (by kernel_rfl)) ?_
  intro W base args ds gs before hval0 hW hcnd _
  have hval : ∀ (j : Nat) t v, Tryz.f7.params[j]? = some t → args[j]? = some v → Value.okWide Tryz.prog W .any base t v := hval0
  have hW' := hW
  obtain ⟨p, q, hA0, hV, rfl, hfz, hnd⟩ := hW
  have hA : DataW.TrodAll enc Tryz.prog W 0 (fun _ => true) true Tryz.f7.params.toList args.toList ds p := hA0
  rw [Tryz.params7] at hA hval
  obtain ⟨v0, vs0, d0, ds0, p0, q0, hargs, rfl, rfl, h0, r0⟩ := trodAll_cons hA
  obtain ⟨v1, vs1, d1, ds1, p1, q1, rfl, rfl, rfl, h1, r1⟩ := trodAll_cons r0
  obtain ⟨v2, vs2, d2, ds2, p2, q2, rfl, rfl, rfl, h2, r2⟩ := trodAll_cons r1
  obtain ⟨rfl, rfl, rfl⟩ := trodAll_nil r2
  obtain rfl : args = #[v0, v1, v2] := by cases args; simp_all
  obtain ⟨rfl, rfl⟩ := trodVars_none hV
  obtain ⟨a0, rfl, rfl, rfl, w0⟩ := open_int Tryz.underlying3 (hval 0 3 v0 rfl rfl) h0
  obtain ⟨a1, rfl, rfl, rfl, w1⟩ := open_int Tryz.underlying22 (hval 1 22 v1 rfl rfl) h1
  obtain ⟨x2, y2, z2, rfl, rfl, rfl, k2, l2, m2⟩ := open_vec (hval 2 24 v2 rfl rfl) h2
  clear hA0 hval0
  refine (shapeTurned_walk a0 a1 x2 y2 z2 w0 w1 k2 l2 m2 W).mono fun e W' ⟨he, bel⟩ => ?_
  subst he
  exact ⟨_, rfl, _, _, _, [], [], [], hW', trodAll_mk1 (shut_bool Tryz.underlying4 _), (trodAll_cons_mk (shut_int Tryz.underlying3 w0) (trodAll_cons_mk (shut_int Tryz.underlying22 w1) (trodAll_cons_mk (shut_vec k2 l2 m2) trodAll_mk0))), rfl, bel.frame _, fun h => by cases h⟩

theorem shapeTurned_named : Tryz.pinned.checked.prog.funcNamed Rows.shapeTurnedRow.func = some 7 := by kernel_rfl
theorem shapeTurned_k1 : (Rows.shapeTurnedRow.wf (OpenSpec.ofChange Rows.shapeTurnedSpec) && laidOutB Tryz.pinned.checked.prog && mapsRowed Tryz.pinned.checked.prog && Tryz.f7.params.all (Tryz.pinned.checked.prog.readableRec ·) && namedTie Tryz.pinned.checked.prog Rows.shapeTurnedRow.named Rows.shapeTurnedSpec.vars) = true := by kernel_rfl
theorem shapeTurned_k2 : ((Rows.shapeTurnedRow.stops == []) && (Tryz.pinned.checked.prog.stops == []) && (Rows.shapeTurnedRow.knobs == []) && (Tryz.pinned.checked.prog.stopKnobs == [])) = true := by kernel_rfl
theorem shapeTurned_k3 : (Rows.shapeTurnedRow.inPlace == Tryz.pinned.checked.prog.inPlace 7) = true := by kernel_rfl
theorem shapeTurned_k4 : (Rows.shapeTurnedRow.unfollowed == Tryz.pinned.checked.prog.unfollowed 7) = true := by kernel_rfl
theorem shapeTurned_k5 : (Rows.shapeTurnedRow.recurses == Tryz.pinned.checked.prog.recurses 7) = true := by kernel_rfl
theorem shapeTurned_k6 : (Rows.shapeTurnedRow.named == Tryz.pinned.checked.prog.varsNamed 7) = true := by kernel_rfl
theorem shapeTurned_k7 : ((Rows.shapeTurnedRow.maps == (Tryz.f7.params.toList ++ Rows.shapeTurnedSpec.plain.varTypes Tryz.pinned.checked.prog).any (Tryz.pinned.checked.prog.mapsRec ·)) && (Rows.shapeTurnedRow.ifaces == (Tryz.f7.params.toList ++ Rows.shapeTurnedSpec.plain.varTypes Tryz.pinned.checked.prog).any (Tryz.pinned.checked.prog.ifacesRec ·)) && (Rows.shapeTurnedRow.mapsOut == Tryz.pinned.checked.prog.mapsAmong Tryz.f7.resultTypes.toList) &&
  (Rows.shapeTurnedRow.loops == (Tryz.f7.params.toList ++ Rows.shapeTurnedSpec.plain.varTypes Tryz.pinned.checked.prog).any (Tryz.pinned.checked.prog.loopsFrom ·)) && (Rows.shapeTurnedRow.wideKeys == (Tryz.f7.params.toList ++ Rows.shapeTurnedSpec.plain.varTypes Tryz.pinned.checked.prog ++ Tryz.f7.resultTypes.toList).any (Tryz.pinned.checked.prog.wideKeysFrom ·)) &&
  Rows.shapeTurnedSpec.vars.all (Tryz.pinned.checked.prog.varReadable ·) && Tryz.f7.resultTypes.all (fun t => Tryz.pinned.checked.prog.readableRec t && decide (t < Tryz.pinned.checked.prog.types.size)) && (Rows.shapeTurnedRow.ifacesOut == Tryz.f7.resultTypes.toList.any (Tryz.pinned.checked.prog.ifacesRec ·)) && (Rows.shapeTurnedRow.loopsOut == Tryz.f7.resultTypes.toList.any (Tryz.pinned.checked.prog.loopsFrom ·)) && (Rows.shapeTurnedRow.plainKeys == Tryz.pinned.checked.prog.plainKeys) && Rows.shapeTurnedRow.shortTexts.isNone) = true := by kernel_rfl
theorem shapeTurned_k8 : (Rows.shapeTurnedRow.lifted == Rows.shapeCoreRow.lifted) = true := by kernel_rfl
theorem shapeTurned_k9 : ((Tryz.pinned.checked.prog.make == some Rows.shapeTurnedRow.make) && (Rows.shapeTurnedRow.kinds == (if Rows.shapeTurnedRow.domain.isEmpty then [] else Tryz.f7.params.toList.map fun t => match Tryz.pinned.checked.prog.underlying t with | some (.int k) => some k | _ => none)) && (Rows.shapeTurnedRow.pinned == Rows.shapeTurnedRow.pinnedBy) &&
  (Rows.shapeTurnedRow.veiled == (Tryz.f7.params.toList ++ Rows.shapeTurnedSpec.plain.varTypes Tryz.pinned.checked.prog ++ Tryz.f7.resultTypes.toList).any (Tryz.pinned.checked.prog.veiledRec ·)) && Rows.shapeTurnedRow.veiledFits Tryz.pinned.checked.prog Tryz.f7.params.toList (Tryz.f7.params.toList ++ Rows.shapeTurnedSpec.plain.varTypes Tryz.pinned.checked.prog ++ Tryz.f7.resultTypes.toList)) = true := by kernel_rfl
theorem shapeTurned_closed : joinedFacts Tryz.pinned.checked.prog 7 Tryz.f7 Rows.shapeTurnedSpec Rows.shapeTurnedRow = true :=
  joined_split ⟨shapeTurned_k1, shapeTurned_k2, shapeTurned_k3, shapeTurned_k4, shapeTurned_k5, shapeTurned_k6, shapeTurned_k7, seat_heard, seat_enter, lifts_of shapeTurned_k8, shapeTurned_k9⟩
theorem shapeTurned_over : Rows.shapeTurnedRow.holds Tryz.pinned (OpenSpec.ofChange Rows.shapeTurnedSpec) :=
  OpenClaim.holds_of_wide 7 Tryz.f7 rfl rfl rfl rfl rfl rfl rfl ⟨rfl, rfl, rfl, rfl, rfl⟩ rfl rfl rfl rfl rfl shapeTurned_named Tryz.func7 shapeTurned_closed
    (of_decide_eq_true (by kernel_rfl)) (by unfold Func.isWrapper; rw [if_neg (of_decide_eq_false (by kernel_rfl))]; exact ⟨rfl, rfl⟩)
    (fun os started H enc _ => shapeTurned_lifted os started H enc)

/-- The statement. -/
theorem shapeTurned_holds : Rows.ShapeTurnedSaid := shapeTurned_over

end Go.Proofs.YtnemedgdhojhdaaGreat
