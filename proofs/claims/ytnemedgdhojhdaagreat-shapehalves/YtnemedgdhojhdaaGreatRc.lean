/- For each shape and number the law ShapeHalves returns true, and its arguments read behind the call as they did before. No condition. -/
import Derived.Test.YtnemedgdhojhdaaGreatIk
import Derived.Test.YtnemedgdhojhdaaGreatIi
namespace Go.Proofs.YtnemedgdhojhdaaGreat
open Go.ChangeShapes Go.WideShapes Go.ChangeAt Go.RowKit
set_option maxRecDepth 4000
set_option linter.unusedVariables false

theorem shapeHalves_walk (w : World) (kd rr x y z : Int) (A : Option Addr) (n cp : Nat) (ps : Nat → Pt) (r : Int) (k : ShOk w kd rr x y z A n cp ps) (h1 : (Lit.int .i64 r).wf = true) : Calls Tryz.prog 8 #[.agg (sh kd rr x y z A n cp), .int .i64 r] w fun e w' => e = .returned (.bool true) ∧ Below w.heap.size w w' :=
  shapeHalves_all kd rr x y z A n cp ps r k.hn k.hr k.hx k.hy k.hz (I64.wf h1) w k.hP k.hI

theorem shapeHalves_own : ownKnob Tryz.prog.godebug = none := by kernel_rfl

set_option maxRecDepth 100000 in
theorem shapeHalves_lifted (os : Os) (started : os.Started) (H : Type) (enc : TypeId × Value → H) :
    ReturnsInHanded {} Tryz.checked os 8 .any (Rows.shapeHalvesSpec.pre6 enc Tryz.prog Tryz.f8 Rows.shapeHalvesRow.domain false) (Rows.shapeHalvesSpec.post enc Tryz.prog Tryz.f8 false true false false) := by
  refine returnsInHanded_of_change (C := Tryz.checked) shapeHalves_own started (by kernel_rfl) Tryz.func8
    (ChangeSpec.witness6 (enc := enc) (C := Tryz.checked) false ⟨#[], #[.agg #[.int .i64 0, .int .i64 0, .int .i64 0, .int .i64 0, .int .i64 0, .slice none 0 0], .int .i64 0], []⟩ 8 (by kernel_rfl) (by kernel_rfl) (by kernel_rfl) (by kernel_rfl)) ?_
  intro W base args ds gs before hval0 hW hcnd _
  have hval : ∀ (j : Nat) t v, Tryz.f8.params[j]? = some t → args[j]? = some v → Value.okWide Tryz.prog W .any base t v := hval0
  have hW' := hW
  obtain ⟨p, q, hA0, hV, rfl, hfz, hnd⟩ := hW
  have hA : DataW.TrodAll enc Tryz.prog W 0 (fun _ => true) true Tryz.f8.params.toList args.toList ds p := hA0
  rw [Tryz.params8] at hA hval
  obtain ⟨v0, vs0, d0, ds0, p0, q0, hargs, rfl, rfl, h0, r0⟩ := trodAll_cons hA
  obtain ⟨v1, vs1, d1, ds1, p1, q1, rfl, rfl, rfl, h1, r1⟩ := trodAll_cons r0
  obtain ⟨rfl, rfl, rfl⟩ := trodAll_nil r1
  obtain rfl : args = #[v0, v1] := by cases args; simp_all
  obtain ⟨rfl, rfl⟩ := trodVars_none hV
  obtain ⟨kd0, rr0, x0, y0, z0, A0, n0, c0, ps0, rfl, k0, hlt0⟩ := open_shape (hval 0 27 v0 rfl rfl) h0
  obtain ⟨a1, rfl, rfl, rfl, w1⟩ := open_int Tryz.underlying22 (hval 1 22 v1 rfl rfl) h1
  clear hA0 hval0
  refine (shapeHalves_walk W kd0 rr0 x0 y0 z0 A0 n0 c0 ps0 a1 k0 w1).mono fun e W' ⟨he, bel⟩ => ?_
  subst he
  exact ⟨_, rfl, _, _, _, [], _, [], hW', trodAll_mk1 (shut_bool Tryz.underlying4 _), (trodAll_cons_mk (Below.trod (by kernel_rfl) (by kernel_rfl) (of_decide_eq_true (by kernel_rfl)) h0 bel hlt0) (trodAll_cons_mk (shut_int Tryz.underlying22 w1) trodAll_mk0)), rfl, bel.frame _, fun h => by cases h⟩

theorem shapeHalves_named : Tryz.pinned.checked.prog.funcNamed Rows.shapeHalvesRow.func = some 8 := by kernel_rfl
theorem shapeHalves_k1 : (Rows.shapeHalvesRow.wf (OpenSpec.ofChange Rows.shapeHalvesSpec) && laidOutB Tryz.pinned.checked.prog && mapsRowed Tryz.pinned.checked.prog && Tryz.f8.params.all (Tryz.pinned.checked.prog.readableRec ·) && namedTie Tryz.pinned.checked.prog Rows.shapeHalvesRow.named Rows.shapeHalvesSpec.vars) = true := by kernel_rfl
theorem shapeHalves_k2 : ((Rows.shapeHalvesRow.stops == []) && (Tryz.pinned.checked.prog.stops == []) && (Rows.shapeHalvesRow.knobs == []) && (Tryz.pinned.checked.prog.stopKnobs == [])) = true := by kernel_rfl
theorem shapeHalves_k3 : (Rows.shapeHalvesRow.inPlace == Tryz.pinned.checked.prog.inPlace 8) = true := by kernel_rfl
theorem shapeHalves_k4 : (Rows.shapeHalvesRow.unfollowed == Tryz.pinned.checked.prog.unfollowed 8) = true := by kernel_rfl
theorem shapeHalves_k5 : (Rows.shapeHalvesRow.recurses == Tryz.pinned.checked.prog.recurses 8) = true := by kernel_rfl
theorem shapeHalves_k6 : (Rows.shapeHalvesRow.named == Tryz.pinned.checked.prog.varsNamed 8) = true := by kernel_rfl
theorem shapeHalves_k7 : ((Rows.shapeHalvesRow.maps == (Tryz.f8.params.toList ++ Rows.shapeHalvesSpec.plain.varTypes Tryz.pinned.checked.prog).any (Tryz.pinned.checked.prog.mapsRec ·)) && (Rows.shapeHalvesRow.ifaces == (Tryz.f8.params.toList ++ Rows.shapeHalvesSpec.plain.varTypes Tryz.pinned.checked.prog).any (Tryz.pinned.checked.prog.ifacesRec ·)) && (Rows.shapeHalvesRow.mapsOut == Tryz.pinned.checked.prog.mapsAmong Tryz.f8.resultTypes.toList) &&
  (Rows.shapeHalvesRow.loops == (Tryz.f8.params.toList ++ Rows.shapeHalvesSpec.plain.varTypes Tryz.pinned.checked.prog).any (Tryz.pinned.checked.prog.loopsFrom ·)) && (Rows.shapeHalvesRow.wideKeys == (Tryz.f8.params.toList ++ Rows.shapeHalvesSpec.plain.varTypes Tryz.pinned.checked.prog ++ Tryz.f8.resultTypes.toList).any (Tryz.pinned.checked.prog.wideKeysFrom ·)) &&
  Rows.shapeHalvesSpec.vars.all (Tryz.pinned.checked.prog.varReadable ·) && Tryz.f8.resultTypes.all (fun t => Tryz.pinned.checked.prog.readableRec t && decide (t < Tryz.pinned.checked.prog.types.size)) && (Rows.shapeHalvesRow.ifacesOut == Tryz.f8.resultTypes.toList.any (Tryz.pinned.checked.prog.ifacesRec ·)) && (Rows.shapeHalvesRow.loopsOut == Tryz.f8.resultTypes.toList.any (Tryz.pinned.checked.prog.loopsFrom ·)) && (Rows.shapeHalvesRow.plainKeys == Tryz.pinned.checked.prog.plainKeys) && Rows.shapeHalvesRow.shortTexts.isNone) = true := by kernel_rfl
theorem shapeHalves_k8 : (Rows.shapeHalvesRow.lifted == Rows.shapeCoreRow.lifted) = true := by kernel_rfl
theorem shapeHalves_k9 : ((Tryz.pinned.checked.prog.make == some Rows.shapeHalvesRow.make) && (Rows.shapeHalvesRow.kinds == (if Rows.shapeHalvesRow.domain.isEmpty then [] else Tryz.f8.params.toList.map fun t => match Tryz.pinned.checked.prog.underlying t with | some (.int k) => some k | _ => none)) && (Rows.shapeHalvesRow.pinned == Rows.shapeHalvesRow.pinnedBy) &&
  (Rows.shapeHalvesRow.veiled == (Tryz.f8.params.toList ++ Rows.shapeHalvesSpec.plain.varTypes Tryz.pinned.checked.prog ++ Tryz.f8.resultTypes.toList).any (Tryz.pinned.checked.prog.veiledRec ·)) && Rows.shapeHalvesRow.veiledFits Tryz.pinned.checked.prog Tryz.f8.params.toList (Tryz.f8.params.toList ++ Rows.shapeHalvesSpec.plain.varTypes Tryz.pinned.checked.prog ++ Tryz.f8.resultTypes.toList)) = true := by kernel_rfl
theorem shapeHalves_closed : joinedFacts Tryz.pinned.checked.prog 8 Tryz.f8 Rows.shapeHalvesSpec Rows.shapeHalvesRow = true :=
  joined_split ⟨shapeHalves_k1, shapeHalves_k2, shapeHalves_k3, shapeHalves_k4, shapeHalves_k5, shapeHalves_k6, shapeHalves_k7, seat_heard, seat_enter, lifts_of shapeHalves_k8, shapeHalves_k9⟩
theorem shapeHalves_over : Rows.shapeHalvesRow.holds Tryz.pinned (OpenSpec.ofChange Rows.shapeHalvesSpec) :=
  OpenClaim.holds_of_wide 8 Tryz.f8 rfl rfl rfl rfl rfl rfl rfl ⟨rfl, rfl, rfl, rfl, rfl⟩ rfl rfl rfl rfl rfl shapeHalves_named Tryz.func8 shapeHalves_closed
    (of_decide_eq_true (by kernel_rfl)) (by unfold Func.isWrapper; rw [if_neg (of_decide_eq_false (by kernel_rfl))]; exact ⟨rfl, rfl⟩)
    (fun os started H enc _ => shapeHalves_lifted os started H enc)

/-- The statement. -/
theorem shapeHalves_holds : Rows.ShapeHalvesSaid := shapeHalves_over

end Go.Proofs.YtnemedgdhojhdaaGreat
