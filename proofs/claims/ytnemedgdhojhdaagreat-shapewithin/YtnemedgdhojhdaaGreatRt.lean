/- For each shape the law ShapeWithin returns true, and its argument reads behind the call as it did before. No condition. -/
import Derived.Test.YtnemedgdhojhdaaGreatIn
import Derived.Test.YtnemedgdhojhdaaGreatIi
namespace Go.Proofs.YtnemedgdhojhdaaGreat
open Go.ChangeShapes Go.WideShapes Go.ChangeAt Go.RowKit
set_option maxRecDepth 4000
set_option linter.unusedVariables false

theorem shapeWithin_walk (w : World) (kd rr x y z : Int) (A : Option Addr) (n cp : Nat) (ps : Nat → Pt) (k : ShOk w kd rr x y z A n cp ps) : Calls Tryz.prog 6 #[.agg (sh kd rr x y z A n cp)] w fun e w' => e = .returned (.bool true) ∧ Below w.heap.size w w' :=
  shapeWithin_all kd rr x y z A n cp ps k.hn k.hr k.hx k.hy k.hz w k.hP k.hI

theorem shapeWithin_own : ownKnob Tryz.prog.godebug = none := by kernel_rfl

set_option maxRecDepth 100000 in
theorem shapeWithin_lifted (os : Os) (started : os.Started) (H : Type) (enc : TypeId × Value → H) :
    ReturnsInHanded {} Tryz.checked os 6 .any (Rows.shapeWithinSpec.pre6 enc Tryz.prog Tryz.f6 Rows.shapeWithinRow.domain false) (Rows.shapeWithinSpec.post enc Tryz.prog Tryz.f6 false true false false) := by
  refine returnsInHanded_of_change (C := Tryz.checked) shapeWithin_own started (by kernel_rfl) Tryz.func6
    (ChangeSpec.witness6 (enc := enc) (C := Tryz.checked) false ⟨#[], #[.agg #[.int .i64 0, .int .i64 0, .int .i64 0, .int .i64 0, .int .i64 0, .slice none 0 0]], []⟩ 8 (by kernel_rfl) (by kernel_rfl) (by kernel_rfl) (by kernel_rfl)) ?_
  intro W base args ds gs before hval0 hW hcnd _
  have hval : ∀ (j : Nat) t v, Tryz.f6.params[j]? = some t → args[j]? = some v → Value.okWide Tryz.prog W .any base t v := hval0
  have hW' := hW
  obtain ⟨p, q, hA0, hV, rfl, hfz, hnd⟩ := hW
  have hA : DataW.TrodAll enc Tryz.prog W 0 (fun _ => true) true Tryz.f6.params.toList args.toList ds p := hA0
  rw [Tryz.params6] at hA hval
  obtain ⟨v0, vs0, d0, ds0, p0, q0, hargs, rfl, rfl, h0, r0⟩ := trodAll_cons hA
  obtain ⟨rfl, rfl, rfl⟩ := trodAll_nil r0
  obtain rfl : args = #[v0] := by cases args; simp_all
  obtain ⟨rfl, rfl⟩ := trodVars_none hV
  obtain ⟨kd0, rr0, x0, y0, z0, A0, n0, c0, ps0, rfl, k0, hlt0⟩ := open_shape (hval 0 27 v0 rfl rfl) h0
  clear hA0 hval0
  refine (shapeWithin_walk W kd0 rr0 x0 y0 z0 A0 n0 c0 ps0 k0).mono fun e W' ⟨he, bel⟩ => ?_
  subst he
  exact ⟨_, rfl, _, _, _, [], _, [], hW', trodAll_mk1 (shut_bool Tryz.underlying4 _), (trodAll_cons_mk (Below.trod (by kernel_rfl) (by kernel_rfl) (of_decide_eq_true (by kernel_rfl)) h0 bel hlt0) trodAll_mk0), rfl, bel.frame _, fun h => by cases h⟩

theorem shapeWithin_named : Tryz.pinned.checked.prog.funcNamed Rows.shapeWithinRow.func = some 6 := by kernel_rfl
theorem shapeWithin_k1 : (Rows.shapeWithinRow.wf (OpenSpec.ofChange Rows.shapeWithinSpec) && laidOutB Tryz.pinned.checked.prog && mapsRowed Tryz.pinned.checked.prog && Tryz.f6.params.all (Tryz.pinned.checked.prog.readableRec ·) && namedTie Tryz.pinned.checked.prog Rows.shapeWithinRow.named Rows.shapeWithinSpec.vars) = true := by kernel_rfl
theorem shapeWithin_k2 : ((Rows.shapeWithinRow.stops == []) && (Tryz.pinned.checked.prog.stops == []) && (Rows.shapeWithinRow.knobs == []) && (Tryz.pinned.checked.prog.stopKnobs == [])) = true := by kernel_rfl
theorem shapeWithin_k3 : (Rows.shapeWithinRow.inPlace == Tryz.pinned.checked.prog.inPlace 6) = true := by kernel_rfl
theorem shapeWithin_k4 : (Rows.shapeWithinRow.unfollowed == Tryz.pinned.checked.prog.unfollowed 6) = true := by kernel_rfl
theorem shapeWithin_k5 : (Rows.shapeWithinRow.recurses == Tryz.pinned.checked.prog.recurses 6) = true := by kernel_rfl
theorem shapeWithin_k6 : (Rows.shapeWithinRow.named == Tryz.pinned.checked.prog.varsNamed 6) = true := by kernel_rfl
theorem shapeWithin_k7 : ((Rows.shapeWithinRow.maps == (Tryz.f6.params.toList ++ Rows.shapeWithinSpec.plain.varTypes Tryz.pinned.checked.prog).any (Tryz.pinned.checked.prog.mapsRec ·)) && (Rows.shapeWithinRow.ifaces == (Tryz.f6.params.toList ++ Rows.shapeWithinSpec.plain.varTypes Tryz.pinned.checked.prog).any (Tryz.pinned.checked.prog.ifacesRec ·)) && (Rows.shapeWithinRow.mapsOut == Tryz.pinned.checked.prog.mapsAmong Tryz.f6.resultTypes.toList) &&
  (Rows.shapeWithinRow.loops == (Tryz.f6.params.toList ++ Rows.shapeWithinSpec.plain.varTypes Tryz.pinned.checked.prog).any (Tryz.pinned.checked.prog.loopsFrom ·)) && (Rows.shapeWithinRow.wideKeys == (Tryz.f6.params.toList ++ Rows.shapeWithinSpec.plain.varTypes Tryz.pinned.checked.prog ++ Tryz.f6.resultTypes.toList).any (Tryz.pinned.checked.prog.wideKeysFrom ·)) &&
  Rows.shapeWithinSpec.vars.all (Tryz.pinned.checked.prog.varReadable ·) && Tryz.f6.resultTypes.all (fun t => Tryz.pinned.checked.prog.readableRec t && decide (t < Tryz.pinned.checked.prog.types.size)) && (Rows.shapeWithinRow.ifacesOut == Tryz.f6.resultTypes.toList.any (Tryz.pinned.checked.prog.ifacesRec ·)) && (Rows.shapeWithinRow.loopsOut == Tryz.f6.resultTypes.toList.any (Tryz.pinned.checked.prog.loopsFrom ·)) && (Rows.shapeWithinRow.plainKeys == Tryz.pinned.checked.prog.plainKeys) && Rows.shapeWithinRow.shortTexts.isNone) = true := by kernel_rfl
theorem shapeWithin_k8 : (Rows.shapeWithinRow.lifted == Rows.shapeCoreRow.lifted) = true := by kernel_rfl
theorem shapeWithin_k9 : ((Tryz.pinned.checked.prog.make == some Rows.shapeWithinRow.make) && (Rows.shapeWithinRow.kinds == (if Rows.shapeWithinRow.domain.isEmpty then [] else Tryz.f6.params.toList.map fun t => match Tryz.pinned.checked.prog.underlying t with | some (.int k) => some k | _ => none)) && (Rows.shapeWithinRow.pinned == Rows.shapeWithinRow.pinnedBy) &&
  (Rows.shapeWithinRow.veiled == (Tryz.f6.params.toList ++ Rows.shapeWithinSpec.plain.varTypes Tryz.pinned.checked.prog ++ Tryz.f6.resultTypes.toList).any (Tryz.pinned.checked.prog.veiledRec ·)) && Rows.shapeWithinRow.veiledFits Tryz.pinned.checked.prog Tryz.f6.params.toList (Tryz.f6.params.toList ++ Rows.shapeWithinSpec.plain.varTypes Tryz.pinned.checked.prog ++ Tryz.f6.resultTypes.toList)) = true := by kernel_rfl
theorem shapeWithin_closed : joinedFacts Tryz.pinned.checked.prog 6 Tryz.f6 Rows.shapeWithinSpec Rows.shapeWithinRow = true :=
  joined_split ⟨shapeWithin_k1, shapeWithin_k2, shapeWithin_k3, shapeWithin_k4, shapeWithin_k5, shapeWithin_k6, shapeWithin_k7, seat_heard, seat_enter, lifts_of shapeWithin_k8, shapeWithin_k9⟩
theorem shapeWithin_over : Rows.shapeWithinRow.holds Tryz.pinned (OpenSpec.ofChange Rows.shapeWithinSpec) :=
  OpenClaim.holds_of_wide 6 Tryz.f6 rfl rfl rfl rfl rfl rfl rfl ⟨rfl, rfl, rfl, rfl, rfl⟩ rfl rfl rfl rfl rfl shapeWithin_named Tryz.func6 shapeWithin_closed
    (of_decide_eq_true (by kernel_rfl)) (by unfold Func.isWrapper; rw [if_neg (of_decide_eq_false (by kernel_rfl))]; exact ⟨rfl, rfl⟩)
    (fun os started H enc _ => shapeWithin_lifted os started H enc)

/-- The statement. -/
theorem shapeWithin_holds : Rows.ShapeWithinSaid := shapeWithin_over

end Go.Proofs.YtnemedgdhojhdaaGreat
