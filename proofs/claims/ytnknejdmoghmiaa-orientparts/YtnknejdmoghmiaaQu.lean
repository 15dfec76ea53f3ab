/- For all points a, b, c, d and p (three int64 numbers each) the law OrientParts returns true, and its arguments read behind the call as they did before. No condition. -/
import Derived.Test.YtnknejdmoghmiaaLd
import Derived.Test.YtnknejdmoghmiaaGx
namespace Go.Proofs.Ytnknejdmoghmiaa
open Go.ChangeShapes Go.WideShapes Go.ChangeAt Go.RowKit
set_option maxRecDepth 4000
set_option linter.unusedVariables false

theorem orientParts_walk (x0 y0 z0 x1 y1 z1 x2 y2 z2 x3 y3 z3 x4 y4 z4 : Int) (k0 : (Lit.int .i64 x0).wf = true) (l0 : (Lit.int .i64 y0).wf = true) (m0 : (Lit.int .i64 z0).wf = true) (k1 : (Lit.int .i64 x1).wf = true) (l1 : (Lit.int .i64 y1).wf = true) (m1 : (Lit.int .i64 z1).wf = true) (k2 : (Lit.int .i64 x2).wf = true) (l2 : (Lit.int .i64 y2).wf = true) (m2 : (Lit.int .i64 z2).wf = true) (k3 : (Lit.int .i64 x3).wf = true) (l3 : (Lit.int .i64 y3).wf = true) (m3 : (Lit.int .i64 z3).wf = true) (k4 : (Lit.int .i64 x4).wf = true) (l4 : (Lit.int .i64 y4).wf = true) (m4 : (Lit.int .i64 z4).wf = true) (w : World) : Calls Try.prog 21 #[.agg (v3 x0 y0 z0), .agg (v3 x1 y1 z1), .agg (v3 x2 y2 z2), .agg (v3 x3 y3 z3), .agg (v3 x4 y4 z4)] w fun e w' => e = .returned (.bool true) ∧ Below w.heap.size w w' :=
  orientParts_all (x0, y0, z0) (x1, y1, z1) (x2, y2, z2) (x3, y3, z3) (x4, y4, z4) w

theorem orientParts_own : ownKnob Try.prog.godebug = none := by kernel_rfl

set_option maxRecDepth 100000 in
theorem orientParts_lifted (os : Os) (started : os.Started) (H : Type) (enc : TypeId × Value → H) :
    ReturnsInHanded {} Try.checked os 21 .any (Rows.orientPartsSpec.pre6 enc Try.prog Try.f21 Rows.orientPartsRow.domain false) (Rows.orientPartsSpec.post enc Try.prog Try.f21 false true false false) := by
  refine returnsInHanded_of_change (C := Try.checked) orientParts_own started (by kernel_rfl) Try.func21
    (ChangeSpec.witness6 (enc := enc) (C := Try.checked) false ⟨#[], #[.agg #[.int .i64 0, .int .i64 0, .int .i64 0], .agg #[.int .i64 0, .int .i64 0, .int .i64 0], .agg #[.int .i64 0, .int .i64 0, .int .i64 0], .agg #[.int .i64 0, .int .i64 0, .int .i64 0], .agg #[.int .i64 0, .int .i64 0, .int .i64 0]], []⟩ 8 (by kernel_rfl) (by kernel_rfl) (by kernel_rfl) (by kernel_rfl)) ?_
  intro W base args ds gs before hval0 hW hcnd _
  have hval : ∀ (j : Nat) t v, Try.f21.params[j]? = some t → args[j]? = some v → Value.okWide Try.prog W .any base t v := hval0
  have hW' := hW
  obtain ⟨p, q, hA0, hV, rfl, hfz, hnd⟩ := hW
  have hA : DataW.TrodAll enc Try.prog W 0 (fun _ => true) true Try.f21.params.toList args.toList ds p := hA0
  rw [Try.params21] at hA hval
  obtain ⟨v0, vs0, d0, ds0, p0, q0, hargs, rfl, rfl, h0, r0⟩ := trodAll_cons hA
  obtain ⟨v1, vs1, d1, ds1, p1, q1, rfl, rfl, rfl, h1, r1⟩ := trodAll_cons r0
  obtain ⟨v2, vs2, d2, ds2, p2, q2, rfl, rfl, rfl, h2, r2⟩ := trodAll_cons r1
  obtain ⟨v3, vs3, d3, ds3, p3, q3, rfl, rfl, rfl, h3, r3⟩ := trodAll_cons r2
  obtain ⟨v4, vs4, d4, ds4, p4, q4, rfl, rfl, rfl, h4, r4⟩ := trodAll_cons r3
  obtain ⟨rfl, rfl, rfl⟩ := trodAll_nil r4
  obtain rfl : args = #[v0, v1, v2, v3, v4] := by cases args; simp_all
  obtain ⟨rfl, rfl⟩ := trodVars_none hV
  obtain ⟨x0, y0, z0, rfl, rfl, rfl, k0, l0, m0⟩ := open_pt (hval 0 26 v0 rfl rfl) h0
  obtain ⟨x1, y1, z1, rfl, rfl, rfl, k1, l1, m1⟩ := open_pt (hval 1 26 v1 rfl rfl) h1
  obtain ⟨x2, y2, z2, rfl, rfl, rfl, k2, l2, m2⟩ := open_pt (hval 2 26 v2 rfl rfl) h2
  obtain ⟨x3, y3, z3, rfl, rfl, rfl, k3, l3, m3⟩ := open_pt (hval 3 26 v3 rfl rfl) h3
  obtain ⟨x4, y4, z4, rfl, rfl, rfl, k4, l4, m4⟩ := open_pt (hval 4 26 v4 rfl rfl) h4
  clear hA0 hval0
  refine (orientParts_walk x0 y0 z0 x1 y1 z1 x2 y2 z2 x3 y3 z3 x4 y4 z4 k0 l0 m0 k1 l1 m1 k2 l2 m2 k3 l3 m3 k4 l4 m4 W).mono fun e W' ⟨he, bel⟩ => ?_
  subst he
  exact ⟨_, rfl, _, _, _, [], [], [], hW', trodAll_mk1 (shut_bool Try.underlying4 _), (trodAll_cons_mk (shut_pt k0 l0 m0) (trodAll_cons_mk (shut_pt k1 l1 m1) (trodAll_cons_mk (shut_pt k2 l2 m2) (trodAll_cons_mk (shut_pt k3 l3 m3) (trodAll_cons_mk (shut_pt k4 l4 m4) trodAll_mk0))))), rfl, bel.frame _, fun h => by cases h⟩

theorem orientParts_named : Try.pinned.checked.prog.funcNamed Rows.orientPartsRow.func = some 21 := by kernel_rfl
theorem orientParts_k1 : (Rows.orientPartsRow.wf (OpenSpec.ofChange Rows.orientPartsSpec) && laidOutB Try.pinned.checked.prog && mapsRowed Try.pinned.checked.prog && Try.f21.params.all (Try.pinned.checked.prog.readableRec ·) && namedTie Try.pinned.checked.prog Rows.orientPartsRow.named Rows.orientPartsSpec.vars) = true := by kernel_rfl
theorem orientParts_k2 : ((Rows.orientPartsRow.stops == []) && (Try.pinned.checked.prog.stops == []) && (Rows.orientPartsRow.knobs == []) && (Try.pinned.checked.prog.stopKnobs == [])) = true := by kernel_rfl
theorem orientParts_k3 : (Rows.orientPartsRow.inPlace == Try.pinned.checked.prog.inPlace 21) = true := by kernel_rfl
theorem orientParts_k4 : (Rows.orientPartsRow.unfollowed == Try.pinned.checked.prog.unfollowed 21) = true := by kernel_rfl
theorem orientParts_k5 : (Rows.orientPartsRow.recurses == Try.pinned.checked.prog.recurses 21) = true := by kernel_rfl
theorem orientParts_k6 : (Rows.orientPartsRow.named == Try.pinned.checked.prog.varsNamed 21) = true := by kernel_rfl
theorem orientParts_k7 : ((Rows.orientPartsRow.maps == (Try.f21.params.toList ++ Rows.orientPartsSpec.plain.varTypes Try.pinned.checked.prog).any (Try.pinned.checked.prog.mapsRec ·)) && (Rows.orientPartsRow.ifaces == (Try.f21.params.toList ++ Rows.orientPartsSpec.plain.varTypes Try.pinned.checked.prog).any (Try.pinned.checked.prog.ifacesRec ·)) && (Rows.orientPartsRow.mapsOut == Try.pinned.checked.prog.mapsAmong Try.f21.resultTypes.toList) &&
  (Rows.orientPartsRow.loops == (Try.f21.params.toList ++ Rows.orientPartsSpec.plain.varTypes Try.pinned.checked.prog).any (Try.pinned.checked.prog.loopsFrom ·)) && (Rows.orientPartsRow.wideKeys == (Try.f21.params.toList ++ Rows.orientPartsSpec.plain.varTypes Try.pinned.checked.prog ++ Try.f21.resultTypes.toList).any (Try.pinned.checked.prog.wideKeysFrom ·)) &&
  Rows.orientPartsSpec.vars.all (Try.pinned.checked.prog.varReadable ·) && Try.f21.resultTypes.all (fun t => Try.pinned.checked.prog.readableRec t && decide (t < Try.pinned.checked.prog.types.size)) && (Rows.orientPartsRow.ifacesOut == Try.f21.resultTypes.toList.any (Try.pinned.checked.prog.ifacesRec ·)) && (Rows.orientPartsRow.loopsOut == Try.f21.resultTypes.toList.any (Try.pinned.checked.prog.loopsFrom ·)) && (Rows.orientPartsRow.plainKeys == Try.pinned.checked.prog.plainKeys) && Rows.orientPartsRow.shortTexts.isNone) = true := by kernel_rfl
theorem orientParts_k8 : (Rows.orientPartsRow.lifted == Rows.gridRoundRow.lifted) = true := by kernel_rfl
theorem orientParts_k9 : ((Try.pinned.checked.prog.make == some Rows.orientPartsRow.make) && (Rows.orientPartsRow.kinds == (if Rows.orientPartsRow.domain.isEmpty then [] else Try.f21.params.toList.map fun t => match Try.pinned.checked.prog.underlying t with | some (.int k) => some k | _ => none)) && (Rows.orientPartsRow.pinned == Rows.orientPartsRow.pinnedBy) &&
  (Rows.orientPartsRow.veiled == (Try.f21.params.toList ++ Rows.orientPartsSpec.plain.varTypes Try.pinned.checked.prog ++ Try.f21.resultTypes.toList).any (Try.pinned.checked.prog.veiledRec ·)) && Rows.orientPartsRow.veiledFits Try.pinned.checked.prog Try.f21.params.toList (Try.f21.params.toList ++ Rows.orientPartsSpec.plain.varTypes Try.pinned.checked.prog ++ Try.f21.resultTypes.toList)) = true := by kernel_rfl
theorem orientParts_closed : joinedFacts Try.pinned.checked.prog 21 Try.f21 Rows.orientPartsSpec Rows.orientPartsRow = true :=
  joined_split ⟨orientParts_k1, orientParts_k2, orientParts_k3, orientParts_k4, orientParts_k5, orientParts_k6, orientParts_k7, seat_heard, seat_enter, lifts_of orientParts_k8, orientParts_k9⟩
theorem orientParts_over : Rows.orientPartsRow.holds Try.pinned (OpenSpec.ofChange Rows.orientPartsSpec) :=
  OpenClaim.holds_of_wide 21 Try.f21 rfl rfl rfl rfl rfl rfl rfl ⟨rfl, rfl, rfl, rfl, rfl⟩ rfl rfl rfl rfl rfl orientParts_named Try.func21 orientParts_closed
    (of_decide_eq_true (by kernel_rfl)) (by unfold Func.isWrapper; rw [if_neg (of_decide_eq_false (by kernel_rfl))]; exact ⟨rfl, rfl⟩)
    (fun os started H enc _ => orientParts_lifted os started H enc)

/-- The statement. -/
theorem orientParts_holds : Rows.OrientPartsSaid := orientParts_over

end Go.Proofs.Ytnknejdmoghmiaa
