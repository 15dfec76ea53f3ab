/- For all points a, b, c and p (three int64 numbers each) the law OrientTurns returns true, and its arguments read behind the call as they did before. No condition. -/
import Derived.Test.YtnknejdmoghmiaaHo
import Derived.Test.YtnknejdmoghmiaaGx
namespace Go.Proofs.Ytnknejdmoghmiaa
open Go.ChangeShapes Go.WideShapes Go.ChangeAt Go.RowKit
set_option maxRecDepth 4000
set_option linter.unusedVariables false

theorem orientTurns_walk (x0 y0 z0 x1 y1 z1 x2 y2 z2 x3 y3 z3 : Int) (k0 : (Lit.int .i64 x0).wf = true) (l0 : (Lit.int .i64 y0).wf = true) (m0 : (Lit.int .i64 z0).wf = true) (k1 : (Lit.int .i64 x1).wf = true) (l1 : (Lit.int .i64 y1).wf = true) (m1 : (Lit.int .i64 z1).wf = true) (k2 : (Lit.int .i64 x2).wf = true) (l2 : (Lit.int .i64 y2).wf = true) (m2 : (Lit.int .i64 z2).wf = true) (k3 : (Lit.int .i64 x3).wf = true) (l3 : (Lit.int .i64 y3).wf = true) (m3 : (Lit.int .i64 z3).wf = true) (w : World) : Calls Try.prog 17 #[.agg (v3 x0 y0 z0), .agg (v3 x1 y1 z1), .agg (v3 x2 y2 z2), .agg (v3 x3 y3 z3)] w fun e w' => e = .returned (.bool true) ∧ Below w.heap.size w w' :=
  orientTurns_all (x0, y0, z0) (x1, y1, z1) (x2, y2, z2) (x3, y3, z3) w

theorem orientTurns_own : ownKnob Try.prog.godebug = none := by kernel_rfl

set_option maxRecDepth 100000 in
theorem orientTurns_lifted (os : Os) (started : os.Started) (H : Type) (enc : TypeId × Value → H) :
    ReturnsInHanded {} Try.checked os 17 .any (Rows.orientTurnsSpec.pre6 enc Try.prog Try.f17 Rows.orientTurnsRow.domain false) (Rows.orientTurnsSpec.post enc Try.prog Try.f17 false true false false) := by
  refine returnsInHanded_of_change (C := Try.checked) orientTurns_own started (by kernel_rfl) Try.func17
    (ChangeSpec.witness6 (enc := enc) (C := Try.checked) false ⟨#[], #[.agg #[.int .i64 0, .int .i64 0, .int .i64 0], .agg #[.int .i64 0, .int .i64 0, .int .i64 0], .agg #[.int .i64 0, .int .i64 0, .int .i64 0], .agg #[.int .i64 0, .int .i64 0, .int .i64 0]], []⟩ 8 (by kernel_rfl) (by kernel_rfl) (by kernel_rfl) (by kernel_rfl)) ?_
  intro W base args ds gs before hval0 hW hcnd _
  have hval : ∀ (j : Nat) t v, Try.f17.params[j]? = some t → args[j]? = some v → Value.okWide Try.prog W .any base t v := hval0
  have hW' := hW
  obtain ⟨p, q, hA0, hV, rfl, hfz, hnd⟩ := hW
  have hA : DataW.TrodAll enc Try.prog W 0 (fun _ => true) true Try.f17.params.toList args.toList ds p := hA0
  rw [Try.params17] at hA hval
  obtain ⟨v0, vs0, d0, ds0, p0, q0, hargs, rfl, rfl, h0, r0⟩ := trodAll_cons hA
  obtain ⟨v1, vs1, d1, ds1, p1, q1, rfl, rfl, rfl, h1, r1⟩ := trodAll_cons r0
  obtain ⟨v2, vs2, d2, ds2, p2, q2, rfl, rfl, rfl, h2, r2⟩ := trodAll_cons r1
  obtain ⟨v3, vs3, d3, ds3, p3, q3, rfl, rfl, rfl, h3, r3⟩ := trodAll_cons r2
  obtain ⟨rfl, rfl, rfl⟩ := trodAll_nil r3
  obtain rfl : args = #[v0, v1, v2, v3] := by cases args; simp_all
  obtain ⟨rfl, rfl⟩ := trodVars_none hV
  obtain ⟨x0, y0, z0, rfl, rfl, rfl, k0, l0, m0⟩ := open_pt (hval 0 26 v0 rfl rfl) h0
  obtain ⟨x1, y1, z1, rfl, rfl, rfl, k1, l1, m1⟩ := open_pt (hval 1 26 v1 rfl rfl) h1
  obtain ⟨x2, y2, z2, rfl, rfl, rfl, k2, l2, m2⟩ := open_pt (hval 2 26 v2 rfl rfl) h2
  obtain ⟨x3, y3, z3, rfl, rfl, rfl, k3, l3, m3⟩ := open_pt (hval 3 26 v3 rfl rfl) h3
  clear hA0 hval0
  refine (orientTurns_walk x0 y0 z0 x1 y1 z1 x2 y2 z2 x3 y3 z3 k0 l0 m0 k1 l1 m1 k2 l2 m2 k3 l3 m3 W).mono fun e W' ⟨he, bel⟩ => ?_
  subst he
  exact ⟨_, rfl, _, _, _, [], [], [], hW', trodAll_mk1 (shut_bool Try.underlying4 _), (trodAll_cons_mk (shut_pt k0 l0 m0) (trodAll_cons_mk (shut_pt k1 l1 m1) (trodAll_cons_mk (shut_pt k2 l2 m2) (trodAll_cons_mk (shut_pt k3 l3 m3) trodAll_mk0)))), rfl, bel.frame _, fun h => by cases h⟩

theorem orientTurns_named : Try.pinned.checked.prog.funcNamed Rows.orientTurnsRow.func = some 17 := by kernel_rfl
theorem orientTurns_k1 : (Rows.orientTurnsRow.wf (OpenSpec.ofChange Rows.orientTurnsSpec) && laidOutB Try.pinned.checked.prog && mapsRowed Try.pinned.checked.prog && Try.f17.params.all (Try.pinned.checked.prog.readableRec ·) && namedTie Try.pinned.checked.prog Rows.orientTurnsRow.named Rows.orientTurnsSpec.vars) = true := by kernel_rfl
theorem orientTurns_k2 : ((Rows.orientTurnsRow.stops == []) && (Try.pinned.checked.prog.stops == []) && (Rows.orientTurnsRow.knobs == []) && (Try.pinned.checked.prog.stopKnobs == [])) = true := by kernel_rfl
theorem orientTurns_k3 : (Rows.orientTurnsRow.inPlace == Try.pinned.checked.prog.inPlace 17) = true := by kernel_rfl
theorem orientTurns_k4 : (Rows.orientTurnsRow.unfollowed == Try.pinned.checked.prog.unfollowed 17) = true := by kernel_rfl
theorem orientTurns_k5 : (Rows.orientTurnsRow.recurses == Try.pinned.checked.prog.recurses 17) = true := by kernel_rfl
theorem orientTurns_k6 : (Rows.orientTurnsRow.named == Try.pinned.checked.prog.varsNamed 17) = true := by kernel_rfl
theorem orientTurns_k7 : ((Rows.orientTurnsRow.maps == (Try.f17.params.toList ++ Rows.orientTurnsSpec.plain.varTypes Try.pinned.checked.prog).any (Try.pinned.checked.prog.mapsRec ·)) && (Rows.orientTurnsRow.ifaces == (Try.f17.params.toList ++ Rows.orientTurnsSpec.plain.varTypes Try.pinned.checked.prog).any (Try.pinned.checked.prog.ifacesRec ·)) && (Rows.orientTurnsRow.mapsOut == Try.pinned.checked.prog.mapsAmong Try.f17.resultTypes.toList) &&
  (Rows.orientTurnsRow.loops == (Try.f17.params.toList ++ Rows.orientTurnsSpec.plain.varTypes Try.pinned.checked.prog).any (Try.pinned.checked.prog.loopsFrom ·)) && (Rows.orientTurnsRow.wideKeys == (Try.f17.params.toList ++ Rows.orientTurnsSpec.plain.varTypes Try.pinned.checked.prog ++ Try.f17.resultTypes.toList).any (Try.pinned.checked.prog.wideKeysFrom ·)) &&
  Rows.orientTurnsSpec.vars.all (Try.pinned.checked.prog.varReadable ·) && Try.f17.resultTypes.all (fun t => Try.pinned.checked.prog.readableRec t && decide (t < Try.pinned.checked.prog.types.size)) && (Rows.orientTurnsRow.ifacesOut == Try.f17.resultTypes.toList.any (Try.pinned.checked.prog.ifacesRec ·)) && (Rows.orientTurnsRow.loopsOut == Try.f17.resultTypes.toList.any (Try.pinned.checked.prog.loopsFrom ·)) && (Rows.orientTurnsRow.plainKeys == Try.pinned.checked.prog.plainKeys) && Rows.orientTurnsRow.shortTexts.isNone) = true := by kernel_rfl
theorem orientTurns_k8 : (Rows.orientTurnsRow.lifted == Rows.gridRoundRow.lifted) = true := by kernel_rfl
theorem orientTurns_k9 : ((Try.pinned.checked.prog.make == some Rows.orientTurnsRow.make) && (Rows.orientTurnsRow.kinds == (if Rows.orientTurnsRow.domain.isEmpty then [] else Try.f17.params.toList.map fun t => match Try.pinned.checked.prog.underlying t with | some (.int k) => some k | _ => none)) && (Rows.orientTurnsRow.pinned == Rows.orientTurnsRow.pinnedBy) &&
  (Rows.orientTurnsRow.veiled == (Try.f17.params.toList ++ Rows.orientTurnsSpec.plain.varTypes Try.pinned.checked.prog ++ Try.f17.resultTypes.toList).any (Try.pinned.checked.prog.veiledRec ·)) && Rows.orientTurnsRow.veiledFits Try.pinned.checked.prog Try.f17.params.toList (Try.f17.params.toList ++ Rows.orientTurnsSpec.plain.varTypes Try.pinned.checked.prog ++ Try.f17.resultTypes.toList)) = true := by kernel_rfl
theorem orientTurns_closed : joinedFacts Try.pinned.checked.prog 17 Try.f17 Rows.orientTurnsSpec Rows.orientTurnsRow = true :=
  joined_split ⟨orientTurns_k1, orientTurns_k2, orientTurns_k3, orientTurns_k4, orientTurns_k5, orientTurns_k6, orientTurns_k7, seat_heard, seat_enter, lifts_of orientTurns_k8, orientTurns_k9⟩
theorem orientTurns_over : Rows.orientTurnsRow.holds Try.pinned (OpenSpec.ofChange Rows.orientTurnsSpec) :=
  OpenClaim.holds_of_wide 17 Try.f17 rfl rfl rfl rfl rfl rfl rfl ⟨rfl, rfl, rfl, rfl, rfl⟩ rfl rfl rfl rfl rfl orientTurns_named Try.func17 orientTurns_closed
    (of_decide_eq_true (by kernel_rfl)) (by unfold Func.isWrapper; rw [if_neg (of_decide_eq_false (by kernel_rfl))]; exact ⟨rfl, rfl⟩)
    (fun os started H enc _ => orientTurns_lifted os started H enc)

/-- The statement. -/
theorem orientTurns_holds : Rows.OrientTurnsSaid := orientTurns_over

end Go.Proofs.Ytnknejdmoghmiaa
