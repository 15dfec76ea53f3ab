/- For each slice of points and all points p and by the law OrientMoved returns true, and its arguments read behind the call as they did before. No condition. -/
import Derived.Test.YtnknejdmoghmiaaLe
import Derived.Test.YtnknejdmoghmiaaHw
namespace Go.Proofs.Ytnknejdmoghmiaa
open Go.ChangeShapes Go.WideShapes Go.ChangeAt Go.RowKit
set_option maxRecDepth 4000
set_option linter.unusedVariables false

theorem orientMoved_own : ownKnob Try.prog.godebug = none := by kernel_rfl

set_option maxRecDepth 100000 in
theorem orientMoved_lifted (os : Os) (started : os.Started) (H : Type) (enc : TypeId × Value → H) :
    ReturnsInHanded {} Try.checked os 18 .any (Rows.orientMovedSpec.pre6 enc Try.prog Try.f18 Rows.orientMovedRow.domain false) (Rows.orientMovedSpec.post enc Try.prog Try.f18 false true false false) := by
  refine returnsInHanded_of_change (C := Try.checked) orientMoved_own started (by kernel_rfl) Try.func18
    (ChangeSpec.witness6 (enc := enc) (C := Try.checked) false ⟨#[], #[.slice none 0 0, .agg #[.int .i64 0, .int .i64 0, .int .i64 0], .agg #[.int .i64 0, .int .i64 0, .int .i64 0]], []⟩ 8 (by kernel_rfl) (by kernel_rfl) (by kernel_rfl) (by kernel_rfl)) ?_
  intro W base args ds gs before hval0 hW hcnd _
  have hval : ∀ (j : Nat) t v, Try.f18.params[j]? = some t → args[j]? = some v → Value.okWide Try.prog W .any base t v := hval0
  have hW' := hW
  obtain ⟨p, q, hA0, hV, rfl, hfz, hnd⟩ := hW
  have hA : DataW.TrodAll enc Try.prog W 0 (fun _ => true) true Try.f18.params.toList args.toList ds p := hA0
  rw [Try.params18] at hA hval
  obtain ⟨v0, vs0, d0, ds0, p0, q0, hargs, rfl, rfl, h0, r0⟩ := trodAll_cons hA
  obtain ⟨v1, vs1, d1, ds1, p1, q1, rfl, rfl, rfl, h1, r1⟩ := trodAll_cons r0
  obtain ⟨v2, vs2, d2, ds2, p2, q2, rfl, rfl, rfl, h2, r2⟩ := trodAll_cons r1
  obtain ⟨rfl, rfl, rfl⟩ := trodAll_nil r2
  obtain rfl : args = #[v0, v1, v2] := by cases args; simp_all
  obtain ⟨rfl, rfl⟩ := trodVars_none hV
  obtain ⟨A0, n0, c0, ps0, rfl, hc0, hn0, hP0, hlt0⟩ := open_pts (hval 0 65 v0 rfl rfl) h0
  obtain ⟨x1, y1, z1, rfl, rfl, rfl, k1, l1, m1⟩ := open_pt (hval 1 26 v1 rfl rfl) h1
  obtain ⟨x2, y2, z2, rfl, rfl, rfl, k2, l2, m2⟩ := open_pt (hval 2 26 v2 rfl rfl) h2
  clear hA0 hval0
  refine (orientMoved_all A0 n0 c0 ps0 (x1, y1, z1) (x2, y2, z2) W hc0 hP0).mono fun e W' ⟨he, bel⟩ => ?_
  subst he
  exact ⟨_, rfl, _, _, _, [], _, [], hW', trodAll_mk1 (shut_bool Try.underlying4 _), (trodAll_cons_mk (Below.trod (by kernel_rfl) (by kernel_rfl) (of_decide_eq_true (by kernel_rfl)) h0 bel hlt0) (trodAll_cons_mk (shut_pt k1 l1 m1) (trodAll_cons_mk (shut_pt k2 l2 m2) trodAll_mk0))), rfl, bel.frame _, fun h => by cases h⟩

theorem orientMoved_named : Try.pinned.checked.prog.funcNamed Rows.orientMovedRow.func = some 18 := by kernel_rfl
theorem orientMoved_k1 : (Rows.orientMovedRow.wf (OpenSpec.ofChange Rows.orientMovedSpec) && laidOutB Try.pinned.checked.prog && mapsRowed Try.pinned.checked.prog && Try.f18.params.all (Try.pinned.checked.prog.readableRec ·) && namedTie Try.pinned.checked.prog Rows.orientMovedRow.named Rows.orientMovedSpec.vars) = true := by kernel_rfl
theorem orientMoved_k2 : ((Rows.orientMovedRow.stops == []) && (Try.pinned.checked.prog.stops == []) && (Rows.orientMovedRow.knobs == []) && (Try.pinned.checked.prog.stopKnobs == [])) = true := by kernel_rfl
theorem orientMoved_k3 : (Rows.orientMovedRow.inPlace == Try.pinned.checked.prog.inPlace 18) = true := by kernel_rfl
theorem orientMoved_k4 : (Rows.orientMovedRow.unfollowed == Try.pinned.checked.prog.unfollowed 18) = true := by kernel_rfl
theorem orientMoved_k5 : (Rows.orientMovedRow.recurses == Try.pinned.checked.prog.recurses 18) = true := by kernel_rfl
theorem orientMoved_k6 : (Rows.orientMovedRow.named == Try.pinned.checked.prog.varsNamed 18) = true := by kernel_rfl
theorem orientMoved_k7 : ((Rows.orientMovedRow.maps == (Try.f18.params.toList ++ Rows.orientMovedSpec.plain.varTypes Try.pinned.checked.prog).any (Try.pinned.checked.prog.mapsRec ·)) && (Rows.orientMovedRow.ifaces == (Try.f18.params.toList ++ Rows.orientMovedSpec.plain.varTypes Try.pinned.checked.prog).any (Try.pinned.checked.prog.ifacesRec ·)) && (Rows.orientMovedRow.mapsOut == Try.pinned.checked.prog.mapsAmong Try.f18.resultTypes.toList) &&
  (Rows.orientMovedRow.loops == (Try.f18.params.toList ++ Rows.orientMovedSpec.plain.varTypes Try.pinned.checked.prog).any (Try.pinned.checked.prog.loopsFrom ·)) && (Rows.orientMovedRow.wideKeys == (Try.f18.params.toList ++ Rows.orientMovedSpec.plain.varTypes Try.pinned.checked.prog ++ Try.f18.resultTypes.toList).any (Try.pinned.checked.prog.wideKeysFrom ·)) &&
  Rows.orientMovedSpec.vars.all (Try.pinned.checked.prog.varReadable ·) && Try.f18.resultTypes.all (fun t => Try.pinned.checked.prog.readableRec t && decide (t < Try.pinned.checked.prog.types.size)) && (Rows.orientMovedRow.ifacesOut == Try.f18.resultTypes.toList.any (Try.pinned.checked.prog.ifacesRec ·)) && (Rows.orientMovedRow.loopsOut == Try.f18.resultTypes.toList.any (Try.pinned.checked.prog.loopsFrom ·)) && (Rows.orientMovedRow.plainKeys == Try.pinned.checked.prog.plainKeys) && Rows.orientMovedRow.shortTexts.isNone) = true := by kernel_rfl
theorem orientMoved_k8 : (Rows.orientMovedRow.lifted == Rows.gridRoundRow.lifted) = true := by kernel_rfl
theorem orientMoved_k9 : ((Try.pinned.checked.prog.make == some Rows.orientMovedRow.make) && (Rows.orientMovedRow.kinds == (if Rows.orientMovedRow.domain.isEmpty then [] else Try.f18.params.toList.map fun t => match Try.pinned.checked.prog.underlying t with | some (.int k) => some k | _ => none)) && (Rows.orientMovedRow.pinned == Rows.orientMovedRow.pinnedBy) &&
  (Rows.orientMovedRow.veiled == (Try.f18.params.toList ++ Rows.orientMovedSpec.plain.varTypes Try.pinned.checked.prog ++ Try.f18.resultTypes.toList).any (Try.pinned.checked.prog.veiledRec ·)) && Rows.orientMovedRow.veiledFits Try.pinned.checked.prog Try.f18.params.toList (Try.f18.params.toList ++ Rows.orientMovedSpec.plain.varTypes Try.pinned.checked.prog ++ Try.f18.resultTypes.toList)) = true := by kernel_rfl
theorem orientMoved_closed : joinedFacts Try.pinned.checked.prog 18 Try.f18 Rows.orientMovedSpec Rows.orientMovedRow = true :=
  joined_split ⟨orientMoved_k1, orientMoved_k2, orientMoved_k3, orientMoved_k4, orientMoved_k5, orientMoved_k6, orientMoved_k7, seat_heard, seat_enter, lifts_of orientMoved_k8, orientMoved_k9⟩
theorem orientMoved_over : Rows.orientMovedRow.holds Try.pinned (OpenSpec.ofChange Rows.orientMovedSpec) :=
  OpenClaim.holds_of_wide 18 Try.f18 rfl rfl rfl rfl rfl rfl rfl ⟨rfl, rfl, rfl, rfl, rfl⟩ rfl rfl rfl rfl rfl orientMoved_named Try.func18 orientMoved_closed
    (of_decide_eq_true (by kernel_rfl)) (by unfold Func.isWrapper; rw [if_neg (of_decide_eq_false (by kernel_rfl))]; exact ⟨rfl, rfl⟩)
    (fun os started H enc _ => orientMoved_lifted os started H enc)

/-- The statement. -/
theorem orientMoved_holds : Rows.OrientMovedSaid := orientMoved_over

end Go.Proofs.Ytnknejdmoghmiaa
