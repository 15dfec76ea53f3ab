/- For every span n (three numbers of 512 bits) and every point p (three int64 numbers) the law GridAlong returns true, and its arguments read behind the call as they did before. No condition. -/
import Derived.Test.YtbgafjdgahikcaaGq
import Derived.Test.YtbgafjdgahikcaaGx
namespace Go.Proofs.Ytbgafjdgahikcaa
open Go.ChangeShapes Go.WideShapes Go.ChangeAt Go.RowKit
set_option maxRecDepth 4000
set_option linter.unusedVariables false

theorem gridAlong_own : ownKnob Try.prog.godebug = none := by kernel_rfl

set_option maxRecDepth 100000 in
theorem gridAlong_lifted (os : Os) (started : os.Started) (H : Type) (enc : TypeId × Value → H) :
    ReturnsInHanded {} Try.checked os 6 .any (Rows.gridAlongSpec.pre6 enc Try.prog Try.f6 Rows.gridAlongRow.domain false) (Rows.gridAlongSpec.post enc Try.prog Try.f6 false true false false) := by
  refine returnsInHanded_of_change (C := Try.checked) gridAlong_own started (by kernel_rfl) Try.func6
    (ChangeSpec.witness6 (enc := enc) (C := Try.checked) false ⟨#[], #[.agg #[.int .u64 0, .int .u64 0, .int .u64 0, .int .u64 0, .int .u64 0, .int .u64 0, .int .u64 0, .int .u64 0, .int .u64 0, .int .u64 0, .int .u64 0, .int .u64 0, .int .u64 0, .int .u64 0, .int .u64 0, .int .u64 0, .int .u64 0, .int .u64 0, .int .u64 0, .int .u64 0, .int .u64 0, .int .u64 0, .int .u64 0, .int .u64 0], .agg #[.int .i64 0, .int .i64 0, .int .i64 0]], []⟩ 8 (by kernel_rfl) (by kernel_rfl) (by kernel_rfl) (by kernel_rfl)) ?_
  intro W base args ds gs before hval0 hW hcnd _
  have hval : ∀ (j : Nat) t v, Try.f6.params[j]? = some t → args[j]? = some v → Value.okWide Try.prog W .any base t v := hval0
  have hW' := hW
  obtain ⟨p, q, hA0, hV, rfl, hfz, hnd⟩ := hW
  have hA : DataW.TrodAll enc Try.prog W 0 (fun _ => true) true Try.f6.params.toList args.toList ds p := hA0
  rw [Try.params6] at hA hval
  obtain ⟨v0, vs0, d0, ds0, p0, q0, hargs, rfl, rfl, h0, r0⟩ := trodAll_cons hA
  obtain ⟨v1, vs1, d1, ds1, p1, q1, rfl, rfl, rfl, h1, r1⟩ := trodAll_cons r0
  obtain ⟨rfl, rfl, rfl⟩ := trodAll_nil r1
  obtain rfl : args = #[v0, v1] := by cases args; simp_all
  obtain ⟨rfl, rfl⟩ := trodVars_none hV
  obtain ⟨x0, y0, z0, rfl, rfl, rfl⟩ := open_span (hval 0 43 v0 rfl rfl) h0
  obtain ⟨x1, y1, z1, rfl, rfl, rfl, k1, l1, m1⟩ := open_pt (hval 1 26 v1 rfl rfl) h1
  clear hA0 hval0
  refine (gridAlong_walk x0 y0 z0 x1 y1 z1 k1 l1 m1 W).mono fun e W' ⟨he, bel⟩ => ?_
  subst he
  exact ⟨_, rfl, _, _, _, [], [], [], hW', trodAll_mk1 (shut_bool Try.underlying4 _), (trodAll_cons_mk (shut_span x0 y0 z0) (trodAll_cons_mk (shut_pt k1 l1 m1) trodAll_mk0)), rfl, bel.frame _, fun h => by cases h⟩

theorem gridAlong_named : Try.pinned.checked.prog.funcNamed Rows.gridAlongRow.func = some 6 := by kernel_rfl
theorem gridAlong_k1 : (Rows.gridAlongRow.wf (OpenSpec.ofChange Rows.gridAlongSpec) && laidOutB Try.pinned.checked.prog && mapsRowed Try.pinned.checked.prog && Try.f6.params.all (Try.pinned.checked.prog.readableRec ·) && namedTie Try.pinned.checked.prog Rows.gridAlongRow.named Rows.gridAlongSpec.vars) = true := by kernel_rfl
theorem gridAlong_k2 : ((Rows.gridAlongRow.stops == []) && (Try.pinned.checked.prog.stops == []) && (Rows.gridAlongRow.knobs == []) && (Try.pinned.checked.prog.stopKnobs == [])) = true := by kernel_rfl
theorem gridAlong_k3 : (Rows.gridAlongRow.inPlace == Try.pinned.checked.prog.inPlace 6) = true := by kernel_rfl
theorem gridAlong_k4 : (Rows.gridAlongRow.unfollowed == Try.pinned.checked.prog.unfollowed 6) = true := by kernel_rfl
theorem gridAlong_k5 : (Rows.gridAlongRow.recurses == Try.pinned.checked.prog.recurses 6) = true := by kernel_rfl
theorem gridAlong_k6 : (Rows.gridAlongRow.named == Try.pinned.checked.prog.varsNamed 6) = true := by kernel_rfl
theorem gridAlong_k7 : ((Rows.gridAlongRow.maps == (Try.f6.params.toList ++ Rows.gridAlongSpec.plain.varTypes Try.pinned.checked.prog).any (Try.pinned.checked.prog.mapsRec ·)) && (Rows.gridAlongRow.ifaces == (Try.f6.params.toList ++ Rows.gridAlongSpec.plain.varTypes Try.pinned.checked.prog).any (Try.pinned.checked.prog.ifacesRec ·)) && (Rows.gridAlongRow.mapsOut == Try.pinned.checked.prog.mapsAmong Try.f6.resultTypes.toList) &&
  (Rows.gridAlongRow.loops == (Try.f6.params.toList ++ Rows.gridAlongSpec.plain.varTypes Try.pinned.checked.prog).any (Try.pinned.checked.prog.loopsFrom ·)) && (Rows.gridAlongRow.wideKeys == (Try.f6.params.toList ++ Rows.gridAlongSpec.plain.varTypes Try.pinned.checked.prog ++ Try.f6.resultTypes.toList).any (Try.pinned.checked.prog.wideKeysFrom ·)) &&
  Rows.gridAlongSpec.vars.all (Try.pinned.checked.prog.varReadable ·) && Try.f6.resultTypes.all (fun t => Try.pinned.checked.prog.readableRec t && decide (t < Try.pinned.checked.prog.types.size)) && (Rows.gridAlongRow.ifacesOut == Try.f6.resultTypes.toList.any (Try.pinned.checked.prog.ifacesRec ·)) && (Rows.gridAlongRow.loopsOut == Try.f6.resultTypes.toList.any (Try.pinned.checked.prog.loopsFrom ·)) && (Rows.gridAlongRow.plainKeys == Try.pinned.checked.prog.plainKeys) && Rows.gridAlongRow.shortTexts.isNone) = true := by kernel_rfl
theorem gridAlong_k8 : (Rows.gridAlongRow.lifted == Rows.gridProductsRow.lifted) = true := by kernel_rfl
theorem gridAlong_k9 : ((Try.pinned.checked.prog.make == some Rows.gridAlongRow.make) && (Rows.gridAlongRow.kinds == (if Rows.gridAlongRow.domain.isEmpty then [] else Try.f6.params.toList.map fun t => match Try.pinned.checked.prog.underlying t with | some (.int k) => some k | _ => none)) && (Rows.gridAlongRow.pinned == Rows.gridAlongRow.pinnedBy) &&
  (Rows.gridAlongRow.veiled == (Try.f6.params.toList ++ Rows.gridAlongSpec.plain.varTypes Try.pinned.checked.prog ++ Try.f6.resultTypes.toList).any (Try.pinned.checked.prog.veiledRec ·)) && Rows.gridAlongRow.veiledFits Try.pinned.checked.prog Try.f6.params.toList (Try.f6.params.toList ++ Rows.gridAlongSpec.plain.varTypes Try.pinned.checked.prog ++ Try.f6.resultTypes.toList)) = true := by kernel_rfl
theorem gridAlong_closed : joinedFacts Try.pinned.checked.prog 6 Try.f6 Rows.gridAlongSpec Rows.gridAlongRow = true :=
  joined_split ⟨gridAlong_k1, gridAlong_k2, gridAlong_k3, gridAlong_k4, gridAlong_k5, gridAlong_k6, gridAlong_k7, seat_heard, seat_enter, lifts_of gridAlong_k8, gridAlong_k9⟩
theorem gridAlong_over : Rows.gridAlongRow.holds Try.pinned (OpenSpec.ofChange Rows.gridAlongSpec) :=
  OpenClaim.holds_of_wide 6 Try.f6 rfl rfl rfl rfl rfl rfl rfl ⟨rfl, rfl, rfl, rfl, rfl⟩ rfl rfl rfl rfl rfl gridAlong_named Try.func6 gridAlong_closed
    (of_decide_eq_true (by kernel_rfl)) (by unfold Func.isWrapper; rw [if_neg (of_decide_eq_false (by kernel_rfl))]; exact ⟨rfl, rfl⟩)
    (fun os started H enc _ => gridAlong_lifted os started H enc)

/-- The statement. -/
theorem gridAlong_holds : Rows.GridAlongSaid := gridAlong_over

end Go.Proofs.Ytbgafjdgahikcaa
