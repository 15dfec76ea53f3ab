/- For every span n (three numbers of 512 bits) the law GridPrime returns true, and its argument reads behind the call as it did before. No condition. -/
import Derived.Test.YtbgafjdgahikcaaGu
import Derived.Test.YtbgafjdgahikcaaGx
namespace Go.Proofs.Ytbgafjdgahikcaa
open Go.ChangeShapes Go.WideShapes Go.ChangeAt Go.RowKit
set_option maxRecDepth 4000
set_option linter.unusedVariables false

theorem gridPrime_own : ownKnob Try.prog.godebug = none := by kernel_rfl

set_option maxRecDepth 100000 in
theorem gridPrime_lifted (os : Os) (started : os.Started) (H : Type) (enc : TypeId × Value → H) :
    ReturnsInHanded {} Try.checked os 7 .any (Rows.gridPrimeSpec.pre6 enc Try.prog Try.f7 Rows.gridPrimeRow.domain false) (Rows.gridPrimeSpec.post enc Try.prog Try.f7 false true false false) := by
  refine returnsInHanded_of_change (C := Try.checked) gridPrime_own started (by kernel_rfl) Try.func7
    (ChangeSpec.witness6 (enc := enc) (C := Try.checked) false ⟨#[], #[.agg #[.int .u64 0, .int .u64 0, .int .u64 0, .int .u64 0, .int .u64 0, .int .u64 0, .int .u64 0, .int .u64 0, .int .u64 0, .int .u64 0, .int .u64 0, .int .u64 0, .int .u64 0, .int .u64 0, .int .u64 0, .int .u64 0, .int .u64 0, .int .u64 0, .int .u64 0, .int .u64 0, .int .u64 0, .int .u64 0, .int .u64 0, .int .u64 0]], []⟩ 8 (by kernel_rfl) (by kernel_rfl) (by kernel_rfl) (by kernel_rfl)) ?_
  intro W base args ds gs before hval0 hW hcnd _
  have hval : ∀ (j : Nat) t v, Try.f7.params[j]? = some t → args[j]? = some v → Value.okWide Try.prog W .any base t v := hval0
  have hW' := hW
  obtain ⟨p, q, hA0, hV, rfl, hfz, hnd⟩ := hW
  have hA : DataW.TrodAll enc Try.prog W 0 (fun _ => true) true Try.f7.params.toList args.toList ds p := hA0
  rw [Try.params7] at hA hval
  obtain ⟨v0, vs0, d0, ds0, p0, q0, hargs, rfl, rfl, h0, r0⟩ := trodAll_cons hA
  obtain ⟨rfl, rfl, rfl⟩ := trodAll_nil r0
  obtain rfl : args = #[v0] := by cases args; simp_all
  obtain ⟨rfl, rfl⟩ := trodVars_none hV
  obtain ⟨x0, y0, z0, rfl, rfl, rfl⟩ := open_span (hval 0 43 v0 rfl rfl) h0
  clear hA0 hval0
  refine (gridPrime_walk x0 y0 z0 W).mono fun e W' ⟨he, bel⟩ => ?_
  subst he
  exact ⟨_, rfl, _, _, _, [], [], [], hW', trodAll_mk1 (shut_bool Try.underlying4 _), (trodAll_cons_mk (shut_span x0 y0 z0) trodAll_mk0), rfl, bel.frame _, fun h => by cases h⟩

theorem gridPrime_named : Try.pinned.checked.prog.funcNamed Rows.gridPrimeRow.func = some 7 := by kernel_rfl
theorem gridPrime_k1 : (Rows.gridPrimeRow.wf (OpenSpec.ofChange Rows.gridPrimeSpec) && laidOutB Try.pinned.checked.prog && mapsRowed Try.pinned.checked.prog && Try.f7.params.all (Try.pinned.checked.prog.readableRec ·) && namedTie Try.pinned.checked.prog Rows.gridPrimeRow.named Rows.gridPrimeSpec.vars) = true := by kernel_rfl
theorem gridPrime_k2 : ((Rows.gridPrimeRow.stops == []) && (Try.pinned.checked.prog.stops == []) && (Rows.gridPrimeRow.knobs == []) && (Try.pinned.checked.prog.stopKnobs == [])) = true := by kernel_rfl
theorem gridPrime_k3 : (Rows.gridPrimeRow.inPlace == Try.pinned.checked.prog.inPlace 7) = true := by kernel_rfl
theorem gridPrime_k4 : (Rows.gridPrimeRow.unfollowed == Try.pinned.checked.prog.unfollowed 7) = true := by kernel_rfl
theorem gridPrime_k5 : (Rows.gridPrimeRow.recurses == Try.pinned.checked.prog.recurses 7) = true := by kernel_rfl
theorem gridPrime_k6 : (Rows.gridPrimeRow.named == Try.pinned.checked.prog.varsNamed 7) = true := by kernel_rfl
theorem gridPrime_k7 : ((Rows.gridPrimeRow.maps == (Try.f7.params.toList ++ Rows.gridPrimeSpec.plain.varTypes Try.pinned.checked.prog).any (Try.pinned.checked.prog.mapsRec ·)) && (Rows.gridPrimeRow.ifaces == (Try.f7.params.toList ++ Rows.gridPrimeSpec.plain.varTypes Try.pinned.checked.prog).any (Try.pinned.checked.prog.ifacesRec ·)) && (Rows.gridPrimeRow.mapsOut == Try.pinned.checked.prog.mapsAmong Try.f7.resultTypes.toList) &&
  (Rows.gridPrimeRow.loops == (Try.f7.params.toList ++ Rows.gridPrimeSpec.plain.varTypes Try.pinned.checked.prog).any (Try.pinned.checked.prog.loopsFrom ·)) && (Rows.gridPrimeRow.wideKeys == (Try.f7.params.toList ++ Rows.gridPrimeSpec.plain.varTypes Try.pinned.checked.prog ++ Try.f7.resultTypes.toList).any (Try.pinned.checked.prog.wideKeysFrom ·)) &&
  Rows.gridPrimeSpec.vars.all (Try.pinned.checked.prog.varReadable ·) && Try.f7.resultTypes.all (fun t => Try.pinned.checked.prog.readableRec t && decide (t < Try.pinned.checked.prog.types.size)) && (Rows.gridPrimeRow.ifacesOut == Try.f7.resultTypes.toList.any (Try.pinned.checked.prog.ifacesRec ·)) && (Rows.gridPrimeRow.loopsOut == Try.f7.resultTypes.toList.any (Try.pinned.checked.prog.loopsFrom ·)) && (Rows.gridPrimeRow.plainKeys == Try.pinned.checked.prog.plainKeys) && Rows.gridPrimeRow.shortTexts.isNone) = true := by kernel_rfl
theorem gridPrime_k8 : (Rows.gridPrimeRow.lifted == Rows.gridProductsRow.lifted) = true := by kernel_rfl
theorem gridPrime_k9 : ((Try.pinned.checked.prog.make == some Rows.gridPrimeRow.make) && (Rows.gridPrimeRow.kinds == (if Rows.gridPrimeRow.domain.isEmpty then [] else Try.f7.params.toList.map fun t => match Try.pinned.checked.prog.underlying t with | some (.int k) => some k | _ => none)) && (Rows.gridPrimeRow.pinned == Rows.gridPrimeRow.pinnedBy) &&
  (Rows.gridPrimeRow.veiled == (Try.f7.params.toList ++ Rows.gridPrimeSpec.plain.varTypes Try.pinned.checked.prog ++ Try.f7.resultTypes.toList).any (Try.pinned.checked.prog.veiledRec ·)) && Rows.gridPrimeRow.veiledFits Try.pinned.checked.prog Try.f7.params.toList (Try.f7.params.toList ++ Rows.gridPrimeSpec.plain.varTypes Try.pinned.checked.prog ++ Try.f7.resultTypes.toList)) = true := by kernel_rfl
theorem gridPrime_closed : joinedFacts Try.pinned.checked.prog 7 Try.f7 Rows.gridPrimeSpec Rows.gridPrimeRow = true :=
  joined_split ⟨gridPrime_k1, gridPrime_k2, gridPrime_k3, gridPrime_k4, gridPrime_k5, gridPrime_k6, gridPrime_k7, seat_heard, seat_enter, lifts_of gridPrime_k8, gridPrime_k9⟩
theorem gridPrime_over : Rows.gridPrimeRow.holds Try.pinned (OpenSpec.ofChange Rows.gridPrimeSpec) :=
  OpenClaim.holds_of_wide 7 Try.f7 rfl rfl rfl rfl rfl rfl rfl ⟨rfl, rfl, rfl, rfl, rfl⟩ rfl rfl rfl rfl rfl gridPrime_named Try.func7 gridPrime_closed
    (of_decide_eq_true (by kernel_rfl)) (by unfold Func.isWrapper; rw [if_neg (of_decide_eq_false (by kernel_rfl))]; exact ⟨rfl, rfl⟩)
    (fun os started H enc _ => gridPrime_lifted os started H enc)

/-- The statement. -/
theorem gridPrime_holds : Rows.GridPrimeSaid := gridPrime_over

end Go.Proofs.Ytbgafjdgahikcaa
