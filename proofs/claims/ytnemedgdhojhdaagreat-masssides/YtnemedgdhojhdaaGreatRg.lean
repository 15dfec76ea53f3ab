/- For each shape and two numbers the law MassSides returns true, and its arguments read behind the call as they did before. No condition. -/
import Derived.Test.YtnemedgdhojhdaaGreatIl
import Derived.Test.YtnemedgdhojhdaaGreatIi
namespace Go.Proofs.YtnemedgdhojhdaaGreat
open Go.ChangeShapes Go.WideShapes Go.ChangeAt Go.RowKit
set_option maxRecDepth 4000
set_option linter.unusedVariables false

theorem massSides_walk (w : World) (kd rr x y z : Int) (A : Option Addr) (n cp : Nat) (ps : Nat → Pt) (m1 m2 : Int) (k : ShOk w kd rr x y z A n cp ps) (h1 : (Lit.int .i64 m1).wf = true) (h2 : (Lit.int .i64 m2).wf = true) : Calls Tryz.prog 11 #[.agg (sh kd rr x y z A n cp), .int .i64 m1, .int .i64 m2] w fun e w' => e = .returned (.bool true) ∧ Below w.heap.size w w' :=
  massSides_all kd rr x y z A n cp ps m1 m2 k.hn k.hr k.hx k.hy k.hz (I64.wf h1) (I64.wf h2) w k.hP k.hI

theorem massSides_own : ownKnob Tryz.prog.godebug = none := by kernel_rfl

set_option maxRecDepth 100000 in
theorem massSides_lifted (os : Os) (started : os.Started) (H : Type) (enc : TypeId × Value → H) :
    ReturnsInHanded {} Tryz.checked os 11 .any (Rows.massSidesSpec.pre6 enc Tryz.prog Tryz.f11 Rows.massSidesRow.domain false) (Rows.massSidesSpec.post enc Tryz.prog Tryz.f11 false true false false) := by
  refine returnsInHanded_of_change (C := Tryz.checked) massSides_own started (by kernel_rfl) Tryz.func11
    (ChangeSpec.witness6 (enc := enc) (C := Tryz.checked) false ⟨#[], #[.agg #[.int .i64 0, .int .i64 0, .int .i64 0, .int .i64 0, .int .i64 0, .slice none 0 0], .int .i64 0, .int .i64 0], []⟩ 8 (by kernel_rfl) (by kernel_rfl) (by kernel_rfl) (by kernel_rfl)) ?_
  intro W base args ds gs before hval0 hW hcnd _
  have hval : ∀ (j : Nat) t v, Tryz.f11.params[j]? = some t → args[j]? = some v → Value.okWide Tryz.prog W .any base t v := hval0
  have hW' := hW
  obtain ⟨p, q, hA0, hV, rfl, hfz, hnd⟩ := hW
  have hA : DataW.TrodAll enc Tryz.prog W 0 (fun _ => true) true Tryz.f11.params.toList args.toList ds p := hA0
  rw [Tryz.params11] at hA hval
  obtain ⟨v0, vs0, d0, ds0, p0, q0, hargs, rfl, rfl, h0, r0⟩ := trodAll_cons hA
  obtain ⟨v1, vs1, d1, ds1, p1, q1, rfl, rfl, rfl, h1, r1⟩ := trodAll_cons r0
  obtain ⟨v2, vs2, d2, ds2, p2, q2, rfl, rfl, rfl, h2, r2⟩ := trodAll_cons r1
  obtain ⟨rfl, rfl, rfl⟩ := trodAll_nil r2
  obtain rfl : args = #[v0, v1, v2] := by cases args; simp_all
  obtain ⟨rfl, rfl⟩ := trodVars_none hV
  obtain ⟨kd0, rr0, x0, y0, z0, A0, n0, c0, ps0, rfl, k0, hlt0⟩ := open_shape (hval 0 27 v0 rfl rfl) h0
  obtain ⟨a1, rfl, rfl, rfl, w1⟩ := open_int Tryz.underlying22 (hval 1 22 v1 rfl rfl) h1
  obtain ⟨a2, rfl, rfl, rfl, w2⟩ := open_int Tryz.underlying22 (hval 2 22 v2 rfl rfl) h2
  clear hA0 hval0
  refine (massSides_walk W kd0 rr0 x0 y0 z0 A0 n0 c0 ps0 a1 a2 k0 w1 w2).mono fun e W' ⟨he, bel⟩ => ?_
  subst he
  exact ⟨_, rfl, _, _, _, [], _, [], hW', trodAll_mk1 (shut_bool Tryz.underlying4 _), (trodAll_cons_mk (Below.trod (by kernel_rfl) (by kernel_rfl) (of_decide_eq_true (by kernel_rfl)) h0 bel hlt0) (trodAll_cons_mk (shut_int Tryz.underlying22 w1) (trodAll_cons_mk (shut_int Tryz.underlying22 w2) trodAll_mk0))), rfl, bel.frame _, fun h => by cases h⟩

theorem massSides_named : Tryz.pinned.checked.prog.funcNamed Rows.massSidesRow.func = some 11 := by kernel_rfl
theorem massSides_k1 : (Rows.massSidesRow.wf (OpenSpec.ofChange Rows.massSidesSpec) && laidOutB Tryz.pinned.checked.prog && mapsRowed Tryz.pinned.checked.prog && Tryz.f11.params.all (Tryz.pinned.checked.prog.readableRec ·) && namedTie Tryz.pinned.checked.prog Rows.massSidesRow.named Rows.massSidesSpec.vars) = true := by kernel_rfl
theorem massSides_k2 : ((Rows.massSidesRow.stops == []) && (Tryz.pinned.checked.prog.stops == []) && (Rows.massSidesRow.knobs == []) && (Tryz.pinned.checked.prog.stopKnobs == [])) = true := by kernel_rfl
theorem massSides_k3 : (Rows.massSidesRow.inPlace == Tryz.pinned.checked.prog.inPlace 11) = true := by kernel_rfl
theorem massSides_k4 : (Rows.massSidesRow.unfollowed == Tryz.pinned.checked.prog.unfollowed 11) = true := by kernel_rfl
theorem massSides_k5 : (Rows.massSidesRow.recurses == Tryz.pinned.checked.prog.recurses 11) = true := by kernel_rfl
theorem massSides_k6 : (Rows.massSidesRow.named == Tryz.pinned.checked.prog.varsNamed 11) = true := by kernel_rfl
theorem massSides_k7 : ((Rows.massSidesRow.maps == (Tryz.f11.params.toList ++ Rows.massSidesSpec.plain.varTypes Tryz.pinned.checked.prog).any (Tryz.pinned.checked.prog.mapsRec ·)) && (Rows.massSidesRow.ifaces == (Tryz.f11.params.toList ++ Rows.massSidesSpec.plain.varTypes Tryz.pinned.checked.prog).any (Tryz.pinned.checked.prog.ifacesRec ·)) && (Rows.massSidesRow.mapsOut == Tryz.pinned.checked.prog.mapsAmong Tryz.f11.resultTypes.toList) &&
  (Rows.massSidesRow.loops == (Tryz.f11.params.toList ++ Rows.massSidesSpec.plain.varTypes Tryz.pinned.checked.prog).any (Tryz.pinned.checked.prog.loopsFrom ·)) && (Rows.massSidesRow.wideKeys == (Tryz.f11.params.toList ++ Rows.massSidesSpec.plain.varTypes Tryz.pinned.checked.prog ++ Tryz.f11.resultTypes.toList).any (Tryz.pinned.checked.prog.wideKeysFrom ·)) &&
  Rows.massSidesSpec.vars.all (Tryz.pinned.checked.prog.varReadable ·) && Tryz.f11.resultTypes.all (fun t => Tryz.pinned.checked.prog.readableRec t && decide (t < Tryz.pinned.checked.prog.types.size)) && (Rows.massSidesRow.ifacesOut == Tryz.f11.resultTypes.toList.any (Tryz.pinned.checked.prog.ifacesRec ·)) && (Rows.massSidesRow.loopsOut == Tryz.f11.resultTypes.toList.any (Tryz.pinned.checked.prog.loopsFrom ·)) && (Rows.massSidesRow.plainKeys == Tryz.pinned.checked.prog.plainKeys) && Rows.massSidesRow.shortTexts.isNone) = true := by kernel_rfl
theorem massSides_k8 : (Rows.massSidesRow.lifted == Rows.shapeCoreRow.lifted) = true := by kernel_rfl
theorem massSides_k9 : ((Tryz.pinned.checked.prog.make == some Rows.massSidesRow.make) && (Rows.massSidesRow.kinds == (if Rows.massSidesRow.domain.isEmpty then [] else Tryz.f11.params.toList.map fun t => match Tryz.pinned.checked.prog.underlying t with | some (.int k) => some k | _ => none)) && (Rows.massSidesRow.pinned == Rows.massSidesRow.pinnedBy) &&
  (Rows.massSidesRow.veiled == (Tryz.f11.params.toList ++ Rows.massSidesSpec.plain.varTypes Tryz.pinned.checked.prog ++ Tryz.f11.resultTypes.toList).any (Tryz.pinned.checked.prog.veiledRec ·)) && Rows.massSidesRow.veiledFits Tryz.pinned.checked.prog Tryz.f11.params.toList (Tryz.f11.params.toList ++ Rows.massSidesSpec.plain.varTypes Tryz.pinned.checked.prog ++ Tryz.f11.resultTypes.toList)) = true := by kernel_rfl
theorem massSides_closed : joinedFacts Tryz.pinned.checked.prog 11 Tryz.f11 Rows.massSidesSpec Rows.massSidesRow = true :=
  joined_split ⟨massSides_k1, massSides_k2, massSides_k3, massSides_k4, massSides_k5, massSides_k6, massSides_k7, seat_heard, seat_enter, lifts_of massSides_k8, massSides_k9⟩
theorem massSides_over : Rows.massSidesRow.holds Tryz.pinned (OpenSpec.ofChange Rows.massSidesSpec) :=
  OpenClaim.holds_of_wide 11 Tryz.f11 rfl rfl rfl rfl rfl rfl rfl ⟨rfl, rfl, rfl, rfl, rfl⟩ rfl rfl rfl rfl rfl massSides_named Tryz.func11 massSides_closed
    (of_decide_eq_true (by kernel_rfl)) (by unfold Func.isWrapper; rw [if_neg (of_decide_eq_false (by kernel_rfl))]; exact ⟨rfl, rfl⟩)
    (fun os started H enc _ => massSides_lifted os started H enc)

/-- The statement. -/
theorem massSides_holds : Rows.MassSidesSaid := massSides_over

end Go.Proofs.YtnemedgdhojhdaaGreat
