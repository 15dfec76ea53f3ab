/- For each two shapes the law ShapeSame returns true, and its arguments read behind the call as they did before. No condition. -/
import Derived.Test.YtnemedgdhojhdaaGreatIp
import Derived.Test.YtnemedgdhojhdaaGreatIi
namespace Go.Proofs.YtnemedgdhojhdaaGreat
open Go.ChangeShapes Go.WideShapes Go.ChangeAt Go.RowKit
set_option maxRecDepth 4000
set_option linter.unusedVariables false

theorem shapeSame_walk (w : World) (kd rr x y z : Int) (A : Option Addr) (n cp : Nat) (ps : Nat → Pt) (k2 r2 x2 y2 z2 : Int) (B : Option Addr) (n2 cq : Nat) (qs : Nat → Pt) (k : ShOk w kd rr x y z A n cp ps) (l : ShOk w k2 r2 x2 y2 z2 B n2 cq qs) : Calls Tryz.prog 5 #[.agg (sh kd rr x y z A n cp), .agg (sh k2 r2 x2 y2 z2 B n2 cq)] w fun e w' => e = .returned (.bool true) ∧ Below w.heap.size w w' :=
  shapeSame_all kd rr x y z A n cp k2 r2 x2 y2 z2 B n2 cq ps qs k.hn k.hA w k.hP l.hP

theorem shapeSame_own : ownKnob Tryz.prog.godebug = none := by kernel_rfl

set_option maxRecDepth 100000 in
theorem shapeSame_lifted (os : Os) (started : os.Started) (H : Type) (enc : TypeId × Value → H) :
    ReturnsInHanded {} Tryz.checked os 5 .any (Rows.shapeSameSpec.pre6 enc Tryz.prog Tryz.f5 Rows.shapeSameRow.domain false) (Rows.shapeSameSpec.post enc Tryz.prog Tryz.f5 false true false false) := by
  refine returnsInHanded_of_change (C := Tryz.checked) shapeSame_own started (by kernel_rfl) Tryz.func5
    (ChangeSpec.witness6 (enc := enc) (C := Tryz.checked) false ⟨#[], #[.agg #[.int .i64 0, .int .i64 0, .int .i64 0, .int .i64 0, .int .i64 0, .slice none 0 0], .agg #[.int .i64 0, .int .i64 0, .int .i64 0, .int .i64 0, .int .i64 0, .slice none 0 0]], []⟩ 8 (by kernel_rfl) (by kernel_rfl) (by kernel_rfl) (by kernel_rfl)) ?_
  intro W base args ds gs before hval0 hW hcnd _
  have hval : ∀ (j : Nat) t v, Tryz.f5.params[j]? = some t → args[j]? = some v → Value.okWide Tryz.prog W .any base t v := hval0
  have hW' := hW
  obtain ⟨p, q, hA0, hV, rfl, hfz, hnd⟩ := hW
  have hA : DataW.TrodAll enc Tryz.prog W 0 (fun _ => true) true Tryz.f5.params.toList args.toList ds p := hA0
  rw [Tryz.params5] at hA hval
  obtain ⟨v0, vs0, d0, ds0, p0, q0, hargs, rfl, rfl, h0, r0⟩ := trodAll_cons hA
  obtain ⟨v1, vs1, d1, ds1, p1, q1, rfl, rfl, rfl, h1, r1⟩ := trodAll_cons r0
  obtain ⟨rfl, rfl, rfl⟩ := trodAll_nil r1
  obtain rfl : args = #[v0, v1] := by cases args; simp_all
  obtain ⟨rfl, rfl⟩ := trodVars_none hV
  obtain ⟨kd0, rr0, x0, y0, z0, A0, n0, c0, ps0, rfl, k0, hlt0⟩ := open_shape (hval 0 27 v0 rfl rfl) h0
  obtain ⟨kd1, rr1, x1, y1, z1, A1, n1, c1, ps1, rfl, k1, hlt1⟩ := open_shape (hval 1 27 v1 rfl rfl) h1
  clear hA0 hval0
  refine (shapeSame_walk W kd0 rr0 x0 y0 z0 A0 n0 c0 ps0 kd1 rr1 x1 y1 z1 A1 n1 c1 ps1 k0 k1).mono fun e W' ⟨he, bel⟩ => ?_
  subst he
  exact ⟨_, rfl, _, _, _, [], _, [], hW', trodAll_mk1 (shut_bool Tryz.underlying4 _), (trodAll_cons_mk (Below.trod (by kernel_rfl) (by kernel_rfl) (of_decide_eq_true (by kernel_rfl)) h0 bel hlt0) (trodAll_cons_mk (Below.trod (by kernel_rfl) (by kernel_rfl) (of_decide_eq_true (by kernel_rfl)) h1 bel hlt1) trodAll_mk0)), rfl, bel.frame _, fun h => by cases h⟩

theorem shapeSame_named : Tryz.pinned.checked.prog.funcNamed Rows.shapeSameRow.func = some 5 := by kernel_rfl
theorem shapeSame_k1 : (Rows.shapeSameRow.wf (OpenSpec.ofChange Rows.shapeSameSpec) && laidOutB Tryz.pinned.checked.prog && mapsRowed Tryz.pinned.checked.prog && Tryz.f5.params.all (Tryz.pinned.checked.prog.readableRec ·) && namedTie Tryz.pinned.checked.prog Rows.shapeSameRow.named Rows.shapeSameSpec.vars) = true := by kernel_rfl
theorem shapeSame_k2 : ((Rows.shapeSameRow.stops == []) && (Tryz.pinned.checked.prog.stops == []) && (Rows.shapeSameRow.knobs == []) && (Tryz.pinned.checked.prog.stopKnobs == [])) = true := by kernel_rfl
theorem shapeSame_k3 : (Rows.shapeSameRow.inPlace == Tryz.pinned.checked.prog.inPlace 5) = true := by kernel_rfl
theorem shapeSame_k4 : (Rows.shapeSameRow.unfollowed == Tryz.pinned.checked.prog.unfollowed 5) = true := by kernel_rfl
theorem shapeSame_k5 : (Rows.shapeSameRow.recurses == Tryz.pinned.checked.prog.recurses 5) = true := by kernel_rfl
theorem shapeSame_k6 : (Rows.shapeSameRow.named == Tryz.pinned.checked.prog.varsNamed 5) = true := by kernel_rfl
theorem shapeSame_k7 : ((Rows.shapeSameRow.maps == (Tryz.f5.params.toList ++ Rows.shapeSameSpec.plain.varTypes Tryz.pinned.checked.prog).any (Tryz.pinned.checked.prog.mapsRec ·)) && (Rows.shapeSameRow.ifaces == (Tryz.f5.params.toList ++ Rows.shapeSameSpec.plain.varTypes Tryz.pinned.checked.prog).any (Tryz.pinned.checked.prog.ifacesRec ·)) && (Rows.shapeSameRow.mapsOut == Tryz.pinned.checked.prog.mapsAmong Tryz.f5.resultTypes.toList) &&
  (Rows.shapeSameRow.loops == (Tryz.f5.params.toList ++ Rows.shapeSameSpec.plain.varTypes Tryz.pinned.checked.prog).any (Tryz.pinned.checked.prog.loopsFrom ·)) && (Rows.shapeSameRow.wideKeys == (Tryz.f5.params.toList ++ Rows.shapeSameSpec.plain.varTypes Tryz.pinned.checked.prog ++ Tryz.f5.resultTypes.toList).any (Tryz.pinned.checked.prog.wideKeysFrom ·)) &&
  Rows.shapeSameSpec.vars.all (Tryz.pinned.checked.prog.varReadable ·) && Tryz.f5.resultTypes.all (fun t => Tryz.pinned.checked.prog.readableRec t && decide (t < Tryz.pinned.checked.prog.types.size)) && (Rows.shapeSameRow.ifacesOut == Tryz.f5.resultTypes.toList.any (Tryz.pinned.checked.prog.ifacesRec ·)) && (Rows.shapeSameRow.loopsOut == Tryz.f5.resultTypes.toList.any (Tryz.pinned.checked.prog.loopsFrom ·)) && (Rows.shapeSameRow.plainKeys == Tryz.pinned.checked.prog.plainKeys) && Rows.shapeSameRow.shortTexts.isNone) = true := by kernel_rfl
theorem shapeSame_k8 : (Rows.shapeSameRow.lifted == Rows.shapeCoreRow.lifted) = true := by kernel_rfl
theorem shapeSame_k9 : ((Tryz.pinned.checked.prog.make == some Rows.shapeSameRow.make) && (Rows.shapeSameRow.kinds == (if Rows.shapeSameRow.domain.isEmpty then [] else Tryz.f5.params.toList.map fun t => match Tryz.pinned.checked.prog.underlying t with | some (.int k) => some k | _ => none)) && (Rows.shapeSameRow.pinned == Rows.shapeSameRow.pinnedBy) &&
  (Rows.shapeSameRow.veiled == (Tryz.f5.params.toList ++ Rows.shapeSameSpec.plain.varTypes Tryz.pinned.checked.prog ++ Tryz.f5.resultTypes.toList).any (Tryz.pinned.checked.prog.veiledRec ·)) && Rows.shapeSameRow.veiledFits Tryz.pinned.checked.prog Tryz.f5.params.toList (Tryz.f5.params.toList ++ Rows.shapeSameSpec.plain.varTypes Tryz.pinned.checked.prog ++ Tryz.f5.resultTypes.toList)) = true := by kernel_rfl
theorem shapeSame_closed : joinedFacts Tryz.pinned.checked.prog 5 Tryz.f5 Rows.shapeSameSpec Rows.shapeSameRow = true :=
  joined_split ⟨shapeSame_k1, shapeSame_k2, shapeSame_k3, shapeSame_k4, shapeSame_k5, shapeSame_k6, shapeSame_k7, seat_heard, seat_enter, lifts_of shapeSame_k8, shapeSame_k9⟩
theorem shapeSame_over : Rows.shapeSameRow.holds Tryz.pinned (OpenSpec.ofChange Rows.shapeSameSpec) :=
  OpenClaim.holds_of_wide 5 Tryz.f5 rfl rfl rfl rfl rfl rfl rfl ⟨rfl, rfl, rfl, rfl, rfl⟩ rfl rfl rfl rfl rfl shapeSame_named Tryz.func5 shapeSame_closed
    (of_decide_eq_true (by kernel_rfl)) (by unfold Func.isWrapper; rw [if_neg (of_decide_eq_false (by kernel_rfl))]; exact ⟨rfl, rfl⟩)
    (fun os started H enc _ => shapeSame_lifted os started H enc)

/-- The statement. -/
theorem shapeSame_holds : Rows.ShapeSameSaid := shapeSame_over

end Go.Proofs.YtnemedgdhojhdaaGreat
