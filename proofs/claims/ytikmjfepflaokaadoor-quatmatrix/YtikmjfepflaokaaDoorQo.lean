/- For every quaternion q (four int64 numbers) the law QuatMatrix returns true, and its arguments read behind the call as they did before; the two tables of package quat read as they are laid by the program's own text (the card's tie). No other condition. -/
import Derived.Test.YtikmjfepflaokaaDoorTv
import Derived.Test.YtikmjfepflaokaaDoorTl
import Derived.Test.YtikmjfepflaokaaDoorCards
import Derived.Test.YtikmjfepflaokaaDoorTie
import Derived.ProofKit
import Derived.LaidMore
import Derived.OpenShut
import Derived.Stop.Joined
import Derived.SevenTiedAt
namespace Go.Proofs.YtikmjfepflaokaaDoor
open Go.ChangeShapes Go.WideShapes Go.ChangeAt Go.RowKit
set_option maxRecDepth 4000
set_option linter.unusedVariables false

theorem quatMatrix_own : ownKnob Tryd.prog.godebug = none := by kernel_rfl
/-- The door's own heap meets the condition. -/
theorem quatMatrix_door (os : Os) (args : Array Value) : laidMetH Tryd.prog Rows.quatMatrixRow.laid ((World.doorLaid Tryd.prog 62 os).forCall (fun _ _ => 0) ⟨#[], args, []⟩).memory :=
  laidMetH_of_parts3 (fuel := 8) (laidMet_of_run' 8 (by kernel_rfl) (by kernel_rfl)) (by kernel_rfl) (by kernel_rfl)

set_option maxRecDepth 100000 in
theorem quatMatrix_lifted (os : Os) (started : os.Started) (H : Type) (enc : TypeId × Value → H) :
    ReturnsInHanded {} Tryd.checked os 3 .any (fun w args => (Rows.quatMatrixSpec.pre enc Tryd.prog Tryd.f3 [] false w args ∧ laidMetH Tryd.prog Rows.quatMatrixRow.laid w) ∧ sizedMet enc Tryd.prog Tryd.f3 (OpenSpec.ofChange Rows.quatMatrixSpec) false w args)
      (Rows.quatMatrixSpec.post enc Tryd.prog Tryd.f3 false true false false) := by
  refine returnsInHanded_of_change_and (C := Tryd.checked) (X := fun w _ => laidMetH Tryd.prog Rows.quatMatrixRow.laid w) (fun _ _ _ hh h => h.of_heap hh) quatMatrix_own started (by kernel_rfl) Tryd.func3
    (ChangeSpec.witness_shaped (enc := enc) (C := Tryd.checked) (os := os) (X := fun w _ => laidMetH Tryd.prog Rows.quatMatrixRow.laid w) false (World.doorLaid Tryd.prog 62 os) #[.agg #[.int .i64 0, .int .i64 0, .int .i64 0, .int .i64 0]] 8 rfl (World.shaped_of_RefB (by kernel_rfl) (by kernel_rfl)) (by kernel_rfl) (by kernel_rfl) (by kernel_rfl) (quatMatrix_door os _)) ?_
  intro W base args ds gs before hval0 hW _ _ hL _
  have hval : ∀ (j : Nat) t v, Tryd.f3.params[j]? = some t → args[j]? = some v → Value.okWide Tryd.prog W .any base t v := hval0
  have hW' := hW
  obtain ⟨p, q, hA0, hV, rfl, hfz, hnd⟩ := hW
  have hA : DataW.TrodAll enc Tryd.prog W 0 (fun _ => true) true Tryd.f3.params.toList args.toList ds p := hA0
  rw [Tryd.params3] at hA hval
  obtain ⟨v0, vs0, d0, ds0, p0, q0, hargs, rfl, rfl, h0, r0⟩ := trodAll_cons hA
  obtain ⟨rfl, rfl, rfl⟩ := trodAll_nil r0
  obtain rfl : args = #[v0] := by cases args; simp_all
  obtain ⟨rfl, rfl⟩ := trodVars_none hV
  obtain ⟨x0, y0, z0, t0, rfl, rfl, rfl, k0, l0, m0, n0⟩ := open_quat (hval 0 24 v0 rfl rfl) h0
  have hL2 : laidMet Tryd.prog Rows.quatMatrixRow.laid W := hL
  have hT0 := tabP_laid (Lib.laidMet.reads hL2 List.mem_cons_self)
  have hT1 := tabT_laid (Lib.laidMet.reads hL2 (List.mem_cons_of_mem _ List.mem_cons_self))
  clear hA0 hval0
  refine (quatMatrix_walk x0 y0 z0 t0 k0 l0 m0 n0 W hT0 hT1).mono fun e W' ⟨he, bel⟩ => ?_
  subst he
  exact ⟨_, rfl, _, _, _, [], [], [], hW', trodAll_mk1 (shut_bool Tryd.underlying4 _), (trodAll_cons_mk (shut_quat k0 l0 m0 n0) trodAll_mk0), rfl, bel.frame _, fun h => by cases h⟩

theorem quatMatrix_over : Rows.quatMatrixRow.holds Tryd.pinned (OpenSpec.ofChange Rows.quatMatrixSpec) :=
  OpenClaim.holds_of_wide 3 Tryd.f3 rfl rfl rfl rfl rfl rfl rfl ⟨rfl, rfl, rfl, rfl, rfl⟩ rfl rfl rfl rfl rfl (by kernel_rfl) Tryd.func3 (by kernel_rfl)
    (of_decide_eq_true (by kernel_rfl)) (by unfold Func.isWrapper; rw [if_neg (of_decide_eq_false (by kernel_rfl))]; exact ⟨rfl, rfl⟩)
    (fun os started H enc _ => quatMatrix_lifted os started H enc)

theorem quatMatrix_over' : Rows.QuatMatrixSaid := quatMatrix_over
/-- The statement. -/
theorem quatMatrix_holds : Rows.QuatMatrixCardSaid :=
  Claim7.holds_tied_plain_at .later [] Rows.quatMatrixCard.laidKinds true Rows.quatMatrixCard.stood.harness Rows.quatMatrixCard.stood.looks
    quatMatrix_over' (fun _ h => by cases h) (by kernel_rfl) (fun _ h => by cases h) quatMatrix_row_tie rfl ⟨rfl, rfl⟩ (by kernel_rfl) rfl
    (fun f fn hf hfn => by
      obtain rfl : f = 3 := Option.some.inj ((show Tryd.prog.funcNamed "ninepin/ninepinlaw05.QuatMatrix" = some 3 by kernel_rfl).symm.trans hf) |>.symm
      obtain rfl : fn = Tryd.f3 := (Option.some.inj (Tryd.func3.symm.trans hfn)).symm
      exact ⟨by kernel_rfl, fun j t ht => by
        rw [Tryd.params3] at ht
        have hm : t ∈ [24] := by simpa using Array.mem_of_getElem? ht
        have hall : ([24].all fun u => !Tryd.prog.wantsStandIn u) = true := by kernel_rfl
        exact (show Tryd.prog.wantsStandIn t = false by simpa using List.all_eq_true.1 hall t hm)⟩)
    (by kernel_rfl)

end Go.Proofs.YtikmjfepflaokaaDoor
