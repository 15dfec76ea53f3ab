/- For all quaternions p and q (four int64 numbers each) the law QuatMul returns true, and its arguments read behind the call as they did before; the two tables of package quat read as they are laid by the program's own text (the card's tie). No other condition. -/
import Derived.Test.YtikmjfepflaokaaGreatDoorTw
import Derived.Test.YtikmjfepflaokaaGreatDoorTl
import Derived.Test.YtikmjfepflaokaaGreatDoorCards
import Derived.Test.YtikmjfepflaokaaGreatDoorTie
import Derived.ProofKit
import Derived.LaidMore
import Derived.OpenShut
import Derived.Stop.Joined
import Derived.SevenTiedAt
namespace Go.Proofs.YtikmjfepflaokaaGreatDoor
open Go.ChangeShapes Go.WideShapes Go.ChangeAt Go.RowKit
set_option maxRecDepth 4000
set_option linter.unusedVariables false

theorem quatMul_own : ownKnob Tryz.prog.godebug = none := by kernel_rfl
/-- The door's own heap meets the condition. -/
theorem quatMul_door (os : Os) (args : Array Value) : laidMetH Tryz.prog Rows.quatMulRow.laid ((World.doorLaid Tryz.prog 62 os).forCall (fun _ _ => 0) ⟨#[], args, []⟩).memory :=
  laidMetH_of_parts3 (fuel := 8) (laidMet_of_run' 8 (by kernel_rfl) (by kernel_rfl)) (by kernel_rfl) (by kernel_rfl)

set_option maxRecDepth 100000 in
theorem quatMul_lifted (os : Os) (started : os.Started) (H : Type) (enc : TypeId × Value → H) :
    ReturnsInHanded {} Tryz.checked os 3 .any (fun w args => (Rows.quatMulSpec.pre enc Tryz.prog Tryz.f3 [] false w args ∧ laidMetH Tryz.prog Rows.quatMulRow.laid w) ∧ sizedMet enc Tryz.prog Tryz.f3 (OpenSpec.ofChange Rows.quatMulSpec) false w args)
      (Rows.quatMulSpec.post enc Tryz.prog Tryz.f3 false true false false) := by
  refine returnsInHanded_of_change_and (C := Tryz.checked) (X := fun w _ => laidMetH Tryz.prog Rows.quatMulRow.laid w) (fun _ _ _ hh h => h.of_heap hh) quatMul_own started (by kernel_rfl) Tryz.func3
    (ChangeSpec.witness_shaped (enc := enc) (C := Tryz.checked) (os := os) (X := fun w _ => laidMetH Tryz.prog Rows.quatMulRow.laid w) false (World.doorLaid Tryz.prog 62 os) #[.agg #[.int .i64 0, .int .i64 0, .int .i64 0, .int .i64 0], .agg #[.int .i64 0, .int .i64 0, .int .i64 0, .int .i64 0]] 8 rfl (World.shaped_of_RefB (by kernel_rfl) (by kernel_rfl)) (by kernel_rfl) (by kernel_rfl) (by kernel_rfl) (quatMul_door os _)) ?_
  intro W base args ds gs before hval0 hW _ _ hL _
  have hval : ∀ (j : Nat) t v, Tryz.f3.params[j]? = some t → args[j]? = some v → Value.okWide Tryz.prog W .any base t v := hval0
  have hW' := hW
  obtain ⟨p, q, hA0, hV, rfl, hfz, hnd⟩ := hW
  have hA : DataW.TrodAll enc Tryz.prog W 0 (fun _ => true) true Tryz.f3.params.toList args.toList ds p := hA0
  rw [Tryz.params3] at hA hval
  obtain ⟨v0, vs0, d0, ds0, p0, q0, hargs, rfl, rfl, h0, r0⟩ := trodAll_cons hA
  obtain ⟨v1, vs1, d1, ds1, p1, q1, rfl, rfl, rfl, h1, r1⟩ := trodAll_cons r0
  obtain ⟨rfl, rfl, rfl⟩ := trodAll_nil r1
  obtain rfl : args = #[v0, v1] := by cases args; simp_all
  obtain ⟨rfl, rfl⟩ := trodVars_none hV
  obtain ⟨x0, y0, z0, t0, rfl, rfl, rfl, k0, l0, m0, n0⟩ := open_quat (hval 0 24 v0 rfl rfl) h0
  obtain ⟨x1, y1, z1, t1, rfl, rfl, rfl, k1, l1, m1, n1⟩ := open_quat (hval 1 24 v1 rfl rfl) h1
  have hL2 : laidMet Tryz.prog Rows.quatMulRow.laid W := hL
  have hT0 := tabP_laid (Lib.laidMet.reads hL2 List.mem_cons_self)
  have hT1 := tabT_laid (Lib.laidMet.reads hL2 (List.mem_cons_of_mem _ List.mem_cons_self))
  clear hA0 hval0
  refine (quatMul_walk x0 y0 z0 t0 x1 y1 z1 t1 k0 l0 m0 n0 k1 l1 m1 n1 W hT0 hT1).mono fun e W' ⟨he, bel⟩ => ?_
  subst he
  exact ⟨_, rfl, _, _, _, [], [], [], hW', trodAll_mk1 (shut_bool Tryz.underlying4 _), (trodAll_cons_mk (shut_quat k0 l0 m0 n0) (trodAll_cons_mk (shut_quat k1 l1 m1 n1) trodAll_mk0)), rfl, bel.frame _, fun h => by cases h⟩

theorem quatMul_over : Rows.quatMulRow.holds Tryz.pinned (OpenSpec.ofChange Rows.quatMulSpec) :=
  OpenClaim.holds_of_wide 3 Tryz.f3 rfl rfl rfl rfl rfl rfl rfl ⟨rfl, rfl, rfl, rfl, rfl⟩ rfl rfl rfl rfl rfl (by kernel_rfl) Tryz.func3 (by kernel_rfl)
    (of_decide_eq_true (by kernel_rfl)) (by unfold Func.isWrapper; rw [if_neg (of_decide_eq_false (by kernel_rfl))]; exact ⟨rfl, rfl⟩)
    (fun os started H enc _ => quatMul_lifted os started H enc)

theorem quatMul_over' : Rows.QuatMulSaid := quatMul_over
/-- The statement. -/
theorem quatMul_holds : Rows.QuatMulCardSaid :=
  Claim7.holds_tied_plain_at .later [] Rows.quatMulCard.laidKinds true Rows.quatMulCard.stood.harness Rows.quatMulCard.stood.looks
    quatMul_over' (fun _ h => by cases h) (by kernel_rfl) (fun _ h => by cases h) quatMul_row_tie rfl ⟨rfl, rfl⟩ (by kernel_rfl) rfl
    (fun f fn hf hfn => by
      obtain rfl : f = 3 := Option.some.inj ((show Tryz.prog.funcNamed "ninepin/ninepinlaw05.QuatMul" = some 3 by kernel_rfl).symm.trans hf) |>.symm
      obtain rfl : fn = Tryz.f3 := (Option.some.inj (Tryz.func3.symm.trans hfn)).symm
      exact ⟨by kernel_rfl, fun j t ht => by
        rw [Tryz.params3] at ht
        have hm : t ∈ [24, 24] := by simpa using Array.mem_of_getElem? ht
        have hall : ([24, 24].all fun u => !Tryz.prog.wantsStandIn u) = true := by kernel_rfl
        exact (show Tryz.prog.wantsStandIn t = false by simpa using List.all_eq_true.1 hall t hm)⟩)
    (by kernel_rfl)

end Go.Proofs.YtikmjfepflaokaaGreatDoor
