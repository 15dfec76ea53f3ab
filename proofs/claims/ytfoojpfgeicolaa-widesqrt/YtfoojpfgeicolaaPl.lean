/- For every number a of 512 bits the law WideSqrt returns true, and its argument reads behind the call as it did before. No condition. -/
import Derived.Test.YtfoojpfgeicolaaRo
import Derived.Test.YtfoojpfgeicolaaRr
import Derived.Test.YtfoojpfgeicolaaKa
import Derived.Test.YtfoojpfgeicolaaZq
namespace Go.Proofs.Ytfoojpfgeicolaa
open Go.ChangeShapes Go.WideShapes Go.ChangeAt Go.RowKit
set_option linter.unusedVariables false

theorem wideSqrt_walk (a : Nat) (w : World) :
    Calls Try.prog 8 #[W a] w fun e w' => e = .returned (.bool true) ∧ Below w.heap.size w w' := by
  refine sqrt_law a (sqN a) (sqB a) w (fun u => SqrtN a u) (fun u => ?_) (fun u => awakeZ u) (fun n => same_self n)
  rw [W_sv a]
  refine (refSqrt (sv a) (sv_fit a) u).mono fun e w' ⟨he, hb⟩ => ⟨?_, hb⟩
  rw [he]
  have e1 : decide (sv a < 0) = !sqB a := by unfold sqB; simp
  rw [e1]
  exact congrArg Ending.returned (told_bif _ _)

theorem wideSqrt_own : ownKnob Try.prog.godebug = none := by kernel_rfl

set_option maxRecDepth 100000 in
theorem wideSqrt_lifted (os : Os) (started : os.Started) (H : Type) (enc : TypeId × Value → H) :
    ReturnsInHanded {} Try.checked os 8 .any (Rows.wideSqrtSpec.pre6 enc Try.prog Try.f8 Rows.wideSqrtRow.domain false) (Rows.wideSqrtSpec.post enc Try.prog Try.f8 false true false false) := by
  refine returnsInHanded_of_change (C := Try.checked) wideSqrt_own started (by kernel_rfl) Try.func8
    (ChangeSpec.witness6 (enc := enc) (C := Try.checked) false ⟨#[], #[.agg #[.int .u64 0, .int .u64 0, .int .u64 0, .int .u64 0, .int .u64 0, .int .u64 0, .int .u64 0, .int .u64 0]], []⟩ 8 (by kernel_rfl) (by kernel_rfl) (by kernel_rfl) (by kernel_rfl)) ?_
  intro W base args ds gs before hval0 hW hcnd _
  have hval : ∀ (j : Nat) t v, Try.f8.params[j]? = some t → args[j]? = some v → Value.okWide Try.prog W .any base t v := hval0
  have hW' := hW
  obtain ⟨p, q, hA0, hV, rfl, hfz, hnd⟩ := hW
  have hA : DataW.TrodAll enc Try.prog W 0 (fun _ => true) true Try.f8.params.toList args.toList ds p := hA0
  rw [Try.params8] at hA hval
  obtain ⟨v0, vs0, d0, ds0, p0, q0, hargs, rfl, rfl, h0, r0⟩ := trodAll_cons hA
  obtain ⟨rfl, rfl, rfl⟩ := trodAll_nil r0
  obtain rfl : args = #[v0] := by cases args; simp_all
  obtain ⟨rfl, rfl⟩ := trodVars_none hV
  obtain ⟨a0, rfl, rfl, rfl⟩ := open_wide (hval 0 25 v0 rfl rfl) h0
  clear hA0 hval0
  refine (wideSqrt_walk a0 W).mono fun e W' ⟨he, bel⟩ => ?_
  subst he
  exact ⟨_, rfl, _, _, _, [], [], [], hW', trodAll_mk1 (shut_bool Try.underlying4 _), (trodAll_cons_mk (shut_wide a0) trodAll_mk0), rfl, bel.frame _, fun h => by cases h⟩

theorem wideSqrt_over : Rows.wideSqrtRow.holds Try.pinned (OpenSpec.ofChange Rows.wideSqrtSpec) :=
  OpenClaim.holds_of_wide 8 Try.f8 rfl rfl rfl rfl rfl rfl rfl ⟨rfl, rfl, rfl, rfl, rfl⟩ rfl rfl rfl rfl rfl (by kernel_rfl) Try.func8 (by kernel_rfl)
    (of_decide_eq_true (by kernel_rfl)) (by unfold Func.isWrapper; rw [if_neg (of_decide_eq_false (by kernel_rfl))]; exact ⟨rfl, rfl⟩)
    (fun os started H enc _ => wideSqrt_lifted os started H enc)

/-- The statement. -/
theorem wideSqrt_holds : Rows.WideSqrtSaid := wideSqrt_over

end Go.Proofs.Ytfoojpfgeicolaa
