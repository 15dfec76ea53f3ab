/- For all numbers a and b of 512 bits the law WideSums returns true, and its arguments read behind the call as they did before. No condition. -/
import Derived.Test.YtfoojpfgeicolaaRf
import Derived.Test.YtfoojpfgeicolaaRe
import Derived.Test.YtfoojpfgeicolaaKa
import Derived.Test.YtfoojpfgeicolaaZq
namespace Go.Proofs.Ytfoojpfgeicolaa
open Go.ChangeShapes Go.WideShapes Go.ChangeAt Go.RowKit
set_option linter.unusedVariables false

theorem refAddN (a b : Nat) (w : World) : Calls Try.prog 22 #[W a, W b] w fun e w' => e = .returned (.tuple #[.agg (cells8 (addN a b)), .bool (addB a b)]) ∧ Below w.heap.size w w' := by
  rw [W_sv a, W_sv b]
  exact refAdd (sv a) (sv b) (sv_fit a) (sv_fit b) w
theorem refSubN (a b : Nat) (w : World) : Calls Try.prog 23 #[W a, W b] w fun e w' => e = .returned (.tuple #[.agg (cells8 (subN a b)), .bool (subB a b)]) ∧ Below w.heap.size w w' := by
  rw [W_sv a, W_sv b]
  exact refSub (sv a) (sv b) (sv_fit a) (sv_fit b) w
theorem wideSums_walk (a b : Nat) (w : World) :
    Calls Try.prog 4 #[W a, W b] w fun e w' => e = .returned (.bool true) ∧ Below w.heap.size w w' := by
  have h0 : sv 0 = 0 := by
    unfold sv
    simp [H]
  refine sums_law addN subN addB subB negN negB a b w (fun x y u => AddN x y u) (fun x y u => SubN x y u) (fun x u => NegN x u) (fun x y u => refAddN x y u) (fun x y u => refSubN x y u) (fun u => awakeZ u) ⟨?_, ?_⟩ (fun n => same_self n)
  · unfold negN subN
    rw [h0, Int.zero_sub]
  · unfold negB subB
    rw [h0, Int.zero_sub]

theorem wideSums_own : ownKnob Try.prog.godebug = none := by kernel_rfl

set_option maxRecDepth 100000 in
theorem wideSums_lifted (os : Os) (started : os.Started) (H : Type) (enc : TypeId × Value → H) :
    ReturnsInHanded {} Try.checked os 4 .any (Rows.wideSumsSpec.pre6 enc Try.prog Try.f4 Rows.wideSumsRow.domain false) (Rows.wideSumsSpec.post enc Try.prog Try.f4 false true false false) := by
  refine returnsInHanded_of_change (C := Try.checked) wideSums_own started (by kernel_rfl) Try.func4
    (ChangeSpec.witness6 (enc := enc) (C := Try.checked) false ⟨#[], #[.agg #[.int .u64 0, .int .u64 0, .int .u64 0, .int .u64 0, .int .u64 0, .int .u64 0, .int .u64 0, .int .u64 0], .agg #[.int .u64 0, .int .u64 0, .int .u64 0, .int .u64 0, .int .u64 0, .int .u64 0, .int .u64 0, .int .u64 0]], []⟩ 8 (by kernel_rfl) (by kernel_rfl) (by kernel_rfl) (by kernel_rfl)) ?_
  intro W base args ds gs before hval0 hW hcnd _
  have hval : ∀ (j : Nat) t v, Try.f4.params[j]? = some t → args[j]? = some v → Value.okWide Try.prog W .any base t v := hval0
  have hW' := hW
  obtain ⟨p, q, hA0, hV, rfl, hfz, hnd⟩ := hW
  have hA : DataW.TrodAll enc Try.prog W 0 (fun _ => true) true Try.f4.params.toList args.toList ds p := hA0
  rw [Try.params4] at hA hval
  obtain ⟨v0, vs0, d0, ds0, p0, q0, hargs, rfl, rfl, h0, r0⟩ := trodAll_cons hA
  obtain ⟨v1, vs1, d1, ds1, p1, q1, rfl, rfl, rfl, h1, r1⟩ := trodAll_cons r0
  obtain ⟨rfl, rfl, rfl⟩ := trodAll_nil r1
  obtain rfl : args = #[v0, v1] := by cases args; simp_all
  obtain ⟨rfl, rfl⟩ := trodVars_none hV
  obtain ⟨a0, rfl, rfl, rfl⟩ := open_wide (hval 0 25 v0 rfl rfl) h0
  obtain ⟨a1, rfl, rfl, rfl⟩ := open_wide (hval 1 25 v1 rfl rfl) h1
  clear hA0 hval0
  refine (wideSums_walk a0 a1 W).mono fun e W' ⟨he, bel⟩ => ?_
  subst he
  exact ⟨_, rfl, _, _, _, [], [], [], hW', trodAll_mk1 (shut_bool Try.underlying4 _), (trodAll_cons_mk (shut_wide a0) (trodAll_cons_mk (shut_wide a1) trodAll_mk0)), rfl, bel.frame _, fun h => by cases h⟩

theorem wideSums_over : Rows.wideSumsRow.holds Try.pinned (OpenSpec.ofChange Rows.wideSumsSpec) :=
  OpenClaim.holds_of_wide 4 Try.f4 rfl rfl rfl rfl rfl rfl rfl ⟨rfl, rfl, rfl, rfl, rfl⟩ rfl rfl rfl rfl rfl (by kernel_rfl) Try.func4 (by kernel_rfl)
    (of_decide_eq_true (by kernel_rfl)) (by unfold Func.isWrapper; rw [if_neg (of_decide_eq_false (by kernel_rfl))]; exact ⟨rfl, rfl⟩)
    (fun os started H enc _ => wideSums_lifted os started H enc)

/-- The statement. -/
theorem wideSums_holds : Rows.WideSumsSaid := wideSums_over

end Go.Proofs.Ytfoojpfgeicolaa
