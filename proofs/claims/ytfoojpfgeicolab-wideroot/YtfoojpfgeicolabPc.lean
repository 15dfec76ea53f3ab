/- For every number a of 512 bits the law WideRoot returns true, and its argument reads behind the call as it did before. No condition. -/
import Derived.Test.YtfoojpfgeicolabZs
import Derived.Test.YtfoojpfgeicolabKa
import Derived.Test.YtfoojpfgeicolabZq
namespace Go.Proofs.Ytfoojpfgeicolab
open Go.ChangeShapes Go.WideShapes Go.ChangeAt Go.RowKit
set_option linter.unusedVariables false

theorem wideRoot_walk (a : Nat) (w : World) :
    Calls Try.prog 6 #[W a] w fun e w' => e = .returned (.bool true) ∧ Below w.heap.size w w' :=
  root_law addN mulN addB mulB sqN sqB (fun x => sgn (sv x)) (fun x y => cmpI (sv x) (sv y)) (enc 1) a w (fun x y u => AddN x y u) (fun x y u => MulN x y u) (fun x u => SqrtN x u)
    (fun x u => SignN x u) (fun x y u => CmpN x y u) (fun u => OfZ 1 (by decide) (by decide) u) (fun u => awakeZ u) (fun h => rt1 a h) (fun h => rt2 a h)

theorem wideRoot_own : ownKnob Try.prog.godebug = none := by kernel_rfl

set_option maxRecDepth 100000 in
theorem wideRoot_lifted (os : Os) (started : os.Started) (H : Type) (enc : TypeId × Value → H) :
    ReturnsInHanded {} Try.checked os 6 .any (Rows.wideRootSpec.pre6 enc Try.prog Try.f6 Rows.wideRootRow.domain false) (Rows.wideRootSpec.post enc Try.prog Try.f6 false true false false) := by
  refine returnsInHanded_of_change (C := Try.checked) wideRoot_own started (by kernel_rfl) Try.func6
    (ChangeSpec.witness6 (enc := enc) (C := Try.checked) false ⟨#[], #[.agg #[.int .u64 0, .int .u64 0, .int .u64 0, .int .u64 0, .int .u64 0, .int .u64 0, .int .u64 0, .int .u64 0]], []⟩ 8 (by kernel_rfl) (by kernel_rfl) (by kernel_rfl) (by kernel_rfl)) ?_
  intro W base args ds gs before hval0 hW hcnd _
  have hval : ∀ (j : Nat) t v, Try.f6.params[j]? = some t → args[j]? = some v → Value.okWide Try.prog W .any base t v := hval0
  have hW' := hW
  obtain ⟨p, q, hA0, hV, rfl, hfz, hnd⟩ := hW
  have hA : DataW.TrodAll enc Try.prog W 0 (fun _ => true) true Try.f6.params.toList args.toList ds p := hA0
  rw [Try.params6] at hA hval
  obtain ⟨v0, vs0, d0, ds0, p0, q0, hargs, rfl, rfl, h0, r0⟩ := trodAll_cons hA
  obtain ⟨rfl, rfl, rfl⟩ := trodAll_nil r0
  obtain rfl : args = #[v0] := by cases args; simp_all
  obtain ⟨rfl, rfl⟩ := trodVars_none hV
  obtain ⟨a0, rfl, rfl, rfl⟩ := open_wide (hval 0 25 v0 rfl rfl) h0
  clear hA0 hval0
  refine (wideRoot_walk a0 W).mono fun e W' ⟨he, bel⟩ => ?_
  subst he
  exact ⟨_, rfl, _, _, _, [], [], [], hW', trodAll_mk1 (shut_bool Try.underlying4 _), (trodAll_cons_mk (shut_wide a0) trodAll_mk0), rfl, bel.frame _, fun h => by cases h⟩

theorem wideRoot_over : Rows.wideRootRow.holds Try.pinned (OpenSpec.ofChange Rows.wideRootSpec) :=
  OpenClaim.holds_of_wide 6 Try.f6 rfl rfl rfl rfl rfl rfl rfl ⟨rfl, rfl, rfl, rfl, rfl⟩ rfl rfl rfl rfl rfl (by kernel_rfl) Try.func6 (by kernel_rfl)
    (of_decide_eq_true (by kernel_rfl)) (by unfold Func.isWrapper; rw [if_neg (of_decide_eq_false (by kernel_rfl))]; exact ⟨rfl, rfl⟩)
    (fun os started H enc _ => wideRoot_lifted os started H enc)

/-- The statement. -/
theorem wideRoot_holds : Rows.WideRootSaid := wideRoot_over

end Go.Proofs.Ytfoojpfgeicolab
