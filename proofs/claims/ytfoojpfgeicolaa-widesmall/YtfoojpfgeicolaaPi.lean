/- For every int64 n and all numbers a and b of 512 bits the law WideSmall returns true, and its arguments read behind the call as they did before. No condition. -/
import Derived.Test.YtfoojpfgeicolaaRi
import Derived.Test.YtfoojpfgeicolaaRh
import Derived.Test.YtfoojpfgeicolaaKa
import Derived.Test.YtfoojpfgeicolaaZq
namespace Go.Proofs.Ytfoojpfgeicolaa
open Go.ChangeShapes Go.WideShapes Go.ChangeAt Go.RowKit
set_option linter.unusedVariables false

theorem wf_int {n : Int} (h : (Lit.int .i64 n).wf = true) : -9223372036854775808 ≤ n ∧ n < 9223372036854775808 := by
  simp [Lit.wf, IntKind.min, IntKind.max, IntKind.signed, IntKind.bits] at h
  omega
theorem wrap64_range (n : Int) : -9223372036854775808 ≤ wrap64 n ∧ wrap64 n < 9223372036854775808 := by
  unfold wrap64
  omega
theorem BitsN (a : Nat) (w : World) : Calls Try.prog 16 #[W a] w fun e w' => e = .returned (.int .i64 (blen (sv a).natAbs : Nat)) ∧ Below w.heap.size w w' := by
  rw [W_sv a]
  exact BitsZ (sv a) (sv_fit a) w
theorem wideSmall_walk (n : Int) (a b : Nat) (hn : (Lit.int .i64 n).wf = true) (w : World) :
    Calls Try.prog 3 #[.int .i64 n, W a, W b] w fun e w' => e = .returned (.bool true) ∧ Below w.heap.size w w' := by
  have r := wrap64_range (lm a 0)
  refine small_law n a b (enc n) (enc (wrap64 (lm a 0))) (wrap64 (lm a 0)) _ (sgn (sv a)) (cmpI (sv a) (sv b)) (blen (sv a).natAbs : Nat) (same (enc (wrap64 (lm a 0))) a) w rfl rfl rfl (same_self _)
    (fun u => int_core a (enc (wrap64 (lm a 0))) (wrap64 (lm a 0)) _ _ u rfl (same_comm _ _) rfl (fun u => OfZ _ r.1 r.2 u)) (fun u => OfZ n (wf_int hn).1 (wf_int hn).2 u) (SmallZ n (wf_int hn).1 (wf_int hn).2) (SmallZ _ r.1 r.2)
    (fun u => SignN a u) (fun u => ?_) (fun u => CmpN a b u) (fun u => ?_) (fun u => BitsN a u) (fun u => ?_) (fun u => awakeZ u)
  · rw [W_sv a]; exact refSign (sv a) (sv_fit a) u
  · rw [W_sv a, W_sv b]; exact refCmp (sv a) (sv b) (sv_fit a) (sv_fit b) u
  · rw [W_sv a]; exact refCount (sv a) (sv_fit a) u

theorem wideSmall_own : ownKnob Try.prog.godebug = none := by kernel_rfl

set_option maxRecDepth 100000 in
theorem wideSmall_lifted (os : Os) (started : os.Started) (H : Type) (enc : TypeId × Value → H) :
    ReturnsInHanded {} Try.checked os 3 .any (Rows.wideSmallSpec.pre6 enc Try.prog Try.f3 Rows.wideSmallRow.domain false) (Rows.wideSmallSpec.post enc Try.prog Try.f3 false true false false) := by
  refine returnsInHanded_of_change (C := Try.checked) wideSmall_own started (by kernel_rfl) Try.func3
    (ChangeSpec.witness6 (enc := enc) (C := Try.checked) false ⟨#[], #[.int .i64 0, .agg #[.int .u64 0, .int .u64 0, .int .u64 0, .int .u64 0, .int .u64 0, .int .u64 0, .int .u64 0, .int .u64 0], .agg #[.int .u64 0, .int .u64 0, .int .u64 0, .int .u64 0, .int .u64 0, .int .u64 0, .int .u64 0, .int .u64 0]], []⟩ 8 (by kernel_rfl) (by kernel_rfl) (by kernel_rfl) (by kernel_rfl)) ?_
  intro W base args ds gs before hval0 hW hcnd _
  have hval : ∀ (j : Nat) t v, Try.f3.params[j]? = some t → args[j]? = some v → Value.okWide Try.prog W .any base t v := hval0
  have hW' := hW
  obtain ⟨p, q, hA0, hV, rfl, hfz, hnd⟩ := hW
  have hA : DataW.TrodAll enc Try.prog W 0 (fun _ => true) true Try.f3.params.toList args.toList ds p := hA0
  rw [Try.params3] at hA hval
  obtain ⟨v0, vs0, d0, ds0, p0, q0, hargs, rfl, rfl, h0, r0⟩ := trodAll_cons hA
  obtain ⟨v1, vs1, d1, ds1, p1, q1, rfl, rfl, rfl, h1, r1⟩ := trodAll_cons r0
  obtain ⟨v2, vs2, d2, ds2, p2, q2, rfl, rfl, rfl, h2, r2⟩ := trodAll_cons r1
  obtain ⟨rfl, rfl, rfl⟩ := trodAll_nil r2
  obtain rfl : args = #[v0, v1, v2] := by cases args; simp_all
  obtain ⟨rfl, rfl⟩ := trodVars_none hV
  obtain ⟨a0, rfl, rfl, rfl, w0⟩ := open_int Try.underlying2 (hval 0 2 v0 rfl rfl) h0
  obtain ⟨a1, rfl, rfl, rfl⟩ := open_wide (hval 1 25 v1 rfl rfl) h1
  obtain ⟨a2, rfl, rfl, rfl⟩ := open_wide (hval 2 25 v2 rfl rfl) h2
  clear hA0 hval0
  refine (wideSmall_walk a0 a1 a2 w0 W).mono fun e W' ⟨he, bel⟩ => ?_
  subst he
  exact ⟨_, rfl, _, _, _, [], [], [], hW', trodAll_mk1 (shut_bool Try.underlying4 _), (trodAll_cons_mk (shut_int Try.underlying2 w0) (trodAll_cons_mk (shut_wide a1) (trodAll_cons_mk (shut_wide a2) trodAll_mk0))), rfl, bel.frame _, fun h => by cases h⟩

theorem wideSmall_over : Rows.wideSmallRow.holds Try.pinned (OpenSpec.ofChange Rows.wideSmallSpec) :=
  OpenClaim.holds_of_wide 3 Try.f3 rfl rfl rfl rfl rfl rfl rfl ⟨rfl, rfl, rfl, rfl, rfl⟩ rfl rfl rfl rfl rfl (by kernel_rfl) Try.func3 (by kernel_rfl)
    (of_decide_eq_true (by kernel_rfl)) (by unfold Func.isWrapper; rw [if_neg (of_decide_eq_false (by kernel_rfl))]; exact ⟨rfl, rfl⟩)
    (fun os started H enc _ => wideSmall_lifted os started H enc)

/-- The statement. -/
theorem wideSmall_holds : Rows.WideSmallSaid := wideSmall_over

end Go.Proofs.Ytfoojpfgeicolaa
