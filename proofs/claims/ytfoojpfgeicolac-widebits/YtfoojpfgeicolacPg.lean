/- For all numbers a and b of 512 bits the law WideBits returns true, and its arguments read behind the call as they did before. No condition. -/
import Derived.Test.YtfoojpfgeicolacBa
import Derived.Test.YtfoojpfgeicolacKe
import Derived.Test.YtfoojpfgeicolacZq
namespace Go.Proofs.Ytfoojpfgeicolac
open Go.ChangeShapes Go.WideShapes Go.ChangeAt Go.RowKit
set_option linter.unusedVariables false

theorem wideBits_walk (a b : Nat) (w : World) :
    Calls Try.prog 3 #[W a, W b] w fun e w' => e = .returned (.bool true) ∧ Below w.heap.size w w' := by
  have ha := bits_le a
  have hb := bits_le b
  exact bits_law a b (negN a) (mulN a b) (enc 1) (shlN (blen (sv a).natAbs : Int) (enc 1)) (shlN ((blen (sv a).natAbs : Int) - 1) (enc 1)) (negB a) (shlB (blen (sv a).natAbs : Int) (enc 1)) (shlB ((blen (sv a).natAbs : Int) - 1) (enc 1)) (mulB a b)
    (blen (sv a).natAbs : Int) (blen (sv b).natAbs : Int) (blen (sv (negN a)).natAbs : Int) (blen (sv (mulN a b)).natAbs : Int) (sgn (sv a)) (sgn (sv (mulN a b))) _ _ _ _ w
    (fun u => BitsN a u) (fun u => BitsN b u) (fun u => BitsN (negN a) u) (fun u => BitsN (mulN a b) u) (fun u => SignN a u) (fun u => SignN (mulN a b) u) (fun u => NegN a u) (fun u => MulN a b u) (fun u => OfZ 1 (by decide) (by decide) u)
    (fun u => ShlN _ (by omega) (by omega) (enc 1) u) (fun u => ShlN _ (by omega) (by omega) (enc 1) u) (fun u => CmpN a _ u) (fun u => CmpN (negN a) _ u) (fun u => CmpN a _ u) (fun u => CmpN (negN a) _ u) (fun u => awakeZ u)
    (by omega) (by omega) (bt3 a) (fun h => bt4 a h) (fun h => bt5 a h) (fun h0 h1 => bt6 a h0 h1) (fun h => bt7 a b h) (bt_wrap _ (by omega) (by omega)) (bt_wrap _ (by omega) (by omega)) (bt_wrap _ (by omega) (by omega))

theorem wideBits_own : ownKnob Try.prog.godebug = none := by kernel_rfl

set_option maxRecDepth 100000 in
theorem wideBits_lifted (os : Os) (started : os.Started) (H : Type) (enc : TypeId × Value → H) :
    ReturnsInHanded {} Try.checked os 3 .any (Rows.wideBitsSpec.pre6 enc Try.prog Try.f3 Rows.wideBitsRow.domain false) (Rows.wideBitsSpec.post enc Try.prog Try.f3 false true false false) := by
  refine returnsInHanded_of_change (C := Try.checked) wideBits_own started (by kernel_rfl) Try.func3
    (ChangeSpec.witness6 (enc := enc) (C := Try.checked) false ⟨#[], #[.agg #[.int .u64 0, .int .u64 0, .int .u64 0, .int .u64 0, .int .u64 0, .int .u64 0, .int .u64 0, .int .u64 0], .agg #[.int .u64 0, .int .u64 0, .int .u64 0, .int .u64 0, .int .u64 0, .int .u64 0, .int .u64 0, .int .u64 0]], []⟩ 8 (by kernel_rfl) (by kernel_rfl) (by kernel_rfl) (by kernel_rfl)) ?_
  intro W base args ds gs before hval0 hW hcnd _
  have hval : ∀ (j : Nat) t v, Try.f3.params[j]? = some t → args[j]? = some v → Value.okWide Try.prog W .any base t v := hval0
  have hW' := hW
  obtain ⟨p, q, hA0, hV, rfl, hfz, hnd⟩ := hW
  have hA : DataW.TrodAll enc Try.prog W 0 (fun _ => true) true Try.f3.params.toList args.toList ds p := hA0
  rw [Try.params3] at hA hval
  obtain ⟨v0, vs0, d0, ds0, p0, q0, hargs, rfl, rfl, h0, r0⟩ := trodAll_cons hA
  obtain ⟨v1, vs1, d1, ds1, p1, q1, rfl, rfl, rfl, h1, r1⟩ := trodAll_cons r0
  obtain ⟨rfl, rfl, rfl⟩ := trodAll_nil r1
  obtain rfl : args = #[v0, v1] := by cases args; simp_all
  obtain ⟨rfl, rfl⟩ := trodVars_none hV
  obtain ⟨a0, rfl, rfl, rfl⟩ := open_wide (hval 0 25 v0 rfl rfl) h0
  obtain ⟨a1, rfl, rfl, rfl⟩ := open_wide (hval 1 25 v1 rfl rfl) h1
  clear hA0 hval0
  refine (wideBits_walk a0 a1 W).mono fun e W' ⟨he, bel⟩ => ?_
  subst he
  exact ⟨_, rfl, _, _, _, [], [], [], hW', trodAll_mk1 (shut_bool Try.underlying4 _), (trodAll_cons_mk (shut_wide a0) (trodAll_cons_mk (shut_wide a1) trodAll_mk0)), rfl, bel.frame _, fun h => by cases h⟩

theorem wideBits_over : Rows.wideBitsRow.holds Try.pinned (OpenSpec.ofChange Rows.wideBitsSpec) :=
  OpenClaim.holds_of_wide 3 Try.f3 rfl rfl rfl rfl rfl rfl rfl ⟨rfl, rfl, rfl, rfl, rfl⟩ rfl rfl rfl rfl rfl (by kernel_rfl) Try.func3 (by kernel_rfl)
    (of_decide_eq_true (by kernel_rfl)) (by unfold Func.isWrapper; rw [if_neg (of_decide_eq_false (by kernel_rfl))]; exact ⟨rfl, rfl⟩)
    (fun os started H enc _ => wideBits_lifted os started H enc)

/-- The statement. -/
theorem wideBits_holds : Rows.WideBitsSaid := wideBits_over

end Go.Proofs.Ytfoojpfgeicolac
