/- The document's numbers of layer 2: raw, Within, Quotient. The document's numbers of layer 2: Of, Add, Sub, Mul, Div, In, Clamp, Floor. -/
import Derived.Test.YtbgafjdgahikcaaFd
import Derived.Test.YtbgafjdgahikcaaRq
import Derived.Test.YtbgafjdgahikcaaRh
import Derived.Test.YtbgafjdgahikcaaRm
namespace Go.Proofs.Ytbgafjdgahikcaa
open Go.RowKit
set_option maxRecDepth 4000
set_option linter.unusedVariables false

set_option maxHeartbeats 1000000 in
theorem refw_core (X M1 M2 : Nat) (c1 c2 t : Int) (O1 O2 : Bool) (w : World) (hO1 : decide (0 < c1) = O1) (hO2 : decide (c2 < 0) = O2) (ht : Hid (wrap64 (lm X 0) = t))
    (s1 : Hid (Ans 90 #[.int .i64 9223372036854775807] (.agg (cells8 M1)))) (s2 : Hid (Ans 90 #[.int .i64 (-9223372036854775808)] (.agg (cells8 M2))))
    (k1 : Hid (Ans 163 #[.agg (cells8 X), .agg (cells8 M1)] (.int .i64 c1))) (k2 : Hid (Ans 163 #[.agg (cells8 X), .agg (cells8 M2)] (.int .i64 c2))) :
    Calls Try.prog 124 #[W X] w fun e w' => e = .returned (.int .i64 (bif O1 then 9223372036854775807 else bif O2 then -9223372036854775808 else t)) ∧ Below w.heap.size w w' := by
  unfold W
  go_enter Try.func124, Try.ntmps124
  go_upto_region 1 with fail
  have D := hide (Env.one w X)
  refine region_plan (S := Env w [(w.heap.size, X)]) (l := [0, 1, 2, 3]) (by kernel_rfl) (by kernel_rfl) (by kernel_rfl) (by kernel_rfl) (by kernel_rfl) (by kernel_rfl) (by kernel_rfl) ((unhide D).drew) ?_
  clear D
  refine plan_read rfl rfl (fun u hS => exec_load8 (n := X) 40 (.tmp 1) (hS.blk (by repeat (first | exact List.mem_cons_self | apply List.mem_cons_of_mem))) rfl rfl Try.underlying40 rfl iWide) ?_
  refine plan_call (v := .agg (cells8 M1)) (f := 90) (args := #[.int .i64 9223372036854775807]) rfl rfl (fun u hS => by go_simp) (fun u hS => (unhide s1 u).mono fun _ _ ⟨he, hb⟩ => ⟨he, hS.keep hb⟩) ?_
  go_simp
  refine plan_call (v := .int .i64 c1) (f := 163) (args := #[.agg (cells8 X), .agg (cells8 M1)]) rfl rfl (fun u hS => by go_simp) (fun u hS => (unhide k1 u).mono fun _ _ ⟨he, hb⟩ => ⟨he, hS.keep hb⟩) ?_
  go_simp
  refine plan_read (v := .bool O1) rfl rfl (fun u hS => by go_simp) ?_
  go_simp
  refine plan_end (fun u hS => ?_)
  have D := hide hS
  clear hS
  cases O1
  · go_upto_region 3 with fail
    refine region_plan (S := Env w [(w.heap.size, X)]) (l := [0, 1, 2, 3]) (by kernel_rfl) (by kernel_rfl) (by kernel_rfl) (by kernel_rfl) (by kernel_rfl) (by kernel_rfl) (by kernel_rfl) ((unhide D).drew) ?_
    clear D
    refine plan_read rfl rfl (fun u hS => exec_load8 (n := X) 40 (.tmp 1) (hS.blk (by repeat (first | exact List.mem_cons_self | apply List.mem_cons_of_mem))) rfl rfl Try.underlying40 rfl iWide) ?_
    refine plan_call (v := .agg (cells8 M2)) (f := 90) (args := #[.int .i64 (-9223372036854775808)]) rfl rfl (fun u hS => by go_simp) (fun u hS => (unhide s2 u).mono fun _ _ ⟨he, hb⟩ => ⟨he, hS.keep hb⟩) ?_
    go_simp
    refine plan_call (v := .int .i64 c2) (f := 163) (args := #[.agg (cells8 X), .agg (cells8 M2)]) rfl rfl (fun u hS => by go_simp) (fun u hS => (unhide k2 u).mono fun _ _ ⟨he, hb⟩ => ⟨he, hS.keep hb⟩) ?_
    go_simp
    refine plan_read (v := .bool O2) rfl rfl (fun u hS => by go_simp) ?_
    go_simp
    refine plan_end (fun u2 hS => ?_)
    have D := hide hS
    clear hS
    cases O2
    · have h7 : u2.cell? ⟨w.heap.size, 0, none⟩ = some (.int .u64 (lm X 0)) := ((unhide D).blk (by repeat (first | exact List.mem_cons_self | apply List.mem_cons_of_mem))).cell 0
      have HL := hide (unhide ht)
      generalize lm X 0 = Z at *
      go_wp2
      go_ret
      exact ⟨congrArg (fun z => Ending.returned (Value.int .i64 z)) (unhide HL), (unhide D).o⟩
    · go_wp2
      go_ret
      exact ⟨rfl, (unhide D).o⟩
  · go_wp2
    go_ret
    exact ⟨rfl, (unhide D).o⟩

theorem cmpI_gt0 (x y : Int) : decide (0 < cmpI x y) = decide (y < x) := by
  unfold cmpI
  by_cases h : x < y
  · rw [if_pos h, decide_eq_false (show ¬ y < x by omega)]; rfl
  · rw [if_neg h]
    by_cases h2 : y < x
    · rw [if_pos h2, decide_eq_true h2]; rfl
    · rw [if_neg h2, decide_eq_false h2]; rfl
theorem cmpI_lt0 (x y : Int) : decide (cmpI x y < 0) = decide (x < y) := by
  unfold cmpI
  by_cases h : x < y
  · rw [if_pos h, decide_eq_true h]; rfl
  · rw [if_neg h, decide_eq_false h]
    split <;> rfl
theorem WithinR (x : Int) (hx : Fit x) : Ans 124 #[V x] (.int .i64 (cl x)) := by
  intro w
  have h1 : I64 9223372036854775807 := ⟨by decide, by decide⟩
  have h2 : I64 (-9223372036854775808) := ⟨by decide, by decide⟩
  have k := refw_core (enc x) (enc 9223372036854775807) (enc (-9223372036854775808)) _ _ _ _ _ w (cmpI_gt0 x 9223372036854775807) (cmpI_lt0 x (-9223372036854775808)) (wrap_enc x) (fun u => SmallZ _ h1.1 h1.2 u) (fun u => SmallZ _ h2.1 h2.2 u) (fun u => refCmp x _ hx h1.fit u) (fun u => refCmp x _ hx h2.fit u)
  have e : (bif decide (9223372036854775807 < x) then 9223372036854775807 else bif decide (x < -9223372036854775808) then -9223372036854775808 else wrap64 x) = cl x := by
    unfold cl
    by_cases a : 9223372036854775807 < x
    · rw [decide_eq_true a, if_pos a]; rfl
    · rw [decide_eq_false a, if_neg a]
      by_cases b : x < -9223372036854775808
      · rw [decide_eq_true b, if_pos b]; rfl
      · rw [decide_eq_false b, if_neg b]
        exact wrap_self ⟨by omega, by omega⟩
  rw [e] at k
  exact k

/-! Quotient. -/
end Go.Proofs.Ytbgafjdgahikcaa

namespace Go.Proofs.Ytbgafjdgahikcaa
open Go.RowKit
set_option maxRecDepth 4000
set_option linter.unusedVariables false

theorem fitN_fit {z : Int} (h : Fit z) : cells8 (fitN z) = cells8 (enc z) := by unfold fitN; rw [fit_true h]; rfl
theorem add_refS {j k : Nat} (x y : Int) (hx : Sz j x) (hy : Sz k y) (hj : j ≤ 500) (hk : k ≤ 500) : Ans 91 #[V x, V y] (.tuple #[V (x + y), .bool true]) := by
  intro u
  have hf : Fit (x + y) := ((hx.mono (show j ≤ 500 from hj)).add (hy.mono (show k ≤ 500 from hk))).fit (by decide)
  have h := refAdd x y (hx.fit (by omega)) (hy.fit (by omega)) u
  rw [fitN_fit hf, fit_true hf] at h
  exact h
theorem sub_refS {j k : Nat} (x y : Int) (hx : Sz j x) (hy : Sz k y) (hj : j ≤ 500) (hk : k ≤ 500) : Ans 130 #[V x, V y] (.tuple #[V (x - y), .bool true]) := by
  intro u
  have hf : Fit (x - y) := ((hx.mono (show j ≤ 500 from hj)).sub (hy.mono (show k ≤ 500 from hk))).fit (by decide)
  have h := refSub x y (hx.fit (by omega)) (hy.fit (by omega)) u
  rw [fitN_fit hf, fit_true hf] at h
  exact h
theorem mul_refS {j k : Nat} (x y : Int) (hx : Sz j x) (hy : Sz k y) (hjk : j + k ≤ 510) : Ans 89 #[V x, V y] (.tuple #[V (x * y), .bool true]) := by
  intro u
  have hf : Fit (x * y) := (hx.mul hy).fit hjk
  have h := refMul x y (hx.fit (by omega)) (hy.fit (by omega)) u
  rw [fitN_fit hf, fit_true hf] at h
  exact h
theorem shl_refS (x : Int) (k : Nat) (hx : Fit x) (hf : Fit (x * ((2 ^ k : Nat) : Int))) : Ans 164 #[V x, .int .i64 k] (.tuple #[V (x * ((2 ^ k : Nat) : Int)), .bool true]) := by
  intro u
  have h := refShl x k hx u
  rw [decide_eq_false (show ¬ (k : Int) < 0 by omega), Int.toNat_natCast, fit_true hf] at h
  exact h
theorem div_refS {j k : Nat} (x y : Int) (hx : Sz j x) (hy : Sz k y) (hj : j ≤ 500) (hk : k ≤ 500) (h0 : y ≠ 0) : Ans 98 #[V x, V y] (.tuple #[V (x.fdiv y), V (x.fmod y), .bool true]) := by
  intro u
  have k := refDivZ x y (hx.fit (by omega)) (hy.fit (by omega)) u
  have hd : dq x y = true := by
    unfold dq
    rw [fit_true ((hx.fdiv h0).fit (by omega))]
    simp [h0]
  rw [hd] at k
  exact k
theorem upN_sz {k : Nat} {z : Int} (h : Sz k z) (b : Bool) : Sz (k + 1) (upN z b) := by
  cases b
  · exact h.add (Sz.one.mono (by omega))
  · exact h.mono (by omega)
end Go.Proofs.Ytbgafjdgahikcaa
