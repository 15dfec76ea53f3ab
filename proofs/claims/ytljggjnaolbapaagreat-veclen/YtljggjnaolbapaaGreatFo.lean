/- The document's numbers of layer 2: raw, Within, Quotient. The document's numbers of layer 2: Of, Add, Sub, Mul, Div, In, Clamp, Floor. -/
import Derived.Test.YtljggjnaolbapaaGreatFd
import Derived.Test.YtljggjnaolbapaaGreatRq
import Derived.Test.YtljggjnaolbapaaGreatRh
import Derived.Test.YtljggjnaolbapaaGreatRm
namespace Go.Proofs.YtljggjnaolbapaaGreat
open Go.RowKit
set_option maxRecDepth 4000
set_option linter.unusedVariables false

theorem raw_core (a : Nat) (x : Int) (w : World) (hO : Hid (Ans 63 #[.int .i64 x] (.agg (cells8 a)))) :
    Calls Tryz.prog 104 #[.int .i64 x] w fun e w' => e = .returned (.agg (cells8 a)) ∧ Below w.heap.size w w' := by
  go_enter Tryz.func104, Tryz.ntmps104
  go_upto_region 1 with fail
  have D := hide (Env.start w).zero
  go_wp2_with (first | (with_reducible refine at_list ?_; apply ldE (unhide D) _ rfl rfl rfl (by repeat (first | exact List.mem_cons_self | apply List.mem_cons_of_mem))) | (go_at_call 63; with_reducible refine (unhide hO _).mono ?_; rintro e w' ⟨he, hb⟩; subst he; have D := hide ((unhide D).keep hb); clear hb) | (with_reducible refine at_list ?_;  apply stEnd (unhide D) _ _ rfl rfl rfl rfl (by repeat (first | exact List.mem_cons_self | apply List.mem_cons_of_mem)) (by omega); intro B O))
  exact res8 (unhide B) rfl rfl rfl Tryz.underlying56 rfl iWide ⟨rfl, unhide O⟩
theorem RawR (x : Int) (hx : I64 x) : Ans 104 #[.int .i64 x] (V x) := fun w => raw_core (enc x) x w (fun u => SmallZ x hx.1 hx.2 u)

set_option maxHeartbeats 1000000 in
theorem refw_core (X M1 M2 : Nat) (c1 c2 t : Int) (O1 O2 : Bool) (w : World) (hO1 : decide (0 < c1) = O1) (hO2 : decide (c2 < 0) = O2) (ht : Hid (wrap64 (lm X 0) = t))
    (s1 : Hid (Ans 63 #[.int .i64 9223372036854775807] (.agg (cells8 M1)))) (s2 : Hid (Ans 63 #[.int .i64 (-9223372036854775808)] (.agg (cells8 M2))))
    (k1 : Hid (Ans 79 #[.agg (cells8 X), .agg (cells8 M1)] (.int .i64 c1))) (k2 : Hid (Ans 79 #[.agg (cells8 X), .agg (cells8 M2)] (.int .i64 c2))) :
    Calls Tryz.prog 64 #[W X] w fun e w' => e = .returned (.int .i64 (bif O1 then 9223372036854775807 else bif O2 then -9223372036854775808 else t)) ∧ Below w.heap.size w w' := by
  unfold W
  go_enter Tryz.func64, Tryz.ntmps64
  go_upto_region 1 with fail
  have D := hide (Env.one w X)
  refine region_plan (S := Env w [(w.heap.size, X)]) (l := [0, 1, 2, 3]) (by kernel_rfl) (by kernel_rfl) (by kernel_rfl) (by kernel_rfl) (by kernel_rfl) (by kernel_rfl) (by kernel_rfl) ((unhide D).drew) ?_
  clear D
  refine plan_read rfl rfl (fun u hS => exec_load8 (n := X) 56 (.tmp 1) (hS.blk (by repeat (first | exact List.mem_cons_self | apply List.mem_cons_of_mem))) rfl rfl Tryz.underlying56 rfl iWide) ?_
  refine plan_call (v := .agg (cells8 M1)) (f := 63) (args := #[.int .i64 9223372036854775807]) rfl rfl (fun u hS => by go_simp) (fun u hS => (unhide s1 u).mono fun _ _ ⟨he, hb⟩ => ⟨he, hS.keep hb⟩) ?_
  go_simp
  refine plan_call (v := .int .i64 c1) (f := 79) (args := #[.agg (cells8 X), .agg (cells8 M1)]) rfl rfl (fun u hS => by go_simp) (fun u hS => (unhide k1 u).mono fun _ _ ⟨he, hb⟩ => ⟨he, hS.keep hb⟩) ?_
  go_simp
  refine plan_read (v := .bool O1) rfl rfl (fun u hS => by go_simp) ?_
  go_simp
  refine plan_end (fun u hS => ?_)
  have D := hide hS
  clear hS
  cases O1
  · go_upto_region 3 with fail
    refine region_plan (S := Env w [(w.heap.size, X)]) (l := [0, 1, 2, 3]) (by kernel_rfl) (by kernel_rfl) (by kernel_rfl) (by kernel_rfl) (by kernel_rfl) (by kernel_rfl) (by kernel_rfl) ((unhide D).drew) ?_
    clear D
    refine plan_read rfl rfl (fun u hS => exec_load8 (n := X) 56 (.tmp 1) (hS.blk (by repeat (first | exact List.mem_cons_self | apply List.mem_cons_of_mem))) rfl rfl Tryz.underlying56 rfl iWide) ?_
    refine plan_call (v := .agg (cells8 M2)) (f := 63) (args := #[.int .i64 (-9223372036854775808)]) rfl rfl (fun u hS => by go_simp) (fun u hS => (unhide s2 u).mono fun _ _ ⟨he, hb⟩ => ⟨he, hS.keep hb⟩) ?_
    go_simp
    refine plan_call (v := .int .i64 c2) (f := 79) (args := #[.agg (cells8 X), .agg (cells8 M2)]) rfl rfl (fun u hS => by go_simp) (fun u hS => (unhide k2 u).mono fun _ _ ⟨he, hb⟩ => ⟨he, hS.keep hb⟩) ?_
    go_simp
    refine plan_read (v := .bool O2) rfl rfl (fun u hS => by go_simp) ?_
    go_simp
    refine plan_end (fun u2 hS => ?_)
    have D := hide hS
    clear hS
    cases O2
    · have h7 : u2.cell? ⟨w.heap.size, 0, none⟩ = some (.int .u64 (lm X 0)) := ((unhide D).blk (by repeat (first | exact List.mem_cons_self | apply List.mem_cons_of_mem))).cell 0
      have HL := hide (unhide ht)
      generalize lm X 0 = Z at *
      go_wp2
      go_ret
      exact ⟨congrArg (fun z => Ending.returned (Value.int .i64 z)) (unhide HL), (unhide D).o⟩
    · go_wp2
      go_ret
      exact ⟨rfl, (unhide D).o⟩
  · go_wp2
    go_ret
    exact ⟨rfl, (unhide D).o⟩

theorem cmpI_gt0 (x y : Int) : decide (0 < cmpI x y) = decide (y < x) := by
  unfold cmpI
  by_cases h : x < y
  · rw [if_pos h, decide_eq_false (show ¬ y < x by omega)]; rfl
  · rw [if_neg h]
    by_cases h2 : y < x
    · rw [if_pos h2, decide_eq_true h2]; rfl
    · rw [if_neg h2, decide_eq_false h2]; rfl
theorem cmpI_lt0 (x y : Int) : decide (cmpI x y < 0) = decide (x < y) := by
  unfold cmpI
  by_cases h : x < y
  · rw [if_pos h, decide_eq_true h]; rfl
  · rw [if_neg h, decide_eq_false h]
    split <;> rfl
theorem WithinR (x : Int) (hx : Fit x) : Ans 64 #[V x] (.int .i64 (cl x)) := by
  intro w
  have h1 : I64 9223372036854775807 := ⟨by decide, by decide⟩
  have h2 : I64 (-9223372036854775808) := ⟨by decide, by decide⟩
  have k := refw_core (enc x) (enc 9223372036854775807) (enc (-9223372036854775808)) _ _ _ _ _ w (cmpI_gt0 x 9223372036854775807) (cmpI_lt0 x (-9223372036854775808)) (wrap_enc x) (fun u => SmallZ _ h1.1 h1.2 u) (fun u => SmallZ _ h2.1 h2.2 u) (fun u => refCmp x _ hx h1.fit u) (fun u => refCmp x _ hx h2.fit u)
  have e : (bif decide (9223372036854775807 < x) then 9223372036854775807 else bif decide (x < -9223372036854775808) then -9223372036854775808 else wrap64 x) = cl x := by
    unfold cl
    by_cases a : 9223372036854775807 < x
    · rw [decide_eq_true a, if_pos a]; rfl
    · rw [decide_eq_false a, if_neg a]
      by_cases b : x < -9223372036854775808
      · rw [decide_eq_true b, if_pos b]; rfl
      · rw [decide_eq_false b, if_neg b]
        exact wrap_self ⟨by omega, by omega⟩
  rw [e] at k
  exact k

/-! Quotient. -/
set_option maxHeartbeats 1000000 in
theorem quot_low (X Y Q R : Nat) (s : Int) (up E : Bool) (w : World) (hs : up = true → s = 0)
    (hD : Hid (Ans 125 #[.agg (cells8 X), .agg (cells8 Y)] (.tuple #[.agg (cells8 Q), .agg (cells8 R), .bool E])))
    (hS : Hid (Ans 99 #[.agg (cells8 R)] (.int .i64 s))) :
    Calls Tryz.prog 108 #[W X, W Y, .bool up] w fun e w' => e = .returned (.agg (cells8 Q)) ∧ Below w.heap.size w w' := by
  unfold W
  go_enter Tryz.func108, Tryz.ntmps108
  go_upto_region 1 with fail
  have D := hide (Env.two w X Y).zero
  simp only [szA] at D
  cases up
  · go_wp2_with (first | (with_reducible refine at_list ?_; apply ldE (unhide D) _ rfl rfl rfl (by repeat (first | exact List.mem_cons_self | apply List.mem_cons_of_mem))) | (with_reducible refine at_list ?_; apply ldEw (unhide D) _ rfl rfl rfl (by repeat (first | exact List.mem_cons_self | apply List.mem_cons_of_mem))) | (go_at_call 125; with_reducible refine (unhide hD _).mono ?_; rintro e w' ⟨he, hb⟩; subst he; have D := hide ((unhide D).keep hb); clear hb) | (with_reducible refine at_list ?_;  refine stOne (n := Q) rfl _ _ rfl rfl rfl rfl ?_) | (with_reducible refine at_list ?_;  refine stTwo (n := Q) (m := R) (unhide D) rfl _ _ rfl rfl rfl rfl ?_; intro w1 D'; have D := D'; clear D') | (with_reducible refine at_list ?_;  apply stEnd (unhide D) _ _ rfl rfl rfl rfl (by repeat (first | exact List.mem_cons_self | apply List.mem_cons_of_mem)) (by omega); intro B O))
    exact res8 (unhide B) rfl rfl rfl Tryz.underlying56 rfl iWide ⟨rfl, unhide O⟩
  · obtain rfl : s = 0 := hs rfl
    go_wp2_with (first | (with_reducible refine at_list ?_; apply ldE (unhide D) _ rfl rfl rfl (by repeat (first | exact List.mem_cons_self | apply List.mem_cons_of_mem))) | (with_reducible refine at_list ?_; apply ldEw (unhide D) _ rfl rfl rfl (by repeat (first | exact List.mem_cons_self | apply List.mem_cons_of_mem))) | (go_at_call 125; with_reducible refine (unhide hD _).mono ?_; rintro e w' ⟨he, hb⟩; subst he; have D := hide ((unhide D).keep hb); clear hb) | (go_at_call 99; with_reducible refine (unhide hS _).mono ?_; rintro e w' ⟨he, hb⟩; subst he; have D := hide ((unhide D).keep hb); clear hb) | (with_reducible refine at_list ?_;  refine stOne (n := Q) rfl _ _ rfl rfl rfl rfl ?_) | (with_reducible refine at_list ?_;  refine stTwo (n := Q) (m := R) (unhide D) rfl _ _ rfl rfl rfl rfl ?_; intro w1 D'; have D := D'; clear D') | (with_reducible refine at_list ?_;  apply stEnd (unhide D) _ _ rfl rfl rfl rfl (by repeat (first | exact List.mem_cons_self | apply List.mem_cons_of_mem)) (by omega); intro B O))
    exact res8 (unhide B) rfl rfl rfl Tryz.underlying56 rfl iWide ⟨rfl, unhide O⟩
set_option maxHeartbeats 1000000 in
theorem quot_up (X Y Q R Q1 one : Nat) (s : Int) (E F : Bool) (w : World) (hs1 : (s == 0) = false) (hs2 : (s != 0) = true) (hs3 : decide (s = 0) = false)
    (hD : Hid (Ans 125 #[.agg (cells8 X), .agg (cells8 Y)] (.tuple #[.agg (cells8 Q), .agg (cells8 R), .bool E])))
    (hS : Hid (Ans 99 #[.agg (cells8 R)] (.int .i64 s))) (hO : Hid (Ans 63 #[.int .i64 1] (.agg (cells8 one)))) (hA : Hid (Ans 103 #[.agg (cells8 Q), .agg (cells8 one)] (.tuple #[.agg (cells8 Q1), .bool F]))) :
    Calls Tryz.prog 108 #[W X, W Y, .bool true] w fun e w' => e = .returned (.agg (cells8 Q1)) ∧ Below w.heap.size w w' := by
  unfold W
  go_enter Tryz.func108, Tryz.ntmps108
  go_upto_region 1 with fail
  have D := hide (Env.two w X Y).zero
  simp only [szA] at D
  go_upto_region 3 with (first | (with_reducible refine at_list ?_; apply ldE (unhide D) _ rfl rfl rfl (by repeat (first | exact List.mem_cons_self | apply List.mem_cons_of_mem))) | (with_reducible refine at_list ?_; apply ldEw (unhide D) _ rfl rfl rfl (by repeat (first | exact List.mem_cons_self | apply List.mem_cons_of_mem))) | (go_at_call 125; with_reducible refine (unhide hD _).mono ?_; rintro e w' ⟨he, hb⟩; subst he; have D := hide ((unhide D).keep hb); clear hb) | (go_at_call 99; with_reducible refine (unhide hS _).mono ?_; rintro e w' ⟨he, hb⟩; subst he; have D := hide ((unhide D).keep hb); clear hb) | (with_reducible refine at_list ?_;  refine stOne (n := Q) rfl _ _ rfl rfl rfl rfl ?_) | (with_reducible refine at_list ?_;  have l0 := (unhide D).o.size; have l1 := ((unhide D).blk (n := 0) (by repeat (first | exact List.mem_cons_self | apply List.mem_cons_of_mem))).lt; refine stTwo (n := Q) (m := R) (unhide D) rfl _ _ rfl rfl rfl rfl ?_; intro w1 D'; have D := D'; clear D'))
  have D1 : Hid (EnvZ w _ w'.heap.size w'.drew) := ⟨(unhide D).drew, Nat.le_refl _⟩
  have L0 := hide l0
  have L1 := hide l1
  clear D l0 l1
  refine region_lazy (S := EnvZ w _ w'.heap.size) (v := .bool F) (ty := 56) (zs := #[.int .u64 0, .int .u64 0, .int .u64 0, .int .u64 0, .int .u64 0, .int .u64 0, .int .u64 0, .int .u64 0]) (base := w'.heap.size) (l := [0, 1, 2, 3, 4]) (A := []) (z := 5) (t := 6) (r := []) (by kernel_rfl) (by kernel_rfl) (by kernel_rfl) (by kernel_rfl) (by kernel_rfl) (by kernel_rfl) (by kernel_rfl) (by kernel_rfl) (by kernel_rfl) (by kernel_rfl) rfl rfl (fun i hi => by cases hi) (fun _ _ h hb => h.keep hb) (fun _ h => h.s) (unhide D1) ?_
  clear D1
  refine planB_read rfl rfl (fun u hS => exec_load8 (n := Q) 56 (.tmp 7) (hS.e.blk (by repeat (first | exact List.mem_cons_self | apply List.mem_cons_of_mem))) rfl rfl Tryz.underlying56 rfl iWide) ?_
  refine planB_call (v := .agg (cells8 one)) (f := 63) (args := #[.int .i64 1]) rfl rfl (fun u hS => by go_simp) (fun u hS => (unhide hO u).mono fun _ _ ⟨he, hb⟩ => ⟨he, hS.keep hb, hb⟩) ?_
  go_simp
  refine planB_call (v := .tuple #[.agg (cells8 Q1), .bool F]) (f := 103) (args := #[W Q, W one]) rfl rfl (fun u hS => by go_simp) (fun u hS => (unhide hA u).mono fun _ _ ⟨he, hb⟩ => ⟨he, hS.keep hb, hb⟩) ?_
  go_simp
  refine planB_read (v := ?_) rfl rfl (fun u hS => by go_simp; rfl) ?_
  go_simp
  refine planB_read (v := ?_) rfl rfl (fun u hS => by go_simp; rfl) ?_
  go_simp
  refine planB_lazy rfl (fun u => by go_simp) rfl rfl (fun c u hS hB hI => ?_)
  clear hB hI
  simp only [pa]
  have B7 := hide (hS.e.blk (n := Q) (by repeat (first | exact List.mem_cons_self | apply List.mem_cons_of_mem)))
  have B6 := hide (hS.e.blk (n := 0) (by repeat (first | exact List.mem_cons_self | apply List.mem_cons_of_mem)))
  have O7 := hide hS.e.o
  refine ⟨_, exec_store8 (n := Q1) 56 (.tmp 7) (.tmp 27) (unhide B7) rfl rfl rfl rfl iWide, ?_⟩
  have D : Hid (Env w _ _) := ⟨mem_blk (((unhide B6).rowOther (cells8 Q1) (by have := unhide L1; omega))) ((unhide B7).row (cells8 Q1)), below_row (unhide O7) (unhide L0) (cells8 Q1)⟩
  clear hS B7 B6 O7 L0 L1
  simp only [opsOf]
  go_simp
  go_wp2_with (first | (with_reducible refine at_list ?_; apply ldE (unhide D) _ rfl rfl rfl (by repeat (first | exact List.mem_cons_self | apply List.mem_cons_of_mem))) | (with_reducible refine at_list ?_;  apply stEnd (unhide D) _ _ rfl rfl rfl rfl (by repeat (first | exact List.mem_cons_self | apply List.mem_cons_of_mem)) (by omega); intro B O))
  exact res8 (unhide B) rfl rfl rfl Tryz.underlying56 rfl iWide ⟨rfl, unhide O⟩

end Go.Proofs.YtljggjnaolbapaaGreat

namespace Go.Proofs.YtljggjnaolbapaaGreat
open Go.RowKit
set_option maxRecDepth 4000
set_option linter.unusedVariables false

theorem fitN_fit {z : Int} (h : Fit z) : cells8 (fitN z) = cells8 (enc z) := by unfold fitN; rw [fit_true h]; rfl
theorem add_refS {j k : Nat} (x y : Int) (hx : Sz j x) (hy : Sz k y) (hj : j ≤ 500) (hk : k ≤ 500) : Ans 103 #[V x, V y] (.tuple #[V (x + y), .bool true]) := by
  intro u
  have hf : Fit (x + y) := ((hx.mono (show j ≤ 500 from hj)).add (hy.mono (show k ≤ 500 from hk))).fit (by decide)
  have h := refAdd x y (hx.fit (by omega)) (hy.fit (by omega)) u
  rw [fitN_fit hf, fit_true hf] at h
  exact h
theorem sub_refS {j k : Nat} (x y : Int) (hx : Sz j x) (hy : Sz k y) (hj : j ≤ 500) (hk : k ≤ 500) : Ans 105 #[V x, V y] (.tuple #[V (x - y), .bool true]) := by
  intro u
  have hf : Fit (x - y) := ((hx.mono (show j ≤ 500 from hj)).sub (hy.mono (show k ≤ 500 from hk))).fit (by decide)
  have h := refSub x y (hx.fit (by omega)) (hy.fit (by omega)) u
  rw [fitN_fit hf, fit_true hf] at h
  exact h
theorem mul_refS {j k : Nat} (x y : Int) (hx : Sz j x) (hy : Sz k y) (hjk : j + k ≤ 510) : Ans 107 #[V x, V y] (.tuple #[V (x * y), .bool true]) := by
  intro u
  have hf : Fit (x * y) := (hx.mul hy).fit hjk
  have h := refMul x y (hx.fit (by omega)) (hy.fit (by omega)) u
  rw [fitN_fit hf, fit_true hf] at h
  exact h
theorem shl_refS (x : Int) (k : Nat) (hx : Fit x) (hf : Fit (x * ((2 ^ k : Nat) : Int))) : Ans 111 #[V x, .int .i64 k] (.tuple #[V (x * ((2 ^ k : Nat) : Int)), .bool true]) := by
  intro u
  have h := refShl x k hx u
  rw [decide_eq_false (show ¬ (k : Int) < 0 by omega), Int.toNat_natCast, fit_true hf] at h
  exact h
theorem div_refS {j k : Nat} (x y : Int) (hx : Sz j x) (hy : Sz k y) (hj : j ≤ 500) (hk : k ≤ 500) (h0 : y ≠ 0) : Ans 125 #[V x, V y] (.tuple #[V (x.fdiv y), V (x.fmod y), .bool true]) := by
  intro u
  have k := refDivZ x y (hx.fit (by omega)) (hy.fit (by omega)) u
  have hd : dq x y = true := by
    unfold dq
    rw [fit_true ((hx.fdiv h0).fit (by omega))]
    simp [h0]
  rw [hd] at k
  exact k
theorem QuotR {j k : Nat} (x y : Int) (up : Bool) (hx : Sz j x) (hy : Sz k y) (hj : j ≤ 400) (hk : k ≤ 400) (h0 : y ≠ 0) : Ans 108 #[V x, V y, .bool up] (V (upN (x.fdiv y) (!up || decide (x.fmod y = 0)))) := by
  intro w
  have hD := div_refS x y hx hy (by omega) (by omega) h0
  have hR : Fit (x.fmod y) := (hy.fmod h0).fit (by omega)
  cases up
  · exact quot_low (enc x) (enc y) (enc (x.fdiv y)) (enc (x.fmod y)) (sgn (x.fmod y)) false true w (fun h => by cases h) hD (fun u => refSign _ hR u)
  · by_cases hr : x.fmod y = 0
    · rw [decide_eq_true hr]
      exact quot_low (enc x) (enc y) (enc (x.fdiv y)) (enc (x.fmod y)) (sgn (x.fmod y)) true true w (fun _ => (sgn_zero _).2 hr) hD (fun u => refSign _ hR u)
    · rw [decide_eq_false hr]
      have hs : sgn (x.fmod y) ≠ 0 := fun hc => hr ((sgn_zero _).1 hc)
      exact quot_up (enc x) (enc y) (enc (x.fdiv y)) (enc (x.fmod y)) (enc (x.fdiv y + 1)) (enc 1) (sgn (x.fmod y)) true true w (by simp [hs]) (by simp [hs]) (by simp [hs]) hD (fun u => refSign _ hR u) (fun u => SmallZ 1 (by decide) (by decide) u) (add_refS _ 1 (hx.fdiv h0) Sz.one (by omega) (by decide))

theorem Add_core2 (a b c : Nat) (x y v : Int) (E : Bool) (w : World) (hX : Hid (Ans 104 #[.int .i64 x] (.agg (cells8 a)))) (hY : Hid (Ans 104 #[.int .i64 y] (.agg (cells8 b)))) (hS : Hid (Ans 103 #[.agg (cells8 a), .agg (cells8 b)] (.tuple #[.agg (cells8 c), .bool E]))) (hW : Hid (Ans 64 #[.agg (cells8 c)] (.int .i64 v))) :
    Calls Tryz.prog 43 #[.int .i64 x, .int .i64 y] w fun e w' => e = .returned (.int .i64 v) ∧ Below w.heap.size w w' := by
  have D := hide (Env.start w)
  go_enter Tryz.func43, Tryz.ntmps43
  go_wp2_with (first | (with_reducible refine at_list ?_; apply ldE (unhide D) _ rfl rfl rfl (by repeat (first | exact List.mem_cons_self | apply List.mem_cons_of_mem))) | (with_reducible refine at_list ?_; refine stE (unhide D) _ _ rfl rfl rfl rfl rfl ?_; intro D'; have D := hide D'; clear D') | (go_at_call 104; with_reducible refine (unhide hX _).mono ?_; rintro e w' ⟨he, hb⟩; subst he; have D := hide ((unhide D).keep hb); clear hb) | (go_at_call 104; with_reducible refine (unhide hY _).mono ?_; rintro e w' ⟨he, hb⟩; subst he; have D := hide ((unhide D).keep hb); clear hb) | (go_at_call 103; with_reducible refine (unhide hS _).mono ?_; rintro e w' ⟨he, hb⟩; subst he; have D := hide ((unhide D).keep hb); clear hb) | (go_at_call 64; with_reducible refine (unhide hW _).mono ?_; rintro e w' ⟨he, hb⟩; subst he; have D := hide ((unhide D).keep hb); clear hb))
  go_ret
  exact ⟨rfl, (unhide D).o⟩
theorem Sub_core2 (a b c : Nat) (x y v : Int) (E : Bool) (w : World) (hX : Hid (Ans 104 #[.int .i64 x] (.agg (cells8 a)))) (hY : Hid (Ans 104 #[.int .i64 y] (.agg (cells8 b)))) (hS : Hid (Ans 105 #[.agg (cells8 a), .agg (cells8 b)] (.tuple #[.agg (cells8 c), .bool E]))) (hW : Hid (Ans 64 #[.agg (cells8 c)] (.int .i64 v))) :
    Calls Tryz.prog 46 #[.int .i64 x, .int .i64 y] w fun e w' => e = .returned (.int .i64 v) ∧ Below w.heap.size w w' := by
  have D := hide (Env.start w)
  go_enter Tryz.func46, Tryz.ntmps46
  go_wp2_with (first | (with_reducible refine at_list ?_; apply ldE (unhide D) _ rfl rfl rfl (by repeat (first | exact List.mem_cons_self | apply List.mem_cons_of_mem))) | (with_reducible refine at_list ?_; refine stE (unhide D) _ _ rfl rfl rfl rfl rfl ?_; intro D'; have D := hide D'; clear D') | (go_at_call 104; with_reducible refine (unhide hX _).mono ?_; rintro e w' ⟨he, hb⟩; subst he; have D := hide ((unhide D).keep hb); clear hb) | (go_at_call 104; with_reducible refine (unhide hY _).mono ?_; rintro e w' ⟨he, hb⟩; subst he; have D := hide ((unhide D).keep hb); clear hb) | (go_at_call 105; with_reducible refine (unhide hS _).mono ?_; rintro e w' ⟨he, hb⟩; subst he; have D := hide ((unhide D).keep hb); clear hb) | (go_at_call 64; with_reducible refine (unhide hW _).mono ?_; rintro e w' ⟨he, hb⟩; subst he; have D := hide ((unhide D).keep hb); clear hb))
  go_ret
  exact ⟨rfl, (unhide D).o⟩
theorem AddR (x y : Int) (hx : I64 x) (hy : I64 y) : Ans 43 #[.int .i64 x, .int .i64 y] (.int .i64 (cl (x + y))) := fun w =>
  Add_core2 (enc x) (enc y) (enc (x + y)) x y _ true w (RawR x hx) (RawR y hy) (add_refS x y hx.sz hy.sz (by decide) (by decide)) (WithinR _ ((hx.sz.add hy.sz).fit (by decide)))
theorem SubR (x y : Int) (hx : I64 x) (hy : I64 y) : Ans 46 #[.int .i64 x, .int .i64 y] (.int .i64 (cl (x - y))) := fun w =>
  Sub_core2 (enc x) (enc y) (enc (x - y)) x y _ true w (RawR x hx) (RawR y hy) (sub_refS x y hx.sz hy.sz (by decide) (by decide)) (WithinR _ ((hx.sz.sub hy.sz).fit (by decide)))

set_option maxHeartbeats 1000000 in
theorem mul2_core (a b p m q : Nat) (x y v : Int) (up E : Bool) (w : World) (hX : Hid (Ans 104 #[.int .i64 x] (.agg (cells8 a)))) (hY : Hid (Ans 104 #[.int .i64 y] (.agg (cells8 b)))) (hS : Hid (Ans 107 #[.agg (cells8 a), .agg (cells8 b)] (.tuple #[.agg (cells8 p), .bool E])))
    (hO : Hid (Ans 63 #[.int .i64 4294967296] (.agg (cells8 m)))) (hQ : Hid (Ans 108 #[.agg (cells8 p), .agg (cells8 m), .bool up] (.agg (cells8 q)))) (hW : Hid (Ans 64 #[.agg (cells8 q)] (.int .i64 v))) :
    Calls Tryz.prog 49 #[.int .i64 x, .int .i64 y, .bool up] w fun e w' => e = .returned (.int .i64 v) ∧ Below w.heap.size w w' := by
  have D := hide (Env.start w)
  go_enter Tryz.func49, Tryz.ntmps49
  go_upto_region 2 with (first | (with_reducible refine at_list ?_; apply ldE (unhide D) _ rfl rfl rfl (by repeat (first | exact List.mem_cons_self | apply List.mem_cons_of_mem))) | (with_reducible refine at_list ?_; refine stE (unhide D) _ _ rfl rfl rfl rfl rfl ?_; intro D'; have D := hide D'; clear D') | (go_at_call 104; with_reducible refine (unhide hX _).mono ?_; rintro e w' ⟨he, hb⟩; subst he; have D := hide ((unhide D).keep hb); clear hb) | (go_at_call 104; with_reducible refine (unhide hY _).mono ?_; rintro e w' ⟨he, hb⟩; subst he; have D := hide ((unhide D).keep hb); clear hb) | (go_at_call 107; with_reducible refine (unhide hS _).mono ?_; rintro e w' ⟨he, hb⟩; subst he; have D := hide ((unhide D).keep hb); clear hb))
  refine region_plan (S := Env w _) (l := [0, 1, 2, 3, 4, 5]) (by kernel_rfl) (by kernel_rfl) (by kernel_rfl) (by kernel_rfl) (by kernel_rfl) (by kernel_rfl) (by kernel_rfl) ((unhide D).drew) ?_
  clear D
  refine plan_read rfl rfl (fun u hS => exec_load8 (n := p) 56 (.tmp 7) (hS.blk (by repeat (first | exact List.mem_cons_self | apply List.mem_cons_of_mem))) rfl rfl Tryz.underlying56 rfl iWide) ?_
  refine plan_call (v := .agg (cells8 m)) (f := 63) (args := #[.int .i64 4294967296]) rfl rfl (fun u hS => by go_simp) (fun u hS => (unhide hO u).mono fun _ _ ⟨he, hb⟩ => ⟨he, hS.keep hb⟩) ?_
  go_simp
  refine plan_read (v := ?_) rfl rfl (fun u hS => by go_simp; rfl) ?_
  go_simp
  refine plan_call (v := .agg (cells8 q)) (f := 108) (args := #[.agg (cells8 p), .agg (cells8 m), .bool up]) rfl rfl (fun u hS => by go_simp) (fun u hS => (unhide hQ u).mono fun _ _ ⟨he, hb⟩ => ⟨he, hS.keep hb⟩) ?_
  go_simp
  refine plan_call (v := .int .i64 v) (f := 64) (args := #[.agg (cells8 q)]) rfl rfl (fun u hS => by go_simp) (fun u hS => (unhide hW u).mono fun _ _ ⟨he, hb⟩ => ⟨he, hS.keep hb⟩) ?_
  go_simp
  refine plan_read (v := ?_) rfl rfl (fun u hS => by go_simp; rfl) ?_
  go_simp
  refine plan_end (fun u hS => ?_)
  have O := hide hS.o
  clear hS
  go_wp2
  go_ret
  exact ⟨rfl, unhide O⟩
theorem upN_sz {k : Nat} {z : Int} (h : Sz k z) (b : Bool) : Sz (k + 1) (upN z b) := by
  cases b
  · exact h.add (Sz.one.mono (by omega))
  · exact h.mono (by omega)
theorem MulR (x y : Int) (up : Bool) (hx : I64 x) (hy : I64 y) : Ans 49 #[.int .i64 x, .int .i64 y, .bool up] (.int .i64 (cl (upN (x * y / 4294967296) (!up || decide (x * y % 4294967296 = 0))))) := by
  intro w
  have hp := prod_sz hx hy
  have h1 : (x * y).fdiv 4294967296 = x * y / 4294967296 := Int.fdiv_eq_ediv_of_nonneg _ (by decide)
  have h2 : (x * y).fmod 4294967296 = x * y % 4294967296 := Int.fmod_eq_emod_of_nonneg _ (by decide)
  have hQ := QuotR (x * y) 4294967296 up hp (Sz.pow 32) (by decide) (by decide) (by decide)
  rw [h1, h2] at hQ
  exact mul2_core (enc x) (enc y) (enc (x * y)) (enc 4294967296) _ x y _ up true w (RawR x hx) (RawR y hy) (mul_refS x y hx.sz hy.sz (by decide)) (fun u => SmallZ _ (by decide) (by decide) u) hQ (WithinR _ ((upN_sz (hp.div 4294967296) _).fit (by decide)))

end Go.Proofs.YtljggjnaolbapaaGreat
