/- The document's numbers of layer 2: Of, Add, Sub, Mul, Div, In, Clamp, Floor. -/
import Derived.Test.YtljggjnaolbapaaGreatFo
namespace Go.Proofs.YtljggjnaolbapaaGreat
open Go.RowKit
set_option maxRecDepth 4000
set_option linter.unusedVariables false

theorem fitN_fit {z : Int} (h : Fit z) : cells8 (fitN z) = cells8 (enc z) := by unfold fitN; rw [fit_true h]; rfl
theorem add_refS {j k : Nat} (x y : Int) (hx : Sz j x) (hy : Sz k y) (hj : j ≤ 500) (hk : k ≤ 500) : Ans 103 #[V x, V y] (.tuple #[V (x + y), .bool true]) := by
  intro u
  have hf : Fit (x + y) := ((hx.mono (show j ≤ 500 from hj)).add (hy.mono (show k ≤ 500 from hk))).fit (by decide)
  have h := refAdd x y (hx.fit (by omega)) (hy.fit (by omega)) u
  rw [fitN_fit hf, fit_true hf] at h
  exact h
theorem sub_refS {j k : Nat} (x y : Int) (hx : Sz j x) (hy : Sz k y) (hj : j ≤ 500) (hk : k ≤ 500) : Ans 105 #[V x, V y] (.tuple #[V (x - y), .bool true]) := by
  intro u
  have hf : Fit (x - y) := ((hx.mono (show j ≤ 500 from hj)).sub (hy.mono (show k ≤ 500 from hk))).fit (by decide)
  have h := refSub x y (hx.fit (by omega)) (hy.fit (by omega)) u
  rw [fitN_fit hf, fit_true hf] at h
  exact h
theorem mul_refS {j k : Nat} (x y : Int) (hx : Sz j x) (hy : Sz k y) (hjk : j + k ≤ 510) : Ans 107 #[V x, V y] (.tuple #[V (x * y), .bool true]) := by
  intro u
  have hf : Fit (x * y) := (hx.mul hy).fit hjk
  have h := refMul x y (hx.fit (by omega)) (hy.fit (by omega)) u
  rw [fitN_fit hf, fit_true hf] at h
  exact h
theorem shl_refS (x : Int) (k : Nat) (hx : Fit x) (hf : Fit (x * ((2 ^ k : Nat) : Int))) : Ans 111 #[V x, .int .i64 k] (.tuple #[V (x * ((2 ^ k : Nat) : Int)), .bool true]) := by
  intro u
  have h := refShl x k hx u
  rw [decide_eq_false (show ¬ (k : Int) < 0 by omega), Int.toNat_natCast, fit_true hf] at h
  exact h
theorem div_refS {j k : Nat} (x y : Int) (hx : Sz j x) (hy : Sz k y) (hj : j ≤ 500) (hk : k ≤ 500) (h0 : y ≠ 0) : Ans 125 #[V x, V y] (.tuple #[V (x.fdiv y), V (x.fmod y), .bool true]) := by
  intro u
  have k := refDivZ x y (hx.fit (by omega)) (hy.fit (by omega)) u
  have hd : dq x y = true := by
    unfold dq
    rw [fit_true ((hx.fdiv h0).fit (by omega))]
    simp [h0]
  rw [hd] at k
  exact k
theorem QuotR {j k : Nat} (x y : Int) (up : Bool) (hx : Sz j x) (hy : Sz k y) (hj : j ≤ 400) (hk : k ≤ 400) (h0 : y ≠ 0) : Ans 108 #[V x, V y, .bool up] (V (upN (x.fdiv y) (!up || decide (x.fmod y = 0)))) := by
  intro w
  have hD := div_refS x y hx hy (by omega) (by omega) h0
  have hR : Fit (x.fmod y) := (hy.fmod h0).fit (by omega)
  cases up
  · exact quot_low (enc x) (enc y) (enc (x.fdiv y)) (enc (x.fmod y)) (sgn (x.fmod y)) false true w (fun h => by cases h) hD (fun u => refSign _ hR u)
  · by_cases hr : x.fmod y = 0
    · rw [decide_eq_true hr]
      exact quot_low (enc x) (enc y) (enc (x.fdiv y)) (enc (x.fmod y)) (sgn (x.fmod y)) true true w (fun _ => (sgn_zero _).2 hr) hD (fun u => refSign _ hR u)
    · rw [decide_eq_false hr]
      have hs : sgn (x.fmod y) ≠ 0 := fun hc => hr ((sgn_zero _).1 hc)
      exact quot_up (enc x) (enc y) (enc (x.fdiv y)) (enc (x.fmod y)) (enc (x.fdiv y + 1)) (enc 1) (sgn (x.fmod y)) true true w (by simp [hs]) (by simp [hs]) (by simp [hs]) hD (fun u => refSign _ hR u) (fun u => SmallZ 1 (by decide) (by decide) u) (add_refS _ 1 (hx.fdiv h0) Sz.one (by omega) (by decide))

theorem Add_core2 (a b c : Nat) (x y v : Int) (E : Bool) (w : World) (hX : Hid (Ans 104 #[.int .i64 x] (.agg (cells8 a)))) (hY : Hid (Ans 104 #[.int .i64 y] (.agg (cells8 b)))) (hS : Hid (Ans 103 #[.agg (cells8 a), .agg (cells8 b)] (.tuple #[.agg (cells8 c), .bool E]))) (hW : Hid (Ans 64 #[.agg (cells8 c)] (.int .i64 v))) :
    Calls Tryz.prog 43 #[.int .i64 x, .int .i64 y] w fun e w' => e = .returned (.int .i64 v) ∧ Below w.heap.size w w' := by
  have D := hide (Env.start w)
  go_enter Tryz.func43, Tryz.ntmps43
  go_wp2_with (first | (with_reducible refine at_list ?_; apply ldE (unhide D) _ rfl rfl rfl (by repeat (first | exact List.mem_cons_self | apply List.mem_cons_of_mem))) | (with_reducible refine at_list ?_; refine stE (unhide D) _ _ rfl rfl rfl rfl rfl ?_; intro D'; have D := hide D'; clear D') | (go_at_call 104; with_reducible refine (unhide hX _).mono ?_; rintro e w' ⟨he, hb⟩; subst he; have D := hide ((unhide D).keep hb); clear hb) | (go_at_call 104; with_reducible refine (unhide hY _).mono ?_; rintro e w' ⟨he, hb⟩; subst he; have D := hide ((unhide D).keep hb); clear hb) | (go_at_call 103; with_reducible refine (unhide hS _).mono ?_; rintro e w' ⟨he, hb⟩; subst he; have D := hide ((unhide D).keep hb); clear hb) | (go_at_call 64; with_reducible refine (unhide hW _).mono ?_; rintro e w' ⟨he, hb⟩; subst he; have D := hide ((unhide D).keep hb); clear hb))
  go_ret
  exact ⟨rfl, (unhide D).o⟩
theorem Sub_core2 (a b c : Nat) (x y v : Int) (E : Bool) (w : World) (hX : Hid (Ans 104 #[.int .i64 x] (.agg (cells8 a)))) (hY : Hid (Ans 104 #[.int .i64 y] (.agg (cells8 b)))) (hS : Hid (Ans 105 #[.agg (cells8 a), .agg (cells8 b)] (.tuple #[.agg (cells8 c), .bool E]))) (hW : Hid (Ans 64 #[.agg (cells8 c)] (.int .i64 v))) :
    Calls Tryz.prog 46 #[.int .i64 x, .int .i64 y] w fun e w' => e = .returned (.int .i64 v) ∧ Below w.heap.size w w' := by
  have D := hide (Env.start w)
  go_enter Tryz.func46, Tryz.ntmps46
  go_wp2_with (first | (with_reducible refine at_list ?_; apply ldE (unhide D) _ rfl rfl rfl (by repeat (first | exact List.mem_cons_self | apply List.mem_cons_of_mem))) | (with_reducible refine at_list ?_; refine stE (unhide D) _ _ rfl rfl rfl rfl rfl ?_; intro D'; have D := hide D'; clear D') | (go_at_call 104; with_reducible refine (unhide hX _).mono ?_; rintro e w' ⟨he, hb⟩; subst he; have D := hide ((unhide D).keep hb); clear hb) | (go_at_call 104; with_reducible refine (unhide hY _).mono ?_; rintro e w' ⟨he, hb⟩; subst he; have D := hide ((unhide D).keep hb); clear hb) | (go_at_call 105; with_reducible refine (unhide hS _).mono ?_; rintro e w' ⟨he, hb⟩; subst he; have D := hide ((unhide D).keep hb); clear hb) | (go_at_call 64; with_reducible refine (unhide hW _).mono ?_; rintro e w' ⟨he, hb⟩; subst he; have D := hide ((unhide D).keep hb); clear hb))
  go_ret
  exact ⟨rfl, (unhide D).o⟩
theorem AddR (x y : Int) (hx : I64 x) (hy : I64 y) : Ans 43 #[.int .i64 x, .int .i64 y] (.int .i64 (cl (x + y))) := fun w =>
  Add_core2 (enc x) (enc y) (enc (x + y)) x y _ true w (RawR x hx) (RawR y hy) (add_refS x y hx.sz hy.sz (by decide) (by decide)) (WithinR _ ((hx.sz.add hy.sz).fit (by decide)))
theorem SubR (x y : Int) (hx : I64 x) (hy : I64 y) : Ans 46 #[.int .i64 x, .int .i64 y] (.int .i64 (cl (x - y))) := fun w =>
  Sub_core2 (enc x) (enc y) (enc (x - y)) x y _ true w (RawR x hx) (RawR y hy) (sub_refS x y hx.sz hy.sz (by decide) (by decide)) (WithinR _ ((hx.sz.sub hy.sz).fit (by decide)))

set_option maxHeartbeats 1000000 in
theorem mul2_core (a b p m q : Nat) (x y v : Int) (up E : Bool) (w : World) (hX : Hid (Ans 104 #[.int .i64 x] (.agg (cells8 a)))) (hY : Hid (Ans 104 #[.int .i64 y] (.agg (cells8 b)))) (hS : Hid (Ans 107 #[.agg (cells8 a), .agg (cells8 b)] (.tuple #[.agg (cells8 p), .bool E])))
    (hO : Hid (Ans 63 #[.int .i64 4294967296] (.agg (cells8 m)))) (hQ : Hid (Ans 108 #[.agg (cells8 p), .agg (cells8 m), .bool up] (.agg (cells8 q)))) (hW : Hid (Ans 64 #[.agg (cells8 q)] (.int .i64 v))) :
    Calls Tryz.prog 49 #[.int .i64 x, .int .i64 y, .bool up] w fun e w' => e = .returned (.int .i64 v) ∧ Below w.heap.size w w' := by
  have D := hide (Env.start w)
  go_enter Tryz.func49, Tryz.ntmps49
  go_upto_region 2 with (first | (with_reducible refine at_list ?_; apply ldE (unhide D) _ rfl rfl rfl (by repeat (first | exact List.mem_cons_self | apply List.mem_cons_of_mem))) | (with_reducible refine at_list ?_; refine stE (unhide D) _ _ rfl rfl rfl rfl rfl ?_; intro D'; have D := hide D'; clear D') | (go_at_call 104; with_reducible refine (unhide hX _).mono ?_; rintro e w' ⟨he, hb⟩; subst he; have D := hide ((unhide D).keep hb); clear hb) | (go_at_call 104; with_reducible refine (unhide hY _).mono ?_; rintro e w' ⟨he, hb⟩; subst he; have D := hide ((unhide D).keep hb); clear hb) | (go_at_call 107; with_reducible refine (unhide hS _).mono ?_; rintro e w' ⟨he, hb⟩; subst he; have D := hide ((unhide D).keep hb); clear hb))
  refine region_plan (S := Env w _) (l := [0, 1, 2, 3, 4, 5]) (by kernel_rfl) (by kernel_rfl) (by kernel_rfl) (by kernel_rfl) (by kernel_rfl) (by kernel_rfl) (by kernel_rfl) ((unhide D).drew) ?_
  clear D
  refine plan_read rfl rfl (fun u hS => exec_load8 (n := p) 56 (.tmp 7) (hS.blk (by repeat (first | exact List.mem_cons_self | apply List.mem_cons_of_mem))) rfl rfl Tryz.underlying56 rfl iWide) ?_
  refine plan_call (v := .agg (cells8 m)) (f := 63) (args := #[.int .i64 4294967296]) rfl rfl (fun u hS => by go_simp) (fun u hS => (unhide hO u).mono fun _ _ ⟨he, hb⟩ => ⟨he, hS.keep hb⟩) ?_
  go_simp
  refine plan_read (v := ?_) rfl rfl (fun u hS => by go_simp; rfl) ?_
  go_simp
  refine plan_call (v := .agg (cells8 q)) (f := 108) (args := #[.agg (cells8 p), .agg (cells8 m), .bool up]) rfl rfl (fun u hS => by go_simp) (fun u hS => (unhide hQ u).mono fun _ _ ⟨he, hb⟩ => ⟨he, hS.keep hb⟩) ?_
  go_simp
  refine plan_call (v := .int .i64 v) (f := 64) (args := #[.agg (cells8 q)]) rfl rfl (fun u hS => by go_simp) (fun u hS => (unhide hW u).mono fun _ _ ⟨he, hb⟩ => ⟨he, hS.keep hb⟩) ?_
  go_simp
  refine plan_read (v := ?_) rfl rfl (fun u hS => by go_simp; rfl) ?_
  go_simp
  refine plan_end (fun u hS => ?_)
  have O := hide hS.o
  clear hS
  go_wp2
  go_ret
  exact ⟨rfl, unhide O⟩
theorem upN_sz {k : Nat} {z : Int} (h : Sz k z) (b : Bool) : Sz (k + 1) (upN z b) := by
  cases b
  · exact h.add (Sz.one.mono (by omega))
  · exact h.mono (by omega)
theorem MulR (x y : Int) (up : Bool) (hx : I64 x) (hy : I64 y) : Ans 49 #[.int .i64 x, .int .i64 y, .bool up] (.int .i64 (cl (upN (x * y / 4294967296) (!up || decide (x * y % 4294967296 = 0))))) := by
  intro w
  have hp := prod_sz hx hy
  have h1 : (x * y).fdiv 4294967296 = x * y / 4294967296 := Int.fdiv_eq_ediv_of_nonneg _ (by decide)
  have h2 : (x * y).fmod 4294967296 = x * y % 4294967296 := Int.fmod_eq_emod_of_nonneg _ (by decide)
  have hQ := QuotR (x * y) 4294967296 up hp (Sz.pow 32) (by decide) (by decide) (by decide)
  rw [h1, h2] at hQ
  exact mul2_core (enc x) (enc y) (enc (x * y)) (enc 4294967296) _ x y _ up true w (RawR x hx) (RawR y hy) (mul_refS x y hx.sz hy.sz (by decide)) (fun u => SmallZ _ (by decide) (by decide) u) hQ (WithinR _ ((upN_sz (hp.div 4294967296) _).fit (by decide)))

end Go.Proofs.YtljggjnaolbapaaGreat
