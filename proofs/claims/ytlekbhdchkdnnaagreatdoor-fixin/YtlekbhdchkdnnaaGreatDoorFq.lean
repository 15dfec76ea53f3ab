/- The document's numbers of layer 2: Sqrt, In, Clamp, Floor; the laws that hold package fix against them. -/
import Derived.Test.YtlekbhdchkdnnaaGreatDoorFp
import Derived.Test.YtlekbhdchkdnnaaGreatDoorFh
namespace Go.Proofs.YtlekbhdchkdnnaaGreatDoor
open Go.RowKit
set_option maxRecDepth 4000
set_option linter.unusedVariables false

theorem Env.single {w0 w : World} {g n : Nat} (h : Blk w g 35 (cells8 n)) (o : Below w0.heap.size w0 w) : Env w0 [(g, n)] w := ⟨fun p hp => by rw [List.mem_singleton.1 hp]; exact h, o⟩
theorem sqrt2_none (x : Int) (up : Bool) (hx : x < 0) (w : World) : Calls Tryz.prog 29 #[.int .i64 x, .bool up] w fun e w' => e = .returned (.int .i64 0) ∧ Below w.heap.size w w' := by
  go_enter Tryz.func29, Tryz.ntmps29
  go_wp2
  go_ret
  exact ⟨rfl, Below.refl _ _⟩
set_option maxHeartbeats 2000000 in
theorem sqrt2_low (a n r b : Nat) (x v : Int) (up E F G : Bool) (w : World) (hx : ¬ x < 0) (hE : Hid (up = true → same b n = true)) (hX : Hid (Ans 51 #[.int .i64 x] (.agg (cells8 a)))) (hS : Hid (Ans 46 #[.agg (cells8 a), .int .i64 32] (.tuple #[.agg (cells8 n), .bool E])))
    (hR : Hid (Ans 60 #[.agg (cells8 n)] (.tuple #[.agg (cells8 r), .bool F]))) (hM : Hid (Ans 54 #[.agg (cells8 r), .agg (cells8 r)] (.tuple #[.agg (cells8 b), .bool G]))) (hW : Hid (Ans 48 #[.agg (cells8 r)] (.int .i64 v))) :
    Calls Tryz.prog 29 #[.int .i64 x, .bool up] w fun e w' => e = .returned (.int .i64 v) ∧ Below w.heap.size w w' := by
  have D := hide (Env.start w)
  go_enter Tryz.func29, Tryz.ntmps29
  cases up
  · clear hE
    go_wp2_with (first | (with_reducible refine at_list ?_; apply ldE (unhide D) _ rfl rfl rfl (by repeat (first | exact List.mem_cons_self | apply List.mem_cons_of_mem))) | (with_reducible refine at_list ?_; refine stE (unhide D) _ _ rfl rfl rfl rfl rfl ?_; intro D'; have D := hide D'; clear D') | (go_at_call 51; with_reducible refine (unhide hX _).mono ?_; rintro e w' ⟨he, hb⟩; subst he; have D := hide ((unhide D).keep hb); clear hb) | (go_at_call 46; with_reducible refine (unhide hS _).mono ?_; rintro e w' ⟨he, hb⟩; subst he; have D := hide ((unhide D).keep hb); clear hb) | (go_at_call 60; with_reducible refine (unhide hR _).mono ?_; rintro e w' ⟨he, hb⟩; subst he; have D := hide ((unhide D).keep hb); clear hb) | (go_at_call 54; with_reducible refine (unhide hM _).mono ?_; rintro e w' ⟨he, hb⟩; subst he; have D := hide ((unhide D).keep hb); clear hb) | (go_at_call 48; with_reducible refine (unhide hW _).mono ?_; rintro e w' ⟨he, hb⟩; subst he; have D := hide ((unhide D).keep hb); clear hb))
    go_ret
    exact ⟨rfl, (unhide D).o⟩
  · have hE2 := hide (unhide hE rfl)
    clear hE
    go_wp2_with (first | (with_reducible refine at_list ?_; apply ldE (unhide D) _ rfl rfl rfl (by repeat (first | exact List.mem_cons_self | apply List.mem_cons_of_mem))) | (with_reducible refine at_list ?_; apply ldEw (unhide D) _ rfl rfl rfl (by repeat (first | exact List.mem_cons_self | apply List.mem_cons_of_mem))) | (with_reducible refine at_list ?_; refine stE (unhide D) _ _ rfl rfl rfl rfl rfl ?_; intro D'; have D := hide D'; clear D') | (with_reducible refine at_list ?_;  refine neqEw (unhide hE2) _ _ rfl rfl rfl rfl ?_) | (go_at_call 51; with_reducible refine (unhide hX _).mono ?_; rintro e w' ⟨he, hb⟩; subst he; have D := hide ((unhide D).keep hb); clear hb) | (go_at_call 46; with_reducible refine (unhide hS _).mono ?_; rintro e w' ⟨he, hb⟩; subst he; have D := hide ((unhide D).keep hb); clear hb) | (go_at_call 60; with_reducible refine (unhide hR _).mono ?_; rintro e w' ⟨he, hb⟩; subst he; have D := hide ((unhide D).keep hb); clear hb) | (go_at_call 54; with_reducible refine (unhide hM _).mono ?_; rintro e w' ⟨he, hb⟩; subst he; have D := hide ((unhide D).keep hb); clear hb) | (go_at_call 48; with_reducible refine (unhide hW _).mono ?_; rintro e w' ⟨he, hb⟩; subst he; have D := hide ((unhide D).keep hb); clear hb))
    go_ret
    exact ⟨rfl, (unhide D).o⟩
set_option maxHeartbeats 2000000 in
theorem sqrt2_up (a n r b r1 one : Nat) (x v : Int) (E F G H : Bool) (w : World) (hx : ¬ x < 0) (hE : Hid (same b n = false)) (hX : Hid (Ans 51 #[.int .i64 x] (.agg (cells8 a)))) (hS : Hid (Ans 46 #[.agg (cells8 a), .int .i64 32] (.tuple #[.agg (cells8 n), .bool E])))
    (hR : Hid (Ans 60 #[.agg (cells8 n)] (.tuple #[.agg (cells8 r), .bool F]))) (hM : Hid (Ans 54 #[.agg (cells8 r), .agg (cells8 r)] (.tuple #[.agg (cells8 b), .bool G]))) (hO : Hid (Ans 47 #[.int .i64 1] (.agg (cells8 one)))) (hA : Hid (Ans 50 #[.agg (cells8 r), .agg (cells8 one)] (.tuple #[.agg (cells8 r1), .bool H]))) (hW : Hid (Ans 48 #[.agg (cells8 r1)] (.int .i64 v))) :
    Calls Tryz.prog 29 #[.int .i64 x, .bool true] w fun e w' => e = .returned (.int .i64 v) ∧ Below w.heap.size w w' := by
  have D := hide (Env.start w)
  go_enter Tryz.func29, Tryz.ntmps29
  go_upto_region 4 with (first | (with_reducible refine at_list ?_; apply ldE (unhide D) _ rfl rfl rfl (by repeat (first | exact List.mem_cons_self | apply List.mem_cons_of_mem))) | (with_reducible refine at_list ?_; refine stE (unhide D) _ _ rfl rfl rfl rfl rfl ?_; intro D'; have D := hide D'; clear D') | (go_at_call 51; with_reducible refine (unhide hX _).mono ?_; rintro e w' ⟨he, hb⟩; subst he; have D := hide ((unhide D).keep hb); clear hb) | (go_at_call 46; with_reducible refine (unhide hS _).mono ?_; rintro e w' ⟨he, hb⟩; subst he; have D := hide ((unhide D).keep hb); clear hb))
  go_upto_region 5 with (first | (with_reducible refine at_list ?_; apply ldE (unhide D) _ rfl rfl rfl (by repeat (first | exact List.mem_cons_self | apply List.mem_cons_of_mem))) | (with_reducible refine at_list ?_;  have l0 := (unhide D).o.size; refine stE (unhide D) _ _ rfl rfl rfl rfl rfl ?_; intro D'; have D := hide D'; clear D') | (go_at_call 60; with_reducible refine (unhide hR _).mono ?_; rintro e w' ⟨he, hb⟩; subst he; have D := hide ((unhide D).keep hb); clear hb))
  have L0 := hide l0
  clear l0
  go_upto_region 7 with (first | (with_reducible refine at_list ?_; apply ldE (unhide D) _ rfl rfl rfl (by repeat (first | exact List.mem_cons_self | apply List.mem_cons_of_mem))) | (with_reducible refine at_list ?_; apply ldEw (unhide D) _ rfl rfl rfl (by repeat (first | exact List.mem_cons_self | apply List.mem_cons_of_mem))) | (with_reducible refine at_list ?_; refine stE (unhide D) _ _ rfl rfl rfl rfl rfl ?_; intro D'; have D := hide D'; clear D') | (with_reducible refine at_list ?_;  refine neqEw (unhide hE) _ _ rfl rfl rfl rfl ?_) | (go_at_call 54; with_reducible refine (unhide hM _).mono ?_; rintro e w' ⟨he, hb⟩; subst he; have D := hide ((unhide D).keep hb); clear hb))
  have D1 : Hid (EnvZ w _ _ _) := ⟨(unhide D).drew, Nat.le_refl _⟩
  clear D
  refine region_lazy (S := EnvZ w _ _) (v := .bool H) (ty := 35) (zs := #[.int .u64 0, .int .u64 0, .int .u64 0, .int .u64 0, .int .u64 0, .int .u64 0, .int .u64 0, .int .u64 0]) (base := 0) (l := [0, 1, 2, 3, 4]) (A := []) (z := 5) (t := 6) (r := []) (by kernel_rfl) (by kernel_rfl) (by kernel_rfl) (by kernel_rfl) (by kernel_rfl) (by kernel_rfl) (by kernel_rfl) (by kernel_rfl) (by kernel_rfl) (by kernel_rfl) rfl rfl (fun i hi => by cases hi) (fun _ _ h hb => h.keep hb) (fun _ h => Nat.zero_le _) (unhide D1) ?_
  clear D1
  refine planB_read rfl rfl (fun u hS => exec_load8 (n := r) 35 (.tmp 7) (hS.e.blk (by repeat (first | exact List.mem_cons_self | apply List.mem_cons_of_mem))) rfl rfl Tryz.underlying35 rfl iWide) ?_
  refine planB_call (v := .agg (cells8 one)) (f := 47) (args := #[.int .i64 1]) rfl rfl (fun u hS => by go_simp) (fun u hS => (unhide hO u).mono fun _ _ ⟨he, hb⟩ => ⟨he, hS.keep hb, hb⟩) ?_
  go_simp
  refine planB_call (v := .tuple #[.agg (cells8 r1), .bool H]) (f := 50) (args := #[W r, W one]) rfl rfl (fun u hS => by go_simp) (fun u hS => (unhide hA u).mono fun _ _ ⟨he, hb⟩ => ⟨he, hS.keep hb, hb⟩) ?_
  go_simp
  refine planB_read (v := ?_) rfl rfl (fun u hS => by go_simp; rfl) ?_
  go_simp
  refine planB_read (v := ?_) rfl rfl (fun u hS => by go_simp; rfl) ?_
  go_simp
  refine planB_lazy rfl (fun u => by go_simp) rfl rfl (fun c u hS hB hI => ?_)
  clear hB hI
  simp only [pa]
  have B7 := hide (hS.e.blk (n := r) (by repeat (first | exact List.mem_cons_self | apply List.mem_cons_of_mem)))
  have O7 := hide hS.e.o
  refine ⟨_, exec_store8 (n := r1) 35 (.tmp 7) (.tmp 40) (unhide B7) rfl rfl rfl rfl iWide, ?_⟩
  have D := hide (Env.single ((unhide B7).row (cells8 r1)) (below_row (unhide O7) (unhide L0) (cells8 r1)))
  clear hS B7 O7 L0
  simp only [opsOf]
  go_simp
  go_wp2_with (first | (with_reducible refine at_list ?_; apply ldE (unhide D) _ rfl rfl rfl (by repeat (first | exact List.mem_cons_self | apply List.mem_cons_of_mem))) | (go_at_call 48; with_reducible refine (unhide hW _).mono ?_; rintro e w' ⟨he, hb⟩; subst he; have D := hide ((unhide D).keep hb); clear hb))
  go_ret
  exact ⟨rfl, (unhide D).o⟩

theorem SqrtR (x : Int) (up : Bool) (hx : I64 x) : Ans 29 #[.int .i64 x, .bool up] (.int .i64 (bif up then sqU x else sqD x)) := by
  intro w
  unfold sqU sqD
  by_cases h : x < 0
  · rw [if_pos h, if_pos h]
    have e : (bif up then (0 : Int) else 0) = 0 := by cases up <;> rfl
    rw [e]
    exact sqrt2_none x up h w
  · rw [if_neg h, if_neg h]
    have h0 : 0 ≤ x * 4294967296 := by omega
    have hs := raise_sz hx
    have hR : Ans 60 #[V (x * 4294967296)] (.tuple #[V (rt (x * 4294967296)), .bool true]) := fun u => by
      have k := refSqrt (x * 4294967296) (hs.fit (by decide)) u
      rw [decide_eq_false (show ¬ x * 4294967296 < 0 by omega)] at k
      exact k
    have hM : Ans 54 #[V (rt (x * 4294967296)), V (rt (x * 4294967296))] (.tuple #[V (rt (x * 4294967296) * rt (x * 4294967296)), .bool true]) := fun u => by
      have hf := (sq_sz h0 hs).fit (by decide)
      have k := refMul _ _ ((isq_sz hs).fit (by decide)) ((isq_sz hs).fit (by decide)) u
      rw [fitN_fit hf, fit_true hf] at k
      exact k
    have hE := same_enc ((sq_sz h0 hs).fit (by decide)) (hs.fit (by decide))
    have hX := RawR x hx
    have hS := shl_refS x 32 hx.fit (hs.fit (by decide))
    have sz := isq_sz hs
    cases up
    · exact sqrt2_low (enc x) (enc (x * 4294967296)) (enc (rt (x * 4294967296))) _ x _ false true true true w h (fun hc => by cases hc) hX hS hR hM (WithinR _ (sz.fit (by decide)))
    · by_cases he : rt (x * 4294967296) * rt (x * 4294967296) = x * 4294967296
      · rw [decide_eq_true he] at hE ⊢
        exact sqrt2_low (enc x) (enc (x * 4294967296)) (enc (rt (x * 4294967296))) _ x _ true true true true w h (fun _ => hE) hX hS hR hM (WithinR _ (sz.fit (by decide)))
      · rw [decide_eq_false he] at hE ⊢
        exact sqrt2_up (enc x) (enc (x * 4294967296)) (enc (rt (x * 4294967296))) _ (enc (rt (x * 4294967296) + 1)) (enc 1) x _ true true true true w h hE hX hS hR hM (fun u => SmallZ 1 (by decide) (by decide) u) (add_refS _ 1 sz Sz.one (by decide) (by decide)) (WithinR _ ((sz.add (Sz.one.mono (by decide))).fit (by decide)))

end Go.Proofs.YtlekbhdchkdnnaaGreatDoor
