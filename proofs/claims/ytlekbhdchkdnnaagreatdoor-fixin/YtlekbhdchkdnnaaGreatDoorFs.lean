/- The law FixIn. -/
import Derived.Test.YtlekbhdchkdnnaaGreatDoorFr
namespace Go.Proofs.YtlekbhdchkdnnaaGreatDoor
open Go.RowKit
set_option maxRecDepth 4000
set_option linter.unusedVariables false

theorem floor_core (a t : Int) (c : Bool) (w : World) (ht : wrap64 (a.tdiv 4294967296) = t) (hc : decide (a.tmod 4294967296 < 0) = c) (h1 : wrap64 (t - 1) = t - 1) :
    Calls Tryz.prog 36 #[.int .i64 a] w fun e w' => e = .returned (.int .i64 (bif c then t - 1 else t)) ∧ Below w.heap.size w w' := by
  cases c
  · go_enter Tryz.func36, Tryz.ntmps36
    go_wp2
    go_ret
    exact ⟨congrArg (fun z => Ending.returned (Value.int .i64 z)) ht, Below.refl _ _⟩
  · go_enter Tryz.func36, Tryz.ntmps36
    go_wp2
    go_ret
    exact ⟨congrArg (fun z => Ending.returned (Value.int .i64 z)) h1, Below.refl _ _⟩
theorem floor_math (a : Int) : (bif decide (a.tmod 4294967296 < 0) then a.tdiv 4294967296 - 1 else a.tdiv 4294967296) = a / 4294967296 := by
  rcases Int.lt_or_le a 0 with h | h
  · obtain ⟨b, rfl⟩ : ∃ b, a = -b := ⟨-a, by omega⟩
    rw [Int.neg_tmod, Int.neg_tdiv, Int.tmod_eq_emod_of_nonneg (by omega), Int.tdiv_eq_ediv_of_nonneg (by omega)]
    by_cases hc : -(b % 4294967296) < 0
    · rw [decide_eq_true hc]; show -(b / 4294967296) - 1 = _; omega
    · rw [decide_eq_false hc]; show -(b / 4294967296) = _; omega
  · rw [Int.tmod_eq_emod_of_nonneg h, Int.tdiv_eq_ediv_of_nonneg h, decide_eq_false (show ¬ a % 4294967296 < 0 by omega)]
    rfl
theorem FloorR (a : Int) (ha : I64 a) : Ans 36 #[.int .i64 a] (.int .i64 (a / 4294967296)) := by
  intro w
  have hb : I64 (a.tdiv 4294967296) ∧ I64 (a.tdiv 4294967296 - 1) := by
    obtain ⟨h1, h2⟩ := ha
    rcases Int.lt_or_le a 0 with h | h
    · obtain ⟨b, rfl⟩ : ∃ b, a = -b := ⟨-a, by omega⟩
      rw [Int.neg_tdiv, Int.tdiv_eq_ediv_of_nonneg (by omega)]
      unfold I64
      omega
    · rw [Int.tdiv_eq_ediv_of_nonneg h]
      unfold I64
      omega
  have k := floor_core a (a.tdiv 4294967296) _ w (wrap_self hb.1) rfl (wrap_self hb.2)
  rw [floor_math] at k
  exact k

set_option maxHeartbeats 4000000 in
theorem in_law (X : Nat) (s a l h v c f : Int) (w : World) (h1 : Hid (Ans 31 #[.agg (cells8 X), .int .i64 s] (.int .i64 v))) (h2 : Hid (Ans 32 #[.agg (cells8 X), .int .i64 s] (.int .i64 v)))
    (h3 : Hid (Ans 33 #[.int .i64 a, .int .i64 l, .int .i64 h] (.int .i64 c))) (h4 : Hid (Ans 34 #[.int .i64 a, .int .i64 l, .int .i64 h] (.int .i64 c)))
    (h5 : Hid (Ans 35 #[.int .i64 a] (.int .i64 f))) (h6 : Hid (Ans 36 #[.int .i64 a] (.int .i64 f))) (hAw : Hid (Ans 21 #[] (.bool true))) :
    Calls Tryz.prog 7 #[W X, .int .i64 s, .int .i64 a, .int .i64 l, .int .i64 h] w fun e w' => e = .returned (.bool true) ∧ Below w.heap.size w w' := by
  unfold W
  go_enter Tryz.func7, Tryz.ntmps7
  go_upto_region 1 with fail
  have D := hide (Env.one w X)
  refine region_plan (S := Env w [(w.heap.size, X)]) (l := [0, 1, 2, 3, 4, 5, 6, 7, 8, 9, 10, 11, 12, 13, 14, 15, 16, 17, 18, 19, 20, 21, 22, 23, 24, 25, 26, 27, 28]) (by kernel_rfl) (by kernel_rfl) (by kernel_rfl) (by kernel_rfl) (by kernel_rfl) (by kernel_rfl) (by kernel_rfl) ((unhide D).drew) ?_
  clear D
  refine plan_read rfl rfl (fun u hS => exec_load8 (n := X) 35 (.tmp 5) (hS.blk (by repeat (first | exact List.mem_cons_self | apply List.mem_cons_of_mem))) rfl rfl Tryz.underlying35 rfl iWide) ?_
  go_simp
  refine plan_read (v := ?_) rfl rfl (fun u hS => by go_simp; rfl) ?_
  go_simp
  refine plan_call (v := .int .i64 v) (f := 31) (args := #[.agg (cells8 X), .int .i64 s]) rfl rfl (fun u hS => by go_simp) (fun u hS => (unhide h1 u).mono fun _ _ ⟨he, hb⟩ => ⟨he, hS.keep hb⟩) ?_
  go_simp
  refine plan_read rfl rfl (fun u hS => exec_load8 (n := X) 35 (.tmp 5) (hS.blk (by repeat (first | exact List.mem_cons_self | apply List.mem_cons_of_mem))) rfl rfl Tryz.underlying35 rfl iWide) ?_
  go_simp
  refine plan_read (v := ?_) rfl rfl (fun u hS => by go_simp; rfl) ?_
  go_simp
  refine plan_call (v := .int .i64 v) (f := 32) (args := #[.agg (cells8 X), .int .i64 s]) rfl rfl (fun u hS => by go_simp) (fun u hS => (unhide h2 u).mono fun _ _ ⟨he, hb⟩ => ⟨he, hS.keep hb⟩) ?_
  go_simp
  refine plan_read (v := .bool true) rfl rfl (fun u hS => by go_simp) ?_
  go_simp
  refine plan_read (v := ?_) rfl rfl (fun u hS => by go_simp; rfl) ?_
  go_simp
  refine plan_read (v := ?_) rfl rfl (fun u hS => by go_simp; rfl) ?_
  go_simp
  refine plan_read (v := ?_) rfl rfl (fun u hS => by go_simp; rfl) ?_
  go_simp
  refine plan_read (v := ?_) rfl rfl (fun u hS => by go_simp; rfl) ?_
  go_simp
  refine plan_call (v := .int .i64 c) (f := 33) (args := #[.int .i64 a, .int .i64 l, .int .i64 h]) rfl rfl (fun u hS => by go_simp) (fun u hS => (unhide h3 u).mono fun _ _ ⟨he, hb⟩ => ⟨he, hS.keep hb⟩) ?_
  go_simp
  refine plan_read (v := ?_) rfl rfl (fun u hS => by go_simp; rfl) ?_
  go_simp
  refine plan_read (v := ?_) rfl rfl (fun u hS => by go_simp; rfl) ?_
  go_simp
  refine plan_read (v := ?_) rfl rfl (fun u hS => by go_simp; rfl) ?_
  go_simp
  refine plan_call (v := .int .i64 c) (f := 34) (args := #[.int .i64 a, .int .i64 l, .int .i64 h]) rfl rfl (fun u hS => by go_simp) (fun u hS => (unhide h4 u).mono fun _ _ ⟨he, hb⟩ => ⟨he, hS.keep hb⟩) ?_
  go_simp
  refine plan_read (v := .bool true) rfl rfl (fun u hS => by go_simp) ?_
  go_simp
  refine plan_read (v := .bool true) rfl rfl (fun u hS => by go_simp) ?_
  go_simp
  refine plan_read (v := ?_) rfl rfl (fun u hS => by go_simp; rfl) ?_
  go_simp
  refine plan_read (v := ?_) rfl rfl (fun u hS => by go_simp; rfl) ?_
  go_simp
  refine plan_call (v := .int .i64 f) (f := 35) (args := #[.int .i64 a]) rfl rfl (fun u hS => by go_simp) (fun u hS => (unhide h5 u).mono fun _ _ ⟨he, hb⟩ => ⟨he, hS.keep hb⟩) ?_
  go_simp
  refine plan_read (v := ?_) rfl rfl (fun u hS => by go_simp; rfl) ?_
  go_simp
  refine plan_call (v := .int .i64 f) (f := 36) (args := #[.int .i64 a]) rfl rfl (fun u hS => by go_simp) (fun u hS => (unhide h6 u).mono fun _ _ ⟨he, hb⟩ => ⟨he, hS.keep hb⟩) ?_
  go_simp
  refine plan_read (v := .bool true) rfl rfl (fun u hS => by go_simp) ?_
  go_simp
  refine plan_read (v := .bool true) rfl rfl (fun u hS => by go_simp) ?_
  go_simp
  refine plan_read (v := ?_) rfl rfl (fun u hS => by go_simp; rfl) ?_
  go_simp
  refine plan_call (v := .bool true) (f := 21) (args := #[]) rfl rfl (fun u hS => by go_simp) (fun u hS => (unhide hAw u).mono fun _ _ ⟨he, hb⟩ => ⟨he, hS.keep hb⟩) ?_
  go_simp
  refine plan_read (v := .bool true) rfl rfl (fun u hS => by go_simp) ?_
  go_simp
  refine plan_read (v := ?_) rfl rfl (fun u hS => by go_simp; rfl) ?_
  go_simp
  refine plan_end (fun u hS => ?_)
  have O := hide hS.o
  clear hS
  go_wp2
  go_ret
  exact ⟨rfl, unhide O⟩
theorem fixIn_walk (n : Nat) (s a l h : Int) (hs : (Lit.int .i64 s).wf = true) (ha : (Lit.int .i64 a).wf = true) (_ : (Lit.int .i64 l).wf = true) (_ : (Lit.int .i64 h).wf = true) (w : World) :
    Calls Tryz.prog 7 #[W n, .int .i64 s, .int .i64 a, .int .i64 l, .int .i64 h] w fun e w' => e = .returned (.bool true) ∧ Below w.heap.size w w' := by
  have h1 := InZ (sv n) s (sv_fit n) (I64.wf hs)
  have h2 := InR (sv n) s (sv_fit n) (I64.wf hs)
  rw [← W_sv n] at h1 h2
  exact in_law n s a l h _ _ _ w h1 h2 (ClampZ a l h) (ClampR a l h) (FloorZ a (I64.wf ha)) (FloorR a (I64.wf ha)) awake2

end Go.Proofs.YtlekbhdchkdnnaaGreatDoor
