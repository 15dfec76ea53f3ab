/- wide's Int; the law WideSmall, over whatever answers: it returns true where both packages answer the same. -/
import Derived.Test.YtnemedgdhojhdaaGreatZn
import Derived.Deep.DeepCutAuto
namespace Go.Proofs.YtnemedgdhojhdaaGreat
open Go.RowKit
set_option maxRecDepth 4000

set_option maxHeartbeats 1000000 in
theorem int_core (a o : Nat) (t v : Int) (I : Bool) (w : World) (ht : Hid (wrap64 (lm a 0) = t)) (hI : Hid (same a o = I)) (hv : Hid (v = bif I then t else 0))
    (hOf : Hid (∀ u, Calls Tryz.prog 91 #[.int .i64 t] u fun e w' => e = .returned (.agg (cells8 o)) ∧ Below u.heap.size u w')) :
    Calls Tryz.prog 163 #[W a] w fun e w' => e = .returned (.tuple #[.int .i64 v, .bool I]) ∧ Below w.heap.size w w' := by
  unfold W
  go_enter Tryz.func163, Tryz.ntmps163
  go_upto_region 1 with fail
  have D := hide (Env.one w a)
  have h7 : (w.alloc (.cells (cells8 a) 75)).cell? ⟨w.heap.size, 0, none⟩ = some (.int .u64 (lm a 0)) := (Blk.new w 75 (cells8 a)).cell 0
  generalize lm a 0 = L at *
  go_upto_region 2 with fail
  rw [unhide ht]
  clear h7 ht
  refine region_plan (S := Env w [(w.heap.size, a)]) (l := [0, 1, 2, 3]) (by kernel_rfl) (by kernel_rfl) (by kernel_rfl) (by kernel_rfl) (by kernel_rfl) (by kernel_rfl) (by kernel_rfl) ((unhide D).drew) ?_
  refine plan_read rfl rfl (fun u hS => exec_load8 (n := a) 75 (.tmp 1) (hS.blk (by repeat (first | exact List.mem_cons_self | apply List.mem_cons_of_mem))) rfl rfl Tryz.underlying75 rfl iWide) ?_
  refine plan_read (v := ?_) rfl rfl (fun u hS => by go_simp; rfl) ?_
  go_simp
  refine plan_call (v := .agg (cells8 o)) (f := 91) (args := #[.int .i64 t]) rfl rfl (fun u hS => by go_simp) (fun u hS => (unhide hOf u).mono fun _ _ ⟨he, hb⟩ => ⟨he, hS.keep hb⟩) ?_
  go_simp
  refine plan_read (v := .bool (!I)) rfl rfl (fun u hS => exec_neq_wide_is (unhide hI) u (.tmp 9) (.tmp 11) rfl rfl rfl) ?_
  go_simp
  refine plan_end (fun u hS => ?_)
  have O := hide hS.o
  clear hS D
  cases I
  · go_wp2
    go_ret2
    exact ⟨by rw [hv.out]; rfl, unhide O⟩
  · go_wp2
    go_ret2
    exact ⟨by rw [hv.out]; rfl, unhide O⟩

end Go.Proofs.YtnemedgdhojhdaaGreat
