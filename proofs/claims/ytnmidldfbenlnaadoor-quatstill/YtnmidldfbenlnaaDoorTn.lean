/- Package quat's laws: QuatStill. -/
import Derived.Test.YtnmidldfbenlnaaDoorTl
namespace Go.Proofs.YtnmidldfbenlnaaDoor
open Go.RowKit
set_option maxRecDepth 4000
set_option linter.unusedVariables false

set_option maxHeartbeats 4000000 in
theorem still_core (a b c d vx vy vz t : Int) (TP TT : Array Value) (w : World) (hP : Tab 1 TP w) (hT : Tab 0 TT w)
    (hW : Hid (∀ u, Tab 1 TP u → Tab 0 TT u → Calls Tryd.prog 12 #[] u fun e w' => e = .returned (.bool true) ∧ Below u.heap.size u w'))
    (h1 : Hid (∀ u, Tab 1 TP u → Calls Tryd.prog 22 #[.agg (q4 a b c d), .agg (v3 0 0 0), .int .i64 t] u fun e w' => e = .returned (.agg (q4 a b c d)) ∧ Below u.heap.size u w')) (h2 : Hid (∀ u, Tab 1 TP u → Calls Tryd.prog 22 #[.agg (q4 a b c d), .agg (v3 vx vy vz), .int .i64 0] u fun e w' => e = .returned (.agg (q4 a b c d)) ∧ Below u.heap.size u w')) :
    Calls Tryd.prog 7 #[.agg (q4 a b c d), .agg (v3 vx vy vz), .int .i64 t] w fun e w' => e = .returned (.bool true) ∧ Below w.heap.size w w' := by
  have hPlt := hP.lt
  have hTlt := hT.lt
  have HP := hide hP
  have HT := hide hT
  clear hP hT
  go_enter Tryd.func7, Tryd.ntmps7
  go_upto_region 1 with fail
  have D := hide (((Gen.start w).push 24 (q4 a b c d)).push 26 (v3 vx vy vz))
  simp only [szA] at D
  refine region_plan (S := Gen w _) (l := [0, 1, 2, 3, 4, 5, 6, 7, 8, 9, 10, 11, 12, 13, 14, 15, 16]) (by kernel_rfl) (by kernel_rfl) (by kernel_rfl) (by kernel_rfl) (by kernel_rfl) (by kernel_rfl) (by kernel_rfl) (unhide D).drew ?_
  clear D
  refine plan_read (v := .agg (q4 a b c d)) rfl rfl (fun u hS => exec_loadG hS rQuat (.tmp 3) rfl rfl (by repeat (first | exact List.mem_cons_self | apply List.mem_cons_of_mem)) rfl) ?_
  go_simp
  refine plan_read (v := .agg (v3 0 0 0)) rfl rfl (fun u hS => by go_simp) ?_
  go_simp
  refine plan_read (v := .int .i64 t) rfl rfl (fun u hS => by go_simp) ?_
  go_simp
  refine plan_call (v := .agg (q4 a b c d)) (f := 22) (args := #[.agg (q4 a b c d), .agg (v3 0 0 0), .int .i64 t]) rfl rfl (fun u hS => by go_simp) (fun u hS => (unhide h1 u ((unhide HP).below hS.o hPlt)).mono fun _ _ ⟨he, hb⟩ => ⟨he, hS.keep hb⟩) ?_
  go_simp
  refine plan_read (v := .agg (q4 a b c d)) rfl rfl (fun u hS => exec_loadG hS rQuat (.tmp 3) rfl rfl (by repeat (first | exact List.mem_cons_self | apply List.mem_cons_of_mem)) rfl) ?_
  go_simp
  refine plan_read (v := .bool true) rfl rfl (fun u hS => exec_eql_quat _ (.tmp 10) (.tmp 11) (sameQ_self _ _ _ _) rfl rfl rfl) ?_
  go_simp
  refine plan_read (v := ?_) rfl rfl (fun u hS => by go_simp; rfl) ?_
  go_simp
  refine plan_read (v := .agg (q4 a b c d)) rfl rfl (fun u hS => exec_loadG hS rQuat (.tmp 3) rfl rfl (by repeat (first | exact List.mem_cons_self | apply List.mem_cons_of_mem)) rfl) ?_
  go_simp
  refine plan_read (v := .agg (v3 vx vy vz)) rfl rfl (fun u hS => exec_loadG hS rVec (.tmp 4) rfl rfl (by repeat (first | exact List.mem_cons_self | apply List.mem_cons_of_mem)) rfl) ?_
  go_simp
  refine plan_call (v := .agg (q4 a b c d)) (f := 22) (args := #[.agg (q4 a b c d), .agg (v3 vx vy vz), .int .i64 0]) rfl rfl (fun u hS => by go_simp) (fun u hS => (unhide h2 u ((unhide HP).below hS.o hPlt)).mono fun _ _ ⟨he, hb⟩ => ⟨he, hS.keep hb⟩) ?_
  go_simp
  refine plan_read (v := .agg (q4 a b c d)) rfl rfl (fun u hS => exec_loadG hS rQuat (.tmp 3) rfl rfl (by repeat (first | exact List.mem_cons_self | apply List.mem_cons_of_mem)) rfl) ?_
  go_simp
  refine plan_read (v := .bool true) rfl rfl (fun u hS => exec_eql_quat _ (.tmp 16) (.tmp 17) (sameQ_self _ _ _ _) rfl rfl rfl) ?_
  go_simp
  refine plan_read (v := ?_) rfl rfl (fun u hS => by go_simp; rfl) ?_
  go_simp
  refine plan_read (v := ?_) rfl rfl (fun u hS => by go_simp; rfl) ?_
  go_simp
  refine plan_call (v := .bool true) (f := 12) (args := #[]) rfl rfl (fun u hS => by go_simp) (fun u hS => (unhide hW u ((unhide HP).below hS.o hPlt) ((unhide HT).below hS.o hTlt)).mono fun _ _ ⟨he, hb⟩ => ⟨he, hS.keep hb⟩) ?_
  go_simp
  refine plan_read (v := ?_) rfl rfl (fun u hS => by go_simp; rfl) ?_
  go_simp
  refine plan_read (v := ?_) rfl rfl (fun u hS => by go_simp; rfl) ?_
  go_simp
  refine plan_end (fun u hS => ?_)
  have O := hide hS.o
  clear hS
  go_wp2
  go_ret
  exact ⟨rfl, unhide O⟩
theorem acc_zero {A F G : Nat → Nat} {S : Nat → Int} {p q : Nat → Int} (hp : ∀ k, p k = 0) : ∀ k j, acc A F G S p q k j = 0
  | 0, _ => rfl
  | k + 1, j => by
    have ih := acc_zero (A := A) (F := F) (G := G) (S := S) (q := q) hp k j
    unfold acc
    rw [ih, hp (F k), Int.zero_mul, Int.zero_mul]
    split <;> rfl
theorem prd_zero (a b c d : Int) (j : Nat) : prd 0 0 0 0 a b c d 16 j = 0 := acc_zero (fun k => by simp [n4]) 16 j
theorem spn_p {a : Int} (h : I64 a) (t : Int) : spn a 0 t = a := by
  unfold spn
  rw [Int.zero_mul, Int.add_zero, Int.mul_ediv_cancel _ (by decide)]
  exact cl_self h
theorem spn_t {a : Int} (h : I64 a) (p : Int) : spn a p 0 = a := by
  unfold spn
  rw [Int.mul_zero, Int.add_zero, Int.mul_ediv_cancel _ (by decide)]
  exact cl_self h
theorem quatStill_walk (a b c d vx vy vz t : Int) (k0 : (Lit.int .i64 a).wf = true) (l0 : (Lit.int .i64 b).wf = true) (m0 : (Lit.int .i64 c).wf = true) (n0 : (Lit.int .i64 d).wf = true) (k1 : (Lit.int .i64 vx).wf = true) (l1 : (Lit.int .i64 vy).wf = true) (m1 : (Lit.int .i64 vz).wf = true) (w2 : (Lit.int .i64 t).wf = true) (w : World) (hP : Tab 1 tabP w) (hT : Tab 0 tabT w) :
    Calls Tryd.prog 7 #[.agg (q4 a b c d), .agg (v3 vx vy vz), .int .i64 t] w fun e w' => e = .returned (.bool true) ∧ Below w.heap.size w w' := by
  have h0 := I64.wf k0
  have h1 := I64.wf l0
  have h2 := I64.wf m0
  have h3 := I64.wf n0
  have i0 : I64 0 := ⟨by decide, by decide⟩
  refine still_core a b c d vx vy vz t tabP tabT w hP hT (fun u p q => awake5Z u p q) (fun u p => ?_) (fun u p => ?_)
  · have k := QSpinZ a b c d 0 0 0 t h0 h1 h2 h3 i0 i0 i0 (I64.wf w2) u p
    rw [prd_zero, prd_zero, prd_zero, prd_zero, spn_p h0, spn_p h1, spn_p h2, spn_p h3] at k
    exact k
  · have k := QSpinZ a b c d vx vy vz 0 h0 h1 h2 h3 (I64.wf k1) (I64.wf l1) (I64.wf m1) i0 u p
    rw [spn_t h0, spn_t h1, spn_t h2, spn_t h3] at k
    exact k

end Go.Proofs.YtnmidldfbenlnaaDoor
