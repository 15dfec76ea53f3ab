/- Package vec: Scale, Move. -/
import Derived.Test.YtljggjnaolbapaaGreatVf
namespace Go.Proofs.YtljggjnaolbapaaGreat
open Go.RowKit
set_option maxRecDepth 4000
set_option linter.unusedVariables false

theorem exec_bs2 {o : Oper} {a : Act} (w : World) (p q : Operand) {x1 y1 x2 y2 : Nat} (ho : o.op = .buildSlice 110 2 #[(0, p), (1, q)]) (hp : a.eval p = .agg (c16 x1 y1)) (hq : a.eval q = .agg (c16 x2 y2)) :
    (execOp a.eval o).run Tryz.prog w = .ok (.value (.slice (some ⟨w.heap.size, 0, none⟩) 2 2)) (w.alloc (.cells (prs [(x1, y1), (x2, y2)]).toArray 58)) := by
  unfold execOp
  have e : (#[(0, p), (1, q)].map fun (i, x) => (i, a.eval x)) = #[(0, .agg (c16 x1 y1)), (1, .agg (c16 x2 y2))] := by simp [hp, hq]
  simp only [ho, Sem.run_bind, e, bs2, Result.andThen_ok, Sem.run_pure]
theorem Gen.three {u : World} {g0 g1 g2 : Nat} {t0 t1 t2 : TypeId} {c0 c1 c2 : Array Value} (h0 : Blk u g0 t0 c0) (h1 : Blk u g1 t1 c1) (h2 : Blk u g2 t2 c2) : Gen u [(g0, t0, c0), (g1, t1, c1), (g2, t2, c2)] u := by
  refine ⟨fun p hp => ?_, Below.refl _ _⟩
  simp only [List.mem_cons, List.not_mem_nil, or_false] at hp
  rcases hp with rfl | rfl | rfl
  · exact h0
  · exact h1
  · exact h2
/-- Two products. -/
theorem TwoProd (x1 y1 x2 y2 : Int) (h1 : Sz 70 x1) (h2 : Sz 70 y1) (h3 : Sz 70 x2) (h4 : Sz 70 y2) (u : World) (p : Nat) (hB : Blk u p 58 (prs [(enc x1, enc y1), (enc x2, enc y2)]).toArray) :
    Calls Tryz.prog 50 #[.slice (some ⟨p, 0, none⟩) 2 2] u fun e w' => e = .returned (.int .i64 (cl ((x1 * y1 + x2 * y2) / 4294967296))) ∧ Below u.heap.size u w' := by
  have k := VBroughtZ 2 p (nth3 x1 x2 0) (nth3 y1 y2 0) u (by decide) hB.lt (fun k hk => ?_) (fun k hk => ?_) (fun k hk => ?_)
  · have e : dotZ (nth3 x1 x2 0) (nth3 y1 y2 0) 2 = x1 * y1 + x2 * y2 := by
      show 0 + x1 * y1 + x2 * y2 = _
      rw [Int.zero_add]
    rw [e] at k
    exact k
  · rcases (show k = 0 ∨ k = 1 by omega) with rfl | rfl
    · exact h1
    · exact h3
  · rcases (show k = 0 ∨ k = 1 by omega) with rfl | rfl
    · exact h2
    · exact h4
  · refine prs_range hB ?_
    rcases (show k = 0 ∨ k = 1 by omega) with rfl | rfl <;> rfl

theorem clos_Scale_X (ax ay az k r : Int) (g0 g1 : Nat) (u : World) (h0 : Blk u g0 24 (v3 ax ay az)) (h1 : Blk u g1 22 #[.int .i64 k]) (hF : Hid (Ans 48 #[.int .i64 ax, .int .i64 k] (.int .i64 r))) :
    Calls Tryz.prog 47 #[.func (Fn.func 75) #[] #[], .pointer (some ⟨g0, 0, none⟩), .pointer (some ⟨g1, 0, none⟩)] u fun e w' => e = .returned (.int .i64 r) ∧ Below u.heap.size u w' := by
  have D := hide (Gen.two h0 h1)
  clear h0 h1
  go_enter Tryz.func47, Tryz.ntmps47
  go_upto_region 1 with fail
  refine region_plan (S := Gen u _) (l := [0, 1, 2, 3, 4, 5]) (by kernel_rfl) (by kernel_rfl) (by kernel_rfl) (by kernel_rfl) (by kernel_rfl) (by kernel_rfl) (by kernel_rfl) (unhide D).drew ?_
  clear D
  refine plan_read (v := ?_) rfl rfl (fun u hS => by go_simp; rfl) ?_
  go_simp
  refine plan_read (v := .agg (v3 ax ay az)) rfl rfl (fun u hS => exec_loadG hS rVec _ rfl rfl (by repeat (first | exact List.mem_cons_self | apply List.mem_cons_of_mem)) rfl) ?_
  go_simp
  refine plan_call (v := .int .i64 ax) (f := 75) (args := #[.agg (v3 ax ay az)]) rfl rfl (fun u hS => by go_simp) (fun u hS => (alongX ax ay az u).mono fun _ _ ⟨he, hb⟩ => ⟨he, hS.keep hb⟩) ?_
  go_simp
  refine plan_read (v := .int .i64 k) rfl rfl (fun u hS => exec_loadFG hS _ rfl rfl (by repeat (first | exact List.mem_cons_self | apply List.mem_cons_of_mem)) (i := 0) rfl) ?_
  go_simp
  refine plan_call (v := .int .i64 r) (f := 48) (args := #[.int .i64 ax, .int .i64 k]) rfl rfl (fun u hS => by go_simp) (fun u hS => (unhide hF u).mono fun _ _ ⟨he, hb⟩ => ⟨he, hS.keep hb⟩) ?_
  go_simp
  refine plan_read (v := ?_) rfl rfl (fun u hS => by go_simp; rfl) ?_
  go_simp
  refine plan_end (fun u hS => ?_)
  have O := hide hS.o
  clear hS
  go_wp2
  go_ret
  exact ⟨rfl, unhide O⟩

theorem clos_Scale_Y (ax ay az k r : Int) (g0 g1 : Nat) (u : World) (h0 : Blk u g0 24 (v3 ax ay az)) (h1 : Blk u g1 22 #[.int .i64 k]) (hF : Hid (Ans 48 #[.int .i64 ay, .int .i64 k] (.int .i64 r))) :
    Calls Tryz.prog 47 #[.func (Fn.func 76) #[] #[], .pointer (some ⟨g0, 0, none⟩), .pointer (some ⟨g1, 0, none⟩)] u fun e w' => e = .returned (.int .i64 r) ∧ Below u.heap.size u w' := by
  have D := hide (Gen.two h0 h1)
  clear h0 h1
  go_enter Tryz.func47, Tryz.ntmps47
  go_upto_region 1 with fail
  refine region_plan (S := Gen u _) (l := [0, 1, 2, 3, 4, 5]) (by kernel_rfl) (by kernel_rfl) (by kernel_rfl) (by kernel_rfl) (by kernel_rfl) (by kernel_rfl) (by kernel_rfl) (unhide D).drew ?_
  clear D
  refine plan_read (v := ?_) rfl rfl (fun u hS => by go_simp; rfl) ?_
  go_simp
  refine plan_read (v := .agg (v3 ax ay az)) rfl rfl (fun u hS => exec_loadG hS rVec _ rfl rfl (by repeat (first | exact List.mem_cons_self | apply List.mem_cons_of_mem)) rfl) ?_
  go_simp
  refine plan_call (v := .int .i64 ay) (f := 76) (args := #[.agg (v3 ax ay az)]) rfl rfl (fun u hS => by go_simp) (fun u hS => (alongY ax ay az u).mono fun _ _ ⟨he, hb⟩ => ⟨he, hS.keep hb⟩) ?_
  go_simp
  refine plan_read (v := .int .i64 k) rfl rfl (fun u hS => exec_loadFG hS _ rfl rfl (by repeat (first | exact List.mem_cons_self | apply List.mem_cons_of_mem)) (i := 0) rfl) ?_
  go_simp
  refine plan_call (v := .int .i64 r) (f := 48) (args := #[.int .i64 ay, .int .i64 k]) rfl rfl (fun u hS => by go_simp) (fun u hS => (unhide hF u).mono fun _ _ ⟨he, hb⟩ => ⟨he, hS.keep hb⟩) ?_
  go_simp
  refine plan_read (v := ?_) rfl rfl (fun u hS => by go_simp; rfl) ?_
  go_simp
  refine plan_end (fun u hS => ?_)
  have O := hide hS.o
  clear hS
  go_wp2
  go_ret
  exact ⟨rfl, unhide O⟩

theorem clos_Scale_Z (ax ay az k r : Int) (g0 g1 : Nat) (u : World) (h0 : Blk u g0 24 (v3 ax ay az)) (h1 : Blk u g1 22 #[.int .i64 k]) (hF : Hid (Ans 48 #[.int .i64 az, .int .i64 k] (.int .i64 r))) :
    Calls Tryz.prog 47 #[.func (Fn.func 77) #[] #[], .pointer (some ⟨g0, 0, none⟩), .pointer (some ⟨g1, 0, none⟩)] u fun e w' => e = .returned (.int .i64 r) ∧ Below u.heap.size u w' := by
  have D := hide (Gen.two h0 h1)
  clear h0 h1
  go_enter Tryz.func47, Tryz.ntmps47
  go_upto_region 1 with fail
  refine region_plan (S := Gen u _) (l := [0, 1, 2, 3, 4, 5]) (by kernel_rfl) (by kernel_rfl) (by kernel_rfl) (by kernel_rfl) (by kernel_rfl) (by kernel_rfl) (by kernel_rfl) (unhide D).drew ?_
  clear D
  refine plan_read (v := ?_) rfl rfl (fun u hS => by go_simp; rfl) ?_
  go_simp
  refine plan_read (v := .agg (v3 ax ay az)) rfl rfl (fun u hS => exec_loadG hS rVec _ rfl rfl (by repeat (first | exact List.mem_cons_self | apply List.mem_cons_of_mem)) rfl) ?_
  go_simp
  refine plan_call (v := .int .i64 az) (f := 77) (args := #[.agg (v3 ax ay az)]) rfl rfl (fun u hS => by go_simp) (fun u hS => (alongZ ax ay az u).mono fun _ _ ⟨he, hb⟩ => ⟨he, hS.keep hb⟩) ?_
  go_simp
  refine plan_read (v := .int .i64 k) rfl rfl (fun u hS => exec_loadFG hS _ rfl rfl (by repeat (first | exact List.mem_cons_self | apply List.mem_cons_of_mem)) (i := 0) rfl) ?_
  go_simp
  refine plan_call (v := .int .i64 r) (f := 48) (args := #[.int .i64 az, .int .i64 k]) rfl rfl (fun u hS => by go_simp) (fun u hS => (unhide hF u).mono fun _ _ ⟨he, hb⟩ => ⟨he, hS.keep hb⟩) ?_
  go_simp
  refine plan_read (v := ?_) rfl rfl (fun u hS => by go_simp; rfl) ?_
  go_simp
  refine plan_end (fun u hS => ?_)
  have O := hide hS.o
  clear hS
  go_wp2
  go_ret
  exact ⟨rfl, unhide O⟩

theorem vec_Scale_core (ax ay az k x y z : Int) (w : World) (hX : Hid (Ans 48 #[.int .i64 ax, .int .i64 k] (.int .i64 x))) (hY : Hid (Ans 48 #[.int .i64 ay, .int .i64 k] (.int .i64 y))) (hZ : Hid (Ans 48 #[.int .i64 az, .int .i64 k] (.int .i64 z))) :
    Calls Tryz.prog 15 #[.agg (v3 ax ay az), .int .i64 k] w fun e w' => e = .returned (.agg (v3 x y z)) ∧ Below w.heap.size w w' := by
  go_enter Tryz.func15, Tryz.ntmps15
  go_upto_region 1 with fail
  have D := hide ((((Gen.start w).push 24 (v3 ax ay az)).push 22 #[.int .i64 k]).push 24 (v3 0 0 0))
  simp only [szA] at D
  have hE := hide (each_Scale (Gen w [(w.heap.size + 1 + 1, 24, v3 0 0 0), (w.heap.size + 1, 22, #[.int .i64 k]), (w.heap.size, 24, v3 ax ay az)]) w.heap.size (w.heap.size + 1) x y z _ (unhide D) (fun _ _ h hb => h.keep hb)
    (fun u hS => clos_Scale_X ax ay az k x _ _ u (hS.blk (by repeat (first | exact List.mem_cons_self | apply List.mem_cons_of_mem))) (hS.blk (by repeat (first | exact List.mem_cons_self | apply List.mem_cons_of_mem))) hX) (fun u hS => clos_Scale_Y ax ay az k y _ _ u (hS.blk (by repeat (first | exact List.mem_cons_self | apply List.mem_cons_of_mem))) (hS.blk (by repeat (first | exact List.mem_cons_self | apply List.mem_cons_of_mem))) hY) (fun u hS => clos_Scale_Z ax ay az k z _ _ u (hS.blk (by repeat (first | exact List.mem_cons_self | apply List.mem_cons_of_mem))) (hS.blk (by repeat (first | exact List.mem_cons_self | apply List.mem_cons_of_mem))) hZ))
  go_wp2_with (first | (go_at_call 40; with_reducible refine (unhide hE).mono ?_; rintro e w' ⟨he, hb⟩; subst he; have D := hide ((unhide D).keep hb); clear hb) | (with_reducible refine at_list ?_; apply stGend (unhide D) rVec _ _ rfl rfl rfl rfl (by repeat (first | exact List.mem_cons_self | apply List.mem_cons_of_mem)) (by omega) rfl rfl (v3_one _ _ _); intro B O))
  exact resG rVec (unhide B) rfl rfl rfl rfl ⟨rfl, unhide O⟩
theorem VScaleZ (ax ay az k : Int) (h1 : I64 ax) (h2 : I64 ay) (h3 : I64 az) (h4 : I64 k) : Ans 15 #[.agg (v3 ax ay az), .int .i64 k] (.agg (v3 (mulD ax k) (mulD ay k) (mulD az k))) := fun w =>
  vec_Scale_core ax ay az k _ _ _ w (FixMulZ ax k h1 h4) (FixMulZ ay k h2 h4) (FixMulZ az k h3 h4)

set_option maxHeartbeats 1000000 in
theorem clos_Move_X (ax ay az vx vy vz s r : Int) (A1 B1 A2 B2 g0 g1 g2 : Nat) (u : World) (h0 : Blk u g0 24 (v3 ax ay az)) (h1 : Blk u g1 24 (v3 vx vy vz)) (h2 : Blk u g2 22 #[.int .i64 s]) (t1 : Hid (Ans 51 #[.int .i64 ax, .int .i64 4294967296] (.agg (c16 A1 B1)))) (t2 : Hid (Ans 51 #[.int .i64 vx, .int .i64 s] (.agg (c16 A2 B2))))
    (hB : Hid (∀ u p, Blk u p 58 (prs [(A1, B1), (A2, B2)]).toArray → Calls Tryz.prog 50 #[.slice (some ⟨p, 0, none⟩) 2 2] u fun e w' => e = .returned (.int .i64 r) ∧ Below u.heap.size u w')) :
    Calls Tryz.prog 81 #[.func (Fn.func 75) #[] #[], .pointer (some ⟨g0, 0, none⟩), .pointer (some ⟨g1, 0, none⟩), .pointer (some ⟨g2, 0, none⟩)] u fun e w' => e = .returned (.int .i64 r) ∧ Below u.heap.size u w' := by
  have D := hide (Gen.three h0 h1 h2)
  clear h0 h1 h2
  go_enter Tryz.func81, Tryz.ntmps81
  go_upto_region 1 with fail
  refine region_walk (S := Gen u _) (l := [0, 1, 4, 5, 7, 2, 3, 6, 8, 9, 10, 11]) (t := [2, 3, 6, 8, 9, 10]) (by kernel_rfl) (by kernel_rfl) (by kernel_rfl) (by kernel_rfl) (by kernel_rfl) (by kernel_rfl) (by kernel_rfl) (by kernel_rfl) (unhide D).drew ?_
  have D0 := (unhide D).drew
  refine walk_read (v := ?_) rfl rfl rfl (fun u hS => by go_simp; rfl) ?_
  go_simp
  refine walk_read (v := .agg (v3 ax ay az)) rfl rfl rfl (fun u hS => exec_loadG hS rVec _ rfl rfl (by repeat (first | exact List.mem_cons_self | apply List.mem_cons_of_mem)) rfl) ?_
  go_simp
  refine walk_read (v := ?_) rfl rfl rfl (fun u hS => by go_simp; rfl) ?_
  go_simp
  refine walk_read (v := .agg (v3 vx vy vz)) rfl rfl rfl (fun u hS => exec_loadG hS rVec _ rfl rfl (by repeat (first | exact List.mem_cons_self | apply List.mem_cons_of_mem)) rfl) ?_
  go_simp
  refine walk_read (v := .int .i64 s) rfl rfl rfl (fun u hS => exec_loadFG hS _ rfl rfl (by repeat (first | exact List.mem_cons_self | apply List.mem_cons_of_mem)) (i := 0) rfl) ?_
  go_simp
  refine walk_call (f := 75) (args := #[.agg (v3 ax ay az)]) rfl rfl rfl (by go_simp) ?_
  refine (alongX ax ay az _).mono fun e w1 ⟨he, hb⟩ => ?_
  have D1 := D0.keep hb
  refine ⟨_, he, D1, ?_⟩
  clear hb he
  go_simp
  refine walk_call (f := 51) (args := #[.int .i64 ax, .int .i64 4294967296]) rfl rfl rfl (by go_simp) ?_
  refine (unhide t1 _).mono fun e w2 ⟨he, hb⟩ => ?_
  have D2 := D1.keep hb
  refine ⟨_, he, D2, ?_⟩
  clear hb he
  go_simp
  refine walk_call (f := 75) (args := #[.agg (v3 vx vy vz)]) rfl rfl rfl (by go_simp) ?_
  refine (alongX vx vy vz _).mono fun e w3 ⟨he, hb⟩ => ?_
  have D3 := D2.keep hb
  refine ⟨_, he, D3, ?_⟩
  clear hb he
  go_simp
  refine walk_call (f := 51) (args := #[.int .i64 vx, .int .i64 s]) rfl rfl rfl (by go_simp) ?_
  refine (unhide t2 _).mono fun e w4 ⟨he, hb⟩ => ?_
  have D4 := D3.keep hb
  refine ⟨_, he, D4, ?_⟩
  clear hb he
  go_simp
  have D5 := D4.push 58 (prs [(A1, B1), (A2, B2)]).toArray
  refine walk_turn rfl rfl rfl (exec_bs2 w4 (.tmp 9) (.tmp 14) rfl rfl rfl) D5.tail ?_
  go_simp
  refine walk_call (f := 50) (args := #[.slice (some ⟨w4.heap.size, 0, none⟩) 2 2]) rfl rfl rfl (by go_simp) ?_
  refine (unhide hB _ _ (D5.blk List.mem_cons_self)).mono fun e w6 ⟨he, hb⟩ => ?_
  have D6 := D5.tail.keep hb
  refine ⟨_, he, D6, ?_⟩
  clear hb he
  go_simp
  refine walk_read (v := ?_) rfl rfl rfl (fun u hS => by go_simp; rfl) ?_
  go_simp
  refine walk_end ?_
  have O := hide D6.o
  clear D D0 D1 D2 D3 D4 D5 D6
  go_wp2
  go_ret
  exact ⟨rfl, unhide O⟩

set_option maxHeartbeats 1000000 in
theorem clos_Move_Y (ax ay az vx vy vz s r : Int) (A1 B1 A2 B2 g0 g1 g2 : Nat) (u : World) (h0 : Blk u g0 24 (v3 ax ay az)) (h1 : Blk u g1 24 (v3 vx vy vz)) (h2 : Blk u g2 22 #[.int .i64 s]) (t1 : Hid (Ans 51 #[.int .i64 ay, .int .i64 4294967296] (.agg (c16 A1 B1)))) (t2 : Hid (Ans 51 #[.int .i64 vy, .int .i64 s] (.agg (c16 A2 B2))))
    (hB : Hid (∀ u p, Blk u p 58 (prs [(A1, B1), (A2, B2)]).toArray → Calls Tryz.prog 50 #[.slice (some ⟨p, 0, none⟩) 2 2] u fun e w' => e = .returned (.int .i64 r) ∧ Below u.heap.size u w')) :
    Calls Tryz.prog 81 #[.func (Fn.func 76) #[] #[], .pointer (some ⟨g0, 0, none⟩), .pointer (some ⟨g1, 0, none⟩), .pointer (some ⟨g2, 0, none⟩)] u fun e w' => e = .returned (.int .i64 r) ∧ Below u.heap.size u w' := by
  have D := hide (Gen.three h0 h1 h2)
  clear h0 h1 h2
  go_enter Tryz.func81, Tryz.ntmps81
  go_upto_region 1 with fail
  refine region_walk (S := Gen u _) (l := [0, 1, 4, 5, 7, 2, 3, 6, 8, 9, 10, 11]) (t := [2, 3, 6, 8, 9, 10]) (by kernel_rfl) (by kernel_rfl) (by kernel_rfl) (by kernel_rfl) (by kernel_rfl) (by kernel_rfl) (by kernel_rfl) (by kernel_rfl) (unhide D).drew ?_
  have D0 := (unhide D).drew
  refine walk_read (v := ?_) rfl rfl rfl (fun u hS => by go_simp; rfl) ?_
  go_simp
  refine walk_read (v := .agg (v3 ax ay az)) rfl rfl rfl (fun u hS => exec_loadG hS rVec _ rfl rfl (by repeat (first | exact List.mem_cons_self | apply List.mem_cons_of_mem)) rfl) ?_
  go_simp
  refine walk_read (v := ?_) rfl rfl rfl (fun u hS => by go_simp; rfl) ?_
  go_simp
  refine walk_read (v := .agg (v3 vx vy vz)) rfl rfl rfl (fun u hS => exec_loadG hS rVec _ rfl rfl (by repeat (first | exact List.mem_cons_self | apply List.mem_cons_of_mem)) rfl) ?_
  go_simp
  refine walk_read (v := .int .i64 s) rfl rfl rfl (fun u hS => exec_loadFG hS _ rfl rfl (by repeat (first | exact List.mem_cons_self | apply List.mem_cons_of_mem)) (i := 0) rfl) ?_
  go_simp
  refine walk_call (f := 76) (args := #[.agg (v3 ax ay az)]) rfl rfl rfl (by go_simp) ?_
  refine (alongY ax ay az _).mono fun e w1 ⟨he, hb⟩ => ?_
  have D1 := D0.keep hb
  refine ⟨_, he, D1, ?_⟩
  clear hb he
  go_simp
  refine walk_call (f := 51) (args := #[.int .i64 ay, .int .i64 4294967296]) rfl rfl rfl (by go_simp) ?_
  refine (unhide t1 _).mono fun e w2 ⟨he, hb⟩ => ?_
  have D2 := D1.keep hb
  refine ⟨_, he, D2, ?_⟩
  clear hb he
  go_simp
  refine walk_call (f := 76) (args := #[.agg (v3 vx vy vz)]) rfl rfl rfl (by go_simp) ?_
  refine (alongY vx vy vz _).mono fun e w3 ⟨he, hb⟩ => ?_
  have D3 := D2.keep hb
  refine ⟨_, he, D3, ?_⟩
  clear hb he
  go_simp
  refine walk_call (f := 51) (args := #[.int .i64 vy, .int .i64 s]) rfl rfl rfl (by go_simp) ?_
  refine (unhide t2 _).mono fun e w4 ⟨he, hb⟩ => ?_
  have D4 := D3.keep hb
  refine ⟨_, he, D4, ?_⟩
  clear hb he
  go_simp
  have D5 := D4.push 58 (prs [(A1, B1), (A2, B2)]).toArray
  refine walk_turn rfl rfl rfl (exec_bs2 w4 (.tmp 9) (.tmp 14) rfl rfl rfl) D5.tail ?_
  go_simp
  refine walk_call (f := 50) (args := #[.slice (some ⟨w4.heap.size, 0, none⟩) 2 2]) rfl rfl rfl (by go_simp) ?_
  refine (unhide hB _ _ (D5.blk List.mem_cons_self)).mono fun e w6 ⟨he, hb⟩ => ?_
  have D6 := D5.tail.keep hb
  refine ⟨_, he, D6, ?_⟩
  clear hb he
  go_simp
  refine walk_read (v := ?_) rfl rfl rfl (fun u hS => by go_simp; rfl) ?_
  go_simp
  refine walk_end ?_
  have O := hide D6.o
  clear D D0 D1 D2 D3 D4 D5 D6
  go_wp2
  go_ret
  exact ⟨rfl, unhide O⟩

set_option maxHeartbeats 1000000 in
theorem clos_Move_Z (ax ay az vx vy vz s r : Int) (A1 B1 A2 B2 g0 g1 g2 : Nat) (u : World) (h0 : Blk u g0 24 (v3 ax ay az)) (h1 : Blk u g1 24 (v3 vx vy vz)) (h2 : Blk u g2 22 #[.int .i64 s]) (t1 : Hid (Ans 51 #[.int .i64 az, .int .i64 4294967296] (.agg (c16 A1 B1)))) (t2 : Hid (Ans 51 #[.int .i64 vz, .int .i64 s] (.agg (c16 A2 B2))))
    (hB : Hid (∀ u p, Blk u p 58 (prs [(A1, B1), (A2, B2)]).toArray → Calls Tryz.prog 50 #[.slice (some ⟨p, 0, none⟩) 2 2] u fun e w' => e = .returned (.int .i64 r) ∧ Below u.heap.size u w')) :
    Calls Tryz.prog 81 #[.func (Fn.func 77) #[] #[], .pointer (some ⟨g0, 0, none⟩), .pointer (some ⟨g1, 0, none⟩), .pointer (some ⟨g2, 0, none⟩)] u fun e w' => e = .returned (.int .i64 r) ∧ Below u.heap.size u w' := by
  have D := hide (Gen.three h0 h1 h2)
  clear h0 h1 h2
  go_enter Tryz.func81, Tryz.ntmps81
  go_upto_region 1 with fail
  refine region_walk (S := Gen u _) (l := [0, 1, 4, 5, 7, 2, 3, 6, 8, 9, 10, 11]) (t := [2, 3, 6, 8, 9, 10]) (by kernel_rfl) (by kernel_rfl) (by kernel_rfl) (by kernel_rfl) (by kernel_rfl) (by kernel_rfl) (by kernel_rfl) (by kernel_rfl) (unhide D).drew ?_
  have D0 := (unhide D).drew
  refine walk_read (v := ?_) rfl rfl rfl (fun u hS => by go_simp; rfl) ?_
  go_simp
  refine walk_read (v := .agg (v3 ax ay az)) rfl rfl rfl (fun u hS => exec_loadG hS rVec _ rfl rfl (by repeat (first | exact List.mem_cons_self | apply List.mem_cons_of_mem)) rfl) ?_
  go_simp
  refine walk_read (v := ?_) rfl rfl rfl (fun u hS => by go_simp; rfl) ?_
  go_simp
  refine walk_read (v := .agg (v3 vx vy vz)) rfl rfl rfl (fun u hS => exec_loadG hS rVec _ rfl rfl (by repeat (first | exact List.mem_cons_self | apply List.mem_cons_of_mem)) rfl) ?_
  go_simp
  refine walk_read (v := .int .i64 s) rfl rfl rfl (fun u hS => exec_loadFG hS _ rfl rfl (by repeat (first | exact List.mem_cons_self | apply List.mem_cons_of_mem)) (i := 0) rfl) ?_
  go_simp
  refine walk_call (f := 77) (args := #[.agg (v3 ax ay az)]) rfl rfl rfl (by go_simp) ?_
  refine (alongZ ax ay az _).mono fun e w1 ⟨he, hb⟩ => ?_
  have D1 := D0.keep hb
  refine ⟨_, he, D1, ?_⟩
  clear hb he
  go_simp
  refine walk_call (f := 51) (args := #[.int .i64 az, .int .i64 4294967296]) rfl rfl rfl (by go_simp) ?_
  refine (unhide t1 _).mono fun e w2 ⟨he, hb⟩ => ?_
  have D2 := D1.keep hb
  refine ⟨_, he, D2, ?_⟩
  clear hb he
  go_simp
  refine walk_call (f := 77) (args := #[.agg (v3 vx vy vz)]) rfl rfl rfl (by go_simp) ?_
  refine (alongZ vx vy vz _).mono fun e w3 ⟨he, hb⟩ => ?_
  have D3 := D2.keep hb
  refine ⟨_, he, D3, ?_⟩
  clear hb he
  go_simp
  refine walk_call (f := 51) (args := #[.int .i64 vz, .int .i64 s]) rfl rfl rfl (by go_simp) ?_
  refine (unhide t2 _).mono fun e w4 ⟨he, hb⟩ => ?_
  have D4 := D3.keep hb
  refine ⟨_, he, D4, ?_⟩
  clear hb he
  go_simp
  have D5 := D4.push 58 (prs [(A1, B1), (A2, B2)]).toArray
  refine walk_turn rfl rfl rfl (exec_bs2 w4 (.tmp 9) (.tmp 14) rfl rfl rfl) D5.tail ?_
  go_simp
  refine walk_call (f := 50) (args := #[.slice (some ⟨w4.heap.size, 0, none⟩) 2 2]) rfl rfl rfl (by go_simp) ?_
  refine (unhide hB _ _ (D5.blk List.mem_cons_self)).mono fun e w6 ⟨he, hb⟩ => ?_
  have D6 := D5.tail.keep hb
  refine ⟨_, he, D6, ?_⟩
  clear hb he
  go_simp
  refine walk_read (v := ?_) rfl rfl rfl (fun u hS => by go_simp; rfl) ?_
  go_simp
  refine walk_end ?_
  have O := hide D6.o
  clear D D0 D1 D2 D3 D4 D5 D6
  go_wp2
  go_ret
  exact ⟨rfl, unhide O⟩

/-- a, and s times v, brought in. -/
def movI (a v s : Int) : Int := cl ((a * 4294967296 + v * s) / 4294967296)
theorem oneI : I64 4294967296 := ⟨by decide, by decide⟩
theorem MoveTwo (a v s : Int) (h1 : I64 a) (h2 : I64 v) (h3 : I64 s) (u : World) (p : Nat) (hB : Blk u p 58 (prs [(enc a, enc 4294967296), (enc v, enc s)]).toArray) :
    Calls Tryz.prog 50 #[.slice (some ⟨p, 0, none⟩) 2 2] u fun e w' => e = .returned (.int .i64 (movI a v s)) ∧ Below u.heap.size u w' :=
  TwoProd a 4294967296 v s (h1.sz.mono (by decide)) (oneI.sz.mono (by decide)) (h2.sz.mono (by decide)) (h3.sz.mono (by decide)) u p hB
theorem VMoveZ (ax ay az vx vy vz s : Int) (h1 : I64 ax) (h2 : I64 ay) (h3 : I64 az) (h4 : I64 vx) (h5 : I64 vy) (h6 : I64 vz) (h7 : I64 s) :
    Ans 29 #[.agg (v3 ax ay az), .agg (v3 vx vy vz), .int .i64 s] (.agg (v3 (movI ax vx s) (movI ay vy s) (movI az vz s))) := by
  intro w
  have cX := fun u (hS : Gen w [(w.heap.size + 1 + 1 + 1, 24, v3 0 0 0), (w.heap.size + 1 + 1, 22, #[.int .i64 s]), (w.heap.size + 1, 24, v3 vx vy vz), (w.heap.size, 24, v3 ax ay az)] u) =>
    clos_Move_X ax ay az vx vy vz s _ _ _ _ _ w.heap.size (w.heap.size + 1) (w.heap.size + 1 + 1) u (hS.blk (by repeat (first | exact List.mem_cons_self | apply List.mem_cons_of_mem))) (hS.blk (by repeat (first | exact List.mem_cons_self | apply List.mem_cons_of_mem))) (hS.blk (by repeat (first | exact List.mem_cons_self | apply List.mem_cons_of_mem))) (TimesZ ax 4294967296 h1 oneI) (TimesZ vx s h4 h7) (MoveTwo ax vx s h1 h4 h7)
  have cY := fun u (hS : Gen w [(w.heap.size + 1 + 1 + 1, 24, v3 0 0 0), (w.heap.size + 1 + 1, 22, #[.int .i64 s]), (w.heap.size + 1, 24, v3 vx vy vz), (w.heap.size, 24, v3 ax ay az)] u) =>
    clos_Move_Y ax ay az vx vy vz s _ _ _ _ _ w.heap.size (w.heap.size + 1) (w.heap.size + 1 + 1) u (hS.blk (by repeat (first | exact List.mem_cons_self | apply List.mem_cons_of_mem))) (hS.blk (by repeat (first | exact List.mem_cons_self | apply List.mem_cons_of_mem))) (hS.blk (by repeat (first | exact List.mem_cons_self | apply List.mem_cons_of_mem))) (TimesZ ay 4294967296 h2 oneI) (TimesZ vy s h5 h7) (MoveTwo ay vy s h2 h5 h7)
  have cZ := fun u (hS : Gen w [(w.heap.size + 1 + 1 + 1, 24, v3 0 0 0), (w.heap.size + 1 + 1, 22, #[.int .i64 s]), (w.heap.size + 1, 24, v3 vx vy vz), (w.heap.size, 24, v3 ax ay az)] u) =>
    clos_Move_Z ax ay az vx vy vz s _ _ _ _ _ w.heap.size (w.heap.size + 1) (w.heap.size + 1 + 1) u (hS.blk (by repeat (first | exact List.mem_cons_self | apply List.mem_cons_of_mem))) (hS.blk (by repeat (first | exact List.mem_cons_self | apply List.mem_cons_of_mem))) (hS.blk (by repeat (first | exact List.mem_cons_self | apply List.mem_cons_of_mem))) (TimesZ az 4294967296 h3 oneI) (TimesZ vz s h6 h7) (MoveTwo az vz s h3 h6 h7)
  have HX := hide cX
  have HY := hide cY
  have HZ := hide cZ
  clear cX cY cZ h1 h2 h3 h4 h5 h6 h7
  generalize movI ax vx s = x at *
  generalize movI ay vy s = y at *
  generalize movI az vz s = z at *
  go_enter Tryz.func29, Tryz.ntmps29
  go_upto_region 1 with fail
  have D := hide (((((Gen.start w).push 24 (v3 ax ay az)).push 24 (v3 vx vy vz)).push 22 #[.int .i64 s]).push 24 (v3 0 0 0))
  simp only [szA] at D
  have hE := hide (each_Move _ w.heap.size (w.heap.size + 1) (w.heap.size + 1 + 1) x y z _ (unhide D) (fun _ _ h hb => h.keep hb) HX HY HZ)
  clear HX HY HZ
  go_wp2_with (first | (go_at_call 40; with_reducible refine (unhide hE).mono ?_; rintro e w' ⟨he, hb⟩; subst he; have D := hide ((unhide D).keep hb); clear hb) | (with_reducible refine at_list ?_; apply stGend (unhide D) rVec _ _ rfl rfl rfl rfl (by repeat (first | exact List.mem_cons_self | apply List.mem_cons_of_mem)) (by omega) rfl rfl (v3_one _ _ _); intro B O))
  exact resG rVec (unhide B) rfl rfl rfl rfl ⟨rfl, unhide O⟩

end Go.Proofs.YtljggjnaolbapaaGreat
