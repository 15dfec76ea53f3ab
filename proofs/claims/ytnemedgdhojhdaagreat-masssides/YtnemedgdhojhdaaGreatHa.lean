/- Points in a row of memory; package orient: less, volume, and what tells the signs of a point. -/
import Derived.Test.YtnemedgdhojhdaaGreatAg
namespace Go.Proofs.YtnemedgdhojhdaaGreat
open Go.RowKit
set_option maxRecDepth 4000
set_option linter.unusedVariables false

theorem szPoint : (Tryz.prog.info? 64).map (·.size) = some 3 := by kernel_rfl
theorem run_sizeOf' {t : TypeId} {k : Nat} (h : (Tryz.prog.info? t).map (·.size) = some k) (w : World) : (sizeOf t).run Tryz.prog w = .ok k w := by
  cases hq : Tryz.prog.info? t with
  | none => simp [hq] at h
  | some i => simp [hq] at h; simp [sizeOf, typeInfo, hq, h]
theorem elPoints : Tryz.prog.underlying 62 = some (.slice (Tryz.prog.elem 62)) ∧ Tryz.prog.elem 62 = 64 := ⟨by kernel_rfl, by kernel_rfl⟩
theorem elTaken : Tryz.prog.underlying 169 = some (.slice (Tryz.prog.elem 169)) ∧ Tryz.prog.elem 169 = 64 := ⟨by kernel_rfl, by kernel_rfl⟩
theorem exec_ixP {o : Oper} {a : Act} (w : World) {T : TypeId} {g off n c i : Nat} (hT : Tryz.prog.underlying T = some (.slice (Tryz.prog.elem T)) ∧ Tryz.prog.elem T = 64) (x y : Operand) (hi : i < n) (ho : o.op = .indexAddr T x y) (hx : a.eval x = .slice (some ⟨g, off, none⟩) n c) (hy : a.eval y = .int .i64 (i : Int)) :
    (execOp a.eval o).run Tryz.prog w = .ok (.value (.pointer (some ⟨g, off + i * 3, none⟩))) w := by
  unfold execOp
  simp only [ho, hx, hy, Sem.run_bind, run_indexAt_slice w T _ _ _ _ _ hT.1]
  rw [if_pos ⟨by omega, by omega⟩, hT.2, run_sizeOf' szPoint]
  simp only [Result.andThen_ok, Sem.run_pure, Addr.add_mid, Int.toNat_natCast]
theorem exec_ldP {o : Oper} {a : Act} {w : World} {g k : Nat} {x y z : Int} (p : Operand) (ho : o.op = .load 64 p) (hx : a.eval p = .pointer (some ⟨g, k, none⟩)) (hr : w.rangeAt g k (v3 x y z).toList) : (execOp a.eval o).run Tryz.prog w = .ok (.value (.agg (v3 x y z))) w := by
  unfold execOp
  simp only [ho, hx, Instr.loadAt, Instr.sureAddr, Sem.run_bind, Sem.run_pure, Result.andThen_ok, run_loadVar_mid w g k 64 (v3 x y z).toList _ hr Tryz.underlying64 rfl szPoint]
theorem at_below {w u : World} {g k : Nat} {l : List Value} (h : w.rangeAt g k l) (hb : Below w.heap.size w u) (hg : g < w.heap.size) : u.rangeAt g k l := fun j v hv => (hb.cell (by exact hg)).trans (h j v hv)
theorem iSigns : (Tryz.prog.info? 173).map (·.size) = some 3 := by kernel_rfl
theorem rSigns : Rw 173 3 := ⟨⟨_, Tryz.underlying173, rfl⟩, iSigns⟩
theorem bSigns (x y z : Int) : Tryz.prog.built 173 [(0, .int .i64 x), (1, .int .i64 y), (2, .int .i64 z)] = some (v3 x y z) := by kernel_rfl
theorem bSigns1 (x : Int) : Tryz.prog.built 173 [(0, .int .i64 x)] = some (v3 x 0 0) := by kernel_rfl
theorem bSigns0 : Tryz.prog.built 173 [] = some (v3 0 0 0) := by kernel_rfl
theorem exec_build1' {P : Program} {o : Oper} {a : Act} (w : World) (ty : TypeId) (x : Operand) {u : Value} {cs : Array Value} (ho : o.op = .build ty #[(0, x)]) (hx : a.eval x = u) (hb : P.built ty [(0, u)] = some cs) :
    (execOp a.eval o).run P w = .ok (.value (.agg cs)) w := by
  subst hx
  unfold execOp
  simp only [ho, Sem.run_bind, run_build w ty (#[(0, x)].map fun (i, x) => (i, a.eval x)) cs (by simpa using hb), Result.andThen_ok, Sem.run_pure]

theorem oless_core (ax ay az bx b_y bz dx dy dz : Int) (e : Int) (w : World) (h : Hid (Ans 200 #[.agg (v3 ax ay az), .agg (v3 bx b_y bz)] (.tuple #[.agg (v3 dx dy dz), .int .i64 e]))) :
    Calls Tryz.prog 195 #[.agg (v3 ax ay az), .agg (v3 bx b_y bz)] w fun e w' => e = .returned (.agg (v3 dx dy dz)) ∧ Below w.heap.size w w' := by
  go_enter Tryz.func195, Tryz.ntmps195
  go_upto_region 1 with fail
  have D := hide ((((Gen.start w).push 64 (v3 ax ay az)).push 64 (v3 bx b_y bz)).push 64 (v3 0 0 0))
  simp only [szA] at D
  go_wp2_with (first | (with_reducible refine at_list ?_; apply ldG (unhide D) rPoint _ rfl rfl rfl (by repeat (first | exact List.mem_cons_self | apply List.mem_cons_of_mem)) rfl) | (go_at_call 200; with_reducible refine (unhide h _).mono ?_; rintro e w' ⟨he, hb⟩; subst he; have D := hide ((unhide D).keep hb); clear hb) | (with_reducible refine at_list ?_; refine stG (unhide D) rPoint _ _ rfl rfl rfl rfl rfl rfl (v3_one' _ _ _) ?_; intro D'; have D := hide D'; clear D') | (with_reducible refine at_list ?_; apply stGend (unhide D) rPoint _ _ rfl rfl rfl rfl (by repeat (first | exact List.mem_cons_self | apply List.mem_cons_of_mem)) (by omega) rfl rfl (v3_one' _ _ _); intro B O))
  exact resG rPoint (unhide B) rfl rfl rfl rfl ⟨rfl, unhide O⟩
theorem LessO (ax ay az bx b_y bz : Int) (ha : chkP ax ay az = true) (hb : chkP bx b_y bz = true) : Ans 195 #[.agg (v3 ax ay az), .agg (v3 bx b_y bz)] (.agg (v3 (ax - bx) (ay - b_y) (az - bz))) := fun w => by
  have k := LessZ6 ax ay az bx b_y bz
  rw [ha, hb, Bool.and_self, if_pos rfl] at k
  exact oless_core ax ay az bx b_y bz _ _ _ _ w k
set_option maxHeartbeats 2000000 in
theorem volumeO_core (a1 a2 a3 b1 b2 b3 c1 c2 c3 d1 d2 d3 p1 p2 p3 q1 q2 q3 r1 r2 r3 : Int) (v : Nat) (w : World) (h1 : Hid (Ans 195 #[.agg (v3 b1 b2 b3), .agg (v3 a1 a2 a3)] (.agg (v3 p1 p2 p3)))) (h2 : Hid (Ans 195 #[.agg (v3 c1 c2 c3), .agg (v3 a1 a2 a3)] (.agg (v3 q1 q2 q3)))) (h3 : Hid (Ans 195 #[.agg (v3 d1 d2 d3), .agg (v3 a1 a2 a3)] (.agg (v3 r1 r2 r3)))) (h4 : Hid (Ans 204 #[.agg (v3 p1 p2 p3), .agg (v3 q1 q2 q3), .agg (v3 r1 r2 r3)] (.agg (cells8 v)))) :
    Calls Tryz.prog 198 #[.agg (v3 a1 a2 a3), .agg (v3 b1 b2 b3), .agg (v3 c1 c2 c3), .agg (v3 d1 d2 d3)] w fun e w' => e = .returned (.agg (cells8 v)) ∧ Below w.heap.size w w' := by
  go_enter Tryz.func198, Tryz.ntmps198
  go_upto_region 1 with fail
  have D := hide ((((((Gen.start w).push 64 (v3 a1 a2 a3)).push 64 (v3 b1 b2 b3)).push 64 (v3 c1 c2 c3)).push 64 (v3 d1 d2 d3)).push 75 z8)
  simp only [szA] at D
  refine region_last (S := Gen w _) (f := 10) (l := [0, 1, 2, 3, 4, 5, 6, 7, 8, 9]) (by kernel_rfl) (by kernel_rfl) (by kernel_rfl) (by kernel_rfl) (by kernel_rfl) (by kernel_rfl) (by kernel_rfl) (by kernel_rfl) (by kernel_rfl) (by kernel_rfl) rfl rfl (unhide D).drew ?_
  clear D
  refine plan_read (v := .agg (v3 b1 b2 b3)) rfl rfl (fun u hS => exec_ldG hS rPoint _ rfl rfl (by repeat (first | exact List.mem_cons_self | apply List.mem_cons_of_mem)) rfl) ?_
  go_simp
  refine plan_read (v := .agg (v3 a1 a2 a3)) rfl rfl (fun u hS => exec_ldG hS rPoint _ rfl rfl (by repeat (first | exact List.mem_cons_self | apply List.mem_cons_of_mem)) rfl) ?_
  go_simp
  refine plan_call (v := (.agg (v3 p1 p2 p3))) (f := 195) (args := #[.agg (v3 b1 b2 b3), .agg (v3 a1 a2 a3)]) rfl rfl (fun u hS => by go_simp) (fun u hS => (unhide h1 u).mono fun _ _ ⟨he, hb⟩ => ⟨he, hS.keep hb⟩) ?_
  go_simp
  refine plan_read (v := .agg (v3 c1 c2 c3)) rfl rfl (fun u hS => exec_ldG hS rPoint _ rfl rfl (by repeat (first | exact List.mem_cons_self | apply List.mem_cons_of_mem)) rfl) ?_
  go_simp
  refine plan_read (v := .agg (v3 a1 a2 a3)) rfl rfl (fun u hS => exec_ldG hS rPoint _ rfl rfl (by repeat (first | exact List.mem_cons_self | apply List.mem_cons_of_mem)) rfl) ?_
  go_simp
  refine plan_call (v := (.agg (v3 q1 q2 q3))) (f := 195) (args := #[.agg (v3 c1 c2 c3), .agg (v3 a1 a2 a3)]) rfl rfl (fun u hS => by go_simp) (fun u hS => (unhide h2 u).mono fun _ _ ⟨he, hb⟩ => ⟨he, hS.keep hb⟩) ?_
  go_simp
  refine plan_read (v := .agg (v3 d1 d2 d3)) rfl rfl (fun u hS => exec_ldG hS rPoint _ rfl rfl (by repeat (first | exact List.mem_cons_self | apply List.mem_cons_of_mem)) rfl) ?_
  go_simp
  refine plan_read (v := .agg (v3 a1 a2 a3)) rfl rfl (fun u hS => exec_ldG hS rPoint _ rfl rfl (by repeat (first | exact List.mem_cons_self | apply List.mem_cons_of_mem)) rfl) ?_
  go_simp
  refine plan_call (v := (.agg (v3 r1 r2 r3))) (f := 195) (args := #[.agg (v3 d1 d2 d3), .agg (v3 a1 a2 a3)]) rfl rfl (fun u hS => by go_simp) (fun u hS => (unhide h3 u).mono fun _ _ ⟨he, hb⟩ => ⟨he, hS.keep hb⟩) ?_
  go_simp
  refine plan_call (v := (.agg (cells8 v))) (f := 204) (args := #[(.agg (v3 p1 p2 p3)), (.agg (v3 q1 q2 q3)), (.agg (v3 r1 r2 r3))]) rfl rfl (fun u hS => by go_simp) (fun u hS => (unhide h4 u).mono fun _ _ ⟨he, hb⟩ => ⟨he, hS.keep hb⟩) ?_
  go_simp
  refine plan_last (fun u hS => ?_)
  refine wp_store_row 75 (.tmp 8) (.tmp 18) rfl _ (cells8 v) rfl rfl 75 z8 (hS.blk (by repeat (first | exact List.mem_cons_self | apply List.mem_cons_of_mem))) iWide rfl (cells8_one _) ?_
  have B := hide ((hS.blk (g := w.heap.size + 1 + 1 + 1 + 1) (t := 75) (cs := z8) (by repeat (first | exact List.mem_cons_self | apply List.mem_cons_of_mem))).row (cells8 v))
  have O := hide (below_row hS.o (show w.heap.size ≤ w.heap.size + 1 + 1 + 1 + 1 by omega) (cells8 v))
  clear hS
  go_wp2
  exact resG rWide (unhide B) rfl rfl rfl rfl ⟨rfl, unhide O⟩
/-- Six times the volume of four points, with a sign. -/
def volI (a1 a2 a3 b1 b2 b3 c1 c2 c3 d1 d2 d3 : Int) : Int := detI (b1 - a1) (b2 - a2) (b3 - a3) (c1 - a1) (c2 - a2) (c3 - a3) (d1 - a1) (d2 - a2) (d3 - a3)
theorem less64 {x y z a b c : Int} (h : chkP x y z = true) (k : chkP a b c = true) : I64 (x - a) ∧ I64 (y - b) ∧ I64 (z - c) := by
  have a1 := chkP_iff.1 h
  have a2 := chkP_iff.1 k
  exact ⟨⟨by omega, by omega⟩, ⟨by omega, by omega⟩, ⟨by omega, by omega⟩⟩
theorem VolO (a1 a2 a3 b1 b2 b3 c1 c2 c3 d1 d2 d3 : Int) (ha : chkP a1 a2 a3 = true) (hb : chkP b1 b2 b3 = true) (hc : chkP c1 c2 c3 = true) (hd : chkP d1 d2 d3 = true) : Ans 198 #[.agg (v3 a1 a2 a3), .agg (v3 b1 b2 b3), .agg (v3 c1 c2 c3), .agg (v3 d1 d2 d3)] (V (volI a1 a2 a3 b1 b2 b3 c1 c2 c3 d1 d2 d3)) := fun w => by
  obtain ⟨u1, u2, u3⟩ := less64 hb ha
  obtain ⟨v1, v2, v3'⟩ := less64 hc ha
  obtain ⟨w1, w2, w3⟩ := less64 hd ha
  exact volumeO_core _ _ _ _ _ _ _ _ _ _ _ _ _ _ _ _ _ _ _ _ _ _ w (LessO _ _ _ _ _ _ hb ha) (LessO _ _ _ _ _ _ hc ha) (LessO _ _ _ _ _ _ hd ha) (Det6Z _ _ _ _ _ _ _ _ _ u1 u2 u3 v1 v2 v3' w1 w2 w3)
theorem firstO_core (v : Value) (p1 p2 p3 : Int) (w : World) :
    Calls Tryz.prog 182 #[v, .agg (v3 p1 p2 p3)] w fun e w' => e = .returned (.agg (v3 1 0 0)) ∧ Below w.heap.size w w' := by
  go_enter Tryz.func182, Tryz.ntmps182
  go_upto_region 1 with fail
  have D := hide (((Gen.start w).push 64 (v3 p1 p2 p3)).push 173 (v3 0 0 0))
  simp only [szA] at D
  go_wp2_with (first | (with_reducible refine at_list ?_;  refine wpList_value rfl (exec_build1' _ 173 _ rfl rfl (bSigns1 1)) ?_) | (with_reducible refine at_list ?_; apply stGend (unhide D) rSigns _ _ rfl rfl rfl rfl (by repeat (first | exact List.mem_cons_self | apply List.mem_cons_of_mem)) (by omega) rfl rfl (v3_one' _ _ _); intro B O))
  exact resG rSigns (unhide B) rfl rfl rfl rfl ⟨rfl, unhide O⟩
theorem withinO_core (v : Value) (p1 p2 p3 : Int) (w : World) :
    Calls Tryz.prog 186 #[v, .agg (v3 p1 p2 p3)] w fun e w' => e = .returned (.agg (v3 0 0 0)) ∧ Below w.heap.size w w' := by
  go_enter Tryz.func186, Tryz.ntmps186
  go_upto_region 1 with fail
  have D := hide (((Gen.start w).push 64 (v3 p1 p2 p3)).push 173 (v3 0 0 0))
  simp only [szA] at D
  go_wp2_with (first | (with_reducible refine at_list ?_;  refine wpList_value rfl (exec_build0 _ 173 rfl bSigns0) ?_) | (with_reducible refine at_list ?_; apply stGend (unhide D) rSigns _ _ rfl rfl rfl rfl (by repeat (first | exact List.mem_cons_self | apply List.mem_cons_of_mem)) (by omega) rfl rfl (v3_one' _ _ _); intro B O))
  exact resG rSigns (unhide B) rfl rfl rfl rfl ⟨rfl, unhide O⟩
set_option maxHeartbeats 2000000 in
theorem apartO_core (g off n c : Nat) (a1 a2 a3 p1 p2 p3 d1 d2 d3 s1 s2 s3 : Int) (w : World) (hg : g < w.heap.size) (hn0 : 0 < n) (r0 : Hid (w.rangeAt g (off + 0 * 3) (v3 a1 a2 a3).toList)) (hL : Hid (Ans 195 #[.agg (v3 p1 p2 p3), .agg (v3 a1 a2 a3)] (.agg (v3 d1 d2 d3)))) (k1 : Hid (Ans 196 #[.int .i64 d1, .int .i64 0] (.int .i64 s1))) (k2 : Hid (Ans 196 #[.int .i64 d2, .int .i64 0] (.int .i64 s2))) (k3 : Hid (Ans 196 #[.int .i64 d3, .int .i64 0] (.int .i64 s3))) :
    Calls Tryz.prog 183 #[.slice (some ⟨g, off, none⟩) n c, .agg (v3 p1 p2 p3)] w fun e w' => e = .returned (.agg (v3 s1 s2 s3)) ∧ Below w.heap.size w w' := by
  go_enter Tryz.func183, Tryz.ntmps183
  go_upto_region 1 with fail
  have D := hide (((Gen.start w).push 64 (v3 p1 p2 p3)).push 173 (v3 0 0 0))
  simp only [szA] at D
  generalize hw1 : (w.alloc (.cells (v3 p1 p2 p3) 64)).alloc (.cells (v3 0 0 0) 173) = w1 at D ⊢
  have D1 : Hid (GenZ w _ w1.heap.size w1.drew) := ⟨(unhide D).drew, Nat.le_refl _⟩
  have hlt := hide (fun (p : Nat × TypeId × Array Value) hp => ((unhide D).at_ p hp).lt)
  have hw0 := hide (unhide D).o.size
  clear D hw1
  generalize w1.heap.size = C1 at D1 hlt hw0
  refine region_allocs (S := GenZ w _ C1) (t := 64) (z := v3 0 0 0) (base := C1) (l := [0, 1, 2, 3, 4]) (A := [5]) (T := [6]) (by kernel_rfl) (by kernel_rfl) (by kernel_rfl) (by kernel_rfl) (by kernel_rfl) (by kernel_rfl) (by kernel_rfl) (by kernel_rfl) (by kernel_rfl) (by kernel_rfl) ?_ (fun _ _ h hb => h.keep hb) (fun _ h => h.s) (unhide D1) ?_
  · intro i hi
    simp at hi
    subst hi
    exact ⟨_, rfl, rfl, fun a w => by go_simp⟩
  clear D1
  refine planB_read (v := .agg (v3 p1 p2 p3)) rfl rfl (fun u hS => exec_ldG hS.e rPoint _ rfl rfl (by repeat (first | exact List.mem_cons_self | apply List.mem_cons_of_mem)) rfl) ?_
  go_simp
  refine planB_read (v := ?_) rfl rfl (fun u hS => by go_simp; rfl) ?_
  go_simp
  refine planB_read (v := .pointer (some ⟨g, off + 0 * 3, none⟩)) rfl rfl (fun u hS => exec_ixP (g := g) (off := off) (n := n) (c := c) (i := 0) u elTaken _ _ hn0 rfl rfl rfl) ?_
  go_simp
  refine planB_read (v := .agg (v3 a1 a2 a3)) rfl rfl (fun u hS => exec_ldP (g := g) (k := off + 0 * 3) _ rfl rfl (at_below (unhide r0) hS.e.o hg)) ?_
  go_simp
  refine planB_call (v := (.agg (v3 d1 d2 d3))) (f := 195) (args := #[.agg (v3 p1 p2 p3), .agg (v3 a1 a2 a3)]) rfl rfl (fun u hS => by go_simp) (fun u hS => (unhide hL u).mono fun _ _ ⟨he, hb⟩ => ⟨he, hS.keep hb, hb⟩) ?_
  go_simp
  refine planB_tail (fun cc u hS hB hI => ?_)
  have h7 := hB 5 (by simp)
  simp only [pa, dstOf, opsOf]
  generalize cc 5 = c7 at h7 ⊢
  have D := hide (hS.e.fillZ (cs := v3 d1 d2 d3) (unhide hlt) (unhide hw0) h7.1 h7.2)
  have H7 := hide h7.1
  clear hS hB hI h7 hlt hw0
  refine wpList_store_row rfl 64 (.tmp 5) (.tmp 10) rfl _ (v3 d1 d2 d3) rfl rfl 64 _ (unhide H7) szPoint rfl (v3_one' _ _ _) ?_
  generalize u.setRow c7 (v3 d1 d2 d3) = u1 at D ⊢
  clear H7
  go_simp
  go_upto_region 2 with fail
  refine region_last (S := Gen w _) (f := 10) (l := [0, 1, 2, 3, 4, 5, 6, 7, 8, 9]) (by kernel_rfl) (by kernel_rfl) (by kernel_rfl) (by kernel_rfl) (by kernel_rfl) (by kernel_rfl) (by kernel_rfl) (by kernel_rfl) (by kernel_rfl) (by kernel_rfl) rfl rfl (unhide D).drew ?_
  clear D
  refine plan_read (v := ?_) rfl rfl (fun u hS => by go_simp; rfl) ?_
  go_simp
  refine plan_read (v := .int .i64 d1) rfl rfl (fun u hS => exec_loadIGA hS _ rfl rfl (by repeat (first | exact List.mem_cons_self | apply List.mem_cons_of_mem)) rfl) ?_
  go_simp
  refine plan_call (v := (.int .i64 s1)) (f := 196) (args := #[.int .i64 d1, .int .i64 0]) rfl rfl (fun u hS => by go_simp) (fun u hS => (unhide k1 u).mono fun _ _ ⟨he, hb⟩ => ⟨he, hS.keep hb⟩) ?_
  go_simp
  refine plan_read (v := ?_) rfl rfl (fun u hS => by go_simp; rfl) ?_
  go_simp
  refine plan_read (v := .int .i64 d2) rfl rfl (fun u hS => exec_loadIGA hS _ rfl rfl (by repeat (first | exact List.mem_cons_self | apply List.mem_cons_of_mem)) rfl) ?_
  go_simp
  refine plan_call (v := (.int .i64 s2)) (f := 196) (args := #[.int .i64 d2, .int .i64 0]) rfl rfl (fun u hS => by go_simp) (fun u hS => (unhide k2 u).mono fun _ _ ⟨he, hb⟩ => ⟨he, hS.keep hb⟩) ?_
  go_simp
  refine plan_read (v := ?_) rfl rfl (fun u hS => by go_simp; rfl) ?_
  go_simp
  refine plan_read (v := .int .i64 d3) rfl rfl (fun u hS => exec_loadIGA hS _ rfl rfl (by repeat (first | exact List.mem_cons_self | apply List.mem_cons_of_mem)) rfl) ?_
  go_simp
  refine plan_call (v := (.int .i64 s3)) (f := 196) (args := #[.int .i64 d3, .int .i64 0]) rfl rfl (fun u hS => by go_simp) (fun u hS => (unhide k3 u).mono fun _ _ ⟨he, hb⟩ => ⟨he, hS.keep hb⟩) ?_
  go_simp
  refine plan_read (v := .agg (v3 s1 s2 s3)) rfl rfl (fun u hS => exec_build3 u 173 _ _ _ rfl rfl rfl rfl (bSigns _ _ _)) ?_
  go_simp
  refine plan_last (fun u hS => ?_)
  refine wp_store_row 173 (.tmp 4) (.tmp 20) rfl _ (v3 s1 s2 s3) rfl rfl 173 (v3 0 0 0) (hS.blk (by repeat (first | exact List.mem_cons_self | apply List.mem_cons_of_mem))) iSigns rfl (v3_one' _ _ _) ?_
  have B := hide ((hS.blk (g := w.heap.size + 1) (t := 173) (cs := v3 0 0 0) (by repeat (first | exact List.mem_cons_self | apply List.mem_cons_of_mem))).row (v3 s1 s2 s3))
  have O := hide (below_row hS.o (show w.heap.size ≤ w.heap.size + 1 by omega) (v3 s1 s2 s3))
  clear hS
  go_wp2
  exact resG rSigns (unhide B) rfl rfl rfl rfl ⟨rfl, unhide O⟩
set_option maxHeartbeats 4000000 in
theorem beside_core7 (g off n c : Nat) (a1 a2 a3 b1 b2 b3 p1 p2 p3 d1 d2 d3 e1 e2 e3 : Int) (X Y Z : Nat) (s1 s2 s3 : Int) (w : World) (hg : g < w.heap.size) (hn0 : 0 < n) (r0 : Hid (w.rangeAt g (off + 0 * 3) (v3 a1 a2 a3).toList)) (hn1 : 1 < n) (r1 : Hid (w.rangeAt g (off + 1 * 3) (v3 b1 b2 b3).toList)) (hL : Hid (Ans 195 #[.agg (v3 b1 b2 b3), .agg (v3 a1 a2 a3)] (.agg (v3 d1 d2 d3)))) (hM : Hid (Ans 195 #[.agg (v3 p1 p2 p3), .agg (v3 a1 a2 a3)] (.agg (v3 e1 e2 e3)))) (hC : Hid (Ans 197 #[.agg (v3 d1 d2 d3), .agg (v3 e1 e2 e3)] (.agg (c24 X Y Z))))
    (k1 : Hid (Ans 135 #[.agg (cells8 X)] (.int .i64 s1))) (k2 : Hid (Ans 135 #[.agg (cells8 Y)] (.int .i64 s2))) (k3 : Hid (Ans 135 #[.agg (cells8 Z)] (.int .i64 s3))) :
    Calls Tryz.prog 184 #[.slice (some ⟨g, off, none⟩) n c, .agg (v3 p1 p2 p3)] w fun e w' => e = .returned (.agg (v3 s1 s2 s3)) ∧ Below w.heap.size w w' := by
  go_enter Tryz.func184, Tryz.ntmps184
  go_upto_region 1 with fail
  have D := hide (((Gen.start w).push 64 (v3 p1 p2 p3)).push 173 (v3 0 0 0))
  simp only [szA] at D
  generalize hw1 : (w.alloc (.cells (v3 p1 p2 p3) 64)).alloc (.cells (v3 0 0 0) 173) = w1 at D ⊢
  have D1 : Hid (GenZ w _ w1.heap.size w1.drew) := ⟨(unhide D).drew, Nat.le_refl _⟩
  have hlt := hide (fun (p : Nat × TypeId × Array Value) hp => ((unhide D).at_ p hp).lt)
  have hw0 := hide (unhide D).o.size
  clear D hw1
  generalize w1.heap.size = C1 at D1 hlt hw0
  refine region_allocs (S := GenZ w _ C1) (t := 121) (z := z24) (base := C1) (l := [0, 1, 2, 3, 4, 5, 6, 7, 8, 9, 10, 11, 12]) (A := [13]) (T := [14]) (by kernel_rfl) (by kernel_rfl) (by kernel_rfl) (by kernel_rfl) (by kernel_rfl) (by kernel_rfl) (by kernel_rfl) (by kernel_rfl) (by kernel_rfl) (by kernel_rfl) ?_ (fun _ _ h hb => h.keep hb) (fun _ h => h.s) (unhide D1) ?_
  · intro i hi
    simp at hi
    subst hi
    exact ⟨_, rfl, rfl, fun a w => by go_simp⟩
  clear D1
  refine planB_read (v := ?_) rfl rfl (fun u hS => by go_simp; rfl) ?_
  go_simp
  refine planB_read (v := .pointer (some ⟨g, off + 1 * 3, none⟩)) rfl rfl (fun u hS => exec_ixP (g := g) (off := off) (n := n) (c := c) (i := 1) u elTaken _ _ hn1 rfl rfl rfl) ?_
  go_simp
  refine planB_read (v := .agg (v3 b1 b2 b3)) rfl rfl (fun u hS => exec_ldP (g := g) (k := off + 1 * 3) _ rfl rfl (at_below (unhide r1) hS.e.o hg)) ?_
  go_simp
  refine planB_read (v := ?_) rfl rfl (fun u hS => by go_simp; rfl) ?_
  go_simp
  refine planB_read (v := .pointer (some ⟨g, off + 0 * 3, none⟩)) rfl rfl (fun u hS => exec_ixP (g := g) (off := off) (n := n) (c := c) (i := 0) u elTaken _ _ hn0 rfl rfl rfl) ?_
  go_simp
  refine planB_read (v := .agg (v3 a1 a2 a3)) rfl rfl (fun u hS => exec_ldP (g := g) (k := off + 0 * 3) _ rfl rfl (at_below (unhide r0) hS.e.o hg)) ?_
  go_simp
  refine planB_call (v := (.agg (v3 d1 d2 d3))) (f := 195) (args := #[.agg (v3 b1 b2 b3), .agg (v3 a1 a2 a3)]) rfl rfl (fun u hS => by go_simp) (fun u hS => (unhide hL u).mono fun _ _ ⟨he, hb⟩ => ⟨he, hS.keep hb, hb⟩) ?_
  go_simp
  refine planB_read (v := .agg (v3 p1 p2 p3)) rfl rfl (fun u hS => exec_ldG hS.e rPoint _ rfl rfl (by repeat (first | exact List.mem_cons_self | apply List.mem_cons_of_mem)) rfl) ?_
  go_simp
  refine planB_read (v := ?_) rfl rfl (fun u hS => by go_simp; rfl) ?_
  go_simp
  refine planB_read (v := .pointer (some ⟨g, off + 0 * 3, none⟩)) rfl rfl (fun u hS => exec_ixP (g := g) (off := off) (n := n) (c := c) (i := 0) u elTaken _ _ hn0 rfl rfl rfl) ?_
  go_simp
  refine planB_read (v := .agg (v3 a1 a2 a3)) rfl rfl (fun u hS => exec_ldP (g := g) (k := off + 0 * 3) _ rfl rfl (at_below (unhide r0) hS.e.o hg)) ?_
  go_simp
  refine planB_call (v := (.agg (v3 e1 e2 e3))) (f := 195) (args := #[.agg (v3 p1 p2 p3), .agg (v3 a1 a2 a3)]) rfl rfl (fun u hS => by go_simp) (fun u hS => (unhide hM u).mono fun _ _ ⟨he, hb⟩ => ⟨he, hS.keep hb, hb⟩) ?_
  go_simp
  refine planB_call (v := (.agg (c24 X Y Z))) (f := 197) (args := #[(.agg (v3 d1 d2 d3)), (.agg (v3 e1 e2 e3))]) rfl rfl (fun u hS => by go_simp) (fun u hS => (unhide hC u).mono fun _ _ ⟨he, hb⟩ => ⟨he, hS.keep hb, hb⟩) ?_
  go_simp
  refine planB_tail (fun cc u hS hB hI => ?_)
  have h7 := hB 13 (by simp)
  simp only [pa, dstOf, opsOf]
  generalize cc 13 = c7 at h7 ⊢
  have D := hide (hS.e.fillZ (cs := c24 X Y Z) (unhide hlt) (unhide hw0) h7.1 h7.2)
  have H7 := hide h7.1
  clear hS hB hI h7 hlt hw0
  refine wpList_store_row rfl 121 (.tmp 5) (.tmp 18) rfl _ (c24 X Y Z) rfl rfl 121 _ (unhide H7) iSpan rfl (c24_one _ _ _) ?_
  generalize u.setRow c7 (c24 X Y Z) = u1 at D ⊢
  clear H7
  go_simp
  go_upto_region 2 with fail
  refine region_last (S := Gen w _) (f := 10) (l := [0, 1, 2, 3, 4, 5, 6, 7, 8, 9]) (by kernel_rfl) (by kernel_rfl) (by kernel_rfl) (by kernel_rfl) (by kernel_rfl) (by kernel_rfl) (by kernel_rfl) (by kernel_rfl) (by kernel_rfl) (by kernel_rfl) rfl rfl (unhide D).drew ?_
  clear D
  refine plan_read (v := ?_) rfl rfl (fun u hS => by go_simp; rfl) ?_
  go_simp
  refine plan_read (v := .agg (cells8 X)) rfl rfl (fun u hS => exec_mid _ rfl rfl (range_x (hS.blk (cs := c24 X Y Z) (by repeat (first | exact List.mem_cons_self | apply List.mem_cons_of_mem))))) ?_
  go_simp
  refine plan_call (v := (.int .i64 s1)) (f := 135) (args := #[.agg (cells8 X)]) rfl rfl (fun u hS => by go_simp) (fun u hS => (unhide k1 u).mono fun _ _ ⟨he, hb⟩ => ⟨he, hS.keep hb⟩) ?_
  go_simp
  refine plan_read (v := ?_) rfl rfl (fun u hS => by go_simp; rfl) ?_
  go_simp
  refine plan_read (v := .agg (cells8 Y)) rfl rfl (fun u hS => exec_mid _ rfl rfl (range_y (hS.blk (cs := c24 X Y Z) (by repeat (first | exact List.mem_cons_self | apply List.mem_cons_of_mem))))) ?_
  go_simp
  refine plan_call (v := (.int .i64 s2)) (f := 135) (args := #[.agg (cells8 Y)]) rfl rfl (fun u hS => by go_simp) (fun u hS => (unhide k2 u).mono fun _ _ ⟨he, hb⟩ => ⟨he, hS.keep hb⟩) ?_
  go_simp
  refine plan_read (v := ?_) rfl rfl (fun u hS => by go_simp; rfl) ?_
  go_simp
  refine plan_read (v := .agg (cells8 Z)) rfl rfl (fun u hS => exec_mid _ rfl rfl (range_z (hS.blk (cs := c24 X Y Z) (by repeat (first | exact List.mem_cons_self | apply List.mem_cons_of_mem))))) ?_
  go_simp
  refine plan_call (v := (.int .i64 s3)) (f := 135) (args := #[.agg (cells8 Z)]) rfl rfl (fun u hS => by go_simp) (fun u hS => (unhide k3 u).mono fun _ _ ⟨he, hb⟩ => ⟨he, hS.keep hb⟩) ?_
  go_simp
  refine plan_read (v := .agg (v3 s1 s2 s3)) rfl rfl (fun u hS => exec_build3 u 173 _ _ _ rfl rfl rfl rfl (bSigns _ _ _)) ?_
  go_simp
  refine plan_last (fun u hS => ?_)
  refine wp_store_row 173 (.tmp 4) (.tmp 28) rfl _ (v3 s1 s2 s3) rfl rfl 173 (v3 0 0 0) (hS.blk (by repeat (first | exact List.mem_cons_self | apply List.mem_cons_of_mem))) iSigns rfl (v3_one' _ _ _) ?_
  have B := hide ((hS.blk (g := w.heap.size + 1) (t := 173) (cs := v3 0 0 0) (by repeat (first | exact List.mem_cons_self | apply List.mem_cons_of_mem))).row (v3 s1 s2 s3))
  have O := hide (below_row hS.o (show w.heap.size ≤ w.heap.size + 1 by omega) (v3 s1 s2 s3))
  clear hS
  go_wp2
  exact resG rSigns (unhide B) rfl rfl rfl rfl ⟨rfl, unhide O⟩
set_option maxHeartbeats 2000000 in
theorem aboveO_core (g off n q : Nat) (a1 a2 a3 b1 b2 b3 c1 c2 c3 p1 p2 p3 : Int) (v : Nat) (s : Int) (w : World) (hg : g < w.heap.size) (hn0 : 0 < n) (r0 : Hid (w.rangeAt g (off + 0 * 3) (v3 a1 a2 a3).toList)) (hn1 : 1 < n) (r1 : Hid (w.rangeAt g (off + 1 * 3) (v3 b1 b2 b3).toList)) (hn2 : 2 < n) (r2 : Hid (w.rangeAt g (off + 2 * 3) (v3 c1 c2 c3).toList)) (hV : Hid (Ans 198 #[.agg (v3 a1 a2 a3), .agg (v3 b1 b2 b3), .agg (v3 c1 c2 c3), .agg (v3 p1 p2 p3)] (.agg (cells8 v)))) (hS0 : Hid (Ans 135 #[.agg (cells8 v)] (.int .i64 s))) :
    Calls Tryz.prog 185 #[.slice (some ⟨g, off, none⟩) n q, .agg (v3 p1 p2 p3)] w fun e w' => e = .returned (.agg (v3 s 0 0)) ∧ Below w.heap.size w w' := by
  go_enter Tryz.func185, Tryz.ntmps185
  go_upto_region 1 with fail
  have D := hide (((Gen.start w).push 64 (v3 p1 p2 p3)).push 173 (v3 0 0 0))
  simp only [szA] at D
  refine region_last (S := Gen w _) (f := 13) (l := [0, 1, 2, 3, 4, 5, 6, 7, 8, 9, 10, 11, 12]) (by kernel_rfl) (by kernel_rfl) (by kernel_rfl) (by kernel_rfl) (by kernel_rfl) (by kernel_rfl) (by kernel_rfl) (by kernel_rfl) (by kernel_rfl) (by kernel_rfl) rfl rfl (unhide D).drew ?_
  clear D
  refine plan_read (v := ?_) rfl rfl (fun u hS => by go_simp; rfl) ?_
  go_simp
  refine plan_read (v := .pointer (some ⟨g, off + 0 * 3, none⟩)) rfl rfl (fun u hS => exec_ixP (g := g) (off := off) (n := n) (c := q) (i := 0) u elTaken _ _ hn0 rfl rfl rfl) ?_
  go_simp
  refine plan_read (v := .agg (v3 a1 a2 a3)) rfl rfl (fun u hS => exec_ldP (g := g) (k := off + 0 * 3) _ rfl rfl (at_below (unhide r0) hS.o hg)) ?_
  go_simp
  refine plan_read (v := ?_) rfl rfl (fun u hS => by go_simp; rfl) ?_
  go_simp
  refine plan_read (v := .pointer (some ⟨g, off + 1 * 3, none⟩)) rfl rfl (fun u hS => exec_ixP (g := g) (off := off) (n := n) (c := q) (i := 1) u elTaken _ _ hn1 rfl rfl rfl) ?_
  go_simp
  refine plan_read (v := .agg (v3 b1 b2 b3)) rfl rfl (fun u hS => exec_ldP (g := g) (k := off + 1 * 3) _ rfl rfl (at_below (unhide r1) hS.o hg)) ?_
  go_simp
  refine plan_read (v := ?_) rfl rfl (fun u hS => by go_simp; rfl) ?_
  go_simp
  refine plan_read (v := .pointer (some ⟨g, off + 2 * 3, none⟩)) rfl rfl (fun u hS => exec_ixP (g := g) (off := off) (n := n) (c := q) (i := 2) u elTaken _ _ hn2 rfl rfl rfl) ?_
  go_simp
  refine plan_read (v := .agg (v3 c1 c2 c3)) rfl rfl (fun u hS => exec_ldP (g := g) (k := off + 2 * 3) _ rfl rfl (at_below (unhide r2) hS.o hg)) ?_
  go_simp
  refine plan_read (v := .agg (v3 p1 p2 p3)) rfl rfl (fun u hS => exec_ldG hS rPoint _ rfl rfl (by repeat (first | exact List.mem_cons_self | apply List.mem_cons_of_mem)) rfl) ?_
  go_simp
  refine plan_call (v := (.agg (cells8 v))) (f := 198) (args := #[.agg (v3 a1 a2 a3), .agg (v3 b1 b2 b3), .agg (v3 c1 c2 c3), .agg (v3 p1 p2 p3)]) rfl rfl (fun u hS => by go_simp) (fun u hS => (unhide hV u).mono fun _ _ ⟨he, hb⟩ => ⟨he, hS.keep hb⟩) ?_
  go_simp
  refine plan_call (v := (.int .i64 s)) (f := 135) (args := #[(.agg (cells8 v))]) rfl rfl (fun u hS => by go_simp) (fun u hS => (unhide hS0 u).mono fun _ _ ⟨he, hb⟩ => ⟨he, hS.keep hb⟩) ?_
  go_simp
  refine plan_read (v := .agg (v3 s 0 0)) rfl rfl (fun u hS => exec_build1' u 173 _ rfl rfl (bSigns1 _)) ?_
  go_simp
  refine plan_last (fun u hS => ?_)
  refine wp_store_row 173 (.tmp 4) (.tmp 17) rfl _ (v3 s 0 0) rfl rfl 173 (v3 0 0 0) (hS.blk (by repeat (first | exact List.mem_cons_self | apply List.mem_cons_of_mem))) iSigns rfl (v3_one' _ _ _) ?_
  have B := hide ((hS.blk (g := w.heap.size + 1) (t := 173) (cs := v3 0 0 0) (by repeat (first | exact List.mem_cons_self | apply List.mem_cons_of_mem))).row (v3 s 0 0))
  have O := hide (below_row hS.o (show w.heap.size ≤ w.heap.size + 1 by omega) (v3 s 0 0))
  clear hS
  go_wp2
  exact resG rSigns (unhide B) rfl rfl rfl rfl ⟨rfl, unhide O⟩

end Go.Proofs.YtnemedgdhojhdaaGreat
