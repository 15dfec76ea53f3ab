/- Matrices held against each other. The document's Matrix of layer 5. The document's Matrix of layer 5 over integers; the law QuatMatrix. -/
import Derived.Test.YtikmjfepflaokaaDoorTl
import Derived.Test.YtikmjfepflaokaaDoorTu
namespace Go.Proofs.YtikmjfepflaokaaDoor
open Go.RowKit
set_option maxRecDepth 4000
set_option linter.unusedVariables false

/-- The two matrices are the same. -/
def sameM (X Y : Nat → Int) : Bool := sameV (X 0) (X 1) (X 2) (Y 0) (Y 1) (Y 2) && (sameV (X 3) (X 4) (X 5) (Y 3) (Y 4) (Y 5) && sameV (X 6) (X 7) (X 8) (Y 6) (Y 7) (Y 8))
theorem run_vecD (D : Nat) (x y z a b c : Int) (w : World) : (Op.equalIn (D + 2) 26 (.agg (v3 x y z)) (.agg (v3 a b c))).run Tryd.prog w = .ok (sameV x y z a b c) w := by
  have hf : ((Tryd.prog.fieldsOf 26).toList.map fun f => (f.name, f.type, f.offset)) = [("X", 22, 0), ("Y", 22, 1), ("Z", 22, 2)] := by kernel_rfl
  rw [run_equalIn_struct w _ 26 _ _ (by kernel_rfl) (by kernel_rfl)]
  generalize (Tryd.prog.fieldsOf 26).toList = l at hf ⊢
  have hlen : l.length = 3 := by
    have := congrArg List.length hf
    simpa using this
  match l, hlen, hf with
  | [f0, f1, f2], _, hf =>
    simp only [List.map_cons, List.map_nil, List.cons.injEq, Prod.mk.injEq, and_true] at hf
    obtain ⟨⟨n0, t0, o0⟩, ⟨n1, t1, o1⟩, ⟨n2, t2, o2⟩⟩ := hf
    have e : ∀ w (p q : Int), (Op.equalIn (D + 1) 22 (.int .i64 p) (.int .i64 q)).run Tryd.prog w = .ok (p == q) w := fun w p q => run_equalIn_int w D 22 _ _ _ _ Tryd.underlying22
    have m0 : f0.name ≠ "_" := by rw [n0]; decide
    have m1 : f1.name ≠ "_" := by rw [n1]; decide
    have m2 : f2.name ≠ "_" := by rw [n2]; decide
    have p0 : ∀ (x y z : Int) w, (Go.part 22 (v3 x y z) 0).run Tryd.prog w = .ok (.int .i64 x) w := fun x y z w => part_fix rfl w
    have p1 : ∀ (x y z : Int) w, (Go.part 22 (v3 x y z) 1).run Tryd.prog w = .ok (.int .i64 y) w := fun x y z w => part_fix rfl w
    have p2 : ∀ (x y z : Int) w, (Go.part 22 (v3 x y z) 2).run Tryd.prog w = .ok (.int .i64 z) w := fun x y z w => part_fix rfl w
    simp only [Op.eqFields, if_pos m0, if_pos m1, if_pos m2, t0, t1, t2, o0, o1, o2, Sem.run_bind, p0, Result.andThen_ok, e]
    unfold sameV
    by_cases h0 : x = a <;> by_cases h1 : y = b <;> by_cases h2 : z = c <;> simp [h0, h1, h2, p1, p2, e]
theorem part_row (X : Nat → Int) {k : Nat} (h : k < 3) (w : World) : (Go.part 26 (m9 X) (k * 3)).run Tryd.prog w = .ok (.agg (v3 (X (k * 3)) (X (k * 3 + 1)) (X (k * 3 + 2)))) w := by
  rcases (show k = 0 ∨ k = 1 ∨ k = 2 by omega) with rfl | rfl | rfl <;> kernel_rfl
theorem part_all (X : Nat → Int) (w : World) : (Go.part 27 (m9 X) 0).run Tryd.prog w = .ok (.agg (m9 X)) w := by kernel_rfl
theorem eq_arr3G (t T : TypeId) (ht : Tryd.prog.underlying t = some (.array 3 T)) (n : Nat) (hs : ∀ w, (sizeOf T).run Tryd.prog w = .ok n w) (D : Nat) (cs ds : Array Value) (x0 x1 x2 y0 y1 y2 : Value) (b0 b1 b2 : Bool)
    (p0 : ∀ w, (Go.part T cs (0 * n)).run Tryd.prog w = .ok x0 w) (p1 : ∀ w, (Go.part T cs (1 * n)).run Tryd.prog w = .ok x1 w) (p2 : ∀ w, (Go.part T cs (2 * n)).run Tryd.prog w = .ok x2 w)
    (q0 : ∀ w, (Go.part T ds (0 * n)).run Tryd.prog w = .ok y0 w) (q1 : ∀ w, (Go.part T ds (1 * n)).run Tryd.prog w = .ok y1 w) (q2 : ∀ w, (Go.part T ds (2 * n)).run Tryd.prog w = .ok y2 w)
    (e0 : ∀ w, (Op.equalIn D T x0 y0).run Tryd.prog w = .ok b0 w) (e1 : ∀ w, (Op.equalIn D T x1 y1).run Tryd.prog w = .ok b1 w) (e2 : ∀ w, (Op.equalIn D T x2 y2).run Tryd.prog w = .ok b2 w) (w : World) :
    (Op.equalIn (D + 1) t (.agg cs) (.agg ds)).run Tryd.prog w = .ok (b0 && (b1 && b2)) w := by
  simp only [Op.equalIn, Sem.run_bind, run_underlying ht, Result.andThen_ok, hs]
  simp only [Std.Legacy.Range.forIn_eq_forIn_range', Std.Legacy.Range.size, Nat.sub_zero, Nat.add_sub_cancel, Nat.div_one]
  rw [show List.range' 0 3 = [0, 1, 2] from rfl]
  simp only [List.forIn_cons, List.forIn_nil, Sem.run_bind, p0, q0, e0, Result.andThen_ok]
  simp only [Nat.one_mul] at p1 q1
  cases b0
  · simp [Result.andThen]
  · cases b1
    · simp [Sem.run_bind, Result.andThen, p1, q1, e1]
    · cases b2 <;> simp [Sem.run_bind, Result.andThen, p1, q1, e1, p2, q2, e2]
theorem eq_arrV (D : Nat) (X Y : Nat → Int) (w : World) : (Op.equalIn (D + 3) 27 (.agg (m9 X)) (.agg (m9 Y))).run Tryd.prog w = .ok (sameM X Y) w :=
  eq_arr3G 27 26 Tryd.underlying27 3 (fun w => run_sizeOf (by kernel_rfl) w) (D + 2) (m9 X) (m9 Y) _ _ _ _ _ _ _ _ _
    (fun w => part_row X (k := 0) (by decide) w) (fun w => part_row X (k := 1) (by decide) w) (fun w => part_row X (k := 2) (by decide) w)
    (fun w => part_row Y (k := 0) (by decide) w) (fun w => part_row Y (k := 1) (by decide) w) (fun w => part_row Y (k := 2) (by decide) w)
    (fun w => run_vecD D _ _ _ _ _ _ w) (fun w => run_vecD D _ _ _ _ _ _ w) (fun w => run_vecD D _ _ _ _ _ _ w) w
theorem run_mat (X Y : Nat → Int) (w : World) : (Op.equalIn 10000 29 (.agg (m9 X)) (.agg (m9 Y))).run Tryd.prog w = .ok (sameM X Y) w := by
  have hf : ((Tryd.prog.fieldsOf 29).toList.map fun f => (f.name, f.type, f.offset)) = [("R", 27, 0)] := by kernel_rfl
  rw [show (10000 : Nat) = 9999 + 1 from rfl, run_equalIn_struct w _ 29 _ _ (by kernel_rfl) (by kernel_rfl)]
  generalize (Tryd.prog.fieldsOf 29).toList = l at hf ⊢
  have hlen : l.length = 1 := by
    have := congrArg List.length hf
    simpa using this
  match l, hlen, hf with
  | [f0], _, hf =>
    simp only [List.map_cons, List.map_nil, List.cons.injEq, Prod.mk.injEq, and_true] at hf
    obtain ⟨n0, t0, o0⟩ := hf
    have m0 : f0.name ≠ "_" := by rw [n0]; decide
    have e : (Op.equalIn 9999 27 (.agg (m9 X)) (.agg (m9 Y))).run Tryd.prog w = .ok (sameM X Y) w := eq_arrV 9996 X Y w
    simp only [Op.eqFields, if_pos m0, t0, o0, Sem.run_bind, part_all, Result.andThen_ok, e]
    cases sameM X Y <;> rfl
theorem gMat : Tryd.prog.eqGuardType Tryd.prog.depth 29 = false := by kernel_rfl
section
variable {o : Oper} {ac : Act} (wd : World) (p q : Operand) {ty' : TypeId} {s : Bool} {X Y : Nat → Int}
theorem exec_eql_mat (hb : sameM X Y = s) (ho : o.op = .binOp .eql 29 p q ty') (hx : ac.eval p = .agg (m9 X)) (hy : ac.eval q = .agg (m9 Y)) : (execOp ac.eval o).run Tryd.prog wd = .ok (.value (.bool s)) wd := by
  subst hb
  unfold execOp
  simp only [ho, hx, hy, Sem.run_bind, run_eqGuard_agg wd _ 29 _ _ _ _ gMat, run_eql_struct, run_mat, Result.andThen_ok, Sem.run_pure]
variable {ops : Array Oper} {rest : List Oper} {Q : Exit → Act → World → Prop}
theorem eqlM (hb : sameM X Y = s) (ho : o.op = .binOp .eql 29 p q ty') (hgd : o.guard = none) (hx : ac.eval p = .agg (m9 X)) (hy : ac.eval q = .agg (m9 Y))
    (h : wpList Tryd.prog ops Q rest (ac.put o.dst (.bool s)) wd) : wpList Tryd.prog ops Q (o :: rest) ac wd := wpList_value hgd (exec_eql_mat wd p q hb ho hx hy) h
theorem eqlMw (hb : sameM X Y = s) (ho : o.op = .binOp .eql 29 p q ty') (hgd : Region.wanted o (yielded ops ac.tmps) = true) (hx : ac.eval p = .agg (m9 X)) (hy : ac.eval q = .agg (m9 Y))
    (h : wpList Tryd.prog ops Q rest (ac.put o.dst (.bool s)) wd) : wpList Tryd.prog ops Q (o :: rest) ac wd := wpList_valuew hgd (exec_eql_mat wd p q hb ho hx hy) h
end
theorem sameM_self (X : Nat → Int) : sameM X X = true := by simp [sameM, sameV]
theorem sameM_of {X Y : Nat → Int} (h : ∀ j, j < 9 → X j = Y j) : sameM X Y = true := by
  unfold sameM sameV
  rw [h 0 (by decide), h 1 (by decide), h 2 (by decide), h 3 (by decide), h 4 (by decide), h 5 (by decide), h 6 (by decide), h 7 (by decide), h 8 (by decide)]
  simp

end Go.Proofs.YtikmjfepflaokaaDoor

namespace Go.Proofs.YtikmjfepflaokaaDoor
open Go.RowKit
set_option maxRecDepth 4000
set_option linter.unusedVariables false

/-- The first k numbers, then zeros. -/
def pfc (f : Nat → Int) (k j : Nat) : Int := if j < k then f j else 0
theorem pfc_put (f : Nat → Int) {k : Nat} (hk : k < 9) : (m9 (pfc f k)).setIfInBounds k (.int .i64 (f k)) = m9 (pfc f (k + 1)) := by
  rcases (show k = 0 ∨ k = 1 ∨ k = 2 ∨ k = 3 ∨ k = 4 ∨ k = 5 ∨ k = 6 ∨ k = 7 ∨ k = 8 by omega) with rfl | rfl | rfl | rfl | rfl | rfl | rfl | rfl | rfl <;> rfl
theorem Gen.setPC {w0 w : World} {l : List (Nat × TypeId × Array Value)} {g : Nat} {t : TypeId} {f : Nat → Int} {k : Nat} (d : Gen w0 ((g, t, m9 (pfc f k)) :: l) w) (hk : k < 9) (hg : w0.heap.size ≤ g) (hl : ∀ p ∈ l, p.1 ≠ g) : Gen w0 ((g, t, m9 (pfc f (k + 1))) :: l) (w.setCell ⟨g, k, none⟩ (.int .i64 (f k))) := by
  refine ⟨fun p hp => ?_, d.o.setCell (p := ⟨g, k, none⟩) hg _⟩
  rcases List.mem_cons.1 hp with e | hp
  · subst e
    have h := (d.at_ (g, t, m9 (pfc f k)) List.mem_cons_self).set k (.int .i64 (f k))
    rwa [pfc_put f hk] at h
  · exact (d.at_ p (List.mem_cons_of_mem _ hp)).other ⟨g, k, none⟩ _ (hl p hp)
set_option maxHeartbeats 4000000 in
theorem rmatrix5_no (q0 q1 q2 q3 : Int) (w : World) (h0 : Hid (Ans 32 #[.agg (q4 q0 q1 q2 q3)] (.int .i64 9))) : Calls Tryd.prog 11 #[.agg (q4 q0 q1 q2 q3)] w fun e w' => e = .returned (.tuple #[.agg (zM), .int .i64 9]) ∧ Below w.heap.size w w' := by
  go_enter Tryd.func11, Tryd.ntmps11
  go_upto_region 1 with fail
  have D := hide ((((Gen.start w).push 24 (q4 q0 q1 q2 q3)).push 29 (zM)))
  simp only [szA] at D
  refine list_start (S := Gen w _) (unhide D) ?_
  clear D
  refine list_read (v := .agg (q4 q0 q1 q2 q3)) rfl rfl (fun u hS => exec_loadG (g := w.heap.size) (cs := q4 q0 q1 q2 q3) hS rQuat _ rfl rfl (by repeat (first | exact List.mem_cons_self | apply List.mem_cons_of_mem)) rfl) ?_
  try go_simp
  refine list_call (v := .int .i64 9) (f := 32) (args := #[.agg (q4 q0 q1 q2 q3)]) rfl rfl (fun u hS => by go_simp) (fun u hS => (unhide h0 u).mono fun _ _ ⟨he, hb⟩ => ⟨he, hS.keep hb⟩) ?_
  try go_simp
  refine list_read (v := .bool true) rfl rfl (fun u hS => by go_simp) ?_
  try go_simp
  refine list_end (fun u1 hS => ?_)
  have D := hide hS
  clear hS
  go_upto_region 2 with fail
  go_wp2_with (first | (with_reducible refine at_list ?_;  refine bd0 29 rfl rfl (show Tryd.prog.built 29 [] = some zM by kernel_rfl) ?_) | (with_reducible refine at_list ?_; apply stGend (unhide D) rMat _ _ rfl rfl rfl rfl (by repeat (first | exact List.mem_cons_self | apply List.mem_cons_of_mem)) (by omega) rfl rfl (m9_one (fun _ => 0)); intro B O))
  exact resGT rMat (unhide B) rfl rfl rfl rfl rfl ⟨rfl, unhide O⟩
set_option maxHeartbeats 16000000 in
theorem rmatrix5_core {N1 N2 N3 N4 N5 N6 N7 N8 N9 N10 N11 N12 N13 N14 N15 N16 N17 N18 N19 N20 N21 N22 N23 N24 N25 N26 N27 N28 N29 N30 N31 N32 : Nat} (q0 q1 q2 q3 : Int) (F : Nat → Int) (w : World) (h0 : Hid (Ans 32 #[.agg (q4 q0 q1 q2 q3)] (.int .i64 0))) (h1 : Hid (Ans 33 #[.agg (q4 q0 q1 q2 q3)] (.agg (cells8 N1)))) (h2 : Hid (Ans 34 #[.int .i64 q0, .int .i64 q0] (.agg (cells8 N2)))) (h3 : Hid (Ans 34 #[.int .i64 q1, .int .i64 q1] (.agg (cells8 N3)))) (h4 : Hid (Ans 34 #[.int .i64 q2, .int .i64 q2] (.agg (cells8 N4)))) (h5 : Hid (Ans 34 #[.int .i64 q3, .int .i64 q3] (.agg (cells8 N5)))) (h6 : Hid (Ans 34 #[.int .i64 q1, .int .i64 q2] (.agg (cells8 N6)))) (h7 : Hid (Ans 34 #[.int .i64 q1, .int .i64 q3] (.agg (cells8 N7)))) (h8 : Hid (Ans 34 #[.int .i64 q2, .int .i64 q3] (.agg (cells8 N8)))) (h9 : Hid (Ans 34 #[.int .i64 q0, .int .i64 q1] (.agg (cells8 N9)))) (h10 : Hid (Ans 34 #[.int .i64 q0, .int .i64 q2] (.agg (cells8 N10)))) (h11 : Hid (Ans 34 #[.int .i64 q0, .int .i64 q3] (.agg (cells8 N11)))) (h12 : Hid (Ans 37 #[.agg (cells8 N2), .agg (cells8 N3)] (.agg (cells8 N12)))) (h13 : Hid (Ans 37 #[.agg (cells8 N4), .agg (cells8 N5)] (.agg (cells8 N13)))) (h14 : Hid (Ans 36 #[.agg (cells8 N12), .agg (cells8 N13)] (.agg (cells8 N14)))) (h15 : Hid (Ans 35 #[.agg (cells8 N14), .agg (cells8 N1)] (.int .i64 (F 0)))) (h16 : Hid (Ans 36 #[.agg (cells8 N6), .agg (cells8 N11)] (.agg (cells8 N15)))) (h17 : Hid (Ans 38 #[.agg (cells8 N15), .int .i64 1] (.agg (cells8 N16)))) (h18 : Hid (Ans 35 #[.agg (cells8 N16), .agg (cells8 N1)] (.int .i64 (F 1)))) (h19 : Hid (Ans 37 #[.agg (cells8 N7), .agg (cells8 N10)] (.agg (cells8 N17)))) (h20 : Hid (Ans 38 #[.agg (cells8 N17), .int .i64 1] (.agg (cells8 N18)))) (h21 : Hid (Ans 35 #[.agg (cells8 N18), .agg (cells8 N1)] (.int .i64 (F 2)))) (h22 : Hid (Ans 37 #[.agg (cells8 N6), .agg (cells8 N11)] (.agg (cells8 N19)))) (h23 : Hid (Ans 38 #[.agg (cells8 N19), .int .i64 1] (.agg (cells8 N20)))) (h24 : Hid (Ans 35 #[.agg (cells8 N20), .agg (cells8 N1)] (.int .i64 (F 3)))) (h25 : Hid (Ans 37 #[.agg (cells8 N2), .agg (cells8 N4)] (.agg (cells8 N21)))) (h26 : Hid (Ans 37 #[.agg (cells8 N3), .agg (cells8 N5)] (.agg (cells8 N22)))) (h27 : Hid (Ans 36 #[.agg (cells8 N21), .agg (cells8 N22)] (.agg (cells8 N23)))) (h28 : Hid (Ans 35 #[.agg (cells8 N23), .agg (cells8 N1)] (.int .i64 (F 4)))) (h29 : Hid (Ans 36 #[.agg (cells8 N8), .agg (cells8 N9)] (.agg (cells8 N24)))) (h30 : Hid (Ans 38 #[.agg (cells8 N24), .int .i64 1] (.agg (cells8 N25)))) (h31 : Hid (Ans 35 #[.agg (cells8 N25), .agg (cells8 N1)] (.int .i64 (F 5)))) (h32 : Hid (Ans 36 #[.agg (cells8 N7), .agg (cells8 N10)] (.agg (cells8 N26)))) (h33 : Hid (Ans 38 #[.agg (cells8 N26), .int .i64 1] (.agg (cells8 N27)))) (h34 : Hid (Ans 35 #[.agg (cells8 N27), .agg (cells8 N1)] (.int .i64 (F 6)))) (h35 : Hid (Ans 37 #[.agg (cells8 N8), .agg (cells8 N9)] (.agg (cells8 N28)))) (h36 : Hid (Ans 38 #[.agg (cells8 N28), .int .i64 1] (.agg (cells8 N29)))) (h37 : Hid (Ans 35 #[.agg (cells8 N29), .agg (cells8 N1)] (.int .i64 (F 7)))) (h38 : Hid (Ans 37 #[.agg (cells8 N2), .agg (cells8 N5)] (.agg (cells8 N30)))) (h39 : Hid (Ans 37 #[.agg (cells8 N3), .agg (cells8 N4)] (.agg (cells8 N31)))) (h40 : Hid (Ans 36 #[.agg (cells8 N30), .agg (cells8 N31)] (.agg (cells8 N32)))) (h41 : Hid (Ans 35 #[.agg (cells8 N32), .agg (cells8 N1)] (.int .i64 (F 8)))) : Calls Tryd.prog 11 #[.agg (q4 q0 q1 q2 q3)] w fun e w' => e = .returned (.tuple #[.agg (m9 F), .int .i64 0]) ∧ Below w.heap.size w w' := by
  go_enter Tryd.func11, Tryd.ntmps11
  go_upto_region 1 with fail
  have D := hide ((((Gen.start w).push 24 (q4 q0 q1 q2 q3)).push 29 (zM)))
  simp only [szA] at D
  refine list_start (S := Gen w _) (unhide D) ?_
  clear D
  refine list_read (v := .agg (q4 q0 q1 q2 q3)) rfl rfl (fun u hS => exec_loadG (g := w.heap.size) (cs := q4 q0 q1 q2 q3) hS rQuat _ rfl rfl (by repeat (first | exact List.mem_cons_self | apply List.mem_cons_of_mem)) rfl) ?_
  try go_simp
  refine list_call (v := .int .i64 0) (f := 32) (args := #[.agg (q4 q0 q1 q2 q3)]) rfl rfl (fun u hS => by go_simp) (fun u hS => (unhide h0 u).mono fun _ _ ⟨he, hb⟩ => ⟨he, hS.keep hb⟩) ?_
  try go_simp
  refine list_read (v := .bool false) rfl rfl (fun u hS => by go_simp) ?_
  try go_simp
  refine list_end (fun u1 hS => ?_)
  have D := hide hS
  clear hS
  go_upto_region 3 with fail
  refine list_start (S := Gen w _) (unhide D) ?_
  clear D
  refine list_read (v := .agg (q4 q0 q1 q2 q3)) rfl rfl (fun u hS => exec_loadG (g := w.heap.size) (cs := q4 q0 q1 q2 q3) hS rQuat _ rfl rfl (by repeat (first | exact List.mem_cons_self | apply List.mem_cons_of_mem)) rfl) ?_
  try go_simp
  refine list_call (v := .agg (cells8 N1)) (f := 33) (args := #[.agg (q4 q0 q1 q2 q3)]) rfl rfl (fun u hS => by go_simp) (fun u hS => (unhide h1 u).mono fun _ _ ⟨he, hb⟩ => ⟨he, hS.keep hb⟩) ?_
  try go_simp
  intro u2 hS
  have D := hide hS
  clear hS
  go_upto_region 4 with (first | (with_reducible refine at_list ?_; refine stG (unhide D) rWide _ _ rfl rfl rfl rfl rfl rfl (cells8_one _) ?_; intro D'; have D := hide D'; clear D'))
  generalize hz_g2 : u2.heap.size = g2 at *
  clear hz_g2
  have D1 : Hid (GenZ w _ _ _) := ⟨(unhide D).drew, Nat.le_refl _⟩
  have hlt := hide (fun (p : Nat × TypeId × Array Value) hp => ((unhide D).at_ p hp).lt)
  have hw0 := hide (unhide D).o.size
  clear D
  try simp only [szA] at hlt hw0
  refine region_allocs2 (S := GenZ w _ _) (t := 42) (z := z8) (base := _) (l := [0, 1, 2, 3, 4, 5, 6, 7, 8, 9, 10, 11, 12, 13, 14, 15, 16, 17, 18, 19]) (A := [20, 21, 22, 23]) (T := [24, 25, 26, 27]) (by kernel_rfl) (by kernel_rfl) (by kernel_rfl) (by kernel_rfl) (by kernel_rfl) (by kernel_rfl) (by kernel_rfl) (by kernel_rfl) (by kernel_rfl) (by kernel_rfl) (?_) (fun _ _ h hb => h.keep hb) (fun _ h => h.s) (unhide D1) ?_
  · intro i hi
    simp at hi
    rcases hi with rfl | rfl | rfl | rfl
    all_goals exact ⟨_, rfl, rfl, fun a w => by go_simp⟩
  clear D1
  refine planB_read (v := .pointer (some ⟨w.heap.size, 0, none⟩)) rfl rfl (fun u hS => by go_simp) ?_
  try go_simp
  refine planB_read (v := .int .i64 q0) rfl rfl (fun u hS => exec_loadFG (g := w.heap.size) (cs := q4 q0 q1 q2 q3) hS.e _ rfl rfl (by repeat (first | exact List.mem_cons_self | apply List.mem_cons_of_mem)) rfl) ?_
  try go_simp
  refine planB_read (v := .pointer (some ⟨w.heap.size, 0, none⟩)) rfl rfl (fun u hS => by go_simp) ?_
  try go_simp
  refine planB_read (v := .int .i64 q0) rfl rfl (fun u hS => exec_loadFG (g := w.heap.size) (cs := q4 q0 q1 q2 q3) hS.e _ rfl rfl (by repeat (first | exact List.mem_cons_self | apply List.mem_cons_of_mem)) rfl) ?_
  try go_simp
  refine planB_call (v := .agg (cells8 N2)) (f := 34) (args := #[.int .i64 q0, .int .i64 q0]) rfl rfl (fun u hS => by go_simp) (fun u hS => (unhide h2 u).mono fun _ _ ⟨he, hb⟩ => ⟨he, hS.keep hb, hb⟩) ?_
  try go_simp
  refine planB_read (v := .pointer (some ⟨w.heap.size, 1, none⟩)) rfl rfl (fun u hS => by go_simp) ?_
  try go_simp
  refine planB_read (v := .int .i64 q1) rfl rfl (fun u hS => exec_loadFG (g := w.heap.size) (cs := q4 q0 q1 q2 q3) hS.e _ rfl rfl (by repeat (first | exact List.mem_cons_self | apply List.mem_cons_of_mem)) rfl) ?_
  try go_simp
  refine planB_read (v := .pointer (some ⟨w.heap.size, 1, none⟩)) rfl rfl (fun u hS => by go_simp) ?_
  try go_simp
  refine planB_read (v := .int .i64 q1) rfl rfl (fun u hS => exec_loadFG (g := w.heap.size) (cs := q4 q0 q1 q2 q3) hS.e _ rfl rfl (by repeat (first | exact List.mem_cons_self | apply List.mem_cons_of_mem)) rfl) ?_
  try go_simp
  refine planB_call (v := .agg (cells8 N3)) (f := 34) (args := #[.int .i64 q1, .int .i64 q1]) rfl rfl (fun u hS => by go_simp) (fun u hS => (unhide h3 u).mono fun _ _ ⟨he, hb⟩ => ⟨he, hS.keep hb, hb⟩) ?_
  try go_simp
  refine planB_read (v := .pointer (some ⟨w.heap.size, 2, none⟩)) rfl rfl (fun u hS => by go_simp) ?_
  try go_simp
  refine planB_read (v := .int .i64 q2) rfl rfl (fun u hS => exec_loadFG (g := w.heap.size) (cs := q4 q0 q1 q2 q3) hS.e _ rfl rfl (by repeat (first | exact List.mem_cons_self | apply List.mem_cons_of_mem)) rfl) ?_
  try go_simp
  refine planB_read (v := .pointer (some ⟨w.heap.size, 2, none⟩)) rfl rfl (fun u hS => by go_simp) ?_
  try go_simp
  refine planB_read (v := .int .i64 q2) rfl rfl (fun u hS => exec_loadFG (g := w.heap.size) (cs := q4 q0 q1 q2 q3) hS.e _ rfl rfl (by repeat (first | exact List.mem_cons_self | apply List.mem_cons_of_mem)) rfl) ?_
  try go_simp
  refine planB_call (v := .agg (cells8 N4)) (f := 34) (args := #[.int .i64 q2, .int .i64 q2]) rfl rfl (fun u hS => by go_simp) (fun u hS => (unhide h4 u).mono fun _ _ ⟨he, hb⟩ => ⟨he, hS.keep hb, hb⟩) ?_
  try go_simp
  refine planB_read (v := .pointer (some ⟨w.heap.size, 3, none⟩)) rfl rfl (fun u hS => by go_simp) ?_
  try go_simp
  refine planB_read (v := .int .i64 q3) rfl rfl (fun u hS => exec_loadFG (g := w.heap.size) (cs := q4 q0 q1 q2 q3) hS.e _ rfl rfl (by repeat (first | exact List.mem_cons_self | apply List.mem_cons_of_mem)) rfl) ?_
  try go_simp
  refine planB_read (v := .pointer (some ⟨w.heap.size, 3, none⟩)) rfl rfl (fun u hS => by go_simp) ?_
  try go_simp
  refine planB_read (v := .int .i64 q3) rfl rfl (fun u hS => exec_loadFG (g := w.heap.size) (cs := q4 q0 q1 q2 q3) hS.e _ rfl rfl (by repeat (first | exact List.mem_cons_self | apply List.mem_cons_of_mem)) rfl) ?_
  try go_simp
  refine planB_call (v := .agg (cells8 N5)) (f := 34) (args := #[.int .i64 q3, .int .i64 q3]) rfl rfl (fun u hS => by go_simp) (fun u hS => (unhide h5 u).mono fun _ _ ⟨he, hb⟩ => ⟨he, hS.keep hb, hb⟩) ?_
  try go_simp
  refine planB_tail (fun c u3 hS hB hI => ?_)
  have k20 := hB 20 (by simp)
  have k21 := hB 21 (by simp)
  have k22 := hB 22 (by simp)
  have k23 := hB 23 (by simp)
  have n20_21 : c 20 ≠ c 21 := fun hc => by have := hI 20 (by simp) 21 (by simp) hc; omega
  have n20_22 : c 20 ≠ c 22 := fun hc => by have := hI 20 (by simp) 22 (by simp) hc; omega
  have n20_23 : c 20 ≠ c 23 := fun hc => by have := hI 20 (by simp) 23 (by simp) hc; omega
  have n21_22 : c 21 ≠ c 22 := fun hc => by have := hI 21 (by simp) 22 (by simp) hc; omega
  have n21_23 : c 21 ≠ c 23 := fun hc => by have := hI 21 (by simp) 23 (by simp) hc; omega
  have n22_23 : c 22 ≠ c 23 := fun hc => by have := hI 22 (by simp) 23 (by simp) hc; omega
  simp only [pa, dstOf, opsOf]
  generalize c 20 = c3_20 at *
  generalize c 21 = c3_21 at *
  generalize c 22 = c3_22 at *
  generalize c 23 = c3_23 at *
  clear hI hB
  have D0 := hide hS.e
  have hw1 := unhide hw0
  clear hS
  have D2 := D0
  have D2 : Hid (Gen w [(g2, 42, cells8 N1), (w.heap.size + 1, 29, zM), (w.heap.size, 24, q4 q0 q1 q2 q3)] (u3.setRow c3_20 (cells8 N2))) := hide (Gen.rowB (unhide D2) (unhide hlt) (unhide hw0) k20.2 (cells8 N2))
  have D2 : Hid (Gen w [(g2, 42, cells8 N1), (w.heap.size + 1, 29, zM), (w.heap.size, 24, q4 q0 q1 q2 q3)] ((u3.setRow c3_20 (cells8 N2)).setRow c3_21 (cells8 N3))) := hide (Gen.rowB (unhide D2) (unhide hlt) (unhide hw0) k21.2 (cells8 N3))
  have D2 : Hid (Gen w [(g2, 42, cells8 N1), (w.heap.size + 1, 29, zM), (w.heap.size, 24, q4 q0 q1 q2 q3)] (((u3.setRow c3_20 (cells8 N2)).setRow c3_21 (cells8 N3)).setRow c3_22 (cells8 N4))) := hide (Gen.rowB (unhide D2) (unhide hlt) (unhide hw0) k22.2 (cells8 N4))
  have D2 : Hid (Gen w [(g2, 42, cells8 N1), (w.heap.size + 1, 29, zM), (w.heap.size, 24, q4 q0 q1 q2 q3)] ((((u3.setRow c3_20 (cells8 N2)).setRow c3_21 (cells8 N3)).setRow c3_22 (cells8 N4)).setRow c3_23 (cells8 N5))) := hide (Gen.rowB (unhide D2) (unhide hlt) (unhide hw0) k23.2 (cells8 N5))
  have D2 := hide ((unhide D2).moreB ((((k20.1.row (cells8 N2)).rowOther (cells8 N3) n20_21).rowOther (cells8 N4) n20_22).rowOther (cells8 N5) n20_23))
  have D2 := hide ((unhide D2).moreB ((((k21.1.rowOther (cells8 N2) (Ne.symm n20_21)).row (cells8 N3)).rowOther (cells8 N4) n21_22).rowOther (cells8 N5) n21_23))
  have D2 := hide ((unhide D2).moreB ((((k22.1.rowOther (cells8 N2) (Ne.symm n20_22)).rowOther (cells8 N3) (Ne.symm n21_22)).row (cells8 N4)).rowOther (cells8 N5) n22_23))
  have D2 := hide ((unhide D2).moreB ((((k23.1.rowOther (cells8 N2) (Ne.symm n20_23)).rowOther (cells8 N3) (Ne.symm n21_23)).rowOther (cells8 N4) (Ne.symm n22_23)).row (cells8 N5)))
  have e0 := hide k20.1
  have e1 := hide (k21.1.rowOther (cells8 N2) (Ne.symm n20_21))
  have e2 := hide ((k22.1.rowOther (cells8 N2) (Ne.symm n20_22)).rowOther (cells8 N3) (Ne.symm n21_22))
  have e3 := hide (((k23.1.rowOther (cells8 N2) (Ne.symm n20_23)).rowOther (cells8 N3) (Ne.symm n21_23)).rowOther (cells8 N4) (Ne.symm n22_23))
  refine wpList_store_row rfl 42 (.tmp 5) (.tmp 26) rfl _ (cells8 N2) rfl rfl 42 _ (unhide e0) iWide rfl (cells8_one _) ?_
  refine wpList_store_row rfl 42 (.tmp 6) (.tmp 31) rfl _ (cells8 N3) rfl rfl 42 _ (unhide e1) iWide rfl (cells8_one _) ?_
  refine wpList_store_row rfl 42 (.tmp 7) (.tmp 36) rfl _ (cells8 N4) rfl rfl 42 _ (unhide e2) iWide rfl (cells8_one _) ?_
  refine wpList_store_row rfl 42 (.tmp 8) (.tmp 41) rfl _ (cells8 N5) rfl rfl 42 _ (unhide e3) iWide rfl (cells8_one _) ?_
  generalize (((u3.setRow c3_20 (cells8 N2)).setRow c3_21 (cells8 N3)).setRow c3_22 (cells8 N4)).setRow c3_23 (cells8 N5) = x3 at D2 ⊢
  clear k20 k21 k22 k23 e0 e1 e2 e3 D0 hlt hw0 hw1 n20_21 n20_22 n20_23 n21_22 n21_23 n22_23
  have D := D2
  clear D2
  go_simp
  go_upto_region 5 with fail
  have D1 : Hid (GenZ w _ _ _) := ⟨(unhide D).drew, Nat.le_refl _⟩
  have hlt := hide (fun (p : Nat × TypeId × Array Value) hp => ((unhide D).at_ p hp).lt)
  have hw0 := hide (unhide D).o.size
  clear D
  try simp only [szA] at hlt hw0
  refine region_allocs2 (S := GenZ w _ _) (t := 42) (z := z8) (base := _) (l := [0, 1, 2, 3, 4, 5, 6, 7, 8, 9, 10, 11, 12, 13, 14]) (A := [15, 16, 17]) (T := [18, 19, 20]) (by kernel_rfl) (by kernel_rfl) (by kernel_rfl) (by kernel_rfl) (by kernel_rfl) (by kernel_rfl) (by kernel_rfl) (by kernel_rfl) (by kernel_rfl) (by kernel_rfl) (?_) (fun _ _ h hb => h.keep hb) (fun _ h => h.s) (unhide D1) ?_
  · intro i hi
    simp at hi
    rcases hi with rfl | rfl | rfl
    all_goals exact ⟨_, rfl, rfl, fun a w => by go_simp⟩
  clear D1
  refine planB_read (v := .pointer (some ⟨w.heap.size, 1, none⟩)) rfl rfl (fun u hS => by go_simp) ?_
  try go_simp
  refine planB_read (v := .int .i64 q1) rfl rfl (fun u hS => exec_loadFG (g := w.heap.size) (cs := q4 q0 q1 q2 q3) hS.e _ rfl rfl (by repeat (first | exact List.mem_cons_self | apply List.mem_cons_of_mem)) rfl) ?_
  try go_simp
  refine planB_read (v := .pointer (some ⟨w.heap.size, 2, none⟩)) rfl rfl (fun u hS => by go_simp) ?_
  try go_simp
  refine planB_read (v := .int .i64 q2) rfl rfl (fun u hS => exec_loadFG (g := w.heap.size) (cs := q4 q0 q1 q2 q3) hS.e _ rfl rfl (by repeat (first | exact List.mem_cons_self | apply List.mem_cons_of_mem)) rfl) ?_
  try go_simp
  refine planB_call (v := .agg (cells8 N6)) (f := 34) (args := #[.int .i64 q1, .int .i64 q2]) rfl rfl (fun u hS => by go_simp) (fun u hS => (unhide h6 u).mono fun _ _ ⟨he, hb⟩ => ⟨he, hS.keep hb, hb⟩) ?_
  try go_simp
  refine planB_read (v := .pointer (some ⟨w.heap.size, 1, none⟩)) rfl rfl (fun u hS => by go_simp) ?_
  try go_simp
  refine planB_read (v := .int .i64 q1) rfl rfl (fun u hS => exec_loadFG (g := w.heap.size) (cs := q4 q0 q1 q2 q3) hS.e _ rfl rfl (by repeat (first | exact List.mem_cons_self | apply List.mem_cons_of_mem)) rfl) ?_
  try go_simp
  refine planB_read (v := .pointer (some ⟨w.heap.size, 3, none⟩)) rfl rfl (fun u hS => by go_simp) ?_
  try go_simp
  refine planB_read (v := .int .i64 q3) rfl rfl (fun u hS => exec_loadFG (g := w.heap.size) (cs := q4 q0 q1 q2 q3) hS.e _ rfl rfl (by repeat (first | exact List.mem_cons_self | apply List.mem_cons_of_mem)) rfl) ?_
  try go_simp
  refine planB_call (v := .agg (cells8 N7)) (f := 34) (args := #[.int .i64 q1, .int .i64 q3]) rfl rfl (fun u hS => by go_simp) (fun u hS => (unhide h7 u).mono fun _ _ ⟨he, hb⟩ => ⟨he, hS.keep hb, hb⟩) ?_
  try go_simp
  refine planB_read (v := .pointer (some ⟨w.heap.size, 2, none⟩)) rfl rfl (fun u hS => by go_simp) ?_
  try go_simp
  refine planB_read (v := .int .i64 q2) rfl rfl (fun u hS => exec_loadFG (g := w.heap.size) (cs := q4 q0 q1 q2 q3) hS.e _ rfl rfl (by repeat (first | exact List.mem_cons_self | apply List.mem_cons_of_mem)) rfl) ?_
  try go_simp
  refine planB_read (v := .pointer (some ⟨w.heap.size, 3, none⟩)) rfl rfl (fun u hS => by go_simp) ?_
  try go_simp
  refine planB_read (v := .int .i64 q3) rfl rfl (fun u hS => exec_loadFG (g := w.heap.size) (cs := q4 q0 q1 q2 q3) hS.e _ rfl rfl (by repeat (first | exact List.mem_cons_self | apply List.mem_cons_of_mem)) rfl) ?_
  try go_simp
  refine planB_call (v := .agg (cells8 N8)) (f := 34) (args := #[.int .i64 q2, .int .i64 q3]) rfl rfl (fun u hS => by go_simp) (fun u hS => (unhide h8 u).mono fun _ _ ⟨he, hb⟩ => ⟨he, hS.keep hb, hb⟩) ?_
  try go_simp
  refine planB_tail (fun c u4 hS hB hI => ?_)
  have k15 := hB 15 (by simp)
  have k16 := hB 16 (by simp)
  have k17 := hB 17 (by simp)
  have n15_16 : c 15 ≠ c 16 := fun hc => by have := hI 15 (by simp) 16 (by simp) hc; omega
  have n15_17 : c 15 ≠ c 17 := fun hc => by have := hI 15 (by simp) 17 (by simp) hc; omega
  have n16_17 : c 16 ≠ c 17 := fun hc => by have := hI 16 (by simp) 17 (by simp) hc; omega
  simp only [pa, dstOf, opsOf]
  generalize c 15 = c4_15 at *
  generalize c 16 = c4_16 at *
  generalize c 17 = c4_17 at *
  clear hI hB
  have D0 := hide hS.e
  have hw1 := unhide hw0
  clear hS
  have D2 := D0
  have D2 : Hid (Gen w [(c3_23, 42, cells8 N5), (c3_22, 42, cells8 N4), (c3_21, 42, cells8 N3), (c3_20, 42, cells8 N2), (g2, 42, cells8 N1), (w.heap.size + 1, 29, zM), (w.heap.size, 24, q4 q0 q1 q2 q3)] (u4.setRow c4_15 (cells8 N6))) := hide (Gen.rowB (unhide D2) (unhide hlt) (unhide hw0) k15.2 (cells8 N6))
  have D2 : Hid (Gen w [(c3_23, 42, cells8 N5), (c3_22, 42, cells8 N4), (c3_21, 42, cells8 N3), (c3_20, 42, cells8 N2), (g2, 42, cells8 N1), (w.heap.size + 1, 29, zM), (w.heap.size, 24, q4 q0 q1 q2 q3)] ((u4.setRow c4_15 (cells8 N6)).setRow c4_16 (cells8 N7))) := hide (Gen.rowB (unhide D2) (unhide hlt) (unhide hw0) k16.2 (cells8 N7))
  have D2 : Hid (Gen w [(c3_23, 42, cells8 N5), (c3_22, 42, cells8 N4), (c3_21, 42, cells8 N3), (c3_20, 42, cells8 N2), (g2, 42, cells8 N1), (w.heap.size + 1, 29, zM), (w.heap.size, 24, q4 q0 q1 q2 q3)] (((u4.setRow c4_15 (cells8 N6)).setRow c4_16 (cells8 N7)).setRow c4_17 (cells8 N8))) := hide (Gen.rowB (unhide D2) (unhide hlt) (unhide hw0) k17.2 (cells8 N8))
  have D2 := hide ((unhide D2).moreB (((k15.1.row (cells8 N6)).rowOther (cells8 N7) n15_16).rowOther (cells8 N8) n15_17))
  have D2 := hide ((unhide D2).moreB (((k16.1.rowOther (cells8 N6) (Ne.symm n15_16)).row (cells8 N7)).rowOther (cells8 N8) n16_17))
  have D2 := hide ((unhide D2).moreB (((k17.1.rowOther (cells8 N6) (Ne.symm n15_17)).rowOther (cells8 N7) (Ne.symm n16_17)).row (cells8 N8)))
  have e0 := hide k15.1
  have e1 := hide (k16.1.rowOther (cells8 N6) (Ne.symm n15_16))
  have e2 := hide ((k17.1.rowOther (cells8 N6) (Ne.symm n15_17)).rowOther (cells8 N7) (Ne.symm n16_17))
  refine wpList_store_row rfl 42 (.tmp 9) (.tmp 46) rfl _ (cells8 N6) rfl rfl 42 _ (unhide e0) iWide rfl (cells8_one _) ?_
  refine wpList_store_row rfl 42 (.tmp 10) (.tmp 51) rfl _ (cells8 N7) rfl rfl 42 _ (unhide e1) iWide rfl (cells8_one _) ?_
  refine wpList_store_row rfl 42 (.tmp 11) (.tmp 56) rfl _ (cells8 N8) rfl rfl 42 _ (unhide e2) iWide rfl (cells8_one _) ?_
  generalize ((u4.setRow c4_15 (cells8 N6)).setRow c4_16 (cells8 N7)).setRow c4_17 (cells8 N8) = x4 at D2 ⊢
  clear k15 k16 k17 e0 e1 e2 D0 hlt hw0 hw1 n15_16 n15_17 n16_17
  have D := D2
  clear D2
  go_simp
  go_upto_region 6 with fail
  have D1 : Hid (GenZ w _ _ _) := ⟨(unhide D).drew, Nat.le_refl _⟩
  have hlt := hide (fun (p : Nat × TypeId × Array Value) hp => ((unhide D).at_ p hp).lt)
  have hw0 := hide (unhide D).o.size
  clear D
  try simp only [szA] at hlt hw0
  refine region_allocs2 (S := GenZ w _ _) (t := 42) (z := z8) (base := _) (l := [0, 1, 2, 3, 4, 5, 6, 7, 8, 9, 10, 11, 12, 13, 14]) (A := [15, 16, 17]) (T := [18, 19, 20]) (by kernel_rfl) (by kernel_rfl) (by kernel_rfl) (by kernel_rfl) (by kernel_rfl) (by kernel_rfl) (by kernel_rfl) (by kernel_rfl) (by kernel_rfl) (by kernel_rfl) (?_) (fun _ _ h hb => h.keep hb) (fun _ h => h.s) (unhide D1) ?_
  · intro i hi
    simp at hi
    rcases hi with rfl | rfl | rfl
    all_goals exact ⟨_, rfl, rfl, fun a w => by go_simp⟩
  clear D1
  refine planB_read (v := .pointer (some ⟨w.heap.size, 0, none⟩)) rfl rfl (fun u hS => by go_simp) ?_
  try go_simp
  refine planB_read (v := .int .i64 q0) rfl rfl (fun u hS => exec_loadFG (g := w.heap.size) (cs := q4 q0 q1 q2 q3) hS.e _ rfl rfl (by repeat (first | exact List.mem_cons_self | apply List.mem_cons_of_mem)) rfl) ?_
  try go_simp
  refine planB_read (v := .pointer (some ⟨w.heap.size, 1, none⟩)) rfl rfl (fun u hS => by go_simp) ?_
  try go_simp
  refine planB_read (v := .int .i64 q1) rfl rfl (fun u hS => exec_loadFG (g := w.heap.size) (cs := q4 q0 q1 q2 q3) hS.e _ rfl rfl (by repeat (first | exact List.mem_cons_self | apply List.mem_cons_of_mem)) rfl) ?_
  try go_simp
  refine planB_call (v := .agg (cells8 N9)) (f := 34) (args := #[.int .i64 q0, .int .i64 q1]) rfl rfl (fun u hS => by go_simp) (fun u hS => (unhide h9 u).mono fun _ _ ⟨he, hb⟩ => ⟨he, hS.keep hb, hb⟩) ?_
  try go_simp
  refine planB_read (v := .pointer (some ⟨w.heap.size, 0, none⟩)) rfl rfl (fun u hS => by go_simp) ?_
  try go_simp
  refine planB_read (v := .int .i64 q0) rfl rfl (fun u hS => exec_loadFG (g := w.heap.size) (cs := q4 q0 q1 q2 q3) hS.e _ rfl rfl (by repeat (first | exact List.mem_cons_self | apply List.mem_cons_of_mem)) rfl) ?_
  try go_simp
  refine planB_read (v := .pointer (some ⟨w.heap.size, 2, none⟩)) rfl rfl (fun u hS => by go_simp) ?_
  try go_simp
  refine planB_read (v := .int .i64 q2) rfl rfl (fun u hS => exec_loadFG (g := w.heap.size) (cs := q4 q0 q1 q2 q3) hS.e _ rfl rfl (by repeat (first | exact List.mem_cons_self | apply List.mem_cons_of_mem)) rfl) ?_
  try go_simp
  refine planB_call (v := .agg (cells8 N10)) (f := 34) (args := #[.int .i64 q0, .int .i64 q2]) rfl rfl (fun u hS => by go_simp) (fun u hS => (unhide h10 u).mono fun _ _ ⟨he, hb⟩ => ⟨he, hS.keep hb, hb⟩) ?_
  try go_simp
  refine planB_read (v := .pointer (some ⟨w.heap.size, 0, none⟩)) rfl rfl (fun u hS => by go_simp) ?_
  try go_simp
  refine planB_read (v := .int .i64 q0) rfl rfl (fun u hS => exec_loadFG (g := w.heap.size) (cs := q4 q0 q1 q2 q3) hS.e _ rfl rfl (by repeat (first | exact List.mem_cons_self | apply List.mem_cons_of_mem)) rfl) ?_
  try go_simp
  refine planB_read (v := .pointer (some ⟨w.heap.size, 3, none⟩)) rfl rfl (fun u hS => by go_simp) ?_
  try go_simp
  refine planB_read (v := .int .i64 q3) rfl rfl (fun u hS => exec_loadFG (g := w.heap.size) (cs := q4 q0 q1 q2 q3) hS.e _ rfl rfl (by repeat (first | exact List.mem_cons_self | apply List.mem_cons_of_mem)) rfl) ?_
  try go_simp
  refine planB_call (v := .agg (cells8 N11)) (f := 34) (args := #[.int .i64 q0, .int .i64 q3]) rfl rfl (fun u hS => by go_simp) (fun u hS => (unhide h11 u).mono fun _ _ ⟨he, hb⟩ => ⟨he, hS.keep hb, hb⟩) ?_
  try go_simp
  refine planB_tail (fun c u5 hS hB hI => ?_)
  have k15 := hB 15 (by simp)
  have k16 := hB 16 (by simp)
  have k17 := hB 17 (by simp)
  have n15_16 : c 15 ≠ c 16 := fun hc => by have := hI 15 (by simp) 16 (by simp) hc; omega
  have n15_17 : c 15 ≠ c 17 := fun hc => by have := hI 15 (by simp) 17 (by simp) hc; omega
  have n16_17 : c 16 ≠ c 17 := fun hc => by have := hI 16 (by simp) 17 (by simp) hc; omega
  simp only [pa, dstOf, opsOf]
  generalize c 15 = c5_15 at *
  generalize c 16 = c5_16 at *
  generalize c 17 = c5_17 at *
  clear hI hB
  have D0 := hide hS.e
  have hw1 := unhide hw0
  clear hS
  have D2 := D0
  have D2 : Hid (Gen w [(c4_17, 42, cells8 N8), (c4_16, 42, cells8 N7), (c4_15, 42, cells8 N6), (c3_23, 42, cells8 N5), (c3_22, 42, cells8 N4), (c3_21, 42, cells8 N3), (c3_20, 42, cells8 N2), (g2, 42, cells8 N1), (w.heap.size + 1, 29, zM), (w.heap.size, 24, q4 q0 q1 q2 q3)] (u5.setRow c5_15 (cells8 N9))) := hide (Gen.rowB (unhide D2) (unhide hlt) (unhide hw0) k15.2 (cells8 N9))
  have D2 : Hid (Gen w [(c4_17, 42, cells8 N8), (c4_16, 42, cells8 N7), (c4_15, 42, cells8 N6), (c3_23, 42, cells8 N5), (c3_22, 42, cells8 N4), (c3_21, 42, cells8 N3), (c3_20, 42, cells8 N2), (g2, 42, cells8 N1), (w.heap.size + 1, 29, zM), (w.heap.size, 24, q4 q0 q1 q2 q3)] ((u5.setRow c5_15 (cells8 N9)).setRow c5_16 (cells8 N10))) := hide (Gen.rowB (unhide D2) (unhide hlt) (unhide hw0) k16.2 (cells8 N10))
  have D2 : Hid (Gen w [(c4_17, 42, cells8 N8), (c4_16, 42, cells8 N7), (c4_15, 42, cells8 N6), (c3_23, 42, cells8 N5), (c3_22, 42, cells8 N4), (c3_21, 42, cells8 N3), (c3_20, 42, cells8 N2), (g2, 42, cells8 N1), (w.heap.size + 1, 29, zM), (w.heap.size, 24, q4 q0 q1 q2 q3)] (((u5.setRow c5_15 (cells8 N9)).setRow c5_16 (cells8 N10)).setRow c5_17 (cells8 N11))) := hide (Gen.rowB (unhide D2) (unhide hlt) (unhide hw0) k17.2 (cells8 N11))
  have D2 := hide ((unhide D2).moreB (((k15.1.row (cells8 N9)).rowOther (cells8 N10) n15_16).rowOther (cells8 N11) n15_17))
  have D2 := hide ((unhide D2).moreB (((k16.1.rowOther (cells8 N9) (Ne.symm n15_16)).row (cells8 N10)).rowOther (cells8 N11) n16_17))
  have D2 := hide ((unhide D2).moreB (((k17.1.rowOther (cells8 N9) (Ne.symm n15_17)).rowOther (cells8 N10) (Ne.symm n16_17)).row (cells8 N11)))
  have e0 := hide k15.1
  have e1 := hide (k16.1.rowOther (cells8 N9) (Ne.symm n15_16))
  have e2 := hide ((k17.1.rowOther (cells8 N9) (Ne.symm n15_17)).rowOther (cells8 N10) (Ne.symm n16_17))
  refine wpList_store_row rfl 42 (.tmp 12) (.tmp 61) rfl _ (cells8 N9) rfl rfl 42 _ (unhide e0) iWide rfl (cells8_one _) ?_
  refine wpList_store_row rfl 42 (.tmp 13) (.tmp 66) rfl _ (cells8 N10) rfl rfl 42 _ (unhide e1) iWide rfl (cells8_one _) ?_
  refine wpList_store_row rfl 42 (.tmp 14) (.tmp 71) rfl _ (cells8 N11) rfl rfl 42 _ (unhide e2) iWide rfl (cells8_one _) ?_
  generalize ((u5.setRow c5_15 (cells8 N9)).setRow c5_16 (cells8 N10)).setRow c5_17 (cells8 N11) = x5 at D2 ⊢
  clear k15 k16 k17 e0 e1 e2 D0 hlt hw0 hw1 n15_16 n15_17 n16_17
  have D := D2
  clear D2
  go_simp
  go_upto_region 7 with fail
  have hl8 := hide (fun (p : Nat × TypeId × Array Value) hp => Nat.ne_of_lt ((unhide D).at_ p hp).lt)
  have hw8 := hide (unhide D).o.size
  have D := hide ((unhide D).push 29 zM)
  go_upto_region 8 with fail
  generalize hz_g6 : x5.heap.size = g6 at *
  clear hz_g6
  have D : Hid (Gen w [(g6, 29, m9 (pfc F 0)), (c5_17, 42, cells8 N11), (c5_16, 42, cells8 N10), (c5_15, 42, cells8 N9), (c4_17, 42, cells8 N8), (c4_16, 42, cells8 N7), (c4_15, 42, cells8 N6), (c3_23, 42, cells8 N5), (c3_22, 42, cells8 N4), (c3_21, 42, cells8 N3), (c3_20, 42, cells8 N2), (g2, 42, cells8 N1), (w.heap.size + 1, 29, zM), (w.heap.size, 24, q4 q0 q1 q2 q3)] _) := D
  refine region_last (S := Gen w _) (f := 12) (l := [0, 1, 2, 3, 4, 5, 6, 7, 8, 9, 10, 11]) (by kernel_rfl) (by kernel_rfl) (by kernel_rfl) (by kernel_rfl) (by kernel_rfl) (by kernel_rfl) (by kernel_rfl) (by kernel_rfl) (by kernel_rfl) (by kernel_rfl) rfl rfl (unhide D).drew ?_
  clear D
  refine plan_read (v := .agg (cells8 N2)) rfl rfl (fun u hS => exec_loadG (g := c3_20) (cs := cells8 N2) hS rWide _ rfl rfl (by repeat (first | exact List.mem_cons_self | apply List.mem_cons_of_mem)) rfl) ?_
  try go_simp
  refine plan_read (v := .agg (cells8 N3)) rfl rfl (fun u hS => exec_loadG (g := c3_21) (cs := cells8 N3) hS rWide _ rfl rfl (by repeat (first | exact List.mem_cons_self | apply List.mem_cons_of_mem)) rfl) ?_
  try go_simp
  refine plan_call (v := .agg (cells8 N12)) (f := 37) (args := #[.agg (cells8 N2), .agg (cells8 N3)]) rfl rfl (fun u hS => by go_simp) (fun u hS => (unhide h12 u).mono fun _ _ ⟨he, hb⟩ => ⟨he, hS.keep hb⟩) ?_
  try go_simp
  refine plan_read (v := .agg (cells8 N4)) rfl rfl (fun u hS => exec_loadG (g := c3_22) (cs := cells8 N4) hS rWide _ rfl rfl (by repeat (first | exact List.mem_cons_self | apply List.mem_cons_of_mem)) rfl) ?_
  try go_simp
  refine plan_read (v := .agg (cells8 N5)) rfl rfl (fun u hS => exec_loadG (g := c3_23) (cs := cells8 N5) hS rWide _ rfl rfl (by repeat (first | exact List.mem_cons_self | apply List.mem_cons_of_mem)) rfl) ?_
  try go_simp
  refine plan_call (v := .agg (cells8 N13)) (f := 37) (args := #[.agg (cells8 N4), .agg (cells8 N5)]) rfl rfl (fun u hS => by go_simp) (fun u hS => (unhide h13 u).mono fun _ _ ⟨he, hb⟩ => ⟨he, hS.keep hb⟩) ?_
  try go_simp
  refine plan_call (v := .agg (cells8 N14)) (f := 36) (args := #[.agg (cells8 N12), .agg (cells8 N13)]) rfl rfl (fun u hS => by go_simp) (fun u hS => (unhide h14 u).mono fun _ _ ⟨he, hb⟩ => ⟨he, hS.keep hb⟩) ?_
  try go_simp
  refine plan_read (v := .agg (cells8 N1)) rfl rfl (fun u hS => exec_loadG (g := g2) (cs := cells8 N1) hS rWide _ rfl rfl (by repeat (first | exact List.mem_cons_self | apply List.mem_cons_of_mem)) rfl) ?_
  try go_simp
  refine plan_call (v := .int .i64 (F 0)) (f := 35) (args := #[.agg (cells8 N14), .agg (cells8 N1)]) rfl rfl (fun u hS => by go_simp) (fun u hS => (unhide h15 u).mono fun _ _ ⟨he, hb⟩ => ⟨he, hS.keep hb⟩) ?_
  try go_simp
  refine plan_read (v := .pointer (some ⟨g6, 0, none⟩)) rfl rfl (fun u hS => by go_simp) ?_
  try go_simp
  refine plan_read (v := .pointer (some ⟨g6, 0, none⟩)) rfl rfl (fun u hS => exec_ix3 (k := 0) u (.tmp 81) (.const (.int .i64 0)) (by decide) rfl rfl rfl) ?_
  try go_simp
  refine plan_read (v := .pointer (some ⟨g6, 0, none⟩)) rfl rfl (fun u hS => by go_simp) ?_
  try go_simp
  refine plan_last (fun u7 hS => ?_)
  refine wp_store1 22 (.tmp 83) (.tmp 80) rfl rfl rfl (hS.blk (g := g6) (t := 29) (cs := m9 (pfc F 0)) (by repeat (first | exact List.mem_cons_self | apply List.mem_cons_of_mem))) (show 0 < 9 by decide) (by kernel_rfl) ?_
  have D := hide (hS.setPC (show 0 < 9 by decide) (unhide hw8) (unhide hl8))
  clear hS
  generalize u7.setCell _ _ = x7 at D ⊢
  go_simp
  go_upto_region 9 with fail
  refine region_last (S := Gen w _) (f := 9) (l := [0, 1, 2, 3, 4, 5, 6, 7, 8]) (by kernel_rfl) (by kernel_rfl) (by kernel_rfl) (by kernel_rfl) (by kernel_rfl) (by kernel_rfl) (by kernel_rfl) (by kernel_rfl) (by kernel_rfl) (by kernel_rfl) rfl rfl (unhide D).drew ?_
  clear D
  refine plan_read (v := .agg (cells8 N6)) rfl rfl (fun u hS => exec_loadG (g := c4_15) (cs := cells8 N6) hS rWide _ rfl rfl (by repeat (first | exact List.mem_cons_self | apply List.mem_cons_of_mem)) rfl) ?_
  try go_simp
  refine plan_read (v := .agg (cells8 N11)) rfl rfl (fun u hS => exec_loadG (g := c5_17) (cs := cells8 N11) hS rWide _ rfl rfl (by repeat (first | exact List.mem_cons_self | apply List.mem_cons_of_mem)) rfl) ?_
  try go_simp
  refine plan_call (v := .agg (cells8 N15)) (f := 36) (args := #[.agg (cells8 N6), .agg (cells8 N11)]) rfl rfl (fun u hS => by go_simp) (fun u hS => (unhide h16 u).mono fun _ _ ⟨he, hb⟩ => ⟨he, hS.keep hb⟩) ?_
  try go_simp
  refine plan_call (v := .agg (cells8 N16)) (f := 38) (args := #[.agg (cells8 N15), .int .i64 1]) rfl rfl (fun u hS => by go_simp) (fun u hS => (unhide h17 u).mono fun _ _ ⟨he, hb⟩ => ⟨he, hS.keep hb⟩) ?_
  try go_simp
  refine plan_read (v := .agg (cells8 N1)) rfl rfl (fun u hS => exec_loadG (g := g2) (cs := cells8 N1) hS rWide _ rfl rfl (by repeat (first | exact List.mem_cons_self | apply List.mem_cons_of_mem)) rfl) ?_
  try go_simp
  refine plan_call (v := .int .i64 (F 1)) (f := 35) (args := #[.agg (cells8 N16), .agg (cells8 N1)]) rfl rfl (fun u hS => by go_simp) (fun u hS => (unhide h18 u).mono fun _ _ ⟨he, hb⟩ => ⟨he, hS.keep hb⟩) ?_
  try go_simp
  refine plan_read (v := .pointer (some ⟨g6, 0, none⟩)) rfl rfl (fun u hS => by go_simp) ?_
  try go_simp
  refine plan_read (v := .pointer (some ⟨g6, 0, none⟩)) rfl rfl (fun u hS => exec_ix3 (k := 0) u (.tmp 90) (.const (.int .i64 0)) (by decide) rfl rfl rfl) ?_
  try go_simp
  refine plan_read (v := .pointer (some ⟨g6, 1, none⟩)) rfl rfl (fun u hS => by go_simp) ?_
  try go_simp
  refine plan_last (fun u8 hS => ?_)
  refine wp_store1 22 (.tmp 92) (.tmp 89) rfl rfl rfl (hS.blk (g := g6) (t := 29) (cs := m9 (pfc F 1)) (by repeat (first | exact List.mem_cons_self | apply List.mem_cons_of_mem))) (show 1 < 9 by decide) (by kernel_rfl) ?_
  have D := hide (hS.setPC (show 1 < 9 by decide) (unhide hw8) (unhide hl8))
  clear hS
  generalize u8.setCell _ _ = x8 at D ⊢
  go_simp
  go_upto_region 10 with fail
  refine region_last (S := Gen w _) (f := 9) (l := [0, 1, 2, 3, 4, 5, 6, 7, 8]) (by kernel_rfl) (by kernel_rfl) (by kernel_rfl) (by kernel_rfl) (by kernel_rfl) (by kernel_rfl) (by kernel_rfl) (by kernel_rfl) (by kernel_rfl) (by kernel_rfl) rfl rfl (unhide D).drew ?_
  clear D
  refine plan_read (v := .agg (cells8 N7)) rfl rfl (fun u hS => exec_loadG (g := c4_16) (cs := cells8 N7) hS rWide _ rfl rfl (by repeat (first | exact List.mem_cons_self | apply List.mem_cons_of_mem)) rfl) ?_
  try go_simp
  refine plan_read (v := .agg (cells8 N10)) rfl rfl (fun u hS => exec_loadG (g := c5_16) (cs := cells8 N10) hS rWide _ rfl rfl (by repeat (first | exact List.mem_cons_self | apply List.mem_cons_of_mem)) rfl) ?_
  try go_simp
  refine plan_call (v := .agg (cells8 N17)) (f := 37) (args := #[.agg (cells8 N7), .agg (cells8 N10)]) rfl rfl (fun u hS => by go_simp) (fun u hS => (unhide h19 u).mono fun _ _ ⟨he, hb⟩ => ⟨he, hS.keep hb⟩) ?_
  try go_simp
  refine plan_call (v := .agg (cells8 N18)) (f := 38) (args := #[.agg (cells8 N17), .int .i64 1]) rfl rfl (fun u hS => by go_simp) (fun u hS => (unhide h20 u).mono fun _ _ ⟨he, hb⟩ => ⟨he, hS.keep hb⟩) ?_
  try go_simp
  refine plan_read (v := .agg (cells8 N1)) rfl rfl (fun u hS => exec_loadG (g := g2) (cs := cells8 N1) hS rWide _ rfl rfl (by repeat (first | exact List.mem_cons_self | apply List.mem_cons_of_mem)) rfl) ?_
  try go_simp
  refine plan_call (v := .int .i64 (F 2)) (f := 35) (args := #[.agg (cells8 N18), .agg (cells8 N1)]) rfl rfl (fun u hS => by go_simp) (fun u hS => (unhide h21 u).mono fun _ _ ⟨he, hb⟩ => ⟨he, hS.keep hb⟩) ?_
  try go_simp
  refine plan_read (v := .pointer (some ⟨g6, 0, none⟩)) rfl rfl (fun u hS => by go_simp) ?_
  try go_simp
  refine plan_read (v := .pointer (some ⟨g6, 0, none⟩)) rfl rfl (fun u hS => exec_ix3 (k := 0) u (.tmp 99) (.const (.int .i64 0)) (by decide) rfl rfl rfl) ?_
  try go_simp
  refine plan_read (v := .pointer (some ⟨g6, 2, none⟩)) rfl rfl (fun u hS => by go_simp) ?_
  try go_simp
  refine plan_last (fun u9 hS => ?_)
  refine wp_store1 22 (.tmp 101) (.tmp 98) rfl rfl rfl (hS.blk (g := g6) (t := 29) (cs := m9 (pfc F 2)) (by repeat (first | exact List.mem_cons_self | apply List.mem_cons_of_mem))) (show 2 < 9 by decide) (by kernel_rfl) ?_
  have D := hide (hS.setPC (show 2 < 9 by decide) (unhide hw8) (unhide hl8))
  clear hS
  generalize u9.setCell _ _ = x9 at D ⊢
  go_simp
  go_upto_region 11 with fail
  refine region_last (S := Gen w _) (f := 9) (l := [0, 1, 2, 3, 4, 5, 6, 7, 8]) (by kernel_rfl) (by kernel_rfl) (by kernel_rfl) (by kernel_rfl) (by kernel_rfl) (by kernel_rfl) (by kernel_rfl) (by kernel_rfl) (by kernel_rfl) (by kernel_rfl) rfl rfl (unhide D).drew ?_
  clear D
  refine plan_read (v := .agg (cells8 N6)) rfl rfl (fun u hS => exec_loadG (g := c4_15) (cs := cells8 N6) hS rWide _ rfl rfl (by repeat (first | exact List.mem_cons_self | apply List.mem_cons_of_mem)) rfl) ?_
  try go_simp
  refine plan_read (v := .agg (cells8 N11)) rfl rfl (fun u hS => exec_loadG (g := c5_17) (cs := cells8 N11) hS rWide _ rfl rfl (by repeat (first | exact List.mem_cons_self | apply List.mem_cons_of_mem)) rfl) ?_
  try go_simp
  refine plan_call (v := .agg (cells8 N19)) (f := 37) (args := #[.agg (cells8 N6), .agg (cells8 N11)]) rfl rfl (fun u hS => by go_simp) (fun u hS => (unhide h22 u).mono fun _ _ ⟨he, hb⟩ => ⟨he, hS.keep hb⟩) ?_
  try go_simp
  refine plan_call (v := .agg (cells8 N20)) (f := 38) (args := #[.agg (cells8 N19), .int .i64 1]) rfl rfl (fun u hS => by go_simp) (fun u hS => (unhide h23 u).mono fun _ _ ⟨he, hb⟩ => ⟨he, hS.keep hb⟩) ?_
  try go_simp
  refine plan_read (v := .agg (cells8 N1)) rfl rfl (fun u hS => exec_loadG (g := g2) (cs := cells8 N1) hS rWide _ rfl rfl (by repeat (first | exact List.mem_cons_self | apply List.mem_cons_of_mem)) rfl) ?_
  try go_simp
  refine plan_call (v := .int .i64 (F 3)) (f := 35) (args := #[.agg (cells8 N20), .agg (cells8 N1)]) rfl rfl (fun u hS => by go_simp) (fun u hS => (unhide h24 u).mono fun _ _ ⟨he, hb⟩ => ⟨he, hS.keep hb⟩) ?_
  try go_simp
  refine plan_read (v := .pointer (some ⟨g6, 0, none⟩)) rfl rfl (fun u hS => by go_simp) ?_
  try go_simp
  refine plan_read (v := .pointer (some ⟨g6, 3, none⟩)) rfl rfl (fun u hS => exec_ix3 (k := 1) u (.tmp 108) (.const (.int .i64 1)) (by decide) rfl rfl rfl) ?_
  try go_simp
  refine plan_read (v := .pointer (some ⟨g6, 3, none⟩)) rfl rfl (fun u hS => by go_simp) ?_
  try go_simp
  refine plan_last (fun u10 hS => ?_)
  refine wp_store1 22 (.tmp 110) (.tmp 107) rfl rfl rfl (hS.blk (g := g6) (t := 29) (cs := m9 (pfc F 3)) (by repeat (first | exact List.mem_cons_self | apply List.mem_cons_of_mem))) (show 3 < 9 by decide) (by kernel_rfl) ?_
  have D := hide (hS.setPC (show 3 < 9 by decide) (unhide hw8) (unhide hl8))
  clear hS
  generalize u10.setCell _ _ = x10 at D ⊢
  go_simp
  go_upto_region 12 with fail
  refine region_last (S := Gen w _) (f := 12) (l := [0, 1, 2, 3, 4, 5, 6, 7, 8, 9, 10, 11]) (by kernel_rfl) (by kernel_rfl) (by kernel_rfl) (by kernel_rfl) (by kernel_rfl) (by kernel_rfl) (by kernel_rfl) (by kernel_rfl) (by kernel_rfl) (by kernel_rfl) rfl rfl (unhide D).drew ?_
  clear D
  refine plan_read (v := .agg (cells8 N2)) rfl rfl (fun u hS => exec_loadG (g := c3_20) (cs := cells8 N2) hS rWide _ rfl rfl (by repeat (first | exact List.mem_cons_self | apply List.mem_cons_of_mem)) rfl) ?_
  try go_simp
  refine plan_read (v := .agg (cells8 N4)) rfl rfl (fun u hS => exec_loadG (g := c3_22) (cs := cells8 N4) hS rWide _ rfl rfl (by repeat (first | exact List.mem_cons_self | apply List.mem_cons_of_mem)) rfl) ?_
  try go_simp
  refine plan_call (v := .agg (cells8 N21)) (f := 37) (args := #[.agg (cells8 N2), .agg (cells8 N4)]) rfl rfl (fun u hS => by go_simp) (fun u hS => (unhide h25 u).mono fun _ _ ⟨he, hb⟩ => ⟨he, hS.keep hb⟩) ?_
  try go_simp
  refine plan_read (v := .agg (cells8 N3)) rfl rfl (fun u hS => exec_loadG (g := c3_21) (cs := cells8 N3) hS rWide _ rfl rfl (by repeat (first | exact List.mem_cons_self | apply List.mem_cons_of_mem)) rfl) ?_
  try go_simp
  refine plan_read (v := .agg (cells8 N5)) rfl rfl (fun u hS => exec_loadG (g := c3_23) (cs := cells8 N5) hS rWide _ rfl rfl (by repeat (first | exact List.mem_cons_self | apply List.mem_cons_of_mem)) rfl) ?_
  try go_simp
  refine plan_call (v := .agg (cells8 N22)) (f := 37) (args := #[.agg (cells8 N3), .agg (cells8 N5)]) rfl rfl (fun u hS => by go_simp) (fun u hS => (unhide h26 u).mono fun _ _ ⟨he, hb⟩ => ⟨he, hS.keep hb⟩) ?_
  try go_simp
  refine plan_call (v := .agg (cells8 N23)) (f := 36) (args := #[.agg (cells8 N21), .agg (cells8 N22)]) rfl rfl (fun u hS => by go_simp) (fun u hS => (unhide h27 u).mono fun _ _ ⟨he, hb⟩ => ⟨he, hS.keep hb⟩) ?_
  try go_simp
  refine plan_read (v := .agg (cells8 N1)) rfl rfl (fun u hS => exec_loadG (g := g2) (cs := cells8 N1) hS rWide _ rfl rfl (by repeat (first | exact List.mem_cons_self | apply List.mem_cons_of_mem)) rfl) ?_
  try go_simp
  refine plan_call (v := .int .i64 (F 4)) (f := 35) (args := #[.agg (cells8 N23), .agg (cells8 N1)]) rfl rfl (fun u hS => by go_simp) (fun u hS => (unhide h28 u).mono fun _ _ ⟨he, hb⟩ => ⟨he, hS.keep hb⟩) ?_
  try go_simp
  refine plan_read (v := .pointer (some ⟨g6, 0, none⟩)) rfl rfl (fun u hS => by go_simp) ?_
  try go_simp
  refine plan_read (v := .pointer (some ⟨g6, 3, none⟩)) rfl rfl (fun u hS => exec_ix3 (k := 1) u (.tmp 120) (.const (.int .i64 1)) (by decide) rfl rfl rfl) ?_
  try go_simp
  refine plan_read (v := .pointer (some ⟨g6, 4, none⟩)) rfl rfl (fun u hS => by go_simp) ?_
  try go_simp
  refine plan_last (fun u11 hS => ?_)
  refine wp_store1 22 (.tmp 122) (.tmp 119) rfl rfl rfl (hS.blk (g := g6) (t := 29) (cs := m9 (pfc F 4)) (by repeat (first | exact List.mem_cons_self | apply List.mem_cons_of_mem))) (show 4 < 9 by decide) (by kernel_rfl) ?_
  have D := hide (hS.setPC (show 4 < 9 by decide) (unhide hw8) (unhide hl8))
  clear hS
  generalize u11.setCell _ _ = x11 at D ⊢
  go_simp
  go_upto_region 13 with fail
  refine region_last (S := Gen w _) (f := 9) (l := [0, 1, 2, 3, 4, 5, 6, 7, 8]) (by kernel_rfl) (by kernel_rfl) (by kernel_rfl) (by kernel_rfl) (by kernel_rfl) (by kernel_rfl) (by kernel_rfl) (by kernel_rfl) (by kernel_rfl) (by kernel_rfl) rfl rfl (unhide D).drew ?_
  clear D
  refine plan_read (v := .agg (cells8 N8)) rfl rfl (fun u hS => exec_loadG (g := c4_17) (cs := cells8 N8) hS rWide _ rfl rfl (by repeat (first | exact List.mem_cons_self | apply List.mem_cons_of_mem)) rfl) ?_
  try go_simp
  refine plan_read (v := .agg (cells8 N9)) rfl rfl (fun u hS => exec_loadG (g := c5_15) (cs := cells8 N9) hS rWide _ rfl rfl (by repeat (first | exact List.mem_cons_self | apply List.mem_cons_of_mem)) rfl) ?_
  try go_simp
  refine plan_call (v := .agg (cells8 N24)) (f := 36) (args := #[.agg (cells8 N8), .agg (cells8 N9)]) rfl rfl (fun u hS => by go_simp) (fun u hS => (unhide h29 u).mono fun _ _ ⟨he, hb⟩ => ⟨he, hS.keep hb⟩) ?_
  try go_simp
  refine plan_call (v := .agg (cells8 N25)) (f := 38) (args := #[.agg (cells8 N24), .int .i64 1]) rfl rfl (fun u hS => by go_simp) (fun u hS => (unhide h30 u).mono fun _ _ ⟨he, hb⟩ => ⟨he, hS.keep hb⟩) ?_
  try go_simp
  refine plan_read (v := .agg (cells8 N1)) rfl rfl (fun u hS => exec_loadG (g := g2) (cs := cells8 N1) hS rWide _ rfl rfl (by repeat (first | exact List.mem_cons_self | apply List.mem_cons_of_mem)) rfl) ?_
  try go_simp
  refine plan_call (v := .int .i64 (F 5)) (f := 35) (args := #[.agg (cells8 N25), .agg (cells8 N1)]) rfl rfl (fun u hS => by go_simp) (fun u hS => (unhide h31 u).mono fun _ _ ⟨he, hb⟩ => ⟨he, hS.keep hb⟩) ?_
  try go_simp
  refine plan_read (v := .pointer (some ⟨g6, 0, none⟩)) rfl rfl (fun u hS => by go_simp) ?_
  try go_simp
  refine plan_read (v := .pointer (some ⟨g6, 3, none⟩)) rfl rfl (fun u hS => exec_ix3 (k := 1) u (.tmp 129) (.const (.int .i64 1)) (by decide) rfl rfl rfl) ?_
  try go_simp
  refine plan_read (v := .pointer (some ⟨g6, 5, none⟩)) rfl rfl (fun u hS => by go_simp) ?_
  try go_simp
  refine plan_last (fun u12 hS => ?_)
  refine wp_store1 22 (.tmp 131) (.tmp 128) rfl rfl rfl (hS.blk (g := g6) (t := 29) (cs := m9 (pfc F 5)) (by repeat (first | exact List.mem_cons_self | apply List.mem_cons_of_mem))) (show 5 < 9 by decide) (by kernel_rfl) ?_
  have D := hide (hS.setPC (show 5 < 9 by decide) (unhide hw8) (unhide hl8))
  clear hS
  generalize u12.setCell _ _ = x12 at D ⊢
  go_simp
  go_upto_region 14 with fail
  refine region_last (S := Gen w _) (f := 9) (l := [0, 1, 2, 3, 4, 5, 6, 7, 8]) (by kernel_rfl) (by kernel_rfl) (by kernel_rfl) (by kernel_rfl) (by kernel_rfl) (by kernel_rfl) (by kernel_rfl) (by kernel_rfl) (by kernel_rfl) (by kernel_rfl) rfl rfl (unhide D).drew ?_
  clear D
  refine plan_read (v := .agg (cells8 N7)) rfl rfl (fun u hS => exec_loadG (g := c4_16) (cs := cells8 N7) hS rWide _ rfl rfl (by repeat (first | exact List.mem_cons_self | apply List.mem_cons_of_mem)) rfl) ?_
  try go_simp
  refine plan_read (v := .agg (cells8 N10)) rfl rfl (fun u hS => exec_loadG (g := c5_16) (cs := cells8 N10) hS rWide _ rfl rfl (by repeat (first | exact List.mem_cons_self | apply List.mem_cons_of_mem)) rfl) ?_
  try go_simp
  refine plan_call (v := .agg (cells8 N26)) (f := 36) (args := #[.agg (cells8 N7), .agg (cells8 N10)]) rfl rfl (fun u hS => by go_simp) (fun u hS => (unhide h32 u).mono fun _ _ ⟨he, hb⟩ => ⟨he, hS.keep hb⟩) ?_
  try go_simp
  refine plan_call (v := .agg (cells8 N27)) (f := 38) (args := #[.agg (cells8 N26), .int .i64 1]) rfl rfl (fun u hS => by go_simp) (fun u hS => (unhide h33 u).mono fun _ _ ⟨he, hb⟩ => ⟨he, hS.keep hb⟩) ?_
  try go_simp
  refine plan_read (v := .agg (cells8 N1)) rfl rfl (fun u hS => exec_loadG (g := g2) (cs := cells8 N1) hS rWide _ rfl rfl (by repeat (first | exact List.mem_cons_self | apply List.mem_cons_of_mem)) rfl) ?_
  try go_simp
  refine plan_call (v := .int .i64 (F 6)) (f := 35) (args := #[.agg (cells8 N27), .agg (cells8 N1)]) rfl rfl (fun u hS => by go_simp) (fun u hS => (unhide h34 u).mono fun _ _ ⟨he, hb⟩ => ⟨he, hS.keep hb⟩) ?_
  try go_simp
  refine plan_read (v := .pointer (some ⟨g6, 0, none⟩)) rfl rfl (fun u hS => by go_simp) ?_
  try go_simp
  refine plan_read (v := .pointer (some ⟨g6, 6, none⟩)) rfl rfl (fun u hS => exec_ix3 (k := 2) u (.tmp 138) (.const (.int .i64 2)) (by decide) rfl rfl rfl) ?_
  try go_simp
  refine plan_read (v := .pointer (some ⟨g6, 6, none⟩)) rfl rfl (fun u hS => by go_simp) ?_
  try go_simp
  refine plan_last (fun u13 hS => ?_)
  refine wp_store1 22 (.tmp 140) (.tmp 137) rfl rfl rfl (hS.blk (g := g6) (t := 29) (cs := m9 (pfc F 6)) (by repeat (first | exact List.mem_cons_self | apply List.mem_cons_of_mem))) (show 6 < 9 by decide) (by kernel_rfl) ?_
  have D := hide (hS.setPC (show 6 < 9 by decide) (unhide hw8) (unhide hl8))
  clear hS
  generalize u13.setCell _ _ = x13 at D ⊢
  go_simp
  go_upto_region 15 with fail
  refine region_last (S := Gen w _) (f := 9) (l := [0, 1, 2, 3, 4, 5, 6, 7, 8]) (by kernel_rfl) (by kernel_rfl) (by kernel_rfl) (by kernel_rfl) (by kernel_rfl) (by kernel_rfl) (by kernel_rfl) (by kernel_rfl) (by kernel_rfl) (by kernel_rfl) rfl rfl (unhide D).drew ?_
  clear D
  refine plan_read (v := .agg (cells8 N8)) rfl rfl (fun u hS => exec_loadG (g := c4_17) (cs := cells8 N8) hS rWide _ rfl rfl (by repeat (first | exact List.mem_cons_self | apply List.mem_cons_of_mem)) rfl) ?_
  try go_simp
  refine plan_read (v := .agg (cells8 N9)) rfl rfl (fun u hS => exec_loadG (g := c5_15) (cs := cells8 N9) hS rWide _ rfl rfl (by repeat (first | exact List.mem_cons_self | apply List.mem_cons_of_mem)) rfl) ?_
  try go_simp
  refine plan_call (v := .agg (cells8 N28)) (f := 37) (args := #[.agg (cells8 N8), .agg (cells8 N9)]) rfl rfl (fun u hS => by go_simp) (fun u hS => (unhide h35 u).mono fun _ _ ⟨he, hb⟩ => ⟨he, hS.keep hb⟩) ?_
  try go_simp
  refine plan_call (v := .agg (cells8 N29)) (f := 38) (args := #[.agg (cells8 N28), .int .i64 1]) rfl rfl (fun u hS => by go_simp) (fun u hS => (unhide h36 u).mono fun _ _ ⟨he, hb⟩ => ⟨he, hS.keep hb⟩) ?_
  try go_simp
  refine plan_read (v := .agg (cells8 N1)) rfl rfl (fun u hS => exec_loadG (g := g2) (cs := cells8 N1) hS rWide _ rfl rfl (by repeat (first | exact List.mem_cons_self | apply List.mem_cons_of_mem)) rfl) ?_
  try go_simp
  refine plan_call (v := .int .i64 (F 7)) (f := 35) (args := #[.agg (cells8 N29), .agg (cells8 N1)]) rfl rfl (fun u hS => by go_simp) (fun u hS => (unhide h37 u).mono fun _ _ ⟨he, hb⟩ => ⟨he, hS.keep hb⟩) ?_
  try go_simp
  refine plan_read (v := .pointer (some ⟨g6, 0, none⟩)) rfl rfl (fun u hS => by go_simp) ?_
  try go_simp
  refine plan_read (v := .pointer (some ⟨g6, 6, none⟩)) rfl rfl (fun u hS => exec_ix3 (k := 2) u (.tmp 147) (.const (.int .i64 2)) (by decide) rfl rfl rfl) ?_
  try go_simp
  refine plan_read (v := .pointer (some ⟨g6, 7, none⟩)) rfl rfl (fun u hS => by go_simp) ?_
  try go_simp
  refine plan_last (fun u14 hS => ?_)
  refine wp_store1 22 (.tmp 149) (.tmp 146) rfl rfl rfl (hS.blk (g := g6) (t := 29) (cs := m9 (pfc F 7)) (by repeat (first | exact List.mem_cons_self | apply List.mem_cons_of_mem))) (show 7 < 9 by decide) (by kernel_rfl) ?_
  have D := hide (hS.setPC (show 7 < 9 by decide) (unhide hw8) (unhide hl8))
  clear hS
  generalize u14.setCell _ _ = x14 at D ⊢
  go_simp
  go_upto_region 16 with fail
  refine region_last (S := Gen w _) (f := 12) (l := [0, 1, 2, 3, 4, 5, 6, 7, 8, 9, 10, 11]) (by kernel_rfl) (by kernel_rfl) (by kernel_rfl) (by kernel_rfl) (by kernel_rfl) (by kernel_rfl) (by kernel_rfl) (by kernel_rfl) (by kernel_rfl) (by kernel_rfl) rfl rfl (unhide D).drew ?_
  clear D
  refine plan_read (v := .agg (cells8 N2)) rfl rfl (fun u hS => exec_loadG (g := c3_20) (cs := cells8 N2) hS rWide _ rfl rfl (by repeat (first | exact List.mem_cons_self | apply List.mem_cons_of_mem)) rfl) ?_
  try go_simp
  refine plan_read (v := .agg (cells8 N5)) rfl rfl (fun u hS => exec_loadG (g := c3_23) (cs := cells8 N5) hS rWide _ rfl rfl (by repeat (first | exact List.mem_cons_self | apply List.mem_cons_of_mem)) rfl) ?_
  try go_simp
  refine plan_call (v := .agg (cells8 N30)) (f := 37) (args := #[.agg (cells8 N2), .agg (cells8 N5)]) rfl rfl (fun u hS => by go_simp) (fun u hS => (unhide h38 u).mono fun _ _ ⟨he, hb⟩ => ⟨he, hS.keep hb⟩) ?_
  try go_simp
  refine plan_read (v := .agg (cells8 N3)) rfl rfl (fun u hS => exec_loadG (g := c3_21) (cs := cells8 N3) hS rWide _ rfl rfl (by repeat (first | exact List.mem_cons_self | apply List.mem_cons_of_mem)) rfl) ?_
  try go_simp
  refine plan_read (v := .agg (cells8 N4)) rfl rfl (fun u hS => exec_loadG (g := c3_22) (cs := cells8 N4) hS rWide _ rfl rfl (by repeat (first | exact List.mem_cons_self | apply List.mem_cons_of_mem)) rfl) ?_
  try go_simp
  refine plan_call (v := .agg (cells8 N31)) (f := 37) (args := #[.agg (cells8 N3), .agg (cells8 N4)]) rfl rfl (fun u hS => by go_simp) (fun u hS => (unhide h39 u).mono fun _ _ ⟨he, hb⟩ => ⟨he, hS.keep hb⟩) ?_
  try go_simp
  refine plan_call (v := .agg (cells8 N32)) (f := 36) (args := #[.agg (cells8 N30), .agg (cells8 N31)]) rfl rfl (fun u hS => by go_simp) (fun u hS => (unhide h40 u).mono fun _ _ ⟨he, hb⟩ => ⟨he, hS.keep hb⟩) ?_
  try go_simp
  refine plan_read (v := .agg (cells8 N1)) rfl rfl (fun u hS => exec_loadG (g := g2) (cs := cells8 N1) hS rWide _ rfl rfl (by repeat (first | exact List.mem_cons_self | apply List.mem_cons_of_mem)) rfl) ?_
  try go_simp
  refine plan_call (v := .int .i64 (F 8)) (f := 35) (args := #[.agg (cells8 N32), .agg (cells8 N1)]) rfl rfl (fun u hS => by go_simp) (fun u hS => (unhide h41 u).mono fun _ _ ⟨he, hb⟩ => ⟨he, hS.keep hb⟩) ?_
  try go_simp
  refine plan_read (v := .pointer (some ⟨g6, 0, none⟩)) rfl rfl (fun u hS => by go_simp) ?_
  try go_simp
  refine plan_read (v := .pointer (some ⟨g6, 6, none⟩)) rfl rfl (fun u hS => exec_ix3 (k := 2) u (.tmp 159) (.const (.int .i64 2)) (by decide) rfl rfl rfl) ?_
  try go_simp
  refine plan_read (v := .pointer (some ⟨g6, 8, none⟩)) rfl rfl (fun u hS => by go_simp) ?_
  try go_simp
  refine plan_last (fun u15 hS => ?_)
  refine wp_store1 22 (.tmp 161) (.tmp 158) rfl rfl rfl (hS.blk (g := g6) (t := 29) (cs := m9 (pfc F 8)) (by repeat (first | exact List.mem_cons_self | apply List.mem_cons_of_mem))) (show 8 < 9 by decide) (by kernel_rfl) ?_
  have D := hide (hS.setPC (show 8 < 9 by decide) (unhide hw8) (unhide hl8))
  clear hS
  generalize u15.setCell _ _ = x15 at D ⊢
  go_simp
  go_upto_region 17 with fail
  refine list_start (S := Gen w _) (unhide D) ?_
  clear D
  refine list_read (v := .agg (m9 (pfc F 9))) rfl rfl (fun u hS => exec_loadG (g := g6) (cs := m9 (pfc F 9)) hS rMat _ rfl rfl (by repeat (first | exact List.mem_cons_self | apply List.mem_cons_of_mem)) rfl) ?_
  try go_simp
  intro u16 hS
  have D := hide hS
  clear hS
  go_wp2_with (first | (with_reducible refine at_list ?_; apply stGend (unhide D) rMat _ _ rfl rfl rfl rfl (by repeat (first | exact List.mem_cons_self | apply List.mem_cons_of_mem)) (by omega) rfl rfl (m9_one _); intro B O))
  exact resGT rMat (unhide B) rfl rfl rfl rfl rfl ⟨rfl, unhide O⟩

end Go.Proofs.YtikmjfepflaokaaDoor

namespace Go.Proofs.YtikmjfepflaokaaDoor
open Go.RowKit
set_option maxRecDepth 4000
set_option linter.unusedVariables false

theorem ByAs {n d v : Int} (hn : Sz 300 n) (hd : Sz 300 d) (h0 : d ≠ 0) (e : quo n d = v) : Ans 35 #[V n, V d] (.int .i64 v) := e ▸ By5 n d hn hd h0
theorem Double5 {k : Nat} {x : Int} (hx : Sz k x) (hk : k ≤ 300) : Ans 38 #[V x, .int .i64 1] (V (x * 2)) :=
  TwiceAs (n := 1) (hx.fit (by omega)) (by decide) rfl ((hx.mul (show Sz 1 2 by unfold Sz; decide)).fit (by omega))
theorem trn5_0 (a b c d : Int) : trn a b c d 24 0 = 0 + a * a * 1 + b * b * 1 + c * c * -1 + d * d * -1 := rfl
theorem trn5_1 (a b c d : Int) : trn a b c d 24 1 = 0 + b * c * 2 + a * d * -2 := rfl
theorem trn5_2 (a b c d : Int) : trn a b c d 24 2 = 0 + b * d * 2 + a * c * 2 := rfl
theorem trn5_3 (a b c d : Int) : trn a b c d 24 3 = 0 + b * c * 2 + a * d * 2 := rfl
theorem trn5_4 (a b c d : Int) : trn a b c d 24 4 = 0 + a * a * 1 + b * b * -1 + c * c * 1 + d * d * -1 := rfl
theorem trn5_5 (a b c d : Int) : trn a b c d 24 5 = 0 + c * d * 2 + a * b * -2 := rfl
theorem trn5_6 (a b c d : Int) : trn a b c d 24 6 = 0 + b * d * 2 + a * c * -2 := rfl
theorem trn5_7 (a b c d : Int) : trn a b c d 24 7 = 0 + c * d * 2 + a * b * 2 := rfl
theorem trn5_8 (a b c d : Int) : trn a b c d 24 8 = 0 + a * a * 1 + b * b * -1 + c * c * -1 + d * d * 1 := rfl
theorem MatrixNo5 (q0 q1 q2 q3 : Int) (h0 : I64 q0) (h1 : I64 q1) (h2 : I64 q2) (h3 : I64 q3) (hc : chk (sq4 q0 q1 q2 q3) = 9) : Ans 11 #[.agg (q4 q0 q1 q2 q3)] (.tuple #[.agg zM, .int .i64 9]) := fun w => by
  have hK := Check5 q0 q1 q2 q3 h0 h1 h2 h3
  rw [hc] at hK
  exact rmatrix5_no q0 q1 q2 q3 w hK
set_option maxHeartbeats 4000000 in
theorem Matrix5 (q0 q1 q2 q3 : Int) (h0 : I64 q0) (h1 : I64 q1) (h2 : I64 q2) (h3 : I64 q3) (hc : chk (sq4 q0 q1 q2 q3) = 0) : Ans 11 #[.agg (q4 q0 q1 q2 q3)] (.tuple #[.agg (m9 (matQ q0 q1 q2 q3)), .int .i64 0]) := fun w => by
  have hs := (sq4_sz (n4_I64 h0 h1 h2 h3)).mono (show 130 ≤ 300 by decide)
  have hp : sq4 q0 q1 q2 q3 ≠ 0 := by have := chk_pos hc; omega
  have hK := Check5 q0 q1 q2 q3 h0 h1 h2 h3
  rw [hc] at hK
  have s00 := h0.sz.mul h0.sz
  have s11 := h1.sz.mul h1.sz
  have s22 := h2.sz.mul h2.sz
  have s33 := h3.sz.mul h3.sz
  have s12 := h1.sz.mul h2.sz
  have s13 := h1.sz.mul h3.sz
  have s23 := h2.sz.mul h3.sz
  have s01 := h0.sz.mul h1.sz
  have s02 := h0.sz.mul h2.sz
  have s03 := h0.sz.mul h3.sz
  exact rmatrix5_core q0 q1 q2 q3 (matQ q0 q1 q2 q3) w hK
    (Square5 q0 q1 q2 q3 h0 h1 h2 h3)
    (Mul5 q0 q0 h0 h0)
    (Mul5 q1 q1 h1 h1)
    (Mul5 q2 q2 h2 h2)
    (Mul5 q3 q3 h3 h3)
    (Mul5 q1 q2 h1 h2)
    (Mul5 q1 q3 h1 h3)
    (Mul5 q2 q3 h2 h3)
    (Mul5 q0 q1 h0 h1)
    (Mul5 q0 q2 h0 h2)
    (Mul5 q0 q3 h0 h3)
    (Plus3 s00 s11 (by decide))
    (Plus3 s22 s33 (by decide))
    (Less3 (s00.add s11) (s22.add s33) (by decide))
    (ByAs (n := q0 * q0 + q1 * q1 - (q2 * q2 + q3 * q3)) (((s00.add s11).sub (s22.add s33)).mono (by decide)) hs hp (congrArg (fun z => quo z (sq4 q0 q1 q2 q3)) (show q0 * q0 + q1 * q1 - (q2 * q2 + q3 * q3) = trn q0 q1 q2 q3 24 0 by rw [trn5_0]; omega)))
    (Less3 s12 s03 (by decide))
    (Double5 (s12.sub s03) (by decide))
    (ByAs (n := (q1 * q2 - q0 * q3) * 2) (((s12.sub s03).mul (show Sz 1 2 by unfold Sz; decide)).mono (by decide)) hs hp (congrArg (fun z => quo z (sq4 q0 q1 q2 q3)) (show (q1 * q2 - q0 * q3) * 2 = trn q0 q1 q2 q3 24 1 by rw [trn5_1]; omega)))
    (Plus3 s13 s02 (by decide))
    (Double5 (s13.add s02) (by decide))
    (ByAs (n := (q1 * q3 + q0 * q2) * 2) (((s13.add s02).mul (show Sz 1 2 by unfold Sz; decide)).mono (by decide)) hs hp (congrArg (fun z => quo z (sq4 q0 q1 q2 q3)) (show (q1 * q3 + q0 * q2) * 2 = trn q0 q1 q2 q3 24 2 by rw [trn5_2]; omega)))
    (Plus3 s12 s03 (by decide))
    (Double5 (s12.add s03) (by decide))
    (ByAs (n := (q1 * q2 + q0 * q3) * 2) (((s12.add s03).mul (show Sz 1 2 by unfold Sz; decide)).mono (by decide)) hs hp (congrArg (fun z => quo z (sq4 q0 q1 q2 q3)) (show (q1 * q2 + q0 * q3) * 2 = trn q0 q1 q2 q3 24 3 by rw [trn5_3]; omega)))
    (Plus3 s00 s22 (by decide))
    (Plus3 s11 s33 (by decide))
    (Less3 (s00.add s22) (s11.add s33) (by decide))
    (ByAs (n := q0 * q0 + q2 * q2 - (q1 * q1 + q3 * q3)) (((s00.add s22).sub (s11.add s33)).mono (by decide)) hs hp (congrArg (fun z => quo z (sq4 q0 q1 q2 q3)) (show q0 * q0 + q2 * q2 - (q1 * q1 + q3 * q3) = trn q0 q1 q2 q3 24 4 by rw [trn5_4]; omega)))
    (Less3 s23 s01 (by decide))
    (Double5 (s23.sub s01) (by decide))
    (ByAs (n := (q2 * q3 - q0 * q1) * 2) (((s23.sub s01).mul (show Sz 1 2 by unfold Sz; decide)).mono (by decide)) hs hp (congrArg (fun z => quo z (sq4 q0 q1 q2 q3)) (show (q2 * q3 - q0 * q1) * 2 = trn q0 q1 q2 q3 24 5 by rw [trn5_5]; omega)))
    (Less3 s13 s02 (by decide))
    (Double5 (s13.sub s02) (by decide))
    (ByAs (n := (q1 * q3 - q0 * q2) * 2) (((s13.sub s02).mul (show Sz 1 2 by unfold Sz; decide)).mono (by decide)) hs hp (congrArg (fun z => quo z (sq4 q0 q1 q2 q3)) (show (q1 * q3 - q0 * q2) * 2 = trn q0 q1 q2 q3 24 6 by rw [trn5_6]; omega)))
    (Plus3 s23 s01 (by decide))
    (Double5 (s23.add s01) (by decide))
    (ByAs (n := (q2 * q3 + q0 * q1) * 2) (((s23.add s01).mul (show Sz 1 2 by unfold Sz; decide)).mono (by decide)) hs hp (congrArg (fun z => quo z (sq4 q0 q1 q2 q3)) (show (q2 * q3 + q0 * q1) * 2 = trn q0 q1 q2 q3 24 7 by rw [trn5_7]; omega)))
    (Plus3 s00 s33 (by decide))
    (Plus3 s11 s22 (by decide))
    (Less3 (s00.add s33) (s11.add s22) (by decide))
    (ByAs (n := q0 * q0 + q3 * q3 - (q1 * q1 + q2 * q2)) (((s00.add s33).sub (s11.add s22)).mono (by decide)) hs hp (congrArg (fun z => quo z (sq4 q0 q1 q2 q3)) (show q0 * q0 + q3 * q3 - (q1 * q1 + q2 * q2) = trn q0 q1 q2 q3 24 8 by rw [trn5_8]; omega)))
set_option maxHeartbeats 4000000 in
theorem quatMatrix_yes (q0 q1 q2 q3 : Int) (F : Nat → Int) (TP TT : Array Value) (w : World) (hP : Tab 1 TP w) (hT : Tab 0 TT w) (h0 : Hid (∀ u, Tab 0 TT u → Calls Tryd.prog 10 #[.agg (q4 q0 q1 q2 q3)] u fun e w' => e = .returned (.tuple #[.agg (m9 F), .int .i64 0]) ∧ Below u.heap.size u w')) (h1 : Hid (Ans 11 #[.agg (q4 q0 q1 q2 q3)] (.tuple #[.agg (m9 F), .int .i64 0]))) (h2 : Hid (∀ u, Tab 1 TP u → Tab 0 TT u → Calls Tryd.prog 12 #[] u fun e w' => e = .returned (.bool true) ∧ Below u.heap.size u w')) : Calls Tryd.prog 3 #[.agg (q4 q0 q1 q2 q3)] w fun e w' => e = .returned (.bool true) ∧ Below w.heap.size w w' := by
  have hPlt := hP.lt
  have hTlt := hT.lt
  have HP := hide hP
  have HT := hide hT
  clear hP hT
  go_enter Tryd.func3, Tryd.ntmps3
  go_upto_region 1 with fail
  have D := hide (((Gen.start w).push 24 (q4 q0 q1 q2 q3)))
  refine list_start (S := Gen w _) (unhide D) ?_
  clear D
  refine list_read (v := .agg (q4 q0 q1 q2 q3)) rfl rfl (fun u hS => exec_loadG (g := w.heap.size) (cs := q4 q0 q1 q2 q3) hS rQuat _ rfl rfl (by repeat (first | exact List.mem_cons_self | apply List.mem_cons_of_mem)) rfl) ?_
  try go_simp
  refine list_call (v := .tuple #[.agg (m9 F), .int .i64 0]) (f := 10) (args := #[.agg (q4 q0 q1 q2 q3)]) rfl rfl (fun u hS => by go_simp) (fun u hS => (unhide h0 u ((unhide HT).below hS.o hTlt)).mono fun _ _ ⟨he, hb⟩ => ⟨he, hS.keep hb⟩) ?_
  try go_simp
  refine list_read (v := .tuple #[.agg (m9 F), .int .i64 0]) rfl rfl (fun u hS => by go_simp) ?_
  try go_simp
  refine list_read (v := .agg (m9 F)) rfl rfl (fun u hS => by go_simp) ?_
  try go_simp
  refine list_read (v := .int .i64 0) rfl rfl (fun u hS => by go_simp) ?_
  try go_simp
  intro u1 hS
  have D := hide hS
  clear hS
  go_upto_region 2 with (first | (with_reducible refine at_list ?_; refine stG (unhide D) rMat _ _ rfl rfl rfl rfl rfl rfl (m9_one _) ?_; intro D'; have D := hide D'; clear D'))
  generalize hz_g1 : u1.heap.size = g1 at *
  clear hz_g1
  refine list_start (S := Gen w _) (unhide D) ?_
  clear D
  refine list_read (v := .agg (q4 q0 q1 q2 q3)) rfl rfl (fun u hS => exec_loadG (g := w.heap.size) (cs := q4 q0 q1 q2 q3) hS rQuat _ rfl rfl (by repeat (first | exact List.mem_cons_self | apply List.mem_cons_of_mem)) rfl) ?_
  try go_simp
  refine list_call (v := .tuple #[.agg (m9 F), .int .i64 0]) (f := 11) (args := #[.agg (q4 q0 q1 q2 q3)]) rfl rfl (fun u hS => by go_simp) (fun u hS => (unhide h1 u).mono fun _ _ ⟨he, hb⟩ => ⟨he, hS.keep hb⟩) ?_
  try go_simp
  refine list_read (v := .tuple #[.agg (m9 F), .int .i64 0]) rfl rfl (fun u hS => by go_simp) ?_
  try go_simp
  refine list_read (v := .agg (m9 F)) rfl rfl (fun u hS => by go_simp) ?_
  try go_simp
  refine list_read (v := .int .i64 0) rfl rfl (fun u hS => by go_simp) ?_
  try go_simp
  intro u2 hS
  have D := hide hS
  clear hS
  go_upto_region 3 with (first | (with_reducible refine at_list ?_; refine stG (unhide D) rMat _ _ rfl rfl rfl rfl rfl rfl (m9_one _) ?_; intro D'; have D := hide D'; clear D'))
  generalize hz_g2 : u2.heap.size = g2 at *
  clear hz_g2
  refine list_start (S := Gen w _) (unhide D) ?_
  clear D
  refine list_read (v := .agg (m9 F)) rfl rfl (fun u hS => exec_loadG (g := g1) (cs := m9 F) hS rMat _ rfl rfl (by repeat (first | exact List.mem_cons_self | apply List.mem_cons_of_mem)) rfl) ?_
  try go_simp
  refine list_read (v := .agg (m9 F)) rfl rfl (fun u hS => exec_loadG (g := g2) (cs := m9 F) hS rMat _ rfl rfl (by repeat (first | exact List.mem_cons_self | apply List.mem_cons_of_mem)) rfl) ?_
  try go_simp
  refine list_read (v := .bool true) rfl rfl (fun u hS => exec_eql_mat _ _ _ (sameM_self _) rfl rfl rfl) ?_
  try go_simp
  refine list_read (v := .bool true) rfl rfl (fun u hS => by go_simp) ?_
  try go_simp
  refine list_read (v := .int .i64 0) rfl rfl (fun u hS => by go_simp) ?_
  try go_simp
  refine list_read (v := .int .i64 0) rfl rfl (fun u hS => by go_simp) ?_
  try go_simp
  refine list_read (v := .bool true) rfl rfl (fun u hS => by go_simp) ?_
  try go_simp
  refine list_read (v := .bool true) rfl rfl (fun u hS => by go_simp) ?_
  try go_simp
  refine list_read (v := .bool true) rfl rfl (fun u hS => by go_simp) ?_
  try go_simp
  refine list_call (v := .bool true) (f := 12) (args := #[]) rfl rfl (fun u hS => by go_simp) (fun u hS => (unhide h2 u ((unhide HP).below hS.o hPlt) ((unhide HT).below hS.o hTlt)).mono fun _ _ ⟨he, hb⟩ => ⟨he, hS.keep hb⟩) ?_
  try go_simp
  refine list_read (v := .bool true) rfl rfl (fun u hS => by go_simp) ?_
  try go_simp
  refine list_read (v := .bool true) rfl rfl (fun u hS => by go_simp) ?_
  try go_simp
  refine list_end (fun u3 hS => ?_)
  have D := hide hS
  clear hS
  go_wp2
  go_ret
  exact ⟨rfl, (unhide D).o⟩
set_option maxHeartbeats 4000000 in
theorem quatMatrix_no (q0 q1 q2 q3 : Int) (TP TT : Array Value) (w : World) (hP : Tab 1 TP w) (hT : Tab 0 TT w) (h0 : Hid (∀ u, Tab 0 TT u → Calls Tryd.prog 10 #[.agg (q4 q0 q1 q2 q3)] u fun e w' => e = .returned (.tuple #[.agg (zM), .int .i64 9]) ∧ Below u.heap.size u w')) (h1 : Hid (Ans 11 #[.agg (q4 q0 q1 q2 q3)] (.tuple #[.agg (zM), .int .i64 9]))) (h2 : Hid (∀ u, Tab 1 TP u → Tab 0 TT u → Calls Tryd.prog 12 #[] u fun e w' => e = .returned (.bool true) ∧ Below u.heap.size u w')) : Calls Tryd.prog 3 #[.agg (q4 q0 q1 q2 q3)] w fun e w' => e = .returned (.bool true) ∧ Below w.heap.size w w' := by
  have hPlt := hP.lt
  have hTlt := hT.lt
  have HP := hide hP
  have HT := hide hT
  clear hP hT
  go_enter Tryd.func3, Tryd.ntmps3
  go_upto_region 1 with fail
  have D := hide (((Gen.start w).push 24 (q4 q0 q1 q2 q3)))
  refine list_start (S := Gen w _) (unhide D) ?_
  clear D
  refine list_read (v := .agg (q4 q0 q1 q2 q3)) rfl rfl (fun u hS => exec_loadG (g := w.heap.size) (cs := q4 q0 q1 q2 q3) hS rQuat _ rfl rfl (by repeat (first | exact List.mem_cons_self | apply List.mem_cons_of_mem)) rfl) ?_
  try go_simp
  refine list_call (v := .tuple #[.agg (zM), .int .i64 9]) (f := 10) (args := #[.agg (q4 q0 q1 q2 q3)]) rfl rfl (fun u hS => by go_simp) (fun u hS => (unhide h0 u ((unhide HT).below hS.o hTlt)).mono fun _ _ ⟨he, hb⟩ => ⟨he, hS.keep hb⟩) ?_
  try go_simp
  refine list_read (v := .tuple #[.agg (zM), .int .i64 9]) rfl rfl (fun u hS => by go_simp) ?_
  try go_simp
  refine list_read (v := .agg (zM)) rfl rfl (fun u hS => by go_simp) ?_
  try go_simp
  refine list_read (v := .int .i64 9) rfl rfl (fun u hS => by go_simp) ?_
  try go_simp
  intro u1 hS
  have D := hide hS
  clear hS
  go_upto_region 2 with (first | (with_reducible refine at_list ?_; refine stG (unhide D) rMat _ _ rfl rfl rfl rfl rfl rfl (m9_one (fun _ => 0)) ?_; intro D'; have D := hide D'; clear D'))
  generalize hz_g1 : u1.heap.size = g1 at *
  clear hz_g1
  refine list_start (S := Gen w _) (unhide D) ?_
  clear D
  refine list_read (v := .agg (q4 q0 q1 q2 q3)) rfl rfl (fun u hS => exec_loadG (g := w.heap.size) (cs := q4 q0 q1 q2 q3) hS rQuat _ rfl rfl (by repeat (first | exact List.mem_cons_self | apply List.mem_cons_of_mem)) rfl) ?_
  try go_simp
  refine list_call (v := .tuple #[.agg (zM), .int .i64 9]) (f := 11) (args := #[.agg (q4 q0 q1 q2 q3)]) rfl rfl (fun u hS => by go_simp) (fun u hS => (unhide h1 u).mono fun _ _ ⟨he, hb⟩ => ⟨he, hS.keep hb⟩) ?_
  try go_simp
  refine list_read (v := .tuple #[.agg (zM), .int .i64 9]) rfl rfl (fun u hS => by go_simp) ?_
  try go_simp
  refine list_read (v := .agg (zM)) rfl rfl (fun u hS => by go_simp) ?_
  try go_simp
  refine list_read (v := .int .i64 9) rfl rfl (fun u hS => by go_simp) ?_
  try go_simp
  intro u2 hS
  have D := hide hS
  clear hS
  go_upto_region 3 with (first | (with_reducible refine at_list ?_; refine stG (unhide D) rMat _ _ rfl rfl rfl rfl rfl rfl (m9_one (fun _ => 0)) ?_; intro D'; have D := hide D'; clear D'))
  generalize hz_g2 : u2.heap.size = g2 at *
  clear hz_g2
  refine list_start (S := Gen w _) (unhide D) ?_
  clear D
  refine list_read (v := .agg (zM)) rfl rfl (fun u hS => exec_loadG (g := g1) (cs := zM) hS rMat _ rfl rfl (by repeat (first | exact List.mem_cons_self | apply List.mem_cons_of_mem)) rfl) ?_
  try go_simp
  refine list_read (v := .agg (zM)) rfl rfl (fun u hS => exec_loadG (g := g2) (cs := zM) hS rMat _ rfl rfl (by repeat (first | exact List.mem_cons_self | apply List.mem_cons_of_mem)) rfl) ?_
  try go_simp
  refine list_read (v := .bool true) rfl rfl (fun u hS => exec_eql_mat _ _ _ (sameM_self (fun _ => 0)) rfl rfl rfl) ?_
  try go_simp
  refine list_read (v := .bool true) rfl rfl (fun u hS => by go_simp) ?_
  try go_simp
  refine list_read (v := .int .i64 9) rfl rfl (fun u hS => by go_simp) ?_
  try go_simp
  refine list_read (v := .int .i64 9) rfl rfl (fun u hS => by go_simp) ?_
  try go_simp
  refine list_read (v := .bool true) rfl rfl (fun u hS => by go_simp) ?_
  try go_simp
  refine list_read (v := .bool true) rfl rfl (fun u hS => by go_simp) ?_
  try go_simp
  refine list_read (v := .bool true) rfl rfl (fun u hS => by go_simp) ?_
  try go_simp
  refine list_call (v := .bool true) (f := 12) (args := #[]) rfl rfl (fun u hS => by go_simp) (fun u hS => (unhide h2 u ((unhide HP).below hS.o hPlt) ((unhide HT).below hS.o hTlt)).mono fun _ _ ⟨he, hb⟩ => ⟨he, hS.keep hb⟩) ?_
  try go_simp
  refine list_read (v := .bool true) rfl rfl (fun u hS => by go_simp) ?_
  try go_simp
  refine list_read (v := .bool true) rfl rfl (fun u hS => by go_simp) ?_
  try go_simp
  refine list_end (fun u3 hS => ?_)
  have D := hide hS
  clear hS
  go_wp2
  go_ret
  exact ⟨rfl, (unhide D).o⟩
theorem quatMatrix_walk (a b c d : Int) (k0 : (Lit.int .i64 a).wf = true) (l0 : (Lit.int .i64 b).wf = true) (m0 : (Lit.int .i64 c).wf = true) (n0 : (Lit.int .i64 d).wf = true) (w : World) (hP : Tab 1 tabP w) (hT : Tab 0 tabT w) :
    Calls Tryd.prog 3 #[.agg (q4 a b c d)] w fun e w' => e = .returned (.bool true) ∧ Below w.heap.size w w' := by
  have h0 := I64.wf k0
  have h1 := I64.wf l0
  have h2 := I64.wf m0
  have h3 := I64.wf n0
  rcases chk_cases (sq4 a b c d) with hc | hc
  · exact quatMatrix_yes a b c d (matQ a b c d) tabP tabT w hP hT (fun u g => QMatZ a b c d h0 h1 h2 h3 hc u g) (Matrix5 a b c d h0 h1 h2 h3 hc) (fun u g1 g2 => awake5Z u g1 g2)
  · exact quatMatrix_no a b c d tabP tabT w hP hT (fun u g => QMatBad a b c d h0 h1 h2 h3 hc u) (MatrixNo5 a b c d h0 h1 h2 h3 hc) (fun u g1 g2 => awake5Z u g1 g2)

end Go.Proofs.YtikmjfepflaokaaDoor
