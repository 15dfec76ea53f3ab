/- Package mass: Of in all ways; masses held against each other; awake; the laws MassBack, MassOnce. -/
import Derived.Test.YtnemedgdhojhdaaGreatIe
import Derived.Test.YtnemedgdhojhdaaGreatIf
namespace Go.Proofs.YtnemedgdhojhdaaGreat
open Go.RowKit
set_option maxRecDepth 4000
set_option linter.unusedVariables false

theorem run_vecN (D : Nat) (x y z a b c : Int) (w : World) : (Op.equalIn (D + 2) 24 (.agg (v3 x y z)) (.agg (v3 a b c))).run Tryz.prog w = .ok (sameV x y z a b c) w := by
  have hf : ((Tryz.prog.fieldsOf 24).toList.map fun f => (f.name, f.type, f.offset)) = [("X", 22, 0), ("Y", 22, 1), ("Z", 22, 2)] := by kernel_rfl
  rw [run_equalIn_struct w _ 24 _ _ (by kernel_rfl) (by kernel_rfl)]
  generalize (Tryz.prog.fieldsOf 24).toList = l at hf ⊢
  have hlen : l.length = 3 := by
    have := congrArg List.length hf
    simpa using this
  match l, hlen, hf with
  | [f0, f1, f2], _, hf =>
    simp only [List.map_cons, List.map_nil, List.cons.injEq, Prod.mk.injEq, and_true] at hf
    obtain ⟨⟨n0, t0, o0⟩, ⟨n1, t1, o1⟩, ⟨n2, t2, o2⟩⟩ := hf
    have e : ∀ w (p q : Int), (Op.equalIn (D + 1) 22 (.int .i64 p) (.int .i64 q)).run Tryz.prog w = .ok (p == q) w := fun w p q => run_equalIn_int w D 22 _ _ _ _ Tryz.underlying22
    have m0 : f0.name ≠ "_" := by rw [n0]; decide
    have m1 : f1.name ≠ "_" := by rw [n1]; decide
    have m2 : f2.name ≠ "_" := by rw [n2]; decide
    have p0 : ∀ (x y z : Int) w, (Go.part 22 (v3 x y z) 0).run Tryz.prog w = .ok (.int .i64 x) w := fun x y z w => part_fix rfl w
    have p1 : ∀ (x y z : Int) w, (Go.part 22 (v3 x y z) 1).run Tryz.prog w = .ok (.int .i64 y) w := fun x y z w => part_fix rfl w
    have p2 : ∀ (x y z : Int) w, (Go.part 22 (v3 x y z) 2).run Tryz.prog w = .ok (.int .i64 z) w := fun x y z w => part_fix rfl w
    simp only [Op.eqFields, if_pos m0, if_pos m1, if_pos m2, t0, t1, t2, o0, o1, o2, Sem.run_bind, p0, Result.andThen_ok, e]
    unfold sameV
    by_cases h0 : x = a <;> by_cases h1 : y = b <;> by_cases h2 : z = c <;> simp [h0, h1, h2, p1, p2, e]
/-- The two masses are the same. -/
def sameM4 (m x y z k a b c : Int) : Bool := decide (m = k) && sameV x y z a b c
theorem run_mass (m x y z k a b c : Int) (w : World) : (Op.equalIn 10000 46 (.agg (ms m x y z)) (.agg (ms k a b c))).run Tryz.prog w = .ok (sameM4 m x y z k a b c) w := by
  have hf : ((Tryz.prog.fieldsOf 46).toList.map fun f => (f.name, f.type, f.offset)) = [("M", 22, 0), ("I", 24, 1)] := by kernel_rfl
  rw [show (10000 : Nat) = 9999 + 1 from rfl, run_equalIn_struct w _ 46 _ _ (by kernel_rfl) (by kernel_rfl)]
  generalize (Tryz.prog.fieldsOf 46).toList = l at hf ⊢
  have hlen : l.length = 2 := by
    have := congrArg List.length hf
    simpa using this
  match l, hlen, hf with
  | [f0, f1], _, hf =>
    simp only [List.map_cons, List.map_nil, List.cons.injEq, Prod.mk.injEq, and_true] at hf
    obtain ⟨⟨n0, t0, o0⟩, ⟨n1, t1, o1⟩⟩ := hf
    have e : ∀ w (p q : Int), (Op.equalIn 9999 22 (.int .i64 p) (.int .i64 q)).run Tryz.prog w = .ok (p == q) w := fun w p q => run_equalIn_int w 9998 22 _ _ _ _ Tryz.underlying22
    have m0 : f0.name ≠ "_" := by rw [n0]; decide
    have m1 : f1.name ≠ "_" := by rw [n1]; decide
    have p0 : ∀ (m x y z : Int) w, (Go.part 22 (ms m x y z) 0).run Tryz.prog w = .ok (.int .i64 m) w := fun m x y z w => part_fix rfl w
    have p1 : ∀ (m x y z : Int) w, (Go.part 24 (ms m x y z) 1).run Tryz.prog w = .ok (.agg (v3 x y z)) w := fun m x y z w => by kernel_rfl
    have e1 : ∀ w, (Op.equalIn 9999 24 (.agg (v3 x y z)) (.agg (v3 a b c))).run Tryz.prog w = .ok (sameV x y z a b c) w := fun w => run_vecN 9997 x y z a b c w
    simp only [Op.eqFields, if_pos m0, if_pos m1, t0, t1, o0, o1, Sem.run_bind, p0, Result.andThen_ok, e]
    unfold sameM4
    cases hs : sameV x y z a b c <;> rw [hs] at e1 <;> by_cases h0 : m = k <;> simp [h0, p1, e1]
theorem gMass : Tryz.prog.eqGuardType Tryz.prog.depth 46 = false := by kernel_rfl
section
variable {o : Oper} {ac : Act} (wd : World) (p q : Operand) {m x y z k a b c : Int} {ty' : TypeId} {s : Bool}
theorem exec_eql_mass (hb : sameM4 m x y z k a b c = s) (ho : o.op = .binOp .eql 46 p q ty') (hx : ac.eval p = .agg (ms m x y z)) (hy : ac.eval q = .agg (ms k a b c)) : (execOp ac.eval o).run Tryz.prog wd = .ok (.value (.bool s)) wd := by
  subst hb
  unfold execOp
  simp only [ho, hx, hy, Sem.run_bind, run_eqGuard_agg wd _ 46 _ _ _ _ gMass, run_eql_struct, run_mass, Result.andThen_ok, Sem.run_pure]
end
theorem sameM4_self (m x y z : Int) : sameM4 m x y z m x y z = true := by simp [sameM4, sameV]

/-- The error of Of. -/
def masE (E m : Int) : Int := if E = 0 then (if m < 16777216 then 2 else if 4503599627370496 < m then 2 else 0) else E
def masV (E m v : Int) : Int := if masE E m = 0 then v else 0
theorem OfS (kd rr x y z : Int) (A : Option Addr) (n cp : Nat) (ps : Nat → Pt) (m : Int) (w : World) (hn : n ≤ 400) (hr : I64 rr) (hx : I64 x) (hy : I64 y) (hz : I64 z) (hP : PRow w A n ps) (hI : pI64 n ps) (hm : I64 m) :
    Calls Tryz.prog 29 #[.agg (sh kd rr x y z A n cp), .int .i64 m] w fun e w' => e = .returned (.tuple #[.agg (ms (masV (chE kd rr x y z n ps) m m) (masV (chE kd rr x y z n ps) m (moI m (haY kd rr x y z n ps) (haZ kd rr x y z n ps))) (masV (chE kd rr x y z n ps) m (moI m (haZ kd rr x y z n ps) (haX kd rr x y z n ps))) (masV (chE kd rr x y z n ps) m (moI m (haX kd rr x y z n ps) (haY kd rr x y z n ps)))), .int .i64 (masE (chE kd rr x y z n ps) m)]) ∧ Below w.heap.size w w' := by
  have hH := fun u (hu : Below w.heap.size w u) => HalfS kd rr x y z A n cp ps u hn hr hx hy hz (hP.below hu) hI
  have i1 : I64 (haX kd rr x y z n ps) := by unfold haX; split; exact cl_I64 _; exact ⟨by decide, by decide⟩
  have i2 : I64 (haY kd rr x y z n ps) := by unfold haY; split; exact cl_I64 _; exact ⟨by decide, by decide⟩
  have i3 : I64 (haZ kd rr x y z n ps) := by unfold haZ; split; exact cl_I64 _; exact ⟨by decide, by decide⟩
  by_cases h0 : chE kd rr x y z n ps = 0
  · rw [h0] at hH ⊢
    by_cases h1 : m < 16777216
    · have he : masE 0 m = 2 := by unfold masE; rw [if_pos rfl, if_pos h1]
      have hv : ∀ v, masV 0 m v = 0 := fun v => by unfold masV; rw [he]; rfl
      rw [he, hv, hv, hv, hv]
      exact of_low kd rr x y z A n cp m _ _ _ w hH (decide_eq_true h1)
    · by_cases h2 : 4503599627370496 < m
      · have he : masE 0 m = 2 := by unfold masE; rw [if_pos rfl, if_neg h1, if_pos h2]
        have hv : ∀ v, masV 0 m v = 0 := fun v => by unfold masV; rw [he]; rfl
        rw [he, hv, hv, hv, hv]
        exact of_high kd rr x y z A n cp m _ _ _ w hH (decide_eq_false h1) (decide_eq_true h2)
      · have he : masE 0 m = 0 := by unfold masE; rw [if_pos rfl, if_neg h1, if_neg h2]
        have hv : ∀ v, masV 0 m v = v := fun v => by unfold masV; rw [he]; rfl
        rw [he, hv, hv, hv, hv]
        exact of_ok kd rr x y z A n cp m _ _ _ _ _ _ w hH (decide_eq_false h1) (decide_eq_false h2) (fun u hB => EachOf _ _ _ m _ u hB hm i1 i2 i3)
  · have e1 : haX kd rr x y z n ps = 0 := if_neg h0
    have e2 : haY kd rr x y z n ps = 0 := if_neg h0
    have e3 : haZ kd rr x y z n ps = 0 := if_neg h0
    rw [e1, e2, e3] at hH
    have he : masE (chE kd rr x y z n ps) m = chE kd rr x y z n ps := if_neg h0
    have hv : ∀ v, masV (chE kd rr x y z n ps) m v = 0 := fun v => by unfold masV; rw [he, if_neg h0]
    rw [he, hv, hv, hv, hv]
    exact of_err kd rr x y z A n cp m _ w hH (decide_eq_false h0)
set_option maxHeartbeats 4000000 in
theorem awake10_core (w : World) (h0 : Hid (∀ u, Below w.heap.size w u → Calls Tryz.prog 29 #[.agg (sh 3 0 4294967296 4294967296 4294967296 none 0 0), .int .i64 12884901888] u fun e w' => e = .returned (.tuple #[.agg (ms 12884901888 8589934592 8589934592 8589934592), .int .i64 0]) ∧ Below u.heap.size u w')) (h1 : Hid (∀ u, Below w.heap.size w u → Calls Tryz.prog 29 #[.agg (sh 3 0 4294967296 4294967296 4294967296 none 0 0), .int .i64 0] u fun e w' => e = .returned (.tuple #[.agg (ms 0 0 0 0), .int .i64 2]) ∧ Below u.heap.size u w')) (h2 : Hid (Ans 31 #[.agg (ms 8589934592 17179869184 0 2147483648)] (.agg (ms 2147483648 1073741824 0 8589934592)))) (e0 : Hid (sameM4 12884901888 8589934592 8589934592 8589934592 12884901888 8589934592 8589934592 8589934592 = true)) (e1 : Hid (sameM4 2147483648 1073741824 0 8589934592 2147483648 1073741824 0 8589934592 = true)) : Calls Tryz.prog 28 #[] w fun e w' => e = .returned (.bool true) ∧ Below w.heap.size w w' := by
  go_enter Tryz.func28, Tryz.ntmps28
  go_upto_region 1 with fail
  have D := hide ((Gd.start w))
  refine list_start (S := Gd w []) (unhide D) ?_
  clear D
  refine list_read (v := .agg (v3 4294967296 4294967296 4294967296)) rfl rfl (fun u hS => by go_simp) ?_
  try go_simp
  refine list_read (v := .agg (sh 3 0 4294967296 4294967296 4294967296 none 0 0)) rfl rfl (fun u hS => by go_simp) ?_
  try go_simp
  refine list_new (z := sh 0 0 0 0 0 none 0 0) (ty := 27) (v := fun g => .pointer (some ⟨g, 0, none⟩)) rfl rfl (fun u => by go_simp) (fun g1 hgg1 => ?_)
  try go_simp
  refine list_store (l1 := []) (l2 := []) (l' := [(g1, 27, sh 3 0 4294967296 4294967296 4294967296 none 0 0)]) (g := g1) (old := sh 0 0 0 0 0 none 0 0) (cs := sh 3 0 4294967296 4294967296 4294967296 none 0 0) (.tmp 1) (.tmp 8) rfl rfl rfl rfl rfl rfl rShape rfl rfl (sh_one _ _ _ _ _ _ _ _) hgg1 ?_
  try go_simp
  refine list_end (fun u1 hS => ?_)
  have D := hide hS
  clear hS
  go_upto_region 2 with fail
  refine list_start (S := Gd w [(g1, 27, sh 3 0 4294967296 4294967296 4294967296 none 0 0)]) (unhide D) ?_
  clear D
  refine list_read (v := .agg (sh 3 0 4294967296 4294967296 4294967296 none 0 0)) rfl rfl (fun u hS => exec_loadG (g := g1) (t := 27) (cs := sh 3 0 4294967296 4294967296 4294967296 none 0 0) hS.g rShape _ rfl rfl (by repeat (first | exact List.mem_cons_self | apply List.mem_cons_of_mem)) rfl) ?_
  try go_simp
  refine list_call (v := .tuple #[.agg (ms 12884901888 8589934592 8589934592 8589934592), .int .i64 0]) (f := 29) (args := #[.agg (sh 3 0 4294967296 4294967296 4294967296 none 0 0), .int .i64 12884901888]) rfl rfl (fun u hS => by go_simp) (fun u hS => (unhide h0 u hS.g.o).mono fun _ _ ⟨he, hb⟩ => ⟨he, hS.keep hb⟩) ?_
  try go_simp
  refine list_read (v := .tuple #[.agg (ms 12884901888 8589934592 8589934592 8589934592), .int .i64 0]) rfl rfl (fun u hS => by go_simp) ?_
  try go_simp
  refine list_read (v := .agg (ms 12884901888 8589934592 8589934592 8589934592)) rfl rfl (fun u hS => by go_simp) ?_
  try go_simp
  refine list_read (v := .int .i64 0) rfl rfl (fun u hS => by go_simp) ?_
  try go_simp
  refine list_new (z := ms 0 0 0 0) (ty := 46) (v := fun g => .pointer (some ⟨g, 0, none⟩)) rfl rfl (fun u => by go_simp) (fun g2 hgg2 => ?_)
  try go_simp
  refine list_store (l1 := []) (l2 := [(g1, 27, sh 3 0 4294967296 4294967296 4294967296 none 0 0)]) (l' := [(g2, 46, ms 12884901888 8589934592 8589934592 8589934592), (g1, 27, sh 3 0 4294967296 4294967296 4294967296 none 0 0)]) (g := g2) (old := ms 0 0 0 0) (cs := ms 12884901888 8589934592 8589934592 8589934592) (.tmp 2) (.tmp 12) rfl rfl rfl rfl rfl rfl rMass rfl rfl (ms_one _ _ _ _) hgg2 ?_
  try go_simp
  refine list_read (v := .int .i64 0) rfl rfl (fun u hS => by go_simp) ?_
  try go_simp
  refine list_end (fun u2 hS => ?_)
  have D := hide hS
  clear hS
  go_upto_region 3 with fail
  refine list_start (S := Gd w [(g2, 46, ms 12884901888 8589934592 8589934592 8589934592), (g1, 27, sh 3 0 4294967296 4294967296 4294967296 none 0 0)]) (unhide D) ?_
  clear D
  refine list_read (v := .agg (sh 3 0 4294967296 4294967296 4294967296 none 0 0)) rfl rfl (fun u hS => exec_loadG (g := g1) (t := 27) (cs := sh 3 0 4294967296 4294967296 4294967296 none 0 0) hS.g rShape _ rfl rfl (by repeat (first | exact List.mem_cons_self | apply List.mem_cons_of_mem)) rfl) ?_
  try go_simp
  refine list_call (v := .tuple #[.agg (ms 0 0 0 0), .int .i64 2]) (f := 29) (args := #[.agg (sh 3 0 4294967296 4294967296 4294967296 none 0 0), .int .i64 0]) rfl rfl (fun u hS => by go_simp) (fun u hS => (unhide h1 u hS.g.o).mono fun _ _ ⟨he, hb⟩ => ⟨he, hS.keep hb⟩) ?_
  try go_simp
  refine list_read (v := .tuple #[.agg (ms 0 0 0 0), .int .i64 2]) rfl rfl (fun u hS => by go_simp) ?_
  try go_simp
  refine list_read (v := .agg (ms 0 0 0 0)) rfl rfl (fun u hS => by go_simp) ?_
  try go_simp
  refine list_read (v := .int .i64 2) rfl rfl (fun u hS => by go_simp) ?_
  try go_simp
  refine list_new (z := ms 0 0 0 0) (ty := 46) (v := fun g => .pointer (some ⟨g, 0, none⟩)) rfl rfl (fun u => by go_simp) (fun g3 hgg3 => ?_)
  try go_simp
  refine list_store (l1 := []) (l2 := [(g2, 46, ms 12884901888 8589934592 8589934592 8589934592), (g1, 27, sh 3 0 4294967296 4294967296 4294967296 none 0 0)]) (l' := [(g3, 46, ms 0 0 0 0), (g2, 46, ms 12884901888 8589934592 8589934592 8589934592), (g1, 27, sh 3 0 4294967296 4294967296 4294967296 none 0 0)]) (g := g3) (old := ms 0 0 0 0) (cs := ms 0 0 0 0) (.tmp 4) (.tmp 17) rfl rfl rfl rfl rfl rfl rMass rfl rfl (ms_one _ _ _ _) hgg3 ?_
  try go_simp
  refine list_read (v := .int .i64 2) rfl rfl (fun u hS => by go_simp) ?_
  try go_simp
  refine list_end (fun u3 hS => ?_)
  have D := hide hS
  clear hS
  go_upto_region 4 with fail
  refine list_start (S := Gd w [(g3, 46, ms 0 0 0 0), (g2, 46, ms 12884901888 8589934592 8589934592 8589934592), (g1, 27, sh 3 0 4294967296 4294967296 4294967296 none 0 0)]) (unhide D) ?_
  clear D
  refine list_read (v := .agg (v3 17179869184 0 2147483648)) rfl rfl (fun u hS => by go_simp) ?_
  try go_simp
  refine list_read (v := .agg (ms 8589934592 17179869184 0 2147483648)) rfl rfl (fun u hS => by go_simp) ?_
  try go_simp
  refine list_call (v := .agg (ms 2147483648 1073741824 0 8589934592)) (f := 31) (args := #[.agg (ms 8589934592 17179869184 0 2147483648)]) rfl rfl (fun u hS => by go_simp) (fun u hS => (unhide h2 u).mono fun _ _ ⟨he, hb⟩ => ⟨he, hS.keep hb⟩) ?_
  try go_simp
  refine list_new (z := ms 0 0 0 0) (ty := 46) (v := fun g => .pointer (some ⟨g, 0, none⟩)) rfl rfl (fun u => by go_simp) (fun g4 hgg4 => ?_)
  try go_simp
  refine list_store (l1 := []) (l2 := [(g3, 46, ms 0 0 0 0), (g2, 46, ms 12884901888 8589934592 8589934592 8589934592), (g1, 27, sh 3 0 4294967296 4294967296 4294967296 none 0 0)]) (l' := [(g4, 46, ms 2147483648 1073741824 0 8589934592), (g3, 46, ms 0 0 0 0), (g2, 46, ms 12884901888 8589934592 8589934592 8589934592), (g1, 27, sh 3 0 4294967296 4294967296 4294967296 none 0 0)]) (g := g4) (old := ms 0 0 0 0) (cs := ms 2147483648 1073741824 0 8589934592) (.tmp 6) (.tmp 21) rfl rfl rfl rfl rfl rfl rMass rfl rfl (ms_one _ _ _ _) hgg4 ?_
  try go_simp
  refine list_end (fun u4 hS => ?_)
  have D := hide hS
  clear hS
  go_upto_region 5 with fail
  refine list_start (S := Gd w [(g4, 46, ms 2147483648 1073741824 0 8589934592), (g3, 46, ms 0 0 0 0), (g2, 46, ms 12884901888 8589934592 8589934592 8589934592), (g1, 27, sh 3 0 4294967296 4294967296 4294967296 none 0 0)]) (unhide D) ?_
  clear D
  refine list_read (v := .int .i64 0) rfl rfl (fun u hS => by go_simp) ?_
  try go_simp
  refine list_read (v := .bool true) rfl rfl (fun u hS => by go_simp) ?_
  try go_simp
  refine list_read (v := .bool true) rfl rfl (fun u hS => by go_simp) ?_
  try go_simp
  refine list_read (v := .agg (ms 12884901888 8589934592 8589934592 8589934592)) rfl rfl (fun u hS => exec_loadG (g := g2) (t := 46) (cs := ms 12884901888 8589934592 8589934592 8589934592) hS.g rMass _ rfl rfl (by repeat (first | exact List.mem_cons_self | apply List.mem_cons_of_mem)) rfl) ?_
  try go_simp
  refine list_read (v := .agg (v3 8589934592 8589934592 8589934592)) rfl rfl (fun u hS => by go_simp) ?_
  try go_simp
  refine list_read (v := .agg (ms 12884901888 8589934592 8589934592 8589934592)) rfl rfl (fun u hS => by go_simp) ?_
  try go_simp
  refine list_read (v := .bool true) rfl rfl (fun u hS => exec_eql_mass (s := true) _ _ _ (unhide e0) rfl rfl rfl) ?_
  try go_simp
  refine list_read (v := .bool true) rfl rfl (fun u hS => by go_simp) ?_
  try go_simp
  refine list_read (v := .bool true) rfl rfl (fun u hS => by go_simp) ?_
  try go_simp
  refine list_read (v := .int .i64 2) rfl rfl (fun u hS => by go_simp) ?_
  try go_simp
  refine list_read (v := .bool true) rfl rfl (fun u hS => by go_simp) ?_
  try go_simp
  refine list_read (v := .bool true) rfl rfl (fun u hS => by go_simp) ?_
  try go_simp
  refine list_read (v := .bool true) rfl rfl (fun u hS => by go_simp) ?_
  try go_simp
  refine list_read (v := .agg (ms 2147483648 1073741824 0 8589934592)) rfl rfl (fun u hS => exec_loadG (g := g4) (t := 46) (cs := ms 2147483648 1073741824 0 8589934592) hS.g rMass _ rfl rfl (by repeat (first | exact List.mem_cons_self | apply List.mem_cons_of_mem)) rfl) ?_
  try go_simp
  refine list_read (v := .agg (v3 1073741824 0 8589934592)) rfl rfl (fun u hS => by go_simp) ?_
  try go_simp
  refine list_read (v := .agg (ms 2147483648 1073741824 0 8589934592)) rfl rfl (fun u hS => by go_simp) ?_
  try go_simp
  refine list_read (v := .bool true) rfl rfl (fun u hS => exec_eql_mass (s := true) _ _ _ (unhide e1) rfl rfl rfl) ?_
  try go_simp
  refine list_read (v := .bool true) rfl rfl (fun u hS => by go_simp) ?_
  try go_simp
  refine list_read (v := .bool true) rfl rfl (fun u hS => by go_simp) ?_
  try go_simp
  refine list_end (fun u5 hS => ?_)
  have D := hide hS
  clear hS
  go_wp2
  go_ret
  exact ⟨rfl, (unhide D).g.o⟩
theorem awake10Z : Ans 28 #[] (.bool true) := fun w => by
  have hb : ∀ m u, I64 m → _ := fun m u hm => OfS 3 0 4294967296 4294967296 4294967296 none 0 0 (fun _ => (0, 0, 0)) m u (by decide) ⟨by decide, by decide⟩ ⟨by decide, by decide⟩ ⟨by decide, by decide⟩ ⟨by decide, by decide⟩ (.inl rfl) (fun i hi => absurd hi (Nat.not_lt_zero i)) hm
  have eE : chE 3 0 4294967296 4294967296 4294967296 0 (fun _ => (0, 0, 0)) = 0 := by kernel_rfl
  have eX : haX 3 0 4294967296 4294967296 4294967296 0 (fun _ => (0, 0, 0)) = 4294967296 := by kernel_rfl
  have eY : haY 3 0 4294967296 4294967296 4294967296 0 (fun _ => (0, 0, 0)) = 4294967296 := by kernel_rfl
  have eZ : haZ 3 0 4294967296 4294967296 4294967296 0 (fun _ => (0, 0, 0)) = 4294967296 := by kernel_rfl
  rw [eE, eX, eY, eZ] at hb
  refine awake10_core w (fun u _ => ?_) (fun u _ => ?_) (fun u => ?_) (sameM4_self _ _ _ _) (sameM4_self _ _ _ _)
  · exact hb 12884901888 u ⟨by decide, by decide⟩
  · exact hb 0 u ⟨by decide, by decide⟩
  · exact MassBackZ 8589934592 17179869184 0 2147483648 ⟨by decide, by decide⟩ ⟨by decide, by decide⟩ ⟨by decide, by decide⟩ ⟨by decide, by decide⟩ u
end Go.Proofs.YtnemedgdhojhdaaGreat
