/- Package quat's laws: quaternions held against each other; awake. Package quat's laws: the tables as they are laid; a quaternion as an argument. -/
import Derived.Test.YtikmjfepflaokaaDoorTj
import Derived.Test.YtikmjfepflaokaaDoorVs
import Derived.Lib.LaidU8
import Derived.Lib.SmallJoins
namespace Go.Proofs.YtikmjfepflaokaaDoor
open Go.RowKit
set_option maxRecDepth 4000
set_option linter.unusedVariables false

/-- The two quaternions are the same. -/
def sameQ (x y z t a b c d : Int) : Bool := decide (x = a ∧ y = b ∧ z = c ∧ t = d)
theorem run_quat (x y z t a b c d : Int) (w : World) : (Op.equalIn 10000 24 (.agg (q4 x y z t)) (.agg (q4 a b c d))).run Tryd.prog w = .ok (sameQ x y z t a b c d) w := by
  have hf : ((Tryd.prog.fieldsOf 24).toList.map fun f => (f.name, f.type, f.offset)) = [("W", 22, 0), ("X", 22, 1), ("Y", 22, 2), ("Z", 22, 3)] := by kernel_rfl
  rw [show (10000 : Nat) = 9999 + 1 from rfl, run_equalIn_struct w _ 24 _ _ (by kernel_rfl) (by kernel_rfl)]
  generalize (Tryd.prog.fieldsOf 24).toList = l at hf ⊢
  have hlen : l.length = 4 := by
    have := congrArg List.length hf
    simpa using this
  match l, hlen, hf with
  | [f0, f1, f2, f3], _, hf =>
    simp only [List.map_cons, List.map_nil, List.cons.injEq, Prod.mk.injEq, and_true] at hf
    obtain ⟨⟨n0, t0, o0⟩, ⟨n1, t1, o1⟩, ⟨n2, t2, o2⟩, ⟨n3, t3, o3⟩⟩ := hf
    have e : ∀ w (p q : Int), (Op.equalIn 9999 22 (.int .i64 p) (.int .i64 q)).run Tryd.prog w = .ok (p == q) w := fun w p q => run_equalIn_int w 9998 22 _ _ _ _ Tryd.underlying22
    have m0 : f0.name ≠ "_" := by rw [n0]; decide
    have m1 : f1.name ≠ "_" := by rw [n1]; decide
    have m2 : f2.name ≠ "_" := by rw [n2]; decide
    have m3 : f3.name ≠ "_" := by rw [n3]; decide
    have p0 : ∀ (x y z t : Int) w, (Go.part 22 (q4 x y z t) 0).run Tryd.prog w = .ok (.int .i64 x) w := fun x y z t w => part_fix rfl w
    have p1 : ∀ (x y z t : Int) w, (Go.part 22 (q4 x y z t) 1).run Tryd.prog w = .ok (.int .i64 y) w := fun x y z t w => part_fix rfl w
    have p2 : ∀ (x y z t : Int) w, (Go.part 22 (q4 x y z t) 2).run Tryd.prog w = .ok (.int .i64 z) w := fun x y z t w => part_fix rfl w
    have p3 : ∀ (x y z t : Int) w, (Go.part 22 (q4 x y z t) 3).run Tryd.prog w = .ok (.int .i64 t) w := fun x y z t w => part_fix rfl w
    simp only [Op.eqFields, if_pos m0, if_pos m1, if_pos m2, if_pos m3, t0, t1, t2, t3, o0, o1, o2, o3, Sem.run_bind, p0, Result.andThen_ok, e]
    unfold sameQ
    by_cases h0 : x = a <;> by_cases h1 : y = b <;> by_cases h2 : z = c <;> by_cases h3 : t = d <;> simp [h0, h1, h2, h3, p1, p2, p3, e]
theorem gQuat : Tryd.prog.eqGuardType Tryd.prog.depth 24 = false := by kernel_rfl
theorem exec_eql_quat {o : Oper} {ac : Act} (wd : World) (p q : Operand) {x y z t a b c d : Int} {ty' : TypeId} {s : Bool} (hb : sameQ x y z t a b c d = s) (ho : o.op = .binOp .eql 24 p q ty') (hx : ac.eval p = .agg (q4 x y z t)) (hy : ac.eval q = .agg (q4 a b c d)) : (execOp ac.eval o).run Tryd.prog wd = .ok (.value (.bool s)) wd := by
  subst hb
  unfold execOp
  simp only [ho, hx, hy, Sem.run_bind, run_eqGuard_agg wd _ 24 _ _ _ _ gQuat, run_eql_struct, run_quat, Result.andThen_ok, Sem.run_pure]
theorem exec_neq_quat {o : Oper} {ac : Act} (wd : World) (p q : Operand) {x y z t a b c d : Int} {ty' : TypeId} {s : Bool} (hb : sameQ x y z t a b c d = s) (ho : o.op = .binOp .neq 24 p q ty') (hx : ac.eval p = .agg (q4 x y z t)) (hy : ac.eval q = .agg (q4 a b c d)) : (execOp ac.eval o).run Tryd.prog wd = .ok (.value (.bool (!s))) wd := by
  subst hb
  unfold execOp
  simp only [ho, hx, hy, Sem.run_bind, run_eqGuard_agg wd _ 24 _ _ _ _ gQuat, run_neq_struct, run_quat, Result.andThen_ok, Sem.run_pure]
theorem sameQ_self (x y z t : Int) : sameQ x y z t x y z t = true := by simp [sameQ]
set_option maxHeartbeats 8000000 in
theorem awake5_core (TP TT : Array Value) (X : Nat → Int) (w : World) (hP : Tab 1 TP w) (hT : Tab 0 TT w) (hx0 : X 0 = -4294967296) (hx8 : X 8 = 4294967296) (e0 : ((0 : Int) == 0) = true) (e9 : ((9 : Int) == 9) = true) (em : ((-4294967296 : Int) == -4294967296) = true) (ep : ((4294967296 : Int) == 4294967296) = true) (e1 : sameQ 0 0 0 4294967296 0 0 0 4294967296 = true) (e2 : sameQ 4294967296 0 0 0 4294967296 0 0 0 = true)
    (hMat : Hid (∀ u, Tab 0 TT u → Calls Tryd.prog 10 #[.agg (q4 0 0 0 4294967296)] u fun e w' => e = .returned (.tuple #[.agg (m9 X), .int .i64 0]) ∧ Below u.heap.size u w'))
    (hUnit : Hid (Ans 15 #[.agg (q4 8589934592 0 0 0)] (.tuple #[.agg (q4 4294967296 0 0 0), .int .i64 0])))
    (hMul : Hid (∀ u, Tab 1 TP u → Calls Tryd.prog 14 #[.agg (q4 0 4294967296 0 0), .agg (q4 0 0 4294967296 0)] u fun e w' => e = .returned (.agg (q4 0 0 0 4294967296)) ∧ Below u.heap.size u w'))
    (hOne : Hid (Ans 13 #[] (.agg (q4 4294967296 0 0 0)))) (hChk : Hid (Ans 17 #[.agg (q4 2147483647 0 0 0)] (.int .i64 9))) :
    Calls Tryd.prog 12 #[] w fun e w' => e = .returned (.bool true) ∧ Below w.heap.size w w' := by
  have hPlt := hP.lt
  have hTlt := hT.lt
  have HP := hide hP
  have HT := hide hT
  clear hP hT
  have D := hide (Gen.start w)
  go_enter Tryd.func12, Tryd.ntmps12
  go_upto_region 3 with (first | (go_at_call 10; with_reducible refine (unhide hMat _ ((unhide HT).below (unhide D).o hTlt)).mono ?_; rintro e w1 ⟨he, hb⟩; subst he; have D := hide ((unhide D).keep hb); clear hb) | (go_at_call 15; with_reducible refine (unhide hUnit _).mono ?_; rintro e w2 ⟨he, hb⟩; subst he; have D := hide ((unhide D).keep hb); clear hb) | (with_reducible refine at_list ?_; refine stG (unhide D) rMat _ _ rfl rfl rfl rfl rfl rfl (m9_one _) ?_; intro D'; have D := hide D'; clear D') | (with_reducible refine at_list ?_; refine stG (unhide D) rQuat _ _ rfl rfl rfl rfl rfl rfl (q4_one _ _ _ _) ?_; intro D'; have D := hide D'; clear D'))
  generalize w1.heap.size = g1 at *
  refine region_plan (S := Gen w _) (l := [0, 1, 2, 3, 4, 5, 6, 7, 8, 9, 10, 11, 12, 13, 14, 15, 16, 17, 18, 19, 20, 21, 22, 23, 24, 25, 26, 27, 28, 29, 30, 31, 32, 33, 34, 35, 36, 37]) (by kernel_rfl) (by kernel_rfl) (by kernel_rfl) (by kernel_rfl) (by kernel_rfl) (by kernel_rfl) (by kernel_rfl) (unhide D).drew ?_
  clear D
  refine plan_read (v := .agg (q4 0 4294967296 0 0)) rfl rfl (fun u hS => by go_simp) ?_
  go_simp
  refine plan_read (v := .agg (q4 0 0 4294967296 0)) rfl rfl (fun u hS => by go_simp) ?_
  go_simp
  refine plan_call (v := .agg (q4 0 0 0 4294967296)) (f := 14) (args := #[.agg (q4 0 4294967296 0 0), .agg (q4 0 0 4294967296 0)]) rfl rfl (fun u hS => by go_simp) (fun u hS => (unhide hMul u ((unhide HP).below hS.o hPlt)).mono fun _ _ ⟨he, hb⟩ => ⟨he, hS.keep hb⟩) ?_
  go_simp
  refine plan_read (v := .agg (q4 0 0 0 4294967296)) rfl rfl (fun u hS => by go_simp) ?_
  go_simp
  refine plan_read (v := .bool true) rfl rfl (fun u hS => exec_eql_quat _ (.tmp 17) (.tmp 18) e1 rfl rfl rfl) ?_
  go_simp
  refine plan_read (v := ?_) rfl rfl (fun u hS => by go_simp; rfl) ?_
  go_simp
  refine plan_read (v := ?_) rfl rfl (fun u hS => by go_simp; rfl) ?_
  go_simp
  refine plan_read (v := .bool true) rfl rfl (fun u hS => exec_eqlZ _ (.tmp 21) _ e0 rfl rfl rfl) ?_
  go_simp
  refine plan_read (v := ?_) rfl rfl (fun u hS => by go_simp; rfl) ?_
  go_simp
  refine plan_read (v := ?_) rfl rfl (fun u hS => by go_simp; rfl) ?_
  go_simp
  refine plan_read (v := ?_) rfl rfl (fun u hS => by go_simp; rfl) ?_
  go_simp
  refine plan_read (v := .pointer (some ⟨g1, 0 * 3, none⟩)) rfl rfl (fun u hS => exec_ix3 (k := 0) u (.tmp 25) (.const (.int .i64 0)) (by decide) rfl rfl rfl) ?_
  go_simp
  refine plan_read (v := ?_) rfl rfl (fun u hS => by go_simp; rfl) ?_
  go_simp
  refine plan_read (v := .int .i64 (-4294967296)) rfl rfl (fun u hS => exec_loadFG hS (t := 29) (cs := m9 X) (.tmp 27) rfl rfl (by repeat (first | exact List.mem_cons_self | apply List.mem_cons_of_mem)) (by show some (Value.int .i64 (X 0)) = _; rw [hx0])) ?_
  go_simp
  refine plan_read (v := .bool true) rfl rfl (fun u hS => exec_eqlZ _ (.tmp 28) _ em rfl rfl rfl) ?_
  go_simp
  refine plan_read (v := ?_) rfl rfl (fun u hS => by go_simp; rfl) ?_
  go_simp
  refine plan_read (v := ?_) rfl rfl (fun u hS => by go_simp; rfl) ?_
  go_simp
  refine plan_read (v := ?_) rfl rfl (fun u hS => by go_simp; rfl) ?_
  go_simp
  refine plan_read (v := .pointer (some ⟨g1, 2 * 3, none⟩)) rfl rfl (fun u hS => exec_ix3 (k := 2) u (.tmp 32) (.const (.int .i64 2)) (by decide) rfl rfl rfl) ?_
  go_simp
  refine plan_read (v := ?_) rfl rfl (fun u hS => by go_simp; rfl) ?_
  go_simp
  refine plan_read (v := .int .i64 4294967296) rfl rfl (fun u hS => exec_loadFG hS (t := 29) (cs := m9 X) (.tmp 34) rfl rfl (by repeat (first | exact List.mem_cons_self | apply List.mem_cons_of_mem)) (by show some (Value.int .i64 (X 8)) = _; rw [hx8])) ?_
  go_simp
  refine plan_read (v := .bool true) rfl rfl (fun u hS => exec_eqlZ _ (.tmp 35) _ ep rfl rfl rfl) ?_
  go_simp
  refine plan_read (v := ?_) rfl rfl (fun u hS => by go_simp; rfl) ?_
  go_simp
  refine plan_read (v := ?_) rfl rfl (fun u hS => by go_simp; rfl) ?_
  go_simp
  refine plan_read (v := ?_) rfl rfl (fun u hS => by go_simp; rfl) ?_
  go_simp
  refine plan_read (v := .bool true) rfl rfl (fun u hS => exec_eqlZ _ (.tmp 39) _ e0 rfl rfl rfl) ?_
  go_simp
  refine plan_read (v := ?_) rfl rfl (fun u hS => by go_simp; rfl) ?_
  go_simp
  refine plan_read (v := ?_) rfl rfl (fun u hS => by go_simp; rfl) ?_
  go_simp
  refine plan_read (v := .agg (q4 4294967296 0 0 0)) rfl rfl (fun u hS => exec_loadG hS rQuat (.tmp 3) rfl rfl (by repeat (first | exact List.mem_cons_self | apply List.mem_cons_of_mem)) rfl) ?_
  go_simp
  refine plan_call (v := .agg (q4 4294967296 0 0 0)) (f := 13) (args := #[]) rfl rfl (fun u hS => by go_simp) (fun u hS => (unhide hOne u).mono fun _ _ ⟨he, hb⟩ => ⟨he, hS.keep hb⟩) ?_
  go_simp
  refine plan_read (v := .bool true) rfl rfl (fun u hS => exec_eql_quat _ (.tmp 43) (.tmp 44) e2 rfl rfl rfl) ?_
  go_simp
  refine plan_read (v := ?_) rfl rfl (fun u hS => by go_simp; rfl) ?_
  go_simp
  refine plan_read (v := ?_) rfl rfl (fun u hS => by go_simp; rfl) ?_
  go_simp
  refine plan_read (v := .agg (q4 2147483647 0 0 0)) rfl rfl (fun u hS => by go_simp) ?_
  go_simp
  refine plan_call (v := .int .i64 9) (f := 17) (args := #[.agg (q4 2147483647 0 0 0)]) rfl rfl (fun u hS => by go_simp) (fun u hS => (unhide hChk u).mono fun _ _ ⟨he, hb⟩ => ⟨he, hS.keep hb⟩) ?_
  go_simp
  refine plan_read (v := .bool true) rfl rfl (fun u hS => exec_eqlZ _ (.tmp 49) _ e9 rfl rfl rfl) ?_
  go_simp
  refine plan_read (v := ?_) rfl rfl (fun u hS => by go_simp; rfl) ?_
  go_simp
  refine plan_read (v := ?_) rfl rfl (fun u hS => by go_simp; rfl) ?_
  go_simp
  refine plan_end (fun u hS => ?_)
  have O := hide hS.o
  clear hS
  go_wp2
  go_ret
  exact ⟨rfl, unhide O⟩
theorem unit2 : shI 8589934592 (sq4 8589934592 0 0 0) = 4294967296 := by
  have e : rfl' (8589934592 * 8589934592 * ((2 ^ (64 : Int).toNat : Nat) : Int)) (sq4 8589934592 0 0 0) = 4294967296 := rfl_is (q := 18446744073709551616) (by decide) (by decide) (by decide) (by decide)
  unfold shI
  rw [if_neg (by decide), e]
  decide
theorem unit20 : shI 0 (sq4 8589934592 0 0 0) = 0 := by
  have e : rfl' (0 * 0 * ((2 ^ (64 : Int).toNat : Nat) : Int)) (sq4 8589934592 0 0 0) = 0 := rfl_is (q := 0) (by decide) (by decide) (by decide) (by decide)
  unfold shI
  rw [if_neg (by decide), e]
  decide
theorem awake5Z (w : World) (hP : Tab 1 tabP w) (hT : Tab 0 tabT w) : Calls Tryd.prog 12 #[] w fun e w' => e = .returned (.bool true) ∧ Below w.heap.size w w' := by
  have i : ∀ z : Int, -100000000000 ≤ z → z ≤ 100000000000 → I64 z := fun z h1 h2 => ⟨by omega, by omega⟩
  have z0 : I64 0 := i _ (by decide) (by decide)
  have z1 : I64 4294967296 := i _ (by decide) (by decide)
  have hU := QUnitZ 8589934592 0 0 0 (i _ (by decide) (by decide)) z0 z0 z0 (by decide)
  rw [unit2, unit20] at hU
  exact awake5_core tabP tabT (matQ 0 0 0 4294967296) w hP hT (by decide) (by decide) (by decide) (by decide) (by decide) (by decide) (by decide) (by decide) (fun u h => QMatZ 0 0 0 4294967296 z0 z0 z0 z1 (by decide) u h) hU
    (fun u h => QMulZ 0 4294967296 0 0 0 0 4294967296 0 z0 z1 z0 z0 z0 z0 z1 z0 u h) QOneZ (QCheckZ 2147483647 0 0 0 (i _ (by decide) (by decide)) z0 z0 z0)

end Go.Proofs.YtikmjfepflaokaaDoor

namespace Go.Proofs.YtikmjfepflaokaaDoor
open Go.ChangeShapes Go.WideShapes Go.ChangeAt Go.RowKit
set_option maxRecDepth 4000

theorem chunks {α : Type} (f : α → List Value) (hf : ∀ a, (f a).length = 4) : ∀ (L : List α) (cs : List Value), cs.length = 4 * L.length → (∀ i a, L[i]? = some a → (cs.drop (i * 4)).take 4 = f a) → cs = L.flatMap f
  | [], cs, h, _ => by
    have : cs = [] := List.eq_nil_of_length_eq_zero (by simpa using h)
    rw [this]
    rfl
  | a :: L, cs, h, hs => by
    have h0 := hs 0 a rfl
    simp only [Nat.zero_mul, List.drop_zero] at h0
    have ih := chunks f hf L (cs.drop 4) (by simp only [List.length_drop, List.length_cons] at h ⊢; omega) (fun i b hb => by
      have := hs (i + 1) b (by simpa using hb)
      rw [List.drop_drop, show 4 + i * 4 = (i + 1) * 4 by omega]
      exact this)
    rw [List.flatMap_cons, ← ih, ← h0, List.take_append_drop]
theorem Tryd.cells_qpart : Tryd.prog.cellsOf 86 = 4 := by kernel_rfl
theorem Tryd.cells_qparts : Tryd.prog.cellsOf 94 = 64 := by kernel_rfl
theorem Tryd.cells_qturns : Tryd.prog.cellsOf 87 = 96 := by kernel_rfl
theorem Tryd.cells_int : Tryd.prog.cellsOf 3 = 1 := by kernel_rfl
theorem Tryd.cells_i64 : Tryd.prog.cellsOf 2 = 1 := by kernel_rfl
/-- A table's datum. -/
def datT {H : Type} (L : List (Nat × Int × Nat × Nat)) : DataW H := .agg (L.map fun p => .agg ([(p.1 : Int), p.2.1, (p.2.2.1 : Int), (p.2.2.2 : Int)].map fun z => .lit (.int .i64 z)))
theorem tab_cells {H : Type} {enc' : TypeId × Value → H} {w : World} {base : Nat} {sp : Nat → Bool} {held : Bool} {fuel : Nat} {t : TypeId} {n : Nat} {cs : List Value} {q : List MemPlace} (L : List (Nat × Int × Nat × Nat)) (ht : Tryd.prog.underlying t = some (.array n 86)) (hn : L.length = n) (hct : Tryd.prog.cellsOf t = 4 * n)
    (h : DataW.trod enc' Tryd.prog w base sp held fuel t cs = some (datT L, q)) : cs = L.flatMap fun p => [.int .i64 p.1, .int .i64 p.2.1, .int .i64 p.2.2.1, .int .i64 p.2.2.2] := by
  obtain ⟨_, _, _, _, hl, _, _⟩ := DataW.trod_array ht h
  refine chunks (fun p : Nat × Int × Nat × Nat => [.int .i64 p.1, .int .i64 p.2.1, .int .i64 p.2.2.1, .int .i64 p.2.2.2]) (fun _ => rfl) L cs (by rw [hl, hct, hn]) (fun i p hp => ?_)
  have hi : i < n := by
    have := (List.getElem?_eq_some_iff.1 hp).1
    omega
  obtain ⟨f', d, q', hd, htr⟩ := Lib.array_elem ht h i hi
  rw [List.getElem?_map, hp] at hd
  simp only [Option.map_some, Option.some.injEq] at hd
  subst hd
  rw [Tryd.cells_qpart] at htr
  have hs := Lib.ints_of_struct (k := .i64) Tryd.underlying86 (fun i f hf => by
    rcases (show i = 0 ∨ i = 1 ∨ i = 2 ∨ i = 3 by
      have := (Array.getElem?_eq_some_iff.1 hf).1
      simp at this
      omega) with rfl | rfl | rfl | rfl
    all_goals
      simp at hf
      subst hf
    · exact ⟨Tryd.underlying3, rfl, Tryd.cells_int⟩
    · exact ⟨Tryd.underlying2, rfl, Tryd.cells_i64⟩
    · exact ⟨Tryd.underlying3, rfl, Tryd.cells_int⟩
    · exact ⟨Tryd.underlying3, rfl, Tryd.cells_int⟩) (by rw [Tryd.cells_qpart]; rfl) htr
  rw [hs]
  rfl
theorem tab_of_var {w : World} {name : String} {g : Nat} {cs : Array Value} (hg : Tryd.prog.globalNamed name = some g) (h : w.var? Tryd.prog name = some cs) : Tab g cs w := by
  unfold World.var? at h
  rw [hg] at h
  simp only [Option.bind_some] at h
  split at h
  · rename_i c t fr hh
    simp only [Option.some.injEq] at h
    subst h
    exact ⟨_, _, hh⟩
  · cases h
theorem tabP_laid {w : World} (h : Lib.VarReads Tryd.prog w "ninepin/quat.productParts" (datT ptL)) : Tab 1 tabP w := by
  obtain ⟨g, t, cs, fuel, p, h1, h2, h3, h4⟩ := h
  obtain rfl : 1 = g := Option.some.inj ((show Tryd.prog.globalNamed "ninepin/quat.productParts" = some 1 by kernel_rfl).symm.trans h1)
  obtain rfl : 94 = t := Option.some.inj ((show (Tryd.prog.globals[1]?).map (·.type) = some 94 by kernel_rfl).symm.trans h2)
  have e := tab_cells ptL Tryd.underlying94 rfl Tryd.cells_qparts h4
  have e2 : cs = tabP := by
    apply Array.toList_inj.1
    rw [e]
    rfl
  rw [← e2]
  exact tab_of_var h1 h3
theorem tabT_laid {w : World} (h : Lib.VarReads Tryd.prog w "ninepin/quat.turnParts" (datT tnL)) : Tab 0 tabT w := by
  obtain ⟨g, t, cs, fuel, p, h1, h2, h3, h4⟩ := h
  obtain rfl : 0 = g := Option.some.inj ((show Tryd.prog.globalNamed "ninepin/quat.turnParts" = some 0 by kernel_rfl).symm.trans h1)
  obtain rfl : 87 = t := Option.some.inj ((show (Tryd.prog.globals[0]?).map (·.type) = some 87 by kernel_rfl).symm.trans h2)
  have e := tab_cells tnL Tryd.underlying87 rfl Tryd.cells_qturns h4
  have e2 : cs = tabT := by
    apply Array.toList_inj.1
    rw [e]
    rfl
  rw [← e2]
  exact tab_of_var h1 h3
theorem Tryd.cells_Quat : Tryd.prog.cellsOf 24 = 4 := by kernel_rfl
section
variable {H : Type} {enc' : TypeId × Value → H} {w : World} {base : Nat} {spare : Nat → Bool} {held : Bool}
/-- The quaternion's datum. -/
def datQ (a b c d : Int) : DataW H := .agg [.lit (.int .i64 a), .lit (.int .i64 b), .lit (.int .i64 c), .lit (.int .i64 d)]
theorem shut_quat {a b c d : Int} (ha : (Lit.int .i64 a).wf = true) (hb : (Lit.int .i64 b).wf = true) (hc : (Lit.int .i64 c).wf = true) (hd : (Lit.int .i64 d).wf = true) : DataW.Trod enc' Tryd.prog w base spare held 24 (.agg (q4 a b c d)) (datQ a b c d) [] := by
  refine ⟨2, ?_⟩
  have h := Joins.trod_struct4_mk (enc := enc') (w := w) (base := base) (spare := spare) (held := held) (cs := (q4 a b c d).toList) (n := 1) Tryd.underlying24 (by rw [Tryd.cells_Quat]; rfl) (by rw [Tryd.cells_Fix]; exact trod_fix ha) (by rw [Tryd.cells_Fix]; exact trod_fix hb) (by rw [Tryd.cells_Fix]; exact trod_fix hc) (by rw [Tryd.cells_Fix]; exact trod_fix hd)
  exact h
theorem open_quat {r : Reach} {b0 : Nat} {v : Value} {d : DataW H} {p : List MemPlace} (hv : Value.okWide Tryd.prog w r b0 24 v) (h : DataW.Trod enc' Tryd.prog w base spare held 24 v d p) :
    ∃ a b c e : Int, v = .agg (q4 a b c e) ∧ d = datQ a b c e ∧ p = [] ∧ (Lit.int .i64 a).wf = true ∧ (Lit.int .i64 b).wf = true ∧ (Lit.int .i64 c).wf = true ∧ (Lit.int .i64 e).wf = true := by
  obtain ⟨cs, rfl, hsz⟩ := okWide_struct Tryd.underlying24 hv
  rw [Tryd.cells_Quat] at hsz
  obtain ⟨fuel, hf⟩ := h
  obtain ⟨y0, y1, y2, y3, m, hx, _, h0, h1, h2, h3⟩ := Joins.trod_struct4 Tryd.underlying24 hf
  obtain ⟨x, hc0, hz0, hw0⟩ := DataW.trod_int Tryd.underlying22 h0
  obtain ⟨y, hc1, hz1, hw1⟩ := DataW.trod_int Tryd.underlying22 h1
  obtain ⟨z, hc2, hz2, hw2⟩ := DataW.trod_int Tryd.underlying22 h2
  obtain ⟨t, hc3, hz3, hw3⟩ := DataW.trod_int Tryd.underlying22 h3
  subst hz0 hz1 hz2 hz3
  simp only [Prod.mk.injEq] at hx
  refine ⟨x, y, z, t, ?_, hx.1, hx.2, hw0, hw1, hw2, hw3⟩
  rw [Tryd.cells_Fix] at hc0 hc1 hc2 hc3
  obtain ⟨l⟩ := cs
  match l, hsz with
  | [c0, c1, c2, c3], _ =>
    have e0 : [c0] = [.int .i64 x] := hc0
    have e1 : [c1] = [.int .i64 y] := hc1
    have e2 : [c2] = [.int .i64 z] := hc2
    have e3 : [c3] = [.int .i64 t] := hc3
    simp only [List.cons.injEq, and_true] at e0 e1 e2 e3
    subst e0 e1 e2 e3
    rfl
end

end Go.Proofs.YtikmjfepflaokaaDoor
