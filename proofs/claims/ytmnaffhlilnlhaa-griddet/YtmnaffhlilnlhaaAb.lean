/- Package grid: Check, Round, Value, Less. Package cmp: Compare, Or. Package grid: Cmp. -/
import Derived.Test.YtmnaffhlilnlhaaAa
namespace Go.Proofs.Ytmnaffhlilnlhaa
open Go.RowKit
set_option maxRecDepth 4000
set_option linter.unusedVariables false

theorem exec_loadI {o : Oper} {a : Act} {w : World} {g i : Nat} {z : Int} (x : Operand) (ho : o.op = .load 2 x) (hx : a.eval x = .pointer (some ⟨g, i, none⟩)) (hc : w.cell? ⟨g, i, none⟩ = some (.int .i64 z)) : (execOp a.eval o).run Try.prog w = .ok (.value (.int .i64 z)) w := by
  unfold execOp
  simp only [ho, hx]
  go_simp
theorem exec_loadIG {o : Oper} {a : Act} {w w0 : World} {l : List (Nat × TypeId × Array Value)} (d : Gen w0 l w) {g i : Nat} {t : TypeId} {cs : Array Value} {z : Int} (x : Operand) (ho : o.op = .load 2 x) (hx : a.eval x = .pointer (some ⟨g, i, none⟩)) (hm : (g, t, cs) ∈ l) (hc : cs[i]? = some (.int .i64 z)) :
    (execOp a.eval o).run Try.prog w = .ok (.value (.int .i64 z)) w := exec_loadI x ho hx ((d.blk hm).cell i ▸ hc)
section
variable {ops : Array Oper} {rest : List Oper} {o : Oper} {a : Act} {w w0 : World} {Q : Exit → Act → World → Prop} {l : List (Nat × TypeId × Array Value)} {g : Nat} {t : TypeId} {cs : Array Value}
theorem ldI (d : Gen w0 l w) {i : Nat} {z : Int} (x : Operand) (ho : o.op = .load 2 x) (hgd : o.guard = none) (hx : a.eval x = .pointer (some ⟨g, i, none⟩)) (hm : (g, t, cs) ∈ l) (hc : cs[i]? = some (.int .i64 z))
    (h : wpList Try.prog ops Q rest (a.put o.dst (.int .i64 z)) w) : wpList Try.prog ops Q (o :: rest) a w := wpList_value hgd (exec_loadIG d x ho hx hm hc) h
theorem ldFx (d : Gen w0 l w) {i : Nat} {z : Int} (x : Operand) (ho : o.op = .load 22 x) (hgd : o.guard = none) (hx : a.eval x = .pointer (some ⟨g, i, none⟩)) (hm : (g, t, cs) ∈ l) (hc : cs[i]? = some (.int .i64 z))
    (h : wpList Try.prog ops Q rest (a.put o.dst (.int .i64 z)) w) : wpList Try.prog ops Q (o :: rest) a w := wpList_value hgd (exec_loadFG d x ho hx hm hc) h
theorem exec_bdPt {o : Oper} {a : Act} (w : World) (p q r : Operand) {x y z : Int} (ho : o.op = .build 26 #[(0, p), (1, q), (2, r)]) (hx : a.eval p = .int .i64 x) (hy : a.eval q = .int .i64 y) (hz : a.eval r = .int .i64 z) :
    (execOp a.eval o).run Try.prog w = .ok (.value (.agg (v3 x y z))) w := exec_build3 w 26 p q r ho hx hy hz (by kernel_rfl)
theorem bdPt (p q r : Operand) {x y z : Int} (ho : o.op = .build 26 #[(0, p), (1, q), (2, r)]) (hgd : o.guard = none) (hx : a.eval p = .int .i64 x) (hy : a.eval q = .int .i64 y) (hz : a.eval r = .int .i64 z)
    (h : wpList Try.prog ops Q rest (a.put o.dst (.agg (v3 x y z))) w) : wpList Try.prog ops Q (o :: rest) a w := wpList_value hgd (exec_bdPt w p q r ho hx hy hz) h
theorem exec_bdVec {o : Oper} {a : Act} (w : World) (p q r : Operand) {x y z : Int} (ho : o.op = .build 24 #[(0, p), (1, q), (2, r)]) (hx : a.eval p = .int .i64 x) (hy : a.eval q = .int .i64 y) (hz : a.eval r = .int .i64 z) :
    (execOp a.eval o).run Try.prog w = .ok (.value (.agg (v3 x y z))) w := exec_build3 w 24 p q r ho hx hy hz (by kernel_rfl)
theorem bdVec (p q r : Operand) {x y z : Int} (ho : o.op = .build 24 #[(0, p), (1, q), (2, r)]) (hgd : o.guard = none) (hx : a.eval p = .int .i64 x) (hy : a.eval q = .int .i64 y) (hz : a.eval r = .int .i64 z)
    (h : wpList Try.prog ops Q rest (a.put o.dst (.agg (v3 x y z))) w) : wpList Try.prog ops Q (o :: rest) a w := wpList_value hgd (exec_bdVec w p q r ho hx hy hz) h
end
theorem v3_one' (x y z : Int) : (v3 x y z).all (·.oneCell') = true := by simp [Value.oneCell']

/-- Three values out of their slots. -/
theorem resT3 {P : Program} {fn : Func} {R : Ending → World → Prop} {p q r : Tmp} {a : Act} {w : World} {u v t : Value} (h : fn.results = #[.tmp p, .tmp q, .tmp r]) (hp : a.tmps.getD p undef = u) (hq : a.tmps.getD q undef = v) (hr : a.tmps.getD r undef = t) (hdf : a.defers = [])
    (hR : R (.returned (.tuple #[u, v, t])) w) : bodyPost P fn R .ret a w := by
  refine bodyPost_ret ?_ hdf hR
  have hp' : a.tmps[p]?.getD undef = u := by simpa using hp
  have hq' : a.tmps[q]?.getD undef = v := by simpa using hq
  have hr' : a.tmps[r]?.getD undef = t := by simpa using hr
  simp [results, h, hp', hq', hr']

/-- The nearest number of a point. -/
def near (z : Int) : Int := (z + 32768) / 65536
theorem near_core (x v : Int) (w : World) (h : Hid (wrap64 (x / 65536 + bits .and .i64 (x / 32768) 1) = v)) :
    Calls Try.prog 46 #[.int .i64 x] w fun e w' => e = .returned (.int .i64 v) ∧ Below w.heap.size w w' := by
  go_enter Try.func46, Try.ntmps46
  go_wp2
  go_ret
  exact ⟨congrArg (fun z => Ending.returned (.int .i64 z)) (unhide h), Below.refl _ _⟩
theorem each_near (x y z : Int) (a b c : Int) (w : World) (h1 : Hid (Ans 46 #[.int .i64 x] (.int .i64 a))) (h2 : Hid (Ans 46 #[.int .i64 y] (.int .i64 b))) (h3 : Hid (Ans 46 #[.int .i64 z] (.int .i64 c))) :
    Calls Try.prog 45 #[.int .i64 x, .int .i64 y, .int .i64 z, .func (Fn.func 46) #[] #[]] w fun e w' => e = .returned (.tuple #[.int .i64 a, .int .i64 b, .int .i64 c]) ∧ Below w.heap.size w w' := by
  have D := hide (Gen.start w)
  go_enter Try.func45, Try.ntmps45
  go_wp2_with (first | (go_at_call 46; with_reducible refine (unhide h1 _).mono ?_; rintro e w' ⟨he, hb⟩; subst he; have D := hide ((unhide D).keep hb); clear hb) | (go_at_call 46; with_reducible refine (unhide h2 _).mono ?_; rintro e w' ⟨he, hb⟩; subst he; have D := hide ((unhide D).keep hb); clear hb) | (go_at_call 46; with_reducible refine (unhide h3 _).mono ?_; rintro e w' ⟨he, hb⟩; subst he; have D := hide ((unhide D).keep hb); clear hb))
  exact resT3 rfl rfl rfl rfl rfl ⟨rfl, (unhide D).o⟩
def mayI (z : Int) : Bool := decide (-268435456 ≤ z) && decide (z ≤ 268435456)
theorem may_core (x : Int) (w : World) :
    Calls Try.prog 54 #[.int .i64 x] w fun e w' => e = .returned (.bool (mayI x)) ∧ Below w.heap.size w w' := by
  unfold mayI
  go_enter Try.func54, Try.ntmps54
  by_cases h : -268435456 ≤ x
  · go_wp2
    go_ret
    exact ⟨by simp [h], Below.refl _ _⟩
  · have hd := hide (decide_eq_false h)
    go_wp2
    go_ret
    exact ⟨by rw [unhide hd]; rfl, Below.refl _ _⟩
theorem each_may (x y z : Int) (a b c : Bool) (w : World) (h1 : Hid (Ans 54 #[.int .i64 x] (.bool a))) (h2 : Hid (Ans 54 #[.int .i64 y] (.bool b))) (h3 : Hid (Ans 54 #[.int .i64 z] (.bool c))) :
    Calls Try.prog 53 #[.int .i64 x, .int .i64 y, .int .i64 z, .func (Fn.func 54) #[] #[]] w fun e w' => e = .returned (.tuple #[.bool a, .bool b, .bool c]) ∧ Below w.heap.size w w' := by
  have D := hide (Gen.start w)
  go_enter Try.func53, Try.ntmps53
  go_wp2_with (first | (go_at_call 54; with_reducible refine (unhide h1 _).mono ?_; rintro e w' ⟨he, hb⟩; subst he; have D := hide ((unhide D).keep hb); clear hb) | (go_at_call 54; with_reducible refine (unhide h2 _).mono ?_; rintro e w' ⟨he, hb⟩; subst he; have D := hide ((unhide D).keep hb); clear hb) | (go_at_call 54; with_reducible refine (unhide h3 _).mono ?_; rintro e w' ⟨he, hb⟩; subst he; have D := hide ((unhide D).keep hb); clear hb))
  exact resT3 rfl rfl rfl rfl rfl ⟨rfl, (unhide D).o⟩
theorem check_tt (x y z : Int) (c : Bool) (w : World) (hE : Hid (Ans 53 #[.int .i64 x, .int .i64 y, .int .i64 z, .func (Fn.func 54) #[] #[]] (.tuple #[.bool true, .bool true, .bool c]))) :
    Calls Try.prog 18 #[.agg (v3 x y z)] w fun e w' => e = .returned (.int .i64 (if (true && true) && c then 0 else 7)) ∧ Below w.heap.size w w' := by
  go_enter Try.func18, Try.ntmps18
  go_upto_region 1 with fail
  have D := hide ((Gen.start w).push 26 (v3 x y z))
  cases c
  · go_wp2_with (first | (with_reducible refine at_list ?_;  apply ldI (unhide D) _ rfl rfl rfl (by repeat (first | exact List.mem_cons_self | apply List.mem_cons_of_mem)) rfl) | (go_at_call 53; with_reducible refine (unhide hE _).mono ?_; rintro e w' ⟨he, hb⟩; subst he; have D := hide ((unhide D).keep hb); clear hb))
    go_ret
    exact ⟨rfl, (unhide D).o⟩
  · go_wp2_with (first | (with_reducible refine at_list ?_;  apply ldI (unhide D) _ rfl rfl rfl (by repeat (first | exact List.mem_cons_self | apply List.mem_cons_of_mem)) rfl) | (go_at_call 53; with_reducible refine (unhide hE _).mono ?_; rintro e w' ⟨he, hb⟩; subst he; have D := hide ((unhide D).keep hb); clear hb))
    go_ret
    exact ⟨rfl, (unhide D).o⟩
theorem check_tf (x y z : Int) (c : Bool) (w : World) (hE : Hid (Ans 53 #[.int .i64 x, .int .i64 y, .int .i64 z, .func (Fn.func 54) #[] #[]] (.tuple #[.bool true, .bool false, .bool c]))) :
    Calls Try.prog 18 #[.agg (v3 x y z)] w fun e w' => e = .returned (.int .i64 (if (true && false) && c then 0 else 7)) ∧ Below w.heap.size w w' := by
  go_enter Try.func18, Try.ntmps18
  go_upto_region 1 with fail
  have D := hide ((Gen.start w).push 26 (v3 x y z))
  cases c
  · go_wp2_with (first | (with_reducible refine at_list ?_;  apply ldI (unhide D) _ rfl rfl rfl (by repeat (first | exact List.mem_cons_self | apply List.mem_cons_of_mem)) rfl) | (go_at_call 53; with_reducible refine (unhide hE _).mono ?_; rintro e w' ⟨he, hb⟩; subst he; have D := hide ((unhide D).keep hb); clear hb))
    go_ret
    exact ⟨rfl, (unhide D).o⟩
  · go_wp2_with (first | (with_reducible refine at_list ?_;  apply ldI (unhide D) _ rfl rfl rfl (by repeat (first | exact List.mem_cons_self | apply List.mem_cons_of_mem)) rfl) | (go_at_call 53; with_reducible refine (unhide hE _).mono ?_; rintro e w' ⟨he, hb⟩; subst he; have D := hide ((unhide D).keep hb); clear hb))
    go_ret
    exact ⟨rfl, (unhide D).o⟩
theorem check_ft (x y z : Int) (c : Bool) (w : World) (hE : Hid (Ans 53 #[.int .i64 x, .int .i64 y, .int .i64 z, .func (Fn.func 54) #[] #[]] (.tuple #[.bool false, .bool true, .bool c]))) :
    Calls Try.prog 18 #[.agg (v3 x y z)] w fun e w' => e = .returned (.int .i64 (if (false && true) && c then 0 else 7)) ∧ Below w.heap.size w w' := by
  go_enter Try.func18, Try.ntmps18
  go_upto_region 1 with fail
  have D := hide ((Gen.start w).push 26 (v3 x y z))
  cases c
  · go_wp2_with (first | (with_reducible refine at_list ?_;  apply ldI (unhide D) _ rfl rfl rfl (by repeat (first | exact List.mem_cons_self | apply List.mem_cons_of_mem)) rfl) | (go_at_call 53; with_reducible refine (unhide hE _).mono ?_; rintro e w' ⟨he, hb⟩; subst he; have D := hide ((unhide D).keep hb); clear hb))
    go_ret
    exact ⟨rfl, (unhide D).o⟩
  · go_wp2_with (first | (with_reducible refine at_list ?_;  apply ldI (unhide D) _ rfl rfl rfl (by repeat (first | exact List.mem_cons_self | apply List.mem_cons_of_mem)) rfl) | (go_at_call 53; with_reducible refine (unhide hE _).mono ?_; rintro e w' ⟨he, hb⟩; subst he; have D := hide ((unhide D).keep hb); clear hb))
    go_ret
    exact ⟨rfl, (unhide D).o⟩
theorem check_ff (x y z : Int) (c : Bool) (w : World) (hE : Hid (Ans 53 #[.int .i64 x, .int .i64 y, .int .i64 z, .func (Fn.func 54) #[] #[]] (.tuple #[.bool false, .bool false, .bool c]))) :
    Calls Try.prog 18 #[.agg (v3 x y z)] w fun e w' => e = .returned (.int .i64 (if (false && false) && c then 0 else 7)) ∧ Below w.heap.size w w' := by
  go_enter Try.func18, Try.ntmps18
  go_upto_region 1 with fail
  have D := hide ((Gen.start w).push 26 (v3 x y z))
  cases c
  · go_wp2_with (first | (with_reducible refine at_list ?_;  apply ldI (unhide D) _ rfl rfl rfl (by repeat (first | exact List.mem_cons_self | apply List.mem_cons_of_mem)) rfl) | (go_at_call 53; with_reducible refine (unhide hE _).mono ?_; rintro e w' ⟨he, hb⟩; subst he; have D := hide ((unhide D).keep hb); clear hb))
    go_ret
    exact ⟨rfl, (unhide D).o⟩
  · go_wp2_with (first | (with_reducible refine at_list ?_;  apply ldI (unhide D) _ rfl rfl rfl (by repeat (first | exact List.mem_cons_self | apply List.mem_cons_of_mem)) rfl) | (go_at_call 53; with_reducible refine (unhide hE _).mono ?_; rintro e w' ⟨he, hb⟩; subst he; have D := hide ((unhide D).keep hb); clear hb))
    go_ret
    exact ⟨rfl, (unhide D).o⟩
/-- May the point be? -/
def chkP (x y z : Int) : Bool := mayI x && mayI y && mayI z
theorem CheckZ (x y z : Int) : Ans 18 #[.agg (v3 x y z)] (.int .i64 (if chkP x y z then 0 else 7)) := by
  intro w
  have h := fun u => each_may x y z (mayI x) (mayI y) (mayI z) u (may_core x) (may_core y) (may_core z)
  unfold chkP
  generalize mayI x = a at *
  generalize mayI y = b at *
  generalize mayI z = c at *
  cases a <;> cases b
  · exact check_ff x y z c w h
  · exact check_ft x y z c w h
  · exact check_tf x y z c w h
  · exact check_tt x y z c w h

theorem and_one (x : Int) : bits .and .i64 x 1 = x % 2 := by
  have h : bits .and .i64 x 1 = IntKind.i64.wrap (((BitVec.ofInt 64 x &&& BitVec.ofInt 64 1).toNat : Nat) : Int) := rfl
  have e : (BitVec.ofInt 64 x &&& BitVec.ofInt 64 1).toNat = (x % 2).toNat := by
    rw [BitVec.toNat_and, show (BitVec.ofInt 64 1).toNat = 1 from rfl, Nat.and_one_is_mod, BitVec.toNat_ofInt]
    have h1 : x % 2 = 0 ∨ x % 2 = 1 := by omega
    have h2 : (0 : Int) ≤ x % 18446744073709551616 := Int.emod_nonneg _ (by decide)
    show (x % 18446744073709551616).toNat % 2 = (x % 2).toNat
    omega
  rw [h, e]
  rcases (show x % 2 = 0 ∨ x % 2 = 1 by omega) with h | h <;> rw [h] <;> rfl
theorem near_spec (x : Int) (hx : I64 x) : wrap64 (x / 65536 + bits .and .i64 (x / 32768) 1) = near x := by
  rw [and_one]
  unfold near
  obtain ⟨h0, h1⟩ := hx
  have e : x / 65536 + x / 32768 % 2 = (x + 32768) / 65536 := by omega
  rw [e, wrap_self ⟨by omega, by omega⟩]
theorem NearZ' (x : Int) (hx : I64 x) : Ans 46 #[.int .i64 x] (.int .i64 (near x)) := fun w => near_core x _ w (near_spec x hx)
theorem near_64 {x : Int} (hx : I64 x) : I64 (near x) := by
  obtain ⟨h0, h1⟩ := hx
  unfold near
  exact ⟨by omega, by omega⟩

set_option maxHeartbeats 1000000 in
theorem round_ok (x y z a b c : Int) (w : World) (hE : Hid (Ans 45 #[.int .i64 x, .int .i64 y, .int .i64 z, .func (Fn.func 46) #[] #[]] (.tuple #[.int .i64 a, .int .i64 b, .int .i64 c])))
    (hC : Hid (Ans 18 #[.agg (v3 a b c)] (.int .i64 0))) :
    Calls Try.prog 14 #[.agg (v3 x y z)] w fun e w' => e = .returned (.tuple #[.agg (v3 a b c), .int .i64 0]) ∧ Below w.heap.size w w' := by
  go_enter Try.func14, Try.ntmps14
  go_upto_region 1 with fail
  have D := hide (((Gen.start w).push 24 (v3 x y z)).push 26 (v3 0 0 0))
  simp only [szA] at D
  go_wp2_with (first | (with_reducible refine at_list ?_;  apply ldFx (unhide D) _ rfl rfl rfl (by repeat (first | exact List.mem_cons_self | apply List.mem_cons_of_mem)) rfl) | (go_at_call 45; with_reducible refine (unhide hE _).mono ?_; rintro e w' ⟨he, hb⟩; subst he; have D := hide ((unhide D).keep hb); clear hb) | (with_reducible refine at_list ?_;  refine bdPt _ _ _ rfl rfl rfl rfl rfl ?_) | (with_reducible refine at_list ?_; refine stG (unhide D) rPoint _ _ rfl rfl rfl rfl rfl rfl (v3_one' _ _ _) ?_; intro D'; have D := hide D'; clear D') | (with_reducible refine at_list ?_; apply ldG (unhide D) rPoint _ rfl rfl rfl (by repeat (first | exact List.mem_cons_self | apply List.mem_cons_of_mem)) rfl) | (go_at_call 18; with_reducible refine (unhide hC _).mono ?_; rintro e w' ⟨he, hb⟩; subst he; have D := hide ((unhide D).keep hb); clear hb) | (with_reducible refine at_list ?_; apply stGend (unhide D) rPoint _ _ rfl rfl rfl rfl (by repeat (first | exact List.mem_cons_self | apply List.mem_cons_of_mem)) (by omega) rfl rfl (v3_one' _ _ _); intro B O))
  exact resGT rPoint (unhide B) rfl rfl rfl rfl rfl ⟨rfl, unhide O⟩
set_option maxHeartbeats 1000000 in
theorem round_no (x y z a b c : Int) (w : World) (hE : Hid (Ans 45 #[.int .i64 x, .int .i64 y, .int .i64 z, .func (Fn.func 46) #[] #[]] (.tuple #[.int .i64 a, .int .i64 b, .int .i64 c])))
    (hC : Hid (Ans 18 #[.agg (v3 a b c)] (.int .i64 7))) :
    Calls Try.prog 14 #[.agg (v3 x y z)] w fun e w' => e = .returned (.tuple #[.agg (v3 0 0 0), .int .i64 7]) ∧ Below w.heap.size w w' := by
  go_enter Try.func14, Try.ntmps14
  go_upto_region 1 with fail
  have D := hide (((Gen.start w).push 24 (v3 x y z)).push 26 (v3 0 0 0))
  simp only [szA] at D
  go_wp2_with (first | (with_reducible refine at_list ?_;  apply ldFx (unhide D) _ rfl rfl rfl (by repeat (first | exact List.mem_cons_self | apply List.mem_cons_of_mem)) rfl) | (go_at_call 45; with_reducible refine (unhide hE _).mono ?_; rintro e w' ⟨he, hb⟩; subst he; have D := hide ((unhide D).keep hb); clear hb) | (with_reducible refine at_list ?_;  refine bdPt _ _ _ rfl rfl rfl rfl rfl ?_) | (with_reducible refine at_list ?_; refine stG (unhide D) rPoint _ _ rfl rfl rfl rfl rfl rfl (v3_one' _ _ _) ?_; intro D'; have D := hide D'; clear D') | (with_reducible refine at_list ?_; apply ldG (unhide D) rPoint _ rfl rfl rfl (by repeat (first | exact List.mem_cons_self | apply List.mem_cons_of_mem)) rfl) | (go_at_call 18; with_reducible refine (unhide hC _).mono ?_; rintro e w' ⟨he, hb⟩; subst he; have D := hide ((unhide D).keep hb); clear hb) | (with_reducible refine at_list ?_; apply stGend (unhide D) rPoint _ _ rfl rfl rfl rfl (by repeat (first | exact List.mem_cons_self | apply List.mem_cons_of_mem)) (by omega) rfl rfl (v3_one' _ _ _); intro B O))
  exact resGT rPoint (unhide B) rfl rfl rfl rfl rfl ⟨rfl, unhide O⟩
theorem RoundZ (x y z : Int) (hx : I64 x) (hy : I64 y) (hz : I64 z) : Ans 14 #[.agg (v3 x y z)] (if chkP (near x) (near y) (near z) then .tuple #[.agg (v3 (near x) (near y) (near z)), .int .i64 0] else .tuple #[.agg (v3 0 0 0), .int .i64 7]) := by
  intro w
  have hE := fun u => each_near x y z _ _ _ u (NearZ' x hx) (NearZ' y hy) (NearZ' z hz)
  have hC := CheckZ (near x) (near y) (near z)
  split
  · rename_i h
    rw [if_pos h] at hC
    exact round_ok x y z _ _ _ w hE hC
  · rename_i h
    rw [if_neg h] at hC
    exact round_no x y z _ _ _ w hE hC

end Go.Proofs.Ytmnaffhlilnlhaa
