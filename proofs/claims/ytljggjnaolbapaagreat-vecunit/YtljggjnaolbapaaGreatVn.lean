/- Package vec: share. Package vec: Unit's closure. Package vec: vectors held against each other; Unit. -/
import Derived.Test.YtljggjnaolbapaaGreatVj
namespace Go.Proofs.YtljggjnaolbapaaGreat
open Go.RowKit
set_option maxRecDepth 4000
set_option linter.unusedVariables false

theorem exec_bs1 {o : Oper} {a : Act} (w : World) (p : Operand) {x1 y1 : Nat} (ho : o.op = .buildSlice 110 1 #[(0, p)]) (hp : a.eval p = .agg (c16 x1 y1)) :
    (execOp a.eval o).run Tryz.prog w = .ok (.value (.slice (some ⟨w.heap.size, 0, none⟩) 1 1)) (w.alloc (.cells (prs [(x1, y1)]).toArray 58)) := by
  unfold execOp
  have e : (#[(0, p)].map fun (i, x) => (i, a.eval x)) = #[(0, .agg (c16 x1 y1))] := by simp [hp]
  simp only [ho, Sem.run_bind, e, bs1, Result.andThen_ok, Sem.run_pure]
theorem wpList_turns {ops : Array Oper} {rest : List Oper} {o : Oper} {a : Act} {w w' : World} {Q : Exit → Act → World → Prop} {v : Value} (hgd : o.guard = none) (he : (execOp a.eval o).run Tryz.prog w = .ok (.value v) w')
    (h : wpList Tryz.prog ops Q rest (a.put o.dst v) w') : wpList Tryz.prog ops Q (o :: rest) a w :=
  wpList_plain hgd fun K hK => by
    unfold Oper.wp
    rw [he]
    exact hK _ _ h
set_option maxHeartbeats 2000000 in
theorem share_neg (x v r : Int) (A n s p f : Nat) (E b : Bool) (w : World) (hx : x < 0) (hr : wrap64 (-v) = r) (t1 : Hid (Ans 51 #[.int .i64 x, .int .i64 x] (.agg (c16 A A))))
    (hB : Hid (∀ u g, Blk u g 58 (prs [(A, A)]).toArray → Calls Tryz.prog 74 #[.slice (some ⟨g, 0, none⟩) 1 1] u fun e w' => e = .returned (.agg (cells8 s)) ∧ Below u.heap.size u w'))
    (hS : Hid (Ans 123 #[.agg (cells8 s), .int .i64 64] (.tuple #[.agg (cells8 p), .bool E])))
    (hR : Hid (Ans 115 #[.agg (cells8 p), .agg (cells8 n)] (.agg (c9 f b)))) (hU : Hid (Ans 65 #[.agg (c9 f b)] (.int .i64 v))) :
    Calls Tryz.prog 68 #[.int .i64 x, .agg (cells8 n)] w fun e w' => e = .returned (.int .i64 r) ∧ Below w.heap.size w w' := by
  subst hr
  go_enter Tryz.func68, Tryz.ntmps68
  go_upto_region 1 with fail
  have D := hide ((Gen.start w).push 56 (cells8 n))
  go_upto_region 2 with (first | (go_at_call 51; with_reducible refine (unhide t1 _).mono ?_; rintro e w' ⟨he, hb⟩; subst he; have D := hide ((unhide D).keep hb); clear hb) | (with_reducible refine at_list ?_;  refine wpList_turns rfl (exec_bs1 _ (.tmp 11) rfl rfl) ?_; have D := hide ((unhide D).push 58 (prs [(A, A)]).toArray)) | (go_at_call 74; refine (unhide hB _ _ ((unhide D).blk List.mem_cons_self)).mono ?_; rintro e w' ⟨he, hb⟩; subst he; have D := hide ((unhide D).keep hb); clear hb) | (go_at_call 123; with_reducible refine (unhide hS _).mono ?_; rintro e w' ⟨he, hb⟩; subst he; have D := hide ((unhide D).keep hb); clear hb) | (with_reducible refine at_list ?_; refine stG (unhide D) rWide _ _ rfl rfl rfl rfl rfl rfl (cells8_one _) ?_; intro D'; have D := hide D'; clear D'))
  go_upto_region 3 with (first | (with_reducible refine at_list ?_; apply ldG (unhide D) rWide _ rfl rfl rfl (by repeat (first | exact List.mem_cons_self | apply List.mem_cons_of_mem)) rfl) | (go_at_call 115; with_reducible refine (unhide hR _).mono ?_; rintro e w' ⟨he, hb⟩; subst he; have D := hide ((unhide D).keep hb); clear hb) | (with_reducible refine at_list ?_; refine stG (unhide D) rRoot _ _ rfl rfl rfl rfl rfl rfl (c9_one _ _) ?_; intro D'; have D := hide D'; clear D'))
  go_wp2_with (first | (with_reducible refine at_list ?_; apply ldG (unhide D) rRoot _ rfl rfl rfl (by repeat (first | exact List.mem_cons_self | apply List.mem_cons_of_mem)) rfl) | (go_at_call 65; with_reducible refine (unhide hU _).mono ?_; rintro e w' ⟨he, hb⟩; subst he; have D := hide ((unhide D).keep hb); clear hb))
  go_ret
  exact ⟨rfl, (unhide D).o⟩
set_option maxHeartbeats 2000000 in
theorem share_pos (x v r : Int) (A n s p f : Nat) (E b : Bool) (w : World) (hx : ¬ x < 0) (hr : v = r) (t1 : Hid (Ans 51 #[.int .i64 x, .int .i64 x] (.agg (c16 A A))))
    (hB : Hid (∀ u g, Blk u g 58 (prs [(A, A)]).toArray → Calls Tryz.prog 74 #[.slice (some ⟨g, 0, none⟩) 1 1] u fun e w' => e = .returned (.agg (cells8 s)) ∧ Below u.heap.size u w'))
    (hS : Hid (Ans 123 #[.agg (cells8 s), .int .i64 64] (.tuple #[.agg (cells8 p), .bool E])))
    (hR : Hid (Ans 115 #[.agg (cells8 p), .agg (cells8 n)] (.agg (c9 f b)))) (hU : Hid (Ans 59 #[.agg (c9 f b)] (.int .i64 v))) :
    Calls Tryz.prog 68 #[.int .i64 x, .agg (cells8 n)] w fun e w' => e = .returned (.int .i64 r) ∧ Below w.heap.size w w' := by
  subst hr
  go_enter Tryz.func68, Tryz.ntmps68
  go_upto_region 1 with fail
  have D := hide ((Gen.start w).push 56 (cells8 n))
  go_upto_region 2 with (first | (go_at_call 51; with_reducible refine (unhide t1 _).mono ?_; rintro e w' ⟨he, hb⟩; subst he; have D := hide ((unhide D).keep hb); clear hb) | (with_reducible refine at_list ?_;  refine wpList_turns rfl (exec_bs1 _ (.tmp 11) rfl rfl) ?_; have D := hide ((unhide D).push 58 (prs [(A, A)]).toArray)) | (go_at_call 74; refine (unhide hB _ _ ((unhide D).blk List.mem_cons_self)).mono ?_; rintro e w' ⟨he, hb⟩; subst he; have D := hide ((unhide D).keep hb); clear hb) | (go_at_call 123; with_reducible refine (unhide hS _).mono ?_; rintro e w' ⟨he, hb⟩; subst he; have D := hide ((unhide D).keep hb); clear hb) | (with_reducible refine at_list ?_; refine stG (unhide D) rWide _ _ rfl rfl rfl rfl rfl rfl (cells8_one _) ?_; intro D'; have D := hide D'; clear D'))
  go_upto_region 3 with (first | (with_reducible refine at_list ?_; apply ldG (unhide D) rWide _ rfl rfl rfl (by repeat (first | exact List.mem_cons_self | apply List.mem_cons_of_mem)) rfl) | (go_at_call 115; with_reducible refine (unhide hR _).mono ?_; rintro e w' ⟨he, hb⟩; subst he; have D := hide ((unhide D).keep hb); clear hb) | (with_reducible refine at_list ?_; refine stG (unhide D) rRoot _ _ rfl rfl rfl rfl rfl rfl (c9_one _ _) ?_; intro D'; have D := hide D'; clear D'))
  go_wp2_with (first | (with_reducible refine at_list ?_; apply ldG (unhide D) rRoot _ rfl rfl rfl (by repeat (first | exact List.mem_cons_self | apply List.mem_cons_of_mem)) rfl) | (go_at_call 59; with_reducible refine (unhide hU _).mono ?_; rintro e w' ⟨he, hb⟩; subst he; have D := hide ((unhide D).keep hb); clear hb))
  go_ret
  exact ⟨rfl, (unhide D).o⟩
/-- A share. -/
def shI (x n : Int) : Int := if x < 0 then wrap64 (-(upR (x * x * ((2 ^ (64 : Int).toNat : Nat) : Int)) n)) else inI (rfl' (x * x * ((2 ^ (64 : Int).toNat : Nat) : Int)) n) 32
theorem OneProd (x : Int) (h : I64 x) (u : World) (p : Nat) (hB : Blk u p 58 (prs [(enc x, enc x)]).toArray) :
    Calls Tryz.prog 74 #[.slice (some ⟨p, 0, none⟩) 1 1] u fun e w' => e = .returned (V (x * x)) ∧ Below u.heap.size u w' := by
  have k := SumZ 1 p (nth3 x 0 0) (nth3 x 0 0) u (by decide) hB.lt (fun k hk => ?_) (fun k hk => ?_) (fun k hk => ?_)
  · have e : dotZ (nth3 x 0 0) (nth3 x 0 0) 1 = x * x := by
      show 0 + x * x = _
      rw [Int.zero_add]
    rw [e] at k
    exact k
  · rw [show k = 0 by omega]; exact h.sz.mono (by decide)
  · rw [show k = 0 by omega]; exact h.sz.mono (by decide)
  · refine prs_range hB ?_
    rw [show k = 0 by omega]; rfl
theorem sq_nn (x : Int) : 0 ≤ x * x := by
  rcases Int.le_total 0 x with h | h
  · exact Int.mul_nonneg h h
  · exact Int.mul_nonneg_of_nonpos_of_nonpos h h
theorem ShareZ (x n : Int) (hx : I64 x) (h0 : 0 < n) (hn : Sz 140 n) : Ans 68 #[.int .i64 x, V n] (.int .i64 (shI x n)) := by
  intro w
  have hp : Sz 191 (x * x * ((2 ^ (64 : Int).toNat : Nat) : Int)) := ((hx.sz.mul hx.sz).mul (show Sz 64 _ by unfold Sz; decide)).mono (by decide)
  have hp0 : 0 ≤ x * x * ((2 ^ (64 : Int).toNat : Nat) : Int) := Int.mul_nonneg (sq_nn x) (by decide)
  have hS : Ans 123 #[V (x * x), .int .i64 64] (.tuple #[V (x * x * ((2 ^ (64 : Int).toNat : Nat) : Int)), .bool true]) := by
    intro u
    have k := ShlZ (x * x) 64 (((hx.sz.mul hx.sz)).fit (by decide)) (by decide) (by decide) u
    rw [fit_true (hp.fit (by decide))] at k
    exact k
  have hR := RootOfZ _ n hp0 h0 hp hn (by decide)
  unfold shI
  by_cases h : x < 0
  · rw [if_pos h]
    exact share_neg x _ _ (enc x) (enc n) _ _ _ true _ w h rfl (TimesZ x x hx hx) (fun u g hB => OneProd x hx u g hB) hS hR (RootUpZ _ n h0 hp (by decide))
  · rw [if_neg h]
    exact share_pos x _ _ (enc x) (enc n) _ _ _ true _ w h rfl (TimesZ x x hx hx) (fun u g hB => OneProd x hx u g hB) hS hR (RootDownZ _ _ ((rfl_sz hp h0).fit (by decide)))

end Go.Proofs.YtljggjnaolbapaaGreat

namespace Go.Proofs.YtljggjnaolbapaaGreat
open Go.RowKit
set_option maxRecDepth 4000
set_option linter.unusedVariables false

theorem clos_Unit_X (ax ay az r : Int) (n g0 g1 : Nat) (u : World) (h0 : Blk u g0 24 (v3 ax ay az)) (h1 : Blk u g1 56 (cells8 n)) (hF : Hid (Ans 68 #[.int .i64 ax, .agg (cells8 n)] (.int .i64 r))) :
    Calls Tryz.prog 67 #[.func (Fn.func 75) #[] #[], .pointer (some ⟨g0, 0, none⟩), .pointer (some ⟨g1, 0, none⟩)] u fun e w' => e = .returned (.int .i64 r) ∧ Below u.heap.size u w' := by
  have D := hide (Gen.two h0 h1)
  clear h0 h1
  go_enter Tryz.func67, Tryz.ntmps67
  go_upto_region 1 with fail
  refine region_plan (S := Gen u _) (l := [0, 1, 2, 3, 4, 5]) (by kernel_rfl) (by kernel_rfl) (by kernel_rfl) (by kernel_rfl) (by kernel_rfl) (by kernel_rfl) (by kernel_rfl) (unhide D).drew ?_
  clear D
  refine plan_read (v := ?_) rfl rfl (fun u hS => by go_simp; rfl) ?_
  go_simp
  refine plan_read (v := .agg (v3 ax ay az)) rfl rfl (fun u hS => exec_loadG hS rVec _ rfl rfl (by repeat (first | exact List.mem_cons_self | apply List.mem_cons_of_mem)) rfl) ?_
  go_simp
  refine plan_call (v := .int .i64 ax) (f := 75) (args := #[.agg (v3 ax ay az)]) rfl rfl (fun u hS => by go_simp) (fun u hS => (alongX ax ay az u).mono fun _ _ ⟨he, hb⟩ => ⟨he, hS.keep hb⟩) ?_
  go_simp
  refine plan_read (v := .agg (cells8 n)) rfl rfl (fun u hS => exec_loadG hS rWide _ rfl rfl (by repeat (first | exact List.mem_cons_self | apply List.mem_cons_of_mem)) rfl) ?_
  go_simp
  refine plan_call (v := .int .i64 r) (f := 68) (args := #[.int .i64 ax, .agg (cells8 n)]) rfl rfl (fun u hS => by go_simp) (fun u hS => (unhide hF u).mono fun _ _ ⟨he, hb⟩ => ⟨he, hS.keep hb⟩) ?_
  go_simp
  refine plan_read (v := ?_) rfl rfl (fun u hS => by go_simp; rfl) ?_
  go_simp
  refine plan_end (fun u hS => ?_)
  have O := hide hS.o
  clear hS
  go_wp2
  go_ret
  exact ⟨rfl, unhide O⟩

theorem clos_Unit_Y (ax ay az r : Int) (n g0 g1 : Nat) (u : World) (h0 : Blk u g0 24 (v3 ax ay az)) (h1 : Blk u g1 56 (cells8 n)) (hF : Hid (Ans 68 #[.int .i64 ay, .agg (cells8 n)] (.int .i64 r))) :
    Calls Tryz.prog 67 #[.func (Fn.func 76) #[] #[], .pointer (some ⟨g0, 0, none⟩), .pointer (some ⟨g1, 0, none⟩)] u fun e w' => e = .returned (.int .i64 r) ∧ Below u.heap.size u w' := by
  have D := hide (Gen.two h0 h1)
  clear h0 h1
  go_enter Tryz.func67, Tryz.ntmps67
  go_upto_region 1 with fail
  refine region_plan (S := Gen u _) (l := [0, 1, 2, 3, 4, 5]) (by kernel_rfl) (by kernel_rfl) (by kernel_rfl) (by kernel_rfl) (by kernel_rfl) (by kernel_rfl) (by kernel_rfl) (unhide D).drew ?_
  clear D
  refine plan_read (v := ?_) rfl rfl (fun u hS => by go_simp; rfl) ?_
  go_simp
  refine plan_read (v := .agg (v3 ax ay az)) rfl rfl (fun u hS => exec_loadG hS rVec _ rfl rfl (by repeat (first | exact List.mem_cons_self | apply List.mem_cons_of_mem)) rfl) ?_
  go_simp
  refine plan_call (v := .int .i64 ay) (f := 76) (args := #[.agg (v3 ax ay az)]) rfl rfl (fun u hS => by go_simp) (fun u hS => (alongY ax ay az u).mono fun _ _ ⟨he, hb⟩ => ⟨he, hS.keep hb⟩) ?_
  go_simp
  refine plan_read (v := .agg (cells8 n)) rfl rfl (fun u hS => exec_loadG hS rWide _ rfl rfl (by repeat (first | exact List.mem_cons_self | apply List.mem_cons_of_mem)) rfl) ?_
  go_simp
  refine plan_call (v := .int .i64 r) (f := 68) (args := #[.int .i64 ay, .agg (cells8 n)]) rfl rfl (fun u hS => by go_simp) (fun u hS => (unhide hF u).mono fun _ _ ⟨he, hb⟩ => ⟨he, hS.keep hb⟩) ?_
  go_simp
  refine plan_read (v := ?_) rfl rfl (fun u hS => by go_simp; rfl) ?_
  go_simp
  refine plan_end (fun u hS => ?_)
  have O := hide hS.o
  clear hS
  go_wp2
  go_ret
  exact ⟨rfl, unhide O⟩

theorem clos_Unit_Z (ax ay az r : Int) (n g0 g1 : Nat) (u : World) (h0 : Blk u g0 24 (v3 ax ay az)) (h1 : Blk u g1 56 (cells8 n)) (hF : Hid (Ans 68 #[.int .i64 az, .agg (cells8 n)] (.int .i64 r))) :
    Calls Tryz.prog 67 #[.func (Fn.func 77) #[] #[], .pointer (some ⟨g0, 0, none⟩), .pointer (some ⟨g1, 0, none⟩)] u fun e w' => e = .returned (.int .i64 r) ∧ Below u.heap.size u w' := by
  have D := hide (Gen.two h0 h1)
  clear h0 h1
  go_enter Tryz.func67, Tryz.ntmps67
  go_upto_region 1 with fail
  refine region_plan (S := Gen u _) (l := [0, 1, 2, 3, 4, 5]) (by kernel_rfl) (by kernel_rfl) (by kernel_rfl) (by kernel_rfl) (by kernel_rfl) (by kernel_rfl) (by kernel_rfl) (unhide D).drew ?_
  clear D
  refine plan_read (v := ?_) rfl rfl (fun u hS => by go_simp; rfl) ?_
  go_simp
  refine plan_read (v := .agg (v3 ax ay az)) rfl rfl (fun u hS => exec_loadG hS rVec _ rfl rfl (by repeat (first | exact List.mem_cons_self | apply List.mem_cons_of_mem)) rfl) ?_
  go_simp
  refine plan_call (v := .int .i64 az) (f := 77) (args := #[.agg (v3 ax ay az)]) rfl rfl (fun u hS => by go_simp) (fun u hS => (alongZ ax ay az u).mono fun _ _ ⟨he, hb⟩ => ⟨he, hS.keep hb⟩) ?_
  go_simp
  refine plan_read (v := .agg (cells8 n)) rfl rfl (fun u hS => exec_loadG hS rWide _ rfl rfl (by repeat (first | exact List.mem_cons_self | apply List.mem_cons_of_mem)) rfl) ?_
  go_simp
  refine plan_call (v := .int .i64 r) (f := 68) (args := #[.int .i64 az, .agg (cells8 n)]) rfl rfl (fun u hS => by go_simp) (fun u hS => (unhide hF u).mono fun _ _ ⟨he, hb⟩ => ⟨he, hS.keep hb⟩) ?_
  go_simp
  refine plan_read (v := ?_) rfl rfl (fun u hS => by go_simp; rfl) ?_
  go_simp
  refine plan_end (fun u hS => ?_)
  have O := hide hS.o
  clear hS
  go_wp2
  go_ret
  exact ⟨rfl, unhide O⟩

end Go.Proofs.YtljggjnaolbapaaGreat

namespace Go.Proofs.YtljggjnaolbapaaGreat
open Go.RowKit
set_option maxRecDepth 4000
set_option linter.unusedVariables false

theorem part_fix {cs : Array Value} {off : Nat} {v : Value} (h : cs[off]? = some v) (w : World) : (Go.part 22 cs off).run Tryz.prog w = .ok v w := by
  unfold Go.part
  have hagg : (isAgg 22).run Tryz.prog w = .ok false w := by
    unfold isAgg
    rw [Sem.run_bind, run_underlying Tryz.underlying22 w]
    rfl
  simp only [Sem.run_bind, hagg, Result.andThen_ok, Bool.false_eq_true, if_false, h, Sem.run_pure]
/-- The two vectors are the same. -/
def sameV (x y z a b c : Int) : Bool := decide (x = a ∧ y = b ∧ z = c)
theorem run_vec (x y z a b c : Int) (w : World) : (Op.equalIn 10000 24 (.agg (v3 x y z)) (.agg (v3 a b c))).run Tryz.prog w = .ok (sameV x y z a b c) w := by
  have hf : ((Tryz.prog.fieldsOf 24).toList.map fun f => (f.name, f.type, f.offset)) = [("X", 22, 0), ("Y", 22, 1), ("Z", 22, 2)] := by kernel_rfl
  rw [show (10000 : Nat) = 9999 + 1 from rfl, run_equalIn_struct w _ 24 _ _ (by kernel_rfl) (by kernel_rfl)]
  generalize (Tryz.prog.fieldsOf 24).toList = l at hf ⊢
  have hlen : l.length = 3 := by
    have := congrArg List.length hf
    simpa using this
  match l, hlen, hf with
  | [f0, f1, f2], _, hf =>
    simp only [List.map_cons, List.map_nil, List.cons.injEq, Prod.mk.injEq, and_true] at hf
    obtain ⟨⟨n0, t0, o0⟩, ⟨n1, t1, o1⟩, ⟨n2, t2, o2⟩⟩ := hf
    have e : ∀ w (p q : Int), (Op.equalIn 9999 22 (.int .i64 p) (.int .i64 q)).run Tryz.prog w = .ok (p == q) w := fun w p q => run_equalIn_int w 9998 22 _ _ _ _ Tryz.underlying22
    have m0 : f0.name ≠ "_" := by rw [n0]; decide
    have m1 : f1.name ≠ "_" := by rw [n1]; decide
    have m2 : f2.name ≠ "_" := by rw [n2]; decide
    have p0 : ∀ (x y z : Int) w, (Go.part 22 (v3 x y z) 0).run Tryz.prog w = .ok (.int .i64 x) w := fun x y z w => part_fix rfl w
    have p1 : ∀ (x y z : Int) w, (Go.part 22 (v3 x y z) 1).run Tryz.prog w = .ok (.int .i64 y) w := fun x y z w => part_fix rfl w
    have p2 : ∀ (x y z : Int) w, (Go.part 22 (v3 x y z) 2).run Tryz.prog w = .ok (.int .i64 z) w := fun x y z w => part_fix rfl w
    simp only [Op.eqFields, if_pos m0, if_pos m1, if_pos m2, t0, t1, t2, o0, o1, o2, Sem.run_bind, p0, Result.andThen_ok, e]
    unfold sameV
    by_cases h0 : x = a <;> by_cases h1 : y = b <;> by_cases h2 : z = c <;> simp [h0, h1, h2, p1, p2, e]
theorem gVec : Tryz.prog.eqGuardType Tryz.prog.depth 24 = false := by kernel_rfl
section
variable {o : Oper} {ac : Act} (wd : World) (p q : Operand) {x y z a b c : Int} {ty' : TypeId} {s : Bool}
theorem exec_eql_vec (hb : sameV x y z a b c = s) (ho : o.op = .binOp .eql 24 p q ty') (hx : ac.eval p = .agg (v3 x y z)) (hy : ac.eval q = .agg (v3 a b c)) : (execOp ac.eval o).run Tryz.prog wd = .ok (.value (.bool s)) wd := by
  subst hb
  unfold execOp
  simp only [ho, hx, hy, Sem.run_bind, run_eqGuard_agg wd _ 24 _ _ _ _ gVec, run_eql_struct, run_vec, Result.andThen_ok, Sem.run_pure]
theorem exec_neq_vec (hb : sameV x y z a b c = s) (ho : o.op = .binOp .neq 24 p q ty') (hx : ac.eval p = .agg (v3 x y z)) (hy : ac.eval q = .agg (v3 a b c)) : (execOp ac.eval o).run Tryz.prog wd = .ok (.value (.bool (!s))) wd := by
  subst hb
  unfold execOp
  simp only [ho, hx, hy, Sem.run_bind, run_eqGuard_agg wd _ 24 _ _ _ _ gVec, run_neq_struct, run_vec, Result.andThen_ok, Sem.run_pure]
variable {ops : Array Oper} {rest : List Oper} {Q : Exit → Act → World → Prop}
theorem eqlV (hb : sameV x y z a b c = s) (ho : o.op = .binOp .eql 24 p q ty') (hgd : o.guard = none) (hx : ac.eval p = .agg (v3 x y z)) (hy : ac.eval q = .agg (v3 a b c))
    (h : wpList Tryz.prog ops Q rest (ac.put o.dst (.bool s)) wd) : wpList Tryz.prog ops Q (o :: rest) ac wd := wpList_value hgd (exec_eql_vec wd p q hb ho hx hy) h
theorem eqlVw (hb : sameV x y z a b c = s) (ho : o.op = .binOp .eql 24 p q ty') (hgd : Region.wanted o (yielded ops ac.tmps) = true) (hx : ac.eval p = .agg (v3 x y z)) (hy : ac.eval q = .agg (v3 a b c))
    (h : wpList Tryz.prog ops Q rest (ac.put o.dst (.bool s)) wd) : wpList Tryz.prog ops Q (o :: rest) ac wd := wpList_valuew hgd (exec_eql_vec wd p q hb ho hx hy) h
theorem neqV (hb : sameV x y z a b c = s) (ho : o.op = .binOp .neq 24 p q ty') (hgd : o.guard = none) (hx : ac.eval p = .agg (v3 x y z)) (hy : ac.eval q = .agg (v3 a b c))
    (h : wpList Tryz.prog ops Q rest (ac.put o.dst (.bool (!s))) wd) : wpList Tryz.prog ops Q (o :: rest) ac wd := wpList_value hgd (exec_neq_vec wd p q hb ho hx hy) h
theorem neqVw (hb : sameV x y z a b c = s) (ho : o.op = .binOp .neq 24 p q ty') (hgd : Region.wanted o (yielded ops ac.tmps) = true) (hx : ac.eval p = .agg (v3 x y z)) (hy : ac.eval q = .agg (v3 a b c))
    (h : wpList Tryz.prog ops Q rest (ac.put o.dst (.bool (!s))) wd) : wpList Tryz.prog ops Q (o :: rest) ac wd := wpList_valuew hgd (exec_neq_vec wd p q hb ho hx hy) h
end
section
variable {ops : Array Oper} {rest : List Oper} {o : Oper} {a : Act} {w w0 : World} {Q : Exit → Act → World → Prop} {l : List (Nat × TypeId × Array Value)} {g : Nat} {t : TypeId} {cs : Array Value}
/-- A whole block, out of it, where a guard says yes. -/
theorem ldGw (d : Gen w0 l w) {ty : TypeId} {k : Nat} (hr : Rw ty k) (x : Operand) (ho : o.op = .load ty x) (hgd : Region.wanted o (yielded ops a.tmps) = true) (hx : a.eval x = ptr g) (hm : (g, t, cs) ∈ l) (hk : cs.size = k)
    (h : wpList Tryz.prog ops Q rest (a.put o.dst (.agg cs)) w) : wpList Tryz.prog ops Q (o :: rest) a w := wpList_valuew hgd (exec_loadG d hr x ho hx hm hk) h
/-- A number out of a vector. -/
theorem ldF {i : Nat} {z : Int} (d : Gen w0 l w) (x : Operand) (ho : o.op = .load 22 x) (hgd : o.guard = none) (hx : a.eval x = .pointer (some ⟨g, i, none⟩)) (hm : (g, t, cs) ∈ l) (hc : cs[i]? = some (.int .i64 z))
    (h : wpList Tryz.prog ops Q rest (a.put o.dst (.int .i64 z)) w) : wpList Tryz.prog ops Q (o :: rest) a w := wpList_value hgd (exec_loadFG d x ho hx hm hc) h
theorem ldFw {i : Nat} {z : Int} (d : Gen w0 l w) (x : Operand) (ho : o.op = .load 22 x) (hgd : Region.wanted o (yielded ops a.tmps) = true) (hx : a.eval x = .pointer (some ⟨g, i, none⟩)) (hm : (g, t, cs) ∈ l) (hc : cs[i]? = some (.int .i64 z))
    (h : wpList Tryz.prog ops Q rest (a.put o.dst (.int .i64 z)) w) : wpList Tryz.prog ops Q (o :: rest) a w := wpList_valuew hgd (exec_loadFG d x ho hx hm hc) h
end
theorem resGT {fn : Func} {R : Ending → World → Prop} {p q : Tmp} {ty : TypeId} {k : Nat} {a : Act} {w : World} {cs : Array Value} {g : Nat} {t : TypeId} {v : Value} (hr : Rw ty k) (hg : Blk w g t cs) (hk : cs.size = k) (h : fn.results = #[.cell p ty, .tmp q]) (hp : a.tmps.getD p undef = .pointer (some ⟨g, 0, none⟩)) (hq : a.tmps.getD q undef = v) (hdf : a.defers = [])
    (hR : R (.returned (.tuple #[.agg cs, v])) w) : bodyPost Tryz.prog fn R .ret a w := by
  obtain ⟨⟨dd, hu, hd⟩, hi⟩ := hr
  have hp' : a.tmps[p]?.getD undef = .pointer (some ⟨g, 0, none⟩) := by simpa using hp
  have hq' : a.tmps[q]?.getD undef = v := by simpa using hq
  exact bodyPost_ret (by simp [results, h, hp', hq', asAddr, run_loadVar_row w g t ty cs (0, 0) dd hg hu (by cases dd <;> first | rfl | cases hd) (hk ▸ hi), Result.andThen]) hdf hR

theorem unit_none (w : World) : Calls Tryz.prog 25 #[.agg (v3 0 0 0)] w fun e w' => e = .returned (.tuple #[.agg (v3 0 0 0), .bool false]) ∧ Below w.heap.size w w' := by
  have hz : sameV 0 0 0 0 0 0 = true := by decide
  go_enter Tryz.func25, Tryz.ntmps25
  go_upto_region 1 with fail
  have D := hide (((Gen.start w).push 24 (v3 0 0 0)).push 24 (v3 0 0 0))
  simp only [szA] at D
  go_wp2_with (first | (with_reducible refine at_list ?_; apply ldG (unhide D) rVec _ rfl rfl rfl (by repeat (first | exact List.mem_cons_self | apply List.mem_cons_of_mem)) rfl) | (with_reducible refine at_list ?_;  refine eqlV _ _ _ hz rfl rfl rfl rfl ?_) | (with_reducible refine at_list ?_; apply stGend (unhide D) rVec _ _ rfl rfl rfl rfl (by repeat (first | exact List.mem_cons_self | apply List.mem_cons_of_mem)) (by omega) rfl rfl (v3_one _ _ _); intro B O))
  exact resGT rVec (unhide B) rfl rfl rfl rfl rfl ⟨rfl, unhide O⟩
theorem unit_core (x y z rx ry rz : Int) (n : Nat) (w : World) (hz : sameV x y z 0 0 0 = false) (hS : Hid (Ans 66 #[.agg (v3 x y z)] (.agg (cells8 n))))
    (hE : Hid (∀ u g0 g1, Blk u g0 24 (v3 x y z) → Blk u g1 56 (cells8 n) → Calls Tryz.prog 40 #[.func (Fn.func 67) #[] #[.pointer (some ⟨g0, 0, none⟩), .pointer (some ⟨g1, 0, none⟩)]] u fun e w' => e = .returned (.agg (v3 rx ry rz)) ∧ Below u.heap.size u w')) :
    Calls Tryz.prog 25 #[.agg (v3 x y z)] w fun e w' => e = .returned (.tuple #[.agg (v3 rx ry rz), .bool true]) ∧ Below w.heap.size w w' := by
  go_enter Tryz.func25, Tryz.ntmps25
  go_upto_region 1 with fail
  have D := hide (((Gen.start w).push 24 (v3 x y z)).push 24 (v3 0 0 0))
  simp only [szA] at D
  go_wp2_with (first | (with_reducible refine at_list ?_; apply ldG (unhide D) rVec _ rfl rfl rfl (by repeat (first | exact List.mem_cons_self | apply List.mem_cons_of_mem)) rfl) | (with_reducible refine at_list ?_;  refine eqlV _ _ _ hz rfl rfl rfl rfl ?_) | (go_at_call 66; with_reducible refine (unhide hS _).mono ?_; rintro e w' ⟨he, hb⟩; subst he; have D := hide ((unhide D).keep hb); clear hb) | (with_reducible refine at_list ?_; refine stG (unhide D) rWide _ _ rfl rfl rfl rfl rfl rfl (cells8_one _) ?_; intro D'; have D := hide D'; clear D') | (go_at_call 40; with_reducible refine (unhide hE _ _ _ ((unhide D).blk (by repeat (first | exact List.mem_cons_self | apply List.mem_cons_of_mem))) ((unhide D).blk (by repeat (first | exact List.mem_cons_self | apply List.mem_cons_of_mem)))).mono ?_; rintro e w' ⟨he, hb⟩; subst he; have D := hide ((unhide D).keep hb); clear hb) | (with_reducible refine at_list ?_; apply stGend (unhide D) rVec _ _ rfl rfl rfl rfl (by repeat (first | exact List.mem_cons_self | apply List.mem_cons_of_mem)) (by omega) rfl rfl (v3_one _ _ _); intro B O))
  exact resGT rVec (unhide B) rfl rfl rfl rfl rfl ⟨rfl, unhide O⟩
theorem sqr_pos {x y z : Int} (h : ¬ (x = 0 ∧ y = 0 ∧ z = 0)) : 0 < sqr x y z := by
  unfold sqr
  have hx := sq_nn x
  have hy := sq_nn y
  have hz := sq_nn z
  have k : ∀ x : Int, x * x = 0 → x = 0 := fun x hx => by
    rcases Int.mul_eq_zero.1 hx with h | h <;> exact h
  rcases Int.lt_or_le 0 (x * x + y * y + z * z) with g | g
  · exact g
  · exact absurd ⟨k x (by omega), k y (by omega), k z (by omega)⟩ h
theorem UnitZ (x y z : Int) (h1 : I64 x) (h2 : I64 y) (h3 : I64 z) (hz : ¬ (x = 0 ∧ y = 0 ∧ z = 0)) : Ans 25 #[.agg (v3 x y z)] (.tuple #[.agg (v3 (shI x (sqr x y z)) (shI y (sqr x y z)) (shI z (sqr x y z))), .bool true]) := fun w =>
  have hs := (sqr_sz h1 h2 h3).mono (show 130 ≤ 140 by decide)
  have hp := sqr_pos hz
  unit_core x y z _ _ _ (enc (sqr x y z)) w (by unfold sameV; exact decide_eq_false hz) (VSquareZ x y z h1 h2 h3) fun u g0 g1 b0 b1 =>
    each_Unit (Gen u [(g0, 24, v3 x y z), (g1, 56, cells8 (enc (sqr x y z)))]) g0 g1 _ _ _ u (Gen.two b0 b1) (fun _ _ h hb => h.keep hb)
      (fun v hS => clos_Unit_X x y z _ _ g0 g1 v (hS.blk (by repeat (first | exact List.mem_cons_self | apply List.mem_cons_of_mem))) (hS.blk (by repeat (first | exact List.mem_cons_self | apply List.mem_cons_of_mem))) (ShareZ x _ h1 hp hs)) (fun v hS => clos_Unit_Y x y z _ _ g0 g1 v (hS.blk (by repeat (first | exact List.mem_cons_self | apply List.mem_cons_of_mem))) (hS.blk (by repeat (first | exact List.mem_cons_self | apply List.mem_cons_of_mem))) (ShareZ y _ h2 hp hs)) (fun v hS => clos_Unit_Z x y z _ _ g0 g1 v (hS.blk (by repeat (first | exact List.mem_cons_self | apply List.mem_cons_of_mem))) (hS.blk (by repeat (first | exact List.mem_cons_self | apply List.mem_cons_of_mem))) (ShareZ z _ h3 hp hs))

end Go.Proofs.YtljggjnaolbapaaGreat
