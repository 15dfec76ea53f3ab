/- Package vec: share. Package vec: Unit's closure. Package vec: vectors held against each other; Unit. -/
import Derived.Test.YtnemedgdhojhdaaGreatVj
namespace Go.Proofs.YtnemedgdhojhdaaGreat
open Go.RowKit
set_option maxRecDepth 4000
set_option linter.unusedVariables false

/-- A share. -/
def shI (x n : Int) : Int := if x < 0 then wrap64 (-(upR (x * x * ((2 ^ (64 : Int).toNat : Nat) : Int)) n)) else inI (rfl' (x * x * ((2 ^ (64 : Int).toNat : Nat) : Int)) n) 32
end Go.Proofs.YtnemedgdhojhdaaGreat

namespace Go.Proofs.YtnemedgdhojhdaaGreat
open Go.RowKit
set_option maxRecDepth 4000
set_option linter.unusedVariables false

end Go.Proofs.YtnemedgdhojhdaaGreat

namespace Go.Proofs.YtnemedgdhojhdaaGreat
open Go.RowKit
set_option maxRecDepth 4000
set_option linter.unusedVariables false

theorem part_fix {cs : Array Value} {off : Nat} {v : Value} (h : cs[off]? = some v) (w : World) : (Go.part 22 cs off).run Tryz.prog w = .ok v w := by
  unfold Go.part
  have hagg : (isAgg 22).run Tryz.prog w = .ok false w := by
    unfold isAgg
    rw [Sem.run_bind, run_underlying Tryz.underlying22 w]
    rfl
  simp only [Sem.run_bind, hagg, Result.andThen_ok, Bool.false_eq_true, if_false, h, Sem.run_pure]
/-- The two vectors are the same. -/
def sameV (x y z a b c : Int) : Bool := decide (x = a ∧ y = b ∧ z = c)
theorem run_vec (x y z a b c : Int) (w : World) : (Op.equalIn 10000 24 (.agg (v3 x y z)) (.agg (v3 a b c))).run Tryz.prog w = .ok (sameV x y z a b c) w := by
  have hf : ((Tryz.prog.fieldsOf 24).toList.map fun f => (f.name, f.type, f.offset)) = [("X", 22, 0), ("Y", 22, 1), ("Z", 22, 2)] := by kernel_rfl
  rw [show (10000 : Nat) = 9999 + 1 from rfl, run_equalIn_struct w _ 24 _ _ (by kernel_rfl) (by kernel_rfl)]
  generalize (Tryz.prog.fieldsOf 24).toList = l at hf ⊢
  have hlen : l.length = 3 := by
    have := congrArg List.length hf
    simpa using this
  match l, hlen, hf with
  | [f0, f1, f2], _, hf =>
    simp only [List.map_cons, List.map_nil, List.cons.injEq, Prod.mk.injEq, and_true] at hf
    obtain ⟨⟨n0, t0, o0⟩, ⟨n1, t1, o1⟩, ⟨n2, t2, o2⟩⟩ := hf
    have e : ∀ w (p q : Int), (Op.equalIn 9999 22 (.int .i64 p) (.int .i64 q)).run Tryz.prog w = .ok (p == q) w := fun w p q => run_equalIn_int w 9998 22 _ _ _ _ Tryz.underlying22
    have m0 : f0.name ≠ "_" := by rw [n0]; decide
    have m1 : f1.name ≠ "_" := by rw [n1]; decide
    have m2 : f2.name ≠ "_" := by rw [n2]; decide
    have p0 : ∀ (x y z : Int) w, (Go.part 22 (v3 x y z) 0).run Tryz.prog w = .ok (.int .i64 x) w := fun x y z w => part_fix rfl w
    have p1 : ∀ (x y z : Int) w, (Go.part 22 (v3 x y z) 1).run Tryz.prog w = .ok (.int .i64 y) w := fun x y z w => part_fix rfl w
    have p2 : ∀ (x y z : Int) w, (Go.part 22 (v3 x y z) 2).run Tryz.prog w = .ok (.int .i64 z) w := fun x y z w => part_fix rfl w
    simp only [Op.eqFields, if_pos m0, if_pos m1, if_pos m2, t0, t1, t2, o0, o1, o2, Sem.run_bind, p0, Result.andThen_ok, e]
    unfold sameV
    by_cases h0 : x = a <;> by_cases h1 : y = b <;> by_cases h2 : z = c <;> simp [h0, h1, h2, p1, p2, e]
theorem gVec : Tryz.prog.eqGuardType Tryz.prog.depth 24 = false := by kernel_rfl
section
variable {o : Oper} {ac : Act} (wd : World) (p q : Operand) {x y z a b c : Int} {ty' : TypeId} {s : Bool}
theorem exec_eql_vec (hb : sameV x y z a b c = s) (ho : o.op = .binOp .eql 24 p q ty') (hx : ac.eval p = .agg (v3 x y z)) (hy : ac.eval q = .agg (v3 a b c)) : (execOp ac.eval o).run Tryz.prog wd = .ok (.value (.bool s)) wd := by
  subst hb
  unfold execOp
  simp only [ho, hx, hy, Sem.run_bind, run_eqGuard_agg wd _ 24 _ _ _ _ gVec, run_eql_struct, run_vec, Result.andThen_ok, Sem.run_pure]
variable {ops : Array Oper} {rest : List Oper} {Q : Exit → Act → World → Prop}
end
section
variable {ops : Array Oper} {rest : List Oper} {o : Oper} {a : Act} {w w0 : World} {Q : Exit → Act → World → Prop} {l : List (Nat × TypeId × Array Value)} {g : Nat} {t : TypeId} {cs : Array Value}
/-- A whole block, out of it, where a guard says yes. -/
theorem ldGw (d : Gen w0 l w) {ty : TypeId} {k : Nat} (hr : Rw ty k) (x : Operand) (ho : o.op = .load ty x) (hgd : Region.wanted o (yielded ops a.tmps) = true) (hx : a.eval x = ptr g) (hm : (g, t, cs) ∈ l) (hk : cs.size = k)
    (h : wpList Tryz.prog ops Q rest (a.put o.dst (.agg cs)) w) : wpList Tryz.prog ops Q (o :: rest) a w := wpList_valuew hgd (exec_loadG d hr x ho hx hm hk) h
end
theorem resGT {fn : Func} {R : Ending → World → Prop} {p q : Tmp} {ty : TypeId} {k : Nat} {a : Act} {w : World} {cs : Array Value} {g : Nat} {t : TypeId} {v : Value} (hr : Rw ty k) (hg : Blk w g t cs) (hk : cs.size = k) (h : fn.results = #[.cell p ty, .tmp q]) (hp : a.tmps.getD p undef = .pointer (some ⟨g, 0, none⟩)) (hq : a.tmps.getD q undef = v) (hdf : a.defers = [])
    (hR : R (.returned (.tuple #[.agg cs, v])) w) : bodyPost Tryz.prog fn R .ret a w := by
  obtain ⟨⟨dd, hu, hd⟩, hi⟩ := hr
  have hp' : a.tmps[p]?.getD undef = .pointer (some ⟨g, 0, none⟩) := by simpa using hp
  have hq' : a.tmps[q]?.getD undef = v := by simpa using hq
  exact bodyPost_ret (by simp [results, h, hp', hq', asAddr, run_loadVar_row w g t ty cs (0, 0) dd hg hu (by cases dd <;> first | rfl | cases hd) (hk ▸ hi), Result.andThen]) hdf hR

end Go.Proofs.YtnemedgdhojhdaaGreat
