/- Blocks by name, each apart from the others; what a list of operations does to them; shapes, masses and kinds as rows of cells; comparisons, max and min by a fact. Package shape: size, isWithin, kindOf; what holds of each kind; cores. -/
import Derived.Test.YtnemedgdhojhdaaGreatAa
namespace Go.Proofs.YtnemedgdhojhdaaGreat
open Go.RowKit
set_option maxRecDepth 4000
set_option linter.unusedVariables false

structure Gd (w0 : World) (l : List (Nat × TypeId × Array Value)) (w : World) : Prop where
  g : Gen w0 l w
  n : (l.map (·.1)).Nodup
theorem Gd.start (w : World) : Gd w [] w := ⟨Gen.start w, List.nodup_nil⟩
theorem Gd.keep {w0 w w' : World} {l : List (Nat × TypeId × Array Value)} (d : Gd w0 l w) (hb : Below w.heap.size w w') : Gd w0 l w' := ⟨d.g.keep hb, d.n⟩
theorem Gd.drew {w0 w : World} {l : List (Nat × TypeId × Array Value)} (d : Gd w0 l w) : Gd w0 l w.drew := ⟨d.g.drew, d.n⟩
theorem Gd.push {w0 w : World} {l : List (Nat × TypeId × Array Value)} (d : Gd w0 l w) (t : TypeId) (cs : Array Value) : Gd w0 ((w.heap.size, t, cs) :: l) (w.alloc (.cells cs t)) :=
  ⟨d.g.push t cs, List.nodup_cons.2 ⟨fun h => by
    obtain ⟨p, hp, e⟩ := List.mem_map.1 h
    have h1 := (d.g.at_ p hp).lt
    have e2 : p.1 = w.heap.size := e
    omega, d.n⟩⟩
theorem Gd.again {w0 w : World} {l : List (Nat × TypeId × Array Value)} (d : Gd w0 l w) : Gd w l w := ⟨⟨d.g.at_, Below.refl _ _⟩, d.n⟩
theorem Gd.over {w0 w u : World} {l l' : List (Nat × TypeId × Array Value)} (d : Gd w0 l w) (e : Gd w l' u) : Gd w0 l' u := ⟨⟨e.g.at_, d.g.o.trans (e.g.o.mono d.g.o.size)⟩, e.n⟩
theorem Gd.tail {w0 w : World} {p : Nat × TypeId × Array Value} {l : List (Nat × TypeId × Array Value)} (d : Gd w0 (p :: l) w) : Gd w0 l w := ⟨d.g.tail, (List.nodup_cons.1 d.n).2⟩
theorem Gd.more {w0 u w' : World} {l : List (Nat × TypeId × Array Value)} {g : Nat} {t : TypeId} {cs : Array Value} (d : Gd w0 l u) (hb : Below u.heap.size u w') (hB : Blk w' g t cs) (hg : u.heap.size ≤ g) : Gd w0 ((g, t, cs) :: l) w' :=
  ⟨⟨fun p hp => by
    rcases List.mem_cons.1 hp with e | hp
    · subst e; exact hB
    · exact (d.keep hb).g.at_ p hp, (d.keep hb).g.o⟩, List.nodup_cons.2 ⟨fun h => by
    obtain ⟨p, hp, e⟩ := List.mem_map.1 h
    have h1 := (d.g.at_ p hp).lt
    have e2 : p.1 = g := e
    omega, d.n⟩⟩
theorem Gd.apart {w0 w : World} {l1 l2 : List (Nat × TypeId × Array Value)} {g : Nat} {t : TypeId} {cs : Array Value} (d : Gd w0 (l1 ++ (g, t, cs) :: l2) w) : (∀ p ∈ l1, p.1 ≠ g) ∧ ∀ p ∈ l2, p.1 ≠ g := by
  have h := d.n
  rw [List.map_append, List.map_cons, List.nodup_append] at h
  refine ⟨fun p hp => h.2.2 _ (List.mem_map_of_mem hp) _ List.mem_cons_self, fun p hp e => (List.nodup_cons.1 h.2.1).1 (List.mem_map.2 ⟨p, hp, e⟩)⟩
theorem Gd.setR {w0 w : World} {l1 l2 : List (Nat × TypeId × Array Value)} {g : Nat} {t : TypeId} {old : Array Value} (d : Gd w0 (l1 ++ (g, t, old) :: l2) w) (hg : w0.heap.size ≤ g) (cs : Array Value) : Gd w0 (l1 ++ (g, t, cs) :: l2) (w.setRow g cs) := by
  obtain ⟨a1, a2⟩ := d.apart
  refine ⟨⟨fun p hp => ?_, below_row d.g.o hg _⟩, by have := d.n; simpa using this⟩
  rcases List.mem_append.1 hp with hp | hp
  · exact (d.g.at_ p (List.mem_append_left _ hp)).rowOther _ (a1 p hp)
  · rcases List.mem_cons.1 hp with e | hp
    · subst e
      exact (d.g.at_ (g, t, old) (List.mem_append_right _ List.mem_cons_self)).row _
    · exact (d.g.at_ p (List.mem_append_right _ (List.mem_cons_of_mem _ hp))).rowOther _ (a2 p hp)
theorem Gd.setC {w0 w : World} {l1 l2 : List (Nat × TypeId × Array Value)} {g i : Nat} {t : TypeId} {old : Array Value} (d : Gd w0 (l1 ++ (g, t, old) :: l2) w) (hg : w0.heap.size ≤ g) (v : Value) : Gd w0 (l1 ++ (g, t, old.setIfInBounds i v) :: l2) (w.setCell ⟨g, i, none⟩ v) := by
  obtain ⟨a1, a2⟩ := d.apart
  refine ⟨⟨fun p hp => ?_, d.g.o.setCell (p := ⟨g, i, none⟩) hg _⟩, by have := d.n; simpa using this⟩
  rcases List.mem_append.1 hp with hp | hp
  · exact (d.g.at_ p (List.mem_append_left _ hp)).other ⟨g, i, none⟩ _ (a1 p hp)
  · rcases List.mem_cons.1 hp with e | hp
    · subst e
      exact (d.g.at_ (g, t, old) (List.mem_append_right _ List.mem_cons_self)).set i v
    · exact (d.g.at_ p (List.mem_append_right _ (List.mem_cons_of_mem _ hp))).other ⟨g, i, none⟩ _ (a2 p hp)

section
variable {ops : Array Oper} {rest : List Oper} {o : Oper} {a : Act} {w0 : World} {Q : Exit → Act → World → Prop} {l : List (Nat × TypeId × Array Value)}
theorem list_go {P : Program} {S : World → Prop} {l : List Oper} {w : World} (hS : S w) (h : LW P ops S Q l a) : wpList P ops Q l a w := h w hS
theorem list_turn {P : Program} {w w' : World} {v : Value} (hw : Region.wanted o (yielded ops a.tmps) = true) (he : (execOp a.eval o).run P w = .ok (.value v) w') (h : wpList P ops Q rest (a.put o.dst v) w') : wpList P ops Q (o :: rest) a w := by
  unfold wpList
  rw [if_pos hw]
  refine .inl ?_
  unfold Oper.wp
  rw [he]
  exact h
theorem list_new {ty : TypeId} {z : Array Value} {v : Nat → Value} (_ : o = o) (hw : Region.wanted o (yielded ops a.tmps) = true) (he : ∀ u, (execOp a.eval o).run Tryz.prog u = .ok (.value (v u.heap.size)) (u.alloc (.cells z ty)))
    (h : ∀ g, w0.heap.size ≤ g → LW Tryz.prog ops (Gd w0 ((g, ty, z) :: l)) Q rest (a.put o.dst (v g))) : LW Tryz.prog ops (Gd w0 l) Q (o :: rest) a := fun w hS =>
  list_turn hw (he w) (h _ hS.g.o.size _ (hS.push _ _))
theorem list_store {l1 l2 l' : List (Nat × TypeId × Array Value)} {g k : Nat} {t ty : TypeId} {old cs : Array Value} (x y : Operand) (hl : l = l1 ++ (g, t, old) :: l2) (hl' : l' = l1 ++ (g, t, cs) :: l2) (ho : o.op = .store ty x y) (hgd : o.guard = none)
    (hx : a.eval x = .pointer (some ⟨g, 0, none⟩)) (hy : a.eval y = .agg cs) (hr : Rw ty k) (hold : old.size = k) (hk : cs.size = k) (h1 : cs.all (·.oneCell') = true) (hg : w0.heap.size ≤ g)
    (h : LW Tryz.prog ops (Gd w0 l') Q rest (a.put o.dst undef)) : LW Tryz.prog ops (Gd w0 l) Q (o :: rest) a := fun w hS => by
  subst hl hl'
  exact wpList_store_row hgd ty x y ho g cs hx hy t old (hS.g.at_ (g, t, old) (List.mem_append_right _ List.mem_cons_self)) (hk ▸ hr.i) (hold.trans hk.symm) h1 (h _ (hS.setR hg cs))
theorem list_storeC {l1 l2 l' : List (Nat × TypeId × Array Value)} {g i : Nat} {t ty : TypeId} {old : Array Value} {k : IntKind} {v : Int} (x y : Operand) (hl : l = l1 ++ (g, t, old) :: l2) (hl' : l' = l1 ++ (g, t, old.setIfInBounds i (.int k v)) :: l2) (ho : o.op = .store ty x y) (hgd : o.guard = none)
    (hx : a.eval x = .pointer (some ⟨g, i, none⟩)) (hy : a.eval y = .int k v) (hi : i < old.size) (hs : (Tryz.prog.info? ty).map (·.size) = some 1) (hg : w0.heap.size ≤ g)
    (h : LW Tryz.prog ops (Gd w0 l') Q rest (a.put o.dst undef)) : LW Tryz.prog ops (Gd w0 l) Q (o :: rest) a := fun w hS => by
  subst hl hl'
  unfold wpList
  rw [if_pos (by simp [Region.wanted, hgd])]
  refine .inl ?_
  exact wp_store1 ty x y ho hx hy (hS.g.at_ (g, t, old) (List.mem_append_right _ List.mem_cons_self)) hi hs (h _ (hS.setC hg _))
theorem list_callE {P : Program} {w : World} {f : FuncId} {args : Array Value} {R : Ending → World → Prop} (hw : Region.wanted o (yielded ops a.tmps) = true) (he : (execOp a.eval o).run P w = .ok (.enter f args) w) (hc : Calls P f args w R) (h : ∀ e w', R e w' → ∃ v, e = .returned v ∧ wpList P ops Q rest (a.put o.dst v) w') : wpList P ops Q (o :: rest) a w := by
  unfold wpList
  rw [if_pos hw]
  refine .inl ?_
  unfold Oper.wp
  rw [he]
  refine hc.mono fun e w' r => ?_
  obtain ⟨v, rfl, h'⟩ := h e w' r
  exact h'
theorem wpL_fin {P : Program} {w : World} (h : Q .normal a w) : wpList P ops Q [] a w := h
end

section
variable {o : Oper} {a : Act} {w : World} {x y z : Int} {k k' k'' : IntKind} {ty ty' : TypeId} {b : Bool}
theorem exec_gtrS (p q : Operand) (hb : decide (y < x) = b) (ho : o.op = .binOp .gtr ty p q ty') (hx : a.eval p = .int k x) (hy : a.eval q = .int k y) : (execOp a.eval o).run Tryz.prog w = .ok (.value (.bool b)) w := by
  subst hb
  unfold execOp
  simp only [ho, hx, hy]
  go_simp
theorem exec_lssS (p q : Operand) (hb : decide (x < y) = b) (ho : o.op = .binOp .lss ty p q ty') (hx : a.eval p = .int k x) (hy : a.eval q = .int k y) : (execOp a.eval o).run Tryz.prog w = .ok (.value (.bool b)) w := by
  subst hb
  unfold execOp
  simp only [ho, hx, hy]
  go_simp
theorem exec_geqS (p q : Operand) (hb : decide (y ≤ x) = b) (ho : o.op = .binOp .geq ty p q ty') (hx : a.eval p = .int k x) (hy : a.eval q = .int k y) : (execOp a.eval o).run Tryz.prog w = .ok (.value (.bool b)) w := by
  subst hb
  unfold execOp
  simp only [ho, hx, hy]
  go_simp
theorem exec_leqS (p q : Operand) (hb : decide (x ≤ y) = b) (ho : o.op = .binOp .leq ty p q ty') (hx : a.eval p = .int k x) (hy : a.eval q = .int k y) : (execOp a.eval o).run Tryz.prog w = .ok (.value (.bool b)) w := by
  subst hb
  unfold execOp
  simp only [ho, hx, hy]
  go_simp
theorem beq_dec (x y : Int) : (x == y) = decide (x = y) := by
  by_cases h : x = y
  · subst h; simp
  · rw [decide_eq_false h]; exact beq_false_of_ne h
theorem exec_eqlS (p q : Operand) (hb : decide ((x : Int) = y) = b) (ho : o.op = .binOp .eql ty p q ty') (hx : a.eval p = .int k x) (hy : a.eval q = .int k y) : (execOp a.eval o).run Tryz.prog w = .ok (.value (.bool b)) w := by
  rw [← beq_dec] at hb
  subst hb
  unfold execOp
  simp only [ho, hx, hy]
  go_simp
theorem exec_neqS (p q : Operand) (hb : decide ((x : Int) = y) = b) (ho : o.op = .binOp .neq ty p q ty') (hx : a.eval p = .int k x) (hy : a.eval q = .int k y) : (execOp a.eval o).run Tryz.prog w = .ok (.value (.bool (!b))) w := by
  rw [← beq_dec] at hb
  subst hb
  unfold execOp
  simp only [ho, hx, hy]
  go_simp
  try simp [bne]
def mx2 (x y : Int) : Int := if y > x then y else x
def mx3 (x y z : Int) : Int := if z > mx2 x y then z else mx2 x y
def mn2 (x y : Int) : Int := if y < x then y else x
def mn3 (x y z : Int) : Int := if z < mn2 x y then z else mn2 x y
theorem exec_mx2 {ts : Array TypeId} (p q : Operand) (ho : o.op = .call { callee := .builtin .max, args := #[p, q], argTypes := ts }) (hx : a.eval p = .int k x) (hy : a.eval q = .int k' y) : (execOp a.eval o).run Tryz.prog w = .ok (.value (.int k (mx2 x y))) w := by
  have e : (#[p, q].map a.eval) = #[.int k x, .int k' y] := by simp [hx, hy]
  unfold execOp
  simp only [ho, resolve, Sem.run_bind, Sem.run_pure, Result.andThen_ok, invoke, builtin, e, run_max_int2]
  rfl
theorem exec_mn2 {ts : Array TypeId} (p q : Operand) (ho : o.op = .call { callee := .builtin .min, args := #[p, q], argTypes := ts }) (hx : a.eval p = .int k x) (hy : a.eval q = .int k' y) : (execOp a.eval o).run Tryz.prog w = .ok (.value (.int k (mn2 x y))) w := by
  have e : (#[p, q].map a.eval) = #[.int k x, .int k' y] := by simp [hx, hy]
  unfold execOp
  simp only [ho, resolve, Sem.run_bind, Sem.run_pure, Result.andThen_ok, invoke, builtin, e, run_min_int2]
  rfl
theorem exec_mx3 {ts : Array TypeId} (p q r : Operand) (ho : o.op = .call { callee := .builtin .max, args := #[p, q, r], argTypes := ts }) (hx : a.eval p = .int k x) (hy : a.eval q = .int k' y) (hz : a.eval r = .int k'' z) : (execOp a.eval o).run Tryz.prog w = .ok (.value (.int k (mx3 x y z))) w := by
  have e : (#[p, q, r].map a.eval) = #[.int k x, .int k' y, .int k'' z] := by simp [hx, hy, hz]
  unfold execOp
  simp only [ho, resolve, Sem.run_bind, Sem.run_pure, Result.andThen_ok, invoke, builtin, e, run_max_int3]
  rfl
theorem exec_mn3 {ts : Array TypeId} (p q r : Operand) (ho : o.op = .call { callee := .builtin .min, args := #[p, q, r], argTypes := ts }) (hx : a.eval p = .int k x) (hy : a.eval q = .int k' y) (hz : a.eval r = .int k'' z) : (execOp a.eval o).run Tryz.prog w = .ok (.value (.int k (mn3 x y z))) w := by
  have e : (#[p, q, r].map a.eval) = #[.int k x, .int k' y, .int k'' z] := by simp [hx, hy, hz]
  unfold execOp
  simp only [ho, resolve, Sem.run_bind, Sem.run_pure, Result.andThen_ok, invoke, builtin, e, run_min_int3]
  rfl
end

/-- The cells of a shape. -/
abbrev sh (k r x y z : Int) (A : Option Addr) (n c : Nat) : Array Value := #[.int .i64 k, .int .i64 r, .int .i64 x, .int .i64 y, .int .i64 z, .slice A n c]
abbrev ms (m x y z : Int) : Array Value := #[.int .i64 m, .int .i64 x, .int .i64 y, .int .i64 z]
theorem sh_one (k r x y z : Int) (A : Option Addr) (n c : Nat) : (sh k r x y z A n c).all (·.oneCell') = true := by simp [Value.oneCell']
theorem ms_one (m x y z : Int) : (ms m x y z).all (·.oneCell') = true := by simp [Value.oneCell']
theorem exec_bld0 {o : Oper} {a : Act} (w : World) (ty : TypeId) {cs : Array Value} (ho : o.op = .build ty #[]) (hb : Tryz.prog.built ty [] = some cs) : (execOp a.eval o).run Tryz.prog w = .ok (.value (.agg cs)) w := by
  unfold execOp
  simp only [ho, Sem.run_bind, run_build w ty (#[].map fun (i, x) => (i, a.eval x)) cs (by simpa using hb), Result.andThen_ok, Sem.run_pure]
theorem arrKinds : Tryz.prog.underlying 83 = some (.array (Tryz.prog.arrayLen 83) (Tryz.prog.elem 83)) := by kernel_rfl
theorem lenKinds : Tryz.prog.arrayLen 83 = 5 := by kernel_rfl
theorem elKinds : (Tryz.prog.info? (Tryz.prog.elem 83)).map (·.size) = some 2 := by kernel_rfl
theorem exec_ixKinds {o : Oper} {a : Act} (w : World) {g k : Nat} (x y : Operand) (hk : k < 5) (ho : o.op = .indexAddr 83 x y) (hx : a.eval x = .pointer (some ⟨g, 0, none⟩)) (hy : a.eval y = .int .i64 k) : (execOp a.eval o).run Tryz.prog w = .ok (.value (.pointer (some ⟨g, k * 2, none⟩))) w := by
  unfold execOp
  simp only [ho, hx, hy, Sem.run_bind, run_indexAt_array w _ _ _ _ arrKinds, lenKinds]
  rw [if_pos ⟨by omega, by omega⟩, run_sizeOf elKinds]
  simp only [Result.andThen_ok, Sem.run_pure, Addr.add_mid, Int.toNat_natCast, Nat.zero_add]
theorem rShape : Rw 27 6 := ⟨⟨_, Tryz.underlying27, rfl⟩, by kernel_rfl⟩
theorem rMass : Rw 46 4 := ⟨⟨_, Tryz.underlying46, rfl⟩, by kernel_rfl⟩
theorem rKind : Rw 56 2 := ⟨⟨_, Tryz.underlying56, rfl⟩, by kernel_rfl⟩
theorem rKinds : Rw 83 10 := ⟨⟨_, Tryz.underlying83, rfl⟩, by kernel_rfl⟩
abbrev bsC1 (x y z : Int) : Array Value := v3 x y z
abbrev bsC2 (x y z a b c : Int) : Array Value := #[.int .i64 x, .int .i64 y, .int .i64 z, .int .i64 a, .int .i64 b, .int .i64 c]
theorem bs1V (x y z : Int) (w : World) : (Instr.buildSlice 25 1 #[(0, .agg (v3 x y z))]).run Tryz.prog w = .ok (.slice (some ⟨w.heap.size, 0, none⟩) 1 1) (w.alloc (.cells (bsC1 x y z) 24)) := by kernel_rfl
theorem bs2V (x y z a b c : Int) (w : World) : (Instr.buildSlice 25 2 #[(0, .agg (v3 x y z)), (1, .agg (v3 a b c))]).run Tryz.prog w = .ok (.slice (some ⟨w.heap.size, 0, none⟩) 2 2) (w.alloc (.cells (bsC2 x y z a b c) 24)) := by kernel_rfl
theorem exec_bs1Vec {o : Oper} {ac : Act} (w : World) (p : Operand) {x y z : Int} (ho : o.op = .buildSlice 25 1 #[(0, p)]) (hp : ac.eval p = .agg (v3 x y z)) :
    (execOp ac.eval o).run Tryz.prog w = .ok (.value (.slice (some ⟨w.heap.size, 0, none⟩) 1 1)) (w.alloc (.cells (bsC1 x y z) 24)) := by
  unfold execOp
  have e : (#[(0, p)].map fun (i, x) => (i, ac.eval x)) = #[(0, .agg (v3 x y z))] := by simp [hp]
  simp only [ho, Sem.run_bind, e, bs1V, Result.andThen_ok, Sem.run_pure]
theorem exec_bs2Vec {o : Oper} {ac : Act} (w : World) (p q : Operand) {x y z d e f : Int} (ho : o.op = .buildSlice 25 2 #[(0, p), (1, q)]) (hp : ac.eval p = .agg (v3 x y z)) (hq : ac.eval q = .agg (v3 d e f)) :
    (execOp ac.eval o).run Tryz.prog w = .ok (.value (.slice (some ⟨w.heap.size, 0, none⟩) 2 2)) (w.alloc (.cells (bsC2 x y z d e f) 24)) := by
  unfold execOp
  have e : (#[(0, p), (1, q)].map fun (i, x) => (i, ac.eval x)) = #[(0, .agg (v3 x y z)), (1, .agg (v3 d e f))] := by simp [hp, hq]
  simp only [ho, Sem.run_bind, e, bs2V, Result.andThen_ok, Sem.run_pure]

section
variable {o : Oper} {a : Act} {w w0 : World} {l : List (Nat × TypeId × Array Value)} {g i : Nat} {t : TypeId} {cs : Array Value} {z : Int}
theorem exec_loadN_Fix (d : Gen w0 l w) (x : Operand) (ho : o.op = .load 22 x) (hx : a.eval x = .pointer (some ⟨g, i, none⟩)) (hm : (g, t, cs) ∈ l) (hc : cs[i]? = some (.int .i64 z)) : (execOp a.eval o).run Tryz.prog w = .ok (.value (.int .i64 z)) w := by
  have hcc : w.cell? ⟨g, i, none⟩ = some (.int .i64 z) := (d.blk hm).cell i ▸ hc
  unfold execOp
  simp only [ho, hx]
  go_simp
theorem exec_loadN_int (d : Gen w0 l w) (x : Operand) (ho : o.op = .load 3 x) (hx : a.eval x = .pointer (some ⟨g, i, none⟩)) (hm : (g, t, cs) ∈ l) (hc : cs[i]? = some (.int .i64 z)) : (execOp a.eval o).run Tryz.prog w = .ok (.value (.int .i64 z)) w := by
  have hcc : w.cell? ⟨g, i, none⟩ = some (.int .i64 z) := (d.blk hm).cell i ▸ hc
  unfold execOp
  simp only [ho, hx]
  go_simp
theorem exec_loadV_Vecs {A : Option Addr} {n c : Nat} (d : Gen w0 l w) (x : Operand) (ho : o.op = .load 25 x) (hx : a.eval x = .pointer (some ⟨g, i, none⟩)) (hm : (g, t, cs) ∈ l) (hc : cs[i]? = some (.slice A n c)) : (execOp a.eval o).run Tryz.prog w = .ok (.value (.slice A n c)) w := by
  have hcc : w.cell? ⟨g, i, none⟩ = some (.slice A n c) := (d.blk hm).cell i ▸ hc
  unfold execOp
  simp only [ho, hx]
  go_simp
theorem exec_loadV_fholds {f : FuncId} (d : Gen w0 l w) (x : Operand) (ho : o.op = .load 35 x) (hx : a.eval x = .pointer (some ⟨g, i, none⟩)) (hm : (g, t, cs) ∈ l) (hc : cs[i]? = some (.func (Fn.func f) #[] #[])) : (execOp a.eval o).run Tryz.prog w = .ok (.value (.func (Fn.func f) #[] #[])) w := by
  have hcc : w.cell? ⟨g, i, none⟩ = some (.func (Fn.func f) #[] #[]) := (d.blk hm).cell i ▸ hc
  unfold execOp
  simp only [ho, hx]
  go_simp
theorem exec_loadV_fcore {f : FuncId} (d : Gen w0 l w) (x : Operand) (ho : o.op = .load 54 x) (hx : a.eval x = .pointer (some ⟨g, i, none⟩)) (hm : (g, t, cs) ∈ l) (hc : cs[i]? = some (.func (Fn.func f) #[] #[])) : (execOp a.eval o).run Tryz.prog w = .ok (.value (.func (Fn.func f) #[] #[])) w := by
  have hcc : w.cell? ⟨g, i, none⟩ = some (.func (Fn.func f) #[] #[]) := (d.blk hm).cell i ▸ hc
  unfold execOp
  simp only [ho, hx]
  go_simp
theorem exec_loadSub {ty : TypeId} {k : Nat} {vs : Array Value} (d : Gen w0 l w) (hr : Rw ty k) (x : Operand) (ho : o.op = .load ty x) (hx : a.eval x = .pointer (some ⟨g, i, none⟩)) (hm : (g, t, cs) ∈ l) (hk : vs.size = k) (hv : (cs.toList.drop i).take k = vs.toList) :
    (execOp a.eval o).run Tryz.prog w = .ok (.value (.agg vs)) w := by
  have hrr : w.rangeAt g i vs.toList := fun j v hj => by
    rw [(d.blk hm).cell]
    rw [← hv, List.getElem?_take] at hj
    split at hj
    · rw [List.getElem?_drop] at hj
      simpa using hj
    · cases hj
  obtain ⟨⟨dd, hu, hd⟩, hi⟩ := hr
  unfold execOp
  simp only [ho, hx, Instr.loadAt, Instr.sureAddr, Sem.run_bind, Sem.run_pure, Result.andThen_ok, run_loadVar_mid w g i ty vs.toList dd hrr hu (by cases dd <;> first | rfl | cases hd) (by rw [hi]; simp [hk])]
end

end Go.Proofs.YtnemedgdhojhdaaGreat

namespace Go.Proofs.YtnemedgdhojhdaaGreat
open Go.RowKit
set_option maxRecDepth 4000
set_option linter.unusedVariables false

set_option maxHeartbeats 4000000 in
theorem ssize_core (x y : Int) (w : World) (h0 : Hid (Ans 78 #[.int .i64 0, .int .i64 x] (.int .i64 y))) : Calls Tryz.prog 42 #[.int .i64 x] w fun e w' => e = .returned (.int .i64 (mx2 x y)) ∧ Below w.heap.size w w' := by
  go_enter Tryz.func42, Tryz.ntmps42
  go_upto_region 1 with fail
  have D := hide ((Gd.start w))
  refine list_start (S := Gd w []) (unhide D) ?_
  clear D
  refine list_read (v := .int .i64 x) rfl rfl (fun u hS => by go_simp) ?_
  try go_simp
  refine list_read (v := .int .i64 x) rfl rfl (fun u hS => by go_simp) ?_
  try go_simp
  refine list_call (v := .int .i64 y) (f := 78) (args := #[.int .i64 0, .int .i64 x]) rfl rfl (fun u hS => by go_simp) (fun u hS => (unhide h0 u).mono fun _ _ ⟨he, hb⟩ => ⟨he, hS.keep hb⟩) ?_
  try go_simp
  refine list_read (v := .int .i64 (mx2 x y)) rfl rfl (fun u hS => exec_mx2 (.tmp 3) (.tmp 5) rfl rfl rfl) ?_
  try go_simp
  refine list_read (v := .int .i64 (mx2 x y)) rfl rfl (fun u hS => by go_simp) ?_
  try go_simp
  refine list_end (fun u1 hS => ?_)
  have D := hide hS
  clear hS
  go_wp2
  go_ret
  exact ⟨rfl, (unhide D).g.o⟩
/-- A number's size, as the code has it. -/
def asI (x : Int) : Int := mx2 x (cl (0 - x))
theorem SizeS (x : Int) (hx : I64 x) : Ans 42 #[.int .i64 x] (.int .i64 (asI x)) := fun w => ssize_core x _ w (FixSubZ 0 x ⟨by decide, by decide⟩ hx)
set_option maxHeartbeats 4000000 in
theorem isWithin_core (x y z a1 a2 a3 : Int) (t : Bool) (w : World) (h0 : Hid (Ans 42 #[.int .i64 x] (.int .i64 a1))) (h1 : Hid (Ans 42 #[.int .i64 y] (.int .i64 a2))) (h2 : Hid (Ans 42 #[.int .i64 z] (.int .i64 a3))) (e0 : Hid (decide ((mx3 a1 a2 a3 : Int) ≤ 274877906944) = t)) : Calls Tryz.prog 69 #[.agg (v3 x y z)] w fun e w' => e = .returned (.bool t) ∧ Below w.heap.size w w' := by
  go_enter Tryz.func69, Tryz.ntmps69
  go_upto_region 1 with fail
  have D := hide (((Gd.start w).push 24 (v3 x y z)))
  refine region_plan (S := Gd w [(w.heap.size, 24, v3 x y z)]) (l := [0, 1, 2, 3, 4, 5, 6, 7, 8, 9, 10, 11]) (by kernel_rfl) (by kernel_rfl) (by kernel_rfl) (by kernel_rfl) (by kernel_rfl) (by kernel_rfl) (by kernel_rfl) (unhide D).drew ?_
  clear D
  refine plan_read (v := .pointer (some ⟨w.heap.size, 0, none⟩)) rfl rfl (fun u hS => by go_simp) ?_
  try go_simp
  refine plan_read (v := .int .i64 x) rfl rfl (fun u hS => exec_loadN_Fix (g := w.heap.size) (t := 24) (cs := v3 x y z) hS.g _ rfl rfl (by repeat (first | exact List.mem_cons_self | apply List.mem_cons_of_mem)) rfl) ?_
  try go_simp
  refine plan_call (v := .int .i64 a1) (f := 42) (args := #[.int .i64 x]) rfl rfl (fun u hS => by go_simp) (fun u hS => (unhide h0 u).mono fun _ _ ⟨he, hb⟩ => ⟨he, hS.keep hb⟩) ?_
  try go_simp
  refine plan_read (v := .pointer (some ⟨w.heap.size, 1, none⟩)) rfl rfl (fun u hS => by go_simp) ?_
  try go_simp
  refine plan_read (v := .int .i64 y) rfl rfl (fun u hS => exec_loadN_Fix (g := w.heap.size) (t := 24) (cs := v3 x y z) hS.g _ rfl rfl (by repeat (first | exact List.mem_cons_self | apply List.mem_cons_of_mem)) rfl) ?_
  try go_simp
  refine plan_call (v := .int .i64 a2) (f := 42) (args := #[.int .i64 y]) rfl rfl (fun u hS => by go_simp) (fun u hS => (unhide h1 u).mono fun _ _ ⟨he, hb⟩ => ⟨he, hS.keep hb⟩) ?_
  try go_simp
  refine plan_read (v := .pointer (some ⟨w.heap.size, 2, none⟩)) rfl rfl (fun u hS => by go_simp) ?_
  try go_simp
  refine plan_read (v := .int .i64 z) rfl rfl (fun u hS => exec_loadN_Fix (g := w.heap.size) (t := 24) (cs := v3 x y z) hS.g _ rfl rfl (by repeat (first | exact List.mem_cons_self | apply List.mem_cons_of_mem)) rfl) ?_
  try go_simp
  refine plan_call (v := .int .i64 a3) (f := 42) (args := #[.int .i64 z]) rfl rfl (fun u hS => by go_simp) (fun u hS => (unhide h2 u).mono fun _ _ ⟨he, hb⟩ => ⟨he, hS.keep hb⟩) ?_
  try go_simp
  refine plan_read (v := .int .i64 (mx3 a1 a2 a3)) rfl rfl (fun u hS => exec_mx3 (.tmp 5) (.tmp 8) (.tmp 11) rfl rfl rfl rfl) ?_
  try go_simp
  refine plan_read (v := .bool t) rfl rfl (fun u hS => exec_leqS _ _ (unhide e0) rfl rfl rfl) ?_
  try go_simp
  refine plan_read (v := .bool t) rfl rfl (fun u hS => by go_simp) ?_
  try go_simp
  refine plan_end (fun u1 hS => ?_)
  have D := hide hS
  clear hS
  go_wp2
  go_ret
  exact ⟨rfl, (unhide D).g.o⟩
/-- Are a vector's numbers within MaxSize? -/
def wiB (x y z : Int) : Bool := decide (mx3 (asI x) (asI y) (asI z) ≤ 274877906944)
theorem IsWithinS (x y z : Int) (hx : I64 x) (hy : I64 y) (hz : I64 z) : Ans 69 #[.agg (v3 x y z)] (.bool (wiB x y z)) := fun w => isWithin_core x y z _ _ _ _ w (SizeS x hx) (SizeS y hy) (SizeS z hz) rfl
set_option maxHeartbeats 4000000 in
theorem beyond_core (x y z : Int) (t : Bool) (w : World) (h0 : Hid (Ans 69 #[.agg (v3 x y z)] (.bool t))) : Calls Tryz.prog 68 #[.agg (v3 x y z)] w fun e w' => e = .returned (.bool (!t)) ∧ Below w.heap.size w w' := by
  go_enter Tryz.func68, Tryz.ntmps68
  go_upto_region 1 with fail
  have D := hide (((Gd.start w).push 24 (v3 x y z)))
  refine list_start (S := Gd w [(w.heap.size, 24, v3 x y z)]) (unhide D) ?_
  clear D
  refine list_read (v := .agg (v3 x y z)) rfl rfl (fun u hS => exec_loadG (g := w.heap.size) (t := 24) (cs := v3 x y z) hS.g rVec _ rfl rfl (by repeat (first | exact List.mem_cons_self | apply List.mem_cons_of_mem)) rfl) ?_
  try go_simp
  refine list_call (v := .bool t) (f := 69) (args := #[.agg (v3 x y z)]) rfl rfl (fun u hS => by go_simp) (fun u hS => (unhide h0 u).mono fun _ _ ⟨he, hb⟩ => ⟨he, hS.keep hb⟩) ?_
  try go_simp
  refine list_read (v := .bool (!t)) rfl rfl (fun u hS => by go_simp) ?_
  try go_simp
  refine list_read (v := .bool (!t)) rfl rfl (fun u hS => by go_simp) ?_
  try go_simp
  refine list_end (fun u1 hS => ?_)
  have D := hide hS
  clear hS
  go_wp2
  go_ret
  exact ⟨rfl, (unhide D).g.o⟩
theorem BeyondS (x y z : Int) (hx : I64 x) (hy : I64 y) (hz : I64 z) : Ans 68 #[.agg (v3 x y z)] (.bool (!wiB x y z)) := fun w => beyond_core x y z _ w (IsWithinS x y z hx hy hz)
set_option maxHeartbeats 4000000 in
theorem kindOf_1 (w : World) : Calls Tryz.prog 35 #[.int .i64 1] w fun e w' => e = .returned (.tuple #[.agg (#[.func (Fn.func 60) #[] #[], .func (Fn.func 61) #[] #[]]), .bool true]) ∧ Below w.heap.size w w' := by
  go_enter Tryz.func35, Tryz.ntmps35
  go_upto_region 1 with fail
  have D := hide (((Gd.start w).push 56 (#[.nilFunc, .nilFunc])))
  refine list_start (S := Gd w [(w.heap.size, 56, #[.nilFunc, .nilFunc])]) (unhide D) ?_
  clear D
  refine list_read (v := .agg (#[.func (Fn.func 60) #[] #[], .func (Fn.func 61) #[] #[]])) rfl rfl (fun u hS => by go_simp) ?_
  try go_simp
  refine list_read (v := .agg (#[.func (Fn.func 62) #[] #[], .func (Fn.func 63) #[] #[]])) rfl rfl (fun u hS => by go_simp) ?_
  try go_simp
  refine list_read (v := .agg (#[.func (Fn.func 64) #[] #[], .func (Fn.func 65) #[] #[]])) rfl rfl (fun u hS => by go_simp) ?_
  try go_simp
  refine list_read (v := .agg (#[.func (Fn.func 66) #[] #[], .func (Fn.func 67) #[] #[]])) rfl rfl (fun u hS => by go_simp) ?_
  try go_simp
  refine list_read (v := .agg (#[.nilFunc, .nilFunc, .func (Fn.func 60) #[] #[], .func (Fn.func 61) #[] #[], .func (Fn.func 62) #[] #[], .func (Fn.func 63) #[] #[], .func (Fn.func 64) #[] #[], .func (Fn.func 65) #[] #[], .func (Fn.func 66) #[] #[], .func (Fn.func 67) #[] #[]])) rfl rfl (fun u hS => by go_simp) ?_
  try go_simp
  refine list_new (z := #[.nilFunc, .nilFunc, .nilFunc, .nilFunc, .nilFunc, .nilFunc, .nilFunc, .nilFunc, .nilFunc, .nilFunc]) (ty := 83) (v := fun g => .pointer (some ⟨g, 0, none⟩)) rfl rfl (fun u => by go_simp) (fun g1 hgg1 => ?_)
  try go_simp
  refine list_store (l1 := []) (l2 := [(w.heap.size, 56, #[.nilFunc, .nilFunc])]) (l' := [(g1, 83, #[.nilFunc, .nilFunc, .func (Fn.func 60) #[] #[], .func (Fn.func 61) #[] #[], .func (Fn.func 62) #[] #[], .func (Fn.func 63) #[] #[], .func (Fn.func 64) #[] #[], .func (Fn.func 65) #[] #[], .func (Fn.func 66) #[] #[], .func (Fn.func 67) #[] #[]]), (w.heap.size, 56, #[.nilFunc, .nilFunc])]) (g := g1) (old := #[.nilFunc, .nilFunc, .nilFunc, .nilFunc, .nilFunc, .nilFunc, .nilFunc, .nilFunc, .nilFunc, .nilFunc]) (cs := #[.nilFunc, .nilFunc, .func (Fn.func 60) #[] #[], .func (Fn.func 61) #[] #[], .func (Fn.func 62) #[] #[], .func (Fn.func 63) #[] #[], .func (Fn.func 64) #[] #[], .func (Fn.func 65) #[] #[], .func (Fn.func 66) #[] #[], .func (Fn.func 67) #[] #[]]) (.tmp 4) (.tmp 9) rfl rfl rfl rfl rfl rfl rKinds rfl rfl (by simp [Value.oneCell']) hgg1 ?_
  try go_simp
  refine list_end (fun u1 hS => ?_)
  have D := hide hS
  clear hS
  go_upto_region 2 with fail
  refine list_start (S := Gd w [(g1, 83, #[.nilFunc, .nilFunc, .func (Fn.func 60) #[] #[], .func (Fn.func 61) #[] #[], .func (Fn.func 62) #[] #[], .func (Fn.func 63) #[] #[], .func (Fn.func 64) #[] #[], .func (Fn.func 65) #[] #[], .func (Fn.func 66) #[] #[], .func (Fn.func 67) #[] #[]]), (w.heap.size, 56, #[.nilFunc, .nilFunc])]) (unhide D) ?_
  clear D
  refine list_read (v := .int .i64 1) rfl rfl (fun u hS => by go_simp) ?_
  try go_simp
  refine list_read (v := .bool false) rfl rfl (fun u hS => by go_simp) ?_
  try go_simp
  refine list_read (v := .bool false) rfl rfl (fun u hS => by go_simp) ?_
  try go_simp
  refine list_read (v := .int .i64 1) rfl rfl (fun u hS => by go_simp) ?_
  try go_simp
  refine list_read (v := .bool false) rfl rfl (fun u hS => by go_simp) ?_
  try go_simp
  refine list_read (v := .bool false) rfl rfl (fun u hS => by go_simp) ?_
  try go_simp
  refine list_end (fun u2 hS => ?_)
  have D := hide hS
  clear hS
  go_upto_region 4 with fail
  refine list_start (S := Gd w [(g1, 83, #[.nilFunc, .nilFunc, .func (Fn.func 60) #[] #[], .func (Fn.func 61) #[] #[], .func (Fn.func 62) #[] #[], .func (Fn.func 63) #[] #[], .func (Fn.func 64) #[] #[], .func (Fn.func 65) #[] #[], .func (Fn.func 66) #[] #[], .func (Fn.func 67) #[] #[]]), (w.heap.size, 56, #[.nilFunc, .nilFunc])]) (unhide D) ?_
  clear D
  refine list_read (v := .int .i64 1) rfl rfl (fun u hS => by go_simp) ?_
  try go_simp
  refine list_read (v := .pointer (some ⟨g1, 2, none⟩)) rfl rfl (fun u hS => exec_ixKinds (k := 1) u (.tmp 4) (.tmp 17) (by decide) rfl rfl rfl) ?_
  try go_simp
  refine list_read (v := .agg (#[.func (Fn.func 60) #[] #[], .func (Fn.func 61) #[] #[]])) rfl rfl (fun u hS => exec_loadSub (i := 2) (g := g1) (t := 83) (cs := #[.nilFunc, .nilFunc, .func (Fn.func 60) #[] #[], .func (Fn.func 61) #[] #[], .func (Fn.func 62) #[] #[], .func (Fn.func 63) #[] #[], .func (Fn.func 64) #[] #[], .func (Fn.func 65) #[] #[], .func (Fn.func 66) #[] #[], .func (Fn.func 67) #[] #[]]) hS.g rKind (vs := #[.func (Fn.func 60) #[] #[], .func (Fn.func 61) #[] #[]]) _ rfl rfl (by repeat (first | exact List.mem_cons_self | apply List.mem_cons_of_mem)) rfl rfl) ?_
  try go_simp
  refine list_store (l1 := [(g1, 83, #[.nilFunc, .nilFunc, .func (Fn.func 60) #[] #[], .func (Fn.func 61) #[] #[], .func (Fn.func 62) #[] #[], .func (Fn.func 63) #[] #[], .func (Fn.func 64) #[] #[], .func (Fn.func 65) #[] #[], .func (Fn.func 66) #[] #[], .func (Fn.func 67) #[] #[]])]) (l2 := []) (l' := [(g1, 83, #[.nilFunc, .nilFunc, .func (Fn.func 60) #[] #[], .func (Fn.func 61) #[] #[], .func (Fn.func 62) #[] #[], .func (Fn.func 63) #[] #[], .func (Fn.func 64) #[] #[], .func (Fn.func 65) #[] #[], .func (Fn.func 66) #[] #[], .func (Fn.func 67) #[] #[]]), (w.heap.size, 56, #[.func (Fn.func 60) #[] #[], .func (Fn.func 61) #[] #[]])]) (g := w.heap.size) (old := #[.nilFunc, .nilFunc]) (cs := #[.func (Fn.func 60) #[] #[], .func (Fn.func 61) #[] #[]]) (.tmp 2) (.tmp 19) rfl rfl rfl rfl rfl rfl rKind rfl rfl (by simp [Value.oneCell']) (by omega) ?_
  try go_simp
  refine list_read (v := .bool true) rfl rfl (fun u hS => by go_simp) ?_
  try go_simp
  refine list_end (fun u4 hS => ?_)
  have D := hide hS
  clear hS
  go_wp2
  exact resGT rKind ((unhide D).g.blk (g := w.heap.size) (t := 56) (cs := #[.func (Fn.func 60) #[] #[], .func (Fn.func 61) #[] #[]]) (by repeat (first | exact List.mem_cons_self | apply List.mem_cons_of_mem))) rfl rfl rfl rfl rfl ⟨rfl, (unhide D).g.o⟩
set_option maxHeartbeats 4000000 in
theorem kindOf_2 (w : World) : Calls Tryz.prog 35 #[.int .i64 2] w fun e w' => e = .returned (.tuple #[.agg (#[.func (Fn.func 62) #[] #[], .func (Fn.func 63) #[] #[]]), .bool true]) ∧ Below w.heap.size w w' := by
  go_enter Tryz.func35, Tryz.ntmps35
  go_upto_region 1 with fail
  have D := hide (((Gd.start w).push 56 (#[.nilFunc, .nilFunc])))
  refine list_start (S := Gd w [(w.heap.size, 56, #[.nilFunc, .nilFunc])]) (unhide D) ?_
  clear D
  refine list_read (v := .agg (#[.func (Fn.func 60) #[] #[], .func (Fn.func 61) #[] #[]])) rfl rfl (fun u hS => by go_simp) ?_
  try go_simp
  refine list_read (v := .agg (#[.func (Fn.func 62) #[] #[], .func (Fn.func 63) #[] #[]])) rfl rfl (fun u hS => by go_simp) ?_
  try go_simp
  refine list_read (v := .agg (#[.func (Fn.func 64) #[] #[], .func (Fn.func 65) #[] #[]])) rfl rfl (fun u hS => by go_simp) ?_
  try go_simp
  refine list_read (v := .agg (#[.func (Fn.func 66) #[] #[], .func (Fn.func 67) #[] #[]])) rfl rfl (fun u hS => by go_simp) ?_
  try go_simp
  refine list_read (v := .agg (#[.nilFunc, .nilFunc, .func (Fn.func 60) #[] #[], .func (Fn.func 61) #[] #[], .func (Fn.func 62) #[] #[], .func (Fn.func 63) #[] #[], .func (Fn.func 64) #[] #[], .func (Fn.func 65) #[] #[], .func (Fn.func 66) #[] #[], .func (Fn.func 67) #[] #[]])) rfl rfl (fun u hS => by go_simp) ?_
  try go_simp
  refine list_new (z := #[.nilFunc, .nilFunc, .nilFunc, .nilFunc, .nilFunc, .nilFunc, .nilFunc, .nilFunc, .nilFunc, .nilFunc]) (ty := 83) (v := fun g => .pointer (some ⟨g, 0, none⟩)) rfl rfl (fun u => by go_simp) (fun g1 hgg1 => ?_)
  try go_simp
  refine list_store (l1 := []) (l2 := [(w.heap.size, 56, #[.nilFunc, .nilFunc])]) (l' := [(g1, 83, #[.nilFunc, .nilFunc, .func (Fn.func 60) #[] #[], .func (Fn.func 61) #[] #[], .func (Fn.func 62) #[] #[], .func (Fn.func 63) #[] #[], .func (Fn.func 64) #[] #[], .func (Fn.func 65) #[] #[], .func (Fn.func 66) #[] #[], .func (Fn.func 67) #[] #[]]), (w.heap.size, 56, #[.nilFunc, .nilFunc])]) (g := g1) (old := #[.nilFunc, .nilFunc, .nilFunc, .nilFunc, .nilFunc, .nilFunc, .nilFunc, .nilFunc, .nilFunc, .nilFunc]) (cs := #[.nilFunc, .nilFunc, .func (Fn.func 60) #[] #[], .func (Fn.func 61) #[] #[], .func (Fn.func 62) #[] #[], .func (Fn.func 63) #[] #[], .func (Fn.func 64) #[] #[], .func (Fn.func 65) #[] #[], .func (Fn.func 66) #[] #[], .func (Fn.func 67) #[] #[]]) (.tmp 4) (.tmp 9) rfl rfl rfl rfl rfl rfl rKinds rfl rfl (by simp [Value.oneCell']) hgg1 ?_
  try go_simp
  refine list_end (fun u1 hS => ?_)
  have D := hide hS
  clear hS
  go_upto_region 2 with fail
  refine list_start (S := Gd w [(g1, 83, #[.nilFunc, .nilFunc, .func (Fn.func 60) #[] #[], .func (Fn.func 61) #[] #[], .func (Fn.func 62) #[] #[], .func (Fn.func 63) #[] #[], .func (Fn.func 64) #[] #[], .func (Fn.func 65) #[] #[], .func (Fn.func 66) #[] #[], .func (Fn.func 67) #[] #[]]), (w.heap.size, 56, #[.nilFunc, .nilFunc])]) (unhide D) ?_
  clear D
  refine list_read (v := .int .i64 2) rfl rfl (fun u hS => by go_simp) ?_
  try go_simp
  refine list_read (v := .bool false) rfl rfl (fun u hS => by go_simp) ?_
  try go_simp
  refine list_read (v := .bool false) rfl rfl (fun u hS => by go_simp) ?_
  try go_simp
  refine list_read (v := .int .i64 2) rfl rfl (fun u hS => by go_simp) ?_
  try go_simp
  refine list_read (v := .bool false) rfl rfl (fun u hS => by go_simp) ?_
  try go_simp
  refine list_read (v := .bool false) rfl rfl (fun u hS => by go_simp) ?_
  try go_simp
  refine list_end (fun u2 hS => ?_)
  have D := hide hS
  clear hS
  go_upto_region 4 with fail
  refine list_start (S := Gd w [(g1, 83, #[.nilFunc, .nilFunc, .func (Fn.func 60) #[] #[], .func (Fn.func 61) #[] #[], .func (Fn.func 62) #[] #[], .func (Fn.func 63) #[] #[], .func (Fn.func 64) #[] #[], .func (Fn.func 65) #[] #[], .func (Fn.func 66) #[] #[], .func (Fn.func 67) #[] #[]]), (w.heap.size, 56, #[.nilFunc, .nilFunc])]) (unhide D) ?_
  clear D
  refine list_read (v := .int .i64 2) rfl rfl (fun u hS => by go_simp) ?_
  try go_simp
  refine list_read (v := .pointer (some ⟨g1, 4, none⟩)) rfl rfl (fun u hS => exec_ixKinds (k := 2) u (.tmp 4) (.tmp 17) (by decide) rfl rfl rfl) ?_
  try go_simp
  refine list_read (v := .agg (#[.func (Fn.func 62) #[] #[], .func (Fn.func 63) #[] #[]])) rfl rfl (fun u hS => exec_loadSub (i := 4) (g := g1) (t := 83) (cs := #[.nilFunc, .nilFunc, .func (Fn.func 60) #[] #[], .func (Fn.func 61) #[] #[], .func (Fn.func 62) #[] #[], .func (Fn.func 63) #[] #[], .func (Fn.func 64) #[] #[], .func (Fn.func 65) #[] #[], .func (Fn.func 66) #[] #[], .func (Fn.func 67) #[] #[]]) hS.g rKind (vs := #[.func (Fn.func 62) #[] #[], .func (Fn.func 63) #[] #[]]) _ rfl rfl (by repeat (first | exact List.mem_cons_self | apply List.mem_cons_of_mem)) rfl rfl) ?_
  try go_simp
  refine list_store (l1 := [(g1, 83, #[.nilFunc, .nilFunc, .func (Fn.func 60) #[] #[], .func (Fn.func 61) #[] #[], .func (Fn.func 62) #[] #[], .func (Fn.func 63) #[] #[], .func (Fn.func 64) #[] #[], .func (Fn.func 65) #[] #[], .func (Fn.func 66) #[] #[], .func (Fn.func 67) #[] #[]])]) (l2 := []) (l' := [(g1, 83, #[.nilFunc, .nilFunc, .func (Fn.func 60) #[] #[], .func (Fn.func 61) #[] #[], .func (Fn.func 62) #[] #[], .func (Fn.func 63) #[] #[], .func (Fn.func 64) #[] #[], .func (Fn.func 65) #[] #[], .func (Fn.func 66) #[] #[], .func (Fn.func 67) #[] #[]]), (w.heap.size, 56, #[.func (Fn.func 62) #[] #[], .func (Fn.func 63) #[] #[]])]) (g := w.heap.size) (old := #[.nilFunc, .nilFunc]) (cs := #[.func (Fn.func 62) #[] #[], .func (Fn.func 63) #[] #[]]) (.tmp 2) (.tmp 19) rfl rfl rfl rfl rfl rfl rKind rfl rfl (by simp [Value.oneCell']) (by omega) ?_
  try go_simp
  refine list_read (v := .bool true) rfl rfl (fun u hS => by go_simp) ?_
  try go_simp
  refine list_end (fun u4 hS => ?_)
  have D := hide hS
  clear hS
  go_wp2
  exact resGT rKind ((unhide D).g.blk (g := w.heap.size) (t := 56) (cs := #[.func (Fn.func 62) #[] #[], .func (Fn.func 63) #[] #[]]) (by repeat (first | exact List.mem_cons_self | apply List.mem_cons_of_mem))) rfl rfl rfl rfl rfl ⟨rfl, (unhide D).g.o⟩
set_option maxHeartbeats 4000000 in
theorem kindOf_3 (w : World) : Calls Tryz.prog 35 #[.int .i64 3] w fun e w' => e = .returned (.tuple #[.agg (#[.func (Fn.func 64) #[] #[], .func (Fn.func 65) #[] #[]]), .bool true]) ∧ Below w.heap.size w w' := by
  go_enter Tryz.func35, Tryz.ntmps35
  go_upto_region 1 with fail
  have D := hide (((Gd.start w).push 56 (#[.nilFunc, .nilFunc])))
  refine list_start (S := Gd w [(w.heap.size, 56, #[.nilFunc, .nilFunc])]) (unhide D) ?_
  clear D
  refine list_read (v := .agg (#[.func (Fn.func 60) #[] #[], .func (Fn.func 61) #[] #[]])) rfl rfl (fun u hS => by go_simp) ?_
  try go_simp
  refine list_read (v := .agg (#[.func (Fn.func 62) #[] #[], .func (Fn.func 63) #[] #[]])) rfl rfl (fun u hS => by go_simp) ?_
  try go_simp
  refine list_read (v := .agg (#[.func (Fn.func 64) #[] #[], .func (Fn.func 65) #[] #[]])) rfl rfl (fun u hS => by go_simp) ?_
  try go_simp
  refine list_read (v := .agg (#[.func (Fn.func 66) #[] #[], .func (Fn.func 67) #[] #[]])) rfl rfl (fun u hS => by go_simp) ?_
  try go_simp
  refine list_read (v := .agg (#[.nilFunc, .nilFunc, .func (Fn.func 60) #[] #[], .func (Fn.func 61) #[] #[], .func (Fn.func 62) #[] #[], .func (Fn.func 63) #[] #[], .func (Fn.func 64) #[] #[], .func (Fn.func 65) #[] #[], .func (Fn.func 66) #[] #[], .func (Fn.func 67) #[] #[]])) rfl rfl (fun u hS => by go_simp) ?_
  try go_simp
  refine list_new (z := #[.nilFunc, .nilFunc, .nilFunc, .nilFunc, .nilFunc, .nilFunc, .nilFunc, .nilFunc, .nilFunc, .nilFunc]) (ty := 83) (v := fun g => .pointer (some ⟨g, 0, none⟩)) rfl rfl (fun u => by go_simp) (fun g1 hgg1 => ?_)
  try go_simp
  refine list_store (l1 := []) (l2 := [(w.heap.size, 56, #[.nilFunc, .nilFunc])]) (l' := [(g1, 83, #[.nilFunc, .nilFunc, .func (Fn.func 60) #[] #[], .func (Fn.func 61) #[] #[], .func (Fn.func 62) #[] #[], .func (Fn.func 63) #[] #[], .func (Fn.func 64) #[] #[], .func (Fn.func 65) #[] #[], .func (Fn.func 66) #[] #[], .func (Fn.func 67) #[] #[]]), (w.heap.size, 56, #[.nilFunc, .nilFunc])]) (g := g1) (old := #[.nilFunc, .nilFunc, .nilFunc, .nilFunc, .nilFunc, .nilFunc, .nilFunc, .nilFunc, .nilFunc, .nilFunc]) (cs := #[.nilFunc, .nilFunc, .func (Fn.func 60) #[] #[], .func (Fn.func 61) #[] #[], .func (Fn.func 62) #[] #[], .func (Fn.func 63) #[] #[], .func (Fn.func 64) #[] #[], .func (Fn.func 65) #[] #[], .func (Fn.func 66) #[] #[], .func (Fn.func 67) #[] #[]]) (.tmp 4) (.tmp 9) rfl rfl rfl rfl rfl rfl rKinds rfl rfl (by simp [Value.oneCell']) hgg1 ?_
  try go_simp
  refine list_end (fun u1 hS => ?_)
  have D := hide hS
  clear hS
  go_upto_region 2 with fail
  refine list_start (S := Gd w [(g1, 83, #[.nilFunc, .nilFunc, .func (Fn.func 60) #[] #[], .func (Fn.func 61) #[] #[], .func (Fn.func 62) #[] #[], .func (Fn.func 63) #[] #[], .func (Fn.func 64) #[] #[], .func (Fn.func 65) #[] #[], .func (Fn.func 66) #[] #[], .func (Fn.func 67) #[] #[]]), (w.heap.size, 56, #[.nilFunc, .nilFunc])]) (unhide D) ?_
  clear D
  refine list_read (v := .int .i64 3) rfl rfl (fun u hS => by go_simp) ?_
  try go_simp
  refine list_read (v := .bool false) rfl rfl (fun u hS => by go_simp) ?_
  try go_simp
  refine list_read (v := .bool false) rfl rfl (fun u hS => by go_simp) ?_
  try go_simp
  refine list_read (v := .int .i64 3) rfl rfl (fun u hS => by go_simp) ?_
  try go_simp
  refine list_read (v := .bool false) rfl rfl (fun u hS => by go_simp) ?_
  try go_simp
  refine list_read (v := .bool false) rfl rfl (fun u hS => by go_simp) ?_
  try go_simp
  refine list_end (fun u2 hS => ?_)
  have D := hide hS
  clear hS
  go_upto_region 4 with fail
  refine list_start (S := Gd w [(g1, 83, #[.nilFunc, .nilFunc, .func (Fn.func 60) #[] #[], .func (Fn.func 61) #[] #[], .func (Fn.func 62) #[] #[], .func (Fn.func 63) #[] #[], .func (Fn.func 64) #[] #[], .func (Fn.func 65) #[] #[], .func (Fn.func 66) #[] #[], .func (Fn.func 67) #[] #[]]), (w.heap.size, 56, #[.nilFunc, .nilFunc])]) (unhide D) ?_
  clear D
  refine list_read (v := .int .i64 3) rfl rfl (fun u hS => by go_simp) ?_
  try go_simp
  refine list_read (v := .pointer (some ⟨g1, 6, none⟩)) rfl rfl (fun u hS => exec_ixKinds (k := 3) u (.tmp 4) (.tmp 17) (by decide) rfl rfl rfl) ?_
  try go_simp
  refine list_read (v := .agg (#[.func (Fn.func 64) #[] #[], .func (Fn.func 65) #[] #[]])) rfl rfl (fun u hS => exec_loadSub (i := 6) (g := g1) (t := 83) (cs := #[.nilFunc, .nilFunc, .func (Fn.func 60) #[] #[], .func (Fn.func 61) #[] #[], .func (Fn.func 62) #[] #[], .func (Fn.func 63) #[] #[], .func (Fn.func 64) #[] #[], .func (Fn.func 65) #[] #[], .func (Fn.func 66) #[] #[], .func (Fn.func 67) #[] #[]]) hS.g rKind (vs := #[.func (Fn.func 64) #[] #[], .func (Fn.func 65) #[] #[]]) _ rfl rfl (by repeat (first | exact List.mem_cons_self | apply List.mem_cons_of_mem)) rfl rfl) ?_
  try go_simp
  refine list_store (l1 := [(g1, 83, #[.nilFunc, .nilFunc, .func (Fn.func 60) #[] #[], .func (Fn.func 61) #[] #[], .func (Fn.func 62) #[] #[], .func (Fn.func 63) #[] #[], .func (Fn.func 64) #[] #[], .func (Fn.func 65) #[] #[], .func (Fn.func 66) #[] #[], .func (Fn.func 67) #[] #[]])]) (l2 := []) (l' := [(g1, 83, #[.nilFunc, .nilFunc, .func (Fn.func 60) #[] #[], .func (Fn.func 61) #[] #[], .func (Fn.func 62) #[] #[], .func (Fn.func 63) #[] #[], .func (Fn.func 64) #[] #[], .func (Fn.func 65) #[] #[], .func (Fn.func 66) #[] #[], .func (Fn.func 67) #[] #[]]), (w.heap.size, 56, #[.func (Fn.func 64) #[] #[], .func (Fn.func 65) #[] #[]])]) (g := w.heap.size) (old := #[.nilFunc, .nilFunc]) (cs := #[.func (Fn.func 64) #[] #[], .func (Fn.func 65) #[] #[]]) (.tmp 2) (.tmp 19) rfl rfl rfl rfl rfl rfl rKind rfl rfl (by simp [Value.oneCell']) (by omega) ?_
  try go_simp
  refine list_read (v := .bool true) rfl rfl (fun u hS => by go_simp) ?_
  try go_simp
  refine list_end (fun u4 hS => ?_)
  have D := hide hS
  clear hS
  go_wp2
  exact resGT rKind ((unhide D).g.blk (g := w.heap.size) (t := 56) (cs := #[.func (Fn.func 64) #[] #[], .func (Fn.func 65) #[] #[]]) (by repeat (first | exact List.mem_cons_self | apply List.mem_cons_of_mem))) rfl rfl rfl rfl rfl ⟨rfl, (unhide D).g.o⟩
set_option maxHeartbeats 4000000 in
theorem kindOf_4 (w : World) : Calls Tryz.prog 35 #[.int .i64 4] w fun e w' => e = .returned (.tuple #[.agg (#[.func (Fn.func 66) #[] #[], .func (Fn.func 67) #[] #[]]), .bool true]) ∧ Below w.heap.size w w' := by
  go_enter Tryz.func35, Tryz.ntmps35
  go_upto_region 1 with fail
  have D := hide (((Gd.start w).push 56 (#[.nilFunc, .nilFunc])))
  refine list_start (S := Gd w [(w.heap.size, 56, #[.nilFunc, .nilFunc])]) (unhide D) ?_
  clear D
  refine list_read (v := .agg (#[.func (Fn.func 60) #[] #[], .func (Fn.func 61) #[] #[]])) rfl rfl (fun u hS => by go_simp) ?_
  try go_simp
  refine list_read (v := .agg (#[.func (Fn.func 62) #[] #[], .func (Fn.func 63) #[] #[]])) rfl rfl (fun u hS => by go_simp) ?_
  try go_simp
  refine list_read (v := .agg (#[.func (Fn.func 64) #[] #[], .func (Fn.func 65) #[] #[]])) rfl rfl (fun u hS => by go_simp) ?_
  try go_simp
  refine list_read (v := .agg (#[.func (Fn.func 66) #[] #[], .func (Fn.func 67) #[] #[]])) rfl rfl (fun u hS => by go_simp) ?_
  try go_simp
  refine list_read (v := .agg (#[.nilFunc, .nilFunc, .func (Fn.func 60) #[] #[], .func (Fn.func 61) #[] #[], .func (Fn.func 62) #[] #[], .func (Fn.func 63) #[] #[], .func (Fn.func 64) #[] #[], .func (Fn.func 65) #[] #[], .func (Fn.func 66) #[] #[], .func (Fn.func 67) #[] #[]])) rfl rfl (fun u hS => by go_simp) ?_
  try go_simp
  refine list_new (z := #[.nilFunc, .nilFunc, .nilFunc, .nilFunc, .nilFunc, .nilFunc, .nilFunc, .nilFunc, .nilFunc, .nilFunc]) (ty := 83) (v := fun g => .pointer (some ⟨g, 0, none⟩)) rfl rfl (fun u => by go_simp) (fun g1 hgg1 => ?_)
  try go_simp
  refine list_store (l1 := []) (l2 := [(w.heap.size, 56, #[.nilFunc, .nilFunc])]) (l' := [(g1, 83, #[.nilFunc, .nilFunc, .func (Fn.func 60) #[] #[], .func (Fn.func 61) #[] #[], .func (Fn.func 62) #[] #[], .func (Fn.func 63) #[] #[], .func (Fn.func 64) #[] #[], .func (Fn.func 65) #[] #[], .func (Fn.func 66) #[] #[], .func (Fn.func 67) #[] #[]]), (w.heap.size, 56, #[.nilFunc, .nilFunc])]) (g := g1) (old := #[.nilFunc, .nilFunc, .nilFunc, .nilFunc, .nilFunc, .nilFunc, .nilFunc, .nilFunc, .nilFunc, .nilFunc]) (cs := #[.nilFunc, .nilFunc, .func (Fn.func 60) #[] #[], .func (Fn.func 61) #[] #[], .func (Fn.func 62) #[] #[], .func (Fn.func 63) #[] #[], .func (Fn.func 64) #[] #[], .func (Fn.func 65) #[] #[], .func (Fn.func 66) #[] #[], .func (Fn.func 67) #[] #[]]) (.tmp 4) (.tmp 9) rfl rfl rfl rfl rfl rfl rKinds rfl rfl (by simp [Value.oneCell']) hgg1 ?_
  try go_simp
  refine list_end (fun u1 hS => ?_)
  have D := hide hS
  clear hS
  go_upto_region 2 with fail
  refine list_start (S := Gd w [(g1, 83, #[.nilFunc, .nilFunc, .func (Fn.func 60) #[] #[], .func (Fn.func 61) #[] #[], .func (Fn.func 62) #[] #[], .func (Fn.func 63) #[] #[], .func (Fn.func 64) #[] #[], .func (Fn.func 65) #[] #[], .func (Fn.func 66) #[] #[], .func (Fn.func 67) #[] #[]]), (w.heap.size, 56, #[.nilFunc, .nilFunc])]) (unhide D) ?_
  clear D
  refine list_read (v := .int .i64 4) rfl rfl (fun u hS => by go_simp) ?_
  try go_simp
  refine list_read (v := .bool false) rfl rfl (fun u hS => by go_simp) ?_
  try go_simp
  refine list_read (v := .bool false) rfl rfl (fun u hS => by go_simp) ?_
  try go_simp
  refine list_read (v := .int .i64 4) rfl rfl (fun u hS => by go_simp) ?_
  try go_simp
  refine list_read (v := .bool false) rfl rfl (fun u hS => by go_simp) ?_
  try go_simp
  refine list_read (v := .bool false) rfl rfl (fun u hS => by go_simp) ?_
  try go_simp
  refine list_end (fun u2 hS => ?_)
  have D := hide hS
  clear hS
  go_upto_region 4 with fail
  refine list_start (S := Gd w [(g1, 83, #[.nilFunc, .nilFunc, .func (Fn.func 60) #[] #[], .func (Fn.func 61) #[] #[], .func (Fn.func 62) #[] #[], .func (Fn.func 63) #[] #[], .func (Fn.func 64) #[] #[], .func (Fn.func 65) #[] #[], .func (Fn.func 66) #[] #[], .func (Fn.func 67) #[] #[]]), (w.heap.size, 56, #[.nilFunc, .nilFunc])]) (unhide D) ?_
  clear D
  refine list_read (v := .int .i64 4) rfl rfl (fun u hS => by go_simp) ?_
  try go_simp
  refine list_read (v := .pointer (some ⟨g1, 8, none⟩)) rfl rfl (fun u hS => exec_ixKinds (k := 4) u (.tmp 4) (.tmp 17) (by decide) rfl rfl rfl) ?_
  try go_simp
  refine list_read (v := .agg (#[.func (Fn.func 66) #[] #[], .func (Fn.func 67) #[] #[]])) rfl rfl (fun u hS => exec_loadSub (i := 8) (g := g1) (t := 83) (cs := #[.nilFunc, .nilFunc, .func (Fn.func 60) #[] #[], .func (Fn.func 61) #[] #[], .func (Fn.func 62) #[] #[], .func (Fn.func 63) #[] #[], .func (Fn.func 64) #[] #[], .func (Fn.func 65) #[] #[], .func (Fn.func 66) #[] #[], .func (Fn.func 67) #[] #[]]) hS.g rKind (vs := #[.func (Fn.func 66) #[] #[], .func (Fn.func 67) #[] #[]]) _ rfl rfl (by repeat (first | exact List.mem_cons_self | apply List.mem_cons_of_mem)) rfl rfl) ?_
  try go_simp
  refine list_store (l1 := [(g1, 83, #[.nilFunc, .nilFunc, .func (Fn.func 60) #[] #[], .func (Fn.func 61) #[] #[], .func (Fn.func 62) #[] #[], .func (Fn.func 63) #[] #[], .func (Fn.func 64) #[] #[], .func (Fn.func 65) #[] #[], .func (Fn.func 66) #[] #[], .func (Fn.func 67) #[] #[]])]) (l2 := []) (l' := [(g1, 83, #[.nilFunc, .nilFunc, .func (Fn.func 60) #[] #[], .func (Fn.func 61) #[] #[], .func (Fn.func 62) #[] #[], .func (Fn.func 63) #[] #[], .func (Fn.func 64) #[] #[], .func (Fn.func 65) #[] #[], .func (Fn.func 66) #[] #[], .func (Fn.func 67) #[] #[]]), (w.heap.size, 56, #[.func (Fn.func 66) #[] #[], .func (Fn.func 67) #[] #[]])]) (g := w.heap.size) (old := #[.nilFunc, .nilFunc]) (cs := #[.func (Fn.func 66) #[] #[], .func (Fn.func 67) #[] #[]]) (.tmp 2) (.tmp 19) rfl rfl rfl rfl rfl rfl rKind rfl rfl (by simp [Value.oneCell']) (by omega) ?_
  try go_simp
  refine list_read (v := .bool true) rfl rfl (fun u hS => by go_simp) ?_
  try go_simp
  refine list_end (fun u4 hS => ?_)
  have D := hide hS
  clear hS
  go_wp2
  exact resGT rKind ((unhide D).g.blk (g := w.heap.size) (t := 56) (cs := #[.func (Fn.func 66) #[] #[], .func (Fn.func 67) #[] #[]]) (by repeat (first | exact List.mem_cons_self | apply List.mem_cons_of_mem))) rfl rfl rfl rfl rfl ⟨rfl, (unhide D).g.o⟩
set_option maxHeartbeats 4000000 in
theorem kindOf_lo (k : Int) (w : World) (e0 : Hid (decide ((k : Int) < 1) = true)) : Calls Tryz.prog 35 #[.int .i64 k] w fun e w' => e = .returned (.tuple #[.agg (#[.nilFunc, .nilFunc]), .bool false]) ∧ Below w.heap.size w w' := by
  go_enter Tryz.func35, Tryz.ntmps35
  go_upto_region 1 with fail
  have D := hide (((Gd.start w).push 56 (#[.nilFunc, .nilFunc])))
  refine list_start (S := Gd w [(w.heap.size, 56, #[.nilFunc, .nilFunc])]) (unhide D) ?_
  clear D
  refine list_read (v := .agg (#[.func (Fn.func 60) #[] #[], .func (Fn.func 61) #[] #[]])) rfl rfl (fun u hS => by go_simp) ?_
  try go_simp
  refine list_read (v := .agg (#[.func (Fn.func 62) #[] #[], .func (Fn.func 63) #[] #[]])) rfl rfl (fun u hS => by go_simp) ?_
  try go_simp
  refine list_read (v := .agg (#[.func (Fn.func 64) #[] #[], .func (Fn.func 65) #[] #[]])) rfl rfl (fun u hS => by go_simp) ?_
  try go_simp
  refine list_read (v := .agg (#[.func (Fn.func 66) #[] #[], .func (Fn.func 67) #[] #[]])) rfl rfl (fun u hS => by go_simp) ?_
  try go_simp
  refine list_read (v := .agg (#[.nilFunc, .nilFunc, .func (Fn.func 60) #[] #[], .func (Fn.func 61) #[] #[], .func (Fn.func 62) #[] #[], .func (Fn.func 63) #[] #[], .func (Fn.func 64) #[] #[], .func (Fn.func 65) #[] #[], .func (Fn.func 66) #[] #[], .func (Fn.func 67) #[] #[]])) rfl rfl (fun u hS => by go_simp) ?_
  try go_simp
  refine list_new (z := #[.nilFunc, .nilFunc, .nilFunc, .nilFunc, .nilFunc, .nilFunc, .nilFunc, .nilFunc, .nilFunc, .nilFunc]) (ty := 83) (v := fun g => .pointer (some ⟨g, 0, none⟩)) rfl rfl (fun u => by go_simp) (fun g1 hgg1 => ?_)
  try go_simp
  refine list_store (l1 := []) (l2 := [(w.heap.size, 56, #[.nilFunc, .nilFunc])]) (l' := [(g1, 83, #[.nilFunc, .nilFunc, .func (Fn.func 60) #[] #[], .func (Fn.func 61) #[] #[], .func (Fn.func 62) #[] #[], .func (Fn.func 63) #[] #[], .func (Fn.func 64) #[] #[], .func (Fn.func 65) #[] #[], .func (Fn.func 66) #[] #[], .func (Fn.func 67) #[] #[]]), (w.heap.size, 56, #[.nilFunc, .nilFunc])]) (g := g1) (old := #[.nilFunc, .nilFunc, .nilFunc, .nilFunc, .nilFunc, .nilFunc, .nilFunc, .nilFunc, .nilFunc, .nilFunc]) (cs := #[.nilFunc, .nilFunc, .func (Fn.func 60) #[] #[], .func (Fn.func 61) #[] #[], .func (Fn.func 62) #[] #[], .func (Fn.func 63) #[] #[], .func (Fn.func 64) #[] #[], .func (Fn.func 65) #[] #[], .func (Fn.func 66) #[] #[], .func (Fn.func 67) #[] #[]]) (.tmp 4) (.tmp 9) rfl rfl rfl rfl rfl rfl rKinds rfl rfl (by simp [Value.oneCell']) hgg1 ?_
  try go_simp
  refine list_end (fun u1 hS => ?_)
  have D := hide hS
  clear hS
  go_upto_region 2 with fail
  refine list_start (S := Gd w [(g1, 83, #[.nilFunc, .nilFunc, .func (Fn.func 60) #[] #[], .func (Fn.func 61) #[] #[], .func (Fn.func 62) #[] #[], .func (Fn.func 63) #[] #[], .func (Fn.func 64) #[] #[], .func (Fn.func 65) #[] #[], .func (Fn.func 66) #[] #[], .func (Fn.func 67) #[] #[]]), (w.heap.size, 56, #[.nilFunc, .nilFunc])]) (unhide D) ?_
  clear D
  refine list_read (v := .int .i64 k) rfl rfl (fun u hS => by go_simp) ?_
  try go_simp
  refine list_read (v := .bool true) rfl rfl (fun u hS => exec_lssS _ _ (unhide e0) rfl rfl rfl) ?_
  try go_simp
  refine list_read (v := .bool true) rfl rfl (fun u hS => by go_simp) ?_
  try go_simp
  refine list_skip ?_ ?_ ?_
  · rfl
  · rfl
  try go_simp
  refine list_skip ?_ ?_ ?_
  · rfl
  · rfl
  try go_simp
  refine list_read (v := .bool true) rfl rfl (fun u hS => by go_simp) ?_
  try go_simp
  refine list_end (fun u2 hS => ?_)
  have D := hide hS
  clear hS
  go_upto_region 3 with fail
  refine list_start (S := Gd w [(g1, 83, #[.nilFunc, .nilFunc, .func (Fn.func 60) #[] #[], .func (Fn.func 61) #[] #[], .func (Fn.func 62) #[] #[], .func (Fn.func 63) #[] #[], .func (Fn.func 64) #[] #[], .func (Fn.func 65) #[] #[], .func (Fn.func 66) #[] #[], .func (Fn.func 67) #[] #[]]), (w.heap.size, 56, #[.nilFunc, .nilFunc])]) (unhide D) ?_
  clear D
  refine list_read (v := .agg (#[.nilFunc, .nilFunc])) rfl rfl (fun u hS => exec_bld0 u 56 rfl (by kernel_rfl)) ?_
  try go_simp
  refine list_store (l1 := [(g1, 83, #[.nilFunc, .nilFunc, .func (Fn.func 60) #[] #[], .func (Fn.func 61) #[] #[], .func (Fn.func 62) #[] #[], .func (Fn.func 63) #[] #[], .func (Fn.func 64) #[] #[], .func (Fn.func 65) #[] #[], .func (Fn.func 66) #[] #[], .func (Fn.func 67) #[] #[]])]) (l2 := []) (l' := [(g1, 83, #[.nilFunc, .nilFunc, .func (Fn.func 60) #[] #[], .func (Fn.func 61) #[] #[], .func (Fn.func 62) #[] #[], .func (Fn.func 63) #[] #[], .func (Fn.func 64) #[] #[], .func (Fn.func 65) #[] #[], .func (Fn.func 66) #[] #[], .func (Fn.func 67) #[] #[]]), (w.heap.size, 56, #[.nilFunc, .nilFunc])]) (g := w.heap.size) (old := #[.nilFunc, .nilFunc]) (cs := #[.nilFunc, .nilFunc]) (.tmp 2) (.tmp 16) rfl rfl rfl rfl rfl rfl rKind rfl rfl (by simp [Value.oneCell']) (by omega) ?_
  try go_simp
  refine list_read (v := .bool false) rfl rfl (fun u hS => by go_simp) ?_
  try go_simp
  refine list_end (fun u3 hS => ?_)
  have D := hide hS
  clear hS
  go_wp2
  exact resGT rKind ((unhide D).g.blk (g := w.heap.size) (t := 56) (cs := #[.nilFunc, .nilFunc]) (by repeat (first | exact List.mem_cons_self | apply List.mem_cons_of_mem))) rfl rfl rfl rfl rfl ⟨rfl, (unhide D).g.o⟩
set_option maxHeartbeats 4000000 in
theorem kindOf_hi (k : Int) (w : World) (e0 : Hid (decide ((k : Int) < 1) = false)) (e1 : Hid (decide ((5 : Int) ≤ k) = true)) : Calls Tryz.prog 35 #[.int .i64 k] w fun e w' => e = .returned (.tuple #[.agg (#[.nilFunc, .nilFunc]), .bool false]) ∧ Below w.heap.size w w' := by
  go_enter Tryz.func35, Tryz.ntmps35
  go_upto_region 1 with fail
  have D := hide (((Gd.start w).push 56 (#[.nilFunc, .nilFunc])))
  refine list_start (S := Gd w [(w.heap.size, 56, #[.nilFunc, .nilFunc])]) (unhide D) ?_
  clear D
  refine list_read (v := .agg (#[.func (Fn.func 60) #[] #[], .func (Fn.func 61) #[] #[]])) rfl rfl (fun u hS => by go_simp) ?_
  try go_simp
  refine list_read (v := .agg (#[.func (Fn.func 62) #[] #[], .func (Fn.func 63) #[] #[]])) rfl rfl (fun u hS => by go_simp) ?_
  try go_simp
  refine list_read (v := .agg (#[.func (Fn.func 64) #[] #[], .func (Fn.func 65) #[] #[]])) rfl rfl (fun u hS => by go_simp) ?_
  try go_simp
  refine list_read (v := .agg (#[.func (Fn.func 66) #[] #[], .func (Fn.func 67) #[] #[]])) rfl rfl (fun u hS => by go_simp) ?_
  try go_simp
  refine list_read (v := .agg (#[.nilFunc, .nilFunc, .func (Fn.func 60) #[] #[], .func (Fn.func 61) #[] #[], .func (Fn.func 62) #[] #[], .func (Fn.func 63) #[] #[], .func (Fn.func 64) #[] #[], .func (Fn.func 65) #[] #[], .func (Fn.func 66) #[] #[], .func (Fn.func 67) #[] #[]])) rfl rfl (fun u hS => by go_simp) ?_
  try go_simp
  refine list_new (z := #[.nilFunc, .nilFunc, .nilFunc, .nilFunc, .nilFunc, .nilFunc, .nilFunc, .nilFunc, .nilFunc, .nilFunc]) (ty := 83) (v := fun g => .pointer (some ⟨g, 0, none⟩)) rfl rfl (fun u => by go_simp) (fun g1 hgg1 => ?_)
  try go_simp
  refine list_store (l1 := []) (l2 := [(w.heap.size, 56, #[.nilFunc, .nilFunc])]) (l' := [(g1, 83, #[.nilFunc, .nilFunc, .func (Fn.func 60) #[] #[], .func (Fn.func 61) #[] #[], .func (Fn.func 62) #[] #[], .func (Fn.func 63) #[] #[], .func (Fn.func 64) #[] #[], .func (Fn.func 65) #[] #[], .func (Fn.func 66) #[] #[], .func (Fn.func 67) #[] #[]]), (w.heap.size, 56, #[.nilFunc, .nilFunc])]) (g := g1) (old := #[.nilFunc, .nilFunc, .nilFunc, .nilFunc, .nilFunc, .nilFunc, .nilFunc, .nilFunc, .nilFunc, .nilFunc]) (cs := #[.nilFunc, .nilFunc, .func (Fn.func 60) #[] #[], .func (Fn.func 61) #[] #[], .func (Fn.func 62) #[] #[], .func (Fn.func 63) #[] #[], .func (Fn.func 64) #[] #[], .func (Fn.func 65) #[] #[], .func (Fn.func 66) #[] #[], .func (Fn.func 67) #[] #[]]) (.tmp 4) (.tmp 9) rfl rfl rfl rfl rfl rfl rKinds rfl rfl (by simp [Value.oneCell']) hgg1 ?_
  try go_simp
  refine list_end (fun u1 hS => ?_)
  have D := hide hS
  clear hS
  go_upto_region 2 with fail
  refine list_start (S := Gd w [(g1, 83, #[.nilFunc, .nilFunc, .func (Fn.func 60) #[] #[], .func (Fn.func 61) #[] #[], .func (Fn.func 62) #[] #[], .func (Fn.func 63) #[] #[], .func (Fn.func 64) #[] #[], .func (Fn.func 65) #[] #[], .func (Fn.func 66) #[] #[], .func (Fn.func 67) #[] #[]]), (w.heap.size, 56, #[.nilFunc, .nilFunc])]) (unhide D) ?_
  clear D
  refine list_read (v := .int .i64 k) rfl rfl (fun u hS => by go_simp) ?_
  try go_simp
  refine list_read (v := .bool false) rfl rfl (fun u hS => exec_lssS _ _ (unhide e0) rfl rfl rfl) ?_
  try go_simp
  refine list_read (v := .bool false) rfl rfl (fun u hS => by go_simp) ?_
  try go_simp
  refine list_read (v := .int .i64 k) rfl rfl (fun u hS => by go_simp) ?_
  try go_simp
  refine list_read (v := .bool true) rfl rfl (fun u hS => exec_geqS _ _ (unhide e1) rfl rfl rfl) ?_
  try go_simp
  refine list_read (v := .bool true) rfl rfl (fun u hS => by go_simp) ?_
  try go_simp
  refine list_end (fun u2 hS => ?_)
  have D := hide hS
  clear hS
  go_upto_region 3 with fail
  refine list_start (S := Gd w [(g1, 83, #[.nilFunc, .nilFunc, .func (Fn.func 60) #[] #[], .func (Fn.func 61) #[] #[], .func (Fn.func 62) #[] #[], .func (Fn.func 63) #[] #[], .func (Fn.func 64) #[] #[], .func (Fn.func 65) #[] #[], .func (Fn.func 66) #[] #[], .func (Fn.func 67) #[] #[]]), (w.heap.size, 56, #[.nilFunc, .nilFunc])]) (unhide D) ?_
  clear D
  refine list_read (v := .agg (#[.nilFunc, .nilFunc])) rfl rfl (fun u hS => exec_bld0 u 56 rfl (by kernel_rfl)) ?_
  try go_simp
  refine list_store (l1 := [(g1, 83, #[.nilFunc, .nilFunc, .func (Fn.func 60) #[] #[], .func (Fn.func 61) #[] #[], .func (Fn.func 62) #[] #[], .func (Fn.func 63) #[] #[], .func (Fn.func 64) #[] #[], .func (Fn.func 65) #[] #[], .func (Fn.func 66) #[] #[], .func (Fn.func 67) #[] #[]])]) (l2 := []) (l' := [(g1, 83, #[.nilFunc, .nilFunc, .func (Fn.func 60) #[] #[], .func (Fn.func 61) #[] #[], .func (Fn.func 62) #[] #[], .func (Fn.func 63) #[] #[], .func (Fn.func 64) #[] #[], .func (Fn.func 65) #[] #[], .func (Fn.func 66) #[] #[], .func (Fn.func 67) #[] #[]]), (w.heap.size, 56, #[.nilFunc, .nilFunc])]) (g := w.heap.size) (old := #[.nilFunc, .nilFunc]) (cs := #[.nilFunc, .nilFunc]) (.tmp 2) (.tmp 16) rfl rfl rfl rfl rfl rfl rKind rfl rfl (by simp [Value.oneCell']) (by omega) ?_
  try go_simp
  refine list_read (v := .bool false) rfl rfl (fun u hS => by go_simp) ?_
  try go_simp
  refine list_end (fun u3 hS => ?_)
  have D := hide hS
  clear hS
  go_wp2
  exact resGT rKind ((unhide D).g.blk (g := w.heap.size) (t := 56) (cs := #[.nilFunc, .nilFunc]) (by repeat (first | exact List.mem_cons_self | apply List.mem_cons_of_mem))) rfl rfl rfl rfl rfl ⟨rfl, (unhide D).g.o⟩
set_option maxHeartbeats 4000000 in
theorem sphereHolds_0 (kd rr x y z : Int) (A : Option Addr) (n cp : Nat) (w : World) (e0 : Hid (decide ((0 : Int) < rr) = false)) : Calls Tryz.prog 60 #[.agg (sh kd rr x y z A n cp)] w fun e w' => e = .returned (.bool false) ∧ Below w.heap.size w w' := by
  go_enter Tryz.func60, Tryz.ntmps60
  go_upto_region 1 with fail
  have D := hide (((Gd.start w).push 27 (sh kd rr x y z A n cp)))
  refine list_start (S := Gd w [(w.heap.size, 27, sh kd rr x y z A n cp)]) (unhide D) ?_
  clear D
  refine list_read (v := .pointer (some ⟨w.heap.size, 1, none⟩)) rfl rfl (fun u hS => by go_simp) ?_
  try go_simp
  refine list_read (v := .int .i64 rr) rfl rfl (fun u hS => exec_loadN_Fix (g := w.heap.size) (t := 27) (cs := sh kd rr x y z A n cp) hS.g _ rfl rfl (by repeat (first | exact List.mem_cons_self | apply List.mem_cons_of_mem)) rfl) ?_
  try go_simp
  refine list_read (v := .bool false) rfl rfl (fun u hS => exec_gtrS _ _ (unhide e0) rfl rfl rfl) ?_
  try go_simp
  refine list_read (v := .bool false) rfl rfl (fun u hS => by go_simp) ?_
  try go_simp
  refine list_skip ?_ ?_ ?_
  · rfl
  · rfl
  try go_simp
  refine list_skip ?_ ?_ ?_
  · rfl
  · rfl
  try go_simp
  refine list_skip ?_ ?_ ?_
  · rfl
  · rfl
  try go_simp
  refine list_skip ?_ ?_ ?_
  · rfl
  · rfl
  try go_simp
  refine list_read (v := .bool false) rfl rfl (fun u hS => by go_simp) ?_
  try go_simp
  refine list_read (v := .bool false) rfl rfl (fun u hS => by go_simp) ?_
  try go_simp
  refine list_skip ?_ ?_ ?_
  · rfl
  · rfl
  try go_simp
  refine list_skip ?_ ?_ ?_
  · rfl
  · rfl
  try go_simp
  refine list_skip ?_ ?_ ?_
  · rfl
  · rfl
  try go_simp
  refine list_skip ?_ ?_ ?_
  · rfl
  · rfl
  try go_simp
  refine list_read (v := .bool false) rfl rfl (fun u hS => by go_simp) ?_
  try go_simp
  refine list_read (v := .bool false) rfl rfl (fun u hS => by go_simp) ?_
  try go_simp
  refine list_end (fun u1 hS => ?_)
  have D := hide hS
  clear hS
  go_wp2
  go_ret
  exact ⟨rfl, (unhide D).g.o⟩
set_option maxHeartbeats 4000000 in
theorem sphereHolds_1 (kd rr x y z : Int) (A : Option Addr) (n cp : Nat) (w : World) (e0 : Hid (decide ((0 : Int) < rr) = true)) (e1 : Hid (sameV x y z 0 0 0 = false)) : Calls Tryz.prog 60 #[.agg (sh kd rr x y z A n cp)] w fun e w' => e = .returned (.bool false) ∧ Below w.heap.size w w' := by
  go_enter Tryz.func60, Tryz.ntmps60
  go_upto_region 1 with fail
  have D := hide (((Gd.start w).push 27 (sh kd rr x y z A n cp)))
  refine list_start (S := Gd w [(w.heap.size, 27, sh kd rr x y z A n cp)]) (unhide D) ?_
  clear D
  refine list_read (v := .pointer (some ⟨w.heap.size, 1, none⟩)) rfl rfl (fun u hS => by go_simp) ?_
  try go_simp
  refine list_read (v := .int .i64 rr) rfl rfl (fun u hS => exec_loadN_Fix (g := w.heap.size) (t := 27) (cs := sh kd rr x y z A n cp) hS.g _ rfl rfl (by repeat (first | exact List.mem_cons_self | apply List.mem_cons_of_mem)) rfl) ?_
  try go_simp
  refine list_read (v := .bool true) rfl rfl (fun u hS => exec_gtrS _ _ (unhide e0) rfl rfl rfl) ?_
  try go_simp
  refine list_read (v := .bool true) rfl rfl (fun u hS => by go_simp) ?_
  try go_simp
  refine list_read (v := .pointer (some ⟨w.heap.size, 2, none⟩)) rfl rfl (fun u hS => by go_simp) ?_
  try go_simp
  refine list_read (v := .agg (v3 x y z)) rfl rfl (fun u hS => exec_loadSub (i := 2) (g := w.heap.size) (t := 27) (cs := sh kd rr x y z A n cp) hS.g rVec (vs := v3 x y z) _ rfl rfl (by repeat (first | exact List.mem_cons_self | apply List.mem_cons_of_mem)) rfl rfl) ?_
  try go_simp
  refine list_read (v := .agg (v3 0 0 0)) rfl rfl (fun u hS => by go_simp) ?_
  try go_simp
  refine list_read (v := .bool false) rfl rfl (fun u hS => exec_eql_vec (s := false) _ _ _ (unhide e1) rfl rfl rfl) ?_
  try go_simp
  refine list_read (v := .bool false) rfl rfl (fun u hS => by go_simp) ?_
  try go_simp
  refine list_read (v := .bool false) rfl rfl (fun u hS => by go_simp) ?_
  try go_simp
  refine list_skip ?_ ?_ ?_
  · rfl
  · rfl
  try go_simp
  refine list_skip ?_ ?_ ?_
  · rfl
  · rfl
  try go_simp
  refine list_skip ?_ ?_ ?_
  · rfl
  · rfl
  try go_simp
  refine list_skip ?_ ?_ ?_
  · rfl
  · rfl
  try go_simp
  refine list_read (v := .bool false) rfl rfl (fun u hS => by go_simp) ?_
  try go_simp
  refine list_read (v := .bool false) rfl rfl (fun u hS => by go_simp) ?_
  try go_simp
  refine list_end (fun u1 hS => ?_)
  have D := hide hS
  clear hS
  go_wp2
  go_ret
  exact ⟨rfl, (unhide D).g.o⟩
set_option maxHeartbeats 4000000 in
theorem sphereHolds_2 (kd rr x y z : Int) (A : Option Addr) (n cp : Nat) (t : Bool) (w : World) (e0 : Hid (decide ((0 : Int) < rr) = true)) (e1 : Hid (sameV x y z 0 0 0 = true)) (e2 : Hid (decide ((n : Int) = 0) = t)) : Calls Tryz.prog 60 #[.agg (sh kd rr x y z A n cp)] w fun e w' => e = .returned (.bool t) ∧ Below w.heap.size w w' := by
  go_enter Tryz.func60, Tryz.ntmps60
  go_upto_region 1 with fail
  have D := hide (((Gd.start w).push 27 (sh kd rr x y z A n cp)))
  refine list_start (S := Gd w [(w.heap.size, 27, sh kd rr x y z A n cp)]) (unhide D) ?_
  clear D
  refine list_read (v := .pointer (some ⟨w.heap.size, 1, none⟩)) rfl rfl (fun u hS => by go_simp) ?_
  try go_simp
  refine list_read (v := .int .i64 rr) rfl rfl (fun u hS => exec_loadN_Fix (g := w.heap.size) (t := 27) (cs := sh kd rr x y z A n cp) hS.g _ rfl rfl (by repeat (first | exact List.mem_cons_self | apply List.mem_cons_of_mem)) rfl) ?_
  try go_simp
  refine list_read (v := .bool true) rfl rfl (fun u hS => exec_gtrS _ _ (unhide e0) rfl rfl rfl) ?_
  try go_simp
  refine list_read (v := .bool true) rfl rfl (fun u hS => by go_simp) ?_
  try go_simp
  refine list_read (v := .pointer (some ⟨w.heap.size, 2, none⟩)) rfl rfl (fun u hS => by go_simp) ?_
  try go_simp
  refine list_read (v := .agg (v3 x y z)) rfl rfl (fun u hS => exec_loadSub (i := 2) (g := w.heap.size) (t := 27) (cs := sh kd rr x y z A n cp) hS.g rVec (vs := v3 x y z) _ rfl rfl (by repeat (first | exact List.mem_cons_self | apply List.mem_cons_of_mem)) rfl rfl) ?_
  try go_simp
  refine list_read (v := .agg (v3 0 0 0)) rfl rfl (fun u hS => by go_simp) ?_
  try go_simp
  refine list_read (v := .bool true) rfl rfl (fun u hS => exec_eql_vec (s := true) _ _ _ (unhide e1) rfl rfl rfl) ?_
  try go_simp
  refine list_read (v := .bool true) rfl rfl (fun u hS => by go_simp) ?_
  try go_simp
  refine list_read (v := .bool true) rfl rfl (fun u hS => by go_simp) ?_
  try go_simp
  refine list_read (v := .pointer (some ⟨w.heap.size, 5, none⟩)) rfl rfl (fun u hS => by go_simp) ?_
  try go_simp
  refine list_read (v := .slice A n cp) rfl rfl (fun u hS => exec_loadV_Vecs (g := w.heap.size) (t := 27) (cs := sh kd rr x y z A n cp) hS.g _ rfl rfl (by repeat (first | exact List.mem_cons_self | apply List.mem_cons_of_mem)) rfl) ?_
  try go_simp
  refine list_read (v := .int .i64 n) rfl rfl (fun u hS => by go_simp) ?_
  try go_simp
  refine list_read (v := .bool t) rfl rfl (fun u hS => exec_eqlS _ _ (unhide e2) rfl rfl rfl) ?_
  try go_simp
  refine list_read (v := .bool t) rfl rfl (fun u hS => by go_simp) ?_
  try go_simp
  refine list_read (v := .bool t) rfl rfl (fun u hS => by go_simp) ?_
  try go_simp
  refine list_end (fun u1 hS => ?_)
  have D := hide hS
  clear hS
  go_wp2
  go_ret
  exact ⟨rfl, (unhide D).g.o⟩
set_option maxHeartbeats 4000000 in
theorem capsuleHolds_0 (kd rr x y z : Int) (A : Option Addr) (n cp : Nat) (w : World) (e0 : Hid (decide ((0 : Int) < rr) = false)) : Calls Tryz.prog 62 #[.agg (sh kd rr x y z A n cp)] w fun e w' => e = .returned (.bool false) ∧ Below w.heap.size w w' := by
  go_enter Tryz.func62, Tryz.ntmps62
  go_upto_region 1 with fail
  have D := hide (((Gd.start w).push 27 (sh kd rr x y z A n cp)))
  refine list_start (S := Gd w [(w.heap.size, 27, sh kd rr x y z A n cp)]) (unhide D) ?_
  clear D
  refine list_read (v := .pointer (some ⟨w.heap.size, 1, none⟩)) rfl rfl (fun u hS => by go_simp) ?_
  try go_simp
  refine list_read (v := .int .i64 rr) rfl rfl (fun u hS => exec_loadN_Fix (g := w.heap.size) (t := 27) (cs := sh kd rr x y z A n cp) hS.g _ rfl rfl (by repeat (first | exact List.mem_cons_self | apply List.mem_cons_of_mem)) rfl) ?_
  try go_simp
  refine list_read (v := .bool false) rfl rfl (fun u hS => exec_gtrS _ _ (unhide e0) rfl rfl rfl) ?_
  try go_simp
  refine list_read (v := .bool false) rfl rfl (fun u hS => by go_simp) ?_
  try go_simp
  refine list_skip ?_ ?_ ?_
  · rfl
  · rfl
  try go_simp
  refine list_skip ?_ ?_ ?_
  · rfl
  · rfl
  try go_simp
  refine list_skip ?_ ?_ ?_
  · rfl
  · rfl
  try go_simp
  refine list_skip ?_ ?_ ?_
  · rfl
  · rfl
  try go_simp
  refine list_read (v := .bool false) rfl rfl (fun u hS => by go_simp) ?_
  try go_simp
  refine list_read (v := .bool false) rfl rfl (fun u hS => by go_simp) ?_
  try go_simp
  refine list_skip ?_ ?_ ?_
  · rfl
  · rfl
  try go_simp
  refine list_skip ?_ ?_ ?_
  · rfl
  · rfl
  try go_simp
  refine list_skip ?_ ?_ ?_
  · rfl
  · rfl
  try go_simp
  refine list_skip ?_ ?_ ?_
  · rfl
  · rfl
  try go_simp
  refine list_read (v := .bool false) rfl rfl (fun u hS => by go_simp) ?_
  try go_simp
  refine list_read (v := .bool false) rfl rfl (fun u hS => by go_simp) ?_
  try go_simp
  refine list_skip ?_ ?_ ?_
  · rfl
  · rfl
  try go_simp
  refine list_skip ?_ ?_ ?_
  · rfl
  · rfl
  try go_simp
  refine list_skip ?_ ?_ ?_
  · rfl
  · rfl
  try go_simp
  refine list_skip ?_ ?_ ?_
  · rfl
  · rfl
  try go_simp
  refine list_read (v := .bool false) rfl rfl (fun u hS => by go_simp) ?_
  try go_simp
  refine list_read (v := .bool false) rfl rfl (fun u hS => by go_simp) ?_
  try go_simp
  refine list_skip ?_ ?_ ?_
  · rfl
  · rfl
  try go_simp
  refine list_skip ?_ ?_ ?_
  · rfl
  · rfl
  try go_simp
  refine list_skip ?_ ?_ ?_
  · rfl
  · rfl
  try go_simp
  refine list_skip ?_ ?_ ?_
  · rfl
  · rfl
  try go_simp
  refine list_read (v := .bool false) rfl rfl (fun u hS => by go_simp) ?_
  try go_simp
  refine list_read (v := .bool false) rfl rfl (fun u hS => by go_simp) ?_
  try go_simp
  refine list_end (fun u1 hS => ?_)
  have D := hide hS
  clear hS
  go_wp2
  go_ret
  exact ⟨rfl, (unhide D).g.o⟩
set_option maxHeartbeats 4000000 in
theorem capsuleHolds_1 (kd rr x y z : Int) (A : Option Addr) (n cp : Nat) (w : World) (e0 : Hid (decide ((0 : Int) < rr) = true)) (e1 : Hid (decide ((x : Int) = 0) = false)) : Calls Tryz.prog 62 #[.agg (sh kd rr x y z A n cp)] w fun e w' => e = .returned (.bool false) ∧ Below w.heap.size w w' := by
  go_enter Tryz.func62, Tryz.ntmps62
  go_upto_region 1 with fail
  have D := hide (((Gd.start w).push 27 (sh kd rr x y z A n cp)))
  refine list_start (S := Gd w [(w.heap.size, 27, sh kd rr x y z A n cp)]) (unhide D) ?_
  clear D
  refine list_read (v := .pointer (some ⟨w.heap.size, 1, none⟩)) rfl rfl (fun u hS => by go_simp) ?_
  try go_simp
  refine list_read (v := .int .i64 rr) rfl rfl (fun u hS => exec_loadN_Fix (g := w.heap.size) (t := 27) (cs := sh kd rr x y z A n cp) hS.g _ rfl rfl (by repeat (first | exact List.mem_cons_self | apply List.mem_cons_of_mem)) rfl) ?_
  try go_simp
  refine list_read (v := .bool true) rfl rfl (fun u hS => exec_gtrS _ _ (unhide e0) rfl rfl rfl) ?_
  try go_simp
  refine list_read (v := .bool true) rfl rfl (fun u hS => by go_simp) ?_
  try go_simp
  refine list_read (v := .pointer (some ⟨w.heap.size, 2, none⟩)) rfl rfl (fun u hS => by go_simp) ?_
  try go_simp
  refine list_read (v := .pointer (some ⟨w.heap.size, 2, none⟩)) rfl rfl (fun u hS => by go_simp) ?_
  try go_simp
  refine list_read (v := .int .i64 x) rfl rfl (fun u hS => exec_loadN_Fix (g := w.heap.size) (t := 27) (cs := sh kd rr x y z A n cp) hS.g _ rfl rfl (by repeat (first | exact List.mem_cons_self | apply List.mem_cons_of_mem)) rfl) ?_
  try go_simp
  refine list_read (v := .bool false) rfl rfl (fun u hS => exec_eqlS _ _ (unhide e1) rfl rfl rfl) ?_
  try go_simp
  refine list_read (v := .bool false) rfl rfl (fun u hS => by go_simp) ?_
  try go_simp
  refine list_read (v := .bool false) rfl rfl (fun u hS => by go_simp) ?_
  try go_simp
  refine list_skip ?_ ?_ ?_
  · rfl
  · rfl
  try go_simp
  refine list_skip ?_ ?_ ?_
  · rfl
  · rfl
  try go_simp
  refine list_skip ?_ ?_ ?_
  · rfl
  · rfl
  try go_simp
  refine list_skip ?_ ?_ ?_
  · rfl
  · rfl
  try go_simp
  refine list_read (v := .bool false) rfl rfl (fun u hS => by go_simp) ?_
  try go_simp
  refine list_read (v := .bool false) rfl rfl (fun u hS => by go_simp) ?_
  try go_simp
  refine list_skip ?_ ?_ ?_
  · rfl
  · rfl
  try go_simp
  refine list_skip ?_ ?_ ?_
  · rfl
  · rfl
  try go_simp
  refine list_skip ?_ ?_ ?_
  · rfl
  · rfl
  try go_simp
  refine list_skip ?_ ?_ ?_
  · rfl
  · rfl
  try go_simp
  refine list_read (v := .bool false) rfl rfl (fun u hS => by go_simp) ?_
  try go_simp
  refine list_read (v := .bool false) rfl rfl (fun u hS => by go_simp) ?_
  try go_simp
  refine list_skip ?_ ?_ ?_
  · rfl
  · rfl
  try go_simp
  refine list_skip ?_ ?_ ?_
  · rfl
  · rfl
  try go_simp
  refine list_skip ?_ ?_ ?_
  · rfl
  · rfl
  try go_simp
  refine list_skip ?_ ?_ ?_
  · rfl
  · rfl
  try go_simp
  refine list_read (v := .bool false) rfl rfl (fun u hS => by go_simp) ?_
  try go_simp
  refine list_read (v := .bool false) rfl rfl (fun u hS => by go_simp) ?_
  try go_simp
  refine list_end (fun u1 hS => ?_)
  have D := hide hS
  clear hS
  go_wp2
  go_ret
  exact ⟨rfl, (unhide D).g.o⟩
set_option maxHeartbeats 4000000 in
theorem capsuleHolds_2 (kd rr x y z : Int) (A : Option Addr) (n cp : Nat) (w : World) (e0 : Hid (decide ((0 : Int) < rr) = true)) (e1 : Hid (decide ((x : Int) = 0) = true)) (e2 : Hid (decide ((y : Int) = 0) = false)) : Calls Tryz.prog 62 #[.agg (sh kd rr x y z A n cp)] w fun e w' => e = .returned (.bool false) ∧ Below w.heap.size w w' := by
  go_enter Tryz.func62, Tryz.ntmps62
  go_upto_region 1 with fail
  have D := hide (((Gd.start w).push 27 (sh kd rr x y z A n cp)))
  refine list_start (S := Gd w [(w.heap.size, 27, sh kd rr x y z A n cp)]) (unhide D) ?_
  clear D
  refine list_read (v := .pointer (some ⟨w.heap.size, 1, none⟩)) rfl rfl (fun u hS => by go_simp) ?_
  try go_simp
  refine list_read (v := .int .i64 rr) rfl rfl (fun u hS => exec_loadN_Fix (g := w.heap.size) (t := 27) (cs := sh kd rr x y z A n cp) hS.g _ rfl rfl (by repeat (first | exact List.mem_cons_self | apply List.mem_cons_of_mem)) rfl) ?_
  try go_simp
  refine list_read (v := .bool true) rfl rfl (fun u hS => exec_gtrS _ _ (unhide e0) rfl rfl rfl) ?_
  try go_simp
  refine list_read (v := .bool true) rfl rfl (fun u hS => by go_simp) ?_
  try go_simp
  refine list_read (v := .pointer (some ⟨w.heap.size, 2, none⟩)) rfl rfl (fun u hS => by go_simp) ?_
  try go_simp
  refine list_read (v := .pointer (some ⟨w.heap.size, 2, none⟩)) rfl rfl (fun u hS => by go_simp) ?_
  try go_simp
  refine list_read (v := .int .i64 x) rfl rfl (fun u hS => exec_loadN_Fix (g := w.heap.size) (t := 27) (cs := sh kd rr x y z A n cp) hS.g _ rfl rfl (by repeat (first | exact List.mem_cons_self | apply List.mem_cons_of_mem)) rfl) ?_
  try go_simp
  refine list_read (v := .bool true) rfl rfl (fun u hS => exec_eqlS _ _ (unhide e1) rfl rfl rfl) ?_
  try go_simp
  refine list_read (v := .bool true) rfl rfl (fun u hS => by go_simp) ?_
  try go_simp
  refine list_read (v := .bool true) rfl rfl (fun u hS => by go_simp) ?_
  try go_simp
  refine list_read (v := .pointer (some ⟨w.heap.size, 2, none⟩)) rfl rfl (fun u hS => by go_simp) ?_
  try go_simp
  refine list_read (v := .pointer (some ⟨w.heap.size, 3, none⟩)) rfl rfl (fun u hS => by go_simp) ?_
  try go_simp
  refine list_read (v := .int .i64 y) rfl rfl (fun u hS => exec_loadN_Fix (g := w.heap.size) (t := 27) (cs := sh kd rr x y z A n cp) hS.g _ rfl rfl (by repeat (first | exact List.mem_cons_self | apply List.mem_cons_of_mem)) rfl) ?_
  try go_simp
  refine list_read (v := .bool false) rfl rfl (fun u hS => exec_eqlS _ _ (unhide e2) rfl rfl rfl) ?_
  try go_simp
  refine list_read (v := .bool false) rfl rfl (fun u hS => by go_simp) ?_
  try go_simp
  refine list_read (v := .bool false) rfl rfl (fun u hS => by go_simp) ?_
  try go_simp
  refine list_skip ?_ ?_ ?_
  · rfl
  · rfl
  try go_simp
  refine list_skip ?_ ?_ ?_
  · rfl
  · rfl
  try go_simp
  refine list_skip ?_ ?_ ?_
  · rfl
  · rfl
  try go_simp
  refine list_skip ?_ ?_ ?_
  · rfl
  · rfl
  try go_simp
  refine list_read (v := .bool false) rfl rfl (fun u hS => by go_simp) ?_
  try go_simp
  refine list_read (v := .bool false) rfl rfl (fun u hS => by go_simp) ?_
  try go_simp
  refine list_skip ?_ ?_ ?_
  · rfl
  · rfl
  try go_simp
  refine list_skip ?_ ?_ ?_
  · rfl
  · rfl
  try go_simp
  refine list_skip ?_ ?_ ?_
  · rfl
  · rfl
  try go_simp
  refine list_skip ?_ ?_ ?_
  · rfl
  · rfl
  try go_simp
  refine list_read (v := .bool false) rfl rfl (fun u hS => by go_simp) ?_
  try go_simp
  refine list_read (v := .bool false) rfl rfl (fun u hS => by go_simp) ?_
  try go_simp
  refine list_end (fun u1 hS => ?_)
  have D := hide hS
  clear hS
  go_wp2
  go_ret
  exact ⟨rfl, (unhide D).g.o⟩
set_option maxHeartbeats 4000000 in
theorem capsuleHolds_3 (kd rr x y z : Int) (A : Option Addr) (n cp : Nat) (w : World) (e0 : Hid (decide ((0 : Int) < rr) = true)) (e1 : Hid (decide ((x : Int) = 0) = true)) (e2 : Hid (decide ((y : Int) = 0) = true)) (e3 : Hid (decide ((0 : Int) < z) = false)) : Calls Tryz.prog 62 #[.agg (sh kd rr x y z A n cp)] w fun e w' => e = .returned (.bool false) ∧ Below w.heap.size w w' := by
  go_enter Tryz.func62, Tryz.ntmps62
  go_upto_region 1 with fail
  have D := hide (((Gd.start w).push 27 (sh kd rr x y z A n cp)))
  refine list_start (S := Gd w [(w.heap.size, 27, sh kd rr x y z A n cp)]) (unhide D) ?_
  clear D
  refine list_read (v := .pointer (some ⟨w.heap.size, 1, none⟩)) rfl rfl (fun u hS => by go_simp) ?_
  try go_simp
  refine list_read (v := .int .i64 rr) rfl rfl (fun u hS => exec_loadN_Fix (g := w.heap.size) (t := 27) (cs := sh kd rr x y z A n cp) hS.g _ rfl rfl (by repeat (first | exact List.mem_cons_self | apply List.mem_cons_of_mem)) rfl) ?_
  try go_simp
  refine list_read (v := .bool true) rfl rfl (fun u hS => exec_gtrS _ _ (unhide e0) rfl rfl rfl) ?_
  try go_simp
  refine list_read (v := .bool true) rfl rfl (fun u hS => by go_simp) ?_
  try go_simp
  refine list_read (v := .pointer (some ⟨w.heap.size, 2, none⟩)) rfl rfl (fun u hS => by go_simp) ?_
  try go_simp
  refine list_read (v := .pointer (some ⟨w.heap.size, 2, none⟩)) rfl rfl (fun u hS => by go_simp) ?_
  try go_simp
  refine list_read (v := .int .i64 x) rfl rfl (fun u hS => exec_loadN_Fix (g := w.heap.size) (t := 27) (cs := sh kd rr x y z A n cp) hS.g _ rfl rfl (by repeat (first | exact List.mem_cons_self | apply List.mem_cons_of_mem)) rfl) ?_
  try go_simp
  refine list_read (v := .bool true) rfl rfl (fun u hS => exec_eqlS _ _ (unhide e1) rfl rfl rfl) ?_
  try go_simp
  refine list_read (v := .bool true) rfl rfl (fun u hS => by go_simp) ?_
  try go_simp
  refine list_read (v := .bool true) rfl rfl (fun u hS => by go_simp) ?_
  try go_simp
  refine list_read (v := .pointer (some ⟨w.heap.size, 2, none⟩)) rfl rfl (fun u hS => by go_simp) ?_
  try go_simp
  refine list_read (v := .pointer (some ⟨w.heap.size, 3, none⟩)) rfl rfl (fun u hS => by go_simp) ?_
  try go_simp
  refine list_read (v := .int .i64 y) rfl rfl (fun u hS => exec_loadN_Fix (g := w.heap.size) (t := 27) (cs := sh kd rr x y z A n cp) hS.g _ rfl rfl (by repeat (first | exact List.mem_cons_self | apply List.mem_cons_of_mem)) rfl) ?_
  try go_simp
  refine list_read (v := .bool true) rfl rfl (fun u hS => exec_eqlS _ _ (unhide e2) rfl rfl rfl) ?_
  try go_simp
  refine list_read (v := .bool true) rfl rfl (fun u hS => by go_simp) ?_
  try go_simp
  refine list_read (v := .bool true) rfl rfl (fun u hS => by go_simp) ?_
  try go_simp
  refine list_read (v := .pointer (some ⟨w.heap.size, 2, none⟩)) rfl rfl (fun u hS => by go_simp) ?_
  try go_simp
  refine list_read (v := .pointer (some ⟨w.heap.size, 4, none⟩)) rfl rfl (fun u hS => by go_simp) ?_
  try go_simp
  refine list_read (v := .int .i64 z) rfl rfl (fun u hS => exec_loadN_Fix (g := w.heap.size) (t := 27) (cs := sh kd rr x y z A n cp) hS.g _ rfl rfl (by repeat (first | exact List.mem_cons_self | apply List.mem_cons_of_mem)) rfl) ?_
  try go_simp
  refine list_read (v := .bool false) rfl rfl (fun u hS => exec_gtrS _ _ (unhide e3) rfl rfl rfl) ?_
  try go_simp
  refine list_read (v := .bool false) rfl rfl (fun u hS => by go_simp) ?_
  try go_simp
  refine list_read (v := .bool false) rfl rfl (fun u hS => by go_simp) ?_
  try go_simp
  refine list_skip ?_ ?_ ?_
  · rfl
  · rfl
  try go_simp
  refine list_skip ?_ ?_ ?_
  · rfl
  · rfl
  try go_simp
  refine list_skip ?_ ?_ ?_
  · rfl
  · rfl
  try go_simp
  refine list_skip ?_ ?_ ?_
  · rfl
  · rfl
  try go_simp
  refine list_read (v := .bool false) rfl rfl (fun u hS => by go_simp) ?_
  try go_simp
  refine list_read (v := .bool false) rfl rfl (fun u hS => by go_simp) ?_
  try go_simp
  refine list_end (fun u1 hS => ?_)
  have D := hide hS
  clear hS
  go_wp2
  go_ret
  exact ⟨rfl, (unhide D).g.o⟩
set_option maxHeartbeats 4000000 in
theorem capsuleHolds_4 (kd rr x y z : Int) (A : Option Addr) (n cp : Nat) (t : Bool) (w : World) (e0 : Hid (decide ((0 : Int) < rr) = true)) (e1 : Hid (decide ((x : Int) = 0) = true)) (e2 : Hid (decide ((y : Int) = 0) = true)) (e3 : Hid (decide ((0 : Int) < z) = true)) (e4 : Hid (decide ((n : Int) = 0) = t)) : Calls Tryz.prog 62 #[.agg (sh kd rr x y z A n cp)] w fun e w' => e = .returned (.bool t) ∧ Below w.heap.size w w' := by
  go_enter Tryz.func62, Tryz.ntmps62
  go_upto_region 1 with fail
  have D := hide (((Gd.start w).push 27 (sh kd rr x y z A n cp)))
  refine list_start (S := Gd w [(w.heap.size, 27, sh kd rr x y z A n cp)]) (unhide D) ?_
  clear D
  refine list_read (v := .pointer (some ⟨w.heap.size, 1, none⟩)) rfl rfl (fun u hS => by go_simp) ?_
  try go_simp
  refine list_read (v := .int .i64 rr) rfl rfl (fun u hS => exec_loadN_Fix (g := w.heap.size) (t := 27) (cs := sh kd rr x y z A n cp) hS.g _ rfl rfl (by repeat (first | exact List.mem_cons_self | apply List.mem_cons_of_mem)) rfl) ?_
  try go_simp
  refine list_read (v := .bool true) rfl rfl (fun u hS => exec_gtrS _ _ (unhide e0) rfl rfl rfl) ?_
  try go_simp
  refine list_read (v := .bool true) rfl rfl (fun u hS => by go_simp) ?_
  try go_simp
  refine list_read (v := .pointer (some ⟨w.heap.size, 2, none⟩)) rfl rfl (fun u hS => by go_simp) ?_
  try go_simp
  refine list_read (v := .pointer (some ⟨w.heap.size, 2, none⟩)) rfl rfl (fun u hS => by go_simp) ?_
  try go_simp
  refine list_read (v := .int .i64 x) rfl rfl (fun u hS => exec_loadN_Fix (g := w.heap.size) (t := 27) (cs := sh kd rr x y z A n cp) hS.g _ rfl rfl (by repeat (first | exact List.mem_cons_self | apply List.mem_cons_of_mem)) rfl) ?_
  try go_simp
  refine list_read (v := .bool true) rfl rfl (fun u hS => exec_eqlS _ _ (unhide e1) rfl rfl rfl) ?_
  try go_simp
  refine list_read (v := .bool true) rfl rfl (fun u hS => by go_simp) ?_
  try go_simp
  refine list_read (v := .bool true) rfl rfl (fun u hS => by go_simp) ?_
  try go_simp
  refine list_read (v := .pointer (some ⟨w.heap.size, 2, none⟩)) rfl rfl (fun u hS => by go_simp) ?_
  try go_simp
  refine list_read (v := .pointer (some ⟨w.heap.size, 3, none⟩)) rfl rfl (fun u hS => by go_simp) ?_
  try go_simp
  refine list_read (v := .int .i64 y) rfl rfl (fun u hS => exec_loadN_Fix (g := w.heap.size) (t := 27) (cs := sh kd rr x y z A n cp) hS.g _ rfl rfl (by repeat (first | exact List.mem_cons_self | apply List.mem_cons_of_mem)) rfl) ?_
  try go_simp
  refine list_read (v := .bool true) rfl rfl (fun u hS => exec_eqlS _ _ (unhide e2) rfl rfl rfl) ?_
  try go_simp
  refine list_read (v := .bool true) rfl rfl (fun u hS => by go_simp) ?_
  try go_simp
  refine list_read (v := .bool true) rfl rfl (fun u hS => by go_simp) ?_
  try go_simp
  refine list_read (v := .pointer (some ⟨w.heap.size, 2, none⟩)) rfl rfl (fun u hS => by go_simp) ?_
  try go_simp
  refine list_read (v := .pointer (some ⟨w.heap.size, 4, none⟩)) rfl rfl (fun u hS => by go_simp) ?_
  try go_simp
  refine list_read (v := .int .i64 z) rfl rfl (fun u hS => exec_loadN_Fix (g := w.heap.size) (t := 27) (cs := sh kd rr x y z A n cp) hS.g _ rfl rfl (by repeat (first | exact List.mem_cons_self | apply List.mem_cons_of_mem)) rfl) ?_
  try go_simp
  refine list_read (v := .bool true) rfl rfl (fun u hS => exec_gtrS _ _ (unhide e3) rfl rfl rfl) ?_
  try go_simp
  refine list_read (v := .bool true) rfl rfl (fun u hS => by go_simp) ?_
  try go_simp
  refine list_read (v := .bool true) rfl rfl (fun u hS => by go_simp) ?_
  try go_simp
  refine list_read (v := .pointer (some ⟨w.heap.size, 5, none⟩)) rfl rfl (fun u hS => by go_simp) ?_
  try go_simp
  refine list_read (v := .slice A n cp) rfl rfl (fun u hS => exec_loadV_Vecs (g := w.heap.size) (t := 27) (cs := sh kd rr x y z A n cp) hS.g _ rfl rfl (by repeat (first | exact List.mem_cons_self | apply List.mem_cons_of_mem)) rfl) ?_
  try go_simp
  refine list_read (v := .int .i64 n) rfl rfl (fun u hS => by go_simp) ?_
  try go_simp
  refine list_read (v := .bool t) rfl rfl (fun u hS => exec_eqlS _ _ (unhide e4) rfl rfl rfl) ?_
  try go_simp
  refine list_read (v := .bool t) rfl rfl (fun u hS => by go_simp) ?_
  try go_simp
  refine list_read (v := .bool t) rfl rfl (fun u hS => by go_simp) ?_
  try go_simp
  refine list_end (fun u1 hS => ?_)
  have D := hide hS
  clear hS
  go_wp2
  go_ret
  exact ⟨rfl, (unhide D).g.o⟩
set_option maxHeartbeats 4000000 in
theorem boxHolds_0 (kd rr x y z : Int) (A : Option Addr) (n cp : Nat) (w : World) (e0 : Hid (decide ((0 : Int) ≤ rr) = false)) : Calls Tryz.prog 64 #[.agg (sh kd rr x y z A n cp)] w fun e w' => e = .returned (.bool false) ∧ Below w.heap.size w w' := by
  go_enter Tryz.func64, Tryz.ntmps64
  go_upto_region 1 with fail
  have D := hide (((Gd.start w).push 27 (sh kd rr x y z A n cp)))
  refine list_start (S := Gd w [(w.heap.size, 27, sh kd rr x y z A n cp)]) (unhide D) ?_
  clear D
  refine list_read (v := .pointer (some ⟨w.heap.size, 1, none⟩)) rfl rfl (fun u hS => by go_simp) ?_
  try go_simp
  refine list_read (v := .int .i64 rr) rfl rfl (fun u hS => exec_loadN_Fix (g := w.heap.size) (t := 27) (cs := sh kd rr x y z A n cp) hS.g _ rfl rfl (by repeat (first | exact List.mem_cons_self | apply List.mem_cons_of_mem)) rfl) ?_
  try go_simp
  refine list_read (v := .bool false) rfl rfl (fun u hS => exec_geqS _ _ (unhide e0) rfl rfl rfl) ?_
  try go_simp
  refine list_read (v := .bool false) rfl rfl (fun u hS => by go_simp) ?_
  try go_simp
  refine list_skip ?_ ?_ ?_
  · rfl
  · rfl
  try go_simp
  refine list_skip ?_ ?_ ?_
  · rfl
  · rfl
  try go_simp
  refine list_skip ?_ ?_ ?_
  · rfl
  · rfl
  try go_simp
  refine list_skip ?_ ?_ ?_
  · rfl
  · rfl
  try go_simp
  refine list_skip ?_ ?_ ?_
  · rfl
  · rfl
  try go_simp
  refine list_skip ?_ ?_ ?_
  · rfl
  · rfl
  try go_simp
  refine list_skip ?_ ?_ ?_
  · rfl
  · rfl
  try go_simp
  refine list_skip ?_ ?_ ?_
  · rfl
  · rfl
  try go_simp
  refine list_skip ?_ ?_ ?_
  · rfl
  · rfl
  try go_simp
  refine list_skip ?_ ?_ ?_
  · rfl
  · rfl
  try go_simp
  refine list_skip ?_ ?_ ?_
  · rfl
  · rfl
  try go_simp
  refine list_read (v := .bool false) rfl rfl (fun u hS => by go_simp) ?_
  try go_simp
  refine list_read (v := .bool false) rfl rfl (fun u hS => by go_simp) ?_
  try go_simp
  refine list_skip ?_ ?_ ?_
  · rfl
  · rfl
  try go_simp
  refine list_skip ?_ ?_ ?_
  · rfl
  · rfl
  try go_simp
  refine list_skip ?_ ?_ ?_
  · rfl
  · rfl
  try go_simp
  refine list_skip ?_ ?_ ?_
  · rfl
  · rfl
  try go_simp
  refine list_read (v := .bool false) rfl rfl (fun u hS => by go_simp) ?_
  try go_simp
  refine list_read (v := .bool false) rfl rfl (fun u hS => by go_simp) ?_
  try go_simp
  refine list_end (fun u1 hS => ?_)
  have D := hide hS
  clear hS
  go_wp2
  go_ret
  exact ⟨rfl, (unhide D).g.o⟩
set_option maxHeartbeats 4000000 in
theorem boxHolds_1 (kd rr x y z : Int) (A : Option Addr) (n cp : Nat) (w : World) (e0 : Hid (decide ((0 : Int) ≤ rr) = true)) (e1 : Hid (decide ((65536 : Int) ≤ mn3 x y z) = false)) : Calls Tryz.prog 64 #[.agg (sh kd rr x y z A n cp)] w fun e w' => e = .returned (.bool false) ∧ Below w.heap.size w w' := by
  go_enter Tryz.func64, Tryz.ntmps64
  go_upto_region 1 with fail
  have D := hide (((Gd.start w).push 27 (sh kd rr x y z A n cp)))
  refine list_start (S := Gd w [(w.heap.size, 27, sh kd rr x y z A n cp)]) (unhide D) ?_
  clear D
  refine list_read (v := .pointer (some ⟨w.heap.size, 1, none⟩)) rfl rfl (fun u hS => by go_simp) ?_
  try go_simp
  refine list_read (v := .int .i64 rr) rfl rfl (fun u hS => exec_loadN_Fix (g := w.heap.size) (t := 27) (cs := sh kd rr x y z A n cp) hS.g _ rfl rfl (by repeat (first | exact List.mem_cons_self | apply List.mem_cons_of_mem)) rfl) ?_
  try go_simp
  refine list_read (v := .bool true) rfl rfl (fun u hS => exec_geqS _ _ (unhide e0) rfl rfl rfl) ?_
  try go_simp
  refine list_read (v := .bool true) rfl rfl (fun u hS => by go_simp) ?_
  try go_simp
  refine list_read (v := .pointer (some ⟨w.heap.size, 2, none⟩)) rfl rfl (fun u hS => by go_simp) ?_
  try go_simp
  refine list_read (v := .pointer (some ⟨w.heap.size, 2, none⟩)) rfl rfl (fun u hS => by go_simp) ?_
  try go_simp
  refine list_read (v := .int .i64 x) rfl rfl (fun u hS => exec_loadN_Fix (g := w.heap.size) (t := 27) (cs := sh kd rr x y z A n cp) hS.g _ rfl rfl (by repeat (first | exact List.mem_cons_self | apply List.mem_cons_of_mem)) rfl) ?_
  try go_simp
  refine list_read (v := .pointer (some ⟨w.heap.size, 2, none⟩)) rfl rfl (fun u hS => by go_simp) ?_
  try go_simp
  refine list_read (v := .pointer (some ⟨w.heap.size, 3, none⟩)) rfl rfl (fun u hS => by go_simp) ?_
  try go_simp
  refine list_read (v := .int .i64 y) rfl rfl (fun u hS => exec_loadN_Fix (g := w.heap.size) (t := 27) (cs := sh kd rr x y z A n cp) hS.g _ rfl rfl (by repeat (first | exact List.mem_cons_self | apply List.mem_cons_of_mem)) rfl) ?_
  try go_simp
  refine list_read (v := .pointer (some ⟨w.heap.size, 2, none⟩)) rfl rfl (fun u hS => by go_simp) ?_
  try go_simp
  refine list_read (v := .pointer (some ⟨w.heap.size, 4, none⟩)) rfl rfl (fun u hS => by go_simp) ?_
  try go_simp
  refine list_read (v := .int .i64 z) rfl rfl (fun u hS => exec_loadN_Fix (g := w.heap.size) (t := 27) (cs := sh kd rr x y z A n cp) hS.g _ rfl rfl (by repeat (first | exact List.mem_cons_self | apply List.mem_cons_of_mem)) rfl) ?_
  try go_simp
  refine list_read (v := .int .i64 (mn3 x y z)) rfl rfl (fun u hS => exec_mn3 (.tmp 9) (.tmp 12) (.tmp 15) rfl rfl rfl rfl) ?_
  try go_simp
  refine list_read (v := .bool false) rfl rfl (fun u hS => exec_geqS _ _ (unhide e1) rfl rfl rfl) ?_
  try go_simp
  refine list_read (v := .bool false) rfl rfl (fun u hS => by go_simp) ?_
  try go_simp
  refine list_read (v := .bool false) rfl rfl (fun u hS => by go_simp) ?_
  try go_simp
  refine list_skip ?_ ?_ ?_
  · rfl
  · rfl
  try go_simp
  refine list_skip ?_ ?_ ?_
  · rfl
  · rfl
  try go_simp
  refine list_skip ?_ ?_ ?_
  · rfl
  · rfl
  try go_simp
  refine list_skip ?_ ?_ ?_
  · rfl
  · rfl
  try go_simp
  refine list_read (v := .bool false) rfl rfl (fun u hS => by go_simp) ?_
  try go_simp
  refine list_read (v := .bool false) rfl rfl (fun u hS => by go_simp) ?_
  try go_simp
  refine list_end (fun u1 hS => ?_)
  have D := hide hS
  clear hS
  go_wp2
  go_ret
  exact ⟨rfl, (unhide D).g.o⟩
set_option maxHeartbeats 4000000 in
theorem boxHolds_2 (kd rr x y z : Int) (A : Option Addr) (n cp : Nat) (t : Bool) (w : World) (e0 : Hid (decide ((0 : Int) ≤ rr) = true)) (e1 : Hid (decide ((65536 : Int) ≤ mn3 x y z) = true)) (e2 : Hid (decide ((n : Int) = 0) = t)) : Calls Tryz.prog 64 #[.agg (sh kd rr x y z A n cp)] w fun e w' => e = .returned (.bool t) ∧ Below w.heap.size w w' := by
  go_enter Tryz.func64, Tryz.ntmps64
  go_upto_region 1 with fail
  have D := hide (((Gd.start w).push 27 (sh kd rr x y z A n cp)))
  refine list_start (S := Gd w [(w.heap.size, 27, sh kd rr x y z A n cp)]) (unhide D) ?_
  clear D
  refine list_read (v := .pointer (some ⟨w.heap.size, 1, none⟩)) rfl rfl (fun u hS => by go_simp) ?_
  try go_simp
  refine list_read (v := .int .i64 rr) rfl rfl (fun u hS => exec_loadN_Fix (g := w.heap.size) (t := 27) (cs := sh kd rr x y z A n cp) hS.g _ rfl rfl (by repeat (first | exact List.mem_cons_self | apply List.mem_cons_of_mem)) rfl) ?_
  try go_simp
  refine list_read (v := .bool true) rfl rfl (fun u hS => exec_geqS _ _ (unhide e0) rfl rfl rfl) ?_
  try go_simp
  refine list_read (v := .bool true) rfl rfl (fun u hS => by go_simp) ?_
  try go_simp
  refine list_read (v := .pointer (some ⟨w.heap.size, 2, none⟩)) rfl rfl (fun u hS => by go_simp) ?_
  try go_simp
  refine list_read (v := .pointer (some ⟨w.heap.size, 2, none⟩)) rfl rfl (fun u hS => by go_simp) ?_
  try go_simp
  refine list_read (v := .int .i64 x) rfl rfl (fun u hS => exec_loadN_Fix (g := w.heap.size) (t := 27) (cs := sh kd rr x y z A n cp) hS.g _ rfl rfl (by repeat (first | exact List.mem_cons_self | apply List.mem_cons_of_mem)) rfl) ?_
  try go_simp
  refine list_read (v := .pointer (some ⟨w.heap.size, 2, none⟩)) rfl rfl (fun u hS => by go_simp) ?_
  try go_simp
  refine list_read (v := .pointer (some ⟨w.heap.size, 3, none⟩)) rfl rfl (fun u hS => by go_simp) ?_
  try go_simp
  refine list_read (v := .int .i64 y) rfl rfl (fun u hS => exec_loadN_Fix (g := w.heap.size) (t := 27) (cs := sh kd rr x y z A n cp) hS.g _ rfl rfl (by repeat (first | exact List.mem_cons_self | apply List.mem_cons_of_mem)) rfl) ?_
  try go_simp
  refine list_read (v := .pointer (some ⟨w.heap.size, 2, none⟩)) rfl rfl (fun u hS => by go_simp) ?_
  try go_simp
  refine list_read (v := .pointer (some ⟨w.heap.size, 4, none⟩)) rfl rfl (fun u hS => by go_simp) ?_
  try go_simp
  refine list_read (v := .int .i64 z) rfl rfl (fun u hS => exec_loadN_Fix (g := w.heap.size) (t := 27) (cs := sh kd rr x y z A n cp) hS.g _ rfl rfl (by repeat (first | exact List.mem_cons_self | apply List.mem_cons_of_mem)) rfl) ?_
  try go_simp
  refine list_read (v := .int .i64 (mn3 x y z)) rfl rfl (fun u hS => exec_mn3 (.tmp 9) (.tmp 12) (.tmp 15) rfl rfl rfl rfl) ?_
  try go_simp
  refine list_read (v := .bool true) rfl rfl (fun u hS => exec_geqS _ _ (unhide e1) rfl rfl rfl) ?_
  try go_simp
  refine list_read (v := .bool true) rfl rfl (fun u hS => by go_simp) ?_
  try go_simp
  refine list_read (v := .bool true) rfl rfl (fun u hS => by go_simp) ?_
  try go_simp
  refine list_read (v := .pointer (some ⟨w.heap.size, 5, none⟩)) rfl rfl (fun u hS => by go_simp) ?_
  try go_simp
  refine list_read (v := .slice A n cp) rfl rfl (fun u hS => exec_loadV_Vecs (g := w.heap.size) (t := 27) (cs := sh kd rr x y z A n cp) hS.g _ rfl rfl (by repeat (first | exact List.mem_cons_self | apply List.mem_cons_of_mem)) rfl) ?_
  try go_simp
  refine list_read (v := .int .i64 n) rfl rfl (fun u hS => by go_simp) ?_
  try go_simp
  refine list_read (v := .bool t) rfl rfl (fun u hS => exec_eqlS _ _ (unhide e2) rfl rfl rfl) ?_
  try go_simp
  refine list_read (v := .bool t) rfl rfl (fun u hS => by go_simp) ?_
  try go_simp
  refine list_read (v := .bool t) rfl rfl (fun u hS => by go_simp) ?_
  try go_simp
  refine list_end (fun u1 hS => ?_)
  have D := hide hS
  clear hS
  go_wp2
  go_ret
  exact ⟨rfl, (unhide D).g.o⟩
set_option maxHeartbeats 4000000 in
theorem solidHolds_0 (kd rr x y z : Int) (A : Option Addr) (n cp : Nat) (w : World) (e0 : Hid (decide ((0 : Int) ≤ rr) = false)) : Calls Tryz.prog 66 #[.agg (sh kd rr x y z A n cp)] w fun e w' => e = .returned (.bool false) ∧ Below w.heap.size w w' := by
  go_enter Tryz.func66, Tryz.ntmps66
  go_upto_region 1 with fail
  have D := hide (((Gd.start w).push 27 (sh kd rr x y z A n cp)))
  refine list_start (S := Gd w [(w.heap.size, 27, sh kd rr x y z A n cp)]) (unhide D) ?_
  clear D
  refine list_read (v := .pointer (some ⟨w.heap.size, 1, none⟩)) rfl rfl (fun u hS => by go_simp) ?_
  try go_simp
  refine list_read (v := .int .i64 rr) rfl rfl (fun u hS => exec_loadN_Fix (g := w.heap.size) (t := 27) (cs := sh kd rr x y z A n cp) hS.g _ rfl rfl (by repeat (first | exact List.mem_cons_self | apply List.mem_cons_of_mem)) rfl) ?_
  try go_simp
  refine list_read (v := .bool false) rfl rfl (fun u hS => exec_geqS _ _ (unhide e0) rfl rfl rfl) ?_
  try go_simp
  refine list_read (v := .bool false) rfl rfl (fun u hS => by go_simp) ?_
  try go_simp
  refine list_skip ?_ ?_ ?_
  · rfl
  · rfl
  try go_simp
  refine list_skip ?_ ?_ ?_
  · rfl
  · rfl
  try go_simp
  refine list_skip ?_ ?_ ?_
  · rfl
  · rfl
  try go_simp
  refine list_skip ?_ ?_ ?_
  · rfl
  · rfl
  try go_simp
  refine list_read (v := .bool false) rfl rfl (fun u hS => by go_simp) ?_
  try go_simp
  refine list_read (v := .bool false) rfl rfl (fun u hS => by go_simp) ?_
  try go_simp
  refine list_skip ?_ ?_ ?_
  · rfl
  · rfl
  try go_simp
  refine list_skip ?_ ?_ ?_
  · rfl
  · rfl
  try go_simp
  refine list_skip ?_ ?_ ?_
  · rfl
  · rfl
  try go_simp
  refine list_skip ?_ ?_ ?_
  · rfl
  · rfl
  try go_simp
  refine list_read (v := .bool false) rfl rfl (fun u hS => by go_simp) ?_
  try go_simp
  refine list_read (v := .bool false) rfl rfl (fun u hS => by go_simp) ?_
  try go_simp
  refine list_skip ?_ ?_ ?_
  · rfl
  · rfl
  try go_simp
  refine list_skip ?_ ?_ ?_
  · rfl
  · rfl
  try go_simp
  refine list_skip ?_ ?_ ?_
  · rfl
  · rfl
  try go_simp
  refine list_skip ?_ ?_ ?_
  · rfl
  · rfl
  try go_simp
  refine list_read (v := .bool false) rfl rfl (fun u hS => by go_simp) ?_
  try go_simp
  refine list_read (v := .bool false) rfl rfl (fun u hS => by go_simp) ?_
  try go_simp
  refine list_end (fun u1 hS => ?_)
  have D := hide hS
  clear hS
  go_wp2
  go_ret
  exact ⟨rfl, (unhide D).g.o⟩
set_option maxHeartbeats 4000000 in
theorem solidHolds_1 (kd rr x y z : Int) (A : Option Addr) (n cp : Nat) (w : World) (e0 : Hid (decide ((0 : Int) ≤ rr) = true)) (e1 : Hid (sameV x y z 0 0 0 = false)) : Calls Tryz.prog 66 #[.agg (sh kd rr x y z A n cp)] w fun e w' => e = .returned (.bool false) ∧ Below w.heap.size w w' := by
  go_enter Tryz.func66, Tryz.ntmps66
  go_upto_region 1 with fail
  have D := hide (((Gd.start w).push 27 (sh kd rr x y z A n cp)))
  refine list_start (S := Gd w [(w.heap.size, 27, sh kd rr x y z A n cp)]) (unhide D) ?_
  clear D
  refine list_read (v := .pointer (some ⟨w.heap.size, 1, none⟩)) rfl rfl (fun u hS => by go_simp) ?_
  try go_simp
  refine list_read (v := .int .i64 rr) rfl rfl (fun u hS => exec_loadN_Fix (g := w.heap.size) (t := 27) (cs := sh kd rr x y z A n cp) hS.g _ rfl rfl (by repeat (first | exact List.mem_cons_self | apply List.mem_cons_of_mem)) rfl) ?_
  try go_simp
  refine list_read (v := .bool true) rfl rfl (fun u hS => exec_geqS _ _ (unhide e0) rfl rfl rfl) ?_
  try go_simp
  refine list_read (v := .bool true) rfl rfl (fun u hS => by go_simp) ?_
  try go_simp
  refine list_read (v := .pointer (some ⟨w.heap.size, 2, none⟩)) rfl rfl (fun u hS => by go_simp) ?_
  try go_simp
  refine list_read (v := .agg (v3 x y z)) rfl rfl (fun u hS => exec_loadSub (i := 2) (g := w.heap.size) (t := 27) (cs := sh kd rr x y z A n cp) hS.g rVec (vs := v3 x y z) _ rfl rfl (by repeat (first | exact List.mem_cons_self | apply List.mem_cons_of_mem)) rfl rfl) ?_
  try go_simp
  refine list_read (v := .agg (v3 0 0 0)) rfl rfl (fun u hS => by go_simp) ?_
  try go_simp
  refine list_read (v := .bool false) rfl rfl (fun u hS => exec_eql_vec (s := false) _ _ _ (unhide e1) rfl rfl rfl) ?_
  try go_simp
  refine list_read (v := .bool false) rfl rfl (fun u hS => by go_simp) ?_
  try go_simp
  refine list_read (v := .bool false) rfl rfl (fun u hS => by go_simp) ?_
  try go_simp
  refine list_skip ?_ ?_ ?_
  · rfl
  · rfl
  try go_simp
  refine list_skip ?_ ?_ ?_
  · rfl
  · rfl
  try go_simp
  refine list_skip ?_ ?_ ?_
  · rfl
  · rfl
  try go_simp
  refine list_skip ?_ ?_ ?_
  · rfl
  · rfl
  try go_simp
  refine list_read (v := .bool false) rfl rfl (fun u hS => by go_simp) ?_
  try go_simp
  refine list_read (v := .bool false) rfl rfl (fun u hS => by go_simp) ?_
  try go_simp
  refine list_skip ?_ ?_ ?_
  · rfl
  · rfl
  try go_simp
  refine list_skip ?_ ?_ ?_
  · rfl
  · rfl
  try go_simp
  refine list_skip ?_ ?_ ?_
  · rfl
  · rfl
  try go_simp
  refine list_skip ?_ ?_ ?_
  · rfl
  · rfl
  try go_simp
  refine list_read (v := .bool false) rfl rfl (fun u hS => by go_simp) ?_
  try go_simp
  refine list_read (v := .bool false) rfl rfl (fun u hS => by go_simp) ?_
  try go_simp
  refine list_end (fun u1 hS => ?_)
  have D := hide hS
  clear hS
  go_wp2
  go_ret
  exact ⟨rfl, (unhide D).g.o⟩
set_option maxHeartbeats 4000000 in
theorem solidHolds_2 (kd rr x y z : Int) (A : Option Addr) (n cp : Nat) (w : World) (e0 : Hid (decide ((0 : Int) ≤ rr) = true)) (e1 : Hid (sameV x y z 0 0 0 = true)) (e2 : Hid (decide ((4 : Int) ≤ n) = false)) : Calls Tryz.prog 66 #[.agg (sh kd rr x y z A n cp)] w fun e w' => e = .returned (.bool false) ∧ Below w.heap.size w w' := by
  go_enter Tryz.func66, Tryz.ntmps66
  go_upto_region 1 with fail
  have D := hide (((Gd.start w).push 27 (sh kd rr x y z A n cp)))
  refine list_start (S := Gd w [(w.heap.size, 27, sh kd rr x y z A n cp)]) (unhide D) ?_
  clear D
  refine list_read (v := .pointer (some ⟨w.heap.size, 1, none⟩)) rfl rfl (fun u hS => by go_simp) ?_
  try go_simp
  refine list_read (v := .int .i64 rr) rfl rfl (fun u hS => exec_loadN_Fix (g := w.heap.size) (t := 27) (cs := sh kd rr x y z A n cp) hS.g _ rfl rfl (by repeat (first | exact List.mem_cons_self | apply List.mem_cons_of_mem)) rfl) ?_
  try go_simp
  refine list_read (v := .bool true) rfl rfl (fun u hS => exec_geqS _ _ (unhide e0) rfl rfl rfl) ?_
  try go_simp
  refine list_read (v := .bool true) rfl rfl (fun u hS => by go_simp) ?_
  try go_simp
  refine list_read (v := .pointer (some ⟨w.heap.size, 2, none⟩)) rfl rfl (fun u hS => by go_simp) ?_
  try go_simp
  refine list_read (v := .agg (v3 x y z)) rfl rfl (fun u hS => exec_loadSub (i := 2) (g := w.heap.size) (t := 27) (cs := sh kd rr x y z A n cp) hS.g rVec (vs := v3 x y z) _ rfl rfl (by repeat (first | exact List.mem_cons_self | apply List.mem_cons_of_mem)) rfl rfl) ?_
  try go_simp
  refine list_read (v := .agg (v3 0 0 0)) rfl rfl (fun u hS => by go_simp) ?_
  try go_simp
  refine list_read (v := .bool true) rfl rfl (fun u hS => exec_eql_vec (s := true) _ _ _ (unhide e1) rfl rfl rfl) ?_
  try go_simp
  refine list_read (v := .bool true) rfl rfl (fun u hS => by go_simp) ?_
  try go_simp
  refine list_read (v := .bool true) rfl rfl (fun u hS => by go_simp) ?_
  try go_simp
  refine list_read (v := .pointer (some ⟨w.heap.size, 5, none⟩)) rfl rfl (fun u hS => by go_simp) ?_
  try go_simp
  refine list_read (v := .slice A n cp) rfl rfl (fun u hS => exec_loadV_Vecs (g := w.heap.size) (t := 27) (cs := sh kd rr x y z A n cp) hS.g _ rfl rfl (by repeat (first | exact List.mem_cons_self | apply List.mem_cons_of_mem)) rfl) ?_
  try go_simp
  refine list_read (v := .int .i64 n) rfl rfl (fun u hS => by go_simp) ?_
  try go_simp
  refine list_read (v := .bool false) rfl rfl (fun u hS => exec_geqS _ _ (unhide e2) rfl rfl rfl) ?_
  try go_simp
  refine list_read (v := .bool false) rfl rfl (fun u hS => by go_simp) ?_
  try go_simp
  refine list_read (v := .bool false) rfl rfl (fun u hS => by go_simp) ?_
  try go_simp
  refine list_skip ?_ ?_ ?_
  · rfl
  · rfl
  try go_simp
  refine list_skip ?_ ?_ ?_
  · rfl
  · rfl
  try go_simp
  refine list_skip ?_ ?_ ?_
  · rfl
  · rfl
  try go_simp
  refine list_skip ?_ ?_ ?_
  · rfl
  · rfl
  try go_simp
  refine list_read (v := .bool false) rfl rfl (fun u hS => by go_simp) ?_
  try go_simp
  refine list_read (v := .bool false) rfl rfl (fun u hS => by go_simp) ?_
  try go_simp
  refine list_end (fun u1 hS => ?_)
  have D := hide hS
  clear hS
  go_wp2
  go_ret
  exact ⟨rfl, (unhide D).g.o⟩
set_option maxHeartbeats 4000000 in
theorem solidHolds_3 (kd rr x y z : Int) (A : Option Addr) (n cp : Nat) (t : Bool) (w : World) (e0 : Hid (decide ((0 : Int) ≤ rr) = true)) (e1 : Hid (sameV x y z 0 0 0 = true)) (e2 : Hid (decide ((4 : Int) ≤ n) = true)) (e3 : Hid (decide ((n : Int) ≤ 16) = t)) : Calls Tryz.prog 66 #[.agg (sh kd rr x y z A n cp)] w fun e w' => e = .returned (.bool t) ∧ Below w.heap.size w w' := by
  go_enter Tryz.func66, Tryz.ntmps66
  go_upto_region 1 with fail
  have D := hide (((Gd.start w).push 27 (sh kd rr x y z A n cp)))
  refine list_start (S := Gd w [(w.heap.size, 27, sh kd rr x y z A n cp)]) (unhide D) ?_
  clear D
  refine list_read (v := .pointer (some ⟨w.heap.size, 1, none⟩)) rfl rfl (fun u hS => by go_simp) ?_
  try go_simp
  refine list_read (v := .int .i64 rr) rfl rfl (fun u hS => exec_loadN_Fix (g := w.heap.size) (t := 27) (cs := sh kd rr x y z A n cp) hS.g _ rfl rfl (by repeat (first | exact List.mem_cons_self | apply List.mem_cons_of_mem)) rfl) ?_
  try go_simp
  refine list_read (v := .bool true) rfl rfl (fun u hS => exec_geqS _ _ (unhide e0) rfl rfl rfl) ?_
  try go_simp
  refine list_read (v := .bool true) rfl rfl (fun u hS => by go_simp) ?_
  try go_simp
  refine list_read (v := .pointer (some ⟨w.heap.size, 2, none⟩)) rfl rfl (fun u hS => by go_simp) ?_
  try go_simp
  refine list_read (v := .agg (v3 x y z)) rfl rfl (fun u hS => exec_loadSub (i := 2) (g := w.heap.size) (t := 27) (cs := sh kd rr x y z A n cp) hS.g rVec (vs := v3 x y z) _ rfl rfl (by repeat (first | exact List.mem_cons_self | apply List.mem_cons_of_mem)) rfl rfl) ?_
  try go_simp
  refine list_read (v := .agg (v3 0 0 0)) rfl rfl (fun u hS => by go_simp) ?_
  try go_simp
  refine list_read (v := .bool true) rfl rfl (fun u hS => exec_eql_vec (s := true) _ _ _ (unhide e1) rfl rfl rfl) ?_
  try go_simp
  refine list_read (v := .bool true) rfl rfl (fun u hS => by go_simp) ?_
  try go_simp
  refine list_read (v := .bool true) rfl rfl (fun u hS => by go_simp) ?_
  try go_simp
  refine list_read (v := .pointer (some ⟨w.heap.size, 5, none⟩)) rfl rfl (fun u hS => by go_simp) ?_
  try go_simp
  refine list_read (v := .slice A n cp) rfl rfl (fun u hS => exec_loadV_Vecs (g := w.heap.size) (t := 27) (cs := sh kd rr x y z A n cp) hS.g _ rfl rfl (by repeat (first | exact List.mem_cons_self | apply List.mem_cons_of_mem)) rfl) ?_
  try go_simp
  refine list_read (v := .int .i64 n) rfl rfl (fun u hS => by go_simp) ?_
  try go_simp
  refine list_read (v := .bool true) rfl rfl (fun u hS => exec_geqS _ _ (unhide e2) rfl rfl rfl) ?_
  try go_simp
  refine list_read (v := .bool true) rfl rfl (fun u hS => by go_simp) ?_
  try go_simp
  refine list_read (v := .bool true) rfl rfl (fun u hS => by go_simp) ?_
  try go_simp
  refine list_read (v := .pointer (some ⟨w.heap.size, 5, none⟩)) rfl rfl (fun u hS => by go_simp) ?_
  try go_simp
  refine list_read (v := .slice A n cp) rfl rfl (fun u hS => exec_loadV_Vecs (g := w.heap.size) (t := 27) (cs := sh kd rr x y z A n cp) hS.g _ rfl rfl (by repeat (first | exact List.mem_cons_self | apply List.mem_cons_of_mem)) rfl) ?_
  try go_simp
  refine list_read (v := .int .i64 n) rfl rfl (fun u hS => by go_simp) ?_
  try go_simp
  refine list_read (v := .bool t) rfl rfl (fun u hS => exec_leqS _ _ (unhide e3) rfl rfl rfl) ?_
  try go_simp
  refine list_read (v := .bool t) rfl rfl (fun u hS => by go_simp) ?_
  try go_simp
  refine list_read (v := .bool t) rfl rfl (fun u hS => by go_simp) ?_
  try go_simp
  refine list_end (fun u1 hS => ?_)
  have D := hide hS
  clear hS
  go_wp2
  go_ret
  exact ⟨rfl, (unhide D).g.o⟩
theorem own_of_blk {w : World} {B g n : Nat} {cs : Array Value} (h : Blk w g 24 cs) (hb : B ≤ g) (hs : cs.size = n * 3) (hn : n ≤ maxLen) : w.ownsRow B 24 3 (.slice (some ⟨g, 0, none⟩) n n) n cs.toList :=
  ⟨by simp [hs], .inr ⟨g, n, cs, rfl, hb, h, Nat.le_refl _, hn, hs, List.take_of_length_le (by simp [hs])⟩⟩
set_option maxHeartbeats 4000000 in
theorem sphereCore_run (kd rr x y z : Int) (A : Option Addr) (n cp : Nat) (w : World) : Calls Tryz.prog 61 #[.agg (sh kd rr x y z A n cp)] w fun e w' => (∃ v, e = .returned v ∧ w'.ownsRow w.heap.size 24 3 v 1 (bsC1 0 0 0).toList) ∧ Below w.heap.size w w' := by
  go_enter Tryz.func61, Tryz.ntmps61
  go_upto_region 1 with fail
  have D := hide (((Gd.start w).push 27 (sh kd rr x y z A n cp)))
  refine list_start (S := Gd w [(w.heap.size, 27, sh kd rr x y z A n cp)]) (unhide D) ?_
  clear D
  refine list_read (v := .agg (v3 0 0 0)) rfl rfl (fun u hS => by go_simp) ?_
  try go_simp
  refine list_new (z := bsC1 0 0 0) (ty := 24) (v := fun g => .slice (some ⟨g, 0, none⟩) 1 1) rfl rfl (fun u => exec_bs1Vec u (.tmp 3) rfl rfl) (fun g1 hgg1 => ?_)
  try go_simp
  refine list_read (v := .slice (some ⟨g1, 0, none⟩) 1 1) rfl rfl (fun u hS => by go_simp) ?_
  try go_simp
  refine list_end (fun u1 hS => ?_)
  have D := hide hS
  clear hS
  go_wp2
  go_ret
  exact ⟨⟨_, rfl, own_of_blk (n := 1) ((unhide D).g.blk (g := g1) (t := 24) (cs := bsC1 0 0 0) (by repeat (first | exact List.mem_cons_self | apply List.mem_cons_of_mem))) hgg1 rfl (by unfold maxLen; decide)⟩, (unhide D).g.o⟩
set_option maxHeartbeats 4000000 in
theorem capsuleCore_run (kd rr x y z : Int) (A : Option Addr) (n cp : Nat) (q : Int) (w : World) (h0 : Hid (Ans 78 #[.int .i64 0, .int .i64 z] (.int .i64 q))) : Calls Tryz.prog 63 #[.agg (sh kd rr x y z A n cp)] w fun e w' => (∃ v, e = .returned v ∧ w'.ownsRow w.heap.size 24 3 v 2 (bsC2 0 0 q x y z).toList) ∧ Below w.heap.size w w' := by
  go_enter Tryz.func63, Tryz.ntmps63
  go_upto_region 1 with fail
  have D := hide (((Gd.start w).push 27 (sh kd rr x y z A n cp)))
  refine region_allocs (S := Gd w [(w.heap.size, 27, sh kd rr x y z A n cp)]) (t := 0) (z := #[]) (base := w.heap.size) (l := [0, 1, 2, 3, 4, 5, 6]) (A := []) (T := [7, 8]) (by kernel_rfl) (by kernel_rfl) (by kernel_rfl) (by kernel_rfl) (by kernel_rfl) (by kernel_rfl) (by kernel_rfl) (by kernel_rfl) (by kernel_rfl) (by kernel_rfl) (fun i hi => by cases hi) (fun _ _ h hb => h.keep hb) (fun _ h => h.g.o.size) (unhide D).drew ?_
  clear D
  refine planB_read (v := .pointer (some ⟨w.heap.size, 2, none⟩)) rfl rfl (fun u hS => by go_simp) ?_
  try go_simp
  refine planB_read (v := .pointer (some ⟨w.heap.size, 4, none⟩)) rfl rfl (fun u hS => by go_simp) ?_
  try go_simp
  refine planB_read (v := .int .i64 z) rfl rfl (fun u hS => exec_loadN_Fix (g := w.heap.size) (t := 27) (cs := sh kd rr x y z A n cp) hS.g _ rfl rfl (by repeat (first | exact List.mem_cons_self | apply List.mem_cons_of_mem)) rfl) ?_
  try go_simp
  refine planB_call (v := .int .i64 q) (f := 78) (args := #[.int .i64 0, .int .i64 z]) rfl rfl (fun u hS => by go_simp) (fun u hS => (unhide h0 u).mono fun _ _ ⟨he, hb⟩ => ⟨he, hS.keep hb, hb⟩) ?_
  try go_simp
  refine planB_read (v := .agg (v3 0 0 q)) rfl rfl (fun u hS => by go_simp) ?_
  try go_simp
  refine planB_read (v := .pointer (some ⟨w.heap.size, 2, none⟩)) rfl rfl (fun u hS => by go_simp) ?_
  try go_simp
  refine planB_read (v := .agg (v3 x y z)) rfl rfl (fun u hS => exec_loadSub (i := 2) (g := w.heap.size) (t := 27) (cs := sh kd rr x y z A n cp) hS.g rVec (vs := v3 x y z) _ rfl rfl (by repeat (first | exact List.mem_cons_self | apply List.mem_cons_of_mem)) rfl rfl) ?_
  try go_simp
  refine planB_tail (fun cc u hS hB hI => ?_)
  clear hB hI
  simp only [pa, opsOf]
  refine list_go hS ?_
  clear hS
  refine list_new (z := bsC2 0 0 q x y z) (ty := 24) (v := fun g => .slice (some ⟨g, 0, none⟩) 2 2) rfl rfl (fun u => exec_bs2Vec u (.tmp 7) (.tmp 9) rfl rfl rfl) (fun g1 hgg1 => ?_)
  try go_simp
  refine list_read (v := .slice (some ⟨g1, 0, none⟩) 2 2) rfl rfl (fun u hS => by go_simp) ?_
  try go_simp
  refine list_end (fun u1 hS => ?_)
  have D := hide hS
  clear hS
  go_wp2
  go_ret
  exact ⟨⟨_, rfl, own_of_blk (n := 2) ((unhide D).g.blk (g := g1) (t := 24) (cs := bsC2 0 0 q x y z) (by repeat (first | exact List.mem_cons_self | apply List.mem_cons_of_mem))) hgg1 rfl (by unfold maxLen; decide)⟩, (unhide D).g.o⟩
set_option maxHeartbeats 4000000 in
theorem signed_0 (x bt q : Int) (w : World) (e0 : Hid (decide ((bt : Int) = 0) = true)) (h0 : Hid (Ans 78 #[.int .i64 0, .int .i64 x] (.int .i64 q))) : Calls Tryz.prog 104 #[.int .i64 x, .int .i64 bt] w fun e w' => e = .returned (.int .i64 q) ∧ Below w.heap.size w w' := by
  go_enter Tryz.func104, Tryz.ntmps104
  go_upto_region 1 with fail
  have D := hide ((Gd.start w))
  refine list_start (S := Gd w []) (unhide D) ?_
  clear D
  refine list_read (v := .int .i64 bt) rfl rfl (fun u hS => by go_simp) ?_
  try go_simp
  refine list_read (v := .bool true) rfl rfl (fun u hS => exec_eqlS _ _ (unhide e0) rfl rfl rfl) ?_
  try go_simp
  refine list_end (fun u1 hS => ?_)
  have D := hide hS
  clear hS
  go_upto_region 2 with fail
  refine list_start (S := Gd w []) (unhide D) ?_
  clear D
  refine list_read (v := .int .i64 x) rfl rfl (fun u hS => by go_simp) ?_
  try go_simp
  refine list_call (v := .int .i64 q) (f := 78) (args := #[.int .i64 0, .int .i64 x]) rfl rfl (fun u hS => by go_simp) (fun u hS => (unhide h0 u).mono fun _ _ ⟨he, hb⟩ => ⟨he, hS.keep hb⟩) ?_
  try go_simp
  refine list_read (v := .int .i64 q) rfl rfl (fun u hS => by go_simp) ?_
  try go_simp
  refine list_end (fun u2 hS => ?_)
  have D := hide hS
  clear hS
  go_wp2
  go_ret
  exact ⟨rfl, (unhide D).g.o⟩
set_option maxHeartbeats 4000000 in
theorem signed_1 (x bt : Int) (w : World) (e0 : Hid (decide ((bt : Int) = 0) = false)) : Calls Tryz.prog 104 #[.int .i64 x, .int .i64 bt] w fun e w' => e = .returned (.int .i64 x) ∧ Below w.heap.size w w' := by
  go_enter Tryz.func104, Tryz.ntmps104
  go_upto_region 1 with fail
  have D := hide ((Gd.start w))
  refine list_start (S := Gd w []) (unhide D) ?_
  clear D
  refine list_read (v := .int .i64 bt) rfl rfl (fun u hS => by go_simp) ?_
  try go_simp
  refine list_read (v := .bool false) rfl rfl (fun u hS => exec_eqlS _ _ (unhide e0) rfl rfl rfl) ?_
  try go_simp
  refine list_end (fun u1 hS => ?_)
  have D := hide hS
  clear hS
  go_upto_region 3 with fail
  refine list_start (S := Gd w []) (unhide D) ?_
  clear D
  refine list_read (v := .int .i64 x) rfl rfl (fun u hS => by go_simp) ?_
  try go_simp
  refine list_read (v := .int .i64 x) rfl rfl (fun u hS => by go_simp) ?_
  try go_simp
  refine list_end (fun u3 hS => ?_)
  have D := hide hS
  clear hS
  go_wp2
  go_ret
  exact ⟨rfl, (unhide D).g.o⟩

end Go.Proofs.YtnemedgdhojhdaaGreat
