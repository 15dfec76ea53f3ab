/- Spans as blocks of three wide numbers; points; blocks that are filled three or two at a time. A range over a function: a round's regions walked as anywhere, blocks across the turn of one that is no cells. Package grid: Check, Round, Value, Less. Package cmp: Compare, Or. Package grid: Cmp. Package grid: span; the iterator over two spans; Along. Package grid: Along. -/
import Derived.Test.YtnemedgdhojhdaaGreatVu
import Derived.Test.YtnemedgdhojhdaaGreatBo
namespace Go.Proofs.YtnemedgdhojhdaaGreat
open Go.RowKit
set_option maxRecDepth 4000
set_option linter.unusedVariables false

/-- The cells of a span. -/
def c24 (x y z : Nat) : Array Value := ((cells8 x).toList ++ ((cells8 y).toList ++ (cells8 z).toList)).toArray
theorem c24_one (x y z : Nat) : (c24 x y z).all (·.oneCell') = true := by
  show (((cells8 x).toList ++ ((cells8 y).toList ++ (cells8 z).toList)).toArray).all (·.oneCell') = true
  simp [cells8, Value.oneCell']
theorem c24_get (x y z k : Nat) : (c24 x y z)[k]? = ((cells8 x).toList ++ ((cells8 y).toList ++ (cells8 z).toList))[k]? := by unfold c24; simp
theorem bSpan (x y z : Nat) : Tryz.prog.built 121 [(0, .agg (cells8 x)), (1, .agg (cells8 y)), (2, .agg (cells8 z))] = some (c24 x y z) := by kernel_rfl
theorem iSpan : (Tryz.prog.info? 121).map (·.size) = some 24 := by kernel_rfl
theorem rSpan : Rw 121 24 := ⟨⟨_, Tryz.underlying121, rfl⟩, iSpan⟩
theorem rPoint : Rw 64 3 := ⟨⟨_, Tryz.underlying64, rfl⟩, by kernel_rfl⟩
theorem cells8_lenA (x : Nat) : (cells8 x).toList.length = 8 := rfl
theorem range_x {w : World} {g x y z : Nat} {t : TypeId} (h : Blk w g t (c24 x y z)) : w.rangeAt g 0 (cells8 x).toList := by
  intro j v hv
  have hj : j < 8 := by have := (List.getElem?_eq_some_iff.1 hv).1; rwa [cells8_lenA] at this
  rw [Nat.zero_add, h.cell j, c24_get, List.getElem?_append_left (by rw [cells8_lenA]; exact hj)]
  exact hv
theorem range_y {w : World} {g x y z : Nat} {t : TypeId} (h : Blk w g t (c24 x y z)) : w.rangeAt g 8 (cells8 y).toList := by
  intro j v hv
  have hj : j < 8 := by have := (List.getElem?_eq_some_iff.1 hv).1; rwa [cells8_lenA] at this
  rw [h.cell (8 + j), c24_get, List.getElem?_append_right (by rw [cells8_lenA]; omega), cells8_lenA, List.getElem?_append_left (by rw [cells8_lenA]; omega), show 8 + j - 8 = j by omega]
  exact hv
theorem range_z {w : World} {g x y z : Nat} {t : TypeId} (h : Blk w g t (c24 x y z)) : w.rangeAt g 16 (cells8 z).toList := by
  intro j v hv
  have hj : j < 8 := by have := (List.getElem?_eq_some_iff.1 hv).1; rwa [cells8_lenA] at this
  rw [h.cell (16 + j), c24_get, List.getElem?_append_right (by rw [cells8_lenA]; omega), cells8_lenA, List.getElem?_append_right (by rw [cells8_lenA]; omega), cells8_lenA, show 16 + j - 8 - 8 = j by omega]
  exact hv
theorem exec_mid {o : Oper} {a : Act} {w : World} {g k n : Nat} (x : Operand) (ho : o.op = .load 75 x) (hx : a.eval x = .pointer (some ⟨g, k, none⟩)) (hr : w.rangeAt g k (cells8 n).toList) : (execOp a.eval o).run Tryz.prog w = .ok (.value (.agg (cells8 n))) w := by
  unfold execOp
  simp only [ho, hx, Instr.loadAt, Instr.sureAddr, Sem.run_bind, Sem.run_pure, Result.andThen_ok, run_loadVar_mid w g k 75 (cells8 n).toList _ hr Tryz.underlying75 rfl iWide]
theorem res3W {fn : Func} {R : Ending → World → Prop} {p q r : Tmp} {a : Act} {w : World} {x y z g h k : Nat} {t1 t2 t3 : TypeId} (b1 : Blk w g t1 (cells8 x)) (b2 : Blk w h t2 (cells8 y)) (b3 : Blk w k t3 (cells8 z)) (hf : fn.results = #[.cell p 75, .cell q 75, .cell r 75])
    (hp : a.tmps.getD p undef = ptr g) (hq : a.tmps.getD q undef = ptr h) (hr : a.tmps.getD r undef = ptr k) (hdf : a.defers = []) (hR : R (.returned (.tuple #[.agg (cells8 x), .agg (cells8 y), .agg (cells8 z)])) w) : bodyPost Tryz.prog fn R .ret a w := by
  refine bodyPost_ret ?_ hdf hR
  have hp' : a.tmps[p]?.getD undef = .pointer (some ⟨g, 0, none⟩) := by simpa using hp
  have hq' : a.tmps[q]?.getD undef = .pointer (some ⟨h, 0, none⟩) := by simpa using hq
  have hr' : a.tmps[r]?.getD undef = .pointer (some ⟨k, 0, none⟩) := by simpa using hr
  simp [results, hf, hp', hq', hr', asAddr, run_loadVar_row w g t1 75 (cells8 x) (0, 0) _ b1 Tryz.underlying75 rfl iWide, run_loadVar_row w h t2 75 (cells8 y) (0, 0) _ b2 Tryz.underlying75 rfl iWide, run_loadVar_row w k t3 75 (cells8 z) (0, 0) _ b3 Tryz.underlying75 rfl iWide, Result.andThen]
section
variable {ops : Array Oper} {rest : List Oper} {o : Oper} {a : Act} {w w0 : World} {Q : Exit → Act → World → Prop} {l : List (Nat × TypeId × Array Value)}
theorem bdSpan (p q r : Operand) {x y z : Nat} (ho : o.op = .build 121 #[(0, p), (1, q), (2, r)]) (hgd : o.guard = none) (hx : a.eval p = .agg (cells8 x)) (hy : a.eval q = .agg (cells8 y)) (hz : a.eval r = .agg (cells8 z))
    (h : wpList Tryz.prog ops Q rest (a.put o.dst (.agg (c24 x y z))) w) : wpList Tryz.prog ops Q (o :: rest) a w := wpList_value hgd (exec_build3 w 121 p q r ho hx hy hz (bSpan x y z)) h
/-- Three numbers into three blocks. -/
theorem st3g {o1 o2 o3 : Oper} {g1 g2 g3 B : Nat} {c1 c2 c3 : Array Value} (d : Gen w0 ((g3, 75, c3) :: (g2, 75, c2) :: (g1, 75, c1) :: l) w) (p q r s t v : Operand) {x y z : Nat} (h1 : o1.op = .store 75 p s) (h2 : o2.op = .store 75 q t) (h3 : o3.op = .store 75 r v) (g1' : o1.guard = none) (g2' : o2.guard = none) (g3' : o3.guard = none)
    (d1 : o1.dst = none) (d2 : o2.dst = none) (d3 : o3.dst = none) (s1 : c1.size = 8) (s2 : c2.size = 8) (s3 : c3.size = 8)
    (e1 : a.eval p = ptr g1) (e2 : a.eval q = ptr g2) (e3 : a.eval r = ptr g3) (e4 : a.eval s = .agg (cells8 x)) (e5 : a.eval t = .agg (cells8 y)) (e6 : a.eval v = .agg (cells8 z))
    (hl : ∀ p ∈ l, p.1 < B) (hB : w0.heap.size ≤ B) (hg : B ≤ g1 ∧ g1 < g2 ∧ g2 < g3)
    (h : ∀ u, Gen w0 ((g3, 75, cells8 z) :: (g2, 75, cells8 y) :: (g1, 75, cells8 x) :: l) u → KeepsFrom 0 w u → wpList Tryz.prog ops Q rest a u) :
    wpList Tryz.prog ops Q (o1 :: o2 :: o3 :: rest) a w := by
  obtain ⟨hg1, hg2, hg3⟩ := hg
  have b3 := d.blk (g := g3) (by repeat (first | exact List.mem_cons_self | apply List.mem_cons_of_mem))
  have b2 := d.blk (g := g2) (by repeat (first | exact List.mem_cons_self | apply List.mem_cons_of_mem))
  have b1 := d.blk (g := g1) (by repeat (first | exact List.mem_cons_self | apply List.mem_cons_of_mem))
  have put : ∀ {oo : Oper} (_ : oo.dst = none), a.put oo.dst undef = a := fun e => by rw [e]; rfl
  refine wpList_store_row g1' 75 p s h1 _ (cells8 x) e1 e4 75 c1 b1 iWide s1 (cells8_one _) ?_
  rw [put d1]
  refine wpList_store_row g2' 75 q t h2 _ (cells8 y) e2 e5 75 c2 (b2.rowOther _ (by omega)) iWide s2 (cells8_one _) ?_
  rw [put d2]
  refine wpList_store_row g3' 75 r v h3 _ (cells8 z) e3 e6 75 c3 ((b3.rowOther _ (by omega)).rowOther _ (by omega)) iWide s3 (cells8_one _) ?_
  rw [put d3]
  refine h _ ⟨fun p hp => ?_, below_row (below_row (below_row d.o (by omega) _) (by omega) _) (by omega) _⟩ (((KeepsFrom.row b1).trans (KeepsFrom.row (b2.rowOther _ (by omega)))).trans (KeepsFrom.row ((b3.rowOther _ (by omega)).rowOther _ (by omega))))
  rcases List.mem_cons.1 hp with e | hp
  · subst e; exact ((b3.rowOther _ (by omega)).rowOther _ (by omega)).row _
  rcases List.mem_cons.1 hp with e | hp
  · subst e; exact ((b2.rowOther _ (by omega)).row _).rowOther _ (by omega)
  rcases List.mem_cons.1 hp with e | hp
  · subst e; exact ((b1.row _).rowOther _ (by omega)).rowOther _ (by omega)
  · have := hl p hp
    exact (((d.at_ p (List.mem_cons_of_mem _ (List.mem_cons_of_mem _ (List.mem_cons_of_mem _ hp)))).rowOther _ (by omega)).rowOther _ (by omega)).rowOther _ (by omega)
/-- Three numbers into the three blocks that were made last. -/
theorem st3 {o1 o2 o3 : Oper} (d : Gen w0 l w) (p q r s t v : Operand) {x y z : Nat} (h1 : o1.op = .store 75 p s) (h2 : o2.op = .store 75 q t) (h3 : o3.op = .store 75 r v) (g1 : o1.guard = none) (g2 : o2.guard = none) (g3 : o3.guard = none)
    (d1 : o1.dst = none) (d2 : o2.dst = none) (d3 : o3.dst = none)
    (e1 : a.eval p = ptr w.heap.size) (e2 : a.eval q = ptr (w.heap.size + 1)) (e3 : a.eval r = ptr (w.heap.size + 1 + 1)) (e4 : a.eval s = .agg (cells8 x)) (e5 : a.eval t = .agg (cells8 y)) (e6 : a.eval v = .agg (cells8 z))
    (h : ∀ u, Gen w0 ((w.heap.size + 1 + 1, 75, cells8 z) :: (w.heap.size + 1, 75, cells8 y) :: (w.heap.size, 75, cells8 x) :: l) u → wpList Tryz.prog ops Q rest a u) :
    wpList Tryz.prog ops Q (o1 :: o2 :: o3 :: rest) a (((w.alloc (.cells z8 75)).alloc (.cells z8 75)).alloc (.cells z8 75)) := by
  have b1 := ((Blk.new w 75 z8).alloc (.cells z8 75)).alloc (.cells z8 75)
  have b2 := (Blk.new (w.alloc (.cells z8 75)) 75 z8).alloc (.cells z8 75)
  have b3 := Blk.new ((w.alloc (.cells z8 75)).alloc (.cells z8 75)) 75 z8
  simp only [szA] at b2 b3
  have O := d.o
  have hb : ∀ p ∈ l, Blk (((w.alloc (.cells z8 75)).alloc (.cells z8 75)).alloc (.cells z8 75)) p.1 p.2.1 p.2.2 ∧ p.1 < w.heap.size := fun p hp => ⟨(((d.at_ p hp).alloc _).alloc _).alloc _, (d.at_ p hp).lt⟩
  have O3 : Below w0.heap.size w0 (((w.alloc (.cells z8 75)).alloc (.cells z8 75)).alloc (.cells z8 75)) := ((O.alloc O.size _).alloc (by have := O.size; simp; omega) _).alloc (by have := O.size; simp; omega) _
  have hs := O.size
  generalize ((w.alloc (.cells z8 75)).alloc (.cells z8 75)).alloc (.cells z8 75) = u at *
  have put : ∀ {oo : Oper} (_ : oo.dst = none), a.put oo.dst undef = a := fun e => by rw [e]; rfl
  refine wpList_store_row g1 75 p s h1 _ (cells8 x) e1 e4 75 z8 b1 iWide rfl (cells8_one _) ?_
  rw [put d1]
  refine wpList_store_row g2 75 q t h2 _ (cells8 y) e2 e5 75 z8 (b2.rowOther _ (by omega)) iWide rfl (cells8_one _) ?_
  rw [put d2]
  refine wpList_store_row g3 75 r v h3 _ (cells8 z) e3 e6 75 z8 ((b3.rowOther _ (by omega)).rowOther _ (by omega)) iWide rfl (cells8_one _) ?_
  rw [put d3]
  refine h _ ⟨fun p hp => ?_, below_row (below_row (below_row O3 (by omega) _) (by omega) _) (by omega) _⟩
  rcases List.mem_cons.1 hp with e | hp
  · subst e; exact ((b3.rowOther _ (by omega)).rowOther _ (by omega)).row _
  rcases List.mem_cons.1 hp with e | hp
  · subst e; exact ((b2.rowOther _ (by omega)).row _).rowOther _ (by omega)
  rcases List.mem_cons.1 hp with e | hp
  · subst e; exact ((b1.row _).rowOther _ (by omega)).rowOther _ (by omega)
  · obtain ⟨hb1, hb2⟩ := hb p hp
    exact ((hb1.rowOther _ (by omega)).rowOther _ (by omega)).rowOther _ (by omega)
end

/-! A round's regions, walked as anywhere. -/

end Go.Proofs.YtnemedgdhojhdaaGreat

namespace Go.Proofs.YtnemedgdhojhdaaGreat
open Go.RowKit
set_option maxRecDepth 4000
set_option linter.unusedVariables false

theorem exec_loadI {o : Oper} {a : Act} {w : World} {g i : Nat} {z : Int} (x : Operand) (ho : o.op = .load 2 x) (hx : a.eval x = .pointer (some ⟨g, i, none⟩)) (hc : w.cell? ⟨g, i, none⟩ = some (.int .i64 z)) : (execOp a.eval o).run Tryz.prog w = .ok (.value (.int .i64 z)) w := by
  unfold execOp
  simp only [ho, hx]
  go_simp
theorem exec_loadIGA {o : Oper} {a : Act} {w w0 : World} {l : List (Nat × TypeId × Array Value)} (d : Gen w0 l w) {g i : Nat} {t : TypeId} {cs : Array Value} {z : Int} (x : Operand) (ho : o.op = .load 2 x) (hx : a.eval x = .pointer (some ⟨g, i, none⟩)) (hm : (g, t, cs) ∈ l) (hc : cs[i]? = some (.int .i64 z)) :
    (execOp a.eval o).run Tryz.prog w = .ok (.value (.int .i64 z)) w := exec_loadI x ho hx ((d.blk hm).cell i ▸ hc)
section
variable {ops : Array Oper} {rest : List Oper} {o : Oper} {a : Act} {w w0 : World} {Q : Exit → Act → World → Prop} {l : List (Nat × TypeId × Array Value)} {g : Nat} {t : TypeId} {cs : Array Value}
theorem ldI (d : Gen w0 l w) {i : Nat} {z : Int} (x : Operand) (ho : o.op = .load 2 x) (hgd : o.guard = none) (hx : a.eval x = .pointer (some ⟨g, i, none⟩)) (hm : (g, t, cs) ∈ l) (hc : cs[i]? = some (.int .i64 z))
    (h : wpList Tryz.prog ops Q rest (a.put o.dst (.int .i64 z)) w) : wpList Tryz.prog ops Q (o :: rest) a w := wpList_value hgd (exec_loadIGA d x ho hx hm hc) h
theorem ldFx (d : Gen w0 l w) {i : Nat} {z : Int} (x : Operand) (ho : o.op = .load 22 x) (hgd : o.guard = none) (hx : a.eval x = .pointer (some ⟨g, i, none⟩)) (hm : (g, t, cs) ∈ l) (hc : cs[i]? = some (.int .i64 z))
    (h : wpList Tryz.prog ops Q rest (a.put o.dst (.int .i64 z)) w) : wpList Tryz.prog ops Q (o :: rest) a w := wpList_value hgd (exec_loadFG d x ho hx hm hc) h
theorem exec_bdPt {o : Oper} {a : Act} (w : World) (p q r : Operand) {x y z : Int} (ho : o.op = .build 64 #[(0, p), (1, q), (2, r)]) (hx : a.eval p = .int .i64 x) (hy : a.eval q = .int .i64 y) (hz : a.eval r = .int .i64 z) :
    (execOp a.eval o).run Tryz.prog w = .ok (.value (.agg (v3 x y z))) w := exec_build3 w 64 p q r ho hx hy hz (by kernel_rfl)
theorem bdPt (p q r : Operand) {x y z : Int} (ho : o.op = .build 64 #[(0, p), (1, q), (2, r)]) (hgd : o.guard = none) (hx : a.eval p = .int .i64 x) (hy : a.eval q = .int .i64 y) (hz : a.eval r = .int .i64 z)
    (h : wpList Tryz.prog ops Q rest (a.put o.dst (.agg (v3 x y z))) w) : wpList Tryz.prog ops Q (o :: rest) a w := wpList_value hgd (exec_bdPt w p q r ho hx hy hz) h
end
theorem v3_one' (x y z : Int) : (v3 x y z).all (·.oneCell') = true := by simp [Value.oneCell']

/-- Three values out of their slots. -/
theorem resT3 {P : Program} {fn : Func} {R : Ending → World → Prop} {p q r : Tmp} {a : Act} {w : World} {u v t : Value} (h : fn.results = #[.tmp p, .tmp q, .tmp r]) (hp : a.tmps.getD p undef = u) (hq : a.tmps.getD q undef = v) (hr : a.tmps.getD r undef = t) (hdf : a.defers = [])
    (hR : R (.returned (.tuple #[u, v, t])) w) : bodyPost P fn R .ret a w := by
  refine bodyPost_ret ?_ hdf hR
  have hp' : a.tmps[p]?.getD undef = u := by simpa using hp
  have hq' : a.tmps[q]?.getD undef = v := by simpa using hq
  have hr' : a.tmps[r]?.getD undef = t := by simpa using hr
  simp [results, h, hp', hq', hr']

/-- The nearest number of a point. -/
def near (z : Int) : Int := (z + 32768) / 65536
theorem near_core (x v : Int) (w : World) (h : Hid (wrap64 (x / 65536 + bits .and .i64 (x / 32768) 1) = v)) :
    Calls Tryz.prog 107 #[.int .i64 x] w fun e w' => e = .returned (.int .i64 v) ∧ Below w.heap.size w w' := by
  go_enter Tryz.func107, Tryz.ntmps107
  go_wp2
  go_ret
  exact ⟨congrArg (fun z => Ending.returned (.int .i64 z)) (unhide h), Below.refl _ _⟩
theorem each_near (x y z : Int) (a b c : Int) (w : World) (h1 : Hid (Ans 107 #[.int .i64 x] (.int .i64 a))) (h2 : Hid (Ans 107 #[.int .i64 y] (.int .i64 b))) (h3 : Hid (Ans 107 #[.int .i64 z] (.int .i64 c))) :
    Calls Tryz.prog 106 #[.int .i64 x, .int .i64 y, .int .i64 z, .func (Fn.func 107) #[] #[]] w fun e w' => e = .returned (.tuple #[.int .i64 a, .int .i64 b, .int .i64 c]) ∧ Below w.heap.size w w' := by
  have D := hide (Gen.start w)
  go_enter Tryz.func106, Tryz.ntmps106
  go_wp2_with (first | (go_at_call 107; with_reducible refine (unhide h1 _).mono ?_; rintro e w' ⟨he, hb⟩; subst he; have D := hide ((unhide D).keep hb); clear hb) | (go_at_call 107; with_reducible refine (unhide h2 _).mono ?_; rintro e w' ⟨he, hb⟩; subst he; have D := hide ((unhide D).keep hb); clear hb) | (go_at_call 107; with_reducible refine (unhide h3 _).mono ?_; rintro e w' ⟨he, hb⟩; subst he; have D := hide ((unhide D).keep hb); clear hb))
  exact resT3 rfl rfl rfl rfl rfl ⟨rfl, (unhide D).o⟩
def mayI (z : Int) : Bool := decide (-268435456 ≤ z) && decide (z ≤ 268435456)
theorem may_core (x : Int) (w : World) :
    Calls Tryz.prog 146 #[.int .i64 x] w fun e w' => e = .returned (.bool (mayI x)) ∧ Below w.heap.size w w' := by
  unfold mayI
  go_enter Tryz.func146, Tryz.ntmps146
  by_cases h : -268435456 ≤ x
  · go_wp2
    go_ret
    exact ⟨by simp [h], Below.refl _ _⟩
  · have hd := hide (decide_eq_false h)
    go_wp2
    go_ret
    exact ⟨by rw [unhide hd]; rfl, Below.refl _ _⟩
theorem each_may (x y z : Int) (a b c : Bool) (w : World) (h1 : Hid (Ans 146 #[.int .i64 x] (.bool a))) (h2 : Hid (Ans 146 #[.int .i64 y] (.bool b))) (h3 : Hid (Ans 146 #[.int .i64 z] (.bool c))) :
    Calls Tryz.prog 145 #[.int .i64 x, .int .i64 y, .int .i64 z, .func (Fn.func 146) #[] #[]] w fun e w' => e = .returned (.tuple #[.bool a, .bool b, .bool c]) ∧ Below w.heap.size w w' := by
  have D := hide (Gen.start w)
  go_enter Tryz.func145, Tryz.ntmps145
  go_wp2_with (first | (go_at_call 146; with_reducible refine (unhide h1 _).mono ?_; rintro e w' ⟨he, hb⟩; subst he; have D := hide ((unhide D).keep hb); clear hb) | (go_at_call 146; with_reducible refine (unhide h2 _).mono ?_; rintro e w' ⟨he, hb⟩; subst he; have D := hide ((unhide D).keep hb); clear hb) | (go_at_call 146; with_reducible refine (unhide h3 _).mono ?_; rintro e w' ⟨he, hb⟩; subst he; have D := hide ((unhide D).keep hb); clear hb))
  exact resT3 rfl rfl rfl rfl rfl ⟨rfl, (unhide D).o⟩
theorem check_tt (x y z : Int) (c : Bool) (w : World) (hE : Hid (Ans 145 #[.int .i64 x, .int .i64 y, .int .i64 z, .func (Fn.func 146) #[] #[]] (.tuple #[.bool true, .bool true, .bool c]))) :
    Calls Tryz.prog 108 #[.agg (v3 x y z)] w fun e w' => e = .returned (.int .i64 (if (true && true) && c then 0 else 7)) ∧ Below w.heap.size w w' := by
  go_enter Tryz.func108, Tryz.ntmps108
  go_upto_region 1 with fail
  have D := hide ((Gen.start w).push 64 (v3 x y z))
  cases c
  · go_wp2_with (first | (with_reducible refine at_list ?_;  apply ldI (unhide D) _ rfl rfl rfl (by repeat (first | exact List.mem_cons_self | apply List.mem_cons_of_mem)) rfl) | (go_at_call 145; with_reducible refine (unhide hE _).mono ?_; rintro e w' ⟨he, hb⟩; subst he; have D := hide ((unhide D).keep hb); clear hb))
    go_ret
    exact ⟨rfl, (unhide D).o⟩
  · go_wp2_with (first | (with_reducible refine at_list ?_;  apply ldI (unhide D) _ rfl rfl rfl (by repeat (first | exact List.mem_cons_self | apply List.mem_cons_of_mem)) rfl) | (go_at_call 145; with_reducible refine (unhide hE _).mono ?_; rintro e w' ⟨he, hb⟩; subst he; have D := hide ((unhide D).keep hb); clear hb))
    go_ret
    exact ⟨rfl, (unhide D).o⟩
theorem check_tf (x y z : Int) (c : Bool) (w : World) (hE : Hid (Ans 145 #[.int .i64 x, .int .i64 y, .int .i64 z, .func (Fn.func 146) #[] #[]] (.tuple #[.bool true, .bool false, .bool c]))) :
    Calls Tryz.prog 108 #[.agg (v3 x y z)] w fun e w' => e = .returned (.int .i64 (if (true && false) && c then 0 else 7)) ∧ Below w.heap.size w w' := by
  go_enter Tryz.func108, Tryz.ntmps108
  go_upto_region 1 with fail
  have D := hide ((Gen.start w).push 64 (v3 x y z))
  cases c
  · go_wp2_with (first | (with_reducible refine at_list ?_;  apply ldI (unhide D) _ rfl rfl rfl (by repeat (first | exact List.mem_cons_self | apply List.mem_cons_of_mem)) rfl) | (go_at_call 145; with_reducible refine (unhide hE _).mono ?_; rintro e w' ⟨he, hb⟩; subst he; have D := hide ((unhide D).keep hb); clear hb))
    go_ret
    exact ⟨rfl, (unhide D).o⟩
  · go_wp2_with (first | (with_reducible refine at_list ?_;  apply ldI (unhide D) _ rfl rfl rfl (by repeat (first | exact List.mem_cons_self | apply List.mem_cons_of_mem)) rfl) | (go_at_call 145; with_reducible refine (unhide hE _).mono ?_; rintro e w' ⟨he, hb⟩; subst he; have D := hide ((unhide D).keep hb); clear hb))
    go_ret
    exact ⟨rfl, (unhide D).o⟩
theorem check_ft (x y z : Int) (c : Bool) (w : World) (hE : Hid (Ans 145 #[.int .i64 x, .int .i64 y, .int .i64 z, .func (Fn.func 146) #[] #[]] (.tuple #[.bool false, .bool true, .bool c]))) :
    Calls Tryz.prog 108 #[.agg (v3 x y z)] w fun e w' => e = .returned (.int .i64 (if (false && true) && c then 0 else 7)) ∧ Below w.heap.size w w' := by
  go_enter Tryz.func108, Tryz.ntmps108
  go_upto_region 1 with fail
  have D := hide ((Gen.start w).push 64 (v3 x y z))
  cases c
  · go_wp2_with (first | (with_reducible refine at_list ?_;  apply ldI (unhide D) _ rfl rfl rfl (by repeat (first | exact List.mem_cons_self | apply List.mem_cons_of_mem)) rfl) | (go_at_call 145; with_reducible refine (unhide hE _).mono ?_; rintro e w' ⟨he, hb⟩; subst he; have D := hide ((unhide D).keep hb); clear hb))
    go_ret
    exact ⟨rfl, (unhide D).o⟩
  · go_wp2_with (first | (with_reducible refine at_list ?_;  apply ldI (unhide D) _ rfl rfl rfl (by repeat (first | exact List.mem_cons_self | apply List.mem_cons_of_mem)) rfl) | (go_at_call 145; with_reducible refine (unhide hE _).mono ?_; rintro e w' ⟨he, hb⟩; subst he; have D := hide ((unhide D).keep hb); clear hb))
    go_ret
    exact ⟨rfl, (unhide D).o⟩
theorem check_ff (x y z : Int) (c : Bool) (w : World) (hE : Hid (Ans 145 #[.int .i64 x, .int .i64 y, .int .i64 z, .func (Fn.func 146) #[] #[]] (.tuple #[.bool false, .bool false, .bool c]))) :
    Calls Tryz.prog 108 #[.agg (v3 x y z)] w fun e w' => e = .returned (.int .i64 (if (false && false) && c then 0 else 7)) ∧ Below w.heap.size w w' := by
  go_enter Tryz.func108, Tryz.ntmps108
  go_upto_region 1 with fail
  have D := hide ((Gen.start w).push 64 (v3 x y z))
  cases c
  · go_wp2_with (first | (with_reducible refine at_list ?_;  apply ldI (unhide D) _ rfl rfl rfl (by repeat (first | exact List.mem_cons_self | apply List.mem_cons_of_mem)) rfl) | (go_at_call 145; with_reducible refine (unhide hE _).mono ?_; rintro e w' ⟨he, hb⟩; subst he; have D := hide ((unhide D).keep hb); clear hb))
    go_ret
    exact ⟨rfl, (unhide D).o⟩
  · go_wp2_with (first | (with_reducible refine at_list ?_;  apply ldI (unhide D) _ rfl rfl rfl (by repeat (first | exact List.mem_cons_self | apply List.mem_cons_of_mem)) rfl) | (go_at_call 145; with_reducible refine (unhide hE _).mono ?_; rintro e w' ⟨he, hb⟩; subst he; have D := hide ((unhide D).keep hb); clear hb))
    go_ret
    exact ⟨rfl, (unhide D).o⟩
/-- May the point be? -/
def chkP (x y z : Int) : Bool := mayI x && mayI y && mayI z
theorem CheckZ (x y z : Int) : Ans 108 #[.agg (v3 x y z)] (.int .i64 (if chkP x y z then 0 else 7)) := by
  intro w
  have h := fun u => each_may x y z (mayI x) (mayI y) (mayI z) u (may_core x) (may_core y) (may_core z)
  unfold chkP
  generalize mayI x = a at *
  generalize mayI y = b at *
  generalize mayI z = c at *
  cases a <;> cases b
  · exact check_ff x y z c w h
  · exact check_ft x y z c w h
  · exact check_tf x y z c w h
  · exact check_tt x y z c w h

theorem and_one (x : Int) : bits .and .i64 x 1 = x % 2 := by
  have h : bits .and .i64 x 1 = IntKind.i64.wrap (((BitVec.ofInt 64 x &&& BitVec.ofInt 64 1).toNat : Nat) : Int) := rfl
  have e : (BitVec.ofInt 64 x &&& BitVec.ofInt 64 1).toNat = (x % 2).toNat := by
    rw [BitVec.toNat_and, show (BitVec.ofInt 64 1).toNat = 1 from rfl, Nat.and_one_is_mod, BitVec.toNat_ofInt]
    have h1 : x % 2 = 0 ∨ x % 2 = 1 := by omega
    have h2 : (0 : Int) ≤ x % 18446744073709551616 := Int.emod_nonneg _ (by decide)
    show (x % 18446744073709551616).toNat % 2 = (x % 2).toNat
    omega
  rw [h, e]
  rcases (show x % 2 = 0 ∨ x % 2 = 1 by omega) with h | h <;> rw [h] <;> rfl
theorem near_spec (x : Int) (hx : I64 x) : wrap64 (x / 65536 + bits .and .i64 (x / 32768) 1) = near x := by
  rw [and_one]
  unfold near
  obtain ⟨h0, h1⟩ := hx
  have e : x / 65536 + x / 32768 % 2 = (x + 32768) / 65536 := by omega
  rw [e, wrap_self ⟨by omega, by omega⟩]
theorem NearZ' (x : Int) (hx : I64 x) : Ans 107 #[.int .i64 x] (.int .i64 (near x)) := fun w => near_core x _ w (near_spec x hx)
set_option maxHeartbeats 1000000 in
theorem round_ok (x y z a b c : Int) (w : World) (hE : Hid (Ans 106 #[.int .i64 x, .int .i64 y, .int .i64 z, .func (Fn.func 107) #[] #[]] (.tuple #[.int .i64 a, .int .i64 b, .int .i64 c])))
    (hC : Hid (Ans 108 #[.agg (v3 a b c)] (.int .i64 0))) :
    Calls Tryz.prog 71 #[.agg (v3 x y z)] w fun e w' => e = .returned (.tuple #[.agg (v3 a b c), .int .i64 0]) ∧ Below w.heap.size w w' := by
  go_enter Tryz.func71, Tryz.ntmps71
  go_upto_region 1 with fail
  have D := hide (((Gen.start w).push 24 (v3 x y z)).push 64 (v3 0 0 0))
  simp only [szA] at D
  go_wp2_with (first | (with_reducible refine at_list ?_;  apply ldFx (unhide D) _ rfl rfl rfl (by repeat (first | exact List.mem_cons_self | apply List.mem_cons_of_mem)) rfl) | (go_at_call 106; with_reducible refine (unhide hE _).mono ?_; rintro e w' ⟨he, hb⟩; subst he; have D := hide ((unhide D).keep hb); clear hb) | (with_reducible refine at_list ?_;  refine bdPt _ _ _ rfl rfl rfl rfl rfl ?_) | (with_reducible refine at_list ?_; refine stG (unhide D) rPoint _ _ rfl rfl rfl rfl rfl rfl (v3_one' _ _ _) ?_; intro D'; have D := hide D'; clear D') | (with_reducible refine at_list ?_; apply ldG (unhide D) rPoint _ rfl rfl rfl (by repeat (first | exact List.mem_cons_self | apply List.mem_cons_of_mem)) rfl) | (go_at_call 108; with_reducible refine (unhide hC _).mono ?_; rintro e w' ⟨he, hb⟩; subst he; have D := hide ((unhide D).keep hb); clear hb) | (with_reducible refine at_list ?_; apply stGend (unhide D) rPoint _ _ rfl rfl rfl rfl (by repeat (first | exact List.mem_cons_self | apply List.mem_cons_of_mem)) (by omega) rfl rfl (v3_one' _ _ _); intro B O))
  exact resGT rPoint (unhide B) rfl rfl rfl rfl rfl ⟨rfl, unhide O⟩
set_option maxHeartbeats 1000000 in
theorem round_no (x y z a b c : Int) (w : World) (hE : Hid (Ans 106 #[.int .i64 x, .int .i64 y, .int .i64 z, .func (Fn.func 107) #[] #[]] (.tuple #[.int .i64 a, .int .i64 b, .int .i64 c])))
    (hC : Hid (Ans 108 #[.agg (v3 a b c)] (.int .i64 7))) :
    Calls Tryz.prog 71 #[.agg (v3 x y z)] w fun e w' => e = .returned (.tuple #[.agg (v3 0 0 0), .int .i64 7]) ∧ Below w.heap.size w w' := by
  go_enter Tryz.func71, Tryz.ntmps71
  go_upto_region 1 with fail
  have D := hide (((Gen.start w).push 24 (v3 x y z)).push 64 (v3 0 0 0))
  simp only [szA] at D
  go_wp2_with (first | (with_reducible refine at_list ?_;  apply ldFx (unhide D) _ rfl rfl rfl (by repeat (first | exact List.mem_cons_self | apply List.mem_cons_of_mem)) rfl) | (go_at_call 106; with_reducible refine (unhide hE _).mono ?_; rintro e w' ⟨he, hb⟩; subst he; have D := hide ((unhide D).keep hb); clear hb) | (with_reducible refine at_list ?_;  refine bdPt _ _ _ rfl rfl rfl rfl rfl ?_) | (with_reducible refine at_list ?_; refine stG (unhide D) rPoint _ _ rfl rfl rfl rfl rfl rfl (v3_one' _ _ _) ?_; intro D'; have D := hide D'; clear D') | (with_reducible refine at_list ?_; apply ldG (unhide D) rPoint _ rfl rfl rfl (by repeat (first | exact List.mem_cons_self | apply List.mem_cons_of_mem)) rfl) | (go_at_call 108; with_reducible refine (unhide hC _).mono ?_; rintro e w' ⟨he, hb⟩; subst he; have D := hide ((unhide D).keep hb); clear hb) | (with_reducible refine at_list ?_; apply stGend (unhide D) rPoint _ _ rfl rfl rfl rfl (by repeat (first | exact List.mem_cons_self | apply List.mem_cons_of_mem)) (by omega) rfl rfl (v3_one' _ _ _); intro B O))
  exact resGT rPoint (unhide B) rfl rfl rfl rfl rfl ⟨rfl, unhide O⟩
theorem RoundZ (x y z : Int) (hx : I64 x) (hy : I64 y) (hz : I64 z) : Ans 71 #[.agg (v3 x y z)] (if chkP (near x) (near y) (near z) then .tuple #[.agg (v3 (near x) (near y) (near z)), .int .i64 0] else .tuple #[.agg (v3 0 0 0), .int .i64 7]) := by
  intro w
  have hE := fun u => each_near x y z _ _ _ u (NearZ' x hx) (NearZ' y hy) (NearZ' z hz)
  have hC := CheckZ (near x) (near y) (near z)
  split
  · rename_i h
    rw [if_pos h] at hC
    exact round_ok x y z _ _ _ w hE hC
  · rename_i h
    rw [if_neg h] at hC
    exact round_no x y z _ _ _ w hE hC

end Go.Proofs.YtnemedgdhojhdaaGreat

namespace Go.Proofs.YtnemedgdhojhdaaGreat
open Go.RowKit
set_option maxRecDepth 4000
set_option linter.unusedVariables false
attribute [local go_sem] Oper.semAt_some

abbrev z24 : Array Value := #[.int .u64 0, .int .u64 0, .int .u64 0, .int .u64 0, .int .u64 0, .int .u64 0, .int .u64 0, .int .u64 0, .int .u64 0, .int .u64 0, .int .u64 0, .int .u64 0, .int .u64 0, .int .u64 0, .int .u64 0, .int .u64 0, .int .u64 0, .int .u64 0, .int .u64 0, .int .u64 0, .int .u64 0, .int .u64 0, .int .u64 0, .int .u64 0]

theorem each_Of (x y z : Int) (a b c : Nat) (w : World) (h1 : Hid (Ans 91 #[.int .i64 x] (.agg (cells8 a)))) (h2 : Hid (Ans 91 #[.int .i64 y] (.agg (cells8 b)))) (h3 : Hid (Ans 91 #[.int .i64 z] (.agg (cells8 c)))) :
    Calls Tryz.prog 205 #[.int .i64 x, .int .i64 y, .int .i64 z, .func (Fn.func 91) #[] #[]] w fun e w' => e = .returned (.tuple #[.agg (cells8 a), .agg (cells8 b), .agg (cells8 c)]) ∧ Below w.heap.size w w' := by
  go_enter Tryz.func205, Tryz.ntmps205
  go_upto_region 1 with fail
  have D := hide ((((Gen.start w).push 75 z8).push 75 z8).push 75 z8)
  simp only [szA] at D
  go_wp2_with (first | (go_at_call 91; with_reducible refine (unhide h1 _).mono ?_; rintro e w' ⟨he, hb⟩; subst he; have D := hide ((unhide D).keep hb); clear hb) | (go_at_call 91; with_reducible refine (unhide h2 _).mono ?_; rintro e w' ⟨he, hb⟩; subst he; have D := hide ((unhide D).keep hb); clear hb) | (go_at_call 91; with_reducible refine (unhide h3 _).mono ?_; rintro e w' ⟨he, hb⟩; subst he; have D := hide ((unhide D).keep hb); clear hb) | (with_reducible refine at_three ?_))
  unfold Stop
  refine st3g (unhide D) _ _ _ _ _ _ rfl rfl rfl rfl rfl rfl rfl rfl rfl rfl rfl rfl rfl rfl rfl rfl rfl rfl (B := w.heap.size) (fun _ h => (List.not_mem_nil h).elim) (Nat.le_refl _) (And.intro (by omega) (And.intro (by omega) (by omega))) ?_
  intro u D' _
  have D := hide D'
  clear D'
  go_wp2
  exact res3W ((unhide D).blk (by repeat (first | exact List.mem_cons_self | apply List.mem_cons_of_mem))) ((unhide D).blk (by repeat (first | exact List.mem_cons_self | apply List.mem_cons_of_mem))) ((unhide D).blk (by repeat (first | exact List.mem_cons_self | apply List.mem_cons_of_mem))) rfl rfl rfl rfl rfl ⟨rfl, (unhide D).o⟩

set_option maxHeartbeats 1000000 in
theorem span_core (x y z : Int) (a b c : Nat) (w : World) (hE : Hid (Ans 205 #[.int .i64 x, .int .i64 y, .int .i64 z, .func (Fn.func 91) #[] #[]] (.tuple #[.agg (cells8 a), .agg (cells8 b), .agg (cells8 c)]))) :
    Calls Tryz.prog 202 #[.agg (v3 x y z)] w fun e w' => e = .returned (.agg (c24 a b c)) ∧ Below w.heap.size w w' := by
  go_enter Tryz.func202, Tryz.ntmps202
  go_upto_region 1 with fail
  have D := hide (((Gen.start w).push 64 (v3 x y z)).push 121 z24)
  simp only [szA] at D
  go_upto_region 2 with (first | (with_reducible refine at_list ?_;  apply ldI (unhide D) _ rfl rfl rfl (by repeat (first | exact List.mem_cons_self | apply List.mem_cons_of_mem)) rfl) | (go_at_call 205; with_reducible refine (unhide hE _).mono ?_; rintro e w' ⟨he, hb⟩; subst he; have D := hide ((unhide D).keep hb); clear hb) | (with_reducible refine at_list ?_;  refine st3 (unhide D) _ _ _ _ _ _ rfl rfl rfl rfl rfl rfl rfl rfl rfl rfl rfl rfl rfl rfl rfl ?_; intro u D'; have D := hide D'; clear D'))
  go_wp2_with (first | (with_reducible refine at_list ?_; apply ldG (unhide D) rWide _ rfl rfl rfl (by repeat (first | exact List.mem_cons_self | apply List.mem_cons_of_mem)) rfl) | (with_reducible refine at_list ?_;  refine bdSpan _ _ _ rfl rfl rfl rfl rfl ?_) | (with_reducible refine at_list ?_; apply stGend (unhide D) rSpan _ _ rfl rfl rfl rfl (by repeat (first | exact List.mem_cons_self | apply List.mem_cons_of_mem)) (by omega) rfl rfl (c24_one _ _ _); intro B O))
  exact resG rSpan (unhide B) rfl rfl rfl rfl ⟨rfl, unhide O⟩
theorem SpanZ (x y z : Int) (h1 : I64 x) (h2 : I64 y) (h3 : I64 z) : Ans 202 #[.agg (v3 x y z)] (.agg (c24 (enc x) (enc y) (enc z))) := fun w =>
  span_core x y z _ _ _ w (fun u => each_Of x y z _ _ _ u (fun u => OfZ x h1.1 h1.2 u) (fun u => OfZ y h2.1 h2.2 u) (fun u => OfZ z h3.1 h3.2 u))

theorem beside_core (x y z p q r : Nat) (w : World) :
    Calls Tryz.prog 210 #[.agg (c24 x y z), .agg (c24 p q r)] w fun e w' => e = .returned (.func (Fn.func 211) #[] #[ptr w.heap.size, ptr (w.heap.size + 1)]) ∧ Blk w' w.heap.size 121 (c24 x y z) ∧ Blk w' (w.heap.size + 1) 121 (c24 p q r) ∧ Below w.heap.size w w' := by
  go_enter Tryz.func210, Tryz.ntmps210
  go_upto_region 1 with fail
  have D := hide (((Gen.start w).push 121 (c24 x y z)).push 121 (c24 p q r))
  simp only [szA] at D
  go_wp2
  go_ret
  exact ⟨rfl, (unhide D).blk (by repeat (first | exact List.mem_cons_self | apply List.mem_cons_of_mem)), (unhide D).blk (by repeat (first | exact List.mem_cons_self | apply List.mem_cons_of_mem)), (unhide D).o⟩

/-- Pr2 wide numbers that are told side by side. -/
abbrev Pr2 : Type := { p : Int × Int // Fit p.1 ∧ Fit p.2 }
abbrev encs2 (p : Pr2) : Array Value := #[.agg (cells8 (enc p.1.1)), .agg (cells8 (enc p.1.2))]

section
variable {F : Fence} {n : Nat} {ops : Array Oper} {rest : List Oper} {o : Oper} {a : Act} {w : World} {Q : Exit → Act → World → Prop}
theorem ldMidIn (x : Operand) {g k m : Nat} (ho : o.op = .load 75 x) (hw : Region.wanted o (yielded ops a.tmps) = true) (hx : a.eval x = .pointer (some ⟨g, k, none⟩)) (hr : w.rangeAt g k (cells8 m).toList)
    (h : wpListIn F n Tryz.prog ops Q rest (a.put o.dst (.agg (cells8 m))) w) : wpListIn F n Tryz.prog ops Q (o :: rest) a w := by
  unfold wpListIn
  rw [if_pos hw]
  refine ⟨fun f hf => ?_, ?_⟩
  · unfold Oper.about at hf
    rw [ho] at hf
    cases hf
  · rw [Oper.semAt_plain F a.eval o (fun c => by rw [ho]; exact fun h => by cases h), exec_mid x ho hx hr]
    exact h
end

/-- What lies in the blocks g and h is kept. -/
def Keeps2 (g h : Nat) (W W' : World) : Prop := (∀ t cs, Blk W g t cs → Blk W' g t cs) ∧ (∀ t cs, Blk W h t cs → Blk W' h t cs)
theorem keeps2_t {g h : Nat} {A B C : World} (k : Keeps2 g h A B) (j : Keeps2 g h B C) : Keeps2 g h A C := ⟨fun t cs b => j.1 t cs (k.1 t cs b), fun t cs b => j.2 t cs (k.2 t cs b)⟩
theorem keeps2_b {g h B : Nat} (hg : g < B) (hh : h < B) (W : World) (l : Nat) (o o' : Obj) (hl : B ≤ l) (_ : W.heap[l]? = some o) (_ : o.isCells = false) (_ : o.isWalk = false) : Keeps2 g h W (W.putObj l o') :=
  ⟨fun t cs (b : W.heap[g]? = _) => (World.putObj_heap_other (by omega)).trans b, fun t cs (b : W.heap[h]? = _) => (World.putObj_heap_other (by omega)).trans b⟩
theorem keeps2_below {g h : Nat} {W W' : World} (hb : Below W.heap.size W W') : Keeps2 g h W W' := ⟨fun _ _ b => b.below hb b.lt, fun _ _ b => b.below hb b.lt⟩
theorem keeps2_row {g h k : Nat} {W : World} (hg : g ≠ k) (hh : h ≠ k) (cs : Array Value) : Keeps2 g h W (W.setRow k cs) := ⟨fun _ _ b => b.rowOther _ hg, fun _ _ b => b.rowOther _ hh⟩

set_option maxRecDepth 100000 in
set_option maxHeartbeats 2000000 in
theorem beside_stops (x y z : Pr2) (g h : Nat) (w : World) (b1 : Hid (Blk w g 121 (c24 (enc x.1.1) (enc y.1.1) (enc z.1.1)))) (b2 : Hid (Blk w h 121 (c24 (enc x.1.2) (enc y.1.2) (enc z.1.2)))) (n : Nat) (hn1 : 1 ≤ n) :
    SeqStopsK Fence.wide n Tryz.prog 211 #[ptr g, ptr h] encs2 (Keeps2 g h) (fun l => l = [x, y, z]) (fun l => l <+: [x, y, z]) 3 w := by
  intro l J Jx W hW _ _ hY h0
  have B1 := hide ((unhide b1).below hW (unhide b1).lt)
  have B2 := hide ((unhide b2).below hW (unhide b2).lt)
  clear b1 b2 hW
  refine callsIn_of_wp Tryz.func211 rfl trivial ?_ rfl
  simp only [Tryz.ntmps211, List.size_toArray, List.length_cons, List.length_nil, Nat.reduceAdd, Nat.reduceSub, Array.replicate_succ, Array.replicate_zero, List.push_toArray, List.append_toArray, List.nil_append, List.cons_append]
  obtain ⟨f1, t1, a1, c1, hy1, hR1⟩ := hY [] x W h0 (by simp)
  dsimp only [encs2] at hy1
  gi_wp2_with (first | (with_reducible refine at_listIn ?_; refine ldMidIn _ rfl rfl rfl (range_x (unhide B1)) ?_) | (with_reducible refine at_listIn ?_; refine ldMidIn _ rfl rfl rfl (range_x (unhide B2)) ?_))
  refine hR1.mono ?_
  clear hR1 hy1
  rintro e W1 (⟨rfl, hJ1, hk1⟩ | ⟨rfl, hx1⟩)
  · have B1 := hide (hk1.1 _ _ (unhide B1))
    have B2 := hide (hk1.2 _ _ (unhide B2))
    clear hk1
    obtain ⟨f2, t2, a2, c2, hy2, hR2⟩ := hY [x] y W1 hJ1 (by simp)
    dsimp only [encs2] at hy2
    gi_wp2_with (first | (with_reducible refine at_listIn ?_; refine ldMidIn _ rfl rfl rfl (range_y (unhide B1)) ?_) | (with_reducible refine at_listIn ?_; refine ldMidIn _ rfl rfl rfl (range_y (unhide B2)) ?_))
    refine hR2.mono ?_
    clear hR2 hy2
    rintro e W2 (⟨rfl, hJ2, hk2⟩ | ⟨rfl, hx2⟩)
    · have B1 := hide (hk2.1 _ _ (unhide B1))
      have B2 := hide (hk2.2 _ _ (unhide B2))
      clear hk2
      obtain ⟨f3, t3, a3, c3, hy3, hR3⟩ := hY [x, y] z W2 hJ2 (by simp)
      dsimp only [encs2] at hy3
      gi_wp2_with (first | (with_reducible refine at_listIn ?_; refine ldMidIn _ rfl rfl rfl (range_z (unhide B1)) ?_) | (with_reducible refine at_listIn ?_; refine ldMidIn _ rfl rfl rfl (range_z (unhide B2)) ?_))
      refine hR3.mono ?_
      clear hR3 hy3
      rintro e W3 (⟨rfl, hJ3, hk3⟩ | ⟨rfl, hx3⟩)
      · gi_wp2
        go_end0
        exact ⟨⟨_, rfl⟩, .inl ⟨_, rfl, hJ3⟩⟩
      · gi_wp2
        go_end0
        exact ⟨⟨_, rfl⟩, .inr ⟨_, ⟨[], rfl⟩, hx3⟩⟩
    · gi_wp2
      go_end0
      exact ⟨⟨_, rfl⟩, .inr ⟨_, ⟨[z], rfl⟩, hx2⟩⟩
  · gi_wp2
    refine ⟨fun _ h => (by cases h), ?_⟩
    gi_wp2
    go_end0
    exact ⟨⟨_, rfl⟩, .inr ⟨_, ⟨[y, z], rfl⟩, hx1⟩⟩

/-- The sum of products of what came, where all fits. -/
def runA : List Pr2 → Option Int := List.foldl (fun s p => s.bind fun t => if fit (p.1.1 * p.1.2) && fit (t + p.1.1 * p.1.2) then some (t + p.1.1 * p.1.2) else none) (some 0)
theorem runA_snoc (l : List Pr2) (p : Pr2) : runA (l ++ [p]) = (runA l).bind fun t => if fit (p.1.1 * p.1.2) && fit (t + p.1.1 * p.1.2) then some (t + p.1.1 * p.1.2) else none := by simp [runA]
theorem runA_none {l m : List Pr2} (h : runA l = none) (hp : l <+: m) : runA m = none := by
  obtain ⟨r, rfl⟩ := hp
  unfold runA at *
  rw [List.foldl_append, h]
  clear h
  induction r with
  | nil => rfl
  | cons p r ih => exact ih

end Go.Proofs.YtnemedgdhojhdaaGreat

namespace Go.Proofs.YtnemedgdhojhdaaGreat
open Go.RowKit
set_option maxRecDepth 4000
set_option linter.unusedVariables false
attribute [local go_sem] Oper.semAt_some

theorem iBool : (Tryz.prog.info? 4).map (·.size) = some 1 := by kernel_rfl
/-- A truth into its block. -/
theorem stB {ops : Array Oper} {rest : List Oper} {o : Oper} {a : Act} {w : World} {Q : Exit → Act → World → Prop} {g : Nat} {t : TypeId} {b0 b : Bool} (h0 : Blk w g t #[.bool b0]) (x y : Operand) (ho : o.op = .store 4 x y) (hgd : o.guard = none) (hd : o.dst = none) (hx : a.eval x = ptr g) (hy : a.eval y = .bool b)
    (h : wpList Tryz.prog ops Q rest a (w.setRow g #[.bool b])) : wpList Tryz.prog ops Q (o :: rest) a w :=
  wpList_store_oneTo hgd 4 x y ho hd g (.bool b) hx hy rfl t (.bool b0) h0 iBool h
/-- A number and a truth out of their blocks, behind the rounds' block is shut. -/
theorem resWB {fn : Func} {p q : Tmp} {tmps : Array Value} {w : World} {n g h : Nat} {b : Bool} {t1 t2 : TypeId} (b1 : Blk w g t1 (cells8 n)) (b2 : Blk w h t2 #[.bool b]) (hf : fn.results = #[.cell p 75, .cell q 4]) (hp : tmps.getD p undef = ptr g) (hq : tmps.getD q undef = ptr h) :
    (results fn tmps).run Tryz.prog w = .ok (.tuple #[.agg (cells8 n), .bool b]) w := by
  have hp' : tmps[p]?.getD undef = .pointer (some ⟨g, 0, none⟩) := by simpa using hp
  have hq' : tmps[q]?.getD undef = .pointer (some ⟨h, 0, none⟩) := by simpa using hq
  have hc : w.cell? ⟨h, 0, none⟩ = some (.bool b) := by rw [b2.cell 0]; rfl
  simp [results, hf, hp', hq', asAddr, run_loadVar_row w g t1 75 (cells8 n) (0, 0) _ b1 Tryz.underlying75 rfl iWide, Result.andThen]
  go_simp

theorem enc0 : cells8 (enc 0) = z8 := by
  have h : enc 0 = 0 := enc_nat (n := 0) M_pos
  rw [h]
  exact cells8_0
theorem z8_size (n : Nat) : z8.size = (cells8 n).size := rfl

set_option maxRecDepth 100000 in
set_option maxHeartbeats 4000000 in
theorem along_core (x y z : Pr2) (px py pz : Int) (w : World) (hS : Hid (Ans 202 #[.agg (v3 px py pz)] (.agg (c24 (enc x.1.2) (enc y.1.2) (enc z.1.2))))) :
    Calls Tryz.prog 207 #[.agg (c24 (enc x.1.1) (enc y.1.1) (enc z.1.1)), .agg (v3 px py pz)] w fun e w' =>
      e = .returned (.tuple #[.agg (cells8 (enc ((runA [x, y, z]).getD 0))), .bool (runA [x, y, z]).isSome]) ∧ Below w.heap.size w w' := by
  refine (callsIn_wide (n := 5)).1 (callsIn_of_wp_marks Tryz.func207 rfl trivial (wpIn_wide.2 ?_) rfl)
  simp only [Tryz.ntmps207, List.size_toArray, List.length_cons, List.length_nil, Nat.reduceAdd, Nat.reduceSub, Array.replicate_succ, Array.replicate_zero, List.push_toArray, List.append_toArray, List.nil_append, List.cons_append]
  go_upto_region 2 with fail
  rename_i Q' K1 k1 K0 k0
  have D := hide ((((((Gen.start w).push 121 (c24 (enc x.1.1) (enc y.1.1) (enc z.1.1))).push 64 (v3 px py pz)).push 75 z8).push 4 #[.bool false]).push 75 z8)
  simp only [szA] at D
  refine region_walk (S := Gen w _) (l := [0, 1, 2, 3]) (t := [2, 3]) (by kernel_rfl) (by kernel_rfl) (by kernel_rfl) (by kernel_rfl) (by kernel_rfl) (by kernel_rfl) (by kernel_rfl) (by kernel_rfl) (unhide D).drew ?_
  have D0 := (unhide D).drew
  clear D
  refine walk_read (v := .agg (c24 (enc x.1.1) (enc y.1.1) (enc z.1.1))) rfl rfl rfl (fun u hS => exec_ldG hS rSpan _ rfl rfl (by repeat (first | exact List.mem_cons_self | apply List.mem_cons_of_mem)) rfl) ?_
  go_simp
  refine walk_read (v := .agg (v3 px py pz)) rfl rfl rfl (fun u hS => exec_ldG hS rPoint _ rfl rfl (by repeat (first | exact List.mem_cons_self | apply List.mem_cons_of_mem)) rfl) ?_
  go_simp
  refine walk_call (f := 202) (args := #[.agg (v3 px py pz)]) rfl rfl rfl (by go_simp) ?_
  refine (unhide hS _).mono fun e w1 ⟨he, hb⟩ => ?_
  have D1 := D0.keep hb
  refine ⟨_, he, D1, ?_⟩
  clear hb he D0
  go_simp
  refine walk_call (f := 210) (args := #[.agg (c24 (enc x.1.1) (enc y.1.1) (enc z.1.1)), .agg (c24 (enc x.1.2) (enc y.1.2) (enc z.1.2))]) rfl rfl rfl (by go_simp) ?_
  refine (beside_core _ _ _ _ _ _ w1).mono fun e w2 ⟨he, b1, b2, hb⟩ => ?_
  have D2 := D1.keep hb
  refine ⟨_, he, D2, ?_⟩
  have hs1 : w.heap.size + 1 + 1 + 1 + 1 < w1.heap.size := (D1.blk (g := w.heap.size + 1 + 1 + 1 + 1) (by repeat (first | exact List.mem_cons_self | apply List.mem_cons_of_mem))).lt
  have hs2 : w1.heap.size + 1 < w2.heap.size := b2.lt
  clear hb he D1
  have D := hide D2
  have B1 := hide b1
  have B2 := hide b2
  clear D2 b1 b2
  go_simp
  refine walk_end ?_
  refine k0 _ _ ((wpIn_wide (n := 5)).1 (wpIn_block ?_))
  refine wpIn_rangeFunc_ownH rfl (by decide) (gf := 211) (lb := #[ptr w1.heap.size, ptr (w1.heap.size + 1)]) rfl trivial (enters_of Tryz.func211 (by kernel_rfl) rfl)
    (beside_stops x y z w1.heap.size (w1.heap.size + 1) w2 B1 B2 4 (by decide)) keeps2_t (keeps2_b (by omega) (by omega)) (Below.refl _ _) (fun _ => rfl)
    (fun pre W => ∃ t, runA pre = some t ∧ Fit t ∧ Gen w [(w.heap.size + 1 + 1 + 1 + 1, 75, cells8 (enc t)), (w.heap.size + 1 + 1 + 1, 4, #[.bool false]), (w.heap.size + 1 + 1, 75, z8)] W)
    (fun c pre W => c = .ret ∧ runA pre = none ∧ Gen w [(w.heap.size + 1 + 1 + 1, 4, #[.bool false]), (w.heap.size + 1 + 1, 75, cells8 0)] W)
    (fun s A B row ⟨t, h1, h2, h3⟩ hg hr => ⟨t, h1, h2, gen_own (f := fun (_ : Unit) => _) (by omega) () A B row h3 hg hr⟩)
    (fun c s A B row ⟨h1, h2, h3⟩ hg hr => ⟨h1, h2, gen_own (f := fun (_ : Unit) => _) (by omega) () A B row h3 hg hr⟩)
    ⟨0, rfl, fit_zero, ⟨fun p hp => by
      simp only [List.mem_cons, List.not_mem_nil, or_false] at hp
      rcases hp with rfl | rfl | rfl
      · rw [enc0]
        exact (unhide D).blk (by repeat (first | exact List.mem_cons_self | apply List.mem_cons_of_mem))
      · exact (unhide D).blk (by repeat (first | exact List.mem_cons_self | apply List.mem_cons_of_mem))
      · exact (unhide D).blk (by repeat (first | exact List.mem_cons_self | apply List.mem_cons_of_mem)), (unhide D).o⟩⟩
    (fun p a' W => ∃ bx b_y, Blk W bx 75 (cells8 (enc p.1.1)) ∧ Blk W b_y 75 (cells8 (enc p.1.2)) ∧ a' = { tmps := #[.agg (c24 (enc x.1.1) (enc y.1.1) (enc z.1.1)), .agg (v3 px py pz), ptr w.heap.size, ptr (w.heap.size + 1), ptr (w.heap.size + 1 + 1), ptr (w.heap.size + 1 + 1 + 1), ptr (w.heap.size + 1 + 1 + 1 + 1), ptr bx, ptr b_y, undef, undef, .agg (c24 (enc x.1.1) (enc y.1.1) (enc z.1.1)), .agg (v3 px py pz), .agg (c24 (enc x.1.2) (enc y.1.2) (enc z.1.2)), .func (Fn.func 211) #[] #[ptr w1.heap.size, ptr (w1.heap.size + 1)], .agg (cells8 (enc p.1.1)), .agg (cells8 (enc p.1.2)), undef, undef, undef, undef, undef, undef, undef, undef, undef, undef, undef, undef, undef, undef, undef, undef, undef, undef, undef], defers := [] })
    (fun p a' _ A B row ⟨bx, b_y, h1, h2, h3⟩ hg hr => ⟨bx, b_y, h1.turned hg (fun r e => (hr r e).2), h2.turned hg (fun r e => (hr r e).2), h3⟩)
    ?assign ?body ?done ?stop
  case assign =>
    rintro l pre p W K ⟨t, h1, h2, h3⟩ hK
    clear D B1 B2
    have D := hide (Gen.start W)
    refine wpIn_seq (round_region rfl (fun ⟨_, _, h⟩ => h) ?_)
    go_wp2_with (first | (with_reducible refine at_list ?_; refine stG (unhide D) rWide _ _ rfl rfl rfl rfl rfl rfl (cells8_one _) ?_; intro D'; have D := hide D'; clear D'))
    generalize W.alloc (.cells (cells8 (enc p.1.1)) 75) = W2 at D ⊢
    refine round_region rfl (fun ⟨_, _, h⟩ => h) ?_
    go_wp2_with (first | (with_reducible refine at_list ?_; refine stG (unhide D) rWide _ _ rfl rfl rfl rfl rfl rfl (cells8_one _) ?_; intro D'; have D := hide D'; clear D'))
    have hb := (unhide D).o
    exact hK _ _ (Below.keepsFrom hb) (keeps2_below hb) ⟨t, h1, h2, h3.keep hb⟩ ⟨_, _, (unhide D).blk (by repeat (first | exact List.mem_cons_self | apply List.mem_cons_of_mem)), (unhide D).blk (by repeat (first | exact List.mem_cons_self | apply List.mem_cons_of_mem)), rfl⟩
  case body =>
    rintro l pre p a' W _ _ ⟨t, h1, h2, h3⟩ ⟨bx, b_y, hbx, hby, rfl⟩ _
    clear D B1 B2
    have D : Hid (Gen W [(w.heap.size + 1 + 1 + 1 + 1, 75, cells8 (enc t)), (w.heap.size + 1 + 1 + 1, 4, #[.bool false]), (w.heap.size + 1 + 1, 75, z8), (bx, 75, cells8 (enc p.1.1)), (b_y, 75, cells8 (enc p.1.2))] W) := ⟨fun q hq => by
      simp only [List.mem_cons, List.not_mem_nil, or_false] at hq
      rcases hq with rfl | rfl | rfl | rfl | rfl
      · exact h3.blk (by repeat (first | exact List.mem_cons_self | apply List.mem_cons_of_mem))
      · exact h3.blk (by repeat (first | exact List.mem_cons_self | apply List.mem_cons_of_mem))
      · exact h3.blk (by repeat (first | exact List.mem_cons_self | apply List.mem_cons_of_mem))
      · exact hbx
      · exact hby, Below.refl _ _⟩
    clear hbx hby
    have hM := hide (fun u => MulZ p.1.1 p.1.2 p.2.1 p.2.2 u)
    refine wpIn_block (wpIn_seq (round_region rfl (fun ⟨_, _, h⟩ => h) ?_))
    cases hf : fit (p.1.1 * p.1.2)
    · rw [toldZ_not hf] at hM
      go_wp2_with (first | (with_reducible refine at_list ?_; apply ldG (unhide D) rWide _ rfl rfl rfl (by repeat (first | exact List.mem_cons_self | apply List.mem_cons_of_mem)) rfl) | (go_at_call 126; with_reducible refine (unhide hM _).mono ?_; rintro e w' ⟨he, hb⟩; subst he; have D := hide ((unhide D).keep hb); clear hb) | (with_reducible refine at_list ?_; refine stG (unhide D) rWide _ _ rfl rfl rfl rfl rfl rfl (cells8_one _) ?_; intro D'; have D := hide D'; clear D'))
      refine wpIn_seq (wpIn_seq (round_region rfl (fun ⟨_, _, h⟩ => h) ?_))
      go_wp2
      refine wpIn_cond_true rfl ?_
      refine wpIn_seq (round_region rfl (fun ⟨_, _, h⟩ => h) ?_)
      refine bd0 75 rfl rfl bWide0 ?_
      have H4 := hide ((unhide D).blk (g := w.heap.size + 1 + 1) (by repeat (first | exact List.mem_cons_self | apply List.mem_cons_of_mem)))
      have H5 := hide ((unhide D).blk (g := w.heap.size + 1 + 1 + 1) (by repeat (first | exact List.mem_cons_self | apply List.mem_cons_of_mem)))
      have HB := hide (unhide D).o
      clear D
      refine wpList_store_row rfl 75 _ _ rfl (w.heap.size + 1 + 1) (cells8 0) rfl rfl 75 z8 (unhide H4) iWide (z8_size 0) (cells8_one _) ?_
      refine stB ((unhide H5).rowOther _ (by omega)) _ _ rfl rfl rfl rfl rfl ?_
      refine wpIn_ret ?_
      refine ⟨((Below.keepsFrom (unhide HB)).trans (KeepsFrom.row (unhide H4))).trans (KeepsFrom.row ((unhide H5).rowOther _ (by omega))), rfl, ?_, ⟨fun q hq => ?_, below_row (below_row (h3.o.trans ((unhide HB).mono h3.o.size)) (by omega) _) (by omega) _⟩⟩
      · rw [runA_snoc, h1]
        simp [hf]
      · simp only [List.mem_cons, List.not_mem_nil, or_false] at hq
        rcases hq with rfl | rfl
        · exact ((unhide H5).rowOther _ (by omega)).row _
        · exact ((unhide H4).row _).rowOther _ (by omega)
    · rw [toldZ_fit (Fit.of hf)] at hM
      go_wp2_with (first | (with_reducible refine at_list ?_; apply ldG (unhide D) rWide _ rfl rfl rfl (by repeat (first | exact List.mem_cons_self | apply List.mem_cons_of_mem)) rfl) | (go_at_call 126; with_reducible refine (unhide hM _).mono ?_; rintro e w' ⟨he, hb⟩; subst he; have D := hide ((unhide D).keep hb); clear hb) | (with_reducible refine at_list ?_; refine stG (unhide D) rWide _ _ rfl rfl rfl rfl rfl rfl (cells8_one _) ?_; intro D'; have D := hide D'; clear D'))
      clear hM
      refine wpIn_seq (wpIn_seq (round_region rfl (fun ⟨_, _, h⟩ => h) ?_))
      go_wp2
      refine wpIn_cond_false rfl (wpIn_skip ?_)
      have hA := hide (fun u => AddZ t (p.1.1 * p.1.2) h2 (Fit.of hf) u)
      refine wpIn_seq (round_region rfl (fun ⟨_, _, h⟩ => h) ?_)
      cases ha : fit (t + p.1.1 * p.1.2)
      · rw [toldZ_not ha] at hA
        dsimp only [V] at hA
        generalize enc 0 = n0 at hA
        go_wp2_with (first | (with_reducible refine at_list ?_; apply ldG (unhide D) rWide _ rfl rfl rfl (by repeat (first | exact List.mem_cons_self | apply List.mem_cons_of_mem)) rfl) | (go_at_call 93; with_reducible refine (unhide hA _).mono ?_; rintro e w' ⟨he, hb⟩; subst he; have D := hide ((unhide D).keep hb); clear hb) | (with_reducible refine at_two ?_))
        unfold Stop
        have H4 := hide ((unhide D).blk (g := w.heap.size + 1 + 1) (by repeat (first | exact List.mem_cons_self | apply List.mem_cons_of_mem)))
        have H5 := hide ((unhide D).blk (g := w.heap.size + 1 + 1 + 1) (by repeat (first | exact List.mem_cons_self | apply List.mem_cons_of_mem)))
        have H6 := hide ((unhide D).blk (g := w.heap.size + 1 + 1 + 1 + 1) (by repeat (first | exact List.mem_cons_self | apply List.mem_cons_of_mem)))
        have HB := hide (unhide D).o
        clear D
        refine wpList_store_row rfl 75 _ _ rfl (w.heap.size + 1 + 1 + 1 + 1) (cells8 n0) rfl rfl 75 _ (unhide H6) iWide rfl (cells8_one _) ?_
        go_wp2
        refine wpIn_seq (round_region rfl (fun ⟨_, _, h⟩ => h) ?_)
        go_wp2
        refine wpIn_cond_true rfl ?_
        refine wpIn_seq (round_region rfl (fun ⟨_, _, h⟩ => h) ?_)
        refine bd0 75 rfl rfl bWide0 ?_
        have H4' := hide ((unhide H4).rowOther (g := w.heap.size + 1 + 1) (k := w.heap.size + 1 + 1 + 1 + 1) (cells8 n0) (by omega))
        have H5' := hide ((unhide H5).rowOther (k := w.heap.size + 1 + 1 + 1 + 1) (cells8 n0) (by omega))
        refine wpList_store_row rfl 75 _ _ rfl (w.heap.size + 1 + 1) (cells8 0) rfl rfl 75 z8 (unhide H4') iWide (z8_size 0) (cells8_one _) ?_
        refine stB ((unhide H5').rowOther _ (by omega)) _ _ rfl rfl rfl rfl rfl ?_
        refine wpIn_ret ?_
        refine ⟨(((Below.keepsFrom (unhide HB)).trans (KeepsFrom.row (unhide H6))).trans (KeepsFrom.row (unhide H4'))).trans (KeepsFrom.row ((unhide H5').rowOther _ (by omega))), rfl, ?_, ⟨fun q hq => ?_, below_row (below_row (below_row (h3.o.trans ((unhide HB).mono h3.o.size)) (by omega) _) (by omega) _) (by omega) _⟩⟩
        · rw [runA_snoc, h1]
          simp [hf, ha]
        · simp only [List.mem_cons, List.not_mem_nil, or_false] at hq
          rcases hq with rfl | rfl
          · exact ((unhide H5').rowOther _ (by omega)).row _
          · exact ((unhide H4').row _).rowOther _ (by omega)
      · rw [toldZ_fit (Fit.of ha)] at hA
        go_wp2_with (first | (with_reducible refine at_list ?_; apply ldG (unhide D) rWide _ rfl rfl rfl (by repeat (first | exact List.mem_cons_self | apply List.mem_cons_of_mem)) rfl) | (go_at_call 93; with_reducible refine (unhide hA _).mono ?_; rintro e w' ⟨he, hb⟩; subst he; have D := hide ((unhide D).keep hb); clear hb) | (with_reducible refine at_two ?_))
        unfold Stop
        have H4 := hide ((unhide D).blk (g := w.heap.size + 1 + 1) (by repeat (first | exact List.mem_cons_self | apply List.mem_cons_of_mem)))
        have H5 := hide ((unhide D).blk (g := w.heap.size + 1 + 1 + 1) (by repeat (first | exact List.mem_cons_self | apply List.mem_cons_of_mem)))
        have H6 := hide ((unhide D).blk (g := w.heap.size + 1 + 1 + 1 + 1) (by repeat (first | exact List.mem_cons_self | apply List.mem_cons_of_mem)))
        have HB := hide (unhide D).o
        clear D
        refine wpList_store_row rfl 75 _ _ rfl (w.heap.size + 1 + 1 + 1 + 1) (cells8 (enc (t + p.1.1 * p.1.2))) rfl rfl 75 _ (unhide H6) iWide rfl (cells8_one _) ?_
        go_wp2
        refine wpIn_seq (round_region rfl (fun ⟨_, _, h⟩ => h) ?_)
        go_wp2
        refine wpIn_cond_false rfl (wpIn_skip ?_)
        refine ⟨(Below.keepsFrom (unhide HB)).trans (KeepsFrom.row (unhide H6)), keeps2_t (keeps2_below (unhide HB)) (keeps2_row (by omega) (by omega) _), _, ?_, Fit.of ha, ⟨fun q hq => ?_, below_row (h3.o.trans ((unhide HB).mono h3.o.size)) (by omega) _⟩⟩
        · rw [runA_snoc, h1]
          simp [hf, ha]
        · simp only [List.mem_cons, List.not_mem_nil, or_false] at hq
          rcases hq with rfl | rfl | rfl
          · exact (unhide H6).row _
          · exact (unhide H5).rowOther _ (by omega)
          · exact (unhide H4).rowOther _ (by omega)
  case done =>
    rintro Df xs W hD rfl ⟨t, h1, h2, h3⟩ hK
    clear D B1 B2
    refine k1 _ _ ?_
    have hd := hide hD
    have hk := hide hK
    have H := hide h3
    clear hD hK h3
    refine (wp_seq (wp_region_lit ?_))
    go_wp2_with (first | (with_reducible refine at_list ?_;  apply ldG (unhide H) rWide _ rfl rfl rfl (by repeat (first | exact List.mem_cons_self | apply List.mem_cons_of_mem)) rfl) | (with_reducible refine at_two ?_))
    unfold Stop
    have H4 := hide ((unhide H).blk (g := w.heap.size + 1 + 1) (by repeat (first | exact List.mem_cons_self | apply List.mem_cons_of_mem)))
    have H5 := hide ((unhide H).blk (g := w.heap.size + 1 + 1 + 1) (by repeat (first | exact List.mem_cons_self | apply List.mem_cons_of_mem)))
    refine wpList_store_row rfl 75 _ _ rfl (w.heap.size + 1 + 1) (cells8 (enc t)) rfl rfl 75 z8 (unhide H4) iWide rfl (cells8_one _) ?_
    refine stB ((unhide H5).rowOther _ (by omega)) _ _ rfl rfl rfl rfl rfl ?_
    have h3 : Gen w [(w.heap.size + 1 + 1 + 1, 4, #[.bool true]), (w.heap.size + 1 + 1, 75, cells8 (enc t))] ((W.setRow (w.heap.size + 1 + 1) (cells8 (enc t))).setRow (w.heap.size + 1 + 1 + 1) #[.bool true]) := ⟨fun q hq => by
      simp only [List.mem_cons, List.not_mem_nil, or_false] at hq
      rcases hq with rfl | rfl
      · exact ((unhide H5).rowOther _ (by omega)).row _
      · exact ((unhide H4).row _).rowOther _ (by omega), below_row (below_row (unhide H).o (by omega) _) (by omega) _⟩
    have hK : ((W.setRow (w.heap.size + 1 + 1) (cells8 (enc t))).setRow (w.heap.size + 1 + 1 + 1) #[.bool true]).heap[Df]? = some (.deferred (some [])) := by
      have := unhide hd
      rw [setRow_other _ _ _ _ (by omega), setRow_other _ _ _ _ (by omega)]
      exact unhide hk
    clear H H4 H5 hk
    generalize (W.setRow (w.heap.size + 1 + 1) (cells8 (enc t))).setRow (w.heap.size + 1 + 1 + 1) #[.bool true] = W3 at h3 hK ⊢
    refine wp_ret ?_
    refine ⟨by simp, .inl ⟨_, _, rfl, run_takeDeferred hK, ?_⟩⟩
    have h4 : Gen w _ (W3.putObj Df (.deferred none)) := gen_own (f := fun (_ : Unit) => _) (B := w2.heap.size) (by omega) () W3 _ _ h3 (grownBy_putObj' _ _ _) (fun r e => by cases e; exact ⟨unhide hd, _, hK, rfl⟩)
    refine ⟨_, resWB (h4.blk (by repeat (first | exact List.mem_cons_self | apply List.mem_cons_of_mem))) (h4.blk (by repeat (first | exact List.mem_cons_self | apply List.mem_cons_of_mem))) rfl rfl rfl, ?_, h4.o⟩
    rw [h1]
    rfl
  case stop =>
    rintro Df c pre W hD hp ⟨rfl, h1, h3⟩ hK
    refine wpIn_ret ?_
    refine ⟨by simp, .inl ⟨_, _, rfl, run_takeDeferred hK, ?_⟩⟩
    have h4 : Gen w _ (W.putObj Df (.deferred none)) := gen_own (f := fun (_ : Unit) => _) (B := w2.heap.size) (by omega) () W _ _ h3 (grownBy_putObj' _ _ _) (fun r e => by cases e; exact ⟨hD, _, hK, rfl⟩)
    refine ⟨_, resWB (h4.blk (by repeat (first | exact List.mem_cons_self | apply List.mem_cons_of_mem))) (h4.blk (by repeat (first | exact List.mem_cons_self | apply List.mem_cons_of_mem))) rfl rfl rfl, ?_, h4.o⟩
    rw [runA_none h1 hp]
    rfl

def stp (s : Option Int) (a b : Int) : Option Int := s.bind fun t => if fit (a * b) && fit (t + a * b) then some (t + a * b) else none
/-- How far along: the sum of the products, where all fits. -/
def aloI (x y z p q r : Int) : Option Int := stp (stp (stp (some 0) x p) y q) z r
theorem stp_some {t a b : Int} (h1 : Fit (a * b)) (h2 : Fit (t + a * b)) : stp (some t) a b = some (t + a * b) := by
  unfold stp
  simp [fit_true h1, fit_true h2]
theorem AlongZ (x y z p q r : Int) (hx : Fit x) (hy : Fit y) (hz : Fit z) (hp : I64 p) (hq : I64 q) (hr : I64 r) :
    Ans 207 #[.agg (c24 (enc x) (enc y) (enc z)), .agg (v3 p q r)] (.tuple #[V ((aloI x y z p q r).getD 0), .bool (aloI x y z p q r).isSome]) := fun w =>
  along_core ⟨(x, p), hx, hp.fit⟩ ⟨(y, q), hy, hq.fit⟩ ⟨(z, r), hz, hr.fit⟩ p q r w (SpanZ p q r hp hq hr)
theorem aloI_small {x y z p q r : Int} (hx : Sz 200 x) (hy : Sz 200 y) (hz : Sz 200 z) (hp : I64 p) (hq : I64 q) (hr : I64 r) : aloI x y z p q r = some (x * p + y * q + z * r) := by
  have a1 := hx.mul hp.sz
  have a2 := hy.mul hq.sz
  have a3 := hz.mul hr.sz
  have s1 := a1.add a2
  have s2 := s1.add (a3.mono (show 263 ≤ 264 by decide))
  unfold aloI
  rw [stp_some (a1.fit (by decide)) (by rw [Int.zero_add]; exact a1.fit (by decide)), Int.zero_add, stp_some (a2.fit (by decide)) (s1.fit (by decide)), stp_some (a3.fit (by decide)) (s2.fit (by decide))]
theorem AlongS (x y z p q r : Int) (hx : Sz 200 x) (hy : Sz 200 y) (hz : Sz 200 z) (hp : I64 p) (hq : I64 q) (hr : I64 r) :
    Ans 207 #[.agg (c24 (enc x) (enc y) (enc z)), .agg (v3 p q r)] (.tuple #[V (x * p + y * q + z * r), .bool true]) := by
  have h := AlongZ x y z p q r (hx.fit (by decide)) (hy.fit (by decide)) (hz.fit (by decide)) hp hq hr
  rw [aloI_small hx hy hz hp hq hr] at h
  exact h

end Go.Proofs.YtnemedgdhojhdaaGreat
