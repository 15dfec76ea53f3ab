/- Spans as blocks of three wide numbers; points; blocks that are filled three or two at a time. A range over a function: a round's regions walked as anywhere, blocks across the turn of one that is no cells. -/
import Derived.Test.YtmnaffhlilnlhaaVu
import Derived.RangeFuncNested
import Derived.RangeFuncBound
import Derived.RangeFuncCalls
import Derived.RangeFuncLeaves
import Derived.Shelf.Abstract
import Derived.WalkKit
import Derived.OwnWalkIn
import Derived.TacticsInMore
namespace Go.Proofs.Ytmnaffhlilnlhaa
open Go.RowKit
set_option maxRecDepth 4000
set_option linter.unusedVariables false

/-- The cells of a span. -/
def c24 (x y z : Nat) : Array Value := ((cells8 x).toList ++ ((cells8 y).toList ++ (cells8 z).toList)).toArray
theorem c24_size (x y z : Nat) : (c24 x y z).size = 24 := rfl
theorem c24_one (x y z : Nat) : (c24 x y z).all (·.oneCell') = true := by
  show (((cells8 x).toList ++ ((cells8 y).toList ++ (cells8 z).toList)).toArray).all (·.oneCell') = true
  simp [cells8, Value.oneCell']
theorem c24_get (x y z k : Nat) : (c24 x y z)[k]? = ((cells8 x).toList ++ ((cells8 y).toList ++ (cells8 z).toList))[k]? := by unfold c24; simp
theorem bSpan (x y z : Nat) : Try.prog.built 43 [(0, .agg (cells8 x)), (1, .agg (cells8 y)), (2, .agg (cells8 z))] = some (c24 x y z) := by kernel_rfl
theorem iSpan : (Try.prog.info? 43).map (·.size) = some 24 := by kernel_rfl
theorem rSpan : Rw 43 24 := ⟨⟨_, Try.underlying43, rfl⟩, iSpan⟩
theorem rPoint : Rw 26 3 := ⟨⟨_, Try.underlying26, rfl⟩, by kernel_rfl⟩
theorem cells8_len (x : Nat) : (cells8 x).toList.length = 8 := rfl
theorem range_x {w : World} {g x y z : Nat} {t : TypeId} (h : Blk w g t (c24 x y z)) : w.rangeAt g 0 (cells8 x).toList := by
  intro j v hv
  have hj : j < 8 := by have := (List.getElem?_eq_some_iff.1 hv).1; rwa [cells8_len] at this
  rw [Nat.zero_add, h.cell j, c24_get, List.getElem?_append_left (by rw [cells8_len]; exact hj)]
  exact hv
theorem range_y {w : World} {g x y z : Nat} {t : TypeId} (h : Blk w g t (c24 x y z)) : w.rangeAt g 8 (cells8 y).toList := by
  intro j v hv
  have hj : j < 8 := by have := (List.getElem?_eq_some_iff.1 hv).1; rwa [cells8_len] at this
  rw [h.cell (8 + j), c24_get, List.getElem?_append_right (by rw [cells8_len]; omega), cells8_len, List.getElem?_append_left (by rw [cells8_len]; omega), show 8 + j - 8 = j by omega]
  exact hv
theorem range_z {w : World} {g x y z : Nat} {t : TypeId} (h : Blk w g t (c24 x y z)) : w.rangeAt g 16 (cells8 z).toList := by
  intro j v hv
  have hj : j < 8 := by have := (List.getElem?_eq_some_iff.1 hv).1; rwa [cells8_len] at this
  rw [h.cell (16 + j), c24_get, List.getElem?_append_right (by rw [cells8_len]; omega), cells8_len, List.getElem?_append_right (by rw [cells8_len]; omega), cells8_len, show 16 + j - 8 - 8 = j by omega]
  exact hv
theorem exec_mid {o : Oper} {a : Act} {w : World} {g k n : Nat} (x : Operand) (ho : o.op = .load 40 x) (hx : a.eval x = .pointer (some ⟨g, k, none⟩)) (hr : w.rangeAt g k (cells8 n).toList) : (execOp a.eval o).run Try.prog w = .ok (.value (.agg (cells8 n))) w := by
  unfold execOp
  simp only [ho, hx, Instr.loadAt, Instr.sureAddr, Sem.run_bind, Sem.run_pure, Result.andThen_ok, run_loadVar_mid w g k 40 (cells8 n).toList _ hr Try.underlying40 rfl iWide]
theorem exec_build3 {P : Program} {o : Oper} {a : Act} (w : World) (ty : TypeId) (x y z : Operand) {u v t : Value} {cs : Array Value} (ho : o.op = .build ty #[(0, x), (1, y), (2, z)]) (hx : a.eval x = u) (hy : a.eval y = v) (hz : a.eval z = t) (hb : P.built ty [(0, u), (1, v), (2, t)] = some cs) :
    (execOp a.eval o).run P w = .ok (.value (.agg cs)) w := by
  subst hx hy hz
  unfold execOp
  simp only [ho, Sem.run_bind, run_build w ty (#[(0, x), (1, y), (2, z)].map fun (i, x) => (i, a.eval x)) cs (by simpa using hb), Result.andThen_ok, Sem.run_pure]
/-! Blocks across the turn of one that is no cells. -/
theorem Blk.turned {W W' : World} {g : Nat} {t : TypeId} {cs : Array Value} {row : Option Nat} (h : Blk W g t cs) (hg : W.grownBy W' row) (hr : ∀ r, row = some r → ∃ o : Obj, W.heap[r]? = some o ∧ o.isCells = false) : Blk W' g t cs := by
  have h' : W.heap[g]? = some (.cells cs t (0, 0)) := h
  refine (hg.block g h.lt (fun e => ?_)).trans h'
  obtain ⟨o, ho, hc⟩ := hr g e.symm
  rw [h'] at ho
  cases ho
  cases hc
theorem gen_own {β : Type} {w0 : World} {B : Nat} {f : β → List (Nat × TypeId × Array Value)} (hB : w0.heap.size ≤ B) : OwnFrom B (fun s W => Gen w0 (f s) W) :=
  fun _ _ _ _ hs hg hr => ⟨fun p hp => (hs.at_ p hp).turned hg (fun r e => (hr r e).2), hs.o.grown hg hs.o.size (fun k e => Nat.le_trans hB (hr k e).1)⟩
theorem Below.keepsFrom {B : Nat} {W W' : World} (h : Below W.heap.size W W') : KeepsFrom B W W' :=
  ⟨h.size, fun k o _ hk _ => (h.block k (Array.getElem?_eq_some_iff.1 hk).1).trans hk⟩
theorem KeepsFrom.row {B g : Nat} {W : World} {t : TypeId} {old cs : Array Value} (h : Blk W g t old) : KeepsFrom B W (W.setRow g cs) := by
  refine ⟨by simp, fun k o _ hk ho => ?_⟩
  by_cases e : k = g
  · subst e
    have h' : W.heap[k]? = some (.cells old t (0, 0)) := h
    rw [h'] at hk
    cases hk
    cases ho
  · exact (setRow_other _ _ _ _ e).trans hk
theorem exec_ldG {o : Oper} {a : Act} {w w0 : World} {l : List (Nat × TypeId × Array Value)} (d : Gen w0 l w) {ty : TypeId} {k : Nat} (hr : Rw ty k) {g : Nat} {t : TypeId} {cs : Array Value} (x : Operand) (ho : o.op = .load ty x) (hx : a.eval x = ptr g) (hm : (g, t, cs) ∈ l) (hk : cs.size = k) :
    (execOp a.eval o).run Try.prog w = .ok (.value (.agg cs)) w := by
  obtain ⟨⟨dd, hu, hd⟩, hi⟩ := hr
  unfold execOp
  simp only [ho, hx, Instr.loadAt, Instr.sureAddr, Sem.run_bind, Sem.run_pure, Result.andThen_ok, run_loadVar_row w g t ty cs (0, 0) dd (d.blk hm) hu (by cases dd <;> first | rfl | cases hd) (hk ▸ hi)]
theorem res3W {fn : Func} {R : Ending → World → Prop} {p q r : Tmp} {a : Act} {w : World} {x y z g h k : Nat} {t1 t2 t3 : TypeId} (b1 : Blk w g t1 (cells8 x)) (b2 : Blk w h t2 (cells8 y)) (b3 : Blk w k t3 (cells8 z)) (hf : fn.results = #[.cell p 40, .cell q 40, .cell r 40])
    (hp : a.tmps.getD p undef = ptr g) (hq : a.tmps.getD q undef = ptr h) (hr : a.tmps.getD r undef = ptr k) (hdf : a.defers = []) (hR : R (.returned (.tuple #[.agg (cells8 x), .agg (cells8 y), .agg (cells8 z)])) w) : bodyPost Try.prog fn R .ret a w := by
  refine bodyPost_ret ?_ hdf hR
  have hp' : a.tmps[p]?.getD undef = .pointer (some ⟨g, 0, none⟩) := by simpa using hp
  have hq' : a.tmps[q]?.getD undef = .pointer (some ⟨h, 0, none⟩) := by simpa using hq
  have hr' : a.tmps[r]?.getD undef = .pointer (some ⟨k, 0, none⟩) := by simpa using hr
  simp [results, hf, hp', hq', hr', asAddr, run_loadVar_row w g t1 40 (cells8 x) (0, 0) _ b1 Try.underlying40 rfl iWide, run_loadVar_row w h t2 40 (cells8 y) (0, 0) _ b2 Try.underlying40 rfl iWide, run_loadVar_row w k t3 40 (cells8 z) (0, 0) _ b3 Try.underlying40 rfl iWide, Result.andThen]
section
variable {ops : Array Oper} {rest : List Oper} {o : Oper} {a : Act} {w w0 : World} {Q : Exit → Act → World → Prop} {l : List (Nat × TypeId × Array Value)}
theorem ldX (d : Gen w0 l w) (p : Operand) {g x y z : Nat} {t : TypeId} (ho : o.op = .load 40 p) (hgd : o.guard = none) (hx : a.eval p = .pointer (some ⟨g, 0, none⟩)) (hm : (g, t, c24 x y z) ∈ l)
    (h : wpList Try.prog ops Q rest (a.put o.dst (.agg (cells8 x))) w) : wpList Try.prog ops Q (o :: rest) a w := ldMid p ho hgd hx (range_x (d.blk hm)) h
theorem ldY (d : Gen w0 l w) (p : Operand) {g x y z : Nat} {t : TypeId} (ho : o.op = .load 40 p) (hgd : o.guard = none) (hx : a.eval p = .pointer (some ⟨g, 8, none⟩)) (hm : (g, t, c24 x y z) ∈ l)
    (h : wpList Try.prog ops Q rest (a.put o.dst (.agg (cells8 y))) w) : wpList Try.prog ops Q (o :: rest) a w := ldMid p ho hgd hx (range_y (d.blk hm)) h
theorem ldZ (d : Gen w0 l w) (p : Operand) {g x y z : Nat} {t : TypeId} (ho : o.op = .load 40 p) (hgd : o.guard = none) (hx : a.eval p = .pointer (some ⟨g, 16, none⟩)) (hm : (g, t, c24 x y z) ∈ l)
    (h : wpList Try.prog ops Q rest (a.put o.dst (.agg (cells8 z))) w) : wpList Try.prog ops Q (o :: rest) a w := ldMid p ho hgd hx (range_z (d.blk hm)) h
theorem bdSpan (p q r : Operand) {x y z : Nat} (ho : o.op = .build 43 #[(0, p), (1, q), (2, r)]) (hgd : o.guard = none) (hx : a.eval p = .agg (cells8 x)) (hy : a.eval q = .agg (cells8 y)) (hz : a.eval r = .agg (cells8 z))
    (h : wpList Try.prog ops Q rest (a.put o.dst (.agg (c24 x y z))) w) : wpList Try.prog ops Q (o :: rest) a w := wpList_value hgd (exec_build3 w 43 p q r ho hx hy hz (bSpan x y z)) h
/-- Three numbers into three blocks. -/
theorem st3g {o1 o2 o3 : Oper} {g1 g2 g3 B : Nat} {c1 c2 c3 : Array Value} (d : Gen w0 ((g3, 40, c3) :: (g2, 40, c2) :: (g1, 40, c1) :: l) w) (p q r s t v : Operand) {x y z : Nat} (h1 : o1.op = .store 40 p s) (h2 : o2.op = .store 40 q t) (h3 : o3.op = .store 40 r v) (g1' : o1.guard = none) (g2' : o2.guard = none) (g3' : o3.guard = none)
    (d1 : o1.dst = none) (d2 : o2.dst = none) (d3 : o3.dst = none) (s1 : c1.size = 8) (s2 : c2.size = 8) (s3 : c3.size = 8)
    (e1 : a.eval p = ptr g1) (e2 : a.eval q = ptr g2) (e3 : a.eval r = ptr g3) (e4 : a.eval s = .agg (cells8 x)) (e5 : a.eval t = .agg (cells8 y)) (e6 : a.eval v = .agg (cells8 z))
    (hl : ∀ p ∈ l, p.1 < B) (hB : w0.heap.size ≤ B) (hg : B ≤ g1 ∧ g1 < g2 ∧ g2 < g3)
    (h : ∀ u, Gen w0 ((g3, 40, cells8 z) :: (g2, 40, cells8 y) :: (g1, 40, cells8 x) :: l) u → KeepsFrom 0 w u → wpList Try.prog ops Q rest a u) :
    wpList Try.prog ops Q (o1 :: o2 :: o3 :: rest) a w := by
  obtain ⟨hg1, hg2, hg3⟩ := hg
  have b3 := d.blk (g := g3) (by repeat (first | exact List.mem_cons_self | apply List.mem_cons_of_mem))
  have b2 := d.blk (g := g2) (by repeat (first | exact List.mem_cons_self | apply List.mem_cons_of_mem))
  have b1 := d.blk (g := g1) (by repeat (first | exact List.mem_cons_self | apply List.mem_cons_of_mem))
  have put : ∀ {oo : Oper} (_ : oo.dst = none), a.put oo.dst undef = a := fun e => by rw [e]; rfl
  refine wpList_store_row g1' 40 p s h1 _ (cells8 x) e1 e4 40 c1 b1 iWide s1 (cells8_one _) ?_
  rw [put d1]
  refine wpList_store_row g2' 40 q t h2 _ (cells8 y) e2 e5 40 c2 (b2.rowOther _ (by omega)) iWide s2 (cells8_one _) ?_
  rw [put d2]
  refine wpList_store_row g3' 40 r v h3 _ (cells8 z) e3 e6 40 c3 ((b3.rowOther _ (by omega)).rowOther _ (by omega)) iWide s3 (cells8_one _) ?_
  rw [put d3]
  refine h _ ⟨fun p hp => ?_, below_row (below_row (below_row d.o (by omega) _) (by omega) _) (by omega) _⟩ (((KeepsFrom.row b1).trans (KeepsFrom.row (b2.rowOther _ (by omega)))).trans (KeepsFrom.row ((b3.rowOther _ (by omega)).rowOther _ (by omega))))
  rcases List.mem_cons.1 hp with e | hp
  · subst e; exact ((b3.rowOther _ (by omega)).rowOther _ (by omega)).row _
  rcases List.mem_cons.1 hp with e | hp
  · subst e; exact ((b2.rowOther _ (by omega)).row _).rowOther _ (by omega)
  rcases List.mem_cons.1 hp with e | hp
  · subst e; exact ((b1.row _).rowOther _ (by omega)).rowOther _ (by omega)
  · have := hl p hp
    exact (((d.at_ p (List.mem_cons_of_mem _ (List.mem_cons_of_mem _ (List.mem_cons_of_mem _ hp)))).rowOther _ (by omega)).rowOther _ (by omega)).rowOther _ (by omega)
/-- Three numbers into the three blocks that were made last. -/
theorem st3 {o1 o2 o3 : Oper} (d : Gen w0 l w) (p q r s t v : Operand) {x y z : Nat} (h1 : o1.op = .store 40 p s) (h2 : o2.op = .store 40 q t) (h3 : o3.op = .store 40 r v) (g1 : o1.guard = none) (g2 : o2.guard = none) (g3 : o3.guard = none)
    (d1 : o1.dst = none) (d2 : o2.dst = none) (d3 : o3.dst = none)
    (e1 : a.eval p = ptr w.heap.size) (e2 : a.eval q = ptr (w.heap.size + 1)) (e3 : a.eval r = ptr (w.heap.size + 1 + 1)) (e4 : a.eval s = .agg (cells8 x)) (e5 : a.eval t = .agg (cells8 y)) (e6 : a.eval v = .agg (cells8 z))
    (h : ∀ u, Gen w0 ((w.heap.size + 1 + 1, 40, cells8 z) :: (w.heap.size + 1, 40, cells8 y) :: (w.heap.size, 40, cells8 x) :: l) u → wpList Try.prog ops Q rest a u) :
    wpList Try.prog ops Q (o1 :: o2 :: o3 :: rest) a (((w.alloc (.cells z8 40)).alloc (.cells z8 40)).alloc (.cells z8 40)) := by
  have b1 := ((Blk.new w 40 z8).alloc (.cells z8 40)).alloc (.cells z8 40)
  have b2 := (Blk.new (w.alloc (.cells z8 40)) 40 z8).alloc (.cells z8 40)
  have b3 := Blk.new ((w.alloc (.cells z8 40)).alloc (.cells z8 40)) 40 z8
  simp only [szA] at b2 b3
  have O := d.o
  have hb : ∀ p ∈ l, Blk (((w.alloc (.cells z8 40)).alloc (.cells z8 40)).alloc (.cells z8 40)) p.1 p.2.1 p.2.2 ∧ p.1 < w.heap.size := fun p hp => ⟨(((d.at_ p hp).alloc _).alloc _).alloc _, (d.at_ p hp).lt⟩
  have O3 : Below w0.heap.size w0 (((w.alloc (.cells z8 40)).alloc (.cells z8 40)).alloc (.cells z8 40)) := ((O.alloc O.size _).alloc (by have := O.size; simp; omega) _).alloc (by have := O.size; simp; omega) _
  have hs := O.size
  generalize ((w.alloc (.cells z8 40)).alloc (.cells z8 40)).alloc (.cells z8 40) = u at *
  have put : ∀ {oo : Oper} (_ : oo.dst = none), a.put oo.dst undef = a := fun e => by rw [e]; rfl
  refine wpList_store_row g1 40 p s h1 _ (cells8 x) e1 e4 40 z8 b1 iWide rfl (cells8_one _) ?_
  rw [put d1]
  refine wpList_store_row g2 40 q t h2 _ (cells8 y) e2 e5 40 z8 (b2.rowOther _ (by omega)) iWide rfl (cells8_one _) ?_
  rw [put d2]
  refine wpList_store_row g3 40 r v h3 _ (cells8 z) e3 e6 40 z8 ((b3.rowOther _ (by omega)).rowOther _ (by omega)) iWide rfl (cells8_one _) ?_
  rw [put d3]
  refine h _ ⟨fun p hp => ?_, below_row (below_row (below_row O3 (by omega) _) (by omega) _) (by omega) _⟩
  rcases List.mem_cons.1 hp with e | hp
  · subst e; exact ((b3.rowOther _ (by omega)).rowOther _ (by omega)).row _
  rcases List.mem_cons.1 hp with e | hp
  · subst e; exact ((b2.rowOther _ (by omega)).row _).rowOther _ (by omega)
  rcases List.mem_cons.1 hp with e | hp
  · subst e; exact ((b1.row _).rowOther _ (by omega)).rowOther _ (by omega)
  · obtain ⟨hb1, hb2⟩ := hb p hp
    exact ((hb1.rowOther _ (by omega)).rowOther _ (by omega)).rowOther _ (by omega)
/-- Two numbers into the two blocks that were made last. -/
theorem st2 {o1 o2 : Oper} (d : Gen w0 l w) (p q s t : Operand) {x y : Nat} (h1 : o1.op = .store 40 p s) (h2 : o2.op = .store 40 q t) (g1 : o1.guard = none) (g2 : o2.guard = none)
    (d1 : o1.dst = none) (d2 : o2.dst = none)
    (e1 : a.eval p = ptr w.heap.size) (e2 : a.eval q = ptr (w.heap.size + 1)) (e4 : a.eval s = .agg (cells8 x)) (e5 : a.eval t = .agg (cells8 y))
    (h : ∀ u, Gen w0 ((w.heap.size + 1, 40, cells8 y) :: (w.heap.size, 40, cells8 x) :: l) u → wpList Try.prog ops Q rest a u) :
    wpList Try.prog ops Q (o1 :: o2 :: rest) a ((w.alloc (.cells z8 40)).alloc (.cells z8 40)) := by
  have b1 := (Blk.new w 40 z8).alloc (.cells z8 40)
  have b2 := Blk.new (w.alloc (.cells z8 40)) 40 z8
  simp only [szA] at b2
  have O := d.o
  have hb : ∀ p ∈ l, Blk ((w.alloc (.cells z8 40)).alloc (.cells z8 40)) p.1 p.2.1 p.2.2 ∧ p.1 < w.heap.size := fun p hp => ⟨((d.at_ p hp).alloc _).alloc _, (d.at_ p hp).lt⟩
  have O3 : Below w0.heap.size w0 ((w.alloc (.cells z8 40)).alloc (.cells z8 40)) := (O.alloc O.size _).alloc (by have := O.size; simp; omega) _
  have hs := O.size
  generalize (w.alloc (.cells z8 40)).alloc (.cells z8 40) = u at *
  have put : ∀ {oo : Oper} (_ : oo.dst = none), a.put oo.dst undef = a := fun e => by rw [e]; rfl
  refine wpList_store_row g1 40 p s h1 _ (cells8 x) e1 e4 40 z8 b1 iWide rfl (cells8_one _) ?_
  rw [put d1]
  refine wpList_store_row g2 40 q t h2 _ (cells8 y) e2 e5 40 z8 (b2.rowOther _ (by omega)) iWide rfl (cells8_one _) ?_
  rw [put d2]
  refine h _ ⟨fun p hp => ?_, below_row (below_row O3 (by omega) _) (by omega) _⟩
  rcases List.mem_cons.1 hp with e | hp
  · subst e; exact (b2.rowOther _ (by omega)).row _
  rcases List.mem_cons.1 hp with e | hp
  · subst e; exact (b1.row _).rowOther _ (by omega)
  · obtain ⟨hb1, hb2⟩ := hb p hp
    exact (hb1.rowOther _ (by omega)).rowOther _ (by omega)
end

/-! A round's regions, walked as anywhere. -/
theorem op_round {l₀ n : Nat} {P : Program} {o : Oper} {a : Act} {w : World} {K K' : Act → World → Prop} {Q : Exit → Act → World → Prop} (hnd : ∀ c, o.op ≠ .defer c) (hK : ∀ a w, K a w → K' a w) (h : o.wp P a w K Q) :
    o.wpIn (Fence.wide.inRound l₀) n P a w K' Q := by
  refine ⟨fun _ _ => trivial, ?_⟩
  have hs : o.semAt (Fence.wide.inRound l₀).round a.eval = execOp a.eval o := Oper.semAt_some l₀ _ _ hnd
  rw [hs]
  unfold Oper.wp at h
  revert h
  generalize (execOp a.eval o).run P w = r
  intro h
  match r, h with
  | .ok (.value v) w', h => exact hK _ _ h
  | .ok .skip w', h => exact hK _ _ h
  | .ok (.defer d) w', h => exact hK _ _ h
  | .ok (.enter f args) w', h =>
    refine ⟨fun e => (by cases e), ?_⟩
    have h' : Calls P f args w' _ := h
    refine CallsIn.inRound l₀ (callsIn_wide.2 (h'.mono ?_))
    intro e w'' hh
    cases e with
    | returned v => exact hK _ _ hh
    | panicked c => exact hh
    | outgrown => exact hh
  | .ok (.row row args) w', h =>
    refine ⟨fun e => (by cases e), ?_⟩
    intro c cs _
    obtain ⟨v, w'', hr, hs⟩ := h c cs
    exact ⟨v, w'', hK _ _ hr, stepsIn_wide.2 hs⟩
  | .halt (.panic v) w', h => exact h
theorem list_round {l₀ n : Nat} {P : Program} {ops : Array Oper} {Q : Exit → Act → World → Prop} (hL : ¬ LetsOut Q) :
    ∀ (l : List Oper) (a : Act) (w : World), (l.all fun o => match o.op with | .defer _ => false | _ => true) = true → wpList P ops Q l a w → wpListIn (Fence.wide.inRound l₀) n P ops Q l a w
  | [], _, _, _, h => h
  | o :: rest, a, w, hd, h => by
    rw [List.all_cons, Bool.and_eq_true] at hd
    unfold wpList at h
    unfold wpListIn
    split at h
    · rename_i hw
      rw [if_pos hw]
      rcases h with h | h
      · exact op_round (fun c e => by rw [e] at hd; simp at hd) (fun a w => list_round hL rest a w hd.2) h
      · exact absurd h.2 hL
    · rename_i hw
      rw [if_neg hw]
      exact ⟨fun _ _ => trivial, list_round hL rest _ w hd.2 h⟩
theorem round_region {l₀ n id : Nat} {P : Program} {l : List Oper} {Q : Exit → Act → World → Prop} {a : Act} {w : World} (hd : (l.all fun o => match o.op with | .defer _ => false | _ => true) = true) (hL : ¬ LetsOut Q)
    (h : wpList P l.toArray Q l a w) : (Code.region id l.toArray false).wpIn (Fence.wide.inRound l₀) n P Q a w :=
  wpIn_region_lit (list_round hL l a w hd h)


end Go.Proofs.Ytmnaffhlilnlhaa
