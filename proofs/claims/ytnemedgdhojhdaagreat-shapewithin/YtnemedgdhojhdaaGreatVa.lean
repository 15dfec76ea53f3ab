/- Products of two wide numbers as blocks; package vec: raw, times, less, sum, brought. Package vec: the sum of products. Package vec: sums of products as integers; brought; slices of products. Package vec: Dot. -/
import Derived.Test.YtnemedgdhojhdaaGreatFd
import Derived.Deep.MidRow
import Derived.Great.BuildSlice
import Derived.Test.YtnemedgdhojhdaaGreatRd
namespace Go.Proofs.YtnemedgdhojhdaaGreat
open Go.RowKit
set_option maxRecDepth 4000
set_option linter.unusedVariables false

/-- The cells of a product. -/
def pr (x y : Nat) : List Value := [.int .u64 (lm x 0), .int .u64 (lm x 1), .int .u64 (lm x 2), .int .u64 (lm x 3), .int .u64 (lm x 4), .int .u64 (lm x 5), .int .u64 (lm x 6), .int .u64 (lm x 7), .int .u64 (lm y 0), .int .u64 (lm y 1), .int .u64 (lm y 2), .int .u64 (lm y 3), .int .u64 (lm y 4), .int .u64 (lm y 5), .int .u64 (lm y 6), .int .u64 (lm y 7)]
def c16 (x y : Nat) : Array Value := (pr x y).toArray
theorem pr_len (x y : Nat) : (pr x y).length = 16 := rfl
theorem pr_first (x y j : Nat) (v : Value) (h : (cells8 x).toList[j]? = some v) : (pr x y)[j]? = some v := by
  have hj : j < 8 := by
    have := (List.getElem?_eq_some_iff.1 h).1
    simpa [cells8] using this
  rcases lt8 hj with rfl | rfl | rfl | rfl | rfl | rfl | rfl | rfl <;> exact h
theorem pr_second (x y j : Nat) (v : Value) (h : (cells8 y).toList[j]? = some v) : (pr x y)[8 + j]? = some v := by
  have hj : j < 8 := by
    have := (List.getElem?_eq_some_iff.1 h).1
    simpa [cells8] using this
  rcases lt8 hj with rfl | rfl | rfl | rfl | rfl | rfl | rfl | rfl <;> exact h
theorem c16_one (x y : Nat) : (c16 x y).all (·.oneCell') = true := by
  show ((pr x y).toArray).all (·.oneCell') = true
  simp [pr, Value.oneCell']
theorem iProd : (Tryz.prog.info? 134).map (·.size) = some 16 := by kernel_rfl
theorem bProd (x y : Nat) : Tryz.prog.built 134 [(0, .agg (cells8 x)), (1, .agg (cells8 y))] = some (c16 x y) := by kernel_rfl
theorem exec_build2 {P : Program} {o : Oper} {a : Act} (w : World) (ty : TypeId) (x y : Operand) {u v : Value} {cs : Array Value} (ho : o.op = .build ty #[(0, x), (1, y)]) (hx : a.eval x = u) (hy : a.eval y = v) (hb : P.built ty [(0, u), (1, v)] = some cs) :
    (execOp a.eval o).run P w = .ok (.value (.agg cs)) w := by
  subst hx hy
  unfold execOp
  simp only [ho, Sem.run_bind, run_build w ty (#[(0, x), (1, y)].map fun (i, x) => (i, a.eval x)) cs (by simpa using hb), Result.andThen_ok, Sem.run_pure]

/-- A product in its block. -/
theorem range_of {w : World} {g x y : Nat} {t : TypeId} (h : Blk w g t (c16 x y)) : w.rangeAt g 0 (pr x y) := by
  intro j v hv
  rw [Nat.zero_add, h.cell j]
  unfold c16
  simpa using hv
theorem range_low {w : World} {g o x y : Nat} (h : w.rangeAt g o (pr x y)) : w.rangeAt g o (cells8 x).toList := fun j v hv => h j v (pr_first x y j v hv)
theorem range_high {w : World} {g o x y : Nat} (h : w.rangeAt g o (pr x y)) : w.rangeAt g (o + 8) (cells8 y).toList := fun j v hv => by
  have := h (8 + j) v (pr_second x y j v hv)
  rwa [← Nat.add_assoc] at this
theorem range_keep {w w' : World} {g o : Nat} {cs : List Value} (h : w.rangeAt g o cs) (hb : Below w.heap.size w w') (hg : g < w.heap.size) : w'.rangeAt g o cs := fun j v hv => by rw [hb.cell (p := ⟨g, o + j, none⟩) hg]; exact h j v hv

section
variable {ops : Array Oper} {rest : List Oper} {o : Oper} {a : Act} {w : World} {Q : Exit → Act → World → Prop}
/-- A wide number out of the middle of a block. -/
theorem ldMid (x : Operand) {g k n : Nat} (ho : o.op = .load 75 x) (hgd : o.guard = none) (hx : a.eval x = .pointer (some ⟨g, k, none⟩)) (hr : w.rangeAt g k (cells8 n).toList)
    (h : wpList Tryz.prog ops Q rest (a.put o.dst (.agg (cells8 n))) w) : wpList Tryz.prog ops Q (o :: rest) a w :=
  wpList_load_mid hgd 75 x ho g k hx (cells8 n).toList _ hr Tryz.underlying75 rfl iWide h
theorem ldProd (x : Operand) {g k n m : Nat} (ho : o.op = .load 134 x) (hgd : o.guard = none) (hx : a.eval x = .pointer (some ⟨g, k, none⟩)) (hr : w.rangeAt g k (pr n m))
    (h : wpList Tryz.prog ops Q rest (a.put o.dst (.agg (c16 n m))) w) : wpList Tryz.prog ops Q (o :: rest) a w :=
  wpList_load_mid hgd 134 x ho g k hx (pr n m) _ hr Tryz.underlying134 rfl iProd h
theorem bdProd (x y : Operand) {n m : Nat} (ho : o.op = .build 134 #[(0, x), (1, y)]) (hgd : o.guard = none) (hx : a.eval x = .agg (cells8 n)) (hy : a.eval y = .agg (cells8 m))
    (h : wpList Tryz.prog ops Q rest (a.put o.dst (.agg (c16 n m))) w) : wpList Tryz.prog ops Q (o :: rest) a w := wpList_value hgd (exec_build2 w 134 x y ho hx hy (bProd n m)) h
theorem stProd (x y : Operand) {g n m : Nat} {t : TypeId} {old : Array Value} (hg : Blk w g t old) (hold : old.size = 16) (ho : o.op = .store 134 x y) (hgd : o.guard = none) (hx : a.eval x = .pointer (some ⟨g, 0, none⟩)) (hy : a.eval y = .agg (c16 n m))
    (h : wpList Tryz.prog ops Q rest (a.put o.dst undef) (w.setRow g (c16 n m))) : wpList Tryz.prog ops Q (o :: rest) a w :=
  wpList_store_row hgd 134 x y ho g (c16 n m) hx hy t old hg iProd hold (c16_one n m) h
theorem stProdNew (x y : Operand) {n m : Nat} {t : TypeId} {old : Array Value} (hold : old.size = 16) (ho : o.op = .store 134 x y) (hgd : o.guard = none) (hx : a.eval x = .pointer (some ⟨w.heap.size, 0, none⟩)) (hy : a.eval y = .agg (c16 n m))
    (h : wpList Tryz.prog ops Q rest (a.put o.dst undef) (w.alloc (.cells (c16 n m) t))) : wpList Tryz.prog ops Q (o :: rest) a (w.alloc (.cells old t)) :=
  stProd x y (Blk.new w t old) hold ho hgd hx hy (by rw [World.setRow_alloc_new]; exact h)
end
/-! Blocks of whatever cells. -/
structure Gen (w0 : World) (l : List (Nat × TypeId × Array Value)) (w : World) : Prop where
  at_ : ∀ p ∈ l, Blk w p.1 p.2.1 p.2.2
  o : Below w0.heap.size w0 w
theorem Gen.start (w : World) : Gen w [] w := ⟨fun _ hp => (List.not_mem_nil hp).elim, Below.refl _ _⟩
theorem Gen.keep {w0 w w' : World} {l : List (Nat × TypeId × Array Value)} (d : Gen w0 l w) (hb : Below w.heap.size w w') : Gen w0 l w' :=
  ⟨fun p hp => (d.at_ p hp).below hb (d.at_ p hp).lt, d.o.trans (hb.mono d.o.size)⟩
theorem Gen.push {w0 w : World} {l : List (Nat × TypeId × Array Value)} (d : Gen w0 l w) (t : TypeId) (cs : Array Value) : Gen w0 ((w.heap.size, t, cs) :: l) (w.alloc (.cells cs t)) := by
  refine ⟨fun p hp => ?_, d.o.alloc d.o.size _⟩
  rcases List.mem_cons.1 hp with e | hp
  · subst e; exact Blk.new _ _ _
  · exact (d.at_ p hp).alloc _
theorem Gen.drew {w0 w : World} {l : List (Nat × TypeId × Array Value)} (d : Gen w0 l w) : Gen w0 l w.drew := ⟨fun p hp => (d.at_ p hp).drew, d.o.drew⟩
theorem Gen.blk {w0 w : World} {l : List (Nat × TypeId × Array Value)} {g : Nat} {t : TypeId} {cs : Array Value} (d : Gen w0 l w) (hm : (g, t, cs) ∈ l) : Blk w g t cs := d.at_ (g, t, cs) hm
/-- The first block of the list, filled anew. -/
theorem Gen.set {w0 w : World} {l : List (Nat × TypeId × Array Value)} {g : Nat} {t : TypeId} {cs : Array Value} (d : Gen w0 ((g, t, cs) :: l) w) (hg : w0.heap.size ≤ g) (hl : ∀ p ∈ l, p.1 ≠ g) (cs' : Array Value) : Gen w0 ((g, t, cs') :: l) (w.setRow g cs') := by
  refine ⟨fun p hp => ?_, below_row d.o hg _⟩
  rcases List.mem_cons.1 hp with e | hp
  · subst e; exact (d.at_ _ List.mem_cons_self).row _
  · exact (d.at_ p (List.mem_cons_of_mem _ hp)).rowOther _ (hl p hp)
/-- A type whose values are so many cells. -/
structure Rw (ty : TypeId) (k : Nat) : Prop where
  u : ∃ d, Tryz.prog.underlying ty = some d ∧ d.isRow = true
  i : (Tryz.prog.info? ty).map (·.size) = some k
theorem rWide : Rw 75 8 := ⟨⟨_, Tryz.underlying75, rfl⟩, iWide⟩
theorem rVec : Rw 24 3 := ⟨⟨_, Tryz.underlying24, rfl⟩, by kernel_rfl⟩
theorem rProd : Rw 134 16 := ⟨⟨_, Tryz.underlying134, rfl⟩, iProd⟩
section
variable {ops : Array Oper} {rest : List Oper} {o : Oper} {a : Act} {w w0 : World} {Q : Exit → Act → World → Prop} {l : List (Nat × TypeId × Array Value)} {g : Nat} {t : TypeId} {cs : Array Value}
/-- A whole block, out of it. -/
theorem ldG (d : Gen w0 l w) {ty : TypeId} {k : Nat} (hr : Rw ty k) (x : Operand) (ho : o.op = .load ty x) (hgd : o.guard = none) (hx : a.eval x = ptr g) (hm : (g, t, cs) ∈ l) (hk : cs.size = k)
    (h : wpList Tryz.prog ops Q rest (a.put o.dst (.agg cs)) w) : wpList Tryz.prog ops Q (o :: rest) a w := by
  obtain ⟨⟨dd, hu, hd⟩, hi⟩ := hr
  exact wpList_load_row hgd ty x ho g hx t cs (0, 0) dd (d.blk hm) hu (by cases dd <;> first | rfl | cases hd) (hk ▸ hi) h
/-- Cells into the block that was made last. -/
theorem stG {old : Array Value} (d : Gen w0 l w) {ty : TypeId} {k : Nat} (hr : Rw ty k) (x y : Operand) (ho : o.op = .store ty x y) (hgd : o.guard = none) (hx : a.eval x = ptr w.heap.size) (hy : a.eval y = .agg cs) (hold : old.size = k) (hk : cs.size = k) (h1 : cs.all (·.oneCell') = true)
    (h : Gen w0 ((w.heap.size, t, cs) :: l) (w.alloc (.cells cs t)) → wpList Tryz.prog ops Q rest (a.put o.dst undef) (w.alloc (.cells cs t))) : wpList Tryz.prog ops Q (o :: rest) a (w.alloc (.cells old t)) :=
  wpList_store_row hgd ty x y ho w.heap.size cs hx hy t old (Blk.new w t old) (hk ▸ hr.i) (hold.trans hk.symm) h1 (by rw [World.setRow_alloc_new]; exact h (d.push t cs))
/-- The answer's cells into its block. -/
theorem stGend {old : Array Value} (d : Gen w0 l w) {ty : TypeId} {k : Nat} (hr : Rw ty k) (x y : Operand) (ho : o.op = .store ty x y) (hgd : o.guard = none) (hx : a.eval x = ptr g) (hy : a.eval y = .agg cs) (hm : (g, t, old) ∈ l) (hg : w0.heap.size ≤ g) (hold : old.size = k) (hk : cs.size = k) (h1 : cs.all (·.oneCell') = true)
    (h : Hid (Blk (w.setRow g cs) g t cs) → Hid (Below w0.heap.size w0 (w.setRow g cs)) → wpList Tryz.prog ops Q rest (a.put o.dst undef) (w.setRow g cs)) : wpList Tryz.prog ops Q (o :: rest) a w :=
  wpList_store_row hgd ty x y ho g cs hx hy t old (d.blk hm) (hk ▸ hr.i) (hold.trans hk.symm) h1 (h ((d.blk hm).row _) (below_row d.o hg _))
end
theorem resG {fn : Func} {R : Ending → World → Prop} {p : Tmp} {ty : TypeId} {k : Nat} {a : Act} {w : World} {cs : Array Value} {g : Nat} {t : TypeId} (hr : Rw ty k) (hg : Blk w g t cs) (hk : cs.size = k) (h : fn.results = #[.cell p ty]) (hp : a.tmps.getD p undef = .pointer (some ⟨g, 0, none⟩)) (hdf : a.defers = [])
    (hR : R (.returned (.agg cs)) w) : bodyPost Tryz.prog fn R .ret a w := by
  obtain ⟨⟨dd, hu, hd⟩, hi⟩ := hr
  exact bodyPost_ret (results_cell_row h _ w g t cs (0, 0) dd hp hg hu (by cases dd <;> first | rfl | cases hd) (hk ▸ hi)) hdf hR
abbrev z8 : Array Value := #[.int .u64 0, .int .u64 0, .int .u64 0, .int .u64 0, .int .u64 0, .int .u64 0, .int .u64 0, .int .u64 0]
abbrev z16 : Array Value := #[.int .u64 0, .int .u64 0, .int .u64 0, .int .u64 0, .int .u64 0, .int .u64 0, .int .u64 0, .int .u64 0, .int .u64 0, .int .u64 0, .int .u64 0, .int .u64 0, .int .u64 0, .int .u64 0, .int .u64 0, .int .u64 0]

theorem vraw_core (a : Nat) (x : Int) (w : World) (hO : Hid (Ans 91 #[.int .i64 x] (.agg (cells8 a)))) :
    Calls Tryz.prog 160 #[.int .i64 x] w fun e w' => e = .returned (.agg (cells8 a)) ∧ Below w.heap.size w w' := by
  go_enter Tryz.func160, Tryz.ntmps160
  go_upto_region 1 with fail
  have D := hide ((Gen.start w).push 75 z8)
  go_wp2_with (first | (go_at_call 91; with_reducible refine (unhide hO _).mono ?_; rintro e w' ⟨he, hb⟩; subst he; have D := hide ((unhide D).keep hb); clear hb) | (with_reducible refine at_list ?_; apply stGend (unhide D) rWide _ _ rfl rfl rfl rfl (by repeat (first | exact List.mem_cons_self | apply List.mem_cons_of_mem)) (by omega) rfl rfl (cells8_one _); intro B O))
  exact resG rWide (unhide B) rfl rfl rfl rfl ⟨rfl, unhide O⟩
theorem VRawZ (x : Int) (hx : I64 x) : Ans 160 #[.int .i64 x] (V x) := fun w => vraw_core (enc x) x w (fun u => OfZ x hx.1 hx.2 u)

theorem vtimes_core (a b : Nat) (x y : Int) (w : World) (hX : Hid (Ans 160 #[.int .i64 x] (.agg (cells8 a)))) (hY : Hid (Ans 160 #[.int .i64 y] (.agg (cells8 b)))) :
    Calls Tryz.prog 128 #[.int .i64 x, .int .i64 y] w fun e w' => e = .returned (.agg (c16 a b)) ∧ Below w.heap.size w w' := by
  go_enter Tryz.func128, Tryz.ntmps128
  go_upto_region 1 with fail
  have D := hide ((Gen.start w).push 134 z16)
  go_wp2_with (first | (go_at_call 160; with_reducible refine (unhide hX _).mono ?_; rintro e w' ⟨he, hb⟩; subst he; have D := hide ((unhide D).keep hb); clear hb) | (go_at_call 160; with_reducible refine (unhide hY _).mono ?_; rintro e w' ⟨he, hb⟩; subst he; have D := hide ((unhide D).keep hb); clear hb) | (with_reducible refine at_list ?_;  refine bdProd _ _ rfl rfl rfl rfl ?_) | (with_reducible refine at_list ?_; apply stGend (unhide D) rProd _ _ rfl rfl rfl rfl (by repeat (first | exact List.mem_cons_self | apply List.mem_cons_of_mem)) (by omega) rfl rfl (c16_one _ _); intro B O))
  exact resG rProd (unhide B) rfl rfl rfl rfl ⟨rfl, unhide O⟩
theorem TimesZ (x y : Int) (hx : I64 x) (hy : I64 y) : Ans 128 #[.int .i64 x, .int .i64 y] (.agg (c16 (enc x) (enc y))) := fun w => vtimes_core _ _ x y w (VRawZ x hx) (VRawZ y hy)

end Go.Proofs.YtnemedgdhojhdaaGreat

namespace Go.Proofs.YtnemedgdhojhdaaGreat
open Go.RowKit
set_option maxRecDepth 4000
set_option linter.unusedVariables false

theorem Env.ofTwo {w0 w : World} {g h n m : Nat} (h1 : Blk w g 75 (cells8 n)) (h2 : Blk w h 75 (cells8 m)) (o : Below w0.heap.size w0 w) : Env w0 [(g, n), (h, m)] w := by
  refine ⟨fun p hp => ?_, o⟩
  simp only [List.mem_cons, List.not_mem_nil, or_false] at hp
  rcases hp with rfl | rfl
  · exact h1
  · exact h2

set_option maxHeartbeats 2000000 in
theorem sum_core (n p : Nat) (xs ys ms ss : Nat → Nat) (w : World) (hn : n ≤ 8) (hp : p < w.heap.size) (h0 : Hid (ss 0 = 0))
    (hR : Hid (∀ k, k < n → w.rangeAt p (k * 16) (pr (xs k) (ys k))))
    (hM : Hid (∀ k, k < n → Ans 126 #[.agg (cells8 (xs k)), .agg (cells8 (ys k))] (.tuple #[.agg (cells8 (ms k)), .bool true])))
    (hA : Hid (∀ k, k < n → Ans 93 #[.agg (cells8 (ss k)), .agg (cells8 (ms k))] (.tuple #[.agg (cells8 (ss (k + 1))), .bool true]))) :
    Calls Tryz.prog 127 #[.slice (some ⟨p, 0, none⟩) n n] w fun e w' => e = .returned (.agg (cells8 (ss n))) ∧ Below w.heap.size w w' := by
  go_enter Tryz.func127, Tryz.ntmps127
  go_upto_region 2 with fail
  have D := hide (Env.start w).zero.zero
  simp only [szA] at D
  generalize hgz : ((w.alloc (.cells #[.int .u64 0, .int .u64 0, .int .u64 0, .int .u64 0, .int .u64 0, .int .u64 0, .int .u64 0, .int .u64 0] 75)).alloc (.cells #[.int .u64 0, .int .u64 0, .int .u64 0, .int .u64 0, .int .u64 0, .int .u64 0, .int .u64 0, .int .u64 0] 75)) = w2 at D ⊢
  clear hgz
  go_wp2_with fail
  go_loopw [10] (fun i wr => ∃ k : Nat, k ≤ n ∧ i = .int .i64 k ∧ Hid (Env w [(w.heap.size + 1, ss k), (w.heap.size, 0)] wr)) (fun i _ => n - (intOf i).toNat)
  case atStart => exact ⟨0, by omega, rfl, by rw [unhide h0]; exact D⟩
  case round =>
    obtain ⟨k, hk, rfl, hD⟩ := hrel
    by_cases hkn : k < n
    · have hg : (k : Int) < n := by omega
      have Rk := hide (range_keep (unhide hR k hkn) (unhide hD).o hp)
      have Mk := hide (unhide hM k hkn)
      have Ak := hide (unhide hA k hkn)
      clear hR hM hA D
      have D := hD
      clear hD
      go_upto_region 5 with (first | (with_reducible refine at_list ?_;  refine ldProd _ rfl rfl rfl (unhide Rk) ?_) | (with_reducible refine at_list ?_;  refine stProdNew _ _ rfl rfl rfl rfl rfl ?_))
      have B5 := hide (Blk.new wr 134 (c16 (xs k) (ys k)))
      have D := hide ((unhide D).other (.cells (c16 (xs k) (ys k)) 134))
      go_upto_region 6 with (first | (with_reducible refine at_list ?_;  refine ldMid (.tmp 15) rfl rfl rfl (range_low (range_of (unhide B5))) ?_) | (with_reducible refine at_list ?_;  refine ldMid (.tmp 17) rfl rfl rfl (range_high (range_of (unhide B5))) ?_) | (go_at_call 126; with_reducible refine (unhide Mk _).mono ?_; rintro e w' ⟨he, hb⟩; subst he; have D := hide ((unhide D).keep hb); clear hb) | (with_reducible refine at_list ?_; refine stE (unhide D) _ _ rfl rfl rfl rfl rfl ?_; intro D'; have D := hide D'; clear D'))
      clear B5
      go_upto_region 7 with (first | (with_reducible refine at_list ?_; apply ldE (unhide D) _ rfl rfl rfl (by repeat (first | exact List.mem_cons_self | apply List.mem_cons_of_mem))) | (go_at_call 93; with_reducible refine (unhide Ak _).mono ?_; rintro e w' ⟨he, hb⟩; subst he; have D := hide ((unhide D).keep hb); clear hb) | (with_reducible refine at_list ?_;  have B3 := hide ((unhide D).blk (n := ss k) (by repeat (first | exact List.mem_cons_self | apply List.mem_cons_of_mem))); have B2 := hide ((unhide D).blk (n := 0) (g := w.heap.size) (by repeat (first | exact List.mem_cons_self | apply List.mem_cons_of_mem))); have O3 := hide (unhide D).o; refine st8 (n := ss (k + 1)) 75 (.tmp 3) (.tmp 26) (unhide B3) rfl rfl rfl rfl rfl iWide ?_))
      have D := hide (Env.ofTwo ((unhide B3).row (cells8 (ss (k + 1)))) ((unhide B2).rowOther (cells8 (ss (k + 1))) (by omega)) (below_row (unhide O3) (by omega) (cells8 (ss (k + 1)))))
      go_wp2
      go_roundw
      case rel => exact ⟨k + 1, by omega, by go_num, D⟩
      case measure => simp [intOf]; omega
    · obtain rfl : k = n := by omega
      have D := hD
      clear hD hR hM hA
      go_wp2_with (first | (with_reducible refine at_list ?_; apply ldE (unhide D) _ rfl rfl rfl (by repeat (first | exact List.mem_cons_self | apply List.mem_cons_of_mem))) | (with_reducible refine at_list ?_;  apply stEnd (unhide D) _ _ rfl rfl rfl rfl (by repeat (first | exact List.mem_cons_self | apply List.mem_cons_of_mem)) (by omega); intro B O))
      exact res8 (unhide B) rfl rfl rfl Tryz.underlying75 rfl iWide ⟨rfl, unhide O⟩

end Go.Proofs.YtnemedgdhojhdaaGreat

namespace Go.Proofs.YtnemedgdhojhdaaGreat
open Go.RowKit
set_option maxRecDepth 4000
set_option linter.unusedVariables false

def dotZ (x y : Nat → Int) : Nat → Int
  | 0 => 0
  | k + 1 => dotZ x y k + x k * y k
theorem dotZ_sz {n : Nat} {x y : Nat → Int} (hx : ∀ k, k < n → Sz 70 (x k)) (hy : ∀ k, k < n → Sz 70 (y k)) : ∀ k, k ≤ n → Sz (140 + k) (dotZ x y k)
  | 0, _ => by show Sz 140 0; unfold Sz; exact Nat.zero_le _
  | k + 1, h => by
    have ih := dotZ_sz hx hy k (by omega)
    have h2 : Sz (140 + k) (x k * y k) := ((hx k (by omega)).mul (hy k (by omega))).mono (by omega)
    exact ih.add h2
theorem SumZ (n p : Nat) (x y : Nat → Int) (w : World) (hn : n ≤ 8) (hp : p < w.heap.size) (hx : ∀ k, k < n → Sz 70 (x k)) (hy : ∀ k, k < n → Sz 70 (y k))
    (hR : ∀ k, k < n → w.rangeAt p (k * 16) (pr (enc (x k)) (enc (y k)))) :
    Calls Tryz.prog 127 #[.slice (some ⟨p, 0, none⟩) n n] w fun e w' => e = .returned (V (dotZ x y n)) ∧ Below w.heap.size w w' :=
  sum_core n p (fun k => enc (x k)) (fun k => enc (y k)) (fun k => enc (x k * y k)) (fun k => enc (dotZ x y k)) w hn hp rfl hR
    (fun k hk => mul_told _ _ (hx k hk) (hy k hk) (by decide))
    (fun k hk u => by
      have h1 := dotZ_sz hx hy k (by omega)
      have h2 : Sz (140 + k) (x k * y k) := ((hx k hk).mul (hy k hk)).mono (by omega)
      have t := AddZ (dotZ x y k) (x k * y k) (h1.fit (by omega)) (h2.fit (by omega)) u
      rw [toldZ_fit ((h1.add h2).fit (by omega))] at t
      exact t)

/-! Slices of products. -/
def prs : List (Nat × Nat) → List Value
  | [] => []
  | p :: l => pr p.1 p.2 ++ prs l
theorem prs_get : ∀ (l : List (Nat × Nat)) (k : Nat) (x y : Nat), l[k]? = some (x, y) → ∀ j v, (pr x y)[j]? = some v → (prs l)[k * 16 + j]? = some v
  | [], _, _, _, h => by simp at h
  | p :: l, 0, x, y, h => fun j v hv => by
    simp at h
    subst h
    have hj : j < 16 := by have := (List.getElem?_eq_some_iff.1 hv).1; rwa [pr_len] at this
    show (pr x y ++ prs l)[0 * 16 + j]? = some v
    rw [Nat.zero_mul, Nat.zero_add, List.getElem?_append_left (by rw [pr_len]; exact hj)]
    exact hv
  | p :: l, k + 1, x, y, h => fun j v hv => by
    have ih := prs_get l k x y (by simpa using h) j v hv
    show (pr p.1 p.2 ++ prs l)[(k + 1) * 16 + j]? = some v
    rw [List.getElem?_append_right (by rw [pr_len]; omega), pr_len, show (k + 1) * 16 + j - 16 = k * 16 + j by omega]
    exact ih
theorem prs_range {w : World} {p : Nat} {t : TypeId} {l : List (Nat × Nat)} (hB : Blk w p t (prs l).toArray) {k x y : Nat} (h : l[k]? = some (x, y)) : w.rangeAt p (k * 16) (pr x y) := by
  intro j v hv
  rw [hB.cell]
  have := prs_get l k x y h j v hv
  simpa using this
theorem bs3 (x1 y1 x2 y2 x3 y3 : Nat) (w : World) : (Instr.buildSlice 161 3 #[(0, .agg (c16 x1 y1)), (1, .agg (c16 x2 y2)), (2, .agg (c16 x3 y3))]).run Tryz.prog w = .ok (.slice (some ⟨w.heap.size, 0, none⟩) 3 3) (w.alloc (.cells (prs [(x1, y1), (x2, y2), (x3, y3)]).toArray 134)) := by kernel_rfl

end Go.Proofs.YtnemedgdhojhdaaGreat

namespace Go.Proofs.YtnemedgdhojhdaaGreat
open Go.RowKit
set_option maxRecDepth 4000
set_option linter.unusedVariables false

/-- The cells of a vector. -/
abbrev v3 (x y z : Int) : Array Value := #[.int .i64 x, .int .i64 y, .int .i64 z]
theorem exec_loadF {o : Oper} {a : Act} {w : World} {g i : Nat} {z : Int} (x : Operand) (ho : o.op = .load 22 x) (hx : a.eval x = .pointer (some ⟨g, i, none⟩)) (hc : w.cell? ⟨g, i, none⟩ = some (.int .i64 z)) : (execOp a.eval o).run Tryz.prog w = .ok (.value (.int .i64 z)) w := by
  unfold execOp
  simp only [ho, hx]
  go_simp
theorem Gen.tail {w0 w : World} {p : Nat × TypeId × Array Value} {l : List (Nat × TypeId × Array Value)} (d : Gen w0 (p :: l) w) : Gen w0 l w := ⟨fun q hq => d.at_ q (List.mem_cons_of_mem _ hq), d.o⟩
theorem exec_loadFG {o : Oper} {a : Act} {w w0 : World} {l : List (Nat × TypeId × Array Value)} (d : Gen w0 l w) {g i : Nat} {t : TypeId} {cs : Array Value} {z : Int} (x : Operand) (ho : o.op = .load 22 x) (hx : a.eval x = .pointer (some ⟨g, i, none⟩)) (hm : (g, t, cs) ∈ l) (hc : cs[i]? = some (.int .i64 z)) :
    (execOp a.eval o).run Tryz.prog w = .ok (.value (.int .i64 z)) w := exec_loadF x ho hx ((d.blk hm).cell i ▸ hc)
theorem exec_bs3 {o : Oper} {a : Act} (w : World) (p q r : Operand) {x1 y1 x2 y2 x3 y3 : Nat} (ho : o.op = .buildSlice 161 3 #[(0, p), (1, q), (2, r)]) (hp : a.eval p = .agg (c16 x1 y1)) (hq : a.eval q = .agg (c16 x2 y2)) (hr : a.eval r = .agg (c16 x3 y3)) :
    (execOp a.eval o).run Tryz.prog w = .ok (.value (.slice (some ⟨w.heap.size, 0, none⟩) 3 3)) (w.alloc (.cells (prs [(x1, y1), (x2, y2), (x3, y3)]).toArray 134)) := by
  unfold execOp
  have e : (#[(0, p), (1, q), (2, r)].map fun (i, x) => (i, a.eval x)) = #[(0, .agg (c16 x1 y1)), (1, .agg (c16 x2 y2)), (2, .agg (c16 x3 y3))] := by simp [hp, hq, hr]
  simp only [ho, Sem.run_bind, e, bs3, Result.andThen_ok, Sem.run_pure]

def nth3 (x y z : Int) (k : Nat) : Int := if k = 0 then x else if k = 1 then y else z
end Go.Proofs.YtnemedgdhojhdaaGreat
