/- Package grid: span; the iterator over two spans; Along. -/
import Derived.Test.YtmnaffhlilnlhaaAb
namespace Go.Proofs.Ytmnaffhlilnlhaa
open Go.RowKit
set_option maxRecDepth 4000
set_option linter.unusedVariables false
attribute [local go_sem] Oper.semAt_some

abbrev z24 : Array Value := #[.int .u64 0, .int .u64 0, .int .u64 0, .int .u64 0, .int .u64 0, .int .u64 0, .int .u64 0, .int .u64 0, .int .u64 0, .int .u64 0, .int .u64 0, .int .u64 0, .int .u64 0, .int .u64 0, .int .u64 0, .int .u64 0, .int .u64 0, .int .u64 0, .int .u64 0, .int .u64 0, .int .u64 0, .int .u64 0, .int .u64 0, .int .u64 0]
/-- A walk stops here. -/
def Stop (p : Prop) : Prop := p
theorem at_three {P : Program} {ops : Array Oper} {Q : Exit → Act → World → Prop} {a : Act} {w : World} {o1 o2 o3 : Oper} (h : Stop (wpList P ops Q [o1, o2, o3] a w)) : wpList P ops Q [o1, o2, o3] a w := h

theorem each_Of (x y z : Int) (a b c : Nat) (w : World) (h1 : Hid (Ans 51 #[.int .i64 x] (.agg (cells8 a)))) (h2 : Hid (Ans 51 #[.int .i64 y] (.agg (cells8 b)))) (h3 : Hid (Ans 51 #[.int .i64 z] (.agg (cells8 c)))) :
    Calls Try.prog 90 #[.int .i64 x, .int .i64 y, .int .i64 z, .func (Fn.func 51) #[] #[]] w fun e w' => e = .returned (.tuple #[.agg (cells8 a), .agg (cells8 b), .agg (cells8 c)]) ∧ Below w.heap.size w w' := by
  go_enter Try.func90, Try.ntmps90
  go_upto_region 1 with fail
  have D := hide ((((Gen.start w).push 40 z8).push 40 z8).push 40 z8)
  simp only [szA] at D
  go_wp2_with (first | (go_at_call 51; with_reducible refine (unhide h1 _).mono ?_; rintro e w' ⟨he, hb⟩; subst he; have D := hide ((unhide D).keep hb); clear hb) | (go_at_call 51; with_reducible refine (unhide h2 _).mono ?_; rintro e w' ⟨he, hb⟩; subst he; have D := hide ((unhide D).keep hb); clear hb) | (go_at_call 51; with_reducible refine (unhide h3 _).mono ?_; rintro e w' ⟨he, hb⟩; subst he; have D := hide ((unhide D).keep hb); clear hb) | (with_reducible refine at_three ?_))
  unfold Stop
  refine st3g (unhide D) _ _ _ _ _ _ rfl rfl rfl rfl rfl rfl rfl rfl rfl rfl rfl rfl rfl rfl rfl rfl rfl rfl (B := w.heap.size) (fun _ h => (List.not_mem_nil h).elim) (Nat.le_refl _) (And.intro (by omega) (And.intro (by omega) (by omega))) ?_
  intro u D' _
  have D := hide D'
  clear D'
  go_wp2
  exact res3W ((unhide D).blk (by repeat (first | exact List.mem_cons_self | apply List.mem_cons_of_mem))) ((unhide D).blk (by repeat (first | exact List.mem_cons_self | apply List.mem_cons_of_mem))) ((unhide D).blk (by repeat (first | exact List.mem_cons_self | apply List.mem_cons_of_mem))) rfl rfl rfl rfl rfl ⟨rfl, (unhide D).o⟩

set_option maxHeartbeats 1000000 in
theorem span_core (x y z : Int) (a b c : Nat) (w : World) (hE : Hid (Ans 90 #[.int .i64 x, .int .i64 y, .int .i64 z, .func (Fn.func 51) #[] #[]] (.tuple #[.agg (cells8 a), .agg (cells8 b), .agg (cells8 c)]))) :
    Calls Try.prog 58 #[.agg (v3 x y z)] w fun e w' => e = .returned (.agg (c24 a b c)) ∧ Below w.heap.size w w' := by
  go_enter Try.func58, Try.ntmps58
  go_upto_region 1 with fail
  have D := hide (((Gen.start w).push 26 (v3 x y z)).push 43 z24)
  simp only [szA] at D
  go_upto_region 2 with (first | (with_reducible refine at_list ?_;  apply ldI (unhide D) _ rfl rfl rfl (by repeat (first | exact List.mem_cons_self | apply List.mem_cons_of_mem)) rfl) | (go_at_call 90; with_reducible refine (unhide hE _).mono ?_; rintro e w' ⟨he, hb⟩; subst he; have D := hide ((unhide D).keep hb); clear hb) | (with_reducible refine at_list ?_;  refine st3 (unhide D) _ _ _ _ _ _ rfl rfl rfl rfl rfl rfl rfl rfl rfl rfl rfl rfl rfl rfl rfl ?_; intro u D'; have D := hide D'; clear D'))
  go_wp2_with (first | (with_reducible refine at_list ?_; apply ldG (unhide D) rWide _ rfl rfl rfl (by repeat (first | exact List.mem_cons_self | apply List.mem_cons_of_mem)) rfl) | (with_reducible refine at_list ?_;  refine bdSpan _ _ _ rfl rfl rfl rfl rfl ?_) | (with_reducible refine at_list ?_; apply stGend (unhide D) rSpan _ _ rfl rfl rfl rfl (by repeat (first | exact List.mem_cons_self | apply List.mem_cons_of_mem)) (by omega) rfl rfl (c24_one _ _ _); intro B O))
  exact resG rSpan (unhide B) rfl rfl rfl rfl ⟨rfl, unhide O⟩
theorem SpanZ (x y z : Int) (h1 : I64 x) (h2 : I64 y) (h3 : I64 z) : Ans 58 #[.agg (v3 x y z)] (.agg (c24 (enc x) (enc y) (enc z))) := fun w =>
  span_core x y z _ _ _ w (fun u => each_Of x y z _ _ _ u (fun u => OfZ x h1.1 h1.2 u) (fun u => OfZ y h2.1 h2.2 u) (fun u => OfZ z h3.1 h3.2 u))

theorem beside_core (x y z p q r : Nat) (w : World) :
    Calls Try.prog 64 #[.agg (c24 x y z), .agg (c24 p q r)] w fun e w' => e = .returned (.func (Fn.func 94) #[] #[ptr w.heap.size, ptr (w.heap.size + 1)]) ∧ Blk w' w.heap.size 43 (c24 x y z) ∧ Blk w' (w.heap.size + 1) 43 (c24 p q r) ∧ Below w.heap.size w w' := by
  go_enter Try.func64, Try.ntmps64
  go_upto_region 1 with fail
  have D := hide (((Gen.start w).push 43 (c24 x y z)).push 43 (c24 p q r))
  simp only [szA] at D
  go_wp2
  go_ret
  exact ⟨rfl, (unhide D).blk (by repeat (first | exact List.mem_cons_self | apply List.mem_cons_of_mem)), (unhide D).blk (by repeat (first | exact List.mem_cons_self | apply List.mem_cons_of_mem)), (unhide D).o⟩

/-- Pr2 wide numbers that are told side by side. -/
abbrev Pr2 : Type := { p : Int × Int // Fit p.1 ∧ Fit p.2 }
abbrev encs2 (p : Pr2) : Array Value := #[.agg (cells8 (enc p.1.1)), .agg (cells8 (enc p.1.2))]

section
variable {F : Fence} {n : Nat} {ops : Array Oper} {rest : List Oper} {o : Oper} {a : Act} {w : World} {Q : Exit → Act → World → Prop}
theorem at_listIn {P : Program} {l : List Oper} (h : wpListIn F n P ops Q l a w) : wpListIn F n P ops Q l a w := h
theorem ldMidIn (x : Operand) {g k m : Nat} (ho : o.op = .load 40 x) (hw : Region.wanted o (yielded ops a.tmps) = true) (hx : a.eval x = .pointer (some ⟨g, k, none⟩)) (hr : w.rangeAt g k (cells8 m).toList)
    (h : wpListIn F n Try.prog ops Q rest (a.put o.dst (.agg (cells8 m))) w) : wpListIn F n Try.prog ops Q (o :: rest) a w := by
  unfold wpListIn
  rw [if_pos hw]
  refine ⟨fun f hf => ?_, ?_⟩
  · unfold Oper.about at hf
    rw [ho] at hf
    cases hf
  · rw [Oper.semAt_plain F a.eval o (fun c => by rw [ho]; exact fun h => by cases h), exec_mid x ho hx hr]
    exact h
end

/-- What lies in the blocks g and h is kept. -/
def Keeps2 (g h : Nat) (W W' : World) : Prop := (∀ t cs, Blk W g t cs → Blk W' g t cs) ∧ (∀ t cs, Blk W h t cs → Blk W' h t cs)
theorem keeps2_t {g h : Nat} {A B C : World} (k : Keeps2 g h A B) (j : Keeps2 g h B C) : Keeps2 g h A C := ⟨fun t cs b => j.1 t cs (k.1 t cs b), fun t cs b => j.2 t cs (k.2 t cs b)⟩
theorem keeps2_b {g h B : Nat} (hg : g < B) (hh : h < B) (W : World) (l : Nat) (o o' : Obj) (hl : B ≤ l) (_ : W.heap[l]? = some o) (_ : o.isCells = false) (_ : o.isWalk = false) : Keeps2 g h W (W.putObj l o') :=
  ⟨fun t cs (b : W.heap[g]? = _) => (World.putObj_heap_other (by omega)).trans b, fun t cs (b : W.heap[h]? = _) => (World.putObj_heap_other (by omega)).trans b⟩
theorem keeps2_below {g h : Nat} {W W' : World} (hb : Below W.heap.size W W') : Keeps2 g h W W' := ⟨fun _ _ b => b.below hb b.lt, fun _ _ b => b.below hb b.lt⟩
theorem keeps2_row {g h k : Nat} {W : World} (hg : g ≠ k) (hh : h ≠ k) (cs : Array Value) : Keeps2 g h W (W.setRow k cs) := ⟨fun _ _ b => b.rowOther _ hg, fun _ _ b => b.rowOther _ hh⟩

set_option maxRecDepth 100000 in
set_option maxHeartbeats 2000000 in
theorem beside_stops (x y z : Pr2) (g h : Nat) (w : World) (b1 : Hid (Blk w g 43 (c24 (enc x.1.1) (enc y.1.1) (enc z.1.1)))) (b2 : Hid (Blk w h 43 (c24 (enc x.1.2) (enc y.1.2) (enc z.1.2)))) (n : Nat) (hn1 : 1 ≤ n) :
    SeqStopsK Fence.wide n Try.prog 94 #[ptr g, ptr h] encs2 (Keeps2 g h) (fun l => l = [x, y, z]) (fun l => l <+: [x, y, z]) 3 w := by
  intro l J Jx W hW _ _ hY h0
  have B1 := hide ((unhide b1).below hW (unhide b1).lt)
  have B2 := hide ((unhide b2).below hW (unhide b2).lt)
  clear b1 b2 hW
  refine callsIn_of_wp Try.func94 rfl trivial ?_ rfl
  simp only [Try.ntmps94, List.size_toArray, List.length_cons, List.length_nil, Nat.reduceAdd, Nat.reduceSub, Array.replicate_succ, Array.replicate_zero, List.push_toArray, List.append_toArray, List.nil_append, List.cons_append]
  obtain ⟨f1, t1, a1, c1, hy1, hR1⟩ := hY [] x W h0 (by simp)
  dsimp only [encs2] at hy1
  gi_wp2_with (first | (with_reducible refine at_listIn ?_; refine ldMidIn _ rfl rfl rfl (range_x (unhide B1)) ?_) | (with_reducible refine at_listIn ?_; refine ldMidIn _ rfl rfl rfl (range_x (unhide B2)) ?_))
  refine hR1.mono ?_
  clear hR1 hy1
  rintro e W1 (⟨rfl, hJ1, hk1⟩ | ⟨rfl, hx1⟩)
  · have B1 := hide (hk1.1 _ _ (unhide B1))
    have B2 := hide (hk1.2 _ _ (unhide B2))
    clear hk1
    obtain ⟨f2, t2, a2, c2, hy2, hR2⟩ := hY [x] y W1 hJ1 (by simp)
    dsimp only [encs2] at hy2
    gi_wp2_with (first | (with_reducible refine at_listIn ?_; refine ldMidIn _ rfl rfl rfl (range_y (unhide B1)) ?_) | (with_reducible refine at_listIn ?_; refine ldMidIn _ rfl rfl rfl (range_y (unhide B2)) ?_))
    refine hR2.mono ?_
    clear hR2 hy2
    rintro e W2 (⟨rfl, hJ2, hk2⟩ | ⟨rfl, hx2⟩)
    · have B1 := hide (hk2.1 _ _ (unhide B1))
      have B2 := hide (hk2.2 _ _ (unhide B2))
      clear hk2
      obtain ⟨f3, t3, a3, c3, hy3, hR3⟩ := hY [x, y] z W2 hJ2 (by simp)
      dsimp only [encs2] at hy3
      gi_wp2_with (first | (with_reducible refine at_listIn ?_; refine ldMidIn _ rfl rfl rfl (range_z (unhide B1)) ?_) | (with_reducible refine at_listIn ?_; refine ldMidIn _ rfl rfl rfl (range_z (unhide B2)) ?_))
      refine hR3.mono ?_
      clear hR3 hy3
      rintro e W3 (⟨rfl, hJ3, hk3⟩ | ⟨rfl, hx3⟩)
      · gi_wp2
        go_end0
        exact ⟨⟨_, rfl⟩, .inl ⟨_, rfl, hJ3⟩⟩
      · gi_wp2
        go_end0
        exact ⟨⟨_, rfl⟩, .inr ⟨_, ⟨[], rfl⟩, hx3⟩⟩
    · gi_wp2
      go_end0
      exact ⟨⟨_, rfl⟩, .inr ⟨_, ⟨[z], rfl⟩, hx2⟩⟩
  · gi_wp2
    refine ⟨fun _ h => (by cases h), ?_⟩
    gi_wp2
    go_end0
    exact ⟨⟨_, rfl⟩, .inr ⟨_, ⟨[y, z], rfl⟩, hx1⟩⟩

/-- The sum of products of what came, where all fits. -/
def runA : List Pr2 → Option Int := List.foldl (fun s p => s.bind fun t => if fit (p.1.1 * p.1.2) && fit (t + p.1.1 * p.1.2) then some (t + p.1.1 * p.1.2) else none) (some 0)
theorem runA_snoc (l : List Pr2) (p : Pr2) : runA (l ++ [p]) = (runA l).bind fun t => if fit (p.1.1 * p.1.2) && fit (t + p.1.1 * p.1.2) then some (t + p.1.1 * p.1.2) else none := by simp [runA]
theorem runA_none {l m : List Pr2} (h : runA l = none) (hp : l <+: m) : runA m = none := by
  obtain ⟨r, rfl⟩ := hp
  unfold runA at *
  rw [List.foldl_append, h]
  clear h
  induction r with
  | nil => rfl
  | cons p r ih => exact ih

end Go.Proofs.Ytmnaffhlilnlhaa
