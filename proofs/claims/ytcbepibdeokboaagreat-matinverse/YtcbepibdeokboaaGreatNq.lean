/- Package mat: lists, vectors, the iterators over rows and columns. Package mat: places that are filled one by one. Package mat: rows, columns, Apply, Turned, Add. Matrices held against each other. Package mat: Mul: a range over a function within another. -/
import Derived.Test.YtcbepibdeokboaaGreatBo
import Derived.Test.YtcbepibdeokboaaGreatTj
import Derived.LoopNIn
import Derived.LoopIn
namespace Go.Proofs.YtcbepibdeokboaaGreat
open Go.RowKit
set_option maxRecDepth 4000
set_option linter.unusedVariables false
attribute [local go_sem] Oper.semAt_some

theorem rList : Rw 38 3 := ⟨⟨_, Tryz.underlying38, rfl⟩, by kernel_rfl⟩
theorem rArr3 : Rw 25 9 := ⟨⟨_, Tryz.underlying25, rfl⟩, by kernel_rfl⟩
theorem rMNum : Rw 57 24 := ⟨⟨_, Tryz.underlying57, rfl⟩, by kernel_rfl⟩
/-- Three numbers by their places. -/
abbrev l3 (f : Nat → Int) : Array Value := v3 (f 0) (f 1) (f 2)
theorem l3_one (f : Nat → Int) : (l3 f).all (·.oneCell') = true := by simp [Value.oneCell']
theorem l3_get (f : Nat → Int) {k : Nat} (h : k < 3) : (l3 f)[k]? = some (.int .i64 (f k)) := by
  rcases (show k = 0 ∨ k = 1 ∨ k = 2 by omega) with rfl | rfl | rfl <;> rfl
theorem arrList : Tryz.prog.underlying 38 = some (.array (Tryz.prog.arrayLen 38) (Tryz.prog.elem 38)) := by kernel_rfl
theorem lenList : Tryz.prog.arrayLen 38 = 3 := by kernel_rfl
theorem elList : (Tryz.prog.info? (Tryz.prog.elem 38)).map (·.size) = some 1 := by kernel_rfl
theorem exec_ixl {o : Oper} {a : Act} (w : World) {g k : Nat} (x y : Operand) (hk : k < 3) (ho : o.op = .indexAddr 38 x y) (hx : a.eval x = .pointer (some ⟨g, 0, none⟩)) (hy : a.eval y = .int .i64 k) : (execOp a.eval o).run Tryz.prog w = .ok (.value (.pointer (some ⟨g, k, none⟩))) w := by
  unfold execOp
  simp only [ho, hx, hy, Sem.run_bind, run_indexAt_array w _ _ _ _ arrList, lenList]
  rw [if_pos ⟨by omega, by omega⟩, run_sizeOf elList]
  simp only [Result.andThen_ok, Sem.run_pure, Addr.add_mid, Int.toNat_natCast, Nat.zero_add, Nat.mul_one]
theorem idx_row (X : Nat → Int) {k : Nat} (h : k < 3) (u : World) : (Instr.index 25 (.agg (m9 X)) (.int .i64 k)).run Tryz.prog u = .ok (.agg (v3 (X (k * 3)) (X (k * 3 + 1)) (X (k * 3 + 2)))) u := by
  rcases (show k = 0 ∨ k = 1 ∨ k = 2 by omega) with rfl | rfl | rfl <;> kernel_rfl

theorem listed_core (x y z : Int) (w : World) :
    Calls Tryz.prog 40 #[.agg (v3 x y z)] w fun e w' => e = .returned (.agg (v3 x y z)) ∧ Below w.heap.size w w' := by
  go_enter Tryz.func40, Tryz.ntmps40
  go_upto_region 1 with fail
  have D := hide (((Gen.start w).push 24 (v3 x y z)).push 38 (v3 0 0 0))
  simp only [szA] at D
  go_wp2_with (first | (with_reducible refine at_list ?_; apply ldF (unhide D) _ rfl rfl rfl (by repeat (first | exact List.mem_cons_self | apply List.mem_cons_of_mem)) rfl) | (with_reducible refine at_list ?_;  refine wpList_value rfl (exec_build3 _ 38 _ _ _ rfl rfl rfl rfl (by kernel_rfl)) ?_) | (with_reducible refine at_list ?_; apply stGend (unhide D) rList _ _ rfl rfl rfl rfl (by repeat (first | exact List.mem_cons_self | apply List.mem_cons_of_mem)) (by omega) rfl rfl (v3_one _ _ _); intro B O))
  exact resG rList (unhide B) rfl rfl rfl rfl ⟨rfl, unhide O⟩
theorem vector_core (x y z : Int) (w : World) :
    Calls Tryz.prog 16 #[.agg (v3 x y z)] w fun e w' => e = .returned (.agg (v3 x y z)) ∧ Below w.heap.size w w' := by
  go_enter Tryz.func16, Tryz.ntmps16
  go_upto_region 1 with fail
  have D := hide (((Gen.start w).push 38 (v3 x y z)).push 24 (v3 0 0 0))
  simp only [szA] at D
  go_wp2_with (first | (with_reducible refine at_list ?_; apply ldF (unhide D) _ rfl rfl rfl (by repeat (first | exact List.mem_cons_self | apply List.mem_cons_of_mem)) rfl) | (with_reducible refine at_list ?_;  refine wpList_value rfl (exec_build3 _ 24 _ _ _ rfl rfl rfl rfl (by kernel_rfl)) ?_) | (with_reducible refine at_list ?_; apply stGend (unhide D) rVec _ _ rfl rfl rfl rfl (by repeat (first | exact List.mem_cons_self | apply List.mem_cons_of_mem)) (by omega) rfl rfl (v3_one _ _ _); intro B O))
  exact resG rVec (unhide B) rfl rfl rfl rfl ⟨rfl, unhide O⟩

/-- A place in a row of three. -/
abbrev Thr : Type := { k : Nat // k < 3 }
def up3 (k : Nat) : List Thr := [⟨0, by decide⟩, ⟨1, by decide⟩, ⟨2, by decide⟩].take k
theorem up3_len {k : Nat} (h : k ≤ 3) : (up3 k).length = k := by unfold up3; simp; omega
theorem up3_succ {k : Nat} (h : k < 3) : up3 (k + 1) = up3 k ++ [⟨k, h⟩] := by
  rcases (show k = 0 ∨ k = 1 ∨ k = 2 by omega) with rfl | rfl | rfl <;> rfl
/-- The row of a place. -/
abbrev encR (X : Nat → Int) (k : Thr) : Array Value := #[.int .i64 k.1, .agg (v3 (X (k.1 * 3)) (X (k.1 * 3 + 1)) (X (k.1 * 3 + 2)))]
/-- The column of a place. -/
abbrev encC (X : Nat → Int) (k : Thr) : Array Value := #[.int .i64 k.1, .agg (v3 (X k.1) (X (3 + k.1)) (X (6 + k.1)))]

section
variable {F : Fence} {n : Nat} {ops : Array Oper} {rest : List Oper} {o : Oper} {a : Act} {w w0 : World} {Q : Exit → Act → World → Prop} {l : List (Nat × TypeId × Array Value)}
theorem readIn {v : Value} (hnd : ∀ c, o.op ≠ .defer c) (hw : Region.wanted o (yielded ops a.tmps) = true) (hab : ∀ f, o.about Tryz.prog w a.eval = some f → F.fn f) (hv : (execOp a.eval o).run Tryz.prog w = .ok (.value v) w)
    (h : wpListIn F n Tryz.prog ops Q rest (a.put o.dst v) w) : wpListIn F n Tryz.prog ops Q (o :: rest) a w := by
  unfold wpListIn
  rw [if_pos hw]
  refine ⟨hab, ?_⟩
  rw [Oper.semAt_plain F a.eval o hnd, hv]
  exact h
theorem ldGIn (d : Gen w0 l w) {ty : TypeId} {k : Nat} (hr : Rw ty k) {g : Nat} {t : TypeId} {cs : Array Value} (x : Operand) (ho : o.op = .load ty x) (hw : Region.wanted o (yielded ops a.tmps) = true) (hx : a.eval x = ptr g) (hm : (g, t, cs) ∈ l) (hk : cs.size = k)
    (h : wpListIn F n Tryz.prog ops Q rest (a.put o.dst (.agg cs)) w) : wpListIn F n Tryz.prog ops Q (o :: rest) a w :=
  readIn (fun c => by rw [ho]; exact fun h => by cases h) hw (fun f hf => by unfold Oper.about at hf; rw [ho] at hf; cases hf) (exec_ldG d hr x ho hx hm hk) h
end
theorem Gen.one {u : World} {g0 : Nat} {t0 : TypeId} {c0 : Array Value} (h0 : Blk u g0 t0 c0) : Gen u [(g0, t0, c0)] u := ⟨fun p hp => by
  simp only [List.mem_cons, List.not_mem_nil, or_false] at hp
  subst hp
  exact h0, Below.refl _ u⟩
theorem AbidesFrom.alloc {β : Type} {B : Nat} {J : β → World → Prop} (h : AbidesFrom B J) {s : β} {W : World} (hJ : J s W) (o : Obj) : J s (W.alloc o) := h s W _ none hJ (World.grownBy_alloc W o none) (fun r e => by cases e)

set_option maxRecDepth 100000 in
set_option maxHeartbeats 2000000 in
theorem rows_stops (X : Nat → Int) (g : Nat) (w : World) (b : Hid (Blk w g 27 (m9 X))) (Kp : World → World → Prop) (n : Nat) :
    SeqStopsK Fence.wide n Tryz.prog 35 #[ptr g] (encR X) Kp (fun l => l = up3 3) (fun _ => True) 3 w := by
  intro l J Jx W hW hA _ hY h0
  have D := hide (Gen.one ((unhide b).below hW (unhide b).lt))
  clear b hW
  refine callsIn_of_wp Tryz.func35 rfl trivial (wpIn_wide.2 ?_) rfl
  simp only [Tryz.ntmps35, List.size_toArray, List.length_cons, List.length_nil, Nat.reduceAdd, Nat.reduceSub, Array.replicate_succ, Array.replicate_zero, List.push_toArray, List.append_toArray, List.nil_append, List.cons_append]
  go_wp2_with (first | (with_reducible refine at_list ?_; apply ldG (unhide D) rArr3 _ rfl rfl rfl (by repeat (first | exact List.mem_cons_self | apply List.mem_cons_of_mem)) rfl))
  clear D
  have HY := hide hY
  have HA := hide hA
  clear hY hA
  go_loopw [7] (fun i wr => ∃ k : Nat, k ≤ 3 ∧ i = .int .i64 k ∧ J (up3 k) wr) (fun i _ => 3 - (intOf i).toNat)
  case atStart => exact ⟨0, by omega, rfl, h0⟩
  case round =>
    obtain ⟨k, hk, rfl, hJ⟩ := hrel
    by_cases hkn : k < 3
    · have hg : (k : Int) < 3 := by omega
      have Ik := hide (idx_row X hkn)
      have D := hide (Gen.start wr)
      have hJ2 := hide (AbidesFrom.alloc (unhide HA) hJ (.cells (v3 (X (k * 3)) (X (k * 3 + 1)) (X (k * 3 + 2))) 24))
      go_upto_region 3 with (first | (with_reducible refine at_list ?_;  refine wpList_value rfl (exec_idxT _ (.tmp 6) (.tmp 7) (unhide Ik _) rfl rfl rfl) ?_) | (with_reducible refine at_list ?_; refine stG (unhide D) rVec _ _ rfl rfl rfl rfl rfl rfl (v3_one _ _ _) ?_; intro D'; have D := hide D'; clear D'))
      generalize wr.alloc (.cells (v3 (X (k * 3)) (X (k * 3 + 1)) (X (k * 3 + 2))) 24) = W2 at D hJ2 ⊢
      obtain ⟨fn, tmps, assign, body, hy, hR⟩ := unhide HY _ ⟨k, hkn⟩ W2 (unhide hJ2) (by rw [up3_len hk]; exact hkn)
      dsimp only [encR] at hy
      refine (wpIn_wide (n := n)).1 (wpIn_region_lit ?_)
      gi_wp2_with (first | (with_reducible refine at_listIn ?_; refine ldGIn (unhide D) rVec _ rfl rfl rfl (by repeat (first | exact List.mem_cons_self | apply List.mem_cons_of_mem)) rfl ?_))
      refine ⟨fun h => (by cases h), hR.mono ?_⟩
      rintro e W3 (⟨rfl, hJ3, hk3⟩ | ⟨rfl, hJx3⟩)
      · gi_wp2
        go_wp2
        go_roundw
        case rel => exact ⟨k + 1, by omega, by go_num, by rw [up3_succ hkn]; exact hJ3⟩
        case measure => simp [intOf]; omega
      · gi_wp2
        go_wp2
        refine bodyPost_ret (results_none rfl _ _ _) rfl ?_
        exact ⟨⟨_, rfl⟩, .inr ⟨_, trivial, hJx3⟩⟩
    · have e : k = 3 := by omega
      subst e
      go_wp2
      go_end0
      exact ⟨⟨_, rfl⟩, .inl ⟨_, rfl, hJ⟩⟩

/-- What lies in these blocks is kept. -/
def KeepsG (gs : List Nat) (W W' : World) : Prop := ∀ g ∈ gs, ∀ t cs, Blk W g t cs → Blk W' g t cs
theorem keepsG_t {gs : List Nat} {A B C : World} (k : KeepsG gs A B) (j : KeepsG gs B C) : KeepsG gs A C := fun g hg t cs b => j g hg t cs (k g hg t cs b)
theorem keepsG_b {gs : List Nat} {B : Nat} (hg : ∀ g ∈ gs, g < B) (W : World) (l : Nat) (o o' : Obj) (hl : B ≤ l) (_ : W.heap[l]? = some o) (_ : o.isCells = false) (_ : o.isWalk = false) : KeepsG gs W (W.putObj l o') :=
  fun g h t cs (b : W.heap[g]? = _) => (World.putObj_heap_other (by have := hg g h; omega)).trans b
theorem keepsG_below {gs : List Nat} {W W' : World} (hb : Below W.heap.size W W') : KeepsG gs W W' := fun _ _ _ _ b => b.below hb b.lt
theorem keepsG_cells {gs : List Nat} {b : Nat} (h : ∀ g ∈ gs, g ≠ b) (vs : List Value) (o : Nat) (W : World) : KeepsG gs W (W.setCells b o vs) := fun g hg _ _ bl => Blk.putOther (h g hg) vs o W bl
theorem keepsG_cell {gs : List Nat} {b : Nat} (h : ∀ g ∈ gs, g ≠ b) (o : Nat) (v : Value) (W : World) : KeepsG gs W (W.setCell ⟨b, o, none⟩ v) := fun g hg _ _ bl => bl.other ⟨b, o, none⟩ v (h g hg)

theorem grownBy_drew (w : World) : w.grownBy w.drew none := ⟨rfl, rfl, rfl, Nat.le_refl _, fun _ _ _ => rfl⟩
set_option maxRecDepth 100000 in
set_option maxHeartbeats 4000000 in
theorem columns_stops (X : Nat → Int) (g0 g1 g2 : Nat) (w : World) (b0 : Hid (Blk w g0 38 (v3 (X 0) (X 1) (X 2)))) (b1 : Hid (Blk w g1 38 (v3 (X 3) (X 4) (X 5)))) (b2 : Hid (Blk w g2 38 (v3 (X 6) (X 7) (X 8)))) (n : Nat) :
    SeqStopsK Fence.wide n Tryz.prog 41 #[ptr g0, ptr g1, ptr g2] (encC X) (KeepsG [g0, g1, g2]) (fun l => l = up3 3) (fun _ => True) 3 w := by
  intro l J Jx W hW hA _ hY h0
  have B0 := (unhide b0).below hW (unhide b0).lt
  have B1 := (unhide b1).below hW (unhide b1).lt
  have B2 := (unhide b2).below hW (unhide b2).lt
  clear b0 b1 b2 hW
  refine callsIn_of_wp Tryz.func41 rfl trivial (wpIn_wide.2 ?_) rfl
  simp only [Tryz.ntmps41, List.size_toArray, List.length_cons, List.length_nil, Nat.reduceAdd, Nat.reduceSub, Array.replicate_succ, Array.replicate_zero, List.push_toArray, List.append_toArray, List.nil_append, List.cons_append]
  have HY := hide hY
  have HA := hide hA
  clear hY hA
  have HB := hide (And.intro B0 (And.intro B1 B2))
  clear B0 B1 B2
  go_wp2
  go_loopw [6] (fun i wr => ∃ k : Nat, k ≤ 3 ∧ i = .int .i64 k ∧ J (up3 k) wr ∧ Hid (Blk wr g0 38 (v3 (X 0) (X 1) (X 2)) ∧ Blk wr g1 38 (v3 (X 3) (X 4) (X 5)) ∧ Blk wr g2 38 (v3 (X 6) (X 7) (X 8)))) (fun i _ => 3 - (intOf i).toNat)
  case atStart => exact ⟨0, by omega, rfl, h0, HB⟩
  case round =>
    obtain ⟨k, hk, rfl, hJ, HB⟩ := hrel
    by_cases hkn : k < 3
    · have hg : (k : Int) < 3 := by omega
      have hJ2 := hide ((unhide HA) _ _ _ none hJ (grownBy_drew wr) (fun r e => by cases e))
      go_upto_region 3 with fail
      have hS0 : (fun u => Blk u g0 38 (v3 (X 0) (X 1) (X 2)) ∧ Blk u g1 38 (v3 (X 3) (X 4) (X 5)) ∧ Blk u g2 38 (v3 (X 6) (X 7) (X 8))) wr.drew := ⟨(unhide HB).1.drew, (unhide HB).2.1.drew, (unhide HB).2.2.drew⟩
      refine (wpIn_wide (n := n)).1 (region_walkF (S := fun u => Blk u g0 38 (v3 (X 0) (X 1) (X 2)) ∧ Blk u g1 38 (v3 (X 3) (X 4) (X 5)) ∧ Blk u g2 38 (v3 (X 6) (X 7) (X 8))) (l := [0, 1, 2, 3, 4, 5, 6, 7, 8, 9, 10, 11, 12, 13]) (t := [12]) open_wide_fence (by kernel_rfl) (by kernel_rfl) (by kernel_rfl) (by kernel_rfl) (by kernel_rfl) (by kernel_rfl) (by kernel_rfl) (by kernel_rfl) (by kernel_rfl) (by kernel_rfl) hS0 ?_)
      clear hS0
      have e0 := l3_get X hkn
      have e1 := l3_get (fun j => X (3 + j)) hkn
      have e2 := l3_get (fun j => X (6 + j)) hkn
      refine walkF_read (v := ?_) rfl rfl rfl (fun u hS => by go_simp; rfl) ?_
      go_simp
      refine walkF_read (v := .int .i64 k) rfl rfl rfl (fun u hS => by go_simp) ?_
      go_simp
      refine walkF_read (v := .int .i64 k) rfl rfl rfl (fun u hS => by go_simp) ?_
      go_simp
      refine walkF_read (v := .pointer (some ⟨g0, k, none⟩)) rfl rfl rfl (fun u hS => exec_ixl u (.tmp 1) (.tmp 11) hkn rfl rfl rfl) ?_
      go_simp
      refine walkF_read (v := .int .i64 (X k)) rfl rfl rfl (fun u hS => exec_loadF (.tmp 12) rfl rfl ((hS.1.cell k).trans e0)) ?_
      go_simp
      refine walkF_read (v := .int .i64 k) rfl rfl rfl (fun u hS => by go_simp) ?_
      go_simp
      refine walkF_read (v := .pointer (some ⟨g1, k, none⟩)) rfl rfl rfl (fun u hS => exec_ixl u (.tmp 2) (.tmp 14) hkn rfl rfl rfl) ?_
      go_simp
      refine walkF_read (v := .int .i64 (X (3 + k))) rfl rfl rfl (fun u hS => exec_loadF (.tmp 15) rfl rfl ((hS.2.1.cell k).trans e1)) ?_
      go_simp
      refine walkF_read (v := .int .i64 k) rfl rfl rfl (fun u hS => by go_simp) ?_
      go_simp
      refine walkF_read (v := .pointer (some ⟨g2, k, none⟩)) rfl rfl rfl (fun u hS => exec_ixl u (.tmp 3) (.tmp 17) hkn rfl rfl rfl) ?_
      go_simp
      refine walkF_read (v := .int .i64 (X (6 + k))) rfl rfl rfl (fun u hS => exec_loadF (.tmp 18) rfl rfl ((hS.2.2.cell k).trans e2)) ?_
      go_simp
      refine walkF_read (v := .agg (v3 (X k) (X (3 + k)) (X (6 + k)))) rfl rfl rfl (fun u hS => by go_simp) ?_
      go_simp
      obtain ⟨fn, tmps, assign, body, hy, hR⟩ := unhide HY _ ⟨k, hkn⟩ _ (unhide hJ2) (by rw [up3_len hk]; exact hkn)
      dsimp only [encC] at hy
      refine walkF_round (l := l) (f := fn) (tmps := tmps) (assign := assign) (body := body) rfl rfl rfl (by go_simp; try exact hy) ?_
      refine hR.mono ?_
      have HB2 := hide (And.intro (unhide HB).1.drew (And.intro (unhide HB).2.1.drew (unhide HB).2.2.drew))
      clear e0 e1 e2 HB hJ2 hy hR hJ
      rintro e W3 (⟨rfl, hJ3, hk3⟩ | ⟨rfl, hJx3⟩)
      · have HB3 := hide (And.intro (hk3 g0 (by simp) _ _ (unhide HB2).1) (And.intro (hk3 g1 (by simp) _ _ (unhide HB2).2.1) (hk3 g2 (by simp) _ _ (unhide HB2).2.2)))
        clear hk3 HB2
        refine ⟨_, rfl, fun _ => True, trivial, ?_⟩
        go_simp
        refine walkF_read (v := .bool false) rfl rfl rfl (fun u hS => by go_simp) ?_
        go_simp
        refine walkF_end ?_
        go_wp2
        go_roundw
        case rel => exact ⟨k + 1, by omega, by go_num, by rw [up3_succ hkn]; exact hJ3, HB3⟩
        case measure => simp [intOf]; omega
      · refine ⟨_, rfl, fun _ => True, trivial, ?_⟩
        go_simp
        refine walkF_read (v := .bool true) rfl rfl rfl (fun u hS => by go_simp) ?_
        go_simp
        refine walkF_end ?_
        go_wp2
        refine bodyPost_ret (results_none rfl _ _ _) rfl ?_
        exact ⟨⟨_, rfl⟩, .inr ⟨_, trivial, hJx3⟩⟩
    · have e : k = 3 := by omega
      subst e
      go_wp2
      go_end0
      exact ⟨⟨_, rfl⟩, .inl ⟨_, rfl, hJ⟩⟩

end Go.Proofs.YtcbepibdeokboaaGreat

namespace Go.Proofs.YtcbepibdeokboaaGreat
open Go.RowKit
set_option maxRecDepth 4000
set_option linter.unusedVariables false
attribute [local go_sem] Oper.semAt_some

def has (pre : List Thr) (k : Nat) : Bool := pre.any fun p => p.1 == k
/-- The rows that have come, the others zero. -/
def pf (X : Nat → Int) (pre : List Thr) (j : Nat) : Int := if has pre (j / 3) then X j else 0
/-- The numbers that have come, the others zero. -/
def pl (f : Nat → Int) (pre : List Thr) (j : Nat) : Int := if has pre j then f j else 0
/-- Rows of wide numbers that have come, the others zero. -/
def pn (f : Nat → Nat) (pre : List Thr) (j : Nat) : Nat := if has pre (j / 3) then f j else 0
def ws9 (f : Nat → Nat) : Array Value := ws [f 0, f 1, f 2, f 3, f 4, f 5, f 6, f 7, f 8]
theorem has_snoc (pre : List Thr) (k : Thr) (j : Nat) : has (pre ++ [k]) j = (has pre j || k.1 == j) := by simp [has]
theorem pf_put (X : Nat → Int) (pre : List Thr) (k : Thr) : putC (m9 (pf X pre)) (k.1 * 3) (v3 (X (k.1 * 3)) (X (k.1 * 3 + 1)) (X (k.1 * 3 + 2))).toList = m9 (pf X (pre ++ [k])) := by
  obtain ⟨k, hk⟩ := k
  rcases (show k = 0 ∨ k = 1 ∨ k = 2 by omega) with rfl | rfl | rfl <;> simp [putC, pf, has_snoc]
theorem ws9_put0 (n0 n1 n2 n3 n4 n5 n6 n7 n8 a b c : Nat) : putC (ws [n0, n1, n2, n3, n4, n5, n6, n7, n8]) 0 (ws [a, b, c]).toList = ws [a, b, c, n3, n4, n5, n6, n7, n8] := by kernel_rfl
theorem ws9_put1 (n0 n1 n2 n3 n4 n5 n6 n7 n8 a b c : Nat) : putC (ws [n0, n1, n2, n3, n4, n5, n6, n7, n8]) 24 (ws [a, b, c]).toList = ws [n0, n1, n2, a, b, c, n6, n7, n8] := by kernel_rfl
theorem ws9_put2 (n0 n1 n2 n3 n4 n5 n6 n7 n8 a b c : Nat) : putC (ws [n0, n1, n2, n3, n4, n5, n6, n7, n8]) 48 (ws [a, b, c]).toList = ws [n0, n1, n2, n3, n4, n5, a, b, c] := by kernel_rfl
theorem pn_put (f : Nat → Nat) (pre : List Thr) (k : Thr) : putC (ws9 (pn f pre)) (k.1 * 24) (ws [f (k.1 * 3), f (k.1 * 3 + 1), f (k.1 * 3 + 2)]).toList = ws9 (pn f (pre ++ [k])) := by
  obtain ⟨k, hk⟩ := k
  unfold ws9
  rcases (show k = 0 ∨ k = 1 ∨ k = 2 by omega) with rfl | rfl | rfl
  · have e0 : pn f (pre ++ [⟨0, hk⟩]) 0 = f 0 := by unfold pn; rw [has_snoc]; simp
    have e1 : pn f (pre ++ [⟨0, hk⟩]) 1 = f 1 := by unfold pn; rw [has_snoc]; simp
    have e2 : pn f (pre ++ [⟨0, hk⟩]) 2 = f 2 := by unfold pn; rw [has_snoc]; simp
    have e3 : pn f (pre ++ [⟨0, hk⟩]) 3 = pn f pre 3 := by unfold pn; rw [has_snoc]; simp
    have e4 : pn f (pre ++ [⟨0, hk⟩]) 4 = pn f pre 4 := by unfold pn; rw [has_snoc]; simp
    have e5 : pn f (pre ++ [⟨0, hk⟩]) 5 = pn f pre 5 := by unfold pn; rw [has_snoc]; simp
    have e6 : pn f (pre ++ [⟨0, hk⟩]) 6 = pn f pre 6 := by unfold pn; rw [has_snoc]; simp
    have e7 : pn f (pre ++ [⟨0, hk⟩]) 7 = pn f pre 7 := by unfold pn; rw [has_snoc]; simp
    have e8 : pn f (pre ++ [⟨0, hk⟩]) 8 = pn f pre 8 := by unfold pn; rw [has_snoc]; simp
    rw [e0, e1, e2, e3, e4, e5, e6, e7, e8]
    exact ws9_put0 _ _ _ _ _ _ _ _ _ _ _ _
  · have e0 : pn f (pre ++ [⟨1, hk⟩]) 0 = pn f pre 0 := by unfold pn; rw [has_snoc]; simp
    have e1 : pn f (pre ++ [⟨1, hk⟩]) 1 = pn f pre 1 := by unfold pn; rw [has_snoc]; simp
    have e2 : pn f (pre ++ [⟨1, hk⟩]) 2 = pn f pre 2 := by unfold pn; rw [has_snoc]; simp
    have e3 : pn f (pre ++ [⟨1, hk⟩]) 3 = f 3 := by unfold pn; rw [has_snoc]; simp
    have e4 : pn f (pre ++ [⟨1, hk⟩]) 4 = f 4 := by unfold pn; rw [has_snoc]; simp
    have e5 : pn f (pre ++ [⟨1, hk⟩]) 5 = f 5 := by unfold pn; rw [has_snoc]; simp
    have e6 : pn f (pre ++ [⟨1, hk⟩]) 6 = pn f pre 6 := by unfold pn; rw [has_snoc]; simp
    have e7 : pn f (pre ++ [⟨1, hk⟩]) 7 = pn f pre 7 := by unfold pn; rw [has_snoc]; simp
    have e8 : pn f (pre ++ [⟨1, hk⟩]) 8 = pn f pre 8 := by unfold pn; rw [has_snoc]; simp
    rw [e0, e1, e2, e3, e4, e5, e6, e7, e8]
    exact ws9_put1 _ _ _ _ _ _ _ _ _ _ _ _
  · have e0 : pn f (pre ++ [⟨2, hk⟩]) 0 = pn f pre 0 := by unfold pn; rw [has_snoc]; simp
    have e1 : pn f (pre ++ [⟨2, hk⟩]) 1 = pn f pre 1 := by unfold pn; rw [has_snoc]; simp
    have e2 : pn f (pre ++ [⟨2, hk⟩]) 2 = pn f pre 2 := by unfold pn; rw [has_snoc]; simp
    have e3 : pn f (pre ++ [⟨2, hk⟩]) 3 = pn f pre 3 := by unfold pn; rw [has_snoc]; simp
    have e4 : pn f (pre ++ [⟨2, hk⟩]) 4 = pn f pre 4 := by unfold pn; rw [has_snoc]; simp
    have e5 : pn f (pre ++ [⟨2, hk⟩]) 5 = pn f pre 5 := by unfold pn; rw [has_snoc]; simp
    have e6 : pn f (pre ++ [⟨2, hk⟩]) 6 = f 6 := by unfold pn; rw [has_snoc]; simp
    have e7 : pn f (pre ++ [⟨2, hk⟩]) 7 = f 7 := by unfold pn; rw [has_snoc]; simp
    have e8 : pn f (pre ++ [⟨2, hk⟩]) 8 = f 8 := by unfold pn; rw [has_snoc]; simp
    rw [e0, e1, e2, e3, e4, e5, e6, e7, e8]
    exact ws9_put2 _ _ _ _ _ _ _ _ _ _ _ _
theorem pl_put (f : Nat → Int) (pre : List Thr) (k : Thr) : (l3 (pl f pre)).setIfInBounds k.1 (.int .i64 (f k.1)) = l3 (pl f (pre ++ [k])) := by
  obtain ⟨k, hk⟩ := k
  rcases (show k = 0 ∨ k = 1 ∨ k = 2 by omega) with rfl | rfl | rfl <;> simp [pl, has_snoc]

section
variable {w0 w : World} {l : List (Nat × TypeId × Array Value)} {g : Nat} {t : TypeId} {pre : List Thr}
theorem Gen.setP {X : Nat → Int} (k : Thr) (d : Gen w0 ((g, t, m9 (pf X pre)) :: l) w) (hg : w0.heap.size ≤ g) (hl : ∀ p ∈ l, p.1 ≠ g) : Gen w0 ((g, t, m9 (pf X (pre ++ [k]))) :: l) (w.setCells g (k.1 * 3) (v3 (X (k.1 * 3)) (X (k.1 * 3 + 1)) (X (k.1 * 3 + 2))).toList) := by
  refine ⟨fun p hp => ?_, below_cells hg _ _ _ d.o⟩
  rcases List.mem_cons.1 hp with e | hp
  · subst e
    have h := Blk.putC (v3 (X (k.1 * 3)) (X (k.1 * 3 + 1)) (X (k.1 * 3 + 2))).toList (k.1 * 3) _ _ (d.at_ _ List.mem_cons_self)
    rwa [pf_put] at h
  · exact Blk.putOther (hl p hp) _ _ _ (d.at_ p (List.mem_cons_of_mem _ hp))
theorem Gen.setN {f : Nat → Nat} (k : Thr) (d : Gen w0 ((g, t, ws9 (pn f pre)) :: l) w) (hg : w0.heap.size ≤ g) (hl : ∀ p ∈ l, p.1 ≠ g) : Gen w0 ((g, t, ws9 (pn f (pre ++ [k]))) :: l) (w.setCells g (k.1 * 24) (ws [f (k.1 * 3), f (k.1 * 3 + 1), f (k.1 * 3 + 2)]).toList) := by
  refine ⟨fun p hp => ?_, below_cells hg _ _ _ d.o⟩
  rcases List.mem_cons.1 hp with e | hp
  · subst e
    have h := Blk.putC (ws [f (k.1 * 3), f (k.1 * 3 + 1), f (k.1 * 3 + 2)]).toList (k.1 * 24) _ _ (d.at_ _ List.mem_cons_self)
    rwa [pn_put] at h
  · exact Blk.putOther (hl p hp) _ _ _ (d.at_ p (List.mem_cons_of_mem _ hp))
theorem Gen.setL {f : Nat → Int} (k : Thr) (d : Gen w0 ((g, t, l3 (pl f pre)) :: l) w) (hg : w0.heap.size ≤ g) (hl : ∀ p ∈ l, p.1 ≠ g) : Gen w0 ((g, t, l3 (pl f (pre ++ [k]))) :: l) (w.setCell ⟨g, k.1, none⟩ (.int .i64 (f k.1))) := by
  refine ⟨fun p hp => ?_, d.o.setCell (p := ⟨g, k.1, none⟩) hg _⟩
  rcases List.mem_cons.1 hp with e | hp
  · subst e
    have h := (d.at_ (g, t, l3 (pl f pre)) List.mem_cons_self).set k.1 (.int .i64 (f k.1))
    rwa [pl_put] at h
  · exact (d.at_ p (List.mem_cons_of_mem _ hp)).other ⟨g, k.1, none⟩ _ (hl p hp)
end
/-- The cells from there on lie in a block. -/
theorem there_of {w : World} {g : Nat} {t : TypeId} {cs : Array Value} (h : Blk w g t cs) {o n : Nat} (hs : o + n ≤ cs.size) : w.there g o n := by
  intro j hj
  refine ⟨?_, h.frozen _⟩
  rw [h.cell, Array.getElem?_eq_getElem (by omega)]
  rfl
theorem keepsFrom_cells {B b : Nat} : ∀ (vs : List Value) (o : Nat) (W : World), KeepsFrom B W (W.setCells b o vs)
  | [], _, W => KeepsFrom.refl B W
  | v :: r, o, W => ((KeepsOthers.setCell W ⟨b, o, none⟩ v).from B).trans (keepsFrom_cells r (o + 1) _)
theorem wpList_of_wp {P : Program} {ops : Array Oper} {Q : Exit → Act → World → Prop} {rest : List Oper} {o : Oper} {a : Act} {w : World} (hw : Region.wanted o (yielded ops a.tmps) = true) (h : o.wp P a w (fun a' w' => wpList P ops Q rest a' w') Q) : wpList P ops Q (o :: rest) a w := by
  unfold wpList
  rw [if_pos hw]
  exact .inl h
theorem iFix : (Tryz.prog.info? 22).map (·.size) = some 1 := by kernel_rfl

end Go.Proofs.YtcbepibdeokboaaGreat

namespace Go.Proofs.YtcbepibdeokboaaGreat
open Go.RowKit
set_option maxRecDepth 4000
set_option linter.unusedVariables false
attribute [local go_sem] Oper.semAt_some

theorem rows_core (X : Nat → Int) (w : World) :
    Calls Tryz.prog 14 #[.agg (m9 X)] w fun e w' => e = .returned (.func (Fn.func 35) #[] #[ptr w.heap.size]) ∧ Blk w' w.heap.size 27 (m9 X) ∧ Below w.heap.size w w' := by
  go_enter Tryz.func14, Tryz.ntmps14
  go_upto_region 1 with fail
  have D := hide ((Gen.start w).push 27 (m9 X))
  go_wp2
  go_ret
  exact ⟨rfl, (unhide D).blk (by repeat (first | exact List.mem_cons_self | apply List.mem_cons_of_mem)), (unhide D).o⟩
theorem resG1 {fn : Func} {p : Tmp} {ty : TypeId} {k : Nat} {tmps : Array Value} {w : World} {cs : Array Value} {g : Nat} {t : TypeId} (hr : Rw ty k) (hg : Blk w g t cs) (hk : cs.size = k) (h : fn.results = #[.cell p ty]) (hp : tmps.getD p undef = .pointer (some ⟨g, 0, none⟩)) :
    (results fn tmps).run Tryz.prog w = .ok (.agg cs) w := by
  obtain ⟨⟨dd, hu, hd⟩, hi⟩ := hr
  exact results_cell_row h _ w g t cs (0, 0) dd hp hg hu (by cases dd <;> first | rfl | cases hd) (hk ▸ hi)
theorem at_one {P : Program} {ops : Array Oper} {Q : Exit → Act → World → Prop} {a : Act} {w : World} {o1 : Oper} (h : Stop (wpList P ops Q [o1] a w)) : wpList P ops Q [o1] a w := h
theorem Gen.sub {w0 w : World} {l l' : List (Nat × TypeId × Array Value)} (d : Gen w0 l w) (h : ∀ p ∈ l', p ∈ l) : Gen w0 l' w := ⟨fun p hp => d.at_ p (h p hp), d.o⟩
theorem Gen.more {w0 w : World} {l : List (Nat × TypeId × Array Value)} {g : Nat} {t : TypeId} {cs : Array Value} (d : Gen w0 l w) (b : Blk w g t cs) : Gen w0 ((g, t, cs) :: l) w := ⟨fun p hp => by
  rcases List.mem_cons.1 hp with e | hp
  · subst e; exact b
  · exact d.at_ p hp, d.o⟩
/-- A world, seen from a later start. -/
theorem Gen.since {w0 W w : World} {l : List (Nat × TypeId × Array Value)} (d : Gen w0 l W) (h : Gen W [] w) : Gen W l w := ⟨fun p hp => (d.at_ p hp).below h.o (d.at_ p hp).lt, h.o⟩

/-- A matrix turned over. -/
def tr (X : Nat → Int) (j : Nat) : Int := X (j % 3 * 3 + j / 3)
theorem tr_row (X : Nat → Int) {k : Nat} (h : k < 3) : tr X (k * 3) = X k ∧ tr X (k * 3 + 1) = X (3 + k) ∧ tr X (k * 3 + 2) = X (6 + k) := by
  rcases (show k = 0 ∨ k = 1 ∨ k = 2 by omega) with rfl | rfl | rfl <;> exact ⟨rfl, rfl, rfl⟩
theorem encC_eq (X : Nat → Int) : encC X = encR (tr X) := by
  funext k
  obtain ⟨h0, h1, h2⟩ := tr_row X k.2
  show #[Value.int .i64 k.1, .agg (v3 (X k.1) (X (3 + k.1)) (X (6 + k.1)))] = #[Value.int .i64 k.1, .agg (v3 (tr X (k.1 * 3)) (tr X (k.1 * 3 + 1)) (tr X (k.1 * 3 + 2)))]
  rw [h0, h1, h2]
theorem columns_stops' (X : Nat → Int) (g0 g1 g2 : Nat) (w : World) (b0 : Hid (Blk w g0 38 (v3 (X 0) (X 1) (X 2)))) (b1 : Hid (Blk w g1 38 (v3 (X 3) (X 4) (X 5)))) (b2 : Hid (Blk w g2 38 (v3 (X 6) (X 7) (X 8)))) (n : Nat) :
    SeqStopsK Fence.wide n Tryz.prog 41 #[ptr g0, ptr g1, ptr g2] (encR (tr X)) (KeepsG [g0, g1, g2]) (fun l => l = up3 3) (fun _ => True) 3 w := encC_eq X ▸ columns_stops X g0 g1 g2 w b0 b1 b2 n
theorem m9_range {w : World} {g : Nat} {t : TypeId} {X : Nat → Int} (h : Blk w g t (m9 X)) {k : Nat} (hk : k < 3) : w.rangeAt g (k * 3) (v3 (X (k * 3)) (X (k * 3 + 1)) (X (k * 3 + 2))).toList := by
  intro j v hv
  have hj : j < 3 := by have := (List.getElem?_eq_some_iff.1 hv).1; exact this
  rw [h.cell]
  rcases (show k = 0 ∨ k = 1 ∨ k = 2 by omega) with rfl | rfl | rfl <;> rcases (show j = 0 ∨ j = 1 ∨ j = 2 by omega) with rfl | rfl | rfl <;> exact hv
theorem exec_ldRow {o : Oper} {a : Act} {w : World} {g k : Nat} {t : TypeId} {X : Nat → Int} (p : Operand) (ho : o.op = .load 24 p) (hx : a.eval p = .pointer (some ⟨g, k * 3, none⟩)) (h : Blk w g t (m9 X)) (hk : k < 3) : (execOp a.eval o).run Tryz.prog w = .ok (.value (.agg (v3 (X (k * 3)) (X (k * 3 + 1)) (X (k * 3 + 2))))) w := by
  unfold execOp
  simp only [ho, hx, Instr.loadAt, Instr.sureAddr, Sem.run_bind, Sem.run_pure, Result.andThen_ok, run_loadVar_mid w g (k * 3) 24 (v3 (X (k * 3)) (X (k * 3 + 1)) (X (k * 3 + 2))).toList _ (m9_range h hk) Tryz.underlying24 rfl iVec3]

set_option maxHeartbeats 4000000 in
theorem columns_core (X : Nat → Int) (w : World) :
    Calls Tryz.prog 18 #[.agg (m9 X)] w fun e w' => ∃ c0 c1 c2, e = .returned (.func (Fn.func 41) #[] #[ptr c0, ptr c1, ptr c2]) ∧ (w.heap.size ≤ c0 ∧ w.heap.size ≤ c1 ∧ w.heap.size ≤ c2) ∧ Blk w' c0 38 (v3 (X 0) (X 1) (X 2)) ∧ Blk w' c1 38 (v3 (X 3) (X 4) (X 5)) ∧ Blk w' c2 38 (v3 (X 6) (X 7) (X 8)) ∧ Below w.heap.size w w' := by
  go_enter Tryz.func18, Tryz.ntmps18
  go_upto_region 1 with fail
  have D := hide ((Gen.start w).push 27 (m9 X))
  generalize hw1 : (w.alloc (.cells (m9 X) 27)) = w1 at D ⊢
  have hs1 : w1.heap.size = w.heap.size + 1 := by rw [← hw1]; simp
  clear hw1
  have D1 : Hid (GenZ w _ (w.heap.size + 1) w1.drew) := ⟨(unhide D).drew, by show _ ≤ w1.heap.size; omega⟩
  clear D
  refine region_allocs2 (S := GenZ w _ (w.heap.size + 1)) (t := 38) (z := v3 0 0 0) (base := w.heap.size + 1) (l := [0, 1, 2, 3, 4, 5, 6, 7, 8, 9, 10, 11]) (A := [12, 13, 14]) (T := [15, 16, 17]) (by kernel_rfl) (by kernel_rfl) (by kernel_rfl) (by kernel_rfl) (by kernel_rfl) (by kernel_rfl) (by kernel_rfl) (by kernel_rfl) (by kernel_rfl) (by kernel_rfl) ?_ (fun _ _ h hb => h.keep hb) (fun _ h => h.s) (unhide D1) ?_
  · intro i hi
    simp at hi
    rcases hi with rfl | rfl | rfl
    · exact ⟨_, rfl, rfl, fun a w => by go_simp⟩
    · exact ⟨_, rfl, rfl, fun a w => by go_simp⟩
    · exact ⟨_, rfl, rfl, fun a w => by go_simp⟩
  clear D1
  refine planB_read (v := .pointer (some ⟨w.heap.size, 0, none⟩)) rfl rfl (fun u hS => by go_simp) ?_
  go_simp
  refine planB_read (v := .pointer (some ⟨w.heap.size, 0, none⟩)) rfl rfl (fun u hS => exec_ix3 u (k := 0) (.tmp 6) (.const (.int .i64 0)) (by decide) rfl rfl rfl) ?_
  go_simp
  refine planB_read (v := .agg (v3 (X 0) (X 1) (X 2))) rfl rfl (fun u hS => exec_ldRow (k := 0) (.tmp 7) rfl rfl (hS.e.blk (g := w.heap.size) (t := 27) (cs := m9 X) (by repeat (first | exact List.mem_cons_self | apply List.mem_cons_of_mem))) (by decide)) ?_
  go_simp
  refine planB_call (v := .agg (v3 (X 0) (X 1) (X 2))) (f := 40) (args := #[.agg (v3 (X 0) (X 1) (X 2))]) rfl rfl (fun u hS => by go_simp) (fun u hS => (listed_core _ _ _ u).mono fun _ _ ⟨he, hb⟩ => ⟨he, hS.keep hb, hb⟩) ?_
  go_simp
  refine planB_read (v := .pointer (some ⟨w.heap.size, 0, none⟩)) rfl rfl (fun u hS => by go_simp) ?_
  go_simp
  refine planB_read (v := .pointer (some ⟨w.heap.size, 3, none⟩)) rfl rfl (fun u hS => exec_ix3 u (k := 1) (.tmp 10) (.const (.int .i64 1)) (by decide) rfl rfl rfl) ?_
  go_simp
  refine planB_read (v := .agg (v3 (X 3) (X 4) (X 5))) rfl rfl (fun u hS => exec_ldRow (k := 1) (.tmp 11) rfl rfl (hS.e.blk (g := w.heap.size) (t := 27) (cs := m9 X) (by repeat (first | exact List.mem_cons_self | apply List.mem_cons_of_mem))) (by decide)) ?_
  go_simp
  refine planB_call (v := .agg (v3 (X 3) (X 4) (X 5))) (f := 40) (args := #[.agg (v3 (X 3) (X 4) (X 5))]) rfl rfl (fun u hS => by go_simp) (fun u hS => (listed_core _ _ _ u).mono fun _ _ ⟨he, hb⟩ => ⟨he, hS.keep hb, hb⟩) ?_
  go_simp
  refine planB_read (v := .pointer (some ⟨w.heap.size, 0, none⟩)) rfl rfl (fun u hS => by go_simp) ?_
  go_simp
  refine planB_read (v := .pointer (some ⟨w.heap.size, 6, none⟩)) rfl rfl (fun u hS => exec_ix3 u (k := 2) (.tmp 14) (.const (.int .i64 2)) (by decide) rfl rfl rfl) ?_
  go_simp
  refine planB_read (v := .agg (v3 (X 6) (X 7) (X 8))) rfl rfl (fun u hS => exec_ldRow (k := 2) (.tmp 15) rfl rfl (hS.e.blk (g := w.heap.size) (t := 27) (cs := m9 X) (by repeat (first | exact List.mem_cons_self | apply List.mem_cons_of_mem))) (by decide)) ?_
  go_simp
  refine planB_call (v := .agg (v3 (X 6) (X 7) (X 8))) (f := 40) (args := #[.agg (v3 (X 6) (X 7) (X 8))]) rfl rfl (fun u hS => by go_simp) (fun u hS => (listed_core _ _ _ u).mono fun _ _ ⟨he, hb⟩ => ⟨he, hS.keep hb, hb⟩) ?_
  go_simp
  refine planB_tail (fun c u hS hB hI => ?_)
  have h0 := hB 12 (by simp)
  have h1 := hB 13 (by simp)
  have h2 := hB 14 (by simp)
  have n01 : c 12 ≠ c 13 := fun hc => by have := hI 12 (by simp) 13 (by simp) hc; omega
  have n02 : c 12 ≠ c 14 := fun hc => by have := hI 12 (by simp) 14 (by simp) hc; omega
  have n12 : c 13 ≠ c 14 := fun hc => by have := hI 13 (by simp) 14 (by simp) hc; omega
  simp only [pa, dstOf, opsOf]
  have O := hide hS.e.o
  clear hS hB hI
  generalize c 12 = c0 at h0 n01 n02 ⊢
  generalize c 13 = c1 at h1 n01 n12 ⊢
  generalize c 14 = c2 at h2 n02 n12 ⊢
  obtain ⟨b0, s0⟩ := h0
  obtain ⟨b1, s1⟩ := h1
  obtain ⟨b2, s2⟩ := h2
  refine wpList_store_row rfl 38 (.tmp 3) (.tmp 9) rfl c0 (v3 (X 0) (X 1) (X 2)) rfl rfl 38 _ b0 rList.i rfl (v3_one _ _ _) ?_
  refine wpList_store_row rfl 38 (.tmp 4) (.tmp 13) rfl c1 (v3 (X 3) (X 4) (X 5)) rfl rfl 38 _ (b1.rowOther _ (Ne.symm n01)) rList.i rfl (v3_one _ _ _) ?_
  refine wpList_store_row rfl 38 (.tmp 5) (.tmp 17) rfl c2 (v3 (X 6) (X 7) (X 8)) rfl rfl 38 _ ((b2.rowOther _ (Ne.symm n02)).rowOther _ (Ne.symm n12)) rList.i rfl (v3_one _ _ _) ?_
  have B0 := hide (((b0.row (v3 (X 0) (X 1) (X 2))).rowOther (v3 (X 3) (X 4) (X 5)) n01).rowOther (v3 (X 6) (X 7) (X 8)) n02)
  have B1 := hide (((b1.rowOther (v3 (X 0) (X 1) (X 2)) (Ne.symm n01)).row (v3 (X 3) (X 4) (X 5))).rowOther (v3 (X 6) (X 7) (X 8)) n12)
  have B2 := hide (((b2.rowOther (v3 (X 0) (X 1) (X 2)) (Ne.symm n02)).rowOther (v3 (X 3) (X 4) (X 5)) (Ne.symm n12)).row (v3 (X 6) (X 7) (X 8)))
  have O3 := hide (below_row (below_row (below_row (unhide O) (show w.heap.size ≤ c0 by omega) (v3 (X 0) (X 1) (X 2))) (show w.heap.size ≤ c1 by omega) (v3 (X 3) (X 4) (X 5))) (show w.heap.size ≤ c2 by omega) (v3 (X 6) (X 7) (X 8)))
  clear b0 b1 b2 O
  generalize ((u.setRow c0 _).setRow c1 _).setRow c2 _ = u1 at B0 B1 B2 O3 ⊢
  go_wp2
  go_ret
  exact ⟨c0, c1, c2, rfl, ⟨by omega, by omega, by omega⟩, unhide B0, unhide B1, unhide B2, unhide O3⟩

set_option maxRecDepth 100000 in
set_option maxHeartbeats 4000000 in
theorem apply_core (X f : Nat → Int) (x y z : Int) (w : World) (hV : Hid (∀ a b c, Ans 16 #[.agg (v3 a b c)] (.agg (v3 a b c)))) (hF : Hid (∀ k, k < 3 → Ans 15 #[.agg (v3 (X (k * 3)) (X (k * 3 + 1)) (X (k * 3 + 2))), .agg (v3 x y z)] (.int .i64 (f k)))) :
    Calls Tryz.prog 5 #[.agg (m9 X), .agg (v3 x y z)] w fun e w' => e = .returned (.agg (l3 f)) ∧ Below w.heap.size w w' := by
  refine (callsIn_wide (n := 5)).1 (callsIn_of_wp_marks Tryz.func5 rfl trivial (wpIn_wide.2 ?_) rfl)
  simp only [Tryz.ntmps5, List.size_toArray, List.length_cons, List.length_nil, Nat.reduceAdd, Nat.reduceSub, Array.replicate_succ, Array.replicate_zero, List.push_toArray, List.append_toArray, List.nil_append, List.cons_append]
  go_upto_region 2 with fail
  have D := hide (((((Gen.start w).push 27 (m9 X)).push 24 (v3 x y z)).push 24 (v3 0 0 0)).push 38 (v3 0 0 0))
  simp only [szA] at D
  go_wp2_with (first | (with_reducible refine at_list ?_; apply ldG (unhide D) rMat _ rfl rfl rfl (by repeat (first | exact List.mem_cons_self | apply List.mem_cons_of_mem)) rfl) | (go_at_call 14; with_reducible refine (rows_core X _).mono ?_; rintro e w1 ⟨he, hb1, hb⟩; subst he; have D := hide ((unhide D).keep hb); have B1 := hide hb1; clear hb hb1))
  rename_i Q' K k D0
  clear D0
  simp only [szA] at B1
  have hs1 : w.heap.size + 1 + 1 + 1 + 1 < w1.heap.size := (unhide B1).lt
  refine (wpIn_wide (n := 5)).1 ?_
  refine wpIn_rangeFunc_ownH rfl (by decide) (gf := 35) (lb := #[ptr (w.heap.size + 1 + 1 + 1 + 1)]) rfl trivial (enters_of Tryz.func35 (by kernel_rfl) rfl)
    (rows_stops X (w.heap.size + 1 + 1 + 1 + 1) w1 B1 (KeepsG []) 4) keepsG_t (keepsG_b (by simp)) (Below.refl _ _) (fun _ => rfl)
    (fun pre W => Gen w [(w.heap.size + 1 + 1 + 1, 38, l3 (pl f pre)), (w.heap.size + 1 + 1, 24, v3 0 0 0), (w.heap.size + 1, 24, v3 x y z)] W)
    (fun _ _ _ => False)
    (fun s A B row h hg hr => gen_own (f := fun pre => _) (by omega) s A B row h hg hr)
    (fun _ _ _ _ _ h _ _ => h.elim)
    (by
      have e : l3 (pl f []) = v3 0 0 0 := by kernel_rfl
      rw [e]
      exact (unhide D).sub (by
      intro p hp
      simp only [List.mem_cons, List.not_mem_nil, or_false] at hp ⊢
      rcases hp with rfl | rfl | rfl
      · exact .inl rfl
      · exact .inr (.inl rfl)
      · exact .inr (.inr (.inl rfl))))
    (fun k a' W => ∃ b, Blk W b 24 (v3 (X (k.1 * 3)) (X (k.1 * 3 + 1)) (X (k.1 * 3 + 2))) ∧ a' = { tmps := #[.agg (m9 X), .agg (v3 x y z), ptr w.heap.size, ptr (w.heap.size + 1), ptr (w.heap.size + 1 + 1), ptr (w.heap.size + 1 + 1 + 1), .int .i64 k.1, ptr b, .agg (m9 X), .func (Fn.func 35) #[] #[ptr (w.heap.size + 1 + 1 + 1 + 1)], .int .i64 k.1, .agg (v3 (X (k.1 * 3)) (X (k.1 * 3 + 1)) (X (k.1 * 3 + 2))), undef, undef, undef, undef, undef, undef, undef], defers := [] })
    (fun k a' _ A B row ⟨b, h1, h3⟩ hg hr => ⟨b, h1.turned hg (fun r e => (hr r e).2), h3⟩)
    ?assign ?body ?done ?stop
  case assign =>
    rintro l pre p W K hi hK
    clear D B1
    have D := hide (Gen.start W)
    refine wpIn_seq (round_region rfl (fun ⟨_, _, h⟩ => h) ?_)
    go_wp2
    refine round_region rfl (fun ⟨_, _, h⟩ => h) ?_
    go_wp2_with (first | (with_reducible refine at_list ?_; refine stG (unhide D) rVec _ _ rfl rfl rfl rfl rfl rfl (v3_one _ _ _) ?_; intro D'; have D := hide D'; clear D'))
    have hb := (unhide D).o
    exact hK _ _ (Below.keepsFrom hb) (keepsG_below hb) (hi.keep hb) ⟨_, (unhide D).blk (by repeat (first | exact List.mem_cons_self | apply List.mem_cons_of_mem)), rfl⟩
  case body =>
    rintro l pre p a' W _ _ hi ⟨b, hb, rfl⟩ _
    clear D B1
    have D := hide ((hi.more hb).since (Gen.start W))
    have hpk := p.2
    have Fk := hide (unhide hF p.1 p.2)
    refine wpIn_block (round_region rfl (fun ⟨_, _, h⟩ => h) ?_)
    go_wp2_with (first | (with_reducible refine at_list ?_; apply ldG (unhide D) rVec _ rfl rfl rfl (by repeat (first | exact List.mem_cons_self | apply List.mem_cons_of_mem)) rfl) | (go_at_call 15; with_reducible refine (unhide Fk _).mono ?_; rintro e w' ⟨he, hb⟩; subst he; have D := hide ((unhide D).keep hb); clear hb) | (with_reducible refine at_list ?_;  refine wpList_value rfl (exec_ixl _ (.tmp 5) (.tmp 12) hpk rfl rfl rfl) ?_) | (with_reducible refine at_one ?_))
    unfold Stop
    have hW := (unhide D).o
    have D2 := hi.keep hW
    refine wpList_of_wp rfl (wp_store1 22 (.tmp 16) (.tmp 15) rfl rfl rfl (D2.blk (g := w.heap.size + 1 + 1 + 1) (cs := l3 (pl f pre)) (by repeat (first | exact List.mem_cons_self | apply List.mem_cons_of_mem))) hpk iFix ?_)
    go_simp
    exact ⟨(Below.keepsFrom hW).trans ((KeepsOthers.setCell _ _ _).from _), keepsG_t (keepsG_below hW) (keepsG_cell (by simp) _ _ _), D2.setL p (by omega) (by
      intro q hq
      simp only [List.mem_cons, List.not_mem_nil, or_false] at hq
      rcases hq with rfl | rfl <;> simp)⟩
  case done =>
    rintro Df xs W hD rfl hI hK
    clear D B1
    refine k _ _ ?_
    have hd := hide hD
    have hk := hide hK
    clear hD hK
    have e : l3 (pl f (up3 3)) = l3 f := by kernel_rfl
    rw [e] at hI
    have D := hide hI
    have V := hide (unhide hV (f 0) (f 1) (f 2))
    refine (wp_seq (wp_region_lit ?_))
    go_wp2_with (first | (with_reducible refine at_list ?_; apply ldG (unhide D) rList _ rfl rfl rfl (by repeat (first | exact List.mem_cons_self | apply List.mem_cons_of_mem)) rfl) | (go_at_call 16; with_reducible refine (unhide V _).mono ?_; rintro e w2 ⟨he, hb⟩; subst he; have D := hide ((unhide D).keep hb); have hk := hide ((hb.block Df (Array.getElem?_eq_some_iff.1 (unhide hk)).1).trans (unhide hk)); clear hb) | (with_reducible refine at_one ?_))
    unfold Stop
    have B4 := hide ((unhide D).blk (g := w.heap.size + 1 + 1) (cs := v3 0 0 0) (by repeat (first | exact List.mem_cons_self | apply List.mem_cons_of_mem)))
    refine wpList_store_row rfl 24 (.tmp 4) (.tmp 18) rfl (w.heap.size + 1 + 1) (l3 f) rfl rfl 24 (v3 0 0 0) (unhide B4) rVec.i rfl (v3_one _ _ _) ?_
    have hK : (w2.setRow (w.heap.size + 1 + 1) (l3 f)).heap[Df]? = some (.deferred (some [])) := by
      have := unhide hd
      rw [setRow_other _ _ _ _ (by omega)]
      exact unhide hk
    have h3 : Gen w [(w.heap.size + 1 + 1, 24, l3 f)] (w2.setRow (w.heap.size + 1 + 1) (l3 f)) := ⟨fun q hq => by
      simp only [List.mem_cons, List.not_mem_nil, or_false] at hq
      subst hq
      exact (unhide B4).row _, below_row (unhide D).o (by omega) _⟩
    clear D B4 hk
    generalize w2.setRow (w.heap.size + 1 + 1) (l3 f) = W3 at h3 hK ⊢
    go_simp
    refine wp_ret ?_
    refine ⟨by simp, .inl ⟨_, _, rfl, run_takeDeferred hK, ?_⟩⟩
    have h4 : Gen w _ (W3.putObj Df (.deferred none)) := gen_own (f := fun (_ : Unit) => _) (B := w1.heap.size) (by omega) () W3 _ _ h3 (grownBy_putObj' _ _ _) (fun r e => by cases e; exact ⟨unhide hd, _, hK, rfl⟩)
    exact ⟨_, resG1 rVec (h4.blk (by repeat (first | exact List.mem_cons_self | apply List.mem_cons_of_mem))) rfl rfl rfl, rfl, h4.o⟩
  case stop =>
    rintro Df c pre W hD hp hF hK
    exact hF.elim
end Go.Proofs.YtcbepibdeokboaaGreat

namespace Go.Proofs.YtcbepibdeokboaaGreat
open Go.RowKit
set_option maxRecDepth 4000
set_option linter.unusedVariables false

/-- The two matrices are the same. -/
def sameM (X Y : Nat → Int) : Bool := sameV (X 0) (X 1) (X 2) (Y 0) (Y 1) (Y 2) && (sameV (X 3) (X 4) (X 5) (Y 3) (Y 4) (Y 5) && sameV (X 6) (X 7) (X 8) (Y 6) (Y 7) (Y 8))
theorem run_vecD (D : Nat) (x y z a b c : Int) (w : World) : (Op.equalIn (D + 2) 24 (.agg (v3 x y z)) (.agg (v3 a b c))).run Tryz.prog w = .ok (sameV x y z a b c) w := by
  have hf : ((Tryz.prog.fieldsOf 24).toList.map fun f => (f.name, f.type, f.offset)) = [("X", 22, 0), ("Y", 22, 1), ("Z", 22, 2)] := by kernel_rfl
  rw [run_equalIn_struct w _ 24 _ _ (by kernel_rfl) (by kernel_rfl)]
  generalize (Tryz.prog.fieldsOf 24).toList = l at hf ⊢
  have hlen : l.length = 3 := by
    have := congrArg List.length hf
    simpa using this
  match l, hlen, hf with
  | [f0, f1, f2], _, hf =>
    simp only [List.map_cons, List.map_nil, List.cons.injEq, Prod.mk.injEq, and_true] at hf
    obtain ⟨⟨n0, t0, o0⟩, ⟨n1, t1, o1⟩, ⟨n2, t2, o2⟩⟩ := hf
    have e : ∀ w (p q : Int), (Op.equalIn (D + 1) 22 (.int .i64 p) (.int .i64 q)).run Tryz.prog w = .ok (p == q) w := fun w p q => run_equalIn_int w D 22 _ _ _ _ Tryz.underlying22
    have m0 : f0.name ≠ "_" := by rw [n0]; decide
    have m1 : f1.name ≠ "_" := by rw [n1]; decide
    have m2 : f2.name ≠ "_" := by rw [n2]; decide
    have p0 : ∀ (x y z : Int) w, (Go.part 22 (v3 x y z) 0).run Tryz.prog w = .ok (.int .i64 x) w := fun x y z w => part_fix rfl w
    have p1 : ∀ (x y z : Int) w, (Go.part 22 (v3 x y z) 1).run Tryz.prog w = .ok (.int .i64 y) w := fun x y z w => part_fix rfl w
    have p2 : ∀ (x y z : Int) w, (Go.part 22 (v3 x y z) 2).run Tryz.prog w = .ok (.int .i64 z) w := fun x y z w => part_fix rfl w
    simp only [Op.eqFields, if_pos m0, if_pos m1, if_pos m2, t0, t1, t2, o0, o1, o2, Sem.run_bind, p0, Result.andThen_ok, e]
    unfold sameV
    by_cases h0 : x = a <;> by_cases h1 : y = b <;> by_cases h2 : z = c <;> simp [h0, h1, h2, p1, p2, e]
theorem part_row (X : Nat → Int) {k : Nat} (h : k < 3) (w : World) : (Go.part 24 (m9 X) (k * 3)).run Tryz.prog w = .ok (.agg (v3 (X (k * 3)) (X (k * 3 + 1)) (X (k * 3 + 2)))) w := by
  rcases (show k = 0 ∨ k = 1 ∨ k = 2 by omega) with rfl | rfl | rfl <;> kernel_rfl
theorem part_all (X : Nat → Int) (w : World) : (Go.part 25 (m9 X) 0).run Tryz.prog w = .ok (.agg (m9 X)) w := by kernel_rfl
theorem eq_arr3G (t T : TypeId) (ht : Tryz.prog.underlying t = some (.array 3 T)) (n : Nat) (hs : ∀ w, (sizeOf T).run Tryz.prog w = .ok n w) (D : Nat) (cs ds : Array Value) (x0 x1 x2 y0 y1 y2 : Value) (b0 b1 b2 : Bool)
    (p0 : ∀ w, (Go.part T cs (0 * n)).run Tryz.prog w = .ok x0 w) (p1 : ∀ w, (Go.part T cs (1 * n)).run Tryz.prog w = .ok x1 w) (p2 : ∀ w, (Go.part T cs (2 * n)).run Tryz.prog w = .ok x2 w)
    (q0 : ∀ w, (Go.part T ds (0 * n)).run Tryz.prog w = .ok y0 w) (q1 : ∀ w, (Go.part T ds (1 * n)).run Tryz.prog w = .ok y1 w) (q2 : ∀ w, (Go.part T ds (2 * n)).run Tryz.prog w = .ok y2 w)
    (e0 : ∀ w, (Op.equalIn D T x0 y0).run Tryz.prog w = .ok b0 w) (e1 : ∀ w, (Op.equalIn D T x1 y1).run Tryz.prog w = .ok b1 w) (e2 : ∀ w, (Op.equalIn D T x2 y2).run Tryz.prog w = .ok b2 w) (w : World) :
    (Op.equalIn (D + 1) t (.agg cs) (.agg ds)).run Tryz.prog w = .ok (b0 && (b1 && b2)) w := by
  simp only [Op.equalIn, Sem.run_bind, run_underlying ht, Result.andThen_ok, hs]
  simp only [Std.Legacy.Range.forIn_eq_forIn_range', Std.Legacy.Range.size, Nat.sub_zero, Nat.add_sub_cancel, Nat.div_one]
  rw [show List.range' 0 3 = [0, 1, 2] from rfl]
  simp only [List.forIn_cons, List.forIn_nil, Sem.run_bind, p0, q0, e0, Result.andThen_ok]
  simp only [Nat.one_mul] at p1 q1
  cases b0
  · simp [Result.andThen]
  · cases b1
    · simp [Sem.run_bind, Result.andThen, p1, q1, e1]
    · cases b2 <;> simp [Sem.run_bind, Result.andThen, p1, q1, e1, p2, q2, e2]
theorem eq_arrV (D : Nat) (X Y : Nat → Int) (w : World) : (Op.equalIn (D + 3) 25 (.agg (m9 X)) (.agg (m9 Y))).run Tryz.prog w = .ok (sameM X Y) w :=
  eq_arr3G 25 24 Tryz.underlying25 3 (fun w => run_sizeOf (by kernel_rfl) w) (D + 2) (m9 X) (m9 Y) _ _ _ _ _ _ _ _ _
    (fun w => part_row X (k := 0) (by decide) w) (fun w => part_row X (k := 1) (by decide) w) (fun w => part_row X (k := 2) (by decide) w)
    (fun w => part_row Y (k := 0) (by decide) w) (fun w => part_row Y (k := 1) (by decide) w) (fun w => part_row Y (k := 2) (by decide) w)
    (fun w => run_vecD D _ _ _ _ _ _ w) (fun w => run_vecD D _ _ _ _ _ _ w) (fun w => run_vecD D _ _ _ _ _ _ w) w
theorem run_mat (X Y : Nat → Int) (w : World) : (Op.equalIn 10000 27 (.agg (m9 X)) (.agg (m9 Y))).run Tryz.prog w = .ok (sameM X Y) w := by
  have hf : ((Tryz.prog.fieldsOf 27).toList.map fun f => (f.name, f.type, f.offset)) = [("R", 25, 0)] := by kernel_rfl
  rw [show (10000 : Nat) = 9999 + 1 from rfl, run_equalIn_struct w _ 27 _ _ (by kernel_rfl) (by kernel_rfl)]
  generalize (Tryz.prog.fieldsOf 27).toList = l at hf ⊢
  have hlen : l.length = 1 := by
    have := congrArg List.length hf
    simpa using this
  match l, hlen, hf with
  | [f0], _, hf =>
    simp only [List.map_cons, List.map_nil, List.cons.injEq, Prod.mk.injEq, and_true] at hf
    obtain ⟨n0, t0, o0⟩ := hf
    have m0 : f0.name ≠ "_" := by rw [n0]; decide
    have e : (Op.equalIn 9999 25 (.agg (m9 X)) (.agg (m9 Y))).run Tryz.prog w = .ok (sameM X Y) w := eq_arrV 9996 X Y w
    simp only [Op.eqFields, if_pos m0, t0, o0, Sem.run_bind, part_all, Result.andThen_ok, e]
    cases sameM X Y <;> rfl
theorem gMat : Tryz.prog.eqGuardType Tryz.prog.depth 27 = false := by kernel_rfl
section
variable {o : Oper} {ac : Act} (wd : World) (p q : Operand) {ty' : TypeId} {s : Bool} {X Y : Nat → Int}
theorem exec_eql_mat (hb : sameM X Y = s) (ho : o.op = .binOp .eql 27 p q ty') (hx : ac.eval p = .agg (m9 X)) (hy : ac.eval q = .agg (m9 Y)) : (execOp ac.eval o).run Tryz.prog wd = .ok (.value (.bool s)) wd := by
  subst hb
  unfold execOp
  simp only [ho, hx, hy, Sem.run_bind, run_eqGuard_agg wd _ 27 _ _ _ _ gMat, run_eql_struct, run_mat, Result.andThen_ok, Sem.run_pure]
variable {ops : Array Oper} {rest : List Oper} {Q : Exit → Act → World → Prop}
theorem eqlM (hb : sameM X Y = s) (ho : o.op = .binOp .eql 27 p q ty') (hgd : o.guard = none) (hx : ac.eval p = .agg (m9 X)) (hy : ac.eval q = .agg (m9 Y))
    (h : wpList Tryz.prog ops Q rest (ac.put o.dst (.bool s)) wd) : wpList Tryz.prog ops Q (o :: rest) ac wd := wpList_value hgd (exec_eql_mat wd p q hb ho hx hy) h
theorem eqlMw (hb : sameM X Y = s) (ho : o.op = .binOp .eql 27 p q ty') (hgd : Region.wanted o (yielded ops ac.tmps) = true) (hx : ac.eval p = .agg (m9 X)) (hy : ac.eval q = .agg (m9 Y))
    (h : wpList Tryz.prog ops Q rest (ac.put o.dst (.bool s)) wd) : wpList Tryz.prog ops Q (o :: rest) ac wd := wpList_valuew hgd (exec_eql_mat wd p q hb ho hx hy) h
end
theorem sameM_self (X : Nat → Int) : sameM X X = true := by simp [sameM, sameV]
theorem sameM_of {X Y : Nat → Int} (h : ∀ j, j < 9 → X j = Y j) : sameM X Y = true := by
  unfold sameM sameV
  rw [h 0 (by decide), h 1 (by decide), h 2 (by decide), h 3 (by decide), h 4 (by decide), h 5 (by decide), h 6 (by decide), h 7 (by decide), h 8 (by decide)]
  simp

end Go.Proofs.YtcbepibdeokboaaGreat

namespace Go.Proofs.YtcbepibdeokboaaGreat
open Go.RowKit
set_option maxRecDepth 4000
set_option linter.unusedVariables false
attribute [local go_sem] Oper.semAt_some

set_option maxRecDepth 100000 in
set_option maxHeartbeats 8000000 in
theorem mmul_core (X Y f : Nat → Int) (w : World) (hV : Hid (∀ a b c, Ans 16 #[.agg (v3 a b c)] (.agg (v3 a b c)))) (hF : Hid (∀ k, k < 3 → ∀ j, j < 3 → Ans 15 #[.agg (v3 (X (k * 3)) (X (k * 3 + 1)) (X (k * 3 + 2))), .agg (v3 ((tr Y) (j * 3)) ((tr Y) (j * 3 + 1)) ((tr Y) (j * 3 + 2)))] (.int .i64 (f (k * 3 + j))))) :
    Calls Tryz.prog 7 #[.agg (m9 X), .agg (m9 Y)] w fun e w' => e = .returned (.agg (m9 f)) ∧ Below w.heap.size w w' := by
  refine (callsIn_wide (n := 9)).1 (callsIn_of_wp_marks Tryz.func7 rfl trivial (wpIn_wide.2 ?_) rfl)
  simp only [Tryz.ntmps7, List.size_toArray, List.length_cons, List.length_nil, Nat.reduceAdd, Nat.reduceSub, Array.replicate_succ, Array.replicate_zero, List.push_toArray, List.append_toArray, List.nil_append, List.cons_append]
  go_upto_region 2 with fail
  have D := hide (((((Gen.start w).push 27 (m9 X)).push 27 (m9 Y)).push 27 zM).push 27 zM)
  simp only [szA] at D
  go_wp2_with (first | (with_reducible refine at_list ?_; apply ldG (unhide D) rMat _ rfl rfl rfl (by repeat (first | exact List.mem_cons_self | apply List.mem_cons_of_mem)) rfl) | (go_at_call 14; with_reducible refine (rows_core X _).mono ?_; rintro e w1 ⟨he, hb1, hb⟩; subst he; have D := hide ((unhide D).keep hb); have B1 := hide hb1; clear hb hb1))
  rename_i Q' K k D0
  clear D0
  simp only [szA] at B1
  have hs1 : w.heap.size + 1 + 1 + 1 + 1 < w1.heap.size := (unhide B1).lt
  refine (wpIn_wide (n := 9)).1 ?_
  refine wpIn_rangeFunc_ownH rfl (by decide) (gf := 35) (lb := #[ptr (w.heap.size + 1 + 1 + 1 + 1)]) rfl trivial (enters_of Tryz.func35 (by kernel_rfl) rfl)
    (rows_stops X (w.heap.size + 1 + 1 + 1 + 1) w1 B1 (KeepsG []) 8) keepsG_t (keepsG_b (by simp)) (Below.refl _ _) (fun _ => rfl)
    (fun pre W => Gen w [(w.heap.size + 1 + 1 + 1, 27, m9 (pf f pre)), (w.heap.size + 1 + 1, 27, zM), (w.heap.size + 1, 27, m9 Y)] W)
    (fun _ _ _ => False)
    (fun s A B row h hg hr => gen_own (f := fun pre => _) (by omega) s A B row h hg hr)
    (fun _ _ _ _ _ h _ _ => h.elim)
    (by
      have e : m9 (pf f []) = zM := by kernel_rfl
      rw [e]
      exact (unhide D).sub (by
      intro p hp
      simp only [List.mem_cons, List.not_mem_nil, or_false] at hp ⊢
      rcases hp with rfl | rfl | rfl
      · exact .inl rfl
      · exact .inr (.inl rfl)
      · exact .inr (.inr (.inl rfl))))
    (fun k a' W => ∃ b, Blk W b 24 (v3 (X (k.1 * 3)) (X (k.1 * 3 + 1)) (X (k.1 * 3 + 2))) ∧ a' = { tmps := #[.agg (m9 X), .agg (m9 Y), ptr w.heap.size, ptr (w.heap.size + 1), ptr (w.heap.size + 1 + 1), ptr (w.heap.size + 1 + 1 + 1), .int .i64 k.1, ptr b, undef, undef, undef, .agg (m9 X), .func (Fn.func 35) #[] #[ptr (w.heap.size + 1 + 1 + 1 + 1)], .int .i64 k.1, .agg (v3 (X (k.1 * 3)) (X (k.1 * 3 + 1)) (X (k.1 * 3 + 2))), undef, undef, undef, undef, undef, undef, undef, undef, undef, undef, undef, undef, undef, undef, undef], defers := [] })
    (fun k a' _ A B row ⟨b, h1, h3⟩ hg hr => ⟨b, h1.turned hg (fun r e => (hr r e).2), h3⟩)
    ?assign ?body ?done ?stop
  case assign =>
    rintro l pre p W K hi hK
    clear D B1
    have D := hide (Gen.start W)
    refine wpIn_seq (round_region rfl (fun ⟨_, _, h⟩ => h) ?_)
    go_wp2
    refine round_region rfl (fun ⟨_, _, h⟩ => h) ?_
    go_wp2_with (first | (with_reducible refine at_list ?_; refine stG (unhide D) rVec _ _ rfl rfl rfl rfl rfl rfl (v3_one _ _ _) ?_; intro D'; have D := hide D'; clear D'))
    have hb := (unhide D).o
    exact hK _ _ (Below.keepsFrom hb) (keepsG_below hb) (hi.keep hb) ⟨_, (unhide D).blk (by repeat (first | exact List.mem_cons_self | apply List.mem_cons_of_mem)), rfl⟩
  case body =>
    rintro l pre p a' W hlw ⟨r, hr⟩ hi ⟨b, hb, rfl⟩ _
    clear D B1
    have hbl := hb.lt
    have D := hide (((hi.more hb).since (Gen.start W)).push 38 (v3 0 0 0))
    have hr2 := hide ((Array.getElem?_eq_some_iff.1 hr).1)
    have hpk := p.2
    refine wpIn_block (wpIn_seq (round_region rfl (fun ⟨_, _, h⟩ => h) ?_))
    go_wp2
    refine wpIn_seq (wpIn_seq (round_region rfl (fun ⟨_, _, h⟩ => h) ?_))
    go_wp2_with (first | (with_reducible refine at_list ?_; apply ldG (unhide D) rMat _ rfl rfl rfl (by repeat (first | exact List.mem_cons_self | apply List.mem_cons_of_mem)) rfl) | (go_at_call 18; with_reducible refine (columns_core Y _).mono ?_; rintro e w2 ⟨c0, c1, c2, he, hc, hb0, hb1, hb2, hb⟩; subst he; have D := hide ((unhide D).keep hb); have B0 := hide hb0; have B1 := hide hb1; have B2 := hide hb2; clear hb hb0 hb1 hb2))
    simp only [szA] at hc
    have hl0 := (unhide B0).lt
    have hl1 := (unhide B1).lt
    have hl2 := (unhide B2).lt
    obtain ⟨hc0, hc1, hc2⟩ := hc
    have hr' : w2.heap[l]? = some (.loop r) := ((unhide D).o.block l (unhide hr2)).trans hr
    have hws : W.heap.size < w2.heap.size := by omega
    refine wpIn_block (wpIn_rangeFunc_ownN (l₀ := l) (r₀ := r) rfl hr' (by decide) (gf := 41) (lb := #[ptr c0, ptr c1, ptr c2]) rfl trivial (enters_of Tryz.func41 (by kernel_rfl) rfl)
      ((columns_stops' Y c0 c1 c2 w2 B0 B1 B2 6).inRound l) keepsG_t (keepsG_b (by simp only [List.mem_cons, List.not_mem_nil, or_false]; rintro g (rfl | rfl | rfl) <;> omega)) (Below.refl _ _) (fun _ => rfl)
      (fun pre2 W2 => Gen W [(W.heap.size, 38, l3 (pl (fun j => f (p.1 * 3 + j)) pre2)), (b, 24, v3 (X (p.1 * 3)) (X (p.1 * 3 + 1)) (X (p.1 * 3 + 2)))] W2)
      (fun _ _ _ => False)
      (fun s A B row h hg hr => gen_own (f := fun pre => _) (by omega) s A B row h hg hr)
      (fun _ _ _ _ _ h _ _ => h.elim)
      (by
        have e : l3 (pl (fun j => f (p.1 * 3 + j)) []) = v3 0 0 0 := by kernel_rfl
        rw [e]
        exact (unhide D).sub (by
      intro p hp
      simp only [List.mem_cons, List.not_mem_nil, or_false] at hp ⊢
      rcases hp with rfl | rfl
      · exact .inl rfl
      · exact .inr (.inl rfl)))
      (fun k2 a' W3 => ∃ b2, Blk W3 b2 24 (v3 ((tr Y) (k2.1 * 3)) ((tr Y) (k2.1 * 3 + 1)) ((tr Y) (k2.1 * 3 + 2))) ∧ a' = { tmps := #[.agg (m9 X), .agg (m9 Y), ptr w.heap.size, ptr (w.heap.size + 1), ptr (w.heap.size + 1 + 1), ptr (w.heap.size + 1 + 1 + 1), .int .i64 p.1, ptr b, ptr W.heap.size, .int .i64 k2.1, ptr b2, .agg (m9 X), .func (Fn.func 35) #[] #[ptr (w.heap.size + 1 + 1 + 1 + 1)], .int .i64 p.1, .agg (v3 (X (p.1 * 3)) (X (p.1 * 3 + 1)) (X (p.1 * 3 + 2))), .agg (m9 Y), .func (Fn.func 41) #[] #[ptr c0, ptr c1, ptr c2], .int .i64 k2.1, .agg (v3 ((tr Y) (k2.1 * 3)) ((tr Y) (k2.1 * 3 + 1)) ((tr Y) (k2.1 * 3 + 2))), undef, undef, undef, undef, undef, undef, undef, undef, undef, undef, undef], defers := [] })
      (fun k2 a' _ A B row ⟨b2, h1, h3⟩ hg hr => ⟨b2, h1.turned hg (fun r e => (hr r e).2), h3⟩)
      ?assign2 ?body2 ?done2 ?stop2)
    case assign2 =>
      rintro l2 pre2 p2 W3 K2 hi2 hK2
      clear D B0 B1 B2
      have D := hide (Gen.start W3)
      refine wpIn_seq (round_region rfl (fun ⟨_, _, h⟩ => h) ?_)
      go_wp2
      refine round_region rfl (fun ⟨_, _, h⟩ => h) ?_
      go_wp2_with (first | (with_reducible refine at_list ?_; refine stG (unhide D) rVec _ _ rfl rfl rfl rfl rfl rfl (v3_one _ _ _) ?_; intro D'; have D := hide D'; clear D'))
      have hb := (unhide D).o
      exact hK2 _ _ (Below.keepsFrom hb) (keepsG_below hb) (hi2.keep hb) ⟨_, (unhide D).blk (by repeat (first | exact List.mem_cons_self | apply List.mem_cons_of_mem)), rfl⟩
    case body2 =>
      rintro l2 pre2 p2 a2 W3 _ _ hi2 ⟨b2, hb2, rfl⟩ _
      clear D B0 B1 B2
      have D := hide ((hi2.more hb2).since (Gen.start W3))
      have hpk2 := p2.2
      have Fk := hide (unhide hF p.1 p.2 p2.1 p2.2)
      refine wpIn_block (round_region rfl (fun ⟨_, _, h⟩ => h) ?_)
      go_wp2_with (first | (with_reducible refine at_list ?_; apply ldG (unhide D) rVec _ rfl rfl rfl (by repeat (first | exact List.mem_cons_self | apply List.mem_cons_of_mem)) rfl) | (go_at_call 15; with_reducible refine (unhide Fk _).mono ?_; rintro e w' ⟨he, hb⟩; subst he; have D := hide ((unhide D).keep hb); clear hb) | (with_reducible refine at_list ?_;  refine wpList_value rfl (exec_ixl _ (.tmp 8) (.tmp 19) hpk2 rfl rfl rfl) ?_) | (with_reducible refine at_one ?_))
      unfold Stop
      have hW := (unhide D).o
      have D2 := hi2.keep hW
      refine wpList_of_wp rfl (wp_store1 22 (.tmp 23) (.tmp 22) rfl rfl rfl (D2.blk (g := W.heap.size) (cs := l3 (pl (fun j => f (p.1 * 3 + j)) pre2)) (by repeat (first | exact List.mem_cons_self | apply List.mem_cons_of_mem))) hpk2 iFix ?_)
      go_simp
      refine ⟨(Below.keepsFrom hW).trans ((KeepsOthers.setCell _ _ _).from _), keepsG_t (keepsG_below hW) (keepsG_cell (by simp only [List.mem_cons, List.not_mem_nil, or_false]; rintro g (rfl | rfl | rfl) <;> omega) _ _ _), D2.setL p2 (by omega) (by
        intro q hq
        simp only [List.mem_cons, List.not_mem_nil, or_false] at hq
        subst hq
        show b ≠ _
        omega)⟩
    case done2 =>
      rintro xs W3 rfl hI
      clear D B0 B1 B2
      have e : l3 (pl (fun j => f (p.1 * 3 + j)) (up3 3)) = v3 (f (p.1 * 3)) (f (p.1 * 3 + 1)) (f (p.1 * 3 + 2)) := by kernel_rfl
      rw [e] at hI
      have D := hide hI
      have V := hide (unhide hV (f (p.1 * 3)) (f (p.1 * 3 + 1)) (f (p.1 * 3 + 2)))
      refine round_region rfl (fun ⟨_, _, h⟩ => h) ?_
      go_wp2_with (first | (with_reducible refine at_list ?_; apply ldG (unhide D) rList _ rfl rfl rfl (by repeat (first | exact List.mem_cons_self | apply List.mem_cons_of_mem)) rfl) | (go_at_call 16; with_reducible refine (unhide V _).mono ?_; rintro e w' ⟨he, hb⟩; subst he; have D := hide ((unhide D).keep hb); clear hb) | (with_reducible refine at_list ?_;  refine wpList_value rfl (exec_ix3 _ (.tmp 27) (.tmp 24) hpk rfl rfl rfl) ?_) | (with_reducible refine at_one ?_))
      unfold Stop
      have hW := (unhide D).o
      have D2 := hi.keep hW
      refine wpList_of_wp rfl (wp_store_mid 24 (.tmp 28) (.tmp 26) rfl (w.heap.size + 1 + 1 + 1) (p.1 * 3) (v3 (f (p.1 * 3)) (f (p.1 * 3 + 1)) (f (p.1 * 3 + 2))) rfl rfl (m9_there (D2.blk (g := w.heap.size + 1 + 1 + 1) (cs := m9 (pf f pre)) (by repeat (first | exact List.mem_cons_self | apply List.mem_cons_of_mem))) hpk) iVec3 (v3_one _ _ _) ?_)
      go_simp
      exact ⟨(Below.keepsFrom hW).trans (keepsFrom_cells _ _ _), keepsG_t (keepsG_below hW) (keepsG_cells (by simp) _ _ _), D2.setP p (by omega) (by
      intro q hq
      simp only [List.mem_cons, List.not_mem_nil, or_false] at hq
      rcases hq with rfl | rfl <;> simp)⟩
    case stop2 =>
      rintro c pre2 W3 hp hF2
      exact hF2.elim
  case done =>
    rintro Df xs W hD rfl hI hK
    clear D B1
    refine k _ _ ?_
    have hd := hide hD
    have hk := hide hK
    clear hD hK
    have e : m9 (pf f (up3 3)) = m9 f := by kernel_rfl
    rw [e] at hI
    have D := hide hI
    refine (wp_seq (wp_region_lit ?_))
    go_wp2_with (first | (with_reducible refine at_list ?_; apply ldG (unhide D) rMat _ rfl rfl rfl (by repeat (first | exact List.mem_cons_self | apply List.mem_cons_of_mem)) rfl) | (with_reducible refine at_one ?_))
    unfold Stop
    have B4 := hide ((unhide D).blk (g := w.heap.size + 1 + 1) (cs := zM) (by repeat (first | exact List.mem_cons_self | apply List.mem_cons_of_mem)))
    refine wpList_store_row rfl 27 (.tmp 4) (.tmp 29) rfl (w.heap.size + 1 + 1) (m9 f) rfl rfl 27 (zM) (unhide B4) rMat.i rfl (m9_one _) ?_
    have hK : (W.setRow (w.heap.size + 1 + 1) (m9 f)).heap[Df]? = some (.deferred (some [])) := by
      have := unhide hd
      rw [setRow_other _ _ _ _ (by omega)]
      exact unhide hk
    have h3 : Gen w [(w.heap.size + 1 + 1, 27, m9 f)] (W.setRow (w.heap.size + 1 + 1) (m9 f)) := ⟨fun q hq => by
      simp only [List.mem_cons, List.not_mem_nil, or_false] at hq
      subst hq
      exact (unhide B4).row _, below_row (unhide D).o (by omega) _⟩
    clear D B4 hk
    generalize W.setRow (w.heap.size + 1 + 1) (m9 f) = W3 at h3 hK ⊢
    go_simp
    refine wp_ret ?_
    refine ⟨by simp, .inl ⟨_, _, rfl, run_takeDeferred hK, ?_⟩⟩
    have h4 : Gen w _ (W3.putObj Df (.deferred none)) := gen_own (f := fun (_ : Unit) => _) (B := w1.heap.size) (by omega) () W3 _ _ h3 (grownBy_putObj' _ _ _) (fun r e => by cases e; exact ⟨unhide hd, _, hK, rfl⟩)
    exact ⟨_, resG1 rMat (h4.blk (by repeat (first | exact List.mem_cons_self | apply List.mem_cons_of_mem))) rfl rfl rfl, rfl, h4.o⟩
  case stop =>
    rintro Df c pre W hD hp hF hK
    exact hF.elim

end Go.Proofs.YtcbepibdeokboaaGreat
