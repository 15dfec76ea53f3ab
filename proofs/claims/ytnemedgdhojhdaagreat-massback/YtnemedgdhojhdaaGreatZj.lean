/- The contract of quotient of package wide: by a number, rounded down, and what is left. The contract of quotient over integers. The contract of Div of package wide, with what it hands to face. The contracts of Div and Sqrt of package wide, over integers. -/
import Derived.Test.YtnemedgdhojhdaaGreatZf
import Derived.Test.YtnemedgdhojhdaaGreatYy
namespace Go.Proofs.YtnemedgdhojhdaaGreat
open Go.RowKit
set_option maxRecDepth 4000

theorem exec_eql_wide_is {o : Oper} {a : Act} (w : World) (x y : Operand) {n m : Nat} {ty' : TypeId} {b : Bool} (hb : same n m = b) (ho : o.op = .binOp .eql 75 x y ty') (hx : a.eval x = .agg (cells8 n)) (hy : a.eval y = .agg (cells8 m)) :
    (execOp a.eval o).run Tryz.prog w = .ok (.value (.bool b)) w := hb ▸ exec_eql_wide w x y ho hx hy

/-- An operation whose guard says yes, and that ends in a value. -/
theorem wpList_valuew {P : Program} {ops : Array Oper} {rest : List Oper} {o : Oper} {a : Act} {w : World} {Q : Exit → Act → World → Prop} {v : Value} (hg : Region.wanted o (yielded ops a.tmps) = true)
    (he : (execOp a.eval o).run P w = .ok (.value v) w) (h : wpList P ops Q rest (a.put o.dst v) w) : wpList P ops Q (o :: rest) a w := by
  unfold wpList
  rw [if_pos hg]
  refine .inl ?_
  unfold Oper.wp
  rw [he]
  exact h

/-- What quotient knows of its blocks: both numbers, both answers. -/
structure Qt (w0 : World) (g a b : Nat) (w : World) : Prop where
  a : Blk w g 75 (cells8 a)
  b : Blk w (g + 1) 75 (cells8 b)
  q : Blk w (g + 1 + 1) 75 (cells8 0)
  r : Blk w (g + 1 + 1 + 1) 75 (cells8 0)
  o : Below g w0 w
theorem Qt.keep {w0 w w' : World} {g a b : Nat} (h : Qt w0 g a b w) (hb : Below w.heap.size w w') : Qt w0 g a b w' :=
  ⟨h.a.below hb h.a.lt, h.b.below hb h.b.lt, h.q.below hb h.q.lt, h.r.below hb h.r.lt, h.o.trans (hb.mono (Nat.le_of_lt h.a.lt))⟩
theorem Qt.row {w0 w : World} {g a b k : Nat} (h : Qt w0 g a b w) (hk : g + 1 + 1 + 1 + 1 ≤ k) (cs : Array Value) : Qt w0 g a b (w.setRow k cs) :=
  ⟨h.a.rowOther _ (by omega), h.b.rowOther _ (by omega), h.q.rowOther _ (by omega), h.r.rowOther _ (by omega), below_row h.o (by omega) _⟩
theorem Qt.start (w : World) (a b : Nat) : Qt w w.heap.size a b ((((w.alloc (.cells (cells8 a) 75)).alloc (.cells (cells8 b) 75)).alloc
    (.cells #[.int .u64 0, .int .u64 0, .int .u64 0, .int .u64 0, .int .u64 0, .int .u64 0, .int .u64 0, .int .u64 0] 75)).alloc (.cells #[.int .u64 0, .int .u64 0, .int .u64 0, .int .u64 0, .int .u64 0, .int .u64 0, .int .u64 0, .int .u64 0] 75)) :=
  ⟨(Blk.first3 _ _ _ _ _).alloc _, (Blk.second3 _ _ _ _ _).alloc _, cells8_0 ▸ (Blk.third3 _ _ _ _ _).alloc _, cells8_0 ▸ Blk.at (by simp) rfl, (below3 _ _ _ _).alloc (by simp; omega) _⟩

/-- And what was found so far. -/
structure Qr (w0 : World) (g c k a b D R : Nat) (w : World) : Prop where
  t : Qt w0 g a b w
  d : Blk w c 157 (cells8 D)
  r : Blk w k 157 (cells8 R)
  hc : g + 1 + 1 + 1 + 1 ≤ c
  hd : g + 1 + 1 + 1 + 1 ≤ k
  ne : c ≠ k
theorem Qr.keep {w0 w w' : World} {g c d a b D R : Nat} (h : Qr w0 g c d a b D R w) (hb : Below w.heap.size w w') : Qr w0 g c d a b D R w' :=
  ⟨h.t.keep hb, h.d.below hb h.d.lt, h.r.below hb h.r.lt, h.hc, h.hd, h.ne⟩
theorem Qr.drew {w0 w : World} {g c d a b D R : Nat} (h : Qr w0 g c d a b D R w) : Qr w0 g c d a b D R w.drew :=
  ⟨⟨h.t.a.drew, h.t.b.drew, h.t.q.drew, h.t.r.drew, h.t.o.drew⟩, h.d.drew, h.r.drew, h.hc, h.hd, h.ne⟩
theorem Qr.putD {w0 w : World} {g c d a b D R : Nat} (h : Qr w0 g c d a b D R w) (n : Nat) : Qr w0 g c d a b n R (w.setRow c (cells8 n)) :=
  ⟨h.t.row h.hc _, h.d.row _, h.r.rowOther _ h.ne.symm, h.hc, h.hd, h.ne⟩
theorem Qr.putR {w0 w : World} {g c d a b D R : Nat} (h : Qr w0 g c d a b D R w) (n : Nat) : Qr w0 g c d a b D n (w.setRow d (cells8 n)) :=
  ⟨h.t.row h.hd _, h.d.rowOther _ h.ne, h.r.row _, h.hc, h.hd, h.ne⟩

theorem quotient_zero (a : Nat) (w : World) :
    Calls Tryz.prog 137 #[W a, W 0] w fun e w' => e = .panicked noAnswer ∧ Below w.heap.size w w' := by
  go_enter Tryz.func137, Tryz.ntmps137
  go_upto_region 1 with fail
  have D0 := hide (Qt.start w a 0)
  go_wp2_with (first
    | refine ld8 75 (.tmp 3) (unhide D0).b rfl rfl rfl Tryz.underlying75 rfl iWide ?_
    | refine bd0 75 rfl rfl bWide0 ?_
    | refine wpList_value rfl (exec_eql_wide_is (n := 0) (m := 0) (b := true) _ (.tmp 9) (.tmp 10) rfl rfl rfl rfl) ?_)
  exact ⟨rfl, rfl, (unhide D0).o⟩

set_option maxHeartbeats 2000000 in
theorem quotient_core (a b p q D R D' R' n m : Nat) (sa sb un adj bs : Bool) (w : World) (h0 : Hid (same b 0 = false)) (hu : Hid ((!(sa == sb)) = un)) (hadj : Hid ((un && !same R 0) = adj))
    (hA : Hid (∀ u, Calls Tryz.prog 159 #[W a] u fun e w' => e = .returned (.agg (cells8 p)) ∧ Below u.heap.size u w'))
    (hB : Hid (∀ u, Calls Tryz.prog 159 #[W b] u fun e w' => e = .returned (.agg (cells8 q)) ∧ Below u.heap.size u w'))
    (hDv : Hid (∀ u, Calls Tryz.prog 168 #[W p, W q] u fun e w' => e = .returned (.tuple #[.agg (cells8 D), .agg (cells8 R)]) ∧ Below u.heap.size u w'))
    (hNa : Hid (∀ u, Calls Tryz.prog 154 #[W a] u fun e w' => e = .returned (.bool sa) ∧ Below u.heap.size u w'))
    (hNb : Hid (∀ u, Calls Tryz.prog 154 #[W b] u fun e w' => e = .returned (.bool sb) ∧ Below u.heap.size u w'))
    (hno : Hid (adj = false → D' = D ∧ R' = R))
    (hP : Hid (adj = true → ∀ u, Calls Tryz.prog 162 #[W D, W 1] u fun e w' => e = .returned (.agg (cells8 D')) ∧ Below u.heap.size u w'))
    (hMi : Hid (adj = true → ∀ u, Calls Tryz.prog 169 #[W q, W R] u fun e w' => e = .returned (.agg (cells8 R')) ∧ Below u.heap.size u w'))
    (hG : Hid (∀ v, Calls Tryz.prog 155 #[W D', .bool un] v fun e w' => Ends bs n e ∧ Below v.heap.size v w'))
    (hG2 : Hid (∀ v, Calls Tryz.prog 155 #[W R', .bool sb] v fun e w' => e = .returned (.agg (cells8 m)) ∧ Below v.heap.size v w')) :
    Calls Tryz.prog 137 #[W a, W b] w fun e w' => (e = if bs then .panicked noAnswer else .returned (.tuple #[.agg (cells8 n), .agg (cells8 m)])) ∧ Below w.heap.size w w' := by
  go_enter Tryz.func137, Tryz.ntmps137
  go_upto_region 1 with fail
  have D0 := hide (Qt.start w a b)
  go_upto_region 3 with (first
    | refine ld8 75 (.tmp 3) (unhide D0).b rfl rfl rfl Tryz.underlying75 rfl iWide ?_
    | refine bd0 75 rfl rfl bWide0 ?_
    | refine wpList_value rfl (exec_eql_wide_is (n := b) (m := 0) (b := false) _ (.tmp 9) (.tmp 10) (unhide h0) rfl rfl rfl) ?_)
  have D1 := hide (show Qt w w.heap.size a b _ from ⟨(unhide D0).a.drew, (unhide D0).b.drew, (unhide D0).q.drew, (unhide D0).r.drew, (unhide D0).o.drew⟩)
  clear D0
  refine region_lazy (S := Qt w w.heap.size a b) (v := .agg (cells8 R)) (ty := 157) (zs := #[.int .u64 0, .int .u64 0, .int .u64 0, .int .u64 0, .int .u64 0, .int .u64 0, .int .u64 0, .int .u64 0]) (base := w.heap.size + 1 + 1 + 1 + 1) (l := [0, 1, 2, 3, 4, 5, 6]) (A := [8, 9]) (z := 7) (t := 10) (r := [11]) (by kernel_rfl) (by kernel_rfl) (by kernel_rfl) (by kernel_rfl) (by kernel_rfl) (by kernel_rfl) (by kernel_rfl) (by kernel_rfl) (by kernel_rfl) (by kernel_rfl) rfl rfl ?_ (fun _ _ h hb => h.keep hb) (fun _ h => h.r.lt) (unhide D1) ?_
  · intro i hi
    simp at hi
    rcases hi with rfl | rfl
    · exact ⟨_, rfl, rfl, fun a w => by go_simp⟩
    · exact ⟨_, rfl, rfl, fun a w => by go_simp⟩
  clear D1
  refine planB_read rfl rfl (fun u hS => exec_load8 75 (.tmp 2) hS.a rfl rfl Tryz.underlying75 rfl iWide) ?_
  refine planB_call (v := .agg (cells8 p)) (f := 159) (args := #[W a]) rfl rfl (fun u hS => by go_simp) (fun u hS => (unhide hA u).mono fun _ _ ⟨he, hb⟩ => ⟨he, hS.keep hb, hb⟩) ?_
  go_simp
  refine planB_read rfl rfl (fun u hS => exec_load8 75 (.tmp 3) hS.b rfl rfl Tryz.underlying75 rfl iWide) ?_
  refine planB_call (v := .agg (cells8 q)) (f := 159) (args := #[W b]) rfl rfl (fun u hS => by go_simp) (fun u hS => (unhide hB u).mono fun _ _ ⟨he, hb⟩ => ⟨he, hS.keep hb, hb⟩) ?_
  go_simp
  refine planB_call (v := .tuple #[.agg (cells8 D), .agg (cells8 R)]) (f := 168) (args := #[W p, W q]) rfl rfl (fun u hS => by go_simp) (fun u hS => (unhide hDv u).mono fun _ _ ⟨he, hb⟩ => ⟨he, hS.keep hb, hb⟩) ?_
  go_simp
  refine planB_read (v := ?_) rfl rfl (fun u hS => by go_simp; rfl) ?_
  go_simp
  refine planB_read (v := ?_) rfl rfl (fun u hS => by go_simp; rfl) ?_
  go_simp
  refine planB_lazy rfl (fun u => by go_simp) rfl rfl (fun c u hS hB hI => ?_)
  have hB8 := hB 8 (by simp)
  have hB9 := hB 9 (by simp)
  have hne : c 8 ≠ c 9 := fun e => absurd (hI 8 (by simp) 9 (by simp) e) (by decide)
  clear hB hI
  simp only [pa, dstOf]
  generalize c 8 = c8 at hB8 hne ⊢
  generalize c 9 = c9 at hB9 hne ⊢
  have D3 : Hid (Qr w w.heap.size c8 c9 a b 0 0 u) := ⟨hS, cells8_0 ▸ hB8.1, cells8_0 ▸ hB9.1, hB8.2, hB9.2, hne⟩
  clear hS hB8 hB9 hne
  refine ⟨_, exec_store8 (n := D) 157 (.tmp 6) (.tmp 19) (unhide D3).d rfl rfl rfl rfl iLimbs, ?_⟩
  have D4 := hide ((unhide D3).putD D)
  clear D3
  generalize u.setRow c8 (cells8 D) = u1 at D4 ⊢
  simp only [opsOf]
  go_simp
  go_upto_region 4 with (refine st8 (n := R) 157 (.tmp 7) (.tmp 20) (unhide D4).r rfl rfl rfl rfl rfl iLimbs ?_)
  have D5 := hide ((unhide D4).putR R)
  clear D4
  generalize u1.setRow c9 (cells8 R) = u2 at D5 ⊢
  simp only [Act.put]
  refine region_plan (S := Qr w w.heap.size c8 c9 a b D R) (l := [0, 1, 2, 3, 4, 5]) (by kernel_rfl) (by kernel_rfl) (by kernel_rfl) (by kernel_rfl) (by kernel_rfl) (by kernel_rfl) (by kernel_rfl) ((unhide D5).drew) ?_
  clear D5
  refine plan_read rfl rfl (fun u hS => exec_load8 75 (.tmp 2) hS.t.a rfl rfl Tryz.underlying75 rfl iWide) ?_
  refine plan_call (v := .bool sa) (f := 154) (args := #[W a]) rfl rfl (fun u hS => by go_simp) (fun v hS => (unhide hNa v).mono fun _ _ ⟨he, hb⟩ => ⟨he, hS.keep hb⟩) ?_
  go_simp
  refine plan_read rfl rfl (fun u hS => exec_load8 75 (.tmp 3) hS.t.b rfl rfl Tryz.underlying75 rfl iWide) ?_
  refine plan_call (v := .bool sb) (f := 154) (args := #[W b]) rfl rfl (fun u hS => by go_simp) (fun v hS => (unhide hNb v).mono fun _ _ ⟨he, hb⟩ => ⟨he, hS.keep hb⟩) ?_
  go_simp
  refine plan_read (v := .bool un) rfl rfl (fun v hS => by rw [← unhide hu]; go_simp) ?_
  go_simp
  refine plan_read (v := ?_) rfl rfl (fun u hS => by go_simp; rfl) ?_
  refine plan_end (fun u3 hS => ?_)
  go_simp
  have D6 := hide hS
  clear hS
  cases un
  · have hz := unhide hno (by rw [← unhide hadj]; rfl)
    obtain ⟨h1, h2⟩ := hz
    subst h1 h2
    go_upto_region 8 with fail
    have D8 := hide (unhide D6).drew
    clear D6
    cases bs
    · refine region_allocs (S := Qr w w.heap.size c8 c9 a b D' R') (t := 157) (z := #[]) (base := 0) (l := [0, 1, 2, 3, 4, 5, 6]) (A := []) (T := [7, 8]) (by kernel_rfl) (by kernel_rfl) (by kernel_rfl) (by kernel_rfl) (by kernel_rfl) (by kernel_rfl) (by kernel_rfl) (by kernel_rfl) (by kernel_rfl) (by kernel_rfl) (fun i hi => by cases hi) (fun _ _ h hb => h.keep hb) (fun _ _ => Nat.zero_le _) (unhide D8) ?_
      clear D8
      refine planB_read rfl rfl (fun u hS => exec_load8 157 (.tmp 6) hS.d rfl rfl Tryz.underlying157 rfl iLimbs) ?_
      refine planB_read (v := ?_) rfl rfl (fun u hS => by go_simp; rfl) ?_
      go_simp
      refine planB_call (v := .agg (cells8 n)) (f := 155) (args := #[W D', .bool false]) rfl rfl (fun u hS => by go_simp) (fun v hS => (unhide hG v).mono fun _ _ ⟨he, hb⟩ => ⟨Ends.no he, hS.keep hb, hb⟩) ?_
      go_simp
      refine planB_read rfl rfl (fun u hS => exec_load8 157 (.tmp 7) hS.r rfl rfl Tryz.underlying157 rfl iLimbs) ?_
      refine planB_read rfl rfl (fun u hS => exec_load8 75 (.tmp 3) hS.t.b rfl rfl Tryz.underlying75 rfl iWide) ?_
      go_simp
      refine planB_call (v := .bool sb) (f := 154) (args := #[W b]) rfl rfl (fun u hS => by go_simp) (fun v hS => (unhide hNb v).mono fun _ _ ⟨he, hb⟩ => ⟨he, hS.keep hb, hb⟩) ?_
      go_simp
      refine planB_call (v := .agg (cells8 m)) (f := 155) (args := #[W R', .bool sb]) rfl rfl (fun u hS => by go_simp) (fun v hS => (unhide hG2 v).mono fun _ _ ⟨he, hb⟩ => ⟨he, hS.keep hb, hb⟩) ?_
      go_simp
      refine planB_tail (fun c v hS _ _ => ?_)
      simp only [pa, opsOf]
      have D9 := hide hS.t
      clear hS
      go_simp
      go_wp2_with (first
        | refine st8 (n := n) 75 (.tmp 4) (.tmp 41) (unhide D9).q rfl rfl rfl rfl rfl iWide ?_
        | refine st8 (n := m) 75 (.tmp 5) (.tmp 45) ((unhide D9).r.rowOther _ (by omega)) rfl rfl rfl rfl rfl iWide ?_)
      exact res88 (((unhide D9).q.row _).rowOther _ (by omega)) (((unhide D9).r.rowOther _ (by omega)).row _) rfl rfl rfl rfl Tryz.underlying75 rfl iWide ⟨rfl, below_row (below_row (unhide D9).o (by omega) _) (by omega) _⟩
    · refine region_dies (S := Qr w w.heap.size c8 c9 a b D' R') (f := 2) (F := [2, 5, 6, 7, 8]) (l := [0, 1, 3, 4]) (by kernel_rfl) (by kernel_rfl) (by kernel_rfl) (by kernel_rfl) (by kernel_rfl) (by kernel_rfl) (by kernel_rfl) (by kernel_rfl) (by kernel_rfl) (by kernel_rfl) (by kernel_rfl) (by kernel_rfl) rfl (unhide D8) ?_
      clear D8
      refine plan_read rfl rfl (fun u hS => exec_load8 157 (.tmp 6) hS.d rfl rfl Tryz.underlying157 rfl iLimbs) ?_
      refine plan_read (v := ?_) rfl rfl (fun u hS => by go_simp; rfl) ?_
      go_simp
      refine plan_read rfl rfl (fun u hS => exec_load8 157 (.tmp 7) hS.r rfl rfl Tryz.underlying157 rfl iLimbs) ?_
      refine plan_read rfl rfl (fun u hS => exec_load8 75 (.tmp 3) hS.t.b rfl rfl Tryz.underlying75 rfl iWide) ?_
      go_simp
      refine plan_dies (f := 155) (args := #[W D', .bool false]) (ch := noAnswer) rfl (fun u hS => by go_simp) (fun v hS => (unhide hG v).mono fun _ _ ⟨he, hb⟩ => ⟨Ends.yes he, fun _ hd => ⟨hd, rfl, (hS.keep hb).t.o⟩⟩)
  · cases hR : same R 0
    · have hadj' : adj = true := by rw [← unhide hadj, hR]; rfl
      have hP' := hide (unhide hP hadj')
      have hM' := hide (unhide hMi hadj')
      clear hP hMi hadj hno hadj'
      go_upto_region 7 with (first
        | refine ld8w 157 (.tmp 7) (unhide D6).r rfl rfl rfl Tryz.underlying157 rfl iLimbs ?_
        | refine wpList_valuew rfl (exec_build0 _ 157 rfl bLimbs0) ?_
        | refine wpList_valuew rfl (exec_neq_limbs_is (n := R) (m := 0) (b := false) _ (.tmp 28) (.tmp 29) hR rfl rfl rfl) ?_
        | refine ld8 157 (.tmp 6) (unhide D6).d rfl rfl rfl Tryz.underlying157 rfl iLimbs ?_
        | refine bd1 157 (.const (.int .u64 1)) rfl rfl rfl bOne ?_
        | (go_at_call 162; refine (unhide hP' _).mono ?_; rintro e u4 ⟨he, hb4⟩; subst he)
        | refine st8 (n := D') 157 (.tmp 6) (.tmp 34) ((unhide D6).keep hb4).d rfl rfl rfl rfl rfl iLimbs ?_)
      have D7 := hide (((unhide D6).keep hb4).putD D')
      clear D6 hb4
      generalize u4.setRow c8 (cells8 D') = u5 at D7 ⊢
      simp only [Act.put]
      refine region_last (S := Qr w w.heap.size c8 c9 a b D' R) (f := 4) (l := [0, 1, 2, 3]) (by kernel_rfl) (by kernel_rfl) (by kernel_rfl) (by kernel_rfl) (by kernel_rfl) (by kernel_rfl) (by kernel_rfl) (by kernel_rfl) (by kernel_rfl) (by kernel_rfl) rfl rfl ((unhide D7).drew) ?_
      clear D7
      refine plan_read rfl rfl (fun u hS => exec_load8 75 (.tmp 3) hS.t.b rfl rfl Tryz.underlying75 rfl iWide) ?_
      refine plan_call (v := .agg (cells8 q)) (f := 159) (args := #[W b]) rfl rfl (fun u hS => by go_simp) (fun v hS => (unhide hB v).mono fun _ _ ⟨he, hb⟩ => ⟨he, hS.keep hb⟩) ?_
      go_simp
      refine plan_read rfl rfl (fun u hS => exec_load8 157 (.tmp 7) hS.r rfl rfl Tryz.underlying157 rfl iLimbs) ?_
      refine plan_call (v := .agg (cells8 R')) (f := 169) (args := #[W q, W R]) rfl rfl (fun u hS => by go_simp) (fun v hS => (unhide hM' v).mono fun _ _ ⟨he, hb⟩ => ⟨he, hS.keep hb⟩) ?_
      go_simp
      refine plan_last (fun u6 hS => ?_)
      refine wp_store_row 157 (.tmp 7) (.tmp 38) rfl _ (cells8 R') rfl rfl 157 _ hS.r iLimbs rfl (cells8_one _) ?_
      have D8' := hide (hS.putR R')
      clear hS
      go_upto_region 8 with fail
      have D8 := hide (unhide D8').drew
      clear D8'
      cases bs
      · refine region_allocs (S := Qr w w.heap.size c8 c9 a b D' R') (t := 157) (z := #[]) (base := 0) (l := [0, 1, 2, 3, 4, 5, 6]) (A := []) (T := [7, 8]) (by kernel_rfl) (by kernel_rfl) (by kernel_rfl) (by kernel_rfl) (by kernel_rfl) (by kernel_rfl) (by kernel_rfl) (by kernel_rfl) (by kernel_rfl) (by kernel_rfl) (fun i hi => by cases hi) (fun _ _ h hb => h.keep hb) (fun _ _ => Nat.zero_le _) (unhide D8) ?_
        clear D8
        refine planB_read rfl rfl (fun u hS => exec_load8 157 (.tmp 6) hS.d rfl rfl Tryz.underlying157 rfl iLimbs) ?_
        refine planB_read (v := ?_) rfl rfl (fun u hS => by go_simp; rfl) ?_
        go_simp
        refine planB_call (v := .agg (cells8 n)) (f := 155) (args := #[W D', .bool true]) rfl rfl (fun u hS => by go_simp) (fun v hS => (unhide hG v).mono fun _ _ ⟨he, hb⟩ => ⟨Ends.no he, hS.keep hb, hb⟩) ?_
        go_simp
        refine planB_read rfl rfl (fun u hS => exec_load8 157 (.tmp 7) hS.r rfl rfl Tryz.underlying157 rfl iLimbs) ?_
        refine planB_read rfl rfl (fun u hS => exec_load8 75 (.tmp 3) hS.t.b rfl rfl Tryz.underlying75 rfl iWide) ?_
        go_simp
        refine planB_call (v := .bool sb) (f := 154) (args := #[W b]) rfl rfl (fun u hS => by go_simp) (fun v hS => (unhide hNb v).mono fun _ _ ⟨he, hb⟩ => ⟨he, hS.keep hb, hb⟩) ?_
        go_simp
        refine planB_call (v := .agg (cells8 m)) (f := 155) (args := #[W R', .bool sb]) rfl rfl (fun u hS => by go_simp) (fun v hS => (unhide hG2 v).mono fun _ _ ⟨he, hb⟩ => ⟨he, hS.keep hb, hb⟩) ?_
        go_simp
        refine planB_tail (fun c v hS _ _ => ?_)
        simp only [pa, opsOf]
        have D9 := hide hS.t
        clear hS
        go_simp
        go_wp2_with (first
          | refine st8 (n := n) 75 (.tmp 4) (.tmp 41) (unhide D9).q rfl rfl rfl rfl rfl iWide ?_
          | refine st8 (n := m) 75 (.tmp 5) (.tmp 45) ((unhide D9).r.rowOther _ (by omega)) rfl rfl rfl rfl rfl iWide ?_)
        exact res88 (((unhide D9).q.row _).rowOther _ (by omega)) (((unhide D9).r.rowOther _ (by omega)).row _) rfl rfl rfl rfl Tryz.underlying75 rfl iWide ⟨rfl, below_row (below_row (unhide D9).o (by omega) _) (by omega) _⟩
      · refine region_dies (S := Qr w w.heap.size c8 c9 a b D' R') (f := 2) (F := [2, 5, 6, 7, 8]) (l := [0, 1, 3, 4]) (by kernel_rfl) (by kernel_rfl) (by kernel_rfl) (by kernel_rfl) (by kernel_rfl) (by kernel_rfl) (by kernel_rfl) (by kernel_rfl) (by kernel_rfl) (by kernel_rfl) (by kernel_rfl) (by kernel_rfl) rfl (unhide D8) ?_
        clear D8
        refine plan_read rfl rfl (fun u hS => exec_load8 157 (.tmp 6) hS.d rfl rfl Tryz.underlying157 rfl iLimbs) ?_
        refine plan_read (v := ?_) rfl rfl (fun u hS => by go_simp; rfl) ?_
        go_simp
        refine plan_read rfl rfl (fun u hS => exec_load8 157 (.tmp 7) hS.r rfl rfl Tryz.underlying157 rfl iLimbs) ?_
        refine plan_read rfl rfl (fun u hS => exec_load8 75 (.tmp 3) hS.t.b rfl rfl Tryz.underlying75 rfl iWide) ?_
        go_simp
        refine plan_dies (f := 155) (args := #[W D', .bool true]) (ch := noAnswer) rfl (fun u hS => by go_simp) (fun v hS => (unhide hG v).mono fun _ _ ⟨he, hb⟩ => ⟨Ends.yes he, fun _ hd => ⟨hd, rfl, (hS.keep hb).t.o⟩⟩)
    · have hz := unhide hno (by rw [← unhide hadj, hR]; rfl)
      obtain ⟨h1, h2⟩ := hz
      subst h1 h2
      go_upto_region 8 with (first
        | refine ld8w 157 (.tmp 7) (unhide D6).r rfl rfl rfl Tryz.underlying157 rfl iLimbs ?_
        | refine wpList_valuew rfl (exec_build0 _ 157 rfl bLimbs0) ?_
        | refine wpList_valuew rfl (exec_neq_limbs_is (n := R') (m := 0) (b := true) _ (.tmp 28) (.tmp 29) hR rfl rfl rfl) ?_)
      have D8 := hide (unhide D6).drew
      clear D6
      cases bs
      · refine region_allocs (S := Qr w w.heap.size c8 c9 a b D' R') (t := 157) (z := #[]) (base := 0) (l := [0, 1, 2, 3, 4, 5, 6]) (A := []) (T := [7, 8]) (by kernel_rfl) (by kernel_rfl) (by kernel_rfl) (by kernel_rfl) (by kernel_rfl) (by kernel_rfl) (by kernel_rfl) (by kernel_rfl) (by kernel_rfl) (by kernel_rfl) (fun i hi => by cases hi) (fun _ _ h hb => h.keep hb) (fun _ _ => Nat.zero_le _) (unhide D8) ?_
        clear D8
        refine planB_read rfl rfl (fun u hS => exec_load8 157 (.tmp 6) hS.d rfl rfl Tryz.underlying157 rfl iLimbs) ?_
        refine planB_read (v := ?_) rfl rfl (fun u hS => by go_simp; rfl) ?_
        go_simp
        refine planB_call (v := .agg (cells8 n)) (f := 155) (args := #[W D', .bool true]) rfl rfl (fun u hS => by go_simp) (fun v hS => (unhide hG v).mono fun _ _ ⟨he, hb⟩ => ⟨Ends.no he, hS.keep hb, hb⟩) ?_
        go_simp
        refine planB_read rfl rfl (fun u hS => exec_load8 157 (.tmp 7) hS.r rfl rfl Tryz.underlying157 rfl iLimbs) ?_
        refine planB_read rfl rfl (fun u hS => exec_load8 75 (.tmp 3) hS.t.b rfl rfl Tryz.underlying75 rfl iWide) ?_
        go_simp
        refine planB_call (v := .bool sb) (f := 154) (args := #[W b]) rfl rfl (fun u hS => by go_simp) (fun v hS => (unhide hNb v).mono fun _ _ ⟨he, hb⟩ => ⟨he, hS.keep hb, hb⟩) ?_
        go_simp
        refine planB_call (v := .agg (cells8 m)) (f := 155) (args := #[W R', .bool sb]) rfl rfl (fun u hS => by go_simp) (fun v hS => (unhide hG2 v).mono fun _ _ ⟨he, hb⟩ => ⟨he, hS.keep hb, hb⟩) ?_
        go_simp
        refine planB_tail (fun c v hS _ _ => ?_)
        simp only [pa, opsOf]
        have D9 := hide hS.t
        clear hS
        go_simp
        go_wp2_with (first
          | refine st8 (n := n) 75 (.tmp 4) (.tmp 41) (unhide D9).q rfl rfl rfl rfl rfl iWide ?_
          | refine st8 (n := m) 75 (.tmp 5) (.tmp 45) ((unhide D9).r.rowOther _ (by omega)) rfl rfl rfl rfl rfl iWide ?_)
        exact res88 (((unhide D9).q.row _).rowOther _ (by omega)) (((unhide D9).r.rowOther _ (by omega)).row _) rfl rfl rfl rfl Tryz.underlying75 rfl iWide ⟨rfl, below_row (below_row (unhide D9).o (by omega) _) (by omega) _⟩
      · refine region_dies (S := Qr w w.heap.size c8 c9 a b D' R') (f := 2) (F := [2, 5, 6, 7, 8]) (l := [0, 1, 3, 4]) (by kernel_rfl) (by kernel_rfl) (by kernel_rfl) (by kernel_rfl) (by kernel_rfl) (by kernel_rfl) (by kernel_rfl) (by kernel_rfl) (by kernel_rfl) (by kernel_rfl) (by kernel_rfl) (by kernel_rfl) rfl (unhide D8) ?_
        clear D8
        refine plan_read rfl rfl (fun u hS => exec_load8 157 (.tmp 6) hS.d rfl rfl Tryz.underlying157 rfl iLimbs) ?_
        refine plan_read (v := ?_) rfl rfl (fun u hS => by go_simp; rfl) ?_
        go_simp
        refine plan_read rfl rfl (fun u hS => exec_load8 157 (.tmp 7) hS.r rfl rfl Tryz.underlying157 rfl iLimbs) ?_
        refine plan_read rfl rfl (fun u hS => exec_load8 75 (.tmp 3) hS.t.b rfl rfl Tryz.underlying75 rfl iWide) ?_
        go_simp
        refine plan_dies (f := 155) (args := #[W D', .bool true]) (ch := noAnswer) rfl (fun u hS => by go_simp) (fun v hS => (unhide hG v).mono fun _ _ ⟨he, hb⟩ => ⟨Ends.yes he, fun _ hd => ⟨hd, rfl, (hS.keep hb).t.o⟩⟩)

end Go.Proofs.YtnemedgdhojhdaaGreat

namespace Go.Proofs.YtnemedgdhojhdaaGreat
open Go.RowKit
set_option maxRecDepth 4000

/-- Is one more taken, as what is left lies on the other side? -/
def more (x y : Int) : Bool := !(decide (x < 0) == decide (y < 0)) && !decide (x.natAbs % y.natAbs = 0)
def byN (x y : Int) : Nat := if more x y then x.natAbs / y.natAbs + 1 else x.natAbs / y.natAbs
def leftN (x y : Int) : Nat := if more x y then y.natAbs - x.natAbs % y.natAbs else x.natAbs % y.natAbs

theorem div_math (x y : Int) (hy : y ≠ 0) :
    (bif !(decide (x < 0) == decide (y < 0)) then -(byN x y : Int) else (byN x y : Int)) = x.fdiv y ∧ (bif decide (y < 0) then -(leftN x y : Int) else (leftN x y : Int)) = x.fmod y := by
  have hq : 0 < y.natAbs := by omega
  have h1 := Nat.div_add_mod x.natAbs y.natAbs
  have h2 := Nat.mod_lt x.natAbs hq
  have h3 : ((x.natAbs : Nat) : Int) = (y.natAbs : Int) * ((x.natAbs / y.natAbs : Nat) : Int) + ((x.natAbs % y.natAbs : Nat) : Int) := by
    rw [← Int.natCast_mul, ← Int.natCast_add, h1]
  unfold byN leftN more
  generalize x.natAbs / y.natAbs = D at *
  generalize x.natAbs % y.natAbs = R at *
  have e1 : (y.natAbs : Int) * ((D + 1 : Nat) : Int) = (y.natAbs : Int) * (D : Int) + (y.natAbs : Int) := by
    rw [Int.natCast_add, Int.mul_add]
    simp
  by_cases hx : x < 0 <;> by_cases hy0 : y < 0
  · have hu := (Int.fdiv_fmod_unique' (a := x) (b := y) (r := -(R : Int)) (q := (D : Int)) hy0).2 (by
      refine ⟨?_, by omega, by omega⟩
      rw [show y * (D : Int) = -((y.natAbs : Int) * (D : Int)) by rw [← Int.neg_mul, show -(y.natAbs : Int) = y by omega]]
      omega)
    simp [hx, hy0, hu.1, hu.2]
  · have hy1 : 0 < y := by omega
    by_cases hR : R = 0
    · have hu := (Int.fdiv_fmod_unique (a := x) (b := y) (r := (R : Int)) (q := -(D : Int)) hy1).2 (by
        refine ⟨?_, by omega, by omega⟩
        rw [Int.mul_neg, show y * (D : Int) = (y.natAbs : Int) * (D : Int) by rw [show (y.natAbs : Int) = y by omega]]
        omega)
      simp [hx, hy0, hu.1, hu.2, hR]
    · have hu := (Int.fdiv_fmod_unique (a := x) (b := y) (r := ((y.natAbs - R : Nat) : Int)) (q := -((D + 1 : Nat) : Int)) hy1).2 (by
        refine ⟨?_, by omega, by omega⟩
        have : y * -((D + 1 : Nat) : Int) = -((y.natAbs : Int) * ((D + 1 : Nat) : Int)) := by
          rw [Int.mul_neg, show y = (y.natAbs : Int) by omega, Int.natAbs_natCast]
        rw [this, e1]
        omega)
      simp only [hx, hy0, hR, decide_true, decide_false, show (true == false) = false from rfl, Bool.not_false, Bool.and_self, if_true, cond_true, cond_false]
      exact ⟨hu.1.symm, hu.2.symm⟩
  · by_cases hR : R = 0
    · have hu := (Int.fdiv_fmod_unique' (a := x) (b := y) (r := (R : Int)) (q := -(D : Int)) hy0).2 (by
        refine ⟨?_, by omega, by omega⟩
        rw [Int.mul_neg, show y * (D : Int) = -((y.natAbs : Int) * (D : Int)) by rw [← Int.neg_mul, show -(y.natAbs : Int) = y by omega]]
        omega)
      simp [hx, hy0, hu.1, hu.2, hR]
    · have hu := (Int.fdiv_fmod_unique' (a := x) (b := y) (r := -((y.natAbs - R : Nat) : Int)) (q := -((D + 1 : Nat) : Int)) hy0).2 (by
        refine ⟨?_, by omega, by omega⟩
        have : y * -((D + 1 : Nat) : Int) = (y.natAbs : Int) * ((D + 1 : Nat) : Int) := by
          rw [Int.mul_neg, ← Int.neg_mul, show -y = (y.natAbs : Int) by omega]
        rw [this, e1]
        omega)
      simp only [hx, hy0, hR, decide_true, decide_false, show (false == true) = false from rfl, Bool.not_false, Bool.and_self, if_true, cond_true]
      exact ⟨hu.1.symm, hu.2.symm⟩
  · have hy1 : 0 < y := by omega
    have hu := (Int.fdiv_fmod_unique (a := x) (b := y) (r := (R : Int)) (q := (D : Int)) hy1).2 (by
      refine ⟨?_, by omega, by omega⟩
      rw [show y * (D : Int) = (y.natAbs : Int) * (D : Int) by rw [show (y.natAbs : Int) = y by omega]]
      omega)
    simp [hx, hy0, hu.1, hu.2]

theorem leftN_lt (x y : Int) (hy : y ≠ 0) : leftN x y < y.natAbs := by
  have h2 := Nat.mod_lt x.natAbs (show 0 < y.natAbs by omega)
  unfold leftN more
  split
  · rename_i h
    simp at h
    omega
  · omega
theorem byN_lt (x y : Int) (hx : Fit x) : byN x y < M := by
  have h1 := Nat.div_le_self x.natAbs y.natAbs
  have h2 := M_H
  have h3 := H_pos
  obtain ⟨h4, h5⟩ := hx
  have hH : 1 < H := by decide
  unfold byN
  split <;> omega

/-- What quotient ends in. -/
def EndsQ (x y : Int) (e : Ending) : Prop := e = if !fit (x.fdiv y) then .panicked noAnswer else .returned (.tuple #[V (x.fdiv y), V (x.fmod y)])

theorem quotientZ (x y : Int) (hx : Fit x) (hy : Fit y) (h0 : y ≠ 0) (w : World) :
    Calls Tryz.prog 137 #[V x, V y] w fun e w' => EndsQ x y e ∧ Below w.heap.size w w' := by
  obtain ⟨hq, hr⟩ := div_math x y h0
  have hq0 : 0 < y.natAbs := by omega
  have hpM := abs_lt hx
  have hqM := abs_lt hy
  have hRM : x.natAbs % y.natAbs < M := Nat.lt_trans (Nat.mod_lt _ hq0) hqM
  have hl := leftN_lt x y h0
  have hG2 := fun v => signedZ (leftN x y) (decide (y < 0)) (Nat.lt_trans hl hqM) v
  rw [hr] at hG2
  have hfm : Fit (x.fmod y) := by
    obtain ⟨h1, h2⟩ := hy
    rw [← hr]
    by_cases h : y < 0
    · simp only [h, decide_true, cond_true]; constructor <;> omega
    · simp only [h, decide_false, cond_false]; constructor <;> omega
  have hG := fun v => signedZ (byN x y) (!(decide (x < 0) == decide (y < 0))) (byN_lt x y hx) v
  rw [hq] at hG
  have hadj : ((!(decide (x < 0) == decide (y < 0))) && !same (x.natAbs % y.natAbs) 0) = more x y := by
    rw [same_nat hRM M_pos]
    rfl
  refine (quotient_core (enc x) (enc y) x.natAbs y.natAbs (x.natAbs / y.natAbs) (x.natAbs % y.natAbs) (byN x y) (leftN x y) (enc (x.fdiv y)) (enc (x.fmod y)) (decide (x < 0)) (decide (y < 0)) _ (more x y) (!fit (x.fdiv y)) w ?_ rfl hadj (sizeZ x hx) (sizeZ y hy) (fun u => divide_any _ _ u hpM hqM hq0) (belowZ x hx) (belowZ y hy) ?_ ?_ ?_ (fun v => (hG v).mono fun _ _ ⟨he, hb⟩ => ⟨he.ends, hb⟩) ?_).mono fun e w' ⟨he, hb⟩ => ⟨he, hb⟩
  · show same (enc y) 0 = false
    have := same_enc hy fit_zero
    rw [show enc 0 = 0 from rfl] at this
    rw [this]
    simpa using h0
  · intro h
    unfold byN leftN
    rw [h]
    exact ⟨rfl, rfl⟩
  · intro h u
    have := plus_any (x.natAbs / y.natAbs) 1 u
    unfold byN
    rw [h]
    exact this
  · intro h u
    have h7 := minus_core y.natAbs (x.natAbs % y.natAbs) (M - 1 - x.natAbs % y.natAbs) (fun k hk => xor_lm _ k hRM hk) u
    refine h7.mono fun e w' ⟨he, hb⟩ => ⟨?_, hb⟩
    rw [he]
    unfold leftN
    rw [h]
    congr 2
    apply cells8_congr
    have hle := Nat.le_of_lt (Nat.mod_lt x.natAbs hq0)
    rw [show y.natAbs + (M - 1 - x.natAbs % y.natAbs) + 1 = (y.natAbs - x.natAbs % y.natAbs) + M by omega, Nat.add_mod_right]
    rfl
  · intro v
    refine (hG2 v).mono fun e w' ⟨he, hb⟩ => ⟨?_, hb⟩
    unfold EndsZ at he
    rw [fit_true hfm] at he
    exact he

end Go.Proofs.YtnemedgdhojhdaaGreat

namespace Go.Proofs.YtnemedgdhojhdaaGreat
open Go.RowKit
set_option maxRecDepth 4000

section
variable {P : Program} {ops : Array Oper} {S : Bool → World → Prop} {t : Nat} {E : Act → Prop}
/-- The store that turns the world. -/
theorem planT_store {r : List Nat} {a : Act} {o : Oper} (ho : ops[t]? = some o) (hw : Region.wanted o (yielded ops a.tmps) = true)
    (h : ∀ w, S false w → ∃ w', (execOp a.eval o).run P w = .ok .skip w' ∧ S true w') (hr : PlanT P ops S t E r (a.put o.dst undef)) : PlanT P ops S t E (t :: r) a :=
  ⟨o, undef, ho, fun b c h1 _ => .inl ⟨hw, fun w hS => by obtain ⟨rfl, rfl⟩ := h1 rfl; obtain ⟨w', h3, h4⟩ := h w hS; rw [h3]; exact ⟨rfl, h4⟩⟩, hr⟩
/-- A store that leaves both. -/
theorem planT_put {i : Nat} {r : List Nat} {a : Act} {o : Oper} (ho : ops[i]? = some o) (hi : i ≠ t) (hw : Region.wanted o (yielded ops a.tmps) = true)
    (h : ∀ b w, S b w → ∃ w', (execOp a.eval o).run P w = .ok .skip w' ∧ S b w') (hr : PlanT P ops S t E r (a.put o.dst undef)) : PlanT P ops S t E (i :: r) a :=
  ⟨o, undef, ho, fun b c _ h2 => .inl ⟨hw, fun w hS => by obtain ⟨w', h3, h4⟩ := h b w hS; rw [h3, h2 hi]; exact ⟨rfl, h4⟩⟩, hr⟩
end

theorem But.row {B g k : Nat} {a w : World} (h : But B g a w) (hk : k = g ∨ B ≤ k) (cs : Array Value) : But B g a (w.setRow k cs) :=
  ⟨h.os, h.tape, h.output, by have := h.size; simpa using this, fun i hi hne => (setRow_other w k i cs (by omega)).trans (h.block i hi hne)⟩
theorem But.alloc {B g : Nat} {a w : World} (h : But B g a w) (hB : B ≤ w.heap.size) (o : Obj) : But B g a (w.alloc o) :=
  h.trans (But.of_below ((Below.refl _ _).alloc hB _))

/-- What Div's own function knows of its blocks. -/
structure Di (w0 : World) (c l : Nat) (w : World) : Prop where
  r : Blk w w0.heap.size 75 (cells8 0)
  k : Blk w c 75 (cells8 l)
  b : But w0.heap.size c w0 w
  lt : c < w0.heap.size
theorem Di.keep {w0 w w' : World} {k l : Nat} (h : Di w0 k l w) (hb : Below w.heap.size w w') : Di w0 k l w' :=
  ⟨h.r.below hb h.r.lt, h.k.below hb h.k.lt, h.b.trans (But.of_below (hb.mono h.b.size)), h.lt⟩
theorem Di.put {w0 w : World} {k l : Nat} (h : Di w0 k l w) (n : Nat) : Di w0 k n (w.setRow k (cells8 n)) :=
  ⟨h.r.rowOther _ (by have := h.lt; omega), h.k.row _, h.b.row (.inl rfl) _, h.lt⟩

theorem Div1_core (a b n m : Nat) (bs : Bool) (g h k : Nat) (w : World) (HX : Hid (Blk w g 75 (cells8 a))) (HY : Hid (Blk w h 75 (cells8 b))) (HL : Hid (Blk w k 75 (cells8 0)))
    (hS : Hid (∀ u, Calls Tryz.prog 137 #[W a, W b] u fun e w' => (e = if bs then .panicked noAnswer else .returned (.tuple #[.agg (cells8 n), .agg (cells8 m)])) ∧ Below u.heap.size u w')) :
    Calls Tryz.prog 136 #[.pointer (some ⟨g, 0, none⟩), .pointer (some ⟨h, 0, none⟩), .pointer (some ⟨k, 0, none⟩)] w fun e w' => Ends bs n e ∧ Blk w' k 75 (cells8 (bif bs then 0 else m)) ∧ But w.heap.size k w w' := by
  have D0 : Hid (Di w k 0 (w.alloc (.cells #[.int .u64 0, .int .u64 0, .int .u64 0, .int .u64 0, .int .u64 0, .int .u64 0, .int .u64 0, .int .u64 0] 75))) :=
    ⟨cells8_0 ▸ Blk.new _ _ _, (unhide HL).alloc _, But.of_below ((Below.refl _ _).alloc (Nat.le_refl _) _), (unhide HL).lt⟩
  cases bs
  · have hS' : Hid (∀ u, Calls Tryz.prog 137 #[W a, W b] u fun e w' => e = .returned (.tuple #[.agg (cells8 n), .agg (cells8 m)]) ∧ Below u.heap.size u w') := hS
    clear hS
    go_enter Tryz.func136, Tryz.ntmps136
    go_upto_region 2 with (first
      | refine ld8 75 (.tmp 0) ((unhide HX).alloc _) rfl rfl rfl Tryz.underlying75 rfl iWide ?_
      | refine ld8 75 (.tmp 1) ((unhide HY).alloc _) rfl rfl rfl Tryz.underlying75 rfl iWide ?_
      | (go_at_call 137; refine (unhide hS' _).mono ?_; rintro e w' ⟨he, hb⟩; subst he)
      | refine st8 (n := n) 75 (.tmp 4) (.tmp 10) (Blk.first2 w' 75 _ _) rfl rfl rfl rfl rfl iWide ?_
      | refine st8 (n := m) 75 (.tmp 5) (.tmp 11) ((Blk.second2 w' 75 _ _).rowOther _ (by omega)) rfl rfl rfl rfl rfl iWide ?_)
    have D1 := hide ((unhide D0).keep hb)
    have hsz : w.heap.size < w'.heap.size := (unhide D1).r.lt
    have D2 : Hid (Di w k 0 ((((w'.alloc (.cells #[.int .u64 0, .int .u64 0, .int .u64 0, .int .u64 0, .int .u64 0, .int .u64 0, .int .u64 0, .int .u64 0] 75)).alloc (.cells #[.int .u64 0, .int .u64 0, .int .u64 0, .int .u64 0, .int .u64 0, .int .u64 0, .int .u64 0, .int .u64 0] 75)).setRow w'.heap.size (cells8 n)).setRow (w'.heap.size + 1) (cells8 m))) :=
      ⟨(((((unhide D1).r.alloc _).alloc _).rowOther _ (by omega)).rowOther _ (by omega)), (((((unhide D1).k.alloc _).alloc _).rowOther _ (by have := (unhide D1).lt; omega)).rowOther _ (by have := (unhide D1).lt; omega)),
        (((((unhide D1).b.alloc (by omega) _).alloc (by simp; omega) _).row (.inr (by omega)) _).row (.inr (by omega)) _), (unhide D1).lt⟩
    have N2 : Hid (Blk ((((w'.alloc (.cells #[.int .u64 0, .int .u64 0, .int .u64 0, .int .u64 0, .int .u64 0, .int .u64 0, .int .u64 0, .int .u64 0] 75)).alloc (.cells #[.int .u64 0, .int .u64 0, .int .u64 0, .int .u64 0, .int .u64 0, .int .u64 0, .int .u64 0, .int .u64 0] 75)).setRow w'.heap.size (cells8 n)).setRow (w'.heap.size + 1) (cells8 m)) w'.heap.size 75 (cells8 n)) := ((Blk.first2 w' 75 _ _).row _).rowOther _ (by omega)
    have M2 : Hid (Blk ((((w'.alloc (.cells #[.int .u64 0, .int .u64 0, .int .u64 0, .int .u64 0, .int .u64 0, .int .u64 0, .int .u64 0, .int .u64 0] 75)).alloc (.cells #[.int .u64 0, .int .u64 0, .int .u64 0, .int .u64 0, .int .u64 0, .int .u64 0, .int .u64 0, .int .u64 0] 75)).setRow w'.heap.size (cells8 n)).setRow (w'.heap.size + 1) (cells8 m)) (w'.heap.size + 1) 75 (cells8 m)) := ((Blk.second2 w' 75 _ _).rowOther _ (by omega)).row _
    have hk : Hid (w'.heap.size ≠ k) := by show w'.heap.size ≠ k; have := (unhide D1).lt; omega
    clear D0 D1 hb HX HY HL hsz
    generalize (((w'.alloc (.cells #[.int .u64 0, .int .u64 0, .int .u64 0, .int .u64 0, .int .u64 0, .int .u64 0, .int .u64 0, .int .u64 0] 75)).alloc (.cells #[.int .u64 0, .int .u64 0, .int .u64 0, .int .u64 0, .int .u64 0, .int .u64 0, .int .u64 0, .int .u64 0] 75)).setRow w'.heap.size (cells8 n)).setRow (w'.heap.size + 1) (cells8 m) = u at D2 N2 M2 ⊢
    generalize w'.heap.size = d at N2 M2 hk ⊢
    go_wp2_with (first
      | refine ld8 75 (.tmp 5) (unhide M2) rfl rfl rfl Tryz.underlying75 rfl iWide ?_
      | refine st8 (n := m) 75 (.tmp 2) (.tmp 12) (unhide D2).k rfl rfl rfl rfl rfl iWide ?_
      | refine ld8 75 (.tmp 4) ((unhide N2).rowOther _ (unhide hk)) rfl rfl rfl Tryz.underlying75 rfl iWide ?_
      | refine st8 (n := n) 75 (.tmp 3) (.tmp 13) ((unhide D2).put m).r rfl rfl rfl rfl rfl iWide ?_)
    have hlt := (unhide D2).lt
    exact res8 (((unhide D2).put m).r.row _) rfl rfl rfl Tryz.underlying75 rfl iWide ⟨rfl, ((unhide D2).put m).k.rowOther _ (by omega), ((unhide D2).put m).b.row (.inr (Nat.le_refl _)) _⟩
  · have hS' : Hid (∀ u, Calls Tryz.prog 137 #[W a, W b] u fun e w' => e = .panicked noAnswer ∧ Below u.heap.size u w') := hS
    clear hS
    go_enter Tryz.func136, Tryz.ntmps136
    go_wp2_with (first
      | refine ld8 75 (.tmp 0) ((unhide HX).alloc _) rfl rfl rfl Tryz.underlying75 rfl iWide ?_
      | refine ld8 75 (.tmp 1) ((unhide HY).alloc _) rfl rfl rfl Tryz.underlying75 rfl iWide ?_
      | (go_at_call 137; refine (unhide hS' _).mono ?_; rintro e w' ⟨he, hb⟩; subst he))
    exact ⟨rfl, rfl, ((unhide D0).keep hb).k, ((unhide D0).keep hb).b⟩

/-- Two whole numbers out of their blocks, and a value out of its slot. -/
theorem res88s {P : Program} {fn : Func} {R : Ending → World → Prop} {p q s : Tmp} {ty : TypeId} {a : Act} {w : World} {n m g k : Nat} {t : TypeId} {d : TypeDesc} {v : Value}
    (hg : Blk w g t (cells8 n)) (hk : Blk w k t (cells8 m)) (h : fn.results = #[.cell p ty, .cell q ty, .tmp s]) (hp : a.tmps.getD p undef = .pointer (some ⟨g, 0, none⟩)) (hq : a.tmps.getD q undef = .pointer (some ⟨k, 0, none⟩)) (hs : a.tmps.getD s undef = v) (hdf : a.defers = [])
    (hu : P.underlying ty = some d) (hd : (match d with | .struct _ | .array _ _ => true | _ => false) = true) (hi : (P.info? ty).map (·.size) = some 8)
    (hR : R (.returned (.tuple #[.agg (cells8 n), .agg (cells8 m), v])) w) : bodyPost P fn R .ret a w := by
  refine bodyPost_ret ?_ hdf hR
  have hp' : a.tmps[p]?.getD undef = .pointer (some ⟨g, 0, none⟩) := by simpa using hp
  have hq' : a.tmps[q]?.getD undef = .pointer (some ⟨k, 0, none⟩) := by simpa using hq
  have hs' : a.tmps[s]?.getD undef = v := by simpa using hs
  simp [results, h, hp', hq', hs', asAddr, run_loadVar_row w g t ty (cells8 n) (0, 0) d hg hu hd hi, run_loadVar_row w k t ty (cells8 m) (0, 0) d hk hu hd hi, Result.andThen]

/-- face of Div's own function. -/
theorem face_div (w : World) (g h k n L : Nat) (bs : Bool) (hk : k < w.heap.size)
    (hc : ∀ u, Below w.heap.size w u → Calls Tryz.prog 136 #[ptr g, ptr h, ptr k] u fun e u' => Ends bs n e ∧ Blk u' k 75 (cells8 L) ∧ But u.heap.size k u u') :
    Calls Tryz.prog 129 #[.func (.func 136) #[] #[ptr g, ptr h, ptr k]] w fun e w' => e = .returned (told bs n) ∧ Blk w' k 75 (cells8 L) ∧ But w.heap.size k w w' := by
  refine face_any 136 _ w n bs (fun u => Blk u k 75 (cells8 L) ∧ But w.heap.size k w u) (fun _ => by simp [go_sem]) ?_ (fun u cs ⟨h1, h2⟩ => ⟨h1.rowOther _ (by omega), h2.row (.inr (Nat.le_refl _)) _⟩) (fun u v ⟨h1, h2⟩ => ⟨h1.other _ _ (by simp; omega), h2.setCell (.inr (by simp)) v⟩)
  refine (hc _ (below2 _ _ _)).mono fun e u' ⟨he, hl, hb⟩ => ⟨he, ⟨hl, (But.of_below (below2 _ _ _)).trans (hb.mono (by simp; omega))⟩, ?_, ?_⟩
  · exact cells8_0 ▸ (Blk.first2 w 75 _ _).but hb (Blk.first2 w 75 _ _).lt (by omega)
  · exact (Blk.second2 w 4 _ _).but hb (Blk.second2 w 4 _ _).lt (by omega)

/-- What Div knows of its blocks at its end. -/
structure De (w0 : World) (g n L : Nat) (b : Bool) (w : World) : Prop where
  q : Blk w (g + 1 + 1) 75 (cells8 n)
  r : Blk w (g + 1 + 1 + 1) 75 (cells8 (bif b then L else 0))
  l : Blk w (g + 1 + 1 + 1 + 1) 75 (cells8 L)
  o : Below g w0 w

set_option maxHeartbeats 1000000 in
theorem Div_core (a b n m : Nat) (bs : Bool) (w : World)
    (hS : Hid (∀ u, Calls Tryz.prog 137 #[W a, W b] u fun e w' => (e = if bs then .panicked noAnswer else .returned (.tuple #[.agg (cells8 n), .agg (cells8 m)])) ∧ Below u.heap.size u w')) :
    Calls Tryz.prog 97 #[W a, W b] w fun e w' => e = .returned (.tuple #[.agg (cells8 (bif bs then 0 else n)), .agg (cells8 (bif bs then 0 else m)), .bool (!bs)]) ∧ Below w.heap.size w w' := by
  have hmf : ∀ (fn : Fn) (first cap : Array Value) (w : World), (Instr.makeFunc fn first cap).run Tryz.prog w = .ok (.func fn first cap) w := fun _ _ _ _ => rfl
  obtain ⟨N, hN⟩ : ∃ N, N = bif bs then 0 else n := ⟨_, rfl⟩
  obtain ⟨L, hL⟩ : ∃ L, L = bif bs then 0 else m := ⟨_, rfl⟩
  obtain ⟨ok, hok⟩ : ∃ ok, ok = !bs := ⟨_, rfl⟩
  rw [← hN, ← hL, ← hok]
  have hF : Hid (∀ (u : World) (g h k : Nat), Blk u g 75 (cells8 a) → Blk u h 75 (cells8 b) → Blk u k 75 (cells8 0) → Calls Tryz.prog 129 #[.func (.func 136) #[] #[ptr g, ptr h, ptr k]] u fun e w' => e = .returned (.tuple #[.agg (cells8 N), .bool ok]) ∧ Blk w' k 75 (cells8 L) ∧ But u.heap.size k u w') := by
    intro u g h k bg bh bk
    refine (face_div u g h k n L bs bk.lt fun v hb => ?_).mono fun e w' ⟨he, h⟩ => ⟨?_, h⟩
    · rw [hL]
      exact Div1_core a b n m bs g h k v (bg.below hb bg.lt) (bh.below hb bh.lt) (bk.below hb bk.lt) hS
    · rw [he, hN, hok]
      cases bs <;> rfl
  clear hS hN hL hok
  go_enter Tryz.func97, Tryz.ntmps97
  go_upto_region 2 with fail
  have D0 := hide (Qt.start w a b)
  have L0 : Hid (Blk (((((w.alloc (.cells (cells8 a) 75)).alloc (.cells (cells8 b) 75)).alloc (.cells #[.int .u64 0, .int .u64 0, .int .u64 0, .int .u64 0, .int .u64 0, .int .u64 0, .int .u64 0, .int .u64 0] 75)).alloc (.cells #[.int .u64 0, .int .u64 0, .int .u64 0, .int .u64 0, .int .u64 0, .int .u64 0, .int .u64 0, .int .u64 0] 75)).alloc (.cells #[.int .u64 0, .int .u64 0, .int .u64 0, .int .u64 0, .int .u64 0, .int .u64 0, .int .u64 0, .int .u64 0] 75)) (w.heap.size + 1 + 1 + 1 + 1) 75 (cells8 0)) := cells8_0 ▸ Blk.at (by simp) rfl
  have D1 := hide ((unhide D0).keep ((Below.refl _ _).alloc (Nat.le_refl _) (.cells #[.int .u64 0, .int .u64 0, .int .u64 0, .int .u64 0, .int .u64 0, .int .u64 0, .int .u64 0, .int .u64 0] 75)))
  clear D0
  have hF1 := hide (unhide hF _ _ _ _ (unhide D1).a (unhide D1).b (unhide L0))
  clear hF
  generalize ((((w.alloc (.cells (cells8 a) 75)).alloc (.cells (cells8 b) 75)).alloc (.cells #[.int .u64 0, .int .u64 0, .int .u64 0, .int .u64 0, .int .u64 0, .int .u64 0, .int .u64 0, .int .u64 0] 75)).alloc (.cells #[.int .u64 0, .int .u64 0, .int .u64 0, .int .u64 0, .int .u64 0, .int .u64 0, .int .u64 0, .int .u64 0] 75)).alloc (.cells #[.int .u64 0, .int .u64 0, .int .u64 0, .int .u64 0, .int .u64 0, .int .u64 0, .int .u64 0, .int .u64 0] 75) = w1 at D1 L0 hF1 ⊢
  go_upto_region 3 with (first
    | (go_at_call 129; refine (unhide hF1).mono ?_; rintro e w2 ⟨he, hl2, hb2⟩; subst he)
    | refine st8 (n := N) 75 (.tmp 4) (.tmp 11) ((unhide D1).q.but hb2 (unhide D1).q.lt (by omega)) rfl rfl rfl rfl rfl iWide ?_)
  have D2 : Hid (De w w.heap.size N L false (w2.setRow (w.heap.size + 1 + 1) (cells8 N)).drew) :=
    ⟨(((unhide D1).q.but hb2 (unhide D1).q.lt (by omega)).row _).drew, (((unhide D1).r.but hb2 (unhide D1).r.lt (by omega)).rowOther _ (by omega)).drew, (hl2.rowOther _ (by omega)).drew,
      (below_row ((unhide D1).o.trans (hb2.below (by have := (unhide D1).a.lt; omega) (by omega))) (by omega) _).drew⟩
  clear D1 L0 hl2 hb2 hF1
  refine region_planT (t := 4) (S := De w w.heap.size N L) (l := [0, 1, 2, 3, 4, 5]) (by kernel_rfl) (by kernel_rfl) (by kernel_rfl) (by kernel_rfl) (by kernel_rfl) (by kernel_rfl) (by kernel_rfl) (by decide) (unhide D2) ?_
  clear D2
  refine planT_read rfl (by decide) rfl (fun b u hS => exec_load8 75 (.tmp 4) hS.q rfl rfl Tryz.underlying75 rfl iWide) ?_
  refine planT_read rfl (by decide) rfl (fun b u hS => exec_load8 75 (.tmp 7) hS.l rfl rfl Tryz.underlying75 rfl iWide) ?_
  refine planT_read (v := ?_) rfl (by decide) rfl (fun b u hS => by go_simp; rfl) ?_
  go_simp
  refine planT_put rfl (by decide) rfl (fun b u hS => ⟨_, exec_store8 (n := N) 75 (.tmp 4) (.tmp 13) hS.q rfl rfl rfl rfl iWide, ⟨hS.q.row _, hS.r.rowOther _ (by omega), hS.l.rowOther _ (by omega), below_row hS.o (by omega) _⟩⟩) ?_
  refine planT_store rfl rfl (fun u hS => ⟨_, exec_store8 (n := L) 75 (.tmp 5) (.tmp 14) hS.r rfl rfl rfl rfl iWide, ⟨hS.q.rowOther _ (by omega), hS.r.row _, hS.l.rowOther _ (by omega), below_row hS.o (by omega) _⟩⟩) ?_
  go_simp
  refine planT_read (v := ?_) rfl (by decide) rfl (fun b u hS => by go_simp; rfl) ?_
  go_simp
  refine planT_end (fun u hS => ?_)
  have HS := hide hS
  clear hS
  go_wp2
  exact res88s (unhide HS).q (unhide HS).r rfl rfl rfl rfl rfl Tryz.underlying75 rfl iWide ⟨rfl, (unhide HS).o⟩

end Go.Proofs.YtnemedgdhojhdaaGreat

namespace Go.Proofs.YtnemedgdhojhdaaGreat
open Go.RowKit
set_option maxRecDepth 4000

/-- Div has an answer. -/
def dq (x y : Int) : Bool := !decide (y = 0) && fit (x.fdiv y)
theorem DivZ (x y : Int) (hx : Fit x) (hy : Fit y) (w : World) :
    Calls Tryz.prog 97 #[V x, V y] w fun e w' => e = .returned (.tuple #[.agg (cells8 (bif dq x y then enc (x.fdiv y) else 0)), .agg (cells8 (bif dq x y then enc (x.fmod y) else 0)), .bool (dq x y)]) ∧ Below w.heap.size w w' := by
  by_cases h0 : y = 0
  · subst h0
    refine (Div_core (enc x) (enc 0) 0 0 true w fun u => ?_).mono fun e w' ⟨he, hb⟩ => ⟨?_, hb⟩
    · exact quotient_zero (enc x) u
    · rw [he]
      simp [dq]
  · refine (Div_core (enc x) (enc y) (enc (x.fdiv y)) (enc (x.fmod y)) (!fit (x.fdiv y)) w (quotientZ x y hx hy h0)).mono fun e w' ⟨he, hb⟩ => ⟨?_, hb⟩
    rw [he]
    unfold dq
    cases hf : fit (x.fdiv y) <;> simp [h0]

/-- The root, rounded down. -/
def isq : Nat → Nat
  | 0 => 0
  | x + 1 => if (isq x + 1) * (isq x + 1) ≤ x + 1 then isq x + 1 else isq x
theorem isq_spec : ∀ x, isq x * isq x ≤ x ∧ x < (isq x + 1) * (isq x + 1)
  | 0 => by decide
  | x + 1 => by
    obtain ⟨h1, h2⟩ := isq_spec x
    unfold isq
    split
    · rename_i h
      refine ⟨h, ?_⟩
      have : (isq x + 1) * (isq x + 1) ≤ (isq x + 1 + 1) * (isq x + 1 + 1) - 1 := by
        have e : (isq x + 1 + 1) * (isq x + 1 + 1) = (isq x + 1) * (isq x + 1) + 2 * (isq x + 1) + 1 := by
          rw [Nat.add_mul (isq x + 1) 1, Nat.mul_add (isq x + 1) (isq x + 1) 1]
          omega
        omega
      have e : (isq x + 1 + 1) * (isq x + 1 + 1) = (isq x + 1) * (isq x + 1) + 2 * (isq x + 1) + 1 := by
        rw [Nat.add_mul (isq x + 1) 1, Nat.mul_add (isq x + 1) (isq x + 1) 1]
        omega
      omega
    · exact ⟨by omega, by omega⟩
/-- A number of before, and the answer's block. -/
structure Sh1 (w0 : World) (g a : Nat) (w : World) : Prop where
  x : Blk w g 75 (cells8 a)
  r : Blk w w0.heap.size 75 (cells8 0)
  o : Below w0.heap.size w0 w
theorem Sh1.keep {w0 w w' : World} {g a : Nat} (h : Sh1 w0 g a w) (hb : Below w.heap.size w w') : Sh1 w0 g a w' :=
  ⟨h.x.below hb h.x.lt, h.r.below hb h.r.lt, h.o.trans (hb.mono h.o.size)⟩

end Go.Proofs.YtnemedgdhojhdaaGreat
