/- The contract of quotient of package wide: by a number, rounded down, and what is left. -/
import Derived.Test.YtnknejdmoghmiaaZd
import Derived.Test.YtnknejdmoghmiaaYy
namespace Go.Proofs.Ytnknejdmoghmiaa
open Go.RowKit
set_option maxRecDepth 4000

theorem exec_eql_wide_is {o : Oper} {a : Act} (w : World) (x y : Operand) {n m : Nat} {ty' : TypeId} {b : Bool} (hb : same n m = b) (ho : o.op = .binOp .eql 40 x y ty') (hx : a.eval x = .agg (cells8 n)) (hy : a.eval y = .agg (cells8 m)) :
    (execOp a.eval o).run Try.prog w = .ok (.value (.bool b)) w := hb ▸ exec_eql_wide w x y ho hx hy

/-- An operation whose guard says yes, and that ends in a value. -/
theorem wpList_valuew {P : Program} {ops : Array Oper} {rest : List Oper} {o : Oper} {a : Act} {w : World} {Q : Exit → Act → World → Prop} {v : Value} (hg : Region.wanted o (yielded ops a.tmps) = true)
    (he : (execOp a.eval o).run P w = .ok (.value v) w) (h : wpList P ops Q rest (a.put o.dst v) w) : wpList P ops Q (o :: rest) a w := by
  unfold wpList
  rw [if_pos hg]
  refine .inl ?_
  unfold Oper.wp
  rw [he]
  exact h

/-- What quotient knows of its blocks: both numbers, both answers. -/
structure Qt (w0 : World) (g a b : Nat) (w : World) : Prop where
  a : Blk w g 40 (cells8 a)
  b : Blk w (g + 1) 40 (cells8 b)
  q : Blk w (g + 1 + 1) 40 (cells8 0)
  r : Blk w (g + 1 + 1 + 1) 40 (cells8 0)
  o : Below g w0 w
theorem Qt.keep {w0 w w' : World} {g a b : Nat} (h : Qt w0 g a b w) (hb : Below w.heap.size w w') : Qt w0 g a b w' :=
  ⟨h.a.below hb h.a.lt, h.b.below hb h.b.lt, h.q.below hb h.q.lt, h.r.below hb h.r.lt, h.o.trans (hb.mono (Nat.le_of_lt h.a.lt))⟩
theorem Qt.row {w0 w : World} {g a b k : Nat} (h : Qt w0 g a b w) (hk : g + 1 + 1 + 1 + 1 ≤ k) (cs : Array Value) : Qt w0 g a b (w.setRow k cs) :=
  ⟨h.a.rowOther _ (by omega), h.b.rowOther _ (by omega), h.q.rowOther _ (by omega), h.r.rowOther _ (by omega), below_row h.o (by omega) _⟩
theorem Qt.start (w : World) (a b : Nat) : Qt w w.heap.size a b ((((w.alloc (.cells (cells8 a) 40)).alloc (.cells (cells8 b) 40)).alloc
    (.cells #[.int .u64 0, .int .u64 0, .int .u64 0, .int .u64 0, .int .u64 0, .int .u64 0, .int .u64 0, .int .u64 0] 40)).alloc (.cells #[.int .u64 0, .int .u64 0, .int .u64 0, .int .u64 0, .int .u64 0, .int .u64 0, .int .u64 0, .int .u64 0] 40)) :=
  ⟨(Blk.first3 _ _ _ _ _).alloc _, (Blk.second3 _ _ _ _ _).alloc _, cells8_0 ▸ (Blk.third3 _ _ _ _ _).alloc _, cells8_0 ▸ Blk.at (by simp) rfl, (below3 _ _ _ _).alloc (by simp; omega) _⟩

/-- And what was found so far. -/
structure Qr (w0 : World) (g c k a b D R : Nat) (w : World) : Prop where
  t : Qt w0 g a b w
  d : Blk w c 128 (cells8 D)
  r : Blk w k 128 (cells8 R)
  hc : g + 1 + 1 + 1 + 1 ≤ c
  hd : g + 1 + 1 + 1 + 1 ≤ k
  ne : c ≠ k
theorem Qr.keep {w0 w w' : World} {g c d a b D R : Nat} (h : Qr w0 g c d a b D R w) (hb : Below w.heap.size w w') : Qr w0 g c d a b D R w' :=
  ⟨h.t.keep hb, h.d.below hb h.d.lt, h.r.below hb h.r.lt, h.hc, h.hd, h.ne⟩
theorem Qr.drew {w0 w : World} {g c d a b D R : Nat} (h : Qr w0 g c d a b D R w) : Qr w0 g c d a b D R w.drew :=
  ⟨⟨h.t.a.drew, h.t.b.drew, h.t.q.drew, h.t.r.drew, h.t.o.drew⟩, h.d.drew, h.r.drew, h.hc, h.hd, h.ne⟩
theorem Qr.putD {w0 w : World} {g c d a b D R : Nat} (h : Qr w0 g c d a b D R w) (n : Nat) : Qr w0 g c d a b n R (w.setRow c (cells8 n)) :=
  ⟨h.t.row h.hc _, h.d.row _, h.r.rowOther _ h.ne.symm, h.hc, h.hd, h.ne⟩
theorem Qr.putR {w0 w : World} {g c d a b D R : Nat} (h : Qr w0 g c d a b D R w) (n : Nat) : Qr w0 g c d a b D n (w.setRow d (cells8 n)) :=
  ⟨h.t.row h.hd _, h.d.rowOther _ h.ne, h.r.row _, h.hc, h.hd, h.ne⟩

theorem quotient_zero (a : Nat) (w : World) :
    Calls Try.prog 104 #[W a, W 0] w fun e w' => e = .panicked noAnswer ∧ Below w.heap.size w w' := by
  go_enter Try.func104, Try.ntmps104
  go_upto_region 1 with fail
  have D0 := hide (Qt.start w a 0)
  go_wp2_with (first
    | refine ld8 40 (.tmp 3) (unhide D0).b rfl rfl rfl Try.underlying40 rfl iWide ?_
    | refine bd0 40 rfl rfl bWide0 ?_
    | refine wpList_value rfl (exec_eql_wide_is (n := 0) (m := 0) (b := true) _ (.tmp 9) (.tmp 10) rfl rfl rfl rfl) ?_)
  exact ⟨rfl, rfl, (unhide D0).o⟩

set_option maxHeartbeats 2000000 in
theorem quotient_core (a b p q D R D' R' n m : Nat) (sa sb un adj bs : Bool) (w : World) (h0 : Hid (same b 0 = false)) (hu : Hid ((!(sa == sb)) = un)) (hadj : Hid ((un && !same R 0) = adj))
    (hA : Hid (∀ u, Calls Try.prog 135 #[W a] u fun e w' => e = .returned (.agg (cells8 p)) ∧ Below u.heap.size u w'))
    (hB : Hid (∀ u, Calls Try.prog 135 #[W b] u fun e w' => e = .returned (.agg (cells8 q)) ∧ Below u.heap.size u w'))
    (hDv : Hid (∀ u, Calls Try.prog 149 #[W p, W q] u fun e w' => e = .returned (.tuple #[.agg (cells8 D), .agg (cells8 R)]) ∧ Below u.heap.size u w'))
    (hNa : Hid (∀ u, Calls Try.prog 99 #[W a] u fun e w' => e = .returned (.bool sa) ∧ Below u.heap.size u w'))
    (hNb : Hid (∀ u, Calls Try.prog 99 #[W b] u fun e w' => e = .returned (.bool sb) ∧ Below u.heap.size u w'))
    (hno : Hid (adj = false → D' = D ∧ R' = R))
    (hP : Hid (adj = true → ∀ u, Calls Try.prog 150 #[W D, W 1] u fun e w' => e = .returned (.agg (cells8 D')) ∧ Below u.heap.size u w'))
    (hMi : Hid (adj = true → ∀ u, Calls Try.prog 148 #[W q, W R] u fun e w' => e = .returned (.agg (cells8 R')) ∧ Below u.heap.size u w'))
    (hG : Hid (∀ v, Calls Try.prog 133 #[W D', .bool un] v fun e w' => Ends bs n e ∧ Below v.heap.size v w'))
    (hG2 : Hid (∀ v, Calls Try.prog 133 #[W R', .bool sb] v fun e w' => e = .returned (.agg (cells8 m)) ∧ Below v.heap.size v w')) :
    Calls Try.prog 104 #[W a, W b] w fun e w' => (e = if bs then .panicked noAnswer else .returned (.tuple #[.agg (cells8 n), .agg (cells8 m)])) ∧ Below w.heap.size w w' := by
  go_enter Try.func104, Try.ntmps104
  go_upto_region 1 with fail
  have D0 := hide (Qt.start w a b)
  go_upto_region 3 with (first
    | refine ld8 40 (.tmp 3) (unhide D0).b rfl rfl rfl Try.underlying40 rfl iWide ?_
    | refine bd0 40 rfl rfl bWide0 ?_
    | refine wpList_value rfl (exec_eql_wide_is (n := b) (m := 0) (b := false) _ (.tmp 9) (.tmp 10) (unhide h0) rfl rfl rfl) ?_)
  have D1 := hide (show Qt w w.heap.size a b _ from ⟨(unhide D0).a.drew, (unhide D0).b.drew, (unhide D0).q.drew, (unhide D0).r.drew, (unhide D0).o.drew⟩)
  clear D0
  refine region_lazy (S := Qt w w.heap.size a b) (v := .agg (cells8 R)) (ty := 128) (zs := #[.int .u64 0, .int .u64 0, .int .u64 0, .int .u64 0, .int .u64 0, .int .u64 0, .int .u64 0, .int .u64 0]) (base := w.heap.size + 1 + 1 + 1 + 1) (l := [0, 1, 2, 3, 4, 5, 6]) (A := [8, 9]) (z := 7) (t := 10) (r := [11]) (by kernel_rfl) (by kernel_rfl) (by kernel_rfl) (by kernel_rfl) (by kernel_rfl) (by kernel_rfl) (by kernel_rfl) (by kernel_rfl) (by kernel_rfl) (by kernel_rfl) rfl rfl ?_ (fun _ _ h hb => h.keep hb) (fun _ h => h.r.lt) (unhide D1) ?_
  · intro i hi
    simp at hi
    rcases hi with rfl | rfl
    · exact ⟨_, rfl, rfl, fun a w => by go_simp⟩
    · exact ⟨_, rfl, rfl, fun a w => by go_simp⟩
  clear D1
  refine planB_read rfl rfl (fun u hS => exec_load8 40 (.tmp 2) hS.a rfl rfl Try.underlying40 rfl iWide) ?_
  refine planB_call (v := .agg (cells8 p)) (f := 135) (args := #[W a]) rfl rfl (fun u hS => by go_simp) (fun u hS => (unhide hA u).mono fun _ _ ⟨he, hb⟩ => ⟨he, hS.keep hb, hb⟩) ?_
  go_simp
  refine planB_read rfl rfl (fun u hS => exec_load8 40 (.tmp 3) hS.b rfl rfl Try.underlying40 rfl iWide) ?_
  refine planB_call (v := .agg (cells8 q)) (f := 135) (args := #[W b]) rfl rfl (fun u hS => by go_simp) (fun u hS => (unhide hB u).mono fun _ _ ⟨he, hb⟩ => ⟨he, hS.keep hb, hb⟩) ?_
  go_simp
  refine planB_call (v := .tuple #[.agg (cells8 D), .agg (cells8 R)]) (f := 149) (args := #[W p, W q]) rfl rfl (fun u hS => by go_simp) (fun u hS => (unhide hDv u).mono fun _ _ ⟨he, hb⟩ => ⟨he, hS.keep hb, hb⟩) ?_
  go_simp
  refine planB_read (v := ?_) rfl rfl (fun u hS => by go_simp; rfl) ?_
  go_simp
  refine planB_read (v := ?_) rfl rfl (fun u hS => by go_simp; rfl) ?_
  go_simp
  refine planB_lazy rfl (fun u => by go_simp) rfl rfl (fun c u hS hB hI => ?_)
  have hB8 := hB 8 (by simp)
  have hB9 := hB 9 (by simp)
  have hne : c 8 ≠ c 9 := fun e => absurd (hI 8 (by simp) 9 (by simp) e) (by decide)
  clear hB hI
  simp only [pa, dstOf]
  generalize c 8 = c8 at hB8 hne ⊢
  generalize c 9 = c9 at hB9 hne ⊢
  have D3 : Hid (Qr w w.heap.size c8 c9 a b 0 0 u) := ⟨hS, cells8_0 ▸ hB8.1, cells8_0 ▸ hB9.1, hB8.2, hB9.2, hne⟩
  clear hS hB8 hB9 hne
  refine ⟨_, exec_store8 (n := D) 128 (.tmp 6) (.tmp 19) (unhide D3).d rfl rfl rfl rfl iLimbs, ?_⟩
  have D4 := hide ((unhide D3).putD D)
  clear D3
  generalize u.setRow c8 (cells8 D) = u1 at D4 ⊢
  simp only [opsOf]
  go_simp
  go_upto_region 4 with (refine st8 (n := R) 128 (.tmp 7) (.tmp 20) (unhide D4).r rfl rfl rfl rfl rfl iLimbs ?_)
  have D5 := hide ((unhide D4).putR R)
  clear D4
  generalize u1.setRow c9 (cells8 R) = u2 at D5 ⊢
  simp only [Act.put]
  refine region_plan (S := Qr w w.heap.size c8 c9 a b D R) (l := [0, 1, 2, 3, 4, 5]) (by kernel_rfl) (by kernel_rfl) (by kernel_rfl) (by kernel_rfl) (by kernel_rfl) (by kernel_rfl) (by kernel_rfl) ((unhide D5).drew) ?_
  clear D5
  refine plan_read rfl rfl (fun u hS => exec_load8 40 (.tmp 2) hS.t.a rfl rfl Try.underlying40 rfl iWide) ?_
  refine plan_call (v := .bool sa) (f := 99) (args := #[W a]) rfl rfl (fun u hS => by go_simp) (fun v hS => (unhide hNa v).mono fun _ _ ⟨he, hb⟩ => ⟨he, hS.keep hb⟩) ?_
  go_simp
  refine plan_read rfl rfl (fun u hS => exec_load8 40 (.tmp 3) hS.t.b rfl rfl Try.underlying40 rfl iWide) ?_
  refine plan_call (v := .bool sb) (f := 99) (args := #[W b]) rfl rfl (fun u hS => by go_simp) (fun v hS => (unhide hNb v).mono fun _ _ ⟨he, hb⟩ => ⟨he, hS.keep hb⟩) ?_
  go_simp
  refine plan_read (v := .bool un) rfl rfl (fun v hS => by rw [← unhide hu]; go_simp) ?_
  go_simp
  refine plan_read (v := ?_) rfl rfl (fun u hS => by go_simp; rfl) ?_
  refine plan_end (fun u3 hS => ?_)
  go_simp
  have D6 := hide hS
  clear hS
  cases un
  · have hz := unhide hno (by rw [← unhide hadj]; rfl)
    obtain ⟨h1, h2⟩ := hz
    subst h1 h2
    go_upto_region 8 with fail
    have D8 := hide (unhide D6).drew
    clear D6
    cases bs
    · refine region_allocs (S := Qr w w.heap.size c8 c9 a b D' R') (t := 128) (z := #[]) (base := 0) (l := [0, 1, 2, 3, 4, 5, 6]) (A := []) (T := [7, 8]) (by kernel_rfl) (by kernel_rfl) (by kernel_rfl) (by kernel_rfl) (by kernel_rfl) (by kernel_rfl) (by kernel_rfl) (by kernel_rfl) (by kernel_rfl) (by kernel_rfl) (fun i hi => by cases hi) (fun _ _ h hb => h.keep hb) (fun _ _ => Nat.zero_le _) (unhide D8) ?_
      clear D8
      refine planB_read rfl rfl (fun u hS => exec_load8 128 (.tmp 6) hS.d rfl rfl Try.underlying128 rfl iLimbs) ?_
      refine planB_read (v := ?_) rfl rfl (fun u hS => by go_simp; rfl) ?_
      go_simp
      refine planB_call (v := .agg (cells8 n)) (f := 133) (args := #[W D', .bool false]) rfl rfl (fun u hS => by go_simp) (fun v hS => (unhide hG v).mono fun _ _ ⟨he, hb⟩ => ⟨Ends.no he, hS.keep hb, hb⟩) ?_
      go_simp
      refine planB_read rfl rfl (fun u hS => exec_load8 128 (.tmp 7) hS.r rfl rfl Try.underlying128 rfl iLimbs) ?_
      refine planB_read rfl rfl (fun u hS => exec_load8 40 (.tmp 3) hS.t.b rfl rfl Try.underlying40 rfl iWide) ?_
      go_simp
      refine planB_call (v := .bool sb) (f := 99) (args := #[W b]) rfl rfl (fun u hS => by go_simp) (fun v hS => (unhide hNb v).mono fun _ _ ⟨he, hb⟩ => ⟨he, hS.keep hb, hb⟩) ?_
      go_simp
      refine planB_call (v := .agg (cells8 m)) (f := 133) (args := #[W R', .bool sb]) rfl rfl (fun u hS => by go_simp) (fun v hS => (unhide hG2 v).mono fun _ _ ⟨he, hb⟩ => ⟨he, hS.keep hb, hb⟩) ?_
      go_simp
      refine planB_tail (fun c v hS _ _ => ?_)
      simp only [pa, opsOf]
      have D9 := hide hS.t
      clear hS
      go_simp
      go_wp2_with (first
        | refine st8 (n := n) 40 (.tmp 4) (.tmp 41) (unhide D9).q rfl rfl rfl rfl rfl iWide ?_
        | refine st8 (n := m) 40 (.tmp 5) (.tmp 45) ((unhide D9).r.rowOther _ (by omega)) rfl rfl rfl rfl rfl iWide ?_)
      exact res88 (((unhide D9).q.row _).rowOther _ (by omega)) (((unhide D9).r.rowOther _ (by omega)).row _) rfl rfl rfl rfl Try.underlying40 rfl iWide ⟨rfl, below_row (below_row (unhide D9).o (by omega) _) (by omega) _⟩
    · refine region_dies (S := Qr w w.heap.size c8 c9 a b D' R') (f := 2) (F := [2, 5, 6, 7, 8]) (l := [0, 1, 3, 4]) (by kernel_rfl) (by kernel_rfl) (by kernel_rfl) (by kernel_rfl) (by kernel_rfl) (by kernel_rfl) (by kernel_rfl) (by kernel_rfl) (by kernel_rfl) (by kernel_rfl) (by kernel_rfl) (by kernel_rfl) rfl (unhide D8) ?_
      clear D8
      refine plan_read rfl rfl (fun u hS => exec_load8 128 (.tmp 6) hS.d rfl rfl Try.underlying128 rfl iLimbs) ?_
      refine plan_read (v := ?_) rfl rfl (fun u hS => by go_simp; rfl) ?_
      go_simp
      refine plan_read rfl rfl (fun u hS => exec_load8 128 (.tmp 7) hS.r rfl rfl Try.underlying128 rfl iLimbs) ?_
      refine plan_read rfl rfl (fun u hS => exec_load8 40 (.tmp 3) hS.t.b rfl rfl Try.underlying40 rfl iWide) ?_
      go_simp
      refine plan_dies (f := 133) (args := #[W D', .bool false]) (ch := noAnswer) rfl (fun u hS => by go_simp) (fun v hS => (unhide hG v).mono fun _ _ ⟨he, hb⟩ => ⟨Ends.yes he, fun _ hd => ⟨hd, rfl, (hS.keep hb).t.o⟩⟩)
  · cases hR : same R 0
    · have hadj' : adj = true := by rw [← unhide hadj, hR]; rfl
      have hP' := hide (unhide hP hadj')
      have hM' := hide (unhide hMi hadj')
      clear hP hMi hadj hno hadj'
      go_upto_region 7 with (first
        | refine ld8w 128 (.tmp 7) (unhide D6).r rfl rfl rfl Try.underlying128 rfl iLimbs ?_
        | refine wpList_valuew rfl (exec_build0 _ 128 rfl bLimbs0) ?_
        | refine wpList_valuew rfl (exec_neq_limbs_is (n := R) (m := 0) (b := false) _ (.tmp 28) (.tmp 29) hR rfl rfl rfl) ?_
        | refine ld8 128 (.tmp 6) (unhide D6).d rfl rfl rfl Try.underlying128 rfl iLimbs ?_
        | refine bd1 128 (.const (.int .u64 1)) rfl rfl rfl bOne ?_
        | (go_at_call 150; refine (unhide hP' _).mono ?_; rintro e u4 ⟨he, hb4⟩; subst he)
        | refine st8 (n := D') 128 (.tmp 6) (.tmp 34) ((unhide D6).keep hb4).d rfl rfl rfl rfl rfl iLimbs ?_)
      have D7 := hide (((unhide D6).keep hb4).putD D')
      clear D6 hb4
      generalize u4.setRow c8 (cells8 D') = u5 at D7 ⊢
      simp only [Act.put]
      refine region_last (S := Qr w w.heap.size c8 c9 a b D' R) (f := 4) (l := [0, 1, 2, 3]) (by kernel_rfl) (by kernel_rfl) (by kernel_rfl) (by kernel_rfl) (by kernel_rfl) (by kernel_rfl) (by kernel_rfl) (by kernel_rfl) (by kernel_rfl) (by kernel_rfl) rfl rfl ((unhide D7).drew) ?_
      clear D7
      refine plan_read rfl rfl (fun u hS => exec_load8 40 (.tmp 3) hS.t.b rfl rfl Try.underlying40 rfl iWide) ?_
      refine plan_call (v := .agg (cells8 q)) (f := 135) (args := #[W b]) rfl rfl (fun u hS => by go_simp) (fun v hS => (unhide hB v).mono fun _ _ ⟨he, hb⟩ => ⟨he, hS.keep hb⟩) ?_
      go_simp
      refine plan_read rfl rfl (fun u hS => exec_load8 128 (.tmp 7) hS.r rfl rfl Try.underlying128 rfl iLimbs) ?_
      refine plan_call (v := .agg (cells8 R')) (f := 148) (args := #[W q, W R]) rfl rfl (fun u hS => by go_simp) (fun v hS => (unhide hM' v).mono fun _ _ ⟨he, hb⟩ => ⟨he, hS.keep hb⟩) ?_
      go_simp
      refine plan_last (fun u6 hS => ?_)
      refine wp_store_row 128 (.tmp 7) (.tmp 38) rfl _ (cells8 R') rfl rfl 128 _ hS.r iLimbs rfl (cells8_one _) ?_
      have D8' := hide (hS.putR R')
      clear hS
      go_upto_region 8 with fail
      have D8 := hide (unhide D8').drew
      clear D8'
      cases bs
      · refine region_allocs (S := Qr w w.heap.size c8 c9 a b D' R') (t := 128) (z := #[]) (base := 0) (l := [0, 1, 2, 3, 4, 5, 6]) (A := []) (T := [7, 8]) (by kernel_rfl) (by kernel_rfl) (by kernel_rfl) (by kernel_rfl) (by kernel_rfl) (by kernel_rfl) (by kernel_rfl) (by kernel_rfl) (by kernel_rfl) (by kernel_rfl) (fun i hi => by cases hi) (fun _ _ h hb => h.keep hb) (fun _ _ => Nat.zero_le _) (unhide D8) ?_
        clear D8
        refine planB_read rfl rfl (fun u hS => exec_load8 128 (.tmp 6) hS.d rfl rfl Try.underlying128 rfl iLimbs) ?_
        refine planB_read (v := ?_) rfl rfl (fun u hS => by go_simp; rfl) ?_
        go_simp
        refine planB_call (v := .agg (cells8 n)) (f := 133) (args := #[W D', .bool true]) rfl rfl (fun u hS => by go_simp) (fun v hS => (unhide hG v).mono fun _ _ ⟨he, hb⟩ => ⟨Ends.no he, hS.keep hb, hb⟩) ?_
        go_simp
        refine planB_read rfl rfl (fun u hS => exec_load8 128 (.tmp 7) hS.r rfl rfl Try.underlying128 rfl iLimbs) ?_
        refine planB_read rfl rfl (fun u hS => exec_load8 40 (.tmp 3) hS.t.b rfl rfl Try.underlying40 rfl iWide) ?_
        go_simp
        refine planB_call (v := .bool sb) (f := 99) (args := #[W b]) rfl rfl (fun u hS => by go_simp) (fun v hS => (unhide hNb v).mono fun _ _ ⟨he, hb⟩ => ⟨he, hS.keep hb, hb⟩) ?_
        go_simp
        refine planB_call (v := .agg (cells8 m)) (f := 133) (args := #[W R', .bool sb]) rfl rfl (fun u hS => by go_simp) (fun v hS => (unhide hG2 v).mono fun _ _ ⟨he, hb⟩ => ⟨he, hS.keep hb, hb⟩) ?_
        go_simp
        refine planB_tail (fun c v hS _ _ => ?_)
        simp only [pa, opsOf]
        have D9 := hide hS.t
        clear hS
        go_simp
        go_wp2_with (first
          | refine st8 (n := n) 40 (.tmp 4) (.tmp 41) (unhide D9).q rfl rfl rfl rfl rfl iWide ?_
          | refine st8 (n := m) 40 (.tmp 5) (.tmp 45) ((unhide D9).r.rowOther _ (by omega)) rfl rfl rfl rfl rfl iWide ?_)
        exact res88 (((unhide D9).q.row _).rowOther _ (by omega)) (((unhide D9).r.rowOther _ (by omega)).row _) rfl rfl rfl rfl Try.underlying40 rfl iWide ⟨rfl, below_row (below_row (unhide D9).o (by omega) _) (by omega) _⟩
      · refine region_dies (S := Qr w w.heap.size c8 c9 a b D' R') (f := 2) (F := [2, 5, 6, 7, 8]) (l := [0, 1, 3, 4]) (by kernel_rfl) (by kernel_rfl) (by kernel_rfl) (by kernel_rfl) (by kernel_rfl) (by kernel_rfl) (by kernel_rfl) (by kernel_rfl) (by kernel_rfl) (by kernel_rfl) (by kernel_rfl) (by kernel_rfl) rfl (unhide D8) ?_
        clear D8
        refine plan_read rfl rfl (fun u hS => exec_load8 128 (.tmp 6) hS.d rfl rfl Try.underlying128 rfl iLimbs) ?_
        refine plan_read (v := ?_) rfl rfl (fun u hS => by go_simp; rfl) ?_
        go_simp
        refine plan_read rfl rfl (fun u hS => exec_load8 128 (.tmp 7) hS.r rfl rfl Try.underlying128 rfl iLimbs) ?_
        refine plan_read rfl rfl (fun u hS => exec_load8 40 (.tmp 3) hS.t.b rfl rfl Try.underlying40 rfl iWide) ?_
        go_simp
        refine plan_dies (f := 133) (args := #[W D', .bool true]) (ch := noAnswer) rfl (fun u hS => by go_simp) (fun v hS => (unhide hG v).mono fun _ _ ⟨he, hb⟩ => ⟨Ends.yes he, fun _ hd => ⟨hd, rfl, (hS.keep hb).t.o⟩⟩)
    · have hz := unhide hno (by rw [← unhide hadj, hR]; rfl)
      obtain ⟨h1, h2⟩ := hz
      subst h1 h2
      go_upto_region 8 with (first
        | refine ld8w 128 (.tmp 7) (unhide D6).r rfl rfl rfl Try.underlying128 rfl iLimbs ?_
        | refine wpList_valuew rfl (exec_build0 _ 128 rfl bLimbs0) ?_
        | refine wpList_valuew rfl (exec_neq_limbs_is (n := R') (m := 0) (b := true) _ (.tmp 28) (.tmp 29) hR rfl rfl rfl) ?_)
      have D8 := hide (unhide D6).drew
      clear D6
      cases bs
      · refine region_allocs (S := Qr w w.heap.size c8 c9 a b D' R') (t := 128) (z := #[]) (base := 0) (l := [0, 1, 2, 3, 4, 5, 6]) (A := []) (T := [7, 8]) (by kernel_rfl) (by kernel_rfl) (by kernel_rfl) (by kernel_rfl) (by kernel_rfl) (by kernel_rfl) (by kernel_rfl) (by kernel_rfl) (by kernel_rfl) (by kernel_rfl) (fun i hi => by cases hi) (fun _ _ h hb => h.keep hb) (fun _ _ => Nat.zero_le _) (unhide D8) ?_
        clear D8
        refine planB_read rfl rfl (fun u hS => exec_load8 128 (.tmp 6) hS.d rfl rfl Try.underlying128 rfl iLimbs) ?_
        refine planB_read (v := ?_) rfl rfl (fun u hS => by go_simp; rfl) ?_
        go_simp
        refine planB_call (v := .agg (cells8 n)) (f := 133) (args := #[W D', .bool true]) rfl rfl (fun u hS => by go_simp) (fun v hS => (unhide hG v).mono fun _ _ ⟨he, hb⟩ => ⟨Ends.no he, hS.keep hb, hb⟩) ?_
        go_simp
        refine planB_read rfl rfl (fun u hS => exec_load8 128 (.tmp 7) hS.r rfl rfl Try.underlying128 rfl iLimbs) ?_
        refine planB_read rfl rfl (fun u hS => exec_load8 40 (.tmp 3) hS.t.b rfl rfl Try.underlying40 rfl iWide) ?_
        go_simp
        refine planB_call (v := .bool sb) (f := 99) (args := #[W b]) rfl rfl (fun u hS => by go_simp) (fun v hS => (unhide hNb v).mono fun _ _ ⟨he, hb⟩ => ⟨he, hS.keep hb, hb⟩) ?_
        go_simp
        refine planB_call (v := .agg (cells8 m)) (f := 133) (args := #[W R', .bool sb]) rfl rfl (fun u hS => by go_simp) (fun v hS => (unhide hG2 v).mono fun _ _ ⟨he, hb⟩ => ⟨he, hS.keep hb, hb⟩) ?_
        go_simp
        refine planB_tail (fun c v hS _ _ => ?_)
        simp only [pa, opsOf]
        have D9 := hide hS.t
        clear hS
        go_simp
        go_wp2_with (first
          | refine st8 (n := n) 40 (.tmp 4) (.tmp 41) (unhide D9).q rfl rfl rfl rfl rfl iWide ?_
          | refine st8 (n := m) 40 (.tmp 5) (.tmp 45) ((unhide D9).r.rowOther _ (by omega)) rfl rfl rfl rfl rfl iWide ?_)
        exact res88 (((unhide D9).q.row _).rowOther _ (by omega)) (((unhide D9).r.rowOther _ (by omega)).row _) rfl rfl rfl rfl Try.underlying40 rfl iWide ⟨rfl, below_row (below_row (unhide D9).o (by omega) _) (by omega) _⟩
      · refine region_dies (S := Qr w w.heap.size c8 c9 a b D' R') (f := 2) (F := [2, 5, 6, 7, 8]) (l := [0, 1, 3, 4]) (by kernel_rfl) (by kernel_rfl) (by kernel_rfl) (by kernel_rfl) (by kernel_rfl) (by kernel_rfl) (by kernel_rfl) (by kernel_rfl) (by kernel_rfl) (by kernel_rfl) (by kernel_rfl) (by kernel_rfl) rfl (unhide D8) ?_
        clear D8
        refine plan_read rfl rfl (fun u hS => exec_load8 128 (.tmp 6) hS.d rfl rfl Try.underlying128 rfl iLimbs) ?_
        refine plan_read (v := ?_) rfl rfl (fun u hS => by go_simp; rfl) ?_
        go_simp
        refine plan_read rfl rfl (fun u hS => exec_load8 128 (.tmp 7) hS.r rfl rfl Try.underlying128 rfl iLimbs) ?_
        refine plan_read rfl rfl (fun u hS => exec_load8 40 (.tmp 3) hS.t.b rfl rfl Try.underlying40 rfl iWide) ?_
        go_simp
        refine plan_dies (f := 133) (args := #[W D', .bool true]) (ch := noAnswer) rfl (fun u hS => by go_simp) (fun v hS => (unhide hG v).mono fun _ _ ⟨he, hb⟩ => ⟨Ends.yes he, fun _ hd => ⟨hd, rfl, (hS.keep hb).t.o⟩⟩)

end Go.Proofs.Ytnknejdmoghmiaa
