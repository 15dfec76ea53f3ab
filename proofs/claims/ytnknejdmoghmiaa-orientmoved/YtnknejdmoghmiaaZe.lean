/- The contracts of raised and Shr of package wide. -/
import Derived.Test.YtnknejdmoghmiaaZc
import Derived.Test.YtnknejdmoghmiaaYd
namespace Go.Proofs.Ytnknejdmoghmiaa
open Go.RowKit
set_option maxRecDepth 4000

/-- What raised knows of its blocks. -/
structure Ra (w0 : World) (g d a b : Nat) (w : World) : Prop where
  x : Blk w g 40 (cells8 a)
  r : Blk w (g + 1) 40 (cells8 0)
  v : Blk w d 40 (cells8 b)
  o : Below g w0 w
theorem Ra.keep {w0 w w' : World} {g d a b : Nat} (h : Ra w0 g d a b w) (hb : Below w.heap.size w w') : Ra w0 g d a b w' :=
  ⟨h.x.below hb h.x.lt, h.r.below hb h.r.lt, h.v.below hb h.v.lt, h.o.trans (hb.mono (Nat.le_of_lt h.x.lt))⟩

theorem raised_no (a : Nat) (n : Int) (hn : n < 0) (w : World) :
    Calls Try.prog 162 #[W a, .int .i64 n] w fun e w' => Ends true 0 e ∧ Below w.heap.size w w' := by
  have hd : decide (n < 0) = true := by simpa using hn
  go_enter Try.func162, Try.ntmps162
  go_wp2
  exact ⟨rfl, rfl, below2 _ _ _⟩

set_option maxHeartbeats 1000000 in
theorem raised_core (a b c : Nat) (n f : Int) (w : World) (h0 : ¬ n < 0) (hw : IntKind.i64.wrap (-n) = -n)
    (hL : Hid (∀ u, Calls Try.prog 159 #[W a, .int .i64 (-n), .int .u64 0] u fun e w' => e = .returned (.agg (cells8 b)) ∧ Below u.heap.size u w'))
    (hF : Hid (∀ u, Calls Try.prog 160 #[W b] u fun e w' => e = .returned (.int .u64 f) ∧ Below u.heap.size u w'))
    (hR : Hid (∀ u, Calls Try.prog 159 #[W b, .int .i64 n, .int .u64 f] u fun e w' => e = .returned (.agg (cells8 c)) ∧ Below u.heap.size u w')) :
    Calls Try.prog 162 #[W a, .int .i64 n] w fun e w' => Ends (!same c a) b e ∧ Below w.heap.size w w' := by
  have hd : decide (n < 0) = false := by simpa using h0
  go_enter Try.func162, Try.ntmps162
  go_upto_region 1 with fail
  have D0 := hide (Blk.first2 w 40 (cells8 a) (.cells #[.int .u64 0, .int .u64 0, .int .u64 0, .int .u64 0, .int .u64 0, .int .u64 0, .int .u64 0, .int .u64 0] 40))
  go_wp2_with (first
    | refine ld8 38 (.tmp 9) (unhide D0) rfl rfl rfl Try.underlying38 rfl iArr ?_
    | refine bd1 40 (.tmp 13) rfl rfl rfl (bWide b) ?_
    | refine st8new (n := b) 40 (.tmp 5) (.tmp 14) rfl rfl rfl rfl rfl iWide ?_
    | (go_at_call 159; refine (unhide hL _).mono ?_; rintro e w1 ⟨he, hb1⟩; subst he))
  have D1 : Hid (Ra w w.heap.size w1.heap.size a b (w1.alloc (.cells (cells8 b) 40)).drew) := by
    have hs := hb1.size
    simp at hs
    exact ⟨(((unhide D0).below hb1 (unhide D0).lt).alloc _).drew, (((cells8_0 ▸ Blk.second2 w 40 _ _ : Blk _ _ _ (cells8 0)).below hb1 (by simp)).alloc _).drew, (Blk.new _ _ _).drew, (((below2 _ _ _).trans (hb1.mono (by simp; omega))).alloc (by omega) _).drew⟩
  clear D0 hb1 hL
  generalize w1.heap.size = d at D1 ⊢
  simp only [Act.put]
  refine region_plan (S := Ra w w.heap.size d a b) (l := [0, 1, 2, 3, 4, 5, 6, 7, 8]) (by kernel_rfl) (by kernel_rfl) (by kernel_rfl) (by kernel_rfl) (by kernel_rfl) (by kernel_rfl) (by kernel_rfl) (unhide D1) ?_
  clear D1
  refine plan_read (v := ?_) rfl rfl (fun u hS => by go_simp; rfl) ?_
  go_simp
  refine plan_read rfl rfl (fun u hS => exec_load8 38 (.tmp 15) hS.v rfl rfl Try.underlying38 rfl iArr) ?_
  refine plan_read (v := ?_) rfl rfl (fun u hS => by go_simp; rfl) ?_
  refine plan_read rfl rfl (fun u hS => exec_load8 40 (.tmp 5) hS.v rfl rfl Try.underlying40 rfl iWide) ?_
  go_simp
  refine plan_call (v := .int .u64 f) (f := 160) (args := #[W b]) rfl rfl (fun u hS => by go_simp) (fun u hS => (unhide hF u).mono fun _ _ ⟨he, hb⟩ => ⟨he, hS.keep hb⟩) ?_
  go_simp
  refine plan_call (v := .agg (cells8 c)) (f := 159) (args := #[W b, .int .i64 n, .int .u64 f]) rfl rfl (fun u hS => by go_simp) (fun u hS => (unhide hR u).mono fun _ _ ⟨he, hb⟩ => ⟨he, hS.keep hb⟩) ?_
  go_simp
  refine plan_read (v := ?_) rfl rfl (fun u hS => by go_simp; rfl) ?_
  go_simp
  refine plan_read rfl rfl (fun u hS => exec_load8 38 (.tmp 21) hS.x rfl rfl Try.underlying38 rfl iArr) ?_
  go_simp
  cases t : same c a
  · refine plan_read (v := .bool true) rfl rfl (fun u hS => exec_neq_limbs_is (n := c) (m := a) (b := false) _ (.tmp 20) (.tmp 22) t rfl rfl rfl) ?_
    refine plan_end (fun u hS => ?_)
    go_simp
    have HO := hide hS.o
    clear hS
    go_wp2
    exact ⟨rfl, by simp [Ends, t, noAnswer], unhide HO⟩
  · refine plan_read (v := .bool false) rfl rfl (fun u hS => exec_neq_limbs_is (n := c) (m := a) (b := true) _ (.tmp 20) (.tmp 22) t rfl rfl rfl) ?_
    refine plan_end (fun u hS => ?_)
    go_simp
    have HS := hide hS
    clear hS
    go_wp2_with (first
      | refine ld8 40 (.tmp 5) (unhide HS).v rfl rfl rfl Try.underlying40 rfl iWide ?_
      | refine st8 (n := b) 40 (.tmp 4) (.tmp 25) (unhide HS).r rfl rfl rfl rfl rfl iWide ?_)
    exact res8 ((unhide HS).r.row _) rfl rfl rfl Try.underlying40 rfl iWide ⟨by simp [Ends, t], below_row (unhide HS).o (by omega) _⟩

/-- What Shr knows of its blocks. -/
structure Sh (w0 : World) (g a : Nat) (w : World) : Prop where
  x : Blk w g 40 (cells8 a)
  r : Blk w (g + 1) 40 (cells8 0)
  o : Below g w0 w
theorem Sh.keep {w0 w w' : World} {g a : Nat} (h : Sh w0 g a w) (hb : Below w.heap.size w w') : Sh w0 g a w' :=
  ⟨h.x.below hb h.x.lt, h.r.below hb h.r.lt, h.o.trans (hb.mono (Nat.le_of_lt h.x.lt))⟩

set_option maxHeartbeats 1000000 in
theorem Shr_core (a c : Nat) (n m f : Int) (w : World) (hm : (if n < 0 then 0 else n) = m)
    (hF : Hid (∀ u, Calls Try.prog 160 #[W a] u fun e w' => e = .returned (.int .u64 f) ∧ Below u.heap.size u w'))
    (hR : Hid (∀ u, Calls Try.prog 159 #[W a, .int .i64 m, .int .u64 f] u fun e w' => e = .returned (.agg (cells8 c)) ∧ Below u.heap.size u w')) :
    Calls Try.prog 121 #[W a, .int .i64 n] w fun e w' => e = .returned (.agg (cells8 c)) ∧ Below w.heap.size w w' := by
  go_enter Try.func121, Try.ntmps121
  go_upto_region 1 with fail
  have D1 : Hid (Sh w w.heap.size a ((w.alloc (.cells (cells8 a) 40)).alloc (.cells #[.int .u64 0, .int .u64 0, .int .u64 0, .int .u64 0, .int .u64 0, .int .u64 0, .int .u64 0, .int .u64 0] 40)).drew) :=
    ⟨(Blk.first2 _ _ _ _).drew, cells8_0 ▸ (Blk.second2 _ _ _ _).drew, (below2 _ _ _).drew⟩
  refine region_last (S := Sh w w.heap.size a) (f := 8) (l := [0, 1, 2, 3, 4, 5, 6, 7]) (by kernel_rfl) (by kernel_rfl) (by kernel_rfl) (by kernel_rfl) (by kernel_rfl) (by kernel_rfl) (by kernel_rfl) (by kernel_rfl) (by kernel_rfl) (by kernel_rfl) rfl rfl (unhide D1) ?_
  clear D1
  refine plan_read (v := ?_) rfl rfl (fun u hS => by go_simp; rfl) ?_
  go_simp
  refine plan_read rfl rfl (fun u hS => exec_load8 38 (.tmp 5) hS.x rfl rfl Try.underlying38 rfl iArr) ?_
  refine plan_read (v := ?_) rfl rfl (fun u hS => by go_simp; rfl) ?_
  go_simp
  refine plan_read (v := .int .i64 m) rfl rfl (fun u hS => ?_) ?_
  · go_simp
  go_simp
  refine plan_read rfl rfl (fun u hS => exec_load8 40 (.tmp 2) hS.x rfl rfl Try.underlying40 rfl iWide) ?_
  go_simp
  refine plan_call (v := .int .u64 f) (f := 160) (args := #[W a]) rfl rfl (fun u hS => by go_simp) (fun u hS => (unhide hF u).mono fun _ _ ⟨he, hb⟩ => ⟨he, hS.keep hb⟩) ?_
  go_simp
  refine plan_call (v := .agg (cells8 c)) (f := 159) (args := #[W a, .int .i64 m, .int .u64 f]) rfl rfl (fun u hS => by go_simp) (fun u hS => (unhide hR u).mono fun _ _ ⟨he, hb⟩ => ⟨he, hS.keep hb⟩) ?_
  go_simp
  refine plan_read rfl rfl (fun u hS => exec_build1 _ 40 (.tmp 11) rfl rfl (bWide c)) ?_
  go_simp
  refine plan_last (fun u hS => ?_)
  refine wp_store_row 40 (.tmp 4) (.tmp 12) rfl _ (cells8 c) rfl rfl 40 _ hS.r iWide rfl (cells8_one _) ?_
  have R2 := hide (hS.r.row (cells8 c))
  have O2 := hide (below_row hS.o (show w.heap.size ≤ w.heap.size + 1 by omega) (cells8 c))
  clear hS
  go_wp2
  exact res8 (unhide R2) rfl rfl rfl Try.underlying40 rfl iWide ⟨rfl, unhide O2⟩

end Go.Proofs.Ytnknejdmoghmiaa
