/- The contract of window of package wide: 512 bits from any place on. -/
import Derived.Test.YtfoojpfgeicolaaWc
import Derived.Deep.Cut
namespace Go.Proofs.Ytfoojpfgeicolaa
open Go.RowKit

/-- The limb at i: below the lowest 0, above the top one f. -/
def atL (x : Nat) (f i : Int) : Int := if i < 0 then 0 else if 8 ≤ i then f else lm x i.toNat

theorem at_any (x : Nat) (f i : Int) (p g : Nat) (w : World) (hf : Blk w p 22 #[.int .u64 f]) (hx : Blk w g 50 (cells8 x)) :
    Calls Try.prog 70 #[.int .i64 i, .pointer (some ⟨p, 0, none⟩), .pointer (some ⟨g, 0, none⟩)] w fun e w' => e = .returned (.int .u64 (atL x f i)) ∧ w' = w := by
  have h1 : w.cell? ⟨p, 0, none⟩ = some (.int .u64 f) := hf.cell 0
  by_cases a1 : i < 0
  · go_enter Try.func70, Try.ntmps70
    go_wp2
    go_ret
    exact ⟨by simp [atL, a1], rfl⟩
  · by_cases a2 : 8 ≤ i
    · have a1' : 0 ≤ i := by omega
      go_enter Try.func70, Try.ntmps70
      go_wp2
      go_ret
      refine ⟨?_, rfl⟩
      unfold atL
      rw [if_neg (by omega), if_pos (by omega)]
      rfl
    · obtain ⟨k, rfl⟩ := Int.eq_ofNat_of_zero_le (show 0 ≤ i by omega)
      have hk : k < 8 := by omega
      have h2 : w.cell? ⟨g, k, none⟩ = some (.int .u64 (lm x k)) := by rw [hx.cell k, cells8_get x k hk]
      have a3 : (k : Int) < 8 := by omega
      have HK := hide hk
      clear hk a1 a2
      go_enter Try.func70, Try.ntmps70
      go_wp2
      go_ret
      refine ⟨?_, rfl⟩
      have := unhide HK
      simp only [atL]
      rw [if_neg (by omega), if_neg (by omega)]
      rfl

theorem iU64 : (Try.prog.info? 22).map (·.size) = some 1 := by kernel_rfl

/-- What a round of window knows. ys: the cells so far. -/
structure Win (w0 : World) (g x : Nat) (f : Int) (ys : Array Value) (w : World) : Prop where
  x : Blk w g 50 (cells8 x)
  f : Blk w (g + 1) 22 #[.int .u64 f]
  r : Blk w (g + 1 + 1) 50 (cells8 0)
  y : Blk w (g + 1 + 1 + 1) 50 ys
  o : Below g w0 w

/-- The limb k of the window. -/
def wl (x : Nat) (f q : Int) (p k : Nat) : Int := bits .or .u64 (atL x f ((k : Int) + q) / 2 ^ min p 64) (IntKind.u64.wrap (atL x f ((k : Int) + q + 1) * 2 ^ (64 - p)))

theorem Win.start (w : World) (x : Nat) (f : Int) (r : Nat) : Win w w.heap.size x f (mix8 0 r 0) ((((w.alloc (.cells (cells8 x) 50)).alloc (.cells #[.int .u64 f] 22)).alloc
    (.cells #[.int .u64 0, .int .u64 0, .int .u64 0, .int .u64 0, .int .u64 0, .int .u64 0, .int .u64 0, .int .u64 0] 50)).alloc (.cells #[.int .u64 0, .int .u64 0, .int .u64 0, .int .u64 0, .int .u64 0, .int .u64 0, .int .u64 0, .int .u64 0] 50)) :=
  ⟨(Blk.first3 _ _ _ _ _).alloc _, (Blk.second3 _ _ _ _ _).alloc _, cells8_0 ▸ (Blk.third3 _ _ _ _ _).alloc _, by rw [mix8_zero, cells8_0]; exact Blk.at (by simp) rfl, (below3 _ _ _ _).alloc (by simp; omega) _⟩
theorem Win.put {w0 : World} {g x r k : Nat} {f v : Int} {w : World} (h : Win w0 g x f (mix8 0 r k) w) (hk : k < 8) (hv : v = lm r k) :
    Win w0 g x f (mix8 0 r (k + 1)) (w.setCell ⟨g + 1 + 1 + 1, k, none⟩ (.int .u64 v)) := by
  subst hv
  refine ⟨h.x.other _ _ (by show g ≠ g + 1 + 1 + 1; omega), h.f.other _ _ (by show g + 1 ≠ g + 1 + 1 + 1; omega), h.r.other _ _ (by show g + 1 + 1 ≠ g + 1 + 1 + 1; omega), ?_, h.o.setCell (by show g ≤ g + 1 + 1 + 1; omega) _⟩
  rw [← mix8_set _ _ _ hk]
  exact h.y.set k _

set_option maxHeartbeats 1000000 in
theorem window_core (x p : Nat) (first f q : Int) (w : World) (hq : first / 64 = q) (hp : bits .and .i64 first 63 = (p : Int)) (hs : IntKind.i64.wrap (64 - (p : Int)) = ((64 - p : Nat) : Int)) (hb : Hid (-144115188075855872 ≤ q ∧ q < 144115188075855872)) (r : Nat) (hr : Hid (∀ k, k < 8 → wl x f q p k = lm r k)) :
    Calls Try.prog 56 #[W x, .int .i64 first, .int .u64 f] w fun e w' => e = .returned (.agg (cells8 r)) ∧ Below w.heap.size w w' := by
  have hmf : ∀ (fn : Fn) (first cap : Array Value) (w : World), (Instr.makeFunc fn first cap).run Try.prog w = .ok (.func fn first cap) w := fun _ _ _ _ => rfl
  go_enter Try.func56, Try.ntmps56
  go_wp2
  go_loopw [17] (fun i wr => ∃ k : Nat, k ≤ 8 ∧ i = .int .i64 k ∧ Win w w.heap.size x f (mix8 0 r k) wr) (fun i _ => 8 - (intOf i).toNat)
  case atStart => exact ⟨0, by omega, rfl, Win.start w x f r⟩
  case round =>
    obtain ⟨k, hk, rfl, R⟩ := hrel
    by_cases hlt : k < 8
    · have hg : (k : Int) < 8 := by omega
      have HR := hide R
      clear R
      have hw1 : IntKind.i64.wrap ((k : Int) + q) = (k : Int) + q := by have := unhide hb; rw [IntKind.wrap_i64]; omega
      have hw2 : IntKind.i64.wrap ((k : Int) + q + 1) = (k : Int) + q + 1 := by have := unhide hb; rw [IntKind.wrap_i64]; omega
      go_wp2
      refine region_last (S := Win w w.heap.size x f (mix8 0 r k)) (f := 19) (l := [0, 1, 2, 3, 4, 5, 6, 7, 8, 9, 10, 11, 12, 13, 14, 15, 16, 17, 18]) (by kernel_rfl) (by kernel_rfl) (by kernel_rfl) (by kernel_rfl) (by kernel_rfl) (by kernel_rfl) (by kernel_rfl) (by kernel_rfl) (by kernel_rfl) (by kernel_rfl) rfl rfl ?_ ?_
      · exact ⟨(unhide HR).x, (unhide HR).f, (unhide HR).r, (unhide HR).y, (unhide HR).o.drew⟩
      refine plan_read (v := ?_) rfl rfl (fun u hS => by go_simp; rfl) ?_
      refine plan_read (v := ?_) rfl rfl (fun u hS => by go_simp; rfl) ?_
      refine plan_read (v := ?_) rfl rfl (fun u hS => by go_simp; rfl) ?_
      refine plan_read (v := ?_) rfl rfl (fun u hS => by go_simp; rfl) ?_
      refine plan_read (v := ?_) rfl rfl (fun u hS => by go_simp; rfl) ?_
      go_simp
      refine plan_call (v := .int .u64 (atL x f ((k : Int) + q))) (f := 70) (args := #[.int .i64 ((k : Int) + q), .pointer (some ⟨w.heap.size + 1, 0, none⟩), .pointer (some ⟨w.heap.size, 0, none⟩)]) rfl rfl (fun u hS => by go_simp) (fun u hS => (at_any x f ((k : Int) + q) (w.heap.size + 1) w.heap.size u hS.f hS.x).mono fun _ _ ⟨he, hw⟩ => ⟨he, by rw [hw]; exact hS⟩) ?_
      refine plan_read (v := ?_) rfl rfl (fun u hS => by go_simp; rfl) ?_
      refine plan_read (v := ?_) rfl rfl (fun u hS => by go_simp; rfl) ?_
      refine plan_read (v := ?_) rfl rfl (fun u hS => by go_simp; rfl) ?_
      refine plan_read (v := ?_) rfl rfl (fun u hS => by go_simp; rfl) ?_
      refine plan_read (v := ?_) rfl rfl (fun u hS => by go_simp; rfl) ?_
      refine plan_read (v := ?_) rfl rfl (fun u hS => by go_simp; rfl) ?_
      refine plan_read (v := ?_) rfl rfl (fun u hS => by go_simp; rfl) ?_
      go_simp
      refine plan_call (v := .int .u64 (atL x f ((k : Int) + q + 1))) (f := 70) (args := #[.int .i64 ((k : Int) + q + 1), .pointer (some ⟨w.heap.size + 1, 0, none⟩), .pointer (some ⟨w.heap.size, 0, none⟩)]) rfl rfl (fun u hS => by go_simp) (fun u hS => (at_any x f ((k : Int) + q + 1) (w.heap.size + 1) w.heap.size u hS.f hS.x).mono fun _ _ ⟨he, hw⟩ => ⟨he, by rw [hw]; exact hS⟩) ?_
      refine plan_read (v := ?_) rfl rfl (fun u hS => by go_simp; rfl) ?_
      refine plan_read (v := ?_) rfl rfl (fun u hS => by go_simp; rfl) ?_
      refine plan_read (v := ?_) rfl rfl (fun u hS => by go_simp; rfl) ?_
      refine plan_read (v := ?_) rfl rfl (fun u hS => by go_simp; rfl) ?_
      refine plan_read (v := ?_) rfl rfl (fun u hS => by go_simp; rfl) ?_
      go_simp
      refine plan_last (fun u hS => ?_)
      refine wp_store1 22 (.tmp 38) (.tmp 37) rfl rfl rfl hS.y hlt iU64 ?_
      go_simp
      go_wp2
      go_roundw
      case rel => exact ⟨k + 1, by omega, by go_num, hS.put hlt (unhide hr k hlt)⟩
      case measure => simp [intOf]; omega
    · have e8 : k = 8 := by omega
      subst e8
      rw [mix8_full] at R
      have HR := hide R
      clear R
      go_wp2_with (first
        | refine ld8 50 (.tmp 10) (unhide HR).y rfl rfl rfl Try.underlying50 rfl iLimbs ?_
        | refine st8 (n := r) 50 (.tmp 6) (.tmp 40) (unhide HR).r rfl rfl rfl rfl rfl iLimbs ?_)
      exact res8 ((unhide HR).r.row _) rfl rfl rfl Try.underlying50 rfl iLimbs ⟨rfl, below_row (unhide HR).o (by omega) _⟩

end Go.Proofs.Ytfoojpfgeicolaa
