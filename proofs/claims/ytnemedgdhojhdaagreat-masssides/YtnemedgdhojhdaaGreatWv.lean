/- The contract of window of package wide: 512 bits from any place on. The window's numbers: what window answers, as a natural number. No Go in this text but the names of Wi. The contracts of window, by numbers: to the left, to the right. -/
import Derived.Test.YtnemedgdhojhdaaGreatWf
import Derived.Deep.Cut
namespace Go.Proofs.YtnemedgdhojhdaaGreat
open Go.RowKit
set_option maxRecDepth 4000

/-- The limb at i: below the lowest 0, above the top one f. -/
def atL (x : Nat) (f i : Int) : Int := if i < 0 then 0 else if 8 ≤ i then f else lm x i.toNat

theorem at_any (x : Nat) (f i : Int) (p g : Nat) (w : World) (hf : Blk w p 72 #[.int .u64 f]) (hx : Blk w g 157 (cells8 x)) :
    Calls Tryz.prog 179 #[.int .i64 i, .pointer (some ⟨p, 0, none⟩), .pointer (some ⟨g, 0, none⟩)] w fun e w' => e = .returned (.int .u64 (atL x f i)) ∧ w' = w := by
  have h1 : w.cell? ⟨p, 0, none⟩ = some (.int .u64 f) := hf.cell 0
  by_cases a1 : i < 0
  · go_enter Tryz.func179, Tryz.ntmps179
    go_wp2
    go_ret
    exact ⟨by simp [atL, a1], rfl⟩
  · by_cases a2 : 8 ≤ i
    · have a1' : 0 ≤ i := by omega
      go_enter Tryz.func179, Tryz.ntmps179
      go_wp2
      go_ret
      refine ⟨?_, rfl⟩
      unfold atL
      rw [if_neg (by omega), if_pos (by omega)]
      rfl
    · obtain ⟨k, rfl⟩ := Int.eq_ofNat_of_zero_le (show 0 ≤ i by omega)
      have hk : k < 8 := by omega
      have h2 : w.cell? ⟨g, k, none⟩ = some (.int .u64 (lm x k)) := by rw [hx.cell k, cells8_get x k hk]
      have a3 : (k : Int) < 8 := by omega
      have HK := hide hk
      clear hk a1 a2
      go_enter Tryz.func179, Tryz.ntmps179
      go_wp2
      go_ret
      refine ⟨?_, rfl⟩
      have := unhide HK
      simp only [atL]
      rw [if_neg (by omega), if_neg (by omega)]
      rfl

theorem iU64 : (Tryz.prog.info? 72).map (·.size) = some 1 := by kernel_rfl

/-- What a round of window knows. ys: the cells so far. -/
structure Win (w0 : World) (g x : Nat) (f : Int) (ys : Array Value) (w : World) : Prop where
  x : Blk w g 157 (cells8 x)
  f : Blk w (g + 1) 72 #[.int .u64 f]
  r : Blk w (g + 1 + 1) 157 (cells8 0)
  y : Blk w (g + 1 + 1 + 1) 157 ys
  o : Below g w0 w

/-- The limb k of the window. -/
def wl (x : Nat) (f q : Int) (p k : Nat) : Int := bits .or .u64 (atL x f ((k : Int) + q) / 2 ^ min p 64) (IntKind.u64.wrap (atL x f ((k : Int) + q + 1) * 2 ^ (64 - p)))

theorem Win.start (w : World) (x : Nat) (f : Int) (r : Nat) : Win w w.heap.size x f (mix8 0 r 0) ((((w.alloc (.cells (cells8 x) 157)).alloc (.cells #[.int .u64 f] 72)).alloc
    (.cells #[.int .u64 0, .int .u64 0, .int .u64 0, .int .u64 0, .int .u64 0, .int .u64 0, .int .u64 0, .int .u64 0] 157)).alloc (.cells #[.int .u64 0, .int .u64 0, .int .u64 0, .int .u64 0, .int .u64 0, .int .u64 0, .int .u64 0, .int .u64 0] 157)) :=
  ⟨(Blk.first3 _ _ _ _ _).alloc _, (Blk.second3 _ _ _ _ _).alloc _, cells8_0 ▸ (Blk.third3 _ _ _ _ _).alloc _, by rw [mix8_zero, cells8_0]; exact Blk.at (by simp) rfl, (below3 _ _ _ _).alloc (by simp; omega) _⟩
theorem Win.put {w0 : World} {g x r k : Nat} {f v : Int} {w : World} (h : Win w0 g x f (mix8 0 r k) w) (hk : k < 8) (hv : v = lm r k) :
    Win w0 g x f (mix8 0 r (k + 1)) (w.setCell ⟨g + 1 + 1 + 1, k, none⟩ (.int .u64 v)) := by
  subst hv
  refine ⟨h.x.other _ _ (by show g ≠ g + 1 + 1 + 1; omega), h.f.other _ _ (by show g + 1 ≠ g + 1 + 1 + 1; omega), h.r.other _ _ (by show g + 1 + 1 ≠ g + 1 + 1 + 1; omega), ?_, h.o.setCell (by show g ≤ g + 1 + 1 + 1; omega) _⟩
  rw [← mix8_set _ _ _ hk]
  exact h.y.set k _

set_option maxHeartbeats 1000000 in
theorem window_core (x p : Nat) (first f q : Int) (w : World) (hq : first / 64 = q) (hp : bits .and .i64 first 63 = (p : Int)) (hs : IntKind.i64.wrap (64 - (p : Int)) = ((64 - p : Nat) : Int)) (hb : Hid (-144115188075855872 ≤ q ∧ q < 144115188075855872)) (r : Nat) (hr : Hid (∀ k, k < 8 → wl x f q p k = lm r k)) :
    Calls Tryz.prog 164 #[W x, .int .i64 first, .int .u64 f] w fun e w' => e = .returned (.agg (cells8 r)) ∧ Below w.heap.size w w' := by
  have hmf : ∀ (fn : Fn) (first cap : Array Value) (w : World), (Instr.makeFunc fn first cap).run Tryz.prog w = .ok (.func fn first cap) w := fun _ _ _ _ => rfl
  go_enter Tryz.func164, Tryz.ntmps164
  go_wp2
  go_loopw [17] (fun i wr => ∃ k : Nat, k ≤ 8 ∧ i = .int .i64 k ∧ Win w w.heap.size x f (mix8 0 r k) wr) (fun i _ => 8 - (intOf i).toNat)
  case atStart => exact ⟨0, by omega, rfl, Win.start w x f r⟩
  case round =>
    obtain ⟨k, hk, rfl, R⟩ := hrel
    by_cases hlt : k < 8
    · have hg : (k : Int) < 8 := by omega
      have HR := hide R
      clear R
      have hw1 : IntKind.i64.wrap ((k : Int) + q) = (k : Int) + q := by have := unhide hb; rw [IntKind.wrap_i64]; omega
      have hw2 : IntKind.i64.wrap ((k : Int) + q + 1) = (k : Int) + q + 1 := by have := unhide hb; rw [IntKind.wrap_i64]; omega
      go_wp2
      refine region_last (S := Win w w.heap.size x f (mix8 0 r k)) (f := 19) (l := [0, 1, 2, 3, 4, 5, 6, 7, 8, 9, 10, 11, 12, 13, 14, 15, 16, 17, 18]) (by kernel_rfl) (by kernel_rfl) (by kernel_rfl) (by kernel_rfl) (by kernel_rfl) (by kernel_rfl) (by kernel_rfl) (by kernel_rfl) (by kernel_rfl) (by kernel_rfl) rfl rfl ?_ ?_
      · exact ⟨(unhide HR).x, (unhide HR).f, (unhide HR).r, (unhide HR).y, (unhide HR).o.drew⟩
      refine plan_read (v := ?_) rfl rfl (fun u hS => by go_simp; rfl) ?_
      refine plan_read (v := ?_) rfl rfl (fun u hS => by go_simp; rfl) ?_
      refine plan_read (v := ?_) rfl rfl (fun u hS => by go_simp; rfl) ?_
      refine plan_read (v := ?_) rfl rfl (fun u hS => by go_simp; rfl) ?_
      refine plan_read (v := ?_) rfl rfl (fun u hS => by go_simp; rfl) ?_
      go_simp
      refine plan_call (v := .int .u64 (atL x f ((k : Int) + q))) (f := 179) (args := #[.int .i64 ((k : Int) + q), .pointer (some ⟨w.heap.size + 1, 0, none⟩), .pointer (some ⟨w.heap.size, 0, none⟩)]) rfl rfl (fun u hS => by go_simp) (fun u hS => (at_any x f ((k : Int) + q) (w.heap.size + 1) w.heap.size u hS.f hS.x).mono fun _ _ ⟨he, hw⟩ => ⟨he, by rw [hw]; exact hS⟩) ?_
      refine plan_read (v := ?_) rfl rfl (fun u hS => by go_simp; rfl) ?_
      refine plan_read (v := ?_) rfl rfl (fun u hS => by go_simp; rfl) ?_
      refine plan_read (v := ?_) rfl rfl (fun u hS => by go_simp; rfl) ?_
      refine plan_read (v := ?_) rfl rfl (fun u hS => by go_simp; rfl) ?_
      refine plan_read (v := ?_) rfl rfl (fun u hS => by go_simp; rfl) ?_
      refine plan_read (v := ?_) rfl rfl (fun u hS => by go_simp; rfl) ?_
      refine plan_read (v := ?_) rfl rfl (fun u hS => by go_simp; rfl) ?_
      go_simp
      refine plan_call (v := .int .u64 (atL x f ((k : Int) + q + 1))) (f := 179) (args := #[.int .i64 ((k : Int) + q + 1), .pointer (some ⟨w.heap.size + 1, 0, none⟩), .pointer (some ⟨w.heap.size, 0, none⟩)]) rfl rfl (fun u hS => by go_simp) (fun u hS => (at_any x f ((k : Int) + q + 1) (w.heap.size + 1) w.heap.size u hS.f hS.x).mono fun _ _ ⟨he, hw⟩ => ⟨he, by rw [hw]; exact hS⟩) ?_
      refine plan_read (v := ?_) rfl rfl (fun u hS => by go_simp; rfl) ?_
      refine plan_read (v := ?_) rfl rfl (fun u hS => by go_simp; rfl) ?_
      refine plan_read (v := ?_) rfl rfl (fun u hS => by go_simp; rfl) ?_
      refine plan_read (v := ?_) rfl rfl (fun u hS => by go_simp; rfl) ?_
      refine plan_read (v := ?_) rfl rfl (fun u hS => by go_simp; rfl) ?_
      go_simp
      refine plan_last (fun u hS => ?_)
      refine wp_store1 72 (.tmp 38) (.tmp 37) rfl rfl rfl hS.y hlt iU64 ?_
      go_simp
      go_wp2
      go_roundw
      case rel => exact ⟨k + 1, by omega, by go_num, hS.put hlt (unhide hr k hlt)⟩
      case measure => simp [intOf]; omega
    · have e8 : k = 8 := by omega
      subst e8
      rw [mix8_full] at R
      have HR := hide R
      clear R
      go_wp2_with (first
        | refine ld8 157 (.tmp 10) (unhide HR).y rfl rfl rfl Tryz.underlying157 rfl iLimbs ?_
        | refine st8 (n := r) 157 (.tmp 6) (.tmp 40) (unhide HR).r rfl rfl rfl rfl rfl iLimbs ?_)
      exact res8 ((unhide HR).r.row _) rfl rfl rfl Tryz.underlying157 rfl iLimbs ⟨rfl, below_row (unhide HR).o (by omega) _⟩

end Go.Proofs.YtnemedgdhojhdaaGreat

namespace Go.Proofs.YtnemedgdhojhdaaGreat
open Go.RowKit
set_option maxRecDepth 4000

theorem or_add (a b k : Nat) (ha : a < 2 ^ k) : a ||| (2 ^ k * b) = a + 2 ^ k * b := by
  rw [Nat.or_comm, ← Nat.two_pow_add_eq_or_of_lt ha, Nat.add_comm]

/-- Two limbs of Z, shifted by p bits: the low limb of Z by 2^p. -/
theorem or_shift (Z p : Nat) (hp : p < 64) :
    bits .or .u64 (((Z % 18446744073709551616 : Nat) : Int) / 2 ^ min p 64) (IntKind.u64.wrap (((Z / 18446744073709551616 % 18446744073709551616 : Nat) : Int) * 2 ^ (64 - p))) = ((Z / 2 ^ p % 18446744073709551616 : Nat) : Int) := by
  rw [show min p 64 = p by omega]
  have e1 : (((Z % 18446744073709551616 : Nat) : Int) / 2 ^ p) = ((Z % 18446744073709551616 / 2 ^ p : Nat) : Int) := by
    rw [Int.natCast_ediv]; simp
  have e2 : (((Z / 18446744073709551616 % 18446744073709551616 : Nat) : Int) * 2 ^ (64 - p)) = ((Z / 18446744073709551616 % 18446744073709551616 * 2 ^ (64 - p) : Nat) : Int) := by
    rw [Int.natCast_mul]; simp
  have e3 : ∀ n : Nat, IntKind.u64.wrap (n : Int) = ((n % 18446744073709551616 : Nat) : Int) := fun n => by rw [IntKind.wrap_u64]; omega
  rw [e1, e2, e3]
  have hpow : 2 ^ (64 - p) * 2 ^ p = 18446744073709551616 := by rw [← Nat.pow_add, show 64 - p + p = 64 by omega]
  have hP : 0 < 2 ^ p := Nat.pow_pos (by decide)
  have hQ : 0 < 2 ^ (64 - p) := Nat.pow_pos (by decide)
  have ha : Z % 18446744073709551616 / 2 ^ p < 2 ^ (64 - p) := by
    rw [Nat.div_lt_iff_lt_mul hP, hpow]; exact Nat.mod_lt _ (by decide)
  have hb : Z / 18446744073709551616 % 18446744073709551616 * 2 ^ (64 - p) % 18446744073709551616 = 2 ^ (64 - p) * (Z / 18446744073709551616 % 2 ^ p) := by
    rw [Nat.mul_comm, ← hpow, Nat.mul_mod_mul_left, Nat.mod_mul_left_mod]
  have hlt : 2 ^ (64 - p) * (Z / 18446744073709551616 % 2 ^ p) < 18446744073709551616 := by
    rw [← hb]; exact Nat.mod_lt _ (by decide)
  have hor : bits .or .u64 ((Z % 18446744073709551616 / 2 ^ p : Nat) : Int) ((2 ^ (64 - p) * (Z / 18446744073709551616 % 2 ^ p) : Nat) : Int) = ((Z % 18446744073709551616 / 2 ^ p ||| 2 ^ (64 - p) * (Z / 18446744073709551616 % 2 ^ p) : Nat) : Int) := by
    have h1 : Z % 18446744073709551616 / 2 ^ p < 18446744073709551616 := Nat.lt_of_le_of_lt (Nat.div_le_self _ _) (Nat.mod_lt _ (by decide))
    generalize Z % 18446744073709551616 / 2 ^ p = a at *
    generalize 2 ^ (64 - p) * (Z / 18446744073709551616 % 2 ^ p) = b at *
    have h : bits .or .u64 (a : Int) (b : Int) = IntKind.u64.wrap (((BitVec.ofInt 64 (a : Int) ||| BitVec.ofInt 64 (b : Int)).toNat : Nat) : Int) := rfl
    rw [h, u64_wrap_nat _ (BitVec.isLt _), BitVec.ofInt_natCast, BitVec.ofInt_natCast, BitVec.toNat_or, BitVec.toNat_ofNat, BitVec.toNat_ofNat, Nat.mod_eq_of_lt h1, Nat.mod_eq_of_lt hlt]
  rw [hb, hor, or_add _ _ _ ha]
  congr 1
  -- Z = low + 2^64 * rest
  have hz := Nat.mod_add_div Z 18446744073709551616
  generalize Z % 18446744073709551616 = lo at *
  generalize Z / 18446744073709551616 = hi at *
  rw [← hz, ← hpow, Nat.mul_comm (2 ^ (64 - p)) (2 ^ p), Nat.mul_assoc, Nat.add_mul_div_left _ _ hP]
  have : (lo / 2 ^ p + 2 ^ (64 - p) * hi) % (2 ^ p * 2 ^ (64 - p)) = lo / 2 ^ p + 2 ^ (64 - p) * (hi % 2 ^ p) := by
    rw [Nat.mul_comm (2 ^ p), Nat.mod_mul]
    rw [Nat.add_mul_mod_self_left, Nat.mod_eq_of_lt ha, Nat.add_mul_div_left _ _ hQ, Nat.div_eq_of_lt ha, Nat.zero_add]
  rw [this]

theorem lm_shift (X a k : Nat) : lm (X / 2 ^ (64 * a)) k = lm X (a + k) := by
  unfold lm
  rw [Nat.div_div_eq_div_mul, ← Nat.pow_add, Nat.mul_add]
theorem lm0 (X : Nat) : lm X 0 = ((X % 18446744073709551616 : Nat) : Int) := by simp [lm]
theorem lm1 (X : Nat) : lm X 1 = ((X / 18446744073709551616 % 18446744073709551616 : Nat) : Int) := rfl

/-- The limb k of X by 2^(64 a + p), out of two limbs of X. -/
theorem or_limbs (X a p k : Nat) (hp : p < 64) (u v : Int) (hu : u = lm X (a + k)) (hv : v = lm X (a + k + 1)) :
    bits .or .u64 (u / 2 ^ min p 64) (IntKind.u64.wrap (v * 2 ^ (64 - p))) = lm (X / 2 ^ (64 * a + p)) k := by
  have h := or_shift (X / 2 ^ (64 * (a + k))) p hp
  rw [← lm0, ← lm1, lm_shift, lm_shift, Nat.add_zero] at h
  rw [hu, hv, h]
  unfold lm
  congr 2
  rw [Nat.div_div_eq_div_mul, Nat.div_div_eq_div_mul, ← Nat.pow_add, ← Nat.pow_add]
  congr 2
  omega

theorem pow64_le {a b : Nat} (h : a ≤ b) : 2 ^ (64 * a) ≤ 2 ^ (64 * b) := Nat.pow_le_pow_right (by decide) (by omega)

theorem M_le {i : Nat} (h : 8 ≤ i) : M ≤ 2 ^ (64 * i) := by
  have h1 := pow64_le h
  rw [← M_pow8] at h1
  exact h1

/-- A window to the right, 0 above: x by a power of two. -/
theorem wl_right (x p q : Nat) (hx : x < M) (hp : p < 64) (k : Nat) : wl x 0 (q : Int) p k = lm (x / 2 ^ (64 * q + p)) k := by
  have hz : ∀ i, 8 ≤ i → lm x i = 0 := fun i hi => by
    unfold lm
    rw [Nat.div_eq_of_lt]
    · rfl
    · exact Nat.lt_of_lt_of_le hx (M_le hi)
  have hat : ∀ i : Nat, atL x 0 (i : Int) = lm x i := fun i => by
    unfold atL
    rw [if_neg (by omega)]
    by_cases h : 8 ≤ i
    · rw [if_pos (by omega), hz i h]
    · rw [if_neg (by omega)]; rfl
  unfold wl
  refine or_limbs x q p k hp _ _ ?_ ?_
  · rw [← hat]; congr 1; omega
  · rw [← hat]; congr 1; omega

/-- A window to the left: x times a power of two. q limbs to the left, p bits back. -/
theorem wl_left (x p q : Nat) (f : Int) (hp : p < 64) (hq : 1 ≤ q) (k : Nat) (hk : k < 8) : wl x f (-(q : Int)) p k = lm (x * 2 ^ (64 * q) / 2 ^ p) k := by
  have hlo : ∀ i, i < q → lm (x * 2 ^ (64 * q)) i = 0 := fun i hi => by
    unfold lm
    rw [show 64 * q = 64 * i + (64 + 64 * (q - i - 1)) by omega, Nat.pow_add, Nat.pow_add, Nat.mul_left_comm, Nat.mul_div_cancel_left _ (Nat.pow_pos (by decide)), Nat.mul_left_comm, show (2 : Nat) ^ 64 = 18446744073709551616 by decide, Nat.mul_mod_right]
    rfl
  have hhi : ∀ i, lm (x * 2 ^ (64 * q)) (q + i) = lm x i := fun i => by
    rw [← lm_shift, Nat.mul_div_cancel _ (Nat.pow_pos (by decide))]
  have hat : ∀ i : Nat, i < q + 8 → atL x f ((i : Int) - q) = lm (x * 2 ^ (64 * q)) i := fun i hi => by
    unfold atL
    by_cases h : i < q
    · rw [if_pos (by omega), hlo i h]
    · rw [if_neg (by omega), if_neg (by omega), show i = q + (i - q) by omega, hhi]
      congr 1
      omega
  unfold wl
  have h := or_limbs (x * 2 ^ (64 * q)) 0 p k hp (atL x f ((k : Int) - q)) (atL x f (((k + 1 : Nat) : Int) - q)) (by rw [hat k (by omega), Nat.zero_add]) (by rw [hat (k + 1) (by omega), Nat.zero_add])
  rw [Nat.mul_zero, Nat.zero_add] at h
  rw [← h]
  congr 2
  · congr 2; omega

end Go.Proofs.YtnemedgdhojhdaaGreat

namespace Go.Proofs.YtnemedgdhojhdaaGreat
open Go.RowKit
set_option maxRecDepth 4000

theorem and63 (n : Int) : bits .and .i64 n 63 = n % 64 := by
  have h : bits .and .i64 n 63 = IntKind.i64.wrap (((BitVec.ofInt 64 n &&& BitVec.ofInt 64 63).toNat : Nat) : Int) := rfl
  rw [h, BitVec.toNat_and, show (BitVec.ofInt 64 63).toNat = 2 ^ 6 - 1 from by decide, Nat.and_two_pow_sub_one_eq_mod, BitVec.toNat_ofInt, IntKind.wrap_i64]
  omega

theorem window_of (x : Nat) (first f : Int) (r : Nat) (h0 : -9223372036854775808 ≤ first) (h1 : first < 9223372036854775808) (hr : ∀ k, k < 8 → wl x f (first / 64) (first % 64).toNat k = lm r k) (w : World) :
    Calls Tryz.prog 164 #[W x, .int .i64 first, .int .u64 f] w fun e w' => e = .returned (.agg (cells8 r)) ∧ Below w.heap.size w w' := by
  have hp : bits .and .i64 first 63 = (((first % 64).toNat : Nat) : Int) := by rw [and63]; omega
  have hs : IntKind.i64.wrap (64 - (((first % 64).toNat : Nat) : Int)) = ((64 - (first % 64).toNat : Nat) : Int) := by rw [IntKind.wrap_i64]; omega
  exact window_core x (first % 64).toNat first f (first / 64) w rfl hp hs ⟨by omega, by omega⟩ r hr

/-- To the right, whatever stands above: X has the limbs of x, and f above them. -/
theorem wl_rightX (x X p q : Nat) (f : Int) (hp : p < 64) (k : Nat) (h : ∀ i : Nat, i ≤ q + k + 1 → atL x f (i : Int) = lm X i) : wl x f (q : Int) p k = lm (X / 2 ^ (64 * q + p)) k := by
  unfold wl
  refine or_limbs X q p k hp _ _ ?_ ?_
  · rw [← h (q + k) (by omega)]; congr 1; omega
  · rw [← h (q + k + 1) (by omega)]; congr 1; omega

theorem win_right0 (x n : Nat) (hx : x < M) (hn : (n : Int) < 9223372036854775808) (w : World) :
    Calls Tryz.prog 164 #[W x, .int .i64 (n : Int), .int .u64 0] w fun e w' => e = .returned (.agg (cells8 (x / 2 ^ n))) ∧ Below w.heap.size w w' := by
  refine window_of x n 0 _ (by omega) hn (fun k _ => ?_) w
  have h := wl_right x (n % 64) (n / 64) hx (Nat.mod_lt _ (by decide)) k
  rw [show 64 * (n / 64) + n % 64 = n by omega] at h
  rw [← h]
  congr 1

theorem win_left (x n : Nat) (hx : x < M) (hn : (n : Int) < 9223372036854775808) (w : World) :
    Calls Tryz.prog 164 #[W x, .int .i64 (-(n : Int)), .int .u64 0] w fun e w' => e = .returned (.agg (cells8 (x * 2 ^ n))) ∧ Below w.heap.size w w' := by
  rcases Nat.eq_zero_or_pos n with h0 | h0
  · subst h0
    have h := win_right0 x 0 hx (by decide) w
    simpa using h
  · obtain ⟨q, p, hp, hq, e⟩ : ∃ q p, p < 64 ∧ 1 ≤ q ∧ n + p = 64 * q := ⟨(n + 63) / 64, 64 * ((n + 63) / 64) - n, by omega, by omega, by omega⟩
    refine window_of x (-(n : Int)) 0 _ (by omega) (by omega) (fun k hk => ?_) w
    have h := wl_left x p q 0 hp hq k hk
    rw [show (-(n : Int)) / 64 = -(q : Int) by omega, show ((-(n : Int)) % 64).toNat = p by omega, h, ← e, Nat.pow_add, ← Nat.mul_assoc, Nat.mul_div_cancel _ (Nat.pow_pos (by decide))]

/-- x, and ones above. -/
def up (x n : Nat) : Nat := x + (2 ^ (64 * (n / 64 + 2)) - 1) * M

theorem lm_up (x n : Nat) (hx : x < M) (i : Nat) (hi : i ≤ n / 64 + 8) : atL x 18446744073709551615 (i : Int) = lm (up x n) i := by
  unfold atL up
  rw [if_neg (by omega)]
  by_cases h : 8 ≤ i
  · rw [if_pos (by omega)]
    obtain ⟨j, rfl⟩ : ∃ j, i = 8 + j := ⟨i - 8, by omega⟩
    rw [← lm_shift, ← M_pow8, Nat.add_mul_div_right _ _ (by decide), Nat.div_eq_of_lt hx, Nat.zero_add]
    have hb : (0 : Nat) < 2 ^ (64 * (n / 64 + 2)) := Nat.pow_pos (by decide)
    have hK : 2 ^ (64 * (n / 64 + 2)) = 2 ^ (64 * j) * (18446744073709551616 * 2 ^ (64 * (n / 64 + 2 - j - 1))) := by
      rw [show (18446744073709551616 : Nat) = 2 ^ 64 by decide, ← Nat.pow_add, ← Nat.pow_add]; congr 1; omega
    have hP : 0 < 2 ^ (64 * j) := Nat.pow_pos (by decide)
    unfold lm
    have h1 := cpl_div (2 ^ (64 * j)) (18446744073709551616 * 2 ^ (64 * (n / 64 + 2 - j - 1))) 0 hP (by rw [← hK]; exact hb)
    rw [← hK, Nat.sub_zero, Nat.zero_div, Nat.sub_zero] at h1
    rw [h1]
    have hQ : 0 < 2 ^ (64 * (n / 64 + 2 - j - 1)) := Nat.pow_pos (by decide)
    generalize 2 ^ (64 * (n / 64 + 2 - j - 1)) = Q at *
    omega
  · rw [if_neg (by omega)]
    have e : lm (x + (2 ^ (64 * (n / 64 + 2)) - 1) * M) i = lm ((x + (2 ^ (64 * (n / 64 + 2)) - 1) * M) % M) i := (lm_mod _ i (by omega)).symm
    rw [e, Nat.add_mul_mod_self_right, Nat.mod_eq_of_lt hx]
    rfl

theorem win_rightF (x n : Nat) (hx : x < M) (hn : (n : Int) < 9223372036854775808) (w : World) :
    Calls Tryz.prog 164 #[W x, .int .i64 (n : Int), .int .u64 18446744073709551615] w fun e w' => e = .returned (.agg (cells8 (up x n / 2 ^ n))) ∧ Below w.heap.size w w' := by
  refine window_of x n _ _ (by omega) hn (fun k hk => ?_) w
  have h := wl_rightX x (up x n) (n % 64) (n / 64) 18446744073709551615 (Nat.mod_lt _ (by decide)) k (fun i hi => lm_up x n hx i (by omega))
  rw [show 64 * (n / 64) + n % 64 = n by omega] at h
  rw [← h]
  congr 1

end Go.Proofs.YtnemedgdhojhdaaGreat
