/- The contracts of the signs of package wide: below, fill, size, sum, difference. -/
import Derived.Test.YtnknejdmoghmiaaWc
namespace Go.Proofs.Ytnknejdmoghmiaa
open Go.RowKit
set_option maxRecDepth 4000

/-- Is the number below 0, of which n is the form? -/
def neg (n : Nat) : Bool := decide (M / 2 ≤ n % M)

theorem and_bit (a i : Nat) : a &&& 2 ^ i = if a.testBit i then 2 ^ i else 0 := by
  apply Nat.eq_of_testBit_eq
  intro j
  rw [Nat.testBit_and, Nat.testBit_two_pow]
  by_cases e : i = j
  · subst e
    cases h : a.testBit i <;> simp
  · cases h : a.testBit i <;> simp [e]
theorem and_top (a : Nat) (ha : a < 18446744073709551616) : bits .and .u64 (a : Int) 9223372036854775808 = if 9223372036854775808 ≤ a then 9223372036854775808 else 0 := by
  have h : bits .and .u64 (a : Int) 9223372036854775808 = IntKind.u64.wrap (((BitVec.ofInt 64 (a : Int) &&& BitVec.ofInt 64 9223372036854775808).toNat : Nat) : Int) := rfl
  rw [h, u64_wrap_nat _ (BitVec.isLt _), BitVec.ofInt_natCast, BitVec.toNat_and, show (BitVec.ofInt 64 9223372036854775808).toNat = 2 ^ 63 from by decide, BitVec.toNat_ofNat, Nat.mod_eq_of_lt ha, and_bit]
  have e : a.testBit 63 = decide (9223372036854775808 ≤ a) := by
    rw [Nat.testBit_eq_decide_div_mod_eq]
    congr 1
    rw [show (2 : Nat) ^ 63 = 9223372036854775808 by decide]
    apply propext
    omega
  rw [e]
  by_cases hle : 9223372036854775808 ≤ a
  · simp [hle]
  · simp [hle]

theorem pow64_pos (k : Nat) : 0 < 2 ^ (64 * k) := Nat.pow_pos (by decide)
theorem M_pow (k : Nat) (hk : k < 8) : M = 2 ^ (64 * k) * (18446744073709551616 * 2 ^ (448 - 64 * k)) := by
  rw [M_pow8, show (18446744073709551616 : Nat) = 2 ^ 64 by decide, ← Nat.pow_add, ← Nat.pow_add]; congr 1; omega
theorem top_half (P m : Nat) (hP : 0 < P) (hM : M = P * 18446744073709551616) : (M / 2 ≤ m) ↔ 9223372036854775808 ≤ m / P := by
  rw [Nat.le_div_iff_mul_le hP, hM]
  omega
theorem lm_top (n P : Nat) (hPe : P = 2 ^ (64 * 7)) (hP : 0 < P) (hM : M = P * 18446744073709551616) : lm n 7 = ((n % M / P : Nat) : Int) := by
  rw [← lm_mod n 7 (by decide)]
  unfold lm
  rw [← hPe]
  congr 1
  apply Nat.mod_eq_of_lt
  rw [Nat.div_lt_iff_lt_mul hP, Nat.mul_comm, ← hM]
  exact Nat.mod_lt _ (by decide)
theorem neg_top (n : Nat) : neg n = decide (9223372036854775808 ≤ lm n 7) := by
  obtain ⟨P, hPe⟩ : ∃ P, P = 2 ^ (64 * 7) := ⟨_, rfl⟩
  have hP : 0 < P := by rw [hPe]; exact pow64_pos 7
  have hM : M = P * 18446744073709551616 := by rw [M_pow 7 (by decide), ← hPe]
  unfold neg
  rw [lm_top n P hPe hP hM]
  congr 1
  apply propext
  rw [top_half P _ hP hM]
  omega

theorem neg_bits (n : Nat) : (bits .and .u64 (lm n 7) 9223372036854775808 != 0) = neg n := by
  rw [neg_top]
  have h1 := lm_nn n 7
  have h2 := lm_lt n 7
  unfold B64 at h2
  obtain ⟨k, hk⟩ := Int.eq_ofNat_of_zero_le h1
  rw [hk] at h2 ⊢
  rw [and_top k (by omega)]
  by_cases h : 9223372036854775808 ≤ k
  · rw [if_pos h]; simp; omega
  · rw [if_neg h]; simp; omega

theorem below_any (n : Nat) (w : World) :
    Calls Try.prog 99 #[W n] w fun e w' => e = .returned (.bool (neg n)) ∧ w' = w.alloc (.cells (cells8 n) 40) := by
  unfold W
  have h7 : ∀ (w : World), (w.alloc (.cells (cells8 n) 40)).cell? ⟨w.heap.size, 7, none⟩ = some (.int .u64 (lm n 7)) := fun w => (Blk.new w 40 (cells8 n)).cell 7
  have hb := neg_bits n
  go_enter Try.func99, Try.ntmps99
  go_wp2
  go_ret
  exact ⟨rfl, rfl⟩

theorem below_below (n : Nat) (w : World) :
    Calls Try.prog 99 #[W n] w fun e w' => e = .returned (.bool (neg n)) ∧ Below w.heap.size w w' :=
  (below_any n w).mono fun _ _ ⟨he, hw⟩ => ⟨he, by subst hw; exact (Below.refl _ _).alloc (Nat.le_refl _) _⟩

/-- What sum and difference know while they ask for signs. -/
structure Three (w0 : World) (g ga gb gc a b c : Nat) (w : World) : Prop where
  a : Blk w ga 40 (cells8 a)
  b : Blk w gb 40 (cells8 b)
  c : Blk w gc 40 (cells8 c)
  r : Blk w (g + 1 + 1) 40 (cells8 0)
  o : Below g w0 w
theorem Three.keep {w0 w w' : World} {g ga gb gc a b c : Nat} (h : Three w0 g ga gb gc a b c w) (hb : Below w.heap.size w w') (hg : g ≤ w.heap.size) : Three w0 g ga gb gc a b c w' :=
  ⟨h.a.below hb h.a.lt, h.b.below hb h.b.lt, h.c.below hb h.c.lt, h.r.below hb h.r.lt, h.o.trans (hb.mono hg)⟩

theorem Three.start {w w' : World} {a b c : Nat} {z : Obj} (hz : z = .cells (cells8 0) 40) (hb : Below (((w.alloc (.cells (cells8 a) 40)).alloc (.cells (cells8 b) 40)).alloc z).heap.size (((w.alloc (.cells (cells8 a) 40)).alloc (.cells (cells8 b) 40)).alloc z) w') :
    Three w w.heap.size w.heap.size (w.heap.size + 1) w'.heap.size a b c (w'.alloc (.cells (cells8 c) 40)).drew := by
  subst hz
  have h3 := below3 w (.cells (cells8 a) 40) (.cells (cells8 b) 40) (.cells (cells8 0) 40)
  have hs : w.heap.size ≤ w'.heap.size := by have := hb.size; simp at this; omega
  exact ⟨((Blk.first3 w _ _ _ _).below hb (Blk.first3 w _ _ _ _).lt).alloc _, ((Blk.second3 w _ _ _ _).below hb (Blk.second3 w _ _ _ _).lt).alloc _, Blk.new _ _ _, ((Blk.third3 w _ _ _ _).below hb (Blk.third3 w _ _ _ _).lt).alloc _,
    ((h3.trans (hb.mono (by simp; omega))).alloc hs _).drew⟩

/-- What leaves by panic where there is no answer. -/
def noAnswer : List PanicEntry := [{ v := .iface 9 (.string ⟨#[119, 105, 100, 101, 58, 32, 110, 111, 32, 97, 110, 115, 119, 101, 114]⟩), recovered := false }]
/-- A number, or the panic. -/
def Ends (bad : Bool) (n : Nat) (e : Ending) : Prop := e = if bad then .panicked noAnswer else .returned (.agg (cells8 n))

set_option maxHeartbeats 1000000 in
theorem sum_any (a b : Nat) (w : World) :
    Calls Try.prog 119 #[W a, W b] w fun e w' => Ends (neg a == neg b && !(neg (a + b) == neg a)) (a + b) e ∧ Below w.heap.size w w' := by
  unfold W
  go_enter Try.func119, Try.ntmps119
  go_wp2_with (first
    | refine ld8 38 (.tmp 6) (Blk.first3 _ _ _ _ _) rfl rfl rfl Try.underlying38 rfl iArr ?_
    | refine ld8 38 (.tmp 8) (Blk.second3 _ _ _ _ _) rfl rfl rfl Try.underlying38 rfl iArr ?_
    | refine bd1 40 (.tmp 10) rfl rfl rfl (bWide (a + b)) ?_
    | refine st8new (n := a + b) 40 (.tmp 5) (.tmp 11) rfl rfl rfl rfl rfl iWide ?_
    | (go_at_call 150; refine (plus_any a b _).mono ?_; rintro e w' ⟨he, hb⟩; subst he))
  have hsz : w.heap.size ≤ w'.heap.size := by have := hb.size; simp at this; omega
  refine region_plan (S := Three w w.heap.size w.heap.size (w.heap.size + 1) w'.heap.size a b (a + b)) (l := [0, 1, 2, 3, 4, 5, 6, 7, 8, 9, 10, 11]) (by kernel_rfl) (by kernel_rfl) (by kernel_rfl) (by kernel_rfl) (by kernel_rfl) (by kernel_rfl) (by kernel_rfl) ?_ ?_
  · exact Three.start (by rw [cells8_0]) hb
  have keep : ∀ {u u' : World}, Three w w.heap.size w.heap.size (w.heap.size + 1) w'.heap.size a b (a + b) u → Below u.heap.size u u' → Three w w.heap.size w.heap.size (w.heap.size + 1) w'.heap.size a b (a + b) u' := fun h hb => h.keep hb (Nat.le_of_lt h.a.lt)
  have K : Hid (∀ {u u' : World}, Three w w.heap.size w.heap.size (w.heap.size + 1) w'.heap.size a b (a + b) u → Below u.heap.size u u' → Three w w.heap.size w.heap.size (w.heap.size + 1) w'.heap.size a b (a + b) u') := keep
  clear keep hb
  refine plan_read rfl rfl (fun w hS => exec_load8 40 (.tmp 2) hS.a rfl rfl Try.underlying40 rfl iWide) ?_
  refine plan_call (v := .bool (neg a)) (f := 99) (args := #[W a]) rfl rfl (fun w hS => by go_simp) (fun w hS => (below_below a w).mono fun _ _ ⟨he, hb⟩ => ⟨he, K.out hS hb⟩) ?_
  refine plan_read rfl rfl (fun w hS => exec_load8 40 (.tmp 3) hS.b rfl rfl Try.underlying40 rfl iWide) ?_
  refine plan_call (v := .bool (neg b)) (f := 99) (args := #[W b]) rfl rfl (fun w hS => by go_simp) (fun w hS => (below_below b w).mono fun _ _ ⟨he, hb⟩ => ⟨he, K.out hS hb⟩) ?_
  refine plan_read (v := .bool (neg a == neg b)) rfl rfl (fun w hS => by go_simp) ?_
  refine plan_read (v := .bool (neg a == neg b)) rfl rfl (fun w hS => by go_simp) ?_
  cases t : (neg a == neg b)
  · go_simp
    refine plan_skip rfl rfl ?_
    refine plan_skip rfl rfl ?_
    refine plan_skip rfl rfl ?_
    refine plan_skip rfl rfl ?_
    refine plan_skip rfl rfl ?_
    refine plan_read (v := .bool false) rfl rfl (fun w hS => by go_simp) ?_
    refine plan_end (fun u hS => ?_)
    go_simp
    have HC := hide hS.c
    have HR := hide hS.r
    have HO := hide hS.o
    clear hS K
    go_wp2_with (first
      | refine ld8 40 (.tmp 5) (unhide HC) rfl rfl rfl Try.underlying40 rfl iWide ?_
      | refine st8 (n := a + b) 40 (.tmp 4) (.tmp 25) (unhide HR) rfl rfl rfl rfl rfl iWide ?_)
    exact res8 ((unhide HR).row _) rfl rfl rfl Try.underlying40 rfl iWide ⟨by simp [Ends, t], below_row (unhide HO) (by omega) _⟩
  · go_simp
    refine plan_read rfl rfl (fun w hS => exec_load8 40 (.tmp 5) hS.c rfl rfl Try.underlying40 rfl iWide) ?_
    refine plan_call (v := .bool (neg (a + b))) (f := 99) (args := #[W (a + b)]) rfl rfl (fun w hS => by go_simp) (fun w hS => (below_below (a + b) w).mono fun _ _ ⟨he, hb⟩ => ⟨he, K.out hS hb⟩) ?_
    refine plan_read rfl rfl (fun w hS => exec_load8 40 (.tmp 2) hS.a rfl rfl Try.underlying40 rfl iWide) ?_
    refine plan_call (v := .bool (neg a)) (f := 99) (args := #[W a]) rfl rfl (fun w hS => by go_simp) (fun w hS => (below_below a w).mono fun _ _ ⟨he, hb⟩ => ⟨he, K.out hS hb⟩) ?_
    refine plan_read (v := .bool (!(neg (a + b) == neg a))) rfl rfl (fun w hS => by go_simp) ?_
    refine plan_read (v := .bool (!(neg (a + b) == neg a))) rfl rfl (fun w hS => by go_simp) ?_
    cases t2 : (neg (a + b) == neg a)
    · refine plan_end (fun u hS => ?_)
      go_simp
      have HO := hide hS.o
      clear hS K
      go_wp2
      exact ⟨rfl, by simp [Ends, t, t2, noAnswer], unhide HO⟩
    · refine plan_end (fun u hS => ?_)
      go_simp
      have HC := hide hS.c
      have HR := hide hS.r
      have HO := hide hS.o
      clear hS K
      go_wp2_with (first
        | refine ld8 40 (.tmp 5) (unhide HC) rfl rfl rfl Try.underlying40 rfl iWide ?_
        | refine st8 (n := a + b) 40 (.tmp 4) (.tmp 25) (unhide HR) rfl rfl rfl rfl rfl iWide ?_)
      exact res8 ((unhide HR).row _) rfl rfl rfl Try.underlying40 rfl iWide ⟨by simp [Ends, t, t2], below_row (unhide HO) (by omega) _⟩

set_option maxHeartbeats 1000000 in
theorem difference_core (a b y' : Nat) (hy : Hid (∀ k, k < 8 → bits .xor .u64 IntKind.u64.max (lm b k) = lm y' k)) (w : World) :
    Calls Try.prog 102 #[W a, W b] w fun e w' => Ends (!(neg a == neg b) && !(neg (a + y' + 1) == neg a)) (a + y' + 1) e ∧ Below w.heap.size w w' := by
  unfold W
  go_enter Try.func102, Try.ntmps102
  go_wp2_with (first
    | refine ld8 38 (.tmp 6) (Blk.first3 _ _ _ _ _) rfl rfl rfl Try.underlying38 rfl iArr ?_
    | refine ld8 38 (.tmp 8) (Blk.second3 _ _ _ _ _) rfl rfl rfl Try.underlying38 rfl iArr ?_
    | refine bd1 40 (.tmp 10) rfl rfl rfl (bWide (a + y' + 1)) ?_
    | refine st8new (n := a + y' + 1) 40 (.tmp 5) (.tmp 11) rfl rfl rfl rfl rfl iWide ?_
    | (go_at_call 148; refine (minus_core a b y' hy _).mono ?_; rintro e w' ⟨he, hb⟩; subst he))
  have hsz : w.heap.size ≤ w'.heap.size := by have := hb.size; simp at this; omega
  refine region_plan (S := Three w w.heap.size w.heap.size (w.heap.size + 1) w'.heap.size a b (a + y' + 1)) (l := [0, 1, 2, 3, 4, 5, 6, 7, 8, 9, 10, 11]) (by kernel_rfl) (by kernel_rfl) (by kernel_rfl) (by kernel_rfl) (by kernel_rfl) (by kernel_rfl) (by kernel_rfl) ?_ ?_
  · exact Three.start (by rw [cells8_0]) hb
  have keep : ∀ {u u' : World}, Three w w.heap.size w.heap.size (w.heap.size + 1) w'.heap.size a b (a + y' + 1) u → Below u.heap.size u u' → Three w w.heap.size w.heap.size (w.heap.size + 1) w'.heap.size a b (a + y' + 1) u' := fun h hb => h.keep hb (Nat.le_of_lt h.a.lt)
  have K : Hid (∀ {u u' : World}, Three w w.heap.size w.heap.size (w.heap.size + 1) w'.heap.size a b (a + y' + 1) u → Below u.heap.size u u' → Three w w.heap.size w.heap.size (w.heap.size + 1) w'.heap.size a b (a + y' + 1) u') := keep
  clear keep hb
  refine plan_read rfl rfl (fun w hS => exec_load8 40 (.tmp 2) hS.a rfl rfl Try.underlying40 rfl iWide) ?_
  refine plan_call (v := .bool (neg a)) (f := 99) (args := #[W a]) rfl rfl (fun w hS => by go_simp) (fun w hS => (below_below a w).mono fun _ _ ⟨he, hb⟩ => ⟨he, K.out hS hb⟩) ?_
  refine plan_read rfl rfl (fun w hS => exec_load8 40 (.tmp 3) hS.b rfl rfl Try.underlying40 rfl iWide) ?_
  refine plan_call (v := .bool (neg b)) (f := 99) (args := #[W b]) rfl rfl (fun w hS => by go_simp) (fun w hS => (below_below b w).mono fun _ _ ⟨he, hb⟩ => ⟨he, K.out hS hb⟩) ?_
  refine plan_read (v := .bool (!(neg a == neg b))) rfl rfl (fun w hS => by go_simp) ?_
  refine plan_read (v := .bool (!(neg a == neg b))) rfl rfl (fun w hS => by go_simp) ?_
  cases t : (!(neg a == neg b))
  · go_simp
    refine plan_skip rfl rfl ?_
    refine plan_skip rfl rfl ?_
    refine plan_skip rfl rfl ?_
    refine plan_skip rfl rfl ?_
    refine plan_skip rfl rfl ?_
    refine plan_read (v := .bool false) rfl rfl (fun w hS => by go_simp) ?_
    refine plan_end (fun u hS => ?_)
    go_simp
    have HC := hide hS.c
    have HR := hide hS.r
    have HO := hide hS.o
    clear hS K
    go_wp2_with (first
      | refine ld8 40 (.tmp 5) (unhide HC) rfl rfl rfl Try.underlying40 rfl iWide ?_
      | refine st8 (n := a + y' + 1) 40 (.tmp 4) (.tmp 25) (unhide HR) rfl rfl rfl rfl rfl iWide ?_)
    exact res8 ((unhide HR).row _) rfl rfl rfl Try.underlying40 rfl iWide ⟨by simp [Ends, t], below_row (unhide HO) (by omega) _⟩
  · go_simp
    refine plan_read rfl rfl (fun w hS => exec_load8 40 (.tmp 5) hS.c rfl rfl Try.underlying40 rfl iWide) ?_
    refine plan_call (v := .bool (neg (a + y' + 1))) (f := 99) (args := #[W (a + y' + 1)]) rfl rfl (fun w hS => by go_simp) (fun w hS => (below_below (a + y' + 1) w).mono fun _ _ ⟨he, hb⟩ => ⟨he, K.out hS hb⟩) ?_
    refine plan_read rfl rfl (fun w hS => exec_load8 40 (.tmp 2) hS.a rfl rfl Try.underlying40 rfl iWide) ?_
    refine plan_call (v := .bool (neg a)) (f := 99) (args := #[W a]) rfl rfl (fun w hS => by go_simp) (fun w hS => (below_below a w).mono fun _ _ ⟨he, hb⟩ => ⟨he, K.out hS hb⟩) ?_
    refine plan_read (v := .bool (!(neg (a + y' + 1) == neg a))) rfl rfl (fun w hS => by go_simp) ?_
    refine plan_read (v := .bool (!(neg (a + y' + 1) == neg a))) rfl rfl (fun w hS => by go_simp) ?_
    cases t2 : (neg (a + y' + 1) == neg a)
    · refine plan_end (fun u hS => ?_)
      go_simp
      have HO := hide hS.o
      clear hS K
      go_wp2
      exact ⟨rfl, by simp [Ends, t, t2, noAnswer], unhide HO⟩
    · refine plan_end (fun u hS => ?_)
      go_simp
      have HC := hide hS.c
      have HR := hide hS.r
      have HO := hide hS.o
      clear hS K
      go_wp2_with (first
        | refine ld8 40 (.tmp 5) (unhide HC) rfl rfl rfl Try.underlying40 rfl iWide ?_
        | refine st8 (n := a + y' + 1) 40 (.tmp 4) (.tmp 25) (unhide HR) rfl rfl rfl rfl rfl iWide ?_)
      exact res8 ((unhide HR).row _) rfl rfl rfl Try.underlying40 rfl iWide ⟨by simp [Ends, t, t2], below_row (unhide HO) (by omega) _⟩

end Go.Proofs.Ytnknejdmoghmiaa
