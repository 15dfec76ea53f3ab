/- The contract of length of package wide: how many bits a number has. -/
import Derived.Test.YtfoojpfgeicolaaYa
namespace Go.Proofs.Ytfoojpfgeicolaa
open Go.RowKit

theorem blen_split (x n : Nat) (h2 : 2 ^ n ≤ x) : blen x = n + blen (x / 2 ^ n) := by
  have hP : 0 < 2 ^ n := Nat.pow_pos (by decide)
  have key : ∀ k, blen x ≤ n + k ↔ blen (x / 2 ^ n) ≤ k := fun k => by
    rw [blen_lt, blen_lt, Nat.div_lt_iff_lt_mul hP, Nat.pow_add, Nat.mul_comm (2 ^ n)]
  have hge : n ≤ blen x := by
    rcases Nat.lt_or_ge (blen x) n with h | h
    · have h3 := (blen_lt x n).1 (by omega); omega
    · exact h
  apply Nat.le_antisymm
  · exact (key _).2 (Nat.le_refl _)
  · have := (key (blen x - n)).1 (by omega)
    omega

theorem length_core (x n : Nat) (w : World) (hn : Hid (usedTo x 8 = n + 1)) (hn8 : n < 8) (hl : Hid (((n : Int) * 64 + (blen (lmN x n) : Int)) = (blen x : Int))) (hb : blen (lmN x n) ≤ 64) :
    Calls Try.prog 40 #[W x] w fun e w' => e = .returned (.int .i64 (blen x : Nat)) ∧ Below w.heap.size w w' := by
  have hU : Hid (∀ u, Calls Try.prog 64 #[W x] u fun e w' => e = .returned (.int .i64 ((n : Int) + 1)) ∧ Below u.heap.size u w') := fun u => (used_any x u).mono fun e w' ⟨he, hb⟩ => ⟨by rw [he, unhide hn]; rfl, hb⟩
  have hZ : Hid (∀ u, Calls Try.prog 65 #[.int .u64 (lm x n)] u fun e w' => e = .returned (.int .i64 (blen (lmN x n) : Int)) ∧ w' = u) := fun u => len64_any (lmN x n) (lmN_lt _ _) u
  have hw1 : IntKind.i64.wrap ((n : Int) + 1 - 1) = (n : Int) := by rw [IntKind.wrap_i64]; omega
  have hw1' : IntKind.i64.wrap (n : Int) = (n : Int) := by rw [IntKind.wrap_i64]; omega
  have hw2 : IntKind.i64.wrap ((n : Int) * 64) = (n : Int) * 64 := by rw [IntKind.wrap_i64]; omega
  generalize blen (lmN x n) = b at *
  have hw3 : IntKind.i64.wrap ((n : Int) * 64 + (b : Int)) = (blen x : Int) := by rw [IntKind.wrap_i64, ← unhide hl]; omega
  have hni : (n : Int) < 8 := by omega
  have hne : ¬ ((n : Int) + 1 = 0) := by omega
  have hne' : ((n : Int) + 1 == 0) = false := by simp; omega
  go_enter Try.func40, Try.ntmps40
  go_upto_region 1 with fail
  have D0 := hide (Blk.new w 50 (cells8 x))
  go_upto_region 2 with (first
    | refine ld8 50 (.tmp 1) (unhide D0) rfl rfl rfl Try.underlying50 rfl iLimbs ?_
    | (go_at_call 64; refine (unhide hU _).mono ?_; rintro e w1 ⟨he, hb1⟩; subst he))
  have D1 := hide ((unhide D0).below hb1 (unhide D0).lt)
  have O1 := hide ((((Below.refl w.heap.size w).alloc (Nat.le_refl _) _).trans (hb1.mono (by simp))))
  clear D0 hb1
  have hyn : w1.cell? ⟨w.heap.size, n, none⟩ = some (.int .u64 (lm x n)) := by rw [(unhide D1).cell n, cells8_get x n hn8]
  go_wp2_with (go_at_call 65; refine (unhide hZ _).mono ?_; rintro e w2 ⟨he, hb2⟩; subst he; subst hb2)
  go_ret
  exact ⟨rfl, unhide O1⟩

theorem length_any (x : Nat) (hx : x < M) (w : World) :
    Calls Try.prog 40 #[W x] w fun e w' => e = .returned (.int .i64 (blen x : Nat)) ∧ Below w.heap.size w w' := by
  obtain ⟨hxu, hxj⟩ := used_spec x 8 (by rw [← M_pow8]; exact hx)
  have hu8 := usedTo_le x 8
  cases hn : usedTo x 8 with
  | zero =>
    rw [hn] at hxu
    have h0 : x = 0 := by simpa using hxu
    subst h0
    have hU : Hid (∀ u, Calls Try.prog 64 #[W 0] u fun e w' => e = .returned (.int .i64 0) ∧ Below u.heap.size u w') := fun u => (used_any 0 u).mono fun e w' ⟨he, hb⟩ => ⟨by rw [he, hn]; rfl, hb⟩
    go_enter Try.func40, Try.ntmps40
    go_upto_region 1 with fail
    have D0 := hide (Blk.new w 50 (cells8 0))
    go_upto_region 2 with (first
      | refine ld8 50 (.tmp 1) (unhide D0) rfl rfl rfl Try.underlying50 rfl iLimbs ?_
      | (go_at_call 64; refine (unhide hU _).mono ?_; rintro e w1 ⟨he, hb1⟩; subst he))
    have O1 := hide ((((Below.refl w.heap.size w).alloc (Nat.le_refl _) _).trans (hb1.mono (by simp))))
    clear D0 hb1
    go_wp2
    go_ret
    exact ⟨rfl, unhide O1⟩
  | succ n =>
    rw [hn] at hxu hu8
    have hlow := hxj n hn
    have hP : 0 < 2 ^ (64 * n) := Nat.pow_pos (by decide)
    have hl : lmN x n = x / 2 ^ (64 * n) := by
      unfold lmN
      rw [Nat.mod_eq_of_lt]
      rw [Nat.div_lt_iff_lt_mul hP, Nat.mul_comm, ← pow_step]; exact hxu
    refine length_core x n w hn (by omega) ?_ ((blen_lt _ _).2 (lmN_lt _ _))
    show ((n : Int) * 64 + (blen (lmN x n) : Int)) = (blen x : Int)
    rw [blen_split x (64 * n) hlow, hl]
    omega

end Go.Proofs.Ytfoojpfgeicolaa
