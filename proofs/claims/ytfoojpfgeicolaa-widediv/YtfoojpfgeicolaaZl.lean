/- The contracts of Sign, Cmp and Bits of package wide. -/
import Derived.Test.YtfoojpfgeicolaaZf
namespace Go.Proofs.Ytfoojpfgeicolaa
open Go.RowKit

def sgn (x : Int) : Int := if x < 0 then -1 else if x = 0 then 0 else 1
def cmpI (x y : Int) : Int := if x < y then -1 else if y < x then 1 else 0

theorem exec_eql_wide_b {o : Oper} {a : Act} (w : World) (x y : Operand) {n m : Nat} {ty' : TypeId} {b : Bool} (hb : same n m = b) (ho : o.op = .binOp .eql 25 x y ty') (hx : a.eval x = .agg (cells8 n)) (hy : a.eval y = .agg (cells8 m)) :
    (execOp a.eval o).run Try.prog w = .ok (.value (.bool b)) w := hb ▸ exec_eql_wide w x y ho hx hy

theorem Sign_core (a : Nat) (ng z : Bool) (w : World) (hN : Hid (∀ u, Calls Try.prog 34 #[W a] u fun e w' => e = .returned (.bool ng) ∧ Below u.heap.size u w')) (hz : Hid (same a 0 = z)) :
    Calls Try.prog 12 #[W a] w fun e w' => e = .returned (.int .i64 (bif ng then -1 else bif z then 0 else 1)) ∧ Below w.heap.size w w' := by
  have D0 := hide (Blk.new w 25 (cells8 a))
  cases ng
  · cases z
    · go_enter Try.func12, Try.ntmps12
      go_wp2_with (first
        | refine ld8 25 (.tmp 1) (unhide D0) rfl rfl rfl Try.underlying25 rfl iWide ?_
        | (go_at_call 34; refine (unhide hN _).mono ?_; rintro e w1 ⟨he, hb1⟩; subst he)
        | refine ld8 25 (.tmp 1) ((unhide D0).below hb1 (unhide D0).lt) rfl rfl rfl Try.underlying25 rfl iWide ?_
        | refine bd0 25 rfl rfl bWide0 ?_
        | refine wpList_value rfl (exec_eql_wide_b (n := a) (m := 0) (b := false) _ (.tmp 5) (.tmp 6) (unhide hz) rfl rfl rfl) ?_)
      go_ret
      exact ⟨rfl, ((Below.refl _ _).alloc (Nat.le_refl _) _).trans (hb1.mono (by simp))⟩
    · go_enter Try.func12, Try.ntmps12
      go_wp2_with (first
        | refine ld8 25 (.tmp 1) (unhide D0) rfl rfl rfl Try.underlying25 rfl iWide ?_
        | (go_at_call 34; refine (unhide hN _).mono ?_; rintro e w1 ⟨he, hb1⟩; subst he)
        | refine ld8 25 (.tmp 1) ((unhide D0).below hb1 (unhide D0).lt) rfl rfl rfl Try.underlying25 rfl iWide ?_
        | refine bd0 25 rfl rfl bWide0 ?_
        | refine wpList_value rfl (exec_eql_wide_b (n := a) (m := 0) (b := true) _ (.tmp 5) (.tmp 6) (unhide hz) rfl rfl rfl) ?_)
      go_ret
      exact ⟨rfl, ((Below.refl _ _).alloc (Nat.le_refl _) _).trans (hb1.mono (by simp))⟩
  · go_enter Try.func12, Try.ntmps12
    go_wp2_with (first
      | refine ld8 25 (.tmp 1) (unhide D0) rfl rfl rfl Try.underlying25 rfl iWide ?_
      | (go_at_call 34; refine (unhide hN _).mono ?_; rintro e w1 ⟨he, hb1⟩; subst he))
    go_ret
    exact ⟨rfl, ((Below.refl _ _).alloc (Nat.le_refl _) _).trans (hb1.mono (by simp))⟩

theorem SignZ (x : Int) (hx : Fit x) (w : World) :
    Calls Try.prog 12 #[V x] w fun e w' => e = .returned (.int .i64 (sgn x)) ∧ Below w.heap.size w w' := by
  refine (Sign_core (enc x) (decide (x < 0)) (decide (x = 0)) w (belowZ x hx) (by have := same_enc hx fit_zero; rwa [show enc 0 = 0 from rfl] at this)).mono fun e w' ⟨he, hb⟩ => ⟨?_, hb⟩
  rw [he]
  unfold sgn
  by_cases h1 : x < 0 <;> by_cases h2 : x = 0 <;> simp [h1, h2]

theorem Bits_core (a p n : Nat) (w : World) (hA : Hid (∀ u, Calls Try.prog 41 #[W a] u fun e w' => e = .returned (.agg (cells8 p)) ∧ Below u.heap.size u w'))
    (hL : Hid (∀ u, Calls Try.prog 40 #[W p] u fun e w' => e = .returned (.int .i64 (n : Int)) ∧ Below u.heap.size u w')) :
    Calls Try.prog 16 #[W a] w fun e w' => e = .returned (.int .i64 (n : Int)) ∧ Below w.heap.size w w' := by
  have D0 := hide (Blk.new w 25 (cells8 a))
  go_enter Try.func16, Try.ntmps16
  go_wp2_with (first
    | refine ld8 25 (.tmp 1) (unhide D0) rfl rfl rfl Try.underlying25 rfl iWide ?_
    | (go_at_call 41; refine (unhide hA _).mono ?_; rintro e w1 ⟨he, hb1⟩; subst he)
    | (go_at_call 40; refine (unhide hL _).mono ?_; rintro e w2 ⟨he, hb2⟩; subst he))
  go_ret
  exact ⟨rfl, (((Below.refl _ _).alloc (Nat.le_refl _) _).trans (hb1.mono (by simp))).trans (hb2.mono (by have := hb1.size; simp at this; omega))⟩
theorem BitsZ (x : Int) (hx : Fit x) (w : World) :
    Calls Try.prog 16 #[V x] w fun e w' => e = .returned (.int .i64 (blen x.natAbs : Nat)) ∧ Below w.heap.size w w' :=
  Bits_core (enc x) x.natAbs _ w (sizeZ x hx) (length_any x.natAbs (abs_lt hx))

theorem H_pow (k : Nat) (hk : k < 8) : H = 2 ^ (64 * k) * (9223372036854775808 * 2 ^ (448 - 64 * k)) := by
  have h1 := M_pow k hk
  have h2 := M_H
  have e : 2 ^ (64 * k) * (18446744073709551616 * 2 ^ (448 - 64 * k)) = 2 * (2 ^ (64 * k) * (9223372036854775808 * 2 ^ (448 - 64 * k))) := by
    rw [Nat.mul_left_comm 2, ← Nat.mul_assoc 2 9223372036854775808]
  omega
theorem xor_bit (a : Nat) (ha : a < 18446744073709551616) : bits .xor .u64 (a : Int) 9223372036854775808 = ((a + 9223372036854775808) % 18446744073709551616 : Nat) := by
  have h : bits .xor .u64 (a : Int) 9223372036854775808 = IntKind.u64.wrap (((BitVec.ofInt 64 (a : Int) ^^^ BitVec.ofInt 64 9223372036854775808).toNat : Nat) : Int) := rfl
  rw [h, u64_wrap_nat _ (BitVec.isLt _), BitVec.ofInt_natCast]
  have e : BitVec.ofInt 64 9223372036854775808 = BitVec.ofNat 64 9223372036854775808 := rfl
  have hb : ∀ x : BitVec 64, x ^^^ 0x8000000000000000#64 = x + 0x8000000000000000#64 := by
    intro x
    apply BitVec.eq_of_getLsbD_eq
    intro i hi
    rw [BitVec.getLsbD_xor, BitVec.getLsbD_add hi]
    by_cases h63 : i = 63
    · subst h63
      have hc : BitVec.carry 63 x 0x8000000000000000#64 false = false := by
        rw [BitVec.carry]
        simp
        exact Nat.lt_of_lt_of_le (Nat.mod_lt _ (by decide)) (by decide)
      rw [hc]
      simp
    · have hc : BitVec.carry i x 0x8000000000000000#64 false = false := by
        have h2 : 9223372036854775808 % 2 ^ i = 0 := by
          rw [show (9223372036854775808 : Nat) = 2 ^ i * 2 ^ (63 - i) by rw [← Nat.pow_add, show i + (63 - i) = 63 by omega]]
          exact Nat.mul_mod_right _ _
        rw [BitVec.carry]
        simp [h2]
        exact Nat.mod_lt _ (Nat.pow_pos (by decide))
      rw [hc]
      simp
  rw [e, hb, BitVec.toNat_add, BitVec.toNat_ofNat, BitVec.toNat_ofNat, Nat.mod_eq_of_lt ha]

theorem lm_half (a k : Nat) (hk : k < 8) : lm (a + H) k = if k = 7 then (((lmN a 7 + 9223372036854775808) % 18446744073709551616 : Nat) : Int) else lm a k := by
  have hP : 0 < 2 ^ (64 * k) := Nat.pow_pos (by decide)
  unfold lm lmN
  rw [H_pow k hk, Nat.add_mul_div_left _ _ hP]
  by_cases h : k = 7
  · subst h
    rw [if_pos rfl, show 2 ^ (448 - 64 * 7) = 1 from rfl, Nat.mul_one]
    generalize a / 2 ^ (64 * 7) = q
    omega
  · rw [if_neg h]
    congr 1
    rw [show 448 - 64 * k = 64 + (384 - 64 * k) by omega, Nat.pow_add]
    have : 9223372036854775808 * (2 ^ 64 * 2 ^ (384 - 64 * k)) = 18446744073709551616 * (9223372036854775808 * 2 ^ (384 - 64 * k)) := by
      rw [Nat.mul_left_comm]
    rw [this, Nat.add_mul_mod_self_left]

theorem top_set (a : Nat) : (cells8 a).setIfInBounds 7 (.int .u64 (bits .xor .u64 (lm a 7) 9223372036854775808)) = cells8 (a + H) := by
  apply Array.ext_getElem?
  intro j
  rw [Array.getElem?_setIfInBounds]
  by_cases h8 : j < 8
  · rw [cells8_get _ _ h8, cells8_get _ _ h8, lm_half a j h8]
    by_cases h : j = 7
    · subst h
      rw [if_pos rfl, if_pos (by simp [cells8]), if_pos rfl, lm_lmN, xor_bit _ (lmN_lt _ _)]
    · rw [if_neg (by omega), if_neg h]
  · have e1 : (cells8 a)[j]? = none := Array.getElem?_eq_none (by simp [cells8]; omega)
    have e2 : (cells8 (a + H))[j]? = none := Array.getElem?_eq_none (by simp [cells8]; omega)
    rw [e1, e2, if_neg (by omega)]

/-- What Cmp knows of its blocks. -/
structure Cm (w0 : World) (g a b : Nat) (w : World) : Prop where
  a : Blk w g 25 (cells8 a)
  b : Blk w (g + 1) 25 (cells8 b)
  o : Below g w0 w

set_option maxHeartbeats 600000 in
theorem Cmp_core (a b : Nat) (r : Int) (w : World) (hC : Hid (∀ u, Calls Try.prog 36 #[W (a + H), W (b + H)] u fun e w' => e = .returned (.int .i64 r) ∧ Below u.heap.size u w')) :
    Calls Try.prog 14 #[W a, W b] w fun e w' => e = .returned (.int .i64 r) ∧ Below w.heap.size w w' := by
  have ha := hide (top_set a)
  have hb := hide (top_set b)
  go_enter Try.func14, Try.ntmps14
  go_upto_region 1 with fail
  have D0 : Hid (Cm w w.heap.size a b ((w.alloc (.cells (cells8 a) 25)).alloc (.cells (cells8 b) 25))) := ⟨Blk.first2 _ _ _ _, Blk.second2 _ _ _ _, below2 _ _ _⟩
  generalize (w.alloc (.cells (cells8 a) 25)).alloc (.cells (cells8 b) 25) = w1 at D0 ⊢
  have h1 : w1.cell? ⟨w.heap.size, 7, none⟩ = some (.int .u64 (lm a 7)) := (unhide D0).a.cell 7
  have h1f := (unhide D0).a.frozen 7
  go_upto_region 2 with fail
  have D1 : Hid (Cm w w.heap.size (a + H) b (w1.setCell ⟨w.heap.size, 7, none⟩ (.int .u64 (bits .xor .u64 (lm a 7) 9223372036854775808)))) :=
    ⟨unhide ha ▸ (unhide D0).a.set 7 _, (unhide D0).b.other _ _ (by simp), (unhide D0).o.setCell (by simp) _⟩
  clear D0 h1 h1f
  generalize w1.setCell ⟨w.heap.size, 7, none⟩ (.int .u64 (bits .xor .u64 (lm a 7) 9223372036854775808)) = w2 at D1 ⊢
  have h2 : w2.cell? ⟨w.heap.size + 1, 7, none⟩ = some (.int .u64 (lm b 7)) := (unhide D1).b.cell 7
  have h2f := (unhide D1).b.frozen 7
  go_upto_region 3 with fail
  have D2 : Hid (Cm w w.heap.size (a + H) (b + H) (w2.setCell ⟨w.heap.size + 1, 7, none⟩ (.int .u64 (bits .xor .u64 (lm b 7) 9223372036854775808)))) :=
    ⟨(unhide D1).a.other _ _ (by simp), unhide hb ▸ (unhide D1).b.set 7 _, (unhide D1).o.setCell (by simp) _⟩
  clear D1 h2 h2f
  generalize w2.setCell ⟨w.heap.size + 1, 7, none⟩ (.int .u64 (bits .xor .u64 (lm b 7) 9223372036854775808)) = w3 at D2 ⊢
  go_wp2_with (first
    | refine ld8 23 (.tmp 17) (unhide D2).a rfl rfl rfl Try.underlying23 rfl iArr ?_
    | refine ld8 23 (.tmp 19) (unhide D2).b rfl rfl rfl Try.underlying23 rfl iArr ?_
    | (go_at_call 36; refine (unhide hC _).mono ?_; rintro e w4 ⟨he, hb4⟩; subst he))
  go_ret
  exact ⟨rfl, (unhide D2).o.trans (hb4.mono (Nat.le_of_lt (unhide D2).a.lt))⟩

theorem half_mod (x : Int) (hx : Fit x) : ((enc x + H : Nat) : Int) % (M : Int) = x + (H : Int) := by
  have hM := MI
  obtain ⟨h1, h2⟩ := hx
  rw [Int.natCast_add, enc_int, Int.add_emod, Int.emod_emod, ← Int.add_emod, Int.emod_eq_of_lt (by omega) (by omega)]
theorem CmpZ (x y : Int) (hx : Fit x) (hy : Fit y) (w : World) :
    Calls Try.prog 14 #[V x, V y] w fun e w' => e = .returned (.int .i64 (cmpI x y)) ∧ Below w.heap.size w w' := by
  refine Cmp_core (enc x) (enc y) (cmpI x y) w fun u => ?_
  refine (compare_any (enc x + H) (enc y + H) u).mono fun e w' ⟨he, hb⟩ => ⟨?_, hb⟩
  rw [he, cmp_low, ← M_pow8]
  have h1 := half_mod x hx
  have h2 := half_mod y hy
  rw [← Int.natCast_emod] at h1 h2
  generalize (enc x + H) % M = p at h1 ⊢
  generalize (enc y + H) % M = q at h2 ⊢
  generalize (H : Int) = h at h1 h2
  have e1 : (if p < q then (-1 : Int) else if q < p then 1 else 0) = cmpI x y := by
    unfold cmpI
    repeat' split
    all_goals first | rfl | omega
  rw [e1]

end Go.Proofs.Ytfoojpfgeicolaa
