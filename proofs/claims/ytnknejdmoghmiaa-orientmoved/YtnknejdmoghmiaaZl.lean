/- The contracts of Of of package wide and Small of the document's answer. The contracts of Sign, Cmp and Bits of package wide. -/
import Derived.Test.YtnknejdmoghmiaaZf
namespace Go.Proofs.Ytnknejdmoghmiaa
open Go.RowKit
set_option maxRecDepth 4000

/-- The limb that stands above an int64 number, and the number all of whose limbs it is. -/
def ofl (n : Int) : Int := if n < 0 then 18446744073709551615 else 0
def ofr (n : Int) : Nat := if n < 0 then M - 1 else 0
theorem lm_ofr (n : Int) (k : Nat) (hk : k < 8) : lm (ofr n) k = ofl n := by
  unfold ofr ofl
  split
  · have := lm_cpl 0 k M_pos hk
    rw [Nat.sub_zero] at this
    rw [this]
    simp
  · exact lm_zero k
theorem lm_small (n k : Nat) (hn : n < 18446744073709551616) (hk : 0 < k) : lm n k = 0 := by
  unfold lm
  rw [Nat.div_eq_of_lt]
  · rfl
  · have h1 := pow64_le (show 1 ≤ k by omega)
    have h2 : 2 ^ (64 * 1) = 18446744073709551616 := rfl
    omega
theorem lm_of (n : Int) (h0 : -9223372036854775808 ≤ n) (h1 : n < 9223372036854775808) (k : Nat) (hk : k < 8) : lm (enc n) k = if k = 0 then n % 18446744073709551616 else ofl n := by
  have hM := MI
  have hH : 18446744073709551616 < (H : Int) := by decide
  rcases (show n < 0 ∨ 0 ≤ n by omega) with hn | hn
  · have he := enc_neg hn (by omega)
    have hy : enc n = M - 1 - (n.natAbs - 1) := by omega
    rw [hy, lm_cpl _ k (by omega) hk]
    unfold ofl
    rw [if_pos hn]
    by_cases h : k = 0
    · subst h
      simp only [Nat.mul_zero, Nat.pow_zero, Nat.div_one, if_true]
      omega
    · rw [if_neg h]
      have := lm_small (n.natAbs - 1) k (by omega) (by omega)
      unfold lm at this
      omega
  · have he := enc_nn hn (by omega)
    have ho : ofl n = 0 := if_neg (by omega)
    rw [ho]
    by_cases h : k = 0
    · subst h
      rw [if_pos rfl]
      unfold lm
      simp only [Nat.mul_zero, Nat.pow_zero, Nat.div_one]
      omega
    · rw [if_neg h]
      exact lm_small _ _ (by omega) (by omega)
theorem of_set (n : Int) (h0 : -9223372036854775808 ≤ n) (h1 : n < 9223372036854775808) : (cells8 (ofr n)).setIfInBounds 0 (.int .u64 (n % 18446744073709551616)) = cells8 (enc n) := by
  apply Array.ext_getElem?
  intro j
  rw [Array.getElem?_setIfInBounds]
  by_cases h8 : j < 8
  · rw [cells8_get _ _ h8, cells8_get _ _ h8, lm_of n h0 h1 j h8, lm_ofr n j h8]
    by_cases h : j = 0
    · subst h
      simp [cells8]
    · rw [if_neg (by omega), if_neg h]
  · have e1 : (cells8 (enc n))[j]? = none := Array.getElem?_eq_none (by simp [cells8]; omega)
    have e2 : (cells8 (ofr n))[j]? = none := Array.getElem?_eq_none (by simp [cells8]; omega)
    rw [e1, e2, if_neg (by omega)]

/-- What Of knows of its blocks. -/
structure Fo (w0 : World) (g : Nat) (cs : Array Value) (w : World) : Prop where
  r : Blk w g 40 (cells8 0)
  y : Blk w (g + 1) 40 cs
  o : Below g w0 w

theorem Fo.set {w0 w : World} {g : Nat} {cs : Array Value} (h : Fo w0 g cs w) (i : Nat) (v : Value) : Fo w0 g (cs.setIfInBounds i v) (w.setCell ⟨g + 1, i, none⟩ v) :=
  ⟨h.r.other _ _ (by simp), h.y.set i v, h.o.setCell (by simp) v⟩
theorem mix_of (n : Int) (k : Nat) (hk : k < 8) : (mix8 0 (ofr n) k).setIfInBounds k (.int .u64 (ofl n)) = mix8 0 (ofr n) (k + 1) := by
  rw [← lm_ofr n k hk, mix8_set _ _ _ hk]

set_option maxHeartbeats 600000 in
theorem Of_core (n m : Int) (w : World) (hql : IntKind.u64.wrap (n / 9223372036854775808) = ofl n) (hm : IntKind.u64.wrap n = m) (hset : Hid ((cells8 (ofr n)).setIfInBounds 0 (.int .u64 m) = cells8 (enc n))) :
    Calls Try.prog 74 #[.int .i64 n] w fun e w' => e = .returned (.agg (cells8 (enc n))) ∧ Below w.heap.size w w' := by
  go_enter Try.func74, Try.ntmps74
  go_wp2
  go_loopw [5] (fun i wr => ∃ k : Nat, k ≤ 8 ∧ i = .int .i64 k ∧ Fo w w.heap.size (mix8 0 (ofr n) k) wr) (fun i _ => 8 - (intOf i).toNat)
  case atStart => exact ⟨0, by omega, rfl, ⟨cells8_0 ▸ Blk.first2 _ _ _ _, by rw [mix8_zero, cells8_0]; exact Blk.second2 _ _ _ _, below2 _ _ _⟩⟩
  case round =>
    obtain ⟨k, hk, rfl, R⟩ := hrel
    by_cases hlt : k < 8
    · have hg : (k : Int) < 8 := by omega
      have HR := hide R
      have hc : wr.cell? ⟨w.heap.size + 1, k, none⟩ = some (.int .u64 (mx 0 (ofr n) k k)) := by rw [R.y.cell, mix8_get _ _ _ _ hlt]
      have hf := R.y.frozen k
      clear R
      go_wp2
      go_roundw
      case rel => exact ⟨k + 1, by omega, by go_num, by rw [← mix_of n k hlt]; exact (unhide HR).set k _⟩
      case measure => simp [intOf]; omega
    · have e8 : k = 8 := by omega
      subst e8
      rw [mix8_full] at R
      have HR := hide R
      have hc : wr.cell? ⟨w.heap.size + 1, 0, none⟩ = some (.int .u64 (lm (ofr n) 0)) := by rw [R.y.cell, cells8_get _ _ (by decide)]
      have hf := R.y.frozen 0
      clear R
      have D1 : Hid (Fo w w.heap.size (cells8 (enc n)) (wr.setCell ⟨w.heap.size + 1, 0, none⟩ (.int .u64 m))) := unhide hset ▸ (unhide HR).set 0 (.int .u64 m)
      go_wp2_with (first
        | refine ld8 40 (.tmp 3) (unhide D1).y rfl rfl rfl Try.underlying40 rfl iWide ?_
        | refine st8 (n := enc n) 40 (.tmp 2) (.tmp 19) (unhide D1).r rfl rfl rfl rfl rfl iWide ?_)
      exact res8 ((unhide D1).r.row _) rfl rfl rfl Try.underlying40 rfl iWide ⟨rfl, below_row (unhide D1).o (Nat.le_refl _) _⟩

theorem of_wrap (n : Int) (h0 : -9223372036854775808 ≤ n) (h1 : n < 9223372036854775808) : IntKind.u64.wrap (n / 9223372036854775808) = ofl n := by
  unfold ofl
  rw [IntKind.wrap_u64]
  split <;> omega
theorem OfZ (n : Int) (h0 : -9223372036854775808 ≤ n) (h1 : n < 9223372036854775808) (w : World) :
    Calls Try.prog 74 #[.int .i64 n] w fun e w' => e = .returned (V n) ∧ Below w.heap.size w w' :=
  Of_core n (n % 18446744073709551616) w (of_wrap n h0 h1) (by rw [IntKind.wrap_u64]) (of_set n h0 h1)

set_option maxHeartbeats 600000 in
theorem Small_core (n m : Int) (w : World) (hm : IntKind.u64.wrap n = m) (hset : Hid ((cells8 (ofr n)).setIfInBounds 0 (.int .u64 m) = cells8 (enc n))) :
    Calls Try.prog 90 #[.int .i64 n] w fun e w' => e = .returned (.agg (cells8 (enc n))) ∧ Below w.heap.size w w' := by
  go_enter Try.func90, Try.ntmps90
  go_wp2
  go_loopw [4] (fun i wr => ∃ k : Nat, k ≤ 8 ∧ i = .int .i64 k ∧ Fo w w.heap.size (mix8 0 (ofr n) k) wr) (fun i _ => 8 - (intOf i).toNat)
  case atStart => exact ⟨0, by omega, rfl, ⟨cells8_0 ▸ Blk.first2 _ _ _ _, by rw [mix8_zero, cells8_0]; exact Blk.second2 _ _ _ _, below2 _ _ _⟩⟩
  case round =>
    obtain ⟨k, hk, rfl, R⟩ := hrel
    by_cases hlt : k < 8
    · have hg : (k : Int) < 8 := by omega
      have HR := hide R
      have hc : wr.cell? ⟨w.heap.size + 1, k, none⟩ = some (.int .u64 (mx 0 (ofr n) k k)) := by rw [R.y.cell, mix8_get _ _ _ _ hlt]
      have hf := R.y.frozen k
      clear R
      by_cases hn : n < 0
      · have hfl : Hid (ofl n = 18446744073709551615) := if_pos hn
        go_wp2
        go_roundw
        case rel => exact ⟨k + 1, by omega, by go_num, by rw [← mix_of n k hlt, unhide hfl]; exact (unhide HR).set k _⟩
        case measure => simp [intOf]; omega
      · have hfl : Hid (mix8 0 (ofr n) (k + 1) = mix8 0 (ofr n) k) := by
          have : ofr n = 0 := if_neg hn
          show mix8 0 (ofr n) (k + 1) = mix8 0 (ofr n) k
          rw [this]
          simp only [mix8, mx, ite_self]
        go_wp2
        go_roundw
        case rel => exact ⟨k + 1, by omega, by go_num, by rw [unhide hfl]; exact unhide HR⟩
        case measure => simp [intOf]; omega
    · have e8 : k = 8 := by omega
      subst e8
      rw [mix8_full] at R
      have HR := hide R
      have hc : wr.cell? ⟨w.heap.size + 1, 0, none⟩ = some (.int .u64 (lm (ofr n) 0)) := by rw [R.y.cell, cells8_get _ _ (by decide)]
      have hf := R.y.frozen 0
      clear R
      have D1 : Hid (Fo w w.heap.size (cells8 (enc n)) (wr.setCell ⟨w.heap.size + 1, 0, none⟩ (.int .u64 m))) := unhide hset ▸ (unhide HR).set 0 (.int .u64 m)
      go_wp2_with (first
        | refine ld8 40 (.tmp 3) (unhide D1).y rfl rfl rfl Try.underlying40 rfl iWide ?_
        | refine st8 (n := enc n) 40 (.tmp 2) (.tmp 18) (unhide D1).r rfl rfl rfl rfl rfl iWide ?_)
      exact res8 ((unhide D1).r.row _) rfl rfl rfl Try.underlying40 rfl iWide ⟨rfl, below_row (unhide D1).o (Nat.le_refl _) _⟩

theorem SmallZ (n : Int) (h0 : -9223372036854775808 ≤ n) (h1 : n < 9223372036854775808) (w : World) :
    Calls Try.prog 90 #[.int .i64 n] w fun e w' => e = .returned (V n) ∧ Below w.heap.size w w' :=
  Small_core n (n % 18446744073709551616) w (by rw [IntKind.wrap_u64]) (of_set n h0 h1)

end Go.Proofs.Ytnknejdmoghmiaa

namespace Go.Proofs.Ytnknejdmoghmiaa
open Go.RowKit
set_option maxRecDepth 4000

def sgn (x : Int) : Int := if x < 0 then -1 else if x = 0 then 0 else 1
def cmpI (x y : Int) : Int := if x < y then -1 else if y < x then 1 else 0

theorem exec_eql_wide_b {o : Oper} {a : Act} (w : World) (x y : Operand) {n m : Nat} {ty' : TypeId} {b : Bool} (hb : same n m = b) (ho : o.op = .binOp .eql 40 x y ty') (hx : a.eval x = .agg (cells8 n)) (hy : a.eval y = .agg (cells8 m)) :
    (execOp a.eval o).run Try.prog w = .ok (.value (.bool b)) w := hb ▸ exec_eql_wide w x y ho hx hy

theorem Sign_core (a : Nat) (ng z : Bool) (w : World) (hN : Hid (∀ u, Calls Try.prog 99 #[W a] u fun e w' => e = .returned (.bool ng) ∧ Below u.heap.size u w')) (hz : Hid (same a 0 = z)) :
    Calls Try.prog 46 #[W a] w fun e w' => e = .returned (.int .i64 (bif ng then -1 else bif z then 0 else 1)) ∧ Below w.heap.size w w' := by
  have D0 := hide (Blk.new w 40 (cells8 a))
  cases ng
  · cases z
    · go_enter Try.func46, Try.ntmps46
      go_wp2_with (first
        | refine ld8 40 (.tmp 1) (unhide D0) rfl rfl rfl Try.underlying40 rfl iWide ?_
        | (go_at_call 99; refine (unhide hN _).mono ?_; rintro e w1 ⟨he, hb1⟩; subst he)
        | refine ld8 40 (.tmp 1) ((unhide D0).below hb1 (unhide D0).lt) rfl rfl rfl Try.underlying40 rfl iWide ?_
        | refine bd0 40 rfl rfl bWide0 ?_
        | refine wpList_value rfl (exec_eql_wide_b (n := a) (m := 0) (b := false) _ (.tmp 5) (.tmp 6) (unhide hz) rfl rfl rfl) ?_)
      go_ret
      exact ⟨rfl, ((Below.refl _ _).alloc (Nat.le_refl _) _).trans (hb1.mono (by simp))⟩
    · go_enter Try.func46, Try.ntmps46
      go_wp2_with (first
        | refine ld8 40 (.tmp 1) (unhide D0) rfl rfl rfl Try.underlying40 rfl iWide ?_
        | (go_at_call 99; refine (unhide hN _).mono ?_; rintro e w1 ⟨he, hb1⟩; subst he)
        | refine ld8 40 (.tmp 1) ((unhide D0).below hb1 (unhide D0).lt) rfl rfl rfl Try.underlying40 rfl iWide ?_
        | refine bd0 40 rfl rfl bWide0 ?_
        | refine wpList_value rfl (exec_eql_wide_b (n := a) (m := 0) (b := true) _ (.tmp 5) (.tmp 6) (unhide hz) rfl rfl rfl) ?_)
      go_ret
      exact ⟨rfl, ((Below.refl _ _).alloc (Nat.le_refl _) _).trans (hb1.mono (by simp))⟩
  · go_enter Try.func46, Try.ntmps46
    go_wp2_with (first
      | refine ld8 40 (.tmp 1) (unhide D0) rfl rfl rfl Try.underlying40 rfl iWide ?_
      | (go_at_call 99; refine (unhide hN _).mono ?_; rintro e w1 ⟨he, hb1⟩; subst he))
    go_ret
    exact ⟨rfl, ((Below.refl _ _).alloc (Nat.le_refl _) _).trans (hb1.mono (by simp))⟩

theorem SignZ (x : Int) (hx : Fit x) (w : World) :
    Calls Try.prog 46 #[V x] w fun e w' => e = .returned (.int .i64 (sgn x)) ∧ Below w.heap.size w w' := by
  refine (Sign_core (enc x) (decide (x < 0)) (decide (x = 0)) w (belowZ x hx) (by have := same_enc hx fit_zero; rwa [show enc 0 = 0 from rfl] at this)).mono fun e w' ⟨he, hb⟩ => ⟨?_, hb⟩
  rw [he]
  unfold sgn
  by_cases h1 : x < 0 <;> by_cases h2 : x = 0 <;> simp [h1, h2]

theorem H_pow (k : Nat) (hk : k < 8) : H = 2 ^ (64 * k) * (9223372036854775808 * 2 ^ (448 - 64 * k)) := by
  have h1 := M_pow k hk
  have h2 := M_H
  have e : 2 ^ (64 * k) * (18446744073709551616 * 2 ^ (448 - 64 * k)) = 2 * (2 ^ (64 * k) * (9223372036854775808 * 2 ^ (448 - 64 * k))) := by
    rw [Nat.mul_left_comm 2, ← Nat.mul_assoc 2 9223372036854775808]
  omega
theorem xor_bit (a : Nat) (ha : a < 18446744073709551616) : bits .xor .u64 (a : Int) 9223372036854775808 = ((a + 9223372036854775808) % 18446744073709551616 : Nat) := by
  have h : bits .xor .u64 (a : Int) 9223372036854775808 = IntKind.u64.wrap (((BitVec.ofInt 64 (a : Int) ^^^ BitVec.ofInt 64 9223372036854775808).toNat : Nat) : Int) := rfl
  rw [h, u64_wrap_nat _ (BitVec.isLt _), BitVec.ofInt_natCast]
  have e : BitVec.ofInt 64 9223372036854775808 = BitVec.ofNat 64 9223372036854775808 := rfl
  have hb : ∀ x : BitVec 64, x ^^^ 0x8000000000000000#64 = x + 0x8000000000000000#64 := by
    intro x
    apply BitVec.eq_of_getLsbD_eq
    intro i hi
    rw [BitVec.getLsbD_xor, BitVec.getLsbD_add hi]
    by_cases h63 : i = 63
    · subst h63
      have hc : BitVec.carry 63 x 0x8000000000000000#64 false = false := by
        rw [BitVec.carry]
        simp
        exact Nat.lt_of_lt_of_le (Nat.mod_lt _ (by decide)) (by decide)
      rw [hc]
      simp
    · have hc : BitVec.carry i x 0x8000000000000000#64 false = false := by
        have h2 : 9223372036854775808 % 2 ^ i = 0 := by
          rw [show (9223372036854775808 : Nat) = 2 ^ i * 2 ^ (63 - i) by rw [← Nat.pow_add, show i + (63 - i) = 63 by omega]]
          exact Nat.mul_mod_right _ _
        rw [BitVec.carry]
        simp [h2]
        exact Nat.mod_lt _ (Nat.pow_pos (by decide))
      rw [hc]
      simp
  rw [e, hb, BitVec.toNat_add, BitVec.toNat_ofNat, BitVec.toNat_ofNat, Nat.mod_eq_of_lt ha]

theorem lm_half (a k : Nat) (hk : k < 8) : lm (a + H) k = if k = 7 then (((lmN a 7 + 9223372036854775808) % 18446744073709551616 : Nat) : Int) else lm a k := by
  have hP : 0 < 2 ^ (64 * k) := Nat.pow_pos (by decide)
  unfold lm lmN
  rw [H_pow k hk, Nat.add_mul_div_left _ _ hP]
  by_cases h : k = 7
  · subst h
    rw [if_pos rfl, show 2 ^ (448 - 64 * 7) = 1 from rfl, Nat.mul_one]
    generalize a / 2 ^ (64 * 7) = q
    omega
  · rw [if_neg h]
    congr 1
    rw [show 448 - 64 * k = 64 + (384 - 64 * k) by omega, Nat.pow_add]
    have : 9223372036854775808 * (2 ^ 64 * 2 ^ (384 - 64 * k)) = 18446744073709551616 * (9223372036854775808 * 2 ^ (384 - 64 * k)) := by
      rw [Nat.mul_left_comm]
    rw [this, Nat.add_mul_mod_self_left]

theorem top_set (a : Nat) : (cells8 a).setIfInBounds 7 (.int .u64 (bits .xor .u64 (lm a 7) 9223372036854775808)) = cells8 (a + H) := by
  apply Array.ext_getElem?
  intro j
  rw [Array.getElem?_setIfInBounds]
  by_cases h8 : j < 8
  · rw [cells8_get _ _ h8, cells8_get _ _ h8, lm_half a j h8]
    by_cases h : j = 7
    · subst h
      rw [if_pos rfl, if_pos (by simp [cells8]), if_pos rfl, lm_lmN, xor_bit _ (lmN_lt _ _)]
    · rw [if_neg (by omega), if_neg h]
  · have e1 : (cells8 a)[j]? = none := Array.getElem?_eq_none (by simp [cells8]; omega)
    have e2 : (cells8 (a + H))[j]? = none := Array.getElem?_eq_none (by simp [cells8]; omega)
    rw [e1, e2, if_neg (by omega)]

/-- What Cmp knows of its blocks. -/
structure Cm (w0 : World) (g a b : Nat) (w : World) : Prop where
  a : Blk w g 40 (cells8 a)
  b : Blk w (g + 1) 40 (cells8 b)
  o : Below g w0 w

theorem half_mod (x : Int) (hx : Fit x) : ((enc x + H : Nat) : Int) % (M : Int) = x + (H : Int) := by
  have hM := MI
  obtain ⟨h1, h2⟩ := hx
  rw [Int.natCast_add, enc_int, Int.add_emod, Int.emod_emod, ← Int.add_emod, Int.emod_eq_of_lt (by omega) (by omega)]
end Go.Proofs.Ytnknejdmoghmiaa
