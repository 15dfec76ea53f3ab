/- The contracts of Of of package wide and Small of the document's answer. -/
import Derived.Test.YtfoojpfgeicolaaZf
namespace Go.Proofs.Ytfoojpfgeicolaa
open Go.RowKit

/-- The limb that stands above an int64 number, and the number all of whose limbs it is. -/
def ofl (n : Int) : Int := if n < 0 then 18446744073709551615 else 0
def ofr (n : Int) : Nat := if n < 0 then M - 1 else 0
theorem lm_ofr (n : Int) (k : Nat) (hk : k < 8) : lm (ofr n) k = ofl n := by
  unfold ofr ofl
  split
  · have := lm_cpl 0 k M_pos hk
    rw [Nat.sub_zero] at this
    rw [this]
    simp
  · exact lm_zero k
theorem lm_small (n k : Nat) (hn : n < 18446744073709551616) (hk : 0 < k) : lm n k = 0 := by
  unfold lm
  rw [Nat.div_eq_of_lt]
  · rfl
  · have h1 := pow64_le (show 1 ≤ k by omega)
    have h2 : 2 ^ (64 * 1) = 18446744073709551616 := rfl
    omega
theorem lm_of (n : Int) (h0 : -9223372036854775808 ≤ n) (h1 : n < 9223372036854775808) (k : Nat) (hk : k < 8) : lm (enc n) k = if k = 0 then n % 18446744073709551616 else ofl n := by
  have hM := MI
  have hH : 18446744073709551616 < (H : Int) := by decide
  rcases (show n < 0 ∨ 0 ≤ n by omega) with hn | hn
  · have he := enc_neg hn (by omega)
    have hy : enc n = M - 1 - (n.natAbs - 1) := by omega
    rw [hy, lm_cpl _ k (by omega) hk]
    unfold ofl
    rw [if_pos hn]
    by_cases h : k = 0
    · subst h
      simp only [Nat.mul_zero, Nat.pow_zero, Nat.div_one, if_true]
      omega
    · rw [if_neg h]
      have := lm_small (n.natAbs - 1) k (by omega) (by omega)
      unfold lm at this
      omega
  · have he := enc_nn hn (by omega)
    have ho : ofl n = 0 := if_neg (by omega)
    rw [ho]
    by_cases h : k = 0
    · subst h
      rw [if_pos rfl]
      unfold lm
      simp only [Nat.mul_zero, Nat.pow_zero, Nat.div_one]
      omega
    · rw [if_neg h]
      exact lm_small _ _ (by omega) (by omega)
theorem of_set (n : Int) (h0 : -9223372036854775808 ≤ n) (h1 : n < 9223372036854775808) : (cells8 (ofr n)).setIfInBounds 0 (.int .u64 (n % 18446744073709551616)) = cells8 (enc n) := by
  apply Array.ext_getElem?
  intro j
  rw [Array.getElem?_setIfInBounds]
  by_cases h8 : j < 8
  · rw [cells8_get _ _ h8, cells8_get _ _ h8, lm_of n h0 h1 j h8, lm_ofr n j h8]
    by_cases h : j = 0
    · subst h
      simp [cells8]
    · rw [if_neg (by omega), if_neg h]
  · have e1 : (cells8 (enc n))[j]? = none := Array.getElem?_eq_none (by simp [cells8]; omega)
    have e2 : (cells8 (ofr n))[j]? = none := Array.getElem?_eq_none (by simp [cells8]; omega)
    rw [e1, e2, if_neg (by omega)]

/-- What Of knows of its blocks. -/
structure Fo (w0 : World) (g : Nat) (cs : Array Value) (w : World) : Prop where
  r : Blk w g 25 (cells8 0)
  y : Blk w (g + 1) 25 cs
  o : Below g w0 w

theorem Fo.set {w0 w : World} {g : Nat} {cs : Array Value} (h : Fo w0 g cs w) (i : Nat) (v : Value) : Fo w0 g (cs.setIfInBounds i v) (w.setCell ⟨g + 1, i, none⟩ v) :=
  ⟨h.r.other _ _ (by simp), h.y.set i v, h.o.setCell (by simp) v⟩
theorem mix_of (n : Int) (k : Nat) (hk : k < 8) : (mix8 0 (ofr n) k).setIfInBounds k (.int .u64 (ofl n)) = mix8 0 (ofr n) (k + 1) := by
  rw [← lm_ofr n k hk, mix8_set _ _ _ hk]

set_option maxHeartbeats 600000 in
theorem Of_core (n m : Int) (w : World) (hql : IntKind.u64.wrap (n / 9223372036854775808) = ofl n) (hm : IntKind.u64.wrap n = m) (hset : Hid ((cells8 (ofr n)).setIfInBounds 0 (.int .u64 m) = cells8 (enc n))) :
    Calls Try.prog 11 #[.int .i64 n] w fun e w' => e = .returned (.agg (cells8 (enc n))) ∧ Below w.heap.size w w' := by
  go_enter Try.func11, Try.ntmps11
  go_wp2
  go_loopw [5] (fun i wr => ∃ k : Nat, k ≤ 8 ∧ i = .int .i64 k ∧ Fo w w.heap.size (mix8 0 (ofr n) k) wr) (fun i _ => 8 - (intOf i).toNat)
  case atStart => exact ⟨0, by omega, rfl, ⟨cells8_0 ▸ Blk.first2 _ _ _ _, by rw [mix8_zero, cells8_0]; exact Blk.second2 _ _ _ _, below2 _ _ _⟩⟩
  case round =>
    obtain ⟨k, hk, rfl, R⟩ := hrel
    by_cases hlt : k < 8
    · have hg : (k : Int) < 8 := by omega
      have HR := hide R
      have hc : wr.cell? ⟨w.heap.size + 1, k, none⟩ = some (.int .u64 (mx 0 (ofr n) k k)) := by rw [R.y.cell, mix8_get _ _ _ _ hlt]
      have hf := R.y.frozen k
      clear R
      go_wp2
      go_roundw
      case rel => exact ⟨k + 1, by omega, by go_num, by rw [← mix_of n k hlt]; exact (unhide HR).set k _⟩
      case measure => simp [intOf]; omega
    · have e8 : k = 8 := by omega
      subst e8
      rw [mix8_full] at R
      have HR := hide R
      have hc : wr.cell? ⟨w.heap.size + 1, 0, none⟩ = some (.int .u64 (lm (ofr n) 0)) := by rw [R.y.cell, cells8_get _ _ (by decide)]
      have hf := R.y.frozen 0
      clear R
      have D1 : Hid (Fo w w.heap.size (cells8 (enc n)) (wr.setCell ⟨w.heap.size + 1, 0, none⟩ (.int .u64 m))) := unhide hset ▸ (unhide HR).set 0 (.int .u64 m)
      go_wp2_with (first
        | refine ld8 25 (.tmp 3) (unhide D1).y rfl rfl rfl Try.underlying25 rfl iWide ?_
        | refine st8 (n := enc n) 25 (.tmp 2) (.tmp 19) (unhide D1).r rfl rfl rfl rfl rfl iWide ?_)
      exact res8 ((unhide D1).r.row _) rfl rfl rfl Try.underlying25 rfl iWide ⟨rfl, below_row (unhide D1).o (Nat.le_refl _) _⟩

theorem of_wrap (n : Int) (h0 : -9223372036854775808 ≤ n) (h1 : n < 9223372036854775808) : IntKind.u64.wrap (n / 9223372036854775808) = ofl n := by
  unfold ofl
  rw [IntKind.wrap_u64]
  split <;> omega
theorem OfZ (n : Int) (h0 : -9223372036854775808 ≤ n) (h1 : n < 9223372036854775808) (w : World) :
    Calls Try.prog 11 #[.int .i64 n] w fun e w' => e = .returned (V n) ∧ Below w.heap.size w w' :=
  Of_core n (n % 18446744073709551616) w (of_wrap n h0 h1) (by rw [IntKind.wrap_u64]) (of_set n h0 h1)

set_option maxHeartbeats 600000 in
theorem Small_core (n m : Int) (w : World) (hm : IntKind.u64.wrap n = m) (hset : Hid ((cells8 (ofr n)).setIfInBounds 0 (.int .u64 m) = cells8 (enc n))) :
    Calls Try.prog 10 #[.int .i64 n] w fun e w' => e = .returned (.agg (cells8 (enc n))) ∧ Below w.heap.size w w' := by
  go_enter Try.func10, Try.ntmps10
  go_wp2
  go_loopw [4] (fun i wr => ∃ k : Nat, k ≤ 8 ∧ i = .int .i64 k ∧ Fo w w.heap.size (mix8 0 (ofr n) k) wr) (fun i _ => 8 - (intOf i).toNat)
  case atStart => exact ⟨0, by omega, rfl, ⟨cells8_0 ▸ Blk.first2 _ _ _ _, by rw [mix8_zero, cells8_0]; exact Blk.second2 _ _ _ _, below2 _ _ _⟩⟩
  case round =>
    obtain ⟨k, hk, rfl, R⟩ := hrel
    by_cases hlt : k < 8
    · have hg : (k : Int) < 8 := by omega
      have HR := hide R
      have hc : wr.cell? ⟨w.heap.size + 1, k, none⟩ = some (.int .u64 (mx 0 (ofr n) k k)) := by rw [R.y.cell, mix8_get _ _ _ _ hlt]
      have hf := R.y.frozen k
      clear R
      by_cases hn : n < 0
      · have hfl : Hid (ofl n = 18446744073709551615) := if_pos hn
        go_wp2
        go_roundw
        case rel => exact ⟨k + 1, by omega, by go_num, by rw [← mix_of n k hlt, unhide hfl]; exact (unhide HR).set k _⟩
        case measure => simp [intOf]; omega
      · have hfl : Hid (mix8 0 (ofr n) (k + 1) = mix8 0 (ofr n) k) := by
          have : ofr n = 0 := if_neg hn
          show mix8 0 (ofr n) (k + 1) = mix8 0 (ofr n) k
          rw [this]
          simp only [mix8, mx, ite_self]
        go_wp2
        go_roundw
        case rel => exact ⟨k + 1, by omega, by go_num, by rw [unhide hfl]; exact unhide HR⟩
        case measure => simp [intOf]; omega
    · have e8 : k = 8 := by omega
      subst e8
      rw [mix8_full] at R
      have HR := hide R
      have hc : wr.cell? ⟨w.heap.size + 1, 0, none⟩ = some (.int .u64 (lm (ofr n) 0)) := by rw [R.y.cell, cells8_get _ _ (by decide)]
      have hf := R.y.frozen 0
      clear R
      have D1 : Hid (Fo w w.heap.size (cells8 (enc n)) (wr.setCell ⟨w.heap.size + 1, 0, none⟩ (.int .u64 m))) := unhide hset ▸ (unhide HR).set 0 (.int .u64 m)
      go_wp2_with (first
        | refine ld8 25 (.tmp 3) (unhide D1).y rfl rfl rfl Try.underlying25 rfl iWide ?_
        | refine st8 (n := enc n) 25 (.tmp 2) (.tmp 18) (unhide D1).r rfl rfl rfl rfl rfl iWide ?_)
      exact res8 ((unhide D1).r.row _) rfl rfl rfl Try.underlying25 rfl iWide ⟨rfl, below_row (unhide D1).o (Nat.le_refl _) _⟩

theorem SmallZ (n : Int) (h0 : -9223372036854775808 ≤ n) (h1 : n < 9223372036854775808) (w : World) :
    Calls Try.prog 10 #[.int .i64 n] w fun e w' => e = .returned (V n) ∧ Below w.heap.size w w' :=
  Small_core n (n % 18446744073709551616) w (by rw [IntKind.wrap_u64]) (of_set n h0 h1)

end Go.Proofs.Ytfoojpfgeicolaa
