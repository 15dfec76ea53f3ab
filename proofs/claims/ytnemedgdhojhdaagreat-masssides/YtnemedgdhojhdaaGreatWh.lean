/- The contracts of math/bits.Len64 and LeadingZeros64. -/
import Derived.Test.YtnemedgdhojhdaaGreatWf
import Derived.Deep.Cut
namespace Go.Proofs.YtnemedgdhojhdaaGreat
open Go.RowKit
set_option maxRecDepth 4000

/-- How many bits n has. -/
def blen (n : Nat) : Nat := if n = 0 then 0 else Nat.log2 n + 1

def tabOk (s : ByteArray) : Bool := decide (s.size = 256) && (List.range 256).all fun i => (s.data[i]?).map (·.toNat) == some (blen i)

theorem exec_tab {o : Oper} {a : Act} (w : World) (s : ByteArray) (x : Operand) (i : Nat) (hs : tabOk s = true) (ho : o.op = .index 9 (.const (.string s)) x) {v : Int} (hx : a.eval x = .int .u8 v) (hv : v = (i : Int)) (hi : i < 256) :
    (execOp a.eval o).run Tryz.prog w = .ok (.value (.int .u8 (blen i : Nat))) w := by
  subst hv
  simp only [tabOk, Bool.and_eq_true, decide_eq_true_eq, List.all_eq_true, List.mem_range, beq_iff_eq] at hs
  obtain ⟨h1, h2⟩ := hs
  have h3 := h2 i hi
  have hlt : i < s.data.size := by show i < s.size; omega
  rw [Array.getElem?_eq_getElem hlt] at h3
  simp only [Option.map_some, Option.some.injEq] at h3
  have hrun := run_index_string (P := Tryz.prog) w 9 s .u8 (i : Int) Tryz.underlying9
  rw [dif_pos (by omega)] at hrun
  unfold execOp
  have he : a.eval (.const (.string s)) = .string s := rfl
  simp only [ho, hx, he, Sem.run_bind, hrun, Result.andThen_ok, Sem.run_pure]
  rw [← h3]
  rfl

theorem blen_lt (n k : Nat) : blen n ≤ k ↔ n < 2 ^ k := by
  unfold blen
  by_cases h : n = 0
  · simp [h, Nat.pow_pos]
  · rw [if_neg h]
    exact Nat.log2_lt h
theorem blen_le (n : Nat) (h : n < 256) : blen n ≤ 8 := (blen_lt n 8).2 h

theorem u8_wrap_small (n : Int) (h0 : 0 ≤ n) (h : n < 256) : IntKind.u8.wrap n = n := by
  rw [IntKind.wrap_u8]; omega

theorem wrap64_small (n : Int) (h0 : 0 ≤ n) (h : n < 1000) : wrap64 n = n := by
  unfold wrap64; omega

set_option maxHeartbeats 1000000 in
set_option maxRecDepth 100000 in
theorem len64_000 (x : Nat) (w : World) (h1 : decide ((4294967296 : Int) ≤ (x : Int)) = false) (h2 : decide ((65536 : Int) ≤ (x : Int)) = false) (h3 : decide ((256 : Int) ≤ (x : Int)) = false) (hx : Hid (x < 18446744073709551616)) :
    Calls Tryz.prog 187 #[.int .u64 (x : Int)] w fun e w' => e = .returned (.int .i64 ((0 + blen (x) : Nat) : Int)) ∧ w' = w := by
  have e1 := of_decide_eq_false h1
  have e2 := of_decide_eq_false h2
  have e3 := of_decide_eq_false h3
  have hi : x < 256 := by have := unhide hx; omega
  have hv : IntKind.u8.wrap ((x : Int)) = ((x : Nat) : Int) := (u8_wrap_small _ (by omega) (by omega)).trans (by omega)
  have hl : blen (x) ≤ 8 := blen_le _ hi
  have HI := hide hi
  have HV := hide hv
  have HL := hide hl
  clear e1 e2 e3 hi hv hl
  go_enter Tryz.func187, Tryz.ntmps187
  generalize ht : Value.string _ = tab
  have HT : ∃ s, tab = .string s ∧ tabOk s = true := ⟨_, ht.symm, by kernel_rfl⟩
  clear ht
  obtain ⟨s, rfl, hs⟩ := HT
  have HS := hide hs
  clear hs
  go_wp2_with (refine wpList_value rfl (exec_tab _ s (.tmp 21) (x) (unhide HS) rfl rfl (unhide HV) (unhide HI)) ?_)
  go_ret
  refine ⟨congrArg (fun z => Ending.returned (.int .i64 z)) ?_, rfl⟩
  have hl := unhide HL
  have w1 : wrap64 ((blen (x) : Nat) : Int) = (blen (x) : Nat) := wrap64_small _ (by omega) (by omega)
  simp only [w1]
  omega

set_option maxHeartbeats 1000000 in
set_option maxRecDepth 100000 in
theorem len64_001 (x : Nat) (w : World) (h1 : decide ((4294967296 : Int) ≤ (x : Int)) = false) (h2 : decide ((65536 : Int) ≤ (x : Int)) = false) (h3 : decide ((256 : Int) ≤ (x : Int)) = true) (hx : Hid (x < 18446744073709551616)) :
    Calls Tryz.prog 187 #[.int .u64 (x : Int)] w fun e w' => e = .returned (.int .i64 ((8 + blen (x / 256) : Nat) : Int)) ∧ w' = w := by
  have e1 := of_decide_eq_false h1
  have e2 := of_decide_eq_false h2
  have e3 := of_decide_eq_true h3
  have hi : x / 256 < 256 := by have := unhide hx; omega
  have hv : IntKind.u8.wrap ((x : Int) / 256) = ((x / 256 : Nat) : Int) := (u8_wrap_small _ (by omega) (by omega)).trans (by omega)
  have hl : blen (x / 256) ≤ 8 := blen_le _ hi
  have HI := hide hi
  have HV := hide hv
  have HL := hide hl
  clear e1 e2 e3 hi hv hl
  go_enter Tryz.func187, Tryz.ntmps187
  generalize ht : Value.string _ = tab
  have HT : ∃ s, tab = .string s ∧ tabOk s = true := ⟨_, ht.symm, by kernel_rfl⟩
  clear ht
  obtain ⟨s, rfl, hs⟩ := HT
  have HS := hide hs
  clear hs
  go_wp2_with (refine wpList_value rfl (exec_tab _ s (.tmp 21) (x / 256) (unhide HS) rfl rfl (unhide HV) (unhide HI)) ?_)
  go_ret
  refine ⟨congrArg (fun z => Ending.returned (.int .i64 z)) ?_, rfl⟩
  have hl := unhide HL
  have w1 : wrap64 ((blen (x / 256) : Nat) : Int) = (blen (x / 256) : Nat) := wrap64_small _ (by omega) (by omega)
  simp only [w1]
  exact (wrap64_small _ (by omega) (by omega)).trans (by omega)

set_option maxHeartbeats 1000000 in
set_option maxRecDepth 100000 in
theorem len64_010 (x : Nat) (w : World) (h1 : decide ((4294967296 : Int) ≤ (x : Int)) = false) (h2 : decide ((65536 : Int) ≤ (x : Int)) = true) (h3 : decide ((256 : Int) ≤ (x : Int) / 65536) = false) (hx : Hid (x < 18446744073709551616)) :
    Calls Tryz.prog 187 #[.int .u64 (x : Int)] w fun e w' => e = .returned (.int .i64 ((16 + blen (x / 65536) : Nat) : Int)) ∧ w' = w := by
  have e1 := of_decide_eq_false h1
  have e2 := of_decide_eq_true h2
  have e3 := of_decide_eq_false h3
  have hi : x / 65536 < 256 := by have := unhide hx; omega
  have hv : IntKind.u8.wrap ((x : Int) / 65536) = ((x / 65536 : Nat) : Int) := (u8_wrap_small _ (by omega) (by omega)).trans (by omega)
  have hl : blen (x / 65536) ≤ 8 := blen_le _ hi
  have HI := hide hi
  have HV := hide hv
  have HL := hide hl
  clear e1 e2 e3 hi hv hl
  go_enter Tryz.func187, Tryz.ntmps187
  generalize ht : Value.string _ = tab
  have HT : ∃ s, tab = .string s ∧ tabOk s = true := ⟨_, ht.symm, by kernel_rfl⟩
  clear ht
  obtain ⟨s, rfl, hs⟩ := HT
  have HS := hide hs
  clear hs
  go_wp2_with (refine wpList_value rfl (exec_tab _ s (.tmp 21) (x / 65536) (unhide HS) rfl rfl (unhide HV) (unhide HI)) ?_)
  go_ret
  refine ⟨congrArg (fun z => Ending.returned (.int .i64 z)) ?_, rfl⟩
  have hl := unhide HL
  have w1 : wrap64 ((blen (x / 65536) : Nat) : Int) = (blen (x / 65536) : Nat) := wrap64_small _ (by omega) (by omega)
  simp only [w1]
  exact (wrap64_small _ (by omega) (by omega)).trans (by omega)

set_option maxHeartbeats 1000000 in
set_option maxRecDepth 100000 in
theorem len64_011 (x : Nat) (w : World) (h1 : decide ((4294967296 : Int) ≤ (x : Int)) = false) (h2 : decide ((65536 : Int) ≤ (x : Int)) = true) (h3 : decide ((256 : Int) ≤ (x : Int) / 65536) = true) (hx : Hid (x < 18446744073709551616)) :
    Calls Tryz.prog 187 #[.int .u64 (x : Int)] w fun e w' => e = .returned (.int .i64 ((24 + blen (x / 65536 / 256) : Nat) : Int)) ∧ w' = w := by
  have e1 := of_decide_eq_false h1
  have e2 := of_decide_eq_true h2
  have e3 := of_decide_eq_true h3
  have hi : x / 65536 / 256 < 256 := by have := unhide hx; omega
  have hv : IntKind.u8.wrap ((x : Int) / 65536 / 256) = ((x / 65536 / 256 : Nat) : Int) := (u8_wrap_small _ (by omega) (by omega)).trans (by omega)
  have hl : blen (x / 65536 / 256) ≤ 8 := blen_le _ hi
  have HI := hide hi
  have HV := hide hv
  have HL := hide hl
  clear e1 e2 e3 hi hv hl
  go_enter Tryz.func187, Tryz.ntmps187
  generalize ht : Value.string _ = tab
  have HT : ∃ s, tab = .string s ∧ tabOk s = true := ⟨_, ht.symm, by kernel_rfl⟩
  clear ht
  obtain ⟨s, rfl, hs⟩ := HT
  have HS := hide hs
  clear hs
  go_wp2_with (refine wpList_value rfl (exec_tab _ s (.tmp 21) (x / 65536 / 256) (unhide HS) rfl rfl (unhide HV) (unhide HI)) ?_)
  go_ret
  refine ⟨congrArg (fun z => Ending.returned (.int .i64 z)) ?_, rfl⟩
  have hl := unhide HL
  have w1 : wrap64 ((blen (x / 65536 / 256) : Nat) : Int) = (blen (x / 65536 / 256) : Nat) := wrap64_small _ (by omega) (by omega)
  simp only [w1]
  exact (wrap64_small _ (by omega) (by omega)).trans (by omega)

set_option maxHeartbeats 1000000 in
set_option maxRecDepth 100000 in
theorem len64_100 (x : Nat) (w : World) (h1 : decide ((4294967296 : Int) ≤ (x : Int)) = true) (h2 : decide ((65536 : Int) ≤ (x : Int) / 4294967296) = false) (h3 : decide ((256 : Int) ≤ (x : Int) / 4294967296) = false) (hx : Hid (x < 18446744073709551616)) :
    Calls Tryz.prog 187 #[.int .u64 (x : Int)] w fun e w' => e = .returned (.int .i64 ((32 + blen (x / 4294967296) : Nat) : Int)) ∧ w' = w := by
  have e1 := of_decide_eq_true h1
  have e2 := of_decide_eq_false h2
  have e3 := of_decide_eq_false h3
  have hi : x / 4294967296 < 256 := by have := unhide hx; omega
  have hv : IntKind.u8.wrap ((x : Int) / 4294967296) = ((x / 4294967296 : Nat) : Int) := (u8_wrap_small _ (by omega) (by omega)).trans (by omega)
  have hl : blen (x / 4294967296) ≤ 8 := blen_le _ hi
  have HI := hide hi
  have HV := hide hv
  have HL := hide hl
  clear e1 e2 e3 hi hv hl
  go_enter Tryz.func187, Tryz.ntmps187
  generalize ht : Value.string _ = tab
  have HT : ∃ s, tab = .string s ∧ tabOk s = true := ⟨_, ht.symm, by kernel_rfl⟩
  clear ht
  obtain ⟨s, rfl, hs⟩ := HT
  have HS := hide hs
  clear hs
  go_wp2_with (refine wpList_value rfl (exec_tab _ s (.tmp 21) (x / 4294967296) (unhide HS) rfl rfl (unhide HV) (unhide HI)) ?_)
  go_ret
  refine ⟨congrArg (fun z => Ending.returned (.int .i64 z)) ?_, rfl⟩
  have hl := unhide HL
  have w1 : wrap64 ((blen (x / 4294967296) : Nat) : Int) = (blen (x / 4294967296) : Nat) := wrap64_small _ (by omega) (by omega)
  simp only [w1]
  exact (wrap64_small _ (by omega) (by omega)).trans (by omega)

set_option maxHeartbeats 1000000 in
set_option maxRecDepth 100000 in
theorem len64_101 (x : Nat) (w : World) (h1 : decide ((4294967296 : Int) ≤ (x : Int)) = true) (h2 : decide ((65536 : Int) ≤ (x : Int) / 4294967296) = false) (h3 : decide ((256 : Int) ≤ (x : Int) / 4294967296) = true) (hx : Hid (x < 18446744073709551616)) :
    Calls Tryz.prog 187 #[.int .u64 (x : Int)] w fun e w' => e = .returned (.int .i64 ((40 + blen (x / 4294967296 / 256) : Nat) : Int)) ∧ w' = w := by
  have e1 := of_decide_eq_true h1
  have e2 := of_decide_eq_false h2
  have e3 := of_decide_eq_true h3
  have hi : x / 4294967296 / 256 < 256 := by have := unhide hx; omega
  have hv : IntKind.u8.wrap ((x : Int) / 4294967296 / 256) = ((x / 4294967296 / 256 : Nat) : Int) := (u8_wrap_small _ (by omega) (by omega)).trans (by omega)
  have hl : blen (x / 4294967296 / 256) ≤ 8 := blen_le _ hi
  have HI := hide hi
  have HV := hide hv
  have HL := hide hl
  clear e1 e2 e3 hi hv hl
  go_enter Tryz.func187, Tryz.ntmps187
  generalize ht : Value.string _ = tab
  have HT : ∃ s, tab = .string s ∧ tabOk s = true := ⟨_, ht.symm, by kernel_rfl⟩
  clear ht
  obtain ⟨s, rfl, hs⟩ := HT
  have HS := hide hs
  clear hs
  go_wp2_with (refine wpList_value rfl (exec_tab _ s (.tmp 21) (x / 4294967296 / 256) (unhide HS) rfl rfl (unhide HV) (unhide HI)) ?_)
  go_ret
  refine ⟨congrArg (fun z => Ending.returned (.int .i64 z)) ?_, rfl⟩
  have hl := unhide HL
  have w1 : wrap64 ((blen (x / 4294967296 / 256) : Nat) : Int) = (blen (x / 4294967296 / 256) : Nat) := wrap64_small _ (by omega) (by omega)
  simp only [w1]
  exact (wrap64_small _ (by omega) (by omega)).trans (by omega)

set_option maxHeartbeats 1000000 in
set_option maxRecDepth 100000 in
theorem len64_110 (x : Nat) (w : World) (h1 : decide ((4294967296 : Int) ≤ (x : Int)) = true) (h2 : decide ((65536 : Int) ≤ (x : Int) / 4294967296) = true) (h3 : decide ((256 : Int) ≤ (x : Int) / 4294967296 / 65536) = false) (hx : Hid (x < 18446744073709551616)) :
    Calls Tryz.prog 187 #[.int .u64 (x : Int)] w fun e w' => e = .returned (.int .i64 ((48 + blen (x / 4294967296 / 65536) : Nat) : Int)) ∧ w' = w := by
  have e1 := of_decide_eq_true h1
  have e2 := of_decide_eq_true h2
  have e3 := of_decide_eq_false h3
  have hi : x / 4294967296 / 65536 < 256 := by have := unhide hx; omega
  have hv : IntKind.u8.wrap ((x : Int) / 4294967296 / 65536) = ((x / 4294967296 / 65536 : Nat) : Int) := (u8_wrap_small _ (by omega) (by omega)).trans (by omega)
  have hl : blen (x / 4294967296 / 65536) ≤ 8 := blen_le _ hi
  have HI := hide hi
  have HV := hide hv
  have HL := hide hl
  clear e1 e2 e3 hi hv hl
  go_enter Tryz.func187, Tryz.ntmps187
  generalize ht : Value.string _ = tab
  have HT : ∃ s, tab = .string s ∧ tabOk s = true := ⟨_, ht.symm, by kernel_rfl⟩
  clear ht
  obtain ⟨s, rfl, hs⟩ := HT
  have HS := hide hs
  clear hs
  go_wp2_with (refine wpList_value rfl (exec_tab _ s (.tmp 21) (x / 4294967296 / 65536) (unhide HS) rfl rfl (unhide HV) (unhide HI)) ?_)
  go_ret
  refine ⟨congrArg (fun z => Ending.returned (.int .i64 z)) ?_, rfl⟩
  have hl := unhide HL
  have w1 : wrap64 ((blen (x / 4294967296 / 65536) : Nat) : Int) = (blen (x / 4294967296 / 65536) : Nat) := wrap64_small _ (by omega) (by omega)
  simp only [w1]
  exact (wrap64_small _ (by omega) (by omega)).trans (by omega)

set_option maxHeartbeats 1000000 in
set_option maxRecDepth 100000 in
theorem len64_111 (x : Nat) (w : World) (h1 : decide ((4294967296 : Int) ≤ (x : Int)) = true) (h2 : decide ((65536 : Int) ≤ (x : Int) / 4294967296) = true) (h3 : decide ((256 : Int) ≤ (x : Int) / 4294967296 / 65536) = true) (hx : Hid (x < 18446744073709551616)) :
    Calls Tryz.prog 187 #[.int .u64 (x : Int)] w fun e w' => e = .returned (.int .i64 ((56 + blen (x / 4294967296 / 65536 / 256) : Nat) : Int)) ∧ w' = w := by
  have e1 := of_decide_eq_true h1
  have e2 := of_decide_eq_true h2
  have e3 := of_decide_eq_true h3
  have hi : x / 4294967296 / 65536 / 256 < 256 := by have := unhide hx; omega
  have hv : IntKind.u8.wrap ((x : Int) / 4294967296 / 65536 / 256) = ((x / 4294967296 / 65536 / 256 : Nat) : Int) := (u8_wrap_small _ (by omega) (by omega)).trans (by omega)
  have hl : blen (x / 4294967296 / 65536 / 256) ≤ 8 := blen_le _ hi
  have HI := hide hi
  have HV := hide hv
  have HL := hide hl
  clear e1 e2 e3 hi hv hl
  go_enter Tryz.func187, Tryz.ntmps187
  generalize ht : Value.string _ = tab
  have HT : ∃ s, tab = .string s ∧ tabOk s = true := ⟨_, ht.symm, by kernel_rfl⟩
  clear ht
  obtain ⟨s, rfl, hs⟩ := HT
  have HS := hide hs
  clear hs
  go_wp2_with (refine wpList_value rfl (exec_tab _ s (.tmp 21) (x / 4294967296 / 65536 / 256) (unhide HS) rfl rfl (unhide HV) (unhide HI)) ?_)
  go_ret
  refine ⟨congrArg (fun z => Ending.returned (.int .i64 z)) ?_, rfl⟩
  have hl := unhide HL
  have w1 : wrap64 ((blen (x / 4294967296 / 65536 / 256) : Nat) : Int) = (blen (x / 4294967296 / 65536 / 256) : Nat) := wrap64_small _ (by omega) (by omega)
  simp only [w1]
  exact (wrap64_small _ (by omega) (by omega)).trans (by omega)

theorem blen_shift (x k : Nat) (h : 2 ^ k ≤ x) : blen x = k + blen (x / 2 ^ k) := by
  have hk : ¬ blen x ≤ k := fun hc => by have := (blen_lt x k).1 hc; omega
  apply Nat.le_antisymm
  · rw [blen_lt, Nat.pow_add]
    have h1 := (blen_lt (x / 2 ^ k) _).1 (Nat.le_refl _)
    rw [Nat.div_lt_iff_lt_mul (Nat.pow_pos (by decide))] at h1
    rw [Nat.mul_comm]; exact h1
  · have h2 : blen (x / 2 ^ k) ≤ blen x - k := by
      rw [blen_lt, Nat.div_lt_iff_lt_mul (Nat.pow_pos (by decide)), ← Nat.pow_add, Nat.sub_add_cancel (by omega)]
      exact (blen_lt x _).1 (Nat.le_refl _)
    omega

theorem len64_any (x : Nat) (hx : x < 18446744073709551616) (w : World) :
    Calls Tryz.prog 187 #[.int .u64 (x : Int)] w fun e w' => e = .returned (.int .i64 ((blen x : Nat) : Int)) ∧ w' = w := by
  have s32 : 4294967296 ≤ x → blen x = 32 + blen (x / 4294967296) := fun h => blen_shift x 32 h
  have s16 : ∀ y, 65536 ≤ y → blen y = 16 + blen (y / 65536) := fun y h => blen_shift y 16 h
  have s8 : ∀ y, 256 ≤ y → blen y = 8 + blen (y / 256) := fun y h => blen_shift y 8 h
  by_cases h1 : 4294967296 ≤ x
  · rw [s32 h1]
    by_cases h2 : 65536 ≤ x / 4294967296
    · rw [s16 _ h2]
      by_cases h3 : 256 ≤ x / 4294967296 / 65536
      · rw [s8 _ h3]
        have h := len64_111 x w (by simp; omega) (by simp; omega) (by simp; omega) hx
        rw [show 56 + blen (x / 4294967296 / 65536 / 256) = 32 + (16 + (8 + blen (x / 4294967296 / 65536 / 256))) by omega] at h
        exact h
      · have h := len64_110 x w (by simp; omega) (by simp; omega) (by simp; omega) hx
        rw [show 48 + blen (x / 4294967296 / 65536) = 32 + (16 + blen (x / 4294967296 / 65536)) by omega] at h
        exact h
    · by_cases h3 : 256 ≤ x / 4294967296
      · rw [s8 _ h3]
        have h := len64_101 x w (by simp; omega) (by simp; omega) (by simp; omega) hx
        rw [show 40 + blen (x / 4294967296 / 256) = 32 + (8 + blen (x / 4294967296 / 256)) by omega] at h
        exact h
      · exact len64_100 x w (by simp; omega) (by simp; omega) (by simp; omega) hx
  · by_cases h2 : 65536 ≤ x
    · rw [s16 _ h2]
      by_cases h3 : 256 ≤ x / 65536
      · rw [s8 _ h3]
        have h := len64_011 x w (by simp; omega) (by simp; omega) (by simp; omega) hx
        rw [show 24 + blen (x / 65536 / 256) = 16 + (8 + blen (x / 65536 / 256)) by omega] at h
        exact h
      · exact len64_010 x w (by simp; omega) (by simp; omega) (by simp; omega) hx
    · by_cases h3 : 256 ≤ x
      · rw [s8 _ h3]
        exact len64_001 x w (by simp; omega) (by simp; omega) (by simp; omega) hx
      · have h := len64_000 x w (by simp; omega) (by simp; omega) (by simp; omega) hx
        rw [Nat.zero_add] at h
        exact h

theorem lz64_any (x : Nat) (hx : x < 18446744073709551616) (w : World) :
    Calls Tryz.prog 180 #[.int .u64 (x : Int)] w fun e w' => e = .returned (.int .i64 ((64 - blen x : Nat) : Int)) ∧ w' = w := by
  have hb : blen x ≤ 64 := (blen_lt x 64).2 hx
  have HX := hide hx
  clear hx
  have HB := hide hb
  clear hb
  go_enter Tryz.func180, Tryz.ntmps180
  go_wp2_with (go_at_call 187; refine (len64_any x (unhide HX) _).mono ?_; rintro e w' ⟨he, hw⟩; subst he; subst hw)
  go_ret
  refine ⟨congrArg (fun z => Ending.returned (.int .i64 z)) ?_, rfl⟩
  have hl := unhide HB
  exact (wrap64_small _ (by omega) (by omega)).trans (by omega)

end Go.Proofs.YtnemedgdhojhdaaGreat
