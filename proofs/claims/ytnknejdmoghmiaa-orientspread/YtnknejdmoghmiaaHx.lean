/- The spread of the spread. -/
import Derived.Test.YtnknejdmoghmiaaHo
namespace Go.Proofs.Ytnknejdmoghmiaa
open Go.RowKit
set_option maxRecDepth 4000
set_option linter.unusedVariables false

theorem getD_left {l : List Nat} {i k : Nat} (h : i < l.length) : (l ++ [k]).getD i 0 = l.getD i 0 := by simp [List.getD, List.getElem?_append_left h]
theorem getD_end (l : List Nat) (k : Nat) : (l ++ [k]).getD l.length 0 = k := by simp [List.getD]
/-- Each place that was taken raised the rank. -/
theorem spS_up (ps : Nat → Pt) : ∀ n k, k < (spS ps n).length → sg k (fun i => ps ((spS ps n).getD i 0)) (ps ((spS ps n).getD k 0)) ≠ (0, 0, 0)
  | 0, k, h => by cases h
  | n + 1, k, h => by
    have ih := spS_up ps n
    by_cases h0 : sg (spS ps n).length (fun i => ps ((spS ps n).getD i 0)) (ps n) = (0, 0, 0)
    · have e : spS ps (n + 1) = spS ps n := if_pos h0
      rw [e] at h ⊢
      exact ih k h
    · have e : spS ps (n + 1) = spS ps n ++ [n] := if_neg h0
      rw [e] at h ⊢
      rw [List.length_append, List.length_singleton] at h
      rcases Nat.lt_succ_iff_lt_or_eq.1 h with hk | rfl
      · rw [getD_left hk, sg_congr (t' := fun i => ps ((spS ps n).getD i 0)) (fun i hi => by rw [getD_left (by omega)])]
        exact ih k hk
      · rw [getD_end, sg_congr (t' := fun i => ps ((spS ps n).getD i 0)) (fun i hi => by rw [getD_left hi])]
        exact h0
theorem spS_rise (ps : Nat → Pt) : ∀ n k, k + 1 < (spS ps n).length → (spS ps n).getD k 0 < (spS ps n).getD (k + 1) 0
  | 0, k, h => by cases h
  | n + 1, k, h => by
    have ih := spS_rise ps n
    by_cases h0 : sg (spS ps n).length (fun i => ps ((spS ps n).getD i 0)) (ps n) = (0, 0, 0)
    · have e : spS ps (n + 1) = spS ps n := if_pos h0
      rw [e] at h ⊢
      exact ih k h
    · have e : spS ps (n + 1) = spS ps n ++ [n] := if_neg h0
      rw [e] at h ⊢
      rw [List.length_append, List.length_singleton] at h
      rcases Nat.lt_succ_iff_lt_or_eq.1 h with hk | hk
      · rw [getD_left (by omega), getD_left hk]
        exact ih k hk
      · rw [hk, getD_end, getD_left (by omega)]
        have hk' : k < (spS ps n).length := by omega
        have : (spS ps n).getD k 0 = (spS ps n)[k] := by simp [List.getD, hk']
        rw [this]
        exact spS_lt ps n _ (List.getElem_mem hk')
theorem spS_in (ps : Nat → Pt) (n k : Nat) (h : k < (spS ps n).length) : (spS ps n).getD k 0 < n := by
  have : (spS ps n).getD k 0 = (spS ps n)[k] := by simp [List.getD, h]
  rw [this]
  exact spS_lt ps n _ (List.getElem_mem h)
/-- The points of the spread. -/
def spP (ps : Nat → Pt) (n : Nat) : Nat → Pt := fun i => ps ((spS ps n).getD i 0)
theorem spS_again (ps : Nat → Pt) (n : Nat) : ∀ k, k ≤ (spS ps n).length → spS (spP ps n) k = List.range k
  | 0, _ => rfl
  | k + 1, h => by
    have ih := spS_again ps n k (by omega)
    have h0 : sg (spS (spP ps n) k).length (fun i => spP ps n ((spS (spP ps n) k).getD i 0)) (spP ps n k) ≠ (0, 0, 0) := by
      rw [ih, List.length_range, sg_congr (t' := fun i => ps ((spS ps n).getD i 0)) (fun i hi => by rw [show (List.range k).getD i 0 = i by simp [List.getD, hi]]; rfl)]
      exact spS_up ps n k h
    have e : spS (spP ps n) (k + 1) = spS (spP ps n) k ++ [k] := if_neg h0
    rw [e, ih, List.range_succ]
theorem spE_again {ps : Nat → Pt} {n k : Nat} (h : spE n ps = 0) (hk : k ≤ (spS ps n).length) : spE k (spP ps n) = 0 := by
  have ha := allQ_iff.1 (spE_all h)
  have h4 := spS_len ps n
  have hq : allQ k (spP ps n) = true := allQ_iff.2 fun i hi => ha _ (spS_in ps n i (by omega))
  unfold spE
  rw [hq, show decide ((k : Int) ≤ 256) = true from decide_eq_true (by omega)]
  rfl
theorem rkI_again {ps : Nat → Pt} {n k : Nat} (h : spE n ps = 0) (hk : k + 1 ≤ (spS ps n).length) : rkI (k + 1) (spP ps n) = (k : Int) := by
  unfold rkI
  rw [if_pos (spE_again h hk), spS_again ps n (k + 1) hk, List.length_range]
  omega

end Go.Proofs.Ytnknejdmoghmiaa
