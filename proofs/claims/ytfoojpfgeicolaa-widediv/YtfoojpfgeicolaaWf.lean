/- The contracts of compare and used of package wide. -/
import Derived.Test.YtfoojpfgeicolaaWc
namespace Go.Proofs.Ytfoojpfgeicolaa
open Go.RowKit

/-- x against y by the limbs below k, from above. -/
def cmpTo (x y : Nat) : Nat → Int
  | 0 => 0
  | k + 1 => if lm x k < lm y k then -1 else if lm y k < lm x k then 1 else cmpTo x y k
theorem cmpTo_same (x y m : Nat) (h1 : ¬ lm x m < lm y m) (h2 : ¬ lm y m < lm x m) : cmpTo x y (m + 1) = cmpTo x y m := by simp [cmpTo, h1, h2]
/-- How many of the limbs below k there are up to the highest one that is not 0. -/
def usedTo (x : Nat) : Nat → Nat
  | 0 => 0
  | k + 1 => if lm x k = 0 then usedTo x k else k + 1
theorem usedTo_le (x : Nat) : ∀ k, usedTo x k ≤ k
  | 0 => Nat.le_refl _
  | k + 1 => by
    unfold usedTo
    split
    · have := usedTo_le x k; omega
    · exact Nat.le_refl _

set_option maxHeartbeats 1000000 in
theorem used_any (x : Nat) (w : World) :
    Calls Try.prog 64 #[W x] w fun e w' => e = .returned (.int .i64 (usedTo x 8 : Nat)) ∧ Below w.heap.size w w' := by
  go_enter Try.func64, Try.ntmps64
  go_wp2
  go_loop [3] (fun n => ∃ k : Nat, k ≤ 8 ∧ n = .int .i64 k ∧ usedTo x k = usedTo x 8) (fun n => (intOf n).toNat)
  case atStart => exact ⟨8, by omega, rfl, rfl⟩
  case round =>
    obtain ⟨k, hk, rfl, hu⟩ := hrel
    have HU := hide hu
    clear hu
    cases k with
    | zero =>
      go_wp2
      go_ret
      exact ⟨by rw [← unhide HU]; rfl, (Below.refl _ _).alloc (Nat.le_refl _) _⟩
    | succ m =>
      have e1 : ((m + 1 : Nat) : Int) = (m : Int) + 1 := by omega
      rw [e1]
      have h8 : (m : Int) < 8 := by omega
      have hc : (w.alloc (.cells (cells8 x) 50)).cell? ⟨w.heap.size, m, none⟩ = some (.int .u64 (lm x m)) := by
        rw [(Blk.new w 50 (cells8 x)).cell m, cells8_get x m (by omega)]
      by_cases hz : lm x m = 0
      · have hb : (lm x m == 0) = true := by simp [hz]
        have HZ := hide hz
        clear hz
        go_wp2
        go_round
        case rel => exact ⟨m, by omega, by go_num, by rw [← unhide HU]; simp [usedTo, unhide HZ]⟩
        case measure => simp [intOf]
      · have hb : (lm x m == 0) = false := by simp [hz]
        have HZ := hide hz
        clear hz
        go_wp2
        go_ret
        exact ⟨by rw [← unhide HU]; simp [usedTo, unhide HZ], (Below.refl _ _).alloc (Nat.le_refl _) _⟩

/-- What compare knows: both numbers in their blocks. -/
structure Two (w0 : World) (g x y : Nat) (w : World) : Prop where
  x : Blk w g 50 (cells8 x)
  y : Blk w (g + 1) 50 (cells8 y)
  o : Below g w0 w

set_option maxHeartbeats 1000000 in
theorem compare_any (x y : Nat) (w : World) :
    Calls Try.prog 36 #[W x, W y] w fun e w' => e = .returned (.int .i64 (cmpTo x y 8)) ∧ Below w.heap.size w w' := by
  go_enter Try.func36, Try.ntmps36
  go_wp2
  go_loopw [5] (fun i wr => ∃ k : Nat, k ≤ 8 ∧ i = .int .i64 ((k : Int) - 1) ∧ cmpTo x y k = cmpTo x y 8 ∧ Two w w.heap.size x y wr) (fun i _ => (intOf i + 1).toNat)
  case atStart => exact ⟨8, by omega, rfl, rfl, Blk.first2 _ _ _ _, Blk.second2 _ _ _ _, below2 _ _ _⟩
  case round =>
    obtain ⟨k, hk, rfl, hu, T⟩ := hrel
    have HU := hide hu
    have HT := hide T
    clear hu T
    cases k with
    | zero =>
      have e0 : ((0 : Nat) : Int) - 1 = -1 := by omega
      rw [e0]
      go_wp2
      go_ret
      exact ⟨by rw [← unhide HU]; rfl, (unhide HT).o⟩
    | succ m =>
      have e1 : ((m + 1 : Nat) : Int) - 1 = (m : Int) := by omega
      rw [e1]
      have h8 : (m : Int) < 8 := by omega
      have hx : wr.cell? ⟨w.heap.size, m, none⟩ = some (.int .u64 (lm x m)) := by
        rw [(unhide HT).x.cell m, cells8_get x m (by omega)]
      have hy : wr.cell? ⟨w.heap.size + 1, m, none⟩ = some (.int .u64 (lm y m)) := by
        rw [(unhide HT).y.cell m, cells8_get y m (by omega)]
      by_cases hlt : lm x m < lm y m
      · go_wp2
        go_region
        all_goals
          go_wp2
          go_ret
          exact ⟨by rw [← unhide HU]; simp [cmpTo, hlt], (unhide HT).o.drew⟩
      · by_cases hgt : lm y m < lm x m
        · go_wp2
          go_region
          all_goals
            go_wp2
            go_region
          all_goals
            go_wp2
            go_ret
            exact ⟨by rw [← unhide HU]; simp [cmpTo, hlt, hgt], (unhide HT).o.drew.drew⟩
        · go_wp2
          go_region
          all_goals
            go_wp2
            go_region
          all_goals
            go_wp2
            go_roundw
            case rel => exact ⟨m, by omega, by go_num, by rw [← unhide HU, cmpTo_same x y m (by omega) (by omega)], (unhide HT).x, (unhide HT).y, (unhide HT).o.drew.drew⟩
            case measure => simp [intOf]

end Go.Proofs.Ytfoojpfgeicolaa
