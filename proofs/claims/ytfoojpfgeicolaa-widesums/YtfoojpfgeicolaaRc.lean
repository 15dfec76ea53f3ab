/- The document's plus and minus: the sum of bits, and the bits of the number that is 0 with another one. -/
import Derived.Test.YtfoojpfgeicolaaRb
namespace Go.Proofs.Ytfoojpfgeicolaa
open Go.RowKit

theorem cz_01 (x y c : Int) (hc : c = 0 ∨ c = 1) (i : Nat) : cz x y c i = 0 ∨ cz x y c i = 1 := by
  induction i with
  | zero => rw [cz_zero]; exact hc
  | succ i ih =>
    rw [cz_step]
    have h1 := bz_01 x i
    have h2 := bz_01 y i
    omega

set_option maxRecDepth 4000 in
set_option maxHeartbeats 1000000 in
theorem plus_bits (x y : Int) (n p q o1 o2 c1 c2 : Nat) (hn : n ≤ 4000) (w : World) (hp : ∀ k, k < n → w.cell? ⟨p, o1 + k, none⟩ = some (.int .i64 (bz x k))) (hq : ∀ k, k < n → w.cell? ⟨q, o2 + k, none⟩ = some (.int .i64 (bz y k)))
    (hpw : p < w.heap.size) (hqw : q < w.heap.size) :
    Calls Try.prog 37 #[.slice (some ⟨p, o1, none⟩) n c1, .slice (some ⟨q, o2, none⟩) n c2] w fun e w' => ∃ g, w.heap.size ≤ g ∧ e = .returned (.slice (some ⟨g, 0, none⟩) n n) ∧ Ints w' g n (bz (x + y)) ∧ Below w.heap.size w w' := by
  have hmk := run_make_row' (P := Try.prog) 45 3 (.int .i64 0) 8 Try.underlying45 iInt rfl .i64 .i64 n (by omega) (by omega)
  have HP : Hid (∀ k, k < n → w.cell? ⟨p, o1 + k, none⟩ = some (.int .i64 (bz x k))) := hp
  have HQ : Hid (∀ k, k < n → w.cell? ⟨q, o2 + k, none⟩ = some (.int .i64 (bz y k))) := hq
  clear hp hq
  go_enter Try.func37, Try.ntmps37
  go_wp2_with fail
  go_loopw [6, 7] (fun c i wr => ∃ k : Nat, k ≤ n ∧ i = .int .i64 k ∧ c = .int .i64 (cz x y 0 k) ∧ Ints wr w.heap.size n (pz (x + y) k) ∧ Below w.heap.size w wr) (fun _ i _ => n - (intOf i).toNat)
  case atStart =>
    exact ⟨0, by omega, rfl, by rw [cz_zero], Ints.zero w n _, (Below.refl _ _).alloc (Nat.le_refl _) _⟩
  case round =>
    obtain ⟨k, hk, rfl, rfl, hr, hw⟩ := hrel
    by_cases hlt : k < n
    · have h3 := World.rowIs.frozen hr k
      have h4 := World.rowIs.cell hr hlt
      have h1 : wr.cell? ⟨p, o1 + k, none⟩ = some (.int .i64 (bz x k)) := (hw.cell (by exact hpw)).trans (HP.out k hlt)
      have h2 : wr.cell? ⟨q, o2 + k, none⟩ = some (.int .i64 (bz y k)) := (hw.cell (by exact hqw)).trans (HQ.out k hlt)
      have HR : Hid (Ints wr w.heap.size n (pz (x + y) k) ∧ Below w.heap.size w wr) := ⟨hr, hw⟩
      clear hr hw
      have HC : Hid (cz x y 0 (k + 1) = (bz x k + bz y k + cz x y 0 k) / 2 ∧ bz (x + y) k = (bz x k + bz y k + cz x y 0 k) % 2) := ⟨cz_step x y 0 k, by have := bz_sum x y 0 k; rwa [Int.add_zero] at this⟩
      have a1 := bz_01 x k
      have a2 := bz_01 y k
      have a3 := cz_01 x y 0 (.inl rfl) k
      generalize bz x k = u at *
      generalize bz y k = v at *
      generalize cz x y 0 k = c at *
      go_wp2
      go_region
      all_goals (
        go_wp2
        go_roundw
        case rel => exact ⟨k + 1, by omega, by go_num, by rw [HC.out.1], World.rowIs.drew (Ints.next HR.out.1 HC.out.2.symm), (HR.out.2.setCell (by simp) _).drew⟩
        case measure => simp [intOf]; omega)
    · have e : k = n := by omega
      subst e
      go_wp2
      go_ret
      exact ⟨_, by omega, rfl, hr.full, hw⟩

set_option maxRecDepth 4000 in
set_option maxHeartbeats 1000000 in
theorem minus_bits (x : Int) (n p o1 c1 : Nat) (hn : n ≤ 4000) (w : World) (hp : ∀ k, k < n → w.cell? ⟨p, o1 + k, none⟩ = some (.int .i64 (bz x k))) (hpw : p < w.heap.size) :
    Calls Try.prog 39 #[.slice (some ⟨p, o1, none⟩) n c1] w fun e w' => ∃ g, w.heap.size ≤ g ∧ e = .returned (.slice (some ⟨g, 0, none⟩) n n) ∧ Ints w' g n (bz (-x)) ∧ Below w.heap.size w w' := by
  have hmk := run_make_row' (P := Try.prog) 45 3 (.int .i64 0) 8 Try.underlying45 iInt rfl .i64 .i64 n (by omega) (by omega)
  have HP : Hid (∀ k, k < n → w.cell? ⟨p, o1 + k, none⟩ = some (.int .i64 (bz x k))) := hp
  clear hp
  go_enter Try.func39, Try.ntmps39
  go_wp2_with fail
  go_loopw [4, 5] (fun c i wr => ∃ k : Nat, k ≤ n ∧ i = .int .i64 k ∧ c = .int .i64 (cz (-x - 1) 0 1 k) ∧ Ints wr w.heap.size n (pz (-x) k) ∧ Below w.heap.size w wr) (fun _ i _ => n - (intOf i).toNat)
  case atStart =>
    exact ⟨0, by omega, rfl, by rw [cz_zero], Ints.zero w n _, (Below.refl _ _).alloc (Nat.le_refl _) _⟩
  case round =>
    obtain ⟨k, hk, rfl, rfl, hr, hw⟩ := hrel
    by_cases hlt : k < n
    · have h3 := World.rowIs.frozen hr k
      have h4 := World.rowIs.cell hr hlt
      have h1 : wr.cell? ⟨p, o1 + k, none⟩ = some (.int .i64 (bz x k)) := (hw.cell (by exact hpw)).trans (HP.out k hlt)
      have HR : Hid (Ints wr w.heap.size n (pz (-x) k) ∧ Below w.heap.size w wr) := ⟨hr, hw⟩
      clear hr hw
      have e0 : bz 0 k = 0 := by unfold bz; rw [Int.zero_ediv]; rfl
      have HC : Hid (cz (-x - 1) 0 1 (k + 1) = (1 - bz x k + cz (-x - 1) 0 1 k) / 2 ∧ bz (-x) k = (1 - bz x k + cz (-x - 1) 0 1 k) % 2) :=
        ⟨by rw [cz_step, bz_not, e0, Int.add_zero], by have := bz_sum (-x - 1) 0 1 k; rw [show -x - 1 + 0 + 1 = -x by omega, bz_not, e0, Int.add_zero] at this; exact this⟩
      clear e0
      have a1 := bz_01 x k
      have a3 := cz_01 (-x - 1) 0 1 (.inr rfl) k
      generalize bz x k = u at *
      generalize cz (-x - 1) 0 1 k = c at *
      go_wp2
      go_roundw
      case rel => exact ⟨k + 1, by omega, by go_num, by rw [HC.out.1], Ints.next HR.out.1 HC.out.2.symm, HR.out.2.setCell (by simp) _⟩
      case measure => simp [intOf]; omega
    · have e : k = n := by omega
      subst e
      go_wp2
      go_ret
      exact ⟨_, by omega, rfl, hr.full, hw⟩

end Go.Proofs.Ytfoojpfgeicolaa
