/- The contracts of math/bits.Div64 where the high part is 0, and of guess of package wide. -/
import Derived.Test.YtfoojpfgeicolaaWn
import Derived.Test.YtfoojpfgeicolaaWp
namespace Go.Proofs.Ytfoojpfgeicolaa
open Go.RowKit

set_option maxHeartbeats 1000000 in
theorem div64_low (l y q r : Int) (w : World) (h0 : (y == 0) = false) (h1 : 0 < y) (hn : ¬ y = 0)
    (e1 : IntKind.u64.wrap (l.tdiv y) = q) (e2 : l.tmod y = r) :
    Calls Try.prog 82 #[.int .u64 0, .int .u64 l, .int .u64 y] w fun e w' => e = .returned (.tuple #[.int .u64 q, .int .u64 r]) ∧ w' = w.drew := by
  go_enter Try.func82, Try.ntmps82
  go_wp2
  refine region_plan (S := fun u => u = w.drew) (l := [0, 1, 2, 3, 4, 5, 6, 7]) (by kernel_rfl) (by kernel_rfl) (by kernel_rfl) (by kernel_rfl) (by kernel_rfl) (by kernel_rfl) (by kernel_rfl) rfl ?_
  refine plan_read (v := ?_) rfl rfl (fun u hS => by go_simp; rfl) ?_
  refine plan_read (v := ?_) rfl rfl (fun u hS => by go_simp; rfl) ?_
  refine plan_read (v := .int .u64 q) rfl rfl (fun u hS => by go_simp) ?_
  refine plan_read (v := ?_) rfl rfl (fun u hS => by go_simp; rfl) ?_
  refine plan_read (v := ?_) rfl rfl (fun u hS => by go_simp; rfl) ?_
  refine plan_read (v := .int .u64 r) rfl rfl (fun u hS => by go_simp) ?_
  refine plan_read (v := ?_) rfl rfl (fun u hS => by go_simp; rfl) ?_
  refine plan_read (v := ?_) rfl rfl (fun u hS => by go_simp; rfl) ?_
  refine plan_end (fun u hS => ?_)
  have HS := hide hS
  clear hS
  go_simp
  go_wp2
  go_ret2
  exact ⟨rfl, unhide HS⟩

/-- Div64, of a divisor whose top bit is set. -/
theorem div64_top (h l y : Nat) (hy : 9223372036854775808 ≤ y) (hy' : y < 18446744073709551616) (hh : h < y) (hl : l < 18446744073709551616) (w : World) :
    Calls Try.prog 82 #[.int .u64 (h : Int), .int .u64 (l : Int), .int .u64 (y : Int)] w fun e w' =>
      e = .returned (.tuple #[.int .u64 (((h * 18446744073709551616 + l) / y : Nat) : Int), .int .u64 (((h * 18446744073709551616 + l) % y : Nat) : Int)]) ∧ Below w.heap.size w w' := by
  by_cases h0 : h = 0
  · subst h0
    rw [Nat.zero_mul, Nat.zero_add]
    have hb : l / y < 18446744073709551616 := Nat.lt_of_le_of_lt (Nat.div_le_self _ _) hl
    have e1 : IntKind.u64.wrap ((l : Int).tdiv (y : Int)) = ((l / y : Nat) : Int) := by
      rw [tdiv_nn _ _ (by omega), ← Int.natCast_ediv]
      exact wu _ (Int.natCast_nonneg _) (Int.ofNat_lt.2 hb)
    have e2 : (l : Int).tmod (y : Int) = ((l % y : Nat) : Int) := by
      rw [Int.tmod_eq_emod_of_nonneg (by omega), ← Int.natCast_emod]
    refine (div64_low (l : Int) (y : Int) _ _ w (by simp; omega) (by omega) (by omega) e1 e2).mono fun e w' ⟨he, hw⟩ => ⟨he, ?_⟩
    rw [hw]
    exact (Below.refl _ _).drew
  · refine (div64_any h l y hy hy' hh hl h0 w).mono fun e w' ⟨he, hw⟩ => ⟨he, ?_⟩
    rw [hw]
    exact Below.refl _ _

/-- What guess answers. -/
def gs (h l t : Nat) : Nat := if t ≤ h then 18446744073709551615 else (h * 18446744073709551616 + l) / t

theorem guess_any (h l t : Nat) (ht : 9223372036854775808 ≤ t) (ht' : t < 18446744073709551616) (hl : l < 18446744073709551616) (w : World) :
    Calls Try.prog 79 #[.int .u64 (h : Int), .int .u64 (l : Int), .int .u64 (t : Int)] w fun e w' => e = .returned (.int .u64 (gs h l t : Int)) ∧ Below w.heap.size w w' := by
  by_cases hc : t ≤ h
  · have eg : gs h l t = 18446744073709551615 := by unfold gs; rw [if_pos hc]
    rw [eg]
    have hci : (t : Int) ≤ (h : Int) := by omega
    clear eg ht ht' hl
    go_enter Try.func79, Try.ntmps79
    go_wp2
    go_ret
    exact ⟨rfl, Below.refl _ _⟩
  · have eg : gs h l t = (h * 18446744073709551616 + l) / t := by unfold gs; rw [if_neg hc]
    rw [eg]
    have HD := hide (fun w => div64_top h l t ht ht' (by omega) hl w)
    have hci : (h : Int) < (t : Int) := by omega
    clear eg ht ht' hl hc
    obtain ⟨q, hq⟩ : ∃ q, q = (h * 18446744073709551616 + l) / t := ⟨_, rfl⟩
    obtain ⟨r, hr⟩ : ∃ r, r = (h * 18446744073709551616 + l) % t := ⟨_, rfl⟩
    rw [← hq, ← hr] at HD
    rw [← hq]
    clear hq hr
    go_enter Try.func79, Try.ntmps79
    go_wp2_with (go_at_call 82; refine (unhide HD _).mono ?_; rintro e w' ⟨he, hb⟩; subst he)
    go_ret
    exact ⟨rfl, hb⟩

end Go.Proofs.Ytfoojpfgeicolaa
