/- The document's least and further; rows of bits that are the first cells of a block. The document's Sqrt: as by hand, two bits at a time. The document's Div: its numbers, what is left and the quotient so far, place by place; then by taking away what is shifted, of the absolute values; then rounded down. The document's Div over integers. -/
import Derived.Test.YtbgafjdgahikcaaRm
import Derived.Test.YtbgafjdgahikcaaZj
import Derived.Deep.DeepCutAuto
namespace Go.Proofs.Ytbgafjdgahikcaa
open Go.RowKit
set_option maxRecDepth 4000

theorem top_step (X : Int) (k : Nat) : X / ((2 ^ k : Nat) : Int) = X / ((2 ^ (k + 1) : Nat) : Int) * 2 + bz X k := by
  unfold bz
  rw [pow_two, ← Int.ediv_ediv_of_nonneg (Int.natCast_nonneg _)]
  omega

set_option maxRecDepth 4000 in
set_option maxHeartbeats 1000000 in
/-- Is a number of bits less than another one? -/
theorem least_bits (X Y : Int) (b : Bool) (n p q c1 c2 : Nat) (hn : n ≤ 4000) (w : World) (hp : Hid (∀ k, k < n → w.cell? ⟨p, k, none⟩ = some (.int .i64 (bz X k)))) (hq : Hid (∀ k, k < n → w.cell? ⟨q, k, none⟩ = some (.int .i64 (bz Y k))))
    (hpw : p < w.heap.size) (hqw : q < w.heap.size) (hb : Hid (b = decide (X < Y))) (hXY : Hid (X / ((2 ^ n : Nat) : Int) = Y / ((2 ^ n : Nat) : Int))) :
    Calls Try.prog 146 #[.slice (some ⟨p, 0, none⟩) n c1, .slice (some ⟨q, 0, none⟩) n c2] w fun e w' => e = .returned (.bool b) ∧ Below w.heap.size w w' := by
  go_enter Try.func146, Try.ntmps146
  go_wp2_with fail
  go_loopw [5] (fun i wr => ∃ k : Nat, k ≤ n ∧ i = .int .i64 ((k : Int) - 1) ∧ Hid (X / ((2 ^ k : Nat) : Int) = Y / ((2 ^ k : Nat) : Int)) ∧ Below w.heap.size w wr) (fun i _ => (intOf i + 1).toNat)
  case atStart => exact ⟨n, Nat.le_refl _, rfl, hXY, Below.refl _ _⟩
  case round =>
    obtain ⟨k, hk, rfl, hE, hw⟩ := hrel
    rcases Nat.eq_zero_or_pos k with rfl | hpos
    · have hF : Hid (b = false) := by
        have h := unhide hE
        rw [show ((2 ^ 0 : Nat) : Int) = 1 from rfl, Int.ediv_one, Int.ediv_one] at h
        show b = false
        rw [unhide hb, decide_eq_false_iff_not]
        omega
      have HW := hide hw
      clear hw
      go_wp2
      go_ret
      exact ⟨by rw [unhide hF]; rfl, unhide HW⟩
    · obtain ⟨m, rfl⟩ : ∃ m, k = m + 1 := ⟨k - 1, by omega⟩
      rw [show ((m + 1 : Nat) : Int) - 1 = (m : Int) by omega]
      have h1 : wr.cell? ⟨p, m, none⟩ = some (.int .i64 (bz X m)) := (hw.cell (by exact hpw)).trans (unhide hp m (by omega))
      have h2 : wr.cell? ⟨q, m, none⟩ = some (.int .i64 (bz Y m)) := (hw.cell (by exact hqw)).trans (unhide hq m (by omega))
      have HW := hide hw
      have tX := top_step X m
      have tY := top_step Y m
      rw [unhide hE] at tX
      clear hw hE
      by_cases he : bz X m = bz Y m
      · have HE : Hid (X / ((2 ^ m : Nat) : Int) = Y / ((2 ^ m : Nat) : Int)) := by show _ = _; rw [tX, tY, he]
        rw [he] at h1
        clear tX tY he
        generalize bz Y m = v at *
        go_wp2
        go_region
        all_goals (
          go_wp2
          go_roundw
          case rel => exact ⟨m, by omega, rfl, HE, (unhide HW).drew⟩
          case measure => simp [intOf])
      · have hB : Hid (b = decide (bz X m < bz Y m)) := by
          show b = _
          rw [unhide hb]
          apply decide_eq_decide.2
          have hp2 := two_pow_pos m
          constructor
          · intro h
            have h3 := Int.ediv_le_ediv hp2 (Int.le_of_lt h)
            omega
          · intro h
            rcases (show X < Y ∨ Y ≤ X by omega) with h' | h'
            · exact h'
            · have h3 := Int.ediv_le_ediv hp2 h'
              omega
        clear tX tY
        have he2 : decide (bz X m = bz Y m) = false := decide_eq_false he
        have he3 : (bz X m == bz Y m) = false := by simp [he]
        generalize bz X m = u at *
        generalize bz Y m = v at *
        go_wp2
        go_region
        all_goals (
          go_wp2
          go_region
          all_goals (
            go_wp2
            go_ret
            exact ⟨by rw [unhide hB]; rfl, (unhide HW).drew.drew⟩))

/-- What lies further up, as far as the place n + k. -/
def fz (z : Int) (n k j : Nat) : Int := if j < n + k then after n (fun _ => 0) (bz z) j else 0
theorem fz_next {w : World} {b N n k : Nat} {z v : Int} (h : Ints w b N (fz z n k)) (hv : v = bz z k) : Ints (w.setCell ⟨b, k + n, none⟩ (.int .i64 v)) b N (fz z n (k + 1)) := by
  subst hv
  refine World.rowIs.congr (World.rowIs.set h (k + n) _) fun j _ => ?_
  unfold fz
  by_cases e : j = k + n
  · rw [if_pos e, if_pos (by omega)]
    unfold after
    rw [if_neg (by omega), e, Nat.add_sub_cancel]
  · rw [if_neg e]
    by_cases h2 : j < n + k
    · rw [if_pos h2, if_pos (by omega)]
    · rw [if_neg h2, if_neg (by omega)]

set_option maxRecDepth 4000 in
set_option maxHeartbeats 1000000 in
/-- Bits, n places further up. -/
theorem further_bits (z Z : Int) (N n p c1 : Nat) (hZ : Hid (Z = z * ((2 ^ n : Nat) : Int))) (hN : N ≤ 4000) (hn : n ≤ N) (w : World) (hp : Hid (∀ k, k < N → w.cell? ⟨p, k, none⟩ = some (.int .i64 (bz z k)))) (hpw : p < w.heap.size) :
    Calls Try.prog 145 #[.slice (some ⟨p, 0, none⟩) N c1, .int .i64 n] w fun e w' => ∃ g, w.heap.size ≤ g ∧ e = .returned (.slice (some ⟨g, 0, none⟩) N N) ∧ Ints w' g N (bz Z) ∧ Below w.heap.size w w' := by
  have hmk := run_make_row' (P := Try.prog) 72 3 (.int .i64 0) 8 Try.underlying72 iInt rfl .i64 .i64 N (by omega) (by omega)
  go_enter Try.func145, Try.ntmps145
  go_wp2_with fail
  go_loopw [6] (fun i wr => ∃ k : Nat, k + n ≤ N ∧ i = .int .i64 k ∧ Ints wr w.heap.size N (fz z n k) ∧ Below w.heap.size w wr) (fun i _ => N - (intOf i).toNat)
  case atStart =>
    refine ⟨0, by omega, rfl, World.rowIs.congr (World.rowIs_made w (.int .i64 0) N 3) fun j _ => ?_, (Below.refl _ _).alloc (Nat.le_refl _) _⟩
    unfold fz after
    by_cases h : j < n + 0
    · rw [if_pos h, if_pos (by omega)]
    · rw [if_neg h]
  case round =>
    obtain ⟨k, hk, rfl, hr, hw⟩ := hrel
    by_cases hlt : k + n < N
    · have h1 : wr.cell? ⟨p, k, none⟩ = some (.int .i64 (bz z k)) := (hw.cell (by exact hpw)).trans (unhide hp k (by omega))
      have h3 := World.rowIs.frozen hr (k + n)
      have h4 := World.rowIs.cell hr hlt
      have HR := hide (And.intro hr hw)
      clear hr hw
      have hb := bz_01 z k
      have HV := hide (rfl : bz z k = bz z k)
      have hlt' : (k : Int) + (n : Int) < (N : Int) := by omega
      go_wp2
      go_roundw
      case rel => exact ⟨k + 1, by omega, by go_num, fz_next (unhide HR).1 rfl, (unhide HR).2.setCell (by simp) _⟩
      case measure => simp [intOf]; omega
    · have HR := hide (And.intro hr hw)
      clear hr hw
      have hlt' : ¬ (k : Int) + (n : Int) < (N : Int) := by omega
      go_wp2
      go_ret
      refine ⟨_, Nat.le_refl _, rfl, World.rowIs.congr (unhide HR).1 fun j hj => ?_, (unhide HR).2⟩
      rw [unhide hZ, bz_mul_pow]
      unfold fz
      rw [if_pos (by omega)]

/-- Numbers in their blocks, and rows of bits that are the first cells of theirs. -/
structure EnvR (w0 : World) (l : List (Nat × Nat)) (rs : List (Nat × Nat × Int)) (w : World) : Prop where
  e : Env w0 l w
  r : ∀ p ∈ rs, Row w p.1 p.2.1 (bz p.2.2)
section
variable {w0 w w' : World} {l : List (Nat × Nat)} {rs : List (Nat × Nat × Int)} {R : Ending → World → Prop} {p q n c c' : Nat} {x y : Int}
theorem EnvR.keep (d : EnvR w0 l rs w) (hb : Below w.heap.size w w') : EnvR w0 l rs w' := ⟨d.e.keep hb, fun p hp => (d.r p hp).below hb⟩
theorem EnvR.row {z : Int} (d : EnvR w0 l rs w) (h : Row w p n (bz z)) : EnvR w0 l ((p, n, z) :: rs) w := by
  refine ⟨d.e, fun p hp => ?_⟩
  rcases List.mem_cons.1 hp with e | hp
  · subst e; exact h
  · exact d.r p hp
theorem EnvR.drew (d : EnvR w0 l rs w) : EnvR w0 l rs w.drew := ⟨d.e.drew, fun p hp => (d.r p hp).drew⟩
theorem EnvR.of (d : Env w0 l w) : EnvR w0 l [] w := ⟨d, fun _ h => (List.not_mem_nil h).elim⟩
theorem EnvR.at (d : EnvR w0 l rs w) (h : (p, n, x) ∈ rs) : Row w p n (bz x) := d.r _ h
abbrev sc (g n c : Nat) : Value := .slice (some ⟨g, 0, none⟩) n c
theorem plusR (d : EnvR w0 l rs w) (hn : n ≤ 4000) (hp : (p, n, x) ∈ rs) (hq : (q, n, y) ∈ rs) (k : ∀ g w', EnvR w0 l ((g, n, x + y) :: rs) w' → R (.returned (sl g n)) w') :
    Calls Try.prog 141 #[sc p n c, sc q n c'] w R :=
  (plus_bits x y n p q 0 0 c c' hn w (fun k hk => by rw [Nat.zero_add]; exact (d.at hp).2 k hk) (fun k hk => by rw [Nat.zero_add]; exact (d.at hq).2 k hk) (d.at hp).1 (d.at hq).1).mono fun _ w' ⟨g, _, he, hr, hb⟩ => he ▸ k g w' ((d.keep hb).row hr.row)
theorem minusR (d : EnvR w0 l rs w) (hn : n ≤ 4000) (hp : (p, n, x) ∈ rs) (k : ∀ g w', EnvR w0 l ((g, n, -x) :: rs) w' → R (.returned (sl g n)) w') :
    Calls Try.prog 139 #[sc p n c] w R :=
  (minus_bits x n p 0 c hn w (fun k hk => by rw [Nat.zero_add]; exact (d.at hp).2 k hk) (d.at hp).1).mono fun _ w' ⟨g, _, he, hr, hb⟩ => he ▸ k g w' ((d.keep hb).row hr.row)
theorem ofR (d : EnvR w0 l rs w) (m : Nat) (hm : n = 512 + m) (hn : n ≤ 4000) (hp : (p, n, x) ∈ rs) (h1 : -((H : Int) * ((2 ^ m : Nat) : Int)) ≤ x) (h2 : x < (H : Int) * ((2 ^ m : Nat) : Int))
    (k : ∀ w', EnvR w0 l rs w' → R (.returned (.tuple #[.agg (cells8 (fitN x)), .bool (fit x)])) w') :
    Calls Try.prog 140 #[sc p n c] w R :=
  (ofZ x m n p 0 c hm hn h1 h2 w (fun k hk => by rw [Nat.zero_add]; exact (d.at hp).2 k hk) (d.at hp).1).mono fun e w' ⟨he, hb⟩ => by rw [he]; have := k w' (d.keep hb); rw [fitN_eq] at this; exact this
theorem leastR (d : EnvR w0 l rs w) (hn : n ≤ 4000) (hp : (p, n, x) ∈ rs) (hq : (q, n, y) ∈ rs) (hx0 : 0 ≤ x) (hy0 : 0 ≤ y) (hx : x < ((2 ^ n : Nat) : Int)) (hy : y < ((2 ^ n : Nat) : Int)) (k : ∀ w', EnvR w0 l rs w' → R (.returned (.bool (decide (x < y)))) w') :
    Calls Try.prog 146 #[sc p n c, sc q n c'] w R :=
  (least_bits x y _ n p q c c' hn w (d.at hp).2 (d.at hq).2 (d.at hp).1 (d.at hq).1 rfl (by show _ = _; rw [Int.ediv_eq_zero_of_lt hx0 hx, Int.ediv_eq_zero_of_lt hy0 hy])).mono fun _ w' ⟨he, hb⟩ => he ▸ k w' (d.keep hb)
theorem furtherR (d : EnvR w0 l rs w) (m : Nat) (hn : n ≤ 4000) (hm : m ≤ n) (hp : (p, n, x) ∈ rs) (k : ∀ g w', EnvR w0 l ((g, n, x * ((2 ^ m : Nat) : Int)) :: rs) w' → R (.returned (sl g n)) w') :
    Calls Try.prog 145 #[sc p n c, .int .i64 m] w R :=
  (further_bits x _ n m p c rfl hn hm w (d.at hp).2 (d.at hp).1).mono fun _ w' ⟨g, _, he, hr, hb⟩ => he ▸ k g w' ((d.keep hb).row hr.row)
end

end Go.Proofs.Ytbgafjdgahikcaa

namespace Go.Proofs.Ytbgafjdgahikcaa
open Go.RowKit
set_option maxRecDepth 4000

theorem appendN {w : World} {ops : Array Oper} {rest : List Oper} {o : Oper} {a : Act} {Q : Exit → Act → World → Prop} (s x : Operand) (N : Nat) {p q n m cap c : Nat} {f h : Nat → Int}
    (hf : Row w p n f) (hh : Row w q m h) (hN : n + m = N) (hg : o.guard = none) (hop : o.op = Op.call { callee := Callee.builtin Builtin.append, args := #[s, x], argTypes := #[72, 72] })
    (hs : a.eval s = .slice (some ⟨p, 0, none⟩) n cap) (hx : a.eval x = .slice (some ⟨q, 0, none⟩) m c) (hfull : cap < N) (hb : N ≤ 4000) (hm : 0 < m)
    (hK : ∀ g cap' w', w.heap.size ≤ g → N ≤ cap' → Row w' g N (after n f h) → Below w.heap.size w w' → wpList Try.prog ops Q rest (a.put o.dst (.slice (some ⟨g, 0, none⟩) N cap')) w') :
    wpList Try.prog ops Q (o :: rest) a w := by
  subst hN
  exact appendB s x hf hh hg hop hs hx hfull hb hm hK
theorem Row.new2 (w : World) (a b : Int) (f : Nat → Int) (h0 : f 0 = a) (h1 : f 1 = b) : Row (w.alloc (.cells #[.int .i64 a, .int .i64 b] 3)) w.heap.size 2 f := by
  refine ⟨by simp, fun k hk => ?_⟩
  rw [(Blk.new w 3 _).cell k]
  rcases (show k = 0 ∨ k = 1 by omega) with rfl | rfl
  · rw [h0]; rfl
  · rw [h1]; rfl
theorem Row.new1 (w : World) (a : Int) (f : Nat → Int) (h0 : f 0 = a) : Row (w.alloc (.cells #[.int .i64 a] 3)) w.heap.size 1 f := by
  refine ⟨by simp, fun k hk => ?_⟩
  rw [(Blk.new w 3 _).cell k]
  rcases (show k = 0 by omega) with rfl
  rw [h0]; rfl
theorem bz_cons (z b : Int) (hb : b = 0 ∨ b = 1) (k : Nat) : bz (2 * z + b) k = after 1 (fun _ => b) (bz z) k := by
  unfold after
  by_cases h : k < 1
  · rw [if_pos h, show k = 0 by omega, bz_bit0]; show _ = b; omega
  · obtain ⟨j, rfl⟩ : ∃ j, k = j + 1 := ⟨k - 1, by omega⟩
    rw [if_neg h, bz_succ, show (2 * z + b) / 2 = z by omega, Nat.add_sub_cancel]
def two (a b : Int) (k : Nat) : Int := if k = 0 then a else b
theorem bz_cons2 (z a b : Int) (ha : a = 0 ∨ a = 1) (hb : b = 0 ∨ b = 1) (k : Nat) : bz (4 * z + 2 * b + a) k = after 2 (two a b) (bz z) k := by
  rw [show 4 * z + 2 * b + a = 2 * (2 * z + b) + a by omega, bz_cons _ _ ha]
  unfold after two
  by_cases h : k < 1
  · rw [if_pos h, if_pos (by omega), if_pos (by omega)]
  · rw [if_neg h]
    have := bz_cons z b hb (k - 1)
    rw [this]
    unfold after
    by_cases h2 : k < 2
    · rw [if_pos (by omega), if_pos h2, if_neg (by omega)]
    · rw [if_neg (by omega), if_neg h2, show k - 1 - 1 = k - 2 by omega]
theorem sq_two (R : Int) : (2 * R) * (2 * R) = 4 * (R * R) := by rw [Int.mul_assoc, Int.mul_left_comm R 2 R]; omega
theorem sq_odd (R : Int) : (2 * R + 1) * (2 * R + 1) = 4 * (R * R) + 4 * R + 1 := by
  rw [Int.add_mul, Int.mul_add, Int.one_mul, Int.mul_one, sq_two]; omega
theorem sq_lt {R v : Int} (h : R * R ≤ v) (hv : v < 2 * (H : Int)) : R < (H : Int) := by
  have h2 : 2 ≤ (H : Int) := by decide
  rcases (show R < (H : Int) ∨ (H : Int) ≤ R by omega) with h' | h'
  · exact h'
  · have h3 := Int.mul_le_mul h' h' (by omega) (by omega)
    have h4 := Int.mul_le_mul_of_nonneg_right h2 (show 0 ≤ (H : Int) by omega)
    omega
/-- The root so far and what is left: of the number without its last k pairs of bits. -/
structure Rz (m : Nat) (k : Nat) (R L : Int) : Prop where
  r0 : 0 ≤ R
  l0 : 0 ≤ L
  l2 : L ≤ 2 * R
  sq : R * R + L = (m : Int) / ((2 ^ (2 * k) : Nat) : Int)
theorem Rz.lt {m k : Nat} {R L : Int} (h : Rz m k R L) (hm : (m : Int) < 2 * (H : Int)) : R < (H : Int) := by
  refine sq_lt (v := (m : Int)) ?_ hm
  have h1 := h.sq
  have h2 : (m : Int) / ((2 ^ (2 * k) : Nat) : Int) ≤ (m : Int) := Int.ediv_le_self _ (Int.natCast_nonneg _)
  have := h.l0
  omega
theorem pair_step (m k : Nat) : (m : Int) / ((2 ^ (2 * k) : Nat) : Int) = 4 * ((m : Int) / ((2 ^ (2 * (k + 1)) : Nat) : Int)) + 2 * bz (m : Int) (2 * k + 1) + bz (m : Int) (2 * k) := by
  rw [top_step (m : Int) (2 * k), top_step (m : Int) (2 * k + 1), show 2 * (k + 1) = 2 * k + 1 + 1 by omega]
  omega
theorem Rz.less {m k : Nat} {R L : Int} (h : Rz m (k + 1) R L) (hl : 4 * L + 2 * bz (m : Int) (2 * k + 1) + bz (m : Int) (2 * k) < 4 * R + 2 * 0 + 1) : Rz m k (2 * R + 0) (4 * L + 2 * bz (m : Int) (2 * k + 1) + bz (m : Int) (2 * k)) := by
  have h1 := h.sq; have h2 := pair_step m k; have h3 := h.r0; have h4 := h.l0; have h5 := h.l2
  have h6 := bz_01 (m : Int) (2 * k); have h7 := bz_01 (m : Int) (2 * k + 1)
  have h8 := sq_two R
  rw [Int.add_zero]
  exact ⟨by omega, by omega, by omega, by omega⟩
theorem Rz.more {m k : Nat} {R L : Int} (h : Rz m (k + 1) R L) (hl : ¬ 4 * L + 2 * bz (m : Int) (2 * k + 1) + bz (m : Int) (2 * k) < 4 * R + 2 * 0 + 1) : Rz m k (2 * R + 1) (4 * L + 2 * bz (m : Int) (2 * k + 1) + bz (m : Int) (2 * k) + -(4 * R + 2 * 0 + 1)) := by
  have h1 := h.sq; have h2 := pair_step m k; have h3 := h.r0; have h4 := h.l0; have h5 := h.l2
  have h6 := bz_01 (m : Int) (2 * k); have h7 := bz_01 (m : Int) (2 * k + 1)
  have h8 := sq_odd R
  exact ⟨by omega, by omega, by omega, by omega⟩

theorem Rz.start (m : Nat) (hm : (m : Int) < (H : Int)) : Rz m 256 0 0 := by
  refine ⟨by omega, by omega, by omega, ?_⟩
  obtain ⟨e, he⟩ : ∃ e, e = 2 * 256 := ⟨_, rfl⟩
  obtain ⟨d, hd⟩ : ∃ d, d = 1 := ⟨_, rfl⟩
  rw [← he, show e = 511 + d by omega, pow_H', hd, show ((2 ^ 1 : Nat) : Int) = 2 from rfl, Int.ediv_eq_zero_of_lt (Int.natCast_nonneg _) (by have := HI_pos; omega)]
  rfl
theorem Rz.bounds {m k : Nat} {R L b0 b1 : Int} (h : Rz m k R L) (hm : (m : Int) < (H : Int)) (u0 : b0 = 0 ∨ b0 = 1) (u1 : b1 = 0 ∨ b1 = 1) :
    0 ≤ 4 * L + 2 * b1 + b0 ∧ 0 ≤ 4 * R + 2 * 0 + 1 ∧ 4 * L + 2 * b1 + b0 < ((2 ^ 520 : Nat) : Int) ∧ 4 * R + 2 * 0 + 1 < ((2 ^ 520 : Nat) : Int) := by
  have hH : 2 ≤ (H : Int) := by decide
  have h1 := h.lt (by omega)
  have h3 := h.r0; have h4 := h.l0; have h5 := h.l2
  obtain ⟨f, hf⟩ : ∃ f, f = 520 := ⟨_, rfl⟩
  obtain ⟨d, hd⟩ : ∃ d, d = 9 := ⟨_, rfl⟩
  rw [← hf, show f = 511 + d by omega, pow_H', hd, show ((2 ^ 9 : Nat) : Int) = 512 from rfl]
  omega

theorem Rz.isq {m : Nat} {R L : Int} (h : Rz m 0 R L) : R = (isq m : Nat) := by
  have h1 := h.sq; have h3 := h.r0; have h4 := h.l0; have h5 := h.l2
  rw [show ((2 ^ (2 * 0) : Nat) : Int) = 1 from rfl, Int.ediv_one] at h1
  obtain ⟨r, rfl⟩ : ∃ r : Nat, R = r := ⟨R.toNat, by omega⟩
  have e1 : ((r * r : Nat) : Int) = (r : Int) * (r : Int) := Int.natCast_mul r r
  have e2 : (r + 1) * (r + 1) = r * r + 2 * r + 1 := by rw [Nat.add_mul, Nat.mul_add]; omega
  obtain ⟨s1, s2⟩ := isq_spec m
  have a1 := root_one m r (Go.Proofs.Ytbgafjdgahikcaa.isq m) (by omega) s2
  have a2 := root_one m (Go.Proofs.Ytbgafjdgahikcaa.isq m) r s1 (by omega)
  have : r = Go.Proofs.Ytbgafjdgahikcaa.isq m := by omega
  rw [this]
end Go.Proofs.Ytbgafjdgahikcaa

namespace Go.Proofs.Ytbgafjdgahikcaa
open Go.RowKit
set_option maxRecDepth 4000

theorem half_lt {m D : Int} (hD : 0 < D) (h : m % (D * 2) < D) : m % D = m % (D * 2) ∧ m / D = 2 * (m / (D * 2)) := by
  have h1 := Int.emod_add_mul_ediv m (D * 2)
  have h2 := Int.emod_nonneg m (show D * 2 ≠ 0 by omega)
  generalize m % (D * 2) = r at *
  generalize m / (D * 2) = q at *
  have e : m = r + D * (2 * q) := by rw [← h1, Int.mul_assoc]
  constructor
  · rw [e, Int.add_mul_emod_self_left, Int.emod_eq_of_lt h2 h]
  · rw [e, Int.add_mul_ediv_left _ _ (by omega), Int.ediv_eq_zero_of_lt h2 h]; omega
theorem half_ge {m D : Int} (hD : 0 < D) (h : ¬ m % (D * 2) < D) : m % D = m % (D * 2) + -D ∧ m / D = 2 * (m / (D * 2)) + 1 := by
  have h1 := Int.emod_add_mul_ediv m (D * 2)
  have h2 := Int.emod_lt_of_pos m (show 0 < D * 2 by omega)
  generalize m % (D * 2) = r at *
  generalize m / (D * 2) = q at *
  have e : m = (r + -D) + D * (2 * q + 1) := by rw [← h1, Int.mul_add, Int.mul_one, Int.mul_assoc]; omega
  constructor
  · rw [e, Int.add_mul_emod_self_left, Int.emod_eq_of_lt (by omega) (by omega)]
  · rw [e, Int.add_mul_ediv_left _ _ (by omega), Int.ediv_eq_zero_of_lt (by omega) (by omega)]; omega
/-- n, k places further upz. -/
def upz (n k : Nat) : Int := (n : Int) * ((2 ^ k : Nat) : Int)
theorem up_pos {n k : Nat} (hn : 0 < n) : 0 < upz n k := Int.mul_pos (by omega) (two_pow_pos k)
theorem up_step (n k : Nat) : upz n (k + 1) = upz n k * 2 := by unfold upz; rw [pow_two, Int.mul_assoc]
theorem up_zero (n : Nat) : upz n 0 = n := by unfold upz; rw [show ((2 ^ 0 : Nat) : Int) = 1 from rfl, Int.mul_one]
def lft (m n k : Nat) : Int := (m : Int) % upz n k
def qut (m n k : Nat) : Int := (m : Int) / upz n k * ((2 ^ k : Nat) : Int)
theorem left_lt {m n k : Nat} (hn : 0 < n) (h : lft m n (k + 1) < upz n k) : lft m n k = lft m n (k + 1) ∧ qut m n k = qut m n (k + 1) := by
  unfold lft qut at *
  rw [up_step] at h ⊢
  obtain ⟨h1, h2⟩ := half_lt (up_pos hn) h
  refine ⟨h1, ?_⟩
  rw [h2, pow_two, Int.mul_comm 2, Int.mul_assoc, Int.mul_comm 2]
theorem left_ge {m n k : Nat} (hn : 0 < n) (h : ¬ lft m n (k + 1) < upz n k) : lft m n k = lft m n (k + 1) + -upz n k ∧ qut m n k = qut m n (k + 1) + ((2 ^ k : Nat) : Int) := by
  unfold lft qut at *
  rw [up_step] at h ⊢
  obtain ⟨h1, h2⟩ := half_ge (up_pos hn) h
  refine ⟨h1, ?_⟩
  rw [h2, pow_two, Int.add_mul, Int.one_mul, Int.mul_comm 2, Int.mul_assoc, Int.mul_comm 2]
theorem bz_raise (Q : Int) (k i : Nat) : bz (Q * ((2 ^ (k + 1) : Nat) : Int) + ((2 ^ k : Nat) : Int)) i = if i = k then 1 else bz (Q * ((2 ^ (k + 1) : Nat) : Int)) i := by
  have e1 : Q * ((2 ^ (k + 1) : Nat) : Int) + ((2 ^ k : Nat) : Int) = (2 * Q + 1) * ((2 ^ k : Nat) : Int) := by rw [pow_two, Int.add_mul, Int.one_mul, Int.mul_comm 2 Q, Int.mul_assoc, Int.mul_comm 2]
  have e2 : Q * ((2 ^ (k + 1) : Nat) : Int) = (2 * Q + 0) * ((2 ^ k : Nat) : Int) := by rw [pow_two, Int.add_zero, Int.mul_comm 2 Q, Int.mul_assoc, Int.mul_comm 2]
  rw [e1, e2, bz_mul_pow, bz_mul_pow]
  unfold after
  by_cases h : i < k
  · rw [if_pos h, if_pos h, if_neg (by omega)]
  · rw [if_neg h, if_neg h, bz_cons _ _ (.inr rfl), bz_cons _ _ (.inl rfl)]
    unfold after
    by_cases h2 : i = k
    · rw [if_pos (by omega), if_pos h2]
    · rw [if_neg (by omega), if_neg h2, if_neg (by omega)]
theorem bz_quo {m n k : Nat} (hn : 0 < n) (h : ¬ lft m n (k + 1) < upz n k) (i : Nat) : bz (qut m n k) i = if i = k then 1 else bz (qut m n (k + 1)) i := by
  rw [(left_ge hn h).2]
  unfold qut
  exact bz_raise _ k i
theorem left_bound {m n k : Nat} (hn : 0 < n) : 0 ≤ lft m n k ∧ lft m n k ≤ m := by
  unfold lft
  have := up_pos (k := k) hn
  have h1 := Int.emod_add_mul_ediv (m : Int) (upz n k)
  have h2 := Int.mul_nonneg (Int.le_of_lt this) (Int.ediv_nonneg (Int.natCast_nonneg m) (Int.le_of_lt this))
  exact ⟨Int.emod_nonneg _ (by omega), by omega⟩
theorem start_up {m n A B k : Nat} (hm : m < 2 ^ A) (hn : n = 0 ∨ 2 ^ (B - 1) ≤ n) (hn0 : 0 < n) (hB : 0 < B) (hk : k = A + 1 - B) : (m : Int) < upz n k := by
  have hn' : 2 ^ (B - 1) ≤ n := by omega
  unfold upz
  have h1 : 2 ^ A ≤ 2 ^ (B - 1 + k) := Nat.pow_le_pow_right (by decide) (by omega)
  rw [Nat.pow_add] at h1
  have h2 := Nat.mul_le_mul_right (2 ^ k) hn'
  have h3 : ((n * 2 ^ k : Nat) : Int) = (n : Int) * ((2 ^ k : Nat) : Int) := Int.natCast_mul _ _
  omega
theorem start_left {m n k : Nat} (h : (m : Int) < upz n k) : lft m n k = m ∧ qut m n k = 0 := by
  unfold lft qut
  rw [Int.emod_eq_of_lt (Int.natCast_nonneg _) h, Int.ediv_eq_zero_of_lt (Int.natCast_nonneg _) h, Int.zero_mul]
  exact ⟨rfl, rfl⟩
theorem up_bound {n k A B : Nat} (hn : n < 2 ^ B) (h : k + B ≤ A) : upz n k < ((2 ^ A : Nat) : Int) := by
  unfold upz
  have h1 : 2 ^ (B + k) ≤ 2 ^ A := Nat.pow_le_pow_right (by decide) (by omega)
  rw [Nat.pow_add] at h1
  have h2 : n * 2 ^ k < 2 ^ B * 2 ^ k := Nat.mul_lt_mul_of_pos_right hn (Nat.pow_pos (by decide))
  have h3 : ((n * 2 ^ k : Nat) : Int) = (n : Int) * ((2 ^ k : Nat) : Int) := Int.natCast_mul _ _
  omega

/-- What the loop knows: the numbers' blocks, rows, and the quotient's row, which is no other one's. -/
structure Dw (w0 : World) (l : List (Nat × Nat)) (rs : List (Nat × Nat × Int)) (gq : Nat) (f : Nat → Int) (w : World) : Prop where
  e : EnvR w0 l rs w
  q : Ints w gq 520 f
  nl : ∀ p ∈ l, p.1 ≠ gq
  nr : ∀ p ∈ rs, p.1 ≠ gq
  ng : w0.heap.size ≤ gq
theorem Row.setOther {w : World} {p n : Nat} {f : Nat → Int} (h : Row w p n f) {a : Addr} (hne : p ≠ a.block) (v : Value) : Row (w.setCell a v) p n f := by
  refine ⟨by have := h.1; simpa using this, fun k hk => ?_⟩
  have hb : (w.setCell a v).heap[p]? = w.heap[p]? := heap_setCell_other w a p v hne
  rw [← h.2 k hk]
  exact World.cell?_of_block (w := w) hb
theorem Dw.keep {w0 w w' : World} {l : List (Nat × Nat)} {rs : List (Nat × Nat × Int)} {gq : Nat} {f : Nat → Int} (d : Dw w0 l rs gq f w) (hb : Below w.heap.size w w') : Dw w0 l rs gq f w' :=
  ⟨d.e.keep hb, ints_below d.q hb, d.nl, d.nr, d.ng⟩
theorem Dw.with {w0 w w' : World} {l : List (Nat × Nat)} {rs rs' : List (Nat × Nat × Int)} {gq : Nat} {f : Nat → Int} (d : Dw w0 l rs gq f w) (hb : Below w.heap.size w w') (h : EnvR w0 l rs' w') (hnr : ∀ p ∈ rs', p.1 ≠ gq) : Dw w0 l rs' gq f w' :=
  ⟨h, ints_below d.q hb, d.nl, hnr, d.ng⟩
theorem Dw.set {w0 w : World} {l : List (Nat × Nat)} {rs : List (Nat × Nat × Int)} {gq : Nat} {f h : Nat → Int} (d : Dw w0 l rs gq f w) (k : Nat) (v : Int) (hf : ∀ j, h j = if j = k then v else f j) :
    Dw w0 l rs gq h (w.setCell ⟨gq, k, none⟩ (.int .i64 v)) := by
  refine ⟨⟨d.e.e.setCell d.ng d.nl _, fun p hp => (d.e.r p hp).setOther (d.nr p hp) _⟩, ?_, d.nl, d.nr, d.ng⟩
  refine World.rowIs.congr (World.rowIs.set d.q k _) fun j _ => ?_
  rw [hf]
  by_cases e : j = k
  · rw [if_pos e, if_pos e]
  · rw [if_neg e, if_neg e]
theorem Env.four (w : World) (a b c d : Nat) : Env w [(w.heap.size + 1 + 1 + 1, d), (w.heap.size + 1 + 1, c), (w.heap.size + 1, b), (w.heap.size, a)] ((((w.alloc (.cells (cells8 a) 40)).alloc (.cells (cells8 b) 40)).alloc (.cells (cells8 c) 40)).alloc (.cells (cells8 d) 40)) := by
  have h := (Env.three w a b c).push d
  simpa using h

section
variable {w0 w w' : World} {l : List (Nat × Nat)} {rs : List (Nat × Nat × Int)} {gq : Nat} {f : Nat → Int} {R : Ending → World → Prop} {p q n c c' g N : Nat} {x y z : Int}
theorem Dw.push (d : Dw w0 l rs gq f w) (hb : Below w.heap.size w w') (hg : w.heap.size ≤ g) (hr : Row w' g N (bz z)) : Dw w0 l ((g, N, z) :: rs) gq f w' := by
  refine ⟨(d.e.keep hb).row hr, ints_below d.q hb, d.nl, fun p hp => ?_, d.ng⟩
  rcases List.mem_cons.1 hp with e | hp
  · subst e
    have := World.rowIs.lt d.q
    show g ≠ gq
    omega
  · exact d.nr p hp
theorem furtherD (d : Dw w0 l rs gq f w) (m : Nat) (U : Int) (hU : Hid (U = x * ((2 ^ m : Nat) : Int))) (hn : n ≤ 4000) (hm : m ≤ n) (hp : (p, n, x) ∈ rs) (k : ∀ g w', Dw w0 l ((g, n, U) :: rs) gq f w' → R (.returned (sl g n)) w') :
    Calls Try.prog 145 #[sc p n c, .int .i64 m] w R :=
  (further_bits x U n m p c hU hn hm w (d.e.at hp).2 (d.e.at hp).1).mono fun _ w' ⟨g, hg, he, hr, hb⟩ => he ▸ k g w' (d.push hb hg hr.row)
theorem plusD (d : Dw w0 l rs gq f w) (hn : n ≤ 4000) (hp : (p, n, x) ∈ rs) (hq : (q, n, y) ∈ rs) (k : ∀ g w', Dw w0 l ((g, n, x + y) :: rs) gq f w' → R (.returned (sl g n)) w') :
    Calls Try.prog 141 #[sc p n c, sc q n c'] w R :=
  (plus_bits x y n p q 0 0 c c' hn w (fun k hk => by rw [Nat.zero_add]; exact (d.e.at hp).2 k hk) (fun k hk => by rw [Nat.zero_add]; exact (d.e.at hq).2 k hk) (d.e.at hp).1 (d.e.at hq).1).mono fun _ w' ⟨g, hg, he, hr, hb⟩ => he ▸ k g w' (d.push hb hg hr.row)
theorem minusD (d : Dw w0 l rs gq f w) (hn : n ≤ 4000) (hp : (p, n, x) ∈ rs) (k : ∀ g w', Dw w0 l ((g, n, -x) :: rs) gq f w' → R (.returned (sl g n)) w') :
    Calls Try.prog 139 #[sc p n c] w R :=
  (minus_bits x n p 0 c hn w (fun k hk => by rw [Nat.zero_add]; exact (d.e.at hp).2 k hk) (d.e.at hp).1).mono fun _ w' ⟨g, hg, he, hr, hb⟩ => he ▸ k g w' (d.push hb hg hr.row)
theorem leastD (d : Dw w0 l rs gq f w) (hn : n ≤ 4000) (hp : (p, n, x) ∈ rs) (hq : (q, n, y) ∈ rs) (b : Bool) (hB : Hid (b = decide (x < y))) (hx0 : 0 ≤ x) (hy0 : 0 ≤ y) (hx : x < ((2 ^ n : Nat) : Int)) (hy : y < ((2 ^ n : Nat) : Int)) (k : ∀ w', Dw w0 l rs gq f w' → R (.returned (.bool b)) w') :
    Calls Try.prog 146 #[sc p n c, sc q n c'] w R :=
  (least_bits x y b n p q c c' hn w (d.e.at hp).2 (d.e.at hq).2 (d.e.at hp).1 (d.e.at hq).1 hB (by show _ = _; rw [Int.ediv_eq_zero_of_lt hx0 hx, Int.ediv_eq_zero_of_lt hy0 hy])).mono fun _ w' ⟨he, hb⟩ => he ▸ k w' (d.keep hb)
/-- Fewer rows. -/
theorem Dw.some (d : Dw w0 l rs gq f w) {rs' : List (Nat × Nat × Int)} (h : ∀ p ∈ rs', p ∈ rs) : Dw w0 l rs' gq f w :=
  ⟨⟨d.e.e, fun p hp => d.e.r p (h p hp)⟩, d.q, d.nl, fun p hp => d.nr p (h p hp), d.ng⟩
end
theorem mem_two {α : Type} {x y : α} {l : List α} (hx : x ∈ l) (hy : y ∈ l) : ∀ p ∈ [x, y], p ∈ l := by
  intro p hp
  simp only [List.mem_cons, List.not_mem_nil, or_false] at hp
  rcases hp with rfl | rfl
  · exact hx
  · exact hy


/-- What the quotient and what is left are brought to. -/
def qfin (sg : Bool) (s Q : Int) : Int := bif sg then (if s = 0 then -Q else -(Q + 1)) else Q
def rone (sg : Bool) (s R n : Int) : Int := bif sg then (if s = 0 then R else n + -R) else R
def rfin (sg sb : Bool) (s R n : Int) : Int := bif sb then -(rone sg s R n) else rone sg s R n
def Bd (z : Int) : Prop := -(2 * (H : Int)) ≤ z ∧ z ≤ 2 * (H : Int)
structure DivOk (o1 o2 : Nat) (F : Bool) (Q R : Int) : Prop where
  bq : Bd Q
  br : Bd R
  fr : fit R = true
  yes : fit Q = true → o1 = fitN Q ∧ o2 = fitN R ∧ F = true
  no : fit Q = false → o1 = 0 ∧ o2 = 0 ∧ F = false
theorem EnvR.more {w0 w : World} {l l' : List (Nat × Nat)} {rs : List (Nat × Nat × Int)} {o : Obj} (d : EnvR w0 l rs w) (e : Env w0 l' (w.alloc o)) : EnvR w0 l' rs (w.alloc o) :=
  ⟨e, fun p hp => (d.r p hp).below ((Below.refl _ w).alloc (Nat.le_refl _) _)⟩

theorem mem_blk {w : World} {a b x y : Nat} (h1 : Blk w a 40 (cells8 x)) (h2 : Blk w b 40 (cells8 y)) : ∀ p ∈ [(a, x), (b, y)], Blk w p.1 40 (cells8 p.2) := by
  intro p hp
  simp only [List.mem_cons, List.not_mem_nil, or_false] at hp
  rcases hp with rfl | rfl
  · exact h1
  · exact h2
theorem ne_two {a b x y g : Nat} (h1 : a ≠ g) (h2 : b ≠ g) : ∀ p ∈ [(a, x), (b, y)], p.1 ≠ g := by
  intro p hp
  simp only [List.mem_cons, List.not_mem_nil, or_false] at hp
  rcases hp with rfl | rfl
  · exact h1
  · exact h2
theorem bz_one (j : Nat) : bz 1 j = if j = 0 then 1 else (fun _ : Nat => (0 : Int)) j := by
  have := bz_cons 0 1 (.inr rfl) j
  rw [show 2 * (0 : Int) + 1 = 1 from rfl] at this
  rw [this]
  unfold after
  by_cases e : j = 0
  · rw [if_pos e, if_pos (by omega)]
  · rw [if_neg e, if_neg (by omega)]
    unfold bz
    rw [Int.zero_ediv]; rfl
theorem Dw.fresh {w0 w : World} {l : List (Nat × Nat)} {rs : List (Nat × Nat × Int)} (d : EnvR w0 l rs w) : Dw w0 l rs w.heap.size (fun _ => 0) (w.alloc (.cells (madeCells #[.int .i64 0] 520) 3)) := by
  refine ⟨d.keep ((Below.refl _ w).alloc (Nat.le_refl _) _), World.rowIs_made w (.int .i64 0) 520 3, ?_, ?_, d.e.o.size⟩
  · intro p hp; have := (d.e.at_ p hp).lt; omega
  · intro p hp; have := (d.r p hp).1; omega
theorem Env.row' {w0 w : World} {l : List (Nat × Nat)} {g : Nat} (d : Env w0 l w) (hg : w0.heap.size ≤ g) (hne : ∀ p ∈ l, p.1 ≠ g) (cs : Array Value) : Env w0 l (w.setRow g cs) := d.row hg hne cs

set_option maxRecDepth 50000 in
set_option maxHeartbeats 8000000 in
theorem div_bits (a b o1 o2 m n A B rest : Nat) (sa sb F : Bool) (s t : Int) (w : World)
    (hSgb : Hid (∀ u, Calls Try.prog 97 #[.agg (cells8 b)] u fun e w' => e = .returned (.int .i64 t) ∧ Below u.heap.size u w')) (ht : t ≠ 0)
    (hSa : Hid (∀ u, Calls Try.prog 136 #[.agg (cells8 a)] u fun e w' => ∃ g, u.heap.size ≤ g ∧ e = .returned (sl g 520) ∧ Ints w' g 520 (bz (m : Int)) ∧ Below u.heap.size u w'))
    (hSb : Hid (∀ u, Calls Try.prog 136 #[.agg (cells8 b)] u fun e w' => ∃ g, u.heap.size ≤ g ∧ e = .returned (sl g 520) ∧ Ints w' g 520 (bz (n : Int)) ∧ Below u.heap.size u w'))
    (hTa : Hid (∀ u g, Row u g 520 (bz (m : Int)) → Calls Try.prog 137 #[sl g 520] u fun e w' => e = .returned (.int .i64 A) ∧ w' = u))
    (hTb : Hid (∀ u g, Row u g 520 (bz (n : Int)) → Calls Try.prog 137 #[sl g 520] u fun e w' => e = .returned (.int .i64 B) ∧ w' = u))
    (hBa : Hid (∀ u, Calls Try.prog 138 #[.agg (cells8 a)] u fun e w' => e = .returned (.bool sa) ∧ Below u.heap.size u w'))
    (hBb : Hid (∀ u, Calls Try.prog 138 #[.agg (cells8 b)] u fun e w' => e = .returned (.bool sb) ∧ Below u.heap.size u w'))
    (hOr : Hid (∀ u p c, Row u p 520 (bz (lft m n 0)) → Calls Try.prog 140 #[sc p 520 c] u fun e w' => e = .returned (.tuple #[.agg (cells8 rest), .bool true]) ∧ Below u.heap.size u w'))
    (hSr : Hid (∀ u, Calls Try.prog 97 #[.agg (cells8 rest)] u fun e w' => e = .returned (.int .i64 s) ∧ Below u.heap.size u w'))
    (hO : Hid (∀ u p c z, Bd z → Row u p 520 (bz z) → Calls Try.prog 140 #[sc p 520 c] u fun e w' => e = .returned (.tuple #[.agg (cells8 (fitN z)), .bool (fit z)]) ∧ Below u.heap.size u w'))
    (hE : Hid (DivOk o1 o2 F (qfin (sa != sb) s (qut m n 0)) (rfin (sa != sb) sb s (lft m n 0) n)))
    (hA : A ≤ 512) (hB : B ≤ 512) (hn0 : Hid (0 < n)) (hmA : Hid (m < 2 ^ A)) (hnB : Hid (n < 2 ^ B)) (hst : Hid (∀ k, k = A + 1 - B → (m : Int) < upz n k)) :
    Calls Try.prog 98 #[W a, W b] w fun e w' => e = .returned (.tuple #[.agg (cells8 o1), .agg (cells8 o2), .bool F]) ∧ Below w.heap.size w w' := by
  have hmk : ∀ w : World, (Instr.makeSlice 72 (.int .i64 520) (.int .i64 520)).run Try.prog w = .ok (.slice (some ⟨w.heap.size, 0, none⟩) 520 520) (w.alloc (.cells (madeCells #[.int .i64 0] 520) 3)) := run_make_row' (P := Try.prog) 72 3 (.int .i64 0) 8 Try.underlying72 iInt rfl .i64 .i64 520 (by omega) (by omega)
  have ht2 : decide (t = 0) = false := decide_eq_false ht
  have ht3 : (t == 0) = false := by simp [ht]
  unfold W
  go_enter Try.func98, Try.ntmps98
  go_upto_region 1 with fail
  have D := hide (EnvR.of (Env.four w a b 0 0))
  rw [cells8_0] at D
  go_upto_region 3 with (first
    | (with_reducible refine at_list ?_; apply ldE (unhide D).e _ rfl rfl rfl (by repeat (first | exact List.mem_cons_self | apply List.mem_cons_of_mem)))
    | (go_at_call 97; refine (unhide hSgb _).mono ?_; rintro e w1 ⟨he, hw⟩; subst he; have D := hide ((unhide D).keep hw); clear hw))
  refine region_walk (S := Env w _) (l := [0, 2, 1, 3, 4, 5]) (t := [1, 3]) (by kernel_rfl) (by kernel_rfl) (by kernel_rfl) (by kernel_rfl) (by kernel_rfl) (by kernel_rfl) (by kernel_rfl) (by kernel_rfl) (unhide D).drew.e ?_
  refine walk_read rfl rfl rfl (fun u hS => exec_load8 (n := a) 40 (.tmp 2) (hS.blk (by repeat (first | exact List.mem_cons_self | apply List.mem_cons_of_mem))) rfl rfl Try.underlying40 rfl iWide) ?_
  refine walk_read rfl rfl rfl (fun u hS => exec_load8 (n := b) 40 (.tmp 3) (hS.blk (by repeat (first | exact List.mem_cons_self | apply List.mem_cons_of_mem))) rfl rfl Try.underlying40 rfl iWide) ?_
  go_simp
  refine walk_call (f := 136) (args := #[.agg (cells8 a)]) rfl rfl rfl (by go_simp) ?_
  refine (unhide hSa _).mono fun e w2 ⟨g1, hg1, he, hr, hb⟩ => ?_
  have D1 := ((unhide D).drew.keep hb).row hr.row
  refine ⟨_, he, D1.e, ?_⟩
  go_simp
  refine walk_call (f := 136) (args := #[.agg (cells8 b)]) rfl rfl rfl (by go_simp) ?_
  refine (unhide hSb _).mono fun e w3 ⟨g2, hg2, he2, hr2, hb2⟩ => ?_
  have D2 := (D1.keep hb2).row hr2.row
  refine ⟨_, he2, D2.e, ?_⟩
  go_simp
  refine walk_read (v := ?_) rfl rfl rfl (fun u hS => by go_simp; rfl) ?_
  refine walk_read (v := ?_) rfl rfl rfl (fun u hS => by go_simp; rfl) ?_
  go_simp
  refine walk_end ?_
  have D := hide D2
  clear hg1 hg2 he he2 hr hr2 hb hb2 D1 D2 hSa hSb hSgb
  go_upto_region 5 with fail
  have M0 : Hid (Dw w [(w.heap.size + 1 + 1 + 1, 0), (w.heap.size + 1 + 1, 0), (w.heap.size + 1, b), (w.heap.size, a)] [(g2, 520, (n : Int)), (g1, 520, (m : Int))] w3.heap.size (bz 0) (w3.alloc (.cells (madeCells #[.int .i64 0] 520) 3))) := by
    refine ⟨(unhide D).keep ((Below.refl _ w3).alloc (Nat.le_refl _) _), ?_, ?_, ?_, (unhide D).e.o.size⟩
    · exact World.rowIs.congr (World.rowIs_made w3 (.int .i64 0) 520 3) fun i _ => by unfold bz; rw [Int.zero_ediv]; rfl
    · intro p hp; have := ((unhide D).e.at_ p hp).lt; omega
    · intro p hp; have := ((unhide D).r p hp).1; omega
  clear D
  generalize w3.alloc (.cells (madeCells #[.int .i64 0] 520) 3) = w4 at M0 ⊢
  generalize w3.heap.size = gq at M0 ⊢
  go_wp2_with (go_at_call 137; first
    | (with_reducible refine (unhide hTa _ _ ((unhide M0).e.at (p := g1) (n := 520) (x := (m : Int)) (by repeat (first | exact List.mem_cons_self | apply List.mem_cons_of_mem)))).mono ?_; rintro e w5 ⟨he, hw⟩; subst he; subst hw)
    | (with_reducible refine (unhide hTb _ _ ((unhide M0).e.at (p := g2) (n := 520) (x := (n : Int)) (by repeat (first | exact List.mem_cons_self | apply List.mem_cons_of_mem)))).mono ?_; rintro e w6 ⟨he, hw⟩; subst he; subst hw))
  have hAB : (A : Int) - (B : Int) < 520 ∧ -520 ≤ (A : Int) - (B : Int) := by omega
  go_loopw [10, 11] (fun v10 i wr => ∃ N : Int, ∃ k gr cr : Nat, i = .int .i64 N ∧ -520 ≤ N ∧ N ≤ (A : Int) - (B : Int) ∧ k = (N + 1).toNat ∧ v10 = sc gr 520 cr ∧ Hid (Dw w [(w.heap.size + 1 + 1 + 1, 0), (w.heap.size + 1 + 1, 0), (w.heap.size + 1, b), (w.heap.size, a)] [(gr, 520, lft m n k), (g2, 520, (n : Int))] gq (bz (qut m n k)) wr)) (fun _ i _ => (intOf i + 1).toNat)
  case atStart =>
    refine ⟨(A : Int) - (B : Int), A + 1 - B, g1, 520, rfl, by omega, by omega, by omega, rfl, ?_⟩
    obtain ⟨e1, e2⟩ := start_left (unhide hst _ rfl)
    rw [e1, e2]
    refine ⟨((EnvR.of (unhide M0).e.e).row ((unhide M0).e.at (p := g2) (n := 520) (x := (n : Int)) (by repeat (first | exact List.mem_cons_self | apply List.mem_cons_of_mem)))).row ((unhide M0).e.at (p := g1) (n := 520) (x := (m : Int)) (by repeat (first | exact List.mem_cons_self | apply List.mem_cons_of_mem))), (unhide M0).q, (unhide M0).nl, ?_, (unhide M0).ng⟩
    intro p hp
    have h1 := (unhide M0).nr (g1, 520, (m : Int)) (by repeat (first | exact List.mem_cons_self | apply List.mem_cons_of_mem))
    have h2 := (unhide M0).nr (g2, 520, (n : Int)) (by repeat (first | exact List.mem_cons_self | apply List.mem_cons_of_mem))
    simp only [List.mem_cons, List.not_mem_nil, or_false] at hp
    rcases hp with rfl | rfl
    · exact h1
    · exact h2
  case round =>
    obtain ⟨N, k, gr, cr, rfl, hN1, hN2, hk, rfl, M1⟩ := hrel
    clear M0
    by_cases hN : 0 ≤ N
    · obtain ⟨j, rfl⟩ : ∃ j : Nat, N = j := ⟨N.toNat, by omega⟩
      have hkj : k = j + 1 := by omega
      subst hkj
      clear hk
      have hj5 : (j : Int) < 520 := by omega
      have HBd : Hid (0 ≤ lft m n (j + 1) ∧ 0 ≤ upz n j ∧ lft m n (j + 1) < ((2 ^ 520 : Nat) : Int) ∧ upz n j < ((2 ^ 520 : Nat) : Int)) := by
        have h1 := left_bound (m := m) (k := j + 1) (unhide hn0)
        have h2 := up_pos (k := j) (unhide hn0)
        have h3 := up_bound (k := j) (A := A) (unhide hnB) (by omega)
        obtain ⟨f, hf⟩ : ∃ f, f = 520 := ⟨_, rfl⟩
        have h4 : 2 ^ A ≤ 2 ^ f := Nat.pow_le_pow_right (by decide) (by omega)
        have h5 := unhide hmA
        show _ ∧ _
        rw [← hf]
        refine ⟨h1.1, by omega, by omega, by omega⟩
      obtain ⟨BB, hBB⟩ : ∃ BB, BB = decide (lft m n (j + 1) < upz n j) := ⟨_, rfl⟩
      have HLt := hide (left_lt (m := m) (k := j) (unhide hn0))
      have HGe := hide (left_ge (m := m) (k := j) (unhide hn0))
      have HQb := hide (bz_quo (m := m) (k := j) (unhide hn0))
      have HBB := hide hBB
      have Hup : Hid (upz n j = (n : Int) * ((2 ^ j : Nat) : Int)) := rfl
      generalize upz n j = U at *
      have hq := World.rowIs.cell (unhide M1).q (show j < 520 by omega)
      generalize lft m n (j + 1) = R at *
      have hfr := World.rowIs.frozen (unhide M1).q j
      clear hq hfr
      go_upto_region 9 with (go_at_call 145; refine furtherD (unhide M1) j U Hup (by decide) (by omega) (x := (n : Int)) (by repeat (first | exact List.mem_cons_self | apply List.mem_cons_of_mem)) ?_; intro gs ws Ds; have D := hide Ds; clear Ds)
      clear M1
      have hLe : Hid (∀ {Q : Ending → World → Prop}, (∀ w', Dw w [(w.heap.size + 1 + 1 + 1, 0), (w.heap.size + 1 + 1, 0), (w.heap.size + 1, b), (w.heap.size, a)] [(gs, 520, U), (gr, 520, R), (g2, 520, (n : Int))] gq (bz (qut m n (j + 1))) w' → Q (.returned (.bool BB)) w') → Calls Try.prog 146 #[sc gr 520 cr, sc gs 520 520] ws Q) := fun k =>
        leastD (unhide D) (by decide) (by repeat (first | exact List.mem_cons_self | apply List.mem_cons_of_mem)) (by repeat (first | exact List.mem_cons_self | apply List.mem_cons_of_mem)) BB HBB (unhide HBd).1 (unhide HBd).2.1 (unhide HBd).2.2.1 (unhide HBd).2.2.2 k
      clear hBB D
      cases BB
      · have hge := of_decide_eq_false (unhide HBB).symm
        have E1 := hide (unhide HGe (by omega))
        have E2 := hide (unhide HQb (by omega))
        clear hge
        go_upto_region 11 with (first
          | (go_at_call 146; refine unhide hLe ?_; intro w8 D8; have D := hide D8; clear D8)
          | (go_at_call 139; refine minusD (unhide D) (x := U) (by decide) (by repeat (first | exact List.mem_cons_self | apply List.mem_cons_of_mem)) ?_; intro ga wa Da; have D := hide Da; clear Da)
          | (go_at_call 141; refine plusD (unhide D) (x := R) (y := -U) (by decide) (by repeat (first | exact List.mem_cons_self | apply List.mem_cons_of_mem)) (by repeat (first | exact List.mem_cons_self | apply List.mem_cons_of_mem)) ?_; intro gb wb Db; have D := hide Db; clear Db))
        have hq := World.rowIs.cell (unhide D).q (show j < 520 by omega)
        have hfr := World.rowIs.frozen (unhide D).q j
        go_wp2
        go_roundw
        case rel =>
          refine ⟨(j : Int) - 1, j, gb, 520, by go_num, by omega, by omega, by omega, rfl, ?_⟩
          rw [(unhide E1).1]
          exact ((unhide D).set j 1 (unhide E2)).some (mem_two (by repeat (first | exact List.mem_cons_self | apply List.mem_cons_of_mem)) (by repeat (first | exact List.mem_cons_self | apply List.mem_cons_of_mem)))
        case measure => simp [intOf]
      · have hlt := of_decide_eq_true (unhide HBB).symm
        have E1 := hide (unhide HLt hlt)
        clear hlt
        go_wp2_with (go_at_call 146; refine unhide hLe ?_; intro w8 D8; have D := hide D8; clear D8)
        go_roundw
        case rel =>
          refine ⟨(j : Int) - 1, j, gr, cr, by go_num, by omega, by omega, by omega, rfl, ?_⟩
          rw [(unhide E1).1, (unhide E1).2]
          exact (unhide D).some (mem_two (by repeat (first | exact List.mem_cons_self | apply List.mem_cons_of_mem)) (by repeat (first | exact List.mem_cons_self | apply List.mem_cons_of_mem)))
        case measure => simp [intOf]
    · have hk0 : k = 0 := by omega
      subst hk0
      have D : Hid (EnvR w [(w.heap.size + 1 + 1 + 1, 0), (w.heap.size + 1 + 1, 0), (w.heap.size + 1, b), (w.heap.size, a)] [(gq, 520, qut m n 0), (gr, 520, lft m n 0), (g2, 520, (n : Int))] wr) := (unhide M1).e.row (unhide M1).q.row
      clear M1 hk hst
      generalize qut m n 0 = Q0 at *
      generalize lft m n 0 = R0 at *
      go_upto_region 13 with (first
        | (go_at_call 140; refine (unhide hOr _ _ _ ((unhide D).at (p := gr) (n := 520) (x := R0) (by repeat (first | exact List.mem_cons_self | apply List.mem_cons_of_mem)))).mono ?_; rintro e w5 ⟨he, hw⟩; subst he; have D := hide ((unhide D).keep hw); clear hw)
        | (with_reducible refine at_list ?_; refine stE (unhide D).e _ _ rfl rfl rfl rfl rfl ?_; intro D'; have D := hide ((unhide D).more D'); clear D'))
      refine region_plan (S := EnvR w _ [(gq, 520, Q0), (gr, 520, R0), (g2, 520, (n : Int))]) (l := [0, 1, 2, 3, 4]) (by kernel_rfl) (by kernel_rfl) (by kernel_rfl) (by kernel_rfl) (by kernel_rfl) (by kernel_rfl) (by kernel_rfl) ((unhide D).drew) ?_
      refine plan_read rfl rfl (fun u hS => exec_load8 (n := a) 40 (.tmp 2) (hS.e.blk (by repeat (first | exact List.mem_cons_self | apply List.mem_cons_of_mem))) rfl rfl Try.underlying40 rfl iWide) ?_
      go_simp
      refine plan_call (v := .bool sa) (f := 138) (args := #[.agg (cells8 a)]) rfl rfl (fun u hS => by go_simp) (fun u hS => (unhide hBa u).mono fun _ _ ⟨he, hb⟩ => ⟨he, hS.keep hb⟩) ?_
      go_simp
      refine plan_read rfl rfl (fun u hS => exec_load8 (n := b) 40 (.tmp 3) (hS.e.blk (by repeat (first | exact List.mem_cons_self | apply List.mem_cons_of_mem))) rfl rfl Try.underlying40 rfl iWide) ?_
      go_simp
      refine plan_call (v := .bool sb) (f := 138) (args := #[.agg (cells8 b)]) rfl rfl (fun u hS => by go_simp) (fun u hS => (unhide hBb u).mono fun _ _ ⟨he, hb⟩ => ⟨he, hS.keep hb⟩) ?_
      go_simp
      refine plan_read (v := .bool (sa != sb)) rfl rfl (fun u hS => by cases sa <;> cases sb <;> go_simp) ?_
      go_simp
      refine plan_end (fun u hS => ?_)
      have D := hide hS
      clear hS hBa hOr
      generalize w5.heap.size = s13 at D ⊢
      generalize (sa != sb) = sg at hE ⊢
      cases sg
      · have hE1 : Hid (DivOk o1 o2 F Q0 (bif sb then -R0 else R0)) := hE
        clear hE hSr
        cases sb
        · have hE2 : Hid (DivOk o1 o2 F Q0 R0) := hE1
          have hOq := hide (fun u (hr : Row u gq 520 (bz Q0)) => unhide hO u gq 520 Q0 (unhide hE2).bq hr)
          have hOl := hide (fun u (hr : Row u gr 520 (bz R0)) => unhide hO u gr cr R0 (unhide hE2).br hr)
          clear hE1 hO
          go_upto_region 24 with (first
            | (with_reducible refine at_list ?_; apply ldE (unhide D).e _ rfl rfl rfl (by repeat (first | exact List.mem_cons_self | apply List.mem_cons_of_mem)))
            | (go_at_call 138; refine (unhide hBb _).mono ?_; rintro e w8 ⟨he, hw⟩; subst he; have D := hide ((unhide D).keep hw); clear hw)
            | (with_reducible refine at_list ?_; have l16 := hide ((unhide D).e.blk (n := 0) (g := w.heap.size + 1 + 1 + 1) (by repeat (first | exact List.mem_cons_self | apply List.mem_cons_of_mem))).lt; refine stE (unhide D).e (.tmp 16) (.tmp 86) rfl rfl rfl rfl rfl ?_; intro D'; have D := hide ((unhide D).more D'); clear D')
            | (with_reducible refine at_list ?_; have l18 := hide ((unhide D).e.blk (n := 0) (g := w.heap.size + 1 + 1 + 1) (by repeat (first | exact List.mem_cons_self | apply List.mem_cons_of_mem))).lt; refine stE (unhide D).e (.tmp 18) (.tmp 91) rfl rfl rfl rfl rfl ?_; intro D'; have D := hide ((unhide D).more D'); clear D')
            | (go_at_call 140; first | (with_reducible refine (unhide hOq _ ((unhide D).at (p := gq) (n := 520) (x := Q0) (by repeat (first | exact List.mem_cons_self | apply List.mem_cons_of_mem)))).mono ?_; rintro e w9 ⟨he, hw⟩; subst he; have D := hide ((unhide D).keep hw); clear hw) | (with_reducible refine (unhide hOl _ ((unhide D).at (p := gr) (n := 520) (x := R0) (by repeat (first | exact List.mem_cons_self | apply List.mem_cons_of_mem)))).mono ?_; rintro e w10 ⟨he, hw⟩; subst he; have D := hide ((unhide D).keep hw); clear hw)))
          rw [(unhide hE2).fr]
          have Y := hide (unhide hE2).yes
          have Z := hide (unhide hE2).no
          have B4 := hide ((unhide D).e.blk (n := 0) (g := w.heap.size + 1 + 1) (by repeat (first | exact List.mem_cons_self | apply List.mem_cons_of_mem)))
          have B5 := hide ((unhide D).e.blk (n := 0) (g := w.heap.size + 1 + 1 + 1) (by repeat (first | exact List.mem_cons_self | apply List.mem_cons_of_mem)))
          have DO := hide (unhide D).e.o
          generalize fit Q0 = G at Y Z ⊢
          cases G
          · obtain ⟨z1, z2, z3⟩ := unhide Z rfl
            subst z1 z2 z3
            clear D hE2 Y Z
            go_wp2_with (first
              | (with_reducible refine at_list ?_; refine bd0 40 rfl rfl bWide0 ?_)
              | (with_reducible refine at_list ?_; refine st8 (n := 0) 40 (.tmp 4) (.tmp 99) (unhide B4) rfl rfl rfl rfl rfl iWide ?_)
              | (with_reducible refine at_list ?_; refine st8 (n := 0) 40 (.tmp 5) (.tmp 100) ((unhide B5).rowOther _ (by omega)) rfl rfl rfl rfl rfl iWide ?_))
            exact res88s (((unhide B4).row _).rowOther _ (by omega)) (((unhide B5).rowOther _ (by omega)).row _) rfl rfl rfl rfl rfl Try.underlying40 rfl iWide ⟨rfl, below_row (below_row (unhide DO) (by omega) _) (by omega) _⟩
          · obtain ⟨z1, z2, z3⟩ := unhide Y rfl
            subst z1 z2 z3
            have DS : Hid (Env w [(w10.heap.size, fitN R0), (w9.heap.size, fitN Q0)] _) := ⟨mem_blk ((unhide D).e.blk (by repeat (first | exact List.mem_cons_self | apply List.mem_cons_of_mem))) ((unhide D).e.blk (by repeat (first | exact List.mem_cons_self | apply List.mem_cons_of_mem))), (unhide D).e.o⟩
            have n16 := hide (show w9.heap.size ≠ w.heap.size + 1 + 1 ∧ w9.heap.size ≠ w.heap.size + 1 + 1 + 1 by have := unhide l16; omega)
            have n18 := hide (show w10.heap.size ≠ w.heap.size + 1 + 1 ∧ w10.heap.size ≠ w.heap.size + 1 + 1 + 1 by have := unhide l18; omega)
            clear hE2 Y Z D
            go_upto_region 26 with fail
            refine region_walk (S := Env w [(w10.heap.size, fitN R0), (w9.heap.size, fitN Q0)]) (l := [0, 1, 2, 3, 4]) (t := [2, 3]) (by kernel_rfl) (by kernel_rfl) (by kernel_rfl) (by kernel_rfl) (by kernel_rfl) (by kernel_rfl) (by kernel_rfl) (by kernel_rfl) (unhide DS).drew ?_
            generalize w9.heap.size = b16 at *
            generalize w10.heap.size = b18 at *
            refine walk_read rfl rfl rfl (fun u hS => exec_load8 (n := fitN Q0) 40 (.tmp 16) (hS.blk (by repeat (first | exact List.mem_cons_self | apply List.mem_cons_of_mem))) rfl rfl Try.underlying40 rfl iWide) ?_
            refine walk_read rfl rfl rfl (fun u hS => exec_load8 (n := fitN R0) 40 (.tmp 18) (hS.blk (by repeat (first | exact List.mem_cons_self | apply List.mem_cons_of_mem))) rfl rfl Try.underlying40 rfl iWide) ?_
            go_simp
            have D1 := (unhide DS).drew.row (g := w.heap.size + 1 + 1) (by omega) (ne_two (unhide n18).1 (unhide n16).1) (cells8 (fitN Q0))
            have D2 := D1.row (g := w.heap.size + 1 + 1 + 1) (by omega) (ne_two (unhide n18).2 (unhide n16).2) (cells8 (fitN R0))
            refine walk_store8 (n := fitN Q0) 40 (.tmp 4) (.tmp 101) rfl rfl rfl (unhide B4).drew rfl rfl rfl rfl iWide D1 ?_
            go_simp
            refine walk_store8 (n := fitN R0) 40 (.tmp 5) (.tmp 102) rfl rfl rfl ((unhide B5).drew.rowOther _ (by omega)) rfl rfl rfl rfl iWide D2 ?_
            go_simp
            refine walk_read (v := ?_) rfl rfl rfl (fun u hS => by go_simp; rfl) ?_
            go_simp
            refine walk_end ?_
            have O2 := hide D2.o
            clear D1 D2
            go_wp2
            exact res88s ((((unhide B4).drew).row _).rowOther _ (by omega)) ((((unhide B5).drew).rowOther _ (by omega)).row _) rfl rfl rfl rfl rfl Try.underlying40 rfl iWide ⟨rfl, unhide O2⟩
        · have hE2 : Hid (DivOk o1 o2 F Q0 (-R0)) := hE1
          have hOq := hide (fun u (hr : Row u gq 520 (bz Q0)) => unhide hO u gq 520 Q0 (unhide hE2).bq hr)
          have hOl := hide (fun u g (hr : Row u g 520 (bz (-R0))) => unhide hO u g 520 (-R0) (unhide hE2).br hr)
          clear hE1 hO
          go_upto_region 24 with (first
            | (with_reducible refine at_list ?_; apply ldE (unhide D).e _ rfl rfl rfl (by repeat (first | exact List.mem_cons_self | apply List.mem_cons_of_mem)))
            | (go_at_call 138; refine (unhide hBb _).mono ?_; rintro e w8 ⟨he, hw⟩; subst he; have D := hide ((unhide D).keep hw); clear hw)
            | (with_reducible refine at_list ?_; have l16 := hide ((unhide D).e.blk (n := 0) (g := w.heap.size + 1 + 1 + 1) (by repeat (first | exact List.mem_cons_self | apply List.mem_cons_of_mem))).lt; refine stE (unhide D).e (.tmp 16) (.tmp 86) rfl rfl rfl rfl rfl ?_; intro D'; have D := hide ((unhide D).more D'); clear D')
            | (with_reducible refine at_list ?_; have l18 := hide ((unhide D).e.blk (n := 0) (g := w.heap.size + 1 + 1 + 1) (by repeat (first | exact List.mem_cons_self | apply List.mem_cons_of_mem))).lt; refine stE (unhide D).e (.tmp 18) (.tmp 91) rfl rfl rfl rfl rfl ?_; intro D'; have D := hide ((unhide D).more D'); clear D')
            | (go_at_call 139; refine minusR (unhide D) (x := R0) (by decide) (by repeat (first | exact List.mem_cons_self | apply List.mem_cons_of_mem)) ?_; intro gm wm Dm; have D := hide Dm; clear Dm)
            | (go_at_call 140; first | (with_reducible refine (unhide hOq _ ((unhide D).at (p := gq) (n := 520) (x := Q0) (by repeat (first | exact List.mem_cons_self | apply List.mem_cons_of_mem)))).mono ?_; rintro e w9 ⟨he, hw⟩; subst he; have D := hide ((unhide D).keep hw); clear hw) | (with_reducible refine (unhide hOl _ _ ((unhide D).at (p := gm) (n := 520) (x := -R0) (by repeat (first | exact List.mem_cons_self | apply List.mem_cons_of_mem)))).mono ?_; rintro e w10 ⟨he, hw⟩; subst he; have D := hide ((unhide D).keep hw); clear hw)))
          rw [(unhide hE2).fr]
          have Y := hide (unhide hE2).yes
          have Z := hide (unhide hE2).no
          have B4 := hide ((unhide D).e.blk (n := 0) (g := w.heap.size + 1 + 1) (by repeat (first | exact List.mem_cons_self | apply List.mem_cons_of_mem)))
          have B5 := hide ((unhide D).e.blk (n := 0) (g := w.heap.size + 1 + 1 + 1) (by repeat (first | exact List.mem_cons_self | apply List.mem_cons_of_mem)))
          have DO := hide (unhide D).e.o
          generalize fit Q0 = G at Y Z ⊢
          cases G
          · obtain ⟨z1, z2, z3⟩ := unhide Z rfl
            subst z1 z2 z3
            clear D hE2 Y Z
            go_wp2_with (first
              | (with_reducible refine at_list ?_; refine bd0 40 rfl rfl bWide0 ?_)
              | (with_reducible refine at_list ?_; refine st8 (n := 0) 40 (.tmp 4) (.tmp 99) (unhide B4) rfl rfl rfl rfl rfl iWide ?_)
              | (with_reducible refine at_list ?_; refine st8 (n := 0) 40 (.tmp 5) (.tmp 100) ((unhide B5).rowOther _ (by omega)) rfl rfl rfl rfl rfl iWide ?_))
            exact res88s (((unhide B4).row _).rowOther _ (by omega)) (((unhide B5).rowOther _ (by omega)).row _) rfl rfl rfl rfl rfl Try.underlying40 rfl iWide ⟨rfl, below_row (below_row (unhide DO) (by omega) _) (by omega) _⟩
          · obtain ⟨z1, z2, z3⟩ := unhide Y rfl
            subst z1 z2 z3
            have DS : Hid (Env w [(w10.heap.size, fitN (-R0)), (w9.heap.size, fitN Q0)] _) := ⟨mem_blk ((unhide D).e.blk (by repeat (first | exact List.mem_cons_self | apply List.mem_cons_of_mem))) ((unhide D).e.blk (by repeat (first | exact List.mem_cons_self | apply List.mem_cons_of_mem))), (unhide D).e.o⟩
            have n16 := hide (show w9.heap.size ≠ w.heap.size + 1 + 1 ∧ w9.heap.size ≠ w.heap.size + 1 + 1 + 1 by have := unhide l16; omega)
            have n18 := hide (show w10.heap.size ≠ w.heap.size + 1 + 1 ∧ w10.heap.size ≠ w.heap.size + 1 + 1 + 1 by have := unhide l18; omega)
            clear hE2 Y Z D
            go_upto_region 26 with fail
            refine region_walk (S := Env w [(w10.heap.size, fitN (-R0)), (w9.heap.size, fitN Q0)]) (l := [0, 1, 2, 3, 4]) (t := [2, 3]) (by kernel_rfl) (by kernel_rfl) (by kernel_rfl) (by kernel_rfl) (by kernel_rfl) (by kernel_rfl) (by kernel_rfl) (by kernel_rfl) (unhide DS).drew ?_
            generalize w9.heap.size = b16 at *
            generalize w10.heap.size = b18 at *
            refine walk_read rfl rfl rfl (fun u hS => exec_load8 (n := fitN Q0) 40 (.tmp 16) (hS.blk (by repeat (first | exact List.mem_cons_self | apply List.mem_cons_of_mem))) rfl rfl Try.underlying40 rfl iWide) ?_
            refine walk_read rfl rfl rfl (fun u hS => exec_load8 (n := fitN (-R0)) 40 (.tmp 18) (hS.blk (by repeat (first | exact List.mem_cons_self | apply List.mem_cons_of_mem))) rfl rfl Try.underlying40 rfl iWide) ?_
            go_simp
            have D1 := (unhide DS).drew.row (g := w.heap.size + 1 + 1) (by omega) (ne_two (unhide n18).1 (unhide n16).1) (cells8 (fitN Q0))
            have D2 := D1.row (g := w.heap.size + 1 + 1 + 1) (by omega) (ne_two (unhide n18).2 (unhide n16).2) (cells8 (fitN (-R0)))
            refine walk_store8 (n := fitN Q0) 40 (.tmp 4) (.tmp 101) rfl rfl rfl (unhide B4).drew rfl rfl rfl rfl iWide D1 ?_
            go_simp
            refine walk_store8 (n := fitN (-R0)) 40 (.tmp 5) (.tmp 102) rfl rfl rfl ((unhide B5).drew.rowOther _ (by omega)) rfl rfl rfl rfl iWide D2 ?_
            go_simp
            refine walk_read (v := ?_) rfl rfl rfl (fun u hS => by go_simp; rfl) ?_
            go_simp
            refine walk_end ?_
            have O2 := hide D2.o
            clear D1 D2
            go_wp2
            exact res88s ((((unhide B4).drew).row _).rowOther _ (by omega)) ((((unhide B5).drew).rowOther _ (by omega)).row _) rfl rfl rfl rfl rfl Try.underlying40 rfl iWide ⟨rfl, unhide O2⟩
      · by_cases hs0 : s = 0
        · subst hs0
          have hE1 : Hid (DivOk o1 o2 F (-Q0) (bif sb then -R0 else R0)) := hE
          clear hE
          go_upto_region 20 with (first
            | (with_reducible refine at_list ?_; apply ldE (unhide D).e _ rfl rfl rfl (by repeat (first | exact List.mem_cons_self | apply List.mem_cons_of_mem)))
            | (go_at_call 97; refine (unhide hSr _).mono ?_; rintro e w7 ⟨he, hw⟩; subst he; have D := hide ((unhide D).keep hw); clear hw)
            | (go_at_call 139; refine minusR (unhide D) (x := Q0) (by decide) (by repeat (first | exact List.mem_cons_self | apply List.mem_cons_of_mem)) ?_; intro gn wn Dn; have D := hide Dn; clear Dn))
          clear hSr
          cases sb
          · have hE2 : Hid (DivOk o1 o2 F (-Q0) R0) := hE1
            have hOq := hide (fun u (hr : Row u gn 520 (bz (-Q0))) => unhide hO u gn 520 (-Q0) (unhide hE2).bq hr)
            have hOl := hide (fun u (hr : Row u gr 520 (bz R0)) => unhide hO u gr cr R0 (unhide hE2).br hr)
            clear hE1 hO
            go_upto_region 24 with (first
              | (with_reducible refine at_list ?_; apply ldE (unhide D).e _ rfl rfl rfl (by repeat (first | exact List.mem_cons_self | apply List.mem_cons_of_mem)))
              | (go_at_call 138; refine (unhide hBb _).mono ?_; rintro e w8 ⟨he, hw⟩; subst he; have D := hide ((unhide D).keep hw); clear hw)
              | (with_reducible refine at_list ?_; have l16 := hide ((unhide D).e.blk (n := 0) (g := w.heap.size + 1 + 1 + 1) (by repeat (first | exact List.mem_cons_self | apply List.mem_cons_of_mem))).lt; refine stE (unhide D).e (.tmp 16) (.tmp 86) rfl rfl rfl rfl rfl ?_; intro D'; have D := hide ((unhide D).more D'); clear D')
              | (with_reducible refine at_list ?_; have l18 := hide ((unhide D).e.blk (n := 0) (g := w.heap.size + 1 + 1 + 1) (by repeat (first | exact List.mem_cons_self | apply List.mem_cons_of_mem))).lt; refine stE (unhide D).e (.tmp 18) (.tmp 91) rfl rfl rfl rfl rfl ?_; intro D'; have D := hide ((unhide D).more D'); clear D')
              | (go_at_call 140; first | (with_reducible refine (unhide hOq _ ((unhide D).at (p := gn) (n := 520) (x := (-Q0)) (by repeat (first | exact List.mem_cons_self | apply List.mem_cons_of_mem)))).mono ?_; rintro e w9 ⟨he, hw⟩; subst he; have D := hide ((unhide D).keep hw); clear hw) | (with_reducible refine (unhide hOl _ ((unhide D).at (p := gr) (n := 520) (x := R0) (by repeat (first | exact List.mem_cons_self | apply List.mem_cons_of_mem)))).mono ?_; rintro e w10 ⟨he, hw⟩; subst he; have D := hide ((unhide D).keep hw); clear hw)))
            rw [(unhide hE2).fr]
            have Y := hide (unhide hE2).yes
            have Z := hide (unhide hE2).no
            have B4 := hide ((unhide D).e.blk (n := 0) (g := w.heap.size + 1 + 1) (by repeat (first | exact List.mem_cons_self | apply List.mem_cons_of_mem)))
            have B5 := hide ((unhide D).e.blk (n := 0) (g := w.heap.size + 1 + 1 + 1) (by repeat (first | exact List.mem_cons_self | apply List.mem_cons_of_mem)))
            have DO := hide (unhide D).e.o
            generalize fit (-Q0) = G at Y Z ⊢
            cases G
            · obtain ⟨z1, z2, z3⟩ := unhide Z rfl
              subst z1 z2 z3
              clear D hE2 Y Z
              go_wp2_with (first
                | (with_reducible refine at_list ?_; refine bd0 40 rfl rfl bWide0 ?_)
                | (with_reducible refine at_list ?_; refine st8 (n := 0) 40 (.tmp 4) (.tmp 99) (unhide B4) rfl rfl rfl rfl rfl iWide ?_)
                | (with_reducible refine at_list ?_; refine st8 (n := 0) 40 (.tmp 5) (.tmp 100) ((unhide B5).rowOther _ (by omega)) rfl rfl rfl rfl rfl iWide ?_))
              exact res88s (((unhide B4).row _).rowOther _ (by omega)) (((unhide B5).rowOther _ (by omega)).row _) rfl rfl rfl rfl rfl Try.underlying40 rfl iWide ⟨rfl, below_row (below_row (unhide DO) (by omega) _) (by omega) _⟩
            · obtain ⟨z1, z2, z3⟩ := unhide Y rfl
              subst z1 z2 z3
              have DS : Hid (Env w [(w10.heap.size, fitN R0), (w9.heap.size, fitN (-Q0))] _) := ⟨mem_blk ((unhide D).e.blk (by repeat (first | exact List.mem_cons_self | apply List.mem_cons_of_mem))) ((unhide D).e.blk (by repeat (first | exact List.mem_cons_self | apply List.mem_cons_of_mem))), (unhide D).e.o⟩
              have n16 := hide (show w9.heap.size ≠ w.heap.size + 1 + 1 ∧ w9.heap.size ≠ w.heap.size + 1 + 1 + 1 by have := unhide l16; omega)
              have n18 := hide (show w10.heap.size ≠ w.heap.size + 1 + 1 ∧ w10.heap.size ≠ w.heap.size + 1 + 1 + 1 by have := unhide l18; omega)
              clear hE2 Y Z D
              go_upto_region 26 with fail
              refine region_walk (S := Env w [(w10.heap.size, fitN R0), (w9.heap.size, fitN (-Q0))]) (l := [0, 1, 2, 3, 4]) (t := [2, 3]) (by kernel_rfl) (by kernel_rfl) (by kernel_rfl) (by kernel_rfl) (by kernel_rfl) (by kernel_rfl) (by kernel_rfl) (by kernel_rfl) (unhide DS).drew ?_
              generalize w9.heap.size = b16 at *
              generalize w10.heap.size = b18 at *
              refine walk_read rfl rfl rfl (fun u hS => exec_load8 (n := fitN (-Q0)) 40 (.tmp 16) (hS.blk (by repeat (first | exact List.mem_cons_self | apply List.mem_cons_of_mem))) rfl rfl Try.underlying40 rfl iWide) ?_
              refine walk_read rfl rfl rfl (fun u hS => exec_load8 (n := fitN R0) 40 (.tmp 18) (hS.blk (by repeat (first | exact List.mem_cons_self | apply List.mem_cons_of_mem))) rfl rfl Try.underlying40 rfl iWide) ?_
              go_simp
              have D1 := (unhide DS).drew.row (g := w.heap.size + 1 + 1) (by omega) (ne_two (unhide n18).1 (unhide n16).1) (cells8 (fitN (-Q0)))
              have D2 := D1.row (g := w.heap.size + 1 + 1 + 1) (by omega) (ne_two (unhide n18).2 (unhide n16).2) (cells8 (fitN R0))
              refine walk_store8 (n := fitN (-Q0)) 40 (.tmp 4) (.tmp 101) rfl rfl rfl (unhide B4).drew rfl rfl rfl rfl iWide D1 ?_
              go_simp
              refine walk_store8 (n := fitN R0) 40 (.tmp 5) (.tmp 102) rfl rfl rfl ((unhide B5).drew.rowOther _ (by omega)) rfl rfl rfl rfl iWide D2 ?_
              go_simp
              refine walk_read (v := ?_) rfl rfl rfl (fun u hS => by go_simp; rfl) ?_
              go_simp
              refine walk_end ?_
              have O2 := hide D2.o
              clear D1 D2
              go_wp2
              exact res88s ((((unhide B4).drew).row _).rowOther _ (by omega)) ((((unhide B5).drew).rowOther _ (by omega)).row _) rfl rfl rfl rfl rfl Try.underlying40 rfl iWide ⟨rfl, unhide O2⟩
          · have hE2 : Hid (DivOk o1 o2 F (-Q0) (-R0)) := hE1
            have hOq := hide (fun u (hr : Row u gn 520 (bz (-Q0))) => unhide hO u gn 520 (-Q0) (unhide hE2).bq hr)
            have hOl := hide (fun u g (hr : Row u g 520 (bz (-R0))) => unhide hO u g 520 (-R0) (unhide hE2).br hr)
            clear hE1 hO
            go_upto_region 24 with (first
              | (with_reducible refine at_list ?_; apply ldE (unhide D).e _ rfl rfl rfl (by repeat (first | exact List.mem_cons_self | apply List.mem_cons_of_mem)))
              | (go_at_call 138; refine (unhide hBb _).mono ?_; rintro e w8 ⟨he, hw⟩; subst he; have D := hide ((unhide D).keep hw); clear hw)
              | (with_reducible refine at_list ?_; have l16 := hide ((unhide D).e.blk (n := 0) (g := w.heap.size + 1 + 1 + 1) (by repeat (first | exact List.mem_cons_self | apply List.mem_cons_of_mem))).lt; refine stE (unhide D).e (.tmp 16) (.tmp 86) rfl rfl rfl rfl rfl ?_; intro D'; have D := hide ((unhide D).more D'); clear D')
              | (with_reducible refine at_list ?_; have l18 := hide ((unhide D).e.blk (n := 0) (g := w.heap.size + 1 + 1 + 1) (by repeat (first | exact List.mem_cons_self | apply List.mem_cons_of_mem))).lt; refine stE (unhide D).e (.tmp 18) (.tmp 91) rfl rfl rfl rfl rfl ?_; intro D'; have D := hide ((unhide D).more D'); clear D')
              | (go_at_call 139; refine minusR (unhide D) (x := R0) (by decide) (by repeat (first | exact List.mem_cons_self | apply List.mem_cons_of_mem)) ?_; intro gm wm Dm; have D := hide Dm; clear Dm)
              | (go_at_call 140; first | (with_reducible refine (unhide hOq _ ((unhide D).at (p := gn) (n := 520) (x := (-Q0)) (by repeat (first | exact List.mem_cons_self | apply List.mem_cons_of_mem)))).mono ?_; rintro e w9 ⟨he, hw⟩; subst he; have D := hide ((unhide D).keep hw); clear hw) | (with_reducible refine (unhide hOl _ _ ((unhide D).at (p := gm) (n := 520) (x := -R0) (by repeat (first | exact List.mem_cons_self | apply List.mem_cons_of_mem)))).mono ?_; rintro e w10 ⟨he, hw⟩; subst he; have D := hide ((unhide D).keep hw); clear hw)))
            rw [(unhide hE2).fr]
            have Y := hide (unhide hE2).yes
            have Z := hide (unhide hE2).no
            have B4 := hide ((unhide D).e.blk (n := 0) (g := w.heap.size + 1 + 1) (by repeat (first | exact List.mem_cons_self | apply List.mem_cons_of_mem)))
            have B5 := hide ((unhide D).e.blk (n := 0) (g := w.heap.size + 1 + 1 + 1) (by repeat (first | exact List.mem_cons_self | apply List.mem_cons_of_mem)))
            have DO := hide (unhide D).e.o
            generalize fit (-Q0) = G at Y Z ⊢
            cases G
            · obtain ⟨z1, z2, z3⟩ := unhide Z rfl
              subst z1 z2 z3
              clear D hE2 Y Z
              go_wp2_with (first
                | (with_reducible refine at_list ?_; refine bd0 40 rfl rfl bWide0 ?_)
                | (with_reducible refine at_list ?_; refine st8 (n := 0) 40 (.tmp 4) (.tmp 99) (unhide B4) rfl rfl rfl rfl rfl iWide ?_)
                | (with_reducible refine at_list ?_; refine st8 (n := 0) 40 (.tmp 5) (.tmp 100) ((unhide B5).rowOther _ (by omega)) rfl rfl rfl rfl rfl iWide ?_))
              exact res88s (((unhide B4).row _).rowOther _ (by omega)) (((unhide B5).rowOther _ (by omega)).row _) rfl rfl rfl rfl rfl Try.underlying40 rfl iWide ⟨rfl, below_row (below_row (unhide DO) (by omega) _) (by omega) _⟩
            · obtain ⟨z1, z2, z3⟩ := unhide Y rfl
              subst z1 z2 z3
              have DS : Hid (Env w [(w10.heap.size, fitN (-R0)), (w9.heap.size, fitN (-Q0))] _) := ⟨mem_blk ((unhide D).e.blk (by repeat (first | exact List.mem_cons_self | apply List.mem_cons_of_mem))) ((unhide D).e.blk (by repeat (first | exact List.mem_cons_self | apply List.mem_cons_of_mem))), (unhide D).e.o⟩
              have n16 := hide (show w9.heap.size ≠ w.heap.size + 1 + 1 ∧ w9.heap.size ≠ w.heap.size + 1 + 1 + 1 by have := unhide l16; omega)
              have n18 := hide (show w10.heap.size ≠ w.heap.size + 1 + 1 ∧ w10.heap.size ≠ w.heap.size + 1 + 1 + 1 by have := unhide l18; omega)
              clear hE2 Y Z D
              go_upto_region 26 with fail
              refine region_walk (S := Env w [(w10.heap.size, fitN (-R0)), (w9.heap.size, fitN (-Q0))]) (l := [0, 1, 2, 3, 4]) (t := [2, 3]) (by kernel_rfl) (by kernel_rfl) (by kernel_rfl) (by kernel_rfl) (by kernel_rfl) (by kernel_rfl) (by kernel_rfl) (by kernel_rfl) (unhide DS).drew ?_
              generalize w9.heap.size = b16 at *
              generalize w10.heap.size = b18 at *
              refine walk_read rfl rfl rfl (fun u hS => exec_load8 (n := fitN (-Q0)) 40 (.tmp 16) (hS.blk (by repeat (first | exact List.mem_cons_self | apply List.mem_cons_of_mem))) rfl rfl Try.underlying40 rfl iWide) ?_
              refine walk_read rfl rfl rfl (fun u hS => exec_load8 (n := fitN (-R0)) 40 (.tmp 18) (hS.blk (by repeat (first | exact List.mem_cons_self | apply List.mem_cons_of_mem))) rfl rfl Try.underlying40 rfl iWide) ?_
              go_simp
              have D1 := (unhide DS).drew.row (g := w.heap.size + 1 + 1) (by omega) (ne_two (unhide n18).1 (unhide n16).1) (cells8 (fitN (-Q0)))
              have D2 := D1.row (g := w.heap.size + 1 + 1 + 1) (by omega) (ne_two (unhide n18).2 (unhide n16).2) (cells8 (fitN (-R0)))
              refine walk_store8 (n := fitN (-Q0)) 40 (.tmp 4) (.tmp 101) rfl rfl rfl (unhide B4).drew rfl rfl rfl rfl iWide D1 ?_
              go_simp
              refine walk_store8 (n := fitN (-R0)) 40 (.tmp 5) (.tmp 102) rfl rfl rfl ((unhide B5).drew.rowOther _ (by omega)) rfl rfl rfl rfl iWide D2 ?_
              go_simp
              refine walk_read (v := ?_) rfl rfl rfl (fun u hS => by go_simp; rfl) ?_
              go_simp
              refine walk_end ?_
              have O2 := hide D2.o
              clear D1 D2
              go_wp2
              exact res88s ((((unhide B4).drew).row _).rowOther _ (by omega)) ((((unhide B5).drew).rowOther _ (by omega)).row _) rfl rfl rfl rfl rfl Try.underlying40 rfl iWide ⟨rfl, unhide O2⟩
        · have hE1 : Hid (DivOk o1 o2 F (-(Q0 + 1)) (bif sb then -((n : Int) + -R0) else (n : Int) + -R0)) := by
            have h := unhide hE
            unfold qfin rfin rone at h
            rw [cond_true, cond_true, if_neg hs0, if_neg hs0] at h
            exact h
          have hs2 : decide (s = 0) = false := decide_eq_false hs0
          have hs3 : (s == 0) = false := by simp [hs0]
          have hs4 : (s != 0) = true := by simp [hs0]
          clear hE
          go_upto_region 16 with (first
            | (with_reducible refine at_list ?_; apply ldE (unhide D).e _ rfl rfl rfl (by repeat (first | exact List.mem_cons_self | apply List.mem_cons_of_mem)))
            | (go_at_call 97; refine (unhide hSr _).mono ?_; rintro e w7 ⟨he, hw⟩; subst he; have D := hide ((unhide D).keep hw); clear hw))
          have MO := hide (Dw.fresh (unhide D))
          generalize w7.alloc (.cells (madeCells #[.int .i64 0] 520) 3) = wo at MO ⊢
          generalize w7.heap.size = go at MO ⊢
          have hc := World.rowIs.cell (unhide MO).q (show 0 < 520 by decide)
          have hf := World.rowIs.frozen (unhide MO).q 0
          go_upto_region 17 with fail
          have MP := (unhide MO).set 0 1 bz_one
          have D := hide (MP.e.row MP.q.row)
          clear hc hf MO MP
          generalize wo.setCell ⟨go, 0, none⟩ (.int .i64 1) = wq at D ⊢
          go_upto_region 20 with (first
            | (go_at_call 141; first
                | (with_reducible refine plusR (unhide D) (p := gq) (q := go) (x := Q0) (y := 1) (by decide) (by repeat (first | exact List.mem_cons_self | apply List.mem_cons_of_mem)) (by repeat (first | exact List.mem_cons_self | apply List.mem_cons_of_mem)) ?_; intro gp wp Dp; have D := hide Dp; clear Dp)
                | (with_reducible refine plusR (unhide D) (p := g2) (x := (n : Int)) (y := -R0) (by decide) (by repeat (first | exact List.mem_cons_self | apply List.mem_cons_of_mem)) (by repeat (first | exact List.mem_cons_self | apply List.mem_cons_of_mem)) ?_; intro gt wt Dt; have D := hide Dt; clear Dt))
            | (go_at_call 139; first
                | (with_reducible refine minusR (unhide D) (p := gr) (x := R0) (by decide) (by repeat (first | exact List.mem_cons_self | apply List.mem_cons_of_mem)) ?_; intro gu wu Du; have D := hide Du; clear Du)
                | (with_reducible refine minusR (unhide D) (x := Q0 + 1) (by decide) (by repeat (first | exact List.mem_cons_self | apply List.mem_cons_of_mem)) ?_; intro gn wn Dn; have D := hide Dn; clear Dn)))
          clear hSr
          cases sb
          · have hE2 : Hid (DivOk o1 o2 F (-(Q0 + 1)) ((n : Int) + -R0)) := hE1
            have hOq := hide (fun u (hr : Row u gn 520 (bz (-(Q0 + 1)))) => unhide hO u gn 520 (-(Q0 + 1)) (unhide hE2).bq hr)
            have hOl := hide (fun u (hr : Row u gt 520 (bz ((n : Int) + -R0))) => unhide hO u gt 520 ((n : Int) + -R0) (unhide hE2).br hr)
            clear hE1 hO
            go_upto_region 24 with (first
              | (with_reducible refine at_list ?_; apply ldE (unhide D).e _ rfl rfl rfl (by repeat (first | exact List.mem_cons_self | apply List.mem_cons_of_mem)))
              | (go_at_call 138; refine (unhide hBb _).mono ?_; rintro e w8 ⟨he, hw⟩; subst he; have D := hide ((unhide D).keep hw); clear hw)
              | (with_reducible refine at_list ?_; have l16 := hide ((unhide D).e.blk (n := 0) (g := w.heap.size + 1 + 1 + 1) (by repeat (first | exact List.mem_cons_self | apply List.mem_cons_of_mem))).lt; refine stE (unhide D).e (.tmp 16) (.tmp 86) rfl rfl rfl rfl rfl ?_; intro D'; have D := hide ((unhide D).more D'); clear D')
              | (with_reducible refine at_list ?_; have l18 := hide ((unhide D).e.blk (n := 0) (g := w.heap.size + 1 + 1 + 1) (by repeat (first | exact List.mem_cons_self | apply List.mem_cons_of_mem))).lt; refine stE (unhide D).e (.tmp 18) (.tmp 91) rfl rfl rfl rfl rfl ?_; intro D'; have D := hide ((unhide D).more D'); clear D')
              | (go_at_call 140; first | (with_reducible refine (unhide hOq _ ((unhide D).at (p := gn) (n := 520) (x := (-(Q0 + 1))) (by repeat (first | exact List.mem_cons_self | apply List.mem_cons_of_mem)))).mono ?_; rintro e w9 ⟨he, hw⟩; subst he; have D := hide ((unhide D).keep hw); clear hw) | (with_reducible refine (unhide hOl _ ((unhide D).at (p := gt) (n := 520) (x := ((n : Int) + -R0)) (by repeat (first | exact List.mem_cons_self | apply List.mem_cons_of_mem)))).mono ?_; rintro e w10 ⟨he, hw⟩; subst he; have D := hide ((unhide D).keep hw); clear hw)))
            rw [(unhide hE2).fr]
            have Y := hide (unhide hE2).yes
            have Z := hide (unhide hE2).no
            have B4 := hide ((unhide D).e.blk (n := 0) (g := w.heap.size + 1 + 1) (by repeat (first | exact List.mem_cons_self | apply List.mem_cons_of_mem)))
            have B5 := hide ((unhide D).e.blk (n := 0) (g := w.heap.size + 1 + 1 + 1) (by repeat (first | exact List.mem_cons_self | apply List.mem_cons_of_mem)))
            have DO := hide (unhide D).e.o
            generalize fit (-(Q0 + 1)) = G at Y Z ⊢
            cases G
            · obtain ⟨z1, z2, z3⟩ := unhide Z rfl
              subst z1 z2 z3
              clear D hE2 Y Z
              go_wp2_with (first
                | (with_reducible refine at_list ?_; refine bd0 40 rfl rfl bWide0 ?_)
                | (with_reducible refine at_list ?_; refine st8 (n := 0) 40 (.tmp 4) (.tmp 99) (unhide B4) rfl rfl rfl rfl rfl iWide ?_)
                | (with_reducible refine at_list ?_; refine st8 (n := 0) 40 (.tmp 5) (.tmp 100) ((unhide B5).rowOther _ (by omega)) rfl rfl rfl rfl rfl iWide ?_))
              exact res88s (((unhide B4).row _).rowOther _ (by omega)) (((unhide B5).rowOther _ (by omega)).row _) rfl rfl rfl rfl rfl Try.underlying40 rfl iWide ⟨rfl, below_row (below_row (unhide DO) (by omega) _) (by omega) _⟩
            · obtain ⟨z1, z2, z3⟩ := unhide Y rfl
              subst z1 z2 z3
              have DS : Hid (Env w [(w10.heap.size, fitN ((n : Int) + -R0)), (w9.heap.size, fitN (-(Q0 + 1)))] _) := ⟨mem_blk ((unhide D).e.blk (by repeat (first | exact List.mem_cons_self | apply List.mem_cons_of_mem))) ((unhide D).e.blk (by repeat (first | exact List.mem_cons_self | apply List.mem_cons_of_mem))), (unhide D).e.o⟩
              have n16 := hide (show w9.heap.size ≠ w.heap.size + 1 + 1 ∧ w9.heap.size ≠ w.heap.size + 1 + 1 + 1 by have := unhide l16; omega)
              have n18 := hide (show w10.heap.size ≠ w.heap.size + 1 + 1 ∧ w10.heap.size ≠ w.heap.size + 1 + 1 + 1 by have := unhide l18; omega)
              clear hE2 Y Z D
              go_upto_region 26 with fail
              refine region_walk (S := Env w [(w10.heap.size, fitN ((n : Int) + -R0)), (w9.heap.size, fitN (-(Q0 + 1)))]) (l := [0, 1, 2, 3, 4]) (t := [2, 3]) (by kernel_rfl) (by kernel_rfl) (by kernel_rfl) (by kernel_rfl) (by kernel_rfl) (by kernel_rfl) (by kernel_rfl) (by kernel_rfl) (unhide DS).drew ?_
              generalize w9.heap.size = b16 at *
              generalize w10.heap.size = b18 at *
              refine walk_read rfl rfl rfl (fun u hS => exec_load8 (n := fitN (-(Q0 + 1))) 40 (.tmp 16) (hS.blk (by repeat (first | exact List.mem_cons_self | apply List.mem_cons_of_mem))) rfl rfl Try.underlying40 rfl iWide) ?_
              refine walk_read rfl rfl rfl (fun u hS => exec_load8 (n := fitN ((n : Int) + -R0)) 40 (.tmp 18) (hS.blk (by repeat (first | exact List.mem_cons_self | apply List.mem_cons_of_mem))) rfl rfl Try.underlying40 rfl iWide) ?_
              go_simp
              have D1 := (unhide DS).drew.row (g := w.heap.size + 1 + 1) (by omega) (ne_two (unhide n18).1 (unhide n16).1) (cells8 (fitN (-(Q0 + 1))))
              have D2 := D1.row (g := w.heap.size + 1 + 1 + 1) (by omega) (ne_two (unhide n18).2 (unhide n16).2) (cells8 (fitN ((n : Int) + -R0)))
              refine walk_store8 (n := fitN (-(Q0 + 1))) 40 (.tmp 4) (.tmp 101) rfl rfl rfl (unhide B4).drew rfl rfl rfl rfl iWide D1 ?_
              go_simp
              refine walk_store8 (n := fitN ((n : Int) + -R0)) 40 (.tmp 5) (.tmp 102) rfl rfl rfl ((unhide B5).drew.rowOther _ (by omega)) rfl rfl rfl rfl iWide D2 ?_
              go_simp
              refine walk_read (v := ?_) rfl rfl rfl (fun u hS => by go_simp; rfl) ?_
              go_simp
              refine walk_end ?_
              have O2 := hide D2.o
              clear D1 D2
              go_wp2
              exact res88s ((((unhide B4).drew).row _).rowOther _ (by omega)) ((((unhide B5).drew).rowOther _ (by omega)).row _) rfl rfl rfl rfl rfl Try.underlying40 rfl iWide ⟨rfl, unhide O2⟩
          · have hE2 : Hid (DivOk o1 o2 F (-(Q0 + 1)) (-((n : Int) + -R0))) := hE1
            have hOq := hide (fun u (hr : Row u gn 520 (bz (-(Q0 + 1)))) => unhide hO u gn 520 (-(Q0 + 1)) (unhide hE2).bq hr)
            have hOl := hide (fun u g (hr : Row u g 520 (bz (-((n : Int) + -R0)))) => unhide hO u g 520 (-((n : Int) + -R0)) (unhide hE2).br hr)
            clear hE1 hO
            go_upto_region 24 with (first
              | (with_reducible refine at_list ?_; apply ldE (unhide D).e _ rfl rfl rfl (by repeat (first | exact List.mem_cons_self | apply List.mem_cons_of_mem)))
              | (go_at_call 138; refine (unhide hBb _).mono ?_; rintro e w8 ⟨he, hw⟩; subst he; have D := hide ((unhide D).keep hw); clear hw)
              | (with_reducible refine at_list ?_; have l16 := hide ((unhide D).e.blk (n := 0) (g := w.heap.size + 1 + 1 + 1) (by repeat (first | exact List.mem_cons_self | apply List.mem_cons_of_mem))).lt; refine stE (unhide D).e (.tmp 16) (.tmp 86) rfl rfl rfl rfl rfl ?_; intro D'; have D := hide ((unhide D).more D'); clear D')
              | (with_reducible refine at_list ?_; have l18 := hide ((unhide D).e.blk (n := 0) (g := w.heap.size + 1 + 1 + 1) (by repeat (first | exact List.mem_cons_self | apply List.mem_cons_of_mem))).lt; refine stE (unhide D).e (.tmp 18) (.tmp 91) rfl rfl rfl rfl rfl ?_; intro D'; have D := hide ((unhide D).more D'); clear D')
              | (go_at_call 139; refine minusR (unhide D) (x := ((n : Int) + -R0)) (by decide) (by repeat (first | exact List.mem_cons_self | apply List.mem_cons_of_mem)) ?_; intro gm wm Dm; have D := hide Dm; clear Dm)
              | (go_at_call 140; first | (with_reducible refine (unhide hOq _ ((unhide D).at (p := gn) (n := 520) (x := (-(Q0 + 1))) (by repeat (first | exact List.mem_cons_self | apply List.mem_cons_of_mem)))).mono ?_; rintro e w9 ⟨he, hw⟩; subst he; have D := hide ((unhide D).keep hw); clear hw) | (with_reducible refine (unhide hOl _ _ ((unhide D).at (p := gm) (n := 520) (x := -((n : Int) + -R0)) (by repeat (first | exact List.mem_cons_self | apply List.mem_cons_of_mem)))).mono ?_; rintro e w10 ⟨he, hw⟩; subst he; have D := hide ((unhide D).keep hw); clear hw)))
            rw [(unhide hE2).fr]
            have Y := hide (unhide hE2).yes
            have Z := hide (unhide hE2).no
            have B4 := hide ((unhide D).e.blk (n := 0) (g := w.heap.size + 1 + 1) (by repeat (first | exact List.mem_cons_self | apply List.mem_cons_of_mem)))
            have B5 := hide ((unhide D).e.blk (n := 0) (g := w.heap.size + 1 + 1 + 1) (by repeat (first | exact List.mem_cons_self | apply List.mem_cons_of_mem)))
            have DO := hide (unhide D).e.o
            generalize fit (-(Q0 + 1)) = G at Y Z ⊢
            cases G
            · obtain ⟨z1, z2, z3⟩ := unhide Z rfl
              subst z1 z2 z3
              clear D hE2 Y Z
              go_wp2_with (first
                | (with_reducible refine at_list ?_; refine bd0 40 rfl rfl bWide0 ?_)
                | (with_reducible refine at_list ?_; refine st8 (n := 0) 40 (.tmp 4) (.tmp 99) (unhide B4) rfl rfl rfl rfl rfl iWide ?_)
                | (with_reducible refine at_list ?_; refine st8 (n := 0) 40 (.tmp 5) (.tmp 100) ((unhide B5).rowOther _ (by omega)) rfl rfl rfl rfl rfl iWide ?_))
              exact res88s (((unhide B4).row _).rowOther _ (by omega)) (((unhide B5).rowOther _ (by omega)).row _) rfl rfl rfl rfl rfl Try.underlying40 rfl iWide ⟨rfl, below_row (below_row (unhide DO) (by omega) _) (by omega) _⟩
            · obtain ⟨z1, z2, z3⟩ := unhide Y rfl
              subst z1 z2 z3
              have DS : Hid (Env w [(w10.heap.size, fitN (-((n : Int) + -R0))), (w9.heap.size, fitN (-(Q0 + 1)))] _) := ⟨mem_blk ((unhide D).e.blk (by repeat (first | exact List.mem_cons_self | apply List.mem_cons_of_mem))) ((unhide D).e.blk (by repeat (first | exact List.mem_cons_self | apply List.mem_cons_of_mem))), (unhide D).e.o⟩
              have n16 := hide (show w9.heap.size ≠ w.heap.size + 1 + 1 ∧ w9.heap.size ≠ w.heap.size + 1 + 1 + 1 by have := unhide l16; omega)
              have n18 := hide (show w10.heap.size ≠ w.heap.size + 1 + 1 ∧ w10.heap.size ≠ w.heap.size + 1 + 1 + 1 by have := unhide l18; omega)
              clear hE2 Y Z D
              go_upto_region 26 with fail
              refine region_walk (S := Env w [(w10.heap.size, fitN (-((n : Int) + -R0))), (w9.heap.size, fitN (-(Q0 + 1)))]) (l := [0, 1, 2, 3, 4]) (t := [2, 3]) (by kernel_rfl) (by kernel_rfl) (by kernel_rfl) (by kernel_rfl) (by kernel_rfl) (by kernel_rfl) (by kernel_rfl) (by kernel_rfl) (unhide DS).drew ?_
              generalize w9.heap.size = b16 at *
              generalize w10.heap.size = b18 at *
              refine walk_read rfl rfl rfl (fun u hS => exec_load8 (n := fitN (-(Q0 + 1))) 40 (.tmp 16) (hS.blk (by repeat (first | exact List.mem_cons_self | apply List.mem_cons_of_mem))) rfl rfl Try.underlying40 rfl iWide) ?_
              refine walk_read rfl rfl rfl (fun u hS => exec_load8 (n := fitN (-((n : Int) + -R0))) 40 (.tmp 18) (hS.blk (by repeat (first | exact List.mem_cons_self | apply List.mem_cons_of_mem))) rfl rfl Try.underlying40 rfl iWide) ?_
              go_simp
              have D1 := (unhide DS).drew.row (g := w.heap.size + 1 + 1) (by omega) (ne_two (unhide n18).1 (unhide n16).1) (cells8 (fitN (-(Q0 + 1))))
              have D2 := D1.row (g := w.heap.size + 1 + 1 + 1) (by omega) (ne_two (unhide n18).2 (unhide n16).2) (cells8 (fitN (-((n : Int) + -R0))))
              refine walk_store8 (n := fitN (-(Q0 + 1))) 40 (.tmp 4) (.tmp 101) rfl rfl rfl (unhide B4).drew rfl rfl rfl rfl iWide D1 ?_
              go_simp
              refine walk_store8 (n := fitN (-((n : Int) + -R0))) 40 (.tmp 5) (.tmp 102) rfl rfl rfl ((unhide B5).drew.rowOther _ (by omega)) rfl rfl rfl rfl iWide D2 ?_
              go_simp
              refine walk_read (v := ?_) rfl rfl rfl (fun u hS => by go_simp; rfl) ?_
              go_simp
              refine walk_end ?_
              have O2 := hide D2.o
              clear D1 D2
              go_wp2
              exact res88s ((((unhide B4).drew).row _).rowOther _ (by omega)) ((((unhide B5).drew).rowOther _ (by omega)).row _) rfl rfl rfl rfl rfl Try.underlying40 rfl iWide ⟨rfl, unhide O2⟩

end Go.Proofs.Ytbgafjdgahikcaa

namespace Go.Proofs.Ytbgafjdgahikcaa
open Go.RowKit
set_option maxRecDepth 4000

theorem lft_nat (m n : Nat) : lft m n 0 = ((m % n : Nat) : Int) := by unfold lft; rw [up_zero, Int.natCast_emod]
theorem qut_nat (m n : Nat) : qut m n 0 = ((m / n : Nat) : Int) := by unfold qut; rw [up_zero, show ((2 ^ 0 : Nat) : Int) = 1 from rfl, Int.mul_one, Int.natCast_ediv]
theorem sgn_zero (x : Int) : sgn x = 0 ↔ x = 0 := by
  unfold sgn
  by_cases h : x < 0
  · rw [if_pos h]; omega
  · rw [if_neg h]
    by_cases h0 : x = 0
    · rw [if_pos h0]; omega
    · rw [if_neg h0]; omega
theorem fin_math (x y : Int) (hy : y ≠ 0) :
    qfin ((decide (x < 0)) != (decide (y < 0))) (sgn (lft x.natAbs y.natAbs 0)) (qut x.natAbs y.natAbs 0) = x.fdiv y ∧ rfin ((decide (x < 0)) != (decide (y < 0))) (decide (y < 0)) (sgn (lft x.natAbs y.natAbs 0)) (lft x.natAbs y.natAbs 0) y.natAbs = x.fmod y := by
  obtain ⟨h1, h2⟩ := div_math x y hy
  rw [← h1, ← h2]
  have hl := Nat.mod_lt x.natAbs (show 0 < y.natAbs by omega)
  have hs := sgn_zero (lft x.natAbs y.natAbs 0)
  rw [lft_nat] at hs ⊢
  rw [qut_nat]
  unfold qfin rfin rone byN leftN more
  generalize x.natAbs / y.natAbs = D at *
  generalize x.natAbs % y.natAbs = R at *
  generalize sgn (R : Int) = s at *
  have e : (decide (x < 0) != decide (y < 0)) = !(decide (x < 0) == decide (y < 0)) := rfl
  rw [e]
  generalize (!(decide (x < 0) == decide (y < 0))) = g
  generalize decide (y < 0) = d
  by_cases hR : R = 0
  · have hs0 : s = 0 := hs.2 (by omega)
    subst hs0 hR
    cases g <;> cases d <;> simp
  · have hs0 : s ≠ 0 := fun hc => hR (by have := hs.1 hc; omega)
    cases g <;> cases d <;> simp [hs0, hR] <;> omega


theorem fmod_fit {x y : Int} (hy : Fit y) (h0 : y ≠ 0) : Fit (x.fmod y) := by
  obtain ⟨_, hr⟩ := div_math x y h0
  have hl := leftN_lt x y h0
  obtain ⟨h1, h2⟩ := hy
  rw [← hr]
  by_cases h : y < 0
  · simp only [h, decide_true, cond_true]; constructor <;> omega
  · simp only [h, decide_false, cond_false]; constructor <;> omega
theorem byN_le (x y : Int) : byN x y ≤ x.natAbs + 1 := by
  have h1 := Nat.div_le_self x.natAbs y.natAbs
  unfold byN
  split <;> omega
theorem fdiv_bd {x y : Int} (hx : Fit x) (h0 : y ≠ 0) : Bd (x.fdiv y) := by
  obtain ⟨hq, _⟩ := div_math x y h0
  have hl := byN_le x y
  have hH : 1000 < (H : Int) := by decide
  obtain ⟨h1, h2⟩ := hx
  rw [← hq]
  unfold Bd
  cases (!(decide (x < 0) == decide (y < 0)))
  · simp only [cond_false]; constructor <;> omega
  · simp only [cond_true]; constructor <;> omega
theorem fit_bd {z : Int} (h : Fit z) : Bd z := by
  obtain ⟨h1, h2⟩ := h
  have hH := HI_pos
  unfold Bd
  constructor <;> omega
theorem blen_512 {z : Int} (hz : Fit z) : blen z.natAbs ≤ 512 := by
  rw [blen_lt]
  have h1 := abs_lt hz
  obtain ⟨e, he, h5⟩ : ∃ e, M = 2 ^ e ∧ e = 512 := ⟨64 * 8, M_pow8, by omega⟩
  rw [he] at h1
  rw [← h5]
  exact h1
theorem abs_520 {z : Int} (hz : Fit z) : z.natAbs < 2 ^ 520 := by
  have h1 := abs_lt hz
  obtain ⟨e, he, h5⟩ : ∃ e, M = 2 ^ e ∧ e = 512 := ⟨64 * 8, M_pow8, by omega⟩
  rw [he] at h1
  obtain ⟨f, hf⟩ : ∃ f, f = 520 := ⟨_, rfl⟩
  rw [← hf]
  exact Nat.lt_of_lt_of_le h1 (Nat.pow_le_pow_right (by decide) (by omega))
theorem of_row {z : Int} (hz : Bd z) (u : World) (p c : Nat) (hr : Row u p 520 (bz z)) :
    Calls Try.prog 140 #[sc p 520 c] u fun e w' => e = .returned (.tuple #[.agg (cells8 (fitN z)), .bool (fit z)]) ∧ Below u.heap.size u w' := by
  have b := wide8 H z hz.1 hz.2 HI_pos
  refine (ofZ z 8 520 p 0 c rfl (by decide) b.1 b.2 u (fun k hk => by rw [Nat.zero_add]; exact hr.2 k hk) hr.1).mono fun e w' ⟨he, hb⟩ => ⟨?_, hb⟩
  rw [he, fitN_eq]

theorem refDiv (x y : Int) (hx : Fit x) (hy : Fit y) (h0 : y ≠ 0) (w : World) :
    Calls Try.prog 98 #[V x, V y] w fun e w' => e = .returned (.tuple #[.agg (cells8 (bif dq x y then enc (x.fdiv y) else 0)), .agg (cells8 (bif dq x y then enc (x.fmod y) else 0)), .bool (dq x y)]) ∧ Below w.heap.size w w' := by
  have hn : 0 < y.natAbs := by omega
  obtain ⟨f1, f2⟩ := fin_math x y h0
  have hl0 : lft x.natAbs y.natAbs 0 = ((x.natAbs % y.natAbs : Nat) : Int) := lft_nat _ _
  have hml := Nat.mod_lt x.natAbs hn
  have hlf : Fit (lft x.natAbs y.natAbs 0) := by
    obtain ⟨h1, h2⟩ := hy
    rw [hl0]
    constructor <;> omega
  have hfm := fmod_fit (x := x) hy h0
  have hd : dq x y = fit (x.fdiv y) := by unfold dq; simp [h0]
  refine div_bits (enc x) (enc y) _ _ x.natAbs y.natAbs (blen x.natAbs) (blen y.natAbs) (enc (lft x.natAbs y.natAbs 0)) (decide (x < 0)) (decide (y < 0)) _ (sgn (lft x.natAbs y.natAbs 0)) (sgn y) w
    (fun u => refSign y hy u) (fun hc => h0 ((sgn_zero y).1 hc)) (fun u => refSize x hx u) (fun u => refSize y hy u)
    (fun u g hr => top_bits x.natAbs 520 g 0 520 (by decide) (abs_520 hx) u (fun k hk => by rw [Nat.zero_add]; exact hr.2 k hk))
    (fun u g hr => top_bits y.natAbs 520 g 0 520 (by decide) (abs_520 hy) u (fun k hk => by rw [Nat.zero_add]; exact hr.2 k hk))
    (fun u => refBelow x hx u) (fun u => refBelow y hy u) (fun u p c hr => ?_) (fun u => refSign _ hlf u) (fun u p c z hz hr => of_row hz u p c hr) ?_
    (blen_512 hx) (blen_512 hy) hn ((blen_lt _ _).1 (Nat.le_refl _)) ((blen_lt _ _).1 (Nat.le_refl _)) ?_
  · have := of_row (fit_bd hlf) u p c hr
    have e1 : fitN (lft x.natAbs y.natAbs 0) = enc (lft x.natAbs y.natAbs 0) := by unfold fitN; rw [fit_true hlf]; rfl
    rw [e1, fit_true hlf] at this
    exact this
  · show DivOk _ _ _ _ _
    rw [f1, f2]
    refine ⟨fdiv_bd hx h0, fit_bd hfm, fit_true hfm, fun h => ?_, fun h => ?_⟩
    · rw [hd, h]
      unfold fitN
      rw [h, fit_true hfm]
      exact ⟨rfl, rfl, rfl⟩
    · rw [hd, h]
      exact ⟨rfl, rfl, rfl⟩
  · intro k hk
    have hB : ¬ blen y.natAbs ≤ blen y.natAbs - 1 := by
      have : blen y.natAbs ≠ 0 := fun hc => by
        have := (blen_lt y.natAbs 0).1 (by omega)
        simp at this
        omega
      omega
    rw [blen_lt] at hB
    exact start_up ((blen_lt _ _).1 (Nat.le_refl _)) (.inr (by omega)) hn (by
      have : blen y.natAbs ≠ 0 := fun hc => by
        have := (blen_lt y.natAbs 0).1 (by omega)
        simp at this
        omega
      omega) hk

set_option maxHeartbeats 1000000 in
theorem div_none (a b : Nat) (w : World) (hSgb : Hid (∀ u, Calls Try.prog 97 #[.agg (cells8 b)] u fun e w' => e = .returned (.int .i64 0) ∧ Below u.heap.size u w')) :
    Calls Try.prog 98 #[W a, W b] w fun e w' => e = .returned (.tuple #[.agg (cells8 0), .agg (cells8 0), .bool false]) ∧ Below w.heap.size w w' := by
  unfold W
  go_enter Try.func98, Try.ntmps98
  go_upto_region 1 with fail
  have D := hide (EnvR.of (Env.four w a b 0 0))
  rw [cells8_0] at D
  go_upto_region 2 with (first
    | (with_reducible refine at_list ?_; apply ldE (unhide D).e _ rfl rfl rfl (by repeat (first | exact List.mem_cons_self | apply List.mem_cons_of_mem)))
    | (go_at_call 97; refine (unhide hSgb _).mono ?_; rintro e w1 ⟨he, hw⟩; subst he; have D := hide ((unhide D).keep hw); clear hw))
  have B4 := hide ((unhide D).e.blk (n := 0) (g := w.heap.size + 1 + 1) (by repeat (first | exact List.mem_cons_self | apply List.mem_cons_of_mem)))
  have B5 := hide ((unhide D).e.blk (n := 0) (g := w.heap.size + 1 + 1 + 1) (by repeat (first | exact List.mem_cons_self | apply List.mem_cons_of_mem)))
  have DO := hide (unhide D).e.o
  clear D
  go_wp2_with (first
    | (with_reducible refine at_list ?_; refine bd0 40 rfl rfl bWide0 ?_)
    | (with_reducible refine at_list ?_; refine st8 (n := 0) 40 (.tmp 4) (.tmp 23) (unhide B4) rfl rfl rfl rfl rfl iWide ?_)
    | (with_reducible refine at_list ?_; refine st8 (n := 0) 40 (.tmp 5) (.tmp 24) ((unhide B5).rowOther _ (by omega)) rfl rfl rfl rfl rfl iWide ?_))
  exact res88s (((unhide B4).row _).rowOther _ (by omega)) (((unhide B5).rowOther _ (by omega)).row _) rfl rfl rfl rfl rfl Try.underlying40 rfl iWide ⟨rfl, below_row (below_row (unhide DO) (by omega) _) (by omega) _⟩

theorem refDivZ (x y : Int) (hx : Fit x) (hy : Fit y) (w : World) :
    Calls Try.prog 98 #[V x, V y] w fun e w' => e = .returned (.tuple #[.agg (cells8 (bif dq x y then enc (x.fdiv y) else 0)), .agg (cells8 (bif dq x y then enc (x.fmod y) else 0)), .bool (dq x y)]) ∧ Below w.heap.size w w' := by
  by_cases h0 : y = 0
  · have hd : dq x y = false := by unfold dq; simp [h0]
    rw [hd]
    exact div_none (enc x) (enc y) w (fun u => by
      have h := refSign y hy u
      rw [show sgn y = 0 from (sgn_zero y).2 h0] at h
      exact h)
  · exact refDiv x y hx hy h0 w


end Go.Proofs.Ytbgafjdgahikcaa
