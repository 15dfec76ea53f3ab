/- The document's Shr and Shl. What is appended to bits; the document's Shl. -/
import Derived.Test.YtbgafjdgahikcaaRe
import Derived.ArgAppend
namespace Go.Proofs.Ytbgafjdgahikcaa
open Go.RowKit
set_option maxRecDepth 4000

theorem bz_shift (z : Int) (n k : Nat) : bz z (n + k) = bz (z / ((2 ^ n : Nat) : Int)) k := by
  unfold bz
  rw [Nat.pow_add, Int.natCast_mul, ← Int.ediv_ediv_of_nonneg (Int.natCast_nonneg _)]

theorem ediv_high {x : Int} (hx : Fit x) (n : Nat) (hn : 511 ≤ n) : x / ((2 ^ n : Nat) : Int) = x / ((2 ^ 511 : Nat) : Int) := by
  obtain ⟨e, he⟩ : ∃ e, e = 511 := ⟨_, rfl⟩
  rw [← he]
  have h1 := H_511 e he
  have h2 : 2 ^ e ≤ 2 ^ n := Nat.pow_le_pow_right (by decide) (by omega)
  rw [← h1] at h2 ⊢
  have hH := HI_pos
  have a1 := hx.1
  have a2 := hx.2
  generalize 2 ^ n = P at *
  have key : ∀ Q : Int, (H : Int) ≤ Q → x / Q = if x < 0 then -1 else 0 := by
    intro Q hQ
    by_cases h0 : x < 0
    · rw [if_pos h0]
      have e : x = (x + Q) + Q * (-1) := by omega
      have h9 : x / Q = ((x + Q) + Q * (-1)) / Q := congrArg (· / Q) e
      rw [h9, Int.add_mul_ediv_left _ _ (show Q ≠ 0 by omega), Int.ediv_eq_zero_of_lt (by omega) (by omega)]
      omega
    · rw [if_neg h0, Int.ediv_eq_zero_of_lt (by omega) (by omega)]
  rw [key _ (by omega), key _ (Int.le_refl _)]
/-- The first n ints of block p. -/
def Row (w : World) (p n : Nat) (f : Nat → Int) : Prop := p < w.heap.size ∧ ∀ k, k < n → w.cell? ⟨p, k, none⟩ = some (.int .i64 (f k))
theorem Ints.row {w : World} {p n : Nat} {f : Nat → Int} (h : Ints w p n f) : Row w p n f := ⟨World.rowIs.lt h, fun _ hk => World.rowIs.cell h hk⟩
theorem Row.below {w w' : World} {p n : Nat} {f : Nat → Int} (h : Row w p n f) (hb : Below w.heap.size w w') : Row w' p n f := ⟨Nat.lt_of_lt_of_le h.1 hb.size, fun k hk => (hb.cell (by exact h.1)).trans (h.2 k hk)⟩
theorem Row.drew {w : World} {p n : Nat} {f : Nat → Int} (h : Row w p n f) : Row w.drew p n f := h
theorem Row.congr {w : World} {p n : Nat} {f g : Nat → Int} (h : Row w p n f) (e : ∀ k, k < n → f k = g k) : Row w p n g := ⟨h.1, fun k hk => by rw [← e k hk]; exact h.2 k hk⟩
theorem Row.less {w : World} {p n m : Nat} {f : Nat → Int} (h : Row w p n f) (hm : m ≤ n) : Row w p m f := ⟨h.1, fun k hk => h.2 k (by omega)⟩
/-- One row behind another one. -/
def after (n : Nat) (f h : Nat → Int) (k : Nat) : Int := if k < n then f k else h (k - n)
def vals (f : Nat → Int) (n : Nat) : List Value := (List.range n).map fun k => .int .i64 (f k)
theorem vals_get (f : Nat → Int) (n j : Nat) (hj : j < n) : (vals f n)[j]? = some (.int .i64 (f j)) := by simp [vals, hj]
theorem vals_len (f : Nat → Int) (n : Nat) : (vals f n).length = n := by simp [vals]
theorem add_off (g j : Nat) : (⟨g, 0, none⟩ : Addr).add j = ⟨g, j, none⟩ := by unfold Addr.add; split <;> simp_all
theorem vals_cells {w : World} {p n : Nat} {f : Nat → Int} (h : Row w p n f) : ∀ j u, (vals f n)[j]? = some u → w.cell? ((⟨p, 0, none⟩ : Addr).add j) = some u := by
  intro j u hj
  have hlt : j < n := by
    have := (List.getElem?_eq_some_iff.1 hj).1
    rwa [vals_len] at this
  rw [vals_get _ _ _ hlt] at hj
  rw [add_off, h.2 j hlt, hj]
theorem vals_one (f : Nat → Int) (n : Nat) : ∀ u ∈ vals f n, u.oneCell' = true := by
  intro u hu
  simp only [vals, List.mem_map] at hu
  obtain ⟨k, _, rfl⟩ := hu
  rfl

/-- A row behind another one, in a new block. -/
theorem appendB {w : World} {ops : Array Oper} {rest : List Oper} {o : Oper} {a : Act} {Q : Exit → Act → World → Prop} (s x : Operand) {p q n m cap c : Nat} {f h : Nat → Int}
    (hf : Row w p n f) (hh : Row w q m h) (hg : o.guard = none) (hop : o.op = Op.call { callee := Callee.builtin Builtin.append, args := #[s, x], argTypes := #[72, 72] })
    (hs : a.eval s = .slice (some ⟨p, 0, none⟩) n cap) (hx : a.eval x = .slice (some ⟨q, 0, none⟩) m c) (hfull : cap < n + m) (hb : n + m ≤ 4000) (hm : 0 < m)
    (hK : ∀ g cap' w', w.heap.size ≤ g → n + m ≤ cap' → Row w' g (n + m) (after n f h) → Below w.heap.size w w' → wpList Try.prog ops Q rest (a.put o.dst (.slice (some ⟨g, 0, none⟩) (n + m) cap')) w') :
    wpList Try.prog ops Q (o :: rest) a w := by
  obtain ⟨i, hi, hz0, hz1, hz2⟩ := info_parts iInt
  refine wpList_append_grows w hg s x 72 hop 3 i (.int .i64 0) 1 8 Try.underlying72 hi hz0 hz1 hz2 rfl (by decide) (some ⟨p, 0, none⟩) n cap (vals f n) hs (fun hc => by cases hc) (by rw [vals_len, Nat.mul_one])
    (fun b hb' => by cases hb'; exact vals_cells hf) ⟨q, 0, none⟩ m c (vals h m) hx (by rw [vals_len, Nat.mul_one]) (vals_cells hh) (vals_one h m) hfull (by simp only [maxLen]; omega) (by omega) ?_
  intro v' w' hown hgrow
  obtain ⟨hlen, hcase⟩ := hown
  rcases hcase with ⟨_, h0⟩ | ⟨g, cap', cur, rfl, hgb, hblk, hnc, _, hsz, htake⟩
  · omega
  · refine hK g cap' w' hgb hnc ⟨?_, fun k hk => ?_⟩ ((Below.refl _ _).grown hgrow (Nat.le_refl _) (fun k hk => by cases hk))
    · exact (Array.getElem?_eq_some_iff.1 hblk).1
    · rw [cell_of_row w' g k cur 3 (0, 0) hblk]
      have h1 : cur[k]? = (cur.toList.take ((n + m) * 1))[k]? := by rw [List.getElem?_take, if_pos (by omega), Array.getElem?_toList]
      rw [h1, htake]
      unfold after
      by_cases hkn : k < n
      · rw [if_pos hkn, List.getElem?_append_left (by rw [vals_len]; exact hkn), vals_get _ _ _ hkn]
      · rw [if_neg hkn, List.getElem?_append_right (by rw [vals_len]; omega), vals_len, vals_get _ _ _ (by omega)]

set_option maxHeartbeats 1000000 in
theorem shl_neg (a : Nat) (y : Int) (hy : y < 0) (w : World) : Calls Try.prog 164 #[W a, .int .i64 y] w fun e w' => e = .returned (.tuple #[.agg (cells8 0), .bool false]) ∧ Below w.heap.size w w' := by
  unfold W
  go_enter Try.func164, Try.ntmps164
  go_upto_region 1 with fail
  have D := hide (EnvB.of (Env.two w a 0))
  rw [cells8_0] at D
  go_wp2_with (first
    | (with_reducible refine at_list ?_; apply ldE (unhide D).e _ rfl rfl rfl (by repeat (first | exact List.mem_cons_self | apply List.mem_cons_of_mem)))
    | (with_reducible refine at_list ?_; refine bd0 40 rfl rfl bWide0 ?_)
    | (with_reducible refine at_list ?_; apply st8 (n := 0) 40 (.tmp 4) (.tmp 18) ((unhide D).e.blk (n := 0) (by repeat (first | exact List.mem_cons_self | apply List.mem_cons_of_mem))) rfl rfl rfl rfl rfl iWide))
  exact res8s (((unhide D).e.blk (n := 0) (g := w.heap.size + 1) (by repeat (first | exact List.mem_cons_self | apply List.mem_cons_of_mem))).row _) rfl rfl rfl rfl Try.underlying40 rfl iWide ⟨rfl, below_row (unhide D).e.o (by omega) _⟩
set_option maxHeartbeats 1000000 in
theorem shl_high (a : Nat) (y s : Int) (hy : 511 < y) (hs : s ≠ 0) (w : World) (hS : Hid (∀ u, Calls Try.prog 97 #[.agg (cells8 a)] u fun e w' => e = .returned (.int .i64 s) ∧ Below u.heap.size u w')) :
    Calls Try.prog 164 #[W a, .int .i64 y] w fun e w' => e = .returned (.tuple #[.agg (cells8 0), .bool false]) ∧ Below w.heap.size w w' := by
  unfold W
  go_enter Try.func164, Try.ntmps164
  go_upto_region 1 with fail
  have D := hide (EnvB.of (Env.two w a 0))
  rw [cells8_0] at D
  have hs2 : decide (s = 0) = false := decide_eq_false hs
  have hs3 : (s == 0) = false := by simp [hs]
  have hs4 : (s != 0) = true := by simp [hs]
  go_wp2_with (first
    | (with_reducible refine at_list ?_; apply ldE (unhide D).e _ rfl rfl rfl (by repeat (first | exact List.mem_cons_self | apply List.mem_cons_of_mem)))
    | (with_reducible refine at_list ?_; apply ldEw (unhide D).e _ rfl rfl rfl (by repeat (first | exact List.mem_cons_self | apply List.mem_cons_of_mem)))
    | (go_at_call 97; refine (unhide hS _).mono ?_; rintro e w1 ⟨he, hw⟩; subst he; have D := hide ((unhide D).keep hw); clear hw)
    | (with_reducible refine at_list ?_; refine bd0 40 rfl rfl bWide0 ?_)
    | (with_reducible refine at_list ?_; apply st8 (n := 0) 40 (.tmp 4) (.tmp 18) ((unhide D).e.blk (n := 0) (by repeat (first | exact List.mem_cons_self | apply List.mem_cons_of_mem))) rfl rfl rfl rfl rfl iWide))
  exact res8s (((unhide D).e.blk (n := 0) (g := w.heap.size + 1) (by repeat (first | exact List.mem_cons_self | apply List.mem_cons_of_mem))).row _) rfl rfl rfl rfl Try.underlying40 rfl iWide ⟨rfl, below_row (unhide D).e.o (by omega) _⟩
set_option maxHeartbeats 1000000 in
theorem shl_zero (a : Nat) (y s : Int) (hy : 0 ≤ y) (hs : s = 0) (w : World) (hS : Hid (∀ u, Calls Try.prog 97 #[.agg (cells8 a)] u fun e w' => e = .returned (.int .i64 s) ∧ Below u.heap.size u w')) :
    Calls Try.prog 164 #[W a, .int .i64 y] w fun e w' => e = .returned (.tuple #[.agg (cells8 a), .bool true]) ∧ Below w.heap.size w w' := by
  subst hs
  unfold W
  go_enter Try.func164, Try.ntmps164
  go_upto_region 1 with fail
  have D := hide (EnvB.of (Env.two w a 0))
  rw [cells8_0] at D
  rcases (show y ≤ 511 ∨ 511 < y by omega) with h5 | h5
  all_goals (
    go_wp2_with (first
      | (with_reducible refine at_list ?_; apply ldE (unhide D).e _ rfl rfl rfl (by repeat (first | exact List.mem_cons_self | apply List.mem_cons_of_mem)))
      | (with_reducible refine at_list ?_; apply ldEw (unhide D).e _ rfl rfl rfl (by repeat (first | exact List.mem_cons_self | apply List.mem_cons_of_mem)))
      | (go_at_call 97; refine (unhide hS _).mono ?_; rintro e w1 ⟨he, hw⟩; subst he; have D := hide ((unhide D).keep hw); clear hw)
      | (with_reducible refine at_list ?_; apply st8 (n := a) 40 (.tmp 4) (.tmp 22) ((unhide D).e.blk (n := 0) (by repeat (first | exact List.mem_cons_self | apply List.mem_cons_of_mem))) rfl rfl rfl rfl rfl iWide))
    exact res8s (((unhide D).e.blk (n := 0) (g := w.heap.size + 1) (by repeat (first | exact List.mem_cons_self | apply List.mem_cons_of_mem))).row _) rfl rfl rfl rfl Try.underlying40 rfl iWide ⟨rfl, below_row (unhide D).e.o (by omega) _⟩)
set_option maxRecDepth 4000 in
set_option maxHeartbeats 1000000 in
theorem shl_bits (a o n : Nat) (x s : Int) (F : Bool) (hn : n ≤ 511) (hs : s ≠ 0) (w : World) (hS : Hid (∀ u, Calls Try.prog 97 #[.agg (cells8 a)] u fun e w' => e = .returned (.int .i64 s) ∧ Below u.heap.size u w'))
    (hL : Hid (∀ u, Calls Try.prog 142 #[.agg (cells8 a), .int .i64 520] u fun e w' => ∃ g, u.heap.size ≤ g ∧ e = .returned (.slice (some ⟨g, 0, none⟩) 520 520) ∧ Ints w' g 520 (bz x) ∧ Below u.heap.size u w'))
    (hO : Hid (∀ u g cap, Row u g (n + 520) (after n (fun _ => 0) (bz x)) → Calls Try.prog 140 #[.slice (some ⟨g, 0, none⟩) (n + 520) cap] u fun e w' => e = .returned (.tuple #[.agg (cells8 o), .bool F]) ∧ Below u.heap.size u w')) :
    Calls Try.prog 164 #[W a, .int .i64 n] w fun e w' => e = .returned (.tuple #[.agg (cells8 o), .bool F]) ∧ Below w.heap.size w w' := by
  have hmk := run_make_row' (P := Try.prog) 72 3 (.int .i64 0) 8 Try.underlying72 iInt rfl .i64 .i64 n (by omega) (by omega)
  unfold W
  go_enter Try.func164, Try.ntmps164
  go_upto_region 1 with fail
  have D := hide (EnvB.of (Env.two w a 0))
  rw [cells8_0] at D
  have hs2 : decide (s = 0) = false := decide_eq_false hs
  have hs3 : (s == 0) = false := by simp [hs]
  have hs4 : (s != 0) = true := by simp [hs]
  have hn5 : (n : Int) ≤ 511 := by omega
  go_upto_region 6 with (first
    | (with_reducible refine at_list ?_; apply ldE (unhide D).e _ rfl rfl rfl (by repeat (first | exact List.mem_cons_self | apply List.mem_cons_of_mem)))
    | (with_reducible refine at_list ?_; apply ldEw (unhide D).e _ rfl rfl rfl (by repeat (first | exact List.mem_cons_self | apply List.mem_cons_of_mem)))
    | (go_at_call 97; refine (unhide hS _).mono ?_; rintro e w1 ⟨he, hw⟩; subst he; have D := hide ((unhide D).keep hw); clear hw))
  have HZ := hide (Ints.row (World.rowIs_made w1 (.int .i64 0) n 3 : Ints _ _ _ (fun _ => 0)))
  have D := hide ((unhide D).keep ((Below.refl w1.heap.size w1).alloc (Nat.le_refl _) (.cells (madeCells #[.int .i64 0] n) 3)))
  go_wp2_with (first
    | (with_reducible refine at_list ?_; apply ldE (unhide D).e _ rfl rfl rfl (by repeat (first | exact List.mem_cons_self | apply List.mem_cons_of_mem)))
    | (go_at_call 142; refine (unhide hL _).mono ?_; rintro e w2 ⟨g, hg, he, hr, hw⟩; subst he; have HZ := hide ((unhide HZ).below hw); have HX := hide (Ints.row hr); have D := hide ((unhide D).keep hw); clear hr hw hg)
    | (at_builtin; refine appendB (.tmp 25) (.tmp 27) (unhide HZ) (unhide HX) rfl rfl rfl rfl (by omega) (by omega) (by decide) ?_; intro g3 cap3 w3 _ _ hr3 hw3; have HR := hide hr3; have D := hide ((unhide D).keep hw3); clear hr3 hw3)
    | (go_at_call 140; refine (unhide hO _ _ _ (unhide HR)).mono ?_; rintro e w4 ⟨he, hw⟩; subst he; have D := hide ((unhide D).keep hw); clear hw)
    | (with_reducible refine at_list ?_; apply st8 (n := o) 40 (.tmp 4) (.tmp 30) ((unhide D).e.blk (n := 0) (by repeat (first | exact List.mem_cons_self | apply List.mem_cons_of_mem))) rfl rfl rfl rfl rfl iWide))
  exact res8s (((unhide D).e.blk (n := 0) (g := w.heap.size + 1) (by repeat (first | exact List.mem_cons_self | apply List.mem_cons_of_mem))).row _) rfl rfl rfl rfl Try.underlying40 rfl iWide ⟨rfl, below_row (unhide D).e.o (by omega) _⟩

theorem pow_H' (m : Nat) : ((2 ^ (511 + m) : Nat) : Int) = (H : Int) * ((2 ^ m : Nat) : Int) := by
  obtain ⟨e, he⟩ : ∃ e, e = 511 := ⟨_, rfl⟩
  rw [← he, H_511 e he, Nat.pow_add, Int.natCast_mul]
theorem bz_mul_pow (x : Int) (n k : Nat) : bz (x * ((2 ^ n : Nat) : Int)) k = after n (fun _ => 0) (bz x) k := by
  have hp := two_pow_pos n
  unfold after
  by_cases h : k < n
  · rw [if_pos h]
    obtain ⟨d, hd⟩ : ∃ d, n = k + (d + 1) := ⟨n - k - 1, by omega⟩
    unfold bz
    have hk := two_pow_pos k
    rw [hd, Nat.pow_add, Nat.pow_succ, Int.natCast_mul, Int.natCast_mul, ← Int.mul_assoc, Int.mul_comm x, Int.mul_assoc, Int.mul_ediv_cancel_left _ (by omega), ← Int.mul_assoc]
    exact Int.mul_emod_left _ _
  · rw [if_neg h]
    obtain ⟨d, hd⟩ : ∃ d, k = n + d := ⟨k - n, by omega⟩
    rw [hd, bz_shift, Int.mul_ediv_cancel _ (by omega), Nat.add_sub_cancel_left]
theorem refShl (x y : Int) (hx : Fit x) (w : World) : Calls Try.prog 164 #[V x, .int .i64 y] w fun e w' =>
    e = .returned (.tuple #[.agg (cells8 (bif (!decide (y < 0) && fit (x * ((2 ^ y.toNat : Nat) : Int))) then enc (x * ((2 ^ y.toNat : Nat) : Int)) else 0)), .bool (!decide (y < 0) && fit (x * ((2 ^ y.toNat : Nat) : Int)))]) ∧ Below w.heap.size w w' := by
  have hS : Hid (∀ u, Calls Try.prog 97 #[.agg (cells8 (enc x))] u fun e w' => e = .returned (.int .i64 (sgn x)) ∧ Below u.heap.size u w') := fun u => refSign x hx u
  by_cases hy : y < 0
  · rw [decide_eq_true hy]
    exact shl_neg (enc x) y hy w
  rw [decide_eq_false hy, Bool.not_false, Bool.true_and]
  obtain ⟨n, rfl⟩ : ∃ n : Nat, y = n := ⟨y.toNat, by omega⟩
  rw [Int.toNat_natCast]
  by_cases h0 : x = 0
  · have hs : sgn x = 0 := by rw [h0]; rfl
    have h := shl_zero (enc x) n (sgn x) (by omega) hs w hS
    rw [h0, Int.zero_mul, fit_true fit_zero]
    rw [h0] at h
    exact h
  have hs : sgn x ≠ 0 := by
    unfold sgn
    by_cases h : x < 0
    · rw [if_pos h]; decide
    · rw [if_neg h, if_neg h0]; decide
  have hp := two_pow_pos n
  have hH := HI_pos
  by_cases h5 : n ≤ 511
  · have hL : Hid (∀ u, Calls Try.prog 142 #[.agg (cells8 (enc x)), .int .i64 520] u fun e w' => ∃ g, u.heap.size ≤ g ∧ e = .returned (.slice (some ⟨g, 0, none⟩) 520 520) ∧ Ints w' g 520 (bz x) ∧ Below u.heap.size u w') := fun u => longZ x hx 520 (by decide) u
    refine shl_bits (enc x) _ n x (sgn x) _ h5 hs w hS hL (fun u g cap hr => ?_)
    have b : -((H : Int) * ((2 ^ (n + 8) : Nat) : Int)) ≤ x * ((2 ^ n : Nat) : Int) ∧ x * ((2 ^ n : Nat) : Int) < (H : Int) * ((2 ^ (n + 8) : Nat) : Int) := by
      rw [Nat.pow_add, Int.natCast_mul, show ((2 ^ 8 : Nat) : Int) = 256 from rfl]
      generalize ((2 ^ n : Nat) : Int) = P at *
      have h1 := Int.mul_le_mul_of_nonneg_right hx.1 (Int.le_of_lt hp)
      have h2 := Int.mul_lt_mul_of_pos_right hx.2 hp
      rw [Int.neg_mul] at h1
      have h3 : (H : Int) * (P * 256) = (H : Int) * P * 256 := (Int.mul_assoc _ _ _).symm
      have h4 := Int.mul_pos hH hp
      omega
    have h := ofZ (x * ((2 ^ n : Nat) : Int)) (n + 8) (n + 520) g 0 cap (by omega) (by omega) b.1 b.2 u (fun k hk => by rw [Nat.zero_add, bz_mul_pow]; exact hr.2 k hk) hr.1
    refine h.mono fun e w' ⟨he, hb⟩ => ⟨?_, hb⟩
    rw [he]
    cases fit (x * ((2 ^ n : Nat) : Int)) <;> rfl
  · have hf : fit (x * ((2 ^ n : Nat) : Int)) = false := by
      cases hc : fit (x * ((2 ^ n : Nat) : Int)) with
      | false => rfl
      | true =>
        exfalso
        have hf := Fit.of hc
        obtain ⟨m, hm⟩ : ∃ m, n = 511 + (m + 1) := ⟨n - 512, by omega⟩
        rw [hm, pow_H', Nat.pow_succ, Int.natCast_mul] at hf
        have hq := two_pow_pos m
        generalize ((2 ^ m : Nat) : Int) = P at *
        have e2 : x * ((H : Int) * (P * ((2 : Nat) : Int))) = (H : Int) * (x * P * 2) := by
          rw [← Int.mul_assoc, Int.mul_comm x, Int.mul_assoc, ← Int.mul_assoc x]; rfl
        rw [e2] at hf
        have h1 := hf.1
        have h2 := hf.2
        have h3 : x * P * 2 < 1 := by
          rcases (show x * P * 2 < 1 ∨ 1 ≤ x * P * 2 by omega) with h | h
          · exact h
          · have := Int.mul_le_mul_of_nonneg_left h (Int.le_of_lt hH); omega
        have h4 : -1 ≤ x * P * 2 := by
          rcases (show -1 ≤ x * P * 2 ∨ x * P * 2 ≤ -2 by omega) with h | h
          · exact h
          · have := Int.mul_le_mul_of_nonneg_left h (Int.le_of_lt hH); omega
        have h6 : x * P = 0 := by omega
        rcases Int.mul_eq_zero.1 h6 with h | h
        · exact h0 h
        · omega
    rw [hf]
    exact shl_high (enc x) n (sgn x) (by omega) hs w hS

end Go.Proofs.Ytbgafjdgahikcaa
