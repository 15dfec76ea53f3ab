/- What a function of bits knows: numbers in blocks, and rows of bits; the contracts of Long, plus, minus and Of in these words. The document's Add and Sub. The document's Below, Sign, size, top and Count. The document's Shr and Shl. What is appended to bits; the document's Shl. The document's Mul: of the absolute values, by adding, bit by bit; then with its sign. The document's Mul: its loops. The document's least and further; rows of bits that are the first cells of a block. The document's Sqrt: as by hand, two bits at a time. The document's Div: its numbers, what is left and the quotient so far, place by place; then by taking away what is shifted, of the absolute values; then rounded down. The document's Div over integers. The document's Cmp: the sign of the difference. The document's numbers of layer 2: raw, Within, Quotient. The document's numbers of layer 2: Of, Add, Sub, Mul, Div, In, Clamp, Floor. The document's numbers of layer 2, In; of layer 3: integers, exact sums, Add, Sub, Scale, Dot, Cross, Move. -/
import Derived.Test.YtnemedgdhojhdaaGreatRd
import Derived.Test.YtnemedgdhojhdaaGreatZn
import Derived.ArgAppend
import Derived.Test.YtnemedgdhojhdaaGreatZj
import Derived.Deep.DeepCutAuto
import Derived.Test.YtnemedgdhojhdaaGreatFd
import Derived.Test.YtnemedgdhojhdaaGreatVu
namespace Go.Proofs.YtnemedgdhojhdaaGreat
open Go.RowKit
set_option maxRecDepth 4000

/-- Numbers in their blocks, and rows of bits in theirs: block, how many, of which integer. -/
structure EnvB (w0 : World) (l : List (Nat × Nat)) (rs : List (Nat × Nat × Int)) (w : World) : Prop where
  e : Env w0 l w
  r : ∀ p ∈ rs, Ints w p.1 p.2.1 (bz p.2.2)
theorem ints_below {w w' : World} {g n : Nat} {f : Nat → Int} (h : Ints w g n f) (hb : Below w.heap.size w w') : Ints w' g n f := World.rowIs.of_block h (hb.block _ (World.rowIs.lt h))
theorem EnvB.keep {w0 w w' : World} {l : List (Nat × Nat)} {rs : List (Nat × Nat × Int)} (d : EnvB w0 l rs w) (hb : Below w.heap.size w w') : EnvB w0 l rs w' :=
  ⟨d.e.keep hb, fun p hp => ints_below (d.r p hp) hb⟩
theorem EnvB.row {w0 w : World} {l : List (Nat × Nat)} {rs : List (Nat × Nat × Int)} {g n : Nat} {z : Int} (d : EnvB w0 l rs w) (h : Ints w g n (bz z)) : EnvB w0 l ((g, n, z) :: rs) w := by
  refine ⟨d.e, fun p hp => ?_⟩
  rcases List.mem_cons.1 hp with e | hp
  · subst e; exact h
  · exact d.r p hp
theorem EnvB.drew {w0 w : World} {l : List (Nat × Nat)} {rs : List (Nat × Nat × Int)} (d : EnvB w0 l rs w) : EnvB w0 l rs w.drew := ⟨d.e.drew, fun p hp => World.rowIs.drew (d.r p hp)⟩
theorem EnvB.of {w0 w : World} {l : List (Nat × Nat)} (d : Env w0 l w) : EnvB w0 l [] w := ⟨d, fun _ h => (List.not_mem_nil h).elim⟩
theorem EnvB.cells {w0 w : World} {l : List (Nat × Nat)} {rs : List (Nat × Nat × Int)} {p n : Nat} {x : Int} (d : EnvB w0 l rs w) (h : (p, n, x) ∈ rs) : ∀ k, k < n → w.cell? ⟨p, 0 + k, none⟩ = some (.int .i64 (bz x k)) := by
  intro k hk
  rw [Nat.zero_add]
  exact World.rowIs.cell (d.r _ h) hk
theorem EnvB.lt {w0 w : World} {l : List (Nat × Nat)} {rs : List (Nat × Nat × Int)} {p n : Nat} {x : Int} (d : EnvB w0 l rs w) (h : (p, n, x) ∈ rs) : p < w.heap.size := World.rowIs.lt (d.r _ h)

/-- A whole row of bits, as a slice. -/
abbrev sl (g n : Nat) : Value := .slice (some ⟨g, 0, none⟩) n n
section
variable {w0 w : World} {l : List (Nat × Nat)} {rs : List (Nat × Nat × Int)} {R : Ending → World → Prop} {p q n : Nat} {x y : Int}
theorem longE (d : EnvB w0 l rs w) (z : Int) (hz : Fit z) (n : Nat) (hn : n ≤ 4000) (k : ∀ g w', EnvB w0 l ((g, n, z) :: rs) w' → R (.returned (sl g n)) w') : Calls Tryz.prog 118 #[V z, .int .i64 n] w R :=
  (longZ z hz n hn w).mono fun _ w' ⟨g, _, he, hr, hb⟩ => he ▸ k g w' ((d.keep hb).row hr)
theorem plusE (d : EnvB w0 l rs w) (hn : n ≤ 4000) (hp : (p, n, x) ∈ rs) (hq : (q, n, y) ∈ rs) (k : ∀ g w', EnvB w0 l ((g, n, x + y) :: rs) w' → R (.returned (sl g n)) w') :
    Calls Tryz.prog 120 #[sl p n, sl q n] w R :=
  (plus_bits x y n p q 0 0 n n hn w (d.cells hp) (d.cells hq) (d.lt hp) (d.lt hq)).mono fun _ w' ⟨g, _, he, hr, hb⟩ => he ▸ k g w' ((d.keep hb).row hr)
theorem minusE (d : EnvB w0 l rs w) (hn : n ≤ 4000) (hp : (p, n, x) ∈ rs) (k : ∀ g w', EnvB w0 l ((g, n, -x) :: rs) w' → R (.returned (sl g n)) w') :
    Calls Tryz.prog 121 #[sl p n] w R :=
  (minus_bits x n p 0 n hn w (d.cells hp) (d.lt hp)).mono fun _ w' ⟨g, _, he, hr, hb⟩ => he ▸ k g w' ((d.keep hb).row hr)
/-- What is answered, and whether it fits. -/
def fitN (z : Int) : Nat := bif fit z then enc z else 0
theorem fitN_eq (z : Int) : fitN z = enc (if fit z then z else 0) := by unfold fitN; cases fit z <;> rfl
theorem ofE (d : EnvB w0 l rs w) (m : Nat) (hm : n = 512 + m) (hn : n ≤ 4000) (hp : (p, n, x) ∈ rs) (h1 : -((H : Int) * ((2 ^ m : Nat) : Int)) ≤ x) (h2 : x < (H : Int) * ((2 ^ m : Nat) : Int))
    (k : ∀ w', EnvB w0 l rs w' → R (.returned (.tuple #[.agg (cells8 (fitN x)), .bool (fit x)])) w') :
    Calls Tryz.prog 122 #[sl p n] w R :=
  (ofZ x m n p 0 n hm hn h1 h2 w (d.cells hp) (d.lt hp)).mono fun e w' ⟨he, hb⟩ => by rw [he]; have := k w' (d.keep hb); rw [fitN_eq] at this; exact this
end
theorem wide8 (H x : Int) (h1 : -(2 * H) ≤ x) (h2 : x ≤ 2 * H) (hH : 0 < H) : -(H * ((2 ^ 8 : Nat) : Int)) ≤ x ∧ x < H * ((2 ^ 8 : Nat) : Int) := by
  rw [show ((2 ^ 8 : Nat) : Int) = 256 from rfl]
  omega
theorem HI_pos : 0 < (H : Int) := by have := H_pos; omega

theorem Env.row {w0 w : World} {l : List (Nat × Nat)} {g : Nat} (d : Env w0 l w) (hg : w0.heap.size ≤ g) (hne : ∀ p ∈ l, p.1 ≠ g) (cs : Array Value) : Env w0 l (w.setRow g cs) :=
  ⟨fun p hp => (d.at_ p hp).rowOther cs (hne p hp), below_row d.o hg cs⟩
theorem Env.tail {w0 w : World} {p : Nat × Nat} {l : List (Nat × Nat)} (d : Env w0 (p :: l) w) : Env w0 l w := ⟨fun q hq => d.at_ q (List.mem_cons_of_mem _ hq), d.o⟩
section
variable {ops : Array Oper} {Q : Exit → Act → World → Prop} {S : World → Prop} {tn : Nat → Bool} {i : Nat} {r : List Nat} {a : Act} {w : World} {o : Oper}
/-- A number into its block. -/
theorem walk_store8 {old : Array Value} {n g : Nat} {t : TypeId} (ty : TypeId) (x y : Operand) (ho : ops[i]? = some o) (hw : Region.wanted o (yielded ops a.tmps) = true) (ht : tn i = true) (hg : Blk w g t old) (hold : old.size = 8) (hop : o.op = .store ty x y) (hx : a.eval x = .pointer (some ⟨g, 0, none⟩)) (hy : a.eval y = .agg (cells8 n))
    (hi : (Tryz.prog.info? ty).map (·.size) = some 8) (hS : S (w.setRow g (cells8 n))) (hr : Walk Tryz.prog ops S Q tn r (a.put o.dst undef) (w.setRow g (cells8 n))) : Walk Tryz.prog ops S Q tn (i :: r) a w :=
  ⟨o, ho, .inr (.inr ⟨hw, ht, by rw [exec_store8 ty x y hg hold hop hx hy hi]; exact ⟨hS, hr⟩⟩)⟩
end
theorem ne3a (s a b : Nat) : ∀ p ∈ [(s + 1, b), (s, a)], p.1 ≠ s + 1 + 1 := by
  intro p hp
  simp only [List.mem_cons, List.not_mem_nil, or_false] at hp
  rcases hp with rfl | rfl
  · show s + 1 ≠ _; omega
  · show s ≠ _; omega

set_option maxHeartbeats 1000000 in
theorem refAdd (x y : Int) (hx : Fit x) (hy : Fit y) (w : World) : Calls Tryz.prog 87 #[V x, V y] w fun e w' => e = .returned (.tuple #[.agg (cells8 (fitN (x + y))), .bool (fit (x + y))]) ∧ Below w.heap.size w w' := by
  have hxy := hide (wide8 H (x + y) (by have := hx.1; have := hy.1; omega) (by have := hx.2; have := hy.2; omega) HI_pos)
  have Hx := hide hx
  have Hy := hide hy
  clear hx hy
  unfold V
  go_enter Tryz.func87, Tryz.ntmps87
  go_upto_region 1 with fail
  have D := hide (EnvB.of (Env.three w (enc x) (enc y) 0))
  rw [cells8_0] at D
  refine region_walk (S := Env w [(w.heap.size + 1, enc y), (w.heap.size, enc x)]) (l := [0, 2, 1, 3, 4, 5, 6, 7, 8, 9]) (t := [1, 3, 4, 5, 8]) (by kernel_rfl) (by kernel_rfl) (by kernel_rfl) (by kernel_rfl) (by kernel_rfl) (by kernel_rfl) (by kernel_rfl) (by kernel_rfl) ?_ ?_
  · exact (unhide D).drew.e.tail
  refine walk_read rfl rfl rfl (fun u hS => exec_load8 (n := enc x) 75 (.tmp 2) (hS.blk (by repeat (first | exact List.mem_cons_self | apply List.mem_cons_of_mem))) rfl rfl Tryz.underlying75 rfl iWide) ?_
  refine walk_read rfl rfl rfl (fun u hS => exec_load8 (n := enc y) 75 (.tmp 3) (hS.blk (by repeat (first | exact List.mem_cons_self | apply List.mem_cons_of_mem))) rfl rfl Tryz.underlying75 rfl iWide) ?_
  go_simp
  refine walk_call (f := 118) (args := #[V x, .int .i64 520]) rfl rfl rfl (by go_simp) ?_
  refine longE (unhide D).drew x (unhide Hx) 520 (by decide) ?_
  intro g1 w1 D1
  refine ⟨_, rfl, D1.e.tail, ?_⟩
  go_simp
  refine walk_call (f := 118) (args := #[V y, .int .i64 520]) rfl rfl rfl (by go_simp) ?_
  refine longE D1 y (unhide Hy) 520 (by decide) ?_
  intro g2 w2 D2
  refine ⟨_, rfl, D2.e.tail, ?_⟩
  go_simp
  refine walk_call (f := 120) (args := #[sl g1 520, sl g2 520]) rfl rfl rfl (by go_simp) ?_
  apply plusE D2 (by decide) (x := x) (y := y) (by repeat (first | exact List.mem_cons_self | apply List.mem_cons_of_mem)) (by repeat (first | exact List.mem_cons_self | apply List.mem_cons_of_mem))
  intro g3 w3 D3
  refine ⟨_, rfl, D3.e.tail, ?_⟩
  go_simp
  refine walk_call (f := 122) (args := #[sl g3 520]) rfl rfl rfl (by go_simp) ?_
  apply ofE D3 8 rfl (by decide) (by repeat (first | exact List.mem_cons_self | apply List.mem_cons_of_mem)) (unhide hxy).1 (unhide hxy).2
  intro w4 D4
  refine ⟨_, rfl, D4.e.tail, ?_⟩
  go_simp
  refine walk_read (v := ?_) rfl rfl rfl (fun u hS => by go_simp; rfl) ?_
  refine walk_read (v := ?_) rfl rfl rfl (fun u hS => by go_simp; rfl) ?_
  go_simp
  refine walk_store8 (n := fitN (x + y)) 75 (.tmp 4) (.tmp 12) rfl rfl rfl (D4.e.blk List.mem_cons_self) rfl rfl rfl rfl iWide (D4.e.tail.row (by omega) (ne3a _ _ _) _) ?_
  refine walk_read (v := ?_) rfl rfl rfl (fun u hS => by go_simp; rfl) ?_
  go_simp
  refine walk_end ?_
  have B4 := hide D4.e.o
  have R4 := hide (D4.e.blk List.mem_cons_self)
  clear D D1 D2 D3 D4
  go_wp2
  exact res8s ((unhide R4).row _) rfl rfl rfl rfl Tryz.underlying75 rfl iWide ⟨rfl, below_row (unhide B4) (by omega) _⟩

theorem below_top (n : Nat) (b : Bool) (hb : Hid (decide (9223372036854775808 ≤ lm n 7) = b)) (w : World) : Calls Tryz.prog 113 #[W n] w fun e w' => e = .returned (.bool b) ∧ Below w.heap.size w w' := by
  unfold W
  go_enter Tryz.func113, Tryz.ntmps113
  go_upto_region 1 with fail
  have h7 : (w.alloc (.cells (cells8 n) 75)).cell? ⟨w.heap.size, 7, none⟩ = some (.int .u64 (lm n 7)) := (Blk.new w 75 (cells8 n)).cell 7
  generalize lm n 7 = L at *
  go_wp2
  go_ret
  exact ⟨by rw [← hb.out]; rfl, (Below.refl _ _).alloc (Nat.le_refl _) _⟩
theorem refBelow (z : Int) (hz : Fit z) (w : World) : Calls Tryz.prog 113 #[V z] w fun e w' => e = .returned (.bool (decide (z < 0))) ∧ Below w.heap.size w w' :=
  below_top (enc z) _ (by rw [← neg_enc hz, neg_top]; exact rfl) w

/-- The bits of the absolute value. -/
theorem size_bits (n : Nat) (z : Int) (hz : Hid (Fit z)) (hn : Hid (cells8 n = cells8 (enc z))) (b : Bool) (hb : Hid (decide (z < 0) = b)) (w : World) :
    Calls Tryz.prog 138 #[W n] w fun e w' => ∃ g, w.heap.size ≤ g ∧ e = .returned (sl g 520) ∧ Ints w' g 520 (bz (bif b then -z else z)) ∧ Below w.heap.size w w' := by
  unfold W
  go_enter Tryz.func138, Tryz.ntmps138
  go_upto_region 1 with fail
  have D := hide (EnvB.of (Env.one w n))
  have hL : Hid (∀ u, Calls Tryz.prog 118 #[.agg (cells8 n), .int .i64 520] u fun e w' => ∃ g, u.heap.size ≤ g ∧ e = .returned (.slice (some ⟨g, 0, none⟩) 520 520) ∧ Ints w' g 520 (bz z) ∧ Below u.heap.size u w') := fun u => by rw [hn.out]; exact longZ z hz.out 520 (by decide) u
  have hB : Hid (∀ u, Calls Tryz.prog 113 #[.agg (cells8 n)] u fun e w' => e = .returned (.bool b) ∧ Below u.heap.size u w') := fun u => by rw [hn.out, ← hb.out]; exact refBelow z hz.out u
  cases b
  · go_wp2_with (first
      | (with_reducible refine at_list ?_; apply ldE (unhide D).e _ rfl rfl rfl (by repeat (first | exact List.mem_cons_self | apply List.mem_cons_of_mem)))
      | (go_at_call 118; refine (unhide hL _).mono ?_; rintro e w1 ⟨g, hg, he, hr, hw⟩; subst he; have hg1 := hide hg; have D := hide (((unhide D).keep hw).row hr); clear hr hw hg)
      | (go_at_call 113; refine (unhide hB _).mono ?_; rintro e w2 ⟨he, hw⟩; subst he; have D := hide ((unhide D).keep hw); clear hw))
    go_ret
    refine ⟨g, ?_, rfl, (unhide D).r _ List.mem_cons_self, (unhide D).e.o⟩
    have := hg1.out
    simp at this
    omega
  · go_wp2_with (first
      | (with_reducible refine at_list ?_; apply ldE (unhide D).e _ rfl rfl rfl (by repeat (first | exact List.mem_cons_self | apply List.mem_cons_of_mem)))
      | (go_at_call 118; refine (unhide hL _).mono ?_; rintro e w1 ⟨g, hg, he, hr, hw⟩; subst he; have D := hide (((unhide D).keep hw).row hr); clear hr hw hg)
      | (go_at_call 113; refine (unhide hB _).mono ?_; rintro e w2 ⟨he, hw⟩; subst he; have D := hide ((unhide D).keep hw); clear hw)
      | (go_at_call 121; refine (minus_bits z 520 _ 0 520 (by decide) _ ((unhide D).cells List.mem_cons_self) ((unhide D).lt List.mem_cons_self)).mono ?_; rintro e w3 ⟨g3, hg, he, hr, hw⟩; subst he; have hg3 := hide (Nat.le_trans (unhide D).e.o.size hg); have D := hide (((unhide D).keep hw).row hr); clear hr hw hg))
    go_ret
    exact ⟨g3, hg3.out, rfl, (unhide D).r _ List.mem_cons_self, (unhide D).e.o⟩
theorem refSize (z : Int) (hz : Fit z) (w : World) : Calls Tryz.prog 138 #[V z] w fun e w' => ∃ g, w.heap.size ≤ g ∧ e = .returned (sl g 520) ∧ Ints w' g 520 (bz (z.natAbs : Int)) ∧ Below w.heap.size w w' := by
  have h := size_bits (enc z) z hz rfl (decide (z < 0)) rfl w
  have e : (bif decide (z < 0) then -z else z) = (z.natAbs : Int) := by
    by_cases h0 : z < 0
    · rw [decide_eq_true h0]; show -z = _; omega
    · rw [decide_eq_false h0]; show z = _; omega
  rw [e] at h
  exact h

/-- How many bits there are up to the last 1. -/
theorem top_bits (m n p o1 c1 : Nat) (hn : n ≤ 4000) (hm : Hid (m < 2 ^ n)) (w : World) (hp : ∀ k, k < n → w.cell? ⟨p, o1 + k, none⟩ = some (.int .i64 (bz (m : Int) k))) :
    Calls Tryz.prog 139 #[.slice (some ⟨p, o1, none⟩) n c1] w fun e w' => e = .returned (.int .i64 (blen m : Nat)) ∧ w' = w := by
  have HP : Hid (∀ k, k < n → w.cell? ⟨p, o1 + k, none⟩ = some (.int .i64 (bz (m : Int) k))) := hp
  clear hp
  go_enter Tryz.func139, Tryz.ntmps139
  go_wp2_with fail
  go_loopw [3] (fun i wr => ∃ k : Nat, k ≤ n ∧ i = .int .i64 k ∧ Hid (m < 2 ^ k) ∧ wr = w) (fun i _ => (intOf i).toNat)
  case atStart => exact ⟨n, Nat.le_refl _, rfl, hm, rfl⟩
  case round =>
    obtain ⟨k, hk, rfl, hmk, rfl⟩ := hrel
    rcases Nat.eq_zero_or_pos k with rfl | hpos
    · go_wp2
      go_ret
      have h0 : m = 0 := by have := hmk.out; simp at this; exact this
      exact ⟨by rw [h0]; rfl, rfl⟩
    · obtain ⟨j, rfl⟩ : ∃ j, k = j + 1 := ⟨k - 1, by omega⟩
      have hj : ((j + 1 : Nat) : Int) = (j : Int) + 1 := by omega
      rw [hj]
      have h1 := HP.out j (by omega)
      have hb : bz (m : Int) j = if 2 ^ j ≤ m then 1 else 0 := by
        have h2 := hmk.out
        rw [Nat.pow_succ] at h2
        unfold bz
        have h3 : (m : Int) / ((2 ^ j : Nat) : Int) % 2 = ((m / 2 ^ j % 2 : Nat) : Int) := by rw [Int.natCast_emod, Int.natCast_ediv]; rfl
        rw [h3]
        have hp := Nat.pow_pos (n := j) (show 0 < 2 by decide)
        by_cases h : 2 ^ j ≤ m
        · rw [if_pos h, show m / 2 ^ j = 1 from Nat.div_eq_of_lt_le (by omega) (by omega)]; rfl
        · rw [if_neg h, Nat.div_eq_of_lt (by omega)]; rfl
      by_cases h : 2 ^ j ≤ m
      · rw [hb, if_pos h] at h1
        have hl : Hid (blen m = j + 1) := by
          have h2 := (blen_lt m (j + 1)).2 hmk.out
          have h3 : ¬ blen m ≤ j := fun hc => by have := (blen_lt m j).1 hc; omega
          show blen m = j + 1
          omega
        clear h hb
        go_wp2
        go_ret
        exact ⟨by rw [hl.out]; rfl, rfl⟩
      · rw [hb, if_neg h] at h1
        have hl : Hid (m < 2 ^ j) := by show m < 2 ^ j; omega
        clear h hb
        go_wp2
        go_roundw
        case rel => exact ⟨j, by omega, by go_num, hl, trivial⟩
        case measure => simp [intOf]

theorem sign_limbs (n : Nat) (s : Int) (b : Bool) (hB : Hid (∀ u, Calls Tryz.prog 113 #[.agg (cells8 n)] u fun e w' => e = .returned (.bool b) ∧ Below u.heap.size u w'))
    (hb : Hid (b = true → s = -1)) (h1 : Hid (b = false → (∃ j, j < 8 ∧ lm n j ≠ 0) → s = 1)) (h0 : Hid (b = false → (∀ j, j < 8 → lm n j = 0) → s = 0)) (w : World) :
    Calls Tryz.prog 76 #[W n] w fun e w' => e = .returned (.int .i64 s) ∧ Below w.heap.size w w' := by
  unfold W
  go_enter Tryz.func76, Tryz.ntmps76
  go_upto_region 1 with fail
  have D := hide (Env.one w n)
  cases b
  · go_wp2_with (first
      | (with_reducible refine at_list ?_; apply ldE (unhide D) _ rfl rfl rfl (by repeat (first | exact List.mem_cons_self | apply List.mem_cons_of_mem)))
      | (go_at_call 113; refine (unhide hB _).mono ?_; rintro e w1 ⟨he, hw⟩; subst he; have D := hide ((unhide D).keep hw); clear hw))
    go_loopw [3] (fun i wr => ∃ k : Nat, k ≤ 8 ∧ i = .int .i64 k ∧ Hid (∀ j, j < k → lm n j = 0) ∧ wr = w1) (fun i _ => 8 - (intOf i).toNat)
    case atStart => exact ⟨0, by omega, rfl, fun j hj => by omega, rfl⟩
    case round =>
      obtain ⟨k, hk, rfl, hz, rfl⟩ := hrel
      by_cases hlt : k < 8
      · have hg : (k : Int) < 8 := by omega
        have h2 := ((unhide D).blk List.mem_cons_self).cell k
        rw [cells8_get _ _ hlt] at h2
        by_cases h3 : lm n k = 0
        · rw [h3] at h2
          have H3 := hide h3
          clear h3
          go_wp2
          go_roundw
          case rel => exact ⟨k + 1, by omega, by go_num, fun j hj => by
            rcases (show j < k ∨ j = k by omega) with h | h
            · exact hz.out j h
            · rw [h]; exact H3.out, trivial⟩
          case measure => simp [intOf]; omega
        · have hs := hide (h1.out (by trivial) ⟨k, hlt, h3⟩)
          have h4 : decide (lm n k = 0) = false := decide_eq_false h3
          generalize lm n k = L at *
          go_wp2
          go_ret
          exact ⟨by rw [hs.out]; rfl, (unhide D).o⟩
      · have hs := hide (h0.out (by trivial) fun j hj => hz.out j (by omega))
        go_wp2
        go_ret
        exact ⟨by rw [hs.out]; rfl, (unhide D).o⟩
  · have hs := hide (hb.out rfl)
    go_wp2_with (first
      | (with_reducible refine at_list ?_; apply ldE (unhide D) _ rfl rfl rfl (by repeat (first | exact List.mem_cons_self | apply List.mem_cons_of_mem)))
      | (go_at_call 113; refine (unhide hB _).mono ?_; rintro e w1 ⟨he, hw⟩; subst he; have D := hide ((unhide D).keep hw); clear hw))
    go_ret
    exact ⟨by rw [hs.out]; rfl, (unhide D).o⟩
theorem limbs_zero {z : Int} (hz : Fit z) : (∀ j, j < 8 → lm (enc z) j = 0) ↔ z = 0 := by
  have h := eq8_mod (enc z) (enc 0)
  have h2 : decide (enc z % M = enc 0 % M) = decide (z = 0) := same_enc hz fit_zero
  rw [h2] at h
  rw [← decide_eq_true_iff (p := z = 0), ← h]
  simp only [List.all_eq_true, List.mem_range, beq_iff_eq]
  have e : ∀ j, lm (enc 0) j = 0 := fun j => lm_zero j
  constructor
  · intro h j hj; rw [e, h j hj]
  · intro h j hj; rw [h j hj, e]
theorem refSign (z : Int) (hz : Fit z) (w : World) : Calls Tryz.prog 76 #[V z] w fun e w' => e = .returned (.int .i64 (sgn z)) ∧ Below w.heap.size w w' := by
  refine sign_limbs (enc z) (sgn z) (decide (z < 0)) (fun u => refBelow z hz u) ?_ ?_ ?_ w
  · intro h
    have h' : z < 0 := of_decide_eq_true h
    unfold sgn; rw [if_pos h']
  · intro h hj
    have h' : ¬ z < 0 := of_decide_eq_false h
    have hn : z ≠ 0 := fun hc => by
      obtain ⟨j, hj8, hjn⟩ := hj
      exact hjn ((limbs_zero hz).2 hc j hj8)
    unfold sgn; rw [if_neg h', if_neg hn]
  · intro h hj
    have h' : ¬ z < 0 := of_decide_eq_false h
    have h0 := (limbs_zero hz).1 hj
    unfold sgn; rw [if_neg h', if_pos h0]

end Go.Proofs.YtnemedgdhojhdaaGreat

namespace Go.Proofs.YtnemedgdhojhdaaGreat
open Go.RowKit
set_option maxRecDepth 4000

theorem bz_shift (z : Int) (n k : Nat) : bz z (n + k) = bz (z / ((2 ^ n : Nat) : Int)) k := by
  unfold bz
  rw [Nat.pow_add, Int.natCast_mul, ← Int.ediv_ediv_of_nonneg (Int.natCast_nonneg _)]

/-- The first n ints of block p. -/
def Row (w : World) (p n : Nat) (f : Nat → Int) : Prop := p < w.heap.size ∧ ∀ k, k < n → w.cell? ⟨p, k, none⟩ = some (.int .i64 (f k))
theorem Ints.row {w : World} {p n : Nat} {f : Nat → Int} (h : Ints w p n f) : Row w p n f := ⟨World.rowIs.lt h, fun _ hk => World.rowIs.cell h hk⟩
theorem Row.below {w w' : World} {p n : Nat} {f : Nat → Int} (h : Row w p n f) (hb : Below w.heap.size w w') : Row w' p n f := ⟨Nat.lt_of_lt_of_le h.1 hb.size, fun k hk => (hb.cell (by exact h.1)).trans (h.2 k hk)⟩
theorem Row.drew {w : World} {p n : Nat} {f : Nat → Int} (h : Row w p n f) : Row w.drew p n f := h
theorem Row.congr {w : World} {p n : Nat} {f g : Nat → Int} (h : Row w p n f) (e : ∀ k, k < n → f k = g k) : Row w p n g := ⟨h.1, fun k hk => by rw [← e k hk]; exact h.2 k hk⟩
theorem Row.less {w : World} {p n m : Nat} {f : Nat → Int} (h : Row w p n f) (hm : m ≤ n) : Row w p m f := ⟨h.1, fun k hk => h.2 k (by omega)⟩
/-- One row behind another one. -/
def after (n : Nat) (f h : Nat → Int) (k : Nat) : Int := if k < n then f k else h (k - n)
def vals (f : Nat → Int) (n : Nat) : List Value := (List.range n).map fun k => .int .i64 (f k)
theorem vals_get (f : Nat → Int) (n j : Nat) (hj : j < n) : (vals f n)[j]? = some (.int .i64 (f j)) := by simp [vals, hj]
theorem vals_len (f : Nat → Int) (n : Nat) : (vals f n).length = n := by simp [vals]
theorem add_off (g j : Nat) : (⟨g, 0, none⟩ : Addr).add j = ⟨g, j, none⟩ := by unfold Addr.add; split <;> simp_all
theorem vals_cells {w : World} {p n : Nat} {f : Nat → Int} (h : Row w p n f) : ∀ j u, (vals f n)[j]? = some u → w.cell? ((⟨p, 0, none⟩ : Addr).add j) = some u := by
  intro j u hj
  have hlt : j < n := by
    have := (List.getElem?_eq_some_iff.1 hj).1
    rwa [vals_len] at this
  rw [vals_get _ _ _ hlt] at hj
  rw [add_off, h.2 j hlt, hj]
theorem vals_one (f : Nat → Int) (n : Nat) : ∀ u ∈ vals f n, u.oneCell' = true := by
  intro u hu
  simp only [vals, List.mem_map] at hu
  obtain ⟨k, _, rfl⟩ := hu
  rfl

/-- A row behind another one, in a new block. -/
theorem appendB {w : World} {ops : Array Oper} {rest : List Oper} {o : Oper} {a : Act} {Q : Exit → Act → World → Prop} (s x : Operand) {p q n m cap c : Nat} {f h : Nat → Int}
    (hf : Row w p n f) (hh : Row w q m h) (hg : o.guard = none) (hop : o.op = Op.call { callee := Callee.builtin Builtin.append, args := #[s, x], argTypes := #[116, 116] })
    (hs : a.eval s = .slice (some ⟨p, 0, none⟩) n cap) (hx : a.eval x = .slice (some ⟨q, 0, none⟩) m c) (hfull : cap < n + m) (hb : n + m ≤ 4000) (hm : 0 < m)
    (hK : ∀ g cap' w', w.heap.size ≤ g → n + m ≤ cap' → Row w' g (n + m) (after n f h) → Below w.heap.size w w' → wpList Tryz.prog ops Q rest (a.put o.dst (.slice (some ⟨g, 0, none⟩) (n + m) cap')) w') :
    wpList Tryz.prog ops Q (o :: rest) a w := by
  obtain ⟨i, hi, hz0, hz1, hz2⟩ := info_parts iInt
  refine wpList_append_grows w hg s x 116 hop 3 i (.int .i64 0) 1 8 Tryz.underlying116 hi hz0 hz1 hz2 rfl (by decide) (some ⟨p, 0, none⟩) n cap (vals f n) hs (fun hc => by cases hc) (by rw [vals_len, Nat.mul_one])
    (fun b hb' => by cases hb'; exact vals_cells hf) ⟨q, 0, none⟩ m c (vals h m) hx (by rw [vals_len, Nat.mul_one]) (vals_cells hh) (vals_one h m) hfull (by simp only [maxLen]; omega) (by omega) ?_
  intro v' w' hown hgrow
  obtain ⟨hlen, hcase⟩ := hown
  rcases hcase with ⟨_, h0⟩ | ⟨g, cap', cur, rfl, hgb, hblk, hnc, _, hsz, htake⟩
  · omega
  · refine hK g cap' w' hgb hnc ⟨?_, fun k hk => ?_⟩ ((Below.refl _ _).grown hgrow (Nat.le_refl _) (fun k hk => by cases hk))
    · exact (Array.getElem?_eq_some_iff.1 hblk).1
    · rw [cell_of_row w' g k cur 3 (0, 0) hblk]
      have h1 : cur[k]? = (cur.toList.take ((n + m) * 1))[k]? := by rw [List.getElem?_take, if_pos (by omega), Array.getElem?_toList]
      rw [h1, htake]
      unfold after
      by_cases hkn : k < n
      · rw [if_pos hkn, List.getElem?_append_left (by rw [vals_len]; exact hkn), vals_get _ _ _ hkn]
      · rw [if_neg hkn, List.getElem?_append_right (by rw [vals_len]; omega), vals_len, vals_get _ _ _ (by omega)]

set_option maxHeartbeats 1000000 in
theorem shl_neg (a : Nat) (y : Int) (hy : y < 0) (w : World) : Calls Tryz.prog 141 #[W a, .int .i64 y] w fun e w' => e = .returned (.tuple #[.agg (cells8 0), .bool false]) ∧ Below w.heap.size w w' := by
  unfold W
  go_enter Tryz.func141, Tryz.ntmps141
  go_upto_region 1 with fail
  have D := hide (EnvB.of (Env.two w a 0))
  rw [cells8_0] at D
  go_wp2_with (first
    | (with_reducible refine at_list ?_; apply ldE (unhide D).e _ rfl rfl rfl (by repeat (first | exact List.mem_cons_self | apply List.mem_cons_of_mem)))
    | (with_reducible refine at_list ?_; refine bd0 75 rfl rfl bWide0 ?_)
    | (with_reducible refine at_list ?_; apply st8 (n := 0) 75 (.tmp 4) (.tmp 18) ((unhide D).e.blk (n := 0) (by repeat (first | exact List.mem_cons_self | apply List.mem_cons_of_mem))) rfl rfl rfl rfl rfl iWide))
  exact res8s (((unhide D).e.blk (n := 0) (g := w.heap.size + 1) (by repeat (first | exact List.mem_cons_self | apply List.mem_cons_of_mem))).row _) rfl rfl rfl rfl Tryz.underlying75 rfl iWide ⟨rfl, below_row (unhide D).e.o (by omega) _⟩
set_option maxHeartbeats 1000000 in
theorem shl_high (a : Nat) (y s : Int) (hy : 511 < y) (hs : s ≠ 0) (w : World) (hS : Hid (∀ u, Calls Tryz.prog 76 #[.agg (cells8 a)] u fun e w' => e = .returned (.int .i64 s) ∧ Below u.heap.size u w')) :
    Calls Tryz.prog 141 #[W a, .int .i64 y] w fun e w' => e = .returned (.tuple #[.agg (cells8 0), .bool false]) ∧ Below w.heap.size w w' := by
  unfold W
  go_enter Tryz.func141, Tryz.ntmps141
  go_upto_region 1 with fail
  have D := hide (EnvB.of (Env.two w a 0))
  rw [cells8_0] at D
  have hs2 : decide (s = 0) = false := decide_eq_false hs
  have hs3 : (s == 0) = false := by simp [hs]
  have hs4 : (s != 0) = true := by simp [hs]
  go_wp2_with (first
    | (with_reducible refine at_list ?_; apply ldE (unhide D).e _ rfl rfl rfl (by repeat (first | exact List.mem_cons_self | apply List.mem_cons_of_mem)))
    | (with_reducible refine at_list ?_; apply ldEw (unhide D).e _ rfl rfl rfl (by repeat (first | exact List.mem_cons_self | apply List.mem_cons_of_mem)))
    | (go_at_call 76; refine (unhide hS _).mono ?_; rintro e w1 ⟨he, hw⟩; subst he; have D := hide ((unhide D).keep hw); clear hw)
    | (with_reducible refine at_list ?_; refine bd0 75 rfl rfl bWide0 ?_)
    | (with_reducible refine at_list ?_; apply st8 (n := 0) 75 (.tmp 4) (.tmp 18) ((unhide D).e.blk (n := 0) (by repeat (first | exact List.mem_cons_self | apply List.mem_cons_of_mem))) rfl rfl rfl rfl rfl iWide))
  exact res8s (((unhide D).e.blk (n := 0) (g := w.heap.size + 1) (by repeat (first | exact List.mem_cons_self | apply List.mem_cons_of_mem))).row _) rfl rfl rfl rfl Tryz.underlying75 rfl iWide ⟨rfl, below_row (unhide D).e.o (by omega) _⟩
set_option maxHeartbeats 1000000 in
theorem shl_zero (a : Nat) (y s : Int) (hy : 0 ≤ y) (hs : s = 0) (w : World) (hS : Hid (∀ u, Calls Tryz.prog 76 #[.agg (cells8 a)] u fun e w' => e = .returned (.int .i64 s) ∧ Below u.heap.size u w')) :
    Calls Tryz.prog 141 #[W a, .int .i64 y] w fun e w' => e = .returned (.tuple #[.agg (cells8 a), .bool true]) ∧ Below w.heap.size w w' := by
  subst hs
  unfold W
  go_enter Tryz.func141, Tryz.ntmps141
  go_upto_region 1 with fail
  have D := hide (EnvB.of (Env.two w a 0))
  rw [cells8_0] at D
  rcases (show y ≤ 511 ∨ 511 < y by omega) with h5 | h5
  all_goals (
    go_wp2_with (first
      | (with_reducible refine at_list ?_; apply ldE (unhide D).e _ rfl rfl rfl (by repeat (first | exact List.mem_cons_self | apply List.mem_cons_of_mem)))
      | (with_reducible refine at_list ?_; apply ldEw (unhide D).e _ rfl rfl rfl (by repeat (first | exact List.mem_cons_self | apply List.mem_cons_of_mem)))
      | (go_at_call 76; refine (unhide hS _).mono ?_; rintro e w1 ⟨he, hw⟩; subst he; have D := hide ((unhide D).keep hw); clear hw)
      | (with_reducible refine at_list ?_; apply st8 (n := a) 75 (.tmp 4) (.tmp 22) ((unhide D).e.blk (n := 0) (by repeat (first | exact List.mem_cons_self | apply List.mem_cons_of_mem))) rfl rfl rfl rfl rfl iWide))
    exact res8s (((unhide D).e.blk (n := 0) (g := w.heap.size + 1) (by repeat (first | exact List.mem_cons_self | apply List.mem_cons_of_mem))).row _) rfl rfl rfl rfl Tryz.underlying75 rfl iWide ⟨rfl, below_row (unhide D).e.o (by omega) _⟩)
set_option maxRecDepth 4000 in
set_option maxHeartbeats 1000000 in
theorem shl_bits (a o n : Nat) (x s : Int) (F : Bool) (hn : n ≤ 511) (hs : s ≠ 0) (w : World) (hS : Hid (∀ u, Calls Tryz.prog 76 #[.agg (cells8 a)] u fun e w' => e = .returned (.int .i64 s) ∧ Below u.heap.size u w'))
    (hL : Hid (∀ u, Calls Tryz.prog 118 #[.agg (cells8 a), .int .i64 520] u fun e w' => ∃ g, u.heap.size ≤ g ∧ e = .returned (.slice (some ⟨g, 0, none⟩) 520 520) ∧ Ints w' g 520 (bz x) ∧ Below u.heap.size u w'))
    (hO : Hid (∀ u g cap, Row u g (n + 520) (after n (fun _ => 0) (bz x)) → Calls Tryz.prog 122 #[.slice (some ⟨g, 0, none⟩) (n + 520) cap] u fun e w' => e = .returned (.tuple #[.agg (cells8 o), .bool F]) ∧ Below u.heap.size u w')) :
    Calls Tryz.prog 141 #[W a, .int .i64 n] w fun e w' => e = .returned (.tuple #[.agg (cells8 o), .bool F]) ∧ Below w.heap.size w w' := by
  have hmk := run_make_row' (P := Tryz.prog) 116 3 (.int .i64 0) 8 Tryz.underlying116 iInt rfl .i64 .i64 n (by omega) (by omega)
  unfold W
  go_enter Tryz.func141, Tryz.ntmps141
  go_upto_region 1 with fail
  have D := hide (EnvB.of (Env.two w a 0))
  rw [cells8_0] at D
  have hs2 : decide (s = 0) = false := decide_eq_false hs
  have hs3 : (s == 0) = false := by simp [hs]
  have hs4 : (s != 0) = true := by simp [hs]
  have hn5 : (n : Int) ≤ 511 := by omega
  go_upto_region 6 with (first
    | (with_reducible refine at_list ?_; apply ldE (unhide D).e _ rfl rfl rfl (by repeat (first | exact List.mem_cons_self | apply List.mem_cons_of_mem)))
    | (with_reducible refine at_list ?_; apply ldEw (unhide D).e _ rfl rfl rfl (by repeat (first | exact List.mem_cons_self | apply List.mem_cons_of_mem)))
    | (go_at_call 76; refine (unhide hS _).mono ?_; rintro e w1 ⟨he, hw⟩; subst he; have D := hide ((unhide D).keep hw); clear hw))
  have HZ := hide (Ints.row (World.rowIs_made w1 (.int .i64 0) n 3 : Ints _ _ _ (fun _ => 0)))
  have D := hide ((unhide D).keep ((Below.refl w1.heap.size w1).alloc (Nat.le_refl _) (.cells (madeCells #[.int .i64 0] n) 3)))
  go_wp2_with (first
    | (with_reducible refine at_list ?_; apply ldE (unhide D).e _ rfl rfl rfl (by repeat (first | exact List.mem_cons_self | apply List.mem_cons_of_mem)))
    | (go_at_call 118; refine (unhide hL _).mono ?_; rintro e w2 ⟨g, hg, he, hr, hw⟩; subst he; have HZ := hide ((unhide HZ).below hw); have HX := hide (Ints.row hr); have D := hide ((unhide D).keep hw); clear hr hw hg)
    | (at_builtin; refine appendB (.tmp 25) (.tmp 27) (unhide HZ) (unhide HX) rfl rfl rfl rfl (by omega) (by omega) (by decide) ?_; intro g3 cap3 w3 _ _ hr3 hw3; have HR := hide hr3; have D := hide ((unhide D).keep hw3); clear hr3 hw3)
    | (go_at_call 122; refine (unhide hO _ _ _ (unhide HR)).mono ?_; rintro e w4 ⟨he, hw⟩; subst he; have D := hide ((unhide D).keep hw); clear hw)
    | (with_reducible refine at_list ?_; apply st8 (n := o) 75 (.tmp 4) (.tmp 30) ((unhide D).e.blk (n := 0) (by repeat (first | exact List.mem_cons_self | apply List.mem_cons_of_mem))) rfl rfl rfl rfl rfl iWide))
  exact res8s (((unhide D).e.blk (n := 0) (g := w.heap.size + 1) (by repeat (first | exact List.mem_cons_self | apply List.mem_cons_of_mem))).row _) rfl rfl rfl rfl Tryz.underlying75 rfl iWide ⟨rfl, below_row (unhide D).e.o (by omega) _⟩

theorem pow_H' (m : Nat) : ((2 ^ (511 + m) : Nat) : Int) = (H : Int) * ((2 ^ m : Nat) : Int) := by
  obtain ⟨e, he⟩ : ∃ e, e = 511 := ⟨_, rfl⟩
  rw [← he, H_511 e he, Nat.pow_add, Int.natCast_mul]
theorem bz_mul_pow (x : Int) (n k : Nat) : bz (x * ((2 ^ n : Nat) : Int)) k = after n (fun _ => 0) (bz x) k := by
  have hp := two_pow_pos n
  unfold after
  by_cases h : k < n
  · rw [if_pos h]
    obtain ⟨d, hd⟩ : ∃ d, n = k + (d + 1) := ⟨n - k - 1, by omega⟩
    unfold bz
    have hk := two_pow_pos k
    rw [hd, Nat.pow_add, Nat.pow_succ, Int.natCast_mul, Int.natCast_mul, ← Int.mul_assoc, Int.mul_comm x, Int.mul_assoc, Int.mul_ediv_cancel_left _ (by omega), ← Int.mul_assoc]
    exact Int.mul_emod_left _ _
  · rw [if_neg h]
    obtain ⟨d, hd⟩ : ∃ d, k = n + d := ⟨k - n, by omega⟩
    rw [hd, bz_shift, Int.mul_ediv_cancel _ (by omega), Nat.add_sub_cancel_left]
theorem refShl (x y : Int) (hx : Fit x) (w : World) : Calls Tryz.prog 141 #[V x, .int .i64 y] w fun e w' =>
    e = .returned (.tuple #[.agg (cells8 (bif (!decide (y < 0) && fit (x * ((2 ^ y.toNat : Nat) : Int))) then enc (x * ((2 ^ y.toNat : Nat) : Int)) else 0)), .bool (!decide (y < 0) && fit (x * ((2 ^ y.toNat : Nat) : Int)))]) ∧ Below w.heap.size w w' := by
  have hS : Hid (∀ u, Calls Tryz.prog 76 #[.agg (cells8 (enc x))] u fun e w' => e = .returned (.int .i64 (sgn x)) ∧ Below u.heap.size u w') := fun u => refSign x hx u
  by_cases hy : y < 0
  · rw [decide_eq_true hy]
    exact shl_neg (enc x) y hy w
  rw [decide_eq_false hy, Bool.not_false, Bool.true_and]
  obtain ⟨n, rfl⟩ : ∃ n : Nat, y = n := ⟨y.toNat, by omega⟩
  rw [Int.toNat_natCast]
  by_cases h0 : x = 0
  · have hs : sgn x = 0 := by rw [h0]; rfl
    have h := shl_zero (enc x) n (sgn x) (by omega) hs w hS
    rw [h0, Int.zero_mul, fit_true fit_zero]
    rw [h0] at h
    exact h
  have hs : sgn x ≠ 0 := by
    unfold sgn
    by_cases h : x < 0
    · rw [if_pos h]; decide
    · rw [if_neg h, if_neg h0]; decide
  have hp := two_pow_pos n
  have hH := HI_pos
  by_cases h5 : n ≤ 511
  · have hL : Hid (∀ u, Calls Tryz.prog 118 #[.agg (cells8 (enc x)), .int .i64 520] u fun e w' => ∃ g, u.heap.size ≤ g ∧ e = .returned (.slice (some ⟨g, 0, none⟩) 520 520) ∧ Ints w' g 520 (bz x) ∧ Below u.heap.size u w') := fun u => longZ x hx 520 (by decide) u
    refine shl_bits (enc x) _ n x (sgn x) _ h5 hs w hS hL (fun u g cap hr => ?_)
    have b : -((H : Int) * ((2 ^ (n + 8) : Nat) : Int)) ≤ x * ((2 ^ n : Nat) : Int) ∧ x * ((2 ^ n : Nat) : Int) < (H : Int) * ((2 ^ (n + 8) : Nat) : Int) := by
      rw [Nat.pow_add, Int.natCast_mul, show ((2 ^ 8 : Nat) : Int) = 256 from rfl]
      generalize ((2 ^ n : Nat) : Int) = P at *
      have h1 := Int.mul_le_mul_of_nonneg_right hx.1 (Int.le_of_lt hp)
      have h2 := Int.mul_lt_mul_of_pos_right hx.2 hp
      rw [Int.neg_mul] at h1
      have h3 : (H : Int) * (P * 256) = (H : Int) * P * 256 := (Int.mul_assoc _ _ _).symm
      have h4 := Int.mul_pos hH hp
      omega
    have h := ofZ (x * ((2 ^ n : Nat) : Int)) (n + 8) (n + 520) g 0 cap (by omega) (by omega) b.1 b.2 u (fun k hk => by rw [Nat.zero_add, bz_mul_pow]; exact hr.2 k hk) hr.1
    refine h.mono fun e w' ⟨he, hb⟩ => ⟨?_, hb⟩
    rw [he]
    cases fit (x * ((2 ^ n : Nat) : Int)) <;> rfl
  · have hf : fit (x * ((2 ^ n : Nat) : Int)) = false := by
      cases hc : fit (x * ((2 ^ n : Nat) : Int)) with
      | false => rfl
      | true =>
        exfalso
        have hf := Fit.of hc
        obtain ⟨m, hm⟩ : ∃ m, n = 511 + (m + 1) := ⟨n - 512, by omega⟩
        rw [hm, pow_H', Nat.pow_succ, Int.natCast_mul] at hf
        have hq := two_pow_pos m
        generalize ((2 ^ m : Nat) : Int) = P at *
        have e2 : x * ((H : Int) * (P * ((2 : Nat) : Int))) = (H : Int) * (x * P * 2) := by
          rw [← Int.mul_assoc, Int.mul_comm x, Int.mul_assoc, ← Int.mul_assoc x]; rfl
        rw [e2] at hf
        have h1 := hf.1
        have h2 := hf.2
        have h3 : x * P * 2 < 1 := by
          rcases (show x * P * 2 < 1 ∨ 1 ≤ x * P * 2 by omega) with h | h
          · exact h
          · have := Int.mul_le_mul_of_nonneg_left h (Int.le_of_lt hH); omega
        have h4 : -1 ≤ x * P * 2 := by
          rcases (show -1 ≤ x * P * 2 ∨ x * P * 2 ≤ -2 by omega) with h | h
          · exact h
          · have := Int.mul_le_mul_of_nonneg_left h (Int.le_of_lt hH); omega
        have h6 : x * P = 0 := by omega
        rcases Int.mul_eq_zero.1 h6 with h | h
        · exact h0 h
        · omega
    rw [hf]
    exact shl_high (enc x) n (sgn x) (by omega) hs w hS

end Go.Proofs.YtnemedgdhojhdaaGreat

namespace Go.Proofs.YtnemedgdhojhdaaGreat
open Go.RowKit
set_option maxRecDepth 4000

/-- What the loops know: the numbers' blocks, the bits of the factors, and those of the sum. -/
structure Mw (w0 : World) (l : List (Nat × Nat)) (gx gy gs : Nat) (X Y : Int) (f : Nat → Int) (w : World) : Prop where
  e : Env w0 l w
  x : Ints w gx 520 (bz X)
  y : Ints w gy 520 (bz Y)
  s : Ints w gs 1040 f
  nx : gx ≠ gs
  ny : gy ≠ gs
  nl : ∀ p ∈ l, p.1 ≠ gs
  ng : w0.heap.size ≤ gs
theorem Env.setCell {w0 w : World} {l : List (Nat × Nat)} (d : Env w0 l w) {a : Addr} (hg : w0.heap.size ≤ a.block) (hne : ∀ p ∈ l, p.1 ≠ a.block) (v : Value) : Env w0 l (w.setCell a v) :=
  ⟨fun p hp => (d.at_ p hp).other a v (hne p hp), d.o.setCell hg v⟩
/-- The sum with x further up added, as far as the place i + k. -/
def gz (S X : Int) (i k j : Nat) : Int := if j < i + k then bz (S + X * ((2 ^ i : Nat) : Int)) j else bz S j
theorem Mw.next {w0 w : World} {l : List (Nat × Nat)} {gx gy gs : Nat} {X Y S : Int} {i k : Nat} {v : Int} (h : Mw w0 l gx gy gs X Y (gz S X i k) w) (hv : v = bz (S + X * ((2 ^ i : Nat) : Int)) (i + k)) :
    Mw w0 l gx gy gs X Y (gz S X i (k + 1)) (w.setCell ⟨gs, i + k, none⟩ (.int .i64 v)) := by
  subst hv
  refine ⟨h.e.setCell h.ng h.nl _, World.rowIs.setOther h.x (by exact h.nx) _, World.rowIs.setOther h.y (by exact h.ny) _, ?_, h.nx, h.ny, h.nl, h.ng⟩
  refine World.rowIs.congr (World.rowIs.set h.s (i + k) _) fun j _ => ?_
  unfold gz
  by_cases e : j = i + k
  · rw [if_pos e, if_pos (by omega), e]
  · rw [if_neg e]
    by_cases h2 : j < i + k
    · rw [if_pos h2, if_pos (by omega)]
    · rw [if_neg h2, if_neg (by omega)]
end Go.Proofs.YtnemedgdhojhdaaGreat

namespace Go.Proofs.YtnemedgdhojhdaaGreat
open Go.RowKit
set_option maxRecDepth 4000

end Go.Proofs.YtnemedgdhojhdaaGreat

namespace Go.Proofs.YtnemedgdhojhdaaGreat
open Go.RowKit
set_option maxRecDepth 4000

theorem top_step (X : Int) (k : Nat) : X / ((2 ^ k : Nat) : Int) = X / ((2 ^ (k + 1) : Nat) : Int) * 2 + bz X k := by
  unfold bz
  rw [pow_two, ← Int.ediv_ediv_of_nonneg (Int.natCast_nonneg _)]
  omega

set_option maxRecDepth 4000 in
set_option maxHeartbeats 1000000 in
/-- Is a number of bits less than another one? -/
theorem least_bits (X Y : Int) (b : Bool) (n p q c1 c2 : Nat) (hn : n ≤ 4000) (w : World) (hp : Hid (∀ k, k < n → w.cell? ⟨p, k, none⟩ = some (.int .i64 (bz X k)))) (hq : Hid (∀ k, k < n → w.cell? ⟨q, k, none⟩ = some (.int .i64 (bz Y k))))
    (hpw : p < w.heap.size) (hqw : q < w.heap.size) (hb : Hid (b = decide (X < Y))) (hXY : Hid (X / ((2 ^ n : Nat) : Int) = Y / ((2 ^ n : Nat) : Int))) :
    Calls Tryz.prog 119 #[.slice (some ⟨p, 0, none⟩) n c1, .slice (some ⟨q, 0, none⟩) n c2] w fun e w' => e = .returned (.bool b) ∧ Below w.heap.size w w' := by
  go_enter Tryz.func119, Tryz.ntmps119
  go_wp2_with fail
  go_loopw [5] (fun i wr => ∃ k : Nat, k ≤ n ∧ i = .int .i64 ((k : Int) - 1) ∧ Hid (X / ((2 ^ k : Nat) : Int) = Y / ((2 ^ k : Nat) : Int)) ∧ Below w.heap.size w wr) (fun i _ => (intOf i + 1).toNat)
  case atStart => exact ⟨n, Nat.le_refl _, rfl, hXY, Below.refl _ _⟩
  case round =>
    obtain ⟨k, hk, rfl, hE, hw⟩ := hrel
    rcases Nat.eq_zero_or_pos k with rfl | hpos
    · have hF : Hid (b = false) := by
        have h := unhide hE
        rw [show ((2 ^ 0 : Nat) : Int) = 1 from rfl, Int.ediv_one, Int.ediv_one] at h
        show b = false
        rw [unhide hb, decide_eq_false_iff_not]
        omega
      have HW := hide hw
      clear hw
      go_wp2
      go_ret
      exact ⟨by rw [unhide hF]; rfl, unhide HW⟩
    · obtain ⟨m, rfl⟩ : ∃ m, k = m + 1 := ⟨k - 1, by omega⟩
      rw [show ((m + 1 : Nat) : Int) - 1 = (m : Int) by omega]
      have h1 : wr.cell? ⟨p, m, none⟩ = some (.int .i64 (bz X m)) := (hw.cell (by exact hpw)).trans (unhide hp m (by omega))
      have h2 : wr.cell? ⟨q, m, none⟩ = some (.int .i64 (bz Y m)) := (hw.cell (by exact hqw)).trans (unhide hq m (by omega))
      have HW := hide hw
      have tX := top_step X m
      have tY := top_step Y m
      rw [unhide hE] at tX
      clear hw hE
      by_cases he : bz X m = bz Y m
      · have HE : Hid (X / ((2 ^ m : Nat) : Int) = Y / ((2 ^ m : Nat) : Int)) := by show _ = _; rw [tX, tY, he]
        rw [he] at h1
        clear tX tY he
        generalize bz Y m = v at *
        go_wp2
        go_region
        all_goals (
          go_wp2
          go_roundw
          case rel => exact ⟨m, by omega, rfl, HE, (unhide HW).drew⟩
          case measure => simp [intOf])
      · have hB : Hid (b = decide (bz X m < bz Y m)) := by
          show b = _
          rw [unhide hb]
          apply decide_eq_decide.2
          have hp2 := two_pow_pos m
          constructor
          · intro h
            have h3 := Int.ediv_le_ediv hp2 (Int.le_of_lt h)
            omega
          · intro h
            rcases (show X < Y ∨ Y ≤ X by omega) with h' | h'
            · exact h'
            · have h3 := Int.ediv_le_ediv hp2 h'
              omega
        clear tX tY
        have he2 : decide (bz X m = bz Y m) = false := decide_eq_false he
        have he3 : (bz X m == bz Y m) = false := by simp [he]
        generalize bz X m = u at *
        generalize bz Y m = v at *
        go_wp2
        go_region
        all_goals (
          go_wp2
          go_region
          all_goals (
            go_wp2
            go_ret
            exact ⟨by rw [unhide hB]; rfl, (unhide HW).drew.drew⟩))

/-- What lies further up, as far as the place n + k. -/
def fz (z : Int) (n k j : Nat) : Int := if j < n + k then after n (fun _ => 0) (bz z) j else 0
theorem fz_next {w : World} {b N n k : Nat} {z v : Int} (h : Ints w b N (fz z n k)) (hv : v = bz z k) : Ints (w.setCell ⟨b, k + n, none⟩ (.int .i64 v)) b N (fz z n (k + 1)) := by
  subst hv
  refine World.rowIs.congr (World.rowIs.set h (k + n) _) fun j _ => ?_
  unfold fz
  by_cases e : j = k + n
  · rw [if_pos e, if_pos (by omega)]
    unfold after
    rw [if_neg (by omega), e, Nat.add_sub_cancel]
  · rw [if_neg e]
    by_cases h2 : j < n + k
    · rw [if_pos h2, if_pos (by omega)]
    · rw [if_neg h2, if_neg (by omega)]

set_option maxRecDepth 4000 in
set_option maxHeartbeats 1000000 in
/-- Bits, n places further up. -/
theorem further_bits (z Z : Int) (N n p c1 : Nat) (hZ : Hid (Z = z * ((2 ^ n : Nat) : Int))) (hN : N ≤ 4000) (hn : n ≤ N) (w : World) (hp : Hid (∀ k, k < N → w.cell? ⟨p, k, none⟩ = some (.int .i64 (bz z k)))) (hpw : p < w.heap.size) :
    Calls Tryz.prog 140 #[.slice (some ⟨p, 0, none⟩) N c1, .int .i64 n] w fun e w' => ∃ g, w.heap.size ≤ g ∧ e = .returned (.slice (some ⟨g, 0, none⟩) N N) ∧ Ints w' g N (bz Z) ∧ Below w.heap.size w w' := by
  have hmk := run_make_row' (P := Tryz.prog) 116 3 (.int .i64 0) 8 Tryz.underlying116 iInt rfl .i64 .i64 N (by omega) (by omega)
  go_enter Tryz.func140, Tryz.ntmps140
  go_wp2_with fail
  go_loopw [6] (fun i wr => ∃ k : Nat, k + n ≤ N ∧ i = .int .i64 k ∧ Ints wr w.heap.size N (fz z n k) ∧ Below w.heap.size w wr) (fun i _ => N - (intOf i).toNat)
  case atStart =>
    refine ⟨0, by omega, rfl, World.rowIs.congr (World.rowIs_made w (.int .i64 0) N 3) fun j _ => ?_, (Below.refl _ _).alloc (Nat.le_refl _) _⟩
    unfold fz after
    by_cases h : j < n + 0
    · rw [if_pos h, if_pos (by omega)]
    · rw [if_neg h]
  case round =>
    obtain ⟨k, hk, rfl, hr, hw⟩ := hrel
    by_cases hlt : k + n < N
    · have h1 : wr.cell? ⟨p, k, none⟩ = some (.int .i64 (bz z k)) := (hw.cell (by exact hpw)).trans (unhide hp k (by omega))
      have h3 := World.rowIs.frozen hr (k + n)
      have h4 := World.rowIs.cell hr hlt
      have HR := hide (And.intro hr hw)
      clear hr hw
      have hb := bz_01 z k
      have HV := hide (rfl : bz z k = bz z k)
      have hlt' : (k : Int) + (n : Int) < (N : Int) := by omega
      go_wp2
      go_roundw
      case rel => exact ⟨k + 1, by omega, by go_num, fz_next (unhide HR).1 rfl, (unhide HR).2.setCell (by simp) _⟩
      case measure => simp [intOf]; omega
    · have HR := hide (And.intro hr hw)
      clear hr hw
      have hlt' : ¬ (k : Int) + (n : Int) < (N : Int) := by omega
      go_wp2
      go_ret
      refine ⟨_, Nat.le_refl _, rfl, World.rowIs.congr (unhide HR).1 fun j hj => ?_, (unhide HR).2⟩
      rw [unhide hZ, bz_mul_pow]
      unfold fz
      rw [if_pos (by omega)]

/-- Numbers in their blocks, and rows of bits that are the first cells of theirs. -/
structure EnvR (w0 : World) (l : List (Nat × Nat)) (rs : List (Nat × Nat × Int)) (w : World) : Prop where
  e : Env w0 l w
  r : ∀ p ∈ rs, Row w p.1 p.2.1 (bz p.2.2)
section
variable {w0 w w' : World} {l : List (Nat × Nat)} {rs : List (Nat × Nat × Int)} {R : Ending → World → Prop} {p q n c c' : Nat} {x y : Int}
theorem EnvR.keep (d : EnvR w0 l rs w) (hb : Below w.heap.size w w') : EnvR w0 l rs w' := ⟨d.e.keep hb, fun p hp => (d.r p hp).below hb⟩
theorem EnvR.row {z : Int} (d : EnvR w0 l rs w) (h : Row w p n (bz z)) : EnvR w0 l ((p, n, z) :: rs) w := by
  refine ⟨d.e, fun p hp => ?_⟩
  rcases List.mem_cons.1 hp with e | hp
  · subst e; exact h
  · exact d.r p hp
theorem EnvR.drew (d : EnvR w0 l rs w) : EnvR w0 l rs w.drew := ⟨d.e.drew, fun p hp => (d.r p hp).drew⟩
theorem EnvR.of (d : Env w0 l w) : EnvR w0 l [] w := ⟨d, fun _ h => (List.not_mem_nil h).elim⟩
theorem EnvR.at (d : EnvR w0 l rs w) (h : (p, n, x) ∈ rs) : Row w p n (bz x) := d.r _ h
abbrev sc (g n c : Nat) : Value := .slice (some ⟨g, 0, none⟩) n c
theorem plusR (d : EnvR w0 l rs w) (hn : n ≤ 4000) (hp : (p, n, x) ∈ rs) (hq : (q, n, y) ∈ rs) (k : ∀ g w', EnvR w0 l ((g, n, x + y) :: rs) w' → R (.returned (sl g n)) w') :
    Calls Tryz.prog 120 #[sc p n c, sc q n c'] w R :=
  (plus_bits x y n p q 0 0 c c' hn w (fun k hk => by rw [Nat.zero_add]; exact (d.at hp).2 k hk) (fun k hk => by rw [Nat.zero_add]; exact (d.at hq).2 k hk) (d.at hp).1 (d.at hq).1).mono fun _ w' ⟨g, _, he, hr, hb⟩ => he ▸ k g w' ((d.keep hb).row hr.row)
theorem minusR (d : EnvR w0 l rs w) (hn : n ≤ 4000) (hp : (p, n, x) ∈ rs) (k : ∀ g w', EnvR w0 l ((g, n, -x) :: rs) w' → R (.returned (sl g n)) w') :
    Calls Tryz.prog 121 #[sc p n c] w R :=
  (minus_bits x n p 0 c hn w (fun k hk => by rw [Nat.zero_add]; exact (d.at hp).2 k hk) (d.at hp).1).mono fun _ w' ⟨g, _, he, hr, hb⟩ => he ▸ k g w' ((d.keep hb).row hr.row)
end

end Go.Proofs.YtnemedgdhojhdaaGreat

namespace Go.Proofs.YtnemedgdhojhdaaGreat
open Go.RowKit
set_option maxRecDepth 4000

theorem bz_cons (z b : Int) (hb : b = 0 ∨ b = 1) (k : Nat) : bz (2 * z + b) k = after 1 (fun _ => b) (bz z) k := by
  unfold after
  by_cases h : k < 1
  · rw [if_pos h, show k = 0 by omega, bz_bit0]; show _ = b; omega
  · obtain ⟨j, rfl⟩ : ∃ j, k = j + 1 := ⟨k - 1, by omega⟩
    rw [if_neg h, bz_succ, show (2 * z + b) / 2 = z by omega, Nat.add_sub_cancel]
def two (a b : Int) (k : Nat) : Int := if k = 0 then a else b
theorem sq_two (R : Int) : (2 * R) * (2 * R) = 4 * (R * R) := by rw [Int.mul_assoc, Int.mul_left_comm R 2 R]; omega
theorem sq_odd (R : Int) : (2 * R + 1) * (2 * R + 1) = 4 * (R * R) + 4 * R + 1 := by
  rw [Int.add_mul, Int.mul_add, Int.one_mul, Int.mul_one, sq_two]; omega
theorem sq_lt {R v : Int} (h : R * R ≤ v) (hv : v < 2 * (H : Int)) : R < (H : Int) := by
  have h2 : 2 ≤ (H : Int) := by decide
  rcases (show R < (H : Int) ∨ (H : Int) ≤ R by omega) with h' | h'
  · exact h'
  · have h3 := Int.mul_le_mul h' h' (by omega) (by omega)
    have h4 := Int.mul_le_mul_of_nonneg_right h2 (show 0 ≤ (H : Int) by omega)
    omega
/-- The root so far and what is left: of the number without its last k pairs of bits. -/
structure Rz (m : Nat) (k : Nat) (R L : Int) : Prop where
  r0 : 0 ≤ R
  l0 : 0 ≤ L
  l2 : L ≤ 2 * R
  sq : R * R + L = (m : Int) / ((2 ^ (2 * k) : Nat) : Int)
theorem Rz.lt {m k : Nat} {R L : Int} (h : Rz m k R L) (hm : (m : Int) < 2 * (H : Int)) : R < (H : Int) := by
  refine sq_lt (v := (m : Int)) ?_ hm
  have h1 := h.sq
  have h2 : (m : Int) / ((2 ^ (2 * k) : Nat) : Int) ≤ (m : Int) := Int.ediv_le_self _ (Int.natCast_nonneg _)
  have := h.l0
  omega
theorem pair_step (m k : Nat) : (m : Int) / ((2 ^ (2 * k) : Nat) : Int) = 4 * ((m : Int) / ((2 ^ (2 * (k + 1)) : Nat) : Int)) + 2 * bz (m : Int) (2 * k + 1) + bz (m : Int) (2 * k) := by
  rw [top_step (m : Int) (2 * k), top_step (m : Int) (2 * k + 1), show 2 * (k + 1) = 2 * k + 1 + 1 by omega]
  omega
theorem Rz.less {m k : Nat} {R L : Int} (h : Rz m (k + 1) R L) (hl : 4 * L + 2 * bz (m : Int) (2 * k + 1) + bz (m : Int) (2 * k) < 4 * R + 2 * 0 + 1) : Rz m k (2 * R + 0) (4 * L + 2 * bz (m : Int) (2 * k + 1) + bz (m : Int) (2 * k)) := by
  have h1 := h.sq; have h2 := pair_step m k; have h3 := h.r0; have h4 := h.l0; have h5 := h.l2
  have h6 := bz_01 (m : Int) (2 * k); have h7 := bz_01 (m : Int) (2 * k + 1)
  have h8 := sq_two R
  rw [Int.add_zero]
  exact ⟨by omega, by omega, by omega, by omega⟩
theorem Rz.more {m k : Nat} {R L : Int} (h : Rz m (k + 1) R L) (hl : ¬ 4 * L + 2 * bz (m : Int) (2 * k + 1) + bz (m : Int) (2 * k) < 4 * R + 2 * 0 + 1) : Rz m k (2 * R + 1) (4 * L + 2 * bz (m : Int) (2 * k + 1) + bz (m : Int) (2 * k) + -(4 * R + 2 * 0 + 1)) := by
  have h1 := h.sq; have h2 := pair_step m k; have h3 := h.r0; have h4 := h.l0; have h5 := h.l2
  have h6 := bz_01 (m : Int) (2 * k); have h7 := bz_01 (m : Int) (2 * k + 1)
  have h8 := sq_odd R
  exact ⟨by omega, by omega, by omega, by omega⟩

theorem Rz.start (m : Nat) (hm : (m : Int) < (H : Int)) : Rz m 256 0 0 := by
  refine ⟨by omega, by omega, by omega, ?_⟩
  obtain ⟨e, he⟩ : ∃ e, e = 2 * 256 := ⟨_, rfl⟩
  obtain ⟨d, hd⟩ : ∃ d, d = 1 := ⟨_, rfl⟩
  rw [← he, show e = 511 + d by omega, pow_H', hd, show ((2 ^ 1 : Nat) : Int) = 2 from rfl, Int.ediv_eq_zero_of_lt (Int.natCast_nonneg _) (by have := HI_pos; omega)]
  rfl
theorem Rz.isq {m : Nat} {R L : Int} (h : Rz m 0 R L) : R = (isq m : Nat) := by
  have h1 := h.sq; have h3 := h.r0; have h4 := h.l0; have h5 := h.l2
  rw [show ((2 ^ (2 * 0) : Nat) : Int) = 1 from rfl, Int.ediv_one] at h1
  obtain ⟨r, rfl⟩ : ∃ r : Nat, R = r := ⟨R.toNat, by omega⟩
  have e1 : ((r * r : Nat) : Int) = (r : Int) * (r : Int) := Int.natCast_mul r r
  have e2 : (r + 1) * (r + 1) = r * r + 2 * r + 1 := by rw [Nat.add_mul, Nat.mul_add]; omega
  obtain ⟨s1, s2⟩ := isq_spec m
  have a1 := root_one m r (Go.Proofs.YtnemedgdhojhdaaGreat.isq m) (by omega) s2
  have a2 := root_one m (Go.Proofs.YtnemedgdhojhdaaGreat.isq m) r s1 (by omega)
  have : r = Go.Proofs.YtnemedgdhojhdaaGreat.isq m := by omega
  rw [this]
end Go.Proofs.YtnemedgdhojhdaaGreat

namespace Go.Proofs.YtnemedgdhojhdaaGreat
open Go.RowKit
set_option maxRecDepth 4000

theorem half_lt {m D : Int} (hD : 0 < D) (h : m % (D * 2) < D) : m % D = m % (D * 2) ∧ m / D = 2 * (m / (D * 2)) := by
  have h1 := Int.emod_add_mul_ediv m (D * 2)
  have h2 := Int.emod_nonneg m (show D * 2 ≠ 0 by omega)
  generalize m % (D * 2) = r at *
  generalize m / (D * 2) = q at *
  have e : m = r + D * (2 * q) := by rw [← h1, Int.mul_assoc]
  constructor
  · rw [e, Int.add_mul_emod_self_left, Int.emod_eq_of_lt h2 h]
  · rw [e, Int.add_mul_ediv_left _ _ (by omega), Int.ediv_eq_zero_of_lt h2 h]; omega
theorem half_ge {m D : Int} (hD : 0 < D) (h : ¬ m % (D * 2) < D) : m % D = m % (D * 2) + -D ∧ m / D = 2 * (m / (D * 2)) + 1 := by
  have h1 := Int.emod_add_mul_ediv m (D * 2)
  have h2 := Int.emod_lt_of_pos m (show 0 < D * 2 by omega)
  generalize m % (D * 2) = r at *
  generalize m / (D * 2) = q at *
  have e : m = (r + -D) + D * (2 * q + 1) := by rw [← h1, Int.mul_add, Int.mul_one, Int.mul_assoc]; omega
  constructor
  · rw [e, Int.add_mul_emod_self_left, Int.emod_eq_of_lt (by omega) (by omega)]
  · rw [e, Int.add_mul_ediv_left _ _ (by omega), Int.ediv_eq_zero_of_lt (by omega) (by omega)]; omega
/-- n, k places further upz. -/
def upz (n k : Nat) : Int := (n : Int) * ((2 ^ k : Nat) : Int)
theorem up_pos {n k : Nat} (hn : 0 < n) : 0 < upz n k := Int.mul_pos (by omega) (two_pow_pos k)
theorem up_step (n k : Nat) : upz n (k + 1) = upz n k * 2 := by unfold upz; rw [pow_two, Int.mul_assoc]
theorem up_zero (n : Nat) : upz n 0 = n := by unfold upz; rw [show ((2 ^ 0 : Nat) : Int) = 1 from rfl, Int.mul_one]
def lft (m n k : Nat) : Int := (m : Int) % upz n k
def qut (m n k : Nat) : Int := (m : Int) / upz n k * ((2 ^ k : Nat) : Int)
theorem left_lt {m n k : Nat} (hn : 0 < n) (h : lft m n (k + 1) < upz n k) : lft m n k = lft m n (k + 1) ∧ qut m n k = qut m n (k + 1) := by
  unfold lft qut at *
  rw [up_step] at h ⊢
  obtain ⟨h1, h2⟩ := half_lt (up_pos hn) h
  refine ⟨h1, ?_⟩
  rw [h2, pow_two, Int.mul_comm 2, Int.mul_assoc, Int.mul_comm 2]
theorem left_ge {m n k : Nat} (hn : 0 < n) (h : ¬ lft m n (k + 1) < upz n k) : lft m n k = lft m n (k + 1) + -upz n k ∧ qut m n k = qut m n (k + 1) + ((2 ^ k : Nat) : Int) := by
  unfold lft qut at *
  rw [up_step] at h ⊢
  obtain ⟨h1, h2⟩ := half_ge (up_pos hn) h
  refine ⟨h1, ?_⟩
  rw [h2, pow_two, Int.add_mul, Int.one_mul, Int.mul_comm 2, Int.mul_assoc, Int.mul_comm 2]
theorem bz_raise (Q : Int) (k i : Nat) : bz (Q * ((2 ^ (k + 1) : Nat) : Int) + ((2 ^ k : Nat) : Int)) i = if i = k then 1 else bz (Q * ((2 ^ (k + 1) : Nat) : Int)) i := by
  have e1 : Q * ((2 ^ (k + 1) : Nat) : Int) + ((2 ^ k : Nat) : Int) = (2 * Q + 1) * ((2 ^ k : Nat) : Int) := by rw [pow_two, Int.add_mul, Int.one_mul, Int.mul_comm 2 Q, Int.mul_assoc, Int.mul_comm 2]
  have e2 : Q * ((2 ^ (k + 1) : Nat) : Int) = (2 * Q + 0) * ((2 ^ k : Nat) : Int) := by rw [pow_two, Int.add_zero, Int.mul_comm 2 Q, Int.mul_assoc, Int.mul_comm 2]
  rw [e1, e2, bz_mul_pow, bz_mul_pow]
  unfold after
  by_cases h : i < k
  · rw [if_pos h, if_pos h, if_neg (by omega)]
  · rw [if_neg h, if_neg h, bz_cons _ _ (.inr rfl), bz_cons _ _ (.inl rfl)]
    unfold after
    by_cases h2 : i = k
    · rw [if_pos (by omega), if_pos h2]
    · rw [if_neg (by omega), if_neg h2, if_neg (by omega)]
theorem bz_quo {m n k : Nat} (hn : 0 < n) (h : ¬ lft m n (k + 1) < upz n k) (i : Nat) : bz (qut m n k) i = if i = k then 1 else bz (qut m n (k + 1)) i := by
  rw [(left_ge hn h).2]
  unfold qut
  exact bz_raise _ k i
theorem left_bound {m n k : Nat} (hn : 0 < n) : 0 ≤ lft m n k ∧ lft m n k ≤ m := by
  unfold lft
  have := up_pos (k := k) hn
  have h1 := Int.emod_add_mul_ediv (m : Int) (upz n k)
  have h2 := Int.mul_nonneg (Int.le_of_lt this) (Int.ediv_nonneg (Int.natCast_nonneg m) (Int.le_of_lt this))
  exact ⟨Int.emod_nonneg _ (by omega), by omega⟩
theorem start_up {m n A B k : Nat} (hm : m < 2 ^ A) (hn : n = 0 ∨ 2 ^ (B - 1) ≤ n) (hn0 : 0 < n) (hB : 0 < B) (hk : k = A + 1 - B) : (m : Int) < upz n k := by
  have hn' : 2 ^ (B - 1) ≤ n := by omega
  unfold upz
  have h1 : 2 ^ A ≤ 2 ^ (B - 1 + k) := Nat.pow_le_pow_right (by decide) (by omega)
  rw [Nat.pow_add] at h1
  have h2 := Nat.mul_le_mul_right (2 ^ k) hn'
  have h3 : ((n * 2 ^ k : Nat) : Int) = (n : Int) * ((2 ^ k : Nat) : Int) := Int.natCast_mul _ _
  omega
theorem start_left {m n k : Nat} (h : (m : Int) < upz n k) : lft m n k = m ∧ qut m n k = 0 := by
  unfold lft qut
  rw [Int.emod_eq_of_lt (Int.natCast_nonneg _) h, Int.ediv_eq_zero_of_lt (Int.natCast_nonneg _) h, Int.zero_mul]
  exact ⟨rfl, rfl⟩
theorem up_bound {n k A B : Nat} (hn : n < 2 ^ B) (h : k + B ≤ A) : upz n k < ((2 ^ A : Nat) : Int) := by
  unfold upz
  have h1 : 2 ^ (B + k) ≤ 2 ^ A := Nat.pow_le_pow_right (by decide) (by omega)
  rw [Nat.pow_add] at h1
  have h2 : n * 2 ^ k < 2 ^ B * 2 ^ k := Nat.mul_lt_mul_of_pos_right hn (Nat.pow_pos (by decide))
  have h3 : ((n * 2 ^ k : Nat) : Int) = (n : Int) * ((2 ^ k : Nat) : Int) := Int.natCast_mul _ _
  omega

/-- What the loop knows: the numbers' blocks, rows, and the quotient's row, which is no other one's. -/
structure Dw (w0 : World) (l : List (Nat × Nat)) (rs : List (Nat × Nat × Int)) (gq : Nat) (f : Nat → Int) (w : World) : Prop where
  e : EnvR w0 l rs w
  q : Ints w gq 520 f
  nl : ∀ p ∈ l, p.1 ≠ gq
  nr : ∀ p ∈ rs, p.1 ≠ gq
  ng : w0.heap.size ≤ gq
theorem Row.setOther {w : World} {p n : Nat} {f : Nat → Int} (h : Row w p n f) {a : Addr} (hne : p ≠ a.block) (v : Value) : Row (w.setCell a v) p n f := by
  refine ⟨by have := h.1; simpa using this, fun k hk => ?_⟩
  have hb : (w.setCell a v).heap[p]? = w.heap[p]? := heap_setCell_other w a p v hne
  rw [← h.2 k hk]
  exact World.cell?_of_block (w := w) hb
theorem Dw.keep {w0 w w' : World} {l : List (Nat × Nat)} {rs : List (Nat × Nat × Int)} {gq : Nat} {f : Nat → Int} (d : Dw w0 l rs gq f w) (hb : Below w.heap.size w w') : Dw w0 l rs gq f w' :=
  ⟨d.e.keep hb, ints_below d.q hb, d.nl, d.nr, d.ng⟩
theorem Dw.with {w0 w w' : World} {l : List (Nat × Nat)} {rs rs' : List (Nat × Nat × Int)} {gq : Nat} {f : Nat → Int} (d : Dw w0 l rs gq f w) (hb : Below w.heap.size w w') (h : EnvR w0 l rs' w') (hnr : ∀ p ∈ rs', p.1 ≠ gq) : Dw w0 l rs' gq f w' :=
  ⟨h, ints_below d.q hb, d.nl, hnr, d.ng⟩
theorem Dw.set {w0 w : World} {l : List (Nat × Nat)} {rs : List (Nat × Nat × Int)} {gq : Nat} {f h : Nat → Int} (d : Dw w0 l rs gq f w) (k : Nat) (v : Int) (hf : ∀ j, h j = if j = k then v else f j) :
    Dw w0 l rs gq h (w.setCell ⟨gq, k, none⟩ (.int .i64 v)) := by
  refine ⟨⟨d.e.e.setCell d.ng d.nl _, fun p hp => (d.e.r p hp).setOther (d.nr p hp) _⟩, ?_, d.nl, d.nr, d.ng⟩
  refine World.rowIs.congr (World.rowIs.set d.q k _) fun j _ => ?_
  rw [hf]
  by_cases e : j = k
  · rw [if_pos e, if_pos e]
  · rw [if_neg e, if_neg e]
theorem Env.four (w : World) (a b c d : Nat) : Env w [(w.heap.size + 1 + 1 + 1, d), (w.heap.size + 1 + 1, c), (w.heap.size + 1, b), (w.heap.size, a)] ((((w.alloc (.cells (cells8 a) 75)).alloc (.cells (cells8 b) 75)).alloc (.cells (cells8 c) 75)).alloc (.cells (cells8 d) 75)) := by
  have h := (Env.three w a b c).push d
  simpa using h

section
variable {w0 w w' : World} {l : List (Nat × Nat)} {rs : List (Nat × Nat × Int)} {gq : Nat} {f : Nat → Int} {R : Ending → World → Prop} {p q n c c' g N : Nat} {x y z : Int}
theorem Dw.push (d : Dw w0 l rs gq f w) (hb : Below w.heap.size w w') (hg : w.heap.size ≤ g) (hr : Row w' g N (bz z)) : Dw w0 l ((g, N, z) :: rs) gq f w' := by
  refine ⟨(d.e.keep hb).row hr, ints_below d.q hb, d.nl, fun p hp => ?_, d.ng⟩
  rcases List.mem_cons.1 hp with e | hp
  · subst e
    have := World.rowIs.lt d.q
    show g ≠ gq
    omega
  · exact d.nr p hp
theorem furtherD (d : Dw w0 l rs gq f w) (m : Nat) (U : Int) (hU : Hid (U = x * ((2 ^ m : Nat) : Int))) (hn : n ≤ 4000) (hm : m ≤ n) (hp : (p, n, x) ∈ rs) (k : ∀ g w', Dw w0 l ((g, n, U) :: rs) gq f w' → R (.returned (sl g n)) w') :
    Calls Tryz.prog 140 #[sc p n c, .int .i64 m] w R :=
  (further_bits x U n m p c hU hn hm w (d.e.at hp).2 (d.e.at hp).1).mono fun _ w' ⟨g, hg, he, hr, hb⟩ => he ▸ k g w' (d.push hb hg hr.row)
theorem plusD (d : Dw w0 l rs gq f w) (hn : n ≤ 4000) (hp : (p, n, x) ∈ rs) (hq : (q, n, y) ∈ rs) (k : ∀ g w', Dw w0 l ((g, n, x + y) :: rs) gq f w' → R (.returned (sl g n)) w') :
    Calls Tryz.prog 120 #[sc p n c, sc q n c'] w R :=
  (plus_bits x y n p q 0 0 c c' hn w (fun k hk => by rw [Nat.zero_add]; exact (d.e.at hp).2 k hk) (fun k hk => by rw [Nat.zero_add]; exact (d.e.at hq).2 k hk) (d.e.at hp).1 (d.e.at hq).1).mono fun _ w' ⟨g, hg, he, hr, hb⟩ => he ▸ k g w' (d.push hb hg hr.row)
theorem minusD (d : Dw w0 l rs gq f w) (hn : n ≤ 4000) (hp : (p, n, x) ∈ rs) (k : ∀ g w', Dw w0 l ((g, n, -x) :: rs) gq f w' → R (.returned (sl g n)) w') :
    Calls Tryz.prog 121 #[sc p n c] w R :=
  (minus_bits x n p 0 c hn w (fun k hk => by rw [Nat.zero_add]; exact (d.e.at hp).2 k hk) (d.e.at hp).1).mono fun _ w' ⟨g, hg, he, hr, hb⟩ => he ▸ k g w' (d.push hb hg hr.row)
theorem leastD (d : Dw w0 l rs gq f w) (hn : n ≤ 4000) (hp : (p, n, x) ∈ rs) (hq : (q, n, y) ∈ rs) (b : Bool) (hB : Hid (b = decide (x < y))) (hx0 : 0 ≤ x) (hy0 : 0 ≤ y) (hx : x < ((2 ^ n : Nat) : Int)) (hy : y < ((2 ^ n : Nat) : Int)) (k : ∀ w', Dw w0 l rs gq f w' → R (.returned (.bool b)) w') :
    Calls Tryz.prog 119 #[sc p n c, sc q n c'] w R :=
  (least_bits x y b n p q c c' hn w (d.e.at hp).2 (d.e.at hq).2 (d.e.at hp).1 (d.e.at hq).1 hB (by show _ = _; rw [Int.ediv_eq_zero_of_lt hx0 hx, Int.ediv_eq_zero_of_lt hy0 hy])).mono fun _ w' ⟨he, hb⟩ => he ▸ k w' (d.keep hb)
/-- Fewer rows. -/
theorem Dw.some (d : Dw w0 l rs gq f w) {rs' : List (Nat × Nat × Int)} (h : ∀ p ∈ rs', p ∈ rs) : Dw w0 l rs' gq f w :=
  ⟨⟨d.e.e, fun p hp => d.e.r p (h p hp)⟩, d.q, d.nl, fun p hp => d.nr p (h p hp), d.ng⟩
end
theorem mem_two {α : Type} {x y : α} {l : List α} (hx : x ∈ l) (hy : y ∈ l) : ∀ p ∈ [x, y], p ∈ l := by
  intro p hp
  simp only [List.mem_cons, List.not_mem_nil, or_false] at hp
  rcases hp with rfl | rfl
  · exact hx
  · exact hy


/-- What the quotient and what is left are brought to. -/
def qfin (sg : Bool) (s Q : Int) : Int := bif sg then (if s = 0 then -Q else -(Q + 1)) else Q
def rone (sg : Bool) (s R n : Int) : Int := bif sg then (if s = 0 then R else n + -R) else R
def rfin (sg sb : Bool) (s R n : Int) : Int := bif sb then -(rone sg s R n) else rone sg s R n
def Bd (z : Int) : Prop := -(2 * (H : Int)) ≤ z ∧ z ≤ 2 * (H : Int)
structure DivOk (o1 o2 : Nat) (F : Bool) (Q R : Int) : Prop where
  bq : Bd Q
  br : Bd R
  fr : fit R = true
  yes : fit Q = true → o1 = fitN Q ∧ o2 = fitN R ∧ F = true
  no : fit Q = false → o1 = 0 ∧ o2 = 0 ∧ F = false
theorem EnvR.more {w0 w : World} {l l' : List (Nat × Nat)} {rs : List (Nat × Nat × Int)} {o : Obj} (d : EnvR w0 l rs w) (e : Env w0 l' (w.alloc o)) : EnvR w0 l' rs (w.alloc o) :=
  ⟨e, fun p hp => (d.r p hp).below ((Below.refl _ w).alloc (Nat.le_refl _) _)⟩

theorem mem_blk {w : World} {a b x y : Nat} (h1 : Blk w a 75 (cells8 x)) (h2 : Blk w b 75 (cells8 y)) : ∀ p ∈ [(a, x), (b, y)], Blk w p.1 75 (cells8 p.2) := by
  intro p hp
  simp only [List.mem_cons, List.not_mem_nil, or_false] at hp
  rcases hp with rfl | rfl
  · exact h1
  · exact h2
theorem ne_two {a b x y g : Nat} (h1 : a ≠ g) (h2 : b ≠ g) : ∀ p ∈ [(a, x), (b, y)], p.1 ≠ g := by
  intro p hp
  simp only [List.mem_cons, List.not_mem_nil, or_false] at hp
  rcases hp with rfl | rfl
  · exact h1
  · exact h2
theorem bz_one (j : Nat) : bz 1 j = if j = 0 then 1 else (fun _ : Nat => (0 : Int)) j := by
  have := bz_cons 0 1 (.inr rfl) j
  rw [show 2 * (0 : Int) + 1 = 1 from rfl] at this
  rw [this]
  unfold after
  by_cases e : j = 0
  · rw [if_pos e, if_pos (by omega)]
  · rw [if_neg e, if_neg (by omega)]
    unfold bz
    rw [Int.zero_ediv]; rfl
theorem Dw.fresh {w0 w : World} {l : List (Nat × Nat)} {rs : List (Nat × Nat × Int)} (d : EnvR w0 l rs w) : Dw w0 l rs w.heap.size (fun _ => 0) (w.alloc (.cells (madeCells #[.int .i64 0] 520) 3)) := by
  refine ⟨d.keep ((Below.refl _ w).alloc (Nat.le_refl _) _), World.rowIs_made w (.int .i64 0) 520 3, ?_, ?_, d.e.o.size⟩
  · intro p hp; have := (d.e.at_ p hp).lt; omega
  · intro p hp; have := (d.r p hp).1; omega
set_option maxRecDepth 50000 in
set_option maxHeartbeats 8000000 in
theorem div_bits (a b o1 o2 m n A B rest : Nat) (sa sb F : Bool) (s t : Int) (w : World)
    (hSgb : Hid (∀ u, Calls Tryz.prog 76 #[.agg (cells8 b)] u fun e w' => e = .returned (.int .i64 t) ∧ Below u.heap.size u w')) (ht : t ≠ 0)
    (hSa : Hid (∀ u, Calls Tryz.prog 138 #[.agg (cells8 a)] u fun e w' => ∃ g, u.heap.size ≤ g ∧ e = .returned (sl g 520) ∧ Ints w' g 520 (bz (m : Int)) ∧ Below u.heap.size u w'))
    (hSb : Hid (∀ u, Calls Tryz.prog 138 #[.agg (cells8 b)] u fun e w' => ∃ g, u.heap.size ≤ g ∧ e = .returned (sl g 520) ∧ Ints w' g 520 (bz (n : Int)) ∧ Below u.heap.size u w'))
    (hTa : Hid (∀ u g, Row u g 520 (bz (m : Int)) → Calls Tryz.prog 139 #[sl g 520] u fun e w' => e = .returned (.int .i64 A) ∧ w' = u))
    (hTb : Hid (∀ u g, Row u g 520 (bz (n : Int)) → Calls Tryz.prog 139 #[sl g 520] u fun e w' => e = .returned (.int .i64 B) ∧ w' = u))
    (hBa : Hid (∀ u, Calls Tryz.prog 113 #[.agg (cells8 a)] u fun e w' => e = .returned (.bool sa) ∧ Below u.heap.size u w'))
    (hBb : Hid (∀ u, Calls Tryz.prog 113 #[.agg (cells8 b)] u fun e w' => e = .returned (.bool sb) ∧ Below u.heap.size u w'))
    (hOr : Hid (∀ u p c, Row u p 520 (bz (lft m n 0)) → Calls Tryz.prog 122 #[sc p 520 c] u fun e w' => e = .returned (.tuple #[.agg (cells8 rest), .bool true]) ∧ Below u.heap.size u w'))
    (hSr : Hid (∀ u, Calls Tryz.prog 76 #[.agg (cells8 rest)] u fun e w' => e = .returned (.int .i64 s) ∧ Below u.heap.size u w'))
    (hO : Hid (∀ u p c z, Bd z → Row u p 520 (bz z) → Calls Tryz.prog 122 #[sc p 520 c] u fun e w' => e = .returned (.tuple #[.agg (cells8 (fitN z)), .bool (fit z)]) ∧ Below u.heap.size u w'))
    (hE : Hid (DivOk o1 o2 F (qfin (sa != sb) s (qut m n 0)) (rfin (sa != sb) sb s (lft m n 0) n)))
    (hA : A ≤ 512) (hB : B ≤ 512) (hn0 : Hid (0 < n)) (hmA : Hid (m < 2 ^ A)) (hnB : Hid (n < 2 ^ B)) (hst : Hid (∀ k, k = A + 1 - B → (m : Int) < upz n k)) :
    Calls Tryz.prog 99 #[W a, W b] w fun e w' => e = .returned (.tuple #[.agg (cells8 o1), .agg (cells8 o2), .bool F]) ∧ Below w.heap.size w w' := by
  have hmk : ∀ w : World, (Instr.makeSlice 116 (.int .i64 520) (.int .i64 520)).run Tryz.prog w = .ok (.slice (some ⟨w.heap.size, 0, none⟩) 520 520) (w.alloc (.cells (madeCells #[.int .i64 0] 520) 3)) := run_make_row' (P := Tryz.prog) 116 3 (.int .i64 0) 8 Tryz.underlying116 iInt rfl .i64 .i64 520 (by omega) (by omega)
  have ht2 : decide (t = 0) = false := decide_eq_false ht
  have ht3 : (t == 0) = false := by simp [ht]
  unfold W
  go_enter Tryz.func99, Tryz.ntmps99
  go_upto_region 1 with fail
  have D := hide (EnvR.of (Env.four w a b 0 0))
  rw [cells8_0] at D
  go_upto_region 3 with (first
    | (with_reducible refine at_list ?_; apply ldE (unhide D).e _ rfl rfl rfl (by repeat (first | exact List.mem_cons_self | apply List.mem_cons_of_mem)))
    | (go_at_call 76; refine (unhide hSgb _).mono ?_; rintro e w1 ⟨he, hw⟩; subst he; have D := hide ((unhide D).keep hw); clear hw))
  refine region_walk (S := Env w _) (l := [0, 2, 1, 3, 4, 5]) (t := [1, 3]) (by kernel_rfl) (by kernel_rfl) (by kernel_rfl) (by kernel_rfl) (by kernel_rfl) (by kernel_rfl) (by kernel_rfl) (by kernel_rfl) (unhide D).drew.e ?_
  refine walk_read rfl rfl rfl (fun u hS => exec_load8 (n := a) 75 (.tmp 2) (hS.blk (by repeat (first | exact List.mem_cons_self | apply List.mem_cons_of_mem))) rfl rfl Tryz.underlying75 rfl iWide) ?_
  refine walk_read rfl rfl rfl (fun u hS => exec_load8 (n := b) 75 (.tmp 3) (hS.blk (by repeat (first | exact List.mem_cons_self | apply List.mem_cons_of_mem))) rfl rfl Tryz.underlying75 rfl iWide) ?_
  go_simp
  refine walk_call (f := 138) (args := #[.agg (cells8 a)]) rfl rfl rfl (by go_simp) ?_
  refine (unhide hSa _).mono fun e w2 ⟨g1, hg1, he, hr, hb⟩ => ?_
  have D1 := ((unhide D).drew.keep hb).row hr.row
  refine ⟨_, he, D1.e, ?_⟩
  go_simp
  refine walk_call (f := 138) (args := #[.agg (cells8 b)]) rfl rfl rfl (by go_simp) ?_
  refine (unhide hSb _).mono fun e w3 ⟨g2, hg2, he2, hr2, hb2⟩ => ?_
  have D2 := (D1.keep hb2).row hr2.row
  refine ⟨_, he2, D2.e, ?_⟩
  go_simp
  refine walk_read (v := ?_) rfl rfl rfl (fun u hS => by go_simp; rfl) ?_
  refine walk_read (v := ?_) rfl rfl rfl (fun u hS => by go_simp; rfl) ?_
  go_simp
  refine walk_end ?_
  have D := hide D2
  clear hg1 hg2 he he2 hr hr2 hb hb2 D1 D2 hSa hSb hSgb
  go_upto_region 5 with fail
  have M0 : Hid (Dw w [(w.heap.size + 1 + 1 + 1, 0), (w.heap.size + 1 + 1, 0), (w.heap.size + 1, b), (w.heap.size, a)] [(g2, 520, (n : Int)), (g1, 520, (m : Int))] w3.heap.size (bz 0) (w3.alloc (.cells (madeCells #[.int .i64 0] 520) 3))) := by
    refine ⟨(unhide D).keep ((Below.refl _ w3).alloc (Nat.le_refl _) _), ?_, ?_, ?_, (unhide D).e.o.size⟩
    · exact World.rowIs.congr (World.rowIs_made w3 (.int .i64 0) 520 3) fun i _ => by unfold bz; rw [Int.zero_ediv]; rfl
    · intro p hp; have := ((unhide D).e.at_ p hp).lt; omega
    · intro p hp; have := ((unhide D).r p hp).1; omega
  clear D
  generalize w3.alloc (.cells (madeCells #[.int .i64 0] 520) 3) = w4 at M0 ⊢
  generalize w3.heap.size = gq at M0 ⊢
  go_wp2_with (go_at_call 139; first
    | (with_reducible refine (unhide hTa _ _ ((unhide M0).e.at (p := g1) (n := 520) (x := (m : Int)) (by repeat (first | exact List.mem_cons_self | apply List.mem_cons_of_mem)))).mono ?_; rintro e w5 ⟨he, hw⟩; subst he; subst hw)
    | (with_reducible refine (unhide hTb _ _ ((unhide M0).e.at (p := g2) (n := 520) (x := (n : Int)) (by repeat (first | exact List.mem_cons_self | apply List.mem_cons_of_mem)))).mono ?_; rintro e w6 ⟨he, hw⟩; subst he; subst hw))
  have hAB : (A : Int) - (B : Int) < 520 ∧ -520 ≤ (A : Int) - (B : Int) := by omega
  go_loopw [10, 11] (fun v10 i wr => ∃ N : Int, ∃ k gr cr : Nat, i = .int .i64 N ∧ -520 ≤ N ∧ N ≤ (A : Int) - (B : Int) ∧ k = (N + 1).toNat ∧ v10 = sc gr 520 cr ∧ Hid (Dw w [(w.heap.size + 1 + 1 + 1, 0), (w.heap.size + 1 + 1, 0), (w.heap.size + 1, b), (w.heap.size, a)] [(gr, 520, lft m n k), (g2, 520, (n : Int))] gq (bz (qut m n k)) wr)) (fun _ i _ => (intOf i + 1).toNat)
  case atStart =>
    refine ⟨(A : Int) - (B : Int), A + 1 - B, g1, 520, rfl, by omega, by omega, by omega, rfl, ?_⟩
    obtain ⟨e1, e2⟩ := start_left (unhide hst _ rfl)
    rw [e1, e2]
    refine ⟨((EnvR.of (unhide M0).e.e).row ((unhide M0).e.at (p := g2) (n := 520) (x := (n : Int)) (by repeat (first | exact List.mem_cons_self | apply List.mem_cons_of_mem)))).row ((unhide M0).e.at (p := g1) (n := 520) (x := (m : Int)) (by repeat (first | exact List.mem_cons_self | apply List.mem_cons_of_mem))), (unhide M0).q, (unhide M0).nl, ?_, (unhide M0).ng⟩
    intro p hp
    have h1 := (unhide M0).nr (g1, 520, (m : Int)) (by repeat (first | exact List.mem_cons_self | apply List.mem_cons_of_mem))
    have h2 := (unhide M0).nr (g2, 520, (n : Int)) (by repeat (first | exact List.mem_cons_self | apply List.mem_cons_of_mem))
    simp only [List.mem_cons, List.not_mem_nil, or_false] at hp
    rcases hp with rfl | rfl
    · exact h1
    · exact h2
  case round =>
    obtain ⟨N, k, gr, cr, rfl, hN1, hN2, hk, rfl, M1⟩ := hrel
    clear M0
    by_cases hN : 0 ≤ N
    · obtain ⟨j, rfl⟩ : ∃ j : Nat, N = j := ⟨N.toNat, by omega⟩
      have hkj : k = j + 1 := by omega
      subst hkj
      clear hk
      have hj5 : (j : Int) < 520 := by omega
      have HBd : Hid (0 ≤ lft m n (j + 1) ∧ 0 ≤ upz n j ∧ lft m n (j + 1) < ((2 ^ 520 : Nat) : Int) ∧ upz n j < ((2 ^ 520 : Nat) : Int)) := by
        have h1 := left_bound (m := m) (k := j + 1) (unhide hn0)
        have h2 := up_pos (k := j) (unhide hn0)
        have h3 := up_bound (k := j) (A := A) (unhide hnB) (by omega)
        obtain ⟨f, hf⟩ : ∃ f, f = 520 := ⟨_, rfl⟩
        have h4 : 2 ^ A ≤ 2 ^ f := Nat.pow_le_pow_right (by decide) (by omega)
        have h5 := unhide hmA
        show _ ∧ _
        rw [← hf]
        refine ⟨h1.1, by omega, by omega, by omega⟩
      obtain ⟨BB, hBB⟩ : ∃ BB, BB = decide (lft m n (j + 1) < upz n j) := ⟨_, rfl⟩
      have HLt := hide (left_lt (m := m) (k := j) (unhide hn0))
      have HGe := hide (left_ge (m := m) (k := j) (unhide hn0))
      have HQb := hide (bz_quo (m := m) (k := j) (unhide hn0))
      have HBB := hide hBB
      have Hup : Hid (upz n j = (n : Int) * ((2 ^ j : Nat) : Int)) := rfl
      generalize upz n j = U at *
      have hq := World.rowIs.cell (unhide M1).q (show j < 520 by omega)
      generalize lft m n (j + 1) = R at *
      have hfr := World.rowIs.frozen (unhide M1).q j
      clear hq hfr
      go_upto_region 9 with (go_at_call 140; refine furtherD (unhide M1) j U Hup (by decide) (by omega) (x := (n : Int)) (by repeat (first | exact List.mem_cons_self | apply List.mem_cons_of_mem)) ?_; intro gs ws Ds; have D := hide Ds; clear Ds)
      clear M1
      have hLe : Hid (∀ {Q : Ending → World → Prop}, (∀ w', Dw w [(w.heap.size + 1 + 1 + 1, 0), (w.heap.size + 1 + 1, 0), (w.heap.size + 1, b), (w.heap.size, a)] [(gs, 520, U), (gr, 520, R), (g2, 520, (n : Int))] gq (bz (qut m n (j + 1))) w' → Q (.returned (.bool BB)) w') → Calls Tryz.prog 119 #[sc gr 520 cr, sc gs 520 520] ws Q) := fun k =>
        leastD (unhide D) (by decide) (by repeat (first | exact List.mem_cons_self | apply List.mem_cons_of_mem)) (by repeat (first | exact List.mem_cons_self | apply List.mem_cons_of_mem)) BB HBB (unhide HBd).1 (unhide HBd).2.1 (unhide HBd).2.2.1 (unhide HBd).2.2.2 k
      clear hBB D
      cases BB
      · have hge := of_decide_eq_false (unhide HBB).symm
        have E1 := hide (unhide HGe (by omega))
        have E2 := hide (unhide HQb (by omega))
        clear hge
        go_upto_region 11 with (first
          | (go_at_call 119; refine unhide hLe ?_; intro w8 D8; have D := hide D8; clear D8)
          | (go_at_call 121; refine minusD (unhide D) (x := U) (by decide) (by repeat (first | exact List.mem_cons_self | apply List.mem_cons_of_mem)) ?_; intro ga wa Da; have D := hide Da; clear Da)
          | (go_at_call 120; refine plusD (unhide D) (x := R) (y := -U) (by decide) (by repeat (first | exact List.mem_cons_self | apply List.mem_cons_of_mem)) (by repeat (first | exact List.mem_cons_self | apply List.mem_cons_of_mem)) ?_; intro gb wb Db; have D := hide Db; clear Db))
        have hq := World.rowIs.cell (unhide D).q (show j < 520 by omega)
        have hfr := World.rowIs.frozen (unhide D).q j
        go_wp2
        go_roundw
        case rel =>
          refine ⟨(j : Int) - 1, j, gb, 520, by go_num, by omega, by omega, by omega, rfl, ?_⟩
          rw [(unhide E1).1]
          exact ((unhide D).set j 1 (unhide E2)).some (mem_two (by repeat (first | exact List.mem_cons_self | apply List.mem_cons_of_mem)) (by repeat (first | exact List.mem_cons_self | apply List.mem_cons_of_mem)))
        case measure => simp [intOf]
      · have hlt := of_decide_eq_true (unhide HBB).symm
        have E1 := hide (unhide HLt hlt)
        clear hlt
        go_wp2_with (go_at_call 119; refine unhide hLe ?_; intro w8 D8; have D := hide D8; clear D8)
        go_roundw
        case rel =>
          refine ⟨(j : Int) - 1, j, gr, cr, by go_num, by omega, by omega, by omega, rfl, ?_⟩
          rw [(unhide E1).1, (unhide E1).2]
          exact (unhide D).some (mem_two (by repeat (first | exact List.mem_cons_self | apply List.mem_cons_of_mem)) (by repeat (first | exact List.mem_cons_self | apply List.mem_cons_of_mem)))
        case measure => simp [intOf]
    · have hk0 : k = 0 := by omega
      subst hk0
      have D : Hid (EnvR w [(w.heap.size + 1 + 1 + 1, 0), (w.heap.size + 1 + 1, 0), (w.heap.size + 1, b), (w.heap.size, a)] [(gq, 520, qut m n 0), (gr, 520, lft m n 0), (g2, 520, (n : Int))] wr) := (unhide M1).e.row (unhide M1).q.row
      clear M1 hk hst
      generalize qut m n 0 = Q0 at *
      generalize lft m n 0 = R0 at *
      go_upto_region 13 with (first
        | (go_at_call 122; refine (unhide hOr _ _ _ ((unhide D).at (p := gr) (n := 520) (x := R0) (by repeat (first | exact List.mem_cons_self | apply List.mem_cons_of_mem)))).mono ?_; rintro e w5 ⟨he, hw⟩; subst he; have D := hide ((unhide D).keep hw); clear hw)
        | (with_reducible refine at_list ?_; refine stE (unhide D).e _ _ rfl rfl rfl rfl rfl ?_; intro D'; have D := hide ((unhide D).more D'); clear D'))
      refine region_plan (S := EnvR w _ [(gq, 520, Q0), (gr, 520, R0), (g2, 520, (n : Int))]) (l := [0, 1, 2, 3, 4]) (by kernel_rfl) (by kernel_rfl) (by kernel_rfl) (by kernel_rfl) (by kernel_rfl) (by kernel_rfl) (by kernel_rfl) ((unhide D).drew) ?_
      refine plan_read rfl rfl (fun u hS => exec_load8 (n := a) 75 (.tmp 2) (hS.e.blk (by repeat (first | exact List.mem_cons_self | apply List.mem_cons_of_mem))) rfl rfl Tryz.underlying75 rfl iWide) ?_
      go_simp
      refine plan_call (v := .bool sa) (f := 113) (args := #[.agg (cells8 a)]) rfl rfl (fun u hS => by go_simp) (fun u hS => (unhide hBa u).mono fun _ _ ⟨he, hb⟩ => ⟨he, hS.keep hb⟩) ?_
      go_simp
      refine plan_read rfl rfl (fun u hS => exec_load8 (n := b) 75 (.tmp 3) (hS.e.blk (by repeat (first | exact List.mem_cons_self | apply List.mem_cons_of_mem))) rfl rfl Tryz.underlying75 rfl iWide) ?_
      go_simp
      refine plan_call (v := .bool sb) (f := 113) (args := #[.agg (cells8 b)]) rfl rfl (fun u hS => by go_simp) (fun u hS => (unhide hBb u).mono fun _ _ ⟨he, hb⟩ => ⟨he, hS.keep hb⟩) ?_
      go_simp
      refine plan_read (v := .bool (sa != sb)) rfl rfl (fun u hS => by cases sa <;> cases sb <;> go_simp) ?_
      go_simp
      refine plan_end (fun u hS => ?_)
      have D := hide hS
      clear hS hBa hOr
      generalize w5.heap.size = s13 at D ⊢
      generalize (sa != sb) = sg at hE ⊢
      cases sg
      · have hE1 : Hid (DivOk o1 o2 F Q0 (bif sb then -R0 else R0)) := hE
        clear hE hSr
        cases sb
        · have hE2 : Hid (DivOk o1 o2 F Q0 R0) := hE1
          have hOq := hide (fun u (hr : Row u gq 520 (bz Q0)) => unhide hO u gq 520 Q0 (unhide hE2).bq hr)
          have hOl := hide (fun u (hr : Row u gr 520 (bz R0)) => unhide hO u gr cr R0 (unhide hE2).br hr)
          clear hE1 hO
          go_upto_region 24 with (first
            | (with_reducible refine at_list ?_; apply ldE (unhide D).e _ rfl rfl rfl (by repeat (first | exact List.mem_cons_self | apply List.mem_cons_of_mem)))
            | (go_at_call 113; refine (unhide hBb _).mono ?_; rintro e w8 ⟨he, hw⟩; subst he; have D := hide ((unhide D).keep hw); clear hw)
            | (with_reducible refine at_list ?_; have l16 := hide ((unhide D).e.blk (n := 0) (g := w.heap.size + 1 + 1 + 1) (by repeat (first | exact List.mem_cons_self | apply List.mem_cons_of_mem))).lt; refine stE (unhide D).e (.tmp 16) (.tmp 86) rfl rfl rfl rfl rfl ?_; intro D'; have D := hide ((unhide D).more D'); clear D')
            | (with_reducible refine at_list ?_; have l18 := hide ((unhide D).e.blk (n := 0) (g := w.heap.size + 1 + 1 + 1) (by repeat (first | exact List.mem_cons_self | apply List.mem_cons_of_mem))).lt; refine stE (unhide D).e (.tmp 18) (.tmp 91) rfl rfl rfl rfl rfl ?_; intro D'; have D := hide ((unhide D).more D'); clear D')
            | (go_at_call 122; first | (with_reducible refine (unhide hOq _ ((unhide D).at (p := gq) (n := 520) (x := Q0) (by repeat (first | exact List.mem_cons_self | apply List.mem_cons_of_mem)))).mono ?_; rintro e w9 ⟨he, hw⟩; subst he; have D := hide ((unhide D).keep hw); clear hw) | (with_reducible refine (unhide hOl _ ((unhide D).at (p := gr) (n := 520) (x := R0) (by repeat (first | exact List.mem_cons_self | apply List.mem_cons_of_mem)))).mono ?_; rintro e w10 ⟨he, hw⟩; subst he; have D := hide ((unhide D).keep hw); clear hw)))
          rw [(unhide hE2).fr]
          have Y := hide (unhide hE2).yes
          have Z := hide (unhide hE2).no
          have B4 := hide ((unhide D).e.blk (n := 0) (g := w.heap.size + 1 + 1) (by repeat (first | exact List.mem_cons_self | apply List.mem_cons_of_mem)))
          have B5 := hide ((unhide D).e.blk (n := 0) (g := w.heap.size + 1 + 1 + 1) (by repeat (first | exact List.mem_cons_self | apply List.mem_cons_of_mem)))
          have DO := hide (unhide D).e.o
          generalize fit Q0 = G at Y Z ⊢
          cases G
          · obtain ⟨z1, z2, z3⟩ := unhide Z rfl
            subst z1 z2 z3
            clear D hE2 Y Z
            go_wp2_with (first
              | (with_reducible refine at_list ?_; refine bd0 75 rfl rfl bWide0 ?_)
              | (with_reducible refine at_list ?_; refine st8 (n := 0) 75 (.tmp 4) (.tmp 99) (unhide B4) rfl rfl rfl rfl rfl iWide ?_)
              | (with_reducible refine at_list ?_; refine st8 (n := 0) 75 (.tmp 5) (.tmp 100) ((unhide B5).rowOther _ (by omega)) rfl rfl rfl rfl rfl iWide ?_))
            exact res88s (((unhide B4).row _).rowOther _ (by omega)) (((unhide B5).rowOther _ (by omega)).row _) rfl rfl rfl rfl rfl Tryz.underlying75 rfl iWide ⟨rfl, below_row (below_row (unhide DO) (by omega) _) (by omega) _⟩
          · obtain ⟨z1, z2, z3⟩ := unhide Y rfl
            subst z1 z2 z3
            have DS : Hid (Env w [(w10.heap.size, fitN R0), (w9.heap.size, fitN Q0)] _) := ⟨mem_blk ((unhide D).e.blk (by repeat (first | exact List.mem_cons_self | apply List.mem_cons_of_mem))) ((unhide D).e.blk (by repeat (first | exact List.mem_cons_self | apply List.mem_cons_of_mem))), (unhide D).e.o⟩
            have n16 := hide (show w9.heap.size ≠ w.heap.size + 1 + 1 ∧ w9.heap.size ≠ w.heap.size + 1 + 1 + 1 by have := unhide l16; omega)
            have n18 := hide (show w10.heap.size ≠ w.heap.size + 1 + 1 ∧ w10.heap.size ≠ w.heap.size + 1 + 1 + 1 by have := unhide l18; omega)
            clear hE2 Y Z D
            go_upto_region 26 with fail
            refine region_walk (S := Env w [(w10.heap.size, fitN R0), (w9.heap.size, fitN Q0)]) (l := [0, 1, 2, 3, 4]) (t := [2, 3]) (by kernel_rfl) (by kernel_rfl) (by kernel_rfl) (by kernel_rfl) (by kernel_rfl) (by kernel_rfl) (by kernel_rfl) (by kernel_rfl) (unhide DS).drew ?_
            generalize w9.heap.size = b16 at *
            generalize w10.heap.size = b18 at *
            refine walk_read rfl rfl rfl (fun u hS => exec_load8 (n := fitN Q0) 75 (.tmp 16) (hS.blk (by repeat (first | exact List.mem_cons_self | apply List.mem_cons_of_mem))) rfl rfl Tryz.underlying75 rfl iWide) ?_
            refine walk_read rfl rfl rfl (fun u hS => exec_load8 (n := fitN R0) 75 (.tmp 18) (hS.blk (by repeat (first | exact List.mem_cons_self | apply List.mem_cons_of_mem))) rfl rfl Tryz.underlying75 rfl iWide) ?_
            go_simp
            have D1 := (unhide DS).drew.row (g := w.heap.size + 1 + 1) (by omega) (ne_two (unhide n18).1 (unhide n16).1) (cells8 (fitN Q0))
            have D2 := D1.row (g := w.heap.size + 1 + 1 + 1) (by omega) (ne_two (unhide n18).2 (unhide n16).2) (cells8 (fitN R0))
            refine walk_store8 (n := fitN Q0) 75 (.tmp 4) (.tmp 101) rfl rfl rfl (unhide B4).drew rfl rfl rfl rfl iWide D1 ?_
            go_simp
            refine walk_store8 (n := fitN R0) 75 (.tmp 5) (.tmp 102) rfl rfl rfl ((unhide B5).drew.rowOther _ (by omega)) rfl rfl rfl rfl iWide D2 ?_
            go_simp
            refine walk_read (v := ?_) rfl rfl rfl (fun u hS => by go_simp; rfl) ?_
            go_simp
            refine walk_end ?_
            have O2 := hide D2.o
            clear D1 D2
            go_wp2
            exact res88s ((((unhide B4).drew).row _).rowOther _ (by omega)) ((((unhide B5).drew).rowOther _ (by omega)).row _) rfl rfl rfl rfl rfl Tryz.underlying75 rfl iWide ⟨rfl, unhide O2⟩
        · have hE2 : Hid (DivOk o1 o2 F Q0 (-R0)) := hE1
          have hOq := hide (fun u (hr : Row u gq 520 (bz Q0)) => unhide hO u gq 520 Q0 (unhide hE2).bq hr)
          have hOl := hide (fun u g (hr : Row u g 520 (bz (-R0))) => unhide hO u g 520 (-R0) (unhide hE2).br hr)
          clear hE1 hO
          go_upto_region 24 with (first
            | (with_reducible refine at_list ?_; apply ldE (unhide D).e _ rfl rfl rfl (by repeat (first | exact List.mem_cons_self | apply List.mem_cons_of_mem)))
            | (go_at_call 113; refine (unhide hBb _).mono ?_; rintro e w8 ⟨he, hw⟩; subst he; have D := hide ((unhide D).keep hw); clear hw)
            | (with_reducible refine at_list ?_; have l16 := hide ((unhide D).e.blk (n := 0) (g := w.heap.size + 1 + 1 + 1) (by repeat (first | exact List.mem_cons_self | apply List.mem_cons_of_mem))).lt; refine stE (unhide D).e (.tmp 16) (.tmp 86) rfl rfl rfl rfl rfl ?_; intro D'; have D := hide ((unhide D).more D'); clear D')
            | (with_reducible refine at_list ?_; have l18 := hide ((unhide D).e.blk (n := 0) (g := w.heap.size + 1 + 1 + 1) (by repeat (first | exact List.mem_cons_self | apply List.mem_cons_of_mem))).lt; refine stE (unhide D).e (.tmp 18) (.tmp 91) rfl rfl rfl rfl rfl ?_; intro D'; have D := hide ((unhide D).more D'); clear D')
            | (go_at_call 121; refine minusR (unhide D) (x := R0) (by decide) (by repeat (first | exact List.mem_cons_self | apply List.mem_cons_of_mem)) ?_; intro gm wm Dm; have D := hide Dm; clear Dm)
            | (go_at_call 122; first | (with_reducible refine (unhide hOq _ ((unhide D).at (p := gq) (n := 520) (x := Q0) (by repeat (first | exact List.mem_cons_self | apply List.mem_cons_of_mem)))).mono ?_; rintro e w9 ⟨he, hw⟩; subst he; have D := hide ((unhide D).keep hw); clear hw) | (with_reducible refine (unhide hOl _ _ ((unhide D).at (p := gm) (n := 520) (x := -R0) (by repeat (first | exact List.mem_cons_self | apply List.mem_cons_of_mem)))).mono ?_; rintro e w10 ⟨he, hw⟩; subst he; have D := hide ((unhide D).keep hw); clear hw)))
          rw [(unhide hE2).fr]
          have Y := hide (unhide hE2).yes
          have Z := hide (unhide hE2).no
          have B4 := hide ((unhide D).e.blk (n := 0) (g := w.heap.size + 1 + 1) (by repeat (first | exact List.mem_cons_self | apply List.mem_cons_of_mem)))
          have B5 := hide ((unhide D).e.blk (n := 0) (g := w.heap.size + 1 + 1 + 1) (by repeat (first | exact List.mem_cons_self | apply List.mem_cons_of_mem)))
          have DO := hide (unhide D).e.o
          generalize fit Q0 = G at Y Z ⊢
          cases G
          · obtain ⟨z1, z2, z3⟩ := unhide Z rfl
            subst z1 z2 z3
            clear D hE2 Y Z
            go_wp2_with (first
              | (with_reducible refine at_list ?_; refine bd0 75 rfl rfl bWide0 ?_)
              | (with_reducible refine at_list ?_; refine st8 (n := 0) 75 (.tmp 4) (.tmp 99) (unhide B4) rfl rfl rfl rfl rfl iWide ?_)
              | (with_reducible refine at_list ?_; refine st8 (n := 0) 75 (.tmp 5) (.tmp 100) ((unhide B5).rowOther _ (by omega)) rfl rfl rfl rfl rfl iWide ?_))
            exact res88s (((unhide B4).row _).rowOther _ (by omega)) (((unhide B5).rowOther _ (by omega)).row _) rfl rfl rfl rfl rfl Tryz.underlying75 rfl iWide ⟨rfl, below_row (below_row (unhide DO) (by omega) _) (by omega) _⟩
          · obtain ⟨z1, z2, z3⟩ := unhide Y rfl
            subst z1 z2 z3
            have DS : Hid (Env w [(w10.heap.size, fitN (-R0)), (w9.heap.size, fitN Q0)] _) := ⟨mem_blk ((unhide D).e.blk (by repeat (first | exact List.mem_cons_self | apply List.mem_cons_of_mem))) ((unhide D).e.blk (by repeat (first | exact List.mem_cons_self | apply List.mem_cons_of_mem))), (unhide D).e.o⟩
            have n16 := hide (show w9.heap.size ≠ w.heap.size + 1 + 1 ∧ w9.heap.size ≠ w.heap.size + 1 + 1 + 1 by have := unhide l16; omega)
            have n18 := hide (show w10.heap.size ≠ w.heap.size + 1 + 1 ∧ w10.heap.size ≠ w.heap.size + 1 + 1 + 1 by have := unhide l18; omega)
            clear hE2 Y Z D
            go_upto_region 26 with fail
            refine region_walk (S := Env w [(w10.heap.size, fitN (-R0)), (w9.heap.size, fitN Q0)]) (l := [0, 1, 2, 3, 4]) (t := [2, 3]) (by kernel_rfl) (by kernel_rfl) (by kernel_rfl) (by kernel_rfl) (by kernel_rfl) (by kernel_rfl) (by kernel_rfl) (by kernel_rfl) (unhide DS).drew ?_
            generalize w9.heap.size = b16 at *
            generalize w10.heap.size = b18 at *
            refine walk_read rfl rfl rfl (fun u hS => exec_load8 (n := fitN Q0) 75 (.tmp 16) (hS.blk (by repeat (first | exact List.mem_cons_self | apply List.mem_cons_of_mem))) rfl rfl Tryz.underlying75 rfl iWide) ?_
            refine walk_read rfl rfl rfl (fun u hS => exec_load8 (n := fitN (-R0)) 75 (.tmp 18) (hS.blk (by repeat (first | exact List.mem_cons_self | apply List.mem_cons_of_mem))) rfl rfl Tryz.underlying75 rfl iWide) ?_
            go_simp
            have D1 := (unhide DS).drew.row (g := w.heap.size + 1 + 1) (by omega) (ne_two (unhide n18).1 (unhide n16).1) (cells8 (fitN Q0))
            have D2 := D1.row (g := w.heap.size + 1 + 1 + 1) (by omega) (ne_two (unhide n18).2 (unhide n16).2) (cells8 (fitN (-R0)))
            refine walk_store8 (n := fitN Q0) 75 (.tmp 4) (.tmp 101) rfl rfl rfl (unhide B4).drew rfl rfl rfl rfl iWide D1 ?_
            go_simp
            refine walk_store8 (n := fitN (-R0)) 75 (.tmp 5) (.tmp 102) rfl rfl rfl ((unhide B5).drew.rowOther _ (by omega)) rfl rfl rfl rfl iWide D2 ?_
            go_simp
            refine walk_read (v := ?_) rfl rfl rfl (fun u hS => by go_simp; rfl) ?_
            go_simp
            refine walk_end ?_
            have O2 := hide D2.o
            clear D1 D2
            go_wp2
            exact res88s ((((unhide B4).drew).row _).rowOther _ (by omega)) ((((unhide B5).drew).rowOther _ (by omega)).row _) rfl rfl rfl rfl rfl Tryz.underlying75 rfl iWide ⟨rfl, unhide O2⟩
      · by_cases hs0 : s = 0
        · subst hs0
          have hE1 : Hid (DivOk o1 o2 F (-Q0) (bif sb then -R0 else R0)) := hE
          clear hE
          go_upto_region 20 with (first
            | (with_reducible refine at_list ?_; apply ldE (unhide D).e _ rfl rfl rfl (by repeat (first | exact List.mem_cons_self | apply List.mem_cons_of_mem)))
            | (go_at_call 76; refine (unhide hSr _).mono ?_; rintro e w7 ⟨he, hw⟩; subst he; have D := hide ((unhide D).keep hw); clear hw)
            | (go_at_call 121; refine minusR (unhide D) (x := Q0) (by decide) (by repeat (first | exact List.mem_cons_self | apply List.mem_cons_of_mem)) ?_; intro gn wn Dn; have D := hide Dn; clear Dn))
          clear hSr
          cases sb
          · have hE2 : Hid (DivOk o1 o2 F (-Q0) R0) := hE1
            have hOq := hide (fun u (hr : Row u gn 520 (bz (-Q0))) => unhide hO u gn 520 (-Q0) (unhide hE2).bq hr)
            have hOl := hide (fun u (hr : Row u gr 520 (bz R0)) => unhide hO u gr cr R0 (unhide hE2).br hr)
            clear hE1 hO
            go_upto_region 24 with (first
              | (with_reducible refine at_list ?_; apply ldE (unhide D).e _ rfl rfl rfl (by repeat (first | exact List.mem_cons_self | apply List.mem_cons_of_mem)))
              | (go_at_call 113; refine (unhide hBb _).mono ?_; rintro e w8 ⟨he, hw⟩; subst he; have D := hide ((unhide D).keep hw); clear hw)
              | (with_reducible refine at_list ?_; have l16 := hide ((unhide D).e.blk (n := 0) (g := w.heap.size + 1 + 1 + 1) (by repeat (first | exact List.mem_cons_self | apply List.mem_cons_of_mem))).lt; refine stE (unhide D).e (.tmp 16) (.tmp 86) rfl rfl rfl rfl rfl ?_; intro D'; have D := hide ((unhide D).more D'); clear D')
              | (with_reducible refine at_list ?_; have l18 := hide ((unhide D).e.blk (n := 0) (g := w.heap.size + 1 + 1 + 1) (by repeat (first | exact List.mem_cons_self | apply List.mem_cons_of_mem))).lt; refine stE (unhide D).e (.tmp 18) (.tmp 91) rfl rfl rfl rfl rfl ?_; intro D'; have D := hide ((unhide D).more D'); clear D')
              | (go_at_call 122; first | (with_reducible refine (unhide hOq _ ((unhide D).at (p := gn) (n := 520) (x := (-Q0)) (by repeat (first | exact List.mem_cons_self | apply List.mem_cons_of_mem)))).mono ?_; rintro e w9 ⟨he, hw⟩; subst he; have D := hide ((unhide D).keep hw); clear hw) | (with_reducible refine (unhide hOl _ ((unhide D).at (p := gr) (n := 520) (x := R0) (by repeat (first | exact List.mem_cons_self | apply List.mem_cons_of_mem)))).mono ?_; rintro e w10 ⟨he, hw⟩; subst he; have D := hide ((unhide D).keep hw); clear hw)))
            rw [(unhide hE2).fr]
            have Y := hide (unhide hE2).yes
            have Z := hide (unhide hE2).no
            have B4 := hide ((unhide D).e.blk (n := 0) (g := w.heap.size + 1 + 1) (by repeat (first | exact List.mem_cons_self | apply List.mem_cons_of_mem)))
            have B5 := hide ((unhide D).e.blk (n := 0) (g := w.heap.size + 1 + 1 + 1) (by repeat (first | exact List.mem_cons_self | apply List.mem_cons_of_mem)))
            have DO := hide (unhide D).e.o
            generalize fit (-Q0) = G at Y Z ⊢
            cases G
            · obtain ⟨z1, z2, z3⟩ := unhide Z rfl
              subst z1 z2 z3
              clear D hE2 Y Z
              go_wp2_with (first
                | (with_reducible refine at_list ?_; refine bd0 75 rfl rfl bWide0 ?_)
                | (with_reducible refine at_list ?_; refine st8 (n := 0) 75 (.tmp 4) (.tmp 99) (unhide B4) rfl rfl rfl rfl rfl iWide ?_)
                | (with_reducible refine at_list ?_; refine st8 (n := 0) 75 (.tmp 5) (.tmp 100) ((unhide B5).rowOther _ (by omega)) rfl rfl rfl rfl rfl iWide ?_))
              exact res88s (((unhide B4).row _).rowOther _ (by omega)) (((unhide B5).rowOther _ (by omega)).row _) rfl rfl rfl rfl rfl Tryz.underlying75 rfl iWide ⟨rfl, below_row (below_row (unhide DO) (by omega) _) (by omega) _⟩
            · obtain ⟨z1, z2, z3⟩ := unhide Y rfl
              subst z1 z2 z3
              have DS : Hid (Env w [(w10.heap.size, fitN R0), (w9.heap.size, fitN (-Q0))] _) := ⟨mem_blk ((unhide D).e.blk (by repeat (first | exact List.mem_cons_self | apply List.mem_cons_of_mem))) ((unhide D).e.blk (by repeat (first | exact List.mem_cons_self | apply List.mem_cons_of_mem))), (unhide D).e.o⟩
              have n16 := hide (show w9.heap.size ≠ w.heap.size + 1 + 1 ∧ w9.heap.size ≠ w.heap.size + 1 + 1 + 1 by have := unhide l16; omega)
              have n18 := hide (show w10.heap.size ≠ w.heap.size + 1 + 1 ∧ w10.heap.size ≠ w.heap.size + 1 + 1 + 1 by have := unhide l18; omega)
              clear hE2 Y Z D
              go_upto_region 26 with fail
              refine region_walk (S := Env w [(w10.heap.size, fitN R0), (w9.heap.size, fitN (-Q0))]) (l := [0, 1, 2, 3, 4]) (t := [2, 3]) (by kernel_rfl) (by kernel_rfl) (by kernel_rfl) (by kernel_rfl) (by kernel_rfl) (by kernel_rfl) (by kernel_rfl) (by kernel_rfl) (unhide DS).drew ?_
              generalize w9.heap.size = b16 at *
              generalize w10.heap.size = b18 at *
              refine walk_read rfl rfl rfl (fun u hS => exec_load8 (n := fitN (-Q0)) 75 (.tmp 16) (hS.blk (by repeat (first | exact List.mem_cons_self | apply List.mem_cons_of_mem))) rfl rfl Tryz.underlying75 rfl iWide) ?_
              refine walk_read rfl rfl rfl (fun u hS => exec_load8 (n := fitN R0) 75 (.tmp 18) (hS.blk (by repeat (first | exact List.mem_cons_self | apply List.mem_cons_of_mem))) rfl rfl Tryz.underlying75 rfl iWide) ?_
              go_simp
              have D1 := (unhide DS).drew.row (g := w.heap.size + 1 + 1) (by omega) (ne_two (unhide n18).1 (unhide n16).1) (cells8 (fitN (-Q0)))
              have D2 := D1.row (g := w.heap.size + 1 + 1 + 1) (by omega) (ne_two (unhide n18).2 (unhide n16).2) (cells8 (fitN R0))
              refine walk_store8 (n := fitN (-Q0)) 75 (.tmp 4) (.tmp 101) rfl rfl rfl (unhide B4).drew rfl rfl rfl rfl iWide D1 ?_
              go_simp
              refine walk_store8 (n := fitN R0) 75 (.tmp 5) (.tmp 102) rfl rfl rfl ((unhide B5).drew.rowOther _ (by omega)) rfl rfl rfl rfl iWide D2 ?_
              go_simp
              refine walk_read (v := ?_) rfl rfl rfl (fun u hS => by go_simp; rfl) ?_
              go_simp
              refine walk_end ?_
              have O2 := hide D2.o
              clear D1 D2
              go_wp2
              exact res88s ((((unhide B4).drew).row _).rowOther _ (by omega)) ((((unhide B5).drew).rowOther _ (by omega)).row _) rfl rfl rfl rfl rfl Tryz.underlying75 rfl iWide ⟨rfl, unhide O2⟩
          · have hE2 : Hid (DivOk o1 o2 F (-Q0) (-R0)) := hE1
            have hOq := hide (fun u (hr : Row u gn 520 (bz (-Q0))) => unhide hO u gn 520 (-Q0) (unhide hE2).bq hr)
            have hOl := hide (fun u g (hr : Row u g 520 (bz (-R0))) => unhide hO u g 520 (-R0) (unhide hE2).br hr)
            clear hE1 hO
            go_upto_region 24 with (first
              | (with_reducible refine at_list ?_; apply ldE (unhide D).e _ rfl rfl rfl (by repeat (first | exact List.mem_cons_self | apply List.mem_cons_of_mem)))
              | (go_at_call 113; refine (unhide hBb _).mono ?_; rintro e w8 ⟨he, hw⟩; subst he; have D := hide ((unhide D).keep hw); clear hw)
              | (with_reducible refine at_list ?_; have l16 := hide ((unhide D).e.blk (n := 0) (g := w.heap.size + 1 + 1 + 1) (by repeat (first | exact List.mem_cons_self | apply List.mem_cons_of_mem))).lt; refine stE (unhide D).e (.tmp 16) (.tmp 86) rfl rfl rfl rfl rfl ?_; intro D'; have D := hide ((unhide D).more D'); clear D')
              | (with_reducible refine at_list ?_; have l18 := hide ((unhide D).e.blk (n := 0) (g := w.heap.size + 1 + 1 + 1) (by repeat (first | exact List.mem_cons_self | apply List.mem_cons_of_mem))).lt; refine stE (unhide D).e (.tmp 18) (.tmp 91) rfl rfl rfl rfl rfl ?_; intro D'; have D := hide ((unhide D).more D'); clear D')
              | (go_at_call 121; refine minusR (unhide D) (x := R0) (by decide) (by repeat (first | exact List.mem_cons_self | apply List.mem_cons_of_mem)) ?_; intro gm wm Dm; have D := hide Dm; clear Dm)
              | (go_at_call 122; first | (with_reducible refine (unhide hOq _ ((unhide D).at (p := gn) (n := 520) (x := (-Q0)) (by repeat (first | exact List.mem_cons_self | apply List.mem_cons_of_mem)))).mono ?_; rintro e w9 ⟨he, hw⟩; subst he; have D := hide ((unhide D).keep hw); clear hw) | (with_reducible refine (unhide hOl _ _ ((unhide D).at (p := gm) (n := 520) (x := -R0) (by repeat (first | exact List.mem_cons_self | apply List.mem_cons_of_mem)))).mono ?_; rintro e w10 ⟨he, hw⟩; subst he; have D := hide ((unhide D).keep hw); clear hw)))
            rw [(unhide hE2).fr]
            have Y := hide (unhide hE2).yes
            have Z := hide (unhide hE2).no
            have B4 := hide ((unhide D).e.blk (n := 0) (g := w.heap.size + 1 + 1) (by repeat (first | exact List.mem_cons_self | apply List.mem_cons_of_mem)))
            have B5 := hide ((unhide D).e.blk (n := 0) (g := w.heap.size + 1 + 1 + 1) (by repeat (first | exact List.mem_cons_self | apply List.mem_cons_of_mem)))
            have DO := hide (unhide D).e.o
            generalize fit (-Q0) = G at Y Z ⊢
            cases G
            · obtain ⟨z1, z2, z3⟩ := unhide Z rfl
              subst z1 z2 z3
              clear D hE2 Y Z
              go_wp2_with (first
                | (with_reducible refine at_list ?_; refine bd0 75 rfl rfl bWide0 ?_)
                | (with_reducible refine at_list ?_; refine st8 (n := 0) 75 (.tmp 4) (.tmp 99) (unhide B4) rfl rfl rfl rfl rfl iWide ?_)
                | (with_reducible refine at_list ?_; refine st8 (n := 0) 75 (.tmp 5) (.tmp 100) ((unhide B5).rowOther _ (by omega)) rfl rfl rfl rfl rfl iWide ?_))
              exact res88s (((unhide B4).row _).rowOther _ (by omega)) (((unhide B5).rowOther _ (by omega)).row _) rfl rfl rfl rfl rfl Tryz.underlying75 rfl iWide ⟨rfl, below_row (below_row (unhide DO) (by omega) _) (by omega) _⟩
            · obtain ⟨z1, z2, z3⟩ := unhide Y rfl
              subst z1 z2 z3
              have DS : Hid (Env w [(w10.heap.size, fitN (-R0)), (w9.heap.size, fitN (-Q0))] _) := ⟨mem_blk ((unhide D).e.blk (by repeat (first | exact List.mem_cons_self | apply List.mem_cons_of_mem))) ((unhide D).e.blk (by repeat (first | exact List.mem_cons_self | apply List.mem_cons_of_mem))), (unhide D).e.o⟩
              have n16 := hide (show w9.heap.size ≠ w.heap.size + 1 + 1 ∧ w9.heap.size ≠ w.heap.size + 1 + 1 + 1 by have := unhide l16; omega)
              have n18 := hide (show w10.heap.size ≠ w.heap.size + 1 + 1 ∧ w10.heap.size ≠ w.heap.size + 1 + 1 + 1 by have := unhide l18; omega)
              clear hE2 Y Z D
              go_upto_region 26 with fail
              refine region_walk (S := Env w [(w10.heap.size, fitN (-R0)), (w9.heap.size, fitN (-Q0))]) (l := [0, 1, 2, 3, 4]) (t := [2, 3]) (by kernel_rfl) (by kernel_rfl) (by kernel_rfl) (by kernel_rfl) (by kernel_rfl) (by kernel_rfl) (by kernel_rfl) (by kernel_rfl) (unhide DS).drew ?_
              generalize w9.heap.size = b16 at *
              generalize w10.heap.size = b18 at *
              refine walk_read rfl rfl rfl (fun u hS => exec_load8 (n := fitN (-Q0)) 75 (.tmp 16) (hS.blk (by repeat (first | exact List.mem_cons_self | apply List.mem_cons_of_mem))) rfl rfl Tryz.underlying75 rfl iWide) ?_
              refine walk_read rfl rfl rfl (fun u hS => exec_load8 (n := fitN (-R0)) 75 (.tmp 18) (hS.blk (by repeat (first | exact List.mem_cons_self | apply List.mem_cons_of_mem))) rfl rfl Tryz.underlying75 rfl iWide) ?_
              go_simp
              have D1 := (unhide DS).drew.row (g := w.heap.size + 1 + 1) (by omega) (ne_two (unhide n18).1 (unhide n16).1) (cells8 (fitN (-Q0)))
              have D2 := D1.row (g := w.heap.size + 1 + 1 + 1) (by omega) (ne_two (unhide n18).2 (unhide n16).2) (cells8 (fitN (-R0)))
              refine walk_store8 (n := fitN (-Q0)) 75 (.tmp 4) (.tmp 101) rfl rfl rfl (unhide B4).drew rfl rfl rfl rfl iWide D1 ?_
              go_simp
              refine walk_store8 (n := fitN (-R0)) 75 (.tmp 5) (.tmp 102) rfl rfl rfl ((unhide B5).drew.rowOther _ (by omega)) rfl rfl rfl rfl iWide D2 ?_
              go_simp
              refine walk_read (v := ?_) rfl rfl rfl (fun u hS => by go_simp; rfl) ?_
              go_simp
              refine walk_end ?_
              have O2 := hide D2.o
              clear D1 D2
              go_wp2
              exact res88s ((((unhide B4).drew).row _).rowOther _ (by omega)) ((((unhide B5).drew).rowOther _ (by omega)).row _) rfl rfl rfl rfl rfl Tryz.underlying75 rfl iWide ⟨rfl, unhide O2⟩
        · have hE1 : Hid (DivOk o1 o2 F (-(Q0 + 1)) (bif sb then -((n : Int) + -R0) else (n : Int) + -R0)) := by
            have h := unhide hE
            unfold qfin rfin rone at h
            rw [cond_true, cond_true, if_neg hs0, if_neg hs0] at h
            exact h
          have hs2 : decide (s = 0) = false := decide_eq_false hs0
          have hs3 : (s == 0) = false := by simp [hs0]
          have hs4 : (s != 0) = true := by simp [hs0]
          clear hE
          go_upto_region 16 with (first
            | (with_reducible refine at_list ?_; apply ldE (unhide D).e _ rfl rfl rfl (by repeat (first | exact List.mem_cons_self | apply List.mem_cons_of_mem)))
            | (go_at_call 76; refine (unhide hSr _).mono ?_; rintro e w7 ⟨he, hw⟩; subst he; have D := hide ((unhide D).keep hw); clear hw))
          have MO := hide (Dw.fresh (unhide D))
          generalize w7.alloc (.cells (madeCells #[.int .i64 0] 520) 3) = wo at MO ⊢
          generalize w7.heap.size = go at MO ⊢
          have hc := World.rowIs.cell (unhide MO).q (show 0 < 520 by decide)
          have hf := World.rowIs.frozen (unhide MO).q 0
          go_upto_region 17 with fail
          have MP := (unhide MO).set 0 1 bz_one
          have D := hide (MP.e.row MP.q.row)
          clear hc hf MO MP
          generalize wo.setCell ⟨go, 0, none⟩ (.int .i64 1) = wq at D ⊢
          go_upto_region 20 with (first
            | (go_at_call 120; first
                | (with_reducible refine plusR (unhide D) (p := gq) (q := go) (x := Q0) (y := 1) (by decide) (by repeat (first | exact List.mem_cons_self | apply List.mem_cons_of_mem)) (by repeat (first | exact List.mem_cons_self | apply List.mem_cons_of_mem)) ?_; intro gp wp Dp; have D := hide Dp; clear Dp)
                | (with_reducible refine plusR (unhide D) (p := g2) (x := (n : Int)) (y := -R0) (by decide) (by repeat (first | exact List.mem_cons_self | apply List.mem_cons_of_mem)) (by repeat (first | exact List.mem_cons_self | apply List.mem_cons_of_mem)) ?_; intro gt wt Dt; have D := hide Dt; clear Dt))
            | (go_at_call 121; first
                | (with_reducible refine minusR (unhide D) (p := gr) (x := R0) (by decide) (by repeat (first | exact List.mem_cons_self | apply List.mem_cons_of_mem)) ?_; intro gu wu Du; have D := hide Du; clear Du)
                | (with_reducible refine minusR (unhide D) (x := Q0 + 1) (by decide) (by repeat (first | exact List.mem_cons_self | apply List.mem_cons_of_mem)) ?_; intro gn wn Dn; have D := hide Dn; clear Dn)))
          clear hSr
          cases sb
          · have hE2 : Hid (DivOk o1 o2 F (-(Q0 + 1)) ((n : Int) + -R0)) := hE1
            have hOq := hide (fun u (hr : Row u gn 520 (bz (-(Q0 + 1)))) => unhide hO u gn 520 (-(Q0 + 1)) (unhide hE2).bq hr)
            have hOl := hide (fun u (hr : Row u gt 520 (bz ((n : Int) + -R0))) => unhide hO u gt 520 ((n : Int) + -R0) (unhide hE2).br hr)
            clear hE1 hO
            go_upto_region 24 with (first
              | (with_reducible refine at_list ?_; apply ldE (unhide D).e _ rfl rfl rfl (by repeat (first | exact List.mem_cons_self | apply List.mem_cons_of_mem)))
              | (go_at_call 113; refine (unhide hBb _).mono ?_; rintro e w8 ⟨he, hw⟩; subst he; have D := hide ((unhide D).keep hw); clear hw)
              | (with_reducible refine at_list ?_; have l16 := hide ((unhide D).e.blk (n := 0) (g := w.heap.size + 1 + 1 + 1) (by repeat (first | exact List.mem_cons_self | apply List.mem_cons_of_mem))).lt; refine stE (unhide D).e (.tmp 16) (.tmp 86) rfl rfl rfl rfl rfl ?_; intro D'; have D := hide ((unhide D).more D'); clear D')
              | (with_reducible refine at_list ?_; have l18 := hide ((unhide D).e.blk (n := 0) (g := w.heap.size + 1 + 1 + 1) (by repeat (first | exact List.mem_cons_self | apply List.mem_cons_of_mem))).lt; refine stE (unhide D).e (.tmp 18) (.tmp 91) rfl rfl rfl rfl rfl ?_; intro D'; have D := hide ((unhide D).more D'); clear D')
              | (go_at_call 122; first | (with_reducible refine (unhide hOq _ ((unhide D).at (p := gn) (n := 520) (x := (-(Q0 + 1))) (by repeat (first | exact List.mem_cons_self | apply List.mem_cons_of_mem)))).mono ?_; rintro e w9 ⟨he, hw⟩; subst he; have D := hide ((unhide D).keep hw); clear hw) | (with_reducible refine (unhide hOl _ ((unhide D).at (p := gt) (n := 520) (x := ((n : Int) + -R0)) (by repeat (first | exact List.mem_cons_self | apply List.mem_cons_of_mem)))).mono ?_; rintro e w10 ⟨he, hw⟩; subst he; have D := hide ((unhide D).keep hw); clear hw)))
            rw [(unhide hE2).fr]
            have Y := hide (unhide hE2).yes
            have Z := hide (unhide hE2).no
            have B4 := hide ((unhide D).e.blk (n := 0) (g := w.heap.size + 1 + 1) (by repeat (first | exact List.mem_cons_self | apply List.mem_cons_of_mem)))
            have B5 := hide ((unhide D).e.blk (n := 0) (g := w.heap.size + 1 + 1 + 1) (by repeat (first | exact List.mem_cons_self | apply List.mem_cons_of_mem)))
            have DO := hide (unhide D).e.o
            generalize fit (-(Q0 + 1)) = G at Y Z ⊢
            cases G
            · obtain ⟨z1, z2, z3⟩ := unhide Z rfl
              subst z1 z2 z3
              clear D hE2 Y Z
              go_wp2_with (first
                | (with_reducible refine at_list ?_; refine bd0 75 rfl rfl bWide0 ?_)
                | (with_reducible refine at_list ?_; refine st8 (n := 0) 75 (.tmp 4) (.tmp 99) (unhide B4) rfl rfl rfl rfl rfl iWide ?_)
                | (with_reducible refine at_list ?_; refine st8 (n := 0) 75 (.tmp 5) (.tmp 100) ((unhide B5).rowOther _ (by omega)) rfl rfl rfl rfl rfl iWide ?_))
              exact res88s (((unhide B4).row _).rowOther _ (by omega)) (((unhide B5).rowOther _ (by omega)).row _) rfl rfl rfl rfl rfl Tryz.underlying75 rfl iWide ⟨rfl, below_row (below_row (unhide DO) (by omega) _) (by omega) _⟩
            · obtain ⟨z1, z2, z3⟩ := unhide Y rfl
              subst z1 z2 z3
              have DS : Hid (Env w [(w10.heap.size, fitN ((n : Int) + -R0)), (w9.heap.size, fitN (-(Q0 + 1)))] _) := ⟨mem_blk ((unhide D).e.blk (by repeat (first | exact List.mem_cons_self | apply List.mem_cons_of_mem))) ((unhide D).e.blk (by repeat (first | exact List.mem_cons_self | apply List.mem_cons_of_mem))), (unhide D).e.o⟩
              have n16 := hide (show w9.heap.size ≠ w.heap.size + 1 + 1 ∧ w9.heap.size ≠ w.heap.size + 1 + 1 + 1 by have := unhide l16; omega)
              have n18 := hide (show w10.heap.size ≠ w.heap.size + 1 + 1 ∧ w10.heap.size ≠ w.heap.size + 1 + 1 + 1 by have := unhide l18; omega)
              clear hE2 Y Z D
              go_upto_region 26 with fail
              refine region_walk (S := Env w [(w10.heap.size, fitN ((n : Int) + -R0)), (w9.heap.size, fitN (-(Q0 + 1)))]) (l := [0, 1, 2, 3, 4]) (t := [2, 3]) (by kernel_rfl) (by kernel_rfl) (by kernel_rfl) (by kernel_rfl) (by kernel_rfl) (by kernel_rfl) (by kernel_rfl) (by kernel_rfl) (unhide DS).drew ?_
              generalize w9.heap.size = b16 at *
              generalize w10.heap.size = b18 at *
              refine walk_read rfl rfl rfl (fun u hS => exec_load8 (n := fitN (-(Q0 + 1))) 75 (.tmp 16) (hS.blk (by repeat (first | exact List.mem_cons_self | apply List.mem_cons_of_mem))) rfl rfl Tryz.underlying75 rfl iWide) ?_
              refine walk_read rfl rfl rfl (fun u hS => exec_load8 (n := fitN ((n : Int) + -R0)) 75 (.tmp 18) (hS.blk (by repeat (first | exact List.mem_cons_self | apply List.mem_cons_of_mem))) rfl rfl Tryz.underlying75 rfl iWide) ?_
              go_simp
              have D1 := (unhide DS).drew.row (g := w.heap.size + 1 + 1) (by omega) (ne_two (unhide n18).1 (unhide n16).1) (cells8 (fitN (-(Q0 + 1))))
              have D2 := D1.row (g := w.heap.size + 1 + 1 + 1) (by omega) (ne_two (unhide n18).2 (unhide n16).2) (cells8 (fitN ((n : Int) + -R0)))
              refine walk_store8 (n := fitN (-(Q0 + 1))) 75 (.tmp 4) (.tmp 101) rfl rfl rfl (unhide B4).drew rfl rfl rfl rfl iWide D1 ?_
              go_simp
              refine walk_store8 (n := fitN ((n : Int) + -R0)) 75 (.tmp 5) (.tmp 102) rfl rfl rfl ((unhide B5).drew.rowOther _ (by omega)) rfl rfl rfl rfl iWide D2 ?_
              go_simp
              refine walk_read (v := ?_) rfl rfl rfl (fun u hS => by go_simp; rfl) ?_
              go_simp
              refine walk_end ?_
              have O2 := hide D2.o
              clear D1 D2
              go_wp2
              exact res88s ((((unhide B4).drew).row _).rowOther _ (by omega)) ((((unhide B5).drew).rowOther _ (by omega)).row _) rfl rfl rfl rfl rfl Tryz.underlying75 rfl iWide ⟨rfl, unhide O2⟩
          · have hE2 : Hid (DivOk o1 o2 F (-(Q0 + 1)) (-((n : Int) + -R0))) := hE1
            have hOq := hide (fun u (hr : Row u gn 520 (bz (-(Q0 + 1)))) => unhide hO u gn 520 (-(Q0 + 1)) (unhide hE2).bq hr)
            have hOl := hide (fun u g (hr : Row u g 520 (bz (-((n : Int) + -R0)))) => unhide hO u g 520 (-((n : Int) + -R0)) (unhide hE2).br hr)
            clear hE1 hO
            go_upto_region 24 with (first
              | (with_reducible refine at_list ?_; apply ldE (unhide D).e _ rfl rfl rfl (by repeat (first | exact List.mem_cons_self | apply List.mem_cons_of_mem)))
              | (go_at_call 113; refine (unhide hBb _).mono ?_; rintro e w8 ⟨he, hw⟩; subst he; have D := hide ((unhide D).keep hw); clear hw)
              | (with_reducible refine at_list ?_; have l16 := hide ((unhide D).e.blk (n := 0) (g := w.heap.size + 1 + 1 + 1) (by repeat (first | exact List.mem_cons_self | apply List.mem_cons_of_mem))).lt; refine stE (unhide D).e (.tmp 16) (.tmp 86) rfl rfl rfl rfl rfl ?_; intro D'; have D := hide ((unhide D).more D'); clear D')
              | (with_reducible refine at_list ?_; have l18 := hide ((unhide D).e.blk (n := 0) (g := w.heap.size + 1 + 1 + 1) (by repeat (first | exact List.mem_cons_self | apply List.mem_cons_of_mem))).lt; refine stE (unhide D).e (.tmp 18) (.tmp 91) rfl rfl rfl rfl rfl ?_; intro D'; have D := hide ((unhide D).more D'); clear D')
              | (go_at_call 121; refine minusR (unhide D) (x := ((n : Int) + -R0)) (by decide) (by repeat (first | exact List.mem_cons_self | apply List.mem_cons_of_mem)) ?_; intro gm wm Dm; have D := hide Dm; clear Dm)
              | (go_at_call 122; first | (with_reducible refine (unhide hOq _ ((unhide D).at (p := gn) (n := 520) (x := (-(Q0 + 1))) (by repeat (first | exact List.mem_cons_self | apply List.mem_cons_of_mem)))).mono ?_; rintro e w9 ⟨he, hw⟩; subst he; have D := hide ((unhide D).keep hw); clear hw) | (with_reducible refine (unhide hOl _ _ ((unhide D).at (p := gm) (n := 520) (x := -((n : Int) + -R0)) (by repeat (first | exact List.mem_cons_self | apply List.mem_cons_of_mem)))).mono ?_; rintro e w10 ⟨he, hw⟩; subst he; have D := hide ((unhide D).keep hw); clear hw)))
            rw [(unhide hE2).fr]
            have Y := hide (unhide hE2).yes
            have Z := hide (unhide hE2).no
            have B4 := hide ((unhide D).e.blk (n := 0) (g := w.heap.size + 1 + 1) (by repeat (first | exact List.mem_cons_self | apply List.mem_cons_of_mem)))
            have B5 := hide ((unhide D).e.blk (n := 0) (g := w.heap.size + 1 + 1 + 1) (by repeat (first | exact List.mem_cons_self | apply List.mem_cons_of_mem)))
            have DO := hide (unhide D).e.o
            generalize fit (-(Q0 + 1)) = G at Y Z ⊢
            cases G
            · obtain ⟨z1, z2, z3⟩ := unhide Z rfl
              subst z1 z2 z3
              clear D hE2 Y Z
              go_wp2_with (first
                | (with_reducible refine at_list ?_; refine bd0 75 rfl rfl bWide0 ?_)
                | (with_reducible refine at_list ?_; refine st8 (n := 0) 75 (.tmp 4) (.tmp 99) (unhide B4) rfl rfl rfl rfl rfl iWide ?_)
                | (with_reducible refine at_list ?_; refine st8 (n := 0) 75 (.tmp 5) (.tmp 100) ((unhide B5).rowOther _ (by omega)) rfl rfl rfl rfl rfl iWide ?_))
              exact res88s (((unhide B4).row _).rowOther _ (by omega)) (((unhide B5).rowOther _ (by omega)).row _) rfl rfl rfl rfl rfl Tryz.underlying75 rfl iWide ⟨rfl, below_row (below_row (unhide DO) (by omega) _) (by omega) _⟩
            · obtain ⟨z1, z2, z3⟩ := unhide Y rfl
              subst z1 z2 z3
              have DS : Hid (Env w [(w10.heap.size, fitN (-((n : Int) + -R0))), (w9.heap.size, fitN (-(Q0 + 1)))] _) := ⟨mem_blk ((unhide D).e.blk (by repeat (first | exact List.mem_cons_self | apply List.mem_cons_of_mem))) ((unhide D).e.blk (by repeat (first | exact List.mem_cons_self | apply List.mem_cons_of_mem))), (unhide D).e.o⟩
              have n16 := hide (show w9.heap.size ≠ w.heap.size + 1 + 1 ∧ w9.heap.size ≠ w.heap.size + 1 + 1 + 1 by have := unhide l16; omega)
              have n18 := hide (show w10.heap.size ≠ w.heap.size + 1 + 1 ∧ w10.heap.size ≠ w.heap.size + 1 + 1 + 1 by have := unhide l18; omega)
              clear hE2 Y Z D
              go_upto_region 26 with fail
              refine region_walk (S := Env w [(w10.heap.size, fitN (-((n : Int) + -R0))), (w9.heap.size, fitN (-(Q0 + 1)))]) (l := [0, 1, 2, 3, 4]) (t := [2, 3]) (by kernel_rfl) (by kernel_rfl) (by kernel_rfl) (by kernel_rfl) (by kernel_rfl) (by kernel_rfl) (by kernel_rfl) (by kernel_rfl) (unhide DS).drew ?_
              generalize w9.heap.size = b16 at *
              generalize w10.heap.size = b18 at *
              refine walk_read rfl rfl rfl (fun u hS => exec_load8 (n := fitN (-(Q0 + 1))) 75 (.tmp 16) (hS.blk (by repeat (first | exact List.mem_cons_self | apply List.mem_cons_of_mem))) rfl rfl Tryz.underlying75 rfl iWide) ?_
              refine walk_read rfl rfl rfl (fun u hS => exec_load8 (n := fitN (-((n : Int) + -R0))) 75 (.tmp 18) (hS.blk (by repeat (first | exact List.mem_cons_self | apply List.mem_cons_of_mem))) rfl rfl Tryz.underlying75 rfl iWide) ?_
              go_simp
              have D1 := (unhide DS).drew.row (g := w.heap.size + 1 + 1) (by omega) (ne_two (unhide n18).1 (unhide n16).1) (cells8 (fitN (-(Q0 + 1))))
              have D2 := D1.row (g := w.heap.size + 1 + 1 + 1) (by omega) (ne_two (unhide n18).2 (unhide n16).2) (cells8 (fitN (-((n : Int) + -R0))))
              refine walk_store8 (n := fitN (-(Q0 + 1))) 75 (.tmp 4) (.tmp 101) rfl rfl rfl (unhide B4).drew rfl rfl rfl rfl iWide D1 ?_
              go_simp
              refine walk_store8 (n := fitN (-((n : Int) + -R0))) 75 (.tmp 5) (.tmp 102) rfl rfl rfl ((unhide B5).drew.rowOther _ (by omega)) rfl rfl rfl rfl iWide D2 ?_
              go_simp
              refine walk_read (v := ?_) rfl rfl rfl (fun u hS => by go_simp; rfl) ?_
              go_simp
              refine walk_end ?_
              have O2 := hide D2.o
              clear D1 D2
              go_wp2
              exact res88s ((((unhide B4).drew).row _).rowOther _ (by omega)) ((((unhide B5).drew).rowOther _ (by omega)).row _) rfl rfl rfl rfl rfl Tryz.underlying75 rfl iWide ⟨rfl, unhide O2⟩

end Go.Proofs.YtnemedgdhojhdaaGreat

namespace Go.Proofs.YtnemedgdhojhdaaGreat
open Go.RowKit
set_option maxRecDepth 4000

theorem lft_nat (m n : Nat) : lft m n 0 = ((m % n : Nat) : Int) := by unfold lft; rw [up_zero, Int.natCast_emod]
theorem qut_nat (m n : Nat) : qut m n 0 = ((m / n : Nat) : Int) := by unfold qut; rw [up_zero, show ((2 ^ 0 : Nat) : Int) = 1 from rfl, Int.mul_one, Int.natCast_ediv]
theorem sgn_zero (x : Int) : sgn x = 0 ↔ x = 0 := by
  unfold sgn
  by_cases h : x < 0
  · rw [if_pos h]; omega
  · rw [if_neg h]
    by_cases h0 : x = 0
    · rw [if_pos h0]; omega
    · rw [if_neg h0]; omega
theorem fin_math (x y : Int) (hy : y ≠ 0) :
    qfin ((decide (x < 0)) != (decide (y < 0))) (sgn (lft x.natAbs y.natAbs 0)) (qut x.natAbs y.natAbs 0) = x.fdiv y ∧ rfin ((decide (x < 0)) != (decide (y < 0))) (decide (y < 0)) (sgn (lft x.natAbs y.natAbs 0)) (lft x.natAbs y.natAbs 0) y.natAbs = x.fmod y := by
  obtain ⟨h1, h2⟩ := div_math x y hy
  rw [← h1, ← h2]
  have hl := Nat.mod_lt x.natAbs (show 0 < y.natAbs by omega)
  have hs := sgn_zero (lft x.natAbs y.natAbs 0)
  rw [lft_nat] at hs ⊢
  rw [qut_nat]
  unfold qfin rfin rone byN leftN more
  generalize x.natAbs / y.natAbs = D at *
  generalize x.natAbs % y.natAbs = R at *
  generalize sgn (R : Int) = s at *
  have e : (decide (x < 0) != decide (y < 0)) = !(decide (x < 0) == decide (y < 0)) := rfl
  rw [e]
  generalize (!(decide (x < 0) == decide (y < 0))) = g
  generalize decide (y < 0) = d
  by_cases hR : R = 0
  · have hs0 : s = 0 := hs.2 (by omega)
    subst hs0 hR
    cases g <;> cases d <;> simp
  · have hs0 : s ≠ 0 := fun hc => hR (by have := hs.1 hc; omega)
    cases g <;> cases d <;> simp [hs0, hR] <;> omega


theorem fmod_fit {x y : Int} (hy : Fit y) (h0 : y ≠ 0) : Fit (x.fmod y) := by
  obtain ⟨_, hr⟩ := div_math x y h0
  have hl := leftN_lt x y h0
  obtain ⟨h1, h2⟩ := hy
  rw [← hr]
  by_cases h : y < 0
  · simp only [h, decide_true, cond_true]; constructor <;> omega
  · simp only [h, decide_false, cond_false]; constructor <;> omega
theorem byN_le (x y : Int) : byN x y ≤ x.natAbs + 1 := by
  have h1 := Nat.div_le_self x.natAbs y.natAbs
  unfold byN
  split <;> omega
theorem fdiv_bd {x y : Int} (hx : Fit x) (h0 : y ≠ 0) : Bd (x.fdiv y) := by
  obtain ⟨hq, _⟩ := div_math x y h0
  have hl := byN_le x y
  have hH : 1000 < (H : Int) := by decide
  obtain ⟨h1, h2⟩ := hx
  rw [← hq]
  unfold Bd
  cases (!(decide (x < 0) == decide (y < 0)))
  · simp only [cond_false]; constructor <;> omega
  · simp only [cond_true]; constructor <;> omega
theorem fit_bd {z : Int} (h : Fit z) : Bd z := by
  obtain ⟨h1, h2⟩ := h
  have hH := HI_pos
  unfold Bd
  constructor <;> omega
theorem blen_512 {z : Int} (hz : Fit z) : blen z.natAbs ≤ 512 := by
  rw [blen_lt]
  have h1 := abs_lt hz
  obtain ⟨e, he, h5⟩ : ∃ e, M = 2 ^ e ∧ e = 512 := ⟨64 * 8, M_pow8, by omega⟩
  rw [he] at h1
  rw [← h5]
  exact h1
theorem abs_520 {z : Int} (hz : Fit z) : z.natAbs < 2 ^ 520 := by
  have h1 := abs_lt hz
  obtain ⟨e, he, h5⟩ : ∃ e, M = 2 ^ e ∧ e = 512 := ⟨64 * 8, M_pow8, by omega⟩
  rw [he] at h1
  obtain ⟨f, hf⟩ : ∃ f, f = 520 := ⟨_, rfl⟩
  rw [← hf]
  exact Nat.lt_of_lt_of_le h1 (Nat.pow_le_pow_right (by decide) (by omega))
theorem of_row {z : Int} (hz : Bd z) (u : World) (p c : Nat) (hr : Row u p 520 (bz z)) :
    Calls Tryz.prog 122 #[sc p 520 c] u fun e w' => e = .returned (.tuple #[.agg (cells8 (fitN z)), .bool (fit z)]) ∧ Below u.heap.size u w' := by
  have b := wide8 H z hz.1 hz.2 HI_pos
  refine (ofZ z 8 520 p 0 c rfl (by decide) b.1 b.2 u (fun k hk => by rw [Nat.zero_add]; exact hr.2 k hk) hr.1).mono fun e w' ⟨he, hb⟩ => ⟨?_, hb⟩
  rw [he, fitN_eq]

theorem refDiv (x y : Int) (hx : Fit x) (hy : Fit y) (h0 : y ≠ 0) (w : World) :
    Calls Tryz.prog 99 #[V x, V y] w fun e w' => e = .returned (.tuple #[.agg (cells8 (bif dq x y then enc (x.fdiv y) else 0)), .agg (cells8 (bif dq x y then enc (x.fmod y) else 0)), .bool (dq x y)]) ∧ Below w.heap.size w w' := by
  have hn : 0 < y.natAbs := by omega
  obtain ⟨f1, f2⟩ := fin_math x y h0
  have hl0 : lft x.natAbs y.natAbs 0 = ((x.natAbs % y.natAbs : Nat) : Int) := lft_nat _ _
  have hml := Nat.mod_lt x.natAbs hn
  have hlf : Fit (lft x.natAbs y.natAbs 0) := by
    obtain ⟨h1, h2⟩ := hy
    rw [hl0]
    constructor <;> omega
  have hfm := fmod_fit (x := x) hy h0
  have hd : dq x y = fit (x.fdiv y) := by unfold dq; simp [h0]
  refine div_bits (enc x) (enc y) _ _ x.natAbs y.natAbs (blen x.natAbs) (blen y.natAbs) (enc (lft x.natAbs y.natAbs 0)) (decide (x < 0)) (decide (y < 0)) _ (sgn (lft x.natAbs y.natAbs 0)) (sgn y) w
    (fun u => refSign y hy u) (fun hc => h0 ((sgn_zero y).1 hc)) (fun u => refSize x hx u) (fun u => refSize y hy u)
    (fun u g hr => top_bits x.natAbs 520 g 0 520 (by decide) (abs_520 hx) u (fun k hk => by rw [Nat.zero_add]; exact hr.2 k hk))
    (fun u g hr => top_bits y.natAbs 520 g 0 520 (by decide) (abs_520 hy) u (fun k hk => by rw [Nat.zero_add]; exact hr.2 k hk))
    (fun u => refBelow x hx u) (fun u => refBelow y hy u) (fun u p c hr => ?_) (fun u => refSign _ hlf u) (fun u p c z hz hr => of_row hz u p c hr) ?_
    (blen_512 hx) (blen_512 hy) hn ((blen_lt _ _).1 (Nat.le_refl _)) ((blen_lt _ _).1 (Nat.le_refl _)) ?_
  · have := of_row (fit_bd hlf) u p c hr
    have e1 : fitN (lft x.natAbs y.natAbs 0) = enc (lft x.natAbs y.natAbs 0) := by unfold fitN; rw [fit_true hlf]; rfl
    rw [e1, fit_true hlf] at this
    exact this
  · show DivOk _ _ _ _ _
    rw [f1, f2]
    refine ⟨fdiv_bd hx h0, fit_bd hfm, fit_true hfm, fun h => ?_, fun h => ?_⟩
    · rw [hd, h]
      unfold fitN
      rw [h, fit_true hfm]
      exact ⟨rfl, rfl, rfl⟩
    · rw [hd, h]
      exact ⟨rfl, rfl, rfl⟩
  · intro k hk
    have hB : ¬ blen y.natAbs ≤ blen y.natAbs - 1 := by
      have : blen y.natAbs ≠ 0 := fun hc => by
        have := (blen_lt y.natAbs 0).1 (by omega)
        simp at this
        omega
      omega
    rw [blen_lt] at hB
    exact start_up ((blen_lt _ _).1 (Nat.le_refl _)) (.inr (by omega)) hn (by
      have : blen y.natAbs ≠ 0 := fun hc => by
        have := (blen_lt y.natAbs 0).1 (by omega)
        simp at this
        omega
      omega) hk

set_option maxHeartbeats 1000000 in
theorem div_none (a b : Nat) (w : World) (hSgb : Hid (∀ u, Calls Tryz.prog 76 #[.agg (cells8 b)] u fun e w' => e = .returned (.int .i64 0) ∧ Below u.heap.size u w')) :
    Calls Tryz.prog 99 #[W a, W b] w fun e w' => e = .returned (.tuple #[.agg (cells8 0), .agg (cells8 0), .bool false]) ∧ Below w.heap.size w w' := by
  unfold W
  go_enter Tryz.func99, Tryz.ntmps99
  go_upto_region 1 with fail
  have D := hide (EnvR.of (Env.four w a b 0 0))
  rw [cells8_0] at D
  go_upto_region 2 with (first
    | (with_reducible refine at_list ?_; apply ldE (unhide D).e _ rfl rfl rfl (by repeat (first | exact List.mem_cons_self | apply List.mem_cons_of_mem)))
    | (go_at_call 76; refine (unhide hSgb _).mono ?_; rintro e w1 ⟨he, hw⟩; subst he; have D := hide ((unhide D).keep hw); clear hw))
  have B4 := hide ((unhide D).e.blk (n := 0) (g := w.heap.size + 1 + 1) (by repeat (first | exact List.mem_cons_self | apply List.mem_cons_of_mem)))
  have B5 := hide ((unhide D).e.blk (n := 0) (g := w.heap.size + 1 + 1 + 1) (by repeat (first | exact List.mem_cons_self | apply List.mem_cons_of_mem)))
  have DO := hide (unhide D).e.o
  clear D
  go_wp2_with (first
    | (with_reducible refine at_list ?_; refine bd0 75 rfl rfl bWide0 ?_)
    | (with_reducible refine at_list ?_; refine st8 (n := 0) 75 (.tmp 4) (.tmp 23) (unhide B4) rfl rfl rfl rfl rfl iWide ?_)
    | (with_reducible refine at_list ?_; refine st8 (n := 0) 75 (.tmp 5) (.tmp 24) ((unhide B5).rowOther _ (by omega)) rfl rfl rfl rfl rfl iWide ?_))
  exact res88s (((unhide B4).row _).rowOther _ (by omega)) (((unhide B5).rowOther _ (by omega)).row _) rfl rfl rfl rfl rfl Tryz.underlying75 rfl iWide ⟨rfl, below_row (below_row (unhide DO) (by omega) _) (by omega) _⟩

theorem refDivZ (x y : Int) (hx : Fit x) (hy : Fit y) (w : World) :
    Calls Tryz.prog 99 #[V x, V y] w fun e w' => e = .returned (.tuple #[.agg (cells8 (bif dq x y then enc (x.fdiv y) else 0)), .agg (cells8 (bif dq x y then enc (x.fmod y) else 0)), .bool (dq x y)]) ∧ Below w.heap.size w w' := by
  by_cases h0 : y = 0
  · have hd : dq x y = false := by unfold dq; simp [h0]
    rw [hd]
    exact div_none (enc x) (enc y) w (fun u => by
      have h := refSign y hy u
      rw [show sgn y = 0 from (sgn_zero y).2 h0] at h
      exact h)
  · exact refDiv x y hx hy h0 w


end Go.Proofs.YtnemedgdhojhdaaGreat

namespace Go.Proofs.YtnemedgdhojhdaaGreat
open Go.RowKit
set_option maxRecDepth 4000

theorem low_zero (z : Int) : ∀ n : Nat, (∀ j, j < n → bz z j = 0) → z % ((2 ^ n : Nat) : Int) = 0
  | 0, _ => by rw [show ((2 ^ 0 : Nat) : Int) = 1 from rfl, Int.emod_one]
  | n + 1, h => by rw [bz_low, low_zero z n (fun j hj => h j (by omega)), h n (by omega), Int.mul_zero, Int.add_zero]
theorem pow_H (m : Nat) : ((2 ^ (511 + m) : Nat) : Int) = (H : Int) * ((2 ^ m : Nat) : Int) := by
  obtain ⟨e, he⟩ : ∃ e, e = 511 := ⟨_, rfl⟩
  rw [← he, H_511 e he, Nat.pow_add, Int.natCast_mul]
theorem bz_519 (z : Int) (h1 : -(2 * (H : Int)) ≤ z) (h2 : z ≤ 2 * (H : Int)) : bz z 519 = if z < 0 then 1 else 0 := by
  have hH := HI_pos
  rw [show 519 = 511 + 8 from rfl, bz_from511]
  have h3 := Int.emod_add_mul_ediv z (H : Int)
  have h4 := Int.emod_nonneg z (show (H : Int) ≠ 0 by omega)
  have h5 := Int.emod_lt_of_pos z hH
  have a1 : -2 ≤ z / (H : Int) := (Int.le_ediv_iff_mul_le hH).2 (by omega)
  have a2 : z / (H : Int) < 3 := Int.ediv_lt_of_lt_mul hH (by omega)
  have a3 : z < 0 ↔ z / (H : Int) < 0 := by
    constructor
    · intro h; exact Int.ediv_neg_of_neg_of_pos h hH
    · intro h
      rcases (show z < 0 ∨ 0 ≤ z by omega) with h' | h'
      · exact h'
      · have := Int.ediv_nonneg h' (Int.le_of_lt hH); omega
  unfold bz
  rw [show ((2 ^ 8 : Nat) : Int) = 256 from rfl]
  generalize z / (H : Int) = q at *
  by_cases h : z < 0
  · rw [if_pos h]; have := a3.1 h; omega
  · rw [if_neg h]; have : ¬ q < 0 := fun hc => h (a3.2 hc); omega
theorem bits_none (z : Int) (h0 : 0 ≤ z) (h2 : z ≤ 2 * (H : Int)) : (∀ j, j < 520 → bz z j = 0) ↔ z = 0 := by
  constructor
  · intro h
    obtain ⟨m, hm⟩ : ∃ m, m = 9 := ⟨_, rfl⟩
    have h3 := low_zero z (511 + m) (fun j hj => h j (by omega))
    rw [pow_H, hm, show ((2 ^ 9 : Nat) : Int) = 512 from rfl] at h3
    have hH := HI_pos
    rwa [Int.emod_eq_of_lt h0 (by omega)] at h3
  · rintro rfl j _
    unfold bz
    rw [Int.zero_ediv]; rfl

set_option maxHeartbeats 1000000 in
theorem cmp_bits (x y : Int) (n m : Nat) (s : Int) (Hn : Hid (Fit x ∧ cells8 n = cells8 (enc x))) (Hm : Hid (Fit y ∧ cells8 m = cells8 (enc y)))
    (h1 : Hid (bz (x + -y) 519 = 1 → s = -1)) (h2 : Hid (bz (x + -y) 519 = 0 → (∃ j, j < 520 ∧ bz (x + -y) j = 1) → s = 1)) (h3 : Hid (bz (x + -y) 519 = 0 → (∀ j, j < 520 → bz (x + -y) j = 0) → s = 0)) (w : World) :
    Calls Tryz.prog 124 #[W n, W m] w fun e w' => e = .returned (.int .i64 s) ∧ Below w.heap.size w w' := by
  unfold W
  have hLx : Hid (∀ u, Calls Tryz.prog 118 #[.agg (cells8 n), .int .i64 520] u fun e w' => ∃ g, u.heap.size ≤ g ∧ e = .returned (.slice (some ⟨g, 0, none⟩) 520 520) ∧ Ints w' g 520 (bz x) ∧ Below u.heap.size u w') := fun u => by rw [Hn.out.2]; exact longZ x Hn.out.1 520 (by decide) u
  have hLy : Hid (∀ u, Calls Tryz.prog 118 #[.agg (cells8 m), .int .i64 520] u fun e w' => ∃ g, u.heap.size ≤ g ∧ e = .returned (.slice (some ⟨g, 0, none⟩) 520 520) ∧ Ints w' g 520 (bz y) ∧ Below u.heap.size u w') := fun u => by rw [Hm.out.2]; exact longZ y Hm.out.1 520 (by decide) u
  clear Hn Hm
  go_enter Tryz.func124, Tryz.ntmps124
  go_upto_region 1 with fail
  have D := hide (EnvB.of (Env.two w n m))
  refine region_walk (S := Env w [(w.heap.size + 1, m), (w.heap.size, n)]) (l := [0, 2, 1, 3, 4, 5, 6]) (t := [1, 3, 4, 5]) (by kernel_rfl) (by kernel_rfl) (by kernel_rfl) (by kernel_rfl) (by kernel_rfl) (by kernel_rfl) (by kernel_rfl) (by kernel_rfl) ?_ ?_
  · exact (unhide D).drew.e
  refine walk_read rfl rfl rfl (fun u hS => exec_load8 (n := n) 75 (.tmp 2) (hS.blk (by repeat (first | exact List.mem_cons_self | apply List.mem_cons_of_mem))) rfl rfl Tryz.underlying75 rfl iWide) ?_
  refine walk_read rfl rfl rfl (fun u hS => exec_load8 (n := m) 75 (.tmp 3) (hS.blk (by repeat (first | exact List.mem_cons_self | apply List.mem_cons_of_mem))) rfl rfl Tryz.underlying75 rfl iWide) ?_
  go_simp
  refine walk_call (f := 118) (args := #[.agg (cells8 n), .int .i64 520]) rfl rfl rfl (by go_simp) ?_
  refine (unhide hLx _).mono fun e w1 ⟨g1, _, he, hr, hb⟩ => ?_
  have D1 := ((unhide D).drew.keep hb).row hr
  refine ⟨_, he, D1.e, ?_⟩
  go_simp
  refine walk_call (f := 118) (args := #[.agg (cells8 m), .int .i64 520]) rfl rfl rfl (by go_simp) ?_
  refine (unhide hLy _).mono fun e w2 ⟨g2, _, he, hr, hb⟩ => ?_
  have D2 := (D1.keep hb).row hr
  refine ⟨_, he, D2.e, ?_⟩
  go_simp
  refine walk_call (f := 121) (args := #[sl g2 520]) rfl rfl rfl (by go_simp) ?_
  apply minusE D2 (by decide) (x := y) (by repeat (first | exact List.mem_cons_self | apply List.mem_cons_of_mem))
  intro g3 w3 D3
  refine ⟨_, rfl, D3.e, ?_⟩
  go_simp
  refine walk_call (f := 120) (args := #[sl g1 520, sl g3 520]) rfl rfl rfl (by go_simp) ?_
  apply plusE D3 (by decide) (x := x) (y := -y) (by repeat (first | exact List.mem_cons_self | apply List.mem_cons_of_mem)) (by repeat (first | exact List.mem_cons_self | apply List.mem_cons_of_mem))
  intro g4 w4 D4
  refine ⟨_, rfl, D4.e, ?_⟩
  go_simp
  refine walk_read (v := ?_) rfl rfl rfl (fun u hS => by go_simp; rfl) ?_
  go_simp
  refine walk_end ?_
  have HO := hide D4.e.o
  have HR := hide (D4.r _ List.mem_cons_self)
  clear D D1 D2 D3 D4 hLx hLy
  have a1 : w4.cell? ⟨g4, 519, none⟩ = some (.int .i64 (bz (x + -y) 519)) := World.rowIs.cell (unhide HR) (show 519 < 520 by decide)
  generalize x + -y = z at *
  by_cases hz : bz z 519 = 1
  · have hs := hide (h1.out hz)
    rw [hz] at a1
    go_wp2
    go_ret
    exact ⟨by rw [hs.out]; rfl, unhide HO⟩
  · have hz0 : bz z 519 = 0 := by have := bz_01 z 519; omega
    rw [hz0] at a1
    have H2 := hide (h2.out hz0)
    have H3 := hide (h3.out hz0)
    clear hz hz0 h1 h2 h3
    go_wp2_with fail
    go_loopw [6] (fun i wr => ∃ k : Nat, k ≤ 520 ∧ i = .int .i64 k ∧ Hid (∀ j, j < k → bz z j = 0) ∧ wr = w4) (fun i _ => 520 - (intOf i).toNat)
    case atStart => exact ⟨0, by omega, rfl, fun j hj => by omega, rfl⟩
    case round =>
      obtain ⟨k, hk, rfl, hy, rfl⟩ := hrel
      by_cases hlt : k < 520
      · have hg : (k : Int) < 520 := by omega
        have a2 := World.rowIs.cell (unhide HR) hlt
        by_cases h4 : bz z k = 1
        · have hs := hide (H2.out ⟨k, hlt, h4⟩)
          rw [h4] at a2
          clear h4
          go_wp2
          go_ret
          exact ⟨by rw [hs.out]; rfl, unhide HO⟩
        · have h5 : bz z k = 0 := by have := bz_01 z k; omega
          rw [h5] at a2
          have H5 := hide h5
          clear h4 h5
          go_wp2
          go_roundw
          case rel => exact ⟨k + 1, by omega, by go_num, fun j hj => by
            rcases (show j < k ∨ j = k by omega) with h | h
            · exact hy.out j h
            · rw [h]; exact H5.out, trivial⟩
          case measure => simp [intOf]; omega
      · have hs := hide (H3.out fun j hj => hy.out j (by omega))
        have e : k = 520 := by omega
        subst e
        clear hlt hy hk H2 H3
        go_wp2
        go_ret
        exact ⟨by rw [hs.out]; rfl, unhide HO⟩
theorem refCmp (x y : Int) (hx : Fit x) (hy : Fit y) (w : World) : Calls Tryz.prog 124 #[V x, V y] w fun e w' => e = .returned (.int .i64 (cmpI x y)) ∧ Below w.heap.size w w' := by
  have b1 : -(2 * (H : Int)) ≤ x + -y := by have := hx.1; have := hy.2; omega
  have b2 : x + -y ≤ 2 * (H : Int) := by have := hx.2; have := hy.1; omega
  have h5 := bz_519 (x + -y) b1 b2
  refine cmp_bits x y (enc x) (enc y) (cmpI x y) ⟨hx, rfl⟩ ⟨hy, rfl⟩ ?_ ?_ ?_ w
  · intro h
    rw [h5] at h
    unfold cmpI
    by_cases hc : x + -y < 0
    · rw [if_pos (by omega)]
    · rw [if_neg hc] at h; omega
  · intro h hj
    rw [h5] at h
    have h0 : 0 ≤ x + -y := by
      by_cases hc : x + -y < 0
      · rw [if_pos hc] at h; omega
      · omega
    have hn : x + -y ≠ 0 := fun hc => by
      obtain ⟨j, hj8, hjn⟩ := hj
      have := (bits_none _ h0 b2).2 hc j hj8
      omega
    unfold cmpI
    rw [if_neg (by omega), if_pos (by omega)]
  · intro h hj
    rw [h5] at h
    have h0 : 0 ≤ x + -y := by
      by_cases hc : x + -y < 0
      · rw [if_pos hc] at h; omega
      · omega
    have hz := (bits_none _ h0 b2).1 hj
    unfold cmpI
    rw [if_neg (by omega), if_neg (by omega)]

end Go.Proofs.YtnemedgdhojhdaaGreat

namespace Go.Proofs.YtnemedgdhojhdaaGreat
open Go.RowKit
set_option maxRecDepth 4000
set_option linter.unusedVariables false

theorem raw_core (a : Nat) (x : Int) (w : World) (hO : Hid (Ans 85 #[.int .i64 x] (.agg (cells8 a)))) :
    Calls Tryz.prog 88 #[.int .i64 x] w fun e w' => e = .returned (.agg (cells8 a)) ∧ Below w.heap.size w w' := by
  go_enter Tryz.func88, Tryz.ntmps88
  go_upto_region 1 with fail
  have D := hide (Env.start w).zero
  go_wp2_with (first | (with_reducible refine at_list ?_; apply ldE (unhide D) _ rfl rfl rfl (by repeat (first | exact List.mem_cons_self | apply List.mem_cons_of_mem))) | (go_at_call 85; with_reducible refine (unhide hO _).mono ?_; rintro e w' ⟨he, hb⟩; subst he; have D := hide ((unhide D).keep hb); clear hb) | (with_reducible refine at_list ?_;  apply stEnd (unhide D) _ _ rfl rfl rfl rfl (by repeat (first | exact List.mem_cons_self | apply List.mem_cons_of_mem)) (by omega); intro B O))
  exact res8 (unhide B) rfl rfl rfl Tryz.underlying75 rfl iWide ⟨rfl, unhide O⟩
theorem RawR (x : Int) (hx : I64 x) : Ans 88 #[.int .i64 x] (V x) := fun w => raw_core (enc x) x w (fun u => SmallZ x hx.1 hx.2 u)

set_option maxHeartbeats 1000000 in
theorem refw_core (X M1 M2 : Nat) (c1 c2 t : Int) (O1 O2 : Bool) (w : World) (hO1 : decide (0 < c1) = O1) (hO2 : decide (c2 < 0) = O2) (ht : Hid (wrap64 (lm X 0) = t))
    (s1 : Hid (Ans 85 #[.int .i64 9223372036854775807] (.agg (cells8 M1)))) (s2 : Hid (Ans 85 #[.int .i64 (-9223372036854775808)] (.agg (cells8 M2))))
    (k1 : Hid (Ans 124 #[.agg (cells8 X), .agg (cells8 M1)] (.int .i64 c1))) (k2 : Hid (Ans 124 #[.agg (cells8 X), .agg (cells8 M2)] (.int .i64 c2))) :
    Calls Tryz.prog 86 #[W X] w fun e w' => e = .returned (.int .i64 (bif O1 then 9223372036854775807 else bif O2 then -9223372036854775808 else t)) ∧ Below w.heap.size w w' := by
  unfold W
  go_enter Tryz.func86, Tryz.ntmps86
  go_upto_region 1 with fail
  have D := hide (Env.one w X)
  refine region_plan (S := Env w [(w.heap.size, X)]) (l := [0, 1, 2, 3]) (by kernel_rfl) (by kernel_rfl) (by kernel_rfl) (by kernel_rfl) (by kernel_rfl) (by kernel_rfl) (by kernel_rfl) ((unhide D).drew) ?_
  clear D
  refine plan_read rfl rfl (fun u hS => exec_load8 (n := X) 75 (.tmp 1) (hS.blk (by repeat (first | exact List.mem_cons_self | apply List.mem_cons_of_mem))) rfl rfl Tryz.underlying75 rfl iWide) ?_
  refine plan_call (v := .agg (cells8 M1)) (f := 85) (args := #[.int .i64 9223372036854775807]) rfl rfl (fun u hS => by go_simp) (fun u hS => (unhide s1 u).mono fun _ _ ⟨he, hb⟩ => ⟨he, hS.keep hb⟩) ?_
  go_simp
  refine plan_call (v := .int .i64 c1) (f := 124) (args := #[.agg (cells8 X), .agg (cells8 M1)]) rfl rfl (fun u hS => by go_simp) (fun u hS => (unhide k1 u).mono fun _ _ ⟨he, hb⟩ => ⟨he, hS.keep hb⟩) ?_
  go_simp
  refine plan_read (v := .bool O1) rfl rfl (fun u hS => by go_simp) ?_
  go_simp
  refine plan_end (fun u hS => ?_)
  have D := hide hS
  clear hS
  cases O1
  · go_upto_region 3 with fail
    refine region_plan (S := Env w [(w.heap.size, X)]) (l := [0, 1, 2, 3]) (by kernel_rfl) (by kernel_rfl) (by kernel_rfl) (by kernel_rfl) (by kernel_rfl) (by kernel_rfl) (by kernel_rfl) ((unhide D).drew) ?_
    clear D
    refine plan_read rfl rfl (fun u hS => exec_load8 (n := X) 75 (.tmp 1) (hS.blk (by repeat (first | exact List.mem_cons_self | apply List.mem_cons_of_mem))) rfl rfl Tryz.underlying75 rfl iWide) ?_
    refine plan_call (v := .agg (cells8 M2)) (f := 85) (args := #[.int .i64 (-9223372036854775808)]) rfl rfl (fun u hS => by go_simp) (fun u hS => (unhide s2 u).mono fun _ _ ⟨he, hb⟩ => ⟨he, hS.keep hb⟩) ?_
    go_simp
    refine plan_call (v := .int .i64 c2) (f := 124) (args := #[.agg (cells8 X), .agg (cells8 M2)]) rfl rfl (fun u hS => by go_simp) (fun u hS => (unhide k2 u).mono fun _ _ ⟨he, hb⟩ => ⟨he, hS.keep hb⟩) ?_
    go_simp
    refine plan_read (v := .bool O2) rfl rfl (fun u hS => by go_simp) ?_
    go_simp
    refine plan_end (fun u2 hS => ?_)
    have D := hide hS
    clear hS
    cases O2
    · have h7 : u2.cell? ⟨w.heap.size, 0, none⟩ = some (.int .u64 (lm X 0)) := ((unhide D).blk (by repeat (first | exact List.mem_cons_self | apply List.mem_cons_of_mem))).cell 0
      have HL := hide (unhide ht)
      generalize lm X 0 = Z at *
      go_wp2
      go_ret
      exact ⟨congrArg (fun z => Ending.returned (Value.int .i64 z)) (unhide HL), (unhide D).o⟩
    · go_wp2
      go_ret
      exact ⟨rfl, (unhide D).o⟩
  · go_wp2
    go_ret
    exact ⟨rfl, (unhide D).o⟩

theorem cmpI_gt0 (x y : Int) : decide (0 < cmpI x y) = decide (y < x) := by
  unfold cmpI
  by_cases h : x < y
  · rw [if_pos h, decide_eq_false (show ¬ y < x by omega)]; rfl
  · rw [if_neg h]
    by_cases h2 : y < x
    · rw [if_pos h2, decide_eq_true h2]; rfl
    · rw [if_neg h2, decide_eq_false h2]; rfl
theorem cmpI_lt0 (x y : Int) : decide (cmpI x y < 0) = decide (x < y) := by
  unfold cmpI
  by_cases h : x < y
  · rw [if_pos h, decide_eq_true h]; rfl
  · rw [if_neg h, decide_eq_false h]
    split <;> rfl
theorem WithinR (x : Int) (hx : Fit x) : Ans 86 #[V x] (.int .i64 (cl x)) := by
  intro w
  have h1 : I64 9223372036854775807 := ⟨by decide, by decide⟩
  have h2 : I64 (-9223372036854775808) := ⟨by decide, by decide⟩
  have k := refw_core (enc x) (enc 9223372036854775807) (enc (-9223372036854775808)) _ _ _ _ _ w (cmpI_gt0 x 9223372036854775807) (cmpI_lt0 x (-9223372036854775808)) (wrap_enc x) (fun u => SmallZ _ h1.1 h1.2 u) (fun u => SmallZ _ h2.1 h2.2 u) (fun u => refCmp x _ hx h1.fit u) (fun u => refCmp x _ hx h2.fit u)
  have e : (bif decide (9223372036854775807 < x) then 9223372036854775807 else bif decide (x < -9223372036854775808) then -9223372036854775808 else wrap64 x) = cl x := by
    unfold cl
    by_cases a : 9223372036854775807 < x
    · rw [decide_eq_true a, if_pos a]; rfl
    · rw [decide_eq_false a, if_neg a]
      by_cases b : x < -9223372036854775808
      · rw [decide_eq_true b, if_pos b]; rfl
      · rw [decide_eq_false b, if_neg b]
        exact wrap_self ⟨by omega, by omega⟩
  rw [e] at k
  exact k

/-! Quotient. -/
set_option maxHeartbeats 1000000 in
theorem quot_low (X Y Q R : Nat) (s : Int) (up E : Bool) (w : World) (hs : up = true → s = 0)
    (hD : Hid (Ans 99 #[.agg (cells8 X), .agg (cells8 Y)] (.tuple #[.agg (cells8 Q), .agg (cells8 R), .bool E])))
    (hS : Hid (Ans 76 #[.agg (cells8 R)] (.int .i64 s))) :
    Calls Tryz.prog 143 #[W X, W Y, .bool up] w fun e w' => e = .returned (.agg (cells8 Q)) ∧ Below w.heap.size w w' := by
  unfold W
  go_enter Tryz.func143, Tryz.ntmps143
  go_upto_region 1 with fail
  have D := hide (Env.two w X Y).zero
  simp only [szA] at D
  cases up
  · go_wp2_with (first | (with_reducible refine at_list ?_; apply ldE (unhide D) _ rfl rfl rfl (by repeat (first | exact List.mem_cons_self | apply List.mem_cons_of_mem))) | (with_reducible refine at_list ?_; apply ldEw (unhide D) _ rfl rfl rfl (by repeat (first | exact List.mem_cons_self | apply List.mem_cons_of_mem))) | (go_at_call 99; with_reducible refine (unhide hD _).mono ?_; rintro e w' ⟨he, hb⟩; subst he; have D := hide ((unhide D).keep hb); clear hb) | (with_reducible refine at_list ?_;  refine stOne (n := Q) rfl _ _ rfl rfl rfl rfl ?_) | (with_reducible refine at_list ?_;  refine stTwo (n := Q) (m := R) (unhide D) rfl _ _ rfl rfl rfl rfl ?_; intro w1 D'; have D := D'; clear D') | (with_reducible refine at_list ?_;  apply stEnd (unhide D) _ _ rfl rfl rfl rfl (by repeat (first | exact List.mem_cons_self | apply List.mem_cons_of_mem)) (by omega); intro B O))
    exact res8 (unhide B) rfl rfl rfl Tryz.underlying75 rfl iWide ⟨rfl, unhide O⟩
  · obtain rfl : s = 0 := hs rfl
    go_wp2_with (first | (with_reducible refine at_list ?_; apply ldE (unhide D) _ rfl rfl rfl (by repeat (first | exact List.mem_cons_self | apply List.mem_cons_of_mem))) | (with_reducible refine at_list ?_; apply ldEw (unhide D) _ rfl rfl rfl (by repeat (first | exact List.mem_cons_self | apply List.mem_cons_of_mem))) | (go_at_call 99; with_reducible refine (unhide hD _).mono ?_; rintro e w' ⟨he, hb⟩; subst he; have D := hide ((unhide D).keep hb); clear hb) | (go_at_call 76; with_reducible refine (unhide hS _).mono ?_; rintro e w' ⟨he, hb⟩; subst he; have D := hide ((unhide D).keep hb); clear hb) | (with_reducible refine at_list ?_;  refine stOne (n := Q) rfl _ _ rfl rfl rfl rfl ?_) | (with_reducible refine at_list ?_;  refine stTwo (n := Q) (m := R) (unhide D) rfl _ _ rfl rfl rfl rfl ?_; intro w1 D'; have D := D'; clear D') | (with_reducible refine at_list ?_;  apply stEnd (unhide D) _ _ rfl rfl rfl rfl (by repeat (first | exact List.mem_cons_self | apply List.mem_cons_of_mem)) (by omega); intro B O))
    exact res8 (unhide B) rfl rfl rfl Tryz.underlying75 rfl iWide ⟨rfl, unhide O⟩
set_option maxHeartbeats 1000000 in
theorem quot_up (X Y Q R Q1 one : Nat) (s : Int) (E F : Bool) (w : World) (hs1 : (s == 0) = false) (hs2 : (s != 0) = true) (hs3 : decide (s = 0) = false)
    (hD : Hid (Ans 99 #[.agg (cells8 X), .agg (cells8 Y)] (.tuple #[.agg (cells8 Q), .agg (cells8 R), .bool E])))
    (hS : Hid (Ans 76 #[.agg (cells8 R)] (.int .i64 s))) (hO : Hid (Ans 85 #[.int .i64 1] (.agg (cells8 one)))) (hA : Hid (Ans 87 #[.agg (cells8 Q), .agg (cells8 one)] (.tuple #[.agg (cells8 Q1), .bool F]))) :
    Calls Tryz.prog 143 #[W X, W Y, .bool true] w fun e w' => e = .returned (.agg (cells8 Q1)) ∧ Below w.heap.size w w' := by
  unfold W
  go_enter Tryz.func143, Tryz.ntmps143
  go_upto_region 1 with fail
  have D := hide (Env.two w X Y).zero
  simp only [szA] at D
  go_upto_region 3 with (first | (with_reducible refine at_list ?_; apply ldE (unhide D) _ rfl rfl rfl (by repeat (first | exact List.mem_cons_self | apply List.mem_cons_of_mem))) | (with_reducible refine at_list ?_; apply ldEw (unhide D) _ rfl rfl rfl (by repeat (first | exact List.mem_cons_self | apply List.mem_cons_of_mem))) | (go_at_call 99; with_reducible refine (unhide hD _).mono ?_; rintro e w' ⟨he, hb⟩; subst he; have D := hide ((unhide D).keep hb); clear hb) | (go_at_call 76; with_reducible refine (unhide hS _).mono ?_; rintro e w' ⟨he, hb⟩; subst he; have D := hide ((unhide D).keep hb); clear hb) | (with_reducible refine at_list ?_;  refine stOne (n := Q) rfl _ _ rfl rfl rfl rfl ?_) | (with_reducible refine at_list ?_;  have l0 := (unhide D).o.size; have l1 := ((unhide D).blk (n := 0) (by repeat (first | exact List.mem_cons_self | apply List.mem_cons_of_mem))).lt; refine stTwo (n := Q) (m := R) (unhide D) rfl _ _ rfl rfl rfl rfl ?_; intro w1 D'; have D := D'; clear D'))
  have D1 : Hid (EnvZ w _ w'.heap.size w'.drew) := ⟨(unhide D).drew, Nat.le_refl _⟩
  have L0 := hide l0
  have L1 := hide l1
  clear D l0 l1
  refine region_lazy (S := EnvZ w _ w'.heap.size) (v := .bool F) (ty := 75) (zs := #[.int .u64 0, .int .u64 0, .int .u64 0, .int .u64 0, .int .u64 0, .int .u64 0, .int .u64 0, .int .u64 0]) (base := w'.heap.size) (l := [0, 1, 2, 3, 4]) (A := []) (z := 5) (t := 6) (r := []) (by kernel_rfl) (by kernel_rfl) (by kernel_rfl) (by kernel_rfl) (by kernel_rfl) (by kernel_rfl) (by kernel_rfl) (by kernel_rfl) (by kernel_rfl) (by kernel_rfl) rfl rfl (fun i hi => by cases hi) (fun _ _ h hb => h.keep hb) (fun _ h => h.s) (unhide D1) ?_
  clear D1
  refine planB_read rfl rfl (fun u hS => exec_load8 (n := Q) 75 (.tmp 7) (hS.e.blk (by repeat (first | exact List.mem_cons_self | apply List.mem_cons_of_mem))) rfl rfl Tryz.underlying75 rfl iWide) ?_
  refine planB_call (v := .agg (cells8 one)) (f := 85) (args := #[.int .i64 1]) rfl rfl (fun u hS => by go_simp) (fun u hS => (unhide hO u).mono fun _ _ ⟨he, hb⟩ => ⟨he, hS.keep hb, hb⟩) ?_
  go_simp
  refine planB_call (v := .tuple #[.agg (cells8 Q1), .bool F]) (f := 87) (args := #[W Q, W one]) rfl rfl (fun u hS => by go_simp) (fun u hS => (unhide hA u).mono fun _ _ ⟨he, hb⟩ => ⟨he, hS.keep hb, hb⟩) ?_
  go_simp
  refine planB_read (v := ?_) rfl rfl (fun u hS => by go_simp; rfl) ?_
  go_simp
  refine planB_read (v := ?_) rfl rfl (fun u hS => by go_simp; rfl) ?_
  go_simp
  refine planB_lazy rfl (fun u => by go_simp) rfl rfl (fun c u hS hB hI => ?_)
  clear hB hI
  simp only [pa]
  have B7 := hide (hS.e.blk (n := Q) (by repeat (first | exact List.mem_cons_self | apply List.mem_cons_of_mem)))
  have B6 := hide (hS.e.blk (n := 0) (by repeat (first | exact List.mem_cons_self | apply List.mem_cons_of_mem)))
  have O7 := hide hS.e.o
  refine ⟨_, exec_store8 (n := Q1) 75 (.tmp 7) (.tmp 27) (unhide B7) rfl rfl rfl rfl iWide, ?_⟩
  have D : Hid (Env w _ _) := ⟨mem_blk (((unhide B6).rowOther (cells8 Q1) (by have := unhide L1; omega))) ((unhide B7).row (cells8 Q1)), below_row (unhide O7) (unhide L0) (cells8 Q1)⟩
  clear hS B7 B6 O7 L0 L1
  simp only [opsOf]
  go_simp
  go_wp2_with (first | (with_reducible refine at_list ?_; apply ldE (unhide D) _ rfl rfl rfl (by repeat (first | exact List.mem_cons_self | apply List.mem_cons_of_mem))) | (with_reducible refine at_list ?_;  apply stEnd (unhide D) _ _ rfl rfl rfl rfl (by repeat (first | exact List.mem_cons_self | apply List.mem_cons_of_mem)) (by omega); intro B O))
  exact res8 (unhide B) rfl rfl rfl Tryz.underlying75 rfl iWide ⟨rfl, unhide O⟩

end Go.Proofs.YtnemedgdhojhdaaGreat

namespace Go.Proofs.YtnemedgdhojhdaaGreat
open Go.RowKit
set_option maxRecDepth 4000
set_option linter.unusedVariables false

theorem fitN_fit {z : Int} (h : Fit z) : cells8 (fitN z) = cells8 (enc z) := by unfold fitN; rw [fit_true h]; rfl
theorem add_refS {j k : Nat} (x y : Int) (hx : Sz j x) (hy : Sz k y) (hj : j ≤ 500) (hk : k ≤ 500) : Ans 87 #[V x, V y] (.tuple #[V (x + y), .bool true]) := by
  intro u
  have hf : Fit (x + y) := ((hx.mono (show j ≤ 500 from hj)).add (hy.mono (show k ≤ 500 from hk))).fit (by decide)
  have h := refAdd x y (hx.fit (by omega)) (hy.fit (by omega)) u
  rw [fitN_fit hf, fit_true hf] at h
  exact h
theorem shl_refS (x : Int) (k : Nat) (hx : Fit x) (hf : Fit (x * ((2 ^ k : Nat) : Int))) : Ans 141 #[V x, .int .i64 k] (.tuple #[V (x * ((2 ^ k : Nat) : Int)), .bool true]) := by
  intro u
  have h := refShl x k hx u
  rw [decide_eq_false (show ¬ (k : Int) < 0 by omega), Int.toNat_natCast, fit_true hf] at h
  exact h
theorem div_refS {j k : Nat} (x y : Int) (hx : Sz j x) (hy : Sz k y) (hj : j ≤ 500) (hk : k ≤ 500) (h0 : y ≠ 0) : Ans 99 #[V x, V y] (.tuple #[V (x.fdiv y), V (x.fmod y), .bool true]) := by
  intro u
  have k := refDivZ x y (hx.fit (by omega)) (hy.fit (by omega)) u
  have hd : dq x y = true := by
    unfold dq
    rw [fit_true ((hx.fdiv h0).fit (by omega))]
    simp [h0]
  rw [hd] at k
  exact k
theorem QuotR {j k : Nat} (x y : Int) (up : Bool) (hx : Sz j x) (hy : Sz k y) (hj : j ≤ 400) (hk : k ≤ 400) (h0 : y ≠ 0) : Ans 143 #[V x, V y, .bool up] (V (upN (x.fdiv y) (!up || decide (x.fmod y = 0)))) := by
  intro w
  have hD := div_refS x y hx hy (by omega) (by omega) h0
  have hR : Fit (x.fmod y) := (hy.fmod h0).fit (by omega)
  cases up
  · exact quot_low (enc x) (enc y) (enc (x.fdiv y)) (enc (x.fmod y)) (sgn (x.fmod y)) false true w (fun h => by cases h) hD (fun u => refSign _ hR u)
  · by_cases hr : x.fmod y = 0
    · rw [decide_eq_true hr]
      exact quot_low (enc x) (enc y) (enc (x.fdiv y)) (enc (x.fmod y)) (sgn (x.fmod y)) true true w (fun _ => (sgn_zero _).2 hr) hD (fun u => refSign _ hR u)
    · rw [decide_eq_false hr]
      have hs : sgn (x.fmod y) ≠ 0 := fun hc => hr ((sgn_zero _).1 hc)
      exact quot_up (enc x) (enc y) (enc (x.fdiv y)) (enc (x.fmod y)) (enc (x.fdiv y + 1)) (enc 1) (sgn (x.fmod y)) true true w (by simp [hs]) (by simp [hs]) (by simp [hs]) hD (fun u => refSign _ hR u) (fun u => SmallZ 1 (by decide) (by decide) u) (add_refS _ 1 (hx.fdiv h0) Sz.one (by omega) (by decide))

theorem upN_sz {k : Nat} {z : Int} (h : Sz k z) (b : Bool) : Sz (k + 1) (upN z b) := by
  cases b
  · exact h.add (Sz.one.mono (by omega))
  · exact h.mono (by omega)
theorem div2_zero (x v : Int) (up : Bool) (w : World) (hv : v = if 0 < x then 9223372036854775807 else if x < 0 then -9223372036854775808 else 0) :
    Calls Tryz.prog 102 #[.int .i64 x, .int .i64 0, .bool up] w fun e w' => e = .returned (.int .i64 v) ∧ Below w.heap.size w w' := by
  by_cases h1 : 0 < x
  · rw [if_pos h1] at hv
    subst hv
    go_enter Tryz.func102, Tryz.ntmps102
    go_wp2
    go_ret
    exact ⟨rfl, Below.refl _ _⟩
  · rw [if_neg h1] at hv
    by_cases h2 : x < 0
    · rw [if_pos h2] at hv
      subst hv
      go_enter Tryz.func102, Tryz.ntmps102
      go_wp2
      go_ret
      exact ⟨rfl, Below.refl _ _⟩
    · rw [if_neg h2] at hv
      subst hv
      go_enter Tryz.func102, Tryz.ntmps102
      go_wp2
      go_ret
      exact ⟨rfl, Below.refl _ _⟩
set_option maxHeartbeats 1000000 in
theorem div2_core (a b n q : Nat) (x y v : Int) (up E : Bool) (w : World) (hy1 : (y == 0) = false) (hy2 : decide (y = 0) = false) (hX : Hid (Ans 88 #[.int .i64 x] (.agg (cells8 a)))) (hY : Hid (Ans 88 #[.int .i64 y] (.agg (cells8 b)))) (hS : Hid (Ans 141 #[.agg (cells8 a), .int .i64 32] (.tuple #[.agg (cells8 n), .bool E])))
    (hQ : Hid (Ans 143 #[.agg (cells8 n), .agg (cells8 b), .bool up] (.agg (cells8 q)))) (hW : Hid (Ans 86 #[.agg (cells8 q)] (.int .i64 v))) :
    Calls Tryz.prog 102 #[.int .i64 x, .int .i64 y, .bool up] w fun e w' => e = .returned (.int .i64 v) ∧ Below w.heap.size w w' := by
  have D := hide (Env.start w)
  go_enter Tryz.func102, Tryz.ntmps102
  go_upto_region 8 with (first | (with_reducible refine at_list ?_; apply ldE (unhide D) _ rfl rfl rfl (by repeat (first | exact List.mem_cons_self | apply List.mem_cons_of_mem))) | (with_reducible refine at_list ?_; refine stE (unhide D) _ _ rfl rfl rfl rfl rfl ?_; intro D'; have D := hide D'; clear D') | (go_at_call 88; with_reducible refine (unhide hX _).mono ?_; rintro e w' ⟨he, hb⟩; subst he; have D := hide ((unhide D).keep hb); clear hb) | (go_at_call 141; with_reducible refine (unhide hS _).mono ?_; rintro e w' ⟨he, hb⟩; subst he; have D := hide ((unhide D).keep hb); clear hb))
  refine region_plan (S := Env w _) (l := [0, 1, 2, 3, 4, 5, 6]) (by kernel_rfl) (by kernel_rfl) (by kernel_rfl) (by kernel_rfl) (by kernel_rfl) (by kernel_rfl) (by kernel_rfl) ((unhide D).drew) ?_
  clear D
  refine plan_read rfl rfl (fun u hS => exec_load8 (n := n) 75 (.tmp 7) (hS.blk (by repeat (first | exact List.mem_cons_self | apply List.mem_cons_of_mem))) rfl rfl Tryz.underlying75 rfl iWide) ?_
  refine plan_read (v := ?_) rfl rfl (fun u hS => by go_simp; rfl) ?_
  go_simp
  refine plan_call (v := .agg (cells8 b)) (f := 88) (args := #[.int .i64 y]) rfl rfl (fun u hS => by go_simp) (fun u hS => (unhide hY u).mono fun _ _ ⟨he, hb⟩ => ⟨he, hS.keep hb⟩) ?_
  go_simp
  refine plan_read (v := ?_) rfl rfl (fun u hS => by go_simp; rfl) ?_
  go_simp
  refine plan_call (v := .agg (cells8 q)) (f := 143) (args := #[.agg (cells8 n), .agg (cells8 b), .bool up]) rfl rfl (fun u hS => by go_simp) (fun u hS => (unhide hQ u).mono fun _ _ ⟨he, hb⟩ => ⟨he, hS.keep hb⟩) ?_
  go_simp
  refine plan_call (v := .int .i64 v) (f := 86) (args := #[.agg (cells8 q)]) rfl rfl (fun u hS => by go_simp) (fun u hS => (unhide hW u).mono fun _ _ ⟨he, hb⟩ => ⟨he, hS.keep hb⟩) ?_
  go_simp
  refine plan_read (v := ?_) rfl rfl (fun u hS => by go_simp; rfl) ?_
  go_simp
  refine plan_end (fun u hS => ?_)
  have O := hide hS.o
  clear hS
  go_wp2
  go_ret
  exact ⟨rfl, unhide O⟩
theorem DivR (x y : Int) (up : Bool) (hx : I64 x) (hy : I64 y) : Ans 102 #[.int .i64 x, .int .i64 y, .bool up] (.int .i64 (bif up then divU x y else divD x y)) := by
  intro w
  by_cases h0 : y = 0
  · have e : (bif up then divU x y else divD x y) = if 0 < x then 9223372036854775807 else if x < 0 then -9223372036854775808 else 0 := by
      have e1 : divU x y = divD x y := by unfold divU divD; rw [if_pos h0]; split <;> rfl
      have e2 : divD x y = if 0 < x then 9223372036854775807 else if x < 0 then -9223372036854775808 else 0 := by
        unfold divD
        rw [if_pos h0]
        by_cases a : x = 0
        · rw [if_pos a, if_neg (by omega), if_neg (by omega)]
        · rw [if_neg a]
          by_cases b : x < 0
          · rw [if_neg (by omega), if_pos b, decide_eq_true b]; rfl
          · rw [if_pos (by omega), decide_eq_false b]; rfl
      cases up
      · exact e2
      · exact e1.trans e2
    rw [h0] at e ⊢
    exact div2_zero x _ up w e
  · have sN := raise_sz hx
    have hQ := QuotR (x * 4294967296) y up sN hy.sz (by decide) (by decide) h0
    have k := div2_core (enc x) (enc y) (enc (x * 4294967296)) _ x y _ up true w (by simp [h0]) (by simp [h0]) (RawR x hx) (RawR y hy) (shl_refS x 32 hx.fit (sN.fit (by decide))) hQ (WithinR _ ((upN_sz (sN.fdiv h0) _).fit (by decide)))
    have e : cl (upN ((x * 4294967296).fdiv y) (!up || decide ((x * 4294967296).fmod y = 0))) = bif up then divU x y else divD x y := by
      have z : x = 0 → (x * 4294967296).fdiv y = 0 ∧ (x * 4294967296).fmod y = 0 := fun h => by rw [h, Int.zero_mul]; exact ⟨Int.zero_fdiv _, Int.zero_fmod _⟩
      cases up
      · show cl ((x * 4294967296).fdiv y) = divD x y
        unfold divD
        by_cases a : x = 0
        · rw [if_pos a, (z a).1]; rfl
        · rw [if_neg a, if_neg h0]
      · show cl (upN ((x * 4294967296).fdiv y) (decide ((x * 4294967296).fmod y = 0))) = divU x y
        unfold divU
        by_cases a : x = 0
        · rw [if_pos a, (z a).1, (z a).2]; rfl
        · rw [if_neg a, if_neg h0]
    rw [e] at k
    exact k

end Go.Proofs.YtnemedgdhojhdaaGreat

namespace Go.Proofs.YtnemedgdhojhdaaGreat
open Go.RowKit
set_option maxRecDepth 4000
set_option linter.unusedVariables false

/-! In. -/
end Go.Proofs.YtnemedgdhojhdaaGreat
