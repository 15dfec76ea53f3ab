/- What a function of bits knows: numbers in blocks, and rows of bits; the contracts of Long, plus, minus and Of in these words. The document's Add and Sub. The document's Below, Sign, size, top and Count. -/
import Derived.Test.YtbgafjdgahikcaaRd
import Derived.Test.YtbgafjdgahikcaaZn
namespace Go.Proofs.Ytbgafjdgahikcaa
open Go.RowKit
set_option maxRecDepth 4000

/-- Numbers in their blocks, and rows of bits in theirs: block, how many, of which integer. -/
structure EnvB (w0 : World) (l : List (Nat × Nat)) (rs : List (Nat × Nat × Int)) (w : World) : Prop where
  e : Env w0 l w
  r : ∀ p ∈ rs, Ints w p.1 p.2.1 (bz p.2.2)
theorem ints_below {w w' : World} {g n : Nat} {f : Nat → Int} (h : Ints w g n f) (hb : Below w.heap.size w w') : Ints w' g n f := World.rowIs.of_block h (hb.block _ (World.rowIs.lt h))
theorem EnvB.keep {w0 w w' : World} {l : List (Nat × Nat)} {rs : List (Nat × Nat × Int)} (d : EnvB w0 l rs w) (hb : Below w.heap.size w w') : EnvB w0 l rs w' :=
  ⟨d.e.keep hb, fun p hp => ints_below (d.r p hp) hb⟩
theorem EnvB.row {w0 w : World} {l : List (Nat × Nat)} {rs : List (Nat × Nat × Int)} {g n : Nat} {z : Int} (d : EnvB w0 l rs w) (h : Ints w g n (bz z)) : EnvB w0 l ((g, n, z) :: rs) w := by
  refine ⟨d.e, fun p hp => ?_⟩
  rcases List.mem_cons.1 hp with e | hp
  · subst e; exact h
  · exact d.r p hp
theorem EnvB.drew {w0 w : World} {l : List (Nat × Nat)} {rs : List (Nat × Nat × Int)} (d : EnvB w0 l rs w) : EnvB w0 l rs w.drew := ⟨d.e.drew, fun p hp => World.rowIs.drew (d.r p hp)⟩
theorem EnvB.of {w0 w : World} {l : List (Nat × Nat)} (d : Env w0 l w) : EnvB w0 l [] w := ⟨d, fun _ h => (List.not_mem_nil h).elim⟩
theorem EnvB.cells {w0 w : World} {l : List (Nat × Nat)} {rs : List (Nat × Nat × Int)} {p n : Nat} {x : Int} (d : EnvB w0 l rs w) (h : (p, n, x) ∈ rs) : ∀ k, k < n → w.cell? ⟨p, 0 + k, none⟩ = some (.int .i64 (bz x k)) := by
  intro k hk
  rw [Nat.zero_add]
  exact World.rowIs.cell (d.r _ h) hk
theorem EnvB.lt {w0 w : World} {l : List (Nat × Nat)} {rs : List (Nat × Nat × Int)} {p n : Nat} {x : Int} (d : EnvB w0 l rs w) (h : (p, n, x) ∈ rs) : p < w.heap.size := World.rowIs.lt (d.r _ h)

/-- A whole row of bits, as a slice. -/
abbrev sl (g n : Nat) : Value := .slice (some ⟨g, 0, none⟩) n n
section
variable {w0 w : World} {l : List (Nat × Nat)} {rs : List (Nat × Nat × Int)} {R : Ending → World → Prop} {p q n : Nat} {x y : Int}
theorem longE (d : EnvB w0 l rs w) (z : Int) (hz : Fit z) (n : Nat) (hn : n ≤ 4000) (k : ∀ g w', EnvB w0 l ((g, n, z) :: rs) w' → R (.returned (sl g n)) w') : Calls Try.prog 142 #[V z, .int .i64 n] w R :=
  (longZ z hz n hn w).mono fun _ w' ⟨g, _, he, hr, hb⟩ => he ▸ k g w' ((d.keep hb).row hr)
theorem plusE (d : EnvB w0 l rs w) (hn : n ≤ 4000) (hp : (p, n, x) ∈ rs) (hq : (q, n, y) ∈ rs) (k : ∀ g w', EnvB w0 l ((g, n, x + y) :: rs) w' → R (.returned (sl g n)) w') :
    Calls Try.prog 141 #[sl p n, sl q n] w R :=
  (plus_bits x y n p q 0 0 n n hn w (d.cells hp) (d.cells hq) (d.lt hp) (d.lt hq)).mono fun _ w' ⟨g, _, he, hr, hb⟩ => he ▸ k g w' ((d.keep hb).row hr)
theorem minusE (d : EnvB w0 l rs w) (hn : n ≤ 4000) (hp : (p, n, x) ∈ rs) (k : ∀ g w', EnvB w0 l ((g, n, -x) :: rs) w' → R (.returned (sl g n)) w') :
    Calls Try.prog 139 #[sl p n] w R :=
  (minus_bits x n p 0 n hn w (d.cells hp) (d.lt hp)).mono fun _ w' ⟨g, _, he, hr, hb⟩ => he ▸ k g w' ((d.keep hb).row hr)
/-- What is answered, and whether it fits. -/
def fitN (z : Int) : Nat := bif fit z then enc z else 0
theorem fitN_eq (z : Int) : fitN z = enc (if fit z then z else 0) := by unfold fitN; cases fit z <;> rfl
theorem ofE (d : EnvB w0 l rs w) (m : Nat) (hm : n = 512 + m) (hn : n ≤ 4000) (hp : (p, n, x) ∈ rs) (h1 : -((H : Int) * ((2 ^ m : Nat) : Int)) ≤ x) (h2 : x < (H : Int) * ((2 ^ m : Nat) : Int))
    (k : ∀ w', EnvB w0 l rs w' → R (.returned (.tuple #[.agg (cells8 (fitN x)), .bool (fit x)])) w') :
    Calls Try.prog 140 #[sl p n] w R :=
  (ofZ x m n p 0 n hm hn h1 h2 w (d.cells hp) (d.lt hp)).mono fun e w' ⟨he, hb⟩ => by rw [he]; have := k w' (d.keep hb); rw [fitN_eq] at this; exact this
end
theorem wide8 (H x : Int) (h1 : -(2 * H) ≤ x) (h2 : x ≤ 2 * H) (hH : 0 < H) : -(H * ((2 ^ 8 : Nat) : Int)) ≤ x ∧ x < H * ((2 ^ 8 : Nat) : Int) := by
  rw [show ((2 ^ 8 : Nat) : Int) = 256 from rfl]
  omega
theorem HI_pos : 0 < (H : Int) := by have := H_pos; omega

theorem Env.row {w0 w : World} {l : List (Nat × Nat)} {g : Nat} (d : Env w0 l w) (hg : w0.heap.size ≤ g) (hne : ∀ p ∈ l, p.1 ≠ g) (cs : Array Value) : Env w0 l (w.setRow g cs) :=
  ⟨fun p hp => (d.at_ p hp).rowOther cs (hne p hp), below_row d.o hg cs⟩
theorem Env.tail {w0 w : World} {p : Nat × Nat} {l : List (Nat × Nat)} (d : Env w0 (p :: l) w) : Env w0 l w := ⟨fun q hq => d.at_ q (List.mem_cons_of_mem _ hq), d.o⟩
section
variable {ops : Array Oper} {Q : Exit → Act → World → Prop} {S : World → Prop} {tn : Nat → Bool} {i : Nat} {r : List Nat} {a : Act} {w : World} {o : Oper}
/-- A number into its block. -/
theorem walk_store8 {old : Array Value} {n g : Nat} {t : TypeId} (ty : TypeId) (x y : Operand) (ho : ops[i]? = some o) (hw : Region.wanted o (yielded ops a.tmps) = true) (ht : tn i = true) (hg : Blk w g t old) (hold : old.size = 8) (hop : o.op = .store ty x y) (hx : a.eval x = .pointer (some ⟨g, 0, none⟩)) (hy : a.eval y = .agg (cells8 n))
    (hi : (Try.prog.info? ty).map (·.size) = some 8) (hS : S (w.setRow g (cells8 n))) (hr : Walk Try.prog ops S Q tn r (a.put o.dst undef) (w.setRow g (cells8 n))) : Walk Try.prog ops S Q tn (i :: r) a w :=
  ⟨o, ho, .inr (.inr ⟨hw, ht, by rw [exec_store8 ty x y hg hold hop hx hy hi]; exact ⟨hS, hr⟩⟩)⟩
end
theorem ne3a (s a b : Nat) : ∀ p ∈ [(s + 1, b), (s, a)], p.1 ≠ s + 1 + 1 := by
  intro p hp
  simp only [List.mem_cons, List.not_mem_nil, or_false] at hp
  rcases hp with rfl | rfl
  · show s + 1 ≠ _; omega
  · show s ≠ _; omega

set_option maxHeartbeats 1000000 in
theorem refAdd (x y : Int) (hx : Fit x) (hy : Fit y) (w : World) : Calls Try.prog 91 #[V x, V y] w fun e w' => e = .returned (.tuple #[.agg (cells8 (fitN (x + y))), .bool (fit (x + y))]) ∧ Below w.heap.size w w' := by
  have hxy := hide (wide8 H (x + y) (by have := hx.1; have := hy.1; omega) (by have := hx.2; have := hy.2; omega) HI_pos)
  have Hx := hide hx
  have Hy := hide hy
  clear hx hy
  unfold V
  go_enter Try.func91, Try.ntmps91
  go_upto_region 1 with fail
  have D := hide (EnvB.of (Env.three w (enc x) (enc y) 0))
  rw [cells8_0] at D
  refine region_walk (S := Env w [(w.heap.size + 1, enc y), (w.heap.size, enc x)]) (l := [0, 2, 1, 3, 4, 5, 6, 7, 8, 9]) (t := [1, 3, 4, 5, 8]) (by kernel_rfl) (by kernel_rfl) (by kernel_rfl) (by kernel_rfl) (by kernel_rfl) (by kernel_rfl) (by kernel_rfl) (by kernel_rfl) ?_ ?_
  · exact (unhide D).drew.e.tail
  refine walk_read rfl rfl rfl (fun u hS => exec_load8 (n := enc x) 40 (.tmp 2) (hS.blk (by repeat (first | exact List.mem_cons_self | apply List.mem_cons_of_mem))) rfl rfl Try.underlying40 rfl iWide) ?_
  refine walk_read rfl rfl rfl (fun u hS => exec_load8 (n := enc y) 40 (.tmp 3) (hS.blk (by repeat (first | exact List.mem_cons_self | apply List.mem_cons_of_mem))) rfl rfl Try.underlying40 rfl iWide) ?_
  go_simp
  refine walk_call (f := 142) (args := #[V x, .int .i64 520]) rfl rfl rfl (by go_simp) ?_
  refine longE (unhide D).drew x (unhide Hx) 520 (by decide) ?_
  intro g1 w1 D1
  refine ⟨_, rfl, D1.e.tail, ?_⟩
  go_simp
  refine walk_call (f := 142) (args := #[V y, .int .i64 520]) rfl rfl rfl (by go_simp) ?_
  refine longE D1 y (unhide Hy) 520 (by decide) ?_
  intro g2 w2 D2
  refine ⟨_, rfl, D2.e.tail, ?_⟩
  go_simp
  refine walk_call (f := 141) (args := #[sl g1 520, sl g2 520]) rfl rfl rfl (by go_simp) ?_
  apply plusE D2 (by decide) (x := x) (y := y) (by repeat (first | exact List.mem_cons_self | apply List.mem_cons_of_mem)) (by repeat (first | exact List.mem_cons_self | apply List.mem_cons_of_mem))
  intro g3 w3 D3
  refine ⟨_, rfl, D3.e.tail, ?_⟩
  go_simp
  refine walk_call (f := 140) (args := #[sl g3 520]) rfl rfl rfl (by go_simp) ?_
  apply ofE D3 8 rfl (by decide) (by repeat (first | exact List.mem_cons_self | apply List.mem_cons_of_mem)) (unhide hxy).1 (unhide hxy).2
  intro w4 D4
  refine ⟨_, rfl, D4.e.tail, ?_⟩
  go_simp
  refine walk_read (v := ?_) rfl rfl rfl (fun u hS => by go_simp; rfl) ?_
  refine walk_read (v := ?_) rfl rfl rfl (fun u hS => by go_simp; rfl) ?_
  go_simp
  refine walk_store8 (n := fitN (x + y)) 40 (.tmp 4) (.tmp 12) rfl rfl rfl (D4.e.blk List.mem_cons_self) rfl rfl rfl rfl iWide (D4.e.tail.row (by omega) (ne3a _ _ _) _) ?_
  refine walk_read (v := ?_) rfl rfl rfl (fun u hS => by go_simp; rfl) ?_
  go_simp
  refine walk_end ?_
  have B4 := hide D4.e.o
  have R4 := hide (D4.e.blk List.mem_cons_self)
  clear D D1 D2 D3 D4
  go_wp2
  exact res8s ((unhide R4).row _) rfl rfl rfl rfl Try.underlying40 rfl iWide ⟨rfl, below_row (unhide B4) (by omega) _⟩

set_option maxHeartbeats 1000000 in
theorem refSub' (x y : Int) (hx : Fit x) (hy : Fit y) (w : World) : Calls Try.prog 130 #[V x, V y] w fun e w' => e = .returned (.tuple #[.agg (cells8 (fitN (x + -y))), .bool (fit (x + -y))]) ∧ Below w.heap.size w w' := by
  have hxy := hide (wide8 H (x + -y) (by have := hx.1; have := hy.2; omega) (by have := hx.2; have := hy.1; omega) HI_pos)
  have Hx := hide hx
  have Hy := hide hy
  clear hx hy
  unfold V
  go_enter Try.func130, Try.ntmps130
  go_upto_region 1 with fail
  have D := hide (EnvB.of (Env.three w (enc x) (enc y) 0))
  rw [cells8_0] at D
  refine region_walk (S := Env w [(w.heap.size + 1, enc y), (w.heap.size, enc x)]) (l := [0, 2, 1, 3, 4, 5, 6, 7, 8, 9, 10]) (t := [1, 3, 4, 5, 6, 9]) (by kernel_rfl) (by kernel_rfl) (by kernel_rfl) (by kernel_rfl) (by kernel_rfl) (by kernel_rfl) (by kernel_rfl) (by kernel_rfl) ?_ ?_
  · exact (unhide D).drew.e.tail
  refine walk_read rfl rfl rfl (fun u hS => exec_load8 (n := enc x) 40 (.tmp 2) (hS.blk (by repeat (first | exact List.mem_cons_self | apply List.mem_cons_of_mem))) rfl rfl Try.underlying40 rfl iWide) ?_
  refine walk_read rfl rfl rfl (fun u hS => exec_load8 (n := enc y) 40 (.tmp 3) (hS.blk (by repeat (first | exact List.mem_cons_self | apply List.mem_cons_of_mem))) rfl rfl Try.underlying40 rfl iWide) ?_
  go_simp
  refine walk_call (f := 142) (args := #[V x, .int .i64 520]) rfl rfl rfl (by go_simp) ?_
  refine longE (unhide D).drew x (unhide Hx) 520 (by decide) ?_
  intro g1 w1 D1
  refine ⟨_, rfl, D1.e.tail, ?_⟩
  go_simp
  refine walk_call (f := 142) (args := #[V y, .int .i64 520]) rfl rfl rfl (by go_simp) ?_
  refine longE D1 y (unhide Hy) 520 (by decide) ?_
  intro g2 w2 D2
  refine ⟨_, rfl, D2.e.tail, ?_⟩
  go_simp
  refine walk_call (f := 139) (args := #[sl g2 520]) rfl rfl rfl (by go_simp) ?_
  apply minusE D2 (by decide) (x := y) (by repeat (first | exact List.mem_cons_self | apply List.mem_cons_of_mem))
  intro g3 w3 D3
  refine ⟨_, rfl, D3.e.tail, ?_⟩
  go_simp
  refine walk_call (f := 141) (args := #[sl g1 520, sl g3 520]) rfl rfl rfl (by go_simp) ?_
  apply plusE D3 (by decide) (x := x) (y := -y) (by repeat (first | exact List.mem_cons_self | apply List.mem_cons_of_mem)) (by repeat (first | exact List.mem_cons_self | apply List.mem_cons_of_mem))
  intro g4 w4 D4
  refine ⟨_, rfl, D4.e.tail, ?_⟩
  go_simp
  refine walk_call (f := 140) (args := #[sl g4 520]) rfl rfl rfl (by go_simp) ?_
  apply ofE D4 8 rfl (by decide) (by repeat (first | exact List.mem_cons_self | apply List.mem_cons_of_mem)) (unhide hxy).1 (unhide hxy).2
  intro w5 D5
  refine ⟨_, rfl, D5.e.tail, ?_⟩
  go_simp
  refine walk_read (v := ?_) rfl rfl rfl (fun u hS => by go_simp; rfl) ?_
  refine walk_read (v := ?_) rfl rfl rfl (fun u hS => by go_simp; rfl) ?_
  go_simp
  refine walk_store8 (n := fitN (x + -y)) 40 (.tmp 4) (.tmp 13) rfl rfl rfl (D5.e.blk List.mem_cons_self) rfl rfl rfl rfl iWide (D5.e.tail.row (by omega) (ne3a _ _ _) _) ?_
  refine walk_read (v := ?_) rfl rfl rfl (fun u hS => by go_simp; rfl) ?_
  go_simp
  refine walk_end ?_
  have B4 := hide D5.e.o
  have R4 := hide (D5.e.blk List.mem_cons_self)
  clear D D1 D2 D3 D4 D5
  go_wp2
  exact res8s ((unhide R4).row _) rfl rfl rfl rfl Try.underlying40 rfl iWide ⟨rfl, below_row (unhide B4) (by omega) _⟩

theorem refSub (x y : Int) (hx : Fit x) (hy : Fit y) (w : World) : Calls Try.prog 130 #[V x, V y] w fun e w' => e = .returned (.tuple #[.agg (cells8 (fitN (x - y))), .bool (fit (x - y))]) ∧ Below w.heap.size w w' := by
  have h := refSub' x y hx hy w
  rwa [← Int.sub_eq_add_neg] at h

theorem below_top (n : Nat) (b : Bool) (hb : Hid (decide (9223372036854775808 ≤ lm n 7) = b)) (w : World) : Calls Try.prog 138 #[W n] w fun e w' => e = .returned (.bool b) ∧ Below w.heap.size w w' := by
  unfold W
  go_enter Try.func138, Try.ntmps138
  go_upto_region 1 with fail
  have h7 : (w.alloc (.cells (cells8 n) 40)).cell? ⟨w.heap.size, 7, none⟩ = some (.int .u64 (lm n 7)) := (Blk.new w 40 (cells8 n)).cell 7
  generalize lm n 7 = L at *
  go_wp2
  go_ret
  exact ⟨by rw [← hb.out]; rfl, (Below.refl _ _).alloc (Nat.le_refl _) _⟩
theorem refBelow (z : Int) (hz : Fit z) (w : World) : Calls Try.prog 138 #[V z] w fun e w' => e = .returned (.bool (decide (z < 0))) ∧ Below w.heap.size w w' :=
  below_top (enc z) _ (by rw [← neg_enc hz, neg_top]; exact rfl) w

/-- The bits of the absolute value. -/
theorem size_bits (n : Nat) (z : Int) (hz : Hid (Fit z)) (hn : Hid (cells8 n = cells8 (enc z))) (b : Bool) (hb : Hid (decide (z < 0) = b)) (w : World) :
    Calls Try.prog 136 #[W n] w fun e w' => ∃ g, w.heap.size ≤ g ∧ e = .returned (sl g 520) ∧ Ints w' g 520 (bz (bif b then -z else z)) ∧ Below w.heap.size w w' := by
  unfold W
  go_enter Try.func136, Try.ntmps136
  go_upto_region 1 with fail
  have D := hide (EnvB.of (Env.one w n))
  have hL : Hid (∀ u, Calls Try.prog 142 #[.agg (cells8 n), .int .i64 520] u fun e w' => ∃ g, u.heap.size ≤ g ∧ e = .returned (.slice (some ⟨g, 0, none⟩) 520 520) ∧ Ints w' g 520 (bz z) ∧ Below u.heap.size u w') := fun u => by rw [hn.out]; exact longZ z hz.out 520 (by decide) u
  have hB : Hid (∀ u, Calls Try.prog 138 #[.agg (cells8 n)] u fun e w' => e = .returned (.bool b) ∧ Below u.heap.size u w') := fun u => by rw [hn.out, ← hb.out]; exact refBelow z hz.out u
  cases b
  · go_wp2_with (first
      | (with_reducible refine at_list ?_; apply ldE (unhide D).e _ rfl rfl rfl (by repeat (first | exact List.mem_cons_self | apply List.mem_cons_of_mem)))
      | (go_at_call 142; refine (unhide hL _).mono ?_; rintro e w1 ⟨g, hg, he, hr, hw⟩; subst he; have hg1 := hide hg; have D := hide (((unhide D).keep hw).row hr); clear hr hw hg)
      | (go_at_call 138; refine (unhide hB _).mono ?_; rintro e w2 ⟨he, hw⟩; subst he; have D := hide ((unhide D).keep hw); clear hw))
    go_ret
    refine ⟨g, ?_, rfl, (unhide D).r _ List.mem_cons_self, (unhide D).e.o⟩
    have := hg1.out
    simp at this
    omega
  · go_wp2_with (first
      | (with_reducible refine at_list ?_; apply ldE (unhide D).e _ rfl rfl rfl (by repeat (first | exact List.mem_cons_self | apply List.mem_cons_of_mem)))
      | (go_at_call 142; refine (unhide hL _).mono ?_; rintro e w1 ⟨g, hg, he, hr, hw⟩; subst he; have D := hide (((unhide D).keep hw).row hr); clear hr hw hg)
      | (go_at_call 138; refine (unhide hB _).mono ?_; rintro e w2 ⟨he, hw⟩; subst he; have D := hide ((unhide D).keep hw); clear hw)
      | (go_at_call 139; refine (minus_bits z 520 _ 0 520 (by decide) _ ((unhide D).cells List.mem_cons_self) ((unhide D).lt List.mem_cons_self)).mono ?_; rintro e w3 ⟨g3, hg, he, hr, hw⟩; subst he; have hg3 := hide (Nat.le_trans (unhide D).e.o.size hg); have D := hide (((unhide D).keep hw).row hr); clear hr hw hg))
    go_ret
    exact ⟨g3, hg3.out, rfl, (unhide D).r _ List.mem_cons_self, (unhide D).e.o⟩
theorem refSize (z : Int) (hz : Fit z) (w : World) : Calls Try.prog 136 #[V z] w fun e w' => ∃ g, w.heap.size ≤ g ∧ e = .returned (sl g 520) ∧ Ints w' g 520 (bz (z.natAbs : Int)) ∧ Below w.heap.size w w' := by
  have h := size_bits (enc z) z hz rfl (decide (z < 0)) rfl w
  have e : (bif decide (z < 0) then -z else z) = (z.natAbs : Int) := by
    by_cases h0 : z < 0
    · rw [decide_eq_true h0]; show -z = _; omega
    · rw [decide_eq_false h0]; show z = _; omega
  rw [e] at h
  exact h

/-- How many bits there are up to the last 1. -/
theorem top_bits (m n p o1 c1 : Nat) (hn : n ≤ 4000) (hm : Hid (m < 2 ^ n)) (w : World) (hp : ∀ k, k < n → w.cell? ⟨p, o1 + k, none⟩ = some (.int .i64 (bz (m : Int) k))) :
    Calls Try.prog 137 #[.slice (some ⟨p, o1, none⟩) n c1] w fun e w' => e = .returned (.int .i64 (blen m : Nat)) ∧ w' = w := by
  have HP : Hid (∀ k, k < n → w.cell? ⟨p, o1 + k, none⟩ = some (.int .i64 (bz (m : Int) k))) := hp
  clear hp
  go_enter Try.func137, Try.ntmps137
  go_wp2_with fail
  go_loopw [3] (fun i wr => ∃ k : Nat, k ≤ n ∧ i = .int .i64 k ∧ Hid (m < 2 ^ k) ∧ wr = w) (fun i _ => (intOf i).toNat)
  case atStart => exact ⟨n, Nat.le_refl _, rfl, hm, rfl⟩
  case round =>
    obtain ⟨k, hk, rfl, hmk, rfl⟩ := hrel
    rcases Nat.eq_zero_or_pos k with rfl | hpos
    · go_wp2
      go_ret
      have h0 : m = 0 := by have := hmk.out; simp at this; exact this
      exact ⟨by rw [h0]; rfl, rfl⟩
    · obtain ⟨j, rfl⟩ : ∃ j, k = j + 1 := ⟨k - 1, by omega⟩
      have hj : ((j + 1 : Nat) : Int) = (j : Int) + 1 := by omega
      rw [hj]
      have h1 := HP.out j (by omega)
      have hb : bz (m : Int) j = if 2 ^ j ≤ m then 1 else 0 := by
        have h2 := hmk.out
        rw [Nat.pow_succ] at h2
        unfold bz
        have h3 : (m : Int) / ((2 ^ j : Nat) : Int) % 2 = ((m / 2 ^ j % 2 : Nat) : Int) := by rw [Int.natCast_emod, Int.natCast_ediv]; rfl
        rw [h3]
        have hp := Nat.pow_pos (n := j) (show 0 < 2 by decide)
        by_cases h : 2 ^ j ≤ m
        · rw [if_pos h, show m / 2 ^ j = 1 from Nat.div_eq_of_lt_le (by omega) (by omega)]; rfl
        · rw [if_neg h, Nat.div_eq_of_lt (by omega)]; rfl
      by_cases h : 2 ^ j ≤ m
      · rw [hb, if_pos h] at h1
        have hl : Hid (blen m = j + 1) := by
          have h2 := (blen_lt m (j + 1)).2 hmk.out
          have h3 : ¬ blen m ≤ j := fun hc => by have := (blen_lt m j).1 hc; omega
          show blen m = j + 1
          omega
        clear h hb
        go_wp2
        go_ret
        exact ⟨by rw [hl.out]; rfl, rfl⟩
      · rw [hb, if_neg h] at h1
        have hl : Hid (m < 2 ^ j) := by show m < 2 ^ j; omega
        clear h hb
        go_wp2
        go_roundw
        case rel => exact ⟨j, by omega, by go_num, hl, trivial⟩
        case measure => simp [intOf]

theorem sign_limbs (n : Nat) (s : Int) (b : Bool) (hB : Hid (∀ u, Calls Try.prog 138 #[.agg (cells8 n)] u fun e w' => e = .returned (.bool b) ∧ Below u.heap.size u w'))
    (hb : Hid (b = true → s = -1)) (h1 : Hid (b = false → (∃ j, j < 8 ∧ lm n j ≠ 0) → s = 1)) (h0 : Hid (b = false → (∀ j, j < 8 → lm n j = 0) → s = 0)) (w : World) :
    Calls Try.prog 97 #[W n] w fun e w' => e = .returned (.int .i64 s) ∧ Below w.heap.size w w' := by
  unfold W
  go_enter Try.func97, Try.ntmps97
  go_upto_region 1 with fail
  have D := hide (Env.one w n)
  cases b
  · go_wp2_with (first
      | (with_reducible refine at_list ?_; apply ldE (unhide D) _ rfl rfl rfl (by repeat (first | exact List.mem_cons_self | apply List.mem_cons_of_mem)))
      | (go_at_call 138; refine (unhide hB _).mono ?_; rintro e w1 ⟨he, hw⟩; subst he; have D := hide ((unhide D).keep hw); clear hw))
    go_loopw [3] (fun i wr => ∃ k : Nat, k ≤ 8 ∧ i = .int .i64 k ∧ Hid (∀ j, j < k → lm n j = 0) ∧ wr = w1) (fun i _ => 8 - (intOf i).toNat)
    case atStart => exact ⟨0, by omega, rfl, fun j hj => by omega, rfl⟩
    case round =>
      obtain ⟨k, hk, rfl, hz, rfl⟩ := hrel
      by_cases hlt : k < 8
      · have hg : (k : Int) < 8 := by omega
        have h2 := ((unhide D).blk List.mem_cons_self).cell k
        rw [cells8_get _ _ hlt] at h2
        by_cases h3 : lm n k = 0
        · rw [h3] at h2
          have H3 := hide h3
          clear h3
          go_wp2
          go_roundw
          case rel => exact ⟨k + 1, by omega, by go_num, fun j hj => by
            rcases (show j < k ∨ j = k by omega) with h | h
            · exact hz.out j h
            · rw [h]; exact H3.out, trivial⟩
          case measure => simp [intOf]; omega
        · have hs := hide (h1.out (by trivial) ⟨k, hlt, h3⟩)
          have h4 : decide (lm n k = 0) = false := decide_eq_false h3
          generalize lm n k = L at *
          go_wp2
          go_ret
          exact ⟨by rw [hs.out]; rfl, (unhide D).o⟩
      · have hs := hide (h0.out (by trivial) fun j hj => hz.out j (by omega))
        go_wp2
        go_ret
        exact ⟨by rw [hs.out]; rfl, (unhide D).o⟩
  · have hs := hide (hb.out rfl)
    go_wp2_with (first
      | (with_reducible refine at_list ?_; apply ldE (unhide D) _ rfl rfl rfl (by repeat (first | exact List.mem_cons_self | apply List.mem_cons_of_mem)))
      | (go_at_call 138; refine (unhide hB _).mono ?_; rintro e w1 ⟨he, hw⟩; subst he; have D := hide ((unhide D).keep hw); clear hw))
    go_ret
    exact ⟨by rw [hs.out]; rfl, (unhide D).o⟩
theorem limbs_zero {z : Int} (hz : Fit z) : (∀ j, j < 8 → lm (enc z) j = 0) ↔ z = 0 := by
  have h := eq8_mod (enc z) (enc 0)
  have h2 : decide (enc z % M = enc 0 % M) = decide (z = 0) := same_enc hz fit_zero
  rw [h2] at h
  rw [← decide_eq_true_iff (p := z = 0), ← h]
  simp only [List.all_eq_true, List.mem_range, beq_iff_eq]
  have e : ∀ j, lm (enc 0) j = 0 := fun j => lm_zero j
  constructor
  · intro h j hj; rw [e, h j hj]
  · intro h j hj; rw [h j hj, e]
theorem refSign (z : Int) (hz : Fit z) (w : World) : Calls Try.prog 97 #[V z] w fun e w' => e = .returned (.int .i64 (sgn z)) ∧ Below w.heap.size w w' := by
  refine sign_limbs (enc z) (sgn z) (decide (z < 0)) (fun u => refBelow z hz u) ?_ ?_ ?_ w
  · intro h
    have h' : z < 0 := of_decide_eq_true h
    unfold sgn; rw [if_pos h']
  · intro h hj
    have h' : ¬ z < 0 := of_decide_eq_false h
    have hn : z ≠ 0 := fun hc => by
      obtain ⟨j, hj8, hjn⟩ := hj
      exact hjn ((limbs_zero hz).2 hc j hj8)
    unfold sgn; rw [if_neg h', if_neg hn]
  · intro h hj
    have h' : ¬ z < 0 := of_decide_eq_false h
    have h0 := (limbs_zero hz).1 hj
    unfold sgn; rw [if_neg h', if_pos h0]

end Go.Proofs.Ytbgafjdgahikcaa
