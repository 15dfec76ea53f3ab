/- What a function of bits knows: numbers in blocks, and rows of bits; the contracts of Long, plus, minus and Of in these words. The document's Add and Sub. -/
import Derived.Test.YtfoojpfgeicolaaRd
import Derived.Test.YtfoojpfgeicolaaZn
import Derived.Test.YtfoojpfgeicolaaRp
namespace Go.Proofs.Ytfoojpfgeicolaa
open Go.RowKit

/-- Numbers in their blocks, and rows of bits in theirs: block, how many, of which integer. -/
structure EnvB (w0 : World) (l : List (Nat × Nat)) (rs : List (Nat × Nat × Int)) (w : World) : Prop where
  e : Env w0 l w
  r : ∀ p ∈ rs, Ints w p.1 p.2.1 (bz p.2.2)
theorem ints_below {w w' : World} {g n : Nat} {f : Nat → Int} (h : Ints w g n f) (hb : Below w.heap.size w w') : Ints w' g n f := World.rowIs.of_block h (hb.block _ (World.rowIs.lt h))
theorem EnvB.keep {w0 w w' : World} {l : List (Nat × Nat)} {rs : List (Nat × Nat × Int)} (d : EnvB w0 l rs w) (hb : Below w.heap.size w w') : EnvB w0 l rs w' :=
  ⟨d.e.keep hb, fun p hp => ints_below (d.r p hp) hb⟩
theorem EnvB.row {w0 w : World} {l : List (Nat × Nat)} {rs : List (Nat × Nat × Int)} {g n : Nat} {z : Int} (d : EnvB w0 l rs w) (h : Ints w g n (bz z)) : EnvB w0 l ((g, n, z) :: rs) w := by
  refine ⟨d.e, fun p hp => ?_⟩
  rcases List.mem_cons.1 hp with e | hp
  · subst e; exact h
  · exact d.r p hp
theorem EnvB.drew {w0 w : World} {l : List (Nat × Nat)} {rs : List (Nat × Nat × Int)} (d : EnvB w0 l rs w) : EnvB w0 l rs w.drew := ⟨d.e.drew, fun p hp => World.rowIs.drew (d.r p hp)⟩
theorem EnvB.of {w0 w : World} {l : List (Nat × Nat)} (d : Env w0 l w) : EnvB w0 l [] w := ⟨d, fun _ h => (List.not_mem_nil h).elim⟩
theorem EnvB.cells {w0 w : World} {l : List (Nat × Nat)} {rs : List (Nat × Nat × Int)} {p n : Nat} {x : Int} (d : EnvB w0 l rs w) (h : (p, n, x) ∈ rs) : ∀ k, k < n → w.cell? ⟨p, 0 + k, none⟩ = some (.int .i64 (bz x k)) := by
  intro k hk
  rw [Nat.zero_add]
  exact World.rowIs.cell (d.r _ h) hk
theorem EnvB.lt {w0 w : World} {l : List (Nat × Nat)} {rs : List (Nat × Nat × Int)} {p n : Nat} {x : Int} (d : EnvB w0 l rs w) (h : (p, n, x) ∈ rs) : p < w.heap.size := World.rowIs.lt (d.r _ h)

/-- A whole row of bits, as a slice. -/
abbrev sl (g n : Nat) : Value := .slice (some ⟨g, 0, none⟩) n n
section
variable {w0 w : World} {l : List (Nat × Nat)} {rs : List (Nat × Nat × Int)} {R : Ending → World → Prop} {p q n : Nat} {x y : Int}
theorem longE (d : EnvB w0 l rs w) (z : Int) (hz : Fit z) (n : Nat) (hn : n ≤ 4000) (k : ∀ g w', EnvB w0 l ((g, n, z) :: rs) w' → R (.returned (sl g n)) w') : Calls Try.prog 38 #[V z, .int .i64 n] w R :=
  (longZ z hz n hn w).mono fun _ w' ⟨g, _, he, hr, hb⟩ => he ▸ k g w' ((d.keep hb).row hr)
theorem plusE (d : EnvB w0 l rs w) (hn : n ≤ 4000) (hp : (p, n, x) ∈ rs) (hq : (q, n, y) ∈ rs) (k : ∀ g w', EnvB w0 l ((g, n, x + y) :: rs) w' → R (.returned (sl g n)) w') :
    Calls Try.prog 37 #[sl p n, sl q n] w R :=
  (plus_bits x y n p q 0 0 n n hn w (d.cells hp) (d.cells hq) (d.lt hp) (d.lt hq)).mono fun _ w' ⟨g, _, he, hr, hb⟩ => he ▸ k g w' ((d.keep hb).row hr)
theorem minusE (d : EnvB w0 l rs w) (hn : n ≤ 4000) (hp : (p, n, x) ∈ rs) (k : ∀ g w', EnvB w0 l ((g, n, -x) :: rs) w' → R (.returned (sl g n)) w') :
    Calls Try.prog 39 #[sl p n] w R :=
  (minus_bits x n p 0 n hn w (d.cells hp) (d.lt hp)).mono fun _ w' ⟨g, _, he, hr, hb⟩ => he ▸ k g w' ((d.keep hb).row hr)
/-- What is answered, and whether it fits. -/
def fitN (z : Int) : Nat := bif fit z then enc z else 0
theorem fitN_eq (z : Int) : fitN z = enc (if fit z then z else 0) := by unfold fitN; cases fit z <;> rfl
theorem ofE (d : EnvB w0 l rs w) (m : Nat) (hm : n = 512 + m) (hn : n ≤ 4000) (hp : (p, n, x) ∈ rs) (h1 : -((H : Int) * ((2 ^ m : Nat) : Int)) ≤ x) (h2 : x < (H : Int) * ((2 ^ m : Nat) : Int))
    (k : ∀ w', EnvB w0 l rs w' → R (.returned (.tuple #[.agg (cells8 (fitN x)), .bool (fit x)])) w') :
    Calls Try.prog 50 #[sl p n] w R :=
  (ofZ x m n p 0 n hm hn h1 h2 w (d.cells hp) (d.lt hp)).mono fun e w' ⟨he, hb⟩ => by rw [he]; have := k w' (d.keep hb); rw [fitN_eq] at this; exact this
end
theorem wide8 (H x : Int) (h1 : -(2 * H) ≤ x) (h2 : x ≤ 2 * H) (hH : 0 < H) : -(H * ((2 ^ 8 : Nat) : Int)) ≤ x ∧ x < H * ((2 ^ 8 : Nat) : Int) := by
  rw [show ((2 ^ 8 : Nat) : Int) = 256 from rfl]
  omega
theorem HI_pos : 0 < (H : Int) := by have := H_pos; omega

theorem Env.row {w0 w : World} {l : List (Nat × Nat)} {g : Nat} (d : Env w0 l w) (hg : w0.heap.size ≤ g) (hne : ∀ p ∈ l, p.1 ≠ g) (cs : Array Value) : Env w0 l (w.setRow g cs) :=
  ⟨fun p hp => (d.at_ p hp).rowOther cs (hne p hp), below_row d.o hg cs⟩
theorem Env.tail {w0 w : World} {p : Nat × Nat} {l : List (Nat × Nat)} (d : Env w0 (p :: l) w) : Env w0 l w := ⟨fun q hq => d.at_ q (List.mem_cons_of_mem _ hq), d.o⟩
section
variable {ops : Array Oper} {Q : Exit → Act → World → Prop} {S : World → Prop} {tn : Nat → Bool} {i : Nat} {r : List Nat} {a : Act} {w : World} {o : Oper}
/-- A number into its block. -/
theorem walk_store8 {old : Array Value} {n g : Nat} {t : TypeId} (ty : TypeId) (x y : Operand) (ho : ops[i]? = some o) (hw : Region.wanted o (yielded ops a.tmps) = true) (ht : tn i = true) (hg : Blk w g t old) (hold : old.size = 8) (hop : o.op = .store ty x y) (hx : a.eval x = .pointer (some ⟨g, 0, none⟩)) (hy : a.eval y = .agg (cells8 n))
    (hi : (Try.prog.info? ty).map (·.size) = some 8) (hS : S (w.setRow g (cells8 n))) (hr : Walk Try.prog ops S Q tn r (a.put o.dst undef) (w.setRow g (cells8 n))) : Walk Try.prog ops S Q tn (i :: r) a w :=
  ⟨o, ho, .inr (.inr ⟨hw, ht, by rw [exec_store8 ty x y hg hold hop hx hy hi]; exact ⟨hS, hr⟩⟩)⟩
end
theorem ne3a (s a b : Nat) : ∀ p ∈ [(s + 1, b), (s, a)], p.1 ≠ s + 1 + 1 := by
  intro p hp
  simp only [List.mem_cons, List.not_mem_nil, or_false] at hp
  rcases hp with rfl | rfl
  · show s + 1 ≠ _; omega
  · show s ≠ _; omega

set_option maxHeartbeats 1000000 in
theorem refAdd (x y : Int) (hx : Fit x) (hy : Fit y) (w : World) : Calls Try.prog 22 #[V x, V y] w fun e w' => e = .returned (.tuple #[.agg (cells8 (fitN (x + y))), .bool (fit (x + y))]) ∧ Below w.heap.size w w' := by
  have hxy := hide (wide8 H (x + y) (by have := hx.1; have := hy.1; omega) (by have := hx.2; have := hy.2; omega) HI_pos)
  have Hx := hide hx
  have Hy := hide hy
  clear hx hy
  unfold V
  go_enter Try.func22, Try.ntmps22
  go_upto_region 1 with fail
  have D := hide (EnvB.of (Env.three w (enc x) (enc y) 0))
  rw [cells8_0] at D
  refine region_walk (S := Env w [(w.heap.size + 1, enc y), (w.heap.size, enc x)]) (l := [0, 2, 1, 3, 4, 5, 6, 7, 8, 9]) (t := [1, 3, 4, 5, 8]) (by kernel_rfl) (by kernel_rfl) (by kernel_rfl) (by kernel_rfl) (by kernel_rfl) (by kernel_rfl) (by kernel_rfl) (by kernel_rfl) ?_ ?_
  · exact (unhide D).drew.e.tail
  refine walk_read rfl rfl rfl (fun u hS => exec_load8 (n := enc x) 25 (.tmp 2) (hS.blk (by repeat (first | exact List.mem_cons_self | apply List.mem_cons_of_mem))) rfl rfl Try.underlying25 rfl iWide) ?_
  refine walk_read rfl rfl rfl (fun u hS => exec_load8 (n := enc y) 25 (.tmp 3) (hS.blk (by repeat (first | exact List.mem_cons_self | apply List.mem_cons_of_mem))) rfl rfl Try.underlying25 rfl iWide) ?_
  go_simp
  refine walk_call (f := 38) (args := #[V x, .int .i64 520]) rfl rfl rfl (by go_simp) ?_
  refine longE (unhide D).drew x (unhide Hx) 520 (by decide) ?_
  intro g1 w1 D1
  refine ⟨_, rfl, D1.e.tail, ?_⟩
  go_simp
  refine walk_call (f := 38) (args := #[V y, .int .i64 520]) rfl rfl rfl (by go_simp) ?_
  refine longE D1 y (unhide Hy) 520 (by decide) ?_
  intro g2 w2 D2
  refine ⟨_, rfl, D2.e.tail, ?_⟩
  go_simp
  refine walk_call (f := 37) (args := #[sl g1 520, sl g2 520]) rfl rfl rfl (by go_simp) ?_
  apply plusE D2 (by decide) (x := x) (y := y) (by repeat (first | exact List.mem_cons_self | apply List.mem_cons_of_mem)) (by repeat (first | exact List.mem_cons_self | apply List.mem_cons_of_mem))
  intro g3 w3 D3
  refine ⟨_, rfl, D3.e.tail, ?_⟩
  go_simp
  refine walk_call (f := 50) (args := #[sl g3 520]) rfl rfl rfl (by go_simp) ?_
  apply ofE D3 8 rfl (by decide) (by repeat (first | exact List.mem_cons_self | apply List.mem_cons_of_mem)) (unhide hxy).1 (unhide hxy).2
  intro w4 D4
  refine ⟨_, rfl, D4.e.tail, ?_⟩
  go_simp
  refine walk_read (v := ?_) rfl rfl rfl (fun u hS => by go_simp; rfl) ?_
  refine walk_read (v := ?_) rfl rfl rfl (fun u hS => by go_simp; rfl) ?_
  go_simp
  refine walk_store8 (n := fitN (x + y)) 25 (.tmp 4) (.tmp 12) rfl rfl rfl (D4.e.blk List.mem_cons_self) rfl rfl rfl rfl iWide (D4.e.tail.row (by omega) (ne3a _ _ _) _) ?_
  refine walk_read (v := ?_) rfl rfl rfl (fun u hS => by go_simp; rfl) ?_
  go_simp
  refine walk_end ?_
  have B4 := hide D4.e.o
  have R4 := hide (D4.e.blk List.mem_cons_self)
  clear D D1 D2 D3 D4
  go_wp2
  exact res8s ((unhide R4).row _) rfl rfl rfl rfl Try.underlying25 rfl iWide ⟨rfl, below_row (unhide B4) (by omega) _⟩

set_option maxHeartbeats 1000000 in
theorem refSub' (x y : Int) (hx : Fit x) (hy : Fit y) (w : World) : Calls Try.prog 23 #[V x, V y] w fun e w' => e = .returned (.tuple #[.agg (cells8 (fitN (x + -y))), .bool (fit (x + -y))]) ∧ Below w.heap.size w w' := by
  have hxy := hide (wide8 H (x + -y) (by have := hx.1; have := hy.2; omega) (by have := hx.2; have := hy.1; omega) HI_pos)
  have Hx := hide hx
  have Hy := hide hy
  clear hx hy
  unfold V
  go_enter Try.func23, Try.ntmps23
  go_upto_region 1 with fail
  have D := hide (EnvB.of (Env.three w (enc x) (enc y) 0))
  rw [cells8_0] at D
  refine region_walk (S := Env w [(w.heap.size + 1, enc y), (w.heap.size, enc x)]) (l := [0, 2, 1, 3, 4, 5, 6, 7, 8, 9, 10]) (t := [1, 3, 4, 5, 6, 9]) (by kernel_rfl) (by kernel_rfl) (by kernel_rfl) (by kernel_rfl) (by kernel_rfl) (by kernel_rfl) (by kernel_rfl) (by kernel_rfl) ?_ ?_
  · exact (unhide D).drew.e.tail
  refine walk_read rfl rfl rfl (fun u hS => exec_load8 (n := enc x) 25 (.tmp 2) (hS.blk (by repeat (first | exact List.mem_cons_self | apply List.mem_cons_of_mem))) rfl rfl Try.underlying25 rfl iWide) ?_
  refine walk_read rfl rfl rfl (fun u hS => exec_load8 (n := enc y) 25 (.tmp 3) (hS.blk (by repeat (first | exact List.mem_cons_self | apply List.mem_cons_of_mem))) rfl rfl Try.underlying25 rfl iWide) ?_
  go_simp
  refine walk_call (f := 38) (args := #[V x, .int .i64 520]) rfl rfl rfl (by go_simp) ?_
  refine longE (unhide D).drew x (unhide Hx) 520 (by decide) ?_
  intro g1 w1 D1
  refine ⟨_, rfl, D1.e.tail, ?_⟩
  go_simp
  refine walk_call (f := 38) (args := #[V y, .int .i64 520]) rfl rfl rfl (by go_simp) ?_
  refine longE D1 y (unhide Hy) 520 (by decide) ?_
  intro g2 w2 D2
  refine ⟨_, rfl, D2.e.tail, ?_⟩
  go_simp
  refine walk_call (f := 39) (args := #[sl g2 520]) rfl rfl rfl (by go_simp) ?_
  apply minusE D2 (by decide) (x := y) (by repeat (first | exact List.mem_cons_self | apply List.mem_cons_of_mem))
  intro g3 w3 D3
  refine ⟨_, rfl, D3.e.tail, ?_⟩
  go_simp
  refine walk_call (f := 37) (args := #[sl g1 520, sl g3 520]) rfl rfl rfl (by go_simp) ?_
  apply plusE D3 (by decide) (x := x) (y := -y) (by repeat (first | exact List.mem_cons_self | apply List.mem_cons_of_mem)) (by repeat (first | exact List.mem_cons_self | apply List.mem_cons_of_mem))
  intro g4 w4 D4
  refine ⟨_, rfl, D4.e.tail, ?_⟩
  go_simp
  refine walk_call (f := 50) (args := #[sl g4 520]) rfl rfl rfl (by go_simp) ?_
  apply ofE D4 8 rfl (by decide) (by repeat (first | exact List.mem_cons_self | apply List.mem_cons_of_mem)) (unhide hxy).1 (unhide hxy).2
  intro w5 D5
  refine ⟨_, rfl, D5.e.tail, ?_⟩
  go_simp
  refine walk_read (v := ?_) rfl rfl rfl (fun u hS => by go_simp; rfl) ?_
  refine walk_read (v := ?_) rfl rfl rfl (fun u hS => by go_simp; rfl) ?_
  go_simp
  refine walk_store8 (n := fitN (x + -y)) 25 (.tmp 4) (.tmp 13) rfl rfl rfl (D5.e.blk List.mem_cons_self) rfl rfl rfl rfl iWide (D5.e.tail.row (by omega) (ne3a _ _ _) _) ?_
  refine walk_read (v := ?_) rfl rfl rfl (fun u hS => by go_simp; rfl) ?_
  go_simp
  refine walk_end ?_
  have B4 := hide D5.e.o
  have R4 := hide (D5.e.blk List.mem_cons_self)
  clear D D1 D2 D3 D4 D5
  go_wp2
  exact res8s ((unhide R4).row _) rfl rfl rfl rfl Try.underlying25 rfl iWide ⟨rfl, below_row (unhide B4) (by omega) _⟩

theorem refSub (x y : Int) (hx : Fit x) (hy : Fit y) (w : World) : Calls Try.prog 23 #[V x, V y] w fun e w' => e = .returned (.tuple #[.agg (cells8 (fitN (x - y))), .bool (fit (x - y))]) ∧ Below w.heap.size w w' := by
  have h := refSub' x y hx hy w
  rwa [← Int.sub_eq_add_neg] at h

end Go.Proofs.Ytfoojpfgeicolaa
