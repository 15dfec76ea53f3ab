/- The contract of times of package wide: the product, or the panic. -/
import Derived.Test.YtnemedgdhojhdaaGreatWf
import Derived.Test.YtnemedgdhojhdaaGreatWg
import Derived.Deep.Cut
namespace Go.Proofs.YtnemedgdhojhdaaGreat
open Go.RowKit
set_option maxRecDepth 4000

/-- n cells with the numbers F 0, F 1, .. -/
def rowF (F : Nat → Int) (n : Nat) : Array Value := ((List.range n).map fun i => Value.int .u64 (F i)).toArray
theorem rowF_size (F : Nat → Int) (n : Nat) : (rowF F n).size = n := by simp [rowF]
theorem rowF_get (F : Nat → Int) (n i : Nat) (h : i < n) : (rowF F n)[i]? = some (.int .u64 (F i)) := by
  simp [rowF, h]
theorem rowF_set (F : Nat → Int) (n i : Nat) (v : Int) (h : i < n) : (rowF F n).setIfInBounds i (.int .u64 v) = rowF (fun j => if j = i then v else F j) n := by
  apply Array.ext_getElem?
  intro j
  rw [Array.getElem?_setIfInBounds]
  by_cases hj : j < n
  · rw [rowF_get _ _ _ hj, rowF_get _ _ _ hj]
    by_cases e : i = j
    · subst e; simp [rowF_size, h]
    · simp [e, Ne.symm e]
  · rw [if_neg (by omega), Array.getElem?_eq_none (by rw [rowF_size]; omega), Array.getElem?_eq_none (by rw [rowF_size]; omega)]
theorem rowF_congr {F G : Nat → Int} {n : Nat} (h : ∀ i, i < n → F i = G i) : rowF F n = rowF G n := by
  unfold rowF
  congr 1
  apply List.map_congr_left
  intro i hi
  rw [h i (List.mem_range.1 hi)]

/-- The carry behind j limbs of T and m times y. -/
def mc (T m y j : Nat) : Nat := (T % 2 ^ (64 * j) + m * (y % 2 ^ (64 * j))) / 2 ^ (64 * j)
theorem mc_zero (T m y : Nat) : mc T m y 0 = 0 := by simp [mc, Nat.mod_one]
theorem mul_step (P a b x y m : Nat) (hP : 0 < P) : (a + P * x + m * (b + P * y)) / P = x + m * y + (a + m * b) / P := by
  rw [show a + P * x + m * (b + P * y) = (a + m * b) + P * (x + m * y) by rw [Nat.mul_add, Nat.mul_add, Nat.mul_left_comm m P y]; omega, Nat.add_mul_div_left _ _ hP]; omega
theorem mc_lt (T m y j : Nat) (hm : m < 18446744073709551616) : mc T m y j < 18446744073709551616 := by
  unfold mc
  have hP : 0 < 2 ^ (64 * j) := Nat.pow_pos (by decide)
  have h1 := Nat.mod_lt T hP
  have h2 := Nat.mod_lt y hP
  generalize 2 ^ (64 * j) = P at *
  rw [Nat.div_lt_iff_lt_mul hP]
  have h3 : m * (y % P) ≤ 18446744073709551615 * (P - 1) := Nat.mul_le_mul (by omega) (by omega)
  omega
theorem mc_step (T m y j : Nat) : ((y / 2 ^ (64 * j) % 18446744073709551616) * m + (T / 2 ^ (64 * j) % 18446744073709551616) + mc T m y j) / 18446744073709551616 = mc T m y (j + 1) := by
  unfold mc
  have hP : 0 < 2 ^ (64 * j) := Nat.pow_pos (by decide)
  rw [mod_step T j, mod_step y j, pow_step, ← Nat.div_div_eq_div_mul, mul_step _ _ _ _ _ _ hP]
  generalize y / 2 ^ (64 * j) % 18446744073709551616 = a
  generalize T / 2 ^ (64 * j) % 18446744073709551616 = b
  rw [Nat.mul_comm m a, Nat.add_comm (a * m)]
theorem mc_lm (T m y j : Nat) : ((y / 2 ^ (64 * j) % 18446744073709551616) * m + (T / 2 ^ (64 * j) % 18446744073709551616) + mc T m y j) % 18446744073709551616 = (T + m * y) / 2 ^ (64 * j) % 18446744073709551616 := by
  unfold mc
  have hP : 0 < 2 ^ (64 * j) := Nat.pow_pos (by decide)
  have e : (T + m * y) / 2 ^ (64 * j) = T / 2 ^ (64 * j) + m * (y / 2 ^ (64 * j)) + (T % 2 ^ (64 * j) + m * (y % 2 ^ (64 * j))) / 2 ^ (64 * j) := by
    have h1 := Nat.mod_add_div T (2 ^ (64 * j))
    have h2 := Nat.mod_add_div y (2 ^ (64 * j))
    rw [← mul_step _ _ _ _ _ _ hP, h1, h2]
  rw [e]
  generalize y / 2 ^ (64 * j) = a
  generalize T / 2 ^ (64 * j) = b
  generalize (T % 2 ^ (64 * j) + m * (y % 2 ^ (64 * j))) / 2 ^ (64 * j) = c
  rw [Nat.mul_comm m a]
  rw [Nat.add_mod, Nat.add_mod (_ * m), Nat.mod_mul_mod, Nat.mod_mod, ← Nat.add_mod (a * m), ← Nat.add_mod, Nat.add_comm (a * m)]

/-- x times y so far: the first k limbs of x. -/
def part (x y k : Nat) : Nat := x % 2 ^ (64 * k) * y
theorem part_succ (x y k : Nat) : part x y (k + 1) = part x y k + 2 ^ (64 * k) * ((x / 2 ^ (64 * k) % 18446744073709551616) * y) := by
  unfold part
  rw [mod_step, Nat.add_mul, Nat.mul_assoc]

/-- The limbs in round k, behind j steps. -/
def G (x y k j p : Nat) : Int := if p < k + j then lm (part x y (k + 1)) p else lm (part x y k) p

/-- What times knows. -/
structure Tms (w0 : World) (g x y : Nat) (F : Nat → Int) (w : World) : Prop where
  x : Blk w g 157 (cells8 x)
  y : Blk w (g + 1) 157 (cells8 y)
  r : Blk w (g + 1 + 1) 157 (cells8 0)
  a : Blk w (g + 1 + 1 + 1) 176 (rowF F 16)
  o : Below g w0 w
theorem Tms.keep {w0 w w' : World} {g x y : Nat} {F : Nat → Int} (h : Tms w0 g x y F w) (hb : Below w.heap.size w w') : Tms w0 g x y F w' :=
  ⟨h.x.below hb h.x.lt, h.y.below hb h.y.lt, h.r.below hb h.r.lt, h.a.below hb h.a.lt, h.o.trans (hb.mono (Nat.le_of_lt h.x.lt))⟩
theorem Tms.start (w : World) (x y : Nat) : Tms w w.heap.size x y (fun _ => 0) ((((w.alloc (.cells (cells8 x) 157)).alloc (.cells (cells8 y) 157)).alloc
    (.cells #[.int .u64 0, .int .u64 0, .int .u64 0, .int .u64 0, .int .u64 0, .int .u64 0, .int .u64 0, .int .u64 0] 157)).alloc
    (.cells #[.int .u64 0, .int .u64 0, .int .u64 0, .int .u64 0, .int .u64 0, .int .u64 0, .int .u64 0, .int .u64 0, .int .u64 0, .int .u64 0, .int .u64 0, .int .u64 0, .int .u64 0, .int .u64 0, .int .u64 0, .int .u64 0] 176)) :=
  ⟨(Blk.first3 _ _ _ _ _).alloc _, (Blk.second3 _ _ _ _ _).alloc _, cells8_0 ▸ (Blk.third3 _ _ _ _ _).alloc _, Blk.at (by simp) rfl, (below3 _ _ _ _).alloc (by simp; omega) _⟩

/-- The limb as a natural number. -/
def lmN (n i : Nat) : Nat := n / 2 ^ (64 * i) % 18446744073709551616
theorem lmN_lt (n i : Nat) : lmN n i < 18446744073709551616 := Nat.mod_lt _ (by decide)
theorem lm_lmN (n i : Nat) : lm n i = (lmN n i : Int) := rfl

/-- What the inner loop knows. -/
structure Inn (w0 : World) (g c x y k j : Nat) (w : World) : Prop where
  t : Tms w0 g x y (G x y k j) w
  mb : Blk w c 72 #[.int .u64 (lmN x k : Int)]
  cb : Blk w (c + 1) 72 #[.int .u64 (mc (part x y k / 2 ^ (64 * k)) (lmN x k) y j : Int)]
  gc : g + 1 + 1 + 1 < c

theorem part_div (x y k p : Nat) : lmN (part x y k) (k + p) = lmN (part x y k / 2 ^ (64 * k)) p := by
  unfold lmN
  rw [Nat.div_div_eq_div_mul, ← Nat.pow_add, Nat.mul_add]
theorem part_next_div (x y k : Nat) : part x y (k + 1) / 2 ^ (64 * k) = part x y k / 2 ^ (64 * k) + lmN x k * y := by
  rw [part_succ, Nat.add_mul_div_left _ _ (Nat.pow_pos (by decide))]; rfl

/-- Limbs below k are not touched by round k. -/
theorem part_low (x y k p : Nat) (hp : p < k) : lmN (part x y (k + 1)) p = lmN (part x y k) p := by
  rw [part_succ]
  unfold lmN
  rw [show 64 * k = 64 * p + (64 + 64 * (k - p - 1)) by omega, Nat.pow_add, Nat.pow_add, Nat.mul_assoc, Nat.add_mul_div_left _ _ (Nat.pow_pos (by decide)), Nat.mul_assoc, show (2 : Nat) ^ 64 = 18446744073709551616 by decide, Nat.add_mul_mod_self_left]

theorem Inn.next {w0 w : World} {g c x y k j : Nat} (h : Inn w0 g c x y k j w) (hkj : k + j < 16) (v u : Nat)
    (hv : v = (lmN y j * lmN x k + lmN (part x y k) (k + j) + mc (part x y k / 2 ^ (64 * k)) (lmN x k) y j) % 18446744073709551616)
    (hu : u = (lmN y j * lmN x k + lmN (part x y k) (k + j) + mc (part x y k / 2 ^ (64 * k)) (lmN x k) y j) / 18446744073709551616) :
    Inn w0 g c x y k (j + 1) ((w.setCell ⟨c + 1, 0, none⟩ (.int .u64 (u : Int))).setCell ⟨g + 1 + 1 + 1, k + j, none⟩ (.int .u64 (v : Int))).drew := by
  have hgc := h.gc
  have hv' : v = lmN (part x y (k + 1)) (k + j) := by
    rw [hv, part_div]
    unfold lmN
    rw [mc_lm]
    rw [show (part x y k / 2 ^ (64 * k) + x / 2 ^ (64 * k) % 18446744073709551616 * y) = part x y (k + 1) / 2 ^ (64 * k) from (part_next_div x y k).symm, Nat.div_div_eq_div_mul, ← Nat.pow_add, Nat.mul_add]
  have hu' : u = mc (part x y k / 2 ^ (64 * k)) (lmN x k) y (j + 1) := by
    rw [hu, part_div]
    exact mc_step _ _ _ _
  refine ⟨⟨?_, ?_, ?_, ?_, ?_⟩, ?_, ?_, hgc⟩
  · exact ((h.t.x.other _ _ (by show g ≠ c + 1; omega)).other _ _ (by show g ≠ g + 1 + 1 + 1; omega)).drew
  · exact ((h.t.y.other _ _ (by show g + 1 ≠ c + 1; omega)).other _ _ (by show g + 1 ≠ g + 1 + 1 + 1; omega)).drew
  · exact ((h.t.r.other _ _ (by show g + 1 + 1 ≠ c + 1; omega)).other _ _ (by show g + 1 + 1 ≠ g + 1 + 1 + 1; omega)).drew
  · have h1 := ((h.t.a.other ⟨c + 1, 0, none⟩ (.int .u64 (u : Int)) (by show g + 1 + 1 + 1 ≠ c + 1; omega)).set (k + j) (.int .u64 (v : Int))).drew
    rw [rowF_set _ _ _ _ hkj] at h1
    rw [rowF_congr (G := fun p => if p = k + j then (v : Int) else G x y k j p)]
    · exact h1
    intro p _
    unfold G
    by_cases e : p = k + j
    · subst e
      rw [if_pos (by omega), if_pos rfl, hv']; rfl
    · rw [if_neg e]
      by_cases h2 : p < k + j
      · rw [if_pos (by omega), if_pos h2]
      · rw [if_neg (by omega), if_neg h2]
  · exact ((h.t.o.setCell (by show g ≤ c + 1; omega) _).setCell (by show g ≤ g + 1 + 1 + 1; omega) _).drew
  · exact ((h.mb.other _ _ (by show c ≠ c + 1; omega)).other _ _ (by show c ≠ g + 1 + 1 + 1; omega)).drew
  · rw [← hu']
    exact ((h.cb.set 0 _).other _ _ (by show c + 1 ≠ g + 1 + 1 + 1; omega)).drew

theorem multiplier1_zero (m c : Nat) (p q : Addr) (w : World) (hm : m < 18446744073709551616) (hc : c < 18446744073709551616)
    (hp : w.cell? p = some (.int .u64 (m : Int))) (hq : w.cell? q = some (.int .u64 (c : Int))) (hz : w.frozen? q = false) :
    Calls Tryz.prog 188 #[.int .u64 0, .int .u64 0, .pointer (some p), .pointer (some q)] w fun e w' =>
      e = .returned (.int .u64 (c : Int)) ∧ w' = w.setCell q (.int .u64 0) := by
  have h := multiplier1_any 0 0 m c p q w (by decide) (by decide) hm hc hp hq hz
  rw [show 0 * m + 0 + c = c by omega, Nat.mod_eq_of_lt hc, Nat.div_eq_of_lt hc] at h
  exact h

theorem Inn.finish {w0 w : World} {g c x y k n : Nat} (h : Inn w0 g c x y k n w) (hkn : k + n < 16) (hy : y < 2 ^ (64 * n)) :
    Tms w0 g x y (lm (part x y (k + 1))) ((w.setCell ⟨c + 1, 0, none⟩ (.int .u64 0)).setCell ⟨g + 1 + 1 + 1, k + n, none⟩ (.int .u64 (mc (part x y k / 2 ^ (64 * k)) (lmN x k) y n : Int))) := by
  have hgc := h.gc
  have hP : 0 < 2 ^ (64 * k) := Nat.pow_pos (by decide)
  have hN : 0 < 2 ^ (64 * n) := Nat.pow_pos (by decide)
  have hT : part x y k / 2 ^ (64 * k) < 2 ^ (64 * n) := by
    rw [Nat.div_lt_iff_lt_mul hP]
    unfold part
    have h1 := Nat.mod_lt x hP
    calc x % 2 ^ (64 * k) * y ≤ x % 2 ^ (64 * k) * 2 ^ (64 * n) := Nat.mul_le_mul_left _ (by omega)
      _ < 2 ^ (64 * n) * 2 ^ (64 * k) := by rw [Nat.mul_comm]; exact Nat.mul_lt_mul_of_pos_left h1 hN
  have hU := part_next_div x y k
  have hb : part x y (k + 1) / 2 ^ (64 * k) < 2 ^ (64 * n) * 18446744073709551616 := by
    rw [hU]
    have h1 := lmN_lt x k
    have h2 : lmN x k * y ≤ 18446744073709551615 * (2 ^ (64 * n) - 1) := Nat.mul_le_mul (by omega) (by omega)
    generalize 2 ^ (64 * n) = N at *
    omega
  have hmc : mc (part x y k / 2 ^ (64 * k)) (lmN x k) y n = lmN (part x y (k + 1)) (k + n) := by
    unfold mc
    rw [Nat.mod_eq_of_lt hT, Nat.mod_eq_of_lt hy, ← hU]
    unfold lmN
    rw [Nat.mul_add, Nat.pow_add, ← Nat.div_div_eq_div_mul, Nat.mod_eq_of_lt (by rw [Nat.div_lt_iff_lt_mul hN, Nat.mul_comm 18446744073709551616]; exact hb)]
  have hz : ∀ z p, k + n < p → z / 2 ^ (64 * k) < 2 ^ (64 * n) * 18446744073709551616 → lmN z p = 0 := by
    intro z p hp hz
    unfold lmN
    rw [show 64 * p = 64 * k + (64 * (p - k)) by omega, Nat.pow_add, ← Nat.div_div_eq_div_mul, Nat.div_eq_of_lt]
    refine Nat.lt_of_lt_of_le hz ?_
    rw [show (18446744073709551616 : Nat) = 2 ^ 64 by decide, ← Nat.pow_add]
    exact Nat.pow_le_pow_right (by decide) (by omega)
  refine ⟨?_, ?_, ?_, ?_, ?_⟩
  · exact (h.t.x.other _ _ (by show g ≠ c + 1; omega)).other _ _ (by show g ≠ g + 1 + 1 + 1; omega)
  · exact (h.t.y.other _ _ (by show g + 1 ≠ c + 1; omega)).other _ _ (by show g + 1 ≠ g + 1 + 1 + 1; omega)
  · exact (h.t.r.other _ _ (by show g + 1 + 1 ≠ c + 1; omega)).other _ _ (by show g + 1 + 1 ≠ g + 1 + 1 + 1; omega)
  · have h1 := (h.t.a.other ⟨c + 1, 0, none⟩ (.int .u64 0) (by show g + 1 + 1 + 1 ≠ c + 1; omega)).set (k + n) (.int .u64 (mc (part x y k / 2 ^ (64 * k)) (lmN x k) y n : Int))
    rw [rowF_set _ _ _ _ hkn] at h1
    rw [rowF_congr (G := fun p => if p = k + n then (mc (part x y k / 2 ^ (64 * k)) (lmN x k) y n : Int) else G x y k n p)]
    · exact h1
    intro p _
    by_cases e : p = k + n
    · subst e
      rw [if_pos rfl, hmc]; rfl
    · rw [if_neg e]
      unfold G
      by_cases h2 : p < k + n
      · rw [if_pos h2]
      · rw [if_neg h2, lm_lmN, lm_lmN, hz _ p (by omega) hb, hz _ p (by omega) (Nat.lt_of_lt_of_le hT (by omega))]
  · exact (h.t.o.setCell (by show g ≤ c + 1; omega) _).setCell (by show g ≤ g + 1 + 1 + 1; omega) _

theorem Inn.start {w0 wr : World} {g x y k : Nat} (h : Tms w0 g x y (lm (part x y k)) wr) :
    Inn w0 g wr.heap.size x y k 0 ((wr.alloc (.cells #[.int .u64 (lmN x k : Int)] 72)).alloc (.cells #[.int .u64 0] 72)) := by
  have hl := h.a.lt
  have hx := h.x.lt
  refine ⟨⟨(h.x.alloc _).alloc _, (h.y.alloc _).alloc _, (h.r.alloc _).alloc _, ?_, (h.o.alloc (by omega) _).alloc (by simp; omega) _⟩, Blk.first2 _ _ _ _, ?_, hl⟩
  · rw [rowF_congr (G := lm (part x y k))]
    · exact (h.a.alloc _).alloc _
    · intro p _
      unfold G
      by_cases hp : p < k + 0
      · rw [if_pos hp, lm_lmN, lm_lmN, part_low x y k p (by omega)]
      · rw [if_neg hp]
  · rw [mc_zero]
    exact Blk.at (by simp) rfl

theorem exec_neq_limbs_is {o : Oper} {a : Act} (w : World) (x y : Operand) {n m : Nat} {ty' : TypeId} {b : Bool} (hb : same n m = b) (ho : o.op = .binOp .neq 157 x y ty') (hx : a.eval x = .agg (cells8 n)) (hy : a.eval y = .agg (cells8 m)) :
    (execOp a.eval o).run Tryz.prog w = .ok (.value (.bool (!b))) w := by
  subst hb
  exact exec_neq_limbs w x y ho hx hy

/-- The last operation is a copy of eight limbs over a whole number. -/
theorem wp_copy8 {o : Oper} {a : Act} {w : World} {K : Act → World → Prop} {Q : Exit → Act → World → Prop} {g gs off dCap sCap old n : Nat} {t : TypeId} (d s : Operand)
    (ho : o.op = .call { callee := .builtin .copy, args := #[d, s], argTypes := #[179, 179] }) (hd : a.eval d = .slice (some ⟨g, 0, none⟩) 8 dCap) (hs : a.eval s = .slice (some ⟨gs, off, none⟩) 8 sCap)
    (hdst : Blk w g t (cells8 old)) (hsrc : ∀ j, j < 8 → w.cell? ⟨gs, off + j, none⟩ = some (.int .u64 (lm n j)))
    (h : K (a.put o.dst (goInt 8)) (w.setRow g (cells8 n))) : o.wp Tryz.prog a w K Q := by
  have hrun := run_copy_row (P := Tryz.prog) w 179 179 o.type 72 g 0 8 dCap ⟨gs, off, none⟩ 8 sCap (cells8 old) t (cells8 n).toList Tryz.underlying179 (by kernel_rfl) hdst rfl
    (fun j v hv => by
      have hj : j < 8 := by
        have := (List.getElem?_eq_some_iff.1 hv).1
        exact this
      have hadd : (⟨gs, off, none⟩ : Addr).add j = ⟨gs, off + j, none⟩ := by unfold Addr.add; split <;> simp_all
      rw [hadd, hsrc j hj]
      have h2 := cells8_get n j hj
      rw [← Array.getElem?_toList] at h2
      rw [← hv, h2]) (Nat.le_refl _) (fun v hv => (Array.all_eq_true_iff_forall_mem.1 (cells8_one n)) v (by simpa using hv))
  have he : ((cells8 old).toList.take 0 ++ (cells8 n).toList ++ (cells8 old).toList.drop (0 + (cells8 n).toList.length)).toArray = cells8 n := rfl
  rw [he] at hrun
  unfold Oper.wp
  simp [execOp, ho, resolve, invoke, builtin, hd, hs, hrun, Result.andThen]
  exact h

/-- What the copies know. -/
structure Cp (w0 : World) (g c x y A L H : Nat) (w : World) : Prop where
  t : Tms w0 g x y (lm A) w
  l : Blk w c 157 (cells8 L)
  h : Blk w (c + 1) 157 (cells8 H)
  gc : g + 1 + 1 + 1 < c
theorem Cp.start {w0 w : World} {g x y A : Nat} (h : Tms w0 g x y (lm A) w) : Cp w0 g w.heap.size x y A 0 0 ((w.alloc
    (.cells #[.int .u64 0, .int .u64 0, .int .u64 0, .int .u64 0, .int .u64 0, .int .u64 0, .int .u64 0, .int .u64 0] 157)).alloc (.cells #[.int .u64 0, .int .u64 0, .int .u64 0, .int .u64 0, .int .u64 0, .int .u64 0, .int .u64 0, .int .u64 0] 157)) := by
  have hx := h.x.lt
  exact ⟨⟨(h.x.alloc _).alloc _, (h.y.alloc _).alloc _, (h.r.alloc _).alloc _, (h.a.alloc _).alloc _, (h.o.alloc (by omega) _).alloc (by simp; omega) _⟩, cells8_0 ▸ Blk.first2 _ _ _ _, cells8_0 ▸ Blk.second2 _ _ _ _, h.a.lt⟩
theorem Cp.drew {w0 w : World} {g c x y A L H : Nat} (h : Cp w0 g c x y A L H w) : Cp w0 g c x y A L H w.drew :=
  ⟨⟨h.t.x, h.t.y, h.t.r, h.t.a, h.t.o.drew⟩, h.l, h.h, h.gc⟩
theorem Cp.low {w0 w : World} {g c x y A L H : Nat} (h : Cp w0 g c x y A L H w) (n : Nat) : Cp w0 g c x y A n H (w.setRow c (cells8 n)) := by
  have := h.gc
  exact ⟨⟨h.t.x.rowOther _ (by omega), h.t.y.rowOther _ (by omega), h.t.r.rowOther _ (by omega), h.t.a.rowOther _ (by omega), below_row h.t.o (by omega) _⟩, h.l.row _, h.h.rowOther _ (by omega), h.gc⟩
theorem Cp.high {w0 w : World} {g c x y A L H : Nat} (h : Cp w0 g c x y A L H w) (n : Nat) : Cp w0 g c x y A L n (w.setRow (c + 1) (cells8 n)) := by
  have := h.gc
  exact ⟨⟨h.t.x.rowOther _ (by omega), h.t.y.rowOther _ (by omega), h.t.r.rowOther _ (by omega), h.t.a.rowOther _ (by omega), below_row h.t.o (by omega) _⟩, h.l.rowOther _ (by omega), h.h.row _, h.gc⟩
theorem lm_M (A j : Nat) : lm (A / M) j = lm A (8 + j) := by
  unfold lm
  obtain ⟨P, hP⟩ : ∃ P, P = 64 * 8 := ⟨_, rfl⟩
  rw [M_pow8, Nat.mul_add, ← hP, Nat.div_div_eq_div_mul, ← Nat.pow_add]

set_option maxHeartbeats 2000000 in
theorem times_core (x y m n : Nat) (w : World) (hm : usedTo x 8 = m) (hn : usedTo y 8 = n) (HY : Hid (y < 2 ^ (64 * n))) :
    Calls Tryz.prog 158 #[W x, W y] w fun e w' => Ends (!same (part x y m / M) 0) (part x y m) e ∧ Below w.heap.size w w' := by
  have hm8 : m ≤ 8 := hm ▸ usedTo_le x 8
  have hn8 : n ≤ 8 := hn ▸ usedTo_le y 8
  go_enter Tryz.func158, Tryz.ntmps158
  go_wp2
  refine region_plan (S := Tms w w.heap.size x y (fun _ => 0)) (l := [0, 1, 2, 3, 4, 5]) (by kernel_rfl) (by kernel_rfl) (by kernel_rfl) (by kernel_rfl) (by kernel_rfl) (by kernel_rfl) (by kernel_rfl) ?_ ?_
  · have := Tms.start w x y
    exact ⟨this.x, this.y, this.r, this.a, this.o.drew⟩
  refine plan_read rfl rfl (fun u hS => exec_load8 157 (.tmp 2) hS.x rfl rfl Tryz.underlying157 rfl iLimbs) ?_
  refine plan_call (v := .int .i64 (m : Int)) (f := 176) (args := #[W x]) rfl rfl (fun u hS => by go_simp) (fun u hS => (used_any x u).mono fun _ _ ⟨he, hb⟩ => ⟨by rw [he, hm], hS.keep hb⟩) ?_
  refine plan_read rfl rfl (fun u hS => exec_load8 157 (.tmp 3) hS.y rfl rfl Tryz.underlying157 rfl iLimbs) ?_
  refine plan_call (v := .int .i64 (n : Int)) (f := 176) (args := #[W y]) rfl rfl (fun u hS => by go_simp) (fun u hS => (used_any y u).mono fun _ _ ⟨he, hb⟩ => ⟨by rw [he, hn], hS.keep hb⟩) ?_
  refine plan_read (v := ?_) rfl rfl (fun u hS => by go_simp; rfl) ?_
  refine plan_read (v := ?_) rfl rfl (fun u hS => by go_simp; rfl) ?_
  refine plan_end (fun u hS => ?_)
  have HS := hide hS
  have HM := hide hm
  have HN := hide hn
  clear hS hm hn
  go_simp
  go_wp2
  go_loopw [18] (fun i wr => ∃ k : Nat, k ≤ m ∧ i = .int .i64 k ∧ Tms w w.heap.size x y (lm (part x y k)) wr) (fun i _ => m - (intOf i).toNat)
  case atStart =>
    refine ⟨0, by omega, rfl, (unhide HS).x, (unhide HS).y, (unhide HS).r, ?_, (unhide HS).o⟩
    rw [rowF_congr (G := fun _ => 0)]
    · exact (unhide HS).a
    · intro p _; simp [part, Nat.mod_one, lm]
  case round =>
    obtain ⟨k, hk, rfl, R⟩ := hrel
    clear HS
    have HR := hide R
    clear R
    by_cases hlt : k < m
    · have hki : (k : Int) < (m : Int) := by omega
      have hk8 : (k : Int) < 8 := by omega
      have hx : wr.cell? ⟨w.heap.size, k, none⟩ = some (.int .u64 (lmN x k : Int)) := by rw [(unhide HR).x.cell k, cells8_get x k (by omega)]; rfl
      go_wp2_with (first | (go_at_call 177; refine (multiplier_any _ _).mono ?_; rintro e w' ⟨he, hw⟩; subst he; subst hw))
      generalize hc : wr.heap.size = c
      have HC := hide hc
      clear hc
      go_loopw [26] (fun jv wi => ∃ j : Nat, j ≤ n ∧ jv = .int .i64 j ∧ Inn w w.heap.size c x y k j wi) (fun jv _ => n - (intOf jv).toNat)
      case atStart => exact ⟨0, by omega, rfl, unhide HC ▸ Inn.start (unhide HR)⟩
      case round =>
        obtain ⟨j, hj, rfl, I⟩ := hrel
        have HI := hide I
        clear I
        by_cases hjn : j < n
        · have hji : (j : Int) < (n : Int) := by omega
          have hj8 : (j : Int) < 8 := by omega
          have hy : wr.cell? ⟨w.heap.size + 1, j, none⟩ = some (.int .u64 (lmN y j : Int)) := by rw [(unhide HI).t.y.cell j, cells8_get y j (by omega)]; rfl
          have ha : wr.cell? ⟨w.heap.size + 1 + 1 + 1, k + j, none⟩ = some (.int .u64 (lmN (part x y k) (k + j) : Int)) := by
            rw [(unhide HI).t.a.cell (k + j), rowF_get _ _ _ (by omega)]
            simp [G, lm_lmN]
          have hf := (unhide HI).t.a.frozen (k + j)
          have hw1 : IntKind.i64.wrap ((k : Int) + (j : Int)) = (k : Int) + (j : Int) := by rw [IntKind.wrap_i64]; omega
          have hT : ((k : Int) + (j : Int)).toNat = k + j := by omega
          have hkj : (k : Int) + (j : Int) < 16 := by omega
          have hm0 := (unhide HI).mb.cell 0
          have hc0 := (unhide HI).cb.cell 0
          have hcf := (unhide HI).cb.frozen 0
          have hm1 : wr.cell? ⟨c, 0, none⟩ = some (.int .u64 (lmN x k : Int)) := hm0
          have hc1 : wr.cell? ⟨c + 1, 0, none⟩ = some (.int .u64 (mc (part x y k / 2 ^ (64 * k)) (lmN x k) y j : Int)) := hc0
          have hst : ∀ v, (wr.setCell ⟨c + 1, 0, none⟩ v).cell? ⟨w.heap.size + 1 + 1 + 1, k + j, none⟩ = some (.int .u64 (lmN (part x y k) (k + j) : Int)) := fun v => by
            rw [((unhide HI).t.a.other ⟨c + 1, 0, none⟩ v (by have := (unhide HI).gc; show w.heap.size + 1 + 1 + 1 ≠ c + 1; omega)).cell (k + j), rowF_get _ _ _ (by omega)]
            simp [G, lm_lmN]
          clear hm0 hc0
          go_wp2
          go_region_with (go_at_call 188; refine (multiplier1_any (lmN y j) (lmN (part x y k) (k + j)) (lmN x k) (mc (part x y k / 2 ^ (64 * k)) (lmN x k) y j) _ _ _ (lmN_lt _ _) (lmN_lt _ _) (lmN_lt _ _) (mc_lt _ _ _ _ (lmN_lt _ _)) ?_ ?_ ?_).mono ?_; exact hm1; exact hc1; exact hcf; rintro e w' ⟨he, hw⟩; subst he; subst hw)
          all_goals
            go_wp2
            go_roundw
            case rel => exact ⟨j + 1, by omega, by go_num, (unhide HI).next (by omega) _ _ rfl rfl⟩
            case measure => simp [intOf]; omega
        · have ej : j = n := by omega
          subst ej
          have hm1 : wr.cell? ⟨c, 0, none⟩ = some (.int .u64 (lmN x k : Int)) := (unhide HI).mb.cell 0
          have hc1 : wr.cell? ⟨c + 1, 0, none⟩ = some (.int .u64 (mc (part x y k / 2 ^ (64 * k)) (lmN x k) y j : Int)) := (unhide HI).cb.cell 0
          have hcf := (unhide HI).cb.frozen 0
          have hst : ∀ v, (wr.setCell ⟨c + 1, 0, none⟩ v).cell? ⟨w.heap.size + 1 + 1 + 1, k + j, none⟩ = some (.int .u64 (G x y k j (k + j))) := fun v => by
            rw [((unhide HI).t.a.other ⟨c + 1, 0, none⟩ v (by have := (unhide HI).gc; show w.heap.size + 1 + 1 + 1 ≠ c + 1; omega)).cell (k + j), rowF_get _ _ _ (by omega)]
          have hf := (unhide HI).t.a.frozen (k + j)
          have hw1 : IntKind.i64.wrap ((k : Int) + (j : Int)) = (k : Int) + (j : Int) := by rw [IntKind.wrap_i64]; omega
          have hT : ((k : Int) + (j : Int)).toNat = k + j := by omega
          have hkj : (k : Int) + (j : Int) < 16 := by omega
          go_wp2_with (go_at_call 188; refine (multiplier1_zero (lmN x k) (mc (part x y k / 2 ^ (64 * k)) (lmN x k) y j) ⟨c, 0, none⟩ ⟨c + 1, 0, none⟩ _ (lmN_lt _ _) (mc_lt _ _ _ _ (lmN_lt _ _)) ?_ ?_ ?_).mono ?_; exact hm1; exact hc1; exact hcf; rintro e w' ⟨he, hw⟩; subst he; subst hw)
          go_roundw
          case rel => exact ⟨k + 1, by omega, by go_num, (unhide HI).finish (by omega) (unhide HY)⟩
          case measure => simp [intOf]; omega
    · have ek : k = m := by omega
      subst ek
      go_wp2_with fail
      have HP := hide (Cp.start (unhide HR))
      clear HR
      generalize wr.heap.size = c at HP ⊢
      refine region_last (S := Cp w w.heap.size c x y (part x y k) 0 0) (f := 2) (l := [0, 1]) (by kernel_rfl) (by kernel_rfl) (by kernel_rfl) (by kernel_rfl) (by kernel_rfl) (by kernel_rfl) (by kernel_rfl) (by kernel_rfl) (by kernel_rfl) (by kernel_rfl) rfl rfl ?_ ?_
      · exact (unhide HP).drew
      refine plan_read (v := ?_) rfl rfl (fun u hS => by go_simp; rfl) ?_
      refine plan_read (v := ?_) rfl rfl (fun u hS => by go_simp; rfl) ?_
      go_simp
      refine plan_last (fun u hS => ?_)
      refine wp_copy8 (n := part x y k) (.tmp 51) (.tmp 52) rfl rfl rfl hS.l (fun j hj => by rw [hS.t.a.cell, rowF_get _ _ _ (by omega)]; congr 3; omega) ?_
      have H1 := hide (hS.low (part x y k))
      clear hS
      go_simp
      go_wp2_with fail
      refine region_last (S := Cp w w.heap.size c x y (part x y k) (part x y k) 0) (f := 2) (l := [0, 1]) (by kernel_rfl) (by kernel_rfl) (by kernel_rfl) (by kernel_rfl) (by kernel_rfl) (by kernel_rfl) (by kernel_rfl) (by kernel_rfl) (by kernel_rfl) (by kernel_rfl) rfl rfl ?_ ?_
      · exact (unhide H1).drew
      refine plan_read (v := ?_) rfl rfl (fun u hS => by go_simp; rfl) ?_
      refine plan_read (v := ?_) rfl rfl (fun u hS => by go_simp; rfl) ?_
      go_simp
      refine plan_last (fun u hS => ?_)
      refine wp_copy8 (n := part x y k / M) (.tmp 54) (.tmp 55) rfl rfl rfl hS.h (fun j hj => by rw [hS.t.a.cell, rowF_get _ _ _ (by omega)]; rw [lm_M]) ?_
      have H2 := hide (hS.high (part x y k / M))
      clear hS
      go_simp
      cases hz : same (part x y k / M) 0
      · have HZ := hide hz
        clear hz
        go_wp2_with (first
          | refine ld8 157 (.tmp 12) (unhide H2).h rfl rfl rfl Tryz.underlying157 rfl iLimbs ?_
          | refine bd0 157 rfl rfl bLimbs0 ?_
          | refine wpList_value rfl (exec_neq_limbs_is (n := part x y k / M) (m := 0) _ (.tmp 57) (.tmp 58) (unhide HZ) rfl rfl rfl) ?_)
        exact ⟨rfl, by simp [Ends, unhide HZ, noAnswer], (unhide H2).t.o⟩
      · have HZ := hide hz
        clear hz
        go_wp2_with (first
          | refine ld8 157 (.tmp 12) (unhide H2).h rfl rfl rfl Tryz.underlying157 rfl iLimbs ?_
          | refine bd0 157 rfl rfl bLimbs0 ?_
          | refine wpList_value rfl (exec_neq_limbs_is (n := part x y k / M) (m := 0) _ (.tmp 57) (.tmp 58) (unhide HZ) rfl rfl rfl) ?_
          | refine ld8 157 (.tmp 11) (unhide H2).l rfl rfl rfl Tryz.underlying157 rfl iLimbs ?_
          | refine st8 (n := part x y k) 157 (.tmp 4) (.tmp 61) (unhide H2).t.r rfl rfl rfl rfl rfl iLimbs ?_)
        exact res8 ((unhide H2).t.r.row _) rfl rfl rfl Tryz.underlying157 rfl iLimbs ⟨by simp [Ends, unhide HZ], below_row (unhide H2).t.o (by omega) _⟩

end Go.Proofs.YtnemedgdhojhdaaGreat
