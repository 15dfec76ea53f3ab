/- A number of 512 bits as an argument: what its reading says of it. A vector as an argument: what its reading says of it. A point as an argument: what its reading says of it. A span as an argument: what its reading says of it. The closed facts of a row, each for itself: what the kernel holds is freed at a declaration's end; those of the program alone, once for all rows. -/
import Derived.Test.YtnemedgdhojhdaaGreatZn
import Derived.Test.YtnemedgdhojhdaaGreatRows
import Derived.ProofKit
import Derived.OpenShut
import Derived.Test.YtnemedgdhojhdaaGreatVa
import Derived.Deep.Strs
import Derived.Test.YtnemedgdhojhdaaGreatAg
namespace Go.Proofs.YtnemedgdhojhdaaGreat
open Go.ChangeShapes Go.WideShapes Go.ChangeAt Go.RowKit
set_option maxRecDepth 4000

theorem Tryz.cells_Wide : Tryz.prog.cellsOf 75 = 8 := by kernel_rfl
theorem Tryz.cells_arr8 : Tryz.prog.cellsOf 73 = 8 := by kernel_rfl
theorem Tryz.cells_u64 : Tryz.prog.cellsOf 72 = 1 := by kernel_rfl

/-- A number by its limbs. -/
def ofLimbs : List Nat → Nat
  | [] => 0
  | z :: r => z + 18446744073709551616 * ofLimbs r
theorem lm_ofLimbs : ∀ (l : List Nat) (i : Nat), (∀ z ∈ l, z < 18446744073709551616) → lm (ofLimbs l) i = (l.getD i 0 : Nat)
  | [], i, _ => by simp [ofLimbs, lm]
  | z :: r, 0, h => by
    have hz := h z (by simp)
    simp only [ofLimbs, lm, Nat.mul_zero, Nat.pow_zero, Nat.div_one, List.getD_cons_zero]
    omega
  | z :: r, i + 1, h => by
    have hz := h z (by simp)
    have ih := lm_ofLimbs r i fun y hy => h y (by simp [hy])
    rw [List.getD_cons_succ, ← ih]
    unfold lm
    rw [ofLimbs, show 64 * (i + 1) = 64 + 64 * i by omega, Nat.pow_add, ← Nat.div_div_eq_div_mul, show (2 : Nat) ^ 64 = 18446744073709551616 from rfl, Nat.add_mul_div_left _ _ (by decide), Nat.div_eq_of_lt hz, Nat.zero_add]

section
variable {H : Type} {enc' : TypeId × Value → H} {w : World} {base : Nat} {spare : Nat → Bool} {held : Bool}

/-- The number's datum. -/
def dat (n : Nat) : DataW H := .agg [.agg [.lit (.int .u64 (lm n 0)), .lit (.int .u64 (lm n 1)), .lit (.int .u64 (lm n 2)), .lit (.int .u64 (lm n 3)), .lit (.int .u64 (lm n 4)), .lit (.int .u64 (lm n 5)), .lit (.int .u64 (lm n 6)), .lit (.int .u64 (lm n 7))]]

theorem lm_wf (n i : Nat) : (Lit.int .u64 (lm n i)).wf = true := by
  have h1 := lm_nn n i
  have h2 := lm_lt n i
  unfold B64 at h2
  simp [Lit.wf, IntKind.min, IntKind.max, IntKind.signed, IntKind.bits]
  omega

theorem trod_lm (n i m : Nat) : DataW.trod enc' Tryz.prog w base spare held (m + 1) 72 [.int .u64 (lm n i)] = some (.lit (.int .u64 (lm n i)), []) := by
  unfold DataW.trod
  rw [Tryz.underlying72]
  simp [lm_wf]

theorem shut_wide (n : Nat) : DataW.Trod enc' Tryz.prog w base spare held 75 (.agg (cells8 n)) (dat n) [] := by
  refine ⟨3, ?_⟩
  have hA : DataW.trod enc' Tryz.prog w base spare held 2 73 (cells8 n).toList = some (.agg [.lit (.int .u64 (lm n 0)), .lit (.int .u64 (lm n 1)), .lit (.int .u64 (lm n 2)), .lit (.int .u64 (lm n 3)), .lit (.int .u64 (lm n 4)), .lit (.int .u64 (lm n 5)), .lit (.int .u64 (lm n 6)), .lit (.int .u64 (lm n 7))], []) := by
    unfold DataW.trod
    rw [Tryz.underlying73]
    simp only [Tryz.cells_arr8, Tryz.cells_u64]
    rw [if_pos (by rfl), show List.range 8 = [0, 1, 2, 3, 4, 5, 6, 7] from rfl]
    simp [cells8, trod_lm]
  have hS := Tryz.underlying75
  have hB : DataW.trod enc' Tryz.prog w base spare held 2 73 (((cells8 n).toList.drop 0).take (Tryz.prog.cellsOf 73)) = some (.agg [.lit (.int .u64 (lm n 0)), .lit (.int .u64 (lm n 1)), .lit (.int .u64 (lm n 2)), .lit (.int .u64 (lm n 3)), .lit (.int .u64 (lm n 4)), .lit (.int .u64 (lm n 5)), .lit (.int .u64 (lm n 6)), .lit (.int .u64 (lm n 7))], []) := by
    rw [Tryz.cells_arr8]
    exact hA
  exact trod_struct1_mk (cs := (cells8 n).toList) hS (by rw [Tryz.cells_Wide]; rfl) hB

theorem open_wide {r : Reach} {b0 : Nat} {v : Value} {d : DataW H} {p : List MemPlace} (hv : Value.okWide Tryz.prog w r b0 75 v) (h : DataW.Trod enc' Tryz.prog w base spare held 75 v d p) :
    ∃ n : Nat, v = .agg (cells8 n) ∧ d = dat n ∧ p = [] := by
  obtain ⟨cs, rfl, hsz⟩ := okWide_struct Tryz.underlying75 hv
  rw [Tryz.cells_Wide] at hsz
  obtain ⟨fuel, hf⟩ := h
  obtain ⟨y0, m, hx, _, h0⟩ := trod_struct1 Tryz.underlying75 hf
  obtain ⟨xs, k, _, hy, _, hlen, hi⟩ := DataW.trod_array Tryz.underlying73 h0
  have hone : ∀ i, i < 8 → ∃ z : Nat, z < 18446744073709551616 ∧ cs[i]? = some (.int .u64 (z : Int)) ∧ xs[i]? = some (.lit (.int .u64 (z : Int)), []) := by
    intro i h8
    have h1 := hi i h8
    have hxi : xs[i]? = some xs[i] := by simp [hlen, h8]
    rw [hxi] at h1
    obtain ⟨z, hc, hz, hw⟩ := DataW.trod_int Tryz.underlying72 h1
    have hb : 0 ≤ z ∧ z < 18446744073709551616 := by
      simp [Lit.wf, IntKind.min, IntKind.max, IntKind.signed, IntKind.bits] at hw
      omega
    obtain ⟨zn, rfl⟩ := Int.eq_ofNat_of_zero_le hb.1
    refine ⟨zn, by omega, ?_, by rw [hxi, hz]⟩
    have h3 : ((Value.agg cs).cells.toList.drop 0).take 8 = cs.toList := by
      show (cs.toList.drop 0).take 8 = cs.toList
      rw [List.drop_zero, List.take_of_length_le (by simp [hsz])]
    have hc' := hc
    simp only [Tryz.cells_arr8, Tryz.cells_u64] at hc'
    have h4 : ((cs.toList.drop (i * 1)).take 1) = [.int .u64 (zn : Int)] := by
      rw [← h3]
      exact hc'
    have h5 : (cs.toList.drop i)[0]? = some (.int .u64 (zn : Int)) := by
      have := congrArg (fun l => l[0]?) h4
      simpa using this
    simpa using h5
  obtain ⟨z0, l0, c0, x0⟩ := hone 0 (by decide)
  obtain ⟨z1, l1, c1, x1⟩ := hone 1 (by decide)
  obtain ⟨z2, l2, c2, x2⟩ := hone 2 (by decide)
  obtain ⟨z3, l3, c3, x3⟩ := hone 3 (by decide)
  obtain ⟨z4, l4, c4, x4⟩ := hone 4 (by decide)
  obtain ⟨z5, l5, c5, x5⟩ := hone 5 (by decide)
  obtain ⟨z6, l6, c6, x6⟩ := hone 6 (by decide)
  obtain ⟨z7, l7, c7, x7⟩ := hone 7 (by decide)
  have hl : ∀ z ∈ [z0, z1, z2, z3, z4, z5, z6, z7], z < 18446744073709551616 := by simp; omega
  have hn := fun i => lm_ofLimbs [z0, z1, z2, z3, z4, z5, z6, z7] i hl
  have hcs : cs = cells8 (ofLimbs [z0, z1, z2, z3, z4, z5, z6, z7]) := by
    apply Array.ext_getElem?
    intro i
    by_cases h8 : i < 8
    · rw [cells8_get _ _ h8, hn i]
      rcases lt8 h8 with rfl | rfl | rfl | rfl | rfl | rfl | rfl | rfl <;> assumption
    · rw [Array.getElem?_eq_none (by omega), Array.getElem?_eq_none (by simp [cells8]; omega)]
  have hxs : xs = [(.lit (.int .u64 (z0 : Int)), []), (.lit (.int .u64 (z1 : Int)), []), (.lit (.int .u64 (z2 : Int)), []), (.lit (.int .u64 (z3 : Int)), []), (.lit (.int .u64 (z4 : Int)), []), (.lit (.int .u64 (z5 : Int)), []), (.lit (.int .u64 (z6 : Int)), []), (.lit (.int .u64 (z7 : Int)), [])] := by
    apply List.ext_getElem?
    intro i
    by_cases h8 : i < 8
    · rcases lt8 h8 with rfl | rfl | rfl | rfl | rfl | rfl | rfl | rfl <;> assumption
    · rw [List.getElem?_eq_none (by omega), List.getElem?_eq_none (by simp; omega)]
  refine ⟨ofLimbs [z0, z1, z2, z3, z4, z5, z6, z7], by rw [hcs], ?_, ?_⟩
  · rw [hxs] at hy
    rw [hy] at hx
    simp only [Prod.mk.injEq] at hx
    rw [hx.1]
    unfold dat
    simp only [hn]
    rfl
  · rw [hxs] at hy
    rw [hy] at hx
    simp only [Prod.mk.injEq] at hx
    rw [hx.2]
    rfl
end

end Go.Proofs.YtnemedgdhojhdaaGreat

namespace Go.Proofs.YtnemedgdhojhdaaGreat
open Go.ChangeShapes Go.WideShapes Go.ChangeAt Go.RowKit
set_option maxRecDepth 4000

theorem Tryz.cells_Vec : Tryz.prog.cellsOf 24 = 3 := by kernel_rfl
theorem Tryz.cells_Fix : Tryz.prog.cellsOf 22 = 1 := by kernel_rfl
section
variable {H : Type} {enc' : TypeId × Value → H} {w : World} {base : Nat} {spare : Nat → Bool} {held : Bool}

/-- The vector's datum. -/
def datV (x y z : Int) : DataW H := .agg [.lit (.int .i64 x), .lit (.int .i64 y), .lit (.int .i64 z)]
theorem trod_fix {n : Int} (hn : (Lit.int .i64 n).wf = true) : DataW.trod enc' Tryz.prog w base spare held 1 22 [.int .i64 n] = some (.lit (.int .i64 n), []) := by
  unfold DataW.trod
  rw [Tryz.underlying22]
  simp [hn]
theorem shut_vec {x y z : Int} (hx : (Lit.int .i64 x).wf = true) (hy : (Lit.int .i64 y).wf = true) (hz : (Lit.int .i64 z).wf = true) : DataW.Trod enc' Tryz.prog w base spare held 24 (.agg (v3 x y z)) (datV x y z) [] := by
  refine ⟨2, ?_⟩
  have h := Deep.trod_struct3_mk (enc := enc') (w := w) (base := base) (spare := spare) (held := held) (cs := (v3 x y z).toList) (n := 1) Tryz.underlying24 (by rw [Tryz.cells_Vec]; rfl) (by rw [Tryz.cells_Fix]; exact trod_fix hx) (by rw [Tryz.cells_Fix]; exact trod_fix hy) (by rw [Tryz.cells_Fix]; exact trod_fix hz)
  exact h
theorem open_vec {r : Reach} {b0 : Nat} {v : Value} {d : DataW H} {p : List MemPlace} (hv : Value.okWide Tryz.prog w r b0 24 v) (h : DataW.Trod enc' Tryz.prog w base spare held 24 v d p) :
    ∃ x y z : Int, v = .agg (v3 x y z) ∧ d = datV x y z ∧ p = [] ∧ (Lit.int .i64 x).wf = true ∧ (Lit.int .i64 y).wf = true ∧ (Lit.int .i64 z).wf = true := by
  obtain ⟨cs, rfl, hsz⟩ := okWide_struct Tryz.underlying24 hv
  rw [Tryz.cells_Vec] at hsz
  obtain ⟨fuel, hf⟩ := h
  obtain ⟨y0, y1, y2, m, hx, _, h0, h1, h2⟩ := Deep.trod_struct3 Tryz.underlying24 hf
  obtain ⟨x, hc0, hz0, hw0⟩ := DataW.trod_int Tryz.underlying22 h0
  obtain ⟨y, hc1, hz1, hw1⟩ := DataW.trod_int Tryz.underlying22 h1
  obtain ⟨z, hc2, hz2, hw2⟩ := DataW.trod_int Tryz.underlying22 h2
  subst hz0 hz1 hz2
  simp only [Prod.mk.injEq] at hx
  refine ⟨x, y, z, ?_, hx.1, hx.2, hw0, hw1, hw2⟩
  rw [Tryz.cells_Fix] at hc0 hc1 hc2
  obtain ⟨l⟩ := cs
  match l, hsz with
  | [c0, c1, c2], _ =>
    have e0 : [c0] = [.int .i64 x] := hc0
    have e1 : [c1] = [.int .i64 y] := hc1
    have e2 : [c2] = [.int .i64 z] := hc2
    simp only [List.cons.injEq, and_true] at e0 e1 e2
    subst e0 e1 e2
    rfl
end

end Go.Proofs.YtnemedgdhojhdaaGreat

namespace Go.Proofs.YtnemedgdhojhdaaGreat
open Go.ChangeShapes Go.WideShapes Go.ChangeAt Go.RowKit
set_option maxRecDepth 4000

theorem Tryz.cells_Point : Tryz.prog.cellsOf 64 = 3 := by kernel_rfl
theorem Tryz.cells_i64 : Tryz.prog.cellsOf 2 = 1 := by kernel_rfl
section
variable {H : Type} {enc' : TypeId × Value → H} {w : World} {base : Nat} {spare : Nat → Bool} {held : Bool}
theorem trod_i64 {n : Int} (hn : (Lit.int .i64 n).wf = true) : DataW.trod enc' Tryz.prog w base spare held 1 2 [.int .i64 n] = some (.lit (.int .i64 n), []) := by
  unfold DataW.trod
  rw [Tryz.underlying2]
  simp [hn]
theorem shut_pt {x y z : Int} (hx : (Lit.int .i64 x).wf = true) (hy : (Lit.int .i64 y).wf = true) (hz : (Lit.int .i64 z).wf = true) : DataW.Trod enc' Tryz.prog w base spare held 64 (.agg (v3 x y z)) (datV x y z) [] := by
  refine ⟨2, ?_⟩
  have h := Deep.trod_struct3_mk (enc := enc') (w := w) (base := base) (spare := spare) (held := held) (cs := (v3 x y z).toList) (n := 1) Tryz.underlying64 (by rw [Tryz.cells_Point]; rfl) (by rw [Tryz.cells_i64]; exact trod_i64 hx) (by rw [Tryz.cells_i64]; exact trod_i64 hy) (by rw [Tryz.cells_i64]; exact trod_i64 hz)
  exact h
theorem open_pt {r : Reach} {b0 : Nat} {v : Value} {d : DataW H} {p : List MemPlace} (hv : Value.okWide Tryz.prog w r b0 64 v) (h : DataW.Trod enc' Tryz.prog w base spare held 64 v d p) :
    ∃ x y z : Int, v = .agg (v3 x y z) ∧ d = datV x y z ∧ p = [] ∧ (Lit.int .i64 x).wf = true ∧ (Lit.int .i64 y).wf = true ∧ (Lit.int .i64 z).wf = true := by
  obtain ⟨cs, rfl, hsz⟩ := okWide_struct Tryz.underlying64 hv
  rw [Tryz.cells_Point] at hsz
  obtain ⟨fuel, hf⟩ := h
  obtain ⟨y0, y1, y2, m, hx, _, h0, h1, h2⟩ := Deep.trod_struct3 Tryz.underlying64 hf
  obtain ⟨x, hc0, hz0, hw0⟩ := DataW.trod_int Tryz.underlying2 h0
  obtain ⟨y, hc1, hz1, hw1⟩ := DataW.trod_int Tryz.underlying2 h1
  obtain ⟨z, hc2, hz2, hw2⟩ := DataW.trod_int Tryz.underlying2 h2
  subst hz0 hz1 hz2
  simp only [Prod.mk.injEq] at hx
  refine ⟨x, y, z, ?_, hx.1, hx.2, hw0, hw1, hw2⟩
  rw [Tryz.cells_i64] at hc0 hc1 hc2
  obtain ⟨l⟩ := cs
  match l, hsz with
  | [c0, c1, c2], _ =>
    have e0 : [c0] = [.int .i64 x] := hc0
    have e1 : [c1] = [.int .i64 y] := hc1
    have e2 : [c2] = [.int .i64 z] := hc2
    simp only [List.cons.injEq, and_true] at e0 e1 e2
    subst e0 e1 e2
    rfl
end

end Go.Proofs.YtnemedgdhojhdaaGreat

namespace Go.Proofs.YtnemedgdhojhdaaGreat
open Go.ChangeShapes Go.WideShapes Go.ChangeAt Go.RowKit
set_option maxRecDepth 4000

theorem Tryz.cells_Span : Tryz.prog.cellsOf 121 = 24 := by kernel_rfl
section
variable {H : Type} {enc' : TypeId × Value → H} {w : World} {base : Nat} {spare : Nat → Bool} {held : Bool}
theorem trod_wide3 (n : Nat) : DataW.trod enc' Tryz.prog w base spare held 3 75 (cells8 n).toList = some (dat n, []) := by
  have hA : DataW.trod enc' Tryz.prog w base spare held 2 73 (cells8 n).toList = some (.agg [.lit (.int .u64 (lm n 0)), .lit (.int .u64 (lm n 1)), .lit (.int .u64 (lm n 2)), .lit (.int .u64 (lm n 3)), .lit (.int .u64 (lm n 4)), .lit (.int .u64 (lm n 5)), .lit (.int .u64 (lm n 6)), .lit (.int .u64 (lm n 7))], []) := by
    unfold DataW.trod
    rw [Tryz.underlying73]
    simp only [Tryz.cells_arr8, Tryz.cells_u64]
    rw [if_pos (by rfl), show List.range 8 = [0, 1, 2, 3, 4, 5, 6, 7] from rfl]
    simp [cells8, trod_lm]
  have hS := Tryz.underlying75
  have hB : DataW.trod enc' Tryz.prog w base spare held 2 73 (((cells8 n).toList.drop 0).take (Tryz.prog.cellsOf 73)) = some (.agg [.lit (.int .u64 (lm n 0)), .lit (.int .u64 (lm n 1)), .lit (.int .u64 (lm n 2)), .lit (.int .u64 (lm n 3)), .lit (.int .u64 (lm n 4)), .lit (.int .u64 (lm n 5)), .lit (.int .u64 (lm n 6)), .lit (.int .u64 (lm n 7))], []) := by
    rw [Tryz.cells_arr8]
    exact hA
  exact trod_struct1_mk (cs := (cells8 n).toList) hS (by rw [Tryz.cells_Wide]; rfl) hB
theorem open_wide_l {cs : Array Value} {fuel : Nat} {x : DataW H × List MemPlace} (hsz : cs.size = 8) (hf : DataW.trod enc' Tryz.prog w base spare held fuel 75 cs.toList = some x) :
    ∃ n : Nat, cs = cells8 n ∧ x = (dat n, []) := by
  obtain ⟨y0, m, hx, _, h0⟩ := trod_struct1 Tryz.underlying75 hf
  obtain ⟨xs, k, _, hy, _, hlen, hi⟩ := DataW.trod_array Tryz.underlying73 h0
  have hone : ∀ i, i < 8 → ∃ z : Nat, z < 18446744073709551616 ∧ cs[i]? = some (.int .u64 (z : Int)) ∧ xs[i]? = some (.lit (.int .u64 (z : Int)), []) := by
    intro i h8
    have h1 := hi i h8
    have hxi : xs[i]? = some xs[i] := by simp [hlen, h8]
    rw [hxi] at h1
    obtain ⟨z, hc, hz, hw⟩ := DataW.trod_int Tryz.underlying72 h1
    have hb : 0 ≤ z ∧ z < 18446744073709551616 := by
      simp [Lit.wf, IntKind.min, IntKind.max, IntKind.signed, IntKind.bits] at hw
      omega
    obtain ⟨zn, rfl⟩ := Int.eq_ofNat_of_zero_le hb.1
    refine ⟨zn, by omega, ?_, by rw [hxi, hz]⟩
    have h3 : ((Value.agg cs).cells.toList.drop 0).take 8 = cs.toList := by
      show (cs.toList.drop 0).take 8 = cs.toList
      rw [List.drop_zero, List.take_of_length_le (by simp [hsz])]
    have hc' := hc
    simp only [Tryz.cells_arr8, Tryz.cells_u64] at hc'
    have h4 : ((cs.toList.drop (i * 1)).take 1) = [.int .u64 (zn : Int)] := by
      rw [← h3]
      exact hc'
    have h5 : (cs.toList.drop i)[0]? = some (.int .u64 (zn : Int)) := by
      have := congrArg (fun l => l[0]?) h4
      simpa using this
    simpa using h5
  obtain ⟨z0, l0, c0, x0⟩ := hone 0 (by decide)
  obtain ⟨z1, l1, c1, x1⟩ := hone 1 (by decide)
  obtain ⟨z2, l2, c2, x2⟩ := hone 2 (by decide)
  obtain ⟨z3, l3, c3, x3⟩ := hone 3 (by decide)
  obtain ⟨z4, l4, c4, x4⟩ := hone 4 (by decide)
  obtain ⟨z5, l5, c5, x5⟩ := hone 5 (by decide)
  obtain ⟨z6, l6, c6, x6⟩ := hone 6 (by decide)
  obtain ⟨z7, l7, c7, x7⟩ := hone 7 (by decide)
  have hl : ∀ z ∈ [z0, z1, z2, z3, z4, z5, z6, z7], z < 18446744073709551616 := by simp; omega
  have hn := fun i => lm_ofLimbs [z0, z1, z2, z3, z4, z5, z6, z7] i hl
  have hcs : cs = cells8 (ofLimbs [z0, z1, z2, z3, z4, z5, z6, z7]) := by
    apply Array.ext_getElem?
    intro i
    by_cases h8 : i < 8
    · rw [cells8_get _ _ h8, hn i]
      rcases lt8 h8 with rfl | rfl | rfl | rfl | rfl | rfl | rfl | rfl <;> assumption
    · rw [Array.getElem?_eq_none (by omega), Array.getElem?_eq_none (by simp [cells8]; omega)]
  have hxs : xs = [(.lit (.int .u64 (z0 : Int)), []), (.lit (.int .u64 (z1 : Int)), []), (.lit (.int .u64 (z2 : Int)), []), (.lit (.int .u64 (z3 : Int)), []), (.lit (.int .u64 (z4 : Int)), []), (.lit (.int .u64 (z5 : Int)), []), (.lit (.int .u64 (z6 : Int)), []), (.lit (.int .u64 (z7 : Int)), [])] := by
    apply List.ext_getElem?
    intro i
    by_cases h8 : i < 8
    · rcases lt8 h8 with rfl | rfl | rfl | rfl | rfl | rfl | rfl | rfl <;> assumption
    · rw [List.getElem?_eq_none (by omega), List.getElem?_eq_none (by simp; omega)]
  refine ⟨ofLimbs [z0, z1, z2, z3, z4, z5, z6, z7], hcs, ?_⟩
  refine Prod.ext ?_ ?_
  · rw [hxs] at hy
    rw [hy] at hx
    rw [hx]
    unfold dat
    simp only [hn]
    rfl
  · rw [hxs] at hy
    rw [hy] at hx
    rw [hx]
    rfl
/-- The span's datum. -/
def datS (x y z : Nat) : DataW H := .agg [dat x, dat y, dat z]
theorem c24_parts (x y z : Nat) : ((c24 x y z).toList.drop 0).take 8 = (cells8 x).toList ∧ ((c24 x y z).toList.drop 8).take 8 = (cells8 y).toList ∧ ((c24 x y z).toList.drop 16).take 8 = (cells8 z).toList := by
  unfold c24
  refine ⟨?_, ?_, ?_⟩
  · rw [List.drop_zero, List.take_append_of_le_length (by rw [cells8_len]; exact Nat.le_refl _), List.take_of_length_le (by rw [cells8_len]; exact Nat.le_refl _)]
  · rw [List.drop_append_of_le_length (by rw [cells8_len]; exact Nat.le_refl _), List.drop_of_length_le (by rw [cells8_len]; exact Nat.le_refl _), List.nil_append, List.take_append_of_le_length (by rw [cells8_len]; exact Nat.le_refl _), List.take_of_length_le (by rw [cells8_len]; exact Nat.le_refl _)]
  · rw [← List.append_assoc, List.drop_append_of_le_length (by rw [List.length_append, cells8_len, cells8_len]; exact Nat.le_refl _), List.drop_of_length_le (by rw [List.length_append, cells8_len, cells8_len]; exact Nat.le_refl _), List.nil_append, List.take_of_length_le (by rw [cells8_len]; exact Nat.le_refl _)]
theorem shut_span (x y z : Nat) : DataW.Trod enc' Tryz.prog w base spare held 121 (.agg (c24 x y z)) (datS x y z) [] := by
  refine ⟨4, ?_⟩
  obtain ⟨e0, e1, e2⟩ := c24_parts x y z
  exact Deep.trod_struct3_mk (enc := enc') (w := w) (base := base) (spare := spare) (held := held) (cs := (c24 x y z).toList) (n := 3) Tryz.underlying121 (by rw [Tryz.cells_Span]; rfl) (by rw [Tryz.cells_Wide]; exact (congrArg _ e0).trans (trod_wide3 x)) (by rw [Tryz.cells_Wide]; exact (congrArg _ e1).trans (trod_wide3 y)) (by rw [Tryz.cells_Wide]; exact (congrArg _ e2).trans (trod_wide3 z))
theorem open_span {r : Reach} {b0 : Nat} {v : Value} {d : DataW H} {p : List MemPlace} (hv : Value.okWide Tryz.prog w r b0 121 v) (h : DataW.Trod enc' Tryz.prog w base spare held 121 v d p) :
    ∃ x y z : Nat, v = .agg (c24 x y z) ∧ d = datS x y z ∧ p = [] := by
  obtain ⟨cs, rfl, hsz⟩ := okWide_struct Tryz.underlying121 hv
  rw [Tryz.cells_Span] at hsz
  obtain ⟨fuel, hf⟩ := h
  obtain ⟨y0, y1, y2, m, hx, _, h0, h1, h2⟩ := Deep.trod_struct3 Tryz.underlying121 hf
  have hcs : (Value.agg cs).cells = cs := rfl
  rw [hcs] at h0 h1 h2
  simp only [Tryz.cells_Wide] at h0 h1 h2
  obtain ⟨x, c0, q0⟩ := open_wide_l (cs := ((cs.toList.drop 0).take 8).toArray) (by simp [hsz]) h0
  obtain ⟨y, c1, q1⟩ := open_wide_l (cs := ((cs.toList.drop 8).take 8).toArray) (by simp [hsz]) h1
  obtain ⟨z, c2, q2⟩ := open_wide_l (cs := ((cs.toList.drop 16).take 8).toArray) (by simp [hsz]) h2
  subst q0 q1 q2
  simp only [Prod.mk.injEq] at hx
  refine ⟨x, y, z, ?_, hx.1, hx.2⟩
  have e0 : (cs.toList.drop 0).take 8 = (cells8 x).toList := by rw [← c0]
  have e1 : (cs.toList.drop 8).take 8 = (cells8 y).toList := by rw [← c1]
  have e2 : (cs.toList.drop 16).take 8 = (cells8 z).toList := by rw [← c2]
  have hl : cs.toList = (cells8 x).toList ++ ((cells8 y).toList ++ (cells8 z).toList) := by
    rw [← e0, ← e1, ← e2, List.drop_zero]
    have t1 : (cs.toList.drop 16).take 8 = (cs.toList.drop 8).drop 8 := by rw [List.take_of_length_le (by simp [hsz]), List.drop_drop]
    rw [t1, List.take_append_drop, List.take_append_drop]
  congr 1
  unfold c24
  rw [← hl]
end

end Go.Proofs.YtnemedgdhojhdaaGreat

namespace Go.Proofs.YtnemedgdhojhdaaGreat
open Go.ChangeShapes Go.WideShapes Go.ChangeAt Go.RowKit
set_option maxRecDepth 4000

theorem joined_split {P : Program} {f : FuncId} {fn : Func} {s : ChangeSpec} {c : OpenClaim}
  (h : ((c.wf (OpenSpec.ofChange s) && laidOutB P && mapsRowed P &&
  fn.params.all (P.readableRec ·) && namedTie P c.named s.vars) = true) ∧
  (((c.stops == []) && (P.stops == []) && (c.knobs == []) && (P.stopKnobs == [])) = true) ∧
  ((c.inPlace == P.inPlace f) = true) ∧ ((c.unfollowed == P.unfollowed f) = true) ∧ ((c.recurses == P.recurses f) = true) ∧ ((c.named == P.varsNamed f) = true) ∧
  (((c.maps == (fn.params.toList ++ s.plain.varTypes P).any (P.mapsRec ·)) && (c.ifaces == (fn.params.toList ++ s.plain.varTypes P).any (P.ifacesRec ·)) && (c.mapsOut == P.mapsAmong fn.resultTypes.toList) &&
  (c.loops == (fn.params.toList ++ s.plain.varTypes P).any (P.loopsFrom ·)) && (c.wideKeys == (fn.params.toList ++ s.plain.varTypes P ++ fn.resultTypes.toList).any (P.wideKeysFrom ·)) &&
  s.vars.all (P.varReadable ·) && fn.resultTypes.all (fun t => P.readableRec t && decide (t < P.types.size)) && (c.ifacesOut == fn.resultTypes.toList.any (P.ifacesRec ·)) && (c.loopsOut == fn.resultTypes.toList.any (P.loopsFrom ·)) && (c.plainKeys == P.plainKeys) && c.shortTexts.isNone) = true) ∧
  (P.stopsHeard = true) ∧ (P.mayEnter = true) ∧ ((c.lifted == P.liftsFinal) = true) ∧ (((P.make == some c.make) && (c.kinds == (if c.domain.isEmpty then [] else fn.params.toList.map fun t => match P.underlying t with | some (.int k) => some k | _ => none)) && (c.pinned == c.pinnedBy) &&
  (c.veiled == (fn.params.toList ++ s.plain.varTypes P ++ fn.resultTypes.toList).any (P.veiledRec ·)) && c.veiledFits P fn.params.toList (fn.params.toList ++ s.plain.varTypes P ++ fn.resultTypes.toList)) = true)) : joinedFacts P f fn s c = true := by
  simp only [Bool.and_eq_true] at h
  unfold joinedFacts
  simp only [Bool.and_eq_true]
  obtain ⟨⟨⟨⟨⟨a1, a2⟩, a3⟩, a4⟩, a5⟩, ⟨⟨⟨b1, b2⟩, b3⟩, b4⟩, c1, c2, c3, c4, ⟨⟨⟨⟨⟨⟨⟨⟨⟨⟨d1, d2⟩, d3⟩, d4⟩, d5⟩, d6⟩, d7⟩, d8⟩, d9⟩, d10⟩, d11⟩, e1, e2, e3, ⟨⟨⟨⟨f1, f2⟩, f3⟩, f4⟩, f5⟩⟩ := h
  exact ⟨⟨⟨⟨⟨⟨⟨⟨⟨⟨⟨⟨⟨⟨⟨⟨⟨⟨⟨⟨⟨⟨⟨⟨⟨⟨⟨⟨⟨⟨⟨a1, a2⟩, a3⟩, a4⟩, a5⟩, b1⟩, b2⟩, b3⟩, b4⟩, c1⟩, c2⟩, c3⟩, c4⟩, d1⟩, d2⟩, d3⟩, d4⟩, d5⟩, d6⟩, d7⟩, d8⟩, d9⟩, d10⟩, d11⟩, e1⟩, e2⟩, e3⟩, f1⟩, f2⟩, f3⟩, f4⟩, f5⟩
theorem seat_heard : Tryz.pinned.checked.prog.stopsHeard = true := by kernel_rfl
theorem seat_enter : Tryz.pinned.checked.prog.mayEnter = true := by kernel_rfl
theorem seat_lifts : Tryz.pinned.checked.prog.liftsFinal = Rows.shapeCoreRow.lifted := by kernel_rfl
theorem lifts_of {c : OpenClaim} (h : (c.lifted == Rows.shapeCoreRow.lifted) = true) : (c.lifted == Tryz.pinned.checked.prog.liftsFinal) = true := by rw [seat_lifts]; exact h

end Go.Proofs.YtnemedgdhojhdaaGreat
