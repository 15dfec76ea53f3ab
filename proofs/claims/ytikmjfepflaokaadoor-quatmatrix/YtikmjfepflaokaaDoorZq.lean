/- A number of 512 bits as an argument: what its reading says of it. -/
import Derived.Test.YtikmjfepflaokaaDoorZn
import Derived.Test.YtikmjfepflaokaaDoorRows
import Derived.ProofKit
import Derived.OpenShut
namespace Go.Proofs.YtikmjfepflaokaaDoor
open Go.ChangeShapes Go.WideShapes Go.ChangeAt Go.RowKit
set_option maxRecDepth 4000

theorem Tryd.cells_Wide : Tryd.prog.cellsOf 42 = 8 := by kernel_rfl
theorem Tryd.cells_arr8 : Tryd.prog.cellsOf 40 = 8 := by kernel_rfl
theorem Tryd.cells_u64 : Tryd.prog.cellsOf 39 = 1 := by kernel_rfl

/-- A number by its limbs. -/
def ofLimbs : List Nat → Nat
  | [] => 0
  | z :: r => z + 18446744073709551616 * ofLimbs r
theorem lm_ofLimbs : ∀ (l : List Nat) (i : Nat), (∀ z ∈ l, z < 18446744073709551616) → lm (ofLimbs l) i = (l.getD i 0 : Nat)
  | [], i, _ => by simp [ofLimbs, lm]
  | z :: r, 0, h => by
    have hz := h z (by simp)
    simp only [ofLimbs, lm, Nat.mul_zero, Nat.pow_zero, Nat.div_one, List.getD_cons_zero]
    omega
  | z :: r, i + 1, h => by
    have hz := h z (by simp)
    have ih := lm_ofLimbs r i fun y hy => h y (by simp [hy])
    rw [List.getD_cons_succ, ← ih]
    unfold lm
    rw [ofLimbs, show 64 * (i + 1) = 64 + 64 * i by omega, Nat.pow_add, ← Nat.div_div_eq_div_mul, show (2 : Nat) ^ 64 = 18446744073709551616 from rfl, Nat.add_mul_div_left _ _ (by decide), Nat.div_eq_of_lt hz, Nat.zero_add]

section
variable {H : Type} {enc' : TypeId × Value → H} {w : World} {base : Nat} {spare : Nat → Bool} {held : Bool}

/-- The number's datum. -/
def dat (n : Nat) : DataW H := .agg [.agg [.lit (.int .u64 (lm n 0)), .lit (.int .u64 (lm n 1)), .lit (.int .u64 (lm n 2)), .lit (.int .u64 (lm n 3)), .lit (.int .u64 (lm n 4)), .lit (.int .u64 (lm n 5)), .lit (.int .u64 (lm n 6)), .lit (.int .u64 (lm n 7))]]

theorem lm_wf (n i : Nat) : (Lit.int .u64 (lm n i)).wf = true := by
  have h1 := lm_nn n i
  have h2 := lm_lt n i
  unfold B64 at h2
  simp [Lit.wf, IntKind.min, IntKind.max, IntKind.signed, IntKind.bits]
  omega

theorem trod_lm (n i m : Nat) : DataW.trod enc' Tryd.prog w base spare held (m + 1) 39 [.int .u64 (lm n i)] = some (.lit (.int .u64 (lm n i)), []) := by
  unfold DataW.trod
  rw [Tryd.underlying39]
  simp [lm_wf]

theorem shut_wide (n : Nat) : DataW.Trod enc' Tryd.prog w base spare held 42 (.agg (cells8 n)) (dat n) [] := by
  refine ⟨3, ?_⟩
  have hA : DataW.trod enc' Tryd.prog w base spare held 2 40 (cells8 n).toList = some (.agg [.lit (.int .u64 (lm n 0)), .lit (.int .u64 (lm n 1)), .lit (.int .u64 (lm n 2)), .lit (.int .u64 (lm n 3)), .lit (.int .u64 (lm n 4)), .lit (.int .u64 (lm n 5)), .lit (.int .u64 (lm n 6)), .lit (.int .u64 (lm n 7))], []) := by
    unfold DataW.trod
    rw [Tryd.underlying40]
    simp only [Tryd.cells_arr8, Tryd.cells_u64]
    rw [if_pos (by rfl), show List.range 8 = [0, 1, 2, 3, 4, 5, 6, 7] from rfl]
    simp [cells8, trod_lm]
  have hS := Tryd.underlying42
  have hB : DataW.trod enc' Tryd.prog w base spare held 2 40 (((cells8 n).toList.drop 0).take (Tryd.prog.cellsOf 40)) = some (.agg [.lit (.int .u64 (lm n 0)), .lit (.int .u64 (lm n 1)), .lit (.int .u64 (lm n 2)), .lit (.int .u64 (lm n 3)), .lit (.int .u64 (lm n 4)), .lit (.int .u64 (lm n 5)), .lit (.int .u64 (lm n 6)), .lit (.int .u64 (lm n 7))], []) := by
    rw [Tryd.cells_arr8]
    exact hA
  exact trod_struct1_mk (cs := (cells8 n).toList) hS (by rw [Tryd.cells_Wide]; rfl) hB

theorem open_wide {r : Reach} {b0 : Nat} {v : Value} {d : DataW H} {p : List MemPlace} (hv : Value.okWide Tryd.prog w r b0 42 v) (h : DataW.Trod enc' Tryd.prog w base spare held 42 v d p) :
    ∃ n : Nat, v = .agg (cells8 n) ∧ d = dat n ∧ p = [] := by
  obtain ⟨cs, rfl, hsz⟩ := okWide_struct Tryd.underlying42 hv
  rw [Tryd.cells_Wide] at hsz
  obtain ⟨fuel, hf⟩ := h
  obtain ⟨y0, m, hx, _, h0⟩ := trod_struct1 Tryd.underlying42 hf
  obtain ⟨xs, k, _, hy, _, hlen, hi⟩ := DataW.trod_array Tryd.underlying40 h0
  have hone : ∀ i, i < 8 → ∃ z : Nat, z < 18446744073709551616 ∧ cs[i]? = some (.int .u64 (z : Int)) ∧ xs[i]? = some (.lit (.int .u64 (z : Int)), []) := by
    intro i h8
    have h1 := hi i h8
    have hxi : xs[i]? = some xs[i] := by simp [hlen, h8]
    rw [hxi] at h1
    obtain ⟨z, hc, hz, hw⟩ := DataW.trod_int Tryd.underlying39 h1
    have hb : 0 ≤ z ∧ z < 18446744073709551616 := by
      simp [Lit.wf, IntKind.min, IntKind.max, IntKind.signed, IntKind.bits] at hw
      omega
    obtain ⟨zn, rfl⟩ := Int.eq_ofNat_of_zero_le hb.1
    refine ⟨zn, by omega, ?_, by rw [hxi, hz]⟩
    have h3 : ((Value.agg cs).cells.toList.drop 0).take 8 = cs.toList := by
      show (cs.toList.drop 0).take 8 = cs.toList
      rw [List.drop_zero, List.take_of_length_le (by simp [hsz])]
    have hc' := hc
    simp only [Tryd.cells_arr8, Tryd.cells_u64] at hc'
    have h4 : ((cs.toList.drop (i * 1)).take 1) = [.int .u64 (zn : Int)] := by
      rw [← h3]
      exact hc'
    have h5 : (cs.toList.drop i)[0]? = some (.int .u64 (zn : Int)) := by
      have := congrArg (fun l => l[0]?) h4
      simpa using this
    simpa using h5
  obtain ⟨z0, l0, c0, x0⟩ := hone 0 (by decide)
  obtain ⟨z1, l1, c1, x1⟩ := hone 1 (by decide)
  obtain ⟨z2, l2, c2, x2⟩ := hone 2 (by decide)
  obtain ⟨z3, l3, c3, x3⟩ := hone 3 (by decide)
  obtain ⟨z4, l4, c4, x4⟩ := hone 4 (by decide)
  obtain ⟨z5, l5, c5, x5⟩ := hone 5 (by decide)
  obtain ⟨z6, l6, c6, x6⟩ := hone 6 (by decide)
  obtain ⟨z7, l7, c7, x7⟩ := hone 7 (by decide)
  have hl : ∀ z ∈ [z0, z1, z2, z3, z4, z5, z6, z7], z < 18446744073709551616 := by simp; omega
  have hn := fun i => lm_ofLimbs [z0, z1, z2, z3, z4, z5, z6, z7] i hl
  have hcs : cs = cells8 (ofLimbs [z0, z1, z2, z3, z4, z5, z6, z7]) := by
    apply Array.ext_getElem?
    intro i
    by_cases h8 : i < 8
    · rw [cells8_get _ _ h8, hn i]
      rcases lt8 h8 with rfl | rfl | rfl | rfl | rfl | rfl | rfl | rfl <;> assumption
    · rw [Array.getElem?_eq_none (by omega), Array.getElem?_eq_none (by simp [cells8]; omega)]
  have hxs : xs = [(.lit (.int .u64 (z0 : Int)), []), (.lit (.int .u64 (z1 : Int)), []), (.lit (.int .u64 (z2 : Int)), []), (.lit (.int .u64 (z3 : Int)), []), (.lit (.int .u64 (z4 : Int)), []), (.lit (.int .u64 (z5 : Int)), []), (.lit (.int .u64 (z6 : Int)), []), (.lit (.int .u64 (z7 : Int)), [])] := by
    apply List.ext_getElem?
    intro i
    by_cases h8 : i < 8
    · rcases lt8 h8 with rfl | rfl | rfl | rfl | rfl | rfl | rfl | rfl <;> assumption
    · rw [List.getElem?_eq_none (by omega), List.getElem?_eq_none (by simp; omega)]
  refine ⟨ofLimbs [z0, z1, z2, z3, z4, z5, z6, z7], by rw [hcs], ?_, ?_⟩
  · rw [hxs] at hy
    rw [hy] at hx
    simp only [Prod.mk.injEq] at hx
    rw [hx.1]
    unfold dat
    simp only [hn]
    rfl
  · rw [hxs] at hy
    rw [hy] at hx
    simp only [Prod.mk.injEq] at hx
    rw [hx.2]
    rfl
end

end Go.Proofs.YtikmjfepflaokaaDoor
