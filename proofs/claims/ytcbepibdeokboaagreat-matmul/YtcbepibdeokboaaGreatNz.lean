/- A number of 512 bits as an argument: what its reading says of it. A vector as an argument: what its reading says of it. A matrix as an argument: what its reading says of it. The closed facts of a row, each for itself: what the kernel holds is freed at a declaration's end; those of the program alone, once for all rows. -/
import Derived.Test.YtcbepibdeokboaaGreatZn
import Derived.Test.YtcbepibdeokboaaGreatRows
import Derived.ProofKit
import Derived.OpenShut
import Derived.Test.YtcbepibdeokboaaGreatVa
import Derived.Deep.Strs
import Derived.Test.YtcbepibdeokboaaGreatNq
namespace Go.Proofs.YtcbepibdeokboaaGreat
open Go.ChangeShapes Go.WideShapes Go.ChangeAt Go.RowKit
set_option maxRecDepth 4000

theorem Tryz.cells_Wide : Tryz.prog.cellsOf 54 = 8 := by kernel_rfl
theorem Tryz.cells_arr8 : Tryz.prog.cellsOf 52 = 8 := by kernel_rfl
theorem Tryz.cells_u64 : Tryz.prog.cellsOf 51 = 1 := by kernel_rfl

/-- A number by its limbs. -/
def ofLimbs : List Nat → Nat
  | [] => 0
  | z :: r => z + 18446744073709551616 * ofLimbs r
theorem lm_ofLimbs : ∀ (l : List Nat) (i : Nat), (∀ z ∈ l, z < 18446744073709551616) → lm (ofLimbs l) i = (l.getD i 0 : Nat)
  | [], i, _ => by simp [ofLimbs, lm]
  | z :: r, 0, h => by
    have hz := h z (by simp)
    simp only [ofLimbs, lm, Nat.mul_zero, Nat.pow_zero, Nat.div_one, List.getD_cons_zero]
    omega
  | z :: r, i + 1, h => by
    have hz := h z (by simp)
    have ih := lm_ofLimbs r i fun y hy => h y (by simp [hy])
    rw [List.getD_cons_succ, ← ih]
    unfold lm
    rw [ofLimbs, show 64 * (i + 1) = 64 + 64 * i by omega, Nat.pow_add, ← Nat.div_div_eq_div_mul, show (2 : Nat) ^ 64 = 18446744073709551616 from rfl, Nat.add_mul_div_left _ _ (by decide), Nat.div_eq_of_lt hz, Nat.zero_add]

section
variable {H : Type} {enc' : TypeId × Value → H} {w : World} {base : Nat} {spare : Nat → Bool} {held : Bool}

/-- The number's datum. -/
def dat (n : Nat) : DataW H := .agg [.agg [.lit (.int .u64 (lm n 0)), .lit (.int .u64 (lm n 1)), .lit (.int .u64 (lm n 2)), .lit (.int .u64 (lm n 3)), .lit (.int .u64 (lm n 4)), .lit (.int .u64 (lm n 5)), .lit (.int .u64 (lm n 6)), .lit (.int .u64 (lm n 7))]]

theorem lm_wf (n i : Nat) : (Lit.int .u64 (lm n i)).wf = true := by
  have h1 := lm_nn n i
  have h2 := lm_lt n i
  unfold B64 at h2
  simp [Lit.wf, IntKind.min, IntKind.max, IntKind.signed, IntKind.bits]
  omega

theorem trod_lm (n i m : Nat) : DataW.trod enc' Tryz.prog w base spare held (m + 1) 51 [.int .u64 (lm n i)] = some (.lit (.int .u64 (lm n i)), []) := by
  unfold DataW.trod
  rw [Tryz.underlying51]
  simp [lm_wf]

theorem shut_wide (n : Nat) : DataW.Trod enc' Tryz.prog w base spare held 54 (.agg (cells8 n)) (dat n) [] := by
  refine ⟨3, ?_⟩
  have hA : DataW.trod enc' Tryz.prog w base spare held 2 52 (cells8 n).toList = some (.agg [.lit (.int .u64 (lm n 0)), .lit (.int .u64 (lm n 1)), .lit (.int .u64 (lm n 2)), .lit (.int .u64 (lm n 3)), .lit (.int .u64 (lm n 4)), .lit (.int .u64 (lm n 5)), .lit (.int .u64 (lm n 6)), .lit (.int .u64 (lm n 7))], []) := by
    unfold DataW.trod
    rw [Tryz.underlying52]
    simp only [Tryz.cells_arr8, Tryz.cells_u64]
    rw [if_pos (by rfl), show List.range 8 = [0, 1, 2, 3, 4, 5, 6, 7] from rfl]
    simp [cells8, trod_lm]
  have hS := Tryz.underlying54
  have hB : DataW.trod enc' Tryz.prog w base spare held 2 52 (((cells8 n).toList.drop 0).take (Tryz.prog.cellsOf 52)) = some (.agg [.lit (.int .u64 (lm n 0)), .lit (.int .u64 (lm n 1)), .lit (.int .u64 (lm n 2)), .lit (.int .u64 (lm n 3)), .lit (.int .u64 (lm n 4)), .lit (.int .u64 (lm n 5)), .lit (.int .u64 (lm n 6)), .lit (.int .u64 (lm n 7))], []) := by
    rw [Tryz.cells_arr8]
    exact hA
  exact trod_struct1_mk (cs := (cells8 n).toList) hS (by rw [Tryz.cells_Wide]; rfl) hB

theorem open_wide {r : Reach} {b0 : Nat} {v : Value} {d : DataW H} {p : List MemPlace} (hv : Value.okWide Tryz.prog w r b0 54 v) (h : DataW.Trod enc' Tryz.prog w base spare held 54 v d p) :
    ∃ n : Nat, v = .agg (cells8 n) ∧ d = dat n ∧ p = [] := by
  obtain ⟨cs, rfl, hsz⟩ := okWide_struct Tryz.underlying54 hv
  rw [Tryz.cells_Wide] at hsz
  obtain ⟨fuel, hf⟩ := h
  obtain ⟨y0, m, hx, _, h0⟩ := trod_struct1 Tryz.underlying54 hf
  obtain ⟨xs, k, _, hy, _, hlen, hi⟩ := DataW.trod_array Tryz.underlying52 h0
  have hone : ∀ i, i < 8 → ∃ z : Nat, z < 18446744073709551616 ∧ cs[i]? = some (.int .u64 (z : Int)) ∧ xs[i]? = some (.lit (.int .u64 (z : Int)), []) := by
    intro i h8
    have h1 := hi i h8
    have hxi : xs[i]? = some xs[i] := by simp [hlen, h8]
    rw [hxi] at h1
    obtain ⟨z, hc, hz, hw⟩ := DataW.trod_int Tryz.underlying51 h1
    have hb : 0 ≤ z ∧ z < 18446744073709551616 := by
      simp [Lit.wf, IntKind.min, IntKind.max, IntKind.signed, IntKind.bits] at hw
      omega
    obtain ⟨zn, rfl⟩ := Int.eq_ofNat_of_zero_le hb.1
    refine ⟨zn, by omega, ?_, by rw [hxi, hz]⟩
    have h3 : ((Value.agg cs).cells.toList.drop 0).take 8 = cs.toList := by
      show (cs.toList.drop 0).take 8 = cs.toList
      rw [List.drop_zero, List.take_of_length_le (by simp [hsz])]
    have hc' := hc
    simp only [Tryz.cells_arr8, Tryz.cells_u64] at hc'
    have h4 : ((cs.toList.drop (i * 1)).take 1) = [.int .u64 (zn : Int)] := by
      rw [← h3]
      exact hc'
    have h5 : (cs.toList.drop i)[0]? = some (.int .u64 (zn : Int)) := by
      have := congrArg (fun l => l[0]?) h4
      simpa using this
    simpa using h5
  obtain ⟨z0, l0, c0, x0⟩ := hone 0 (by decide)
  obtain ⟨z1, l1, c1, x1⟩ := hone 1 (by decide)
  obtain ⟨z2, l2, c2, x2⟩ := hone 2 (by decide)
  obtain ⟨z3, l3, c3, x3⟩ := hone 3 (by decide)
  obtain ⟨z4, l4, c4, x4⟩ := hone 4 (by decide)
  obtain ⟨z5, l5, c5, x5⟩ := hone 5 (by decide)
  obtain ⟨z6, l6, c6, x6⟩ := hone 6 (by decide)
  obtain ⟨z7, l7, c7, x7⟩ := hone 7 (by decide)
  have hl : ∀ z ∈ [z0, z1, z2, z3, z4, z5, z6, z7], z < 18446744073709551616 := by simp; omega
  have hn := fun i => lm_ofLimbs [z0, z1, z2, z3, z4, z5, z6, z7] i hl
  have hcs : cs = cells8 (ofLimbs [z0, z1, z2, z3, z4, z5, z6, z7]) := by
    apply Array.ext_getElem?
    intro i
    by_cases h8 : i < 8
    · rw [cells8_get _ _ h8, hn i]
      rcases lt8 h8 with rfl | rfl | rfl | rfl | rfl | rfl | rfl | rfl <;> assumption
    · rw [Array.getElem?_eq_none (by omega), Array.getElem?_eq_none (by simp [cells8]; omega)]
  have hxs : xs = [(.lit (.int .u64 (z0 : Int)), []), (.lit (.int .u64 (z1 : Int)), []), (.lit (.int .u64 (z2 : Int)), []), (.lit (.int .u64 (z3 : Int)), []), (.lit (.int .u64 (z4 : Int)), []), (.lit (.int .u64 (z5 : Int)), []), (.lit (.int .u64 (z6 : Int)), []), (.lit (.int .u64 (z7 : Int)), [])] := by
    apply List.ext_getElem?
    intro i
    by_cases h8 : i < 8
    · rcases lt8 h8 with rfl | rfl | rfl | rfl | rfl | rfl | rfl | rfl <;> assumption
    · rw [List.getElem?_eq_none (by omega), List.getElem?_eq_none (by simp; omega)]
  refine ⟨ofLimbs [z0, z1, z2, z3, z4, z5, z6, z7], by rw [hcs], ?_, ?_⟩
  · rw [hxs] at hy
    rw [hy] at hx
    simp only [Prod.mk.injEq] at hx
    rw [hx.1]
    unfold dat
    simp only [hn]
    rfl
  · rw [hxs] at hy
    rw [hy] at hx
    simp only [Prod.mk.injEq] at hx
    rw [hx.2]
    rfl
end

end Go.Proofs.YtcbepibdeokboaaGreat

namespace Go.Proofs.YtcbepibdeokboaaGreat
open Go.ChangeShapes Go.WideShapes Go.ChangeAt Go.RowKit
set_option maxRecDepth 4000

theorem Tryz.cells_Vec : Tryz.prog.cellsOf 24 = 3 := by kernel_rfl
theorem Tryz.cells_Fix : Tryz.prog.cellsOf 22 = 1 := by kernel_rfl
section
variable {H : Type} {enc' : TypeId × Value → H} {w : World} {base : Nat} {spare : Nat → Bool} {held : Bool}

/-- The vector's datum. -/
def datV (x y z : Int) : DataW H := .agg [.lit (.int .i64 x), .lit (.int .i64 y), .lit (.int .i64 z)]
theorem trod_fix {n : Int} (hn : (Lit.int .i64 n).wf = true) : DataW.trod enc' Tryz.prog w base spare held 1 22 [.int .i64 n] = some (.lit (.int .i64 n), []) := by
  unfold DataW.trod
  rw [Tryz.underlying22]
  simp [hn]
theorem shut_vec {x y z : Int} (hx : (Lit.int .i64 x).wf = true) (hy : (Lit.int .i64 y).wf = true) (hz : (Lit.int .i64 z).wf = true) : DataW.Trod enc' Tryz.prog w base spare held 24 (.agg (v3 x y z)) (datV x y z) [] := by
  refine ⟨2, ?_⟩
  have h := Deep.trod_struct3_mk (enc := enc') (w := w) (base := base) (spare := spare) (held := held) (cs := (v3 x y z).toList) (n := 1) Tryz.underlying24 (by rw [Tryz.cells_Vec]; rfl) (by rw [Tryz.cells_Fix]; exact trod_fix hx) (by rw [Tryz.cells_Fix]; exact trod_fix hy) (by rw [Tryz.cells_Fix]; exact trod_fix hz)
  exact h
theorem open_vec {r : Reach} {b0 : Nat} {v : Value} {d : DataW H} {p : List MemPlace} (hv : Value.okWide Tryz.prog w r b0 24 v) (h : DataW.Trod enc' Tryz.prog w base spare held 24 v d p) :
    ∃ x y z : Int, v = .agg (v3 x y z) ∧ d = datV x y z ∧ p = [] ∧ (Lit.int .i64 x).wf = true ∧ (Lit.int .i64 y).wf = true ∧ (Lit.int .i64 z).wf = true := by
  obtain ⟨cs, rfl, hsz⟩ := okWide_struct Tryz.underlying24 hv
  rw [Tryz.cells_Vec] at hsz
  obtain ⟨fuel, hf⟩ := h
  obtain ⟨y0, y1, y2, m, hx, _, h0, h1, h2⟩ := Deep.trod_struct3 Tryz.underlying24 hf
  obtain ⟨x, hc0, hz0, hw0⟩ := DataW.trod_int Tryz.underlying22 h0
  obtain ⟨y, hc1, hz1, hw1⟩ := DataW.trod_int Tryz.underlying22 h1
  obtain ⟨z, hc2, hz2, hw2⟩ := DataW.trod_int Tryz.underlying22 h2
  subst hz0 hz1 hz2
  simp only [Prod.mk.injEq] at hx
  refine ⟨x, y, z, ?_, hx.1, hx.2, hw0, hw1, hw2⟩
  rw [Tryz.cells_Fix] at hc0 hc1 hc2
  obtain ⟨l⟩ := cs
  match l, hsz with
  | [c0, c1, c2], _ =>
    have e0 : [c0] = [.int .i64 x] := hc0
    have e1 : [c1] = [.int .i64 y] := hc1
    have e2 : [c2] = [.int .i64 z] := hc2
    simp only [List.cons.injEq, and_true] at e0 e1 e2
    subst e0 e1 e2
    rfl
end

end Go.Proofs.YtcbepibdeokboaaGreat

namespace Go.Proofs.YtcbepibdeokboaaGreat
open Go.ChangeShapes Go.WideShapes Go.ChangeAt Go.RowKit
set_option maxRecDepth 4000

theorem Tryz.cells_Mat : Tryz.prog.cellsOf 27 = 9 := by kernel_rfl
theorem Tryz.cells_arr3Vec : Tryz.prog.cellsOf 25 = 9 := by kernel_rfl
section
variable {H : Type} {enc' : TypeId × Value → H} {w : World} {base : Nat} {spare : Nat → Bool} {held : Bool}
/-- The matrix's datum. -/
def datM (X : Nat → Int) : DataW H := .agg [.agg [datV (X 0) (X 1) (X 2), datV (X 3) (X 4) (X 5), datV (X 6) (X 7) (X 8)]]
theorem trod_vec2 {x y z : Int} (hx : (Lit.int .i64 x).wf = true) (hy : (Lit.int .i64 y).wf = true) (hz : (Lit.int .i64 z).wf = true) : DataW.trod enc' Tryz.prog w base spare held 2 24 [.int .i64 x, .int .i64 y, .int .i64 z] = some (datV x y z, []) := by
  have h := Deep.trod_struct3_mk (enc := enc') (w := w) (base := base) (spare := spare) (held := held) (cs := (v3 x y z).toList) (n := 1) Tryz.underlying24 (by rw [Tryz.cells_Vec]; rfl) (by rw [Tryz.cells_Fix]; exact trod_fix hx) (by rw [Tryz.cells_Fix]; exact trod_fix hy) (by rw [Tryz.cells_Fix]; exact trod_fix hz)
  exact h
theorem shut_mat {X : Nat → Int} (hX : ∀ j, (Lit.int .i64 (X j)).wf = true) : DataW.Trod enc' Tryz.prog w base spare held 27 (.agg (m9 X)) (datM X) [] := by
  refine ⟨4, ?_⟩
  have hA : DataW.trod enc' Tryz.prog w base spare held 3 25 (m9 X).toList = some (.agg [datV (X 0) (X 1) (X 2), datV (X 3) (X 4) (X 5), datV (X 6) (X 7) (X 8)], []) := by
    unfold DataW.trod
    rw [Tryz.underlying25]
    simp only [Tryz.cells_arr3Vec, Tryz.cells_Vec]
    rw [if_pos (by rfl), show List.range 3 = [0, 1, 2] from rfl]
    simp [trod_vec2, hX]
  exact trod_struct1_mk (cs := (m9 X).toList) Tryz.underlying27 (by rw [Tryz.cells_Mat]; rfl) (by
    rw [Tryz.cells_arr3Vec]
    exact hA)
theorem open_vec_l {cs : List Value} {fuel : Nat} {x : DataW H × List MemPlace} (hsz : cs.length = 3) (hf : DataW.trod enc' Tryz.prog w base spare held fuel 24 cs = some x) :
    ∃ a b c : Int, cs = [.int .i64 a, .int .i64 b, .int .i64 c] ∧ x = (datV a b c, []) ∧ (Lit.int .i64 a).wf = true ∧ (Lit.int .i64 b).wf = true ∧ (Lit.int .i64 c).wf = true := by
  obtain ⟨y0, y1, y2, m, hx, _, h0, h1, h2⟩ := Deep.trod_struct3 Tryz.underlying24 hf
  obtain ⟨a, hc0, hz0, hw0⟩ := DataW.trod_int Tryz.underlying22 h0
  obtain ⟨b, hc1, hz1, hw1⟩ := DataW.trod_int Tryz.underlying22 h1
  obtain ⟨c, hc2, hz2, hw2⟩ := DataW.trod_int Tryz.underlying22 h2
  subst hz0 hz1 hz2
  refine ⟨a, b, c, ?_, hx, hw0, hw1, hw2⟩
  rw [Tryz.cells_Fix] at hc0 hc1 hc2
  match cs, hsz with
  | [c0, c1, c2], _ =>
    have e0 : [c0] = [.int .i64 a] := hc0
    have e1 : [c1] = [.int .i64 b] := hc1
    have e2 : [c2] = [.int .i64 c] := hc2
    simp only [List.cons.injEq, and_true] at e0 e1 e2
    subst e0 e1 e2
    rfl
/-- Nine numbers by their places. -/
def fn9 (a0 a1 a2 a3 a4 a5 a6 a7 a8 : Int) (j : Nat) : Int := match j with
  | 0 => a0
  | 1 => a1
  | 2 => a2
  | 3 => a3
  | 4 => a4
  | 5 => a5
  | 6 => a6
  | 7 => a7
  | 8 => a8
  | _ => 0
theorem open_mat {r : Reach} {b0 : Nat} {v : Value} {d : DataW H} {p : List MemPlace} (hv : Value.okWide Tryz.prog w r b0 27 v) (h : DataW.Trod enc' Tryz.prog w base spare held 27 v d p) :
    ∃ X : Nat → Int, v = .agg (m9 X) ∧ d = datM X ∧ p = [] ∧ ∀ j, (Lit.int .i64 (X j)).wf = true := by
  obtain ⟨cs, rfl, hsz⟩ := okWide_struct Tryz.underlying27 hv
  rw [Tryz.cells_Mat] at hsz
  obtain ⟨fuel, hf⟩ := h
  obtain ⟨y0, m, hx, _, h0⟩ := trod_struct1 Tryz.underlying27 hf
  obtain ⟨xs, k, _, hy, _, hlen, hi⟩ := DataW.trod_array Tryz.underlying25 h0
  rw [Tryz.cells_Vec] at hi
  rw [Tryz.cells_arr3Vec] at hi
  obtain ⟨l⟩ := cs
  match l, hsz, xs, hlen with
  | [c0, c1, c2, c3, c4, c5, c6, c7, c8], _, [x0, x1, x2], _ =>
    have t0 : DataW.trod enc' Tryz.prog w base spare held k 24 [c0, c1, c2] = some x0 := hi 0 (by decide)
    have t1 : DataW.trod enc' Tryz.prog w base spare held k 24 [c3, c4, c5] = some x1 := hi 1 (by decide)
    have t2 : DataW.trod enc' Tryz.prog w base spare held k 24 [c6, c7, c8] = some x2 := hi 2 (by decide)
    obtain ⟨a0, a1, a2, e0, rfl, u0, u1, u2⟩ := open_vec_l rfl t0
    obtain ⟨a3, a4, a5, e1, rfl, u3, u4, u5⟩ := open_vec_l rfl t1
    obtain ⟨a6, a7, a8, e2, rfl, u6, u7, u8⟩ := open_vec_l rfl t2
    simp only [List.cons.injEq, and_true] at e0 e1 e2
    obtain ⟨rfl, rfl, rfl⟩ := e0
    obtain ⟨rfl, rfl, rfl⟩ := e1
    obtain ⟨rfl, rfl, rfl⟩ := e2
    subst hy
    simp only [Prod.mk.injEq] at hx
    refine ⟨fn9 a0 a1 a2 a3 a4 a5 a6 a7 a8, rfl, ?_, ?_, fun j => ?_⟩
    · exact hx.1
    · exact hx.2
    · match j with
      | 0 => exact u0
      | 1 => exact u1
      | 2 => exact u2
      | 3 => exact u3
      | 4 => exact u4
      | 5 => exact u5
      | 6 => exact u6
      | 7 => exact u7
      | 8 => exact u8
      | _ + 9 => rfl
end

end Go.Proofs.YtcbepibdeokboaaGreat

namespace Go.Proofs.YtcbepibdeokboaaGreat
open Go.ChangeShapes Go.WideShapes Go.ChangeAt Go.RowKit
set_option maxRecDepth 4000

theorem joined_split {P : Program} {f : FuncId} {fn : Func} {s : ChangeSpec} {c : OpenClaim}
  (h : ((c.wf (OpenSpec.ofChange s) && laidOutB P && mapsRowed P &&
  fn.params.all (P.readableRec ·) && namedTie P c.named s.vars) = true) ∧
  (((c.stops == []) && (P.stops == []) && (c.knobs == []) && (P.stopKnobs == [])) = true) ∧
  ((c.inPlace == P.inPlace f) = true) ∧ ((c.unfollowed == P.unfollowed f) = true) ∧ ((c.recurses == P.recurses f) = true) ∧ ((c.named == P.varsNamed f) = true) ∧
  (((c.maps == (fn.params.toList ++ s.plain.varTypes P).any (P.mapsRec ·)) && (c.ifaces == (fn.params.toList ++ s.plain.varTypes P).any (P.ifacesRec ·)) && (c.mapsOut == P.mapsAmong fn.resultTypes.toList) &&
  (c.loops == (fn.params.toList ++ s.plain.varTypes P).any (P.loopsFrom ·)) && (c.wideKeys == (fn.params.toList ++ s.plain.varTypes P ++ fn.resultTypes.toList).any (P.wideKeysFrom ·)) &&
  s.vars.all (P.varReadable ·) && fn.resultTypes.all (fun t => P.readableRec t && decide (t < P.types.size)) && (c.ifacesOut == fn.resultTypes.toList.any (P.ifacesRec ·)) && (c.loopsOut == fn.resultTypes.toList.any (P.loopsFrom ·)) && (c.plainKeys == P.plainKeys) && c.shortTexts.isNone) = true) ∧
  (P.stopsHeard = true) ∧ (P.mayEnter = true) ∧ ((c.lifted == P.liftsFinal) = true) ∧ (((P.make == some c.make) && (c.kinds == (if c.domain.isEmpty then [] else fn.params.toList.map fun t => match P.underlying t with | some (.int k) => some k | _ => none)) && (c.pinned == c.pinnedBy) &&
  (c.veiled == (fn.params.toList ++ s.plain.varTypes P ++ fn.resultTypes.toList).any (P.veiledRec ·)) && c.veiledFits P fn.params.toList (fn.params.toList ++ s.plain.varTypes P ++ fn.resultTypes.toList)) = true)) : joinedFacts P f fn s c = true := by
  simp only [Bool.and_eq_true] at h
  unfold joinedFacts
  simp only [Bool.and_eq_true]
  obtain ⟨⟨⟨⟨⟨a1, a2⟩, a3⟩, a4⟩, a5⟩, ⟨⟨⟨b1, b2⟩, b3⟩, b4⟩, c1, c2, c3, c4, ⟨⟨⟨⟨⟨⟨⟨⟨⟨⟨d1, d2⟩, d3⟩, d4⟩, d5⟩, d6⟩, d7⟩, d8⟩, d9⟩, d10⟩, d11⟩, e1, e2, e3, ⟨⟨⟨⟨f1, f2⟩, f3⟩, f4⟩, f5⟩⟩ := h
  exact ⟨⟨⟨⟨⟨⟨⟨⟨⟨⟨⟨⟨⟨⟨⟨⟨⟨⟨⟨⟨⟨⟨⟨⟨⟨⟨⟨⟨⟨⟨⟨a1, a2⟩, a3⟩, a4⟩, a5⟩, b1⟩, b2⟩, b3⟩, b4⟩, c1⟩, c2⟩, c3⟩, c4⟩, d1⟩, d2⟩, d3⟩, d4⟩, d5⟩, d6⟩, d7⟩, d8⟩, d9⟩, d10⟩, d11⟩, e1⟩, e2⟩, e3⟩, f1⟩, f2⟩, f3⟩, f4⟩, f5⟩
theorem seat_heard : Tryz.pinned.checked.prog.stopsHeard = true := by kernel_rfl
theorem seat_enter : Tryz.pinned.checked.prog.mayEnter = true := by kernel_rfl
theorem seat_lifts : Tryz.pinned.checked.prog.liftsFinal = Rows.matMulRow.lifted := by kernel_rfl
theorem lifts_of {c : OpenClaim} (h : (c.lifted == Rows.matMulRow.lifted) = true) : (c.lifted == Tryz.pinned.checked.prog.liftsFinal) = true := by rw [seat_lifts]; exact h

end Go.Proofs.YtcbepibdeokboaaGreat
