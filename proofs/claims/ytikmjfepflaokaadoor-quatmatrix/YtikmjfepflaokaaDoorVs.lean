/- A vector as an argument: what its reading says of it. -/
import Derived.Test.YtikmjfepflaokaaDoorVa
import Derived.Test.YtikmjfepflaokaaDoorZq
import Derived.Deep.Strs
namespace Go.Proofs.YtikmjfepflaokaaDoor
open Go.ChangeShapes Go.WideShapes Go.ChangeAt Go.RowKit
set_option maxRecDepth 4000

theorem Tryd.cells_Vec : Tryd.prog.cellsOf 26 = 3 := by kernel_rfl
theorem Tryd.cells_Fix : Tryd.prog.cellsOf 22 = 1 := by kernel_rfl
section
variable {H : Type} {enc' : TypeId × Value → H} {w : World} {base : Nat} {spare : Nat → Bool} {held : Bool}

/-- The vector's datum. -/
def datV (x y z : Int) : DataW H := .agg [.lit (.int .i64 x), .lit (.int .i64 y), .lit (.int .i64 z)]
theorem trod_fix {n : Int} (hn : (Lit.int .i64 n).wf = true) : DataW.trod enc' Tryd.prog w base spare held 1 22 [.int .i64 n] = some (.lit (.int .i64 n), []) := by
  unfold DataW.trod
  rw [Tryd.underlying22]
  simp [hn]
theorem shut_vec {x y z : Int} (hx : (Lit.int .i64 x).wf = true) (hy : (Lit.int .i64 y).wf = true) (hz : (Lit.int .i64 z).wf = true) : DataW.Trod enc' Tryd.prog w base spare held 26 (.agg (v3 x y z)) (datV x y z) [] := by
  refine ⟨2, ?_⟩
  have h := Deep.trod_struct3_mk (enc := enc') (w := w) (base := base) (spare := spare) (held := held) (cs := (v3 x y z).toList) (n := 1) Tryd.underlying26 (by rw [Tryd.cells_Vec]; rfl) (by rw [Tryd.cells_Fix]; exact trod_fix hx) (by rw [Tryd.cells_Fix]; exact trod_fix hy) (by rw [Tryd.cells_Fix]; exact trod_fix hz)
  exact h
theorem open_vec {r : Reach} {b0 : Nat} {v : Value} {d : DataW H} {p : List MemPlace} (hv : Value.okWide Tryd.prog w r b0 26 v) (h : DataW.Trod enc' Tryd.prog w base spare held 26 v d p) :
    ∃ x y z : Int, v = .agg (v3 x y z) ∧ d = datV x y z ∧ p = [] ∧ (Lit.int .i64 x).wf = true ∧ (Lit.int .i64 y).wf = true ∧ (Lit.int .i64 z).wf = true := by
  obtain ⟨cs, rfl, hsz⟩ := okWide_struct Tryd.underlying26 hv
  rw [Tryd.cells_Vec] at hsz
  obtain ⟨fuel, hf⟩ := h
  obtain ⟨y0, y1, y2, m, hx, _, h0, h1, h2⟩ := Deep.trod_struct3 Tryd.underlying26 hf
  obtain ⟨x, hc0, hz0, hw0⟩ := DataW.trod_int Tryd.underlying22 h0
  obtain ⟨y, hc1, hz1, hw1⟩ := DataW.trod_int Tryd.underlying22 h1
  obtain ⟨z, hc2, hz2, hw2⟩ := DataW.trod_int Tryd.underlying22 h2
  subst hz0 hz1 hz2
  simp only [Prod.mk.injEq] at hx
  refine ⟨x, y, z, ?_, hx.1, hx.2, hw0, hw1, hw2⟩
  rw [Tryd.cells_Fix] at hc0 hc1 hc2
  obtain ⟨l⟩ := cs
  match l, hsz with
  | [c0, c1, c2], _ =>
    have e0 : [c0] = [.int .i64 x] := hc0
    have e1 : [c1] = [.int .i64 y] := hc1
    have e2 : [c2] = [.int .i64 z] := hc2
    simp only [List.cons.injEq, and_true] at e0 e1 e2
    subst e0 e1 e2
    rfl
end

end Go.Proofs.YtikmjfepflaokaaDoor
