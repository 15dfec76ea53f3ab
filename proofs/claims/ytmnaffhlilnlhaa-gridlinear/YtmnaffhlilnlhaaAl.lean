/- A point as an argument: what its reading says of it. -/
import Derived.Test.YtmnaffhlilnlhaaVs
namespace Go.Proofs.Ytmnaffhlilnlhaa
open Go.ChangeShapes Go.WideShapes Go.ChangeAt Go.RowKit
set_option maxRecDepth 4000

theorem Try.cells_Point : Try.prog.cellsOf 26 = 3 := by kernel_rfl
theorem Try.cells_i64 : Try.prog.cellsOf 2 = 1 := by kernel_rfl
section
variable {H : Type} {enc' : TypeId × Value → H} {w : World} {base : Nat} {spare : Nat → Bool} {held : Bool}
theorem trod_i64 {n : Int} (hn : (Lit.int .i64 n).wf = true) : DataW.trod enc' Try.prog w base spare held 1 2 [.int .i64 n] = some (.lit (.int .i64 n), []) := by
  unfold DataW.trod
  rw [Try.underlying2]
  simp [hn]
theorem shut_pt {x y z : Int} (hx : (Lit.int .i64 x).wf = true) (hy : (Lit.int .i64 y).wf = true) (hz : (Lit.int .i64 z).wf = true) : DataW.Trod enc' Try.prog w base spare held 26 (.agg (v3 x y z)) (datV x y z) [] := by
  refine ⟨2, ?_⟩
  have h := Deep.trod_struct3_mk (enc := enc') (w := w) (base := base) (spare := spare) (held := held) (cs := (v3 x y z).toList) (n := 1) Try.underlying26 (by rw [Try.cells_Point]; rfl) (by rw [Try.cells_i64]; exact trod_i64 hx) (by rw [Try.cells_i64]; exact trod_i64 hy) (by rw [Try.cells_i64]; exact trod_i64 hz)
  exact h
theorem open_pt {r : Reach} {b0 : Nat} {v : Value} {d : DataW H} {p : List MemPlace} (hv : Value.okWide Try.prog w r b0 26 v) (h : DataW.Trod enc' Try.prog w base spare held 26 v d p) :
    ∃ x y z : Int, v = .agg (v3 x y z) ∧ d = datV x y z ∧ p = [] ∧ (Lit.int .i64 x).wf = true ∧ (Lit.int .i64 y).wf = true ∧ (Lit.int .i64 z).wf = true := by
  obtain ⟨cs, rfl, hsz⟩ := okWide_struct Try.underlying26 hv
  rw [Try.cells_Point] at hsz
  obtain ⟨fuel, hf⟩ := h
  obtain ⟨y0, y1, y2, m, hx, _, h0, h1, h2⟩ := Deep.trod_struct3 Try.underlying26 hf
  obtain ⟨x, hc0, hz0, hw0⟩ := DataW.trod_int Try.underlying2 h0
  obtain ⟨y, hc1, hz1, hw1⟩ := DataW.trod_int Try.underlying2 h1
  obtain ⟨z, hc2, hz2, hw2⟩ := DataW.trod_int Try.underlying2 h2
  subst hz0 hz1 hz2
  simp only [Prod.mk.injEq] at hx
  refine ⟨x, y, z, ?_, hx.1, hx.2, hw0, hw1, hw2⟩
  rw [Try.cells_i64] at hc0 hc1 hc2
  obtain ⟨l⟩ := cs
  match l, hsz with
  | [c0, c1, c2], _ =>
    have e0 : [c0] = [.int .i64 x] := hc0
    have e1 : [c1] = [.int .i64 y] := hc1
    have e2 : [c2] = [.int .i64 z] := hc2
    simp only [List.cons.injEq, and_true] at e0 e1 e2
    subst e0 e1 e2
    rfl
end

end Go.Proofs.Ytmnaffhlilnlhaa
