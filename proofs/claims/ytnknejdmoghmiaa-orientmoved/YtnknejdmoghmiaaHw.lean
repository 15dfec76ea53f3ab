/- A slice of points as an argument: what its reading says of it. -/
import Derived.Test.YtnknejdmoghmiaaGx
import Derived.Test.YtnknejdmoghmiaaHb
import Derived.Deep.Slices
import Derived.DataReads
import Derived.ChangeOld
import Derived.Carry
namespace Go.Proofs.Ytnknejdmoghmiaa
open Go.ChangeShapes Go.WideShapes Go.ChangeAt Go.RowKit
set_option maxRecDepth 4000

section
variable {H : Type} {enc' : TypeId × Value → H} {w : World} {base : Nat} {spare : Nat → Bool} {held : Bool}
theorem pt_cells {k : Nat} {cs : List Value} {x : DataW H × List MemPlace} (h : DataW.trod enc' Try.prog w base spare held k 26 cs = some x) (hl : cs.length = 3) : ∃ q : Pt, cs = (v3 q.1 q.2.1 q.2.2).toList := by
  obtain ⟨y0, y1, y2, m, hx, _, h0, h1, h2⟩ := Deep.trod_struct3 Try.underlying26 h
  obtain ⟨x, hc0, hz0, hw0⟩ := DataW.trod_int Try.underlying2 h0
  obtain ⟨y, hc1, hz1, hw1⟩ := DataW.trod_int Try.underlying2 h1
  obtain ⟨z, hc2, hz2, hw2⟩ := DataW.trod_int Try.underlying2 h2
  rw [Try.cells_i64] at hc0 hc1 hc2
  refine ⟨(x, y, z), ?_⟩
  match cs, hl with
  | [c0, c1, c2], _ =>
    have e0 : [c0] = [.int .i64 x] := hc0
    have e1 : [c1] = [.int .i64 y] := hc1
    have e2 : [c2] = [.int .i64 z] := hc2
    simp only [List.cons.injEq, and_true] at e0 e1 e2
    subst e0 e1 e2
    rfl
theorem open_pts {r : Reach} {b0 : Nat} {v : Value} {d : DataW H} {p : List MemPlace} (hv : Value.okWide Try.prog w r b0 65 v) (h : DataW.Trod enc' Try.prog w base spare held 65 v d p) :
    ∃ (A : Option Addr) (n c : Nat) (ps : Nat → Pt), v = .slice A n c ∧ n ≤ c ∧ n ≤ 9223372036854775807 ∧ PRow w A n ps ∧ ∀ q ∈ p, q.block < w.heap.size := by
  obtain ⟨A, n, c, rfl⟩ := okWide_slice Try.underlying65 hv
  obtain ⟨fuel, hf⟩ := h
  have hlt := DataW.trod_lt _ _ _ _ hf
  refine ⟨A, n, c, ?_⟩
  rcases Deep.open_slice Try.underlying65 hf with ⟨e, hx⟩ | ⟨a, len, cap, m, k, D, Pl, e, hb, hl, hm, hmm, hx, hel⟩
  · have e' : [Value.slice A n c] = [Value.slice none 0 0] := e
    simp only [List.cons.injEq, and_true, Value.slice.injEq] at e'
    obtain ⟨rfl, rfl, rfl⟩ := e'
    exact ⟨fun _ => (0, 0, 0), rfl, Nat.le_refl _, by decide, .inl rfl, hlt⟩
  · have e' : [Value.slice A n c] = [Value.slice (some a) len cap] := e
    simp only [List.cons.injEq, and_true, Value.slice.injEq] at e'
    obtain ⟨rfl, rfl, rfl⟩ := e'
    have hnm : n ≤ m := by rw [hmm]; split <;> omega
    rcases Nat.eq_zero_or_pos n with h0 | h0
    · exact ⟨fun _ => (0, 0, 0), rfl, hl, Nat.le_trans hl (Nat.le_trans hm (by decide)), .inl h0, hlt⟩
    have hs : a.spot = none := by
      obtain ⟨cs', hcs, ht⟩ := hel 0 (by omega)
      rw [Try.cells_Point] at hcs
      obtain ⟨_, hlen, hat⟩ := World.cells?_some hcs
      obtain ⟨q, rfl⟩ := pt_cells ht hlen
      have := World.cell?_spot ((hat 0 (by decide)).trans (show (v3 q.1 q.2.1 q.2.2).toList[0]? = some (.int .i64 q.1) from rfl))
      unfold Addr.add at this
      simpa using this
    obtain ⟨b, off, sp⟩ := a
    obtain rfl : sp = none := hs
    have each : ∀ i, i < n → ∃ q : Pt, b < w.heap.size ∧ w.rangeAt b (off + i * 3) (v3 q.1 q.2.1 q.2.2).toList := fun i hi => by
      obtain ⟨cs', hcs, ht⟩ := hel i (by omega)
      rw [Try.cells_Point] at hcs
      obtain ⟨_, hlen, hat⟩ := World.cells?_some hcs
      obtain ⟨q, rfl⟩ := pt_cells ht hlen
      refine ⟨q, ?_, ?_⟩
      · have := World.cells?_block hcs (by decide)
        rw [Addr.add_mid] at this
        exact this
      · intro j u hj
        have hj3 : j < 3 := by
          have := (List.getElem?_eq_some_iff.1 hj).1
          simpa using this
        have := (hat j hj3).trans hj
        rw [Addr.add_mid, Addr.add_mid] at this
        exact this
    obtain ⟨ps, hps⟩ := Deep.choose_lt each
    exact ⟨ps, rfl, hl, Nat.le_trans hl (Nat.le_trans hm (by decide)), .inr ⟨b, off, rfl, (hps 0 h0).1, fun i hi => (hps i hi).2⟩, hlt⟩
end

end Go.Proofs.Ytnknejdmoghmiaa
