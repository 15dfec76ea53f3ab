/- Masses and shapes as arguments: what their reading says of them. -/
import Derived.Test.YtnemedgdhojhdaaGreatGx
import Derived.Test.YtnemedgdhojhdaaGreatIj
import Derived.Deep.Slices
import Derived.DataReads
import Derived.ChangeOld
import Derived.Carry
namespace Go.Proofs.YtnemedgdhojhdaaGreat
open Go.ChangeShapes Go.WideShapes Go.ChangeAt Go.RowKit
set_option maxRecDepth 4000

theorem cells_ShapeI : Tryz.prog.cellsOf 27 = 6 := by kernel_rfl
theorem cells_MassI : Tryz.prog.cellsOf 46 = 4 := by kernel_rfl
theorem cells_VecI : Tryz.prog.cellsOf 24 = 3 := by kernel_rfl
theorem cells_FixI : Tryz.prog.cellsOf 22 = 1 := by kernel_rfl
theorem cells_intI : Tryz.prog.cellsOf 3 = 1 := by kernel_rfl
theorem cells_VecsI : Tryz.prog.cellsOf 25 = 1 := by kernel_rfl
/-- What is known of a shape that is an argument. -/
structure ShOk (w : World) (kd rr x y z : Int) (A : Option Addr) (n cp : Nat) (ps : Nat → Pt) : Prop where
  hk : I64 kd
  hr : I64 rr
  hx : I64 x
  hy : I64 y
  hz : I64 z
  hc : n ≤ cp
  hn : n ≤ 9223372036854775807
  hP : PRow w A n ps
  hI : pI64 n ps
  hA : A = none → cp = 0
section
variable {H : Type} {enc' : TypeId × Value → H} {w : World} {base : Nat} {spare : Nat → Bool} {held : Bool}
theorem trod_struct4 {t : TypeId} {f0 f1 f2 f3 : Field} {fuel : Nat} {cs : List Value} {x : DataW H × List MemPlace} (ht : Tryz.prog.underlying t = some (.struct #[f0, f1, f2, f3])) (h : DataW.trod enc' Tryz.prog w base spare held fuel t cs = some x) :
    ∃ y0 y1 y2 y3 n, DataW.trod enc' Tryz.prog w base spare held n f0.type ((cs.drop f0.offset).take (Tryz.prog.cellsOf f0.type)) = some y0 ∧
      DataW.trod enc' Tryz.prog w base spare held n f1.type ((cs.drop f1.offset).take (Tryz.prog.cellsOf f1.type)) = some y1 ∧ DataW.trod enc' Tryz.prog w base spare held n f2.type ((cs.drop f2.offset).take (Tryz.prog.cellsOf f2.type)) = some y2 ∧
      DataW.trod enc' Tryz.prog w base spare held n f3.type ((cs.drop f3.offset).take (Tryz.prog.cellsOf f3.type)) = some y3 := by
  obtain ⟨xs, n, _, rfl, hl, hlen, hf⟩ := DataW.trod_struct ht h
  match xs, hlen with
  | [y0, y1, y2, y3], _ => exact ⟨y0, y1, y2, y3, n, by simpa using hf 0 f0 rfl, by simpa using hf 1 f1 rfl, by simpa using hf 2 f2 rfl, by simpa using hf 3 f3 rfl⟩
theorem open_vecI {cs : List Value} {fuel : Nat} {x : DataW H × List MemPlace} (hsz : cs.length = 3) (hf : DataW.trod enc' Tryz.prog w base spare held fuel 24 cs = some x) :
    ∃ a b c : Int, cs = [.int .i64 a, .int .i64 b, .int .i64 c] ∧ I64 a ∧ I64 b ∧ I64 c := by
  obtain ⟨y0, y1, y2, m, hx, _, h0, h1, h2⟩ := Deep.trod_struct3 Tryz.underlying24 hf
  obtain ⟨a, hc0, hz0, hw0⟩ := DataW.trod_int Tryz.underlying22 h0
  obtain ⟨b, hc1, hz1, hw1⟩ := DataW.trod_int Tryz.underlying22 h1
  obtain ⟨c, hc2, hz2, hw2⟩ := DataW.trod_int Tryz.underlying22 h2
  refine ⟨a, b, c, ?_, I64.wf hw0, I64.wf hw1, I64.wf hw2⟩
  rw [cells_FixI] at hc0 hc1 hc2
  match cs, hsz with
  | [c0, c1, c2], _ =>
    have e0 : [c0] = [.int .i64 a] := hc0
    have e1 : [c1] = [.int .i64 b] := hc1
    have e2 : [c2] = [.int .i64 c] := hc2
    simp only [List.cons.injEq, and_true] at e0 e1 e2
    subst e0 e1 e2
    rfl
theorem open_mass {r : Reach} {b0 : Nat} {v : Value} {d : DataW H} {p : List MemPlace} (hv : Value.okWide Tryz.prog w r b0 46 v) (h : DataW.Trod enc' Tryz.prog w base spare held 46 v d p) :
    ∃ m x y z : Int, v = .agg (ms m x y z) ∧ (I64 m ∧ I64 x ∧ I64 y ∧ I64 z) ∧ ∀ q ∈ p, q.block < w.heap.size := by
  obtain ⟨cs, rfl, hsz⟩ := okWide_struct Tryz.underlying46 hv
  rw [cells_MassI] at hsz
  obtain ⟨fuel, hf⟩ := h
  have hlt := DataW.trod_lt _ _ _ _ hf
  obtain ⟨y0, y1, k, _, _, h0, h1⟩ := trod_struct2 Tryz.underlying46 hf
  obtain ⟨m, hc0, hz0, hw0⟩ := DataW.trod_int Tryz.underlying22 h0
  rw [cells_FixI] at hc0
  rw [cells_VecI] at h1
  obtain ⟨l⟩ := cs
  match l, hsz with
  | [c0, c1, c2, c3], _ =>
    have e0 : [c0] = [.int .i64 m] := hc0
    have t1 : DataW.trod enc' Tryz.prog w base spare held k 24 [c1, c2, c3] = some y1 := h1
    obtain ⟨x, y, z, e1, u0, u1, u2⟩ := open_vecI rfl t1
    simp only [List.cons.injEq, and_true] at e0 e1
    obtain ⟨rfl, rfl, rfl⟩ := e1
    subst e0
    exact ⟨m, x, y, z, rfl, ⟨I64.wf hw0, u0, u1, u2⟩, hlt⟩
theorem open_shape {r : Reach} {b0 : Nat} {v : Value} {d : DataW H} {p : List MemPlace} (hv : Value.okWide Tryz.prog w r b0 27 v) (h : DataW.Trod enc' Tryz.prog w base spare held 27 v d p) :
    ∃ (kd rr x y z : Int) (A : Option Addr) (n cp : Nat) (ps : Nat → Pt), v = .agg (sh kd rr x y z A n cp) ∧ ShOk w kd rr x y z A n cp ps ∧ ∀ q ∈ p, q.block < w.heap.size := by
  obtain ⟨cs, rfl, hsz⟩ := okWide_struct Tryz.underlying27 hv
  rw [cells_ShapeI] at hsz
  obtain ⟨fuel, hf⟩ := h
  have hlt := DataW.trod_lt _ _ _ _ hf
  obtain ⟨y0, y1, y2, y3, k, h0, h1, h2, h3⟩ := trod_struct4 Tryz.underlying27 hf
  obtain ⟨kd, hc0, _, hw0⟩ := DataW.trod_int Tryz.underlying3 h0
  obtain ⟨rr, hc1, _, hw1⟩ := DataW.trod_int Tryz.underlying22 h1
  rw [cells_intI] at hc0
  rw [cells_FixI] at hc1
  rw [cells_VecI] at h2
  rw [cells_VecsI] at h3
  obtain ⟨l⟩ := cs
  match l, hsz with
  | [c0, c1, c2, c3, c4, c5], _ =>
    have e0 : [c0] = [.int .i64 kd] := hc0
    have e1 : [c1] = [.int .i64 rr] := hc1
    have t2 : DataW.trod enc' Tryz.prog w base spare held k 24 [c2, c3, c4] = some y2 := h2
    have t3 : DataW.trod enc' Tryz.prog w base spare held k 25 [c5] = some y3 := h3
    obtain ⟨x, y, z, e2, u0, u1, u2⟩ := open_vecI rfl t2
    simp only [List.cons.injEq, and_true] at e0 e1 e2
    obtain ⟨rfl, rfl, rfl⟩ := e2
    subst e0 e1
    rcases Deep.open_slice Tryz.underlying25 t3 with ⟨e, hx⟩ | ⟨a, len, cap, m, j, D, Pl, e, hb, hl, hm, hmm, hx, hel⟩
    · simp only [List.cons.injEq, and_true] at e
      subst e
      exact ⟨kd, rr, x, y, z, none, 0, 0, fun _ => (0, 0, 0), rfl, ⟨I64.wf hw0, I64.wf hw1, u0, u1, u2, Nat.le_refl _, by decide, .inl rfl, fun i hi => absurd hi (Nat.not_lt_zero i), fun _ => rfl⟩, hlt⟩
    · simp only [List.cons.injEq, and_true] at e
      subst e
      have hnm : len ≤ m := by rw [hmm]; split <;> omega
      have hmax : len ≤ 9223372036854775807 := Nat.le_trans hl (Nat.le_trans hm (by decide))
      rcases Nat.eq_zero_or_pos len with hz | hz
      · exact ⟨kd, rr, x, y, z, some a, len, cap, fun _ => (0, 0, 0), rfl, ⟨I64.wf hw0, I64.wf hw1, u0, u1, u2, hl, hmax, .inl hz, fun i hi => by omega, fun h => by cases h⟩, hlt⟩
      have hs : a.spot = none := by
        obtain ⟨cs', hcs, ht⟩ := hel 0 (by omega)
        rw [cells_VecI] at hcs
        obtain ⟨_, hlen, hat⟩ := World.cells?_some hcs
        obtain ⟨q0, q1, q2, rfl, _⟩ := open_vecI hlen ht
        have := World.cell?_spot ((hat 0 (by decide)).trans (show [Value.int .i64 q0, .int .i64 q1, .int .i64 q2][0]? = some (.int .i64 q0) from rfl))
        unfold Addr.add at this
        simpa using this
      obtain ⟨b, off, sp⟩ := a
      obtain rfl : sp = none := hs
      have each : ∀ i, i < len → ∃ q : Pt, (b < w.heap.size ∧ w.rangeAt b (off + i * 3) (v3 q.1 q.2.1 q.2.2).toList) ∧ I64 q.1 ∧ I64 q.2.1 ∧ I64 q.2.2 := fun i hi => by
        obtain ⟨cs', hcs, ht⟩ := hel i (by omega)
        rw [cells_VecI] at hcs
        obtain ⟨_, hlen, hat⟩ := World.cells?_some hcs
        obtain ⟨q0, q1, q2, rfl, v0, v1, v2⟩ := open_vecI hlen ht
        refine ⟨(q0, q1, q2), ⟨?_, ?_⟩, v0, v1, v2⟩
        · have := World.cells?_block hcs (by decide)
          rw [Addr.add_mid] at this
          exact this
        · intro j u hj
          have hj3 : j < 3 := by
            have := (List.getElem?_eq_some_iff.1 hj).1
            simpa using this
          have := (hat j hj3).trans hj
          rw [Addr.add_mid, Addr.add_mid] at this
          exact this
      obtain ⟨ps, hps⟩ := Deep.choose_lt each
      exact ⟨kd, rr, x, y, z, some ⟨b, off, none⟩, len, cap, ps, rfl, ⟨I64.wf hw0, I64.wf hw1, u0, u1, u2, hl, hmax, .inr ⟨b, off, rfl, (hps 0 hz).1.1, fun i hi => (hps i hi).1.2⟩, fun i hi => (hps i hi).2, fun h => by cases h⟩, hlt⟩
end

end Go.Proofs.YtnemedgdhojhdaaGreat
