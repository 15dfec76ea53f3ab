/- The contracts of take and giveBack of package wide, and their numbers. -/
import Derived.Test.YtnknejdmoghmiaaWj
import Derived.Test.YtnknejdmoghmiaaWo
namespace Go.Proofs.Ytnknejdmoghmiaa
open Go.RowKit
set_option maxRecDepth 4000

/-- Below B the world is as it was, but for the block g. -/
structure But (B g : Nat) (w w' : World) : Prop where
  os : w'.os = w.os
  tape : w'.tape = w.tape
  output : w'.output = w.output
  size : w.heap.size ≤ w'.heap.size
  block : ∀ k, k < B → k ≠ g → w'.heap[k]? = w.heap[k]?
theorem But.of_below {B g : Nat} {w w' : World} (h : Below B w w') : But B g w w' := ⟨h.os, h.tape, h.output, h.size, fun k hk _ => h.block k hk⟩
theorem But.trans {B g : Nat} {a b c : World} (h : But B g a b) (k : But B g b c) : But B g a c :=
  ⟨k.os.trans h.os, k.tape.trans h.tape, k.output.trans h.output, Nat.le_trans h.size k.size, fun i hi hg => (k.block i hi hg).trans (h.block i hi hg)⟩
theorem But.mono {B B' g : Nat} {w w' : World} (h : But B g w w') (hB : B' ≤ B) : But B' g w w' := ⟨h.os, h.tape, h.output, h.size, fun k hk => h.block k (by omega)⟩
theorem But.below {B B' g : Nat} {w w' : World} (h : But B g w w') (hB : B' ≤ B) (hg : B' ≤ g) : Below B' w w' := ⟨h.os, h.tape, h.output, h.size, fun k hk => h.block k (by omega) (by omega)⟩
theorem But.setCell {B g : Nat} {a w : World} (h : But B g a w) {p : Addr} (hp : p.block = g ∨ B ≤ p.block) (u : Value) : But B g a (w.setCell p u) :=
  h.trans ⟨rfl, rfl, rfl, by simp [World.setCell], fun k hk hg => Below.heap_setCell _ _ _ _ (by omega)⟩
theorem But.drew {B g : Nat} {a w : World} (h : But B g a w) : But B g a w.drew := ⟨h.os, h.tape, h.output, h.size, h.block⟩
theorem Blk.but {w w' : World} {B g k : Nat} {t : TypeId} {cs : Array Value} (h : Blk w k t cs) (hb : But B g w w') (hk : k < B) (hg : k ≠ g) : Blk w' k t cs := (hb.block k hk hg).trans h

theorem multiplier1_y0 (x m c : Nat) (p q : Addr) (w : World) (hx : x < 18446744073709551616) (hm : m < 18446744073709551616) (hc : c < 18446744073709551616)
    (hp : w.cell? p = some (.int .u64 (m : Int))) (hq : w.cell? q = some (.int .u64 (c : Int))) (hz : w.frozen? q = false) :
    Calls Try.prog 177 #[.int .u64 (x : Int), .int .u64 0, .pointer (some p), .pointer (some q)] w fun e w' =>
      e = .returned (.int .u64 (((x * m + c) % 18446744073709551616 : Nat) : Int)) ∧ w' = w.setCell q (.int .u64 (((x * m + c) / 18446744073709551616 : Nat) : Int)) := by
  have h := multiplier1_any x 0 m c p q w hx (by decide) hm hc hp hq hz
  rw [show x * m + 0 + c = x * m + c by omega] at h
  exact h

/-- The window of n + 1 limbs at off, with the first j taken from s. -/
def winF (F : Nat → Int) (off s j p : Nat) : Int := if off ≤ p ∧ p < off + j then lm s (p - off) else F p
theorem winF_zero (F : Nat → Int) (off s p : Nat) : winF F off s 0 p = F p := by unfold winF; rw [if_neg (by omega)]
theorem winF_at (F : Nat → Int) (off s j : Nat) : winF F off s j (off + j) = F (off + j) := by unfold winF; rw [if_neg (by omega)]
theorem winF_set (F : Nat → Int) (off s j n : Nat) (h : off + j < n) (v : Int) (hv : v = lm s j) : (rowF (winF F off s j) n).setIfInBounds (off + j) (.int .u64 v) = rowF (winF F off s (j + 1)) n := by
  rw [rowF_set _ _ _ _ h]
  apply rowF_congr
  intro p _
  unfold winF
  by_cases e : p = off + j
  · subst e
    rw [if_pos rfl, if_pos (by omega), hv, show off + j - off = j by omega]
  · rw [if_neg e]
    by_cases h2 : off ≤ p ∧ p < off + j
    · rw [if_pos h2, if_pos (by omega)]
    · rw [if_neg h2, if_neg (by omega)]

/-- What a round of giveBack knows. V: the window's number; Y: the divisor. -/
structure Gb (w0 : World) (g gy c off V Y : Nat) (F : Nat → Int) (j : Nat) (w : World) : Prop where
  a : Blk w g 161 (rowF (winF F off (V + Y) j) 9)
  y : Blk w gy 128 (cells8 Y)
  cb : Blk w c 37 #[.int .u64 (cy V Y 0 j)]
  o : But w0.heap.size g w0 w
  hg : g < w0.heap.size
  hgy : gy < w0.heap.size
  hne : gy ≠ g
  hc : w0.heap.size ≤ c

theorem Gb.start {w : World} {g gy off V Y : Nat} {F : Nat → Int} (ha : Blk w g 161 (rowF F 9)) (hy : Blk w gy 128 (cells8 Y)) (hne : gy ≠ g) :
    Gb w g gy w.heap.size off V Y F 0 (w.alloc (.cells #[.int .u64 0] 37)) := by
  refine ⟨?_, hy.alloc _, ?_, But.of_below ((Below.refl _ _).alloc (Nat.le_refl _) _), ha.lt, hy.lt, hne, Nat.le_refl _⟩
  · rw [rowF_congr (G := F) (fun p _ => winF_zero F off _ p)]
    exact ha.alloc _
  · rw [cy_zero]
    exact Blk.new _ _ _

theorem Gb.drew {w0 w : World} {g gy c off V Y j : Nat} {F : Nat → Int} (h : Gb w0 g gy c off V Y F j w) : Gb w0 g gy c off V Y F j w.drew := ⟨h.a, h.y, h.cb, h.o.drew, h.hg, h.hgy, h.hne, h.hc⟩

theorem Gb.next {w0 w : World} {g gy c off V Y j : Nat} {F : Nat → Int} (h : Gb w0 g gy c off V Y F j w) (hj : off + j < 9) (u v : Int) (hu : u = cy V Y 0 (j + 1)) (hv : v = lm (V + Y) j) :
    Gb w0 g gy c off V Y F (j + 1) ((w.setCell ⟨c, 0, none⟩ (.int .u64 u)).setCell ⟨g, off + j, none⟩ (.int .u64 v)) := by
  have h1 := h.hg
  have h2 := h.hgy
  have h3 := h.hc
  have h4 := h.hne
  refine ⟨?_, (h.y.other _ _ (by show gy ≠ c; omega)).other _ _ (by show gy ≠ g; omega), ?_, (h.o.setCell (.inr (by show w0.heap.size ≤ c; omega)) _).setCell (.inl rfl) _, h1, h2, h4, h3⟩
  · have := (h.a.other ⟨c, 0, none⟩ (.int .u64 u) (by show g ≠ c; omega)).set (off + j) (.int .u64 v)
    rwa [winF_set F off (V + Y) j 9 hj v hv] at this
  · rw [← hu]
    exact (h.cb.set 0 _).other _ _ (by show c ≠ g; omega)

set_option maxHeartbeats 2000000 in
theorem giveBack_core (g gy off n V Y capA capY : Nat) (F : Nat → Int) (w : World) (ha : Blk w g 161 (rowF F 9)) (hy : Blk w gy 128 (cells8 Y)) (hne : gy ≠ g) (hn : off + n < 9) (hn8 : n ≤ 8)
    (hV : Hid (∀ j, j ≤ n → F (off + j) = lm V j)) (hYn : Hid (lm Y n = 0)) :
    Calls Try.prog 184 #[.slice (some ⟨g, off, none⟩) (n + 1) capA, .slice (some ⟨gy, 0, none⟩) n capY] w fun e w' =>
      e = .returned (.bool (decide (cy V Y 0 (n + 1) = 1))) ∧ Blk w' g 161 (rowF (winF F off (V + Y) (n + 1)) 9) ∧ But w.heap.size g w w' := by
  have HA := hide ha
  have HY := hide hy
  have HN := hide hne
  clear ha hy hne
  go_enter Try.func184, Try.ntmps184
  go_wp2_with (go_at_call 168; refine (adder_any _ _).mono ?_; rintro e w' ⟨he, hw⟩; subst he; subst hw)
  have G0 := hide (Gb.start (off := off) (V := V) (unhide HA) (unhide HY) (unhide HN))
  generalize hcw : w.heap.size = c at G0 ⊢
  have HC := hide hcw
  clear hcw
  go_loopw [10] (fun i wr => ∃ j : Nat, j ≤ n ∧ i = .int .i64 j ∧ Gb w g gy c off V Y F j wr) (fun i _ => n - (intOf i).toNat)
  case atStart => exact ⟨0, by omega, rfl, unhide G0⟩
  case round =>
    obtain ⟨j, hj, rfl, R⟩ := hrel
    have HR := hide R
    have hx : wr.cell? ⟨g, off + j, none⟩ = some (.int .u64 (lm V j)) := by rw [R.a.cell, rowF_get _ _ _ (by omega), winF_at, unhide hV j hj]
    have hf := R.a.frozen (off + j)
    have hc : wr.cell? ⟨c, 0, none⟩ = some (.int .u64 (cy V Y 0 j)) := R.cb.cell 0
    have hcf := R.cb.frozen 0
    have hgc : ¬ g = c := by have := R.hg; have := R.hc; omega
    have hst : ∀ v, (wr.setCell ⟨c, 0, none⟩ v).cell? ⟨g, off + j, none⟩ = some (.int .u64 (lm V j)) := fun v => by
      rw [(R.a.other ⟨c, 0, none⟩ v hgc).cell, rowF_get _ _ _ (by omega), winF_at, unhide hV j hj]
    by_cases hjn : j < n
    · have hji : (j : Int) < (n : Int) := by omega
      have hj2 : (j : Int) < (n : Int) + 1 := by omega
      have hyc : wr.cell? ⟨gy, j, none⟩ = some (.int .u64 (lm Y j)) := by rw [R.y.cell j, cells8_get Y j (by omega)]
      clear R
      go_wp2
      go_region_with (go_at_call 180; refine (adder1_any (lm V j) (lm Y j) (cy V Y 0 j) ⟨c, 0, none⟩ _ (lm_nn _ _) (lm_nn _ _) (cy_nn _ _ _ _) (cy_le _ _ _ _ (by decide)) ?_ ?_).mono ?_; exact hc; exact hcf; rintro e w' ⟨he, hw⟩; subst he; subst hw)
      all_goals
        go_wp2
        go_roundw
        case rel => exact ⟨j + 1, by omega, by go_num, ((unhide HR).next (by omega) _ _ (cy_step _ _ _ _) (by rw [lm_add]; rfl)).drew⟩
        case measure => simp [intOf]; omega
    · have ej : j = n := by omega
      subst ej
      clear R
      go_wp2_with (first
        | (go_at_call_of 180 (lm V j); refine (adder1_any (lm V j) 0 (cy V Y 0 j) ⟨c, 0, none⟩ _ (lm_nn _ _) (Int.le_refl 0) (cy_nn _ _ _ _) (cy_le _ _ _ _ (by decide)) ?_ ?_).mono ?_; exact hc; exact hcf; rintro e w' ⟨he, hw⟩; subst he; subst hw)
        | fail)
      have eu : (lm V j + 0 + cy V Y 0 j) / B64 = cy V Y 0 (j + 1) := by rw [← unhide hYn]; exact cy_step _ _ _ _
      have ev : (lm V j + 0 + cy V Y 0 j) % B64 = lm (V + Y) j := by rw [← unhide hYn, lm_add]; rfl
      have N := hide ((unhide HR).next (by omega) _ _ eu ev)
      rw [Int.add_zero] at N
      have hle := cy_le V Y 0 (j + 1) (by decide)
      have hnn := cy_nn V Y 0 (j + 1)
      refine (adder1_any 0 0 (cy V Y 0 (j + 1)) ⟨c, 0, none⟩ _ (Int.le_refl 0) (Int.le_refl 0) hnn hle ?_ ?_).mono ?_
      · exact (unhide N).cb.cell 0
      · exact (unhide N).cb.frozen 0
      rintro e w' ⟨he, hw⟩
      subst he
      subst hw
      have e0 : ((0 : Int) + 0 + cy V Y 0 (j + 1)) % B64 = cy V Y 0 (j + 1) := by unfold B64; omega
      rw [e0]
      clear e0 eu ev hle hnn
      go_simp
      go_wp2
      go_ret
      refine ⟨?_, ?_, ?_⟩
      · rw [Bool.beq_eq_decide_eq]; rfl
      · exact (unhide N).a.other _ _ hgc
      · have := (unhide N).hc
        exact (unhide N).o.setCell (p := ⟨c, 0, none⟩) (.inr this) _

end Go.Proofs.Ytnknejdmoghmiaa
