/- The contracts of take and giveBack of package wide, and their numbers. The contract of take of package wide. -/
import Derived.Test.YtnemedgdhojhdaaGreatWj
import Derived.Test.YtnemedgdhojhdaaGreatWo
namespace Go.Proofs.YtnemedgdhojhdaaGreat
open Go.RowKit
set_option maxRecDepth 4000

/-- Below B the world is as it was, but for the block g. -/
structure But (B g : Nat) (w w' : World) : Prop where
  os : w'.os = w.os
  tape : w'.tape = w.tape
  output : w'.output = w.output
  size : w.heap.size ≤ w'.heap.size
  block : ∀ k, k < B → k ≠ g → w'.heap[k]? = w.heap[k]?
theorem But.of_below {B g : Nat} {w w' : World} (h : Below B w w') : But B g w w' := ⟨h.os, h.tape, h.output, h.size, fun k hk _ => h.block k hk⟩
theorem But.trans {B g : Nat} {a b c : World} (h : But B g a b) (k : But B g b c) : But B g a c :=
  ⟨k.os.trans h.os, k.tape.trans h.tape, k.output.trans h.output, Nat.le_trans h.size k.size, fun i hi hg => (k.block i hi hg).trans (h.block i hi hg)⟩
theorem But.mono {B B' g : Nat} {w w' : World} (h : But B g w w') (hB : B' ≤ B) : But B' g w w' := ⟨h.os, h.tape, h.output, h.size, fun k hk => h.block k (by omega)⟩
theorem But.below {B B' g : Nat} {w w' : World} (h : But B g w w') (hB : B' ≤ B) (hg : B' ≤ g) : Below B' w w' := ⟨h.os, h.tape, h.output, h.size, fun k hk => h.block k (by omega) (by omega)⟩
theorem But.setCell {B g : Nat} {a w : World} (h : But B g a w) {p : Addr} (hp : p.block = g ∨ B ≤ p.block) (u : Value) : But B g a (w.setCell p u) :=
  h.trans ⟨rfl, rfl, rfl, by simp [World.setCell], fun k hk hg => Below.heap_setCell _ _ _ _ (by omega)⟩
theorem But.drew {B g : Nat} {a w : World} (h : But B g a w) : But B g a w.drew := ⟨h.os, h.tape, h.output, h.size, h.block⟩
theorem Blk.but {w w' : World} {B g k : Nat} {t : TypeId} {cs : Array Value} (h : Blk w k t cs) (hb : But B g w w') (hk : k < B) (hg : k ≠ g) : Blk w' k t cs := (hb.block k hk hg).trans h

theorem multiplier1_y0 (x m c : Nat) (p q : Addr) (w : World) (hx : x < 18446744073709551616) (hm : m < 18446744073709551616) (hc : c < 18446744073709551616)
    (hp : w.cell? p = some (.int .u64 (m : Int))) (hq : w.cell? q = some (.int .u64 (c : Int))) (hz : w.frozen? q = false) :
    Calls Tryz.prog 188 #[.int .u64 (x : Int), .int .u64 0, .pointer (some p), .pointer (some q)] w fun e w' =>
      e = .returned (.int .u64 (((x * m + c) % 18446744073709551616 : Nat) : Int)) ∧ w' = w.setCell q (.int .u64 (((x * m + c) / 18446744073709551616 : Nat) : Int)) := by
  have h := multiplier1_any x 0 m c p q w hx (by decide) hm hc hp hq hz
  rw [show x * m + 0 + c = x * m + c by omega] at h
  exact h

/-- The window of n + 1 limbs at off, with the first j taken from s. -/
def winF (F : Nat → Int) (off s j p : Nat) : Int := if off ≤ p ∧ p < off + j then lm s (p - off) else F p
theorem winF_zero (F : Nat → Int) (off s p : Nat) : winF F off s 0 p = F p := by unfold winF; rw [if_neg (by omega)]
theorem winF_at (F : Nat → Int) (off s j : Nat) : winF F off s j (off + j) = F (off + j) := by unfold winF; rw [if_neg (by omega)]
theorem winF_set (F : Nat → Int) (off s j n : Nat) (h : off + j < n) (v : Int) (hv : v = lm s j) : (rowF (winF F off s j) n).setIfInBounds (off + j) (.int .u64 v) = rowF (winF F off s (j + 1)) n := by
  rw [rowF_set _ _ _ _ h]
  apply rowF_congr
  intro p _
  unfold winF
  by_cases e : p = off + j
  · subst e
    rw [if_pos rfl, if_pos (by omega), hv, show off + j - off = j by omega]
  · rw [if_neg e]
    by_cases h2 : off ≤ p ∧ p < off + j
    · rw [if_pos h2, if_pos (by omega)]
    · rw [if_neg h2, if_neg (by omega)]

/-- What a round of giveBack knows. V: the window's number; Y: the divisor. -/
structure Gb (w0 : World) (g gy c off V Y : Nat) (F : Nat → Int) (j : Nat) (w : World) : Prop where
  a : Blk w g 182 (rowF (winF F off (V + Y) j) 9)
  y : Blk w gy 157 (cells8 Y)
  cb : Blk w c 72 #[.int .u64 (cy V Y 0 j)]
  o : But w0.heap.size g w0 w
  hg : g < w0.heap.size
  hgy : gy < w0.heap.size
  hne : gy ≠ g
  hc : w0.heap.size ≤ c

theorem Gb.start {w : World} {g gy off V Y : Nat} {F : Nat → Int} (ha : Blk w g 182 (rowF F 9)) (hy : Blk w gy 157 (cells8 Y)) (hne : gy ≠ g) :
    Gb w g gy w.heap.size off V Y F 0 (w.alloc (.cells #[.int .u64 0] 72)) := by
  refine ⟨?_, hy.alloc _, ?_, But.of_below ((Below.refl _ _).alloc (Nat.le_refl _) _), ha.lt, hy.lt, hne, Nat.le_refl _⟩
  · rw [rowF_congr (G := F) (fun p _ => winF_zero F off _ p)]
    exact ha.alloc _
  · rw [cy_zero]
    exact Blk.new _ _ _

theorem Gb.drew {w0 w : World} {g gy c off V Y j : Nat} {F : Nat → Int} (h : Gb w0 g gy c off V Y F j w) : Gb w0 g gy c off V Y F j w.drew := ⟨h.a, h.y, h.cb, h.o.drew, h.hg, h.hgy, h.hne, h.hc⟩

theorem Gb.next {w0 w : World} {g gy c off V Y j : Nat} {F : Nat → Int} (h : Gb w0 g gy c off V Y F j w) (hj : off + j < 9) (u v : Int) (hu : u = cy V Y 0 (j + 1)) (hv : v = lm (V + Y) j) :
    Gb w0 g gy c off V Y F (j + 1) ((w.setCell ⟨c, 0, none⟩ (.int .u64 u)).setCell ⟨g, off + j, none⟩ (.int .u64 v)) := by
  have h1 := h.hg
  have h2 := h.hgy
  have h3 := h.hc
  have h4 := h.hne
  refine ⟨?_, (h.y.other _ _ (by show gy ≠ c; omega)).other _ _ (by show gy ≠ g; omega), ?_, (h.o.setCell (.inr (by show w0.heap.size ≤ c; omega)) _).setCell (.inl rfl) _, h1, h2, h4, h3⟩
  · have := (h.a.other ⟨c, 0, none⟩ (.int .u64 u) (by show g ≠ c; omega)).set (off + j) (.int .u64 v)
    rwa [winF_set F off (V + Y) j 9 hj v hv] at this
  · rw [← hu]
    exact (h.cb.set 0 _).other _ _ (by show c ≠ g; omega)

set_option maxHeartbeats 2000000 in
theorem giveBack_core (g gy off n V Y capA capY : Nat) (F : Nat → Int) (w : World) (ha : Blk w g 182 (rowF F 9)) (hy : Blk w gy 157 (cells8 Y)) (hne : gy ≠ g) (hn : off + n < 9) (hn8 : n ≤ 8)
    (hV : Hid (∀ j, j ≤ n → F (off + j) = lm V j)) (hYn : Hid (lm Y n = 0)) :
    Calls Tryz.prog 194 #[.slice (some ⟨g, off, none⟩) (n + 1) capA, .slice (some ⟨gy, 0, none⟩) n capY] w fun e w' =>
      e = .returned (.bool (decide (cy V Y 0 (n + 1) = 1))) ∧ Blk w' g 182 (rowF (winF F off (V + Y) (n + 1)) 9) ∧ But w.heap.size g w w' := by
  have HA := hide ha
  have HY := hide hy
  have HN := hide hne
  clear ha hy hne
  go_enter Tryz.func194, Tryz.ntmps194
  go_wp2_with (go_at_call 178; refine (adder_any _ _).mono ?_; rintro e w' ⟨he, hw⟩; subst he; subst hw)
  have G0 := hide (Gb.start (off := off) (V := V) (unhide HA) (unhide HY) (unhide HN))
  generalize hcw : w.heap.size = c at G0 ⊢
  have HC := hide hcw
  clear hcw
  go_loopw [10] (fun i wr => ∃ j : Nat, j ≤ n ∧ i = .int .i64 j ∧ Gb w g gy c off V Y F j wr) (fun i _ => n - (intOf i).toNat)
  case atStart => exact ⟨0, by omega, rfl, unhide G0⟩
  case round =>
    obtain ⟨j, hj, rfl, R⟩ := hrel
    have HR := hide R
    have hx : wr.cell? ⟨g, off + j, none⟩ = some (.int .u64 (lm V j)) := by rw [R.a.cell, rowF_get _ _ _ (by omega), winF_at, unhide hV j hj]
    have hf := R.a.frozen (off + j)
    have hc : wr.cell? ⟨c, 0, none⟩ = some (.int .u64 (cy V Y 0 j)) := R.cb.cell 0
    have hcf := R.cb.frozen 0
    have hgc : ¬ g = c := by have := R.hg; have := R.hc; omega
    have hst : ∀ v, (wr.setCell ⟨c, 0, none⟩ v).cell? ⟨g, off + j, none⟩ = some (.int .u64 (lm V j)) := fun v => by
      rw [(R.a.other ⟨c, 0, none⟩ v hgc).cell, rowF_get _ _ _ (by omega), winF_at, unhide hV j hj]
    by_cases hjn : j < n
    · have hji : (j : Int) < (n : Int) := by omega
      have hj2 : (j : Int) < (n : Int) + 1 := by omega
      have hyc : wr.cell? ⟨gy, j, none⟩ = some (.int .u64 (lm Y j)) := by rw [R.y.cell j, cells8_get Y j (by omega)]
      clear R
      go_wp2
      go_region_with (go_at_call 191; refine (adder1_any (lm V j) (lm Y j) (cy V Y 0 j) ⟨c, 0, none⟩ _ (lm_nn _ _) (lm_nn _ _) (cy_nn _ _ _ _) (cy_le _ _ _ _ (by decide)) ?_ ?_).mono ?_; exact hc; exact hcf; rintro e w' ⟨he, hw⟩; subst he; subst hw)
      all_goals
        go_wp2
        go_roundw
        case rel => exact ⟨j + 1, by omega, by go_num, ((unhide HR).next (by omega) _ _ (cy_step _ _ _ _) (by rw [lm_add]; rfl)).drew⟩
        case measure => simp [intOf]; omega
    · have ej : j = n := by omega
      subst ej
      clear R
      go_wp2_with (first
        | (go_at_call_of 191 (lm V j); refine (adder1_any (lm V j) 0 (cy V Y 0 j) ⟨c, 0, none⟩ _ (lm_nn _ _) (Int.le_refl 0) (cy_nn _ _ _ _) (cy_le _ _ _ _ (by decide)) ?_ ?_).mono ?_; exact hc; exact hcf; rintro e w' ⟨he, hw⟩; subst he; subst hw)
        | fail)
      have eu : (lm V j + 0 + cy V Y 0 j) / B64 = cy V Y 0 (j + 1) := by rw [← unhide hYn]; exact cy_step _ _ _ _
      have ev : (lm V j + 0 + cy V Y 0 j) % B64 = lm (V + Y) j := by rw [← unhide hYn, lm_add]; rfl
      have N := hide ((unhide HR).next (by omega) _ _ eu ev)
      rw [Int.add_zero] at N
      have hle := cy_le V Y 0 (j + 1) (by decide)
      have hnn := cy_nn V Y 0 (j + 1)
      refine (adder1_any 0 0 (cy V Y 0 (j + 1)) ⟨c, 0, none⟩ _ (Int.le_refl 0) (Int.le_refl 0) hnn hle ?_ ?_).mono ?_
      · exact (unhide N).cb.cell 0
      · exact (unhide N).cb.frozen 0
      rintro e w' ⟨he, hw⟩
      subst he
      subst hw
      have e0 : ((0 : Int) + 0 + cy V Y 0 (j + 1)) % B64 = cy V Y 0 (j + 1) := by unfold B64; omega
      rw [e0]
      clear e0 eu ev hle hnn
      go_simp
      go_wp2
      go_ret
      refine ⟨?_, ?_, ?_⟩
      · rw [Bool.beq_eq_decide_eq]; rfl
      · exact (unhide N).a.other _ _ hgc
      · have := (unhide N).hc
        exact (unhide N).o.setCell (p := ⟨c, 0, none⟩) (.inr this) _

end Go.Proofs.YtnemedgdhojhdaaGreat

namespace Go.Proofs.YtnemedgdhojhdaaGreat
open Go.RowKit
set_option maxRecDepth 4000

/-- What a round of take knows. C: the product's complement. -/
structure Tk (w0 : World) (g gy c off V Y q C : Nat) (F : Nat → Int) (j : Nat) (w : World) : Prop where
  a : Blk w g 182 (rowF (winF F off (V + C + 1) j) 9)
  y : Blk w gy 157 (cells8 Y)
  mb : Blk w c 72 #[.int .u64 (q : Int)]
  pb : Blk w (c + 1) 72 #[.int .u64 (mc 0 q Y j : Int)]
  cb : Blk w (c + 1 + 1) 72 #[.int .u64 (cy V C 1 j)]
  o : But w0.heap.size g w0 w
  hg : g < w0.heap.size
  hgy : gy < w0.heap.size
  hne : gy ≠ g
  hc : w0.heap.size ≤ c
theorem Tk.drew {w0 w : World} {g gy c off V Y q C j : Nat} {F : Nat → Int} (h : Tk w0 g gy c off V Y q C F j w) : Tk w0 g gy c off V Y q C F j w.drew := ⟨h.a, h.y, h.mb, h.pb, h.cb, h.o.drew, h.hg, h.hgy, h.hne, h.hc⟩
theorem Tk.start {w : World} {g gy off V Y q C : Nat} {F : Nat → Int} (ha : Blk w g 182 (rowF F 9)) (hy : Blk w gy 157 (cells8 Y)) (hne : gy ≠ g) :
    Tk w g gy w.heap.size off V Y q C F 0 (((w.alloc (.cells #[.int .u64 (q : Int)] 72)).alloc (.cells #[.int .u64 0] 72)).alloc (.cells #[.int .u64 1] 72)) := by
  refine ⟨?_, ((hy.alloc _).alloc _).alloc _, Blk.first3 _ _ _ _ _, ?_, ?_, But.of_below (below3 _ _ _ _), ha.lt, hy.lt, hne, Nat.le_refl _⟩
  · rw [rowF_congr (G := F) (fun p _ => winF_zero F off _ p)]
    exact ((ha.alloc _).alloc _).alloc _
  · rw [mc_zero]
    exact Blk.second3 _ _ _ _ _
  · rw [cy_zero]
    exact Blk.third3 _ _ _ _ _
theorem Tk.next {w0 w : World} {g gy c off V Y q C j : Nat} {F : Nat → Int} (h : Tk w0 g gy c off V Y q C F j w) (hj : off + j < 9) (p : Nat) (u v : Int) (hp : p = mc 0 q Y (j + 1)) (hu : u = cy V C 1 (j + 1)) (hv : v = lm (V + C + 1) j) :
    Tk w0 g gy c off V Y q C F (j + 1) (((w.setCell ⟨c + 1, 0, none⟩ (.int .u64 (p : Int))).setCell ⟨c + 1 + 1, 0, none⟩ (.int .u64 u)).setCell ⟨g, off + j, none⟩ (.int .u64 v)) := by
  have h1 := h.hg
  have h2 := h.hgy
  have h3 := h.hc
  have h4 := h.hne
  refine ⟨?_, ((h.y.other _ _ (by show gy ≠ c + 1; omega)).other _ _ (by show gy ≠ c + 1 + 1; omega)).other _ _ (by show gy ≠ g; omega),
    ((h.mb.other _ _ (by show c ≠ c + 1; omega)).other _ _ (by show c ≠ c + 1 + 1; omega)).other _ _ (by show c ≠ g; omega), ?_, ?_,
    ((h.o.setCell (.inr (by show w0.heap.size ≤ c + 1; omega)) _).setCell (.inr (by show w0.heap.size ≤ c + 1 + 1; omega)) _).setCell (.inl rfl) _, h1, h2, h4, h3⟩
  · have := ((h.a.other ⟨c + 1, 0, none⟩ (.int .u64 (p : Int)) (by show g ≠ c + 1; omega)).other ⟨c + 1 + 1, 0, none⟩ (.int .u64 u) (by show g ≠ c + 1 + 1; omega)).set (off + j) (.int .u64 v)
    rwa [winF_set F off (V + C + 1) j 9 hj v hv] at this
  · rw [← hp]
    exact ((h.pb.set 0 _).other _ _ (by show c + 1 ≠ c + 1 + 1; omega)).other _ _ (by show c + 1 ≠ g; omega)
  · rw [← hu]
    exact ((h.cb.other _ _ (by show c + 1 + 1 ≠ c + 1; omega)).set 0 _).other _ _ (by show c + 1 + 1 ≠ g; omega)

/-- What is carried out of the product's limbs. -/
theorem mc_end (q Y n : Nat) (hq : q < 18446744073709551616) (hY : Y < 2 ^ (64 * n)) : mc 0 q Y n = lmN (q * Y) n ∧ mc 0 q Y (n + 1) = 0 := by
  have hN : 0 < 2 ^ (64 * n) := Nat.pow_pos (by decide)
  have hlt : q * Y < 2 ^ (64 * n) * 18446744073709551616 := by
    have h1 : q * Y ≤ 18446744073709551615 * (2 ^ (64 * n) - 1) := Nat.mul_le_mul (by omega) (by omega)
    generalize 2 ^ (64 * n) = N at *
    omega
  have hY' : Y < 2 ^ (64 * (n + 1)) := by rw [pow_step]; generalize 2 ^ (64 * n) = N at *; omega
  constructor
  · unfold mc lmN
    rw [Nat.mod_eq_of_lt hY, Nat.zero_mod, Nat.zero_add, Nat.mod_eq_of_lt]
    rw [Nat.div_lt_iff_lt_mul hN, Nat.mul_comm 18446744073709551616]; exact hlt
  · unfold mc
    rw [Nat.mod_eq_of_lt hY', Nat.zero_mod, Nat.zero_add, pow_step, Nat.div_eq_of_lt hlt]

set_option maxHeartbeats 1000000 in
theorem take_core (g gy off n V Y q C capA capY : Nat) (F : Nat → Int) (w : World) (ha : Blk w g 182 (rowF F 9)) (hy : Blk w gy 157 (cells8 Y)) (hne : gy ≠ g) (hn : off + n < 9) (hn8 : n ≤ 8)
    (hV : Hid (∀ j, j ≤ n → F (off + j) = lm V j)) (hq : Hid (q < 18446744073709551616)) (hYn : Hid (Y < 2 ^ (64 * n))) (hC : Hid (∀ j, j ≤ n → bits .xor .u64 IntKind.u64.max (lmN (q * Y) j : Int) = lm C j)) :
    Calls Tryz.prog 193 #[.slice (some ⟨g, off, none⟩) (n + 1) capA, .slice (some ⟨gy, 0, none⟩) n capY, .int .u64 (q : Int)] w fun e w' =>
      e = .returned (.bool (decide (cy V C 1 (n + 1) = 0))) ∧ Blk w' g 182 (rowF (winF F off (V + C + 1) (n + 1)) 9) ∧ But w.heap.size g w w' := by
  have HA := hide ha
  have HY := hide hy
  have HN := hide hne
  clear ha hy hne
  have hM : Hid (∀ j W, j ≤ n → W.cell? ⟨w.heap.size, 0, none⟩ = some (.int .u64 (q : Int)) → W.cell? ⟨w.heap.size + 1, 0, none⟩ = some (.int .u64 (mc 0 q Y j : Int)) → W.frozen? ⟨w.heap.size + 1, 0, none⟩ = false →
      Calls Tryz.prog 188 #[.int .u64 (lmN Y j : Int), .int .u64 0, .pointer (some ⟨w.heap.size, 0, none⟩), .pointer (some ⟨w.heap.size + 1, 0, none⟩)] W fun e w' =>
        e = .returned (.int .u64 (lmN (q * Y) j : Int)) ∧ w' = W.setCell ⟨w.heap.size + 1, 0, none⟩ (.int .u64 (mc 0 q Y (j + 1) : Int))) := by
    intro j W _ h1 h2 h3
    have h := multiplier1_y0 (lmN Y j) q (mc 0 q Y j) _ _ W (lmN_lt _ _) (unhide hq) (mc_lt _ _ _ _ (unhide hq)) h1 h2 h3
    have e1 := mc_lm 0 q Y j
    have e2 := mc_step 0 q Y j
    simp only [Nat.zero_div, Nat.zero_mod, Nat.add_zero, Nat.zero_add] at e1 e2
    unfold lmN at h ⊢
    rw [e1, e2] at h
    exact h
  go_enter Tryz.func193, Tryz.ntmps193
  go_wp2_with (first
    | (go_at_call 177; refine (multiplier_any _ _).mono ?_; rintro e w' ⟨he, hw⟩; subst he; subst hw)
    | (go_at_call 178; refine (adder_any _ _).mono ?_; rintro e w' ⟨he, hw⟩; subst he; subst hw))
  have G0 := hide (Tk.start (off := off) (V := V) (q := q) (C := C) (unhide HA) (unhide HY) (unhide HN))
  generalize hcw : w.heap.size = c at G0 hM ⊢
  have HC := hide hcw
  clear hcw
  go_loopw [15] (fun i wr => ∃ j : Nat, j ≤ n ∧ i = .int .i64 j ∧ Tk w g gy c off V Y q C F j wr) (fun i _ => n - (intOf i).toNat)
  case atStart => exact ⟨0, by omega, rfl, unhide G0⟩
  case round =>
    obtain ⟨j, hj, rfl, R⟩ := hrel
    have HR := hide R
    have hx : wr.cell? ⟨g, off + j, none⟩ = some (.int .u64 (lm V j)) := by rw [R.a.cell, rowF_get _ _ _ (by omega), winF_at, unhide hV j hj]
    have hf := R.a.frozen (off + j)
    have hm : wr.cell? ⟨c, 0, none⟩ = some (.int .u64 (q : Int)) := R.mb.cell 0
    have hp : wr.cell? ⟨c + 1, 0, none⟩ = some (.int .u64 (mc 0 q Y j : Int)) := R.pb.cell 0
    have hpf := R.pb.frozen 0
    have hc : wr.cell? ⟨c + 1 + 1, 0, none⟩ = some (.int .u64 (cy V C 1 j)) := R.cb.cell 0
    have hcf := R.cb.frozen 0
    have hg1 : g ≠ c + 1 := by have := R.hg; have := R.hc; omega
    have hg2 : g ≠ c + 1 + 1 := by have := R.hg; have := R.hc; omega
    have hs1 : ∀ v, (wr.setCell ⟨c + 1, 0, none⟩ v).cell? ⟨g, off + j, none⟩ = some (.int .u64 (lm V j)) := fun v => by
      rw [(R.a.other ⟨c + 1, 0, none⟩ v hg1).cell, rowF_get _ _ _ (by omega), winF_at, unhide hV j hj]
    have hs2 : ∀ v u, ((wr.setCell ⟨c + 1, 0, none⟩ v).setCell ⟨c + 1 + 1, 0, none⟩ u).cell? ⟨g, off + j, none⟩ = some (.int .u64 (lm V j)) := fun v u => by
      rw [((R.a.other ⟨c + 1, 0, none⟩ v hg1).other ⟨c + 1 + 1, 0, none⟩ u hg2).cell, rowF_get _ _ _ (by omega), winF_at, unhide hV j hj]
    have hs3 : ∀ v, (wr.setCell ⟨c + 1, 0, none⟩ v).cell? ⟨c + 1 + 1, 0, none⟩ = some (.int .u64 (cy V C 1 j)) := fun v => (R.cb.other ⟨c + 1, 0, none⟩ v (by show c + 1 + 1 ≠ c + 1; omega)).cell 0
    have hs4 : ∀ v, (wr.setCell ⟨c + 1, 0, none⟩ v).frozen? ⟨c + 1 + 1, 0, none⟩ = false := fun v => (R.cb.other ⟨c + 1, 0, none⟩ v (by show c + 1 + 1 ≠ c + 1; omega)).frozen 0
    have HX := hide (unhide hC j hj)
    by_cases hjn : j < n
    · have hji : (j : Int) < (n : Int) := by omega
      have hj2 : (j : Int) < (n : Int) + 1 := by omega
      have hyc : wr.cell? ⟨gy, j, none⟩ = some (.int .u64 (lmN Y j : Int)) := by rw [R.y.cell j, cells8_get Y j (by omega)]; rfl
      clear R hg1 hg2
      go_wp2
      go_region_with (first
        | (go_at_call 188; refine (unhide hM j _ hj ?_ ?_ ?_).mono ?_; exact hm; exact hp; exact hpf; rintro e w' ⟨he, hw⟩; subst he; subst hw)
        | (go_at_call 191; refine (adder1_any (lm V j) _ (cy V C 1 j) ⟨c + 1 + 1, 0, none⟩ _ (lm_nn _ _) (bits_nn _ _ _) (cy_nn _ _ _ _) (cy_le _ _ _ _ (by decide)) ?_ ?_).mono ?_; exact hs3 _; exact hs4 _; rintro e w' ⟨he, hw⟩; subst he; subst hw))
      all_goals
        go_wp2
        go_roundw
        case rel => exact ⟨j + 1, by omega, by go_num, ((unhide HR).next (by omega) _ _ _ rfl (by rw [unhide HX, cy_step]) (by rw [unhide HX, lm_add])).drew⟩
        case measure => simp [intOf]; omega
    · have ej : j = n := by omega
      subst ej
      clear R
      obtain ⟨m1, m2⟩ := mc_end q Y j (unhide hq) (unhide hYn)
      have HM2 := hide m2
      have hM0 : Hid (∀ W, W.cell? ⟨c, 0, none⟩ = some (.int .u64 (q : Int)) → W.cell? ⟨c + 1, 0, none⟩ = some (.int .u64 (mc 0 q Y j : Int)) → W.frozen? ⟨c + 1, 0, none⟩ = false →
          Calls Tryz.prog 188 #[.int .u64 0, .int .u64 0, .pointer (some ⟨c, 0, none⟩), .pointer (some ⟨c + 1, 0, none⟩)] W fun e w' =>
            e = .returned (.int .u64 (lmN (q * Y) j : Int)) ∧ w' = W.setCell ⟨c + 1, 0, none⟩ (.int .u64 ((0 : Nat) : Int))) := by
        intro W h1 h2 h3
        have h := multiplier1_zero q (mc 0 q Y j) _ _ W (unhide hq) (mc_lt _ _ _ _ (unhide hq)) h1 h2 h3
        rw [m1] at h
        exact h
      clear m1 m2
      go_wp2_with fail
      go_region_with (first
        | (go_at_call 188; refine (unhide hM0 _ ?_ ?_ ?_).mono ?_; exact hm; exact hp; exact hpf; rintro e w' ⟨he, hw⟩; subst he; subst hw)
        | (go_at_call 191; refine (adder1_any (lm V j) _ (cy V C 1 j) ⟨c + 1 + 1, 0, none⟩ _ (lm_nn _ _) (bits_nn _ _ _) (cy_nn _ _ _ _) (cy_le _ _ _ _ (by decide)) ?_ ?_).mono ?_; exact hs3 _; exact hs4 _; rintro e w' ⟨he, hw⟩; subst he; subst hw))
      all_goals
        have N := hide ((unhide HR).next (by omega) 0 ((lm V j + bits .xor .u64 IntKind.u64.max (lmN (q * Y) j : Int) + cy V C 1 j) / B64) ((lm V j + bits .xor .u64 IntKind.u64.max (lmN (q * Y) j : Int) + cy V C 1 j) % B64) (unhide HM2).symm (by rw [unhide HX, cy_step]) (by rw [unhide HX, lm_add]))
        have hle := cy_le V C 1 (j + 1) (by decide)
        have hnn := cy_nn V C 1 (j + 1)
        rw [show ((0 : Nat) : Int) = 0 from rfl] at N
        go_wp2_with fail
        refine (adder1_any 0 0 (cy V C 1 (j + 1)) ⟨c + 1 + 1, 0, none⟩ _ (Int.le_refl 0) (Int.le_refl 0) hnn hle ?_ ?_).mono ?_
        · exact (unhide N).cb.drew.cell 0
        · exact (unhide N).cb.drew.frozen 0
        rintro e w' ⟨he, hw⟩
        subst he
        subst hw
        have e0 : ((0 : Int) + 0 + cy V C 1 (j + 1)) % B64 = cy V C 1 (j + 1) := by unfold B64; omega
        rw [e0]
        clear e0 hle hnn
        go_simp
        go_wp2
        go_ret
        refine ⟨?_, ?_, ?_⟩
        · rw [Bool.beq_eq_decide_eq]; rfl
        · exact ((unhide N).a.other _ _ hg2).drew
        · have := (unhide N).hc
          exact ((unhide N).o.setCell (p := ⟨c + 1 + 1, 0, none⟩) (.inr (by show w.heap.size ≤ c + 1 + 1; omega)) _).drew

end Go.Proofs.YtnemedgdhojhdaaGreat
