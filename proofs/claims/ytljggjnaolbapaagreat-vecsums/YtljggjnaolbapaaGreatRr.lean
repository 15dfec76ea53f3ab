/- The document's Sqrt: as by hand, two bits at a time. -/
import Derived.Test.YtljggjnaolbapaaGreatRq
namespace Go.Proofs.YtljggjnaolbapaaGreat
open Go.RowKit
set_option maxRecDepth 4000

theorem appendN {w : World} {ops : Array Oper} {rest : List Oper} {o : Oper} {a : Act} {Q : Exit → Act → World → Prop} (s x : Operand) (N : Nat) {p q n m cap c : Nat} {f h : Nat → Int}
    (hf : Row w p n f) (hh : Row w q m h) (hN : n + m = N) (hg : o.guard = none) (hop : o.op = Op.call { callee := Callee.builtin Builtin.append, args := #[s, x], argTypes := #[115, 115] })
    (hs : a.eval s = .slice (some ⟨p, 0, none⟩) n cap) (hx : a.eval x = .slice (some ⟨q, 0, none⟩) m c) (hfull : cap < N) (hb : N ≤ 4000) (hm : 0 < m)
    (hK : ∀ g cap' w', w.heap.size ≤ g → N ≤ cap' → Row w' g N (after n f h) → Below w.heap.size w w' → wpList Tryz.prog ops Q rest (a.put o.dst (.slice (some ⟨g, 0, none⟩) N cap')) w') :
    wpList Tryz.prog ops Q (o :: rest) a w := by
  subst hN
  exact appendB s x hf hh hg hop hs hx hfull hb hm hK
theorem Row.new2 (w : World) (a b : Int) (f : Nat → Int) (h0 : f 0 = a) (h1 : f 1 = b) : Row (w.alloc (.cells #[.int .i64 a, .int .i64 b] 3)) w.heap.size 2 f := by
  refine ⟨by simp, fun k hk => ?_⟩
  rw [(Blk.new w 3 _).cell k]
  rcases (show k = 0 ∨ k = 1 by omega) with rfl | rfl
  · rw [h0]; rfl
  · rw [h1]; rfl
theorem Row.new1 (w : World) (a : Int) (f : Nat → Int) (h0 : f 0 = a) : Row (w.alloc (.cells #[.int .i64 a] 3)) w.heap.size 1 f := by
  refine ⟨by simp, fun k hk => ?_⟩
  rw [(Blk.new w 3 _).cell k]
  rcases (show k = 0 by omega) with rfl
  rw [h0]; rfl
theorem bz_cons (z b : Int) (hb : b = 0 ∨ b = 1) (k : Nat) : bz (2 * z + b) k = after 1 (fun _ => b) (bz z) k := by
  unfold after
  by_cases h : k < 1
  · rw [if_pos h, show k = 0 by omega, bz_bit0]; show _ = b; omega
  · obtain ⟨j, rfl⟩ : ∃ j, k = j + 1 := ⟨k - 1, by omega⟩
    rw [if_neg h, bz_succ, show (2 * z + b) / 2 = z by omega, Nat.add_sub_cancel]
def two (a b : Int) (k : Nat) : Int := if k = 0 then a else b
theorem bz_cons2 (z a b : Int) (ha : a = 0 ∨ a = 1) (hb : b = 0 ∨ b = 1) (k : Nat) : bz (4 * z + 2 * b + a) k = after 2 (two a b) (bz z) k := by
  rw [show 4 * z + 2 * b + a = 2 * (2 * z + b) + a by omega, bz_cons _ _ ha]
  unfold after two
  by_cases h : k < 1
  · rw [if_pos h, if_pos (by omega), if_pos (by omega)]
  · rw [if_neg h]
    have := bz_cons z b hb (k - 1)
    rw [this]
    unfold after
    by_cases h2 : k < 2
    · rw [if_pos (by omega), if_pos h2, if_neg (by omega)]
    · rw [if_neg (by omega), if_neg h2, show k - 1 - 1 = k - 2 by omega]
theorem sq_two (R : Int) : (2 * R) * (2 * R) = 4 * (R * R) := by rw [Int.mul_assoc, Int.mul_left_comm R 2 R]; omega
theorem sq_odd (R : Int) : (2 * R + 1) * (2 * R + 1) = 4 * (R * R) + 4 * R + 1 := by
  rw [Int.add_mul, Int.mul_add, Int.one_mul, Int.mul_one, sq_two]; omega
theorem sq_lt {R v : Int} (h : R * R ≤ v) (hv : v < 2 * (H : Int)) : R < (H : Int) := by
  have h2 : 2 ≤ (H : Int) := by decide
  rcases (show R < (H : Int) ∨ (H : Int) ≤ R by omega) with h' | h'
  · exact h'
  · have h3 := Int.mul_le_mul h' h' (by omega) (by omega)
    have h4 := Int.mul_le_mul_of_nonneg_right h2 (show 0 ≤ (H : Int) by omega)
    omega
/-- The root so far and what is left: of the number without its last k pairs of bits. -/
structure Rz (m : Nat) (k : Nat) (R L : Int) : Prop where
  r0 : 0 ≤ R
  l0 : 0 ≤ L
  l2 : L ≤ 2 * R
  sq : R * R + L = (m : Int) / ((2 ^ (2 * k) : Nat) : Int)
theorem Rz.lt {m k : Nat} {R L : Int} (h : Rz m k R L) (hm : (m : Int) < 2 * (H : Int)) : R < (H : Int) := by
  refine sq_lt (v := (m : Int)) ?_ hm
  have h1 := h.sq
  have h2 : (m : Int) / ((2 ^ (2 * k) : Nat) : Int) ≤ (m : Int) := Int.ediv_le_self _ (Int.natCast_nonneg _)
  have := h.l0
  omega
theorem pair_step (m k : Nat) : (m : Int) / ((2 ^ (2 * k) : Nat) : Int) = 4 * ((m : Int) / ((2 ^ (2 * (k + 1)) : Nat) : Int)) + 2 * bz (m : Int) (2 * k + 1) + bz (m : Int) (2 * k) := by
  rw [top_step (m : Int) (2 * k), top_step (m : Int) (2 * k + 1), show 2 * (k + 1) = 2 * k + 1 + 1 by omega]
  omega
theorem Rz.less {m k : Nat} {R L : Int} (h : Rz m (k + 1) R L) (hl : 4 * L + 2 * bz (m : Int) (2 * k + 1) + bz (m : Int) (2 * k) < 4 * R + 2 * 0 + 1) : Rz m k (2 * R + 0) (4 * L + 2 * bz (m : Int) (2 * k + 1) + bz (m : Int) (2 * k)) := by
  have h1 := h.sq; have h2 := pair_step m k; have h3 := h.r0; have h4 := h.l0; have h5 := h.l2
  have h6 := bz_01 (m : Int) (2 * k); have h7 := bz_01 (m : Int) (2 * k + 1)
  have h8 := sq_two R
  rw [Int.add_zero]
  exact ⟨by omega, by omega, by omega, by omega⟩
theorem Rz.more {m k : Nat} {R L : Int} (h : Rz m (k + 1) R L) (hl : ¬ 4 * L + 2 * bz (m : Int) (2 * k + 1) + bz (m : Int) (2 * k) < 4 * R + 2 * 0 + 1) : Rz m k (2 * R + 1) (4 * L + 2 * bz (m : Int) (2 * k + 1) + bz (m : Int) (2 * k) + -(4 * R + 2 * 0 + 1)) := by
  have h1 := h.sq; have h2 := pair_step m k; have h3 := h.r0; have h4 := h.l0; have h5 := h.l2
  have h6 := bz_01 (m : Int) (2 * k); have h7 := bz_01 (m : Int) (2 * k + 1)
  have h8 := sq_odd R
  exact ⟨by omega, by omega, by omega, by omega⟩

theorem Rz.start (m : Nat) (hm : (m : Int) < (H : Int)) : Rz m 256 0 0 := by
  refine ⟨by omega, by omega, by omega, ?_⟩
  obtain ⟨e, he⟩ : ∃ e, e = 2 * 256 := ⟨_, rfl⟩
  obtain ⟨d, hd⟩ : ∃ d, d = 1 := ⟨_, rfl⟩
  rw [← he, show e = 511 + d by omega, pow_H', hd, show ((2 ^ 1 : Nat) : Int) = 2 from rfl, Int.ediv_eq_zero_of_lt (Int.natCast_nonneg _) (by have := HI_pos; omega)]
  rfl
theorem Rz.bounds {m k : Nat} {R L b0 b1 : Int} (h : Rz m k R L) (hm : (m : Int) < (H : Int)) (u0 : b0 = 0 ∨ b0 = 1) (u1 : b1 = 0 ∨ b1 = 1) :
    0 ≤ 4 * L + 2 * b1 + b0 ∧ 0 ≤ 4 * R + 2 * 0 + 1 ∧ 4 * L + 2 * b1 + b0 < ((2 ^ 520 : Nat) : Int) ∧ 4 * R + 2 * 0 + 1 < ((2 ^ 520 : Nat) : Int) := by
  have hH : 2 ≤ (H : Int) := by decide
  have h1 := h.lt (by omega)
  have h3 := h.r0; have h4 := h.l0; have h5 := h.l2
  obtain ⟨f, hf⟩ : ∃ f, f = 520 := ⟨_, rfl⟩
  obtain ⟨d, hd⟩ : ∃ d, d = 9 := ⟨_, rfl⟩
  rw [← hf, show f = 511 + d by omega, pow_H', hd, show ((2 ^ 9 : Nat) : Int) = 512 from rfl]
  omega

set_option maxRecDepth 50000 in
set_option maxHeartbeats 4000000 in
theorem sqrt_bits (a o m : Nat) (F : Bool) (w : World)
    (hB : Hid (∀ u, Calls Tryz.prog 112 #[.agg (cells8 a)] u fun e w' => e = .returned (.bool false) ∧ Below u.heap.size u w'))
    (hL : Hid (∀ u, Calls Tryz.prog 117 #[.agg (cells8 a), .int .i64 512] u fun e w' => ∃ g, u.heap.size ≤ g ∧ e = .returned (.slice (some ⟨g, 0, none⟩) 512 512) ∧ Ints w' g 512 (bz (m : Int)) ∧ Below u.heap.size u w'))
    (hO : Hid (∀ u g c R L, Rz m 0 R L → Row u g 520 (bz R) → Calls Tryz.prog 121 #[sc g 520 c] u fun e w' => e = .returned (.tuple #[.agg (cells8 o), .bool F]) ∧ Below u.heap.size u w'))
    (hm : Hid ((m : Int) < (H : Int))) :
    Calls Tryz.prog 60 #[W a] w fun e w' => e = .returned (.tuple #[.agg (cells8 o), .bool F]) ∧ Below w.heap.size w w' := by
  have hmk : ∀ w : World, (Instr.makeSlice 115 (.int .i64 520) (.int .i64 520)).run Tryz.prog w = .ok (.slice (some ⟨w.heap.size, 0, none⟩) 520 520) (w.alloc (.cells (madeCells #[.int .i64 0] 520) 3)) := run_make_row' (P := Tryz.prog) 115 3 (.int .i64 0) 8 Tryz.underlying115 iInt rfl .i64 .i64 520 (by omega) (by omega)
  unfold W
  go_enter Tryz.func60, Tryz.ntmps60
  go_upto_region 1 with fail
  have D := hide (EnvR.of (Env.two w a 0))
  rw [cells8_0] at D
  go_upto_region 4 with (first
    | (with_reducible refine at_list ?_; apply ldE (unhide D).e _ rfl rfl rfl (by repeat (first | exact List.mem_cons_self | apply List.mem_cons_of_mem)))
    | (go_at_call 112; refine (unhide hB _).mono ?_; rintro e w1 ⟨he, hw⟩; subst he; have D := hide ((unhide D).keep hw); clear hw)
    | (go_at_call 117; refine (unhide hL _).mono ?_; rintro e w2 ⟨g, hg, he, hr, hw⟩; subst he; have D := hide (((unhide D).keep hw).row hr.row); clear hr hw hg))
  have HZ : Hid (EnvR w [(w.heap.size + 1, 0), (w.heap.size, a)] [(w2.heap.size + 1, 520, 0), (w2.heap.size, 520, 0), (g, 512, (m : Int))] ((w2.alloc (.cells (madeCells #[.int .i64 0] 520) 3)).alloc (.cells (madeCells #[.int .i64 0] 520) 3)).drew) := by
    have z : ∀ u : World, Row (u.alloc (.cells (madeCells #[.int .i64 0] 520) 3)) u.heap.size 520 (bz 0) := fun u =>
      Ints.row (World.rowIs.congr (World.rowIs_made u (.int .i64 0) 520 3) fun i _ => by unfold bz; rw [Int.zero_ediv]; rfl)
    have b1 : ∀ u : World, Below u.heap.size u (u.alloc (.cells (madeCells #[.int .i64 0] 520) 3)) := fun u => (Below.refl _ _).alloc (Nat.le_refl _) _
    have d1 := ((unhide D).keep (b1 w2)).row (z w2)
    have d2 := (d1.keep (b1 _)).row (z _)
    have d3 := d2.drew
    rw [show (w2.alloc (.cells (madeCells #[.int .i64 0] 520) 3)).heap.size = w2.heap.size + 1 by simp] at d3
    exact hide d3
  clear D
  go_region
  all_goals (
    have D := HZ
    clear HZ
    generalize ((w2.alloc (.cells (madeCells #[.int .i64 0] 520) 3)).alloc (.cells (madeCells #[.int .i64 0] 520) 3)).drew = w3 at D ⊢
    generalize w2.heap.size = s2 at D ⊢
    go_wp2_with fail
    go_loopw [5, 6, 7] (fun v5 v6 i wr => ∃ k gr cr gl cl : Nat, ∃ R L : Int, k ≤ 256 ∧ i = .int .i64 (2 * (k : Int) - 2) ∧ v5 = sc gr 520 cr ∧ v6 = sc gl 520 cl ∧ 520 ≤ cr ∧ 520 ≤ cl ∧ Hid (Rz m k R L) ∧ Hid (EnvR w [(w.heap.size + 1, 0), (w.heap.size, a)] [(gr, 520, R), (gl, 520, L), (g, 512, (m : Int))] wr)) (fun _ _ i _ => (intOf i + 2).toNat)
    case atStart =>
      have z0 := hide (Rz.start m (unhide hm))
      have e1 := (unhide D).at (p := s2) (n := 520) (x := 0) (by repeat (first | exact List.mem_cons_self | apply List.mem_cons_of_mem))
      have e2 := (unhide D).at (p := s2 + 1) (n := 520) (x := 0) (by repeat (first | exact List.mem_cons_self | apply List.mem_cons_of_mem))
      have e3 := (unhide D).at (p := g) (n := 512) (x := (m : Int)) (by repeat (first | exact List.mem_cons_self | apply List.mem_cons_of_mem))
      first
        | exact ⟨256, s2, 520, s2 + 1, 520, 0, 0, by omega, rfl, rfl, rfl, by omega, by omega, z0, (((EnvR.of (unhide D).e).row e3).row e2).row e1⟩
        | exact ⟨256, s2 + 1, 520, s2, 520, 0, 0, by omega, rfl, rfl, rfl, by omega, by omega, z0, (((EnvR.of (unhide D).e).row e3).row e1).row e2⟩
    case round =>
      obtain ⟨k, gr, cr, gl, cl, R, L, hk, rfl, rfl, rfl, hcr, hcl, hR, D⟩ := hrel
      rcases Nat.eq_zero_or_pos k with rfl | hpos
      · have hO2 := hide (unhide hO _ _ cr _ _ (unhide hR) ((unhide D).at (p := gr) (n := 520) (x := R) (by repeat (first | exact List.mem_cons_self | apply List.mem_cons_of_mem))))
        go_wp2_with (first
          | (go_at_call 121; refine (unhide hO2).mono ?_; rintro e w5 ⟨he, hw⟩; subst he; have D := hide ((unhide D).keep hw); clear hw)
          | (with_reducible refine at_list ?_; apply st8 (n := o) 56 (.tmp 2) (.tmp 59) ((unhide D).e.blk (n := 0) (by repeat (first | exact List.mem_cons_self | apply List.mem_cons_of_mem))) rfl rfl rfl rfl rfl iWide))
        exact res8s (((unhide D).e.blk (n := 0) (g := w.heap.size + 1) (by repeat (first | exact List.mem_cons_self | apply List.mem_cons_of_mem))).row _) rfl rfl rfl rfl Tryz.underlying56 rfl iWide ⟨rfl, below_row (unhide D).e.o (by omega) _⟩
      · obtain ⟨j, rfl⟩ : ∃ j, k = j + 1 := ⟨k - 1, by omega⟩
        have u0 := bz_01 (m : Int) (2 * j)
        have u1 := bz_01 (m : Int) (2 * j + 1)
        have HL := hide (Rz.less (unhide hR))
        have HM := hide (Rz.more (unhide hR))
        have hI : ∃ I : Nat, I = 2 * j := ⟨_, rfl⟩
        obtain ⟨I, hI⟩ := hI
        rw [show 2 * ((j + 1 : Nat) : Int) - 2 = (I : Int) by omega]
        have h1 := ((unhide D).at (p := g) (n := 512) (x := (m : Int)) (by repeat (first | exact List.mem_cons_self | apply List.mem_cons_of_mem))).2 I (by omega)
        have h2 := ((unhide D).at (p := g) (n := 512) (x := (m : Int)) (by repeat (first | exact List.mem_cons_self | apply List.mem_cons_of_mem))).2 (I + 1) (by omega)
        rw [← hI] at u0 u1 HL HM
        have hI5 : I < 511 := by omega
        have HI := hide hI
        clear hI hk
        have HB := hide (Rz.bounds (unhide hR) (unhide hm) u0 u1)
        generalize bz (m : Int) I = b0 at *
        generalize bz (m : Int) (I + 1) = b1 at *
        go_wp2
        go_region
        all_goals (
          have N2 := hide (Row.new2 wr b0 b1 (two b0 b1) rfl rfl).drew
          have D := hide (((unhide D).keep ((Below.refl _ wr).alloc (Nat.le_refl _) (.cells #[.int .i64 b0, .int .i64 b1] 3))).drew)
          clear h1 h2
          generalize (wr.alloc (.cells #[.int .i64 b0, .int .i64 b1] 3)).drew = w4 at N2 D ⊢
          generalize wr.heap.size = s4 at N2 D ⊢
          go_upto_region 11 with (at_builtin; refine appendN (.tmp 33) (.tmp 35) 520 (unhide N2) (((unhide D).at (p := gl) (n := 520) (x := L) (by repeat (first | exact List.mem_cons_self | apply List.mem_cons_of_mem))).less (show 518 ≤ 520 by decide)) rfl rfl rfl rfl rfl (by decide) (by decide) (by decide) ?_; intro g5 c5 w5 _ hc5 hr5 hw5; have D := hide (((unhide D).keep hw5).row (Row.congr hr5 fun k _ => (bz_cons2 L b0 b1 u0 u1 k).symm)); clear hr5 hw5 N2)
          have N3 := hide (Row.new2 w5 1 0 (two 1 0) rfl rfl)
          have D := hide ((unhide D).keep ((Below.refl _ w5).alloc (Nat.le_refl _) (.cells #[.int .i64 1, .int .i64 0] 3)))
          generalize w5.alloc (.cells #[.int .i64 1, .int .i64 0] 3) = w6 at N3 D ⊢
          generalize w5.heap.size = s6 at N3 D ⊢
          go_upto_region 13 with (at_builtin; refine appendN (.tmp 38) (.tmp 40) 520 (unhide N3) (((unhide D).at (p := gr) (n := 520) (x := R) (by repeat (first | exact List.mem_cons_self | apply List.mem_cons_of_mem))).less (show 518 ≤ 520 by decide)) rfl rfl rfl rfl rfl (by decide) (by decide) (by decide) ?_; intro g7 c7 w7 _ hc7 hr7 hw7; have D := hide (((unhide D).keep hw7).row (Row.congr hr7 fun k _ => (bz_cons2 R 1 0 (.inr rfl) (.inl rfl) k).symm)); clear hr7 hw7 N3)
          obtain ⟨BB, hBB⟩ : ∃ BB, BB = decide (4 * L + 2 * b1 + b0 < 4 * R + 2 * 0 + 1) := ⟨_, rfl⟩
          have hLe : Hid (∀ {Q : Ending → World → Prop}, (∀ w', EnvR w [(w.heap.size + 1, 0), (w.heap.size, a)] [(g7, 520, 4 * R + 2 * 0 + 1), (g5, 520, 4 * L + 2 * b1 + b0), (gr, 520, R), (gl, 520, L), (g, 512, (m : Int))] w' → Q (.returned (.bool BB)) w') → Calls Tryz.prog 118 #[sc g5 520 c5, sc g7 520 c7] w7 Q) := by
            rw [hBB]
            exact fun k => leastR (unhide D) (by decide) (by repeat (first | exact List.mem_cons_self | apply List.mem_cons_of_mem)) (by repeat (first | exact List.mem_cons_self | apply List.mem_cons_of_mem)) (unhide HB).1 (unhide HB).2.1 (unhide HB).2.2.1 (unhide HB).2.2.2 k
          have HBB := hide hBB
          clear hBB D
          cases BB
          · have RZ := hide (unhide HM (by have := of_decide_eq_false (unhide HBB).symm; omega))
            go_upto_region 18 with (first
              | (go_at_call 118; refine unhide hLe ?_; intro w8 D8; have D := hide D8; clear D8)
              | (go_at_call 120; refine minusR (unhide D) (x := 4 * R + 2 * 0 + 1) (by decide) (by repeat (first | exact List.mem_cons_self | apply List.mem_cons_of_mem)) ?_; intro ga wa Da; have D := hide Da; clear Da)
              | (go_at_call 119; refine plusR (unhide D) (x := 4 * L + 2 * b1 + b0) (y := -(4 * R + 2 * 0 + 1)) (by decide) (by repeat (first | exact List.mem_cons_self | apply List.mem_cons_of_mem)) (by repeat (first | exact List.mem_cons_self | apply List.mem_cons_of_mem)) ?_; intro gb wb Db; have D := hide Db; clear Db))
            have N4 := hide (Row.new1 wb 1 (fun _ => 1) rfl)
            have D := hide ((unhide D).keep ((Below.refl _ wb).alloc (Nat.le_refl _) (.cells #[.int .i64 1] 3)))
            generalize wb.alloc (.cells #[.int .i64 1] 3) = w8 at N4 D ⊢
            generalize wb.heap.size = s8 at N4 D ⊢
            go_wp2_with (at_builtin; refine appendN (.tmp 53) (.tmp 55) 520 (unhide N4) (((unhide D).at (p := gr) (n := 520) (x := R) (by repeat (first | exact List.mem_cons_self | apply List.mem_cons_of_mem))).less (show 519 ≤ 520 by decide)) rfl rfl rfl rfl rfl (by decide) (by decide) (by decide) ?_; intro g9 c9 w9 _ hc9 hr9 hw9; have D := hide (((unhide D).keep hw9).row (Row.congr hr9 fun k _ => (bz_cons R 1 (.inr rfl) k).symm)); clear hr9 hw9 N4)
            go_roundw
            case rel => exact ⟨j, g9, c9, gb, 520, 2 * R + 1, (4 * L + 2 * b1 + b0 + -(4 * R + 2 * 0 + 1)), by have := unhide HI; omega, by rw [unhide HI]; go_num, rfl, rfl, hc9, (by decide), RZ, (((EnvR.of (unhide D).e).row ((unhide D).at (p := g) (n := 512) (x := (m : Int)) (by repeat (first | exact List.mem_cons_self | apply List.mem_cons_of_mem)))).row ((unhide D).at (p := gb) (n := 520) (x := (4 * L + 2 * b1 + b0 + -(4 * R + 2 * 0 + 1))) (by repeat (first | exact List.mem_cons_self | apply List.mem_cons_of_mem)))).row ((unhide D).at (p := g9) (n := 520) (x := 2 * R + 1) (by repeat (first | exact List.mem_cons_self | apply List.mem_cons_of_mem)))⟩
            case measure => simp [intOf]; omega
          · have RZ := hide (unhide HL (of_decide_eq_true (unhide HBB).symm))
            go_upto_region 18 with (first
              | (go_at_call 118; refine unhide hLe ?_; intro wb D8; have D := hide D8; clear D8))
            have N4 := hide (Row.new1 wb 0 (fun _ => 0) rfl)
            have D := hide ((unhide D).keep ((Below.refl _ wb).alloc (Nat.le_refl _) (.cells #[.int .i64 0] 3)))
            generalize wb.alloc (.cells #[.int .i64 0] 3) = w8 at N4 D ⊢
            generalize wb.heap.size = s8 at N4 D ⊢
            go_wp2_with (at_builtin; refine appendN (.tmp 53) (.tmp 55) 520 (unhide N4) (((unhide D).at (p := gr) (n := 520) (x := R) (by repeat (first | exact List.mem_cons_self | apply List.mem_cons_of_mem))).less (show 519 ≤ 520 by decide)) rfl rfl rfl rfl rfl (by decide) (by decide) (by decide) ?_; intro g9 c9 w9 _ hc9 hr9 hw9; have D := hide (((unhide D).keep hw9).row (Row.congr hr9 fun k _ => (bz_cons R 0 (.inl rfl) k).symm)); clear hr9 hw9 N4)
            go_roundw
            case rel => exact ⟨j, g9, c9, g5, c5, 2 * R + 0, (4 * L + 2 * b1 + b0), by have := unhide HI; omega, by rw [unhide HI]; go_num, rfl, rfl, hc9, hc5, RZ, (((EnvR.of (unhide D).e).row ((unhide D).at (p := g) (n := 512) (x := (m : Int)) (by repeat (first | exact List.mem_cons_self | apply List.mem_cons_of_mem)))).row ((unhide D).at (p := g5) (n := 520) (x := (4 * L + 2 * b1 + b0)) (by repeat (first | exact List.mem_cons_self | apply List.mem_cons_of_mem)))).row ((unhide D).at (p := g9) (n := 520) (x := 2 * R + 0) (by repeat (first | exact List.mem_cons_self | apply List.mem_cons_of_mem)))⟩
            case measure => simp [intOf]; omega))

set_option maxHeartbeats 1000000 in
theorem sqrt_neg (a : Nat) (w : World) (hB : Hid (∀ u, Calls Tryz.prog 112 #[.agg (cells8 a)] u fun e w' => e = .returned (.bool true) ∧ Below u.heap.size u w')) :
    Calls Tryz.prog 60 #[W a] w fun e w' => e = .returned (.tuple #[.agg (cells8 0), .bool false]) ∧ Below w.heap.size w w' := by
  unfold W
  go_enter Tryz.func60, Tryz.ntmps60
  go_upto_region 1 with fail
  have D := hide (EnvR.of (Env.two w a 0))
  rw [cells8_0] at D
  go_wp2_with (first
    | (with_reducible refine at_list ?_; apply ldE (unhide D).e _ rfl rfl rfl (by repeat (first | exact List.mem_cons_self | apply List.mem_cons_of_mem)))
    | (go_at_call 112; refine (unhide hB _).mono ?_; rintro e w1 ⟨he, hw⟩; subst he; have D := hide ((unhide D).keep hw); clear hw)
    | (with_reducible refine at_list ?_; refine bd0 56 rfl rfl bWide0 ?_)
    | (with_reducible refine at_list ?_; apply st8 (n := 0) 56 (.tmp 2) (.tmp 14) ((unhide D).e.blk (n := 0) (by repeat (first | exact List.mem_cons_self | apply List.mem_cons_of_mem))) rfl rfl rfl rfl rfl iWide))
  exact res8s (((unhide D).e.blk (n := 0) (g := w.heap.size + 1) (by repeat (first | exact List.mem_cons_self | apply List.mem_cons_of_mem))).row _) rfl rfl rfl rfl Tryz.underlying56 rfl iWide ⟨rfl, below_row (unhide D).e.o (by omega) _⟩
theorem Rz.isq {m : Nat} {R L : Int} (h : Rz m 0 R L) : R = (isq m : Nat) := by
  have h1 := h.sq; have h3 := h.r0; have h4 := h.l0; have h5 := h.l2
  rw [show ((2 ^ (2 * 0) : Nat) : Int) = 1 from rfl, Int.ediv_one] at h1
  obtain ⟨r, rfl⟩ : ∃ r : Nat, R = r := ⟨R.toNat, by omega⟩
  have e1 : ((r * r : Nat) : Int) = (r : Int) * (r : Int) := Int.natCast_mul r r
  have e2 : (r + 1) * (r + 1) = r * r + 2 * r + 1 := by rw [Nat.add_mul, Nat.mul_add]; omega
  obtain ⟨s1, s2⟩ := isq_spec m
  have a1 := root_one m r (Go.Proofs.YtljggjnaolbapaaGreat.isq m) (by omega) s2
  have a2 := root_one m (Go.Proofs.YtljggjnaolbapaaGreat.isq m) r s1 (by omega)
  have : r = Go.Proofs.YtljggjnaolbapaaGreat.isq m := by omega
  rw [this]
theorem refSqrt (x : Int) (hx : Fit x) (w : World) : Calls Tryz.prog 60 #[V x] w fun e w' => e = .returned (told (decide (x < 0)) (enc (isq x.toNat : Nat))) ∧ Below w.heap.size w w' := by
  have hB := refBelow x hx
  by_cases h : x < 0
  · rw [decide_eq_true h] at hB ⊢
    exact sqrt_neg (enc x) w hB
  · rw [decide_eq_false h] at hB ⊢
    have hx2 := hx.2
    have hH := HI_pos
    have ex : (x.toNat : Int) = x := by omega
    refine sqrt_bits (enc x) (enc (isq x.toNat : Nat)) x.toNat true w hB (fun u => ?_) (fun u g c R L hz hr => ?_) (by show (x.toNat : Int) < _; omega)
    · rw [ex]; exact longZ x hx 512 (by decide) u
    · have hR := hz.isq
      have hlt := hz.lt (by omega)
      have h0 := hz.r0
      rw [hR] at hr hlt h0
      have hf : Fit ((isq x.toNat : Nat) : Int) := ⟨by omega, hlt⟩
      have b := wide8 H ((isq x.toNat : Nat) : Int) (by omega) (by omega) hH
      have k := ofZ ((isq x.toNat : Nat) : Int) 8 520 g 0 c rfl (by decide) b.1 b.2 u (fun k hk => by rw [Nat.zero_add]; exact hr.2 k hk) hr.1
      rw [fit_true hf] at k
      exact k

end Go.Proofs.YtljggjnaolbapaaGreat
