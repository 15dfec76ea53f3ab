/- Package grid: size, common, divisor, Prime. -/
import Derived.Test.YtmnaffhlilnlhaaAf
namespace Go.Proofs.Ytmnaffhlilnlhaa
open Go.RowKit
set_option maxRecDepth 4000
set_option linter.unusedVariables false

section
variable {ops : Array Oper} {rest : List Oper} {o : Oper} {a : Act} {w : World} {Q : Exit → Act → World → Prop}
theorem neqWd {n m : Nat} {b : Bool} (hb : same n m = b) (x y : Operand) {ty' : TypeId} (ho : o.op = .binOp .neq 40 x y ty') (hgd : o.guard = none) (hx : a.eval x = .agg (cells8 n)) (hy : a.eval y = .agg (cells8 m))
    (h : wpList Try.prog ops Q rest (a.put o.dst (.bool (!b))) w) : wpList Try.prog ops Q (o :: rest) a w := wpList_value hgd (exec_neq_wide_is hb w x y ho hx hy) h
end

theorem size_neg (n v : Nat) (E : Bool) (w : World) (h1 : Hid (Ans 38 #[.agg (cells8 n)] (.int .i64 (-1)))) (h2 : Hid (Ans 40 #[.agg (cells8 n)] (.tuple #[.agg (cells8 v), .bool E]))) :
    Calls Try.prog 108 #[.agg (cells8 n)] w fun e w' => e = .returned (.tuple #[.agg (cells8 v), .bool E]) ∧ Below w.heap.size w w' := by
  go_enter Try.func108, Try.ntmps108
  go_upto_region 1 with fail
  have D := hide (((Gen.start w).push 40 (cells8 n)).push 40 z8)
  simp only [szA] at D
  go_wp2_with (first | (with_reducible refine at_list ?_; apply ldG (unhide D) rWide _ rfl rfl rfl (by repeat (first | exact List.mem_cons_self | apply List.mem_cons_of_mem)) rfl) | (go_at_call 38; with_reducible refine (unhide h1 _).mono ?_; rintro e w' ⟨he, hb⟩; subst he; have D := hide ((unhide D).keep hb); clear hb) | (go_at_call 40; with_reducible refine (unhide h2 _).mono ?_; rintro e w' ⟨he, hb⟩; subst he; have D := hide ((unhide D).keep hb); clear hb) | (with_reducible refine at_list ?_; apply stGend (unhide D) rWide _ _ rfl rfl rfl rfl (by repeat (first | exact List.mem_cons_self | apply List.mem_cons_of_mem)) (by omega) rfl rfl (cells8_one _); intro B O))
  exact resGT rWide (unhide B) rfl rfl rfl rfl rfl ⟨rfl, unhide O⟩
theorem size_zero (n : Nat) (w : World) (h1 : Hid (Ans 38 #[.agg (cells8 n)] (.int .i64 0))) :
    Calls Try.prog 108 #[.agg (cells8 n)] w fun e w' => e = .returned (.tuple #[.agg (cells8 n), .bool true]) ∧ Below w.heap.size w w' := by
  go_enter Try.func108, Try.ntmps108
  go_upto_region 1 with fail
  have D := hide (((Gen.start w).push 40 (cells8 n)).push 40 z8)
  simp only [szA] at D
  go_wp2_with (first | (with_reducible refine at_list ?_; apply ldG (unhide D) rWide _ rfl rfl rfl (by repeat (first | exact List.mem_cons_self | apply List.mem_cons_of_mem)) rfl) | (go_at_call 38; with_reducible refine (unhide h1 _).mono ?_; rintro e w' ⟨he, hb⟩; subst he; have D := hide ((unhide D).keep hb); clear hb) | (with_reducible refine at_list ?_; apply stGend (unhide D) rWide _ _ rfl rfl rfl rfl (by repeat (first | exact List.mem_cons_self | apply List.mem_cons_of_mem)) (by omega) rfl rfl (cells8_one _); intro B O))
  exact resGT rWide (unhide B) rfl rfl rfl rfl rfl ⟨rfl, unhide O⟩
theorem size_pos (n : Nat) (w : World) (h1 : Hid (Ans 38 #[.agg (cells8 n)] (.int .i64 1))) :
    Calls Try.prog 108 #[.agg (cells8 n)] w fun e w' => e = .returned (.tuple #[.agg (cells8 n), .bool true]) ∧ Below w.heap.size w w' := by
  go_enter Try.func108, Try.ntmps108
  go_upto_region 1 with fail
  have D := hide (((Gen.start w).push 40 (cells8 n)).push 40 z8)
  simp only [szA] at D
  go_wp2_with (first | (with_reducible refine at_list ?_; apply ldG (unhide D) rWide _ rfl rfl rfl (by repeat (first | exact List.mem_cons_self | apply List.mem_cons_of_mem)) rfl) | (go_at_call 38; with_reducible refine (unhide h1 _).mono ?_; rintro e w' ⟨he, hb⟩; subst he; have D := hide ((unhide D).keep hb); clear hb) | (with_reducible refine at_list ?_; apply stGend (unhide D) rWide _ _ rfl rfl rfl rfl (by repeat (first | exact List.mem_cons_self | apply List.mem_cons_of_mem)) (by omega) rfl rfl (cells8_one _); intro B O))
  exact resGT rWide (unhide B) rfl rfl rfl rfl rfl ⟨rfl, unhide O⟩
theorem SizeZ (x : Int) (hx : Fit x) : Ans 108 #[V x] (toldZ (x.natAbs : Int)) := by
  intro w
  have hs : Ans 38 #[V x] (.int .i64 (sgn x)) := fun u => SignZ x hx u
  rcases (show x < 0 ∨ x = 0 ∨ 0 < x by omega) with h | h | h
  · rw [show ((x.natAbs : Nat) : Int) = -x by omega]
    rw [show sgn x = -1 by unfold sgn; rw [if_pos h]] at hs
    have hn := fun u => NegZ x hx u
    cases hf : fit (-x)
    · rw [toldZ_not hf] at hn ⊢
      exact size_neg _ _ false w hs hn
    · rw [toldZ_fit (Fit.of hf)] at hn ⊢
      exact size_neg _ _ true w hs hn
  · rw [show ((x.natAbs : Nat) : Int) = x by omega, toldZ_fit hx]
    rw [show sgn x = 0 by unfold sgn; rw [if_neg (by omega), if_pos h]] at hs
    exact size_zero _ w hs
  · rw [show ((x.natAbs : Nat) : Int) = x by omega, toldZ_fit hx]
    rw [show sgn x = 1 by unfold sgn; rw [if_neg (by omega), if_neg (by omega)]] at hs
    exact size_pos _ w hs

theorem DivN6 (p q : Nat) (hp : (p : Int) < (H : Int)) (hq : (q : Int) < (H : Int)) (h0 : q ≠ 0) : Ans 42 #[V (p : Int), V (q : Int)] (.tuple #[V ((p / q : Nat) : Int), V ((p % q : Nat) : Int), .bool true]) := by
  intro w
  have hH := H_pos
  have f1 : Fit (p : Int) := ⟨by omega, hp⟩
  have f2 : Fit (q : Int) := ⟨by omega, hq⟩
  have k := DivZ (p : Int) (q : Int) f1 f2 w
  have e1 : (p : Int).fdiv (q : Int) = ((p / q : Nat) : Int) := by rw [Int.fdiv_eq_ediv_of_nonneg _ (by omega)]; rfl
  have e2 : (p : Int).fmod (q : Int) = ((p % q : Nat) : Int) := by rw [Int.fmod_eq_emod_of_nonneg _ (by omega)]; rfl
  have hle : ((p / q : Nat) : Int) ≤ (p : Int) := Int.ofNat_le.2 (Nat.div_le_self p q)
  have hnn : (0 : Int) ≤ ((p / q : Nat) : Int) := Int.natCast_nonneg _
  have e3 : dq (p : Int) (q : Int) = true := by
    unfold dq
    rw [e1, fit_true ⟨Int.le_trans (by omega) hnn, Int.lt_of_le_of_lt hle hp⟩]
    simp
    omega
  rw [e3, e1, e2] at k
  exact k

set_option maxHeartbeats 4000000 in
theorem common_core (I : Nat → Nat → Prop) (dv md : Nat → Nat → Nat) (a b r : Nat) (w : World) (hI : Hid (I a b)) (hM : Hid (∀ p q, I p q → q < M)) (hs : Hid (∀ p q, I p q → same q 0 = decide (q = 0))) (h0 : Hid (∀ p, I p 0 → p = r))
    (hd : Hid (∀ p q, I p q → q ≠ 0 → Ans 42 #[.agg (cells8 p), .agg (cells8 q)] (.tuple #[.agg (cells8 (dv p q)), .agg (cells8 (md p q)), .bool true]) ∧ I q (md p q) ∧ md p q < q)) :
    Calls Try.prog 109 #[.agg (cells8 a), .agg (cells8 b)] w fun e w' => e = .returned (.agg (cells8 r)) ∧ Below w.heap.size w w' := by
  go_enter Try.func109, Try.ntmps109
  go_upto_region 1 with fail
  have D := hide ((((Gen.start w).push 40 (cells8 a)).push 40 (cells8 b)).push 40 z8)
  simp only [szA] at D
  go_loopw [] (fun wr => ∃ p q : Nat, Hid (I p q) ∧ Hid (Gen w [(w.heap.size + 1 + 1, 40, z8), (w.heap.size + 1, 40, cells8 q), (w.heap.size, 40, cells8 p)] wr)) (fun wr => numAt wr (w.heap.size + 1))
  case atStart => exact ⟨a, b, hI, D⟩
  case round =>
    obtain ⟨p, q, hp, hD⟩ := hrel
    have D := hD
    clear hI
    have hsm := hide (unhide hs p q (unhide hp))
    have hqM := hide (unhide hM p q (unhide hp))
    by_cases hq : q = 0
    · subst hq
      have hr := unhide h0 p (unhide hp)
      subst hr
      clear hs h0 hd hM
      go_wp2_with (first | (with_reducible refine at_list ?_; apply ldG (unhide D) rWide _ rfl rfl rfl (by repeat (first | exact List.mem_cons_self | apply List.mem_cons_of_mem)) rfl) | (with_reducible refine at_list ?_;  refine bd0 40 rfl rfl bWide0 ?_) | (with_reducible refine at_list ?_;  refine neqWd (unhide hsm) _ _ rfl rfl rfl rfl ?_) | (with_reducible refine at_list ?_; apply stGend (unhide D) rWide _ _ rfl rfl rfl rfl (by repeat (first | exact List.mem_cons_self | apply List.mem_cons_of_mem)) (by omega) rfl rfl (cells8_one _); intro B O))
      exact resG rWide (unhide B) rfl rfl rfl rfl ⟨rfl, unhide O⟩
    · rw [decide_eq_false hq] at hsm
      obtain ⟨d1, d2, d3⟩ := unhide hd p q (unhide hp) hq
      have hdv := hide d1
      have hin := hide d2
      have hlt := hide d3
      clear d1 d2 d3 hq hs h0 hd
      go_upto_region 3 with (first | (with_reducible refine at_list ?_; apply ldG (unhide D) rWide _ rfl rfl rfl (by repeat (first | exact List.mem_cons_self | apply List.mem_cons_of_mem)) rfl) | (with_reducible refine at_list ?_;  refine bd0 40 rfl rfl bWide0 ?_) | (with_reducible refine at_list ?_;  refine neqWd (unhide hsm) _ _ rfl rfl rfl rfl ?_) | (go_at_call 42; with_reducible refine (unhide hdv _).mono ?_; rintro e w' ⟨he, hb⟩; subst he; have D := hide ((unhide D).keep hb); clear hb) | (with_reducible refine at_list ?_;  refine st2 (unhide D) _ _ _ _ rfl rfl rfl rfl rfl rfl rfl rfl rfl rfl ?_; intro u D'; have D := hide D'; clear D'))
      have hge : w.heap.size + 1 + 1 < w'.heap.size := (Gen.blk (g := w.heap.size + 1 + 1) (unhide ‹Hid (Gen w [(w.heap.size + 1 + 1, 40, z8), (w.heap.size + 1, 40, cells8 q), (w.heap.size, 40, cells8 p)] w')›) (by repeat (first | exact List.mem_cons_self | apply List.mem_cons_of_mem))).lt
      have D1 : Gen w [(w'.heap.size + 1, 40, cells8 (md p q)), (w.heap.size + 1, 40, cells8 q), (w.heap.size + 1 + 1, 40, z8), (w.heap.size, 40, cells8 (bif false then q else p))] u := ⟨fun k hk => by
        simp only [List.mem_cons, List.not_mem_nil, or_false] at hk
        rcases hk with rfl | rfl | rfl | rfl
        · exact (unhide D).blk (by repeat (first | exact List.mem_cons_self | apply List.mem_cons_of_mem))
        · exact (unhide D).blk (by repeat (first | exact List.mem_cons_self | apply List.mem_cons_of_mem))
        · exact (unhide D).blk (by repeat (first | exact List.mem_cons_self | apply List.mem_cons_of_mem))
        · exact (unhide D).blk (g := w.heap.size) (by repeat (first | exact List.mem_cons_self | apply List.mem_cons_of_mem)), (unhide D).o⟩
      have hn0 : numAt wr (w.heap.size + 1) = q := numAt_eq ((unhide hD).blk (g := w.heap.size + 1) (by repeat (first | exact List.mem_cons_self | apply List.mem_cons_of_mem))) (unhide hqM)
      have hn1 := hide hn0
      clear D hn0
      obtain ⟨c6, hc6e⟩ : ∃ c, c = w'.heap.size + 1 := ⟨_, rfl⟩
      rw [← hc6e] at D1 ⊢
      have hc6 : w.heap.size + 1 + 1 < c6 := by omega
      clear hc6e hge
      refine region_lastT (t := 2) (S := (fun b u => Gen w [(c6, 40, cells8 (md p q)), (w.heap.size + 1, 40, cells8 q), (w.heap.size + 1 + 1, 40, z8), (w.heap.size, 40, cells8 (bif b then q else p))] u)) (f := 3) (l := [0, 1, 2]) (by kernel_rfl) (by kernel_rfl) (by kernel_rfl) (by kernel_rfl) (by kernel_rfl) (by kernel_rfl) (by kernel_rfl) (by kernel_rfl) (by kernel_rfl) (by kernel_rfl) rfl rfl (by decide) D1.drew ?_
      refine planT_read (v := .agg (cells8 q)) rfl (by decide) rfl (fun b u hS => exec_ldG hS rWide _ rfl rfl (by repeat (first | exact List.mem_cons_self | apply List.mem_cons_of_mem)) rfl) ?_
      go_simp
      refine planT_read (v := .agg (cells8 (md p q))) rfl (by decide) rfl (fun b u hS => exec_ldG hS rWide _ rfl rfl (by repeat (first | exact List.mem_cons_self | apply List.mem_cons_of_mem)) rfl) ?_
      go_simp
      refine planT_store rfl rfl (fun u hS => ⟨_, exec_store8 (n := q) 40 (.tmp 2) (.tmp 18) (hS.blk (g := w.heap.size) (by repeat (first | exact List.mem_cons_self | apply List.mem_cons_of_mem))) rfl rfl rfl rfl iWide, ⟨fun k hk => ?_, below_row hS.o (Nat.le_refl _) _⟩⟩) ?_
      · simp only [List.mem_cons, List.not_mem_nil, or_false] at hk
        rcases hk with rfl | rfl | rfl | rfl
        · exact (hS.blk (g := c6) (by repeat (first | exact List.mem_cons_self | apply List.mem_cons_of_mem))).rowOther _ (by omega)
        · exact (hS.blk (g := w.heap.size + 1) (by repeat (first | exact List.mem_cons_self | apply List.mem_cons_of_mem))).rowOther _ (by omega)
        · exact (hS.blk (g := w.heap.size + 1 + 1) (by repeat (first | exact List.mem_cons_self | apply List.mem_cons_of_mem))).rowOther _ (by omega)
        · exact (hS.blk (g := w.heap.size) (by repeat (first | exact List.mem_cons_self | apply List.mem_cons_of_mem))).row _
      go_simp
      refine planT_last (fun u hS => ?_)
      have G3 := hide (hS.blk (g := w.heap.size + 1) (t := 40) (cs := cells8 q) (by repeat (first | exact List.mem_cons_self | apply List.mem_cons_of_mem)))
      refine wp_store_row 40 (.tmp 3) (.tmp 19) rfl _ (cells8 (md p q)) rfl rfl 40 _ (unhide G3) iWide rfl (cells8_one _) ?_
      have D2 : Hid (Gen w [(w.heap.size + 1 + 1, 40, z8), (w.heap.size + 1, 40, cells8 (md p q)), (w.heap.size, 40, cells8 q)] (u.setRow (w.heap.size + 1) (cells8 (md p q)))) := ⟨fun k hk => by
        simp only [List.mem_cons, List.not_mem_nil, or_false] at hk
        rcases hk with rfl | rfl | rfl
        · exact (hS.blk (g := w.heap.size + 1 + 1) (by repeat (first | exact List.mem_cons_self | apply List.mem_cons_of_mem))).rowOther _ (by omega)
        · exact (unhide G3).row _
        · exact (hS.blk (g := w.heap.size) (by repeat (first | exact List.mem_cons_self | apply List.mem_cons_of_mem))).rowOther _ (by omega), below_row hS.o (by omega) _⟩
      clear hS D1 G3
      refine ⟨⟨_, _, _, _, _, _, _, _, _, _, _, _, _, _, _, ⟨q, md p q, hin, D2⟩, rfl⟩, ?_⟩
      rw [unhide hn1, numAt_eq ((unhide D2).blk (g := w.heap.size + 1) (by repeat (first | exact List.mem_cons_self | apply List.mem_cons_of_mem))) (Nat.lt_trans (unhide hlt) (unhide hqM))]
      exact unhide hlt

theorem CommonZ (a b : Nat) (ha : (a : Int) < (H : Int)) (hb : (b : Int) < (H : Int)) : Ans 109 #[V (a : Int), V (b : Int)] (V ((Nat.gcd a b : Nat) : Int)) := by
  intro w
  have hMH := MI
  have hH := H_pos
  have lt : ∀ {p : Nat}, (p : Int) < (H : Int) → p < M := fun h => by omega
  have hgl : ((Nat.gcd a b : Nat) : Int) < (H : Int) := by
    rcases Nat.eq_zero_or_pos a with h | h
    · rw [h, Nat.gcd_zero_left]; exact hb
    · exact Int.lt_of_le_of_lt (Int.ofNat_le.2 (Nat.gcd_le_left b h)) ha
  dsimp only [V]
  rw [enc_nat (lt ha), enc_nat (lt hb), enc_nat (lt hgl)]
  refine common_core (fun p q => (p : Int) < (H : Int) ∧ (q : Int) < (H : Int) ∧ Nat.gcd p q = Nat.gcd a b) (fun p q => p / q) (fun p q => p % q) a b _ w ⟨ha, hb, rfl⟩ (fun p q h => lt h.2.1) (fun p q h => ?_) (fun p h => ?_) (fun p q h h0 => ⟨?_, ⟨h.2.1, ?_, ?_⟩, Nat.mod_lt _ (Nat.pos_of_ne_zero h0)⟩)
  · unfold same
    rw [Nat.mod_eq_of_lt (lt h.2.1), Nat.zero_mod]
  · have := h.2.2
    rw [Nat.gcd_zero_right] at this
    exact this
  · have k := DivN6 p q h.1 h.2.1 h0
    dsimp only [V] at k
    have h1 : ((p / q : Nat) : Int) < (H : Int) := Int.lt_of_le_of_lt (Int.ofNat_le.2 (Nat.div_le_self p q)) h.1
    have h2 : ((p % q : Nat) : Int) < (H : Int) := Int.lt_of_le_of_lt (Int.ofNat_le.2 (Nat.mod_le p q)) h.1
    rw [enc_nat (lt h.1), enc_nat (lt h.2.1), enc_nat (lt h1), enc_nat (lt h2)] at k
    exact k
  · exact Int.lt_of_le_of_lt (Int.ofNat_le.2 (Nat.mod_le p q)) h.1
  · rw [← h.2.2, Nat.gcd_comm p q, Nat.gcd_rec q p, Nat.gcd_comm (p % q) q]

theorem bArr3 (x y z : Nat) : Try.prog.built 113 [(0, .agg (cells8 x)), (1, .agg (cells8 y)), (2, .agg (cells8 z))] = some (c24 x y z) := by kernel_rfl
theorem ix3_0 (x y z : Nat) (w : World) : (Instr.index 113 (.agg (c24 x y z)) (.int .i64 0)).run Try.prog w = .ok (.agg (cells8 x)) w := by kernel_rfl
theorem ix3_1 (x y z : Nat) (w : World) : (Instr.index 113 (.agg (c24 x y z)) (.int .i64 1)).run Try.prog w = .ok (.agg (cells8 y)) w := by kernel_rfl
theorem ix3_2 (x y z : Nat) (w : World) : (Instr.index 113 (.agg (c24 x y z)) (.int .i64 2)).run Try.prog w = .ok (.agg (cells8 z)) w := by kernel_rfl
section
variable {ops : Array Oper} {rest : List Oper} {o : Oper} {a : Act} {w : World} {Q : Exit → Act → World → Prop}
theorem exec_ix3 (N : Nat → Nat) {k : Nat} (hk : k < 3) (x y : Operand) (ho : o.op = .index 113 x y) (hx : a.eval x = .agg (c24 (N 0) (N 1) (N 2))) (hy : a.eval y = .int .i64 (k : Int)) : (execOp a.eval o).run Try.prog w = .ok (.value (.agg (cells8 (N k)))) w := by
  unfold execOp
  rcases (show k = 0 ∨ k = 1 ∨ k = 2 by omega) with rfl | rfl | rfl
  · simp only [ho, hx, hy, Sem.run_bind]
    rw [show ((0 : Nat) : Int) = 0 from rfl, ix3_0]
    rfl
  · simp only [ho, hx, hy, Sem.run_bind]
    rw [show ((1 : Nat) : Int) = 1 from rfl, ix3_1]
    rfl
  · simp only [ho, hx, hy, Sem.run_bind]
    rw [show ((2 : Nat) : Int) = 2 from rfl, ix3_2]
    rfl
theorem at_st (p : Tmp) {y : Operand} {P : Program} (ho : o.op = .store 40 (.tmp p) y) (h : Stop (wpList P ops Q (o :: rest) a w)) : wpList P ops Q (o :: rest) a w := h
end

end Go.Proofs.Ytmnaffhlilnlhaa
