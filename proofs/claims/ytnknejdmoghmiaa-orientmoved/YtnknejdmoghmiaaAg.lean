/- Package grid: size, common, divisor, Prime. Package grid: divisor. Package grid: divisor over integers, Prime. Package grid: Prime over integers; the law's awake. -/
import Derived.Test.YtnknejdmoghmiaaAe
namespace Go.Proofs.Ytnknejdmoghmiaa
open Go.RowKit
set_option maxRecDepth 4000
set_option linter.unusedVariables false

section
variable {ops : Array Oper} {rest : List Oper} {o : Oper} {a : Act} {w : World} {Q : Exit → Act → World → Prop}
theorem neqWd {n m : Nat} {b : Bool} (hb : same n m = b) (x y : Operand) {ty' : TypeId} (ho : o.op = .binOp .neq 40 x y ty') (hgd : o.guard = none) (hx : a.eval x = .agg (cells8 n)) (hy : a.eval y = .agg (cells8 m))
    (h : wpList Try.prog ops Q rest (a.put o.dst (.bool (!b))) w) : wpList Try.prog ops Q (o :: rest) a w := wpList_value hgd (exec_neq_wide_is hb w x y ho hx hy) h
end

theorem size_neg (n v : Nat) (E : Bool) (w : World) (h1 : Hid (Ans 46 #[.agg (cells8 n)] (.int .i64 (-1)))) (h2 : Hid (Ans 48 #[.agg (cells8 n)] (.tuple #[.agg (cells8 v), .bool E]))) :
    Calls Try.prog 143 #[.agg (cells8 n)] w fun e w' => e = .returned (.tuple #[.agg (cells8 v), .bool E]) ∧ Below w.heap.size w w' := by
  go_enter Try.func143, Try.ntmps143
  go_upto_region 1 with fail
  have D := hide (((Gen.start w).push 40 (cells8 n)).push 40 z8)
  simp only [szA] at D
  go_wp2_with (first | (with_reducible refine at_list ?_; apply ldG (unhide D) rWide _ rfl rfl rfl (by repeat (first | exact List.mem_cons_self | apply List.mem_cons_of_mem)) rfl) | (go_at_call 46; with_reducible refine (unhide h1 _).mono ?_; rintro e w' ⟨he, hb⟩; subst he; have D := hide ((unhide D).keep hb); clear hb) | (go_at_call 48; with_reducible refine (unhide h2 _).mono ?_; rintro e w' ⟨he, hb⟩; subst he; have D := hide ((unhide D).keep hb); clear hb) | (with_reducible refine at_list ?_; apply stGend (unhide D) rWide _ _ rfl rfl rfl rfl (by repeat (first | exact List.mem_cons_self | apply List.mem_cons_of_mem)) (by omega) rfl rfl (cells8_one _); intro B O))
  exact resGT rWide (unhide B) rfl rfl rfl rfl rfl ⟨rfl, unhide O⟩
theorem size_zero (n : Nat) (w : World) (h1 : Hid (Ans 46 #[.agg (cells8 n)] (.int .i64 0))) :
    Calls Try.prog 143 #[.agg (cells8 n)] w fun e w' => e = .returned (.tuple #[.agg (cells8 n), .bool true]) ∧ Below w.heap.size w w' := by
  go_enter Try.func143, Try.ntmps143
  go_upto_region 1 with fail
  have D := hide (((Gen.start w).push 40 (cells8 n)).push 40 z8)
  simp only [szA] at D
  go_wp2_with (first | (with_reducible refine at_list ?_; apply ldG (unhide D) rWide _ rfl rfl rfl (by repeat (first | exact List.mem_cons_self | apply List.mem_cons_of_mem)) rfl) | (go_at_call 46; with_reducible refine (unhide h1 _).mono ?_; rintro e w' ⟨he, hb⟩; subst he; have D := hide ((unhide D).keep hb); clear hb) | (with_reducible refine at_list ?_; apply stGend (unhide D) rWide _ _ rfl rfl rfl rfl (by repeat (first | exact List.mem_cons_self | apply List.mem_cons_of_mem)) (by omega) rfl rfl (cells8_one _); intro B O))
  exact resGT rWide (unhide B) rfl rfl rfl rfl rfl ⟨rfl, unhide O⟩
theorem size_pos (n : Nat) (w : World) (h1 : Hid (Ans 46 #[.agg (cells8 n)] (.int .i64 1))) :
    Calls Try.prog 143 #[.agg (cells8 n)] w fun e w' => e = .returned (.tuple #[.agg (cells8 n), .bool true]) ∧ Below w.heap.size w w' := by
  go_enter Try.func143, Try.ntmps143
  go_upto_region 1 with fail
  have D := hide (((Gen.start w).push 40 (cells8 n)).push 40 z8)
  simp only [szA] at D
  go_wp2_with (first | (with_reducible refine at_list ?_; apply ldG (unhide D) rWide _ rfl rfl rfl (by repeat (first | exact List.mem_cons_self | apply List.mem_cons_of_mem)) rfl) | (go_at_call 46; with_reducible refine (unhide h1 _).mono ?_; rintro e w' ⟨he, hb⟩; subst he; have D := hide ((unhide D).keep hb); clear hb) | (with_reducible refine at_list ?_; apply stGend (unhide D) rWide _ _ rfl rfl rfl rfl (by repeat (first | exact List.mem_cons_self | apply List.mem_cons_of_mem)) (by omega) rfl rfl (cells8_one _); intro B O))
  exact resGT rWide (unhide B) rfl rfl rfl rfl rfl ⟨rfl, unhide O⟩
theorem SizeZ (x : Int) (hx : Fit x) : Ans 143 #[V x] (toldZ (x.natAbs : Int)) := by
  intro w
  have hs : Ans 46 #[V x] (.int .i64 (sgn x)) := fun u => SignZ x hx u
  rcases (show x < 0 ∨ x = 0 ∨ 0 < x by omega) with h | h | h
  · rw [show ((x.natAbs : Nat) : Int) = -x by omega]
    rw [show sgn x = -1 by unfold sgn; rw [if_pos h]] at hs
    have hn := fun u => NegZ x hx u
    cases hf : fit (-x)
    · rw [toldZ_not hf] at hn ⊢
      exact size_neg _ _ false w hs hn
    · rw [toldZ_fit (Fit.of hf)] at hn ⊢
      exact size_neg _ _ true w hs hn
  · rw [show ((x.natAbs : Nat) : Int) = x by omega, toldZ_fit hx]
    rw [show sgn x = 0 by unfold sgn; rw [if_neg (by omega), if_pos h]] at hs
    exact size_zero _ w hs
  · rw [show ((x.natAbs : Nat) : Int) = x by omega, toldZ_fit hx]
    rw [show sgn x = 1 by unfold sgn; rw [if_neg (by omega), if_neg (by omega)]] at hs
    exact size_pos _ w hs

theorem DivN6 (p q : Nat) (hp : (p : Int) < (H : Int)) (hq : (q : Int) < (H : Int)) (h0 : q ≠ 0) : Ans 50 #[V (p : Int), V (q : Int)] (.tuple #[V ((p / q : Nat) : Int), V ((p % q : Nat) : Int), .bool true]) := by
  intro w
  have hH := H_pos
  have f1 : Fit (p : Int) := ⟨by omega, hp⟩
  have f2 : Fit (q : Int) := ⟨by omega, hq⟩
  have k := DivZ (p : Int) (q : Int) f1 f2 w
  have e1 : (p : Int).fdiv (q : Int) = ((p / q : Nat) : Int) := by rw [Int.fdiv_eq_ediv_of_nonneg _ (by omega)]; rfl
  have e2 : (p : Int).fmod (q : Int) = ((p % q : Nat) : Int) := by rw [Int.fmod_eq_emod_of_nonneg _ (by omega)]; rfl
  have hle : ((p / q : Nat) : Int) ≤ (p : Int) := Int.ofNat_le.2 (Nat.div_le_self p q)
  have hnn : (0 : Int) ≤ ((p / q : Nat) : Int) := Int.natCast_nonneg _
  have e3 : dq (p : Int) (q : Int) = true := by
    unfold dq
    rw [e1, fit_true ⟨Int.le_trans (by omega) hnn, Int.lt_of_le_of_lt hle hp⟩]
    simp
    omega
  rw [e3, e1, e2] at k
  exact k

set_option maxHeartbeats 4000000 in
theorem common_core (I : Nat → Nat → Prop) (dv md : Nat → Nat → Nat) (a b r : Nat) (w : World) (hI : Hid (I a b)) (hM : Hid (∀ p q, I p q → q < M)) (hs : Hid (∀ p q, I p q → same q 0 = decide (q = 0))) (h0 : Hid (∀ p, I p 0 → p = r))
    (hd : Hid (∀ p q, I p q → q ≠ 0 → Ans 50 #[.agg (cells8 p), .agg (cells8 q)] (.tuple #[.agg (cells8 (dv p q)), .agg (cells8 (md p q)), .bool true]) ∧ I q (md p q) ∧ md p q < q)) :
    Calls Try.prog 144 #[.agg (cells8 a), .agg (cells8 b)] w fun e w' => e = .returned (.agg (cells8 r)) ∧ Below w.heap.size w w' := by
  go_enter Try.func144, Try.ntmps144
  go_upto_region 1 with fail
  have D := hide ((((Gen.start w).push 40 (cells8 a)).push 40 (cells8 b)).push 40 z8)
  simp only [szA] at D
  go_loopw [] (fun wr => ∃ p q : Nat, Hid (I p q) ∧ Hid (Gen w [(w.heap.size + 1 + 1, 40, z8), (w.heap.size + 1, 40, cells8 q), (w.heap.size, 40, cells8 p)] wr)) (fun wr => numAt wr (w.heap.size + 1))
  case atStart => exact ⟨a, b, hI, D⟩
  case round =>
    obtain ⟨p, q, hp, hD⟩ := hrel
    have D := hD
    clear hI
    have hsm := hide (unhide hs p q (unhide hp))
    have hqM := hide (unhide hM p q (unhide hp))
    by_cases hq : q = 0
    · subst hq
      have hr := unhide h0 p (unhide hp)
      subst hr
      clear hs h0 hd hM
      go_wp2_with (first | (with_reducible refine at_list ?_; apply ldG (unhide D) rWide _ rfl rfl rfl (by repeat (first | exact List.mem_cons_self | apply List.mem_cons_of_mem)) rfl) | (with_reducible refine at_list ?_;  refine bd0 40 rfl rfl bWide0 ?_) | (with_reducible refine at_list ?_;  refine neqWd (unhide hsm) _ _ rfl rfl rfl rfl ?_) | (with_reducible refine at_list ?_; apply stGend (unhide D) rWide _ _ rfl rfl rfl rfl (by repeat (first | exact List.mem_cons_self | apply List.mem_cons_of_mem)) (by omega) rfl rfl (cells8_one _); intro B O))
      exact resG rWide (unhide B) rfl rfl rfl rfl ⟨rfl, unhide O⟩
    · rw [decide_eq_false hq] at hsm
      obtain ⟨d1, d2, d3⟩ := unhide hd p q (unhide hp) hq
      have hdv := hide d1
      have hin := hide d2
      have hlt := hide d3
      clear d1 d2 d3 hq hs h0 hd
      go_upto_region 3 with (first | (with_reducible refine at_list ?_; apply ldG (unhide D) rWide _ rfl rfl rfl (by repeat (first | exact List.mem_cons_self | apply List.mem_cons_of_mem)) rfl) | (with_reducible refine at_list ?_;  refine bd0 40 rfl rfl bWide0 ?_) | (with_reducible refine at_list ?_;  refine neqWd (unhide hsm) _ _ rfl rfl rfl rfl ?_) | (go_at_call 50; with_reducible refine (unhide hdv _).mono ?_; rintro e w' ⟨he, hb⟩; subst he; have D := hide ((unhide D).keep hb); clear hb) | (with_reducible refine at_list ?_;  refine st2 (unhide D) _ _ _ _ rfl rfl rfl rfl rfl rfl rfl rfl rfl rfl ?_; intro u D'; have D := hide D'; clear D'))
      have hge : w.heap.size + 1 + 1 < w'.heap.size := (Gen.blk (g := w.heap.size + 1 + 1) (unhide ‹Hid (Gen w [(w.heap.size + 1 + 1, 40, z8), (w.heap.size + 1, 40, cells8 q), (w.heap.size, 40, cells8 p)] w')›) (by repeat (first | exact List.mem_cons_self | apply List.mem_cons_of_mem))).lt
      have D1 : Gen w [(w'.heap.size + 1, 40, cells8 (md p q)), (w.heap.size + 1, 40, cells8 q), (w.heap.size + 1 + 1, 40, z8), (w.heap.size, 40, cells8 (bif false then q else p))] u := ⟨fun k hk => by
        simp only [List.mem_cons, List.not_mem_nil, or_false] at hk
        rcases hk with rfl | rfl | rfl | rfl
        · exact (unhide D).blk (by repeat (first | exact List.mem_cons_self | apply List.mem_cons_of_mem))
        · exact (unhide D).blk (by repeat (first | exact List.mem_cons_self | apply List.mem_cons_of_mem))
        · exact (unhide D).blk (by repeat (first | exact List.mem_cons_self | apply List.mem_cons_of_mem))
        · exact (unhide D).blk (g := w.heap.size) (by repeat (first | exact List.mem_cons_self | apply List.mem_cons_of_mem)), (unhide D).o⟩
      have hn0 : numAt wr (w.heap.size + 1) = q := numAt_eq ((unhide hD).blk (g := w.heap.size + 1) (by repeat (first | exact List.mem_cons_self | apply List.mem_cons_of_mem))) (unhide hqM)
      have hn1 := hide hn0
      clear D hn0
      obtain ⟨c6, hc6e⟩ : ∃ c, c = w'.heap.size + 1 := ⟨_, rfl⟩
      rw [← hc6e] at D1 ⊢
      have hc6 : w.heap.size + 1 + 1 < c6 := by omega
      clear hc6e hge
      refine region_lastT (t := 2) (S := (fun b u => Gen w [(c6, 40, cells8 (md p q)), (w.heap.size + 1, 40, cells8 q), (w.heap.size + 1 + 1, 40, z8), (w.heap.size, 40, cells8 (bif b then q else p))] u)) (f := 3) (l := [0, 1, 2]) (by kernel_rfl) (by kernel_rfl) (by kernel_rfl) (by kernel_rfl) (by kernel_rfl) (by kernel_rfl) (by kernel_rfl) (by kernel_rfl) (by kernel_rfl) (by kernel_rfl) rfl rfl (by decide) D1.drew ?_
      refine planT_read (v := .agg (cells8 q)) rfl (by decide) rfl (fun b u hS => exec_ldG hS rWide _ rfl rfl (by repeat (first | exact List.mem_cons_self | apply List.mem_cons_of_mem)) rfl) ?_
      go_simp
      refine planT_read (v := .agg (cells8 (md p q))) rfl (by decide) rfl (fun b u hS => exec_ldG hS rWide _ rfl rfl (by repeat (first | exact List.mem_cons_self | apply List.mem_cons_of_mem)) rfl) ?_
      go_simp
      refine planT_store rfl rfl (fun u hS => ⟨_, exec_store8 (n := q) 40 (.tmp 2) (.tmp 18) (hS.blk (g := w.heap.size) (by repeat (first | exact List.mem_cons_self | apply List.mem_cons_of_mem))) rfl rfl rfl rfl iWide, ⟨fun k hk => ?_, below_row hS.o (Nat.le_refl _) _⟩⟩) ?_
      · simp only [List.mem_cons, List.not_mem_nil, or_false] at hk
        rcases hk with rfl | rfl | rfl | rfl
        · exact (hS.blk (g := c6) (by repeat (first | exact List.mem_cons_self | apply List.mem_cons_of_mem))).rowOther _ (by omega)
        · exact (hS.blk (g := w.heap.size + 1) (by repeat (first | exact List.mem_cons_self | apply List.mem_cons_of_mem))).rowOther _ (by omega)
        · exact (hS.blk (g := w.heap.size + 1 + 1) (by repeat (first | exact List.mem_cons_self | apply List.mem_cons_of_mem))).rowOther _ (by omega)
        · exact (hS.blk (g := w.heap.size) (by repeat (first | exact List.mem_cons_self | apply List.mem_cons_of_mem))).row _
      go_simp
      refine planT_last (fun u hS => ?_)
      have G3 := hide (hS.blk (g := w.heap.size + 1) (t := 40) (cs := cells8 q) (by repeat (first | exact List.mem_cons_self | apply List.mem_cons_of_mem)))
      refine wp_store_row 40 (.tmp 3) (.tmp 19) rfl _ (cells8 (md p q)) rfl rfl 40 _ (unhide G3) iWide rfl (cells8_one _) ?_
      have D2 : Hid (Gen w [(w.heap.size + 1 + 1, 40, z8), (w.heap.size + 1, 40, cells8 (md p q)), (w.heap.size, 40, cells8 q)] (u.setRow (w.heap.size + 1) (cells8 (md p q)))) := ⟨fun k hk => by
        simp only [List.mem_cons, List.not_mem_nil, or_false] at hk
        rcases hk with rfl | rfl | rfl
        · exact (hS.blk (g := w.heap.size + 1 + 1) (by repeat (first | exact List.mem_cons_self | apply List.mem_cons_of_mem))).rowOther _ (by omega)
        · exact (unhide G3).row _
        · exact (hS.blk (g := w.heap.size) (by repeat (first | exact List.mem_cons_self | apply List.mem_cons_of_mem))).rowOther _ (by omega), below_row hS.o (by omega) _⟩
      clear hS D1 G3
      refine ⟨⟨_, _, _, _, _, _, _, _, _, _, _, _, _, _, _, ⟨q, md p q, hin, D2⟩, rfl⟩, ?_⟩
      rw [unhide hn1, numAt_eq ((unhide D2).blk (g := w.heap.size + 1) (by repeat (first | exact List.mem_cons_self | apply List.mem_cons_of_mem))) (Nat.lt_trans (unhide hlt) (unhide hqM))]
      exact unhide hlt

theorem CommonZ (a b : Nat) (ha : (a : Int) < (H : Int)) (hb : (b : Int) < (H : Int)) : Ans 144 #[V (a : Int), V (b : Int)] (V ((Nat.gcd a b : Nat) : Int)) := by
  intro w
  have hMH := MI
  have hH := H_pos
  have lt : ∀ {p : Nat}, (p : Int) < (H : Int) → p < M := fun h => by omega
  have hgl : ((Nat.gcd a b : Nat) : Int) < (H : Int) := by
    rcases Nat.eq_zero_or_pos a with h | h
    · rw [h, Nat.gcd_zero_left]; exact hb
    · exact Int.lt_of_le_of_lt (Int.ofNat_le.2 (Nat.gcd_le_left b h)) ha
  dsimp only [V]
  rw [enc_nat (lt ha), enc_nat (lt hb), enc_nat (lt hgl)]
  refine common_core (fun p q => (p : Int) < (H : Int) ∧ (q : Int) < (H : Int) ∧ Nat.gcd p q = Nat.gcd a b) (fun p q => p / q) (fun p q => p % q) a b _ w ⟨ha, hb, rfl⟩ (fun p q h => lt h.2.1) (fun p q h => ?_) (fun p h => ?_) (fun p q h h0 => ⟨?_, ⟨h.2.1, ?_, ?_⟩, Nat.mod_lt _ (Nat.pos_of_ne_zero h0)⟩)
  · unfold same
    rw [Nat.mod_eq_of_lt (lt h.2.1), Nat.zero_mod]
  · have := h.2.2
    rw [Nat.gcd_zero_right] at this
    exact this
  · have k := DivN6 p q h.1 h.2.1 h0
    dsimp only [V] at k
    have h1 : ((p / q : Nat) : Int) < (H : Int) := Int.lt_of_le_of_lt (Int.ofNat_le.2 (Nat.div_le_self p q)) h.1
    have h2 : ((p % q : Nat) : Int) < (H : Int) := Int.lt_of_le_of_lt (Int.ofNat_le.2 (Nat.mod_le p q)) h.1
    rw [enc_nat (lt h.1), enc_nat (lt h.2.1), enc_nat (lt h1), enc_nat (lt h2)] at k
    exact k
  · exact Int.lt_of_le_of_lt (Int.ofNat_le.2 (Nat.mod_le p q)) h.1
  · rw [← h.2.2, Nat.gcd_comm p q, Nat.gcd_rec q p, Nat.gcd_comm (p % q) q]

theorem bArr3 (x y z : Nat) : Try.prog.built 137 [(0, .agg (cells8 x)), (1, .agg (cells8 y)), (2, .agg (cells8 z))] = some (c24 x y z) := by kernel_rfl
theorem ix3_0 (x y z : Nat) (w : World) : (Instr.index 137 (.agg (c24 x y z)) (.int .i64 0)).run Try.prog w = .ok (.agg (cells8 x)) w := by kernel_rfl
theorem ix3_1 (x y z : Nat) (w : World) : (Instr.index 137 (.agg (c24 x y z)) (.int .i64 1)).run Try.prog w = .ok (.agg (cells8 y)) w := by kernel_rfl
theorem ix3_2 (x y z : Nat) (w : World) : (Instr.index 137 (.agg (c24 x y z)) (.int .i64 2)).run Try.prog w = .ok (.agg (cells8 z)) w := by kernel_rfl
section
variable {ops : Array Oper} {rest : List Oper} {o : Oper} {a : Act} {w : World} {Q : Exit → Act → World → Prop}
theorem exec_ix3A (N : Nat → Nat) {k : Nat} (hk : k < 3) (x y : Operand) (ho : o.op = .index 137 x y) (hx : a.eval x = .agg (c24 (N 0) (N 1) (N 2))) (hy : a.eval y = .int .i64 (k : Int)) : (execOp a.eval o).run Try.prog w = .ok (.value (.agg (cells8 (N k)))) w := by
  unfold execOp
  rcases (show k = 0 ∨ k = 1 ∨ k = 2 by omega) with rfl | rfl | rfl
  · simp only [ho, hx, hy, Sem.run_bind]
    rw [show ((0 : Nat) : Int) = 0 from rfl, ix3_0]
    rfl
  · simp only [ho, hx, hy, Sem.run_bind]
    rw [show ((1 : Nat) : Int) = 1 from rfl, ix3_1]
    rfl
  · simp only [ho, hx, hy, Sem.run_bind]
    rw [show ((2 : Nat) : Int) = 2 from rfl, ix3_2]
    rfl
theorem at_st (p : Tmp) {y : Operand} {P : Program} (ho : o.op = .store 40 (.tmp p) y) (h : Stop (wpList P ops Q (o :: rest) a w)) : wpList P ops Q (o :: rest) a w := h
end

end Go.Proofs.Ytnknejdmoghmiaa

namespace Go.Proofs.Ytnknejdmoghmiaa
open Go.RowKit
set_option maxRecDepth 4000
set_option linter.unusedVariables false

theorem bdArr3 {ops : Array Oper} {rest : List Oper} {o : Oper} {a : Act} {w : World} {Q : Exit → Act → World → Prop} (p q r : Operand) {x y z : Nat} (ho : o.op = .build 137 #[(0, p), (1, q), (2, r)]) (hgd : o.guard = none) (hx : a.eval p = .agg (cells8 x)) (hy : a.eval q = .agg (cells8 y)) (hz : a.eval r = .agg (cells8 z))
    (h : wpList Try.prog ops Q rest (a.put o.dst (.agg (c24 x y z))) w) : wpList Try.prog ops Q (o :: rest) a w := wpList_value hgd (exec_build3 w 137 p q r ho hx hy hz (bArr3 x y z)) h
theorem ixArr3 {ops : Array Oper} {rest : List Oper} {o : Oper} {a : Act} {w : World} {Q : Exit → Act → World → Prop} (N : Nat → Nat) {k : Nat} (hk : k < 3) (x y : Operand) (ho : o.op = .index 137 x y) (hgd : o.guard = none) (hx : a.eval x = .agg (c24 (N 0) (N 1) (N 2))) (hy : a.eval y = .int .i64 (k : Int))
    (h : wpList Try.prog ops Q rest (a.put o.dst (.agg (cells8 (N k)))) w) : wpList Try.prog ops Q (o :: rest) a w := wpList_value hgd (exec_ix3A N hk x y ho hx hy) h
set_option maxHeartbeats 1000000 in
theorem divisor_core (N L Wd : Nat → Nat) (m Z0 : Nat) (z : Bool) (w : World) (hm : m ≤ 3) (h0 : Hid (Wd 0 = 0)) (hs : Hid (∀ k, k < m → Ans 143 #[.agg (cells8 (N k))] (.tuple #[.agg (cells8 (L k)), .bool true]))) (hc : Hid (∀ k, k < m → Ans 144 #[.agg (cells8 (Wd k)), .agg (cells8 (L k))] (.agg (cells8 (Wd (k + 1))))))
    (hr : Hid (m < 3 → Ans 143 #[.agg (cells8 (N m))] (.tuple #[.agg (cells8 Z0), .bool false]))) (hz : Hid (same (Wd 3) 0 = z)) (res : Value) (hy : Hid (m = 3 → res = .tuple #[.agg (cells8 (Wd 3)), .bool (!z)])) (hn : Hid (m < 3 → res = .tuple #[.agg (cells8 0), .bool false])) :
    Calls Try.prog 92 #[.agg (c24 (N 0) (N 1) (N 2))] w fun e w' => e = .returned res ∧ Below w.heap.size w w' := by
  go_enter Try.func92, Try.ntmps92
  go_upto_region 2 with fail
  have D := hide ((((Gen.start w).push 43 (c24 (N 0) (N 1) (N 2))).push 40 z8).push 40 z8)
  simp only [szA] at D
  generalize ((w.alloc (.cells (c24 (N 0) (N 1) (N 2)) 43)).alloc (.cells z8 40)).alloc (.cells z8 40) = w3 at D ⊢
  have D0 : Hid (Gen w [(w.heap.size + 1 + 1, 40, cells8 (Wd 0)), (w.heap.size + 1, 40, z8), (w.heap.size, 43, c24 (N 0) (N 1) (N 2))] w3) := by
    rw [unhide h0, cells8_0]
    exact D
  clear D
  have D := D0
  clear D0
  have S0 := hide ((unhide D).blk (g := w.heap.size) (t := 43) (cs := c24 (N 0) (N 1) (N 2)) (by repeat (first | exact List.mem_cons_self | apply List.mem_cons_of_mem)))
  go_wp2_with (first | (with_reducible refine at_list ?_;  refine ldMid _ rfl rfl rfl (range_x (unhide S0)) ?_) | (with_reducible refine at_list ?_;  refine ldMid _ rfl rfl rfl (range_y (unhide S0)) ?_) | (with_reducible refine at_list ?_;  refine ldMid _ rfl rfl rfl (range_z (unhide S0)) ?_) | (with_reducible refine at_list ?_;  refine bdArr3 _ _ _ rfl rfl rfl rfl rfl ?_))
  clear S0
  go_loopw [16] (fun i wr => ∃ k : Nat, k ≤ m ∧ i = .int .i64 k ∧ Hid (Gen w [(w.heap.size + 1 + 1, 40, cells8 (Wd k)), (w.heap.size + 1, 40, z8), (w.heap.size, 43, c24 (N 0) (N 1) (N 2))] wr)) (fun i _ => 3 - (intOf i).toNat)
  case atStart => exact ⟨0, by omega, rfl, D⟩
  case round =>
    obtain ⟨k, hk, rfl, hD⟩ := hrel
    clear D
    have D := hD
    clear hD h0
    by_cases hkm : k < m
    · have hk3 : k < 3 := by omega
      have hki : (k : Int) < 3 := by omega
      have s1 := hide (unhide hs k hkm)
      have c1 := hide (unhide hc k hkm)
      clear hs hc hr hz hy hn
      go_wp2_with (first | (with_reducible refine at_list ?_;  refine ixArr3 N hk3 _ _ rfl rfl rfl rfl ?_) | (with_reducible refine at_st 4 rfl ?_) | (with_reducible refine at_list ?_; refine stG (unhide D) rWide _ _ rfl rfl rfl rfl rfl rfl (cells8_one _) ?_; intro D'; have D := hide D'; clear D') | (with_reducible refine at_list ?_; apply ldG (unhide D) rWide _ rfl rfl rfl (by repeat (first | exact List.mem_cons_self | apply List.mem_cons_of_mem)) rfl) | (go_at_call 143; with_reducible refine (unhide s1 _).mono ?_; rintro e w' ⟨he, hb⟩; subst he; have D := hide ((unhide D).keep hb); clear hb) | (go_at_call 144; with_reducible refine (unhide c1 _).mono ?_; rintro e w' ⟨he, hb⟩; subst he; have D := hide ((unhide D).keep hb); clear hb))
      unfold Stop
      have G4 := hide ((unhide D).blk (g := w.heap.size + 1 + 1) (t := 40) (cs := cells8 (Wd k)) (by repeat (first | exact List.mem_cons_self | apply List.mem_cons_of_mem)))
      have G2 := hide ((unhide D).blk (g := w.heap.size + 1) (t := 40) (cs := z8) (by repeat (first | exact List.mem_cons_self | apply List.mem_cons_of_mem)))
      have G1 := hide ((unhide D).blk (g := w.heap.size) (t := 43) (cs := c24 (N 0) (N 1) (N 2)) (by repeat (first | exact List.mem_cons_self | apply List.mem_cons_of_mem)))
      have O := hide (unhide D).o
      clear D
      refine wpList_store_row rfl 40 _ _ rfl (w.heap.size + 1 + 1) (cells8 (Wd (k + 1))) rfl rfl 40 _ (unhide G4) iWide rfl (cells8_one _) ?_
      have D := hide (Gen.third ((unhide G4).row (cells8 (Wd (k + 1)))) ((unhide G2).rowOther (k := w.heap.size + 1 + 1) (cells8 (Wd (k + 1))) (by omega)) ((unhide G1).rowOther (k := w.heap.size + 1 + 1) (cells8 (Wd (k + 1))) (by omega)) (below_row (unhide O) (by omega) (cells8 (Wd (k + 1)))))
      clear G4 G2 G1 O
      go_wp2
      go_roundw
      case rel => exact ⟨k + 1, by omega, by go_num, D⟩
      case measure => simp [intOf]; omega
    · obtain rfl : k = m := by omega
      clear hs hc hkm
      by_cases hk3 : k < 3
      · have hki : (k : Int) < 3 := by omega
        have s1 := hide (unhide hr hk3)
        have e := unhide hn hk3
        subst e
        clear hr hz hn hy
        go_wp2_with (first | (with_reducible refine at_list ?_;  refine ixArr3 N hk3 _ _ rfl rfl rfl rfl ?_) | (with_reducible refine at_list ?_; refine stG (unhide D) rWide _ _ rfl rfl rfl rfl rfl rfl (cells8_one _) ?_; intro D'; have D := hide D'; clear D') | (with_reducible refine at_list ?_; apply ldG (unhide D) rWide _ rfl rfl rfl (by repeat (first | exact List.mem_cons_self | apply List.mem_cons_of_mem)) rfl) | (go_at_call 143; with_reducible refine (unhide s1 _).mono ?_; rintro e w' ⟨he, hb⟩; subst he; have D := hide ((unhide D).keep hb); clear hb) | (with_reducible refine at_list ?_;  refine bd0 40 rfl rfl bWide0 ?_) | (with_reducible refine at_list ?_; apply stGend (unhide D) rWide _ _ rfl rfl rfl rfl (by repeat (first | exact List.mem_cons_self | apply List.mem_cons_of_mem)) (by omega) rfl rfl (cells8_one _); intro B O))
        exact resGT rWide (unhide B) rfl rfl rfl rfl rfl ⟨rfl, unhide O⟩
      · obtain rfl : k = 3 := by omega
        clear hr hk hm hk3
        have e := unhide hy rfl
        subst e
        clear hy hn
        go_upto_region 10 with fail
        have D1 : Gen w [(w.heap.size + 1 + 1, 40, cells8 (Wd 3)), (w.heap.size + 1, 40, bif false then cells8 (Wd 3) else z8)] wr := ⟨fun q hq => by
          simp only [List.mem_cons, List.not_mem_nil, or_false] at hq
          rcases hq with rfl | rfl
          · exact (unhide D).blk (g := w.heap.size + 1 + 1) (by repeat (first | exact List.mem_cons_self | apply List.mem_cons_of_mem))
          · exact (unhide D).blk (g := w.heap.size + 1) (by repeat (first | exact List.mem_cons_self | apply List.mem_cons_of_mem)), (unhide D).o⟩
        clear D
        refine region_planT (t := 4) (S := fun b u => Gen w [(w.heap.size + 1 + 1, 40, cells8 (Wd 3)), (w.heap.size + 1, 40, bif b then cells8 (Wd 3) else z8)] u) (l := [0, 1, 2, 3, 4, 5]) (by kernel_rfl) (by kernel_rfl) (by kernel_rfl) (by kernel_rfl) (by kernel_rfl) (by kernel_rfl) (by kernel_rfl) (by decide) D1.drew ?_
        refine planT_read (v := .agg (cells8 (Wd 3))) rfl (by decide) rfl (fun b u hS => exec_ldG hS rWide _ rfl rfl (by repeat (first | exact List.mem_cons_self | apply List.mem_cons_of_mem)) rfl) ?_
        go_simp
        refine planT_read (v := .agg (cells8 (Wd 3))) rfl (by decide) rfl (fun b u hS => exec_ldG hS rWide _ rfl rfl (by repeat (first | exact List.mem_cons_self | apply List.mem_cons_of_mem)) rfl) ?_
        go_simp
        refine planT_read (v := .agg (cells8 0)) rfl (by decide) rfl (fun b u hS => exec_build0 u 40 rfl bWide0) ?_
        go_simp
        refine planT_read (v := .bool (!z)) rfl (by decide) rfl (fun b u hS => exec_neq_wide_is (unhide hz) u _ _ rfl rfl rfl) ?_
        go_simp
        refine planT_store rfl rfl (fun u hS => ⟨_, exec_store8 (n := Wd 3) 40 (.tmp 2) (.tmp 31) (hS.blk (g := w.heap.size + 1) (t := 40) (cs := z8) (by repeat (first | exact List.mem_cons_self | apply List.mem_cons_of_mem))) rfl rfl rfl rfl iWide, ⟨fun k hk => ?_, below_row hS.o (by omega) _⟩⟩) ?_
        · simp only [List.mem_cons, List.not_mem_nil, or_false] at hk
          rcases hk with rfl | rfl
          · exact (hS.blk (g := w.heap.size + 1 + 1) (cs := cells8 (Wd 3)) (by repeat (first | exact List.mem_cons_self | apply List.mem_cons_of_mem))).rowOther _ (by omega)
          · exact (hS.blk (g := w.heap.size + 1) (t := 40) (cs := z8) (by repeat (first | exact List.mem_cons_self | apply List.mem_cons_of_mem))).row _
        go_simp
        refine planT_read (v := ?_) rfl (by decide) rfl (fun b u hS => by go_simp; rfl) ?_
        go_simp
        refine planT_end (fun u hS => ?_)
        have B := hide (hS.blk (g := w.heap.size + 1) (t := 40) (cs := cells8 (Wd 3)) (by repeat (first | exact List.mem_cons_self | apply List.mem_cons_of_mem)))
        have O := hide hS.o
        clear hS D1
        go_wp2
        exact resGT rWide (unhide B) rfl rfl rfl rfl rfl ⟨rfl, unhide O⟩

end Go.Proofs.Ytnknejdmoghmiaa

namespace Go.Proofs.Ytnknejdmoghmiaa
open Go.RowKit
set_option maxRecDepth 4000
set_option linter.unusedVariables false

/-- The divisor behind k numbers. -/
def wd (x y z : Int) : Nat → Nat
  | 0 => 0
  | k + 1 => Nat.gcd (wd x y z k) (nth3 x y z k).natAbs
theorem wd_lt {x y z : Int} {m : Nat} (hf : ∀ k, k < m → fit ((nth3 x y z k).natAbs : Int) = true) : ∀ k, k ≤ m → ((wd x y z k : Nat) : Int) < (H : Int)
  | 0, _ => by have := H_pos; show ((0 : Nat) : Int) < _; omega
  | k + 1, h => by
    have ih := wd_lt hf k (by omega)
    have h1 := (Fit.of (hf k (by omega))).2
    show ((Nat.gcd (wd x y z k) (nth3 x y z k).natAbs : Nat) : Int) < _
    rcases Nat.eq_zero_or_pos (nth3 x y z k).natAbs with h0 | h0
    · rw [h0, Nat.gcd_zero_right]; exact ih
    · exact Int.lt_of_le_of_lt (Int.ofNat_le.2 (Nat.gcd_le_right _ h0)) h1
theorem DivisorG (x y z : Int) (hx : Fit x) (hy : Fit y) (hz : Fit z) (m : Nat) (hm : m ≤ 3) (hf : ∀ k, k < m → fit ((nth3 x y z k).natAbs : Int) = true) (hr : m < 3 → fit ((nth3 x y z m).natAbs : Int) = false) :
    Ans 92 #[.agg (c24 (enc x) (enc y) (enc z))] (if m = 3 then .tuple #[V ((wd x y z 3 : Nat) : Int), .bool (!decide (wd x y z 3 = 0))] else .tuple #[.agg (cells8 0), .bool false]) := by
  intro w
  have hfit : ∀ k, Fit (nth3 x y z k) := fun k => nth3_all (P := Fit) hx hy hz k
  refine divisor_core (fun k => enc (nth3 x y z k)) (fun k => enc ((nth3 x y z k).natAbs : Int)) (fun k => enc ((wd x y z k : Nat) : Int)) m (enc 0) (if m = 3 then decide (wd x y z 3 = 0) else same (enc ((wd x y z 3 : Nat) : Int)) 0) w hm rfl (fun k hk => ?_) (fun k hk => ?_) (fun h => ?_) ?_ _ (fun h => ?_) (fun h => ?_)
  · have k1 := SizeZ (nth3 x y z k) (hfit k)
    rw [toldZ_fit (Fit.of (hf k hk))] at k1
    exact k1
  · exact CommonZ (wd x y z k) (nth3 x y z k).natAbs (wd_lt hf k (by omega)) (Fit.of (hf k hk)).2
  · have k1 := SizeZ (nth3 x y z m) (hfit m)
    rw [toldZ_not (hr h)] at k1
    exact k1
  · by_cases h3 : m = 3
    · rw [if_pos h3]
      have hl := wd_lt hf 3 (by omega)
      have hM : wd x y z 3 < M := by have := MI; have := H_pos; omega
      show same (enc ((wd x y z 3 : Nat) : Int)) 0 = _
      rw [enc_nat hM]
      unfold same
      rw [Nat.mod_eq_of_lt hM, Nat.zero_mod]
    · rw [if_neg h3]
      rfl
  · rw [if_pos h, if_pos h]
  · rw [if_neg (by omega)]

theorem prime1_core (n d q r g : Nat) (E : Bool) (w : World) (hg : Blk w g 40 (cells8 d)) (hD : Hid (Ans 50 #[.agg (cells8 n), .agg (cells8 d)] (.tuple #[.agg (cells8 q), .agg (cells8 r), .bool E]))) :
    Calls Try.prog 94 #[.agg (cells8 n), ptr g] w fun e w' => e = .returned (.agg (cells8 q)) ∧ Below w.heap.size w w' := by
  have D0 : Hid (Gen w [(g, 40, cells8 d)] w) := ⟨fun p hp => by rw [List.mem_singleton.1 hp]; exact hg, Below.refl _ _⟩
  clear hg
  go_enter Try.func94, Try.ntmps94
  go_upto_region 1 with fail
  have D := hide (((unhide D0).push 40 (cells8 n)).push 40 z8)
  clear D0
  simp only [szA] at D
  go_wp2_with (first | (with_reducible refine at_list ?_; apply ldG (unhide D) rWide _ rfl rfl rfl (by repeat (first | exact List.mem_cons_self | apply List.mem_cons_of_mem)) rfl) | (go_at_call 50; with_reducible refine (unhide hD _).mono ?_; rintro e w' ⟨he, hb⟩; subst he; have D := hide ((unhide D).keep hb); clear hb) | (with_reducible refine at_list ?_;  refine st2 (unhide D) _ _ _ _ rfl rfl rfl rfl rfl rfl rfl rfl rfl rfl ?_; intro u D'; have D := hide D'; clear D') | (with_reducible refine at_list ?_; apply stGend (unhide D) rWide _ _ rfl rfl rfl rfl (by repeat (first | exact List.mem_cons_self | apply List.mem_cons_of_mem)) (by omega) rfl rfl (cells8_one _); intro B O))
  exact resG rWide (unhide B) rfl rfl rfl rfl ⟨rfl, unhide O⟩

theorem walk_store {P : Program} {ops : Array Oper} {S : World → Prop} {Q : Exit → Act → World → Prop} {tn : Nat → Bool} {i : Nat} {r : List Nat} {a : Act} {w w' : World} {o : Oper} (ho : ops[i]? = some o) (hw : Region.wanted o (yielded ops a.tmps) = true) (ht : tn i = true)
    (h : (execOp a.eval o).run P w = .ok .skip w') (hS : S w') (hr : Walk P ops S Q tn r (a.put o.dst undef) w') : Walk P ops S Q tn (i :: r) a w :=
  ⟨o, ho, .inr (.inr ⟨hw, ht, by rw [h]; exact ⟨hS, hr⟩⟩)⟩
set_option maxHeartbeats 2000000 in
theorem each_prime (n1 n2 n3 q1 q2 q3 d g : Nat) (w : World) (hg : Blk w g 40 (cells8 d))
    (h1 : Hid (∀ u, Blk u g 40 (cells8 d) → Calls Try.prog 94 #[.agg (cells8 n1), ptr g] u fun e w' => e = .returned (.agg (cells8 q1)) ∧ Below u.heap.size u w'))
    (h2 : Hid (∀ u, Blk u g 40 (cells8 d) → Calls Try.prog 94 #[.agg (cells8 n2), ptr g] u fun e w' => e = .returned (.agg (cells8 q2)) ∧ Below u.heap.size u w'))
    (h3 : Hid (∀ u, Blk u g 40 (cells8 d) → Calls Try.prog 94 #[.agg (cells8 n3), ptr g] u fun e w' => e = .returned (.agg (cells8 q3)) ∧ Below u.heap.size u w')) :
    Calls Try.prog 93 #[.agg (cells8 n1), .agg (cells8 n2), .agg (cells8 n3), .func (Fn.func 94) #[] #[ptr g]] w fun e w' => e = .returned (.tuple #[.agg (cells8 q1), .agg (cells8 q2), .agg (cells8 q3)]) ∧ Below w.heap.size w w' := by
  have D0 : Hid (Gen w [(g, 40, cells8 d)] w) := ⟨fun p hp => by rw [List.mem_singleton.1 hp]; exact hg, Below.refl _ _⟩
  have hgw := hg.lt
  clear hg
  go_enter Try.func93, Try.ntmps93
  go_upto_region 1 with fail
  have D := hide ((((unhide D0).push 40 (cells8 n1)).push 40 (cells8 n2)).push 40 (cells8 n3))
  have D := hide ((((unhide D).push 40 z8).push 40 z8).push 40 z8)
  clear D0
  simp only [szA] at D
  have D0 := (unhide D).drew
  clear D
  refine region_walk (S := Gen w [(w.heap.size + 1 + 1, 40, cells8 n3), (w.heap.size + 1, 40, cells8 n2), (w.heap.size, 40, cells8 n1), (g, 40, cells8 d)]) (l := [0, 1, 3, 4, 6, 7, 2, 5, 8, 9, 10, 11]) (t := [2, 5, 8, 9, 10, 11]) (by kernel_rfl) (by kernel_rfl) (by kernel_rfl) (by kernel_rfl) (by kernel_rfl) (by kernel_rfl) (by kernel_rfl) (by kernel_rfl) D0.tail.tail.tail ?_
  refine walk_read (v := ?_) rfl rfl rfl (fun u hS => by go_simp; rfl) ?_
  go_simp
  refine walk_read (v := .agg (cells8 n1)) rfl rfl rfl (fun u hS => exec_ldG hS rWide _ rfl rfl (by repeat (first | exact List.mem_cons_self | apply List.mem_cons_of_mem)) rfl) ?_
  go_simp
  refine walk_read (v := ?_) rfl rfl rfl (fun u hS => by go_simp; rfl) ?_
  go_simp
  refine walk_read (v := .agg (cells8 n2)) rfl rfl rfl (fun u hS => exec_ldG hS rWide _ rfl rfl (by repeat (first | exact List.mem_cons_self | apply List.mem_cons_of_mem)) rfl) ?_
  go_simp
  refine walk_read (v := ?_) rfl rfl rfl (fun u hS => by go_simp; rfl) ?_
  go_simp
  refine walk_read (v := .agg (cells8 n3)) rfl rfl rfl (fun u hS => exec_ldG hS rWide _ rfl rfl (by repeat (first | exact List.mem_cons_self | apply List.mem_cons_of_mem)) rfl) ?_
  go_simp
  refine walk_call (f := 94) (args := #[.agg (cells8 n1), ptr g]) rfl rfl rfl (by go_simp) ?_
  refine (unhide h1 _ (D0.blk (g := g) (cs := cells8 d) (by repeat (first | exact List.mem_cons_self | apply List.mem_cons_of_mem)))).mono fun e w1 ⟨he, hb⟩ => ?_
  have D1 := D0.keep hb
  refine ⟨_, he, D1.tail.tail.tail, ?_⟩
  clear hb he
  go_simp
  refine walk_call (f := 94) (args := #[.agg (cells8 n2), ptr g]) rfl rfl rfl (by go_simp) ?_
  refine (unhide h2 _ (D1.blk (g := g) (cs := cells8 d) (by repeat (first | exact List.mem_cons_self | apply List.mem_cons_of_mem)))).mono fun e w2 ⟨he, hb⟩ => ?_
  have D2 := D1.keep hb
  refine ⟨_, he, D2.tail.tail.tail, ?_⟩
  clear hb he
  go_simp
  refine walk_call (f := 94) (args := #[.agg (cells8 n3), ptr g]) rfl rfl rfl (by go_simp) ?_
  refine (unhide h3 _ (D2.blk (g := g) (cs := cells8 d) (by repeat (first | exact List.mem_cons_self | apply List.mem_cons_of_mem)))).mono fun e w3 ⟨he, hb⟩ => ?_
  have D3 := D2.keep hb
  refine ⟨_, he, D3.tail.tail.tail, ?_⟩
  clear hb he
  go_simp
  have b1 := D3.blk (g := w.heap.size + 1 + 1 + 1) (t := 40) (cs := z8) (by repeat (first | exact List.mem_cons_self | apply List.mem_cons_of_mem))
  have b2 := D3.blk (g := w.heap.size + 1 + 1 + 1 + 1) (t := 40) (cs := z8) (by repeat (first | exact List.mem_cons_self | apply List.mem_cons_of_mem))
  have b3 := D3.blk (g := w.heap.size + 1 + 1 + 1 + 1 + 1) (t := 40) (cs := z8) (by repeat (first | exact List.mem_cons_self | apply List.mem_cons_of_mem))
  have step : ∀ (u : World) (k n : Nat), w.heap.size + 1 + 1 + 1 ≤ k → Gen w [(w.heap.size + 1 + 1, 40, cells8 n3), (w.heap.size + 1, 40, cells8 n2), (w.heap.size, 40, cells8 n1), (g, 40, cells8 d)] u → Gen w [(w.heap.size + 1 + 1, 40, cells8 n3), (w.heap.size + 1, 40, cells8 n2), (w.heap.size, 40, cells8 n1), (g, 40, cells8 d)] (u.setRow k (cells8 n)) := fun u k n hk d => ⟨fun p hp => by
    have hne : p.1 ≠ k := by
      simp only [List.mem_cons, List.not_mem_nil, or_false] at hp
      rcases hp with rfl | rfl | rfl | rfl
      · show w.heap.size + 1 + 1 ≠ k; omega
      · show w.heap.size + 1 ≠ k; omega
      · show w.heap.size ≠ k; omega
      · show g ≠ k; omega
    exact (d.at_ p hp).rowOther _ hne, below_row d.o (by omega) _⟩
  have E0 := D3.tail.tail.tail
  clear D0 D1 D2 D3
  have E1 := step _ (w.heap.size + 1 + 1 + 1) q1 (by omega) E0
  have E2 := step _ (w.heap.size + 1 + 1 + 1 + 1) q2 (by omega) E1
  have E3 := step _ (w.heap.size + 1 + 1 + 1 + 1 + 1) q3 (by omega) E2
  refine walk_store rfl rfl rfl (exec_store8 (n := q1) 40 (.tmp 8) (.tmp 13) b1 rfl rfl rfl rfl iWide) E1 ?_
  go_simp
  have b2' := b2.rowOther (k := w.heap.size + 1 + 1 + 1) (cells8 q1) (by omega)
  refine walk_store rfl rfl rfl (exec_store8 (n := q2) 40 (.tmp 9) (.tmp 16) b2' rfl rfl rfl rfl iWide) E2 ?_
  go_simp
  have b3' := (b3.rowOther (k := w.heap.size + 1 + 1 + 1) (cells8 q1) (by omega)).rowOther (k := w.heap.size + 1 + 1 + 1 + 1) (cells8 q2) (by omega)
  refine walk_store rfl rfl rfl (exec_store8 (n := q3) 40 (.tmp 10) (.tmp 19) b3' rfl rfl rfl rfl iWide) E3 ?_
  go_simp
  refine walk_end ?_
  have O := hide E3.o
  have B1 := hide (((b1.row (cells8 q1)).rowOther (k := w.heap.size + 1 + 1 + 1 + 1) (cells8 q2) (by omega)).rowOther (k := w.heap.size + 1 + 1 + 1 + 1 + 1) (cells8 q3) (by omega))
  have B2 := hide ((b2'.row (cells8 q2)).rowOther (k := w.heap.size + 1 + 1 + 1 + 1 + 1) (cells8 q3) (by omega))
  have B3 := hide (b3'.row (cells8 q3))
  clear E0 E1 E2 E3 b1 b2 b3 b2' b3' step
  generalize ((w3.setRow (w.heap.size + 1 + 1 + 1) (cells8 q1)).setRow (w.heap.size + 1 + 1 + 1 + 1) (cells8 q2)).setRow (w.heap.size + 1 + 1 + 1 + 1 + 1) (cells8 q3) = w9 at O B1 B2 B3 ⊢
  go_wp2
  exact res3W (unhide B1) (unhide B2) (unhide B3) rfl rfl rfl rfl rfl ⟨rfl, unhide O⟩

theorem bSpan0 : Try.prog.built 43 [] = some (c24 0 0 0) := by kernel_rfl
theorem prime_no (x y z n : Nat) (w : World) (hD : Hid (Ans 92 #[.agg (c24 x y z)] (.tuple #[.agg (cells8 n), .bool false]))) :
    Calls Try.prog 41 #[.agg (c24 x y z)] w fun e w' => e = .returned (.tuple #[.agg (c24 0 0 0), .bool false]) ∧ Below w.heap.size w w' := by
  go_enter Try.func41, Try.ntmps41
  go_upto_region 1 with fail
  have D := hide (((Gen.start w).push 43 (c24 x y z)).push 43 z24)
  simp only [szA] at D
  go_wp2_with (first | (with_reducible refine at_list ?_; apply ldG (unhide D) rSpan _ rfl rfl rfl (by repeat (first | exact List.mem_cons_self | apply List.mem_cons_of_mem)) rfl) | (go_at_call 92; with_reducible refine (unhide hD _).mono ?_; rintro e w' ⟨he, hb⟩; subst he; have D := hide ((unhide D).keep hb); clear hb) | (with_reducible refine at_list ?_; refine stG (unhide D) rWide _ _ rfl rfl rfl rfl rfl rfl (cells8_one _) ?_; intro D'; have D := hide D'; clear D') | (with_reducible refine at_list ?_;  refine bd0 43 rfl rfl bSpan0 ?_) | (with_reducible refine at_list ?_; apply stGend (unhide D) rSpan _ _ rfl rfl rfl rfl (by repeat (first | exact List.mem_cons_self | apply List.mem_cons_of_mem)) (by omega) rfl rfl (c24_one _ _ _); intro B O))
  exact resGT rSpan (unhide B) rfl rfl rfl rfl rfl ⟨rfl, unhide O⟩
set_option maxHeartbeats 2000000 in
theorem prime_ok (x y z n a b c : Nat) (w : World) (hD : Hid (Ans 92 #[.agg (c24 x y z)] (.tuple #[.agg (cells8 n), .bool true])))
    (hE : Hid (∀ u g, Blk u g 40 (cells8 n) → Calls Try.prog 93 #[.agg (cells8 x), .agg (cells8 y), .agg (cells8 z), .func (Fn.func 94) #[] #[ptr g]] u fun e w' => e = .returned (.tuple #[.agg (cells8 a), .agg (cells8 b), .agg (cells8 c)]) ∧ Below u.heap.size u w')) :
    Calls Try.prog 41 #[.agg (c24 x y z)] w fun e w' => e = .returned (.tuple #[.agg (c24 a b c), .bool true]) ∧ Below w.heap.size w w' := by
  go_enter Try.func41, Try.ntmps41
  go_upto_region 1 with fail
  have D := hide (((Gen.start w).push 43 (c24 x y z)).push 43 z24)
  simp only [szA] at D
  go_upto_region 4 with (first | (with_reducible refine at_list ?_; apply ldG (unhide D) rSpan _ rfl rfl rfl (by repeat (first | exact List.mem_cons_self | apply List.mem_cons_of_mem)) rfl) | (go_at_call 92; with_reducible refine (unhide hD _).mono ?_; rintro e w' ⟨he, hb⟩; subst he; have D := hide ((unhide D).keep hb); clear hb) | (with_reducible refine at_list ?_; refine stG (unhide D) rWide _ _ rfl rfl rfl rfl rfl rfl (cells8_one _) ?_; intro D'; have D := hide D'; clear D'))
  have S0 := hide ((unhide D).blk (g := w.heap.size) (t := 43) (cs := c24 x y z) (by repeat (first | exact List.mem_cons_self | apply List.mem_cons_of_mem)))
  have hC := hide (unhide hE _ _ ((unhide D).blk (t := 40) (cs := cells8 n) List.mem_cons_self))
  clear hE
  go_upto_region 5 with (first | (with_reducible refine at_list ?_;  refine ldMid _ rfl rfl rfl (range_x (unhide S0)) ?_) | (with_reducible refine at_list ?_;  refine ldMid _ rfl rfl rfl (range_y (unhide S0)) ?_) | (with_reducible refine at_list ?_;  refine ldMid _ rfl rfl rfl (range_z (unhide S0)) ?_) | (go_at_call 93; with_reducible refine (unhide hC).mono ?_; rintro e w' ⟨he, hb⟩; subst he; have D := hide ((unhide D).keep hb); clear hb; clear hC) | (with_reducible refine at_list ?_;  refine st3 (unhide D) _ _ _ _ _ _ rfl rfl rfl rfl rfl rfl rfl rfl rfl rfl rfl rfl rfl rfl rfl ?_; intro u D'; have D := hide D'; clear D'))
  clear S0
  go_wp2_with (first | (with_reducible refine at_list ?_; apply ldG (unhide D) rWide _ rfl rfl rfl (by repeat (first | exact List.mem_cons_self | apply List.mem_cons_of_mem)) rfl) | (with_reducible refine at_list ?_;  refine bdSpan _ _ _ rfl rfl rfl rfl rfl ?_) | (with_reducible refine at_list ?_; apply stGend (unhide D) rSpan _ _ rfl rfl rfl rfl (by repeat (first | exact List.mem_cons_self | apply List.mem_cons_of_mem)) (by omega) rfl rfl (c24_one _ _ _); intro B O))
  exact resGT rSpan (unhide B) rfl rfl rfl rfl rfl ⟨rfl, unhide O⟩


end Go.Proofs.Ytnknejdmoghmiaa

namespace Go.Proofs.Ytnknejdmoghmiaa
open Go.RowKit
set_option maxRecDepth 4000
set_option linter.unusedVariables false

/-- A span has a primitive one. -/
def prOk (x y z : Int) : Bool := fit (x.natAbs : Int) && fit (y.natAbs : Int) && fit (z.natAbs : Int) && !decide (wd x y z 3 = 0)
theorem DivP (x : Int) (g : Nat) (hx : Fit x) (hg : (g : Int) < (H : Int)) (h0 : g ≠ 0) : Ans 50 #[V x, V (g : Int)] (.tuple #[V (x / (g : Int)), V (x % (g : Int)), .bool true]) := by
  intro w
  have hH := H_pos
  have k := DivZ x (g : Int) hx ⟨by omega, hg⟩ w
  have e1 : x.fdiv (g : Int) = x / (g : Int) := Int.fdiv_eq_ediv_of_nonneg _ (by omega)
  have e2 : x.fmod (g : Int) = x % (g : Int) := Int.fmod_eq_emod_of_nonneg _ (by omega)
  have e3 : dq x (g : Int) = true := by
    unfold dq
    rw [e1, fit_true (fit_div hx _ (by omega))]
    simp
    omega
  rw [e3, e1, e2] at k
  exact k
theorem PrimeZ (x y z : Int) (hx : Fit x) (hy : Fit y) (hz : Fit z) : Ans 41 #[.agg (c24 (enc x) (enc y) (enc z))]
    (if prOk x y z then .tuple #[.agg (c24 (enc (x / (wd x y z 3 : Nat))) (enc (y / (wd x y z 3 : Nat))) (enc (z / (wd x y z 3 : Nat)))), .bool true] else .tuple #[.agg (c24 0 0 0), .bool false]) := by
  intro w
  have no : ∀ m, m < 3 → (∀ k, k < m → fit ((nth3 x y z k).natAbs : Int) = true) → fit ((nth3 x y z m).natAbs : Int) = false → prOk x y z = false → Calls Try.prog 41 #[.agg (c24 (enc x) (enc y) (enc z))] w fun e w' => e = .returned (.tuple #[.agg (c24 0 0 0), .bool false]) ∧ Below w.heap.size w w' := fun m hm h1 h2 _ => by
    have d := DivisorG x y z hx hy hz m (by omega) h1 (fun _ => h2)
    rw [if_neg (by omega)] at d
    exact prime_no _ _ _ _ w d
  cases f0 : fit (x.natAbs : Int)
  · have hp : prOk x y z = false := by unfold prOk; rw [f0]; rfl
    have k := no 0 (by omega) (fun k hk => absurd hk (by omega)) f0 hp
    rw [hp]
    exact k
  cases f1 : fit (y.natAbs : Int)
  · have hp : prOk x y z = false := by unfold prOk; rw [f0, f1]; rfl
    have k := no 1 (by omega) (fun k hk => (show k = 0 by omega) ▸ f0) f1 hp
    rw [hp]
    exact k
  cases f2 : fit (z.natAbs : Int)
  · have hp : prOk x y z = false := by unfold prOk; rw [f0, f1, f2]; rfl
    have k := no 2 (by omega) (fun k hk => by rcases (show k = 0 ∨ k = 1 by omega) with rfl | rfl; exact f0; exact f1) f2 hp
    rw [hp]
    exact k
  have hall : ∀ k, k < 3 → fit ((nth3 x y z k).natAbs : Int) = true := fun k hk => by
    rcases (show k = 0 ∨ k = 1 ∨ k = 2 by omega) with rfl | rfl | rfl
    · exact f0
    · exact f1
    · exact f2
  have d := DivisorG x y z hx hy hz 3 (by omega) hall (fun h => absurd h (by omega))
  rw [if_pos rfl] at d
  have hl := wd_lt hall 3 (by omega)
  by_cases h0 : wd x y z 3 = 0
  · have hp : prOk x y z = false := by unfold prOk; rw [decide_eq_true h0, Bool.not_true, Bool.and_false]
    rw [decide_eq_true h0] at d
    rw [hp]
    exact prime_no _ _ _ _ w d
  · have hp : prOk x y z = true := by unfold prOk; rw [f0, f1, f2, decide_eq_false h0]; rfl
    rw [decide_eq_false h0] at d
    rw [hp]
    refine prime_ok _ _ _ _ _ _ _ w d (fun u g hb => ?_)
    exact each_prime _ _ _ _ _ _ _ g u hb (fun v b => prime1_core _ _ _ _ g true v b (DivP x _ hx hl h0)) (fun v b => prime1_core _ _ _ _ g true v b (DivP y _ hy hl h0)) (fun v b => prime1_core _ _ _ _ g true v b (DivP z _ hz hl h0))

theorem bSpan2 (x y : Nat) : Try.prog.built 43 [(0, .agg (cells8 x)), (1, .agg (cells8 y))] = some (c24 x y 0) := by kernel_rfl
theorem bdSpan2 {ops : Array Oper} {rest : List Oper} {o : Oper} {a : Act} {w : World} {Q : Exit → Act → World → Prop} (p q : Operand) {x y : Nat} (ho : o.op = .build 43 #[(0, p), (1, q)]) (hgd : o.guard = none) (hx : a.eval p = .agg (cells8 x)) (hy : a.eval q = .agg (cells8 y))
    (h : wpList Try.prog ops Q rest (a.put o.dst (.agg (c24 x y 0))) w) : wpList Try.prog ops Q (o :: rest) a w := wpList_value hgd (exec_build2 w 43 p q ho hx hy (bSpan2 x y)) h
set_option maxHeartbeats 4000000 in
theorem awake6_core (n24 f s two m3 z : Nat) (w : World) (hR : Hid (Ans 22 #[.agg (v3 32768 32767 (-32768))] (.tuple #[.agg (v3 1 0 0), .int .i64 0]))) (hD : Hid (Ans 37 #[.agg (v3 2 0 0), .agg (v3 0 3 0), .agg (v3 0 0 4)] (.agg (cells8 n24))))
    (o4 : Hid (Ans 74 #[.int .i64 4] (.agg (cells8 f)))) (o6 : Hid (Ans 74 #[.int .i64 (-6)] (.agg (cells8 s)))) (hP : Hid (Ans 41 #[.agg (c24 f s 0)] (.tuple #[.agg (c24 two m3 z), .bool true])))
    (o24 : Hid (Ans 74 #[.int .i64 24] (.agg (cells8 n24)))) (o2 : Hid (Ans 74 #[.int .i64 2] (.agg (cells8 two)))) (o3 : Hid (Ans 74 #[.int .i64 (-3)] (.agg (cells8 m3)))) (hC : Hid (Ans 31 #[.agg (v3 0 1 0), .agg (v3 0 0 9)] (.int .i64 1)))
    (h24 : Hid (same n24 n24 = true)) (hz : Hid (same3 two m3 z two m3 0 = true)) (hv : sameV 1 0 0 1 0 0 = true) :
    Calls Try.prog 28 #[] w fun e w' => e = .returned (.bool true) ∧ Below w.heap.size w w' := by
  have D := hide (Gen.start w)
  go_enter Try.func28, Try.ntmps28
  go_upto_region 4 with (first | (go_at_call 22; with_reducible refine (unhide hR _).mono ?_; rintro e w' ⟨he, hb⟩; subst he; have D := hide ((unhide D).keep hb); clear hb) | (go_at_call 37; with_reducible refine (unhide hD _).mono ?_; rintro e w' ⟨he, hb⟩; subst he; have D := hide ((unhide D).keep hb); clear hb) | (go_at_call 74; with_reducible refine (unhide o4 _).mono ?_; rintro e w' ⟨he, hb⟩; subst he; have D := hide ((unhide D).keep hb); clear hb) | (go_at_call 74; with_reducible refine (unhide o6 _).mono ?_; rintro e w' ⟨he, hb⟩; subst he; have D := hide ((unhide D).keep hb); clear hb) | (with_reducible refine at_list ?_;  refine bdSpan2 _ _ rfl rfl rfl rfl ?_) | (go_at_call 41; with_reducible refine (unhide hP _).mono ?_; rintro e w' ⟨he, hb⟩; subst he; have D := hide ((unhide D).keep hb); clear hb) | (with_reducible refine at_list ?_; refine stG (unhide D) rPoint _ _ rfl rfl rfl rfl rfl rfl (v3_one' _ _ _) ?_; intro D'; have D := hide D'; clear D') | (with_reducible refine at_list ?_; refine stG (unhide D) rWide _ _ rfl rfl rfl rfl rfl rfl (cells8_one _) ?_; intro D'; have D := hide D'; clear D') | (with_reducible refine at_list ?_; refine stG (unhide D) rSpan _ _ rfl rfl rfl rfl rfl rfl (c24_one _ _ _) ?_; intro D'; have D := hide D'; clear D'))
  refine region_plan (S := Gen w _) (l := [0, 1, 2, 3, 4, 5, 6, 7, 8, 9, 10, 11, 12, 13, 14, 15, 16, 17, 18, 19, 20, 21, 22, 23, 24, 25, 26, 27, 28]) (by kernel_rfl) (by kernel_rfl) (by kernel_rfl) (by kernel_rfl) (by kernel_rfl) (by kernel_rfl) (by kernel_rfl) (unhide D).drew ?_
  clear D
  refine plan_read (v := ?_) rfl rfl (fun u hS => by go_simp; rfl) ?_
  go_simp
  refine plan_read (v := ?_) rfl rfl (fun u hS => by go_simp; rfl) ?_
  go_simp
  refine plan_read (v := ?_) rfl rfl (fun u hS => by go_simp; rfl) ?_
  go_simp
  refine plan_read (v := .agg (v3 1 0 0)) rfl rfl (fun u hS => exec_ldG hS rPoint _ rfl rfl (by repeat (first | exact List.mem_cons_self | apply List.mem_cons_of_mem)) rfl) ?_
  go_simp
  refine plan_read (v := .agg (v3 1 0 0)) rfl rfl (fun u hS => by go_simp) ?_
  go_simp
  refine plan_read (v := .bool true) rfl rfl (fun u hS => exec_eql_pt u _ _ hv rfl rfl rfl) ?_
  go_simp
  refine plan_read (v := ?_) rfl rfl (fun u hS => by go_simp; rfl) ?_
  go_simp
  refine plan_read (v := ?_) rfl rfl (fun u hS => by go_simp; rfl) ?_
  go_simp
  refine plan_read (v := .agg (cells8 n24)) rfl rfl (fun u hS => exec_ldG hS rWide _ rfl rfl (by repeat (first | exact List.mem_cons_self | apply List.mem_cons_of_mem)) rfl) ?_
  go_simp
  refine plan_call (v := (.agg (cells8 n24))) (f := 74) (args := #[.int .i64 24]) rfl rfl (fun u hS => by go_simp) (fun u hS => (unhide o24 u).mono fun _ _ ⟨he, hb⟩ => ⟨he, hS.keep hb⟩) ?_
  go_simp
  refine plan_read (v := .bool true) rfl rfl (fun u hS => exec_eql_wide_is u _ _ (unhide h24) rfl rfl rfl) ?_
  go_simp
  refine plan_read (v := ?_) rfl rfl (fun u hS => by go_simp; rfl) ?_
  go_simp
  refine plan_read (v := ?_) rfl rfl (fun u hS => by go_simp; rfl) ?_
  go_simp
  refine plan_read (v := ?_) rfl rfl (fun u hS => by go_simp; rfl) ?_
  go_simp
  refine plan_read (v := ?_) rfl rfl (fun u hS => by go_simp; rfl) ?_
  go_simp
  refine plan_read (v := ?_) rfl rfl (fun u hS => by go_simp; rfl) ?_
  go_simp
  refine plan_read (v := .agg (c24 two m3 z)) rfl rfl (fun u hS => exec_ldG hS rSpan _ rfl rfl (by repeat (first | exact List.mem_cons_self | apply List.mem_cons_of_mem)) rfl) ?_
  go_simp
  refine plan_call (v := (.agg (cells8 two))) (f := 74) (args := #[.int .i64 2]) rfl rfl (fun u hS => by go_simp) (fun u hS => (unhide o2 u).mono fun _ _ ⟨he, hb⟩ => ⟨he, hS.keep hb⟩) ?_
  go_simp
  refine plan_call (v := (.agg (cells8 m3))) (f := 74) (args := #[.int .i64 (-3)]) rfl rfl (fun u hS => by go_simp) (fun u hS => (unhide o3 u).mono fun _ _ ⟨he, hb⟩ => ⟨he, hS.keep hb⟩) ?_
  go_simp
  refine plan_read (v := .agg (c24 two m3 0)) rfl rfl (fun u hS => exec_build2 u 43 _ _ rfl rfl rfl (bSpan2 _ _)) ?_
  go_simp
  refine plan_read (v := .bool true) rfl rfl (fun u hS => exec_eql_span u _ _ (unhide hz) rfl rfl rfl) ?_
  go_simp
  refine plan_read (v := ?_) rfl rfl (fun u hS => by go_simp; rfl) ?_
  go_simp
  refine plan_read (v := ?_) rfl rfl (fun u hS => by go_simp; rfl) ?_
  go_simp
  refine plan_read (v := .agg (v3 0 1 0)) rfl rfl (fun u hS => by go_simp) ?_
  go_simp
  refine plan_read (v := .agg (v3 0 0 9)) rfl rfl (fun u hS => by go_simp) ?_
  go_simp
  refine plan_call (v := (.int .i64 1)) (f := 31) (args := #[.agg (v3 0 1 0), .agg (v3 0 0 9)]) rfl rfl (fun u hS => by go_simp) (fun u hS => (unhide hC u).mono fun _ _ ⟨he, hb⟩ => ⟨he, hS.keep hb⟩) ?_
  go_simp
  refine plan_read (v := ?_) rfl rfl (fun u hS => by go_simp; rfl) ?_
  go_simp
  refine plan_read (v := ?_) rfl rfl (fun u hS => by go_simp; rfl) ?_
  go_simp
  refine plan_read (v := ?_) rfl rfl (fun u hS => by go_simp; rfl) ?_
  go_simp
  refine plan_end (fun u hS => ?_)
  have O := hide hS.o
  clear hS
  go_wp2
  go_ret
  exact ⟨rfl, unhide O⟩
theorem enc_0 : enc 0 = 0 := rfl
theorem awake6Z : Ans 28 #[] (.bool true) := fun w => by
  have i64 : ∀ {z : Int}, -9223372036854775808 ≤ z ∧ z < 9223372036854775808 → I64 z := fun h => h
  have hR := RoundZ 32768 32767 (-32768) ⟨by decide, by decide⟩ ⟨by decide, by decide⟩ ⟨by decide, by decide⟩
  rw [show near 32768 = 1 from rfl, show near 32767 = 0 from rfl, show near (-32768) = 0 from rfl, if_pos (by decide)] at hR
  have hD := Det6Z 2 0 0 0 3 0 0 0 4 ⟨by decide, by decide⟩ ⟨by decide, by decide⟩ ⟨by decide, by decide⟩ ⟨by decide, by decide⟩ ⟨by decide, by decide⟩ ⟨by decide, by decide⟩ ⟨by decide, by decide⟩ ⟨by decide, by decide⟩ ⟨by decide, by decide⟩
  rw [show detI 2 0 0 0 3 0 0 0 4 = 24 from rfl] at hD
  have of : ∀ z : Int, I64 z → Ans 74 #[.int .i64 z] (V z) := fun z h u => OfZ z h.1 h.2 u
  have hw : wd 4 (-6) 0 3 = 2 := by decide
  have hP := PrimeZ 4 (-6) 0 (I64.fit ⟨by decide, by decide⟩) (I64.fit ⟨by decide, by decide⟩) fit_zero
  have hok : prOk 4 (-6) 0 = true := by
    unfold prOk
    rw [hw, fit_true (I64.fit ⟨by decide, by decide⟩), fit_true (I64.fit ⟨by decide, by decide⟩), fit_true (I64.fit ⟨by decide, by decide⟩)]
    rfl
  rw [hok, hw] at hP
  have hC := CmpZ6 0 1 0 0 0 9
  rw [show cmpP 0 1 0 0 0 9 = 1 from rfl] at hC
  refine awake6_core (enc 24) (enc 4) (enc (-6)) (enc 2) (enc (-3)) (enc 0) w hR hD (of 4 ⟨by decide, by decide⟩) (of (-6) ⟨by decide, by decide⟩) hP (of 24 ⟨by decide, by decide⟩) (of 2 ⟨by decide, by decide⟩) (of (-3) ⟨by decide, by decide⟩) hC (same_self _) ?_ (by decide)
  unfold same3
  rw [same_self, same_self, enc_0, same_self]
  rfl

end Go.Proofs.Ytnknejdmoghmiaa
