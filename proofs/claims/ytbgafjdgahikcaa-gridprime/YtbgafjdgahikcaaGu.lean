/- The document's size, Common and Prime of layer 6; the law GridPrime. -/
import Derived.Test.YtbgafjdgahikcaaGp
namespace Go.Proofs.Ytbgafjdgahikcaa
open Go.RowKit
set_option maxRecDepth 4000
set_option linter.unusedVariables false

theorem rsize_neg (n v : Nat) (E : Bool) (w : World) (h1 : Hid (Ans 138 #[.agg (cells8 n)] (.bool true))) (h2 : Hid (Ans 130 #[.agg (cells8 0), .agg (cells8 n)] (.tuple #[.agg (cells8 v), .bool E]))) :
    Calls Try.prog 95 #[.agg (cells8 n)] w fun e w' => e = .returned (.tuple #[.agg (cells8 v), .bool E]) ∧ Below w.heap.size w w' := by
  go_enter Try.func95, Try.ntmps95
  go_upto_region 1 with fail
  have D := hide (((Gen.start w).push 40 (cells8 n)).push 40 z8)
  simp only [szA] at D
  go_wp2_with (first | (with_reducible refine at_list ?_; apply ldG (unhide D) rWide _ rfl rfl rfl (by repeat (first | exact List.mem_cons_self | apply List.mem_cons_of_mem)) rfl) | (go_at_call 138; with_reducible refine (unhide h1 _).mono ?_; rintro e w' ⟨he, hb⟩; subst he; have D := hide ((unhide D).keep hb); clear hb) | (with_reducible refine at_list ?_;  refine bd0 40 rfl rfl bWide0 ?_) | (go_at_call 130; with_reducible refine (unhide h2 _).mono ?_; rintro e w' ⟨he, hb⟩; subst he; have D := hide ((unhide D).keep hb); clear hb) | (with_reducible refine at_list ?_; apply stGend (unhide D) rWide _ _ rfl rfl rfl rfl (by repeat (first | exact List.mem_cons_self | apply List.mem_cons_of_mem)) (by omega) rfl rfl (cells8_one _); intro B O))
  exact resGT rWide (unhide B) rfl rfl rfl rfl rfl ⟨rfl, unhide O⟩
theorem rsize_pos (n : Nat) (w : World) (h1 : Hid (Ans 138 #[.agg (cells8 n)] (.bool false))) :
    Calls Try.prog 95 #[.agg (cells8 n)] w fun e w' => e = .returned (.tuple #[.agg (cells8 n), .bool true]) ∧ Below w.heap.size w w' := by
  go_enter Try.func95, Try.ntmps95
  go_upto_region 1 with fail
  have D := hide (((Gen.start w).push 40 (cells8 n)).push 40 z8)
  simp only [szA] at D
  go_wp2_with (first | (with_reducible refine at_list ?_; apply ldG (unhide D) rWide _ rfl rfl rfl (by repeat (first | exact List.mem_cons_self | apply List.mem_cons_of_mem)) rfl) | (go_at_call 138; with_reducible refine (unhide h1 _).mono ?_; rintro e w' ⟨he, hb⟩; subst he; have D := hide ((unhide D).keep hb); clear hb) | (with_reducible refine at_list ?_; apply stGend (unhide D) rWide _ _ rfl rfl rfl rfl (by repeat (first | exact List.mem_cons_self | apply List.mem_cons_of_mem)) (by omega) rfl rfl (cells8_one _); intro B O))
  exact resGT rWide (unhide B) rfl rfl rfl rfl rfl ⟨rfl, unhide O⟩
/-- The absolute value, where there is one. -/
def abv (x : Int) : Nat := if fit (x.natAbs : Int) then x.natAbs else 0
theorem abv_lt (x : Int) : ((abv x : Nat) : Int) < (H : Int) := by
  unfold abv
  by_cases h : fit (x.natAbs : Int) = true
  · rw [if_pos h]; exact (Fit.of h).2
  · rw [if_neg h]; have := H_pos; show (0 : Int) < _; omega
theorem RSize6 (x : Int) (hx : Fit x) : Ans 95 #[V x] (.tuple #[V ((abv x : Nat) : Int), .bool (fit (x.natAbs : Int))]) := fun w => by
  have hb := fun u => refBelow x hx u
  by_cases h : x < 0
  · rw [decide_eq_true h] at hb
    have hs := fun u => refSub 0 x fit_zero hx u
    have e : (x.natAbs : Int) = 0 - x := by omega
    have k := rsize_neg (enc x) _ _ w hb hs
    rw [e, show ((abv x : Nat) : Int) = if fit (0 - x) then 0 - x else 0 by unfold abv; rw [e]; split; exact e; rfl]
    rw [fitN_eq] at k
    exact k
  · rw [decide_eq_false h] at hb
    have e : (x.natAbs : Int) = x := by omega
    have k := rsize_pos (enc x) w hb
    rw [e, fit_true hx, show ((abv x : Nat) : Int) = x by unfold abv; rw [e, fit_true hx]; exact e]
    exact k
theorem DivR6 (p q : Nat) (hp : (p : Int) < (H : Int)) (hq : (q : Int) < (H : Int)) (h0 : q ≠ 0) : Ans 98 #[V (p : Int), V (q : Int)] (.tuple #[V ((p / q : Nat) : Int), V ((p % q : Nat) : Int), .bool true]) := by
  intro w
  have hH := H_pos
  have f1 : Fit (p : Int) := ⟨by omega, hp⟩
  have f2 : Fit (q : Int) := ⟨by omega, hq⟩
  have k := refDivZ (p : Int) (q : Int) f1 f2 w
  have e1 : (p : Int).fdiv (q : Int) = ((p / q : Nat) : Int) := by rw [Int.fdiv_eq_ediv_of_nonneg _ (by omega)]; rfl
  have e2 : (p : Int).fmod (q : Int) = ((p % q : Nat) : Int) := by rw [Int.fmod_eq_emod_of_nonneg _ (by omega)]; rfl
  have hle : ((p / q : Nat) : Int) ≤ (p : Int) := Int.ofNat_le.2 (Nat.div_le_self p q)
  have hnn : (0 : Int) ≤ ((p / q : Nat) : Int) := Int.natCast_nonneg _
  have e3 : dq (p : Int) (q : Int) = true := by
    unfold dq
    rw [e1, fit_true ⟨Int.le_trans (by omega) hnn, Int.lt_of_le_of_lt hle hp⟩]
    simp
    omega
  rw [e3, e1, e2] at k
  exact k
theorem DivRP (x : Int) (g : Nat) (hx : Fit x) (hg : (g : Int) < (H : Int)) (h0 : g ≠ 0) : Ans 98 #[V x, V (g : Int)] (.tuple #[V (x / (g : Int)), V (x % (g : Int)), .bool true]) := by
  intro w
  have hH := H_pos
  have k := refDivZ x (g : Int) hx ⟨by omega, hg⟩ w
  have e1 : x.fdiv (g : Int) = x / (g : Int) := Int.fdiv_eq_ediv_of_nonneg _ (by omega)
  have e2 : x.fmod (g : Int) = x % (g : Int) := Int.fmod_eq_emod_of_nonneg _ (by omega)
  have e3 : dq x (g : Int) = true := by
    unfold dq
    rw [e1, fit_true (fit_div hx _ (by omega))]
    simp
    omega
  rw [e3, e1, e2] at k
  exact k

set_option maxHeartbeats 4000000 in
theorem rcommon_core (I : Nat → Nat → Prop) (dv md : Nat → Nat → Nat) (a b r : Nat) (w : World) (hI : Hid (I a b)) (hM : Hid (∀ p q, I p q → q < M)) (hs0 : Hid (Ans 97 #[.agg (cells8 0)] (.int .i64 0))) (hs1 : Hid (∀ p q, I p q → q ≠ 0 → Ans 97 #[.agg (cells8 q)] (.int .i64 1))) (h0 : Hid (∀ p, I p 0 → p = r))
    (hd : Hid (∀ p q, I p q → q ≠ 0 → Ans 98 #[.agg (cells8 p), .agg (cells8 q)] (.tuple #[.agg (cells8 (dv p q)), .agg (cells8 (md p q)), .bool true]) ∧ I q (md p q) ∧ md p q < q)) :
    Calls Try.prog 96 #[.agg (cells8 a), .agg (cells8 b)] w fun e w' => e = .returned (.agg (cells8 r)) ∧ Below w.heap.size w w' := by
  go_enter Try.func96, Try.ntmps96
  go_upto_region 1 with fail
  have D := hide ((((Gen.start w).push 40 (cells8 a)).push 40 (cells8 b)).push 40 z8)
  simp only [szA] at D
  go_loopw [] (fun wr => ∃ p q : Nat, Hid (I p q) ∧ Hid (Gen w [(w.heap.size + 1 + 1, 40, z8), (w.heap.size + 1, 40, cells8 q), (w.heap.size, 40, cells8 p)] wr)) (fun wr => numAt wr (w.heap.size + 1))
  case atStart => exact ⟨a, b, hI, D⟩
  case round =>
    obtain ⟨p, q, hp, hD⟩ := hrel
    have D := hD
    clear hI
    have hqM := hide (unhide hM p q (unhide hp))
    by_cases hq : q = 0
    · subst hq
      have hr := unhide h0 p (unhide hp)
      subst hr
      clear hs1 h0 hd hM
      go_wp2_with (first | (with_reducible refine at_list ?_; apply ldG (unhide D) rWide _ rfl rfl rfl (by repeat (first | exact List.mem_cons_self | apply List.mem_cons_of_mem)) rfl) | (go_at_call 97; with_reducible refine (unhide hs0 _).mono ?_; rintro e w' ⟨he, hb⟩; subst he; have D := hide ((unhide D).keep hb); clear hb) | (with_reducible refine at_list ?_; apply stGend (unhide D) rWide _ _ rfl rfl rfl rfl (by repeat (first | exact List.mem_cons_self | apply List.mem_cons_of_mem)) (by omega) rfl rfl (cells8_one _); intro B O))
      exact resG rWide (unhide B) rfl rfl rfl rfl ⟨rfl, unhide O⟩
    · have hsq := hide (unhide hs1 p q (unhide hp) hq)
      obtain ⟨d1, d2, d3⟩ := unhide hd p q (unhide hp) hq
      have hdv := hide d1
      have hin := hide d2
      have hlt := hide d3
      clear d1 d2 d3 hq hs0 hs1 h0 hd
      go_wp2_with (first | (with_reducible refine at_list ?_; apply ldG (unhide D) rWide _ rfl rfl rfl (by repeat (first | exact List.mem_cons_self | apply List.mem_cons_of_mem)) rfl) | (go_at_call 97; with_reducible refine (unhide hsq _).mono ?_; rintro e w' ⟨he, hb⟩; subst he; have D := hide ((unhide D).keep hb); clear hb) | (go_at_call 98; with_reducible refine (unhide hdv _).mono ?_; rintro e w' ⟨he, hb⟩; subst he; have D := hide ((unhide D).keep hb); clear hb) | (with_reducible refine at_list ?_;  refine st2 (unhide D) _ _ _ _ rfl rfl rfl rfl rfl rfl rfl rfl rfl rfl ?_; intro u D'; have D := hide D'; clear D') | (with_reducible refine at_list ?_;  refine at_st 2 rfl ?_))
      unfold Stop
      have hge : w.heap.size + 1 + 1 < w'.heap.size := (Gen.blk (g := w.heap.size + 1 + 1) (unhide ‹Hid (Gen w [(w.heap.size + 1 + 1, 40, z8), (w.heap.size + 1, 40, cells8 q), (w.heap.size, 40, cells8 p)] w')›) (by repeat (first | exact List.mem_cons_self | apply List.mem_cons_of_mem))).lt
      have G1 := hide ((unhide D).blk (g := w.heap.size) (t := 40) (cs := cells8 p) (by repeat (first | exact List.mem_cons_self | apply List.mem_cons_of_mem)))
      have G2 := hide ((unhide D).blk (g := w.heap.size + 1) (t := 40) (cs := cells8 q) (by repeat (first | exact List.mem_cons_self | apply List.mem_cons_of_mem)))
      have G3 := hide ((unhide D).blk (g := w.heap.size + 1 + 1) (t := 40) (cs := z8) (by repeat (first | exact List.mem_cons_self | apply List.mem_cons_of_mem)))
      have G6 := hide ((unhide D).blk (g := w'.heap.size + 1) (t := 40) (cs := cells8 (md p q)) (by repeat (first | exact List.mem_cons_self | apply List.mem_cons_of_mem)))
      have O := hide (unhide D).o
      clear D
      obtain ⟨c6, hc6e⟩ : ∃ c, c = w'.heap.size + 1 := ⟨_, rfl⟩
      rw [← hc6e] at G6 ⊢
      have hc6 : w.heap.size + 1 + 1 < c6 := by omega
      clear hc6e hge
      refine wpList_store_row rfl 40 (.tmp 2) (.tmp 18) rfl w.heap.size (cells8 q) rfl rfl 40 _ (unhide G1) iWide rfl (cells8_one _) ?_
      have D : Hid (Gen w [(c6, 40, cells8 (md p q)), (w.heap.size + 1, 40, cells8 q), (w.heap.size + 1 + 1, 40, z8), (w.heap.size, 40, cells8 q)] (u.setRow w.heap.size (cells8 q))) := hide ⟨fun k hk => by
        simp only [List.mem_cons, List.not_mem_nil, or_false] at hk
        rcases hk with rfl | rfl | rfl | rfl
        · exact (unhide G6).rowOther _ (by omega)
        · exact (unhide G2).rowOther _ (by omega)
        · exact (unhide G3).rowOther _ (by omega)
        · exact (unhide G1).row _, below_row (unhide O) (Nat.le_refl _) _⟩
      clear G1 G2 G3 G6 O
      generalize u.setRow w.heap.size (cells8 q) = u1 at D ⊢
      go_wp2_with (first | (with_reducible refine at_list ?_; apply ldG (unhide D) rWide _ rfl rfl rfl (by repeat (first | exact List.mem_cons_self | apply List.mem_cons_of_mem)) rfl) | (with_reducible refine at_list ?_;  refine at_st 3 rfl ?_))
      unfold Stop
      have G1 := hide ((unhide D).blk (g := w.heap.size) (t := 40) (cs := cells8 q) (by repeat (first | exact List.mem_cons_self | apply List.mem_cons_of_mem)))
      have G2 := hide ((unhide D).blk (g := w.heap.size + 1) (t := 40) (cs := cells8 q) (by repeat (first | exact List.mem_cons_self | apply List.mem_cons_of_mem)))
      have G3 := hide ((unhide D).blk (g := w.heap.size + 1 + 1) (t := 40) (cs := z8) (by repeat (first | exact List.mem_cons_self | apply List.mem_cons_of_mem)))
      have O := hide (unhide D).o
      clear D
      refine wpList_store_row rfl 40 (.tmp 3) (.tmp 19) rfl (w.heap.size + 1) (cells8 (md p q)) rfl rfl 40 _ (unhide G2) iWide rfl (cells8_one _) ?_
      have D2 : Hid (Gen w [(w.heap.size + 1 + 1, 40, z8), (w.heap.size + 1, 40, cells8 (md p q)), (w.heap.size, 40, cells8 q)] (u1.setRow (w.heap.size + 1) (cells8 (md p q)))) := hide ⟨fun k hk => by
        simp only [List.mem_cons, List.not_mem_nil, or_false] at hk
        rcases hk with rfl | rfl | rfl
        · exact (unhide G3).rowOther _ (by omega)
        · exact (unhide G2).row _
        · exact (unhide G1).rowOther _ (by omega), below_row (unhide O) (by omega) _⟩
      clear G1 G2 G3 O
      have hn0 : numAt wr (w.heap.size + 1) = q := numAt_eq ((unhide hD).blk (g := w.heap.size + 1) (by repeat (first | exact List.mem_cons_self | apply List.mem_cons_of_mem))) (unhide hqM)
      have hn1 := hide hn0
      clear hn0
      go_wp2
      refine ⟨⟨_, _, _, _, _, _, _, _, _, _, _, _, _, _, _, ⟨q, md p q, hin, D2⟩, rfl⟩, ?_⟩
      rw [unhide hn1, numAt_eq ((unhide D2).blk (g := w.heap.size + 1) (by repeat (first | exact List.mem_cons_self | apply List.mem_cons_of_mem))) (Nat.lt_trans (unhide hlt) (unhide hqM))]
      exact unhide hlt
theorem RCommon6 (a b : Nat) (ha : (a : Int) < (H : Int)) (hb : (b : Int) < (H : Int)) : Ans 96 #[V (a : Int), V (b : Int)] (V ((Nat.gcd a b : Nat) : Int)) := by
  intro w
  have hMH := MI
  have hH := H_pos
  have lt : ∀ {p : Nat}, (p : Int) < (H : Int) → p < M := fun h => by omega
  have hgl : ((Nat.gcd a b : Nat) : Int) < (H : Int) := by
    rcases Nat.eq_zero_or_pos a with h | h
    · rw [h, Nat.gcd_zero_left]; exact hb
    · exact Int.lt_of_le_of_lt (Int.ofNat_le.2 (Nat.gcd_le_left b h)) ha
  dsimp only [V]
  rw [enc_nat (lt ha), enc_nat (lt hb), enc_nat (lt hgl)]
  refine rcommon_core (fun p q => (p : Int) < (H : Int) ∧ (q : Int) < (H : Int) ∧ Nat.gcd p q = Nat.gcd a b) (fun p q => p / q) (fun p q => p % q) a b _ w ⟨ha, hb, rfl⟩ (fun p q h => lt h.2.1) (fun u => refSign 0 fit_zero u) (fun p q h h0 u => ?_) (fun p h => ?_) (fun p q h h0 => ⟨?_, ⟨h.2.1, ?_, ?_⟩, Nat.mod_lt _ (Nat.pos_of_ne_zero h0)⟩)
  · have k := refSign (q : Int) ⟨by omega, h.2.1⟩ u
    dsimp only [V] at k
    rw [enc_nat (lt h.2.1), show sgn (q : Int) = 1 by unfold sgn; rw [if_neg (by omega), if_neg (by omega)]] at k
    exact k
  · have := h.2.2
    rw [Nat.gcd_zero_right] at this
    exact this
  · have k := DivR6 p q h.1 h.2.1 h0
    dsimp only [V] at k
    have h1 : ((p / q : Nat) : Int) < (H : Int) := Int.lt_of_le_of_lt (Int.ofNat_le.2 (Nat.div_le_self p q)) h.1
    have h2 : ((p % q : Nat) : Int) < (H : Int) := Int.lt_of_le_of_lt (Int.ofNat_le.2 (Nat.mod_le p q)) h.1
    rw [enc_nat (lt h.1), enc_nat (lt h.2.1), enc_nat (lt h1), enc_nat (lt h2)] at k
    exact k
  · exact Int.lt_of_le_of_lt (Int.ofNat_le.2 (Nat.mod_le p q)) h.1
  · rw [← h.2.2, Nat.gcd_comm q, ← Nat.gcd_rec, Nat.gcd_comm]
set_option maxHeartbeats 4000000 in
theorem rprime_0 (X Y Z x y z g d : Nat) (E1 E2 : Bool) (w : World) (z1 : Hid (Ans 95 #[.agg (cells8 X)] (.tuple #[.agg (cells8 x), .bool false]))) (z2 : Hid (Ans 95 #[.agg (cells8 Y)] (.tuple #[.agg (cells8 y), .bool E1]))) (z3 : Hid (Ans 95 #[.agg (cells8 Z)] (.tuple #[.agg (cells8 z), .bool E2]))) (c1 : Hid (Ans 96 #[.agg (cells8 x), .agg (cells8 y)] (.agg (cells8 g)))) (c2 : Hid (Ans 96 #[.agg (cells8 g), .agg (cells8 z)] (.agg (cells8 d)))) :
    Calls Try.prog 42 #[.agg (c24 X Y Z)] w fun e w' => e = .returned (.tuple #[.agg (c24 0 0 0), .bool false]) ∧ Below w.heap.size w w' := by
  go_enter Try.func42, Try.ntmps42
  go_upto_region 1 with fail
  have D := hide (((Gen.start w).push 43 (c24 X Y Z)).push 43 z24)
  simp only [szA] at D
  go_upto_region 2 with (first | (with_reducible refine at_list ?_;  refine ldMid _ rfl rfl rfl (range_x ((unhide D).blk (cs := c24 X Y Z) (List.mem_cons_of_mem _ (List.mem_cons_self)))) ?_) | (go_at_call 95; with_reducible refine (unhide z1 _).mono ?_; rintro e w' ⟨he, hb⟩; subst he; have D := hide ((unhide D).keep hb); clear hb) | (with_reducible refine at_list ?_; refine stG (unhide D) rWide _ _ rfl rfl rfl rfl rfl rfl (cells8_one _) ?_; intro D'; have D := hide D'; clear D'))
  go_upto_region 3 with (first | (with_reducible refine at_list ?_;  refine ldMid _ rfl rfl rfl (range_y ((unhide D).blk (cs := c24 X Y Z) (List.mem_cons_of_mem _ (List.mem_cons_of_mem _ (List.mem_cons_self))))) ?_) | (go_at_call 95; with_reducible refine (unhide z2 _).mono ?_; rintro e w' ⟨he, hb⟩; subst he; have D := hide ((unhide D).keep hb); clear hb) | (with_reducible refine at_list ?_; refine stG (unhide D) rWide _ _ rfl rfl rfl rfl rfl rfl (cells8_one _) ?_; intro D'; have D := hide D'; clear D'))
  go_upto_region 4 with (first | (with_reducible refine at_list ?_;  refine ldMid _ rfl rfl rfl (range_z ((unhide D).blk (cs := c24 X Y Z) (List.mem_cons_of_mem _ (List.mem_cons_of_mem _ (List.mem_cons_of_mem _ (List.mem_cons_self)))))) ?_) | (go_at_call 95; with_reducible refine (unhide z3 _).mono ?_; rintro e w' ⟨he, hb⟩; subst he; have D := hide ((unhide D).keep hb); clear hb) | (with_reducible refine at_list ?_; refine stG (unhide D) rWide _ _ rfl rfl rfl rfl rfl rfl (cells8_one _) ?_; intro D'; have D := hide D'; clear D'))
  generalize hw1 : w'.alloc (.cells (cells8 z) 40) = w1 at D ⊢
  have D1 : Hid (GenZ w _ w1.heap.size w1.drew) := ⟨(unhide D).drew, Nat.le_refl _⟩
  have hlt := hide (fun (p : Nat × TypeId × Array Value) hp => ((unhide D).at_ p hp).lt)
  have hw0 := hide (unhide D).o.size
  clear D hw1
  generalize w1.heap.size = C1 at D1 hlt hw0
  refine region_allocs (S := GenZ w _ C1) (t := 40) (z := z8) (base := C1) (l := [0, 1, 2, 3, 4]) (A := [5]) (T := [6]) (by kernel_rfl) (by kernel_rfl) (by kernel_rfl) (by kernel_rfl) (by kernel_rfl) (by kernel_rfl) (by kernel_rfl) (by kernel_rfl) (by kernel_rfl) (by kernel_rfl) ?_ (fun _ _ h hb => h.keep hb) (fun _ h => h.s) (unhide D1) ?_
  · intro i hi
    simp at hi
    subst hi
    exact ⟨_, rfl, rfl, fun a w => by go_simp⟩
  clear D1
  refine planB_read (v := .agg (cells8 x)) rfl rfl (fun u hS => exec_ldG hS.e rWide _ rfl rfl (by repeat (first | exact List.mem_cons_self | apply List.mem_cons_of_mem)) rfl) ?_
  go_simp
  refine planB_read (v := .agg (cells8 y)) rfl rfl (fun u hS => exec_ldG hS.e rWide _ rfl rfl (by repeat (first | exact List.mem_cons_self | apply List.mem_cons_of_mem)) rfl) ?_
  go_simp
  refine planB_call (v := (.agg (cells8 g))) (f := 96) (args := #[.agg (cells8 x), .agg (cells8 y)]) rfl rfl (fun u hS => by go_simp) (fun u hS => (unhide c1 u).mono fun _ _ ⟨he, hb⟩ => ⟨he, hS.keep hb, hb⟩) ?_
  go_simp
  refine planB_read (v := .agg (cells8 z)) rfl rfl (fun u hS => exec_ldG hS.e rWide _ rfl rfl (by repeat (first | exact List.mem_cons_self | apply List.mem_cons_of_mem)) rfl) ?_
  go_simp
  refine planB_call (v := (.agg (cells8 d))) (f := 96) (args := #[(.agg (cells8 g)), .agg (cells8 z)]) rfl rfl (fun u hS => by go_simp) (fun u hS => (unhide c2 u).mono fun _ _ ⟨he, hb⟩ => ⟨he, hS.keep hb, hb⟩) ?_
  go_simp
  refine planB_tail (fun cc u hS hB hI => ?_)
  have h7 := hB 5 (by simp)
  simp only [pa, dstOf, opsOf]
  generalize cc 5 = c1 at h7 ⊢
  have D := hide (hS.e.fillZ (cs := cells8 d) (unhide hlt) (unhide hw0) h7.1 h7.2)
  have H7 := hide h7.1
  clear hS hB hI h7 hlt hw0
  refine wpList_store_row rfl 40 (.tmp 10) (.tmp 42) rfl _ (cells8 d) rfl rfl 40 _ (unhide H7) iWide rfl (cells8_one _) ?_
  generalize u.setRow c1 (cells8 d) = u1 at D ⊢
  clear H7
  go_simp
  go_wp2_with (first | (with_reducible refine at_list ?_; apply ldG (unhide D) rWide _ rfl rfl rfl (by repeat (first | exact List.mem_cons_self | apply List.mem_cons_of_mem)) rfl) | (with_reducible refine at_list ?_; apply ldGw (unhide D) rWide _ rfl rfl rfl (by repeat (first | exact List.mem_cons_self | apply List.mem_cons_of_mem)) rfl) | (with_reducible refine at_list ?_;  refine wpList_value rfl (exec_build0 _ 43 rfl bSpan0) ?_) | (with_reducible refine at_list ?_; apply stGend (unhide D) rSpan _ _ rfl rfl rfl rfl (by repeat (first | exact List.mem_cons_self | apply List.mem_cons_of_mem)) (by omega) rfl rfl (c24_one _ _ _); intro B O))
  exact resGT rSpan (unhide B) rfl rfl rfl rfl rfl ⟨rfl, unhide O⟩
set_option maxHeartbeats 4000000 in
theorem rprime_1 (X Y Z x y z g d : Nat) (E2 : Bool) (w : World) (z1 : Hid (Ans 95 #[.agg (cells8 X)] (.tuple #[.agg (cells8 x), .bool true]))) (z2 : Hid (Ans 95 #[.agg (cells8 Y)] (.tuple #[.agg (cells8 y), .bool false]))) (z3 : Hid (Ans 95 #[.agg (cells8 Z)] (.tuple #[.agg (cells8 z), .bool E2]))) (c1 : Hid (Ans 96 #[.agg (cells8 x), .agg (cells8 y)] (.agg (cells8 g)))) (c2 : Hid (Ans 96 #[.agg (cells8 g), .agg (cells8 z)] (.agg (cells8 d)))) :
    Calls Try.prog 42 #[.agg (c24 X Y Z)] w fun e w' => e = .returned (.tuple #[.agg (c24 0 0 0), .bool false]) ∧ Below w.heap.size w w' := by
  go_enter Try.func42, Try.ntmps42
  go_upto_region 1 with fail
  have D := hide (((Gen.start w).push 43 (c24 X Y Z)).push 43 z24)
  simp only [szA] at D
  go_upto_region 2 with (first | (with_reducible refine at_list ?_;  refine ldMid _ rfl rfl rfl (range_x ((unhide D).blk (cs := c24 X Y Z) (List.mem_cons_of_mem _ (List.mem_cons_self)))) ?_) | (go_at_call 95; with_reducible refine (unhide z1 _).mono ?_; rintro e w' ⟨he, hb⟩; subst he; have D := hide ((unhide D).keep hb); clear hb) | (with_reducible refine at_list ?_; refine stG (unhide D) rWide _ _ rfl rfl rfl rfl rfl rfl (cells8_one _) ?_; intro D'; have D := hide D'; clear D'))
  go_upto_region 3 with (first | (with_reducible refine at_list ?_;  refine ldMid _ rfl rfl rfl (range_y ((unhide D).blk (cs := c24 X Y Z) (List.mem_cons_of_mem _ (List.mem_cons_of_mem _ (List.mem_cons_self))))) ?_) | (go_at_call 95; with_reducible refine (unhide z2 _).mono ?_; rintro e w' ⟨he, hb⟩; subst he; have D := hide ((unhide D).keep hb); clear hb) | (with_reducible refine at_list ?_; refine stG (unhide D) rWide _ _ rfl rfl rfl rfl rfl rfl (cells8_one _) ?_; intro D'; have D := hide D'; clear D'))
  go_upto_region 4 with (first | (with_reducible refine at_list ?_;  refine ldMid _ rfl rfl rfl (range_z ((unhide D).blk (cs := c24 X Y Z) (List.mem_cons_of_mem _ (List.mem_cons_of_mem _ (List.mem_cons_of_mem _ (List.mem_cons_self)))))) ?_) | (go_at_call 95; with_reducible refine (unhide z3 _).mono ?_; rintro e w' ⟨he, hb⟩; subst he; have D := hide ((unhide D).keep hb); clear hb) | (with_reducible refine at_list ?_; refine stG (unhide D) rWide _ _ rfl rfl rfl rfl rfl rfl (cells8_one _) ?_; intro D'; have D := hide D'; clear D'))
  generalize hw1 : w'.alloc (.cells (cells8 z) 40) = w1 at D ⊢
  have D1 : Hid (GenZ w _ w1.heap.size w1.drew) := ⟨(unhide D).drew, Nat.le_refl _⟩
  have hlt := hide (fun (p : Nat × TypeId × Array Value) hp => ((unhide D).at_ p hp).lt)
  have hw0 := hide (unhide D).o.size
  clear D hw1
  generalize w1.heap.size = C1 at D1 hlt hw0
  refine region_allocs (S := GenZ w _ C1) (t := 40) (z := z8) (base := C1) (l := [0, 1, 2, 3, 4]) (A := [5]) (T := [6]) (by kernel_rfl) (by kernel_rfl) (by kernel_rfl) (by kernel_rfl) (by kernel_rfl) (by kernel_rfl) (by kernel_rfl) (by kernel_rfl) (by kernel_rfl) (by kernel_rfl) ?_ (fun _ _ h hb => h.keep hb) (fun _ h => h.s) (unhide D1) ?_
  · intro i hi
    simp at hi
    subst hi
    exact ⟨_, rfl, rfl, fun a w => by go_simp⟩
  clear D1
  refine planB_read (v := .agg (cells8 x)) rfl rfl (fun u hS => exec_ldG hS.e rWide _ rfl rfl (by repeat (first | exact List.mem_cons_self | apply List.mem_cons_of_mem)) rfl) ?_
  go_simp
  refine planB_read (v := .agg (cells8 y)) rfl rfl (fun u hS => exec_ldG hS.e rWide _ rfl rfl (by repeat (first | exact List.mem_cons_self | apply List.mem_cons_of_mem)) rfl) ?_
  go_simp
  refine planB_call (v := (.agg (cells8 g))) (f := 96) (args := #[.agg (cells8 x), .agg (cells8 y)]) rfl rfl (fun u hS => by go_simp) (fun u hS => (unhide c1 u).mono fun _ _ ⟨he, hb⟩ => ⟨he, hS.keep hb, hb⟩) ?_
  go_simp
  refine planB_read (v := .agg (cells8 z)) rfl rfl (fun u hS => exec_ldG hS.e rWide _ rfl rfl (by repeat (first | exact List.mem_cons_self | apply List.mem_cons_of_mem)) rfl) ?_
  go_simp
  refine planB_call (v := (.agg (cells8 d))) (f := 96) (args := #[(.agg (cells8 g)), .agg (cells8 z)]) rfl rfl (fun u hS => by go_simp) (fun u hS => (unhide c2 u).mono fun _ _ ⟨he, hb⟩ => ⟨he, hS.keep hb, hb⟩) ?_
  go_simp
  refine planB_tail (fun cc u hS hB hI => ?_)
  have h7 := hB 5 (by simp)
  simp only [pa, dstOf, opsOf]
  generalize cc 5 = c1 at h7 ⊢
  have D := hide (hS.e.fillZ (cs := cells8 d) (unhide hlt) (unhide hw0) h7.1 h7.2)
  have H7 := hide h7.1
  clear hS hB hI h7 hlt hw0
  refine wpList_store_row rfl 40 (.tmp 10) (.tmp 42) rfl _ (cells8 d) rfl rfl 40 _ (unhide H7) iWide rfl (cells8_one _) ?_
  generalize u.setRow c1 (cells8 d) = u1 at D ⊢
  clear H7
  go_simp
  go_wp2_with (first | (with_reducible refine at_list ?_; apply ldG (unhide D) rWide _ rfl rfl rfl (by repeat (first | exact List.mem_cons_self | apply List.mem_cons_of_mem)) rfl) | (with_reducible refine at_list ?_; apply ldGw (unhide D) rWide _ rfl rfl rfl (by repeat (first | exact List.mem_cons_self | apply List.mem_cons_of_mem)) rfl) | (with_reducible refine at_list ?_;  refine wpList_value rfl (exec_build0 _ 43 rfl bSpan0) ?_) | (with_reducible refine at_list ?_; apply stGend (unhide D) rSpan _ _ rfl rfl rfl rfl (by repeat (first | exact List.mem_cons_self | apply List.mem_cons_of_mem)) (by omega) rfl rfl (c24_one _ _ _); intro B O))
  exact resGT rSpan (unhide B) rfl rfl rfl rfl rfl ⟨rfl, unhide O⟩
set_option maxHeartbeats 4000000 in
theorem rprime_2 (X Y Z x y z g d : Nat) (w : World) (z1 : Hid (Ans 95 #[.agg (cells8 X)] (.tuple #[.agg (cells8 x), .bool true]))) (z2 : Hid (Ans 95 #[.agg (cells8 Y)] (.tuple #[.agg (cells8 y), .bool true]))) (z3 : Hid (Ans 95 #[.agg (cells8 Z)] (.tuple #[.agg (cells8 z), .bool false]))) (c1 : Hid (Ans 96 #[.agg (cells8 x), .agg (cells8 y)] (.agg (cells8 g)))) (c2 : Hid (Ans 96 #[.agg (cells8 g), .agg (cells8 z)] (.agg (cells8 d)))) :
    Calls Try.prog 42 #[.agg (c24 X Y Z)] w fun e w' => e = .returned (.tuple #[.agg (c24 0 0 0), .bool false]) ∧ Below w.heap.size w w' := by
  go_enter Try.func42, Try.ntmps42
  go_upto_region 1 with fail
  have D := hide (((Gen.start w).push 43 (c24 X Y Z)).push 43 z24)
  simp only [szA] at D
  go_upto_region 2 with (first | (with_reducible refine at_list ?_;  refine ldMid _ rfl rfl rfl (range_x ((unhide D).blk (cs := c24 X Y Z) (List.mem_cons_of_mem _ (List.mem_cons_self)))) ?_) | (go_at_call 95; with_reducible refine (unhide z1 _).mono ?_; rintro e w' ⟨he, hb⟩; subst he; have D := hide ((unhide D).keep hb); clear hb) | (with_reducible refine at_list ?_; refine stG (unhide D) rWide _ _ rfl rfl rfl rfl rfl rfl (cells8_one _) ?_; intro D'; have D := hide D'; clear D'))
  go_upto_region 3 with (first | (with_reducible refine at_list ?_;  refine ldMid _ rfl rfl rfl (range_y ((unhide D).blk (cs := c24 X Y Z) (List.mem_cons_of_mem _ (List.mem_cons_of_mem _ (List.mem_cons_self))))) ?_) | (go_at_call 95; with_reducible refine (unhide z2 _).mono ?_; rintro e w' ⟨he, hb⟩; subst he; have D := hide ((unhide D).keep hb); clear hb) | (with_reducible refine at_list ?_; refine stG (unhide D) rWide _ _ rfl rfl rfl rfl rfl rfl (cells8_one _) ?_; intro D'; have D := hide D'; clear D'))
  go_upto_region 4 with (first | (with_reducible refine at_list ?_;  refine ldMid _ rfl rfl rfl (range_z ((unhide D).blk (cs := c24 X Y Z) (List.mem_cons_of_mem _ (List.mem_cons_of_mem _ (List.mem_cons_of_mem _ (List.mem_cons_self)))))) ?_) | (go_at_call 95; with_reducible refine (unhide z3 _).mono ?_; rintro e w' ⟨he, hb⟩; subst he; have D := hide ((unhide D).keep hb); clear hb) | (with_reducible refine at_list ?_; refine stG (unhide D) rWide _ _ rfl rfl rfl rfl rfl rfl (cells8_one _) ?_; intro D'; have D := hide D'; clear D'))
  generalize hw1 : w'.alloc (.cells (cells8 z) 40) = w1 at D ⊢
  have D1 : Hid (GenZ w _ w1.heap.size w1.drew) := ⟨(unhide D).drew, Nat.le_refl _⟩
  have hlt := hide (fun (p : Nat × TypeId × Array Value) hp => ((unhide D).at_ p hp).lt)
  have hw0 := hide (unhide D).o.size
  clear D hw1
  generalize w1.heap.size = C1 at D1 hlt hw0
  refine region_allocs (S := GenZ w _ C1) (t := 40) (z := z8) (base := C1) (l := [0, 1, 2, 3, 4]) (A := [5]) (T := [6]) (by kernel_rfl) (by kernel_rfl) (by kernel_rfl) (by kernel_rfl) (by kernel_rfl) (by kernel_rfl) (by kernel_rfl) (by kernel_rfl) (by kernel_rfl) (by kernel_rfl) ?_ (fun _ _ h hb => h.keep hb) (fun _ h => h.s) (unhide D1) ?_
  · intro i hi
    simp at hi
    subst hi
    exact ⟨_, rfl, rfl, fun a w => by go_simp⟩
  clear D1
  refine planB_read (v := .agg (cells8 x)) rfl rfl (fun u hS => exec_ldG hS.e rWide _ rfl rfl (by repeat (first | exact List.mem_cons_self | apply List.mem_cons_of_mem)) rfl) ?_
  go_simp
  refine planB_read (v := .agg (cells8 y)) rfl rfl (fun u hS => exec_ldG hS.e rWide _ rfl rfl (by repeat (first | exact List.mem_cons_self | apply List.mem_cons_of_mem)) rfl) ?_
  go_simp
  refine planB_call (v := (.agg (cells8 g))) (f := 96) (args := #[.agg (cells8 x), .agg (cells8 y)]) rfl rfl (fun u hS => by go_simp) (fun u hS => (unhide c1 u).mono fun _ _ ⟨he, hb⟩ => ⟨he, hS.keep hb, hb⟩) ?_
  go_simp
  refine planB_read (v := .agg (cells8 z)) rfl rfl (fun u hS => exec_ldG hS.e rWide _ rfl rfl (by repeat (first | exact List.mem_cons_self | apply List.mem_cons_of_mem)) rfl) ?_
  go_simp
  refine planB_call (v := (.agg (cells8 d))) (f := 96) (args := #[(.agg (cells8 g)), .agg (cells8 z)]) rfl rfl (fun u hS => by go_simp) (fun u hS => (unhide c2 u).mono fun _ _ ⟨he, hb⟩ => ⟨he, hS.keep hb, hb⟩) ?_
  go_simp
  refine planB_tail (fun cc u hS hB hI => ?_)
  have h7 := hB 5 (by simp)
  simp only [pa, dstOf, opsOf]
  generalize cc 5 = c1 at h7 ⊢
  have D := hide (hS.e.fillZ (cs := cells8 d) (unhide hlt) (unhide hw0) h7.1 h7.2)
  have H7 := hide h7.1
  clear hS hB hI h7 hlt hw0
  refine wpList_store_row rfl 40 (.tmp 10) (.tmp 42) rfl _ (cells8 d) rfl rfl 40 _ (unhide H7) iWide rfl (cells8_one _) ?_
  generalize u.setRow c1 (cells8 d) = u1 at D ⊢
  clear H7
  go_simp
  go_wp2_with (first | (with_reducible refine at_list ?_; apply ldG (unhide D) rWide _ rfl rfl rfl (by repeat (first | exact List.mem_cons_self | apply List.mem_cons_of_mem)) rfl) | (with_reducible refine at_list ?_; apply ldGw (unhide D) rWide _ rfl rfl rfl (by repeat (first | exact List.mem_cons_self | apply List.mem_cons_of_mem)) rfl) | (with_reducible refine at_list ?_;  refine wpList_value rfl (exec_build0 _ 43 rfl bSpan0) ?_) | (with_reducible refine at_list ?_; apply stGend (unhide D) rSpan _ _ rfl rfl rfl rfl (by repeat (first | exact List.mem_cons_self | apply List.mem_cons_of_mem)) (by omega) rfl rfl (c24_one _ _ _); intro B O))
  exact resGT rSpan (unhide B) rfl rfl rfl rfl rfl ⟨rfl, unhide O⟩
set_option maxHeartbeats 4000000 in
theorem rprime_3 (X Y Z x y z g d : Nat) (w : World) (z1 : Hid (Ans 95 #[.agg (cells8 X)] (.tuple #[.agg (cells8 x), .bool true]))) (z2 : Hid (Ans 95 #[.agg (cells8 Y)] (.tuple #[.agg (cells8 y), .bool true]))) (z3 : Hid (Ans 95 #[.agg (cells8 Z)] (.tuple #[.agg (cells8 z), .bool true]))) (c1 : Hid (Ans 96 #[.agg (cells8 x), .agg (cells8 y)] (.agg (cells8 g)))) (c2 : Hid (Ans 96 #[.agg (cells8 g), .agg (cells8 z)] (.agg (cells8 d)))) (sg : Hid (Ans 97 #[.agg (cells8 d)] (.int .i64 0))) :
    Calls Try.prog 42 #[.agg (c24 X Y Z)] w fun e w' => e = .returned (.tuple #[.agg (c24 0 0 0), .bool false]) ∧ Below w.heap.size w w' := by
  go_enter Try.func42, Try.ntmps42
  go_upto_region 1 with fail
  have D := hide (((Gen.start w).push 43 (c24 X Y Z)).push 43 z24)
  simp only [szA] at D
  go_upto_region 2 with (first | (with_reducible refine at_list ?_;  refine ldMid _ rfl rfl rfl (range_x ((unhide D).blk (cs := c24 X Y Z) (List.mem_cons_of_mem _ (List.mem_cons_self)))) ?_) | (go_at_call 95; with_reducible refine (unhide z1 _).mono ?_; rintro e w' ⟨he, hb⟩; subst he; have D := hide ((unhide D).keep hb); clear hb) | (with_reducible refine at_list ?_; refine stG (unhide D) rWide _ _ rfl rfl rfl rfl rfl rfl (cells8_one _) ?_; intro D'; have D := hide D'; clear D'))
  go_upto_region 3 with (first | (with_reducible refine at_list ?_;  refine ldMid _ rfl rfl rfl (range_y ((unhide D).blk (cs := c24 X Y Z) (List.mem_cons_of_mem _ (List.mem_cons_of_mem _ (List.mem_cons_self))))) ?_) | (go_at_call 95; with_reducible refine (unhide z2 _).mono ?_; rintro e w' ⟨he, hb⟩; subst he; have D := hide ((unhide D).keep hb); clear hb) | (with_reducible refine at_list ?_; refine stG (unhide D) rWide _ _ rfl rfl rfl rfl rfl rfl (cells8_one _) ?_; intro D'; have D := hide D'; clear D'))
  go_upto_region 4 with (first | (with_reducible refine at_list ?_;  refine ldMid _ rfl rfl rfl (range_z ((unhide D).blk (cs := c24 X Y Z) (List.mem_cons_of_mem _ (List.mem_cons_of_mem _ (List.mem_cons_of_mem _ (List.mem_cons_self)))))) ?_) | (go_at_call 95; with_reducible refine (unhide z3 _).mono ?_; rintro e w' ⟨he, hb⟩; subst he; have D := hide ((unhide D).keep hb); clear hb) | (with_reducible refine at_list ?_; refine stG (unhide D) rWide _ _ rfl rfl rfl rfl rfl rfl (cells8_one _) ?_; intro D'; have D := hide D'; clear D'))
  generalize hw1 : w'.alloc (.cells (cells8 z) 40) = w1 at D ⊢
  have D1 : Hid (GenZ w _ w1.heap.size w1.drew) := ⟨(unhide D).drew, Nat.le_refl _⟩
  have hlt := hide (fun (p : Nat × TypeId × Array Value) hp => ((unhide D).at_ p hp).lt)
  have hw0 := hide (unhide D).o.size
  clear D hw1
  generalize w1.heap.size = C1 at D1 hlt hw0
  refine region_allocs (S := GenZ w _ C1) (t := 40) (z := z8) (base := C1) (l := [0, 1, 2, 3, 4]) (A := [5]) (T := [6]) (by kernel_rfl) (by kernel_rfl) (by kernel_rfl) (by kernel_rfl) (by kernel_rfl) (by kernel_rfl) (by kernel_rfl) (by kernel_rfl) (by kernel_rfl) (by kernel_rfl) ?_ (fun _ _ h hb => h.keep hb) (fun _ h => h.s) (unhide D1) ?_
  · intro i hi
    simp at hi
    subst hi
    exact ⟨_, rfl, rfl, fun a w => by go_simp⟩
  clear D1
  refine planB_read (v := .agg (cells8 x)) rfl rfl (fun u hS => exec_ldG hS.e rWide _ rfl rfl (by repeat (first | exact List.mem_cons_self | apply List.mem_cons_of_mem)) rfl) ?_
  go_simp
  refine planB_read (v := .agg (cells8 y)) rfl rfl (fun u hS => exec_ldG hS.e rWide _ rfl rfl (by repeat (first | exact List.mem_cons_self | apply List.mem_cons_of_mem)) rfl) ?_
  go_simp
  refine planB_call (v := (.agg (cells8 g))) (f := 96) (args := #[.agg (cells8 x), .agg (cells8 y)]) rfl rfl (fun u hS => by go_simp) (fun u hS => (unhide c1 u).mono fun _ _ ⟨he, hb⟩ => ⟨he, hS.keep hb, hb⟩) ?_
  go_simp
  refine planB_read (v := .agg (cells8 z)) rfl rfl (fun u hS => exec_ldG hS.e rWide _ rfl rfl (by repeat (first | exact List.mem_cons_self | apply List.mem_cons_of_mem)) rfl) ?_
  go_simp
  refine planB_call (v := (.agg (cells8 d))) (f := 96) (args := #[(.agg (cells8 g)), .agg (cells8 z)]) rfl rfl (fun u hS => by go_simp) (fun u hS => (unhide c2 u).mono fun _ _ ⟨he, hb⟩ => ⟨he, hS.keep hb, hb⟩) ?_
  go_simp
  refine planB_tail (fun cc u hS hB hI => ?_)
  have h7 := hB 5 (by simp)
  simp only [pa, dstOf, opsOf]
  generalize cc 5 = c1 at h7 ⊢
  have D := hide (hS.e.fillZ (cs := cells8 d) (unhide hlt) (unhide hw0) h7.1 h7.2)
  have H7 := hide h7.1
  clear hS hB hI h7 hlt hw0
  refine wpList_store_row rfl 40 (.tmp 10) (.tmp 42) rfl _ (cells8 d) rfl rfl 40 _ (unhide H7) iWide rfl (cells8_one _) ?_
  generalize u.setRow c1 (cells8 d) = u1 at D ⊢
  clear H7
  go_simp
  go_wp2_with (first | (with_reducible refine at_list ?_; apply ldG (unhide D) rWide _ rfl rfl rfl (by repeat (first | exact List.mem_cons_self | apply List.mem_cons_of_mem)) rfl) | (with_reducible refine at_list ?_; apply ldGw (unhide D) rWide _ rfl rfl rfl (by repeat (first | exact List.mem_cons_self | apply List.mem_cons_of_mem)) rfl) | (go_at_call 97; with_reducible refine (unhide sg _).mono ?_; rintro e w' ⟨he, hb⟩; subst he; have D := hide ((unhide D).keep hb); clear hb) | (with_reducible refine at_list ?_;  refine wpList_value rfl (exec_build0 _ 43 rfl bSpan0) ?_) | (with_reducible refine at_list ?_; apply stGend (unhide D) rSpan _ _ rfl rfl rfl rfl (by repeat (first | exact List.mem_cons_self | apply List.mem_cons_of_mem)) (by omega) rfl rfl (c24_one _ _ _); intro B O))
  exact resGT rSpan (unhide B) rfl rfl rfl rfl rfl ⟨rfl, unhide O⟩
set_option maxHeartbeats 4000000 in
theorem rprime_4 (X Y Z x y z g d a b c p q r : Nat) (w : World) (z1 : Hid (Ans 95 #[.agg (cells8 X)] (.tuple #[.agg (cells8 x), .bool true]))) (z2 : Hid (Ans 95 #[.agg (cells8 Y)] (.tuple #[.agg (cells8 y), .bool true]))) (z3 : Hid (Ans 95 #[.agg (cells8 Z)] (.tuple #[.agg (cells8 z), .bool true]))) (c1 : Hid (Ans 96 #[.agg (cells8 x), .agg (cells8 y)] (.agg (cells8 g)))) (c2 : Hid (Ans 96 #[.agg (cells8 g), .agg (cells8 z)] (.agg (cells8 d)))) (sg : Hid (Ans 97 #[.agg (cells8 d)] (.int .i64 1))) (d1 : Hid (Ans 98 #[.agg (cells8 X), .agg (cells8 d)] (.tuple #[.agg (cells8 a), .agg (cells8 p), .bool true]))) (d2 : Hid (Ans 98 #[.agg (cells8 Y), .agg (cells8 d)] (.tuple #[.agg (cells8 b), .agg (cells8 q), .bool true]))) (d3 : Hid (Ans 98 #[.agg (cells8 Z), .agg (cells8 d)] (.tuple #[.agg (cells8 c), .agg (cells8 r), .bool true]))) :
    Calls Try.prog 42 #[.agg (c24 X Y Z)] w fun e w' => e = .returned (.tuple #[.agg (c24 a b c), .bool true]) ∧ Below w.heap.size w w' := by
  go_enter Try.func42, Try.ntmps42
  go_upto_region 1 with fail
  have D := hide (((Gen.start w).push 43 (c24 X Y Z)).push 43 z24)
  simp only [szA] at D
  go_upto_region 2 with (first | (with_reducible refine at_list ?_;  refine ldMid _ rfl rfl rfl (range_x ((unhide D).blk (cs := c24 X Y Z) (List.mem_cons_of_mem _ (List.mem_cons_self)))) ?_) | (go_at_call 95; with_reducible refine (unhide z1 _).mono ?_; rintro e w' ⟨he, hb⟩; subst he; have D := hide ((unhide D).keep hb); clear hb) | (with_reducible refine at_list ?_; refine stG (unhide D) rWide _ _ rfl rfl rfl rfl rfl rfl (cells8_one _) ?_; intro D'; have D := hide D'; clear D'))
  go_upto_region 3 with (first | (with_reducible refine at_list ?_;  refine ldMid _ rfl rfl rfl (range_y ((unhide D).blk (cs := c24 X Y Z) (List.mem_cons_of_mem _ (List.mem_cons_of_mem _ (List.mem_cons_self))))) ?_) | (go_at_call 95; with_reducible refine (unhide z2 _).mono ?_; rintro e w' ⟨he, hb⟩; subst he; have D := hide ((unhide D).keep hb); clear hb) | (with_reducible refine at_list ?_; refine stG (unhide D) rWide _ _ rfl rfl rfl rfl rfl rfl (cells8_one _) ?_; intro D'; have D := hide D'; clear D'))
  go_upto_region 4 with (first | (with_reducible refine at_list ?_;  refine ldMid _ rfl rfl rfl (range_z ((unhide D).blk (cs := c24 X Y Z) (List.mem_cons_of_mem _ (List.mem_cons_of_mem _ (List.mem_cons_of_mem _ (List.mem_cons_self)))))) ?_) | (go_at_call 95; with_reducible refine (unhide z3 _).mono ?_; rintro e w' ⟨he, hb⟩; subst he; have D := hide ((unhide D).keep hb); clear hb) | (with_reducible refine at_list ?_; refine stG (unhide D) rWide _ _ rfl rfl rfl rfl rfl rfl (cells8_one _) ?_; intro D'; have D := hide D'; clear D'))
  generalize hw1 : w'.alloc (.cells (cells8 z) 40) = w1 at D ⊢
  have D1 : Hid (GenZ w _ w1.heap.size w1.drew) := ⟨(unhide D).drew, Nat.le_refl _⟩
  have hlt := hide (fun (p : Nat × TypeId × Array Value) hp => ((unhide D).at_ p hp).lt)
  have hw0 := hide (unhide D).o.size
  clear D hw1
  generalize w1.heap.size = C1 at D1 hlt hw0
  refine region_allocs (S := GenZ w _ C1) (t := 40) (z := z8) (base := C1) (l := [0, 1, 2, 3, 4]) (A := [5]) (T := [6]) (by kernel_rfl) (by kernel_rfl) (by kernel_rfl) (by kernel_rfl) (by kernel_rfl) (by kernel_rfl) (by kernel_rfl) (by kernel_rfl) (by kernel_rfl) (by kernel_rfl) ?_ (fun _ _ h hb => h.keep hb) (fun _ h => h.s) (unhide D1) ?_
  · intro i hi
    simp at hi
    subst hi
    exact ⟨_, rfl, rfl, fun a w => by go_simp⟩
  clear D1
  refine planB_read (v := .agg (cells8 x)) rfl rfl (fun u hS => exec_ldG hS.e rWide _ rfl rfl (by repeat (first | exact List.mem_cons_self | apply List.mem_cons_of_mem)) rfl) ?_
  go_simp
  refine planB_read (v := .agg (cells8 y)) rfl rfl (fun u hS => exec_ldG hS.e rWide _ rfl rfl (by repeat (first | exact List.mem_cons_self | apply List.mem_cons_of_mem)) rfl) ?_
  go_simp
  refine planB_call (v := (.agg (cells8 g))) (f := 96) (args := #[.agg (cells8 x), .agg (cells8 y)]) rfl rfl (fun u hS => by go_simp) (fun u hS => (unhide c1 u).mono fun _ _ ⟨he, hb⟩ => ⟨he, hS.keep hb, hb⟩) ?_
  go_simp
  refine planB_read (v := .agg (cells8 z)) rfl rfl (fun u hS => exec_ldG hS.e rWide _ rfl rfl (by repeat (first | exact List.mem_cons_self | apply List.mem_cons_of_mem)) rfl) ?_
  go_simp
  refine planB_call (v := (.agg (cells8 d))) (f := 96) (args := #[(.agg (cells8 g)), .agg (cells8 z)]) rfl rfl (fun u hS => by go_simp) (fun u hS => (unhide c2 u).mono fun _ _ ⟨he, hb⟩ => ⟨he, hS.keep hb, hb⟩) ?_
  go_simp
  refine planB_tail (fun cc u hS hB hI => ?_)
  have h7 := hB 5 (by simp)
  simp only [pa, dstOf, opsOf]
  generalize cc 5 = c1 at h7 ⊢
  have D := hide (hS.e.fillZ (cs := cells8 d) (unhide hlt) (unhide hw0) h7.1 h7.2)
  have H7 := hide h7.1
  clear hS hB hI h7 hlt hw0
  refine wpList_store_row rfl 40 (.tmp 10) (.tmp 42) rfl _ (cells8 d) rfl rfl 40 _ (unhide H7) iWide rfl (cells8_one _) ?_
  generalize u.setRow c1 (cells8 d) = u1 at D ⊢
  clear H7
  go_simp
  go_upto_region 7 with (first | (with_reducible refine at_list ?_; apply ldGw (unhide D) rWide _ rfl rfl rfl (by repeat (first | exact List.mem_cons_self | apply List.mem_cons_of_mem)) rfl) | (go_at_call 97; with_reducible refine (unhide sg _).mono ?_; rintro e w' ⟨he, hb⟩; subst he; have D := hide ((unhide D).keep hb); clear hb))
  go_upto_region 8 with (first | (with_reducible refine at_list ?_;  refine ldMid _ rfl rfl rfl (range_x ((unhide D).blk (cs := c24 X Y Z) (List.mem_cons_of_mem _ (List.mem_cons_of_mem _ (List.mem_cons_of_mem _ (List.mem_cons_of_mem _ (List.mem_cons_of_mem _ (List.mem_cons_self)))))))) ?_) | (with_reducible refine at_list ?_; apply ldG (unhide D) rWide _ rfl rfl rfl (by repeat (first | exact List.mem_cons_self | apply List.mem_cons_of_mem)) rfl) | (go_at_call 98; with_reducible refine (unhide d1 _).mono ?_; rintro e w' ⟨he, hb⟩; subst he; have D := hide ((unhide D).keep hb); clear hb) | (with_reducible refine at_list ?_;  refine st2 (unhide D) _ _ _ _ rfl rfl rfl rfl rfl rfl rfl rfl rfl rfl ?_; intro u D'; have D := hide D'; clear D'))
  go_upto_region 9 with (first | (with_reducible refine at_list ?_;  refine ldMid _ rfl rfl rfl (range_y ((unhide D).blk (cs := c24 X Y Z) (List.mem_cons_of_mem _ (List.mem_cons_of_mem _ (List.mem_cons_of_mem _ (List.mem_cons_of_mem _ (List.mem_cons_of_mem _ (List.mem_cons_of_mem _ (List.mem_cons_of_mem _ (List.mem_cons_self)))))))))) ?_) | (with_reducible refine at_list ?_; apply ldG (unhide D) rWide _ rfl rfl rfl (by repeat (first | exact List.mem_cons_self | apply List.mem_cons_of_mem)) rfl) | (go_at_call 98; with_reducible refine (unhide d2 _).mono ?_; rintro e w' ⟨he, hb⟩; subst he; have D := hide ((unhide D).keep hb); clear hb) | (with_reducible refine at_list ?_;  refine st2 (unhide D) _ _ _ _ rfl rfl rfl rfl rfl rfl rfl rfl rfl rfl ?_; intro u D'; have D := hide D'; clear D'))
  go_upto_region 10 with (first | (with_reducible refine at_list ?_;  refine ldMid _ rfl rfl rfl (range_z ((unhide D).blk (cs := c24 X Y Z) (List.mem_cons_of_mem _ (List.mem_cons_of_mem _ (List.mem_cons_of_mem _ (List.mem_cons_of_mem _ (List.mem_cons_of_mem _ (List.mem_cons_of_mem _ (List.mem_cons_of_mem _ (List.mem_cons_of_mem _ (List.mem_cons_of_mem _ (List.mem_cons_self)))))))))))) ?_) | (with_reducible refine at_list ?_; apply ldG (unhide D) rWide _ rfl rfl rfl (by repeat (first | exact List.mem_cons_self | apply List.mem_cons_of_mem)) rfl) | (go_at_call 98; with_reducible refine (unhide d3 _).mono ?_; rintro e w' ⟨he, hb⟩; subst he; have D := hide ((unhide D).keep hb); clear hb) | (with_reducible refine at_list ?_;  refine st2 (unhide D) _ _ _ _ rfl rfl rfl rfl rfl rfl rfl rfl rfl rfl ?_; intro u D'; have D := hide D'; clear D'))
  go_wp2_with (first | (with_reducible refine at_list ?_; apply ldG (unhide D) rWide _ rfl rfl rfl (by repeat (first | exact List.mem_cons_self | apply List.mem_cons_of_mem)) rfl) | (with_reducible refine at_list ?_;  refine bdSpan _ _ _ rfl rfl rfl rfl rfl ?_) | (with_reducible refine at_list ?_; apply stGend (unhide D) rSpan _ _ rfl rfl rfl rfl (by repeat (first | exact List.mem_cons_self | apply List.mem_cons_of_mem)) (by omega) rfl rfl (c24_one _ _ _); intro B O))
  exact resGT rSpan (unhide B) rfl rfl rfl rfl rfl ⟨rfl, unhide O⟩
set_option maxHeartbeats 2000000 in
theorem prime_law_true (X Y Z A B' C : Nat) (w : World) (h1 : Hid (Ans 41 #[.agg (c24 X Y Z)] (.tuple #[.agg (c24 A B' C), .bool true]))) (h2 : Hid (Ans 42 #[.agg (c24 X Y Z)] (.tuple #[.agg (c24 A B' C), .bool true]))) (sE : same3 A B' C A B' C = true) (haw : Hid (Ans 28 #[] (.bool true))) :
    Calls Try.prog 7 #[.agg (c24 X Y Z)] w fun e w' => e = .returned (.bool true) ∧ Below w.heap.size w w' := by
  go_enter Try.func7, Try.ntmps7
  go_upto_region 1 with fail
  have D := hide ((Gen.start w).push 43 (c24 X Y Z))
  go_wp2_with (first | (with_reducible refine at_list ?_; apply ldG (unhide D) rSpan _ rfl rfl rfl (by repeat (first | exact List.mem_cons_self | apply List.mem_cons_of_mem)) rfl) | (go_at_call 41; with_reducible refine (unhide h1 _).mono ?_; rintro e w' ⟨he, hb⟩; subst he; have D := hide ((unhide D).keep hb); clear hb) | (go_at_call 42; with_reducible refine (unhide h2 _).mono ?_; rintro e w' ⟨he, hb⟩; subst he; have D := hide ((unhide D).keep hb); clear hb) | (with_reducible refine at_list ?_; refine stG (unhide D) rSpan _ _ rfl rfl rfl rfl rfl rfl (c24_one _ _ _) ?_; intro D'; have D := hide D'; clear D') | (with_reducible refine at_list ?_;  refine eqlN _ _ _ sE rfl rfl rfl rfl ?_) | (go_at_call 28; with_reducible refine (unhide haw _).mono ?_; rintro e w' ⟨he, hb⟩; subst he; have D := hide ((unhide D).keep hb); clear hb))
  go_ret
  exact ⟨rfl, (unhide D).o⟩
set_option maxHeartbeats 2000000 in
theorem prime_law_false (X Y Z A B' C : Nat) (w : World) (h1 : Hid (Ans 41 #[.agg (c24 X Y Z)] (.tuple #[.agg (c24 A B' C), .bool false]))) (h2 : Hid (Ans 42 #[.agg (c24 X Y Z)] (.tuple #[.agg (c24 A B' C), .bool false]))) (sE : same3 A B' C A B' C = true) (haw : Hid (Ans 28 #[] (.bool true))) :
    Calls Try.prog 7 #[.agg (c24 X Y Z)] w fun e w' => e = .returned (.bool true) ∧ Below w.heap.size w w' := by
  go_enter Try.func7, Try.ntmps7
  go_upto_region 1 with fail
  have D := hide ((Gen.start w).push 43 (c24 X Y Z))
  go_wp2_with (first | (with_reducible refine at_list ?_; apply ldG (unhide D) rSpan _ rfl rfl rfl (by repeat (first | exact List.mem_cons_self | apply List.mem_cons_of_mem)) rfl) | (go_at_call 41; with_reducible refine (unhide h1 _).mono ?_; rintro e w' ⟨he, hb⟩; subst he; have D := hide ((unhide D).keep hb); clear hb) | (go_at_call 42; with_reducible refine (unhide h2 _).mono ?_; rintro e w' ⟨he, hb⟩; subst he; have D := hide ((unhide D).keep hb); clear hb) | (with_reducible refine at_list ?_; refine stG (unhide D) rSpan _ _ rfl rfl rfl rfl rfl rfl (c24_one _ _ _) ?_; intro D'; have D := hide D'; clear D') | (with_reducible refine at_list ?_;  refine eqlN _ _ _ sE rfl rfl rfl rfl ?_) | (go_at_call 28; with_reducible refine (unhide haw _).mono ?_; rintro e w' ⟨he, hb⟩; subst he; have D := hide ((unhide D).keep hb); clear hb))
  go_ret
  exact ⟨rfl, (unhide D).o⟩
theorem RPrime6 (x y z : Int) (hx : Fit x) (hy : Fit y) (hz : Fit z) : Ans 42 #[.agg (c24 (enc x) (enc y) (enc z))]
    (if prOk x y z then .tuple #[.agg (c24 (enc (x / (wd x y z 3 : Nat))) (enc (y / (wd x y z 3 : Nat))) (enc (z / (wd x y z 3 : Nat)))), .bool true] else .tuple #[.agg (c24 0 0 0), .bool false]) := by
  intro w
  have z1 := RSize6 x hx
  have z2 := RSize6 y hy
  have z3 := RSize6 z hz
  have c1 := RCommon6 (abv x) (abv y) (abv_lt x) (abv_lt y)
  have hg : ((Nat.gcd (abv x) (abv y) : Nat) : Int) < (H : Int) := by
    rcases Nat.eq_zero_or_pos (abv x) with h | h
    · rw [h, Nat.gcd_zero_left]; exact abv_lt y
    · exact Int.lt_of_le_of_lt (Int.ofNat_le.2 (Nat.gcd_le_left _ h)) (abv_lt x)
  have c2 := RCommon6 (Nat.gcd (abv x) (abv y)) (abv z) hg (abv_lt z)
  have hd : ((Nat.gcd (Nat.gcd (abv x) (abv y)) (abv z) : Nat) : Int) < (H : Int) := by
    rcases Nat.eq_zero_or_pos (Nat.gcd (abv x) (abv y)) with h | h
    · rw [h, Nat.gcd_zero_left]; exact abv_lt z
    · exact Int.lt_of_le_of_lt (Int.ofNat_le.2 (Nat.gcd_le_left _ h)) hg
  have e1 : ∀ v : Int, fit (v.natAbs : Int) = true → abv v = v.natAbs := fun v h => by unfold abv; rw [if_pos h]
  cases f0 : fit (x.natAbs : Int)
  · rw [show prOk x y z = false by unfold prOk; rw [f0]; rfl, if_neg (by decide)]
    rw [f0] at z1
    exact rprime_0 _ _ _ _ _ _ _ _ _ _ w z1 z2 z3 c1 c2
  cases f1 : fit (y.natAbs : Int)
  · rw [show prOk x y z = false by unfold prOk; rw [f0, f1]; rfl, if_neg (by decide)]
    rw [f0] at z1
    rw [f1] at z2
    exact rprime_1 _ _ _ _ _ _ _ _ _ w z1 z2 z3 c1 c2
  cases f2 : fit (z.natAbs : Int)
  · rw [show prOk x y z = false by unfold prOk; rw [f0, f1, f2]; rfl, if_neg (by decide)]
    rw [f0] at z1
    rw [f1] at z2
    rw [f2] at z3
    exact rprime_2 _ _ _ _ _ _ _ _ w z1 z2 z3 c1 c2
  rw [f0] at z1
  rw [f1] at z2
  rw [f2] at z3
  have ew : Nat.gcd (Nat.gcd (abv x) (abv y)) (abv z) = wd x y z 3 := by
    rw [e1 x f0, e1 y f1, e1 z f2]
    show _ = Nat.gcd (Nat.gcd (Nat.gcd 0 x.natAbs) y.natAbs) z.natAbs
    rw [Nat.gcd_zero_left]
  rw [ew] at c2 hd
  by_cases h0 : wd x y z 3 = 0
  · rw [show prOk x y z = false by unfold prOk; rw [decide_eq_true h0, Bool.not_true, Bool.and_false], if_neg (by decide)]
    have sg : Ans 97 #[V ((wd x y z 3 : Nat) : Int)] (.int .i64 0) := fun u => by
      rw [h0]
      exact refSign 0 fit_zero u
    exact rprime_3 _ _ _ _ _ _ _ _ w z1 z2 z3 c1 c2 sg
  · rw [show prOk x y z = true by unfold prOk; rw [f0, f1, f2, decide_eq_false h0]; rfl, if_pos rfl]
    have hH := H_pos
    have sg : Ans 97 #[V ((wd x y z 3 : Nat) : Int)] (.int .i64 1) := fun u => by
      have k := refSign ((wd x y z 3 : Nat) : Int) ⟨by omega, hd⟩ u
      rw [show sgn ((wd x y z 3 : Nat) : Int) = 1 by unfold sgn; rw [if_neg (by omega), if_neg (by omega)]] at k
      exact k
    exact rprime_4 _ _ _ _ _ _ _ _ _ _ _ _ _ _ w z1 z2 z3 c1 c2 sg (DivRP x _ hx hd h0) (DivRP y _ hy hd h0) (DivRP z _ hz hd h0)
theorem gridPrime_walk (X Y Z : Nat) (w : World) :
    Calls Try.prog 7 #[.agg (c24 X Y Z)] w fun e w' => e = .returned (.bool true) ∧ Below w.heap.size w w' := by
  have a := PrimeZ (sv X) (sv Y) (sv Z) (sv_fit X) (sv_fit Y) (sv_fit Z)
  have b := RPrime6 (sv X) (sv Y) (sv Z) (sv_fit X) (sv_fit Y) (sv_fit Z)
  have ec : c24 (enc (sv X)) (enc (sv Y)) (enc (sv Z)) = c24 X Y Z := by unfold c24; rw [← cells8_sv X, ← cells8_sv Y, ← cells8_sv Z]
  rw [ec] at a b
  cases e : prOk (sv X) (sv Y) (sv Z)
  · rw [e, if_neg (by decide)] at a b
    exact prime_law_false X Y Z _ _ _ w a b (same3_selfG _ _ _) awake6Z
  · rw [e, if_pos rfl] at a b
    exact prime_law_true X Y Z _ _ _ w a b (same3_selfG _ _ _) awake6Z

end Go.Proofs.Ytbgafjdgahikcaa
