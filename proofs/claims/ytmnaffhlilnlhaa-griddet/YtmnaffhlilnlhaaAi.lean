/- Package grid: divisor over integers, Prime. -/
import Derived.Test.YtmnaffhlilnlhaaAh
namespace Go.Proofs.Ytmnaffhlilnlhaa
open Go.RowKit
set_option maxRecDepth 4000
set_option linter.unusedVariables false

/-- The divisor behind k numbers. -/
def wd (x y z : Int) : Nat → Nat
  | 0 => 0
  | k + 1 => Nat.gcd (wd x y z k) (nth3 x y z k).natAbs
theorem wd_lt {x y z : Int} {m : Nat} (hf : ∀ k, k < m → fit ((nth3 x y z k).natAbs : Int) = true) : ∀ k, k ≤ m → ((wd x y z k : Nat) : Int) < (H : Int)
  | 0, _ => by have := H_pos; show ((0 : Nat) : Int) < _; omega
  | k + 1, h => by
    have ih := wd_lt hf k (by omega)
    have h1 := (Fit.of (hf k (by omega))).2
    show ((Nat.gcd (wd x y z k) (nth3 x y z k).natAbs : Nat) : Int) < _
    rcases Nat.eq_zero_or_pos (nth3 x y z k).natAbs with h0 | h0
    · rw [h0, Nat.gcd_zero_right]; exact ih
    · exact Int.lt_of_le_of_lt (Int.ofNat_le.2 (Nat.gcd_le_right _ h0)) h1
theorem DivisorG (x y z : Int) (hx : Fit x) (hy : Fit y) (hz : Fit z) (m : Nat) (hm : m ≤ 3) (hf : ∀ k, k < m → fit ((nth3 x y z k).natAbs : Int) = true) (hr : m < 3 → fit ((nth3 x y z m).natAbs : Int) = false) :
    Ans 70 #[.agg (c24 (enc x) (enc y) (enc z))] (if m = 3 then .tuple #[V ((wd x y z 3 : Nat) : Int), .bool (!decide (wd x y z 3 = 0))] else .tuple #[.agg (cells8 0), .bool false]) := by
  intro w
  have hfit : ∀ k, Fit (nth3 x y z k) := fun k => nth3_all (P := Fit) hx hy hz k
  refine divisor_core (fun k => enc (nth3 x y z k)) (fun k => enc ((nth3 x y z k).natAbs : Int)) (fun k => enc ((wd x y z k : Nat) : Int)) m (enc 0) (if m = 3 then decide (wd x y z 3 = 0) else same (enc ((wd x y z 3 : Nat) : Int)) 0) w hm rfl (fun k hk => ?_) (fun k hk => ?_) (fun h => ?_) ?_ _ (fun h => ?_) (fun h => ?_)
  · have k1 := SizeZ (nth3 x y z k) (hfit k)
    rw [toldZ_fit (Fit.of (hf k hk))] at k1
    exact k1
  · exact CommonZ (wd x y z k) (nth3 x y z k).natAbs (wd_lt hf k (by omega)) (Fit.of (hf k hk)).2
  · have k1 := SizeZ (nth3 x y z m) (hfit m)
    rw [toldZ_not (hr h)] at k1
    exact k1
  · by_cases h3 : m = 3
    · rw [if_pos h3]
      have hl := wd_lt hf 3 (by omega)
      have hM : wd x y z 3 < M := by have := MI; have := H_pos; omega
      show same (enc ((wd x y z 3 : Nat) : Int)) 0 = _
      rw [enc_nat hM]
      unfold same
      rw [Nat.mod_eq_of_lt hM, Nat.zero_mod]
    · rw [if_neg h3]
      rfl
  · rw [if_pos h, if_pos h]
  · rw [if_neg (by omega)]

theorem prime1_core (n d q r g : Nat) (E : Bool) (w : World) (hg : Blk w g 40 (cells8 d)) (hD : Hid (Ans 42 #[.agg (cells8 n), .agg (cells8 d)] (.tuple #[.agg (cells8 q), .agg (cells8 r), .bool E]))) :
    Calls Try.prog 72 #[.agg (cells8 n), ptr g] w fun e w' => e = .returned (.agg (cells8 q)) ∧ Below w.heap.size w w' := by
  have D0 : Hid (Gen w [(g, 40, cells8 d)] w) := ⟨fun p hp => by rw [List.mem_singleton.1 hp]; exact hg, Below.refl _ _⟩
  clear hg
  go_enter Try.func72, Try.ntmps72
  go_upto_region 1 with fail
  have D := hide (((unhide D0).push 40 (cells8 n)).push 40 z8)
  clear D0
  simp only [szA] at D
  go_wp2_with (first | (with_reducible refine at_list ?_; apply ldG (unhide D) rWide _ rfl rfl rfl (by repeat (first | exact List.mem_cons_self | apply List.mem_cons_of_mem)) rfl) | (go_at_call 42; with_reducible refine (unhide hD _).mono ?_; rintro e w' ⟨he, hb⟩; subst he; have D := hide ((unhide D).keep hb); clear hb) | (with_reducible refine at_list ?_;  refine st2 (unhide D) _ _ _ _ rfl rfl rfl rfl rfl rfl rfl rfl rfl rfl ?_; intro u D'; have D := hide D'; clear D') | (with_reducible refine at_list ?_; apply stGend (unhide D) rWide _ _ rfl rfl rfl rfl (by repeat (first | exact List.mem_cons_self | apply List.mem_cons_of_mem)) (by omega) rfl rfl (cells8_one _); intro B O))
  exact resG rWide (unhide B) rfl rfl rfl rfl ⟨rfl, unhide O⟩

theorem walk_store {P : Program} {ops : Array Oper} {S : World → Prop} {Q : Exit → Act → World → Prop} {tn : Nat → Bool} {i : Nat} {r : List Nat} {a : Act} {w w' : World} {o : Oper} (ho : ops[i]? = some o) (hw : Region.wanted o (yielded ops a.tmps) = true) (ht : tn i = true)
    (h : (execOp a.eval o).run P w = .ok .skip w') (hS : S w') (hr : Walk P ops S Q tn r (a.put o.dst undef) w') : Walk P ops S Q tn (i :: r) a w :=
  ⟨o, ho, .inr (.inr ⟨hw, ht, by rw [h]; exact ⟨hS, hr⟩⟩)⟩
set_option maxHeartbeats 2000000 in
theorem each_prime (n1 n2 n3 q1 q2 q3 d g : Nat) (w : World) (hg : Blk w g 40 (cells8 d))
    (h1 : Hid (∀ u, Blk u g 40 (cells8 d) → Calls Try.prog 72 #[.agg (cells8 n1), ptr g] u fun e w' => e = .returned (.agg (cells8 q1)) ∧ Below u.heap.size u w'))
    (h2 : Hid (∀ u, Blk u g 40 (cells8 d) → Calls Try.prog 72 #[.agg (cells8 n2), ptr g] u fun e w' => e = .returned (.agg (cells8 q2)) ∧ Below u.heap.size u w'))
    (h3 : Hid (∀ u, Blk u g 40 (cells8 d) → Calls Try.prog 72 #[.agg (cells8 n3), ptr g] u fun e w' => e = .returned (.agg (cells8 q3)) ∧ Below u.heap.size u w')) :
    Calls Try.prog 71 #[.agg (cells8 n1), .agg (cells8 n2), .agg (cells8 n3), .func (Fn.func 72) #[] #[ptr g]] w fun e w' => e = .returned (.tuple #[.agg (cells8 q1), .agg (cells8 q2), .agg (cells8 q3)]) ∧ Below w.heap.size w w' := by
  have D0 : Hid (Gen w [(g, 40, cells8 d)] w) := ⟨fun p hp => by rw [List.mem_singleton.1 hp]; exact hg, Below.refl _ _⟩
  have hgw := hg.lt
  clear hg
  go_enter Try.func71, Try.ntmps71
  go_upto_region 1 with fail
  have D := hide ((((unhide D0).push 40 (cells8 n1)).push 40 (cells8 n2)).push 40 (cells8 n3))
  have D := hide ((((unhide D).push 40 z8).push 40 z8).push 40 z8)
  clear D0
  simp only [szA] at D
  have D0 := (unhide D).drew
  clear D
  refine region_walk (S := Gen w [(w.heap.size + 1 + 1, 40, cells8 n3), (w.heap.size + 1, 40, cells8 n2), (w.heap.size, 40, cells8 n1), (g, 40, cells8 d)]) (l := [0, 1, 3, 4, 6, 7, 2, 5, 8, 9, 10, 11]) (t := [2, 5, 8, 9, 10, 11]) (by kernel_rfl) (by kernel_rfl) (by kernel_rfl) (by kernel_rfl) (by kernel_rfl) (by kernel_rfl) (by kernel_rfl) (by kernel_rfl) D0.tail.tail.tail ?_
  refine walk_read (v := ?_) rfl rfl rfl (fun u hS => by go_simp; rfl) ?_
  go_simp
  refine walk_read (v := .agg (cells8 n1)) rfl rfl rfl (fun u hS => exec_ldG hS rWide _ rfl rfl (by repeat (first | exact List.mem_cons_self | apply List.mem_cons_of_mem)) rfl) ?_
  go_simp
  refine walk_read (v := ?_) rfl rfl rfl (fun u hS => by go_simp; rfl) ?_
  go_simp
  refine walk_read (v := .agg (cells8 n2)) rfl rfl rfl (fun u hS => exec_ldG hS rWide _ rfl rfl (by repeat (first | exact List.mem_cons_self | apply List.mem_cons_of_mem)) rfl) ?_
  go_simp
  refine walk_read (v := ?_) rfl rfl rfl (fun u hS => by go_simp; rfl) ?_
  go_simp
  refine walk_read (v := .agg (cells8 n3)) rfl rfl rfl (fun u hS => exec_ldG hS rWide _ rfl rfl (by repeat (first | exact List.mem_cons_self | apply List.mem_cons_of_mem)) rfl) ?_
  go_simp
  refine walk_call (f := 72) (args := #[.agg (cells8 n1), ptr g]) rfl rfl rfl (by go_simp) ?_
  refine (unhide h1 _ (D0.blk (g := g) (cs := cells8 d) (by repeat (first | exact List.mem_cons_self | apply List.mem_cons_of_mem)))).mono fun e w1 ⟨he, hb⟩ => ?_
  have D1 := D0.keep hb
  refine ⟨_, he, D1.tail.tail.tail, ?_⟩
  clear hb he
  go_simp
  refine walk_call (f := 72) (args := #[.agg (cells8 n2), ptr g]) rfl rfl rfl (by go_simp) ?_
  refine (unhide h2 _ (D1.blk (g := g) (cs := cells8 d) (by repeat (first | exact List.mem_cons_self | apply List.mem_cons_of_mem)))).mono fun e w2 ⟨he, hb⟩ => ?_
  have D2 := D1.keep hb
  refine ⟨_, he, D2.tail.tail.tail, ?_⟩
  clear hb he
  go_simp
  refine walk_call (f := 72) (args := #[.agg (cells8 n3), ptr g]) rfl rfl rfl (by go_simp) ?_
  refine (unhide h3 _ (D2.blk (g := g) (cs := cells8 d) (by repeat (first | exact List.mem_cons_self | apply List.mem_cons_of_mem)))).mono fun e w3 ⟨he, hb⟩ => ?_
  have D3 := D2.keep hb
  refine ⟨_, he, D3.tail.tail.tail, ?_⟩
  clear hb he
  go_simp
  have b1 := D3.blk (g := w.heap.size + 1 + 1 + 1) (t := 40) (cs := z8) (by repeat (first | exact List.mem_cons_self | apply List.mem_cons_of_mem))
  have b2 := D3.blk (g := w.heap.size + 1 + 1 + 1 + 1) (t := 40) (cs := z8) (by repeat (first | exact List.mem_cons_self | apply List.mem_cons_of_mem))
  have b3 := D3.blk (g := w.heap.size + 1 + 1 + 1 + 1 + 1) (t := 40) (cs := z8) (by repeat (first | exact List.mem_cons_self | apply List.mem_cons_of_mem))
  have step : ∀ (u : World) (k n : Nat), w.heap.size + 1 + 1 + 1 ≤ k → Gen w [(w.heap.size + 1 + 1, 40, cells8 n3), (w.heap.size + 1, 40, cells8 n2), (w.heap.size, 40, cells8 n1), (g, 40, cells8 d)] u → Gen w [(w.heap.size + 1 + 1, 40, cells8 n3), (w.heap.size + 1, 40, cells8 n2), (w.heap.size, 40, cells8 n1), (g, 40, cells8 d)] (u.setRow k (cells8 n)) := fun u k n hk d => ⟨fun p hp => by
    have hne : p.1 ≠ k := by
      simp only [List.mem_cons, List.not_mem_nil, or_false] at hp
      rcases hp with rfl | rfl | rfl | rfl
      · show w.heap.size + 1 + 1 ≠ k; omega
      · show w.heap.size + 1 ≠ k; omega
      · show w.heap.size ≠ k; omega
      · show g ≠ k; omega
    exact (d.at_ p hp).rowOther _ hne, below_row d.o (by omega) _⟩
  have E0 := D3.tail.tail.tail
  clear D0 D1 D2 D3
  have E1 := step _ (w.heap.size + 1 + 1 + 1) q1 (by omega) E0
  have E2 := step _ (w.heap.size + 1 + 1 + 1 + 1) q2 (by omega) E1
  have E3 := step _ (w.heap.size + 1 + 1 + 1 + 1 + 1) q3 (by omega) E2
  refine walk_store rfl rfl rfl (exec_store8 (n := q1) 40 (.tmp 8) (.tmp 13) b1 rfl rfl rfl rfl iWide) E1 ?_
  go_simp
  have b2' := b2.rowOther (k := w.heap.size + 1 + 1 + 1) (cells8 q1) (by omega)
  refine walk_store rfl rfl rfl (exec_store8 (n := q2) 40 (.tmp 9) (.tmp 16) b2' rfl rfl rfl rfl iWide) E2 ?_
  go_simp
  have b3' := (b3.rowOther (k := w.heap.size + 1 + 1 + 1) (cells8 q1) (by omega)).rowOther (k := w.heap.size + 1 + 1 + 1 + 1) (cells8 q2) (by omega)
  refine walk_store rfl rfl rfl (exec_store8 (n := q3) 40 (.tmp 10) (.tmp 19) b3' rfl rfl rfl rfl iWide) E3 ?_
  go_simp
  refine walk_end ?_
  have O := hide E3.o
  have B1 := hide (((b1.row (cells8 q1)).rowOther (k := w.heap.size + 1 + 1 + 1 + 1) (cells8 q2) (by omega)).rowOther (k := w.heap.size + 1 + 1 + 1 + 1 + 1) (cells8 q3) (by omega))
  have B2 := hide ((b2'.row (cells8 q2)).rowOther (k := w.heap.size + 1 + 1 + 1 + 1 + 1) (cells8 q3) (by omega))
  have B3 := hide (b3'.row (cells8 q3))
  clear E0 E1 E2 E3 b1 b2 b3 b2' b3' step
  generalize ((w3.setRow (w.heap.size + 1 + 1 + 1) (cells8 q1)).setRow (w.heap.size + 1 + 1 + 1 + 1) (cells8 q2)).setRow (w.heap.size + 1 + 1 + 1 + 1 + 1) (cells8 q3) = w9 at O B1 B2 B3 ⊢
  go_wp2
  exact res3W (unhide B1) (unhide B2) (unhide B3) rfl rfl rfl rfl rfl ⟨rfl, unhide O⟩

theorem bSpan0 : Try.prog.built 43 [] = some (c24 0 0 0) := by kernel_rfl
theorem prime_no (x y z n : Nat) (w : World) (hD : Hid (Ans 70 #[.agg (c24 x y z)] (.tuple #[.agg (cells8 n), .bool false]))) :
    Calls Try.prog 33 #[.agg (c24 x y z)] w fun e w' => e = .returned (.tuple #[.agg (c24 0 0 0), .bool false]) ∧ Below w.heap.size w w' := by
  go_enter Try.func33, Try.ntmps33
  go_upto_region 1 with fail
  have D := hide (((Gen.start w).push 43 (c24 x y z)).push 43 z24)
  simp only [szA] at D
  go_wp2_with (first | (with_reducible refine at_list ?_; apply ldG (unhide D) rSpan _ rfl rfl rfl (by repeat (first | exact List.mem_cons_self | apply List.mem_cons_of_mem)) rfl) | (go_at_call 70; with_reducible refine (unhide hD _).mono ?_; rintro e w' ⟨he, hb⟩; subst he; have D := hide ((unhide D).keep hb); clear hb) | (with_reducible refine at_list ?_; refine stG (unhide D) rWide _ _ rfl rfl rfl rfl rfl rfl (cells8_one _) ?_; intro D'; have D := hide D'; clear D') | (with_reducible refine at_list ?_;  refine bd0 43 rfl rfl bSpan0 ?_) | (with_reducible refine at_list ?_; apply stGend (unhide D) rSpan _ _ rfl rfl rfl rfl (by repeat (first | exact List.mem_cons_self | apply List.mem_cons_of_mem)) (by omega) rfl rfl (c24_one _ _ _); intro B O))
  exact resGT rSpan (unhide B) rfl rfl rfl rfl rfl ⟨rfl, unhide O⟩
set_option maxHeartbeats 2000000 in
theorem prime_ok (x y z n a b c : Nat) (w : World) (hD : Hid (Ans 70 #[.agg (c24 x y z)] (.tuple #[.agg (cells8 n), .bool true])))
    (hE : Hid (∀ u g, Blk u g 40 (cells8 n) → Calls Try.prog 71 #[.agg (cells8 x), .agg (cells8 y), .agg (cells8 z), .func (Fn.func 72) #[] #[ptr g]] u fun e w' => e = .returned (.tuple #[.agg (cells8 a), .agg (cells8 b), .agg (cells8 c)]) ∧ Below u.heap.size u w')) :
    Calls Try.prog 33 #[.agg (c24 x y z)] w fun e w' => e = .returned (.tuple #[.agg (c24 a b c), .bool true]) ∧ Below w.heap.size w w' := by
  go_enter Try.func33, Try.ntmps33
  go_upto_region 1 with fail
  have D := hide (((Gen.start w).push 43 (c24 x y z)).push 43 z24)
  simp only [szA] at D
  go_upto_region 4 with (first | (with_reducible refine at_list ?_; apply ldG (unhide D) rSpan _ rfl rfl rfl (by repeat (first | exact List.mem_cons_self | apply List.mem_cons_of_mem)) rfl) | (go_at_call 70; with_reducible refine (unhide hD _).mono ?_; rintro e w' ⟨he, hb⟩; subst he; have D := hide ((unhide D).keep hb); clear hb) | (with_reducible refine at_list ?_; refine stG (unhide D) rWide _ _ rfl rfl rfl rfl rfl rfl (cells8_one _) ?_; intro D'; have D := hide D'; clear D'))
  have S0 := hide ((unhide D).blk (g := w.heap.size) (t := 43) (cs := c24 x y z) (by repeat (first | exact List.mem_cons_self | apply List.mem_cons_of_mem)))
  have hC := hide (unhide hE _ _ ((unhide D).blk (t := 40) (cs := cells8 n) List.mem_cons_self))
  clear hE
  go_upto_region 5 with (first | (with_reducible refine at_list ?_;  refine ldMid _ rfl rfl rfl (range_x (unhide S0)) ?_) | (with_reducible refine at_list ?_;  refine ldMid _ rfl rfl rfl (range_y (unhide S0)) ?_) | (with_reducible refine at_list ?_;  refine ldMid _ rfl rfl rfl (range_z (unhide S0)) ?_) | (go_at_call 71; with_reducible refine (unhide hC).mono ?_; rintro e w' ⟨he, hb⟩; subst he; have D := hide ((unhide D).keep hb); clear hb; clear hC) | (with_reducible refine at_list ?_;  refine st3 (unhide D) _ _ _ _ _ _ rfl rfl rfl rfl rfl rfl rfl rfl rfl rfl rfl rfl rfl rfl rfl ?_; intro u D'; have D := hide D'; clear D'))
  clear S0
  go_wp2_with (first | (with_reducible refine at_list ?_; apply ldG (unhide D) rWide _ rfl rfl rfl (by repeat (first | exact List.mem_cons_self | apply List.mem_cons_of_mem)) rfl) | (with_reducible refine at_list ?_;  refine bdSpan _ _ _ rfl rfl rfl rfl rfl ?_) | (with_reducible refine at_list ?_; apply stGend (unhide D) rSpan _ _ rfl rfl rfl rfl (by repeat (first | exact List.mem_cons_self | apply List.mem_cons_of_mem)) (by omega) rfl rfl (c24_one _ _ _); intro B O))
  exact resGT rSpan (unhide B) rfl rfl rfl rfl rfl ⟨rfl, unhide O⟩


end Go.Proofs.Ytmnaffhlilnlhaa
