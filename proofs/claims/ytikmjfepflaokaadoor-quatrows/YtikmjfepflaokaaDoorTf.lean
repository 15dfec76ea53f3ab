/- Package quat: square, check, Check, One, Back; each; Mul. Package quat: each with its closures; Mul, Spin, Back. -/
import Derived.Test.YtikmjfepflaokaaDoorTa
import Derived.Test.YtikmjfepflaokaaDoorVu
namespace Go.Proofs.YtikmjfepflaokaaDoor
open Go.RowKit
set_option maxRecDepth 4000
set_option linter.unusedVariables false

theorem ws4_at (a b c d : Nat) (k : Nat) (h : k < 4) (u : World) : (Instr.index 56 (.agg (ws [a, b, c, d])) (.int .i64 k)).run Tryd.prog u = .ok (.agg (cells8 ([a, b, c, d].getD k 0))) u := by
  rcases (show k = 0 ∨ k = 1 ∨ k = 2 ∨ k = 3 by omega) with rfl | rfl | rfl | rfl <;> kernel_rfl
set_option maxHeartbeats 2000000 in
theorem qsquare_core (L : List Nat) (ls ms ss : Nat → Nat) (w : World) (hLs : (ws L).size = 32) (h0 : Hid (ss 0 = 0)) (hI : Hid (∀ k : Nat, k < 4 → ∀ u, (Instr.index 56 (.agg (ws L)) (.int .i64 k)).run Tryd.prog u = .ok (.agg (cells8 (ls k))) u))
    (hM : Hid (∀ k, k < 4 → Ans 45 #[.agg (cells8 (ls k)), .agg (cells8 (ls k))] (.tuple #[.agg (cells8 (ms k)), .bool true]))) (hA : Hid (∀ k, k < 4 → Ans 47 #[.agg (cells8 (ss k)), .agg (cells8 (ms k))] (.tuple #[.agg (cells8 (ss (k + 1))), .bool true]))) :
    Calls Tryd.prog 27 #[.agg (ws L)] w fun e w' => e = .returned (.agg (cells8 (ss 4))) ∧ Below w.heap.size w w' := by
  go_enter Tryd.func27, Tryd.ntmps27
  go_upto_region 2 with fail
  have D := hide ((((Gen.start w).push 56 (ws L)).push 42 z8).push 42 z8)
  simp only [szA] at D
  generalize hgz : (((w.alloc (.cells (ws L) 56)).alloc (.cells z8 42)).alloc (.cells z8 42)) = w1 at D ⊢
  clear hgz
  rw [show z8 = cells8 0 from cells8_0.symm] at D
  go_wp2_with (first | (with_reducible refine at_list ?_;  apply ldG (unhide D) rNum _ rfl rfl rfl (by repeat (first | exact List.mem_cons_self | apply List.mem_cons_of_mem)) hLs))
  go_loopw [9] (fun i wr => ∃ k : Nat, k ≤ 4 ∧ i = .int .i64 k ∧ Hid (Gen w [(w.heap.size + 1 + 1, 42, cells8 (ss k)), (w.heap.size + 1, 42, cells8 0), (w.heap.size, 56, ws L)] wr)) (fun i _ => 4 - (intOf i).toNat)
  case atStart => exact ⟨0, by omega, rfl, by rw [unhide h0]; exact D⟩
  case round =>
    obtain ⟨k, hk, rfl, hD⟩ := hrel
    by_cases hkn : k < 4
    · have hg : (k : Int) < 4 := by omega
      have Ik := hide (fun u => unhide hI k hkn u)
      have Mk := hide (unhide hM k hkn)
      have Ak := hide (unhide hA k hkn)
      clear hI hM hA D
      have D := hD
      clear hD
      go_upto_region 5 with (first | (with_reducible refine at_list ?_;  refine wpList_value rfl (exec_idxT _ (.tmp 8) (.tmp 9) (unhide Ik _) rfl rfl rfl) ?_) | (with_reducible refine at_list ?_; refine stG (unhide D) rWide _ _ rfl rfl rfl rfl rfl rfl (cells8_one _) ?_; intro D'; have D := hide D'; clear D'))
      clear Ik
      go_upto_region 6 with (first | (with_reducible refine at_list ?_; apply ldG (unhide D) rWide _ rfl rfl rfl (by repeat (first | exact List.mem_cons_self | apply List.mem_cons_of_mem)) rfl) | (go_at_call 45; with_reducible refine (unhide Mk _).mono ?_; rintro e w' ⟨he, hb⟩; subst he; have D := hide ((unhide D).keep hb); clear hb) | (with_reducible refine at_list ?_; refine stG (unhide D) rWide _ _ rfl rfl rfl rfl rfl rfl (cells8_one _) ?_; intro D'; have D := hide D'; clear D'))
      clear Mk
      go_upto_region 7 with (first | (with_reducible refine at_list ?_; apply ldG (unhide D) rWide _ rfl rfl rfl (by repeat (first | exact List.mem_cons_self | apply List.mem_cons_of_mem)) rfl) | (go_at_call 47; with_reducible refine (unhide Ak _).mono ?_; rintro e w' ⟨he, hb⟩; subst he; have D := hide ((unhide D).keep hb); clear hb) | (with_reducible refine at_list ?_;  have B3 := hide ((unhide D).blk (g := w.heap.size + 1 + 1) (t := 42) (cs := cells8 (ss k)) (by repeat (first | exact List.mem_cons_self | apply List.mem_cons_of_mem))); have B2 := hide ((unhide D).blk (g := w.heap.size + 1) (t := 42) (cs := cells8 0) (by repeat (first | exact List.mem_cons_self | apply List.mem_cons_of_mem))); have B1 := hide ((unhide D).blk (g := w.heap.size) (t := 56) (cs := ws L) (by repeat (first | exact List.mem_cons_self | apply List.mem_cons_of_mem))); have O3 := hide (unhide D).o; refine st8 (n := ss (k + 1)) 42 (.tmp 3) (.tmp 22) (unhide B3) rfl rfl rfl rfl rfl iWide ?_))
      have D := hide (Gen.third ((unhide B3).row (cells8 (ss (k + 1)))) ((unhide B2).rowOther (cells8 (ss (k + 1))) (by omega)) ((unhide B1).rowOther (cells8 (ss (k + 1))) (by omega)) (below_row (unhide O3) (show w.heap.size ≤ w.heap.size + 1 + 1 by omega) (cells8 (ss (k + 1)))))
      clear B1 B2 B3 O3
      go_wp2
      go_roundw
      case rel => exact ⟨k + 1, by omega, by go_num, D⟩
      case measure => simp [intOf]; omega
    · obtain rfl : k = 4 := by omega
      have D := hD
      clear hD hI hM hA
      go_wp2_with (first | (with_reducible refine at_list ?_; apply ldG (unhide D) rWide _ rfl rfl rfl (by repeat (first | exact List.mem_cons_self | apply List.mem_cons_of_mem)) rfl) | (with_reducible refine at_list ?_; apply stGend (unhide D) rWide _ _ rfl rfl rfl rfl (by repeat (first | exact List.mem_cons_self | apply List.mem_cons_of_mem)) (by omega) rfl rfl (cells8_one _); intro B O))
      exact resG rWide (unhide B) rfl rfl rfl rfl ⟨rfl, unhide O⟩
/-- A quaternion's square. -/
def sq4 (a b c d : Int) : Int := a * a + b * b + c * c + d * d
def sqk (a b c d : Int) : Nat → Int
  | 0 => 0
  | k + 1 => sqk a b c d k + n4 a b c d k * n4 a b c d k
theorem sqk_sz {a b c d : Int} (h : ∀ j, Sz 63 (n4 a b c d j)) : ∀ k, Sz (126 + k) (sqk a b c d k)
  | 0 => by unfold sqk Sz; exact Nat.zero_le _
  | k + 1 => (sqk_sz h k).add (((h k).mul (h k)).mono (by omega))
theorem sqk_4 (a b c d : Int) : sqk a b c d 4 = sq4 a b c d := by
  show 0 + a * a + b * b + c * c + d * d = _
  unfold sq4
  omega
theorem n4_getD (a b c d : Int) (k : Nat) (h : k < 4) : [enc a, enc b, enc c, enc d].getD k 0 = enc (n4 a b c d k) := by
  rcases (show k = 0 ∨ k = 1 ∨ k = 2 ∨ k = 3 by omega) with rfl | rfl | rfl | rfl <;> rfl
theorem QSquareZ (a b c d : Int) (h : ∀ j, Sz 63 (n4 a b c d j)) : Ans 27 #[.agg (ws [enc a, enc b, enc c, enc d])] (V (sq4 a b c d)) := fun w => by
  rw [← sqk_4]
  exact qsquare_core _ (fun k => enc (n4 a b c d k)) (fun k => enc (n4 a b c d k * n4 a b c d k)) (fun k => enc (sqk a b c d k)) w (ws_size _) rfl (fun k hk u => by rw [ws4_at _ _ _ _ k hk u, n4_getD a b c d k hk]) (fun k _ => mul_told _ _ (h k) (h k) (by decide)) (fun k hk u => by
    have t1 := sqk_sz h k
    have t2 := ((h k).mul (h k)).mono (show 63 + 63 ≤ 126 + k by omega)
    have t := AddZ (sqk a b c d k) (n4 a b c d k * n4 a b c d k) (t1.fit (by omega)) (t2.fit (by omega)) u
    rw [toldZ_fit ((t1.add t2).fit (by omega))] at t
    exact t)
theorem check_low (c1 c2 : Int) (n I L H' : Nat) (E : Bool) (w : World) (h1 : decide (c1 < 0) = true) (hI : Hid (Ans 46 #[.int .i64 1] (.agg (cells8 I)))) (hA : Hid (Ans 48 #[.agg (cells8 I), .int .i64 62] (.tuple #[.agg (cells8 L), .bool E]))) (hB : Hid (Ans 48 #[.agg (cells8 I), .int .i64 66] (.tuple #[.agg (cells8 H'), .bool E])))
    (hC1 : Hid (Ans 51 #[.agg (cells8 n), .agg (cells8 L)] (.int .i64 c1))) (hC2 : Hid (Ans 51 #[.agg (cells8 n), .agg (cells8 H')] (.int .i64 c2))) :
    Calls Tryd.prog 28 #[.agg (cells8 n)] w fun e w' => e = .returned (.int .i64 9) ∧ Below w.heap.size w w' := by
  go_enter Tryd.func28, Tryd.ntmps28
  go_upto_region 1 with fail
  have D := hide ((Gen.start w).push 42 (cells8 n))
  go_wp2_with (first | (with_reducible refine at_list ?_; apply ldG (unhide D) rWide _ rfl rfl rfl (by repeat (first | exact List.mem_cons_self | apply List.mem_cons_of_mem)) rfl) | (with_reducible refine at_list ?_; apply ldGw (unhide D) rWide _ rfl rfl rfl (by repeat (first | exact List.mem_cons_self | apply List.mem_cons_of_mem)) rfl) | (go_at_call 46; with_reducible refine (unhide hI _).mono ?_; rintro e w' ⟨he, hb⟩; subst he; have D := hide ((unhide D).keep hb); clear hb) | (go_at_call 48; with_reducible refine (unhide hA _).mono ?_; rintro e w' ⟨he, hb⟩; subst he; have D := hide ((unhide D).keep hb); clear hb) | (go_at_call 48; with_reducible refine (unhide hB _).mono ?_; rintro e w' ⟨he, hb⟩; subst he; have D := hide ((unhide D).keep hb); clear hb) | (with_reducible refine at_list ?_; refine stG (unhide D) rWide _ _ rfl rfl rfl rfl rfl rfl (cells8_one _) ?_; intro D'; have D := hide D'; clear D') | (go_at_call 51; with_reducible refine (unhide hC1 _).mono ?_; rintro e w' ⟨he, hb⟩; subst he; have D := hide ((unhide D).keep hb); clear hb) | (go_at_call 51; with_reducible refine (unhide hC2 _).mono ?_; rintro e w' ⟨he, hb⟩; subst he; have D := hide ((unhide D).keep hb); clear hb) | (with_reducible refine at_list ?_;  refine lssZ _ _ h1 rfl rfl rfl rfl ?_))
  go_ret
  exact ⟨rfl, (unhide D).o⟩
theorem check_high (c1 c2 : Int) (n I L H' : Nat) (E : Bool) (w : World) (h1 : decide (c1 < 0) = false) (h2 : decide (0 < c2) = true) (hI : Hid (Ans 46 #[.int .i64 1] (.agg (cells8 I)))) (hA : Hid (Ans 48 #[.agg (cells8 I), .int .i64 62] (.tuple #[.agg (cells8 L), .bool E]))) (hB : Hid (Ans 48 #[.agg (cells8 I), .int .i64 66] (.tuple #[.agg (cells8 H'), .bool E])))
    (hC1 : Hid (Ans 51 #[.agg (cells8 n), .agg (cells8 L)] (.int .i64 c1))) (hC2 : Hid (Ans 51 #[.agg (cells8 n), .agg (cells8 H')] (.int .i64 c2))) :
    Calls Tryd.prog 28 #[.agg (cells8 n)] w fun e w' => e = .returned (.int .i64 9) ∧ Below w.heap.size w w' := by
  go_enter Tryd.func28, Tryd.ntmps28
  go_upto_region 1 with fail
  have D := hide ((Gen.start w).push 42 (cells8 n))
  go_wp2_with (first | (with_reducible refine at_list ?_; apply ldG (unhide D) rWide _ rfl rfl rfl (by repeat (first | exact List.mem_cons_self | apply List.mem_cons_of_mem)) rfl) | (with_reducible refine at_list ?_; apply ldGw (unhide D) rWide _ rfl rfl rfl (by repeat (first | exact List.mem_cons_self | apply List.mem_cons_of_mem)) rfl) | (go_at_call 46; with_reducible refine (unhide hI _).mono ?_; rintro e w' ⟨he, hb⟩; subst he; have D := hide ((unhide D).keep hb); clear hb) | (go_at_call 48; with_reducible refine (unhide hA _).mono ?_; rintro e w' ⟨he, hb⟩; subst he; have D := hide ((unhide D).keep hb); clear hb) | (go_at_call 48; with_reducible refine (unhide hB _).mono ?_; rintro e w' ⟨he, hb⟩; subst he; have D := hide ((unhide D).keep hb); clear hb) | (with_reducible refine at_list ?_; refine stG (unhide D) rWide _ _ rfl rfl rfl rfl rfl rfl (cells8_one _) ?_; intro D'; have D := hide D'; clear D') | (go_at_call 51; with_reducible refine (unhide hC1 _).mono ?_; rintro e w' ⟨he, hb⟩; subst he; have D := hide ((unhide D).keep hb); clear hb) | (go_at_call 51; with_reducible refine (unhide hC2 _).mono ?_; rintro e w' ⟨he, hb⟩; subst he; have D := hide ((unhide D).keep hb); clear hb) | (with_reducible refine at_list ?_;  refine lssZ _ _ h1 rfl rfl rfl rfl ?_) | (with_reducible refine at_list ?_;  refine gtrZw _ _ h2 rfl rfl rfl rfl ?_))
  go_ret
  exact ⟨rfl, (unhide D).o⟩
theorem check_ok (c1 c2 : Int) (n I L H' : Nat) (E : Bool) (w : World) (h1 : decide (c1 < 0) = false) (h2 : decide (0 < c2) = false) (hI : Hid (Ans 46 #[.int .i64 1] (.agg (cells8 I)))) (hA : Hid (Ans 48 #[.agg (cells8 I), .int .i64 62] (.tuple #[.agg (cells8 L), .bool E]))) (hB : Hid (Ans 48 #[.agg (cells8 I), .int .i64 66] (.tuple #[.agg (cells8 H'), .bool E])))
    (hC1 : Hid (Ans 51 #[.agg (cells8 n), .agg (cells8 L)] (.int .i64 c1))) (hC2 : Hid (Ans 51 #[.agg (cells8 n), .agg (cells8 H')] (.int .i64 c2))) :
    Calls Tryd.prog 28 #[.agg (cells8 n)] w fun e w' => e = .returned (.int .i64 0) ∧ Below w.heap.size w w' := by
  go_enter Tryd.func28, Tryd.ntmps28
  go_upto_region 1 with fail
  have D := hide ((Gen.start w).push 42 (cells8 n))
  go_wp2_with (first | (with_reducible refine at_list ?_; apply ldG (unhide D) rWide _ rfl rfl rfl (by repeat (first | exact List.mem_cons_self | apply List.mem_cons_of_mem)) rfl) | (with_reducible refine at_list ?_; apply ldGw (unhide D) rWide _ rfl rfl rfl (by repeat (first | exact List.mem_cons_self | apply List.mem_cons_of_mem)) rfl) | (go_at_call 46; with_reducible refine (unhide hI _).mono ?_; rintro e w' ⟨he, hb⟩; subst he; have D := hide ((unhide D).keep hb); clear hb) | (go_at_call 48; with_reducible refine (unhide hA _).mono ?_; rintro e w' ⟨he, hb⟩; subst he; have D := hide ((unhide D).keep hb); clear hb) | (go_at_call 48; with_reducible refine (unhide hB _).mono ?_; rintro e w' ⟨he, hb⟩; subst he; have D := hide ((unhide D).keep hb); clear hb) | (with_reducible refine at_list ?_; refine stG (unhide D) rWide _ _ rfl rfl rfl rfl rfl rfl (cells8_one _) ?_; intro D'; have D := hide D'; clear D') | (go_at_call 51; with_reducible refine (unhide hC1 _).mono ?_; rintro e w' ⟨he, hb⟩; subst he; have D := hide ((unhide D).keep hb); clear hb) | (go_at_call 51; with_reducible refine (unhide hC2 _).mono ?_; rintro e w' ⟨he, hb⟩; subst he; have D := hide ((unhide D).keep hb); clear hb) | (with_reducible refine at_list ?_;  refine lssZ _ _ h1 rfl rfl rfl rfl ?_) | (with_reducible refine at_list ?_;  refine gtrZw _ _ h2 rfl rfl rfl rfl ?_))
  go_ret
  exact ⟨rfl, (unhide D).o⟩
/-- Is it a rotation's square? -/
def chk (n : Int) : Int := if n < 4611686018427387904 then 9 else if 73786976294838206464 < n then 9 else 0
theorem shl_1 (k : Int) (n : Int) (hn : (1 : Int) * ((2 ^ k.toNat : Nat) : Int) = n) (hf : Fit n) (h0 : 0 ≤ k) (h1 : k < 9223372036854775808) : Ans 48 #[V 1, .int .i64 k] (.tuple #[V n, .bool true]) := fun u => by
  have t := ShlZ 1 k fit_one (by omega) h1 u
  rw [hn, fit_true hf, decide_eq_false (show ¬ k < 0 by omega)] at t
  exact t
theorem CheckN (n : Int) (hn : Sz 200 n) : Ans 28 #[V n] (.int .i64 (chk n)) := fun w => by
  have hI : Ans 46 #[.int .i64 1] (V 1) := fun u => OfZ 1 (by decide) (by decide) u
  have sL : Sz 62 4611686018427387904 := by unfold Sz; decide
  have sH : Sz 66 73786976294838206464 := by unfold Sz; decide
  have hA := shl_1 62 4611686018427387904 rfl (sL.fit (by decide)) (by decide) (by decide)
  have hB := shl_1 66 73786976294838206464 rfl (sH.fit (by decide)) (by decide) (by decide)
  have hC1 : Ans 51 #[V n, V 4611686018427387904] _ := fun u => CmpZ _ _ (hn.fit (by decide)) (sL.fit (by decide)) u
  have hC2 : Ans 51 #[V n, V 73786976294838206464] _ := fun u => CmpZ _ _ (hn.fit (by decide)) (sH.fit (by decide)) u
  have k1 : decide (cmpI n 4611686018427387904 < 0) = decide (n < 4611686018427387904) := by
    unfold cmpI
    by_cases h : n < 4611686018427387904
    · rw [if_pos h, decide_eq_true h]; decide
    · rw [if_neg h, decide_eq_false h]; split <;> decide
  have k2 : decide (0 < cmpI n 73786976294838206464) = decide (73786976294838206464 < n) := by
    unfold cmpI
    by_cases h : n < 73786976294838206464
    · rw [if_pos h, decide_eq_false (show ¬ 73786976294838206464 < n by omega)]; decide
    · rw [if_neg h]
      by_cases h2 : 73786976294838206464 < n
      · rw [if_pos h2, decide_eq_true h2]; decide
      · rw [if_neg h2, decide_eq_false h2]; decide
  unfold chk
  by_cases h1 : n < 4611686018427387904
  · rw [if_pos h1]
    exact check_low _ _ _ _ _ _ true w (k1.trans (decide_eq_true h1)) hI hA hB hC1 hC2
  · rw [if_neg h1]
    by_cases h2 : 73786976294838206464 < n
    · rw [if_pos h2]
      exact check_high _ _ _ _ _ _ true w (k1.trans (decide_eq_false h1)) (k2.trans (decide_eq_true h2)) hI hA hB hC1 hC2
    · rw [if_neg h2]
      exact check_ok _ _ _ _ _ _ true w (k1.trans (decide_eq_false h1)) (k2.trans (decide_eq_false h2)) hI hA hB hC1 hC2
theorem qCheck_core (a b c d v : Int) (L : List Nat) (n : Nat) (w : World) (hR : Hid (Ans 26 #[.agg (q4 a b c d)] (.agg (ws L)))) (hS : Hid (Ans 27 #[.agg (ws L)] (.agg (cells8 n)))) (hC : Hid (Ans 28 #[.agg (cells8 n)] (.int .i64 v))) :
    Calls Tryd.prog 17 #[.agg (q4 a b c d)] w fun e w' => e = .returned (.int .i64 v) ∧ Below w.heap.size w w' := by
  go_enter Tryd.func17, Tryd.ntmps17
  go_upto_region 1 with fail
  have D := hide ((Gen.start w).push 24 (q4 a b c d))
  go_wp2_with (first | (with_reducible refine at_list ?_; apply ldG (unhide D) rQuat _ rfl rfl rfl (by repeat (first | exact List.mem_cons_self | apply List.mem_cons_of_mem)) rfl) | (go_at_call 26; with_reducible refine (unhide hR _).mono ?_; rintro e w' ⟨he, hb⟩; subst he; have D := hide ((unhide D).keep hb); clear hb) | (go_at_call 27; with_reducible refine (unhide hS _).mono ?_; rintro e w' ⟨he, hb⟩; subst he; have D := hide ((unhide D).keep hb); clear hb) | (go_at_call 28; with_reducible refine (unhide hC _).mono ?_; rintro e w' ⟨he, hb⟩; subst he; have D := hide ((unhide D).keep hb); clear hb))
  go_ret
  exact ⟨rfl, (unhide D).o⟩
theorem n4_I64 {a b c d : Int} (h0 : I64 a) (h1 : I64 b) (h2 : I64 c) (h3 : I64 d) (j : Nat) : Sz 63 (n4 a b c d j) := n4_all (P := Sz 63) h0.sz h1.sz h2.sz h3.sz j
theorem sq4_sz {a b c d : Int} (h : ∀ j, Sz 63 (n4 a b c d j)) : Sz 130 (sq4 a b c d) := by
  rw [← sqk_4]
  exact (sqk_sz h 4)
theorem QCheckZ (a b c d : Int) (h0 : I64 a) (h1 : I64 b) (h2 : I64 c) (h3 : I64 d) : Ans 17 #[.agg (q4 a b c d)] (.int .i64 (chk (sq4 a b c d))) := fun w =>
  qCheck_core a b c d _ _ _ w (QRawZ a b c d h0 h1 h2 h3) (QSquareZ a b c d (n4_I64 h0 h1 h2 h3)) (CheckN _ ((sq4_sz (n4_I64 h0 h1 h2 h3)).mono (by decide)))
theorem QOneZ : Ans 13 #[] (.agg (q4 4294967296 0 0 0)) := fun w => by
  go_enter Tryd.func13, Tryd.ntmps13
  go_upto_region 1 with fail
  have D := hide ((Gen.start w).push 24 (q4 0 0 0 0))
  go_wp2_with (first | (with_reducible refine at_list ?_; apply stGend (unhide D) rQuat _ _ rfl rfl rfl rfl (by repeat (first | exact List.mem_cons_self | apply List.mem_cons_of_mem)) (by omega) rfl rfl (q4_one _ _ _ _); intro B O))
  exact resG rQuat (unhide B) rfl rfl rfl rfl ⟨rfl, unhide O⟩

end Go.Proofs.YtikmjfepflaokaaDoor

namespace Go.Proofs.YtikmjfepflaokaaDoor
open Go.RowKit
set_option maxRecDepth 4000
set_option linter.unusedVariables false

theorem qeach_Mul (S : World → Prop) (g0 : Nat) (a b c d : Int) (w : World) (hS : S w) (hk : Hid (∀ u u', S u → Below u.heap.size u u' → S u'))
    (h0 : Hid (∀ u, S u → Calls Tryd.prog 41 #[.int .i64 0, .pointer (some ⟨g0, 0, none⟩)] u fun e w' => e = .returned (.int .i64 a) ∧ Below u.heap.size u w'))
    (h1 : Hid (∀ u, S u → Calls Tryd.prog 41 #[.int .i64 1, .pointer (some ⟨g0, 0, none⟩)] u fun e w' => e = .returned (.int .i64 b) ∧ Below u.heap.size u w'))
    (h2 : Hid (∀ u, S u → Calls Tryd.prog 41 #[.int .i64 2, .pointer (some ⟨g0, 0, none⟩)] u fun e w' => e = .returned (.int .i64 c) ∧ Below u.heap.size u w'))
    (h3 : Hid (∀ u, S u → Calls Tryd.prog 41 #[.int .i64 3, .pointer (some ⟨g0, 0, none⟩)] u fun e w' => e = .returned (.int .i64 d) ∧ Below u.heap.size u w')) :
    Calls Tryd.prog 40 #[.func (Fn.func 41) #[] #[.pointer (some ⟨g0, 0, none⟩)]] w fun e w' => e = .returned (.agg (q4 a b c d)) ∧ Below w.heap.size w w' := by
  go_enter Tryd.func40, Tryd.ntmps40
  go_upto_region 1 with fail
  have D := hide ((Gen.start w).push 24 (q4 0 0 0 0))
  have HS := hide (unhide hk _ _ hS ((Below.refl _ w).alloc (Nat.le_refl _) (.cells (q4 0 0 0 0) 24)))
  clear hS
  go_wp2_with (first | (go_at_call 41; (first | with_reducible refine (unhide h0 _ (unhide HS)).mono ?_ | with_reducible refine (unhide h1 _ (unhide HS)).mono ?_ | with_reducible refine (unhide h2 _ (unhide HS)).mono ?_ | with_reducible refine (unhide h3 _ (unhide HS)).mono ?_); rintro e w' ⟨he, hb⟩; subst he; have D := hide ((unhide D).keep hb); have HS := hide (unhide hk _ _ (unhide HS) hb); clear hb) | (with_reducible refine at_list ?_; apply stGend (unhide D) rQuat _ _ rfl rfl rfl rfl (by repeat (first | exact List.mem_cons_self | apply List.mem_cons_of_mem)) (by omega) rfl rfl (q4_one _ _ _ _); intro B O))
  exact resG rQuat (unhide B) rfl rfl rfl rfl ⟨rfl, unhide O⟩
theorem qeach_Unit (S : World → Prop) (g0 g1 : Nat) (a b c d : Int) (w : World) (hS : S w) (hk : Hid (∀ u u', S u → Below u.heap.size u u' → S u'))
    (h0 : Hid (∀ u, S u → Calls Tryd.prog 43 #[.int .i64 0, .pointer (some ⟨g0, 0, none⟩), .pointer (some ⟨g1, 0, none⟩)] u fun e w' => e = .returned (.int .i64 a) ∧ Below u.heap.size u w'))
    (h1 : Hid (∀ u, S u → Calls Tryd.prog 43 #[.int .i64 1, .pointer (some ⟨g0, 0, none⟩), .pointer (some ⟨g1, 0, none⟩)] u fun e w' => e = .returned (.int .i64 b) ∧ Below u.heap.size u w'))
    (h2 : Hid (∀ u, S u → Calls Tryd.prog 43 #[.int .i64 2, .pointer (some ⟨g0, 0, none⟩), .pointer (some ⟨g1, 0, none⟩)] u fun e w' => e = .returned (.int .i64 c) ∧ Below u.heap.size u w'))
    (h3 : Hid (∀ u, S u → Calls Tryd.prog 43 #[.int .i64 3, .pointer (some ⟨g0, 0, none⟩), .pointer (some ⟨g1, 0, none⟩)] u fun e w' => e = .returned (.int .i64 d) ∧ Below u.heap.size u w')) :
    Calls Tryd.prog 40 #[.func (Fn.func 43) #[] #[.pointer (some ⟨g0, 0, none⟩), .pointer (some ⟨g1, 0, none⟩)]] w fun e w' => e = .returned (.agg (q4 a b c d)) ∧ Below w.heap.size w w' := by
  go_enter Tryd.func40, Tryd.ntmps40
  go_upto_region 1 with fail
  have D := hide ((Gen.start w).push 24 (q4 0 0 0 0))
  have HS := hide (unhide hk _ _ hS ((Below.refl _ w).alloc (Nat.le_refl _) (.cells (q4 0 0 0 0) 24)))
  clear hS
  go_wp2_with (first | (go_at_call 43; (first | with_reducible refine (unhide h0 _ (unhide HS)).mono ?_ | with_reducible refine (unhide h1 _ (unhide HS)).mono ?_ | with_reducible refine (unhide h2 _ (unhide HS)).mono ?_ | with_reducible refine (unhide h3 _ (unhide HS)).mono ?_); rintro e w' ⟨he, hb⟩; subst he; have D := hide ((unhide D).keep hb); have HS := hide (unhide hk _ _ (unhide HS) hb); clear hb) | (with_reducible refine at_list ?_; apply stGend (unhide D) rQuat _ _ rfl rfl rfl rfl (by repeat (first | exact List.mem_cons_self | apply List.mem_cons_of_mem)) (by omega) rfl rfl (q4_one _ _ _ _); intro B O))
  exact resG rQuat (unhide B) rfl rfl rfl rfl ⟨rfl, unhide O⟩
theorem qeach_Spin (S : World → Prop) (g0 g1 g2 : Nat) (a b c d : Int) (w : World) (hS : S w) (hk : Hid (∀ u u', S u → Below u.heap.size u u' → S u'))
    (h0 : Hid (∀ u, S u → Calls Tryd.prog 53 #[.int .i64 0, .pointer (some ⟨g0, 0, none⟩), .pointer (some ⟨g1, 0, none⟩), .pointer (some ⟨g2, 0, none⟩)] u fun e w' => e = .returned (.int .i64 a) ∧ Below u.heap.size u w'))
    (h1 : Hid (∀ u, S u → Calls Tryd.prog 53 #[.int .i64 1, .pointer (some ⟨g0, 0, none⟩), .pointer (some ⟨g1, 0, none⟩), .pointer (some ⟨g2, 0, none⟩)] u fun e w' => e = .returned (.int .i64 b) ∧ Below u.heap.size u w'))
    (h2 : Hid (∀ u, S u → Calls Tryd.prog 53 #[.int .i64 2, .pointer (some ⟨g0, 0, none⟩), .pointer (some ⟨g1, 0, none⟩), .pointer (some ⟨g2, 0, none⟩)] u fun e w' => e = .returned (.int .i64 c) ∧ Below u.heap.size u w'))
    (h3 : Hid (∀ u, S u → Calls Tryd.prog 53 #[.int .i64 3, .pointer (some ⟨g0, 0, none⟩), .pointer (some ⟨g1, 0, none⟩), .pointer (some ⟨g2, 0, none⟩)] u fun e w' => e = .returned (.int .i64 d) ∧ Below u.heap.size u w')) :
    Calls Tryd.prog 40 #[.func (Fn.func 53) #[] #[.pointer (some ⟨g0, 0, none⟩), .pointer (some ⟨g1, 0, none⟩), .pointer (some ⟨g2, 0, none⟩)]] w fun e w' => e = .returned (.agg (q4 a b c d)) ∧ Below w.heap.size w w' := by
  go_enter Tryd.func40, Tryd.ntmps40
  go_upto_region 1 with fail
  have D := hide ((Gen.start w).push 24 (q4 0 0 0 0))
  have HS := hide (unhide hk _ _ hS ((Below.refl _ w).alloc (Nat.le_refl _) (.cells (q4 0 0 0 0) 24)))
  clear hS
  go_wp2_with (first | (go_at_call 53; (first | with_reducible refine (unhide h0 _ (unhide HS)).mono ?_ | with_reducible refine (unhide h1 _ (unhide HS)).mono ?_ | with_reducible refine (unhide h2 _ (unhide HS)).mono ?_ | with_reducible refine (unhide h3 _ (unhide HS)).mono ?_); rintro e w' ⟨he, hb⟩; subst he; have D := hide ((unhide D).keep hb); have HS := hide (unhide hk _ _ (unhide HS) hb); clear hb) | (with_reducible refine at_list ?_; apply stGend (unhide D) rQuat _ _ rfl rfl rfl rfl (by repeat (first | exact List.mem_cons_self | apply List.mem_cons_of_mem)) (by omega) rfl rfl (q4_one _ _ _ _); intro B O))
  exact resG rQuat (unhide B) rfl rfl rfl rfl ⟨rfl, unhide O⟩
theorem clos_QMul (k : Nat) (hk : k < 4) (L : List Nat) (n : Nat) (v : Int) (g : Nat) (u : World) (hB : Blk u g 56 (ws L)) (hn : L[k]? = some n) (hI : Hid (Ans 42 #[.agg (cells8 n), .int .i64 64] (.int .i64 v))) :
    Calls Tryd.prog 41 #[.int .i64 k, .pointer (some ⟨g, 0, none⟩)] u fun e w' => e = .returned (.int .i64 v) ∧ Below u.heap.size u w' := by
  have D := hide (Gen.pair hB hB (Below.refl _ u))
  clear hB
  go_enter Tryd.func41, Tryd.ntmps41
  go_wp2_with (first | (with_reducible refine at_list ?_;  refine wpList_value rfl (exec_ix _ (.tmp 1) (.tmp 4) hk rfl rfl rfl) ?_) | (with_reducible refine at_list ?_;  refine wpList_value rfl (exec_ldMid (.tmp 5) rfl rfl (ws_range ((unhide D).blk List.mem_cons_self) hn)) ?_) | (go_at_call 42; with_reducible refine (unhide hI _).mono ?_; rintro e w' ⟨he, hb⟩; subst he; have D := hide ((unhide D).keep hb); clear hb))
  go_ret
  exact ⟨rfl, (unhide D).o⟩
set_option maxHeartbeats 2000000 in
theorem qMul_core (T : Array Value) (p0 p1 p2 p3 q0 q1 q2 q3 x0 x1 x2 x3 : Int) (P Q : List Nat) (e0 e1 e2 e3 : Nat) (w : World) (hT : Tab 1 T w) (hP : Hid (Ans 26 #[.agg (q4 p0 p1 p2 p3)] (.agg (ws P)))) (hQ : Hid (Ans 26 #[.agg (q4 q0 q1 q2 q3)] (.agg (ws Q))))
    (hR : Hid (∀ u, Tab 1 T u → Calls Tryd.prog 39 #[.agg (ws P), .agg (ws Q)] u fun e w' => e = .returned (.agg (ws [e0, e1, e2, e3])) ∧ Below u.heap.size u w'))
    (hE : Hid (∀ u g, Blk u g 56 (ws [e0, e1, e2, e3]) → Calls Tryd.prog 40 #[.func (Fn.func 41) #[] #[.pointer (some ⟨g, 0, none⟩)]] u fun e w' => e = .returned (.agg (q4 x0 x1 x2 x3)) ∧ Below u.heap.size u w')) :
    Calls Tryd.prog 14 #[.agg (q4 p0 p1 p2 p3), .agg (q4 q0 q1 q2 q3)] w fun e w' => e = .returned (.agg (q4 x0 x1 x2 x3)) ∧ Below w.heap.size w w' := by
  have hTlt := hT.lt
  have HT := hide hT
  clear hT
  go_enter Tryd.func14, Tryd.ntmps14
  go_upto_region 1 with fail
  have D := hide ((((Gen.start w).push 24 (q4 p0 p1 p2 p3)).push 24 (q4 q0 q1 q2 q3)).push 24 (q4 0 0 0 0))
  simp only [szA] at D
  generalize hw1 : (((w.alloc (.cells (q4 p0 p1 p2 p3) 24)).alloc (.cells (q4 q0 q1 q2 q3) 24)).alloc (.cells (q4 0 0 0 0) 24)) = w1 at D ⊢
  have D1 : Hid (GenZ w _ w1.heap.size w1.drew) := ⟨(unhide D).drew, Nat.le_refl _⟩
  have hlt := hide (fun (p : Nat × TypeId × Array Value) hp => ((unhide D).at_ p hp).lt)
  have hw0 := hide (unhide D).o.size
  clear D hw1
  generalize w1.heap.size = C at D1 hlt hw0
  refine region_allocs (S := GenZ w _ C) (t := 56) (z := z32) (base := C) (l := [0, 1, 2, 3, 4]) (A := [5]) (T := [6]) (by kernel_rfl) (by kernel_rfl) (by kernel_rfl) (by kernel_rfl) (by kernel_rfl) (by kernel_rfl) (by kernel_rfl) (by kernel_rfl) (by kernel_rfl) (by kernel_rfl) ?_ (fun _ _ h hb => h.keep hb) (fun _ h => h.s) (unhide D1) ?_
  · intro i hi
    simp at hi
    subst hi
    exact ⟨_, rfl, rfl, fun a w => by go_simp⟩
  clear D1
  refine planB_read (v := .agg (q4 p0 p1 p2 p3)) rfl rfl (fun u hS => exec_loadG hS.e rQuat _ rfl rfl (by repeat (first | exact List.mem_cons_self | apply List.mem_cons_of_mem)) rfl) ?_
  go_simp
  refine planB_call (v := .agg (ws P)) (f := 26) (args := #[.agg (q4 p0 p1 p2 p3)]) rfl rfl (fun u hS => by go_simp) (fun u hS => (unhide hP u).mono fun _ _ ⟨he, hb⟩ => ⟨he, hS.keep hb, hb⟩) ?_
  go_simp
  refine planB_read (v := .agg (q4 q0 q1 q2 q3)) rfl rfl (fun u hS => exec_loadG hS.e rQuat _ rfl rfl (by repeat (first | exact List.mem_cons_self | apply List.mem_cons_of_mem)) rfl) ?_
  go_simp
  refine planB_call (v := .agg (ws Q)) (f := 26) (args := #[.agg (q4 q0 q1 q2 q3)]) rfl rfl (fun u hS => by go_simp) (fun u hS => (unhide hQ u).mono fun _ _ ⟨he, hb⟩ => ⟨he, hS.keep hb, hb⟩) ?_
  go_simp
  refine planB_call (v := .agg (ws [e0, e1, e2, e3])) (f := 39) (args := #[.agg (ws P), .agg (ws Q)]) rfl rfl (fun u hS => by go_simp) (fun u hS => (unhide hR u ((unhide HT).below hS.e.o hTlt)).mono fun _ _ ⟨he, hb⟩ => ⟨he, hS.keep hb, hb⟩) ?_
  go_simp
  refine planB_tail (fun c u hS hB hI => ?_)
  have h7 := hB 5 (by simp)
  simp only [pa, dstOf, opsOf]
  generalize c 5 = c7 at h7 ⊢
  have D := hide (hS.e.fillZ (cs := ws [e0, e1, e2, e3]) (unhide hlt) (unhide hw0) h7.1 h7.2)
  have H7 := hide h7.1
  clear hS hB hI h7 hlt hw0
  refine wpList_store_row rfl 56 (.tmp 5) (.tmp 10) rfl _ (ws [e0, e1, e2, e3]) rfl rfl 56 _ (unhide H7) rNum.i rfl (ws_one _) ?_
  generalize u.setRow c7 (ws [e0, e1, e2, e3]) = u1 at D ⊢
  clear H7 HT
  go_simp
  go_wp2_with (first | (go_at_call 40; with_reducible refine (unhide hE _ _ ((unhide D).blk (by repeat (first | exact List.mem_cons_self | apply List.mem_cons_of_mem)))).mono ?_; rintro e w' ⟨he, hb⟩; subst he; have D := hide ((unhide D).keep hb); clear hb) | (with_reducible refine at_list ?_; apply stGend (unhide D) rQuat _ _ rfl rfl rfl rfl (by repeat (first | exact List.mem_cons_self | apply List.mem_cons_of_mem)) (by omega) rfl rfl (q4_one _ _ _ _); intro B O))
  exact resG rQuat (unhide B) rfl rfl rfl rfl ⟨rfl, unhide O⟩
/-- A number of a product, brought in. -/
def mulQ (p0 p1 p2 p3 q0 q1 q2 q3 : Int) (j : Nat) : Int := cl (prd p0 p1 p2 p3 q0 q1 q2 q3 16 j / 4294967296)
theorem QMulZ (p0 p1 p2 p3 q0 q1 q2 q3 : Int) (a0 : I64 p0) (a1 : I64 p1) (a2 : I64 p2) (a3 : I64 p3) (b0 : I64 q0) (b1 : I64 q1) (b2 : I64 q2) (b3 : I64 q3) (w : World) (hT : Tab 1 tabP w) :
    Calls Tryd.prog 14 #[.agg (q4 p0 p1 p2 p3), .agg (q4 q0 q1 q2 q3)] w fun e w' => e = .returned (.agg (q4 (mulQ p0 p1 p2 p3 q0 q1 q2 q3 0) (mulQ p0 p1 p2 p3 q0 q1 q2 q3 1) (mulQ p0 p1 p2 p3 q0 q1 q2 q3 2) (mulQ p0 p1 p2 p3 q0 q1 q2 q3 3))) ∧ Below w.heap.size w w' :=
  have hp := n4_I64 a0 a1 a2 a3
  have hq := n4_I64 b0 b1 b2 b3
  have hI : ∀ j, Ans 42 #[V (prd p0 p1 p2 p3 q0 q1 q2 q3 16 j), .int .i64 64] (.int .i64 (mulQ p0 p1 p2 p3 q0 q1 q2 q3 j)) := fun j => InZ _ 64 ((prd_sz hp hq 16 j (by decide)).fit (by decide)) ⟨by decide, by decide⟩
  qMul_core tabP p0 p1 p2 p3 q0 q1 q2 q3 _ _ _ _ _ _ _ _ _ _ w hT (QRawZ p0 p1 p2 p3 a0 a1 a2 a3) (QRawZ q0 q1 q2 q3 b0 b1 b2 b3) (fun u h => ProductZ p0 p1 p2 p3 q0 q1 q2 q3 hp hq u h) (fun u g hB =>
    qeach_Mul (fun v => Blk v g 56 (ws (ac4 (prd p0 p1 p2 p3 q0 q1 q2 q3 16)))) g _ _ _ _ u hB (fun _ _ h hb => h.below hb h.lt)
      (fun v h => clos_QMul 0 (by decide) _ _ _ g v h rfl (hI 0)) (fun v h => clos_QMul 1 (by decide) _ _ _ g v h rfl (hI 1)) (fun v h => clos_QMul 2 (by decide) _ _ _ g v h rfl (hI 2)) (fun v h => clos_QMul 3 (by decide) _ _ _ g v h rfl (hI 3)))

end Go.Proofs.YtikmjfepflaokaaDoor
