/- Package grid: divisor. -/
import Derived.Test.YtmnaffhlilnlhaaAg
namespace Go.Proofs.Ytmnaffhlilnlhaa
open Go.RowKit
set_option maxRecDepth 4000
set_option linter.unusedVariables false

theorem bdArr3 {ops : Array Oper} {rest : List Oper} {o : Oper} {a : Act} {w : World} {Q : Exit → Act → World → Prop} (p q r : Operand) {x y z : Nat} (ho : o.op = .build 113 #[(0, p), (1, q), (2, r)]) (hgd : o.guard = none) (hx : a.eval p = .agg (cells8 x)) (hy : a.eval q = .agg (cells8 y)) (hz : a.eval r = .agg (cells8 z))
    (h : wpList Try.prog ops Q rest (a.put o.dst (.agg (c24 x y z))) w) : wpList Try.prog ops Q (o :: rest) a w := wpList_value hgd (exec_build3 w 113 p q r ho hx hy hz (bArr3 x y z)) h
theorem ixArr3 {ops : Array Oper} {rest : List Oper} {o : Oper} {a : Act} {w : World} {Q : Exit → Act → World → Prop} (N : Nat → Nat) {k : Nat} (hk : k < 3) (x y : Operand) (ho : o.op = .index 113 x y) (hgd : o.guard = none) (hx : a.eval x = .agg (c24 (N 0) (N 1) (N 2))) (hy : a.eval y = .int .i64 (k : Int))
    (h : wpList Try.prog ops Q rest (a.put o.dst (.agg (cells8 (N k)))) w) : wpList Try.prog ops Q (o :: rest) a w := wpList_value hgd (exec_ix3 N hk x y ho hx hy) h
set_option maxHeartbeats 1000000 in
theorem divisor_core (N L Wd : Nat → Nat) (m Z0 : Nat) (z : Bool) (w : World) (hm : m ≤ 3) (h0 : Hid (Wd 0 = 0)) (hs : Hid (∀ k, k < m → Ans 108 #[.agg (cells8 (N k))] (.tuple #[.agg (cells8 (L k)), .bool true]))) (hc : Hid (∀ k, k < m → Ans 109 #[.agg (cells8 (Wd k)), .agg (cells8 (L k))] (.agg (cells8 (Wd (k + 1))))))
    (hr : Hid (m < 3 → Ans 108 #[.agg (cells8 (N m))] (.tuple #[.agg (cells8 Z0), .bool false]))) (hz : Hid (same (Wd 3) 0 = z)) (res : Value) (hy : Hid (m = 3 → res = .tuple #[.agg (cells8 (Wd 3)), .bool (!z)])) (hn : Hid (m < 3 → res = .tuple #[.agg (cells8 0), .bool false])) :
    Calls Try.prog 70 #[.agg (c24 (N 0) (N 1) (N 2))] w fun e w' => e = .returned res ∧ Below w.heap.size w w' := by
  go_enter Try.func70, Try.ntmps70
  go_upto_region 2 with fail
  have D := hide ((((Gen.start w).push 43 (c24 (N 0) (N 1) (N 2))).push 40 z8).push 40 z8)
  simp only [szA] at D
  generalize ((w.alloc (.cells (c24 (N 0) (N 1) (N 2)) 43)).alloc (.cells z8 40)).alloc (.cells z8 40) = w3 at D ⊢
  have D0 : Hid (Gen w [(w.heap.size + 1 + 1, 40, cells8 (Wd 0)), (w.heap.size + 1, 40, z8), (w.heap.size, 43, c24 (N 0) (N 1) (N 2))] w3) := by
    rw [unhide h0, cells8_0]
    exact D
  clear D
  have D := D0
  clear D0
  have S0 := hide ((unhide D).blk (g := w.heap.size) (t := 43) (cs := c24 (N 0) (N 1) (N 2)) (by repeat (first | exact List.mem_cons_self | apply List.mem_cons_of_mem)))
  go_wp2_with (first | (with_reducible refine at_list ?_;  refine ldMid _ rfl rfl rfl (range_x (unhide S0)) ?_) | (with_reducible refine at_list ?_;  refine ldMid _ rfl rfl rfl (range_y (unhide S0)) ?_) | (with_reducible refine at_list ?_;  refine ldMid _ rfl rfl rfl (range_z (unhide S0)) ?_) | (with_reducible refine at_list ?_;  refine bdArr3 _ _ _ rfl rfl rfl rfl rfl ?_))
  clear S0
  go_loopw [16] (fun i wr => ∃ k : Nat, k ≤ m ∧ i = .int .i64 k ∧ Hid (Gen w [(w.heap.size + 1 + 1, 40, cells8 (Wd k)), (w.heap.size + 1, 40, z8), (w.heap.size, 43, c24 (N 0) (N 1) (N 2))] wr)) (fun i _ => 3 - (intOf i).toNat)
  case atStart => exact ⟨0, by omega, rfl, D⟩
  case round =>
    obtain ⟨k, hk, rfl, hD⟩ := hrel
    clear D
    have D := hD
    clear hD h0
    by_cases hkm : k < m
    · have hk3 : k < 3 := by omega
      have hki : (k : Int) < 3 := by omega
      have s1 := hide (unhide hs k hkm)
      have c1 := hide (unhide hc k hkm)
      clear hs hc hr hz hy hn
      go_wp2_with (first | (with_reducible refine at_list ?_;  refine ixArr3 N hk3 _ _ rfl rfl rfl rfl ?_) | (with_reducible refine at_st 4 rfl ?_) | (with_reducible refine at_list ?_; refine stG (unhide D) rWide _ _ rfl rfl rfl rfl rfl rfl (cells8_one _) ?_; intro D'; have D := hide D'; clear D') | (with_reducible refine at_list ?_; apply ldG (unhide D) rWide _ rfl rfl rfl (by repeat (first | exact List.mem_cons_self | apply List.mem_cons_of_mem)) rfl) | (go_at_call 108; with_reducible refine (unhide s1 _).mono ?_; rintro e w' ⟨he, hb⟩; subst he; have D := hide ((unhide D).keep hb); clear hb) | (go_at_call 109; with_reducible refine (unhide c1 _).mono ?_; rintro e w' ⟨he, hb⟩; subst he; have D := hide ((unhide D).keep hb); clear hb))
      unfold Stop
      have G4 := hide ((unhide D).blk (g := w.heap.size + 1 + 1) (t := 40) (cs := cells8 (Wd k)) (by repeat (first | exact List.mem_cons_self | apply List.mem_cons_of_mem)))
      have G2 := hide ((unhide D).blk (g := w.heap.size + 1) (t := 40) (cs := z8) (by repeat (first | exact List.mem_cons_self | apply List.mem_cons_of_mem)))
      have G1 := hide ((unhide D).blk (g := w.heap.size) (t := 43) (cs := c24 (N 0) (N 1) (N 2)) (by repeat (first | exact List.mem_cons_self | apply List.mem_cons_of_mem)))
      have O := hide (unhide D).o
      clear D
      refine wpList_store_row rfl 40 _ _ rfl (w.heap.size + 1 + 1) (cells8 (Wd (k + 1))) rfl rfl 40 _ (unhide G4) iWide rfl (cells8_one _) ?_
      have D := hide (Gen.third ((unhide G4).row (cells8 (Wd (k + 1)))) ((unhide G2).rowOther (k := w.heap.size + 1 + 1) (cells8 (Wd (k + 1))) (by omega)) ((unhide G1).rowOther (k := w.heap.size + 1 + 1) (cells8 (Wd (k + 1))) (by omega)) (below_row (unhide O) (by omega) (cells8 (Wd (k + 1)))))
      clear G4 G2 G1 O
      go_wp2
      go_roundw
      case rel => exact ⟨k + 1, by omega, by go_num, D⟩
      case measure => simp [intOf]; omega
    · obtain rfl : k = m := by omega
      clear hs hc hkm
      by_cases hk3 : k < 3
      · have hki : (k : Int) < 3 := by omega
        have s1 := hide (unhide hr hk3)
        have e := unhide hn hk3
        subst e
        clear hr hz hn hy
        go_wp2_with (first | (with_reducible refine at_list ?_;  refine ixArr3 N hk3 _ _ rfl rfl rfl rfl ?_) | (with_reducible refine at_list ?_; refine stG (unhide D) rWide _ _ rfl rfl rfl rfl rfl rfl (cells8_one _) ?_; intro D'; have D := hide D'; clear D') | (with_reducible refine at_list ?_; apply ldG (unhide D) rWide _ rfl rfl rfl (by repeat (first | exact List.mem_cons_self | apply List.mem_cons_of_mem)) rfl) | (go_at_call 108; with_reducible refine (unhide s1 _).mono ?_; rintro e w' ⟨he, hb⟩; subst he; have D := hide ((unhide D).keep hb); clear hb) | (with_reducible refine at_list ?_;  refine bd0 40 rfl rfl bWide0 ?_) | (with_reducible refine at_list ?_; apply stGend (unhide D) rWide _ _ rfl rfl rfl rfl (by repeat (first | exact List.mem_cons_self | apply List.mem_cons_of_mem)) (by omega) rfl rfl (cells8_one _); intro B O))
        exact resGT rWide (unhide B) rfl rfl rfl rfl rfl ⟨rfl, unhide O⟩
      · obtain rfl : k = 3 := by omega
        clear hr hk hm hk3
        have e := unhide hy rfl
        subst e
        clear hy hn
        go_upto_region 10 with fail
        have D1 : Gen w [(w.heap.size + 1 + 1, 40, cells8 (Wd 3)), (w.heap.size + 1, 40, bif false then cells8 (Wd 3) else z8)] wr := ⟨fun q hq => by
          simp only [List.mem_cons, List.not_mem_nil, or_false] at hq
          rcases hq with rfl | rfl
          · exact (unhide D).blk (g := w.heap.size + 1 + 1) (by repeat (first | exact List.mem_cons_self | apply List.mem_cons_of_mem))
          · exact (unhide D).blk (g := w.heap.size + 1) (by repeat (first | exact List.mem_cons_self | apply List.mem_cons_of_mem)), (unhide D).o⟩
        clear D
        refine region_planT (t := 4) (S := fun b u => Gen w [(w.heap.size + 1 + 1, 40, cells8 (Wd 3)), (w.heap.size + 1, 40, bif b then cells8 (Wd 3) else z8)] u) (l := [0, 1, 2, 3, 4, 5]) (by kernel_rfl) (by kernel_rfl) (by kernel_rfl) (by kernel_rfl) (by kernel_rfl) (by kernel_rfl) (by kernel_rfl) (by decide) D1.drew ?_
        refine planT_read (v := .agg (cells8 (Wd 3))) rfl (by decide) rfl (fun b u hS => exec_ldG hS rWide _ rfl rfl (by repeat (first | exact List.mem_cons_self | apply List.mem_cons_of_mem)) rfl) ?_
        go_simp
        refine planT_read (v := .agg (cells8 (Wd 3))) rfl (by decide) rfl (fun b u hS => exec_ldG hS rWide _ rfl rfl (by repeat (first | exact List.mem_cons_self | apply List.mem_cons_of_mem)) rfl) ?_
        go_simp
        refine planT_read (v := .agg (cells8 0)) rfl (by decide) rfl (fun b u hS => exec_build0 u 40 rfl bWide0) ?_
        go_simp
        refine planT_read (v := .bool (!z)) rfl (by decide) rfl (fun b u hS => exec_neq_wide_is (unhide hz) u _ _ rfl rfl rfl) ?_
        go_simp
        refine planT_store rfl rfl (fun u hS => ⟨_, exec_store8 (n := Wd 3) 40 (.tmp 2) (.tmp 31) (hS.blk (g := w.heap.size + 1) (t := 40) (cs := z8) (by repeat (first | exact List.mem_cons_self | apply List.mem_cons_of_mem))) rfl rfl rfl rfl iWide, ⟨fun k hk => ?_, below_row hS.o (by omega) _⟩⟩) ?_
        · simp only [List.mem_cons, List.not_mem_nil, or_false] at hk
          rcases hk with rfl | rfl
          · exact (hS.blk (g := w.heap.size + 1 + 1) (cs := cells8 (Wd 3)) (by repeat (first | exact List.mem_cons_self | apply List.mem_cons_of_mem))).rowOther _ (by omega)
          · exact (hS.blk (g := w.heap.size + 1) (t := 40) (cs := z8) (by repeat (first | exact List.mem_cons_self | apply List.mem_cons_of_mem))).row _
        go_simp
        refine planT_read (v := ?_) rfl (by decide) rfl (fun b u hS => by go_simp; rfl) ?_
        go_simp
        refine planT_end (fun u hS => ?_)
        have B := hide (hS.blk (g := w.heap.size + 1) (t := 40) (cs := cells8 (Wd 3)) (by repeat (first | exact List.mem_cons_self | apply List.mem_cons_of_mem)))
        have O := hide hS.o
        clear hS D1
        go_wp2
        exact resGT rWide (unhide B) rfl rfl rfl rfl rfl ⟨rfl, unhide O⟩

end Go.Proofs.Ytmnaffhlilnlhaa
