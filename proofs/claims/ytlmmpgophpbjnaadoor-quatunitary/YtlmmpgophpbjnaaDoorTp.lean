/- Package quat's laws: nearOne, squares. -/
import Derived.Test.YtlmmpgophpbjnaaDoorTo
namespace Go.Proofs.YtlmmpgophpbjnaaDoor
open Go.RowKit
set_option maxRecDepth 4000
set_option linter.unusedVariables false

set_option maxHeartbeats 2000000 in
theorem nearOne_29 (S I O' W' D1 D2 : Nat) (c1 c2 : Int) (E : Bool) (w : World) (hL1 : decide (c1 ≤ 0) = true) (hL2 : decide (c2 ≤ 0) = true) (hI : Hid (Ans 46 #[.int .i64 1] (.agg (cells8 I)))) (hA : Hid (Ans 48 #[.agg (cells8 I), .int .i64 64] (.tuple #[.agg (cells8 O'), .bool E]))) (hB : Hid (Ans 48 #[.agg (cells8 I), .int .i64 (64 - 29)] (.tuple #[.agg (cells8 W'), .bool E])))
    (hM : Hid (Ans 49 #[.agg (cells8 S), .agg (cells8 O')] (.tuple #[.agg (cells8 D1), .bool E]))) (hN : Hid (Ans 50 #[.agg (cells8 D1)] (.tuple #[.agg (cells8 D2), .bool E]))) (hC1 : Hid (Ans 51 #[.agg (cells8 D1), .agg (cells8 W')] (.int .i64 c1))) (hC2 : Hid (Ans 51 #[.agg (cells8 D2), .agg (cells8 W')] (.int .i64 c2))) :
    Calls Tryd.prog 18 #[.agg (cells8 S), .int .i64 29] w fun e w' => e = .returned (.bool true) ∧ Below w.heap.size w w' := by
  simp only [Int.reduceSub] at hB
  go_enter Tryd.func18, Tryd.ntmps18
  go_upto_region 1 with fail
  have D := hide ((Gen.start w).push 42 (cells8 S))
  go_wp2_with (first | (with_reducible refine at_list ?_; apply ldG (unhide D) rWide _ rfl rfl rfl (by repeat (first | exact List.mem_cons_self | apply List.mem_cons_of_mem)) rfl) | (with_reducible refine at_list ?_; apply ldGw (unhide D) rWide _ rfl rfl rfl (by repeat (first | exact List.mem_cons_self | apply List.mem_cons_of_mem)) rfl) | (go_at_call 46; with_reducible refine (unhide hI _).mono ?_; rintro e w' ⟨he, hb⟩; subst he; have D := hide ((unhide D).keep hb); clear hb) | (go_at_call 48; with_reducible refine (unhide hA _).mono ?_; rintro e w' ⟨he, hb⟩; subst he; have D := hide ((unhide D).keep hb); clear hb) | (go_at_call 48; with_reducible refine (unhide hB _).mono ?_; rintro e w' ⟨he, hb⟩; subst he; have D := hide ((unhide D).keep hb); clear hb) | (go_at_call 49; with_reducible refine (unhide hM _).mono ?_; rintro e w' ⟨he, hb⟩; subst he; have D := hide ((unhide D).keep hb); clear hb) | (go_at_call 50; with_reducible refine (unhide hN _).mono ?_; rintro e w' ⟨he, hb⟩; subst he; have D := hide ((unhide D).keep hb); clear hb) | (with_reducible refine at_list ?_; refine stG (unhide D) rWide _ _ rfl rfl rfl rfl rfl rfl (cells8_one _) ?_; intro D'; have D := hide D'; clear D') | (go_at_call 51; with_reducible refine (unhide hC1 _).mono ?_; rintro e w' ⟨he, hb⟩; subst he; have D := hide ((unhide D).keep hb); clear hb) | (go_at_call 51; with_reducible refine (unhide hC2 _).mono ?_; rintro e w' ⟨he, hb⟩; subst he; have D := hide ((unhide D).keep hb); clear hb) | (with_reducible refine at_list ?_;  refine leqZ _ _ hL1 rfl rfl rfl rfl ?_) | (with_reducible refine at_list ?_;  refine leqZw _ _ hL2 rfl rfl rfl rfl ?_))
  go_ret
  exact ⟨rfl, (unhide D).o⟩
set_option maxHeartbeats 2000000 in
theorem nearOne_30 (S I O' W' D1 D2 : Nat) (c1 c2 : Int) (E : Bool) (w : World) (hL1 : decide (c1 ≤ 0) = true) (hL2 : decide (c2 ≤ 0) = true) (hI : Hid (Ans 46 #[.int .i64 1] (.agg (cells8 I)))) (hA : Hid (Ans 48 #[.agg (cells8 I), .int .i64 64] (.tuple #[.agg (cells8 O'), .bool E]))) (hB : Hid (Ans 48 #[.agg (cells8 I), .int .i64 (64 - 30)] (.tuple #[.agg (cells8 W'), .bool E])))
    (hM : Hid (Ans 49 #[.agg (cells8 S), .agg (cells8 O')] (.tuple #[.agg (cells8 D1), .bool E]))) (hN : Hid (Ans 50 #[.agg (cells8 D1)] (.tuple #[.agg (cells8 D2), .bool E]))) (hC1 : Hid (Ans 51 #[.agg (cells8 D1), .agg (cells8 W')] (.int .i64 c1))) (hC2 : Hid (Ans 51 #[.agg (cells8 D2), .agg (cells8 W')] (.int .i64 c2))) :
    Calls Tryd.prog 18 #[.agg (cells8 S), .int .i64 30] w fun e w' => e = .returned (.bool true) ∧ Below w.heap.size w w' := by
  simp only [Int.reduceSub] at hB
  go_enter Tryd.func18, Tryd.ntmps18
  go_upto_region 1 with fail
  have D := hide ((Gen.start w).push 42 (cells8 S))
  go_wp2_with (first | (with_reducible refine at_list ?_; apply ldG (unhide D) rWide _ rfl rfl rfl (by repeat (first | exact List.mem_cons_self | apply List.mem_cons_of_mem)) rfl) | (with_reducible refine at_list ?_; apply ldGw (unhide D) rWide _ rfl rfl rfl (by repeat (first | exact List.mem_cons_self | apply List.mem_cons_of_mem)) rfl) | (go_at_call 46; with_reducible refine (unhide hI _).mono ?_; rintro e w' ⟨he, hb⟩; subst he; have D := hide ((unhide D).keep hb); clear hb) | (go_at_call 48; with_reducible refine (unhide hA _).mono ?_; rintro e w' ⟨he, hb⟩; subst he; have D := hide ((unhide D).keep hb); clear hb) | (go_at_call 48; with_reducible refine (unhide hB _).mono ?_; rintro e w' ⟨he, hb⟩; subst he; have D := hide ((unhide D).keep hb); clear hb) | (go_at_call 49; with_reducible refine (unhide hM _).mono ?_; rintro e w' ⟨he, hb⟩; subst he; have D := hide ((unhide D).keep hb); clear hb) | (go_at_call 50; with_reducible refine (unhide hN _).mono ?_; rintro e w' ⟨he, hb⟩; subst he; have D := hide ((unhide D).keep hb); clear hb) | (with_reducible refine at_list ?_; refine stG (unhide D) rWide _ _ rfl rfl rfl rfl rfl rfl (cells8_one _) ?_; intro D'; have D := hide D'; clear D') | (go_at_call 51; with_reducible refine (unhide hC1 _).mono ?_; rintro e w' ⟨he, hb⟩; subst he; have D := hide ((unhide D).keep hb); clear hb) | (go_at_call 51; with_reducible refine (unhide hC2 _).mono ?_; rintro e w' ⟨he, hb⟩; subst he; have D := hide ((unhide D).keep hb); clear hb) | (with_reducible refine at_list ?_;  refine leqZ _ _ hL1 rfl rfl rfl rfl ?_) | (with_reducible refine at_list ?_;  refine leqZw _ _ hL2 rfl rfl rfl rfl ?_))
  go_ret
  exact ⟨rfl, (unhide D).o⟩
theorem slFix : Tryd.prog.underlying 44 = some (.slice (Tryd.prog.elem 44)) := by kernel_rfl
theorem elFix : (Tryd.prog.info? (Tryd.prog.elem 44)).map (·.size) = some 1 := by kernel_rfl
theorem exec_ixS {o : Oper} {a : Act} (w : World) {g k n : Nat} (x y : Operand) (hk : k < n) (ho : o.op = .indexAddr 44 x y) (hx : a.eval x = .slice (some ⟨g, 0, none⟩) n n) (hy : a.eval y = .int .i64 k) : (execOp a.eval o).run Tryd.prog w = .ok (.value (.pointer (some ⟨g, k, none⟩))) w := by
  unfold execOp
  simp only [ho, hx, hy, Sem.run_bind, run_indexAt_slice w _ _ _ _ _ _ slFix]
  rw [if_pos ⟨by omega, by omega⟩, run_sizeOf elFix]
  simp only [Result.andThen_ok, Sem.run_pure, Addr.add_mid, Int.toNat_natCast, Nat.zero_add, Nat.mul_one]
set_option maxHeartbeats 4000000 in
theorem squares_core (n p : Nat) (xs : Nat → Int) (os ms ss : Nat → Nat) (w : World) (hn : n ≤ 8) (hp : p < w.heap.size) (h0 : Hid (ss 0 = 0)) (hR : Hid (∀ k, k < n → w.cell? ⟨p, k, none⟩ = some (.int .i64 (xs k))))
    (hO : Hid (∀ k, k < n → Ans 46 #[.int .i64 (xs k)] (.agg (cells8 (os k))))) (hM : Hid (∀ k, k < n → Ans 45 #[.agg (cells8 (os k)), .agg (cells8 (os k))] (.tuple #[.agg (cells8 (ms k)), .bool true]))) (hA : Hid (∀ k, k < n → Ans 47 #[.agg (cells8 (ss k)), .agg (cells8 (ms k))] (.tuple #[.agg (cells8 (ss (k + 1))), .bool true]))) :
    Calls Tryd.prog 16 #[.slice (some ⟨p, 0, none⟩) n n] w fun e w' => e = .returned (.agg (cells8 (ss n))) ∧ Below w.heap.size w w' := by
  go_enter Tryd.func16, Tryd.ntmps16
  go_upto_region 2 with fail
  have D := hide (((Gen.start w).push 42 z8).push 42 z8)
  simp only [szA] at D
  generalize hgz : ((w.alloc (.cells z8 42)).alloc (.cells z8 42)) = w1 at D ⊢
  clear hgz
  rw [show z8 = cells8 0 from cells8_0.symm] at D
  go_wp2_with fail
  go_loopw [4] (fun i wr => ∃ k : Nat, k ≤ n ∧ i = .int .i64 k ∧ Hid (Gen w [(w.heap.size + 1, 42, cells8 (ss k)), (w.heap.size, 42, cells8 0)] wr)) (fun i _ => n - (intOf i).toNat)
  case atStart => exact ⟨0, by omega, rfl, by rw [unhide h0]; exact D⟩
  case round =>
    obtain ⟨k, hk, rfl, hD⟩ := hrel
    by_cases hkn : k < n
    · have hg : (k : Int) < n := by omega
      have Rk := hide (unhide hR k hkn)
      have Ok := hide (unhide hO k hkn)
      have Mk := hide (unhide hM k hkn)
      have Ak := hide (unhide hA k hkn)
      clear hR hO hM hA D
      have D := hD
      clear hD
      go_upto_region 5 with fail
      have D1 : Hid (GenZ w _ wr.heap.size wr.drew) := ⟨(unhide D).drew, Nat.le_refl _⟩
      have hlt := hide (fun (p : Nat × TypeId × Array Value) hp => ((unhide D).at_ p hp).lt)
      have hw0 := hide (unhide D).o.size
      clear D
      generalize wr.heap.size = C at D1 hlt hw0
      refine region_lazy (S := GenZ w _ C) (v := .bool true) (ty := 42) (zs := z8) (base := C) (l := [0, 1, 2, 3, 4, 5, 6, 7, 8, 9, 10, 11, 12]) (A := [14]) (z := 13) (t := 15) (r := [16]) (by kernel_rfl) (by kernel_rfl) (by kernel_rfl) (by kernel_rfl) (by kernel_rfl) (by kernel_rfl) (by kernel_rfl) (by kernel_rfl) (by kernel_rfl) (by kernel_rfl) rfl rfl ?_ (fun _ _ h hb => h.keep hb) (fun _ h => h.s) (unhide D1) ?_
      · intro i hi
        simp at hi
        subst hi
        exact ⟨_, rfl, rfl, fun a w => by go_simp⟩
      clear D1
      refine planB_read (v := ?_) rfl rfl (fun u hS => by go_simp; rfl) ?_
      go_simp
      refine planB_read (v := ?_) rfl rfl (fun u hS => by go_simp; rfl) ?_
      go_simp
      refine planB_read (v := .pointer (some ⟨p, k, none⟩)) rfl rfl (fun u hS => exec_ixS u (.tmp 16) (.tmp 17) (show k < n from hkn) rfl rfl rfl) ?_
      go_simp
      refine planB_read (v := .int .i64 (xs k)) rfl rfl (fun u hS => exec_loadF (.tmp 18) rfl rfl ((hS.e.o.cell (p := ⟨p, k, none⟩) hp).trans (unhide Rk))) ?_
      go_simp
      refine planB_call (v := .agg (cells8 (os k))) (f := 46) (args := #[.int .i64 (xs k)]) rfl rfl (fun u hS => by go_simp) (fun u hS => (unhide Ok u).mono fun _ _ ⟨he, hb⟩ => ⟨he, hS.keep hb, hb⟩) ?_
      go_simp
      refine planB_read (v := ?_) rfl rfl (fun u hS => by go_simp; rfl) ?_
      go_simp
      refine planB_read (v := ?_) rfl rfl (fun u hS => by go_simp; rfl) ?_
      go_simp
      refine planB_read (v := .pointer (some ⟨p, k, none⟩)) rfl rfl (fun u hS => exec_ixS u (.tmp 21) (.tmp 22) (show k < n from hkn) rfl rfl rfl) ?_
      go_simp
      refine planB_read (v := .int .i64 (xs k)) rfl rfl (fun u hS => exec_loadF (.tmp 23) rfl rfl ((hS.e.o.cell (p := ⟨p, k, none⟩) hp).trans (unhide Rk))) ?_
      go_simp
      refine planB_call (v := .agg (cells8 (os k))) (f := 46) (args := #[.int .i64 (xs k)]) rfl rfl (fun u hS => by go_simp) (fun u hS => (unhide Ok u).mono fun _ _ ⟨he, hb⟩ => ⟨he, hS.keep hb, hb⟩) ?_
      go_simp
      refine planB_call (v := .tuple #[.agg (cells8 (ms k)), .bool true]) (f := 45) (args := #[.agg (cells8 (os k)), .agg (cells8 (os k))]) rfl rfl (fun u hS => by go_simp) (fun u hS => (unhide Mk u).mono fun _ _ ⟨he, hb⟩ => ⟨he, hS.keep hb, hb⟩) ?_
      go_simp
      refine planB_read (v := ?_) rfl rfl (fun u hS => by go_simp; rfl) ?_
      go_simp
      refine planB_read (v := ?_) rfl rfl (fun u hS => by go_simp; rfl) ?_
      go_simp
      refine planB_lazy rfl (fun u => by go_simp) rfl rfl (fun cc u hS hB hI2 => ?_)
      have hB7 := hB 14 (by simp)
      clear hB hI2
      simp only [pa, dstOf]
      generalize cc 14 = c7 at hB7 ⊢
      have D := hide (hS.e.fillZ (cs := cells8 (ms k)) (unhide hlt) (unhide hw0) hB7.1 hB7.2)
      refine ⟨_, exec_store8 (n := ms k) 42 (.tmp 5) (.tmp 27) hB7.1 rfl rfl rfl rfl iWide, ?_⟩
      clear hS hB7 hlt hw0 Rk Ok Mk
      generalize u.setRow c7 (cells8 (ms k)) = u1 at D ⊢
      simp only [opsOf]
      go_simp
      go_upto_region 7 with (first | (with_reducible refine at_list ?_; apply ldG (unhide D) rWide _ rfl rfl rfl (by repeat (first | exact List.mem_cons_self | apply List.mem_cons_of_mem)) rfl) | (go_at_call 47; with_reducible refine (unhide Ak _).mono ?_; rintro e w' ⟨he, hb⟩; subst he; have D := hide ((unhide D).keep hb); clear hb) | (with_reducible refine at_list ?_; refine stG (unhide D) rWide _ _ rfl rfl rfl rfl rfl rfl (cells8_one _) ?_; intro D'; have D := hide D'; clear D'))
      clear Ak
      go_upto_region 4 with (first | (with_reducible refine at_list ?_; apply ldG (unhide D) rWide _ rfl rfl rfl (by repeat (first | exact List.mem_cons_self | apply List.mem_cons_of_mem)) rfl) | (with_reducible refine at_list ?_;  have B3 := hide ((unhide D).blk (g := w.heap.size + 1) (t := 42) (cs := cells8 (ss k)) (by repeat (first | exact List.mem_cons_self | apply List.mem_cons_of_mem))); have B2 := hide ((unhide D).blk (g := w.heap.size) (t := 42) (cs := cells8 0) (by repeat (first | exact List.mem_cons_self | apply List.mem_cons_of_mem))); have O3 := hide (unhide D).o; refine st8 (n := ss (k + 1)) 42 (.tmp 3) (.tmp 35) (unhide B3) rfl rfl rfl rfl rfl iWide ?_))
      have D := hide (Gen.pair ((unhide B3).row (cells8 (ss (k + 1)))) ((unhide B2).rowOther (cells8 (ss (k + 1))) (by omega)) (below_row (unhide O3) (show w.heap.size ≤ w.heap.size + 1 by omega) (cells8 (ss (k + 1)))))
      clear B2 B3 O3
      go_wp2
      go_roundw
      case rel => exact ⟨k + 1, by omega, by go_num, D⟩
      case measure => simp [intOf]; omega
    · obtain rfl : k = n := by omega
      have D := hD
      clear hD hR hO hM hA
      go_wp2_with (first | (with_reducible refine at_list ?_; apply ldG (unhide D) rWide _ rfl rfl rfl (by repeat (first | exact List.mem_cons_self | apply List.mem_cons_of_mem)) rfl) | (with_reducible refine at_list ?_; apply stGend (unhide D) rWide _ _ rfl rfl rfl rfl (by repeat (first | exact List.mem_cons_self | apply List.mem_cons_of_mem)) (by omega) rfl rfl (cells8_one _); intro B O))
      exact resG rWide (unhide B) rfl rfl rfl rfl ⟨rfl, unhide O⟩

end Go.Proofs.YtlmmpgophpbjnaaDoor
