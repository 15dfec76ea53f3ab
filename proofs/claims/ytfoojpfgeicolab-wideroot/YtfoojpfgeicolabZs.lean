/- The law WideRoot, over whatever roots, products, sums, signs and comparisons: it returns true where the root is the root. -/
import Derived.Test.YtfoojpfgeicolabZn
import Derived.Deep.DeepCutAuto
namespace Go.Proofs.Ytfoojpfgeicolab
open Go.RowKit

/-- A law's numbers, in a world of at least so many blocks. -/
structure EnvB (w0 : World) (l : List (Nat × Nat)) (B : Nat) (w : World) : Prop where
  e : Env w0 l w
  s : B ≤ w.heap.size
theorem EnvB.keep {w0 w w' : World} {l : List (Nat × Nat)} {B : Nat} (d : EnvB w0 l B w) (hb : Below w.heap.size w w') : EnvB w0 l B w' := ⟨d.e.keep hb, Nat.le_trans d.s hb.size⟩
theorem Env.fill {w0 w : World} {l : List (Nat × Nat)} {B c n : Nat} {old : Array Value} (d : Env w0 l w) (hl : ∀ p ∈ l, p.1 < B) (h0 : w0.heap.size ≤ B) (hb : Blk w c 25 old) (hc : B ≤ c) : Env w0 ((c, n) :: l) (w.setRow c (cells8 n)) := by
  refine ⟨fun p hp => ?_, below_row d.o (by omega) _⟩
  rcases List.mem_cons.1 hp with e | hp
  · subst e; exact hb.row _
  · have := hl p hp
    exact (d.at_ p hp).rowOther _ (by omega)

set_option maxRecDepth 100000 in
set_option maxHeartbeats 4000000 in
theorem root_law (add mul : Nat → Nat → Nat) (addb mulb : Nat → Nat → Bool) (sq : Nat → Nat) (sqb : Nat → Bool) (sg : Nat → Int) (cm : Nat → Nat → Int) (one a : Nat) (w : World)
    (hAdd : Hid (∀ x y u, Calls Try.prog 9 #[W x, W y] u fun e w' => e = .returned (.tuple #[.agg (cells8 (add x y)), .bool (addb x y)]) ∧ Below u.heap.size u w'))
    (hMul : Hid (∀ x y u, Calls Try.prog 10 #[W x, W y] u fun e w' => e = .returned (.tuple #[.agg (cells8 (mul x y)), .bool (mulb x y)]) ∧ Below u.heap.size u w'))
    (hSq : Hid (∀ x u, Calls Try.prog 20 #[W x] u fun e w' => e = .returned (.tuple #[.agg (cells8 (sq x)), .bool (sqb x)]) ∧ Below u.heap.size u w'))
    (hSg : Hid (∀ x u, Calls Try.prog 17 #[W x] u fun e w' => e = .returned (.int .i64 (sg x)) ∧ Below u.heap.size u w'))
    (hCm : Hid (∀ x y u, Calls Try.prog 18 #[W x, W y] u fun e w' => e = .returned (.int .i64 (cm x y)) ∧ Below u.heap.size u w'))
    (hOf : Hid (∀ u, Calls Try.prog 19 #[.int .i64 1] u fun e w' => e = .returned (.agg (cells8 one)) ∧ Below u.heap.size u w'))
    (hAw : Hid (∀ u, Calls Try.prog 11 #[] u fun e w' => e = .returned (.bool true) ∧ Below u.heap.size u w'))
    (h1 : Hid (sqb a = false → sg a < 0 ∧ same (sq a) 0 = true))
    (h2 : Hid (sqb a = true → mulb (sq a) (sq a) = true ∧ addb (sq a) one = true ∧ 0 ≤ sg (sq a) ∧ cm (mul (sq a) (sq a)) a ≤ 0 ∧ (mulb (add (sq a) one) (add (sq a) one) = true → 0 < cm (mul (add (sq a) one) (add (sq a) one)) a))) :
    Calls Try.prog 6 #[W a] w fun e w' => e = .returned (.bool true) ∧ Below w.heap.size w w' := by
  go_enter Try.func6, Try.ntmps6
  go_upto_region 1 with fail
  have D := hide (Env.one w a)
  go_upto_region 2 with (first
    | (with_reducible refine at_list ?_; apply ldE (unhide D) _ rfl rfl rfl (by repeat (first | exact List.mem_cons_self | apply List.mem_cons_of_mem)))
    | (with_reducible refine at_list ?_; refine stE (unhide D) _ _ rfl rfl rfl rfl rfl ?_; intro D'; have D := hide D'; clear D')
    | (go_at_call 20; refine (unhide hSq _ _).mono ?_; rintro e w' ⟨he, hb⟩; subst he; have D := hide ((unhide D).keep hb); clear hb))
  generalize sqb a = E at h1 h2 ⊢
  cases E
  · obtain ⟨h11, h12⟩ := unhide h1 rfl
    have h13 := hide h12
    clear h12 h1 h2
    go_wp2_with (first
      | (with_reducible refine at_list ?_; apply ldE (unhide D) _ rfl rfl rfl (by repeat (first | exact List.mem_cons_self | apply List.mem_cons_of_mem)))
      | (with_reducible refine at_list ?_; apply ldEw (unhide D) _ rfl rfl rfl (by repeat (first | exact List.mem_cons_self | apply List.mem_cons_of_mem)))
      | (go_at_call 17; refine (unhide hSg _ _).mono ?_; rintro e w' ⟨he, hb⟩; subst he; have D := hide ((unhide D).keep hb); clear hb)
      | (go_at_call 11; refine (unhide hAw _).mono ?_; rintro e w' ⟨he, hb⟩; subst he; have D := hide ((unhide D).keep hb); clear hb)
      | (with_reducible refine at_list ?_; refine wpList_valuew rfl (exec_build0 _ 25 rfl bWide0) ?_)
      | (with_reducible refine at_list ?_; refine eqlEw (unhide h13) _ _ rfl rfl rfl rfl ?_))
    go_ret
    exact ⟨rfl, (unhide D).o⟩
  · obtain ⟨h21, h22, h23, h24, h25⟩ := unhide h2 rfl
    have H25 := hide h25
    clear h1 h2 h25
    go_upto_region 5 with (first
      | (with_reducible refine at_list ?_; apply ldE (unhide D) _ rfl rfl rfl (by repeat (first | exact List.mem_cons_self | apply List.mem_cons_of_mem)))
      | (with_reducible refine at_list ?_; refine stE (unhide D) _ _ rfl rfl rfl rfl rfl ?_; intro D'; have D := hide D'; clear D')
      | (go_at_call 10; refine (unhide hMul _ _ _).mono ?_; rintro e w' ⟨he, hb⟩; subst he; have D := hide ((unhide D).keep hb); clear hb))
    generalize sq a = r at *
    have D1 : Hid (EnvB w _ _ _) := ⟨(unhide D).drew, Nat.le_refl _⟩
    have hlt := hide (fun (p : Nat × Nat) hp => ((unhide D).at_ p hp).lt)
    have hw0 := hide (unhide D).o.size
    clear D
    have hds : (w'.alloc (.cells (cells8 (mul r r)) 25)).drew.heap.size = (w'.alloc (.cells (cells8 (mul r r)) 25)).heap.size := rfl
    rw [hds] at D1
    clear hds
    generalize (w'.alloc (.cells (cells8 (mul r r)) 25)).heap.size = B at D1 hlt hw0
    refine region_lazy (S := EnvB w _ B) (v := .bool (addb r one)) (ty := 25) (zs := #[.int .u64 0, .int .u64 0, .int .u64 0, .int .u64 0, .int .u64 0, .int .u64 0, .int .u64 0, .int .u64 0]) (base := B) (l := [0, 1, 2, 3, 4]) (A := [6]) (z := 5) (t := 7) (r := [8]) (by kernel_rfl) (by kernel_rfl) (by kernel_rfl) (by kernel_rfl) (by kernel_rfl) (by kernel_rfl) (by kernel_rfl) (by kernel_rfl) (by kernel_rfl) (by kernel_rfl) rfl rfl ?_ (fun _ _ h hb => h.keep hb) (fun _ h => h.s) (unhide D1) ?_
    · intro i hi
      simp at hi
      subst hi
      exact ⟨_, rfl, rfl, fun a w => by go_simp⟩
    clear D1
    refine planB_read rfl rfl (fun u hS => exec_load8 (n := r) 25 (.tmp 3) (hS.e.blk (by repeat (first | exact List.mem_cons_self | apply List.mem_cons_of_mem))) rfl rfl Try.underlying25 rfl iWide) ?_
    refine planB_call (v := .agg (cells8 one)) (f := 19) (args := #[.int .i64 1]) rfl rfl (fun u hS => by go_simp) (fun u hS => (unhide hOf u).mono fun _ _ ⟨he, hb⟩ => ⟨he, hS.keep hb, hb⟩) ?_
    go_simp
    refine planB_call (v := .tuple #[.agg (cells8 (add r one)), .bool (addb r one)]) (f := 9) (args := #[W r, W one]) rfl rfl (fun u hS => by go_simp) (fun u hS => (unhide hAdd _ _ u).mono fun _ _ ⟨he, hb⟩ => ⟨he, hS.keep hb, hb⟩) ?_
    go_simp
    refine planB_read (v := ?_) rfl rfl (fun u hS => by go_simp; rfl) ?_
    go_simp
    refine planB_read (v := ?_) rfl rfl (fun u hS => by go_simp; rfl) ?_
    go_simp
    refine planB_lazy rfl (fun u => by go_simp) rfl rfl (fun c u hS hB hI => ?_)
    have hB6 := hB 6 (by simp)
    clear hB hI
    simp only [pa, dstOf]
    generalize c 6 = c6 at hB6 ⊢
    have D := hide (hS.e.fill (n := add r one) (unhide hlt) (unhide hw0) hB6.1 hB6.2)
    refine ⟨_, exec_store8 (n := add r one) 25 (.tmp 7) (.tmp 39) hB6.1 rfl rfl rfl rfl iWide, ?_⟩
    clear hS hB6 hlt hw0
    generalize u.setRow c6 (cells8 (add r one)) = u1 at D ⊢
    simp only [opsOf]
    go_simp
    go_upto_region 7 with (first
      | (with_reducible refine at_list ?_; apply ldE (unhide D) _ rfl rfl rfl (by repeat (first | exact List.mem_cons_self | apply List.mem_cons_of_mem)))
      | (with_reducible refine at_list ?_; refine stE (unhide D) _ _ rfl rfl rfl rfl rfl ?_; intro D'; have D := hide D'; clear D')
      | (go_at_call 10; refine (unhide hMul _ _ _).mono ?_; rintro e w' ⟨he, hb⟩; subst he; have D := hide ((unhide D).keep hb); clear hb))
    try rw [h21]
    try rw [h22]
    generalize mulb (add r one) (add r one) = G at H25 ⊢
    cases G
    · go_wp2_with (first
        | (with_reducible refine at_list ?_; apply ldE (unhide D) _ rfl rfl rfl (by repeat (first | exact List.mem_cons_self | apply List.mem_cons_of_mem)))
        | (with_reducible refine at_list ?_; apply ldEw (unhide D) _ rfl rfl rfl (by repeat (first | exact List.mem_cons_self | apply List.mem_cons_of_mem)))
        | (go_at_call 17; refine (unhide hSg _ _).mono ?_; rintro e w' ⟨he, hb⟩; subst he; have D := hide ((unhide D).keep hb); clear hb)
        | (go_at_call 18; refine (unhide hCm _ _ _).mono ?_; rintro e w' ⟨he, hb⟩; subst he; have D := hide ((unhide D).keep hb); clear hb)
        | (go_at_call 11; refine (unhide hAw _).mono ?_; rintro e w' ⟨he, hb⟩; subst he; have D := hide ((unhide D).keep hb); clear hb))
      go_ret
      exact ⟨rfl, (unhide D).o⟩
    · have h26 := unhide H25 rfl
      go_wp2_with (first
        | (with_reducible refine at_list ?_; apply ldE (unhide D) _ rfl rfl rfl (by repeat (first | exact List.mem_cons_self | apply List.mem_cons_of_mem)))
        | (with_reducible refine at_list ?_; apply ldEw (unhide D) _ rfl rfl rfl (by repeat (first | exact List.mem_cons_self | apply List.mem_cons_of_mem)))
        | (go_at_call 17; refine (unhide hSg _ _).mono ?_; rintro e w' ⟨he, hb⟩; subst he; have D := hide ((unhide D).keep hb); clear hb)
        | (go_at_call 18; refine (unhide hCm _ _ _).mono ?_; rintro e w' ⟨he, hb⟩; subst he; have D := hide ((unhide D).keep hb); clear hb)
        | (go_at_call 11; refine (unhide hAw _).mono ?_; rintro e w' ⟨he, hb⟩; subst he; have D := hide ((unhide D).keep hb); clear hb))
      go_ret
      exact ⟨rfl, (unhide D).o⟩

end Go.Proofs.Ytfoojpfgeicolab
