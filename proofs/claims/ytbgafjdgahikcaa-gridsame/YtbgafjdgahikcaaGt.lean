/- The law GridSame. -/
import Derived.Test.YtbgafjdgahikcaaAg
import Derived.Test.YtbgafjdgahikcaaAm
import Derived.Test.YtbgafjdgahikcaaHf
namespace Go.Proofs.Ytbgafjdgahikcaa
open Go.RowKit
set_option maxRecDepth 4000
set_option linter.unusedVariables false

/-- Two blocks that were made anew, filled. -/
theorem szD (w : World) : w.drew.heap.size = w.heap.size := rfl
theorem Gen.twoG {w0 u : World} {l : List (Nat × TypeId × Array Value)} {C g h : Nat} {t : TypeId} {z0 x y : Array Value} (d : Gen w0 l u) (hlt : ∀ p ∈ l, p.1 < C) (hw : w0.heap.size ≤ C) (b1 : Blk u g t z0) (b2 : Blk u h t z0) (k1 : C ≤ g) (k2 : C ≤ h) (hne : g ≠ h) :
    Gen w0 ((g, t, x) :: (h, t, y) :: l) ((u.setRow g x).setRow h y) := by
  refine ⟨fun p hp => ?_, below_row (below_row d.o (by omega) _) (by omega) _⟩
  rcases List.mem_cons.1 hp with e | hp
  · subst e; exact (b1.row _).rowOther _ hne
  rcases List.mem_cons.1 hp with e | hp
  · subst e; exact (b2.rowOther _ (Ne.symm hne)).row _
  · have := hlt p hp
    exact ((d.at_ p hp).rowOther _ (by omega)).rowOther _ (by omega)
theorem Gen.rowIn {w0 u : World} {l : List (Nat × TypeId × Array Value)} {g : Nat} (d : Gen w0 l u) (hne : ∀ p ∈ l, p.1 ≠ g) (hg : w0.heap.size ≤ g) (cs : Array Value) : Gen w0 l (u.setRow g cs) :=
  ⟨fun p hp => (d.at_ p hp).rowOther _ (hne p hp), below_row d.o hg _⟩
theorem Gen.more {w0 u : World} {l : List (Nat × TypeId × Array Value)} {g h : Nat} {t s : TypeId} {x y : Array Value} (d : Gen w0 l u) (b1 : Blk u g t x) (b2 : Blk u h s y) : Gen w0 ((g, t, x) :: (h, s, y) :: l) u := by
  refine ⟨fun p hp => ?_, d.o⟩
  rcases List.mem_cons.1 hp with e | hp
  · subst e; exact b1
  rcases List.mem_cons.1 hp with e | hp
  · subst e; exact b2
  · exact d.at_ p hp
set_option maxHeartbeats 8000000 in
theorem same_law0 (X Y Z P Q R K L : Nat) (s0 : Int) (w : World) (h1 : Hid (Ans 41 #[.agg (c24 X Y Z)] (.tuple #[.agg (c24 P Q R), .bool true]))) (h2 : Hid (Ans 41 #[.agg (c24 P Q R)] (.tuple #[.agg (c24 P Q R), .bool true]))) (sE : same3 P Q R P Q R = true) (sP : Hid (Ans 46 #[.agg (cells8 P)] (.int .i64 s0))) (q0 : Hid ((s0 == 0) = false))
    (hD : Hid (Ans 50 #[.agg (cells8 X), .agg (cells8 P)] (.tuple #[.agg (cells8 K), .agg (cells8 L), .bool true]))) (sL : Hid (Ans 46 #[.agg (cells8 L)] (.int .i64 0))) (sK : Hid (Ans 46 #[.agg (cells8 K)] (.int .i64 1)))
    (t1 : Hid (Ans 45 #[.agg (cells8 K), .agg (cells8 P)] (.agg (cells8 X)))) (t2 : Hid (Ans 45 #[.agg (cells8 K), .agg (cells8 Q)] (.agg (cells8 Y)))) (t3 : Hid (Ans 45 #[.agg (cells8 K), .agg (cells8 R)] (.agg (cells8 Z)))) (eX : same X X = true) (eY : same Y Y = true) (eZ : same Z Z = true) (haw : Hid (Ans 28 #[] (.bool true))) :
    Calls Try.prog 11 #[.agg (c24 X Y Z)] w fun e w' => e = .returned (.bool true) ∧ Below w.heap.size w w' := by
  go_enter Try.func11, Try.ntmps11
  go_upto_region 1 with fail
  have D := hide ((Gen.start w).push 43 (c24 X Y Z))
  go_upto_region 2 with (first | (with_reducible refine at_list ?_; apply ldG (unhide D) rSpan _ rfl rfl rfl (by repeat (first | exact List.mem_cons_self | apply List.mem_cons_of_mem)) rfl) | (go_at_call 41; with_reducible refine (unhide h1 _).mono ?_; rintro e w' ⟨he, hb⟩; subst he; have D := hide ((unhide D).keep hb); clear hb) | (with_reducible refine at_list ?_; refine stG (unhide D) rSpan _ _ rfl rfl rfl rfl rfl rfl (c24_one _ _ _) ?_; intro D'; have D := hide D'; clear D'))
  obtain ⟨g3, hg3⟩ : ∃ g, g = w'.heap.size := ⟨_, rfl⟩
  rw [← hg3] at D ⊢
  generalize w'.alloc (.cells (c24 P Q R) 43) = w2 at D ⊢
  clear hg3
  go_upto_region 7 with (first | (with_reducible refine at_list ?_; apply ldG (unhide D) rSpan _ rfl rfl rfl (by repeat (first | exact List.mem_cons_self | apply List.mem_cons_of_mem)) rfl) | (with_reducible refine at_list ?_; apply ldGw (unhide D) rSpan _ rfl rfl rfl (by repeat (first | exact List.mem_cons_self | apply List.mem_cons_of_mem)) rfl) | (go_at_call 41; with_reducible refine (unhide h2 _).mono ?_; rintro e w' ⟨he, hb⟩; subst he; have D := hide ((unhide D).keep hb); clear hb) | (with_reducible refine at_list ?_; refine stG (unhide D) rSpan _ _ rfl rfl rfl rfl rfl rfl (c24_one _ _ _) ?_; intro D'; have D := hide D'; clear D') | (with_reducible refine at_list ?_;  refine neqNw _ _ _ sE rfl rfl rfl rfl ?_))
  have D := hide (unhide D).tail
  generalize hw1 : w'.alloc (.cells (c24 P Q R) 43) = w1 at D ⊢
  have hlt := hide (fun (p : Nat × TypeId × Array Value) hp => ((unhide D).at_ p hp).lt)
  have hw0 := hide (unhide D).o.size
  clear hw1
  apply share3 (H := fun c7 c8 u0 => Hid (Gen w [(c7, 40, cells8 X), (c8, 40, cells8 P), (g3, 43, c24 P Q R), (w.heap.size, 43, c24 X Y Z)] u0) ∧ (g3 ≠ c7 ∧ w.heap.size ≠ c7 ∧ g3 ≠ c8 ∧ w.heap.size ≠ c8) ∧ w.heap.size ≤ c7 ∧ w.heap.size ≤ c8 ∧ c7 ≠ c8)
  · intro rest
    have D0 := (unhide D).drew
    have hg3 : g3 < w1.heap.size := unhide hlt (g3, 43, c24 P Q R) (by repeat (first | exact List.mem_cons_self | apply List.mem_cons_of_mem))
    have hg0 : w.heap.size < w1.heap.size := unhide hlt (w.heap.size, 43, c24 X Y Z) (by repeat (first | exact List.mem_cons_self | apply List.mem_cons_of_mem))
    refine region_fam (S := Gen w [(g3, 43, c24 P Q R), (w.heap.size, 43, c24 X Y Z)]) (F := [[0, 1, 2, 3, 4, 5, 6, 7], [0, 1, 2, 3, 5, 4, 6, 7]]) (t := [4, 5, 6, 7]) (by kernel_rfl) (by kernel_rfl) (by kernel_rfl) (by kernel_rfl) (by kernel_rfl) ?_ D0 ?_
    · intro j o a w hj ho
      have hj' : j = 4 ∨ j = 5 ∨ j = 6 ∨ j = 7 := by simpa using hj
      rcases hj' with rfl | rfl | rfl | rfl
      · cases ho; exact ne_alloc rfl a w
      · cases ho; exact ne_alloc rfl a w
      · cases ho; exact ne_store rfl a w
      · cases ho; exact ne_store rfl a w
    have E1 := D0.push 40 z8
    have E2 := E1.push 40 z8
    simp only [szA] at E2
    have b0 := E2.blk (g := w1.drew.heap.size) (t := 40) (cs := z8) (by repeat (first | exact List.mem_cons_self | apply List.mem_cons_of_mem))
    have b1 := E2.blk (g := w1.drew.heap.size + 1) (t := 40) (cs := z8) (by repeat (first | exact List.mem_cons_self | apply List.mem_cons_of_mem))
    intro l hl
    rcases List.mem_cons.1 hl with rfl | hl
    · refine walk_read (v := ?_) rfl rfl rfl (fun u hS => by go_simp; rfl) ?_
      go_simp
      refine walk_read (v := .agg (cells8 X)) rfl rfl rfl (fun u hS => exec_mid _ rfl rfl (range_x (hS.blk (cs := c24 X Y Z) (by repeat (first | exact List.mem_cons_self | apply List.mem_cons_of_mem))))) ?_
      go_simp
      refine walk_read (v := ?_) rfl rfl rfl (fun u hS => by go_simp; rfl) ?_
      go_simp
      refine walk_read (v := .agg (cells8 P)) rfl rfl rfl (fun u hS => exec_mid _ rfl rfl (range_x (hS.blk (cs := c24 P Q R) (by repeat (first | exact List.mem_cons_self | apply List.mem_cons_of_mem))))) ?_
      go_simp
      refine walk_turn (v := ptr w1.drew.heap.size) (w' := w1.drew.alloc (.cells z8 40)) rfl rfl rfl (by go_simp) E1.tail ?_
      go_simp
      refine walk_turn (v := ptr (w1.drew.heap.size + 1)) (w' := (w1.drew.alloc (.cells z8 40)).alloc (.cells z8 40)) rfl rfl rfl (by go_simp) E2.tail.tail ?_
      go_simp
      have x7 := E2.tail.tail.rowIn (g := w1.drew.heap.size) (fun p hp => by simp only [List.mem_cons, List.not_mem_nil, or_false] at hp; rcases hp with rfl | rfl; exact Nat.ne_of_lt (show g3 < _ by simp only [szD]; omega); exact Nat.ne_of_lt (show w.heap.size < _ by simp only [szD]; omega)) (by simp only [szD]; omega) (cells8 X)
      refine walk_store rfl rfl rfl (exec_store8 (n := X) 40 (.tmp 7) (.tmp 38) b0 rfl rfl rfl rfl iWide) x7 ?_
      go_simp
      have x8 := x7.rowIn (g := w1.drew.heap.size + 1) (fun p hp => by simp only [List.mem_cons, List.not_mem_nil, or_false] at hp; rcases hp with rfl | rfl; exact Nat.ne_of_lt (show g3 < _ by simp only [szD]; omega); exact Nat.ne_of_lt (show w.heap.size < _ by simp only [szD]; omega)) (by simp only [szD]; omega) (cells8 P)
      refine walk_store rfl rfl rfl (exec_store8 (n := P) 40 (.tmp 8) (.tmp 40) (b1.rowOther (k := w1.drew.heap.size) (cells8 X) (by omega)) rfl rfl rfl rfl iWide) x8 ?_
      go_simp
      refine walk_end ?_
      have F : Hid (Gen w [(w1.heap.size, 40, cells8 X), (w1.heap.size + 1, 40, cells8 P), (g3, 43, c24 P Q R), (w.heap.size, 43, c24 X Y Z)] ((((w1.alloc (.cells z8 40)).alloc (.cells z8 40)).drew.setRow w1.heap.size (cells8 X)).setRow (w1.heap.size + 1) (cells8 P))) ∧ (g3 ≠ w1.heap.size ∧ w.heap.size ≠ w1.heap.size ∧ g3 ≠ w1.heap.size + 1 ∧ w.heap.size ≠ w1.heap.size + 1) ∧ w.heap.size ≤ w1.heap.size ∧ w.heap.size ≤ w1.heap.size + 1 ∧ w1.heap.size ≠ w1.heap.size + 1 :=
        ⟨hide (x8.more ((b0.row (cells8 X)).rowOther (k := w1.drew.heap.size + 1) (cells8 P) (by omega)) ((b1.rowOther (k := w1.drew.heap.size) (cells8 X) (by omega)).row (cells8 P))), ⟨by omega, by omega, by omega, by omega⟩, by omega, by omega, by omega⟩
      clear E1 E2 b0 b1 x7 x8
      generalize (((w1.alloc (.cells z8 40)).alloc (.cells z8 40)).drew.setRow w1.heap.size (cells8 X)).setRow (w1.heap.size + 1) (cells8 P) = u0 at F ⊢
      generalize w1.heap.size + 1 = c8 at F ⊢
      generalize w1.heap.size = c7 at F ⊢
      exact rest c7 c8 u0 F
    rcases List.mem_cons.1 hl with rfl | hl
    · refine walk_read (v := ?_) rfl rfl rfl (fun u hS => by go_simp; rfl) ?_
      go_simp
      refine walk_read (v := .agg (cells8 X)) rfl rfl rfl (fun u hS => exec_mid _ rfl rfl (range_x (hS.blk (cs := c24 X Y Z) (by repeat (first | exact List.mem_cons_self | apply List.mem_cons_of_mem))))) ?_
      go_simp
      refine walk_read (v := ?_) rfl rfl rfl (fun u hS => by go_simp; rfl) ?_
      go_simp
      refine walk_read (v := .agg (cells8 P)) rfl rfl rfl (fun u hS => exec_mid _ rfl rfl (range_x (hS.blk (cs := c24 P Q R) (by repeat (first | exact List.mem_cons_self | apply List.mem_cons_of_mem))))) ?_
      go_simp
      refine walk_turn (v := ptr w1.drew.heap.size) (w' := w1.drew.alloc (.cells z8 40)) rfl rfl rfl (by go_simp) E1.tail ?_
      go_simp
      refine walk_turn (v := ptr (w1.drew.heap.size + 1)) (w' := (w1.drew.alloc (.cells z8 40)).alloc (.cells z8 40)) rfl rfl rfl (by go_simp) E2.tail.tail ?_
      go_simp
      have x7 := E2.tail.tail.rowIn (g := w1.drew.heap.size + 1) (fun p hp => by simp only [List.mem_cons, List.not_mem_nil, or_false] at hp; rcases hp with rfl | rfl; exact Nat.ne_of_lt (show g3 < _ by simp only [szD]; omega); exact Nat.ne_of_lt (show w.heap.size < _ by simp only [szD]; omega)) (by simp only [szD]; omega) (cells8 X)
      refine walk_store rfl rfl rfl (exec_store8 (n := X) 40 (.tmp 7) (.tmp 38) b1 rfl rfl rfl rfl iWide) x7 ?_
      go_simp
      have x8 := x7.rowIn (g := w1.drew.heap.size) (fun p hp => by simp only [List.mem_cons, List.not_mem_nil, or_false] at hp; rcases hp with rfl | rfl; exact Nat.ne_of_lt (show g3 < _ by simp only [szD]; omega); exact Nat.ne_of_lt (show w.heap.size < _ by simp only [szD]; omega)) (by simp only [szD]; omega) (cells8 P)
      refine walk_store rfl rfl rfl (exec_store8 (n := P) 40 (.tmp 8) (.tmp 40) (b0.rowOther (k := w1.drew.heap.size + 1) (cells8 X) (by omega)) rfl rfl rfl rfl iWide) x8 ?_
      go_simp
      refine walk_end ?_
      have F : Hid (Gen w [(w1.heap.size + 1, 40, cells8 X), (w1.heap.size, 40, cells8 P), (g3, 43, c24 P Q R), (w.heap.size, 43, c24 X Y Z)] ((((w1.alloc (.cells z8 40)).alloc (.cells z8 40)).drew.setRow (w1.heap.size + 1) (cells8 X)).setRow w1.heap.size (cells8 P))) ∧ (g3 ≠ w1.heap.size + 1 ∧ w.heap.size ≠ w1.heap.size + 1 ∧ g3 ≠ w1.heap.size ∧ w.heap.size ≠ w1.heap.size) ∧ w.heap.size ≤ w1.heap.size + 1 ∧ w.heap.size ≤ w1.heap.size ∧ w1.heap.size + 1 ≠ w1.heap.size :=
        ⟨hide (x8.more ((b1.row (cells8 X)).rowOther (k := w1.drew.heap.size) (cells8 P) (by omega)) ((b0.rowOther (k := w1.drew.heap.size + 1) (cells8 X) (by omega)).row (cells8 P))), ⟨by omega, by omega, by omega, by omega⟩, by omega, by omega, by omega⟩
      clear E1 E2 b0 b1 x7 x8
      generalize (((w1.alloc (.cells z8 40)).alloc (.cells z8 40)).drew.setRow (w1.heap.size + 1) (cells8 X)).setRow w1.heap.size (cells8 P) = u0 at F ⊢
      generalize w1.heap.size + 1 = c7 at F ⊢
      generalize w1.heap.size = c8 at F ⊢
      exact rest c7 c8 u0 F
    · cases hl
  intro c7 c8 u0 hH
  obtain ⟨D', hN0, hC7, hC8, hne⟩ := hH
  clear D hlt hw0
  have D := D'
  clear D'
  have hN := hide (fun (p : Nat × TypeId × Array Value) (hp : p ∈ [(g3, 43, c24 P Q R), (w.heap.size, 43, c24 X Y Z)]) => (show p.1 ≠ c7 ∧ p.1 ≠ c8 by
    simp only [List.mem_cons, List.not_mem_nil, or_false] at hp
    rcases hp with rfl | rfl
    · exact ⟨hN0.1, hN0.2.2.1⟩
    · exact ⟨hN0.2.1, hN0.2.2.2⟩))
  clear hN0
  go_simp
  go_upto_region 13 with (first | (with_reducible refine at_list ?_; apply ldG (unhide D) rWide _ rfl rfl rfl (by repeat (first | exact List.mem_cons_self | apply List.mem_cons_of_mem)) rfl) | (go_at_call 46; with_reducible refine (unhide sP _).mono ?_; rintro e w' ⟨he, hb⟩; subst he; have D := hide ((unhide D).keep hb); clear hb) | (with_reducible refine at_list ?_;  refine eqlZ _ _ (unhide q0) rfl rfl rfl rfl ?_) | (go_at_call 50; with_reducible refine (unhide hD _).mono ?_; rintro e w' ⟨he, hb⟩; subst he; have D := hide ((unhide D).keep hb); clear hb) | (with_reducible refine at_list ?_;  refine st2 (unhide D) _ _ _ _ rfl rfl rfl rfl rfl rfl rfl rfl rfl rfl ?_; intro u D'; have D := hide D'; clear D'))
  refine region_plan (S := Gen w _) (l := [0, 1, 2, 3, 4, 5, 6, 7, 8, 9, 10, 11, 12, 13, 14, 15, 16, 17, 18, 19, 20, 21, 22, 23, 24, 25, 26, 27, 28, 29, 30, 31, 32, 33, 34, 35, 36, 37, 38, 39, 40, 41]) (by kernel_rfl) (by kernel_rfl) (by kernel_rfl) (by kernel_rfl) (by kernel_rfl) (by kernel_rfl) (by kernel_rfl) (unhide D).drew ?_
  clear D
  refine plan_read (v := ?_) rfl rfl (fun u hS => by go_simp; rfl) ?_
  go_simp
  refine plan_read (v := ?_) rfl rfl (fun u hS => by go_simp; rfl) ?_
  go_simp
  refine plan_read (v := .agg (cells8 L)) rfl rfl (fun u hS => exec_ldG hS rWide _ rfl rfl (by repeat (first | exact List.mem_cons_self | apply List.mem_cons_of_mem)) rfl) ?_
  go_simp
  refine plan_call (v := (.int .i64 0)) (f := 46) (args := #[.agg (cells8 L)]) rfl rfl (fun u hS => by go_simp) (fun u hS => (unhide sL u).mono fun _ _ ⟨he, hb⟩ => ⟨he, hS.keep hb⟩) ?_
  go_simp
  refine plan_read (v := ?_) rfl rfl (fun u hS => by go_simp; rfl) ?_
  go_simp
  refine plan_read (v := ?_) rfl rfl (fun u hS => by go_simp; rfl) ?_
  go_simp
  refine plan_read (v := ?_) rfl rfl (fun u hS => by go_simp; rfl) ?_
  go_simp
  refine plan_read (v := .agg (cells8 K)) rfl rfl (fun u hS => exec_ldG hS rWide _ rfl rfl (by repeat (first | exact List.mem_cons_self | apply List.mem_cons_of_mem)) rfl) ?_
  go_simp
  refine plan_call (v := (.int .i64 1)) (f := 46) (args := #[.agg (cells8 K)]) rfl rfl (fun u hS => by go_simp) (fun u hS => (unhide sK u).mono fun _ _ ⟨he, hb⟩ => ⟨he, hS.keep hb⟩) ?_
  go_simp
  refine plan_read (v := ?_) rfl rfl (fun u hS => by go_simp; rfl) ?_
  go_simp
  refine plan_read (v := ?_) rfl rfl (fun u hS => by go_simp; rfl) ?_
  go_simp
  refine plan_read (v := ?_) rfl rfl (fun u hS => by go_simp; rfl) ?_
  go_simp
  refine plan_read (v := .agg (cells8 K)) rfl rfl (fun u hS => exec_ldG hS rWide _ rfl rfl (by repeat (first | exact List.mem_cons_self | apply List.mem_cons_of_mem)) rfl) ?_
  go_simp
  refine plan_read (v := ?_) rfl rfl (fun u hS => by go_simp; rfl) ?_
  go_simp
  refine plan_read (v := .agg (cells8 P)) rfl rfl (fun u hS => exec_mid _ rfl rfl (range_x (hS.blk (cs := c24 P Q R) (by repeat (first | exact List.mem_cons_self | apply List.mem_cons_of_mem))))) ?_
  go_simp
  refine plan_call (v := (.agg (cells8 X))) (f := 45) (args := #[.agg (cells8 K), .agg (cells8 P)]) rfl rfl (fun u hS => by go_simp) (fun u hS => (unhide t1 u).mono fun _ _ ⟨he, hb⟩ => ⟨he, hS.keep hb⟩) ?_
  go_simp
  refine plan_read (v := ?_) rfl rfl (fun u hS => by go_simp; rfl) ?_
  go_simp
  refine plan_read (v := .agg (cells8 X)) rfl rfl (fun u hS => exec_mid _ rfl rfl (range_x (hS.blk (cs := c24 X Y Z) (by repeat (first | exact List.mem_cons_self | apply List.mem_cons_of_mem))))) ?_
  go_simp
  refine plan_read (v := .bool true) rfl rfl (fun u hS => exec_eql_wide_is u _ _ eX rfl rfl rfl) ?_
  go_simp
  refine plan_read (v := ?_) rfl rfl (fun u hS => by go_simp; rfl) ?_
  go_simp
  refine plan_read (v := ?_) rfl rfl (fun u hS => by go_simp; rfl) ?_
  go_simp
  refine plan_read (v := .agg (cells8 K)) rfl rfl (fun u hS => exec_ldG hS rWide _ rfl rfl (by repeat (first | exact List.mem_cons_self | apply List.mem_cons_of_mem)) rfl) ?_
  go_simp
  refine plan_read (v := ?_) rfl rfl (fun u hS => by go_simp; rfl) ?_
  go_simp
  refine plan_read (v := .agg (cells8 Q)) rfl rfl (fun u hS => exec_mid _ rfl rfl (range_y (hS.blk (cs := c24 P Q R) (by repeat (first | exact List.mem_cons_self | apply List.mem_cons_of_mem))))) ?_
  go_simp
  refine plan_call (v := (.agg (cells8 Y))) (f := 45) (args := #[.agg (cells8 K), .agg (cells8 Q)]) rfl rfl (fun u hS => by go_simp) (fun u hS => (unhide t2 u).mono fun _ _ ⟨he, hb⟩ => ⟨he, hS.keep hb⟩) ?_
  go_simp
  refine plan_read (v := ?_) rfl rfl (fun u hS => by go_simp; rfl) ?_
  go_simp
  refine plan_read (v := .agg (cells8 Y)) rfl rfl (fun u hS => exec_mid _ rfl rfl (range_y (hS.blk (cs := c24 X Y Z) (by repeat (first | exact List.mem_cons_self | apply List.mem_cons_of_mem))))) ?_
  go_simp
  refine plan_read (v := .bool true) rfl rfl (fun u hS => exec_eql_wide_is u _ _ eY rfl rfl rfl) ?_
  go_simp
  refine plan_read (v := ?_) rfl rfl (fun u hS => by go_simp; rfl) ?_
  go_simp
  refine plan_read (v := ?_) rfl rfl (fun u hS => by go_simp; rfl) ?_
  go_simp
  refine plan_read (v := .agg (cells8 K)) rfl rfl (fun u hS => exec_ldG hS rWide _ rfl rfl (by repeat (first | exact List.mem_cons_self | apply List.mem_cons_of_mem)) rfl) ?_
  go_simp
  refine plan_read (v := ?_) rfl rfl (fun u hS => by go_simp; rfl) ?_
  go_simp
  refine plan_read (v := .agg (cells8 R)) rfl rfl (fun u hS => exec_mid _ rfl rfl (range_z (hS.blk (cs := c24 P Q R) (by repeat (first | exact List.mem_cons_self | apply List.mem_cons_of_mem))))) ?_
  go_simp
  refine plan_call (v := (.agg (cells8 Z))) (f := 45) (args := #[.agg (cells8 K), .agg (cells8 R)]) rfl rfl (fun u hS => by go_simp) (fun u hS => (unhide t3 u).mono fun _ _ ⟨he, hb⟩ => ⟨he, hS.keep hb⟩) ?_
  go_simp
  refine plan_read (v := ?_) rfl rfl (fun u hS => by go_simp; rfl) ?_
  go_simp
  refine plan_read (v := .agg (cells8 Z)) rfl rfl (fun u hS => exec_mid _ rfl rfl (range_z (hS.blk (cs := c24 X Y Z) (by repeat (first | exact List.mem_cons_self | apply List.mem_cons_of_mem))))) ?_
  go_simp
  refine plan_read (v := .bool true) rfl rfl (fun u hS => exec_eql_wide_is u _ _ eZ rfl rfl rfl) ?_
  go_simp
  refine plan_read (v := ?_) rfl rfl (fun u hS => by go_simp; rfl) ?_
  go_simp
  refine plan_read (v := ?_) rfl rfl (fun u hS => by go_simp; rfl) ?_
  go_simp
  refine plan_call (v := (.bool true)) (f := 28) (args := #[]) rfl rfl (fun u hS => by go_simp) (fun u hS => (unhide haw u).mono fun _ _ ⟨he, hb⟩ => ⟨he, hS.keep hb⟩) ?_
  go_simp
  refine plan_read (v := ?_) rfl rfl (fun u hS => by go_simp; rfl) ?_
  go_simp
  refine plan_read (v := ?_) rfl rfl (fun u hS => by go_simp; rfl) ?_
  go_simp
  refine plan_end (fun u hS => ?_)
  have O := hide hS.o
  clear hS
  go_wp2
  go_ret
  exact ⟨rfl, unhide O⟩
set_option maxHeartbeats 8000000 in
theorem same_law1 (X Y Z P Q R K L : Nat) (s0 s1 : Int) (w : World) (h1 : Hid (Ans 41 #[.agg (c24 X Y Z)] (.tuple #[.agg (c24 P Q R), .bool true]))) (h2 : Hid (Ans 41 #[.agg (c24 P Q R)] (.tuple #[.agg (c24 P Q R), .bool true]))) (sE : same3 P Q R P Q R = true) (sP : Hid (Ans 46 #[.agg (cells8 P)] (.int .i64 s0))) (q0 : Hid ((s0 == 0) = true)) (sQ : Hid (Ans 46 #[.agg (cells8 Q)] (.int .i64 s1))) (q1 : Hid ((s1 == 0) = false))
    (hD : Hid (Ans 50 #[.agg (cells8 Y), .agg (cells8 Q)] (.tuple #[.agg (cells8 K), .agg (cells8 L), .bool true]))) (sL : Hid (Ans 46 #[.agg (cells8 L)] (.int .i64 0))) (sK : Hid (Ans 46 #[.agg (cells8 K)] (.int .i64 1)))
    (t1 : Hid (Ans 45 #[.agg (cells8 K), .agg (cells8 P)] (.agg (cells8 X)))) (t2 : Hid (Ans 45 #[.agg (cells8 K), .agg (cells8 Q)] (.agg (cells8 Y)))) (t3 : Hid (Ans 45 #[.agg (cells8 K), .agg (cells8 R)] (.agg (cells8 Z)))) (eX : same X X = true) (eY : same Y Y = true) (eZ : same Z Z = true) (haw : Hid (Ans 28 #[] (.bool true))) :
    Calls Try.prog 11 #[.agg (c24 X Y Z)] w fun e w' => e = .returned (.bool true) ∧ Below w.heap.size w w' := by
  go_enter Try.func11, Try.ntmps11
  go_upto_region 1 with fail
  have D := hide ((Gen.start w).push 43 (c24 X Y Z))
  go_upto_region 2 with (first | (with_reducible refine at_list ?_; apply ldG (unhide D) rSpan _ rfl rfl rfl (by repeat (first | exact List.mem_cons_self | apply List.mem_cons_of_mem)) rfl) | (go_at_call 41; with_reducible refine (unhide h1 _).mono ?_; rintro e w' ⟨he, hb⟩; subst he; have D := hide ((unhide D).keep hb); clear hb) | (with_reducible refine at_list ?_; refine stG (unhide D) rSpan _ _ rfl rfl rfl rfl rfl rfl (c24_one _ _ _) ?_; intro D'; have D := hide D'; clear D'))
  obtain ⟨g3, hg3⟩ : ∃ g, g = w'.heap.size := ⟨_, rfl⟩
  rw [← hg3] at D ⊢
  generalize w'.alloc (.cells (c24 P Q R) 43) = w2 at D ⊢
  clear hg3
  go_upto_region 7 with (first | (with_reducible refine at_list ?_; apply ldG (unhide D) rSpan _ rfl rfl rfl (by repeat (first | exact List.mem_cons_self | apply List.mem_cons_of_mem)) rfl) | (with_reducible refine at_list ?_; apply ldGw (unhide D) rSpan _ rfl rfl rfl (by repeat (first | exact List.mem_cons_self | apply List.mem_cons_of_mem)) rfl) | (go_at_call 41; with_reducible refine (unhide h2 _).mono ?_; rintro e w' ⟨he, hb⟩; subst he; have D := hide ((unhide D).keep hb); clear hb) | (with_reducible refine at_list ?_; refine stG (unhide D) rSpan _ _ rfl rfl rfl rfl rfl rfl (c24_one _ _ _) ?_; intro D'; have D := hide D'; clear D') | (with_reducible refine at_list ?_;  refine neqNw _ _ _ sE rfl rfl rfl rfl ?_))
  have D := hide (unhide D).tail
  generalize hw1 : w'.alloc (.cells (c24 P Q R) 43) = w1 at D ⊢
  have hlt := hide (fun (p : Nat × TypeId × Array Value) hp => ((unhide D).at_ p hp).lt)
  have hw0 := hide (unhide D).o.size
  clear hw1
  apply share3 (H := fun c7 c8 u0 => Hid (Gen w [(c7, 40, cells8 X), (c8, 40, cells8 P), (g3, 43, c24 P Q R), (w.heap.size, 43, c24 X Y Z)] u0) ∧ (g3 ≠ c7 ∧ w.heap.size ≠ c7 ∧ g3 ≠ c8 ∧ w.heap.size ≠ c8) ∧ w.heap.size ≤ c7 ∧ w.heap.size ≤ c8 ∧ c7 ≠ c8)
  · intro rest
    have D0 := (unhide D).drew
    have hg3 : g3 < w1.heap.size := unhide hlt (g3, 43, c24 P Q R) (by repeat (first | exact List.mem_cons_self | apply List.mem_cons_of_mem))
    have hg0 : w.heap.size < w1.heap.size := unhide hlt (w.heap.size, 43, c24 X Y Z) (by repeat (first | exact List.mem_cons_self | apply List.mem_cons_of_mem))
    refine region_fam (S := Gen w [(g3, 43, c24 P Q R), (w.heap.size, 43, c24 X Y Z)]) (F := [[0, 1, 2, 3, 4, 5, 6, 7], [0, 1, 2, 3, 5, 4, 6, 7]]) (t := [4, 5, 6, 7]) (by kernel_rfl) (by kernel_rfl) (by kernel_rfl) (by kernel_rfl) (by kernel_rfl) ?_ D0 ?_
    · intro j o a w hj ho
      have hj' : j = 4 ∨ j = 5 ∨ j = 6 ∨ j = 7 := by simpa using hj
      rcases hj' with rfl | rfl | rfl | rfl
      · cases ho; exact ne_alloc rfl a w
      · cases ho; exact ne_alloc rfl a w
      · cases ho; exact ne_store rfl a w
      · cases ho; exact ne_store rfl a w
    have E1 := D0.push 40 z8
    have E2 := E1.push 40 z8
    simp only [szA] at E2
    have b0 := E2.blk (g := w1.drew.heap.size) (t := 40) (cs := z8) (by repeat (first | exact List.mem_cons_self | apply List.mem_cons_of_mem))
    have b1 := E2.blk (g := w1.drew.heap.size + 1) (t := 40) (cs := z8) (by repeat (first | exact List.mem_cons_self | apply List.mem_cons_of_mem))
    intro l hl
    rcases List.mem_cons.1 hl with rfl | hl
    · refine walk_read (v := ?_) rfl rfl rfl (fun u hS => by go_simp; rfl) ?_
      go_simp
      refine walk_read (v := .agg (cells8 X)) rfl rfl rfl (fun u hS => exec_mid _ rfl rfl (range_x (hS.blk (cs := c24 X Y Z) (by repeat (first | exact List.mem_cons_self | apply List.mem_cons_of_mem))))) ?_
      go_simp
      refine walk_read (v := ?_) rfl rfl rfl (fun u hS => by go_simp; rfl) ?_
      go_simp
      refine walk_read (v := .agg (cells8 P)) rfl rfl rfl (fun u hS => exec_mid _ rfl rfl (range_x (hS.blk (cs := c24 P Q R) (by repeat (first | exact List.mem_cons_self | apply List.mem_cons_of_mem))))) ?_
      go_simp
      refine walk_turn (v := ptr w1.drew.heap.size) (w' := w1.drew.alloc (.cells z8 40)) rfl rfl rfl (by go_simp) E1.tail ?_
      go_simp
      refine walk_turn (v := ptr (w1.drew.heap.size + 1)) (w' := (w1.drew.alloc (.cells z8 40)).alloc (.cells z8 40)) rfl rfl rfl (by go_simp) E2.tail.tail ?_
      go_simp
      have x7 := E2.tail.tail.rowIn (g := w1.drew.heap.size) (fun p hp => by simp only [List.mem_cons, List.not_mem_nil, or_false] at hp; rcases hp with rfl | rfl; exact Nat.ne_of_lt (show g3 < _ by simp only [szD]; omega); exact Nat.ne_of_lt (show w.heap.size < _ by simp only [szD]; omega)) (by simp only [szD]; omega) (cells8 X)
      refine walk_store rfl rfl rfl (exec_store8 (n := X) 40 (.tmp 7) (.tmp 38) b0 rfl rfl rfl rfl iWide) x7 ?_
      go_simp
      have x8 := x7.rowIn (g := w1.drew.heap.size + 1) (fun p hp => by simp only [List.mem_cons, List.not_mem_nil, or_false] at hp; rcases hp with rfl | rfl; exact Nat.ne_of_lt (show g3 < _ by simp only [szD]; omega); exact Nat.ne_of_lt (show w.heap.size < _ by simp only [szD]; omega)) (by simp only [szD]; omega) (cells8 P)
      refine walk_store rfl rfl rfl (exec_store8 (n := P) 40 (.tmp 8) (.tmp 40) (b1.rowOther (k := w1.drew.heap.size) (cells8 X) (by omega)) rfl rfl rfl rfl iWide) x8 ?_
      go_simp
      refine walk_end ?_
      have F : Hid (Gen w [(w1.heap.size, 40, cells8 X), (w1.heap.size + 1, 40, cells8 P), (g3, 43, c24 P Q R), (w.heap.size, 43, c24 X Y Z)] ((((w1.alloc (.cells z8 40)).alloc (.cells z8 40)).drew.setRow w1.heap.size (cells8 X)).setRow (w1.heap.size + 1) (cells8 P))) ∧ (g3 ≠ w1.heap.size ∧ w.heap.size ≠ w1.heap.size ∧ g3 ≠ w1.heap.size + 1 ∧ w.heap.size ≠ w1.heap.size + 1) ∧ w.heap.size ≤ w1.heap.size ∧ w.heap.size ≤ w1.heap.size + 1 ∧ w1.heap.size ≠ w1.heap.size + 1 :=
        ⟨hide (x8.more ((b0.row (cells8 X)).rowOther (k := w1.drew.heap.size + 1) (cells8 P) (by omega)) ((b1.rowOther (k := w1.drew.heap.size) (cells8 X) (by omega)).row (cells8 P))), ⟨by omega, by omega, by omega, by omega⟩, by omega, by omega, by omega⟩
      clear E1 E2 b0 b1 x7 x8
      generalize (((w1.alloc (.cells z8 40)).alloc (.cells z8 40)).drew.setRow w1.heap.size (cells8 X)).setRow (w1.heap.size + 1) (cells8 P) = u0 at F ⊢
      generalize w1.heap.size + 1 = c8 at F ⊢
      generalize w1.heap.size = c7 at F ⊢
      exact rest c7 c8 u0 F
    rcases List.mem_cons.1 hl with rfl | hl
    · refine walk_read (v := ?_) rfl rfl rfl (fun u hS => by go_simp; rfl) ?_
      go_simp
      refine walk_read (v := .agg (cells8 X)) rfl rfl rfl (fun u hS => exec_mid _ rfl rfl (range_x (hS.blk (cs := c24 X Y Z) (by repeat (first | exact List.mem_cons_self | apply List.mem_cons_of_mem))))) ?_
      go_simp
      refine walk_read (v := ?_) rfl rfl rfl (fun u hS => by go_simp; rfl) ?_
      go_simp
      refine walk_read (v := .agg (cells8 P)) rfl rfl rfl (fun u hS => exec_mid _ rfl rfl (range_x (hS.blk (cs := c24 P Q R) (by repeat (first | exact List.mem_cons_self | apply List.mem_cons_of_mem))))) ?_
      go_simp
      refine walk_turn (v := ptr w1.drew.heap.size) (w' := w1.drew.alloc (.cells z8 40)) rfl rfl rfl (by go_simp) E1.tail ?_
      go_simp
      refine walk_turn (v := ptr (w1.drew.heap.size + 1)) (w' := (w1.drew.alloc (.cells z8 40)).alloc (.cells z8 40)) rfl rfl rfl (by go_simp) E2.tail.tail ?_
      go_simp
      have x7 := E2.tail.tail.rowIn (g := w1.drew.heap.size + 1) (fun p hp => by simp only [List.mem_cons, List.not_mem_nil, or_false] at hp; rcases hp with rfl | rfl; exact Nat.ne_of_lt (show g3 < _ by simp only [szD]; omega); exact Nat.ne_of_lt (show w.heap.size < _ by simp only [szD]; omega)) (by simp only [szD]; omega) (cells8 X)
      refine walk_store rfl rfl rfl (exec_store8 (n := X) 40 (.tmp 7) (.tmp 38) b1 rfl rfl rfl rfl iWide) x7 ?_
      go_simp
      have x8 := x7.rowIn (g := w1.drew.heap.size) (fun p hp => by simp only [List.mem_cons, List.not_mem_nil, or_false] at hp; rcases hp with rfl | rfl; exact Nat.ne_of_lt (show g3 < _ by simp only [szD]; omega); exact Nat.ne_of_lt (show w.heap.size < _ by simp only [szD]; omega)) (by simp only [szD]; omega) (cells8 P)
      refine walk_store rfl rfl rfl (exec_store8 (n := P) 40 (.tmp 8) (.tmp 40) (b0.rowOther (k := w1.drew.heap.size + 1) (cells8 X) (by omega)) rfl rfl rfl rfl iWide) x8 ?_
      go_simp
      refine walk_end ?_
      have F : Hid (Gen w [(w1.heap.size + 1, 40, cells8 X), (w1.heap.size, 40, cells8 P), (g3, 43, c24 P Q R), (w.heap.size, 43, c24 X Y Z)] ((((w1.alloc (.cells z8 40)).alloc (.cells z8 40)).drew.setRow (w1.heap.size + 1) (cells8 X)).setRow w1.heap.size (cells8 P))) ∧ (g3 ≠ w1.heap.size + 1 ∧ w.heap.size ≠ w1.heap.size + 1 ∧ g3 ≠ w1.heap.size ∧ w.heap.size ≠ w1.heap.size) ∧ w.heap.size ≤ w1.heap.size + 1 ∧ w.heap.size ≤ w1.heap.size ∧ w1.heap.size + 1 ≠ w1.heap.size :=
        ⟨hide (x8.more ((b1.row (cells8 X)).rowOther (k := w1.drew.heap.size) (cells8 P) (by omega)) ((b0.rowOther (k := w1.drew.heap.size + 1) (cells8 X) (by omega)).row (cells8 P))), ⟨by omega, by omega, by omega, by omega⟩, by omega, by omega, by omega⟩
      clear E1 E2 b0 b1 x7 x8
      generalize (((w1.alloc (.cells z8 40)).alloc (.cells z8 40)).drew.setRow (w1.heap.size + 1) (cells8 X)).setRow w1.heap.size (cells8 P) = u0 at F ⊢
      generalize w1.heap.size + 1 = c7 at F ⊢
      generalize w1.heap.size = c8 at F ⊢
      exact rest c7 c8 u0 F
    · cases hl
  intro c7 c8 u0 hH
  obtain ⟨D', hN0, hC7, hC8, hne⟩ := hH
  clear D hlt hw0
  have D := D'
  clear D'
  have hN := hide (fun (p : Nat × TypeId × Array Value) (hp : p ∈ [(g3, 43, c24 P Q R), (w.heap.size, 43, c24 X Y Z)]) => (show p.1 ≠ c7 ∧ p.1 ≠ c8 by
    simp only [List.mem_cons, List.not_mem_nil, or_false] at hp
    rcases hp with rfl | rfl
    · exact ⟨hN0.1, hN0.2.2.1⟩
    · exact ⟨hN0.2.1, hN0.2.2.2⟩))
  clear hN0
  go_simp
  go_upto_region 9 with (first | (with_reducible refine at_list ?_; apply ldG (unhide D) rWide _ rfl rfl rfl (by repeat (first | exact List.mem_cons_self | apply List.mem_cons_of_mem)) rfl) | (go_at_call 46; with_reducible refine (unhide sP _).mono ?_; rintro e w' ⟨he, hb⟩; subst he; have D := hide ((unhide D).keep hb); clear hb) | (with_reducible refine at_list ?_;  refine eqlZ _ _ (unhide q0) rfl rfl rfl rfl ?_))
  generalize hq0 : u0 = v0 at D ⊢
  clear hq0
  have D0 := (unhide D).drew
  have N0 := hide (fun (p : Nat × TypeId × Array Value) hp => unhide hN p hp)
  clear D
  refine region_walk (S := Gen w _) (l := [0, 1, 2, 3, 4, 5]) (t := [4, 5]) (by kernel_rfl) (by kernel_rfl) (by kernel_rfl) (by kernel_rfl) (by kernel_rfl) (by kernel_rfl) (by kernel_rfl) (by kernel_rfl) D0.tail.tail ?_
  refine walk_read (v := ?_) rfl rfl rfl (fun u hS => by go_simp; rfl) ?_
  go_simp
  refine walk_read (v := .agg (cells8 Y)) rfl rfl rfl (fun u hS => exec_mid _ rfl rfl (range_y (hS.blk (cs := c24 X Y Z) (by repeat (first | exact List.mem_cons_self | apply List.mem_cons_of_mem))))) ?_
  go_simp
  refine walk_read (v := ?_) rfl rfl rfl (fun u hS => by go_simp; rfl) ?_
  go_simp
  refine walk_read (v := .agg (cells8 Q)) rfl rfl rfl (fun u hS => exec_mid _ rfl rfl (range_y (hS.blk (cs := c24 P Q R) (by repeat (first | exact List.mem_cons_self | apply List.mem_cons_of_mem))))) ?_
  go_simp
  have b7 := D0.blk (g := c7) (cs := cells8 X) (by repeat (first | exact List.mem_cons_self | apply List.mem_cons_of_mem))
  have b8 := D0.blk (g := c8) (cs := cells8 P) (by repeat (first | exact List.mem_cons_self | apply List.mem_cons_of_mem))
  have e7 := (D0.tail.tail).rowIn (g := c7) (fun p hp => ((unhide hN) p hp).1) hC7 (cells8 Y)
  refine walk_store rfl rfl rfl (exec_store8 (n := Y) 40 (.tmp 7) (.tmp 45) b7 rfl rfl rfl rfl iWide) e7 ?_
  go_simp
  have e8 := e7.rowIn (g := c8) (fun p hp => ((unhide hN) p hp).2) hC8 (cells8 Q)
  refine walk_store rfl rfl rfl (exec_store8 (n := Q) 40 (.tmp 8) (.tmp 47) (b8.rowOther _ (Ne.symm hne)) rfl rfl rfl rfl iWide) e8 ?_
  go_simp
  refine walk_end ?_
  have f7 := (b7.row (cells8 Y)).rowOther (k := c8) (cells8 Q) hne
  have f8 := (b8.rowOther (k := c7) (cells8 Y) (Ne.symm hne)).row (cells8 Q)
  have D := hide (e8.more f7 f8)
  clear D0 b7 b8 e7 e8 f7 f8
  generalize (v0.drew.setRow c7 (cells8 Y)).setRow c8 (cells8 Q) = u1 at D ⊢
  go_upto_region 13 with (first | (with_reducible refine at_list ?_; apply ldG (unhide D) rWide _ rfl rfl rfl (by repeat (first | exact List.mem_cons_self | apply List.mem_cons_of_mem)) rfl) | (go_at_call 46; with_reducible refine (unhide sQ _).mono ?_; rintro e w' ⟨he, hb⟩; subst he; have D := hide ((unhide D).keep hb); clear hb) | (with_reducible refine at_list ?_;  refine eqlZ _ _ (unhide q1) rfl rfl rfl rfl ?_) | (go_at_call 50; with_reducible refine (unhide hD _).mono ?_; rintro e w' ⟨he, hb⟩; subst he; have D := hide ((unhide D).keep hb); clear hb) | (with_reducible refine at_list ?_;  refine st2 (unhide D) _ _ _ _ rfl rfl rfl rfl rfl rfl rfl rfl rfl rfl ?_; intro u D'; have D := hide D'; clear D'))
  refine region_plan (S := Gen w _) (l := [0, 1, 2, 3, 4, 5, 6, 7, 8, 9, 10, 11, 12, 13, 14, 15, 16, 17, 18, 19, 20, 21, 22, 23, 24, 25, 26, 27, 28, 29, 30, 31, 32, 33, 34, 35, 36, 37, 38, 39, 40, 41]) (by kernel_rfl) (by kernel_rfl) (by kernel_rfl) (by kernel_rfl) (by kernel_rfl) (by kernel_rfl) (by kernel_rfl) (unhide D).drew ?_
  clear D
  refine plan_read (v := ?_) rfl rfl (fun u hS => by go_simp; rfl) ?_
  go_simp
  refine plan_read (v := ?_) rfl rfl (fun u hS => by go_simp; rfl) ?_
  go_simp
  refine plan_read (v := .agg (cells8 L)) rfl rfl (fun u hS => exec_ldG hS rWide _ rfl rfl (by repeat (first | exact List.mem_cons_self | apply List.mem_cons_of_mem)) rfl) ?_
  go_simp
  refine plan_call (v := (.int .i64 0)) (f := 46) (args := #[.agg (cells8 L)]) rfl rfl (fun u hS => by go_simp) (fun u hS => (unhide sL u).mono fun _ _ ⟨he, hb⟩ => ⟨he, hS.keep hb⟩) ?_
  go_simp
  refine plan_read (v := ?_) rfl rfl (fun u hS => by go_simp; rfl) ?_
  go_simp
  refine plan_read (v := ?_) rfl rfl (fun u hS => by go_simp; rfl) ?_
  go_simp
  refine plan_read (v := ?_) rfl rfl (fun u hS => by go_simp; rfl) ?_
  go_simp
  refine plan_read (v := .agg (cells8 K)) rfl rfl (fun u hS => exec_ldG hS rWide _ rfl rfl (by repeat (first | exact List.mem_cons_self | apply List.mem_cons_of_mem)) rfl) ?_
  go_simp
  refine plan_call (v := (.int .i64 1)) (f := 46) (args := #[.agg (cells8 K)]) rfl rfl (fun u hS => by go_simp) (fun u hS => (unhide sK u).mono fun _ _ ⟨he, hb⟩ => ⟨he, hS.keep hb⟩) ?_
  go_simp
  refine plan_read (v := ?_) rfl rfl (fun u hS => by go_simp; rfl) ?_
  go_simp
  refine plan_read (v := ?_) rfl rfl (fun u hS => by go_simp; rfl) ?_
  go_simp
  refine plan_read (v := ?_) rfl rfl (fun u hS => by go_simp; rfl) ?_
  go_simp
  refine plan_read (v := .agg (cells8 K)) rfl rfl (fun u hS => exec_ldG hS rWide _ rfl rfl (by repeat (first | exact List.mem_cons_self | apply List.mem_cons_of_mem)) rfl) ?_
  go_simp
  refine plan_read (v := ?_) rfl rfl (fun u hS => by go_simp; rfl) ?_
  go_simp
  refine plan_read (v := .agg (cells8 P)) rfl rfl (fun u hS => exec_mid _ rfl rfl (range_x (hS.blk (cs := c24 P Q R) (by repeat (first | exact List.mem_cons_self | apply List.mem_cons_of_mem))))) ?_
  go_simp
  refine plan_call (v := (.agg (cells8 X))) (f := 45) (args := #[.agg (cells8 K), .agg (cells8 P)]) rfl rfl (fun u hS => by go_simp) (fun u hS => (unhide t1 u).mono fun _ _ ⟨he, hb⟩ => ⟨he, hS.keep hb⟩) ?_
  go_simp
  refine plan_read (v := ?_) rfl rfl (fun u hS => by go_simp; rfl) ?_
  go_simp
  refine plan_read (v := .agg (cells8 X)) rfl rfl (fun u hS => exec_mid _ rfl rfl (range_x (hS.blk (cs := c24 X Y Z) (by repeat (first | exact List.mem_cons_self | apply List.mem_cons_of_mem))))) ?_
  go_simp
  refine plan_read (v := .bool true) rfl rfl (fun u hS => exec_eql_wide_is u _ _ eX rfl rfl rfl) ?_
  go_simp
  refine plan_read (v := ?_) rfl rfl (fun u hS => by go_simp; rfl) ?_
  go_simp
  refine plan_read (v := ?_) rfl rfl (fun u hS => by go_simp; rfl) ?_
  go_simp
  refine plan_read (v := .agg (cells8 K)) rfl rfl (fun u hS => exec_ldG hS rWide _ rfl rfl (by repeat (first | exact List.mem_cons_self | apply List.mem_cons_of_mem)) rfl) ?_
  go_simp
  refine plan_read (v := ?_) rfl rfl (fun u hS => by go_simp; rfl) ?_
  go_simp
  refine plan_read (v := .agg (cells8 Q)) rfl rfl (fun u hS => exec_mid _ rfl rfl (range_y (hS.blk (cs := c24 P Q R) (by repeat (first | exact List.mem_cons_self | apply List.mem_cons_of_mem))))) ?_
  go_simp
  refine plan_call (v := (.agg (cells8 Y))) (f := 45) (args := #[.agg (cells8 K), .agg (cells8 Q)]) rfl rfl (fun u hS => by go_simp) (fun u hS => (unhide t2 u).mono fun _ _ ⟨he, hb⟩ => ⟨he, hS.keep hb⟩) ?_
  go_simp
  refine plan_read (v := ?_) rfl rfl (fun u hS => by go_simp; rfl) ?_
  go_simp
  refine plan_read (v := .agg (cells8 Y)) rfl rfl (fun u hS => exec_mid _ rfl rfl (range_y (hS.blk (cs := c24 X Y Z) (by repeat (first | exact List.mem_cons_self | apply List.mem_cons_of_mem))))) ?_
  go_simp
  refine plan_read (v := .bool true) rfl rfl (fun u hS => exec_eql_wide_is u _ _ eY rfl rfl rfl) ?_
  go_simp
  refine plan_read (v := ?_) rfl rfl (fun u hS => by go_simp; rfl) ?_
  go_simp
  refine plan_read (v := ?_) rfl rfl (fun u hS => by go_simp; rfl) ?_
  go_simp
  refine plan_read (v := .agg (cells8 K)) rfl rfl (fun u hS => exec_ldG hS rWide _ rfl rfl (by repeat (first | exact List.mem_cons_self | apply List.mem_cons_of_mem)) rfl) ?_
  go_simp
  refine plan_read (v := ?_) rfl rfl (fun u hS => by go_simp; rfl) ?_
  go_simp
  refine plan_read (v := .agg (cells8 R)) rfl rfl (fun u hS => exec_mid _ rfl rfl (range_z (hS.blk (cs := c24 P Q R) (by repeat (first | exact List.mem_cons_self | apply List.mem_cons_of_mem))))) ?_
  go_simp
  refine plan_call (v := (.agg (cells8 Z))) (f := 45) (args := #[.agg (cells8 K), .agg (cells8 R)]) rfl rfl (fun u hS => by go_simp) (fun u hS => (unhide t3 u).mono fun _ _ ⟨he, hb⟩ => ⟨he, hS.keep hb⟩) ?_
  go_simp
  refine plan_read (v := ?_) rfl rfl (fun u hS => by go_simp; rfl) ?_
  go_simp
  refine plan_read (v := .agg (cells8 Z)) rfl rfl (fun u hS => exec_mid _ rfl rfl (range_z (hS.blk (cs := c24 X Y Z) (by repeat (first | exact List.mem_cons_self | apply List.mem_cons_of_mem))))) ?_
  go_simp
  refine plan_read (v := .bool true) rfl rfl (fun u hS => exec_eql_wide_is u _ _ eZ rfl rfl rfl) ?_
  go_simp
  refine plan_read (v := ?_) rfl rfl (fun u hS => by go_simp; rfl) ?_
  go_simp
  refine plan_read (v := ?_) rfl rfl (fun u hS => by go_simp; rfl) ?_
  go_simp
  refine plan_call (v := (.bool true)) (f := 28) (args := #[]) rfl rfl (fun u hS => by go_simp) (fun u hS => (unhide haw u).mono fun _ _ ⟨he, hb⟩ => ⟨he, hS.keep hb⟩) ?_
  go_simp
  refine plan_read (v := ?_) rfl rfl (fun u hS => by go_simp; rfl) ?_
  go_simp
  refine plan_read (v := ?_) rfl rfl (fun u hS => by go_simp; rfl) ?_
  go_simp
  refine plan_end (fun u hS => ?_)
  have O := hide hS.o
  clear hS
  go_wp2
  go_ret
  exact ⟨rfl, unhide O⟩
set_option maxHeartbeats 8000000 in
theorem same_law2 (X Y Z P Q R K L : Nat) (s0 s1 s2 : Int) (w : World) (h1 : Hid (Ans 41 #[.agg (c24 X Y Z)] (.tuple #[.agg (c24 P Q R), .bool true]))) (h2 : Hid (Ans 41 #[.agg (c24 P Q R)] (.tuple #[.agg (c24 P Q R), .bool true]))) (sE : same3 P Q R P Q R = true) (sP : Hid (Ans 46 #[.agg (cells8 P)] (.int .i64 s0))) (q0 : Hid ((s0 == 0) = true)) (sQ : Hid (Ans 46 #[.agg (cells8 Q)] (.int .i64 s1))) (q1 : Hid ((s1 == 0) = true)) (sR : Hid (Ans 46 #[.agg (cells8 R)] (.int .i64 s2))) (q2 : Hid ((s2 == 0) = false))
    (hD : Hid (Ans 50 #[.agg (cells8 Z), .agg (cells8 R)] (.tuple #[.agg (cells8 K), .agg (cells8 L), .bool true]))) (sL : Hid (Ans 46 #[.agg (cells8 L)] (.int .i64 0))) (sK : Hid (Ans 46 #[.agg (cells8 K)] (.int .i64 1)))
    (t1 : Hid (Ans 45 #[.agg (cells8 K), .agg (cells8 P)] (.agg (cells8 X)))) (t2 : Hid (Ans 45 #[.agg (cells8 K), .agg (cells8 Q)] (.agg (cells8 Y)))) (t3 : Hid (Ans 45 #[.agg (cells8 K), .agg (cells8 R)] (.agg (cells8 Z)))) (eX : same X X = true) (eY : same Y Y = true) (eZ : same Z Z = true) (haw : Hid (Ans 28 #[] (.bool true))) :
    Calls Try.prog 11 #[.agg (c24 X Y Z)] w fun e w' => e = .returned (.bool true) ∧ Below w.heap.size w w' := by
  go_enter Try.func11, Try.ntmps11
  go_upto_region 1 with fail
  have D := hide ((Gen.start w).push 43 (c24 X Y Z))
  go_upto_region 2 with (first | (with_reducible refine at_list ?_; apply ldG (unhide D) rSpan _ rfl rfl rfl (by repeat (first | exact List.mem_cons_self | apply List.mem_cons_of_mem)) rfl) | (go_at_call 41; with_reducible refine (unhide h1 _).mono ?_; rintro e w' ⟨he, hb⟩; subst he; have D := hide ((unhide D).keep hb); clear hb) | (with_reducible refine at_list ?_; refine stG (unhide D) rSpan _ _ rfl rfl rfl rfl rfl rfl (c24_one _ _ _) ?_; intro D'; have D := hide D'; clear D'))
  obtain ⟨g3, hg3⟩ : ∃ g, g = w'.heap.size := ⟨_, rfl⟩
  rw [← hg3] at D ⊢
  generalize w'.alloc (.cells (c24 P Q R) 43) = w2 at D ⊢
  clear hg3
  go_upto_region 7 with (first | (with_reducible refine at_list ?_; apply ldG (unhide D) rSpan _ rfl rfl rfl (by repeat (first | exact List.mem_cons_self | apply List.mem_cons_of_mem)) rfl) | (with_reducible refine at_list ?_; apply ldGw (unhide D) rSpan _ rfl rfl rfl (by repeat (first | exact List.mem_cons_self | apply List.mem_cons_of_mem)) rfl) | (go_at_call 41; with_reducible refine (unhide h2 _).mono ?_; rintro e w' ⟨he, hb⟩; subst he; have D := hide ((unhide D).keep hb); clear hb) | (with_reducible refine at_list ?_; refine stG (unhide D) rSpan _ _ rfl rfl rfl rfl rfl rfl (c24_one _ _ _) ?_; intro D'; have D := hide D'; clear D') | (with_reducible refine at_list ?_;  refine neqNw _ _ _ sE rfl rfl rfl rfl ?_))
  have D := hide (unhide D).tail
  generalize hw1 : w'.alloc (.cells (c24 P Q R) 43) = w1 at D ⊢
  have hlt := hide (fun (p : Nat × TypeId × Array Value) hp => ((unhide D).at_ p hp).lt)
  have hw0 := hide (unhide D).o.size
  clear hw1
  apply share3 (H := fun c7 c8 u0 => Hid (Gen w [(c7, 40, cells8 X), (c8, 40, cells8 P), (g3, 43, c24 P Q R), (w.heap.size, 43, c24 X Y Z)] u0) ∧ (g3 ≠ c7 ∧ w.heap.size ≠ c7 ∧ g3 ≠ c8 ∧ w.heap.size ≠ c8) ∧ w.heap.size ≤ c7 ∧ w.heap.size ≤ c8 ∧ c7 ≠ c8)
  · intro rest
    have D0 := (unhide D).drew
    have hg3 : g3 < w1.heap.size := unhide hlt (g3, 43, c24 P Q R) (by repeat (first | exact List.mem_cons_self | apply List.mem_cons_of_mem))
    have hg0 : w.heap.size < w1.heap.size := unhide hlt (w.heap.size, 43, c24 X Y Z) (by repeat (first | exact List.mem_cons_self | apply List.mem_cons_of_mem))
    refine region_fam (S := Gen w [(g3, 43, c24 P Q R), (w.heap.size, 43, c24 X Y Z)]) (F := [[0, 1, 2, 3, 4, 5, 6, 7], [0, 1, 2, 3, 5, 4, 6, 7]]) (t := [4, 5, 6, 7]) (by kernel_rfl) (by kernel_rfl) (by kernel_rfl) (by kernel_rfl) (by kernel_rfl) ?_ D0 ?_
    · intro j o a w hj ho
      have hj' : j = 4 ∨ j = 5 ∨ j = 6 ∨ j = 7 := by simpa using hj
      rcases hj' with rfl | rfl | rfl | rfl
      · cases ho; exact ne_alloc rfl a w
      · cases ho; exact ne_alloc rfl a w
      · cases ho; exact ne_store rfl a w
      · cases ho; exact ne_store rfl a w
    have E1 := D0.push 40 z8
    have E2 := E1.push 40 z8
    simp only [szA] at E2
    have b0 := E2.blk (g := w1.drew.heap.size) (t := 40) (cs := z8) (by repeat (first | exact List.mem_cons_self | apply List.mem_cons_of_mem))
    have b1 := E2.blk (g := w1.drew.heap.size + 1) (t := 40) (cs := z8) (by repeat (first | exact List.mem_cons_self | apply List.mem_cons_of_mem))
    intro l hl
    rcases List.mem_cons.1 hl with rfl | hl
    · refine walk_read (v := ?_) rfl rfl rfl (fun u hS => by go_simp; rfl) ?_
      go_simp
      refine walk_read (v := .agg (cells8 X)) rfl rfl rfl (fun u hS => exec_mid _ rfl rfl (range_x (hS.blk (cs := c24 X Y Z) (by repeat (first | exact List.mem_cons_self | apply List.mem_cons_of_mem))))) ?_
      go_simp
      refine walk_read (v := ?_) rfl rfl rfl (fun u hS => by go_simp; rfl) ?_
      go_simp
      refine walk_read (v := .agg (cells8 P)) rfl rfl rfl (fun u hS => exec_mid _ rfl rfl (range_x (hS.blk (cs := c24 P Q R) (by repeat (first | exact List.mem_cons_self | apply List.mem_cons_of_mem))))) ?_
      go_simp
      refine walk_turn (v := ptr w1.drew.heap.size) (w' := w1.drew.alloc (.cells z8 40)) rfl rfl rfl (by go_simp) E1.tail ?_
      go_simp
      refine walk_turn (v := ptr (w1.drew.heap.size + 1)) (w' := (w1.drew.alloc (.cells z8 40)).alloc (.cells z8 40)) rfl rfl rfl (by go_simp) E2.tail.tail ?_
      go_simp
      have x7 := E2.tail.tail.rowIn (g := w1.drew.heap.size) (fun p hp => by simp only [List.mem_cons, List.not_mem_nil, or_false] at hp; rcases hp with rfl | rfl; exact Nat.ne_of_lt (show g3 < _ by simp only [szD]; omega); exact Nat.ne_of_lt (show w.heap.size < _ by simp only [szD]; omega)) (by simp only [szD]; omega) (cells8 X)
      refine walk_store rfl rfl rfl (exec_store8 (n := X) 40 (.tmp 7) (.tmp 38) b0 rfl rfl rfl rfl iWide) x7 ?_
      go_simp
      have x8 := x7.rowIn (g := w1.drew.heap.size + 1) (fun p hp => by simp only [List.mem_cons, List.not_mem_nil, or_false] at hp; rcases hp with rfl | rfl; exact Nat.ne_of_lt (show g3 < _ by simp only [szD]; omega); exact Nat.ne_of_lt (show w.heap.size < _ by simp only [szD]; omega)) (by simp only [szD]; omega) (cells8 P)
      refine walk_store rfl rfl rfl (exec_store8 (n := P) 40 (.tmp 8) (.tmp 40) (b1.rowOther (k := w1.drew.heap.size) (cells8 X) (by omega)) rfl rfl rfl rfl iWide) x8 ?_
      go_simp
      refine walk_end ?_
      have F : Hid (Gen w [(w1.heap.size, 40, cells8 X), (w1.heap.size + 1, 40, cells8 P), (g3, 43, c24 P Q R), (w.heap.size, 43, c24 X Y Z)] ((((w1.alloc (.cells z8 40)).alloc (.cells z8 40)).drew.setRow w1.heap.size (cells8 X)).setRow (w1.heap.size + 1) (cells8 P))) ∧ (g3 ≠ w1.heap.size ∧ w.heap.size ≠ w1.heap.size ∧ g3 ≠ w1.heap.size + 1 ∧ w.heap.size ≠ w1.heap.size + 1) ∧ w.heap.size ≤ w1.heap.size ∧ w.heap.size ≤ w1.heap.size + 1 ∧ w1.heap.size ≠ w1.heap.size + 1 :=
        ⟨hide (x8.more ((b0.row (cells8 X)).rowOther (k := w1.drew.heap.size + 1) (cells8 P) (by omega)) ((b1.rowOther (k := w1.drew.heap.size) (cells8 X) (by omega)).row (cells8 P))), ⟨by omega, by omega, by omega, by omega⟩, by omega, by omega, by omega⟩
      clear E1 E2 b0 b1 x7 x8
      generalize (((w1.alloc (.cells z8 40)).alloc (.cells z8 40)).drew.setRow w1.heap.size (cells8 X)).setRow (w1.heap.size + 1) (cells8 P) = u0 at F ⊢
      generalize w1.heap.size + 1 = c8 at F ⊢
      generalize w1.heap.size = c7 at F ⊢
      exact rest c7 c8 u0 F
    rcases List.mem_cons.1 hl with rfl | hl
    · refine walk_read (v := ?_) rfl rfl rfl (fun u hS => by go_simp; rfl) ?_
      go_simp
      refine walk_read (v := .agg (cells8 X)) rfl rfl rfl (fun u hS => exec_mid _ rfl rfl (range_x (hS.blk (cs := c24 X Y Z) (by repeat (first | exact List.mem_cons_self | apply List.mem_cons_of_mem))))) ?_
      go_simp
      refine walk_read (v := ?_) rfl rfl rfl (fun u hS => by go_simp; rfl) ?_
      go_simp
      refine walk_read (v := .agg (cells8 P)) rfl rfl rfl (fun u hS => exec_mid _ rfl rfl (range_x (hS.blk (cs := c24 P Q R) (by repeat (first | exact List.mem_cons_self | apply List.mem_cons_of_mem))))) ?_
      go_simp
      refine walk_turn (v := ptr w1.drew.heap.size) (w' := w1.drew.alloc (.cells z8 40)) rfl rfl rfl (by go_simp) E1.tail ?_
      go_simp
      refine walk_turn (v := ptr (w1.drew.heap.size + 1)) (w' := (w1.drew.alloc (.cells z8 40)).alloc (.cells z8 40)) rfl rfl rfl (by go_simp) E2.tail.tail ?_
      go_simp
      have x7 := E2.tail.tail.rowIn (g := w1.drew.heap.size + 1) (fun p hp => by simp only [List.mem_cons, List.not_mem_nil, or_false] at hp; rcases hp with rfl | rfl; exact Nat.ne_of_lt (show g3 < _ by simp only [szD]; omega); exact Nat.ne_of_lt (show w.heap.size < _ by simp only [szD]; omega)) (by simp only [szD]; omega) (cells8 X)
      refine walk_store rfl rfl rfl (exec_store8 (n := X) 40 (.tmp 7) (.tmp 38) b1 rfl rfl rfl rfl iWide) x7 ?_
      go_simp
      have x8 := x7.rowIn (g := w1.drew.heap.size) (fun p hp => by simp only [List.mem_cons, List.not_mem_nil, or_false] at hp; rcases hp with rfl | rfl; exact Nat.ne_of_lt (show g3 < _ by simp only [szD]; omega); exact Nat.ne_of_lt (show w.heap.size < _ by simp only [szD]; omega)) (by simp only [szD]; omega) (cells8 P)
      refine walk_store rfl rfl rfl (exec_store8 (n := P) 40 (.tmp 8) (.tmp 40) (b0.rowOther (k := w1.drew.heap.size + 1) (cells8 X) (by omega)) rfl rfl rfl rfl iWide) x8 ?_
      go_simp
      refine walk_end ?_
      have F : Hid (Gen w [(w1.heap.size + 1, 40, cells8 X), (w1.heap.size, 40, cells8 P), (g3, 43, c24 P Q R), (w.heap.size, 43, c24 X Y Z)] ((((w1.alloc (.cells z8 40)).alloc (.cells z8 40)).drew.setRow (w1.heap.size + 1) (cells8 X)).setRow w1.heap.size (cells8 P))) ∧ (g3 ≠ w1.heap.size + 1 ∧ w.heap.size ≠ w1.heap.size + 1 ∧ g3 ≠ w1.heap.size ∧ w.heap.size ≠ w1.heap.size) ∧ w.heap.size ≤ w1.heap.size + 1 ∧ w.heap.size ≤ w1.heap.size ∧ w1.heap.size + 1 ≠ w1.heap.size :=
        ⟨hide (x8.more ((b1.row (cells8 X)).rowOther (k := w1.drew.heap.size) (cells8 P) (by omega)) ((b0.rowOther (k := w1.drew.heap.size + 1) (cells8 X) (by omega)).row (cells8 P))), ⟨by omega, by omega, by omega, by omega⟩, by omega, by omega, by omega⟩
      clear E1 E2 b0 b1 x7 x8
      generalize (((w1.alloc (.cells z8 40)).alloc (.cells z8 40)).drew.setRow (w1.heap.size + 1) (cells8 X)).setRow w1.heap.size (cells8 P) = u0 at F ⊢
      generalize w1.heap.size + 1 = c7 at F ⊢
      generalize w1.heap.size = c8 at F ⊢
      exact rest c7 c8 u0 F
    · cases hl
  intro c7 c8 u0 hH
  obtain ⟨D', hN0, hC7, hC8, hne⟩ := hH
  clear D hlt hw0
  have D := D'
  clear D'
  have hN := hide (fun (p : Nat × TypeId × Array Value) (hp : p ∈ [(g3, 43, c24 P Q R), (w.heap.size, 43, c24 X Y Z)]) => (show p.1 ≠ c7 ∧ p.1 ≠ c8 by
    simp only [List.mem_cons, List.not_mem_nil, or_false] at hp
    rcases hp with rfl | rfl
    · exact ⟨hN0.1, hN0.2.2.1⟩
    · exact ⟨hN0.2.1, hN0.2.2.2⟩))
  clear hN0
  go_simp
  go_upto_region 9 with (first | (with_reducible refine at_list ?_; apply ldG (unhide D) rWide _ rfl rfl rfl (by repeat (first | exact List.mem_cons_self | apply List.mem_cons_of_mem)) rfl) | (go_at_call 46; with_reducible refine (unhide sP _).mono ?_; rintro e w' ⟨he, hb⟩; subst he; have D := hide ((unhide D).keep hb); clear hb) | (with_reducible refine at_list ?_;  refine eqlZ _ _ (unhide q0) rfl rfl rfl rfl ?_))
  generalize hq0 : u0 = v0 at D ⊢
  clear hq0
  have D0 := (unhide D).drew
  have N0 := hide (fun (p : Nat × TypeId × Array Value) hp => unhide hN p hp)
  clear D
  refine region_walk (S := Gen w _) (l := [0, 1, 2, 3, 4, 5]) (t := [4, 5]) (by kernel_rfl) (by kernel_rfl) (by kernel_rfl) (by kernel_rfl) (by kernel_rfl) (by kernel_rfl) (by kernel_rfl) (by kernel_rfl) D0.tail.tail ?_
  refine walk_read (v := ?_) rfl rfl rfl (fun u hS => by go_simp; rfl) ?_
  go_simp
  refine walk_read (v := .agg (cells8 Y)) rfl rfl rfl (fun u hS => exec_mid _ rfl rfl (range_y (hS.blk (cs := c24 X Y Z) (by repeat (first | exact List.mem_cons_self | apply List.mem_cons_of_mem))))) ?_
  go_simp
  refine walk_read (v := ?_) rfl rfl rfl (fun u hS => by go_simp; rfl) ?_
  go_simp
  refine walk_read (v := .agg (cells8 Q)) rfl rfl rfl (fun u hS => exec_mid _ rfl rfl (range_y (hS.blk (cs := c24 P Q R) (by repeat (first | exact List.mem_cons_self | apply List.mem_cons_of_mem))))) ?_
  go_simp
  have b7 := D0.blk (g := c7) (cs := cells8 X) (by repeat (first | exact List.mem_cons_self | apply List.mem_cons_of_mem))
  have b8 := D0.blk (g := c8) (cs := cells8 P) (by repeat (first | exact List.mem_cons_self | apply List.mem_cons_of_mem))
  have e7 := (D0.tail.tail).rowIn (g := c7) (fun p hp => ((unhide hN) p hp).1) hC7 (cells8 Y)
  refine walk_store rfl rfl rfl (exec_store8 (n := Y) 40 (.tmp 7) (.tmp 45) b7 rfl rfl rfl rfl iWide) e7 ?_
  go_simp
  have e8 := e7.rowIn (g := c8) (fun p hp => ((unhide hN) p hp).2) hC8 (cells8 Q)
  refine walk_store rfl rfl rfl (exec_store8 (n := Q) 40 (.tmp 8) (.tmp 47) (b8.rowOther _ (Ne.symm hne)) rfl rfl rfl rfl iWide) e8 ?_
  go_simp
  refine walk_end ?_
  have f7 := (b7.row (cells8 Y)).rowOther (k := c8) (cells8 Q) hne
  have f8 := (b8.rowOther (k := c7) (cells8 Y) (Ne.symm hne)).row (cells8 Q)
  have D := hide (e8.more f7 f8)
  clear D0 b7 b8 e7 e8 f7 f8
  generalize (v0.drew.setRow c7 (cells8 Y)).setRow c8 (cells8 Q) = u1 at D ⊢
  go_upto_region 11 with (first | (with_reducible refine at_list ?_; apply ldG (unhide D) rWide _ rfl rfl rfl (by repeat (first | exact List.mem_cons_self | apply List.mem_cons_of_mem)) rfl) | (go_at_call 46; with_reducible refine (unhide sQ _).mono ?_; rintro e w' ⟨he, hb⟩; subst he; have D := hide ((unhide D).keep hb); clear hb) | (with_reducible refine at_list ?_;  refine eqlZ _ _ (unhide q1) rfl rfl rfl rfl ?_))
  generalize hq1 : u1 = v1 at D ⊢
  clear hq1
  have D0 := (unhide D).drew
  have N0 := hide (fun (p : Nat × TypeId × Array Value) hp => unhide hN p hp)
  clear D
  refine region_walk (S := Gen w _) (l := [0, 1, 2, 3, 4, 5]) (t := [4, 5]) (by kernel_rfl) (by kernel_rfl) (by kernel_rfl) (by kernel_rfl) (by kernel_rfl) (by kernel_rfl) (by kernel_rfl) (by kernel_rfl) D0.tail.tail ?_
  refine walk_read (v := ?_) rfl rfl rfl (fun u hS => by go_simp; rfl) ?_
  go_simp
  refine walk_read (v := .agg (cells8 Z)) rfl rfl rfl (fun u hS => exec_mid _ rfl rfl (range_z (hS.blk (cs := c24 X Y Z) (by repeat (first | exact List.mem_cons_self | apply List.mem_cons_of_mem))))) ?_
  go_simp
  refine walk_read (v := ?_) rfl rfl rfl (fun u hS => by go_simp; rfl) ?_
  go_simp
  refine walk_read (v := .agg (cells8 R)) rfl rfl rfl (fun u hS => exec_mid _ rfl rfl (range_z (hS.blk (cs := c24 P Q R) (by repeat (first | exact List.mem_cons_self | apply List.mem_cons_of_mem))))) ?_
  go_simp
  have b7 := D0.blk (g := c7) (cs := cells8 Y) (by repeat (first | exact List.mem_cons_self | apply List.mem_cons_of_mem))
  have b8 := D0.blk (g := c8) (cs := cells8 Q) (by repeat (first | exact List.mem_cons_self | apply List.mem_cons_of_mem))
  have e7 := (D0.tail.tail).rowIn (g := c7) (fun p hp => ((unhide hN) p hp).1) hC7 (cells8 Z)
  refine walk_store rfl rfl rfl (exec_store8 (n := Z) 40 (.tmp 7) (.tmp 52) b7 rfl rfl rfl rfl iWide) e7 ?_
  go_simp
  have e8 := e7.rowIn (g := c8) (fun p hp => ((unhide hN) p hp).2) hC8 (cells8 R)
  refine walk_store rfl rfl rfl (exec_store8 (n := R) 40 (.tmp 8) (.tmp 54) (b8.rowOther _ (Ne.symm hne)) rfl rfl rfl rfl iWide) e8 ?_
  go_simp
  refine walk_end ?_
  have f7 := (b7.row (cells8 Z)).rowOther (k := c8) (cells8 R) hne
  have f8 := (b8.rowOther (k := c7) (cells8 Z) (Ne.symm hne)).row (cells8 R)
  have D := hide (e8.more f7 f8)
  clear D0 b7 b8 e7 e8 f7 f8
  generalize (v1.drew.setRow c7 (cells8 Z)).setRow c8 (cells8 R) = u2 at D ⊢
  go_upto_region 13 with (first | (with_reducible refine at_list ?_; apply ldG (unhide D) rWide _ rfl rfl rfl (by repeat (first | exact List.mem_cons_self | apply List.mem_cons_of_mem)) rfl) | (go_at_call 46; with_reducible refine (unhide sR _).mono ?_; rintro e w' ⟨he, hb⟩; subst he; have D := hide ((unhide D).keep hb); clear hb) | (with_reducible refine at_list ?_;  refine eqlZ _ _ (unhide q2) rfl rfl rfl rfl ?_) | (go_at_call 50; with_reducible refine (unhide hD _).mono ?_; rintro e w' ⟨he, hb⟩; subst he; have D := hide ((unhide D).keep hb); clear hb) | (with_reducible refine at_list ?_;  refine st2 (unhide D) _ _ _ _ rfl rfl rfl rfl rfl rfl rfl rfl rfl rfl ?_; intro u D'; have D := hide D'; clear D'))
  refine region_plan (S := Gen w _) (l := [0, 1, 2, 3, 4, 5, 6, 7, 8, 9, 10, 11, 12, 13, 14, 15, 16, 17, 18, 19, 20, 21, 22, 23, 24, 25, 26, 27, 28, 29, 30, 31, 32, 33, 34, 35, 36, 37, 38, 39, 40, 41]) (by kernel_rfl) (by kernel_rfl) (by kernel_rfl) (by kernel_rfl) (by kernel_rfl) (by kernel_rfl) (by kernel_rfl) (unhide D).drew ?_
  clear D
  refine plan_read (v := ?_) rfl rfl (fun u hS => by go_simp; rfl) ?_
  go_simp
  refine plan_read (v := ?_) rfl rfl (fun u hS => by go_simp; rfl) ?_
  go_simp
  refine plan_read (v := .agg (cells8 L)) rfl rfl (fun u hS => exec_ldG hS rWide _ rfl rfl (by repeat (first | exact List.mem_cons_self | apply List.mem_cons_of_mem)) rfl) ?_
  go_simp
  refine plan_call (v := (.int .i64 0)) (f := 46) (args := #[.agg (cells8 L)]) rfl rfl (fun u hS => by go_simp) (fun u hS => (unhide sL u).mono fun _ _ ⟨he, hb⟩ => ⟨he, hS.keep hb⟩) ?_
  go_simp
  refine plan_read (v := ?_) rfl rfl (fun u hS => by go_simp; rfl) ?_
  go_simp
  refine plan_read (v := ?_) rfl rfl (fun u hS => by go_simp; rfl) ?_
  go_simp
  refine plan_read (v := ?_) rfl rfl (fun u hS => by go_simp; rfl) ?_
  go_simp
  refine plan_read (v := .agg (cells8 K)) rfl rfl (fun u hS => exec_ldG hS rWide _ rfl rfl (by repeat (first | exact List.mem_cons_self | apply List.mem_cons_of_mem)) rfl) ?_
  go_simp
  refine plan_call (v := (.int .i64 1)) (f := 46) (args := #[.agg (cells8 K)]) rfl rfl (fun u hS => by go_simp) (fun u hS => (unhide sK u).mono fun _ _ ⟨he, hb⟩ => ⟨he, hS.keep hb⟩) ?_
  go_simp
  refine plan_read (v := ?_) rfl rfl (fun u hS => by go_simp; rfl) ?_
  go_simp
  refine plan_read (v := ?_) rfl rfl (fun u hS => by go_simp; rfl) ?_
  go_simp
  refine plan_read (v := ?_) rfl rfl (fun u hS => by go_simp; rfl) ?_
  go_simp
  refine plan_read (v := .agg (cells8 K)) rfl rfl (fun u hS => exec_ldG hS rWide _ rfl rfl (by repeat (first | exact List.mem_cons_self | apply List.mem_cons_of_mem)) rfl) ?_
  go_simp
  refine plan_read (v := ?_) rfl rfl (fun u hS => by go_simp; rfl) ?_
  go_simp
  refine plan_read (v := .agg (cells8 P)) rfl rfl (fun u hS => exec_mid _ rfl rfl (range_x (hS.blk (cs := c24 P Q R) (by repeat (first | exact List.mem_cons_self | apply List.mem_cons_of_mem))))) ?_
  go_simp
  refine plan_call (v := (.agg (cells8 X))) (f := 45) (args := #[.agg (cells8 K), .agg (cells8 P)]) rfl rfl (fun u hS => by go_simp) (fun u hS => (unhide t1 u).mono fun _ _ ⟨he, hb⟩ => ⟨he, hS.keep hb⟩) ?_
  go_simp
  refine plan_read (v := ?_) rfl rfl (fun u hS => by go_simp; rfl) ?_
  go_simp
  refine plan_read (v := .agg (cells8 X)) rfl rfl (fun u hS => exec_mid _ rfl rfl (range_x (hS.blk (cs := c24 X Y Z) (by repeat (first | exact List.mem_cons_self | apply List.mem_cons_of_mem))))) ?_
  go_simp
  refine plan_read (v := .bool true) rfl rfl (fun u hS => exec_eql_wide_is u _ _ eX rfl rfl rfl) ?_
  go_simp
  refine plan_read (v := ?_) rfl rfl (fun u hS => by go_simp; rfl) ?_
  go_simp
  refine plan_read (v := ?_) rfl rfl (fun u hS => by go_simp; rfl) ?_
  go_simp
  refine plan_read (v := .agg (cells8 K)) rfl rfl (fun u hS => exec_ldG hS rWide _ rfl rfl (by repeat (first | exact List.mem_cons_self | apply List.mem_cons_of_mem)) rfl) ?_
  go_simp
  refine plan_read (v := ?_) rfl rfl (fun u hS => by go_simp; rfl) ?_
  go_simp
  refine plan_read (v := .agg (cells8 Q)) rfl rfl (fun u hS => exec_mid _ rfl rfl (range_y (hS.blk (cs := c24 P Q R) (by repeat (first | exact List.mem_cons_self | apply List.mem_cons_of_mem))))) ?_
  go_simp
  refine plan_call (v := (.agg (cells8 Y))) (f := 45) (args := #[.agg (cells8 K), .agg (cells8 Q)]) rfl rfl (fun u hS => by go_simp) (fun u hS => (unhide t2 u).mono fun _ _ ⟨he, hb⟩ => ⟨he, hS.keep hb⟩) ?_
  go_simp
  refine plan_read (v := ?_) rfl rfl (fun u hS => by go_simp; rfl) ?_
  go_simp
  refine plan_read (v := .agg (cells8 Y)) rfl rfl (fun u hS => exec_mid _ rfl rfl (range_y (hS.blk (cs := c24 X Y Z) (by repeat (first | exact List.mem_cons_self | apply List.mem_cons_of_mem))))) ?_
  go_simp
  refine plan_read (v := .bool true) rfl rfl (fun u hS => exec_eql_wide_is u _ _ eY rfl rfl rfl) ?_
  go_simp
  refine plan_read (v := ?_) rfl rfl (fun u hS => by go_simp; rfl) ?_
  go_simp
  refine plan_read (v := ?_) rfl rfl (fun u hS => by go_simp; rfl) ?_
  go_simp
  refine plan_read (v := .agg (cells8 K)) rfl rfl (fun u hS => exec_ldG hS rWide _ rfl rfl (by repeat (first | exact List.mem_cons_self | apply List.mem_cons_of_mem)) rfl) ?_
  go_simp
  refine plan_read (v := ?_) rfl rfl (fun u hS => by go_simp; rfl) ?_
  go_simp
  refine plan_read (v := .agg (cells8 R)) rfl rfl (fun u hS => exec_mid _ rfl rfl (range_z (hS.blk (cs := c24 P Q R) (by repeat (first | exact List.mem_cons_self | apply List.mem_cons_of_mem))))) ?_
  go_simp
  refine plan_call (v := (.agg (cells8 Z))) (f := 45) (args := #[.agg (cells8 K), .agg (cells8 R)]) rfl rfl (fun u hS => by go_simp) (fun u hS => (unhide t3 u).mono fun _ _ ⟨he, hb⟩ => ⟨he, hS.keep hb⟩) ?_
  go_simp
  refine plan_read (v := ?_) rfl rfl (fun u hS => by go_simp; rfl) ?_
  go_simp
  refine plan_read (v := .agg (cells8 Z)) rfl rfl (fun u hS => exec_mid _ rfl rfl (range_z (hS.blk (cs := c24 X Y Z) (by repeat (first | exact List.mem_cons_self | apply List.mem_cons_of_mem))))) ?_
  go_simp
  refine plan_read (v := .bool true) rfl rfl (fun u hS => exec_eql_wide_is u _ _ eZ rfl rfl rfl) ?_
  go_simp
  refine plan_read (v := ?_) rfl rfl (fun u hS => by go_simp; rfl) ?_
  go_simp
  refine plan_read (v := ?_) rfl rfl (fun u hS => by go_simp; rfl) ?_
  go_simp
  refine plan_call (v := (.bool true)) (f := 28) (args := #[]) rfl rfl (fun u hS => by go_simp) (fun u hS => (unhide haw u).mono fun _ _ ⟨he, hb⟩ => ⟨he, hS.keep hb⟩) ?_
  go_simp
  refine plan_read (v := ?_) rfl rfl (fun u hS => by go_simp; rfl) ?_
  go_simp
  refine plan_read (v := ?_) rfl rfl (fun u hS => by go_simp; rfl) ?_
  go_simp
  refine plan_end (fun u hS => ?_)
  have O := hide hS.o
  clear hS
  go_wp2
  go_ret
  exact ⟨rfl, unhide O⟩
set_option maxHeartbeats 2000000 in
theorem same_no (X Y Z : Nat) (w : World) (h1 : Hid (Ans 41 #[.agg (c24 X Y Z)] (.tuple #[.agg (c24 0 0 0), .bool false]))) (sE : same3 0 0 0 0 0 0 = true) (haw : Hid (Ans 28 #[] (.bool true))) :
    Calls Try.prog 11 #[.agg (c24 X Y Z)] w fun e w' => e = .returned (.bool true) ∧ Below w.heap.size w w' := by
  go_enter Try.func11, Try.ntmps11
  go_upto_region 1 with fail
  have D := hide ((Gen.start w).push 43 (c24 X Y Z))
  go_wp2_with (first | (with_reducible refine at_list ?_; apply ldG (unhide D) rSpan _ rfl rfl rfl (by repeat (first | exact List.mem_cons_self | apply List.mem_cons_of_mem)) rfl) | (go_at_call 41; with_reducible refine (unhide h1 _).mono ?_; rintro e w' ⟨he, hb⟩; subst he; have D := hide ((unhide D).keep hb); clear hb) | (with_reducible refine at_list ?_; refine stG (unhide D) rSpan _ _ rfl rfl rfl rfl rfl rfl (c24_one _ _ _) ?_; intro D'; have D := hide D'; clear D') | (with_reducible refine at_list ?_;  refine wpList_value rfl (exec_build0 _ 43 rfl bSpan0) ?_) | (with_reducible refine at_list ?_;  refine eqlN _ _ _ sE rfl rfl rfl rfl ?_) | (go_at_call 28; with_reducible refine (unhide haw _).mono ?_; rintro e w' ⟨he, hb⟩; subst he; have D := hide ((unhide D).keep hb); clear hb))
  go_ret
  exact ⟨rfl, (unhide D).o⟩

end Go.Proofs.Ytbgafjdgahikcaa
