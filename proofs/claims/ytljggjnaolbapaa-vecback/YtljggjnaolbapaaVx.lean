/- Package vec's laws: the exact square. Package vec's laws: VecLength. -/
import Derived.Test.YtljggjnaolbapaaVu
namespace Go.Proofs.Ytljggjnaolbapaa
open Go.RowKit
set_option maxRecDepth 4000
set_option linter.unusedVariables false

set_option maxHeartbeats 4000000 in
theorem square3_core (ax ay az : Int) (A B C' P Q R S T : Nat) (E : Bool) (w : World) (hA : Hid (Ans 26 #[.int .i64 ax] (.agg (cells8 A)))) (hB' : Hid (Ans 26 #[.int .i64 ay] (.agg (cells8 B)))) (hC' : Hid (Ans 26 #[.int .i64 az] (.agg (cells8 C'))))
    (hP : Hid (Ans 64 #[.agg (cells8 A), .agg (cells8 A)] (.tuple #[.agg (cells8 P), .bool E]))) (hQ : Hid (Ans 64 #[.agg (cells8 B), .agg (cells8 B)] (.tuple #[.agg (cells8 Q), .bool E]))) (hR : Hid (Ans 64 #[.agg (cells8 C'), .agg (cells8 C')] (.tuple #[.agg (cells8 R), .bool E])))
    (hS' : Hid (Ans 28 #[.agg (cells8 P), .agg (cells8 Q)] (.tuple #[.agg (cells8 S), .bool E]))) (hT : Hid (Ans 28 #[.agg (cells8 S), .agg (cells8 R)] (.tuple #[.agg (cells8 T), .bool E]))) :
    Calls Try.prog 22 #[.agg (v3 ax ay az)] w fun e w' => e = .returned (.agg (cells8 T)) ∧ Below w.heap.size w w' := by
  go_enter Try.func22, Try.ntmps22
  go_upto_region 1 with fail
  have D := hide (((Gen.start w).push 24 (v3 ax ay az)).push 34 z8)
  simp only [szA] at D
  have D1 : Hid (GenZ w _ _ _) := ⟨(unhide D).drew, Nat.le_refl _⟩
  have hlt := hide (fun (p : Nat × TypeId × Array Value) hp => ((unhide D).at_ p hp).lt)
  have hw0 := hide (unhide D).o.size
  clear D
  generalize hZ : ((w.alloc (.cells (v3 ax ay az) 24)).alloc (.cells z8 34)) = wz at *
  have hds : wz.drew.heap.size = wz.heap.size := rfl
  rw [hds] at D1
  generalize wz.heap.size = C at D1 hlt hw0
  refine region_lazy (S := GenZ w _ C) (v := .bool E) (ty := 34) (zs := z8) (base := C) (l := [0, 1, 2, 3, 4, 5, 6, 7, 8]) (A := [10]) (z := 9) (t := 11) (r := [12]) (by kernel_rfl) (by kernel_rfl) (by kernel_rfl) (by kernel_rfl) (by kernel_rfl) (by kernel_rfl) (by kernel_rfl) (by kernel_rfl) (by kernel_rfl) (by kernel_rfl) rfl rfl ?_ (fun _ _ h hb => h.keep hb) (fun _ h => h.s) (unhide D1) ?_
  · intro i hi
    simp at hi
    subst hi
    exact ⟨_, rfl, rfl, fun a w => by go_simp⟩
  clear D1
  refine planB_read (v := ?_) rfl rfl (fun u hS => by go_simp; rfl) ?_
  go_simp
  refine planB_read (v := .int .i64 ax) rfl rfl (fun u hS => exec_loadFG hS.e _ rfl rfl (by repeat (first | exact List.mem_cons_self | apply List.mem_cons_of_mem)) rfl) ?_
  go_simp
  refine planB_call (v := .agg (cells8 A)) (f := 26) (args := #[.int .i64 ax]) rfl rfl (fun u hS => by go_simp) (fun u hS => (unhide hA u).mono fun _ _ ⟨he, hb⟩ => ⟨he, hS.keep hb, hb⟩) ?_
  go_simp
  refine planB_read (v := ?_) rfl rfl (fun u hS => by go_simp; rfl) ?_
  go_simp
  refine planB_read (v := .int .i64 ax) rfl rfl (fun u hS => exec_loadFG hS.e _ rfl rfl (by repeat (first | exact List.mem_cons_self | apply List.mem_cons_of_mem)) rfl) ?_
  go_simp
  refine planB_call (v := .agg (cells8 A)) (f := 26) (args := #[.int .i64 ax]) rfl rfl (fun u hS => by go_simp) (fun u hS => (unhide hA u).mono fun _ _ ⟨he, hb⟩ => ⟨he, hS.keep hb, hb⟩) ?_
  go_simp
  refine planB_call (v := .tuple #[.agg (cells8 P), .bool E]) (f := 64) (args := #[.agg (cells8 A), .agg (cells8 A)]) rfl rfl (fun u hS => by go_simp) (fun u hS => (unhide hP u).mono fun _ _ ⟨he, hb⟩ => ⟨he, hS.keep hb, hb⟩) ?_
  go_simp
  refine planB_read (v := ?_) rfl rfl (fun u hS => by go_simp; rfl) ?_
  go_simp
  refine planB_read (v := ?_) rfl rfl (fun u hS => by go_simp; rfl) ?_
  go_simp
  refine planB_lazy rfl (fun u => by go_simp) rfl rfl (fun c u hS hB hI2 => ?_)
  have hB7 := hB 10 (by simp)
  clear hB hI2
  simp only [pa, dstOf]
  generalize c 10 = g1 at hB7 ⊢
  have D := hide (hS.e.fillZ (cs := cells8 P) (unhide hlt) (unhide hw0) hB7.1 hB7.2)
  refine ⟨_, exec_store8 (n := P) 34 (.tmp 3) (.tmp 21) hB7.1 rfl rfl rfl rfl iWide, ?_⟩
  clear hS hB7 hlt hw0 hZ hds
  generalize u.setRow g1 (cells8 P) = u1 at D ⊢
  simp only [opsOf]
  go_simp
  go_upto_region 2 with fail
  have D1 : Hid (GenZ w _ _ _) := ⟨(unhide D).drew, Nat.le_refl _⟩
  have hlt := hide (fun (p : Nat × TypeId × Array Value) hp => ((unhide D).at_ p hp).lt)
  have hw0 := hide (unhide D).o.size
  clear D
  generalize hZ : u1 = wz at *
  have hds : wz.drew.heap.size = wz.heap.size := rfl
  rw [hds] at D1
  generalize wz.heap.size = C at D1 hlt hw0
  refine region_lazy (S := GenZ w _ C) (v := .bool E) (ty := 34) (zs := z8) (base := C) (l := [0, 1, 2, 3, 4, 5, 6, 7, 8]) (A := [10]) (z := 9) (t := 11) (r := [12]) (by kernel_rfl) (by kernel_rfl) (by kernel_rfl) (by kernel_rfl) (by kernel_rfl) (by kernel_rfl) (by kernel_rfl) (by kernel_rfl) (by kernel_rfl) (by kernel_rfl) rfl rfl ?_ (fun _ _ h hb => h.keep hb) (fun _ h => h.s) (unhide D1) ?_
  · intro i hi
    simp at hi
    subst hi
    exact ⟨_, rfl, rfl, fun a w => by go_simp⟩
  clear D1
  refine planB_read (v := ?_) rfl rfl (fun u hS => by go_simp; rfl) ?_
  go_simp
  refine planB_read (v := .int .i64 ay) rfl rfl (fun u hS => exec_loadFG hS.e _ rfl rfl (by repeat (first | exact List.mem_cons_self | apply List.mem_cons_of_mem)) rfl) ?_
  go_simp
  refine planB_call (v := .agg (cells8 B)) (f := 26) (args := #[.int .i64 ay]) rfl rfl (fun u hS => by go_simp) (fun u hS => (unhide hB' u).mono fun _ _ ⟨he, hb⟩ => ⟨he, hS.keep hb, hb⟩) ?_
  go_simp
  refine planB_read (v := ?_) rfl rfl (fun u hS => by go_simp; rfl) ?_
  go_simp
  refine planB_read (v := .int .i64 ay) rfl rfl (fun u hS => exec_loadFG hS.e _ rfl rfl (by repeat (first | exact List.mem_cons_self | apply List.mem_cons_of_mem)) rfl) ?_
  go_simp
  refine planB_call (v := .agg (cells8 B)) (f := 26) (args := #[.int .i64 ay]) rfl rfl (fun u hS => by go_simp) (fun u hS => (unhide hB' u).mono fun _ _ ⟨he, hb⟩ => ⟨he, hS.keep hb, hb⟩) ?_
  go_simp
  refine planB_call (v := .tuple #[.agg (cells8 Q), .bool E]) (f := 64) (args := #[.agg (cells8 B), .agg (cells8 B)]) rfl rfl (fun u hS => by go_simp) (fun u hS => (unhide hQ u).mono fun _ _ ⟨he, hb⟩ => ⟨he, hS.keep hb, hb⟩) ?_
  go_simp
  refine planB_read (v := ?_) rfl rfl (fun u hS => by go_simp; rfl) ?_
  go_simp
  refine planB_read (v := ?_) rfl rfl (fun u hS => by go_simp; rfl) ?_
  go_simp
  refine planB_lazy rfl (fun u => by go_simp) rfl rfl (fun c u hS hB hI2 => ?_)
  have hB7 := hB 10 (by simp)
  clear hB hI2
  simp only [pa, dstOf]
  generalize c 10 = g2 at hB7 ⊢
  have D := hide (hS.e.fillZ (cs := cells8 Q) (unhide hlt) (unhide hw0) hB7.1 hB7.2)
  refine ⟨_, exec_store8 (n := Q) 34 (.tmp 5) (.tmp 31) hB7.1 rfl rfl rfl rfl iWide, ?_⟩
  clear hS hB7 hlt hw0 hZ hds
  generalize u.setRow g2 (cells8 Q) = u2 at D ⊢
  simp only [opsOf]
  go_simp
  go_upto_region 3 with fail
  have D1 : Hid (GenZ w _ _ _) := ⟨(unhide D).drew, Nat.le_refl _⟩
  have hlt := hide (fun (p : Nat × TypeId × Array Value) hp => ((unhide D).at_ p hp).lt)
  have hw0 := hide (unhide D).o.size
  clear D
  generalize hZ : u2 = wz at *
  have hds : wz.drew.heap.size = wz.heap.size := rfl
  rw [hds] at D1
  generalize wz.heap.size = C at D1 hlt hw0
  refine region_lazy (S := GenZ w _ C) (v := .bool E) (ty := 34) (zs := z8) (base := C) (l := [0, 1, 2, 3, 4, 5, 6, 7, 8]) (A := [10]) (z := 9) (t := 11) (r := [12]) (by kernel_rfl) (by kernel_rfl) (by kernel_rfl) (by kernel_rfl) (by kernel_rfl) (by kernel_rfl) (by kernel_rfl) (by kernel_rfl) (by kernel_rfl) (by kernel_rfl) rfl rfl ?_ (fun _ _ h hb => h.keep hb) (fun _ h => h.s) (unhide D1) ?_
  · intro i hi
    simp at hi
    subst hi
    exact ⟨_, rfl, rfl, fun a w => by go_simp⟩
  clear D1
  refine planB_read (v := ?_) rfl rfl (fun u hS => by go_simp; rfl) ?_
  go_simp
  refine planB_read (v := .int .i64 az) rfl rfl (fun u hS => exec_loadFG hS.e _ rfl rfl (by repeat (first | exact List.mem_cons_self | apply List.mem_cons_of_mem)) rfl) ?_
  go_simp
  refine planB_call (v := .agg (cells8 C')) (f := 26) (args := #[.int .i64 az]) rfl rfl (fun u hS => by go_simp) (fun u hS => (unhide hC' u).mono fun _ _ ⟨he, hb⟩ => ⟨he, hS.keep hb, hb⟩) ?_
  go_simp
  refine planB_read (v := ?_) rfl rfl (fun u hS => by go_simp; rfl) ?_
  go_simp
  refine planB_read (v := .int .i64 az) rfl rfl (fun u hS => exec_loadFG hS.e _ rfl rfl (by repeat (first | exact List.mem_cons_self | apply List.mem_cons_of_mem)) rfl) ?_
  go_simp
  refine planB_call (v := .agg (cells8 C')) (f := 26) (args := #[.int .i64 az]) rfl rfl (fun u hS => by go_simp) (fun u hS => (unhide hC' u).mono fun _ _ ⟨he, hb⟩ => ⟨he, hS.keep hb, hb⟩) ?_
  go_simp
  refine planB_call (v := .tuple #[.agg (cells8 R), .bool E]) (f := 64) (args := #[.agg (cells8 C'), .agg (cells8 C')]) rfl rfl (fun u hS => by go_simp) (fun u hS => (unhide hR u).mono fun _ _ ⟨he, hb⟩ => ⟨he, hS.keep hb, hb⟩) ?_
  go_simp
  refine planB_read (v := ?_) rfl rfl (fun u hS => by go_simp; rfl) ?_
  go_simp
  refine planB_read (v := ?_) rfl rfl (fun u hS => by go_simp; rfl) ?_
  go_simp
  refine planB_lazy rfl (fun u => by go_simp) rfl rfl (fun c u hS hB hI2 => ?_)
  have hB7 := hB 10 (by simp)
  clear hB hI2
  simp only [pa, dstOf]
  generalize c 10 = g3 at hB7 ⊢
  have D := hide (hS.e.fillZ (cs := cells8 R) (unhide hlt) (unhide hw0) hB7.1 hB7.2)
  refine ⟨_, exec_store8 (n := R) 34 (.tmp 7) (.tmp 41) hB7.1 rfl rfl rfl rfl iWide, ?_⟩
  clear hS hB7 hlt hw0 hZ hds
  generalize u.setRow g3 (cells8 R) = u3 at D ⊢
  simp only [opsOf]
  go_simp
  go_wp2_with (first | (with_reducible refine at_list ?_; apply ldG (unhide D) rWide _ rfl rfl rfl (by repeat (first | exact List.mem_cons_self | apply List.mem_cons_of_mem)) rfl) | (go_at_call 28; with_reducible refine (unhide hS' _).mono ?_; rintro e w' ⟨he, hb⟩; subst he; have D := hide ((unhide D).keep hb); clear hb) | (go_at_call 28; with_reducible refine (unhide hT _).mono ?_; rintro e w' ⟨he, hb⟩; subst he; have D := hide ((unhide D).keep hb); clear hb) | (with_reducible refine at_list ?_; refine stG (unhide D) rWide _ _ rfl rfl rfl rfl rfl rfl (cells8_one _) ?_; intro D'; have D := hide D'; clear D') | (with_reducible refine at_list ?_; apply stGend (unhide D) rWide _ _ rfl rfl rfl rfl (by repeat (first | exact List.mem_cons_self | apply List.mem_cons_of_mem)) (by omega) rfl rfl (cells8_one _); intro B O))
  exact resG rWide (unhide B) rfl rfl rfl rfl ⟨rfl, unhide O⟩
theorem add_told {k : Nat} {x y : Int} (hx : Sz k x) (hy : Sz k y) (hk : k ≤ 500) : Ans 28 #[V x, V y] (.tuple #[V (x + y), .bool true]) := fun u => by
  have t := AddZ x y (hx.fit (by omega)) (hy.fit (by omega)) u
  rw [toldZ_fit ((hx.add hy).fit (by omega))] at t
  exact t
theorem Square3Z (x y z : Int) (h1 : I64 x) (h2 : I64 y) (h3 : I64 z) : Ans 22 #[.agg (v3 x y z)] (V (sqr x y z)) := fun w =>
  have s1 := h1.sz.mul h1.sz
  have s2 := h2.sz.mul h2.sz
  have s3 := h3.sz.mul h3.sz
  square3_core x y z _ _ _ _ _ _ _ _ true w (fun u => OfZ x h1.1 h1.2 u) (fun u => OfZ y h2.1 h2.2 u) (fun u => OfZ z h3.1 h3.2 u) (mul_told _ _ h1.sz h1.sz (by decide)) (mul_told _ _ h2.sz h2.sz (by decide)) (mul_told _ _ h3.sz h3.sz (by decide))
    (add_told s1 s2 (by decide)) (add_told (s1.add s2) (s3.mono (by decide)) (by decide))

end Go.Proofs.Ytljggjnaolbapaa

namespace Go.Proofs.Ytljggjnaolbapaa
open Go.RowKit
set_option maxRecDepth 4000
set_option linter.unusedVariables false

section
variable {ops : Array Oper} {rest : List Oper} {o : Oper} {a : Act} {w w0 : World} {Q : Exit → Act → World → Prop} {l : List (Nat × TypeId × Array Value)} {g n m : Nat}
/-- A number into the first of three new blocks. -/
theorem stThree1 (d : Gen w0 l w) (x y : Operand) (ho : o.op = .store 34 x y) (hgd : o.guard = none) (hx : a.eval x = ptr w.heap.size) (hy : a.eval y = .agg (cells8 n))
    (h : ∀ w', Hid (Gen w0 ((w.heap.size + 1 + 1, 34, z8) :: (w.heap.size + 1, 34, z8) :: (w.heap.size, 34, cells8 n) :: l) w') → Hid (∀ p ∈ l, p.1 < w.heap.size) → Hid (w0.heap.size ≤ w.heap.size) → wpList Try.prog ops Q rest (a.put o.dst undef) w') :
    wpList Try.prog ops Q (o :: rest) a (((w.alloc (.cells z8 34)).alloc (.cells z8 34)).alloc (.cells z8 34)) := by
  have d3 := ((d.push 34 z8).push 34 z8).push 34 z8
  simp only [szA] at d3
  have lt : ∀ p ∈ l, p.1 < w.heap.size := fun p hp => (d.at_ p hp).lt
  refine st8 34 x y (d3.blk (g := w.heap.size) (t := 34) (cs := z8) (by repeat (first | exact List.mem_cons_self | apply List.mem_cons_of_mem))) rfl ho hgd hx hy iWide (h _ ?_ lt d.o.size)
  refine ⟨fun p hp => ?_, below_row d3.o d.o.size _⟩
  simp only [List.mem_cons] at hp
  rcases hp with rfl | rfl | rfl | hp
  · exact (d3.blk (by repeat (first | exact List.mem_cons_self | apply List.mem_cons_of_mem))).rowOther _ (by omega)
  · exact (d3.blk (by repeat (first | exact List.mem_cons_self | apply List.mem_cons_of_mem))).rowOther _ (by omega)
  · exact (d3.blk (g := w.heap.size) (t := 34) (cs := z8) (by repeat (first | exact List.mem_cons_self | apply List.mem_cons_of_mem))).row _
  · have := lt p hp
    exact (d3.at_ p (by simp only [List.mem_cons]; exact .inr (.inr (.inr hp)))).rowOther _ (by omega)
/-- Into the second, the third. -/
theorem stThree2 {s : Nat} {c0 : Array Value} (d : Gen w0 ((s + 1 + 1, 34, z8) :: (s + 1, 34, z8) :: (s, 34, c0) :: l) w) (lt : ∀ p ∈ l, p.1 < s) (h0 : w0.heap.size ≤ s) (x y : Operand) (ho : o.op = .store 34 x y) (hgd : o.guard = none) (hx : a.eval x = ptr (s + 1)) (hy : a.eval y = .agg (cells8 n))
    (h : ∀ w', Hid (Gen w0 ((s + 1 + 1, 34, z8) :: (s + 1, 34, cells8 n) :: (s, 34, c0) :: l) w') → wpList Try.prog ops Q rest (a.put o.dst undef) w') : wpList Try.prog ops Q (o :: rest) a w := by
  refine st8 34 x y (d.blk (g := s + 1) (t := 34) (cs := z8) (by repeat (first | exact List.mem_cons_self | apply List.mem_cons_of_mem))) rfl ho hgd hx hy iWide (h _ ?_)
  refine ⟨fun p hp => ?_, below_row d.o (by omega) _⟩
  simp only [List.mem_cons] at hp
  rcases hp with rfl | rfl | rfl | hp
  · exact (d.blk (by repeat (first | exact List.mem_cons_self | apply List.mem_cons_of_mem))).rowOther _ (by omega)
  · exact (d.blk (g := s + 1) (t := 34) (cs := z8) (by repeat (first | exact List.mem_cons_self | apply List.mem_cons_of_mem))).row _
  · exact (d.blk (by repeat (first | exact List.mem_cons_self | apply List.mem_cons_of_mem))).rowOther _ (by omega)
  · have := lt p hp
    exact (d.at_ p (by simp only [List.mem_cons]; exact .inr (.inr (.inr hp)))).rowOther _ (by omega)
theorem stThree3 {s : Nat} {c0 c1 : Array Value} (d : Gen w0 ((s + 1 + 1, 34, z8) :: (s + 1, 34, c1) :: (s, 34, c0) :: l) w) (lt : ∀ p ∈ l, p.1 < s) (h0 : w0.heap.size ≤ s) (x y : Operand) (ho : o.op = .store 34 x y) (hgd : o.guard = none) (hx : a.eval x = ptr (s + 1 + 1)) (hy : a.eval y = .agg (cells8 n))
    (h : ∀ w', Hid (Gen w0 ((s + 1 + 1, 34, cells8 n) :: (s + 1, 34, c1) :: (s, 34, c0) :: l) w') → wpList Try.prog ops Q rest (a.put o.dst undef) w') : wpList Try.prog ops Q (o :: rest) a w := by
  refine st8 34 x y (d.blk (g := s + 1 + 1) (t := 34) (cs := z8) (by repeat (first | exact List.mem_cons_self | apply List.mem_cons_of_mem))) rfl ho hgd hx hy iWide (h _ ?_)
  refine ⟨fun p hp => ?_, below_row d.o (by omega) _⟩
  simp only [List.mem_cons] at hp
  rcases hp with rfl | rfl | rfl | hp
  · exact (d.blk (g := s + 1 + 1) (t := 34) (cs := z8) (by repeat (first | exact List.mem_cons_self | apply List.mem_cons_of_mem))).row _
  · exact (d.blk (by repeat (first | exact List.mem_cons_self | apply List.mem_cons_of_mem))).rowOther _ (by omega)
  · exact (d.blk (by repeat (first | exact List.mem_cons_self | apply List.mem_cons_of_mem))).rowOther _ (by omega)
  · have := lt p hp
    exact (d.at_ p (by simp only [List.mem_cons]; exact .inr (.inr (.inr hp)))).rowOther _ (by omega)
end
theorem vlength_max (ax ay az l t : Int) (w : World) (hm : (t == 9223372036854775807) = true) (hL : decide (l ≤ t) = true) (h1 : Hid (Ans 20 #[.agg (v3 ax ay az)] (.int .i64 l))) (h2 : Hid (Ans 21 #[.agg (v3 ax ay az)] (.int .i64 t))) :
    Calls Try.prog 4 #[.agg (v3 ax ay az)] w fun e w' => e = .returned (.bool true) ∧ Below w.heap.size w w' := by
  have hW : Hid (Ans 19 #[] (.bool true)) := awake3Z
  go_enter Try.func4, Try.ntmps4
  go_upto_region 1 with fail
  have D := hide ((Gen.start w).push 24 (v3 ax ay az))
  refine region_plan (S := Gen w _) (l := [0, 1, 2, 3, 4, 5]) (by kernel_rfl) (by kernel_rfl) (by kernel_rfl) (by kernel_rfl) (by kernel_rfl) (by kernel_rfl) (by kernel_rfl) (unhide D).drew ?_
  clear D
  refine plan_read (v := .agg (v3 ax ay az)) rfl rfl (fun u hS => exec_loadG hS rVec _ rfl rfl (by repeat (first | exact List.mem_cons_self | apply List.mem_cons_of_mem)) rfl) ?_
  go_simp
  refine plan_call (v := .int .i64 l) (f := 20) (args := #[.agg (v3 ax ay az)]) rfl rfl (fun u hS => by go_simp) (fun u hS => (unhide h1 u).mono fun _ _ ⟨he, hb⟩ => ⟨he, hS.keep hb⟩) ?_
  go_simp
  refine plan_read (v := .agg (v3 ax ay az)) rfl rfl (fun u hS => exec_loadG hS rVec _ rfl rfl (by repeat (first | exact List.mem_cons_self | apply List.mem_cons_of_mem)) rfl) ?_
  go_simp
  refine plan_call (v := .int .i64 t) (f := 21) (args := #[.agg (v3 ax ay az)]) rfl rfl (fun u hS => by go_simp) (fun u hS => (unhide h2 u).mono fun _ _ ⟨he, hb⟩ => ⟨he, hS.keep hb⟩) ?_
  go_simp
  refine plan_read (v := ?_) rfl rfl (fun u hS => by go_simp; rfl) ?_
  go_simp
  refine plan_read (v := ?_) rfl rfl (fun u hS => by go_simp; rfl) ?_
  go_simp
  refine plan_end (fun u hS => ?_)
  have D := hide hS
  clear hS
  go_wp2_with (first | (with_reducible refine at_list ?_;  refine eqlZ _ _ hm rfl rfl rfl rfl ?_) | (with_reducible refine at_list ?_;  refine leqZ _ _ hL rfl rfl rfl rfl ?_) | (go_at_call 19; with_reducible refine (unhide hW _).mono ?_; rintro e w' ⟨he, hb⟩; subst he; have D := hide ((unhide D).keep hb); clear hb))
  go_ret
  exact ⟨rfl, (unhide D).o⟩
set_option maxHeartbeats 4000000 in
theorem vlength_core (ax ay az l t t1 d c1 c2 : Int) (S P Q : Nat) (X : Bool) (w : World) (hm : (t == 9223372036854775807) = false) (ht : wrap64 (l + 1) = t1) (hd : wrap64 (t - l) = d) (hL1 : decide (c1 ≤ 0) = true) (hL2 : decide (c2 < 0) = true) (hU : (t == l) = X) (hV : Hid (same P S = X)) (hL3 : decide (d ≤ 1) = true) (hL4 : decide (l ≤ t) = true)
    (h1 : Hid (Ans 20 #[.agg (v3 ax ay az)] (.int .i64 l))) (h2 : Hid (Ans 21 #[.agg (v3 ax ay az)] (.int .i64 t))) (hS1 : Hid (Ans 22 #[.agg (v3 ax ay az)] (.agg (cells8 S)))) (hS2 : Hid (Ans 22 #[.agg (v3 l 0 0)] (.agg (cells8 P)))) (hS3 : Hid (Ans 22 #[.agg (v3 t1 0 0)] (.agg (cells8 Q))))
    (hC1 : Hid (Ans 23 #[.agg (cells8 P), .agg (cells8 S)] (.int .i64 c1))) (hC2 : Hid (Ans 23 #[.agg (cells8 S), .agg (cells8 Q)] (.int .i64 c2))) :
    Calls Try.prog 4 #[.agg (v3 ax ay az)] w fun e w' => e = .returned (.bool true) ∧ Below w.heap.size w w' := by
  have hW : Hid (Ans 19 #[] (.bool true)) := awake3Z
  go_enter Try.func4, Try.ntmps4
  go_upto_region 1 with fail
  have D := hide ((Gen.start w).push 24 (v3 ax ay az))
  refine region_plan (S := Gen w _) (l := [0, 1, 2, 3, 4, 5]) (by kernel_rfl) (by kernel_rfl) (by kernel_rfl) (by kernel_rfl) (by kernel_rfl) (by kernel_rfl) (by kernel_rfl) (unhide D).drew ?_
  clear D
  refine plan_read (v := .agg (v3 ax ay az)) rfl rfl (fun u hS => exec_loadG hS rVec _ rfl rfl (by repeat (first | exact List.mem_cons_self | apply List.mem_cons_of_mem)) rfl) ?_
  go_simp
  refine plan_call (v := .int .i64 l) (f := 20) (args := #[.agg (v3 ax ay az)]) rfl rfl (fun u hS => by go_simp) (fun u hS => (unhide h1 u).mono fun _ _ ⟨he, hb⟩ => ⟨he, hS.keep hb⟩) ?_
  go_simp
  refine plan_read (v := .agg (v3 ax ay az)) rfl rfl (fun u hS => exec_loadG hS rVec _ rfl rfl (by repeat (first | exact List.mem_cons_self | apply List.mem_cons_of_mem)) rfl) ?_
  go_simp
  refine plan_call (v := .int .i64 t) (f := 21) (args := #[.agg (v3 ax ay az)]) rfl rfl (fun u hS => by go_simp) (fun u hS => (unhide h2 u).mono fun _ _ ⟨he, hb⟩ => ⟨he, hS.keep hb⟩) ?_
  go_simp
  refine plan_read (v := ?_) rfl rfl (fun u hS => by go_simp; rfl) ?_
  go_simp
  refine plan_read (v := ?_) rfl rfl (fun u hS => by go_simp; rfl) ?_
  go_simp
  refine plan_end (fun u hS => ?_)
  have D := hide hS
  clear hS
  go_upto_region 5 with (first | (with_reducible refine at_list ?_;  refine eqlZ _ _ hm rfl rfl rfl rfl ?_) | (with_reducible refine at_list ?_; apply ldG (unhide D) rVec _ rfl rfl rfl (by repeat (first | exact List.mem_cons_self | apply List.mem_cons_of_mem)) rfl) | (go_at_call 22; with_reducible refine (unhide hS1 _).mono ?_; rintro e w' ⟨he, hb⟩; subst he; have D := hide ((unhide D).keep hb); clear hb) | (go_at_call 22; with_reducible refine (unhide hS2 _).mono ?_; rintro e w' ⟨he, hb⟩; subst he; have D := hide ((unhide D).keep hb); clear hb) | (go_at_call 22; with_reducible refine (unhide hS3 _).mono ?_; rintro e w' ⟨he, hb⟩; subst he; have D := hide ((unhide D).keep hb); clear hb) | (with_reducible refine at_list ?_;  refine stThree1 (unhide D) _ _ rfl rfl rfl rfl ?_; intro w3 D' lt h0; have D := D'; clear D') | (with_reducible refine at_list ?_;  refine stThree2 (unhide D) (unhide lt) (unhide h0) _ _ rfl rfl rfl rfl ?_; intro w3 D'; have D := D'; clear D') | (with_reducible refine at_list ?_;  refine stThree3 (unhide D) (unhide lt) (unhide h0) _ _ rfl rfl rfl rfl ?_; intro w3 D'; have D := D'; clear D'))
  cases X
  · go_wp2_with (first | (with_reducible refine at_list ?_; apply ldG (unhide D) rWide _ rfl rfl rfl (by repeat (first | exact List.mem_cons_self | apply List.mem_cons_of_mem)) rfl) | (with_reducible refine at_list ?_; apply ldGw (unhide D) rWide _ rfl rfl rfl (by repeat (first | exact List.mem_cons_self | apply List.mem_cons_of_mem)) rfl) | (go_at_call 23; with_reducible refine (unhide hC1 _).mono ?_; rintro e w' ⟨he, hb⟩; subst he; have D := hide ((unhide D).keep hb); clear hb) | (go_at_call 23; with_reducible refine (unhide hC2 _).mono ?_; rintro e w' ⟨he, hb⟩; subst he; have D := hide ((unhide D).keep hb); clear hb) | (with_reducible refine at_list ?_;  refine leqZ _ _ hL1 rfl rfl rfl rfl ?_) | (with_reducible refine at_list ?_;  refine lssZw _ _ hL2 rfl rfl rfl rfl ?_) | (with_reducible refine at_list ?_;  refine eqlZw _ _ hU rfl rfl rfl rfl ?_) | (with_reducible refine at_list ?_; refine eqlEw (unhide hV) _ _ rfl rfl rfl rfl ?_) | (with_reducible refine at_list ?_;  refine leqZw _ _ hL3 rfl rfl rfl rfl ?_) | (with_reducible refine at_list ?_;  refine geqZw _ _ hL4 rfl rfl rfl rfl ?_) | (go_at_call 19; with_reducible refine (unhide hW _).mono ?_; rintro e w' ⟨he, hb⟩; subst he; have D := hide ((unhide D).keep hb); clear hb))
    go_ret
    exact ⟨rfl, (unhide D).o⟩
  · go_wp2_with (first | (with_reducible refine at_list ?_; apply ldG (unhide D) rWide _ rfl rfl rfl (by repeat (first | exact List.mem_cons_self | apply List.mem_cons_of_mem)) rfl) | (with_reducible refine at_list ?_; apply ldGw (unhide D) rWide _ rfl rfl rfl (by repeat (first | exact List.mem_cons_self | apply List.mem_cons_of_mem)) rfl) | (go_at_call 23; with_reducible refine (unhide hC1 _).mono ?_; rintro e w' ⟨he, hb⟩; subst he; have D := hide ((unhide D).keep hb); clear hb) | (go_at_call 23; with_reducible refine (unhide hC2 _).mono ?_; rintro e w' ⟨he, hb⟩; subst he; have D := hide ((unhide D).keep hb); clear hb) | (with_reducible refine at_list ?_;  refine leqZ _ _ hL1 rfl rfl rfl rfl ?_) | (with_reducible refine at_list ?_;  refine lssZw _ _ hL2 rfl rfl rfl rfl ?_) | (with_reducible refine at_list ?_;  refine eqlZw _ _ hU rfl rfl rfl rfl ?_) | (with_reducible refine at_list ?_; refine eqlEw (unhide hV) _ _ rfl rfl rfl rfl ?_) | (with_reducible refine at_list ?_;  refine leqZw _ _ hL3 rfl rfl rfl rfl ?_) | (with_reducible refine at_list ?_;  refine geqZw _ _ hL4 rfl rfl rfl rfl ?_) | (go_at_call 19; with_reducible refine (unhide hW _).mono ?_; rintro e w' ⟨he, hb⟩; subst he; have D := hide ((unhide D).keep hb); clear hb))
    go_ret
    exact ⟨rfl, (unhide D).o⟩
theorem cmpI_ltT {x y : Int} (h : x < y) : decide (cmpI x y < 0) = true := by
  unfold cmpI
  rw [if_pos h]
  decide
theorem cmpI_leT {x y : Int} (h : x ≤ y) : decide (cmpI x y ≤ 0) = true := by
  rw [cmpI_is_le]
  exact decide_eq_true h
theorem sqr_x (x : Int) : sqr x 0 0 = x * x := by
  unfold sqr
  omega
theorem beq_is (x y : Int) {b : Bool} (h : decide (x = y) = b) : (x == y) = b := by
  rw [← h, Bool.eq_iff_iff]
  simp
theorem vecLength_walk (ax ay az : Int) (k0 : (Lit.int .i64 ax).wf = true) (l0 : (Lit.int .i64 ay).wf = true) (m0 : (Lit.int .i64 az).wf = true) (w : World) :
    Calls Try.prog 4 #[.agg (v3 ax ay az)] w fun e w' => e = .returned (.bool true) ∧ Below w.heap.size w w' := by
  have j0 := I64.wf k0
  have j1 := I64.wf l0
  have j2 := I64.wf m0
  have h1 := VLenZ ax ay az j0 j1 j2
  have h2 := VLenUpZ ax ay az j0 j1 j2
  have hS1 := Square3Z ax ay az j0 j1 j2
  have hle := len_le ax ay az
  have hsz := sqr_sz j0 j1 j2
  have hn := sqr_nn ax ay az
  generalize sqr ax ay az = n at *
  by_cases hm : upR n 1 = 9223372036854775807
  · exact vlength_max ax ay az _ _ w (beq_iff_eq.2 hm) (decide_eq_true hle) h1 h2
  · obtain ⟨r1, r2, r3⟩ := rfl_spec hn (show (0 : Int) < 1 by decide)
    obtain ⟨-, u2, u3, -, u5⟩ := upc_spec hn (show (0 : Int) < 1 by decide)
    rw [upR_1] at hm h2 hle
    rw [inI_32] at h1 hle
    rw [Int.mul_one] at r1 r2 u5
    have e2 : cl (upc n 1) = upc n 1 := by
      revert hm
      unfold cl
      split
      · intro h; exact absurd rfl h
      · split
        · intro _; omega
        · intro _; rfl
    have hi : upc n 1 < 9223372036854775807 := by
      have := (cl_I64 (upc n 1)).2
      rw [e2] at this hm
      omega
    rw [e2] at hm h2 hle
    have e1 : cl (rfl' n 1) = rfl' n 1 := cl_self ⟨by omega, by omega⟩
    rw [e1] at h1 hle
    clear e1 e2
    generalize upc n 1 = t at *
    generalize rfl' n 1 = r at *
    have ir : I64 r := ⟨by omega, by omega⟩
    have ir1 : I64 (r + 1) := ⟨by omega, by omega⟩
    have hS2 := Square3Z r 0 0 ir i0 i0
    have hS3 := Square3Z (r + 1) 0 0 ir1 i0 i0
    rw [sqr_x] at hS2 hS3
    have f1 : Fit (r * r) := (ir.sz.mul ir.sz).fit (by decide)
    have f2 : Fit ((r + 1) * (r + 1)) := (ir1.sz.mul ir1.sz).fit (by decide)
    have f3 : Fit n := hsz.fit (by decide)
    exact vlength_core ax ay az r t _ _ _ _ (enc n) (enc (r * r)) (enc ((r + 1) * (r + 1))) (decide (r * r = n)) w (beq_is _ _ (decide_eq_false hm)) (wrap_self ir1) (wrap_self ⟨by omega, by omega⟩) (cmpI_leT r1) (cmpI_ltT r2) (beq_is _ _ (decide_eq_decide.2 u5)) (same_enc f1 f3) (decide_eq_true (by omega)) (decide_eq_true (by omega))
      h1 h2 hS1 hS2 hS3 (fun u => CmpZ _ _ f1 f3 u) (fun u => CmpZ _ _ f3 f2 u)

end Go.Proofs.Ytljggjnaolbapaa
