/- Package vec: roots. Package vec: square, length, Len, LenUp. Package vec: roots and lengths over the integers. Package vec: a root rounded up, Len, LenUp. -/
import Derived.Test.YtnemedgdhojhdaaGreatVi
namespace Go.Proofs.YtnemedgdhojhdaaGreat
open Go.RowKit
set_option maxRecDepth 4000
set_option linter.unusedVariables false

/-- The cells of a root: a number, and whether it is exact. -/
def c9 (n : Nat) (b : Bool) : Array Value := #[.int .u64 (lm n 0), .int .u64 (lm n 1), .int .u64 (lm n 2), .int .u64 (lm n 3), .int .u64 (lm n 4), .int .u64 (lm n 5), .int .u64 (lm n 6), .int .u64 (lm n 7), .bool b]
abbrev z9 : Array Value := #[.int .u64 0, .int .u64 0, .int .u64 0, .int .u64 0, .int .u64 0, .int .u64 0, .int .u64 0, .int .u64 0, .bool false]
theorem c9_one (n : Nat) (b : Bool) : (c9 n b).all (·.oneCell') = true := by simp [c9, Value.oneCell']
theorem rRoot : Rw 77 9 := ⟨⟨_, Tryz.underlying77, rfl⟩, by kernel_rfl⟩
theorem bRoot (n : Nat) (b : Bool) : Tryz.prog.built 77 [(0, .agg (cells8 n)), (1, .bool b)] = some (c9 n b) := by kernel_rfl
theorem Gen.two2 {w0 w : World} {l : List (Nat × TypeId × Array Value)} (d : Gen w0 l w) (n m : Nat) {c1 c2 : Array Value} :
    Gen w0 ((w.heap.size + 1, 75, cells8 m) :: (w.heap.size, 75, cells8 n) :: l) ((((w.alloc (.cells c1 75)).alloc (.cells c2 75)).setRow w.heap.size (cells8 n)).setRow (w.heap.size + 1) (cells8 m)) := by
  refine ⟨fun p hp => ?_, d.o.trans ((two_new w _ _ _ _).mono d.o.size)⟩
  rcases List.mem_cons.1 hp with e | hp
  · subst e; exact ((Blk.second2 w 75 _ _).rowOther _ (by omega)).row _
  · rcases List.mem_cons.1 hp with e | hp
    · subst e; exact ((Blk.first2 w 75 _ _).row _).rowOther _ (by show w.heap.size ≠ _; omega)
    · have hl := (d.at_ p hp).lt
      exact ((((d.at_ p hp).alloc _).alloc _).rowOther _ (by omega)).rowOther _ (by omega)
section
variable {ops : Array Oper} {rest : List Oper} {o : Oper} {a : Act} {w w0 : World} {Q : Exit → Act → World → Prop} {l : List (Nat × TypeId × Array Value)} {g n m : Nat}
theorem stTwoG {c1 c2 : Array Value} (d : Gen w0 l w) (h8 : c2.size = 8) (x y : Operand) (ho : o.op = .store 75 x y) (hgd : o.guard = none) (hx : a.eval x = ptr (w.heap.size + 1)) (hy : a.eval y = .agg (cells8 m))
    (h : ∀ w', Hid (Gen w0 ((w.heap.size + 1, 75, cells8 m) :: (w.heap.size, 75, cells8 n) :: l) w') → wpList Tryz.prog ops Q rest (a.put o.dst undef) w') : wpList Tryz.prog ops Q (o :: rest) a (((w.alloc (.cells c1 75)).alloc (.cells c2 75)).setRow w.heap.size (cells8 n)) :=
  st8 75 x y ((Blk.second2 w 75 _ _).rowOther _ (by omega)) h8 ho hgd hx hy iWide (h _ (d.two2 n m))
/-- A number into the block that stands first. -/
theorem stSetG {old : Array Value} (d : Gen w0 ((g, 75, old) :: l) w) (hg : w0.heap.size ≤ g) (hl : ∀ p ∈ l, p.1 ≠ g) (x y : Operand) (ho : o.op = .store 75 x y) (hgd : o.guard = none) (hx : a.eval x = ptr g) (hy : a.eval y = .agg (cells8 n)) (hold : old.size = 8)
    (h : ∀ w', Hid (Gen w0 ((g, 75, cells8 n) :: l) w') → wpList Tryz.prog ops Q rest (a.put o.dst undef) w') : wpList Tryz.prog ops Q (o :: rest) a w :=
  st8 75 x y (d.blk List.mem_cons_self) hold ho hgd hx hy iWide (h _ (d.set hg hl _))
end

set_option maxHeartbeats 2000000 in
theorem rootOf_core (n d q m f k p : Nat) (E1 E2 E3 E4 b : Bool) (w : World) (hb : Hid (same p n = b))
    (hD : Hid (Ans 97 #[.agg (cells8 n), .agg (cells8 d)] (.tuple #[.agg (cells8 q), .agg (cells8 m), .bool E1])))
    (hS : Hid (Ans 125 #[.agg (cells8 q)] (.tuple #[.agg (cells8 f), .bool E2])))
    (hM : Hid (Ans 126 #[.agg (cells8 f), .agg (cells8 f)] (.tuple #[.agg (cells8 k), .bool E3])))
    (hN : Hid (Ans 126 #[.agg (cells8 k), .agg (cells8 d)] (.tuple #[.agg (cells8 p), .bool E4]))) :
    Calls Tryz.prog 89 #[W n, W d] w fun e w' => e = .returned (.agg (c9 f b)) ∧ Below w.heap.size w w' := by
  unfold W
  go_enter Tryz.func89, Tryz.ntmps89
  go_upto_region 1 with fail
  have D := hide ((((Gen.start w).push 75 (cells8 n)).push 75 (cells8 d)).push 77 z9)
  simp only [szA] at D
  go_upto_region 2 with (first | (with_reducible refine at_list ?_; apply ldG (unhide D) rWide _ rfl rfl rfl (by repeat (first | exact List.mem_cons_self | apply List.mem_cons_of_mem)) rfl) | (go_at_call 97; with_reducible refine (unhide hD _).mono ?_; rintro e w' ⟨he, hb⟩; subst he; have D := hide ((unhide D).keep hb); clear hb) | (with_reducible refine at_list ?_;  refine stOne (n := q) rfl _ _ rfl rfl rfl rfl ?_) | (with_reducible refine at_list ?_;  refine stTwoG (n := q) (m := m) (unhide D) rfl _ _ rfl rfl rfl rfl ?_; intro w1 D'; have D := D'; clear D'))
  go_upto_region 3 with (first | (with_reducible refine at_list ?_; apply ldG (unhide D) rWide _ rfl rfl rfl (by repeat (first | exact List.mem_cons_self | apply List.mem_cons_of_mem)) rfl) | (go_at_call 125; with_reducible refine (unhide hS _).mono ?_; rintro e w' ⟨he, hb⟩; subst he; have D := hide ((unhide D).keep hb); clear hb) | (with_reducible refine at_list ?_; refine stG (unhide D) rWide _ _ rfl rfl rfl rfl rfl rfl (cells8_one _) ?_; intro D'; have D := hide D'; clear D'))
  go_upto_region 4 with (first | (with_reducible refine at_list ?_; apply ldG (unhide D) rWide _ rfl rfl rfl (by repeat (first | exact List.mem_cons_self | apply List.mem_cons_of_mem)) rfl) | (go_at_call 126; with_reducible refine (unhide hM _).mono ?_; rintro e w' ⟨he, hb⟩; subst he; have D := hide ((unhide D).keep hb); clear hb) | (with_reducible refine at_list ?_;  have hl := hide (fun p hp => Nat.ne_of_lt ((unhide D).at_ p hp).lt); have hw := hide (unhide D).o.size; refine stG (unhide D) rWide _ _ rfl rfl rfl rfl rfl rfl (cells8_one _) ?_; intro D'; have D := hide D'; clear D'))
  go_upto_region 5 with (first | (with_reducible refine at_list ?_; apply ldG (unhide D) rWide _ rfl rfl rfl (by repeat (first | exact List.mem_cons_self | apply List.mem_cons_of_mem)) rfl) | (go_at_call 126; with_reducible refine (unhide hN _).mono ?_; rintro e w' ⟨he, hb⟩; subst he; have D := hide ((unhide D).keep hb); clear hb) | (with_reducible refine at_list ?_;  refine stSetG (n := p) (unhide D) (unhide hw) (unhide hl) _ _ rfl rfl rfl rfl rfl ?_; intro w5 D'; have D := D'; clear D'))
  refine region_last (S := Gen w _) (f := 5) (l := [0, 1, 2, 3, 4]) (by kernel_rfl) (by kernel_rfl) (by kernel_rfl) (by kernel_rfl) (by kernel_rfl) (by kernel_rfl) (by kernel_rfl) (by kernel_rfl) (by kernel_rfl) (by kernel_rfl) rfl rfl (unhide D).drew ?_
  clear D
  refine plan_read (v := .agg (cells8 f)) rfl rfl (fun u hS => exec_loadG hS rWide _ rfl rfl (by repeat (first | exact List.mem_cons_self | apply List.mem_cons_of_mem)) rfl) ?_
  go_simp
  refine plan_read (v := .agg (cells8 p)) rfl rfl (fun u hS => exec_loadG hS rWide _ rfl rfl (by repeat (first | exact List.mem_cons_self | apply List.mem_cons_of_mem)) rfl) ?_
  go_simp
  refine plan_read (v := .agg (cells8 n)) rfl rfl (fun u hS => exec_loadG hS rWide _ rfl rfl (by repeat (first | exact List.mem_cons_self | apply List.mem_cons_of_mem)) rfl) ?_
  go_simp
  refine plan_read (v := .bool b) rfl rfl (fun u hS => exec_eql_wide_is _ (.tmp 37) (.tmp 38) (unhide hb) rfl rfl rfl) ?_
  go_simp
  refine plan_read rfl rfl (fun u hS => exec_build2 _ 77 (.tmp 36) (.tmp 39) rfl rfl rfl (bRoot f b)) ?_
  go_simp
  refine plan_last (fun u hS => ?_)
  refine wp_store_row 77 (.tmp 4) (.tmp 40) rfl _ (c9 f b) rfl rfl 77 z9 (hS.blk (by repeat (first | exact List.mem_cons_self | apply List.mem_cons_of_mem))) rRoot.i rfl (c9_one _ _) ?_
  have B := hide ((hS.blk (g := w.heap.size + 1 + 1) (t := 77) (cs := z9) (by repeat (first | exact List.mem_cons_self | apply List.mem_cons_of_mem))).row (c9 f b))
  have O := hide (below_row hS.o (show w.heap.size ≤ w.heap.size + 1 + 1 by omega) (c9 f b))
  clear hS
  go_wp2
  exact resG rRoot (unhide B) rfl rfl rfl rfl ⟨rfl, unhide O⟩

end Go.Proofs.YtnemedgdhojhdaaGreat

namespace Go.Proofs.YtnemedgdhojhdaaGreat
open Go.RowKit
set_option maxRecDepth 4000
set_option linter.unusedVariables false

section
variable {ops : Array Oper} {Q : Exit → Act → World → Prop} {S : World → Prop} {tn : Nat → Bool} {i : Nat} {r : List Nat} {a : Act} {w : World} {o : Oper}
theorem walk_st8 {old : Array Value} {n g : Nat} {t : TypeId} (ty : TypeId) (x y : Operand) (ho : ops[i]? = some o) (hw : Region.wanted o (yielded ops a.tmps) = true) (ht : tn i = true) (hg : Blk w g t old) (hold : old.size = 8) (hop : o.op = .store ty x y) (hx : a.eval x = .pointer (some ⟨g, 0, none⟩)) (hy : a.eval y = .agg (cells8 n))
    (hi : (Tryz.prog.info? ty).map (·.size) = some 8) (hS : S (w.setRow g (cells8 n))) (hr : Walk Tryz.prog ops S Q tn r (a.put o.dst undef) (w.setRow g (cells8 n))) : Walk Tryz.prog ops S Q tn (i :: r) a w :=
  ⟨o, ho, .inr (.inr ⟨hw, ht, by rw [exec_store8 ty x y hg hold hop hx hy hi]; exact ⟨hS, hr⟩⟩)⟩
end
set_option maxHeartbeats 2000000 in
theorem vsquare_core (ax ay az : Int) (A1 A2 A3 s : Nat) (w : World) (t1 : Hid (Ans 128 #[.int .i64 ax, .int .i64 ax] (.agg (c16 A1 A1)))) (t2 : Hid (Ans 128 #[.int .i64 ay, .int .i64 ay] (.agg (c16 A2 A2)))) (t3 : Hid (Ans 128 #[.int .i64 az, .int .i64 az] (.agg (c16 A3 A3))))
    (hB : Hid (∀ u p, Blk u p 134 (prs [(A1, A1), (A2, A2), (A3, A3)]).toArray → Calls Tryz.prog 127 #[.slice (some ⟨p, 0, none⟩) 3 3] u fun e w' => e = .returned (.agg (cells8 s)) ∧ Below u.heap.size u w')) :
    Calls Tryz.prog 90 #[.agg (v3 ax ay az)] w fun e w' => e = .returned (.agg (cells8 s)) ∧ Below w.heap.size w w' := by
  go_enter Tryz.func90, Tryz.ntmps90
  go_upto_region 1 with fail
  have D := hide (((Gen.start w).push 24 (v3 ax ay az)).push 75 z8)
  simp only [szA] at D
  refine region_walk (S := Gen w [(w.heap.size, 24, v3 ax ay az)]) (l := [0, 1, 2, 3, 5, 6, 7, 8, 10, 11, 12, 13, 4, 9, 14, 15, 16, 17]) (t := [4, 9, 14, 15, 16, 17]) (by kernel_rfl) (by kernel_rfl) (by kernel_rfl) (by kernel_rfl) (by kernel_rfl) (by kernel_rfl) (by kernel_rfl) (by kernel_rfl) (unhide D).drew.tail ?_
  have D0 := (unhide D).drew
  refine walk_read (v := ?_) rfl rfl rfl (fun u hS => by go_simp; rfl) ?_
  go_simp
  refine walk_read (v := .int .i64 ax) rfl rfl rfl (fun u hS => exec_loadFG hS _ rfl rfl (by repeat (first | exact List.mem_cons_self | apply List.mem_cons_of_mem)) (i := 0) rfl) ?_
  go_simp
  refine walk_read (v := ?_) rfl rfl rfl (fun u hS => by go_simp; rfl) ?_
  go_simp
  refine walk_read (v := .int .i64 ax) rfl rfl rfl (fun u hS => exec_loadFG hS _ rfl rfl (by repeat (first | exact List.mem_cons_self | apply List.mem_cons_of_mem)) (i := 0) rfl) ?_
  go_simp
  refine walk_read (v := ?_) rfl rfl rfl (fun u hS => by go_simp; rfl) ?_
  go_simp
  refine walk_read (v := .int .i64 ay) rfl rfl rfl (fun u hS => exec_loadFG hS _ rfl rfl (by repeat (first | exact List.mem_cons_self | apply List.mem_cons_of_mem)) (i := 1) rfl) ?_
  go_simp
  refine walk_read (v := ?_) rfl rfl rfl (fun u hS => by go_simp; rfl) ?_
  go_simp
  refine walk_read (v := .int .i64 ay) rfl rfl rfl (fun u hS => exec_loadFG hS _ rfl rfl (by repeat (first | exact List.mem_cons_self | apply List.mem_cons_of_mem)) (i := 1) rfl) ?_
  go_simp
  refine walk_read (v := ?_) rfl rfl rfl (fun u hS => by go_simp; rfl) ?_
  go_simp
  refine walk_read (v := .int .i64 az) rfl rfl rfl (fun u hS => exec_loadFG hS _ rfl rfl (by repeat (first | exact List.mem_cons_self | apply List.mem_cons_of_mem)) (i := 2) rfl) ?_
  go_simp
  refine walk_read (v := ?_) rfl rfl rfl (fun u hS => by go_simp; rfl) ?_
  go_simp
  refine walk_read (v := .int .i64 az) rfl rfl rfl (fun u hS => exec_loadFG hS _ rfl rfl (by repeat (first | exact List.mem_cons_self | apply List.mem_cons_of_mem)) (i := 2) rfl) ?_
  go_simp
  refine walk_call (f := 128) (args := #[.int .i64 ax, .int .i64 ax]) rfl rfl rfl (by go_simp) ?_
  refine (unhide t1 _).mono fun e w1 ⟨he, hb⟩ => ?_
  have D1 := D0.keep hb
  refine ⟨_, he, D1.tail, ?_⟩
  clear hb he
  go_simp
  refine walk_call (f := 128) (args := #[.int .i64 ay, .int .i64 ay]) rfl rfl rfl (by go_simp) ?_
  refine (unhide t2 _).mono fun e w2 ⟨he, hb⟩ => ?_
  have D2 := D1.keep hb
  refine ⟨_, he, D2.tail, ?_⟩
  clear hb he
  go_simp
  refine walk_call (f := 128) (args := #[.int .i64 az, .int .i64 az]) rfl rfl rfl (by go_simp) ?_
  refine (unhide t3 _).mono fun e w3 ⟨he, hb⟩ => ?_
  have D3 := D2.keep hb
  refine ⟨_, he, D3.tail, ?_⟩
  clear hb he
  go_simp
  have D4 := D3.push 134 (prs [(A1, A1), (A2, A2), (A3, A3)]).toArray
  refine walk_turn rfl rfl rfl (exec_bs3 w3 (.tmp 7) (.tmp 12) (.tmp 17) rfl rfl rfl rfl) D4.tail.tail ?_
  go_simp
  refine walk_call (f := 127) (args := #[.slice (some ⟨w3.heap.size, 0, none⟩) 3 3]) rfl rfl rfl (by go_simp) ?_
  refine (unhide hB _ _ (D4.blk List.mem_cons_self)).mono fun e w5 ⟨he, hb⟩ => ?_
  have D5 := D4.tail.keep hb
  refine ⟨_, he, D5.tail, ?_⟩
  clear hb he
  go_simp
  have D6 := D5.set (by omega) (fun p hp => by rw [List.mem_singleton.1 hp]; show w.heap.size ≠ _; omega) (cells8 s)
  refine walk_st8 (n := s) 75 (.tmp 2) (.tmp 19) rfl rfl rfl (D5.blk List.mem_cons_self) rfl rfl rfl rfl iWide D6.tail ?_
  go_simp
  refine walk_end ?_
  have B := hide (D6.blk List.mem_cons_self)
  have O := hide D6.o
  clear D D0 D1 D2 D3 D4 D5 D6
  go_wp2
  exact resG rWide (unhide B) rfl rfl rfl rfl ⟨rfl, unhide O⟩
/-- The square of a vector. -/
def sqr (x y z : Int) : Int := x * x + y * y + z * z
theorem sqr_sz {x y z : Int} (h1 : I64 x) (h2 : I64 y) (h3 : I64 z) : Sz 130 (sqr x y z) := ((((h1.sz.mul h1.sz).add (h2.sz.mul h2.sz)).add ((h3.sz.mul h3.sz).mono (by decide))).mono (by decide))
theorem sqr_nn (x y z : Int) : 0 ≤ sqr x y z := by
  have a : ∀ x : Int, 0 ≤ x * x := fun x => by
    rcases Int.le_total 0 x with h | h
    · exact Int.mul_nonneg h h
    · exact Int.mul_nonneg_of_nonpos_of_nonpos h h
  have h1 := a x
  have h2 := a y
  have h3 := a z
  unfold sqr
  omega
theorem VSquareZ (ax ay az : Int) (h1 : I64 ax) (h2 : I64 ay) (h3 : I64 az) : Ans 90 #[.agg (v3 ax ay az)] (V (sqr ax ay az)) := by
  intro w
  refine vsquare_core ax ay az (enc ax) (enc ay) (enc az) _ w (TimesZ ax ax h1 h1) (TimesZ ay ay h2 h2) (TimesZ az az h3 h3) (fun u p hB => ?_)
  have k := SumZ 3 p (nth3 ax ay az) (nth3 ax ay az) u (by decide) hB.lt (fun k _ => nth3_all (P := Sz 70) (h1.sz.mono (by decide)) (h2.sz.mono (by decide)) (h3.sz.mono (by decide)) k) (fun k _ => nth3_all (P := Sz 70) (h1.sz.mono (by decide)) (h2.sz.mono (by decide)) (h3.sz.mono (by decide)) k) (fun k hk => ?_)
  · rw [dot3] at k
    exact k
  · refine prs_range hB ?_
    rcases (show k = 0 ∨ k = 1 ∨ k = 2 by omega) with rfl | rfl | rfl <;> rfl

theorem range_c9 {w : World} {g n : Nat} {b : Bool} {t : TypeId} (h : Blk w g t (c9 n b)) : w.rangeAt g 0 (cells8 n).toList := by
  intro j v hv
  have hj : j < 8 := by
    have := (List.getElem?_eq_some_iff.1 hv).1
    simpa [cells8] using this
  rw [Nat.zero_add, h.cell j]
  rcases lt8 hj with rfl | rfl | rfl | rfl | rfl | rfl | rfl | rfl <;> exact hv
theorem down_core2 (n : Nat) (b : Bool) (v : Int) (w : World) (hI : Hid (Ans 94 #[.agg (cells8 n), .int .i64 32] (.int .i64 v))) :
    Calls Tryz.prog 92 #[.agg (c9 n b)] w fun e w' => e = .returned (.int .i64 v) ∧ Below w.heap.size w w' := by
  go_enter Tryz.func92, Tryz.ntmps92
  go_upto_region 1 with fail
  have D := hide ((Gen.start w).push 77 (c9 n b))
  go_wp2_with (first | (with_reducible refine at_list ?_;  refine ldMid (.tmp 3) rfl rfl rfl (range_c9 ((unhide D).blk List.mem_cons_self)) ?_) | (go_at_call 94; with_reducible refine (unhide hI _).mono ?_; rintro e w' ⟨he, hb⟩; subst he; have D := hide ((unhide D).keep hb); clear hb))
  go_ret
  exact ⟨rfl, (unhide D).o⟩
theorem length_core2 (ax ay az : Int) (s one f : Nat) (b : Bool) (w : World) (hS : Hid (Ans 90 #[.agg (v3 ax ay az)] (.agg (cells8 s)))) (hO : Hid (Ans 91 #[.int .i64 1] (.agg (cells8 one)))) (hR : Hid (Ans 89 #[.agg (cells8 s), .agg (cells8 one)] (.agg (c9 f b)))) :
    Calls Tryz.prog 49 #[.agg (v3 ax ay az)] w fun e w' => e = .returned (.agg (c9 f b)) ∧ Below w.heap.size w w' := by
  go_enter Tryz.func49, Tryz.ntmps49
  go_upto_region 1 with fail
  have D := hide (((Gen.start w).push 24 (v3 ax ay az)).push 77 z9)
  simp only [szA] at D
  go_wp2_with (first | (with_reducible refine at_list ?_; apply ldG (unhide D) rVec _ rfl rfl rfl (by repeat (first | exact List.mem_cons_self | apply List.mem_cons_of_mem)) rfl) | (go_at_call 90; with_reducible refine (unhide hS _).mono ?_; rintro e w' ⟨he, hb⟩; subst he; have D := hide ((unhide D).keep hb); clear hb) | (go_at_call 91; with_reducible refine (unhide hO _).mono ?_; rintro e w' ⟨he, hb⟩; subst he; have D := hide ((unhide D).keep hb); clear hb) | (go_at_call 89; with_reducible refine (unhide hR _).mono ?_; rintro e w' ⟨he, hb⟩; subst he; have D := hide ((unhide D).keep hb); clear hb) | (with_reducible refine at_list ?_; apply stGend (unhide D) rRoot _ _ rfl rfl rfl rfl (by repeat (first | exact List.mem_cons_self | apply List.mem_cons_of_mem)) (by omega) rfl rfl (c9_one _ _); intro B O))
  exact resG rRoot (unhide B) rfl rfl rfl rfl ⟨rfl, unhide O⟩

end Go.Proofs.YtnemedgdhojhdaaGreat

namespace Go.Proofs.YtnemedgdhojhdaaGreat
open Go.RowKit
set_option maxRecDepth 4000
set_option linter.unusedVariables false

/-- The floor of the root of n by d, and whether it is exact. -/
def rfl' (n d : Int) : Int := rt (n.fdiv d)
def rex (n d : Int) : Bool := decide (rfl' n d * rfl' n d * d = n)
abbrev R9 (n d : Int) : Value := .agg (c9 (enc (rfl' n d)) (rex n d))
theorem fdiv_nn {n d : Int} (h : 0 ≤ n) (hd : 0 < d) : 0 ≤ n.fdiv d := by
  rw [Int.fdiv_eq_ediv_of_nonneg _ (Int.le_of_lt hd)]
  exact Int.ediv_nonneg h (Int.le_of_lt hd)
theorem RootOfZ {j k : Nat} (n d : Int) (h : 0 ≤ n) (h0 : 0 < d) (hn : Sz j n) (hd : Sz k d) (hj : j + k ≤ 490) : Ans 89 #[V n, V d] (R9 n d) := by
  intro w
  have hq : Sz (j + 1) (n.fdiv d) := hn.fdiv (by omega)
  have hq0 := fdiv_nn h h0
  have hs : Sz (j + 1) (rfl' n d * rfl' n d) := sq_sz hq0 hq
  refine rootOf_core (enc n) (enc d) (enc (n.fdiv d)) (enc (n.fmod d)) (enc (rfl' n d)) (enc (rfl' n d * rfl' n d)) (enc (rfl' n d * rfl' n d * d)) true true true true (rex n d) w ?_ (div_told n d hn hd (by omega) (by omega) (by omega)) (sqrt_told _ hq0 hq (by omega)) (sq_told _ hq0 hq (by omega)) (mul_told _ _ hs hd (by omega))
  exact same_enc ((hs.mul hd).fit (by omega)) (hn.fit (by omega))
theorem LengthZ (ax ay az : Int) (h1 : I64 ax) (h2 : I64 ay) (h3 : I64 az) : Ans 49 #[.agg (v3 ax ay az)] (R9 (sqr ax ay az) 1) := by
  intro w
  exact length_core2 ax ay az (enc (sqr ax ay az)) (enc 1) _ _ w (VSquareZ ax ay az h1 h2 h3) (fun u => OfZ 1 (by decide) (by decide) u) (RootOfZ _ 1 (sqr_nn _ _ _) (by decide) (sqr_sz h1 h2 h3) Sz.one (by decide))
theorem RootDownZ (n : Int) (b : Bool) (hn : Fit n) : Ans 92 #[.agg (c9 (enc n) b)] (.int .i64 (inI n 32)) := by
  intro w
  exact down_core2 (enc n) b _ w (InZ n 32 hn ⟨by decide, by decide⟩)

end Go.Proofs.YtnemedgdhojhdaaGreat

namespace Go.Proofs.YtnemedgdhojhdaaGreat
open Go.RowKit
set_option maxRecDepth 4000
set_option linter.unusedVariables false

theorem exec_loadB {o : Oper} {a : Act} {w : World} {g i : Nat} {b : Bool} (x : Operand) (ho : o.op = .load 4 x) (hx : a.eval x = .pointer (some ⟨g, i, none⟩)) (hc : w.cell? ⟨g, i, none⟩ = some (.bool b)) : (execOp a.eval o).run Tryz.prog w = .ok (.value (.bool b)) w := by
  unfold execOp
  simp only [ho, hx]
  go_simp
theorem exec_ldMid {o : Oper} {a : Act} {w : World} {g k n : Nat} (x : Operand) (ho : o.op = .load 75 x) (hx : a.eval x = .pointer (some ⟨g, k, none⟩)) (hr : w.rangeAt g k (cells8 n).toList) : (execOp a.eval o).run Tryz.prog w = .ok (.value (.agg (cells8 n))) w := by
  unfold execOp
  simp only [ho, hx, Instr.loadAt, Instr.sureAddr, Sem.run_bind, Sem.run_pure, Result.andThen_ok, run_loadVar_mid w g k 75 (cells8 n).toList _ hr Tryz.underlying75 rfl iWide]
theorem c9_bool {w : World} {g n : Nat} {b : Bool} {t : TypeId} (h : Blk w g t (c9 n b)) : w.cell? ⟨g, 8, none⟩ = some (.bool b) := by rw [h.cell 8]; rfl
theorem root_up_exact (n : Nat) (v : Int) (w : World) (hI : Hid (Ans 92 #[.agg (c9 n true)] (.int .i64 v))) :
    Calls Tryz.prog 50 #[.agg (c9 n true)] w fun e w' => e = .returned (.int .i64 v) ∧ Below w.heap.size w w' := by
  go_enter Tryz.func50, Tryz.ntmps50
  go_upto_region 1 with fail
  have D := hide ((Gen.start w).push 77 (c9 n true))
  go_wp2_with (first | (with_reducible refine at_list ?_;  refine wpList_value (v := .bool true) rfl (exec_loadB (.tmp 5) rfl rfl (c9_bool ((unhide D).blk List.mem_cons_self))) ?_) | (with_reducible refine at_list ?_; apply ldG (unhide D) rRoot _ rfl rfl rfl (by repeat (first | exact List.mem_cons_self | apply List.mem_cons_of_mem)) rfl) | (go_at_call 92; with_reducible refine (unhide hI _).mono ?_; rintro e w' ⟨he, hb⟩; subst he; have D := hide ((unhide D).keep hb); clear hb))
  go_ret
  exact ⟨rfl, (unhide D).o⟩
theorem Gen.fillZ {w0 w : World} {l : List (Nat × TypeId × Array Value)} {B c : Nat} {t : TypeId} {old cs : Array Value} (d : Gen w0 l w) (hl : ∀ p ∈ l, p.1 < B) (h0 : w0.heap.size ≤ B) (hb : Blk w c t old) (hc : B ≤ c) : Gen w0 ((c, t, cs) :: l) (w.setRow c cs) := by
  refine ⟨fun p hp => ?_, below_row d.o (by omega) _⟩
  rcases List.mem_cons.1 hp with e | hp
  · subst e; exact hb.row _
  · have := hl p hp
    exact (d.at_ p hp).rowOther _ (by omega)
set_option maxHeartbeats 2000000 in
theorem root_up_next (n m one : Nat) (E : Bool) (v : Int) (w : World) (hOf : Hid (Ans 91 #[.int .i64 1] (.agg (cells8 one)))) (hAdd : Hid (Ans 93 #[.agg (cells8 n), .agg (cells8 one)] (.tuple #[.agg (cells8 m), .bool E])))
    (hI : Hid (Ans 94 #[.agg (cells8 m), .int .i64 32] (.int .i64 v))) :
    Calls Tryz.prog 50 #[.agg (c9 n false)] w fun e w' => e = .returned (.int .i64 v) ∧ Below w.heap.size w w' := by
  go_enter Tryz.func50, Tryz.ntmps50
  go_upto_region 1 with fail
  have D := hide ((Gen.start w).push 77 (c9 n false))
  go_upto_region 3 with (with_reducible refine at_list ?_;  refine wpList_value (v := .bool false) rfl (exec_loadB (.tmp 5) rfl rfl (c9_bool ((unhide D).blk List.mem_cons_self))) ?_)
  have D1 : Hid (GenZ w _ _ _) := ⟨(unhide D).drew, Nat.le_refl _⟩
  have hlt := hide (fun (p : Nat × TypeId × Array Value) hp => ((unhide D).at_ p hp).lt)
  have hw0 := hide (unhide D).o.size
  clear D
  generalize hZ : (w.alloc (.cells (c9 n false) 77)) = wz at *
  have hds : wz.drew.heap.size = wz.heap.size := rfl
  rw [hds] at D1
  generalize wz.heap.size = B at D1 hlt hw0
  refine region_lazy (S := GenZ w _ B) (v := .bool E) (ty := 75) (zs := #[.int .u64 0, .int .u64 0, .int .u64 0, .int .u64 0, .int .u64 0, .int .u64 0, .int .u64 0, .int .u64 0]) (base := B) (l := [0, 1, 2, 3, 4, 5]) (A := [7]) (z := 6) (t := 8) (r := [9]) (by kernel_rfl) (by kernel_rfl) (by kernel_rfl) (by kernel_rfl) (by kernel_rfl) (by kernel_rfl) (by kernel_rfl) (by kernel_rfl) (by kernel_rfl) (by kernel_rfl) rfl rfl ?_ (fun _ _ h hb => h.keep hb) (fun _ h => h.s) (unhide D1) ?_
  · intro i hi
    simp at hi
    subst hi
    exact ⟨_, rfl, rfl, fun a w => by go_simp⟩
  clear D1
  refine planB_read (v := ?_) rfl rfl (fun u hS => by go_simp; rfl) ?_
  go_simp
  refine planB_read (v := .agg (cells8 n)) rfl rfl (fun u hS => exec_ldMid (.tmp 10) rfl rfl (range_c9 (hS.e.blk (by repeat (first | exact List.mem_cons_self | apply List.mem_cons_of_mem))))) ?_
  go_simp
  refine planB_call (v := .agg (cells8 one)) (f := 91) (args := #[.int .i64 1]) rfl rfl (fun u hS => by go_simp) (fun u hS => (unhide hOf u).mono fun _ _ ⟨he, hb⟩ => ⟨he, hS.keep hb, hb⟩) ?_
  go_simp
  refine planB_call (v := .tuple #[.agg (cells8 m), .bool E]) (f := 93) (args := #[.agg (cells8 n), .agg (cells8 one)]) rfl rfl (fun u hS => by go_simp) (fun u hS => (unhide hAdd u).mono fun _ _ ⟨he, hb⟩ => ⟨he, hS.keep hb, hb⟩) ?_
  go_simp
  refine planB_read (v := ?_) rfl rfl (fun u hS => by go_simp; rfl) ?_
  go_simp
  refine planB_read (v := ?_) rfl rfl (fun u hS => by go_simp; rfl) ?_
  go_simp
  refine planB_lazy rfl (fun u => by go_simp) rfl rfl (fun c u hS hB hI2 => ?_)
  have hB7 := hB 7 (by simp)
  clear hB hI2
  simp only [pa, dstOf]
  generalize c 7 = c7 at hB7 ⊢
  have D := hide (hS.e.fillZ (cs := cells8 m) (unhide hlt) (unhide hw0) hB7.1 hB7.2)
  refine ⟨_, exec_store8 (n := m) 75 (.tmp 3) (.tmp 14) hB7.1 rfl rfl rfl rfl iWide, ?_⟩
  clear hS hB7 hlt hw0
  generalize u.setRow c7 (cells8 m) = u1 at D ⊢
  simp only [opsOf]
  go_simp
  go_wp2_with (first | (with_reducible refine at_list ?_; apply ldG (unhide D) rWide _ rfl rfl rfl (by repeat (first | exact List.mem_cons_self | apply List.mem_cons_of_mem)) rfl) | (go_at_call 94; with_reducible refine (unhide hI _).mono ?_; rintro e w' ⟨he, hb⟩; subst he; have D := hide ((unhide D).keep hb); clear hb))
  go_ret
  exact ⟨rfl, (unhide D).o⟩
/-- The number above a root. -/
def upR (n d : Int) : Int := inI (if rex n d then rfl' n d else rfl' n d + 1) 32
theorem rfl_sz {k : Nat} {n d : Int} (hn : Sz k n) (h0 : 0 < d) : Sz (k + 1) (rfl' n d) := isq_sz (hn.fdiv (by omega))
theorem RootUpZ {k : Nat} (n d : Int) (h0 : 0 < d) (hn : Sz k n) (hk : k ≤ 480) : Ans 50 #[R9 n d] (.int .i64 (upR n d)) := by
  intro w
  have hs := rfl_sz hn h0
  unfold upR R9
  by_cases hb : rex n d = true
  · rw [hb, if_pos rfl]
    exact root_up_exact _ _ w (RootDownZ _ _ (hs.fit (by omega)))
  · rw [Bool.not_eq_true] at hb
    rw [hb, if_neg Bool.false_ne_true]
    have hf : Fit (rfl' n d + 1) := ((hs.add (Sz.one.mono (Nat.zero_le _))).fit (by omega))
    exact root_up_next _ (enc (rfl' n d + 1)) (enc 1) true _ w (fun u => OfZ 1 (by decide) (by decide) u) (fun u => by
      have := AddZ (rfl' n d) 1 (hs.fit (by omega)) fit_one u
      rw [toldZ_fit hf] at this
      exact this) (InZ _ 32 hf ⟨by decide, by decide⟩)
theorem LenUp_core (ax ay az v : Int) (f : Nat) (b : Bool) (w : World) (hL : Hid (Ans 49 #[.agg (v3 ax ay az)] (.agg (c9 f b)))) (hR : Hid (Ans 50 #[.agg (c9 f b)] (.int .i64 v))) :
    Calls Tryz.prog 27 #[.agg (v3 ax ay az)] w fun e w' => e = .returned (.int .i64 v) ∧ Below w.heap.size w w' := by
  go_enter Tryz.func27, Tryz.ntmps27
  go_upto_region 1 with fail
  have D := hide ((Gen.start w).push 24 (v3 ax ay az))
  go_wp2_with (first | (with_reducible refine at_list ?_; apply ldG (unhide D) rVec _ rfl rfl rfl (by repeat (first | exact List.mem_cons_self | apply List.mem_cons_of_mem)) rfl) | (go_at_call 49; with_reducible refine (unhide hL _).mono ?_; rintro e w' ⟨he, hb⟩; subst he; have D := hide ((unhide D).keep hb); clear hb) | (go_at_call 50; with_reducible refine (unhide hR _).mono ?_; rintro e w' ⟨he, hb⟩; subst he; have D := hide ((unhide D).keep hb); clear hb))
  go_ret
  exact ⟨rfl, (unhide D).o⟩
theorem VLenUpZ (ax ay az : Int) (h1 : I64 ax) (h2 : I64 ay) (h3 : I64 az) : Ans 27 #[.agg (v3 ax ay az)] (.int .i64 (upR (sqr ax ay az) 1)) := fun w =>
  LenUp_core ax ay az _ _ _ w (LengthZ ax ay az h1 h2 h3) (RootUpZ _ 1 (by decide) (sqr_sz h1 h2 h3) (by decide))

end Go.Proofs.YtnemedgdhojhdaaGreat
