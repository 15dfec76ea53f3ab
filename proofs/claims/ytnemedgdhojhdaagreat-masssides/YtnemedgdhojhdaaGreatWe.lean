/- The contracts of fill, size and signed of package wide. -/
import Derived.Test.YtnemedgdhojhdaaGreatWf
import Derived.Deep.Cut
namespace Go.Proofs.YtnemedgdhojhdaaGreat
open Go.RowKit
set_option maxRecDepth 4000

/-- A whole number into the block that was made last, whatever its number is called. -/
theorem st8at {P : Program} {ops : Array Oper} {rest : List Oper} {o : Oper} {a : Act} {w : World} {Q : Exit → Act → World → Prop} (ty : TypeId) (x y : Operand) {n g : Nat} {t : TypeId} {old : Array Value}
    (hold : old.size = 8) (ho : o.op = .store ty x y) (hgd : o.guard = none) (hx : a.eval x = .pointer (some ⟨g, 0, none⟩)) (hy : a.eval y = .agg (cells8 n))
    (hi : (P.info? ty).map (·.size) = some 8) (hg : g = w.heap.size)
    (h : wpList P ops Q rest (a.put o.dst undef) (w.alloc (.cells (cells8 n) t))) : wpList P ops Q (o :: rest) a (w.alloc (.cells old t)) := by
  subst hg
  exact st8new ty x y hold ho hgd hx hy hi h

/-- The limb that stands above the top one. -/
def fl (n : Nat) : Int := if neg n then 18446744073709551615 else 0

theorem fill_any (n : Nat) (w : World) :
    Calls Tryz.prog 165 #[W n] w fun e w' => e = .returned (.int .u64 (fl n)) ∧ Below w.heap.size w w' := by
  cases hn : neg n
  · go_enter Tryz.func165, Tryz.ntmps165
    go_wp2_with (first
      | refine ld8 75 (.tmp 1) (Blk.new _ _ _) rfl rfl rfl Tryz.underlying75 rfl iWide ?_
      | (go_at_call 154; refine (below_below n _).mono ?_; rintro e w' ⟨he, hb⟩; subst he))
    go_ret
    exact ⟨by simp [fl, hn], ((Below.refl _ _).alloc (Nat.le_refl _) _).trans (hb.mono (by simp))⟩
  · go_enter Tryz.func165, Tryz.ntmps165
    go_wp2_with (first
      | refine ld8 75 (.tmp 1) (Blk.new _ _ _) rfl rfl rfl Tryz.underlying75 rfl iWide ?_
      | (go_at_call 154; refine (below_below n _).mono ?_; rintro e w' ⟨he, hb⟩; subst he))
    go_ret
    exact ⟨by simp [fl, hn], ((Below.refl _ _).alloc (Nat.le_refl _) _).trans (hb.mono (by simp))⟩

theorem minus0_core (y y' : Nat) (hy : Hid (∀ k, k < 8 → bits .xor .u64 IntKind.u64.max (lm y k) = lm y' k)) (w : World) :
    Calls Tryz.prog 169 #[W 0, W y] w fun e w' => e = .returned (.agg (cells8 (y' + 1))) ∧ Below w.heap.size w w' := by
  have h := minus_core 0 y y' hy w
  rwa [Nat.zero_add] at h

set_option maxHeartbeats 1000000 in
theorem size_core (n y' : Nat) (hy : Hid (∀ k, k < 8 → bits .xor .u64 IntKind.u64.max (lm n k) = lm y' k)) (w : World) :
    Calls Tryz.prog 159 #[W n] w fun e w' => e = .returned (.agg (cells8 (if neg n then y' + 1 else n))) ∧ Below w.heap.size w w' := by
  cases hn : neg n
  · go_enter Tryz.func159, Tryz.ntmps159
    go_wp2_with (first
      | refine ld8 75 (.tmp 1) (Blk.first2 _ _ _ _) rfl rfl rfl Tryz.underlying75 rfl iWide ?_
      | (go_at_call 154; refine (below_below n _).mono ?_; rintro e w' ⟨he, hb⟩; subst he)
      | refine ld8 73 (.tmp 9) ((Blk.first2 _ _ _ _).below hb (Blk.first2 _ _ _ _).lt) rfl rfl rfl Tryz.underlying73 rfl iArr ?_
      | refine st8 (n := n) 157 (.tmp 2) (.tmp 10) ((Blk.second2 _ _ _ _).below hb (Blk.second2 _ _ _ _).lt) rfl rfl rfl rfl rfl iLimbs ?_)
    refine res8 (((Blk.second2 _ _ _ _).below hb (Blk.second2 _ _ _ _).lt).row _) rfl rfl rfl Tryz.underlying157 rfl iLimbs ⟨by simp, ?_⟩
    exact below_row ((below2 _ _ _).trans (hb.mono (by simp; omega))) (by omega) _
  · go_enter Tryz.func159, Tryz.ntmps159
    go_wp2_with (first
      | refine ld8 75 (.tmp 1) (Blk.first2 _ _ _ _) rfl rfl rfl Tryz.underlying75 rfl iWide ?_
      | (go_at_call 154; refine (below_below n _).mono ?_; rintro e w' ⟨he, hb⟩; subst he)
      | refine bd0 157 rfl rfl bLimbs0 ?_
      | refine ld8 73 (.tmp 6) ((Blk.first2 _ _ _ _).below hb (Blk.first2 _ _ _ _).lt) rfl rfl rfl Tryz.underlying73 rfl iArr ?_
      | (go_at_call 169; refine (minus0_core n y' hy _).mono ?_; rintro e w2 ⟨he, hb2⟩; subst he)
      | refine st8 (n := y' + 1) 157 (.tmp 2) (.tmp 8) (((Blk.second2 _ _ _ _).below hb (Blk.second2 _ _ _ _).lt).below hb2 ((Blk.second2 _ _ _ _).below hb (Blk.second2 _ _ _ _).lt).lt) rfl rfl rfl rfl rfl iLimbs ?_)
    refine res8 ((((Blk.second2 _ _ _ _).below hb (Blk.second2 _ _ _ _).lt).below hb2 ((Blk.second2 _ _ _ _).below hb (Blk.second2 _ _ _ _).lt).lt).row _) rfl rfl rfl Tryz.underlying157 rfl iLimbs ⟨by simp, ?_⟩
    exact below_row (((below2 _ _ _).trans (hb.mono (by simp; omega))).trans (hb2.mono (by have := hb.size; simp at this; omega))) (by omega) _

/-- What signed knows of its blocks: the absolute value, the answer, the number. -/
structure Sgn (w0 : World) (g x v : Nat) (w : World) : Prop where
  x : Blk w g 157 (cells8 x)
  r : Blk w (g + 1) 75 (cells8 0)
  v : Blk w (g + 1 + 1) 75 (cells8 v)
  o : Below g w0 w
theorem Sgn.keep {w0 w w' : World} {g x v : Nat} (h : Sgn w0 g x v w) (hb : Below w.heap.size w w') : Sgn w0 g x v w' :=
  ⟨h.x.below hb h.x.lt, h.r.below hb h.r.lt, h.v.below hb h.v.lt, h.o.trans (hb.mono (Nat.le_of_lt h.x.lt))⟩
theorem Sgn.put {w0 w : World} {g x v : Nat} (h : Sgn w0 g x v w) (n : Nat) : Sgn w0 g x n (w.setRow (g + 1 + 1) (cells8 n)) :=
  ⟨h.x.rowOther _ (by omega), h.r.rowOther _ (by omega), h.v.row _, below_row h.o (by omega) _⟩
theorem Sgn.start (w : World) (x v : Nat) : Sgn w w.heap.size x v (((w.alloc (.cells (cells8 x) 157)).alloc (.cells #[.int .u64 0, .int .u64 0, .int .u64 0, .int .u64 0, .int .u64 0, .int .u64 0, .int .u64 0, .int .u64 0] 75)).alloc (.cells (cells8 v) 75)) :=
  ⟨Blk.first3 _ _ _ _ _, cells8_0 ▸ Blk.second3 _ _ _ _ _, Blk.third3 _ _ _ _ _, below3 _ _ _ _⟩

set_option maxHeartbeats 1000000 in
theorem signed_no (x : Nat) (w : World) :
    Calls Tryz.prog 155 #[W x, .bool false] w fun e w' => Ends (!same x 0 && neg x) x e ∧ Below w.heap.size w w' := by
  cases hz : same x 0
  · cases hn : neg x
    · go_enter Tryz.func155, Tryz.ntmps155
      go_upto_region 4 with (first
        | refine ld8 157 (.tmp 2) (Blk.first2 _ _ _ _) rfl rfl rfl Tryz.underlying157 rfl iLimbs ?_
        | refine bd1 75 (.tmp 6) rfl rfl rfl (bWide x) ?_
        | (refine st8at (n := x) 75 (.tmp 5) (.tmp 7) rfl rfl rfl rfl rfl iWide ?_ ?_; simp))
      have H := hide (Sgn.start w x x)
      go_wp2_with (first
        | refine ld8 157 (.tmp 2) (unhide H).x rfl rfl rfl Tryz.underlying157 rfl iLimbs ?_
        | refine bd0 157 rfl rfl bLimbs0 ?_
        | refine wpList_value rfl (exec_neq_limbs (n := x) (m := 0) _ (.tmp 13) (.tmp 14) rfl rfl rfl) ?_
        | refine ld8w 75 (.tmp 5) (unhide H).v rfl rfl rfl Tryz.underlying75 rfl iWide ?_
        | (go_at_call 154; refine (below_below x _).mono ?_; rintro e w' ⟨he, hb⟩; subst he; have H2 := hide ((unhide H).keep hb))
        | refine ld8 75 (.tmp 5) (unhide H2).v rfl rfl rfl Tryz.underlying75 rfl iWide ?_
        | refine st8 (n := x) 75 (.tmp 4) (.tmp 23) (unhide H2).r rfl rfl rfl rfl rfl iWide ?_)
      exact res8 ((unhide H2).r.row _) rfl rfl rfl Tryz.underlying75 rfl iWide ⟨by simp [Ends], below_row (unhide H2).o (by omega) _⟩
    · go_enter Tryz.func155, Tryz.ntmps155
      go_upto_region 4 with (first
        | refine ld8 157 (.tmp 2) (Blk.first2 _ _ _ _) rfl rfl rfl Tryz.underlying157 rfl iLimbs ?_
        | refine bd1 75 (.tmp 6) rfl rfl rfl (bWide x) ?_
        | (refine st8at (n := x) 75 (.tmp 5) (.tmp 7) rfl rfl rfl rfl rfl iWide ?_ ?_; simp))
      have H := hide (Sgn.start w x x)
      go_wp2_with (first
        | refine ld8 157 (.tmp 2) (unhide H).x rfl rfl rfl Tryz.underlying157 rfl iLimbs ?_
        | refine bd0 157 rfl rfl bLimbs0 ?_
        | refine wpList_value rfl (exec_neq_limbs (n := x) (m := 0) _ (.tmp 13) (.tmp 14) rfl rfl rfl) ?_
        | refine ld8w 75 (.tmp 5) (unhide H).v rfl rfl rfl Tryz.underlying75 rfl iWide ?_
        | (go_at_call 154; refine (below_below x _).mono ?_; rintro e w' ⟨he, hb⟩; subst he; have H2 := hide ((unhide H).keep hb))
        | fail)
      exact ⟨rfl, by simp [Ends, noAnswer], (unhide H2).o⟩
  · go_enter Tryz.func155, Tryz.ntmps155
    go_upto_region 4 with (first
      | refine ld8 157 (.tmp 2) (Blk.first2 _ _ _ _) rfl rfl rfl Tryz.underlying157 rfl iLimbs ?_
      | refine bd1 75 (.tmp 6) rfl rfl rfl (bWide x) ?_
      | (refine st8at (n := x) 75 (.tmp 5) (.tmp 7) rfl rfl rfl rfl rfl iWide ?_ ?_; simp))
    have H := hide (Sgn.start w x x)
    go_wp2_with (first
      | refine ld8 157 (.tmp 2) (unhide H).x rfl rfl rfl Tryz.underlying157 rfl iLimbs ?_
      | refine bd0 157 rfl rfl bLimbs0 ?_
      | refine wpList_value rfl (exec_neq_limbs (n := x) (m := 0) _ (.tmp 13) (.tmp 14) rfl rfl rfl) ?_
      | refine ld8 75 (.tmp 5) (unhide H).v rfl rfl rfl Tryz.underlying75 rfl iWide ?_
      | refine st8 (n := x) 75 (.tmp 4) (.tmp 23) (unhide H).r rfl rfl rfl rfl rfl iWide ?_)
    exact res8 ((unhide H).r.row _) rfl rfl rfl Tryz.underlying75 rfl iWide ⟨by simp [Ends], below_row (unhide H).o (by omega) _⟩

set_option maxHeartbeats 1000000 in
theorem signed_yes (x y' : Nat) (hy : Hid (∀ k, k < 8 → bits .xor .u64 IntKind.u64.max (lm x k) = lm y' k)) (w : World) :
    Calls Tryz.prog 155 #[W x, .bool true] w fun e w' => Ends (!same x 0 && !neg (y' + 1)) (y' + 1) e ∧ Below w.heap.size w w' := by
  cases hz : same x 0
  · cases hn : neg (y' + 1)
    · go_enter Tryz.func155, Tryz.ntmps155
      go_upto_region 3 with (first
        | refine ld8 157 (.tmp 2) (Blk.first2 _ _ _ _) rfl rfl rfl Tryz.underlying157 rfl iLimbs ?_
        | refine bd1 75 (.tmp 6) rfl rfl rfl (bWide x) ?_
        | (refine st8at (n := x) 75 (.tmp 5) (.tmp 7) rfl rfl rfl rfl rfl iWide ?_ ?_; simp))
      have H0 := hide (Sgn.start w x x)
      go_upto_region 4 with (first
        | refine bd0 157 rfl rfl bLimbs0 ?_
        | refine ld8 157 (.tmp 2) (unhide H0).x rfl rfl rfl Tryz.underlying157 rfl iLimbs ?_
        | (go_at_call 169; refine (minus0_core x y' hy _).mono ?_; rintro e w1 ⟨he, hb1⟩; subst he)
        | refine st8 (n := y' + 1) 73 (.tmp 12) (.tmp 11) ((unhide H0).keep hb1).v rfl rfl rfl rfl rfl iArr ?_)
      have H := hide (((unhide H0).keep hb1).put (y' + 1))
      go_wp2_with (first
        | refine ld8 157 (.tmp 2) (unhide H).x rfl rfl rfl Tryz.underlying157 rfl iLimbs ?_
        | refine bd0 157 rfl rfl bLimbs0 ?_
        | refine wpList_value rfl (exec_neq_limbs (n := x) (m := 0) _ (.tmp 13) (.tmp 14) rfl rfl rfl) ?_
        | refine ld8w 75 (.tmp 5) (unhide H).v rfl rfl rfl Tryz.underlying75 rfl iWide ?_
        | (go_at_call 154; refine (below_below (y' + 1) _).mono ?_; rintro e w' ⟨he, hb⟩; subst he; have H2 := hide ((unhide H).keep hb))
        | fail)
      exact ⟨rfl, by simp [Ends, noAnswer], (unhide H2).o⟩
    · go_enter Tryz.func155, Tryz.ntmps155
      go_upto_region 3 with (first
        | refine ld8 157 (.tmp 2) (Blk.first2 _ _ _ _) rfl rfl rfl Tryz.underlying157 rfl iLimbs ?_
        | refine bd1 75 (.tmp 6) rfl rfl rfl (bWide x) ?_
        | (refine st8at (n := x) 75 (.tmp 5) (.tmp 7) rfl rfl rfl rfl rfl iWide ?_ ?_; simp))
      have H0 := hide (Sgn.start w x x)
      go_upto_region 4 with (first
        | refine bd0 157 rfl rfl bLimbs0 ?_
        | refine ld8 157 (.tmp 2) (unhide H0).x rfl rfl rfl Tryz.underlying157 rfl iLimbs ?_
        | (go_at_call 169; refine (minus0_core x y' hy _).mono ?_; rintro e w1 ⟨he, hb1⟩; subst he)
        | refine st8 (n := y' + 1) 73 (.tmp 12) (.tmp 11) ((unhide H0).keep hb1).v rfl rfl rfl rfl rfl iArr ?_)
      have H := hide (((unhide H0).keep hb1).put (y' + 1))
      go_wp2_with (first
        | refine ld8 157 (.tmp 2) (unhide H).x rfl rfl rfl Tryz.underlying157 rfl iLimbs ?_
        | refine bd0 157 rfl rfl bLimbs0 ?_
        | refine wpList_value rfl (exec_neq_limbs (n := x) (m := 0) _ (.tmp 13) (.tmp 14) rfl rfl rfl) ?_
        | refine ld8w 75 (.tmp 5) (unhide H).v rfl rfl rfl Tryz.underlying75 rfl iWide ?_
        | (go_at_call 154; refine (below_below (y' + 1) _).mono ?_; rintro e w' ⟨he, hb⟩; subst he; have H2 := hide ((unhide H).keep hb))
        | refine ld8 75 (.tmp 5) (unhide H2).v rfl rfl rfl Tryz.underlying75 rfl iWide ?_
        | refine st8 (n := y' + 1) 75 (.tmp 4) (.tmp 23) (unhide H2).r rfl rfl rfl rfl rfl iWide ?_)
      exact res8 ((unhide H2).r.row _) rfl rfl rfl Tryz.underlying75 rfl iWide ⟨by simp [Ends], below_row (unhide H2).o (by omega) _⟩
  · go_enter Tryz.func155, Tryz.ntmps155
    go_upto_region 3 with (first
      | refine ld8 157 (.tmp 2) (Blk.first2 _ _ _ _) rfl rfl rfl Tryz.underlying157 rfl iLimbs ?_
      | refine bd1 75 (.tmp 6) rfl rfl rfl (bWide x) ?_
      | (refine st8at (n := x) 75 (.tmp 5) (.tmp 7) rfl rfl rfl rfl rfl iWide ?_ ?_; simp))
    have H0 := hide (Sgn.start w x x)
    go_upto_region 4 with (first
      | refine bd0 157 rfl rfl bLimbs0 ?_
      | refine ld8 157 (.tmp 2) (unhide H0).x rfl rfl rfl Tryz.underlying157 rfl iLimbs ?_
      | (go_at_call 169; refine (minus0_core x y' hy _).mono ?_; rintro e w1 ⟨he, hb1⟩; subst he)
      | refine st8 (n := y' + 1) 73 (.tmp 12) (.tmp 11) ((unhide H0).keep hb1).v rfl rfl rfl rfl rfl iArr ?_)
    have H := hide (((unhide H0).keep hb1).put (y' + 1))
    go_wp2_with (first
      | refine ld8 157 (.tmp 2) (unhide H).x rfl rfl rfl Tryz.underlying157 rfl iLimbs ?_
      | refine bd0 157 rfl rfl bLimbs0 ?_
      | refine wpList_value rfl (exec_neq_limbs (n := x) (m := 0) _ (.tmp 13) (.tmp 14) rfl rfl rfl) ?_
      | refine ld8 75 (.tmp 5) (unhide H).v rfl rfl rfl Tryz.underlying75 rfl iWide ?_
      | refine st8 (n := y' + 1) 75 (.tmp 4) (.tmp 23) (unhide H).r rfl rfl rfl rfl rfl iWide ?_)
    exact res8 ((unhide H).r.row _) rfl rfl rfl Tryz.underlying75 rfl iWide ⟨by simp [Ends], below_row (unhide H).o (by omega) _⟩

end Go.Proofs.YtnemedgdhojhdaaGreat
