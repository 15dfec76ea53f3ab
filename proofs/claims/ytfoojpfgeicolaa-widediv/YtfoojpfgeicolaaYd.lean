/- The contract of root of package wide: Newton's way. -/
import Derived.Test.YtfoojpfgeicolaaYc
import Derived.Deep.CutBlock
namespace Go.Proofs.Ytfoojpfgeicolaa
open Go.RowKit

theorem bOne : Try.prog.built 50 [(0, .int .u64 1)] = some (cells8 1) := by kernel_rfl

theorem exec_eql_limbs_is {o : Oper} {a : Act} (w : World) (x y : Operand) {n m : Nat} {ty' : TypeId} {b : Bool} (hb : same n m = b) (ho : o.op = .binOp .eql 50 x y ty') (hx : a.eval x = .agg (cells8 n)) (hy : a.eval y = .agg (cells8 m)) :
    (execOp a.eval o).run Try.prog w = .ok (.value (.bool b)) w := hb ▸ exec_eql_limbs w x y ho hx hy

/-- The number that limbs hold. -/
def numOf : List Value → Nat
  | [] => 0
  | v :: r => (intOf v).toNat + 18446744073709551616 * numOf r
theorem numOf_from (n c k : Nat) : numOf ((List.range' k c).map fun i => Value.int .u64 (lm n i)) = n / 2 ^ (64 * k) % 2 ^ (64 * c) := by
  induction c generalizing k with
  | zero => simp [numOf, Nat.mod_one]
  | succ c ih =>
    have e : (lm n k).toNat = n / 2 ^ (64 * k) % 18446744073709551616 := rfl
    rw [List.range'_succ, List.map_cons, numOf, ih, pow_step, pow_step, ← Nat.div_div_eq_div_mul, Nat.mul_comm (2 ^ (64 * c)), Nat.mod_mul]
    show (lm n k).toNat + _ = _
    rw [e]
def numAt (w : World) (g : Nat) : Nat := match w.heap[g]? with
  | some (.cells cs _ _) => numOf cs.toList
  | _ => 0
theorem numAt_eq {w : World} {g r : Nat} {t : TypeId} (h : Blk w g t (cells8 r)) (hr : r < M) : numAt w g = r := by
  unfold numAt
  rw [show w.heap[g]? = _ from h]
  have := numOf_from r 8 0
  rw [← M_pow8, Nat.mul_zero, Nat.pow_zero, Nat.div_one, Nat.mod_eq_of_lt hr] at this
  exact this

structure Rt (w0 : World) (g c x r : Nat) (w : World) : Prop where
  x : Blk w g 50 (cells8 x)
  o : Blk w (g + 1) 50 (cells8 0)
  r : Blk w c 50 (cells8 r)
  b : Below g w0 w
  gc : g + 1 < c
theorem Rt.keep {w0 w w' : World} {g c x r : Nat} (h : Rt w0 g c x r w) (hb : Below w.heap.size w w') : Rt w0 g c x r w' :=
  ⟨h.x.below hb h.x.lt, h.o.below hb h.o.lt, h.r.below hb h.r.lt, h.b.trans (hb.mono (Nat.le_of_lt h.x.lt)), h.gc⟩
theorem Rt.put {w0 w : World} {g c x r : Nat} (h : Rt w0 g c x r w) (n : Nat) : Rt w0 g c x n (w.setRow c (cells8 n)) := by
  have := h.gc
  exact ⟨h.x.rowOther _ (by omega), h.o.rowOther _ (by omega), h.r.row _, below_row h.b (by omega) _, h.gc⟩

theorem Rt.row2 {w0 w : World} {g c x r k : Nat} (h : Rt w0 g c x r w) (hc : c < k) (ho : g + 1 < k) (cs cs' : Array Value) : Rt w0 g c x r ((w.setRow k cs).setRow (k + 1) cs') :=
  ⟨(h.x.rowOther _ (by omega)).rowOther _ (by omega), (h.o.rowOther _ (by omega)).rowOther _ (by omega), (h.r.rowOther _ (by omega)).rowOther _ (by omega), below_row (below_row h.b (by omega) _) (by omega) _, h.gc⟩

structure Rs (w0 : World) (g x : Nat) (w : World) : Prop where
  x : Blk w g 50 (cells8 x)
  o : Blk w (g + 1) 50 (cells8 0)
  b : Below g w0 w
theorem Rs.keep {w0 w w' : World} {g x : Nat} (h : Rs w0 g x w) (hb : Below w.heap.size w w') : Rs w0 g x w' :=
  ⟨h.x.below hb h.x.lt, h.o.below hb h.o.lt, h.b.trans (hb.mono (Nat.le_of_lt h.x.lt))⟩
theorem Rs.start (w : World) (x : Nat) : Rs w w.heap.size x ((w.alloc (.cells (cells8 x) 50)).alloc
    (.cells #[.int .u64 0, .int .u64 0, .int .u64 0, .int .u64 0, .int .u64 0, .int .u64 0, .int .u64 0, .int .u64 0] 50)) :=
  ⟨Blk.first2 _ _ _ _, cells8_0 ▸ Blk.second2 _ _ _ _, below2 _ _ _⟩

/-- Where the way is: not below the root, and above 0. -/
structure Nw (x r : Nat) : Prop where
  pos : 0 < r
  le : r ≤ 2 ^ 256
  up : x < (r + 1) * (r + 1)
theorem Nw.lt {x r : Nat} (h : Nw x r) : r < M := Nat.lt_of_le_of_lt h.le (by decide)
theorem Nw.sum {x r : Nat} (h : Nw x r) : r + x / r < M := by
  have h1 := newton_small x r h.pos h.up
  have h2 := h.le
  have h3 : 2 ^ 256 + (2 ^ 256 + 2) < M := by decide
  generalize 2 ^ 256 = P at *
  omega
theorem Nw.next {x r : Nat} (h : Nw x r) (hx : 0 < x) (hlt : (r + x / r) / 2 < r) : Nw x ((r + x / r) / 2) :=
  ⟨newton_pos x r h.pos hx, Nat.le_trans (Nat.le_of_lt hlt) h.le, newton_down x r h.pos⟩

set_option maxHeartbeats 600000 in
theorem root_core (x h p : Nat) (w : World) (hx : Hid (0 < x)) (hM : Hid (x < M)) (hs : Hid (same x 0 = false)) (hh : (blen x + 1) / 2 = h) (hb : blen x ≤ 512) (hp : Hid (2 ^ h = p)) (hst : Hid (Nw x p)) :
    Calls Try.prog 63 #[W x] w fun e w' => (∃ r, e = .returned (.agg (cells8 r)) ∧ r * r ≤ x ∧ x < (r + 1) * (r + 1)) ∧ Below w.heap.size w w' := by
  have hL : Hid (∀ u, Calls Try.prog 40 #[W x] u fun e w' => e = .returned (.int .i64 (blen x : Int)) ∧ Below u.heap.size u w') := fun u => length_any x (unhide hM) u
  have hW : Hid (∀ u, Calls Try.prog 56 #[W 1, .int .i64 (-(h : Int)), .int .u64 0] u fun e w' => e = .returned (.agg (cells8 p)) ∧ Below u.heap.size u w') := fun u => by
    have := win_left 1 h (by decide) (by omega) u
    rw [Nat.one_mul, unhide hp] at this
    exact this
  have hw1 : IntKind.i64.wrap ((blen x : Int) + 1) = (blen x : Int) + 1 := by rw [IntKind.wrap_i64]; omega
  have hw2 : IntKind.i64.wrap (((blen x : Int) + 1).tdiv 2) = (h : Int) := by
    rw [IntKind.wrap_i64, Int.tdiv_eq_ediv_of_nonneg (by omega)]; omega
  have hw3 : IntKind.i64.wrap (-(h : Int)) = -(h : Int) := by rw [IntKind.wrap_i64]; omega
  go_enter Try.func63, Try.ntmps63
  go_upto_region 1 with fail
  have D0 := hide (Rs.start w x)
  go_wp2_with (first
    | refine bd0 50 rfl rfl bLimbs0 ?_
    | refine wpList_value rfl (exec_eql_limbs_is (n := x) (m := 0) (b := false) _ (.tmp 7) (.tmp 8) (unhide hs) rfl rfl rfl) ?_
    | refine bd1 50 (.const (.int .u64 1)) rfl rfl rfl bOne ?_
    | refine ld8 50 (.tmp 1) (unhide D0).x rfl rfl rfl Try.underlying50 rfl iLimbs ?_
    | (go_at_call 40; refine (unhide hL _).mono ?_; rintro e w1 ⟨he, hb1⟩; subst he)
    | (go_at_call 56; refine (unhide hW _).mono ?_; rintro e w2 ⟨he, hb2⟩; subst he)
    | refine st8 (n := p) 50 (.tmp 3) (.tmp 17) (Blk.new w2 50 #[.int .u64 0, .int .u64 0, .int .u64 0, .int .u64 0, .int .u64 0, .int .u64 0, .int .u64 0, .int .u64 0]) rfl rfl rfl rfl rfl iLimbs ?_)
  have D1 : Hid (Rt w w.heap.size w2.heap.size x (p) ((w2.alloc (.cells #[.int .u64 0, .int .u64 0, .int .u64 0, .int .u64 0, .int .u64 0, .int .u64 0, .int .u64 0, .int .u64 0] 50)).setRow w2.heap.size (cells8 (p)))) := by
    have d := ((unhide D0).keep hb1).keep hb2
    have h1 := d.x.lt
    have h2 := d.o.lt
    exact ⟨(d.x.alloc _).rowOther _ (by omega), (d.o.alloc _).rowOther _ (by omega), (Blk.new _ _ _).row _, below_row (d.b.alloc (Nat.le_of_lt d.x.lt) _) (by omega) _, h2⟩
  clear D0 hb1 hb2
  generalize (w2.alloc (.cells #[.int .u64 0, .int .u64 0, .int .u64 0, .int .u64 0, .int .u64 0, .int .u64 0, .int .u64 0, .int .u64 0] 50)).setRow w2.heap.size (cells8 (p)) = w3 at D1 ⊢
  generalize w2.heap.size = c at D1 ⊢
  simp only [Act.put]
  go_loopw [] (fun wr => ∃ r : Nat, Nw x r ∧ Rt w w.heap.size c x r wr) (fun wr => numAt wr c)
  case atStart => exact ⟨_, unhide hst, unhide D1⟩
  case round =>
    obtain ⟨r, N, D⟩ := hrel
    have HN := hide N
    have HD := hide D
    clear N D D1 hL hW hw1 hw2 hw3 hb hh hst
    have hD : Hid (∀ u, Calls Try.prog 71 #[W x, W r] u fun e w' => e = .returned (.tuple #[.agg (cells8 (x / r)), .agg (cells8 (x % r))]) ∧ Below u.heap.size u w') := fun u => divide_any x r u (unhide hM) (unhide HN).lt (unhide HN).pos
    have hP : Hid (∀ u, Calls Try.prog 68 #[W r, W (x / r)] u fun e w' => e = .returned (.agg (cells8 (r + x / r))) ∧ Below u.heap.size u w') := fun u => plus_any r (x / r) u
    have hV : Hid (∀ u, Calls Try.prog 56 #[W (r + x / r), .int .i64 1, .int .u64 0] u fun e w' => e = .returned (.agg (cells8 ((r + x / r) / 2))) ∧ Below u.heap.size u w') := fun u => by
      have := win_right0 (r + x / r) 1 (unhide HN).sum (by decide) u
      rw [Nat.pow_one] at this
      exact this
    have hnM : (r + x / r) / 2 < M := Nat.lt_of_le_of_lt (Nat.div_le_self _ _) (unhide HN).sum
    have hC : Hid (∀ u, Calls Try.prog 36 #[W ((r + x / r) / 2), W r] u fun e w' => e = .returned (.int .i64 (if (r + x / r) / 2 < r then -1 else if r < (r + x / r) / 2 then 1 else 0)) ∧ Below u.heap.size u w') := fun u => by
      have := compare_any ((r + x / r) / 2) r u
      rw [cmp_of _ _ hnM (unhide HN).lt] at this
      exact this
    have hrl := hide (unhide HN).lt
    have hdn : Hid ((r + x / r) / 2 < r → Nw x ((r + x / r) / 2)) := fun h => (unhide HN).next (unhide hx) h
    have hsp : Hid (¬ (r + x / r) / 2 < r → r * r ≤ x ∧ x < (r + 1) * (r + 1)) := fun h => ⟨newton_stop x r (unhide HN).pos (by omega), (unhide HN).up⟩
    have hnl := hide hnM
    clear HN hnM
    generalize (r + x / r) / 2 = z at hV hC hdn hsp hnl
    generalize x / r = q at hD hP hV
    generalize x % r = m at hD
    go_upto_region 5 with (first
      | refine ld8 50 (.tmp 1) (unhide HD).x rfl rfl rfl Try.underlying50 rfl iLimbs ?_
      | refine ld8 50 (.tmp 3) (unhide HD).r rfl rfl rfl Try.underlying50 rfl iLimbs ?_
      | (go_at_call 71; refine (unhide hD _).mono ?_; rintro e w4 ⟨he, hb4⟩; subst he)
      | refine st8 (n := q) 50 (.tmp 4) (.tmp 22) (Blk.first2 w4 50 _ _) rfl rfl rfl rfl rfl iLimbs ?_
      | refine st8 (n := m) 50 (.tmp 5) (.tmp 23) ((Blk.second2 w4 50 _ _).rowOther _ (by omega)) rfl rfl rfl rfl rfl iLimbs ?_)
    have D5 : Hid (Rt w w.heap.size c x r ((((w4.alloc (.cells #[.int .u64 0, .int .u64 0, .int .u64 0, .int .u64 0, .int .u64 0, .int .u64 0, .int .u64 0, .int .u64 0] 50)).alloc (.cells #[.int .u64 0, .int .u64 0, .int .u64 0, .int .u64 0, .int .u64 0, .int .u64 0, .int .u64 0, .int .u64 0] 50)).setRow w4.heap.size (cells8 q)).setRow (w4.heap.size + 1) (cells8 m))) := by
      have d := (unhide HD).keep hb4
      exact (d.keep (below2 _ _ _)).row2 d.r.lt d.o.lt _ _
    have Q5 : Hid (Blk ((((w4.alloc (.cells #[.int .u64 0, .int .u64 0, .int .u64 0, .int .u64 0, .int .u64 0, .int .u64 0, .int .u64 0, .int .u64 0] 50)).alloc (.cells #[.int .u64 0, .int .u64 0, .int .u64 0, .int .u64 0, .int .u64 0, .int .u64 0, .int .u64 0, .int .u64 0] 50)).setRow w4.heap.size (cells8 q)).setRow (w4.heap.size + 1) (cells8 m)) w4.heap.size 50 (cells8 q)) :=
      ((Blk.first2 w4 50 _ _).row _).rowOther _ (by omega)
    have hnu := hide (numAt_eq (unhide HD).r (unhide hrl))
    clear HD hb4 hD
    generalize ((((w4.alloc (.cells #[.int .u64 0, .int .u64 0, .int .u64 0, .int .u64 0, .int .u64 0, .int .u64 0, .int .u64 0, .int .u64 0] 50)).alloc (.cells #[.int .u64 0, .int .u64 0, .int .u64 0, .int .u64 0, .int .u64 0, .int .u64 0, .int .u64 0, .int .u64 0] 50)).setRow w4.heap.size (cells8 q)).setRow (w4.heap.size + 1) (cells8 m)) = w5 at D5 Q5 ⊢
    generalize w4.heap.size = d at Q5 ⊢
    go_upto_region 6 with (first
      | refine ld8 50 (.tmp 3) (unhide D5).r rfl rfl rfl Try.underlying50 rfl iLimbs ?_
      | refine ld8 50 (.tmp 4) (unhide Q5) rfl rfl rfl Try.underlying50 rfl iLimbs ?_
      | (go_at_call 68; refine (unhide hP _).mono ?_; rintro e w6 ⟨he, hb6⟩; subst he)
      | (go_at_call 56; refine (unhide hV _).mono ?_; rintro e w7 ⟨he, hb7⟩; subst he)
      | refine st8new (n := z) 50 (.tmp 6) (.tmp 27) rfl rfl rfl rfl rfl iLimbs ?_)
    have D6 := hide (((((unhide D5).keep hb6).keep hb7)).keep ((Below.refl _ w7).alloc (Nat.le_refl _) (.cells (cells8 z) 50)))
    have Z6 := hide (Blk.new w7 50 (cells8 z))
    clear D5 Q5 hb6 hb7 hP hV
    generalize w7.alloc (.cells (cells8 z) 50) = w8 at D6 Z6 ⊢
    generalize w7.heap.size = f at Z6 ⊢
    by_cases hlt : z < r
    · simp only [hlt, if_true] at hC
      have hnx := hide (unhide hdn hlt)
      have hme := hide hlt
      clear hdn hsp hlt
      go_wp2_with (first
        | refine ld8 50 (.tmp 6) (unhide Z6) rfl rfl rfl Try.underlying50 rfl iLimbs ?_
        | refine ld8 50 (.tmp 3) (unhide D6).r rfl rfl rfl Try.underlying50 rfl iLimbs ?_
        | (go_at_call 36; refine (unhide hC _).mono ?_; rintro e w9 ⟨he, hb9⟩; subst he)
        | refine ld8 50 (.tmp 6) ((unhide Z6).below hb9 (unhide Z6).lt) rfl rfl rfl Try.underlying50 rfl iLimbs ?_
        | refine st8 (n := z) 50 (.tmp 3) (.tmp 33) ((unhide D6).keep hb9).r rfl rfl rfl rfl rfl iLimbs ?_)
      have D9 := hide (((unhide D6).keep hb9).put z)
      clear D6 hb9
      go_simp
      go_roundw
      case rel => exact ⟨z, unhide hnx, unhide D9⟩
      case measure =>
        rw [unhide hnu, numAt_eq (unhide D9).r (unhide hnl)]
        exact unhide hme
    · simp only [hlt, if_false] at hC
      obtain ⟨v, hv, hv'⟩ : ∃ v : Int, (if r < z then (1 : Int) else 0) = v ∧ 0 ≤ v := ⟨_, rfl, by split <;> omega⟩
      rw [hv] at hC
      have hfin := hide (unhide hsp hlt)
      clear hdn hsp hlt hv
      go_wp2_with (first
        | refine ld8 50 (.tmp 6) (unhide Z6) rfl rfl rfl Try.underlying50 rfl iLimbs ?_
        | refine ld8 50 (.tmp 3) (unhide D6).r rfl rfl rfl Try.underlying50 rfl iLimbs ?_
        | (go_at_call 36; refine (unhide hC _).mono ?_; rintro e w9 ⟨he, hb9⟩; subst he)
        | refine ld8 50 (.tmp 3) ((unhide D6).keep hb9).r rfl rfl rfl Try.underlying50 rfl iLimbs ?_
        | refine st8 (n := r) 50 (.tmp 2) (.tmp 32) ((unhide D6).keep hb9).o rfl rfl rfl rfl rfl iLimbs ?_)
      exact res8 (((unhide D6).keep hb9).o.row _) rfl rfl rfl Try.underlying50 rfl iLimbs ⟨⟨r, rfl, unhide hfin⟩, below_row ((unhide D6).keep hb9).b (by omega) _⟩

theorem root_zero (w : World) :
    Calls Try.prog 63 #[W 0] w fun e w' => e = .returned (.agg (cells8 0)) ∧ Below w.heap.size w w' := by
  go_enter Try.func63, Try.ntmps63
  go_upto_region 1 with fail
  have D0 := hide (Rs.start w 0)
  go_wp2_with (first
    | refine bd0 50 rfl rfl bLimbs0 ?_
    | refine wpList_value rfl (exec_eql_limbs_is (n := 0) (m := 0) (b := true) _ (.tmp 7) (.tmp 8) rfl rfl rfl rfl) ?_
    | refine ld8 50 (.tmp 1) (unhide D0).x rfl rfl rfl Try.underlying50 rfl iLimbs ?_
    | refine st8 (n := 0) 50 (.tmp 2) (.tmp 10) (unhide D0).o rfl rfl rfl rfl rfl iLimbs ?_)
  exact res8 ((unhide D0).o.row _) rfl rfl rfl Try.underlying50 rfl iLimbs ⟨rfl, below_row (unhide D0).b (by omega) _⟩

theorem root_any (x : Nat) (hx : x < M) (w : World) :
    Calls Try.prog 63 #[W x] w fun e w' => (∃ r, e = .returned (.agg (cells8 r)) ∧ r * r ≤ x ∧ x < (r + 1) * (r + 1)) ∧ Below w.heap.size w w' := by
  rcases Nat.eq_zero_or_pos x with h0 | h0
  · subst h0
    exact (root_zero w).mono fun e w' ⟨he, hb⟩ => ⟨⟨0, he, by decide, by decide⟩, hb⟩
  have hb := (blen_lt x (64 * 8)).2 (by rw [← M_pow8]; exact hx)
  refine root_core x _ _ w h0 hx ?_ rfl hb rfl ⟨Nat.pow_pos (by decide), Nat.pow_le_pow_right (by decide) (by omega), newton_start x⟩
  show same x 0 = false
  unfold same
  rw [Nat.mod_eq_of_lt hx, Nat.zero_mod]
  simp
  omega

end Go.Proofs.Ytfoojpfgeicolaa
