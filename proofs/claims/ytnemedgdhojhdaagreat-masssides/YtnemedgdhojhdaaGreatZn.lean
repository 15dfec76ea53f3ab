/- The contracts of Of of package wide and Small of the document's answer. The contracts of Sign, Cmp and Bits of package wide. The contract of awake: it is true. What a law knows of its numbers: a list of blocks and what lies in them. The sums and products of limbs keep the ring's laws, where they fit. The other answers over limbs: differences, opposites, shifts, roots, signs, comparisons, quotients; and what undoes what. -/
import Derived.Test.YtnemedgdhojhdaaGreatZf
import Derived.Test.YtnemedgdhojhdaaGreatZj
namespace Go.Proofs.YtnemedgdhojhdaaGreat
open Go.RowKit
set_option maxRecDepth 4000

/-- The limb that stands above an int64 number, and the number all of whose limbs it is. -/
def ofl (n : Int) : Int := if n < 0 then 18446744073709551615 else 0
def ofr (n : Int) : Nat := if n < 0 then M - 1 else 0
theorem lm_ofr (n : Int) (k : Nat) (hk : k < 8) : lm (ofr n) k = ofl n := by
  unfold ofr ofl
  split
  · have := lm_cpl 0 k M_pos hk
    rw [Nat.sub_zero] at this
    rw [this]
    simp
  · exact lm_zero k
theorem lm_small (n k : Nat) (hn : n < 18446744073709551616) (hk : 0 < k) : lm n k = 0 := by
  unfold lm
  rw [Nat.div_eq_of_lt]
  · rfl
  · have h1 := pow64_le (show 1 ≤ k by omega)
    have h2 : 2 ^ (64 * 1) = 18446744073709551616 := rfl
    omega
theorem lm_of (n : Int) (h0 : -9223372036854775808 ≤ n) (h1 : n < 9223372036854775808) (k : Nat) (hk : k < 8) : lm (enc n) k = if k = 0 then n % 18446744073709551616 else ofl n := by
  have hM := MI
  have hH : 18446744073709551616 < (H : Int) := by decide
  rcases (show n < 0 ∨ 0 ≤ n by omega) with hn | hn
  · have he := enc_neg hn (by omega)
    have hy : enc n = M - 1 - (n.natAbs - 1) := by omega
    rw [hy, lm_cpl _ k (by omega) hk]
    unfold ofl
    rw [if_pos hn]
    by_cases h : k = 0
    · subst h
      simp only [Nat.mul_zero, Nat.pow_zero, Nat.div_one, if_true]
      omega
    · rw [if_neg h]
      have := lm_small (n.natAbs - 1) k (by omega) (by omega)
      unfold lm at this
      omega
  · have he := enc_nn hn (by omega)
    have ho : ofl n = 0 := if_neg (by omega)
    rw [ho]
    by_cases h : k = 0
    · subst h
      rw [if_pos rfl]
      unfold lm
      simp only [Nat.mul_zero, Nat.pow_zero, Nat.div_one]
      omega
    · rw [if_neg h]
      exact lm_small _ _ (by omega) (by omega)
theorem of_set (n : Int) (h0 : -9223372036854775808 ≤ n) (h1 : n < 9223372036854775808) : (cells8 (ofr n)).setIfInBounds 0 (.int .u64 (n % 18446744073709551616)) = cells8 (enc n) := by
  apply Array.ext_getElem?
  intro j
  rw [Array.getElem?_setIfInBounds]
  by_cases h8 : j < 8
  · rw [cells8_get _ _ h8, cells8_get _ _ h8, lm_of n h0 h1 j h8, lm_ofr n j h8]
    by_cases h : j = 0
    · subst h
      simp [cells8]
    · rw [if_neg (by omega), if_neg h]
  · have e1 : (cells8 (enc n))[j]? = none := Array.getElem?_eq_none (by simp [cells8]; omega)
    have e2 : (cells8 (ofr n))[j]? = none := Array.getElem?_eq_none (by simp [cells8]; omega)
    rw [e1, e2, if_neg (by omega)]

/-- What Of knows of its blocks. -/
structure Fo (w0 : World) (g : Nat) (cs : Array Value) (w : World) : Prop where
  r : Blk w g 75 (cells8 0)
  y : Blk w (g + 1) 75 cs
  o : Below g w0 w

theorem Fo.set {w0 w : World} {g : Nat} {cs : Array Value} (h : Fo w0 g cs w) (i : Nat) (v : Value) : Fo w0 g (cs.setIfInBounds i v) (w.setCell ⟨g + 1, i, none⟩ v) :=
  ⟨h.r.other _ _ (by simp), h.y.set i v, h.o.setCell (by simp) v⟩
theorem mix_of (n : Int) (k : Nat) (hk : k < 8) : (mix8 0 (ofr n) k).setIfInBounds k (.int .u64 (ofl n)) = mix8 0 (ofr n) (k + 1) := by
  rw [← lm_ofr n k hk, mix8_set _ _ _ hk]

set_option maxHeartbeats 600000 in
theorem Of_core (n m : Int) (w : World) (hql : IntKind.u64.wrap (n / 9223372036854775808) = ofl n) (hm : IntKind.u64.wrap n = m) (hset : Hid ((cells8 (ofr n)).setIfInBounds 0 (.int .u64 m) = cells8 (enc n))) :
    Calls Tryz.prog 91 #[.int .i64 n] w fun e w' => e = .returned (.agg (cells8 (enc n))) ∧ Below w.heap.size w w' := by
  go_enter Tryz.func91, Tryz.ntmps91
  go_wp2
  go_loopw [5] (fun i wr => ∃ k : Nat, k ≤ 8 ∧ i = .int .i64 k ∧ Fo w w.heap.size (mix8 0 (ofr n) k) wr) (fun i _ => 8 - (intOf i).toNat)
  case atStart => exact ⟨0, by omega, rfl, ⟨cells8_0 ▸ Blk.first2 _ _ _ _, by rw [mix8_zero, cells8_0]; exact Blk.second2 _ _ _ _, below2 _ _ _⟩⟩
  case round =>
    obtain ⟨k, hk, rfl, R⟩ := hrel
    by_cases hlt : k < 8
    · have hg : (k : Int) < 8 := by omega
      have HR := hide R
      have hc : wr.cell? ⟨w.heap.size + 1, k, none⟩ = some (.int .u64 (mx 0 (ofr n) k k)) := by rw [R.y.cell, mix8_get _ _ _ _ hlt]
      have hf := R.y.frozen k
      clear R
      go_wp2
      go_roundw
      case rel => exact ⟨k + 1, by omega, by go_num, by rw [← mix_of n k hlt]; exact (unhide HR).set k _⟩
      case measure => simp [intOf]; omega
    · have e8 : k = 8 := by omega
      subst e8
      rw [mix8_full] at R
      have HR := hide R
      have hc : wr.cell? ⟨w.heap.size + 1, 0, none⟩ = some (.int .u64 (lm (ofr n) 0)) := by rw [R.y.cell, cells8_get _ _ (by decide)]
      have hf := R.y.frozen 0
      clear R
      have D1 : Hid (Fo w w.heap.size (cells8 (enc n)) (wr.setCell ⟨w.heap.size + 1, 0, none⟩ (.int .u64 m))) := unhide hset ▸ (unhide HR).set 0 (.int .u64 m)
      go_wp2_with (first
        | refine ld8 75 (.tmp 3) (unhide D1).y rfl rfl rfl Tryz.underlying75 rfl iWide ?_
        | refine st8 (n := enc n) 75 (.tmp 2) (.tmp 19) (unhide D1).r rfl rfl rfl rfl rfl iWide ?_)
      exact res8 ((unhide D1).r.row _) rfl rfl rfl Tryz.underlying75 rfl iWide ⟨rfl, below_row (unhide D1).o (Nat.le_refl _) _⟩

theorem of_wrap (n : Int) (h0 : -9223372036854775808 ≤ n) (h1 : n < 9223372036854775808) : IntKind.u64.wrap (n / 9223372036854775808) = ofl n := by
  unfold ofl
  rw [IntKind.wrap_u64]
  split <;> omega
theorem OfZ (n : Int) (h0 : -9223372036854775808 ≤ n) (h1 : n < 9223372036854775808) (w : World) :
    Calls Tryz.prog 91 #[.int .i64 n] w fun e w' => e = .returned (V n) ∧ Below w.heap.size w w' :=
  Of_core n (n % 18446744073709551616) w (of_wrap n h0 h1) (by rw [IntKind.wrap_u64]) (of_set n h0 h1)

set_option maxHeartbeats 600000 in
theorem Small_core (n m : Int) (w : World) (hm : IntKind.u64.wrap n = m) (hset : Hid ((cells8 (ofr n)).setIfInBounds 0 (.int .u64 m) = cells8 (enc n))) :
    Calls Tryz.prog 85 #[.int .i64 n] w fun e w' => e = .returned (.agg (cells8 (enc n))) ∧ Below w.heap.size w w' := by
  go_enter Tryz.func85, Tryz.ntmps85
  go_wp2
  go_loopw [4] (fun i wr => ∃ k : Nat, k ≤ 8 ∧ i = .int .i64 k ∧ Fo w w.heap.size (mix8 0 (ofr n) k) wr) (fun i _ => 8 - (intOf i).toNat)
  case atStart => exact ⟨0, by omega, rfl, ⟨cells8_0 ▸ Blk.first2 _ _ _ _, by rw [mix8_zero, cells8_0]; exact Blk.second2 _ _ _ _, below2 _ _ _⟩⟩
  case round =>
    obtain ⟨k, hk, rfl, R⟩ := hrel
    by_cases hlt : k < 8
    · have hg : (k : Int) < 8 := by omega
      have HR := hide R
      have hc : wr.cell? ⟨w.heap.size + 1, k, none⟩ = some (.int .u64 (mx 0 (ofr n) k k)) := by rw [R.y.cell, mix8_get _ _ _ _ hlt]
      have hf := R.y.frozen k
      clear R
      by_cases hn : n < 0
      · have hfl : Hid (ofl n = 18446744073709551615) := if_pos hn
        go_wp2
        go_roundw
        case rel => exact ⟨k + 1, by omega, by go_num, by rw [← mix_of n k hlt, unhide hfl]; exact (unhide HR).set k _⟩
        case measure => simp [intOf]; omega
      · have hfl : Hid (mix8 0 (ofr n) (k + 1) = mix8 0 (ofr n) k) := by
          have : ofr n = 0 := if_neg hn
          show mix8 0 (ofr n) (k + 1) = mix8 0 (ofr n) k
          rw [this]
          simp only [mix8, mx, ite_self]
        go_wp2
        go_roundw
        case rel => exact ⟨k + 1, by omega, by go_num, by rw [unhide hfl]; exact unhide HR⟩
        case measure => simp [intOf]; omega
    · have e8 : k = 8 := by omega
      subst e8
      rw [mix8_full] at R
      have HR := hide R
      have hc : wr.cell? ⟨w.heap.size + 1, 0, none⟩ = some (.int .u64 (lm (ofr n) 0)) := by rw [R.y.cell, cells8_get _ _ (by decide)]
      have hf := R.y.frozen 0
      clear R
      have D1 : Hid (Fo w w.heap.size (cells8 (enc n)) (wr.setCell ⟨w.heap.size + 1, 0, none⟩ (.int .u64 m))) := unhide hset ▸ (unhide HR).set 0 (.int .u64 m)
      go_wp2_with (first
        | refine ld8 75 (.tmp 3) (unhide D1).y rfl rfl rfl Tryz.underlying75 rfl iWide ?_
        | refine st8 (n := enc n) 75 (.tmp 2) (.tmp 18) (unhide D1).r rfl rfl rfl rfl rfl iWide ?_)
      exact res8 ((unhide D1).r.row _) rfl rfl rfl Tryz.underlying75 rfl iWide ⟨rfl, below_row (unhide D1).o (Nat.le_refl _) _⟩

theorem SmallZ (n : Int) (h0 : -9223372036854775808 ≤ n) (h1 : n < 9223372036854775808) (w : World) :
    Calls Tryz.prog 85 #[.int .i64 n] w fun e w' => e = .returned (V n) ∧ Below w.heap.size w w' :=
  Small_core n (n % 18446744073709551616) w (by rw [IntKind.wrap_u64]) (of_set n h0 h1)

end Go.Proofs.YtnemedgdhojhdaaGreat

namespace Go.Proofs.YtnemedgdhojhdaaGreat
open Go.RowKit
set_option maxRecDepth 4000

def sgn (x : Int) : Int := if x < 0 then -1 else if x = 0 then 0 else 1
def cmpI (x y : Int) : Int := if x < y then -1 else if y < x then 1 else 0

theorem exec_eql_wide_b {o : Oper} {a : Act} (w : World) (x y : Operand) {n m : Nat} {ty' : TypeId} {b : Bool} (hb : same n m = b) (ho : o.op = .binOp .eql 75 x y ty') (hx : a.eval x = .agg (cells8 n)) (hy : a.eval y = .agg (cells8 m)) :
    (execOp a.eval o).run Tryz.prog w = .ok (.value (.bool b)) w := hb ▸ exec_eql_wide w x y ho hx hy

theorem Sign_core (a : Nat) (ng z : Bool) (w : World) (hN : Hid (∀ u, Calls Tryz.prog 154 #[W a] u fun e w' => e = .returned (.bool ng) ∧ Below u.heap.size u w')) (hz : Hid (same a 0 = z)) :
    Calls Tryz.prog 135 #[W a] w fun e w' => e = .returned (.int .i64 (bif ng then -1 else bif z then 0 else 1)) ∧ Below w.heap.size w w' := by
  have D0 := hide (Blk.new w 75 (cells8 a))
  cases ng
  · cases z
    · go_enter Tryz.func135, Tryz.ntmps135
      go_wp2_with (first
        | refine ld8 75 (.tmp 1) (unhide D0) rfl rfl rfl Tryz.underlying75 rfl iWide ?_
        | (go_at_call 154; refine (unhide hN _).mono ?_; rintro e w1 ⟨he, hb1⟩; subst he)
        | refine ld8 75 (.tmp 1) ((unhide D0).below hb1 (unhide D0).lt) rfl rfl rfl Tryz.underlying75 rfl iWide ?_
        | refine bd0 75 rfl rfl bWide0 ?_
        | refine wpList_value rfl (exec_eql_wide_b (n := a) (m := 0) (b := false) _ (.tmp 5) (.tmp 6) (unhide hz) rfl rfl rfl) ?_)
      go_ret
      exact ⟨rfl, ((Below.refl _ _).alloc (Nat.le_refl _) _).trans (hb1.mono (by simp))⟩
    · go_enter Tryz.func135, Tryz.ntmps135
      go_wp2_with (first
        | refine ld8 75 (.tmp 1) (unhide D0) rfl rfl rfl Tryz.underlying75 rfl iWide ?_
        | (go_at_call 154; refine (unhide hN _).mono ?_; rintro e w1 ⟨he, hb1⟩; subst he)
        | refine ld8 75 (.tmp 1) ((unhide D0).below hb1 (unhide D0).lt) rfl rfl rfl Tryz.underlying75 rfl iWide ?_
        | refine bd0 75 rfl rfl bWide0 ?_
        | refine wpList_value rfl (exec_eql_wide_b (n := a) (m := 0) (b := true) _ (.tmp 5) (.tmp 6) (unhide hz) rfl rfl rfl) ?_)
      go_ret
      exact ⟨rfl, ((Below.refl _ _).alloc (Nat.le_refl _) _).trans (hb1.mono (by simp))⟩
  · go_enter Tryz.func135, Tryz.ntmps135
    go_wp2_with (first
      | refine ld8 75 (.tmp 1) (unhide D0) rfl rfl rfl Tryz.underlying75 rfl iWide ?_
      | (go_at_call 154; refine (unhide hN _).mono ?_; rintro e w1 ⟨he, hb1⟩; subst he))
    go_ret
    exact ⟨rfl, ((Below.refl _ _).alloc (Nat.le_refl _) _).trans (hb1.mono (by simp))⟩

theorem SignZ (x : Int) (hx : Fit x) (w : World) :
    Calls Tryz.prog 135 #[V x] w fun e w' => e = .returned (.int .i64 (sgn x)) ∧ Below w.heap.size w w' := by
  refine (Sign_core (enc x) (decide (x < 0)) (decide (x = 0)) w (belowZ x hx) (by have := same_enc hx fit_zero; rwa [show enc 0 = 0 from rfl] at this)).mono fun e w' ⟨he, hb⟩ => ⟨?_, hb⟩
  rw [he]
  unfold sgn
  by_cases h1 : x < 0 <;> by_cases h2 : x = 0 <;> simp [h1, h2]

/-- What Cmp knows of its blocks. -/
structure Cm (w0 : World) (g a b : Nat) (w : World) : Prop where
  a : Blk w g 75 (cells8 a)
  b : Blk w (g + 1) 75 (cells8 b)
  o : Below g w0 w

end Go.Proofs.YtnemedgdhojhdaaGreat

namespace Go.Proofs.YtnemedgdhojhdaaGreat
open Go.RowKit
set_option maxRecDepth 4000

/-- Two new blocks, each filled. -/
theorem two_new (w : World) (o1 o2 : Obj) (cs cs' : Array Value) : Below w.heap.size w ((((w.alloc o1).alloc o2).setRow w.heap.size cs).setRow (w.heap.size + 1) cs') :=
  below_row (below_row (below2 w o1 o2) (Nat.le_refl _) cs) (by omega) cs'

/-- What awake knows of its blocks. -/
structure Aw (w0 : World) (g h k q r s : Nat) (w : World) : Prop where
  q : Blk w g 75 (cells8 q)
  r : Blk w h 75 (cells8 r)
  s : Blk w k 75 (cells8 s)
  o : Below w0.heap.size w0 w
theorem Aw.keep {w0 w w' : World} {g h k q r s : Nat} (d : Aw w0 g h k q r s w) (hb : Below w.heap.size w w') : Aw w0 g h k q r s w' :=
  ⟨d.q.below hb d.q.lt, d.r.below hb d.r.lt, d.s.below hb d.s.lt, d.o.trans (hb.mono d.o.size)⟩

structure Aw2 (w0 : World) (g q r : Nat) (w : World) : Prop where
  q : Blk w g 75 (cells8 q)
  r : Blk w (g + 1) 75 (cells8 r)
  o : Below w0.heap.size w0 w
theorem Aw2.keep {w0 w w' : World} {g q r : Nat} (d : Aw2 w0 g q r w) (hb : Below w.heap.size w w') : Aw2 w0 g q r w' :=
  ⟨d.q.below hb d.q.lt, d.r.below hb d.r.lt, d.o.trans (hb.mono d.o.size)⟩

end Go.Proofs.YtnemedgdhojhdaaGreat

namespace Go.Proofs.YtnemedgdhojhdaaGreat
open Go.RowKit
set_option maxRecDepth 4000

/-- Each block of the list holds its number; what was is as it was. -/
structure Env (w0 : World) (l : List (Nat × Nat)) (w : World) : Prop where
  at_ : ∀ p ∈ l, Blk w p.1 75 (cells8 p.2)
  o : Below w0.heap.size w0 w
theorem Env.keep {w0 w w' : World} {l : List (Nat × Nat)} (d : Env w0 l w) (hb : Below w.heap.size w w') : Env w0 l w' :=
  ⟨fun p hp => (d.at_ p hp).below hb (d.at_ p hp).lt, d.o.trans (hb.mono d.o.size)⟩
theorem Env.push {w0 w : World} {l : List (Nat × Nat)} (d : Env w0 l w) (n : Nat) : Env w0 ((w.heap.size, n) :: l) (w.alloc (.cells (cells8 n) 75)) := by
  refine ⟨fun p hp => ?_, d.o.alloc d.o.size _⟩
  rcases List.mem_cons.1 hp with e | hp
  · subst e; exact Blk.new _ _ _
  · exact (d.at_ p hp).alloc _
theorem Env.drew {w0 w : World} {l : List (Nat × Nat)} (d : Env w0 l w) : Env w0 l w.drew := ⟨fun p hp => (d.at_ p hp).drew, d.o.drew⟩
theorem Env.start (w : World) : Env w [] w := ⟨fun _ hp => (List.not_mem_nil hp).elim, Below.refl _ _⟩
theorem Env.one (w : World) (a : Nat) : Env w [(w.heap.size, a)] (w.alloc (.cells (cells8 a) 75)) := (Env.start w).push a
theorem Env.two (w : World) (a b : Nat) : Env w [(w.heap.size + 1, b), (w.heap.size, a)] ((w.alloc (.cells (cells8 a) 75)).alloc (.cells (cells8 b) 75)) := by
  have h := (Env.one w a).push b
  simpa using h
theorem Env.three (w : World) (a b c : Nat) : Env w [(w.heap.size + 1 + 1, c), (w.heap.size + 1, b), (w.heap.size, a)] (((w.alloc (.cells (cells8 a) 75)).alloc (.cells (cells8 b) 75)).alloc (.cells (cells8 c) 75)) := by
  have h := (Env.two w a b).push c
  simpa using h
theorem Env.blk {w0 w : World} {l : List (Nat × Nat)} {g n : Nat} (d : Env w0 l w) (hm : (g, n) ∈ l) : Blk w g 75 (cells8 n) := d.at_ (g, n) hm

theorem at_list {P : Program} {ops : Array Oper} {Q : Exit → Act → World → Prop} {l : List Oper} {a : Act} {w : World} (h : wpList P ops Q l a w) : wpList P ops Q l a w := h

section
variable {ops : Array Oper} {rest : List Oper} {o : Oper} {a : Act} {w w0 : World} {Q : Exit → Act → World → Prop} {l : List (Nat × Nat)} {n m g : Nat}
/-- A number out of its block. -/
theorem ldE (d : Env w0 l w) (x : Operand) (ho : o.op = .load 75 x) (hgd : o.guard = none) (hx : a.eval x = ptr g) (hm : (g, n) ∈ l)
    (h : wpList Tryz.prog ops Q rest (a.put o.dst (.agg (cells8 n))) w) : wpList Tryz.prog ops Q (o :: rest) a w :=
  ld8 75 x (d.blk hm) ho hgd hx Tryz.underlying75 rfl iWide h
theorem ldEw (d : Env w0 l w) (x : Operand) (ho : o.op = .load 75 x) (hgd : Region.wanted o (yielded ops a.tmps) = true) (hx : a.eval x = ptr g) (hm : (g, n) ∈ l)
    (h : wpList Tryz.prog ops Q rest (a.put o.dst (.agg (cells8 n))) w) : wpList Tryz.prog ops Q (o :: rest) a w :=
  ld8w 75 x (d.blk hm) ho hgd hx Tryz.underlying75 rfl iWide h
/-- A number into a new block. -/
theorem stE {old : Array Value} (d : Env w0 l w) (x y : Operand) (hold : old.size = 8) (ho : o.op = .store 75 x y) (hgd : o.guard = none) (hx : a.eval x = ptr w.heap.size) (hy : a.eval y = .agg (cells8 n))
    (h : Env w0 ((w.heap.size, n) :: l) (w.alloc (.cells (cells8 n) 75)) → wpList Tryz.prog ops Q rest (a.put o.dst undef) (w.alloc (.cells (cells8 n) 75))) : wpList Tryz.prog ops Q (o :: rest) a (w.alloc (.cells old 75)) :=
  st8new 75 x y hold ho hgd hx hy iWide (h (d.push n))
theorem exec_neq_wide_is {ty' : TypeId} {b : Bool} (hb : same n m = b) (w : World) (x y : Operand) (ho : o.op = .binOp .neq 75 x y ty') (hx : a.eval x = .agg (cells8 n)) (hy : a.eval y = .agg (cells8 m)) :
    (execOp a.eval o).run Tryz.prog w = .ok (.value (.bool (!b))) w := hb ▸ exec_neq_wide w x y ho hx hy
end

/-- The sums and products of limbs: what is answered, and whether it fits. -/
def addN (a b : Nat) : Nat := bif fit (sv a + sv b) then enc (sv a + sv b) else 0
def addB (a b : Nat) : Bool := fit (sv a + sv b)
def subN (a b : Nat) : Nat := bif fit (sv a - sv b) then enc (sv a - sv b) else 0
def subB (a b : Nat) : Bool := fit (sv a - sv b)
def mulN (a b : Nat) : Nat := bif fit (sv a * sv b) then enc (sv a * sv b) else 0
def mulB (a b : Nat) : Bool := fit (sv a * sv b)
end Go.Proofs.YtnemedgdhojhdaaGreat

namespace Go.Proofs.YtnemedgdhojhdaaGreat
open Go.RowKit
set_option maxRecDepth 4000

end Go.Proofs.YtnemedgdhojhdaaGreat

namespace Go.Proofs.YtnemedgdhojhdaaGreat
open Go.RowKit
set_option maxRecDepth 4000

def negN (a : Nat) : Nat := bif fit (-sv a) then enc (-sv a) else 0
def negB (a : Nat) : Bool := fit (-sv a)
def shlB (n : Int) (a : Nat) : Bool := !decide (n < 0) && fit (sv a * ((2 ^ n.toNat : Nat) : Int))
def shlN (n : Int) (a : Nat) : Nat := bif shlB n a then enc (sv a * ((2 ^ n.toNat : Nat) : Int)) else 0
def shrN (n : Int) (a : Nat) : Nat := enc (sv a / ((2 ^ n.toNat : Nat) : Int))
def sqB (a : Nat) : Bool := !decide (sv a < 0)
def sqN (a : Nat) : Nat := bif sqB a then enc (isq (sv a).toNat : Nat) else 0
def dqB (a b : Nat) : Bool := dq (sv a) (sv b)
def dqN (a b : Nat) : Nat := bif dq (sv a) (sv b) then enc ((sv a).fdiv (sv b)) else 0
def drN (a b : Nat) : Nat := bif dq (sv a) (sv b) then enc ((sv a).fmod (sv b)) else 0
/-! What undoes what. -/
/-! The root. -/
end Go.Proofs.YtnemedgdhojhdaaGreat
