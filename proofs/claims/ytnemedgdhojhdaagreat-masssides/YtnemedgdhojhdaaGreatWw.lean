/- The contract of divide of package wide: the quotient and what is left. -/
import Derived.Test.YtnemedgdhojhdaaGreatWx
import Derived.Test.YtnemedgdhojhdaaGreatWv
import Derived.Test.YtnemedgdhojhdaaGreatYy
import Derived.Deep.CutBlock
namespace Go.Proofs.YtnemedgdhojhdaaGreat
open Go.RowKit
set_option maxRecDepth 4000

/-- What divide knows of its blocks. -/
structure Dv (w0 : World) (g x Y Q S : Nat) (w : World) : Prop where
  x : Blk w g 157 (cells8 x)
  y : Blk w (g + 1) 157 (cells8 Y)
  q : Blk w (g + 1 + 1) 157 (cells8 Q)
  r : Blk w (g + 1 + 1 + 1) 157 (cells8 S)
  o : Below g w0 w
theorem Dv.keep {w0 w w' : World} {g x Y Q S : Nat} (h : Dv w0 g x Y Q S w) (hb : Below w.heap.size w w') : Dv w0 g x Y Q S w' :=
  ⟨h.x.below hb h.x.lt, h.y.below hb h.y.lt, h.q.below hb h.q.lt, h.r.below hb h.r.lt, h.o.trans (hb.mono (Nat.le_of_lt h.x.lt))⟩
theorem Dv.alloc {w0 w : World} {g x Y Q S : Nat} (h : Dv w0 g x Y Q S w) (o : Obj) : Dv w0 g x Y Q S (w.alloc o) := h.keep ((Below.refl _ _).alloc (Nat.le_refl _) _)
theorem Dv.putY {w0 w : World} {g x Y Q S : Nat} (h : Dv w0 g x Y Q S w) (n : Nat) : Dv w0 g x n Q S (w.setRow (g + 1) (cells8 n)) :=
  ⟨h.x.rowOther _ (by omega), h.y.row _, h.q.rowOther _ (by omega), h.r.rowOther _ (by omega), below_row h.o (by omega) _⟩
theorem Dv.start (w : World) (x y : Nat) : Dv w w.heap.size x y 0 0 ((((w.alloc (.cells (cells8 x) 157)).alloc (.cells (cells8 y) 157)).alloc
    (.cells #[.int .u64 0, .int .u64 0, .int .u64 0, .int .u64 0, .int .u64 0, .int .u64 0, .int .u64 0, .int .u64 0] 157)).alloc (.cells #[.int .u64 0, .int .u64 0, .int .u64 0, .int .u64 0, .int .u64 0, .int .u64 0, .int .u64 0, .int .u64 0] 157)) :=
  ⟨(Blk.first3 _ _ _ _ _).alloc _, (Blk.second3 _ _ _ _ _).alloc _, cells8_0 ▸ (Blk.third3 _ _ _ _ _).alloc _, cells8_0 ▸ Blk.at (by simp) rfl, (below3 _ _ _ _).alloc (by simp; omega) _⟩

/-- The last operation copies eight limbs into a row of nine. -/
theorem wp_copy98 {o : Oper} {a : Act} {w : World} {K : Act → World → Prop} {Q : Exit → Act → World → Prop} {g gs off dCap sCap n : Nat} {t : TypeId} {F : Nat → Int} (d s : Operand)
    (ho : o.op = .call { callee := .builtin .copy, args := #[d, s], argTypes := #[179, 179] }) (hd : a.eval d = .slice (some ⟨g, 0, none⟩) 9 dCap) (hs : a.eval s = .slice (some ⟨gs, off, none⟩) 8 sCap)
    (hdst : Blk w g t (rowF F 9)) (hsrc : ∀ j, j < 8 → w.cell? ⟨gs, off + j, none⟩ = some (.int .u64 (lm n j)))
    (h : K (a.put o.dst (goInt 8)) (w.setRow g (rowF (fun p => if p < 8 then lm n p else F p) 9))) : o.wp Tryz.prog a w K Q := by
  have hrun := run_copy_row (P := Tryz.prog) w 179 179 o.type 72 g 0 9 dCap ⟨gs, off, none⟩ 8 sCap (rowF F 9) t (cells8 n).toList Tryz.underlying179 (by kernel_rfl) hdst rfl
    (fun j v hv => by
      have hj : j < 8 := by
        have := (List.getElem?_eq_some_iff.1 hv).1
        exact this
      have hadd : (⟨gs, off, none⟩ : Addr).add j = ⟨gs, off + j, none⟩ := by unfold Addr.add; split <;> simp_all
      rw [hadd, hsrc j hj]
      have h2 := cells8_get n j hj
      rw [← Array.getElem?_toList] at h2
      rw [← hv, h2]) (by rw [rowF_size]; show 0 + 8 ≤ 9; decide) (fun v hv => (Array.all_eq_true_iff_forall_mem.1 (cells8_one n)) v (by simpa using hv))
  have he : ((rowF F 9).toList.take 0 ++ (cells8 n).toList ++ (rowF F 9).toList.drop (0 + (cells8 n).toList.length)).toArray = rowF (fun p => if p < 8 then lm n p else F p) 9 := by simp [rowF, cells8, List.range_succ]
  rw [he] at hrun
  unfold Oper.wp
  simp [execOp, ho, resolve, invoke, builtin, hd, hs, hrun, Result.andThen]
  exact h

/-- And the row of nine. -/
structure Dr (w0 : World) (g c x Y Q S : Nat) (F : Nat → Int) (w : World) : Prop where
  d : Dv w0 g x Y Q S w
  a : Blk w c 182 (rowF F 9)
  gc : g + 1 + 1 + 1 < c
theorem Dr.keep {w0 w w' : World} {g c x Y Q S : Nat} {F : Nat → Int} (h : Dr w0 g c x Y Q S F w) (hb : Below w.heap.size w w') : Dr w0 g c x Y Q S F w' := ⟨h.d.keep hb, h.a.below hb h.a.lt, h.gc⟩
theorem Dr.drew {w0 w : World} {g c x Y Q S : Nat} {F : Nat → Int} (h : Dr w0 g c x Y Q S F w) : Dr w0 g c x Y Q S F w.drew := ⟨⟨h.d.x, h.d.y, h.d.q, h.d.r, h.d.o.drew⟩, h.a, h.gc⟩
theorem Dr.row {w0 w : World} {g c x Y Q S : Nat} {F : Nat → Int} (h : Dr w0 g c x Y Q S F w) (F' : Nat → Int) : Dr w0 g c x Y Q S F' (w.setRow c (rowF F' 9)) := by
  have := h.gc
  exact ⟨⟨h.d.x.rowOther _ (by omega), h.d.y.rowOther _ (by omega), h.d.q.rowOther _ (by omega), h.d.r.rowOther _ (by omega), below_row h.d.o (by omega) _⟩, h.a.row _, h.gc⟩
theorem Dr.cell {w0 w : World} {g c x Y Q S : Nat} {F : Nat → Int} (h : Dr w0 g c x Y Q S F w) (i : Nat) (hi : i < 9) (v : Int) : Dr w0 g c x Y Q S (fun p => if p = i then v else F p) (w.setCell ⟨c, i, none⟩ (.int .u64 v)) := by
  have := h.gc
  refine ⟨⟨h.d.x.other _ _ (by show g ≠ c; omega), h.d.y.other _ _ (by show g + 1 ≠ c; omega), h.d.q.other _ _ (by show g + 1 + 1 ≠ c; omega), h.d.r.other _ _ (by show g + 1 + 1 + 1 ≠ c; omega), h.d.o.setCell (by show g ≤ c; omega) _⟩, ?_, h.gc⟩
  rw [← rowF_set _ _ _ _ hi]
  exact h.a.set i _

/-- The row with what is copied. -/
structure Dc (w0 : World) (g c l x Y Q S z : Nat) (F : Nat → Int) (w : World) : Prop where
  d : Dr w0 g c x Y Q S F w
  lb : Blk w l 157 (cells8 z)
  cl : c < l

theorem Dr.but {w0 w w' : World} {g c x Y Q S : Nat} {F F' : Nat → Int} (h : Dr w0 g c x Y Q S F w) (hb : But w.heap.size c w w') (ha : Blk w' c 182 (rowF F' 9)) : Dr w0 g c x Y Q S F' w' := by
  have := h.gc
  have := h.d.x.lt
  exact ⟨⟨h.d.x.but hb h.d.x.lt (by omega), h.d.y.but hb h.d.y.lt (by omega), h.d.q.but hb h.d.q.lt (by omega), h.d.r.but hb h.d.r.lt (by omega), h.d.o.trans (hb.below (by omega) (by omega))⟩, ha, h.gc⟩
theorem Dr.putQ {w0 w : World} {g c x Y Q S : Nat} {F : Nat → Int} (h : Dr w0 g c x Y Q S F w) (i d : Nat) (hi : i < 8) (hd : d < 18446744073709551616) (hQ : 2 ^ (64 * (i + 1)) ∣ Q) :
    Dr w0 g c x Y (Q + d * 2 ^ (64 * i)) S F (w.setCell ⟨g + 1 + 1, i, none⟩ (.int .u64 (d : Int))) := by
  have := h.gc
  refine ⟨⟨h.d.x.other _ _ (by show g ≠ g + 1 + 1; omega), h.d.y.other _ _ (by show g + 1 ≠ g + 1 + 1; omega), ?_, h.d.r.other _ _ (by show g + 1 + 1 + 1 ≠ g + 1 + 1; omega), h.d.o.setCell (by show g ≤ g + 1 + 1; omega) _⟩, h.a.other _ _ (by show c ≠ g + 1 + 1; omega), h.gc⟩
  rw [← cells8_put Q d i hi hd hQ]
  exact h.d.q.set i _
theorem Dr.putR {w0 w : World} {g c x Y Q S : Nat} {F : Nat → Int} (h : Dr w0 g c x Y Q S F w) (n : Nat) : Dr w0 g c x Y Q n F (w.setRow (g + 1 + 1 + 1) (cells8 n)) := by
  have := h.gc
  exact ⟨⟨h.d.x.rowOther _ (by omega), h.d.y.rowOther _ (by omega), h.d.q.rowOther _ (by omega), h.d.r.row _, below_row h.d.o (by omega) _⟩, h.a.rowOther _ (by omega), h.gc⟩

theorem Dr.sameQ {w0 w : World} {g c x Y Q S : Nat} {F : Nat → Int} (h : Dr w0 g c x Y Q S F w) : Dr w0 g c x Y Q S F (w.setRow (g + 1 + 1) (cells8 Q)) := by
  have := h.gc
  exact ⟨⟨h.d.x.rowOther _ (by omega), h.d.y.rowOther _ (by omega), h.d.q.row _, h.d.r.rowOther _ (by omega), below_row h.d.o (by omega) _⟩, h.a.rowOther _ (by omega), h.gc⟩

theorem exec_store8 {P : Program} {o : Oper} {a : Act} {w : World} (ty : TypeId) (x y : Operand) {n g : Nat} {t : TypeId} {old : Array Value}
    (hg : Blk w g t old) (hold : old.size = 8) (ho : o.op = .store ty x y) (hx : a.eval x = .pointer (some ⟨g, 0, none⟩)) (hy : a.eval y = .agg (cells8 n)) (hi : (P.info? ty).map (·.size) = some 8) :
    (execOp a.eval o).run P w = .ok .skip (w.setRow g (cells8 n)) := by
  unfold execOp
  simp only [ho, hx, hy, Instr.storeAt, Instr.sureAddr, Sem.run_bind, Sem.run_pure, Result.andThen_ok, run_storeVar_row w g t ty old (cells8 n) hg hi hold (cells8_one n)]

theorem plan_put {P : Program} {ops : Array Oper} {S : World → Prop} {E : Act → Prop} {i : Nat} {r : List Nat} {a : Act} {o : Oper} (ho : ops[i]? = some o) (hw : Region.wanted o (yielded ops a.tmps) = true)
    (h : ∀ w, S w → ∃ w', (execOp a.eval o).run P w = .ok .skip w' ∧ S w') (hr : Plan P ops S E r (a.put o.dst undef)) : Plan P ops S E (i :: r) a :=
  ⟨o, undef, ho, .inl ⟨hw, fun w hS => by obtain ⟨w', h1, h2⟩ := h w hS; rw [h1]; exact ⟨rfl, h2⟩⟩, hr⟩

/-- Two results that are whole numbers, read out of their blocks. -/
theorem res88 {P : Program} {fn : Func} {R : Ending → World → Prop} {p q : Tmp} {ty : TypeId} {a : Act} {w : World} {n m g k : Nat} {t : TypeId} {d : TypeDesc}
    (hg : Blk w g t (cells8 n)) (hk : Blk w k t (cells8 m)) (h : fn.results = #[.cell p ty, .cell q ty]) (hp : a.tmps.getD p undef = .pointer (some ⟨g, 0, none⟩)) (hq : a.tmps.getD q undef = .pointer (some ⟨k, 0, none⟩)) (hdf : a.defers = [])
    (hu : P.underlying ty = some d) (hd : (match d with | .struct _ | .array _ _ => true | _ => false) = true) (hi : (P.info? ty).map (·.size) = some 8)
    (hR : R (.returned (.tuple #[.agg (cells8 n), .agg (cells8 m)])) w) : bodyPost P fn R .ret a w := by
  refine bodyPost_ret ?_ hdf hR
  have hp' : a.tmps[p]?.getD undef = .pointer (some ⟨g, 0, none⟩) := by simpa using hp
  have hq' : a.tmps[q]?.getD undef = .pointer (some ⟨k, 0, none⟩) := by simpa using hq
  simp [results, h, hp', hq', asAddr, run_loadVar_row w g t ty (cells8 n) (0, 0) d hg hu hd hi, run_loadVar_row w k t ty (cells8 m) (0, 0) d hk hu hd hi, Result.andThen]

set_option maxHeartbeats 600000 in
theorem divide_core (x y n m s : Nat) (w : World) (hn : Hid (usedTo y 8 = n + 1)) (hm : Hid (usedTo x 8 = m)) (hs : Hid (64 - blen (lmN y n) = s)) (hs64 : s < 64) (hn8 : n < 8) (hx : Hid (x < M)) (hy : Hid (y < M)) (ht : Hid (9223372036854775808 ≤ lmN (y * 2 ^ s) n)) (hYb : Hid (y * 2 ^ s < 2 ^ (64 * (n + 1)))) (hY0 : Hid (0 < y)) (hst : Hid (x < y * 2 ^ (64 * (m - n)))) (h8 : Hid (lm (x * 2 ^ s) 8 = lm x 7 / 2 ^ (64 - s))) :
    Calls Tryz.prog 168 #[W x, W y] w fun e w' => e = .returned (.tuple #[.agg (cells8 (x / y)), .agg (cells8 (x % y))]) ∧ Below w.heap.size w w' := by
  have hU : Hid (∀ u, Calls Tryz.prog 176 #[W y] u fun e w' => e = .returned (.int .i64 ((n : Int) + 1)) ∧ Below u.heap.size u w') := fun u => (used_any y u).mono fun e w' ⟨he, hb⟩ => ⟨by rw [he, unhide hn]; rfl, hb⟩
  have hUx : Hid (∀ u, Calls Tryz.prog 176 #[W x] u fun e w' => e = .returned (.int .i64 (m : Int)) ∧ Below u.heap.size u w') := fun u => (used_any x u).mono fun e w' ⟨he, hb⟩ => ⟨by rw [he, unhide hm], hb⟩
  have hm8 : m ≤ 8 := unhide hm ▸ usedTo_le x 8
  have hZ : Hid (∀ u, Calls Tryz.prog 180 #[.int .u64 (lm y n)] u fun e w' => e = .returned (.int .i64 (s : Int)) ∧ w' = u) := fun u => (lz64_any (lmN y n) (lmN_lt _ _) u).mono fun e w' ⟨he, hb⟩ => ⟨by rw [he, unhide hs], hb⟩
  have hL : Hid (∀ z u, z < M → Calls Tryz.prog 164 #[W z, .int .i64 (-(s : Int)), .int .u64 0] u fun e w' => e = .returned (.agg (cells8 (z * 2 ^ s))) ∧ Below u.heap.size u w') := fun z u hz => win_left z s hz (by omega) u
  have hw1 : IntKind.i64.wrap ((n : Int) + 1 - 1) = (n : Int) := by rw [IntKind.wrap_i64]; omega
  have hw1' : IntKind.i64.wrap (n : Int) = (n : Int) := by rw [IntKind.wrap_i64]; omega
  have hw2 : IntKind.i64.wrap (-(s : Int)) = -(s : Int) := by rw [IntKind.wrap_i64]; omega
  have hni : (n : Int) < 8 := by omega
  go_enter Tryz.func168, Tryz.ntmps168
  go_upto_region 1 with fail
  have D0 := hide (Dv.start w x y)
  go_upto_region 2 with (first
    | refine ld8 157 (.tmp 3) (unhide D0).y rfl rfl rfl Tryz.underlying157 rfl iLimbs ?_
    | (go_at_call 176; refine (unhide hU _).mono ?_; rintro e w1 ⟨he, hb1⟩; subst he))
  have D1 := hide ((unhide D0).keep hb1)
  clear D0 hb1
  have hyn : w1.cell? ⟨w.heap.size + 1, n, none⟩ = some (.int .u64 (lm y n)) := by rw [(unhide D1).y.cell n, cells8_get y n hn8]
  go_upto_region 3 with (go_at_call 180; refine (unhide hZ _).mono ?_; rintro e w2 ⟨he, hb2⟩; subst he; subst hb2)
  clear hyn
  go_upto_region 4 with (first
    | refine ld8 157 (.tmp 3) (unhide D1).y rfl rfl rfl Tryz.underlying157 rfl iLimbs ?_
    | (go_at_call 164; refine (unhide hL y _ (unhide hy)).mono ?_; rintro e w3 ⟨he, hb3⟩; subst he)
    | refine st8 (n := y * 2 ^ s) 157 (.tmp 3) (.tmp 21) ((unhide D1).keep hb3).y rfl rfl rfl rfl rfl iLimbs ?_)
  have D2 := hide (((unhide D1).keep hb3).putY (y * 2 ^ s))
  clear D1 hb3
  generalize w3.setRow (w.heap.size + 1) (cells8 (y * 2 ^ s)) = w4 at D2 ⊢
  go_upto_region 5 with fail
  have D3 : Hid (Dr w w.heap.size w4.heap.size x (y * 2 ^ s) 0 0 (fun _ => 0) (w4.alloc (.cells #[.int .u64 0, .int .u64 0, .int .u64 0, .int .u64 0, .int .u64 0, .int .u64 0, .int .u64 0, .int .u64 0, .int .u64 0] 182))) :=
    ⟨(unhide D2).alloc _, Blk.new _ _ _, (unhide D2).r.lt⟩
  clear D2
  generalize w4.heap.size = c at D3 ⊢
  go_upto_region 6 with (first
    | refine ld8 157 (.tmp 2) (unhide D3).d.x rfl rfl rfl Tryz.underlying157 rfl iLimbs ?_
    | (go_at_call 164; refine (unhide hL x _ (unhide hx)).mono ?_; rintro e w5 ⟨he, hb5⟩; subst he)
    | refine st8new (n := x * 2 ^ s) 157 (.tmp 9) (.tmp 25) rfl rfl rfl rfl rfl iLimbs ?_)
  have D4 : Hid (Dc w w.heap.size c w5.heap.size x (y * 2 ^ s) 0 0 (x * 2 ^ s) (fun _ => 0) (w5.alloc (.cells (cells8 (x * 2 ^ s)) 157))) :=
    ⟨((unhide D3).keep hb5).keep ((Below.refl _ _).alloc (Nat.le_refl _) _), Blk.new _ _ _, ((unhide D3).keep hb5).a.lt⟩
  clear D3 hb5
  generalize w5.heap.size = l at D4 ⊢
  refine region_last (S := Dc w w.heap.size c l x (y * 2 ^ s) 0 0 (x * 2 ^ s) (fun _ => 0)) (f := 2) (l := [0, 1]) (by kernel_rfl) (by kernel_rfl) (by kernel_rfl) (by kernel_rfl) (by kernel_rfl) (by kernel_rfl) (by kernel_rfl) (by kernel_rfl) (by kernel_rfl) (by kernel_rfl) rfl rfl ?_ ?_
  · exact ⟨(unhide D4).d.drew, (unhide D4).lb, (unhide D4).cl⟩
  refine plan_read (v := ?_) rfl rfl (fun u hS => by go_simp; rfl) ?_
  refine plan_read (v := ?_) rfl rfl (fun u hS => by go_simp; rfl) ?_
  go_simp
  refine plan_last (fun u hS => ?_)
  refine wp_copy98 (n := x * 2 ^ s) (.tmp 26) (.tmp 27) rfl rfl rfl hS.d.a (fun j hj => by rw [hS.lb.cell, Nat.zero_add, cells8_get _ _ hj]) ?_
  have D5 := hide (hS.d.row (fun p => if p < 8 then lm (x * 2 ^ s) p else 0))
  clear hS D4
  generalize u.setRow c (rowF (fun p => if p < 8 then lm (x * 2 ^ s) p else 0) 9) = w6 at D5 ⊢
  go_simp
  have hx7 : w6.cell? ⟨w.heap.size, 7, none⟩ = some (.int .u64 (lm x 7)) := (unhide D5).d.x.cell 7
  have hc8 : w6.cell? ⟨c, 8, none⟩ = some (.int .u64 0) := by rw [(unhide D5).a.cell, rowF_get _ _ _ (by decide)]; rfl
  have hf8 := (unhide D5).a.frozen 8
  have hw3 : IntKind.i64.wrap (64 - (s : Int)) = ((64 - s : Nat) : Int) := by rw [IntKind.wrap_i64]; omega
  go_upto_region 8 with fail
  have D6 := hide ((unhide D5).cell 8 (by decide) (lm x 7 / 2 ^ (64 - s)))
  clear D5 hx7 hc8 hf8
  generalize w6.setCell ⟨c, 8, none⟩ (.int .u64 (lm x 7 / 2 ^ (64 - s))) = w7 at D6 ⊢
  have D7 : Hid (Dr w w.heap.size c x (y * 2 ^ s) 0 0 (lm (x * 2 ^ s)) w7) := by
    refine ⟨(unhide D6).d, ?_, (unhide D6).gc⟩
    rw [rowF_congr (G := fun p => if p = 8 then lm x 7 / 2 ^ (64 - s) else if p < 8 then lm (x * 2 ^ s) p else 0)]
    · exact (unhide D6).a
    intro p hp
    by_cases e : p = 8
    · subst e; rw [if_pos rfl, unhide h8]
    · rw [if_neg e, if_pos (by omega)]
  clear D6
  have hw4 : IntKind.i64.wrap ((m : Int) - ((n : Int) + 1)) = (m : Int) - ((n : Int) + 1) := by rw [IntKind.wrap_i64]; omega
  go_upto_block 0 with (first
    | refine ld8 157 (.tmp 2) (unhide D7).d.x rfl rfl rfl Tryz.underlying157 rfl iLimbs ?_
    | (go_at_call 176; refine (unhide hUx _).mono ?_; rintro e w8 ⟨he, hb8⟩; subst he))
  have D8 := hide ((unhide D7).keep hb8)
  clear D7 hb8
  go_wp2
  go_loopw [10] (fun iv wr => ∃ k Q R : Nat, ((∃ i : Nat, k = i + 1 ∧ iv = .int .i64 (i : Int)) ∨ (k = 0 ∧ ∃ z : Int, z < 0 ∧ iv = .int .i64 z)) ∧ k + n ≤ 8 ∧ Df (x * 2 ^ s) (y * 2 ^ s) k Q R ∧ Dr w w.heap.size c x (y * 2 ^ s) Q 0 (lm R) wr) (fun iv _ => (intOf iv + 1).toNat)
  case atStart =>
    refine ⟨m - n, 0, x * 2 ^ s, ?_, by omega, ⟨by simp, ?_, Nat.dvd_zero _⟩, unhide D8⟩
    · rcases Nat.lt_or_ge n m with h | h
      · exact .inl ⟨m - n - 1, by omega, by go_num⟩
      · exact .inr ⟨by omega, _, by omega, rfl⟩
    · have := unhide hst
      rw [Nat.mul_right_comm]
      exact Nat.mul_lt_mul_of_pos_right this (Nat.pow_pos (by decide))
  case round =>
    obtain ⟨k, Q, R, hk, hkn, DF, D⟩ := hrel
    have HF := hide DF
    have HD := hide D
    clear DF D D8
    rcases hk with ⟨i, rfl, rfl⟩ | ⟨rfl, z, hz, rfl⟩
    · have w1 : IntKind.i64.wrap ((i : Int) + ((n : Int) + 1)) = (i : Int) + ((n : Int) + 1) := by rw [IntKind.wrap_i64]; omega
      have w2 : IntKind.i64.wrap ((i : Int) + ((n : Int) + 1) + 1) = (i : Int) + ((n : Int) + 1) + 1 := by rw [IntKind.wrap_i64]; omega
      have w3 : IntKind.i64.wrap ((i : Int) - 1) = (i : Int) - 1 := by rw [IntKind.wrap_i64]; omega
      have b1 : (i : Int) ≤ (i : Int) + ((n : Int) + 1) + 1 := by omega
      have b2 : (i : Int) + ((n : Int) + 1) + 1 ≤ 9 := by omega
      have b3 : (n : Int) + 1 ≤ 8 := by omega
      have b4 : 0 ≤ (n : Int) + 1 := by omega
      have b5 : ((n : Int) + 1).toNat = n + 1 := by omega
      have b6 : ((i : Int) + ((n : Int) + 1) + 1).toNat = i + (n + 1) + 1 := by omega
      have b8 : (i : Int) < 8 := by omega
      have b7 : i + (n + 1) + 1 - i = n + 1 + 1 := by omega
      have hd : R / 2 ^ (64 * i) / (y * 2 ^ s) < 18446744073709551616 := by
        rw [Nat.div_lt_iff_lt_mul (Nat.mul_pos (unhide hY0) (Nat.pow_pos (by decide)))]
        exact (unhide HF).v_lt
      have hT : Hid (∀ u, Dr w w.heap.size c x (y * 2 ^ s) Q 0 (lm R) u → Calls Tryz.prog 181 #[.slice (some ⟨c, i, none⟩) (n + 1 + 1) (9 - i), .slice (some ⟨w.heap.size + 1, 0, none⟩) (n + 1) 8] u fun e w' =>
          e = .returned (.int .u64 (R / 2 ^ (64 * i) / (y * 2 ^ s) : Nat)) ∧ Dr w w.heap.size c x (y * 2 ^ s) Q 0 (lm (R - R / 2 ^ (64 * i) / (y * 2 ^ s) * (y * 2 ^ s) * 2 ^ (64 * i))) w') := fun u hu => by
        have hg := hu.gc
        refine (takeAll_any c (w.heap.size + 1) i (n + 1) (R / 2 ^ (64 * i)) (y * 2 ^ s) _ _ (lm R) u hu.a hu.d.y (by omega) (by omega) (by omega) (fun j _ => (lm_shift R i j).symm) (unhide ht) (unhide hYb) (unhide HF).v_lt).mono ?_
        rintro e w' ⟨he, hB, hb⟩
        refine ⟨he, hu.but hb ?_⟩
        rw [← row_left (y * 2 ^ s) i (n + 1) R (unhide hYb) (Nat.mul_pos (unhide hY0) (Nat.pow_pos (by decide))) (unhide HF).v_lt]
        exact hB
      have HN := hide ((unhide HF).step (Nat.mul_pos (unhide hY0) (Nat.pow_pos (by decide))))
      have hdv := hide (unhide HF).dv
      clear HF
      generalize R - R / 2 ^ (64 * i) / (y * 2 ^ s) * (y * 2 ^ s) * 2 ^ (64 * i) = R' at hT HN
      generalize R / 2 ^ (64 * i) / (y * 2 ^ s) = d at hT hd HN
      go_wp2
      refine region_lastT (t := 9) (S := fun b => Dr w w.heap.size c x (y * 2 ^ s) Q 0 (lm (bif b then R' else R))) (f := 11) (l := [0, 1, 2, 3, 4, 5, 6, 7, 8, 9, 10]) (by kernel_rfl) (by kernel_rfl) (by kernel_rfl) (by kernel_rfl) (by kernel_rfl) (by kernel_rfl) (by kernel_rfl) (by kernel_rfl) (by kernel_rfl) (by kernel_rfl) rfl rfl (by decide) (unhide HD).drew ?_
      refine planT_read (v := ?_) rfl (by decide) rfl (fun b u hS => by go_simp; rfl) ?_
      refine planT_read (v := ?_) rfl (by decide) rfl (fun b u hS => by go_simp; rfl) ?_
      refine planT_read (v := ?_) rfl (by decide) rfl (fun b u hS => by go_simp; rfl) ?_
      refine planT_read (v := ?_) rfl (by decide) rfl (fun b u hS => by go_simp; rfl) ?_
      refine planT_read (v := ?_) rfl (by decide) rfl (fun b u hS => by go_simp; rfl) ?_
      refine planT_read (v := ?_) rfl (by decide) rfl (fun b u hS => by go_simp; rfl) ?_
      refine planT_read (v := ?_) rfl (by decide) rfl (fun b u hS => by go_simp; rfl) ?_
      refine planT_read (v := ?_) rfl (by decide) rfl (fun b u hS => by go_simp; rfl) ?_
      refine planT_read (v := ?_) rfl (by decide) rfl (fun b u hS => by go_simp; rfl) ?_
      go_simp
      refine planT_call (v := .int .u64 (d : Int)) rfl rfl (fun u hS => by go_simp <;> omega) (fun u hS => unhide hT u hS) ?_
      refine planT_read (v := ?_) rfl (by decide) rfl (fun b u hS => by go_simp; rfl) ?_
      go_simp
      refine planT_last (fun u hS => ?_)
      refine wp_store1 (g := w.heap.size + 1 + 1) (i := i) 72 (.tmp 53) (.tmp 52) rfl rfl rfl hS.d.q (by show i < 8; omega) (by kernel_rfl) ?_
      have D' := hide (hS.putQ i d (by omega) hd (unhide hdv))
      clear hS
      go_wp2
      go_roundw
      case rel =>
        refine ⟨i, _, R', ?_, by omega, unhide HN, unhide D'⟩
        rcases i with _ | i
        · exact .inr ⟨rfl, _, by omega, rfl⟩
        · exact .inl ⟨i, rfl, by go_num⟩
      case measure => simp [intOf]
    · have hRM : R < M := by
        have h1 := (unhide HF).lt
        have h2 := unhide hYb
        have h3 := pow64_le (show n + 1 ≤ 8 by omega)
        rw [← M_pow8] at h3
        simp only [Nat.mul_zero, Nat.pow_zero, Nat.mul_one] at h1
        omega
      have hq : Hid (x / y = Q ∧ x % y = R / 2 ^ s) := by
        have h1 := (unhide HF).eq
        have h2 := (unhide HF).lt
        have hp : 0 < 2 ^ s := Nat.pow_pos (by decide)
        simp only [Nat.mul_zero, Nat.pow_zero, Nat.mul_one] at h2
        have hY := Nat.mul_pos (unhide hY0) hp
        have e1 : x * 2 ^ s / (y * 2 ^ s) = Q := by rw [h1, Nat.mul_comm Q, Nat.mul_add_div hY, Nat.div_eq_of_lt h2, Nat.add_zero]
        have e2 : x * 2 ^ s % (y * 2 ^ s) = R := by rw [h1, Nat.mul_comm Q, Nat.mul_add_mod, Nat.mod_eq_of_lt h2]
        rw [Nat.mul_div_mul_right _ _ hp] at e1
        rw [Nat.mul_mod_mul_right] at e2
        exact ⟨e1, by rw [← e2, Nat.mul_div_cancel _ hp]⟩
      have hW : Hid (∀ u, Calls Tryz.prog 164 #[W R, .int .i64 (s : Int), .int .u64 0] u fun e w' => e = .returned (.agg (cells8 (R / 2 ^ s))) ∧ Below u.heap.size u w') := fun u => win_right0 R s hRM (by omega) u
      clear HF hRM
      have hz1 : ¬ 0 ≤ z := by omega
      have hz2 : decide (0 ≤ z) = false := by simp; omega
      go_upto_region 12 with fail
      refine region_last (S := Dr w w.heap.size c x (y * 2 ^ s) Q 0 (lm R)) (f := 2) (l := [0, 1]) (by kernel_rfl) (by kernel_rfl) (by kernel_rfl) (by kernel_rfl) (by kernel_rfl) (by kernel_rfl) (by kernel_rfl) (by kernel_rfl) (by kernel_rfl) (by kernel_rfl) rfl rfl (unhide HD).drew ?_
      refine plan_read (v := ?_) rfl rfl (fun u hS => by go_simp; rfl) ?_
      refine plan_read (v := ?_) rfl rfl (fun u hS => by go_simp; rfl) ?_
      go_simp
      refine plan_last (fun u hS => ?_)
      refine wp_copy8 (n := R) (.tmp 54) (.tmp 55) rfl rfl rfl hS.d.r (fun j hj => by rw [hS.a.cell, Nat.zero_add, rowF_get _ _ _ (by omega)]) ?_
      have D' := hide (hS.putR R)
      clear hS HD
      generalize u.setRow (w.heap.size + 1 + 1 + 1) (cells8 R) = w9 at D' ⊢
      go_simp
      go_upto_region 13 with fail
      refine region_last (S := Dr w w.heap.size c x (y * 2 ^ s) Q R (lm R)) (f := 5) (l := [0, 1, 2, 3, 4]) (by kernel_rfl) (by kernel_rfl) (by kernel_rfl) (by kernel_rfl) (by kernel_rfl) (by kernel_rfl) (by kernel_rfl) (by kernel_rfl) (by kernel_rfl) (by kernel_rfl) rfl rfl (unhide D').drew ?_
      refine plan_read (v := .agg (cells8 Q)) rfl rfl (fun u hS => exec_load8 157 (.tmp 4) hS.d.q rfl rfl Tryz.underlying157 rfl iLimbs) ?_
      refine plan_read (v := .agg (cells8 R)) rfl rfl (fun u hS => exec_load8 157 (.tmp 5) hS.d.r rfl rfl Tryz.underlying157 rfl iLimbs) ?_
      refine plan_read (v := ?_) rfl rfl (fun u hS => by go_simp; rfl) ?_
      go_simp
      refine plan_call (v := .agg (cells8 (R / 2 ^ s))) rfl rfl (fun u hS => by go_simp) (fun u hS => (unhide hW u).mono fun e w' ⟨he, hb⟩ => ⟨he, hS.keep hb⟩) ?_
      go_simp
      refine plan_put rfl rfl (fun u hS => ⟨_, exec_store8 (n := Q) 157 (.tmp 4) (.tmp 57) hS.d.q rfl rfl rfl rfl iLimbs, hS.sameQ⟩) ?_
      go_simp
      refine plan_last (fun u hS => ?_)
      refine wp_store_row 157 (.tmp 5) (.tmp 60) rfl _ (cells8 (R / 2 ^ s)) rfl rfl 157 _ hS.d.r iLimbs rfl (cells8_one _) ?_
      have D2 := hide (hS.putR (R / 2 ^ s))
      clear hS
      go_wp2
      exact res88 (unhide D2).d.q (unhide D2).d.r rfl rfl rfl rfl Tryz.underlying157 rfl iLimbs ⟨by rw [(unhide hq).1, (unhide hq).2], (unhide D2).d.o⟩

end Go.Proofs.YtnemedgdhojhdaaGreat
