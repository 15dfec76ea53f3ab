/- Rows of vectors; package shape: numbersHold's search, the core of a box, of a solid, isFlat. Package shape: the core of a box. Package shape: isFlat. -/
import Derived.Test.YtnemedgdhojhdaaGreatIb
import Derived.Test.YtnemedgdhojhdaaGreatHp
namespace Go.Proofs.YtnemedgdhojhdaaGreat
open Go.RowKit
set_option maxRecDepth 4000
set_option linter.unusedVariables false

theorem szVec : (Tryz.prog.info? 24).map (·.size) = some 3 := by kernel_rfl
theorem elVecs : Tryz.prog.underlying 25 = some (.slice (Tryz.prog.elem 25)) ∧ Tryz.prog.elem 25 = 24 := ⟨by kernel_rfl, by kernel_rfl⟩
theorem exec_ixV {o : Oper} {a : Act} (w : World) {g off n c i : Nat} (x y : Operand) (hi : i < n) (ho : o.op = .indexAddr 25 x y) (hx : a.eval x = .slice (some ⟨g, off, none⟩) n c) (hy : a.eval y = .int .i64 (i : Int)) :
    (execOp a.eval o).run Tryz.prog w = .ok (.value (.pointer (some ⟨g, off + i * 3, none⟩))) w := by
  unfold execOp
  simp only [ho, hx, hy, Sem.run_bind, run_indexAt_slice w 25 _ _ _ _ _ elVecs.1]
  rw [if_pos ⟨by omega, by omega⟩, elVecs.2, run_sizeOf' szVec]
  simp only [Result.andThen_ok, Sem.run_pure, Addr.add_mid, Int.toNat_natCast]
theorem exec_ixV0 {o : Oper} {a : Act} (w : World) {g n c i : Nat} (x y : Operand) (hi : i < n) (ho : o.op = .indexAddr 25 x y) (hx : a.eval x = .slice (some ⟨g, 0, none⟩) n c) (hy : a.eval y = .int .i64 (i : Int)) :
    (execOp a.eval o).run Tryz.prog w = .ok (.value (.pointer (some ⟨g, i * 3, none⟩))) w := by
  have h := exec_ixV w x y hi ho hx hy
  rw [Nat.zero_add] at h
  exact h
theorem exec_ldV {o : Oper} {a : Act} {w : World} {g k : Nat} {x y z : Int} (p : Operand) (ho : o.op = .load 24 p) (hx : a.eval p = .pointer (some ⟨g, k, none⟩)) (hr : w.rangeAt g k (v3 x y z).toList) : (execOp a.eval o).run Tryz.prog w = .ok (.value (.agg (v3 x y z))) w := by
  unfold execOp
  simp only [ho, hx, Instr.loadAt, Instr.sureAddr, Sem.run_bind, Sem.run_pure, Result.andThen_ok, run_loadVar_mid w g k 24 (v3 x y z).toList _ hr Tryz.underlying24 rfl szVec]
theorem exec_andS {o : Oper} {a : Act} {w : World} {x y v : Int} {ty ty' : TypeId} (p q : Operand) (hb : bits .and .i64 x y = v) (ho : o.op = .binOp .and ty p q ty') (hx : a.eval p = .int .i64 x) (hy : a.eval q = .int .i64 y) : (execOp a.eval o).run Tryz.prog w = .ok (.value (.int .i64 v)) w := by
  subst hb
  unfold execOp
  simp only [ho, hx, hy]
  go_simp
theorem infoVec : (Tryz.prog.info? 24).map (fun i => (i.zero, i.size, i.bytes)) = some (some (.agg (v3 0 0 0)), 3, 24) := by kernel_rfl
theorem app_vec (w : World) (B : Nat) (ty : TypeId) (v : Value) (n : Nat) (xs : List Value) (g : Nat) (x y z : Int) (hown : w.ownsRow B 24 3 v n xs) (hb : Blk w g 24 (v3 x y z)) (hn : n ≤ 400) (hB : B ≤ w.heap.size) :
    ∃ v' w', (Builtin.append_ #[25, 25] ty #[v, .slice (some ⟨g, 0, none⟩) 1 1]).run Tryz.prog w = .ok v' w' ∧ w'.ownsRow B 24 3 v' (n + 1) (xs ++ [.int .i64 x, .int .i64 y, .int .i64 z]) ∧ w.grownBy w' v.ownBlock := by
  obtain ⟨i0, hi, hz0, hz1, hz2⟩ := info_parts infoVec
  obtain ⟨v', w', h1, h2, h3, _⟩ := run_append_own (w := w) B 25 ty 24 i0 (.agg (v3 0 0 0)) 3 24 (by kernel_rfl) hi hz0 hz1 hz2 rfl (by decide) v n xs hown ⟨g, 0, none⟩ 1 1 [.int .i64 x, .int .i64 y, .int .i64 z] rfl (fun j u hj => by
    match j, hj with
    | 0, hj => cases hj; exact (hb.cell 0)
    | 1, hj => cases hj; exact (hb.cell 1)
    | 2, hj => cases hj; exact (hb.cell 2)) (fun u hu => by
    simp only [List.mem_cons, List.not_mem_nil, or_false] at hu
    rcases hu with rfl | rfl | rfl <;> rfl) (by unfold maxLen; omega) (by omega) hB
  exact ⟨v', w', h1, h2, h3⟩
theorem app_ptS (w : World) (B : Nat) (ty : TypeId) (v : Value) (n : Nat) (xs : List Value) (g : Nat) (x y z : Int) (hown : w.ownsRow B 64 3 v n xs) (hb : Blk w g 64 (v3 x y z)) (hn : n ≤ 400) (hB : B ≤ w.heap.size) :
    ∃ v' w', (Builtin.append_ #[62, 62] ty #[v, .slice (some ⟨g, 0, none⟩) 1 1]).run Tryz.prog w = .ok v' w' ∧ w'.ownsRow B 64 3 v' (n + 1) (xs ++ [.int .i64 x, .int .i64 y, .int .i64 z]) ∧ w.grownBy w' v.ownBlock := by
  obtain ⟨i0, hi, hz0, hz1, hz2⟩ := info_parts infoPoint
  obtain ⟨v', w', h1, h2, h3, _⟩ := run_append_own (w := w) B 62 ty 64 i0 (.agg (v3 0 0 0)) 3 24 (by kernel_rfl) hi hz0 hz1 hz2 rfl (by decide) v n xs hown ⟨g, 0, none⟩ 1 1 [.int .i64 x, .int .i64 y, .int .i64 z] rfl (fun j u hj => by
    match j, hj with
    | 0, hj => cases hj; exact (hb.cell 0)
    | 1, hj => cases hj; exact (hb.cell 1)
    | 2, hj => cases hj; exact (hb.cell 2)) (fun u hu => by
    simp only [List.mem_cons, List.not_mem_nil, or_false] at hu
    rcases hu with rfl | rfl | rfl <;> rfl) (by unfold maxLen; omega) (by omega) hB
  exact ⟨v', w', h1, h2, h3⟩
theorem Gd.grownOver {w0 wr u W' : World} {l : List (Nat × TypeId × Array Value)} {row : Option Nat} (d : Gd w0 l wr) (e : Gd wr l u) (hg : u.grownBy W' row) (hr : ∀ k, row = some k → w0.heap.size ≤ k ∧ ∀ p ∈ l, p.1 ≠ k) : Gd w0 l W' :=
  ⟨⟨fun p hp => (e.g.at_ p hp).grownOther hg (fun e => (hr p.1 e).2 p hp rfl), (d.g.o.trans (e.g.o.mono d.g.o.size)).grown hg (Nat.le_trans d.g.o.size e.g.o.size) (fun k e => (hr k e).1)⟩, d.n⟩
theorem cellsN_snoc (n : Nat) (qs : Nat → Pt) : cellsN (n + 1) qs = cellsN n qs ++ [.int .i64 (qs n).1, .int .i64 (qs n).2.1, .int .i64 (qs n).2.2] := by
  unfold cellsN
  rw [List.range_succ, List.map_append, List.map_singleton, cellsP_snoc]
theorem cellsN_at {n i : Nat} (qs : Nat → Pt) (hi : i < n) : (cellsN n qs)[i * 3]? = some (.int .i64 (qs i).1) ∧ (cellsN n qs)[i * 3 + 1]? = some (.int .i64 (qs i).2.1) ∧ (cellsN n qs)[i * 3 + 2]? = some (.int .i64 (qs i).2.2) := by
  have h := cellsP_at ((List.range n).map qs) i (by simpa using hi)
  have hd : ((List.range n).map qs).getD i (0, 0, 0) = qs i := by simp [List.getD, hi]
  rw [hd] at h
  exact h
theorem cur_range {w : World} {g n i : Nat} {t : TypeId} {cur : Array Value} {ps : Nat → Pt} (h : Blk w g t cur) (hc : cur.toList.take (n * 3) = cellsN n ps) (hi : i < n) : w.rangeAt g (i * 3) (v3 (ps i).1 (ps i).2.1 (ps i).2.2).toList := by
  obtain ⟨c0, c1, c2⟩ := cellsN_at ps hi
  have hx : ∀ j, j < n * 3 → w.cell? ⟨g, j, none⟩ = (cellsN n ps)[j]? := fun j hj => by
    rw [h.cell, ← hc, List.getElem?_take, if_pos hj]
    simp
  intro j v hj
  match j, hj with
  | 0, hj => cases hj; rw [hx _ (by omega)]; exact c0
  | 1, hj => cases hj; rw [hx _ (by omega)]; exact c1
  | 2, hj => cases hj; rw [hx _ (by omega)]; exact c2
theorem own_block {w : World} {B n : Nat} {v : Value} {t : TypeId} {xs : List Value} (h : w.ownsRow B t 3 v n xs) (hn : 0 < n) : ∃ g c cur, v = .slice (some ⟨g, 0, none⟩) n c ∧ B ≤ g ∧ Blk w g t cur ∧ n ≤ c ∧ cur.toList.take (n * 3) = xs := by
  rcases h.2 with ⟨_, h0⟩ | ⟨g, cap, cur, hv, hb, hg, hc, _, _, ht⟩
  · omega
  · exact ⟨g, cap, cur, hv, hb, hg, hc, ht⟩
theorem own_prow {w : World} {B n : Nat} {v : Value} {t : TypeId} {ps : Nat → Pt} (h : w.ownsRow B t 3 v n (cellsN n ps)) : ∃ A c, v = .slice A n c ∧ PRow w A n ps := by
  rcases Nat.eq_zero_or_pos n with h0 | h0
  · rcases h.2 with ⟨hv, _⟩ | ⟨g, cap, cur, hv, _⟩
    · subst h0; exact ⟨none, 0, hv, .inl rfl⟩
    · exact ⟨_, _, hv, .inl h0⟩
  · obtain ⟨g, c, cur, hv, _, hB, _, hc⟩ := own_block h h0
    exact ⟨_, _, hv, .inr ⟨g, 0, rfl, hB.lt, fun i hi => by rw [Nat.zero_add]; exact cur_range hB hc hi⟩⟩
/-- Is some point beyond MaxSize? the first of such: m, and n where there is none. -/
theorem index_core (A : Option Addr) (n cp m : Nat) (ps : Nat → Pt) (v : Int) (w : World) (hv1 : Hid (m < n → v = m)) (hv2 : Hid (¬ m < n → v = -1)) (hn : n ≤ 9223372036854775807) (hm : m ≤ n) (hP : Hid (PRow w A n ps)) (hb : Hid (∀ i, i < m → Ans 68 #[.agg (v3 (ps i).1 (ps i).2.1 (ps i).2.2)] (.bool false))) (hl : Hid (m < n → Ans 68 #[.agg (v3 (ps m).1 (ps m).2.1 (ps m).2.2)] (.bool true))) :
    Calls Tryz.prog 105 #[.slice A n cp, .func (Fn.func 68) #[] #[]] w fun e w' => e = .returned (.int .i64 v) ∧ Below w.heap.size w w' := by
  go_enter Tryz.func105, Tryz.ntmps105
  go_wp2
  go_loopw [8] (fun i wr => ∃ k : Nat, k ≤ m ∧ i = .int .i64 k ∧ Hid (Below w.heap.size w wr)) (fun i _ => n - (intOf i).toNat)
  case atStart => exact ⟨0, Nat.zero_le _, rfl, Below.refl _ _⟩
  case round =>
    obtain ⟨k, hk, rfl, hB⟩ := hrel
    by_cases hkn : k < n
    · obtain ⟨g0, off0, rfl, hg0, hr0⟩ := (unhide hP).resolve_left (by omega)
      have hpt := hide (at_below (hr0 k hkn) (unhide hB) hg0)
      have hlt := hide (Nat.lt_of_lt_of_le hg0 (unhide hB).size)
      clear hr0 hg0
      have ans : ∃ b : Bool, b = decide (k = m) ∧ Ans 68 #[.agg (v3 (ps k).1 (ps k).2.1 (ps k).2.2)] (.bool b) := by
        by_cases e : k = m
        · subst e; exact ⟨true, by simp, unhide hl hkn⟩
        · exact ⟨false, by simp [e], unhide hb k (by omega)⟩
      obtain ⟨b, hbe0, ha0⟩ := ans
      have ha := hide ha0
      have hbe := hide hbe0
      clear ha0 hbe0
      go_upto_region 4 with fail
      have D := hide (Gd.start wr)
      refine list_start (S := Gd wr []) (unhide D) ?_
      clear D
      refine list_read (v := .func (Fn.func 68) #[] #[]) rfl rfl (fun u hS => by go_simp) ?_
      try go_simp
      refine list_read (v := .slice (some ⟨g0, off0, none⟩) n cp) rfl rfl (fun u hS => by go_simp) ?_
      try go_simp
      refine list_read (v := .int .i64 k) rfl rfl (fun u hS => by go_simp) ?_
      try go_simp
      refine list_read (v := .pointer (some ⟨g0, off0 + k * 3, none⟩)) rfl rfl (fun u hS => exec_ixV u (.tmp 12) (.tmp 13) hkn rfl rfl rfl) ?_
      try go_simp
      refine list_read (v := .agg (v3 (ps k).1 (ps k).2.1 (ps k).2.2)) rfl rfl (fun u hS => exec_ldV (.tmp 14) rfl rfl (at_below (unhide hpt) hS.g.o (unhide hlt))) ?_
      try go_simp
      refine list_call (v := .bool b) (f := 68) (args := #[.agg (v3 (ps k).1 (ps k).2.1 (ps k).2.2)]) rfl rfl (fun u hS => by go_simp) (fun u hS => (unhide ha u).mono fun _ _ ⟨he, hb⟩ => ⟨he, hS.keep hb⟩) ?_
      try go_simp
      refine list_end (fun u4 hS => ?_)
      have hB4 := hide ((unhide hB).trans (hS.g.o.mono (unhide hB).size))
      clear hS hB hpt hlt
      cases b
      · go_wp2
        go_roundw
        case rel =>
          have hkm : k ≠ m := of_decide_eq_false (unhide hbe).symm
          exact ⟨k + 1, by omega, by go_num, hB4⟩
        case measure => simp [intOf]; omega
      · go_wp2
        go_ret
        have hkm : k = m := of_decide_eq_true (unhide hbe).symm
        subst hkm
        exact ⟨by rw [unhide hv1 hkn]; rfl, unhide hB4⟩
    · go_wp2
      go_ret
      exact ⟨by rw [unhide hv2 (by omega)]; rfl, unhide hB⟩
set_option maxHeartbeats 4000000 in
theorem contains_core (A : Option Addr) (n cp : Nat) (v : Int) (t : Bool) (w : World) (h0 : Hid (∀ u, Below w.heap.size w u → Calls Tryz.prog 105 #[.slice A n cp, .func (Fn.func 68) #[] #[]] u fun e w' => e = .returned (.int .i64 v) ∧ Below u.heap.size u w')) (e0 : Hid (decide ((0 : Int) ≤ v) = t)) : Calls Tryz.prog 70 #[.slice A n cp, .func (Fn.func 68) #[] #[]] w fun e w' => e = .returned (.bool t) ∧ Below w.heap.size w w' := by
  go_enter Tryz.func70, Tryz.ntmps70
  go_upto_region 1 with fail
  have D := hide ((Gd.start w))
  refine list_start (S := Gd w []) (unhide D) ?_
  clear D
  refine list_read (v := .slice A n cp) rfl rfl (fun u hS => by go_simp) ?_
  try go_simp
  refine list_read (v := .func (Fn.func 68) #[] #[]) rfl rfl (fun u hS => by go_simp) ?_
  try go_simp
  refine list_call (v := .int .i64 v) (f := 105) (args := #[.slice A n cp, .func (Fn.func 68) #[] #[]]) rfl rfl (fun u hS => by go_simp) (fun u hS => (unhide h0 u hS.g.o).mono fun _ _ ⟨he, hb⟩ => ⟨he, hS.keep hb⟩) ?_
  try go_simp
  refine list_read (v := .bool t) rfl rfl (fun u hS => exec_geqS _ _ (unhide e0) rfl rfl rfl) ?_
  try go_simp
  refine list_read (v := .bool t) rfl rfl (fun u hS => by go_simp) ?_
  try go_simp
  refine list_end (fun u1 hS => ?_)
  have D := hide hS
  clear hS
  go_wp2
  go_ret
  exact ⟨rfl, (unhide D).g.o⟩
/-- Is none of n points beyond MaxSize? -/
def allW (n : Nat) (ps : Nat → Pt) : Bool := (List.range n).all fun i => wiB (ps i).1 (ps i).2.1 (ps i).2.2
theorem allW_iff {n : Nat} {ps : Nat → Pt} : allW n ps = true ↔ ∀ i, i < n → wiB (ps i).1 (ps i).2.1 (ps i).2.2 = true := by simp [allW]
def pI64 (n : Nat) (ps : Nat → Pt) : Prop := ∀ i, i < n → I64 (ps i).1 ∧ I64 (ps i).2.1 ∧ I64 (ps i).2.2
theorem firstN (f : Nat → Bool) : ∀ n : Nat, ∃ m, m ≤ n ∧ (∀ i, i < m → f i = true) ∧ (m < n → f m = false)
  | 0 => ⟨0, Nat.le_refl _, fun i hi => absurd hi (Nat.not_lt_zero i), fun h => absurd h (Nat.not_lt_zero 0)⟩
  | n + 1 => by
    obtain ⟨m, h1, h2, h3⟩ := firstN f n
    rcases Nat.lt_or_ge m n with h | h
    · exact ⟨m, by omega, h2, fun _ => h3 h⟩
    · have e : m = n := by omega
      subst e
      cases hf : f m
      · exact ⟨m, by omega, h2, fun _ => hf⟩
      · exact ⟨m + 1, Nat.le_refl _, fun i hi => by
          rcases Nat.lt_or_ge i m with h' | h'
          · exact h2 i h'
          · have : i = m := by omega
            subst this; exact hf, fun h' => absurd h' (Nat.lt_irrefl _)⟩
theorem ContainsS (A : Option Addr) (n cp : Nat) (ps : Nat → Pt) (w : World) (hn : n ≤ 9223372036854775807) (hP : PRow w A n ps) (hI : pI64 n ps) :
    Calls Tryz.prog 70 #[.slice A n cp, .func (Fn.func 68) #[] #[]] w fun e w' => e = .returned (.bool (!allW n ps)) ∧ Below w.heap.size w w' := by
  obtain ⟨m, h1, h2, h3⟩ := firstN (fun i => wiB (ps i).1 (ps i).2.1 (ps i).2.2) n
  have hb : ∀ i, i < n → Ans 68 #[.agg (v3 (ps i).1 (ps i).2.1 (ps i).2.2)] (.bool (!wiB (ps i).1 (ps i).2.1 (ps i).2.2)) := fun i hi => BeyondS _ _ _ (hI i hi).1 (hI i hi).2.1 (hI i hi).2.2
  refine contains_core A n cp (if m < n then (m : Int) else -1) _ w (fun u hu => index_core A n cp m ps _ u (fun h => if_pos h) (fun h => if_neg h) hn h1 (hP.below hu) (fun i hi => by have := hb i (by omega); rw [h2 i hi] at this; exact this) (fun h => by have := hb m h; rw [h3 h] at this; exact this)) ?_
  by_cases h : m < n
  · rw [if_pos h, decide_eq_true (by omega), show allW n ps = false from by
      cases e : allW n ps
      · rfl
      · have := allW_iff.1 e m h
        rw [h3 h] at this
        cases this]
    rfl
  · rw [if_neg h, show allW n ps = true from allW_iff.2 (fun i hi => h2 i (by omega))]
    rfl
set_option maxHeartbeats 2000000 in
theorem cloneV_core (g off n c : Nat) (ps : Nat → Pt) (w : World) (hn : n ≤ 256) (hr : Hid (∀ i, i < n → w.rangeAt g (off + i * 3) (v3 (ps i).1 (ps i).2.1 (ps i).2.2).toList)) :
    Calls Tryz.prog 47 #[.slice (some ⟨g, off, none⟩) n c] w fun e w' => (∃ v', e = .returned v' ∧ w'.ownsRow w.heap.size 24 3 v' n (cellsN n ps)) ∧ Below w.heap.size w w' := by
  obtain ⟨i0, hi, hz0, hz1, hz2⟩ := info_parts infoVec
  have tS : Tryz.prog.underlying 25 = some (.slice 24) := by kernel_rfl
  have q22 : ∀ (w : World) (a : Option Addr) (n c n' c' : Nat), (binOp .eql 25 (.slice a n c) (.slice none n' c')).run Tryz.prog w = .ok (.bool a.isNone) w := fun w a n c n' c' => Lib.run_eql_slice_nil w _ _ a n c n' c' tS
  have u22 : ∀ w, Sem.run Tryz.prog (underlying 25) w = .ok (TypeDesc.slice 24) w := run_underlying tS
  go_enter Tryz.func47, Tryz.ntmps47
  go_wp2_with (at_builtin; refine wpList_append_own _ rfl _ _ 25 rfl w.heap.size 24 i0 (.agg (v3 0 0 0)) 3 24 tS hi hz0 hz1 hz2 rfl (by decide) _ _ _ rfl (World.ownsRow_made w #[] 0 (Nat.le_refl _) (Nat.zero_le _) rfl) ⟨g, off, none⟩ n c (cellsN n ps) rfl ?qc1 ?qc2 ?qc3 ?qc4 ?qc5 ?qc6 ?_)
  case qc1 => unfold cellsN; rw [cellsP_len]; simp
  case qc2 =>
    intro j u hj
    try rw [Addr.add_mid]
    exact Lib.cell?_alloc_some _ (cellsN_lies (unhide hr) j u hj)
  case qc3 => exact cellsP_one _
  case qc4 => unfold maxLen; omega
  case qc5 => omega
  intro v' w1 hown hgrow hnil
  go_wp2
  go_ret
  refine ⟨⟨v', rfl, by simpa using hown⟩, ?_⟩
  exact ((Below.refl _ w).alloc (Nat.le_refl _) _).grown hgrow (by simp) (by intro k hk; simp [Value.ownBlock] at hk; omega)

end Go.Proofs.YtnemedgdhojhdaaGreat

namespace Go.Proofs.YtnemedgdhojhdaaGreat
open Go.RowKit
set_option maxRecDepth 4000
set_option linter.unusedVariables false

theorem SignedS (x bt : Int) (hx : I64 x) : Ans 104 #[.int .i64 x, .int .i64 bt] (.int .i64 (if bt = 0 then cl (0 - x) else x)) := fun w => by
  by_cases h : bt = 0
  · rw [if_pos h]; exact signed_0 x bt _ w (decide_eq_true h) (FixSubZ 0 x ⟨by decide, by decide⟩ hx)
  · rw [if_neg h]; exact signed_1 x bt w (decide_eq_false h)
/-- The corners of a box. -/
def boxQ (qx qy qz x y z : Int) (k : Nat) : Pt := (if k % 2 = 0 then qx else x, if k / 2 % 2 = 0 then qy else y, if k / 4 % 2 = 0 then qz else z)
def boxP (x y z : Int) (k : Nat) : Pt := boxQ (cl (0 - x)) (cl (0 - y)) (cl (0 - z)) x y z k
set_option maxHeartbeats 8000000 in
theorem boxCore_run (kd rr x y z qx qy qz : Int) (A : Option Addr) (n cp : Nat) (w : World) (hx : Hid (∀ bt, Ans 104 #[.int .i64 x, .int .i64 bt] (.int .i64 (if bt = 0 then qx else x)))) (hy : Hid (∀ bt, Ans 104 #[.int .i64 y, .int .i64 bt] (.int .i64 (if bt = 0 then qy else y)))) (hz : Hid (∀ bt, Ans 104 #[.int .i64 z, .int .i64 bt] (.int .i64 (if bt = 0 then qz else z)))) :
    Calls Tryz.prog 65 #[.agg (sh kd rr x y z A n cp)] w fun e w' => (∃ v, e = .returned v ∧ w'.ownsRow w.heap.size 24 3 v 8 (cellsN 8 (boxQ qx qy qz x y z))) ∧ Below w.heap.size w w' := by
  go_enter Tryz.func65, Tryz.ntmps65
  go_upto_region 3 with fail
  have D0 := hide ((Gd.start w).push 27 (sh kd rr x y z A n cp))
  go_wp2
  go_loopw [4, 6] (fun vs i wr => ∃ k : Nat, k ≤ 8 ∧ i = .int .i64 k ∧ Hid (wr.ownsRow (w.heap.size + 1) 24 3 vs k (cellsN k (boxQ qx qy qz x y z))) ∧ Hid (Gd w [(w.heap.size, 27, sh kd rr x y z A n cp)] wr)) (fun _ i _ => 8 - (intOf i).toNat)
  case atStart => exact ⟨0, Nat.zero_le _, rfl, World.ownsRow_nil _ _ _ _, unhide D0⟩
  case round =>
    obtain ⟨k, hk, rfl, hQ, hD⟩ := hrel
    clear D0
    by_cases hk8 : k < 8
    · rcases (show k = 0 ∨ k = 1 ∨ k = 2 ∨ k = 3 ∨ k = 4 ∨ k = 5 ∨ k = 6 ∨ k = 7 by omega) with rfl | rfl | rfl | rfl | rfl | rfl | rfl | rfl
      · have z0 := hide (show w.heap.size + 1 ≤ wr.drew.heap.size from ((unhide hD).g.at_ _ List.mem_cons_self).lt)
        go_upto_region 6 with fail
        have D0 := hide (unhide hD).drew
        have Q0 := hide (own_below (unhide hQ) (Below.refl _ wr).drew)
        refine region_walk (S := Gd w [(w.heap.size, 27, sh kd rr x y z A n cp)]) (l := [0, 1, 2, 3, 4, 5, 6, 8, 9, 10, 11, 12, 13, 15, 16, 17, 18, 19, 20, 7, 14, 21, 22, 23, 24, 25]) (t := [7, 14, 21, 23, 24]) (by kernel_rfl) (by kernel_rfl) (by kernel_rfl) (by kernel_rfl) (by kernel_rfl) (by kernel_rfl) (by kernel_rfl) (by kernel_rfl) (unhide D0) ?_
        refine walk_read (v := u4) rfl rfl rfl (fun u hS => by go_simp) ?_
        try go_simp
        refine walk_read (v := .func (Fn.func 104) #[] #[]) rfl rfl rfl (fun u hS => by go_simp) ?_
        try go_simp
        refine walk_read (v := .pointer (some ⟨w.heap.size, 2, none⟩)) rfl rfl rfl (fun u hS => by go_simp) ?_
        try go_simp
        refine walk_read (v := .pointer (some ⟨w.heap.size, 2, none⟩)) rfl rfl rfl (fun u hS => by go_simp) ?_
        try go_simp
        refine walk_read (v := .int .i64 x) rfl rfl rfl (fun u hS => exec_loadN_Fix (g := w.heap.size) (t := 27) (cs := sh kd rr x y z A n cp) hS.g _ rfl rfl (by repeat (first | exact List.mem_cons_self | apply List.mem_cons_of_mem)) rfl) ?_
        try go_simp
        refine walk_read (v := .int .i64 0) rfl rfl rfl (fun u hS => by go_simp) ?_
        try go_simp
        refine walk_read (v := .int .i64 0) rfl rfl rfl (fun u hS => exec_andS (v := 0) _ _ (by kernel_rfl) rfl rfl rfl) ?_
        try go_simp
        refine walk_read (v := .func (Fn.func 104) #[] #[]) rfl rfl rfl (fun u hS => by go_simp) ?_
        try go_simp
        refine walk_read (v := .pointer (some ⟨w.heap.size, 2, none⟩)) rfl rfl rfl (fun u hS => by go_simp) ?_
        try go_simp
        refine walk_read (v := .pointer (some ⟨w.heap.size, 3, none⟩)) rfl rfl rfl (fun u hS => by go_simp) ?_
        try go_simp
        refine walk_read (v := .int .i64 y) rfl rfl rfl (fun u hS => exec_loadN_Fix (g := w.heap.size) (t := 27) (cs := sh kd rr x y z A n cp) hS.g _ rfl rfl (by repeat (first | exact List.mem_cons_self | apply List.mem_cons_of_mem)) rfl) ?_
        try go_simp
        refine walk_read (v := .int .i64 0) rfl rfl rfl (fun u hS => by go_simp) ?_
        try go_simp
        refine walk_read (v := .int .i64 0) rfl rfl rfl (fun u hS => exec_andS (v := 0) _ _ (by kernel_rfl) rfl rfl rfl) ?_
        try go_simp
        refine walk_read (v := .func (Fn.func 104) #[] #[]) rfl rfl rfl (fun u hS => by go_simp) ?_
        try go_simp
        refine walk_read (v := .pointer (some ⟨w.heap.size, 2, none⟩)) rfl rfl rfl (fun u hS => by go_simp) ?_
        try go_simp
        refine walk_read (v := .pointer (some ⟨w.heap.size, 4, none⟩)) rfl rfl rfl (fun u hS => by go_simp) ?_
        try go_simp
        refine walk_read (v := .int .i64 z) rfl rfl rfl (fun u hS => exec_loadN_Fix (g := w.heap.size) (t := 27) (cs := sh kd rr x y z A n cp) hS.g _ rfl rfl (by repeat (first | exact List.mem_cons_self | apply List.mem_cons_of_mem)) rfl) ?_
        try go_simp
        refine walk_read (v := .int .i64 0) rfl rfl rfl (fun u hS => by go_simp) ?_
        try go_simp
        refine walk_read (v := .int .i64 0) rfl rfl rfl (fun u hS => exec_andS (v := 0) _ _ (by kernel_rfl) rfl rfl rfl) ?_
        try go_simp
        refine walk_call (f := 104) (args := #[.int .i64 x, .int .i64 0]) rfl rfl rfl (by go_simp) ?_
        refine (unhide hx 0 _).mono fun e w1 ⟨he, hb⟩ => ?_
        have D1 := hide ((unhide D0).keep hb)
        have Q1 := hide (own_below (unhide Q0) hb)
        have z1 := hide (Nat.le_trans (unhide z0) hb.size)
        refine ⟨.int .i64 qx, he, unhide D1, ?_⟩
        clear he hb D0 Q0 z0
        try go_simp
        refine walk_call (f := 104) (args := #[.int .i64 y, .int .i64 0]) rfl rfl rfl (by go_simp) ?_
        refine (unhide hy 0 _).mono fun e w2 ⟨he, hb⟩ => ?_
        have D2 := hide ((unhide D1).keep hb)
        have Q2 := hide (own_below (unhide Q1) hb)
        have z2 := hide (Nat.le_trans (unhide z1) hb.size)
        refine ⟨.int .i64 qy, he, unhide D2, ?_⟩
        clear he hb D1 Q1 z1
        try go_simp
        refine walk_call (f := 104) (args := #[.int .i64 z, .int .i64 0]) rfl rfl rfl (by go_simp) ?_
        refine (unhide hz 0 _).mono fun e w3 ⟨he, hb⟩ => ?_
        have D3 := hide ((unhide D2).keep hb)
        have Q3 := hide (own_below (unhide Q2) hb)
        have z3 := hide (Nat.le_trans (unhide z2) hb.size)
        refine ⟨.int .i64 qz, he, unhide D3, ?_⟩
        clear he hb D2 Q2 z2
        try go_simp
        refine walk_read (v := .agg (v3 qx qy qz)) rfl rfl rfl (fun u hS => by go_simp) ?_
        try go_simp
        have D4 := hide ((unhide D3).push 24 (bsC1 qx qy qz))
        have Q4 := hide ((unhide Q3).alloc (.cells (bsC1 qx qy qz) 24))
        refine walk_turn (v := .slice (some ⟨w3.heap.size, 0, none⟩) 1 1) (w' := w3.alloc (.cells (bsC1 qx qy qz) 24)) rfl rfl rfl (exec_bs1Vec w3 (.tmp 31) rfl rfl) (unhide D4).tail ?_
        try go_simp
        obtain ⟨v', W', r4, hQ4, hG4⟩ := app_vec (w3.alloc (.cells (bsC1 qx qy qz) 24)) (w.heap.size + 1) 25 u4 0 _ w3.heap.size qx qy qz (unhide Q4) ((unhide D4).g.blk (g := w3.heap.size) (t := 24) (cs := bsC1 qx qy qz) (by repeat (first | exact List.mem_cons_self | apply List.mem_cons_of_mem))) (by decide) (by have := unhide z3; simp only [szA]; omega)
        have hD4 := hide ((unhide D4).tail.grownOver (unhide D4).tail.again hG4 (fun q e => ⟨by have := ((unhide Q4).lt q e).1; omega, fun p hp => by cases hp with | head => (have := ((unhide Q4).lt q e).1; show w.heap.size ≠ q; omega) | tail _ h => cases h⟩))
        have hQ4 := hide hQ4
        refine walk_turn (v := v') (w' := W') rfl rfl rfl (exec_append (v := u4) (y := .slice (some ⟨w3.heap.size, 0, none⟩) 1 1) 25 (.tmp 9) (.tmp 32) rfl rfl rfl r4) (unhide hD4) ?_
        try go_simp
        refine walk_read (v := v') rfl rfl rfl (fun u hS => by go_simp) ?_
        try go_simp
        refine walk_end ?_
        clear r4 hG4 D3 D4 Q3 Q4 z3 hQ hD
        go_wp2
        go_roundw
        case rel => exact ⟨1, by omega, by go_num, hide (cellsN_snoc 0 (boxQ qx qy qz x y z) ▸ unhide hQ4), hD4⟩
        case measure => simp [intOf]
      · have z0 := hide (show w.heap.size + 1 ≤ wr.drew.heap.size from ((unhide hD).g.at_ _ List.mem_cons_self).lt)
        go_upto_region 6 with fail
        have D0 := hide (unhide hD).drew
        have Q0 := hide (own_below (unhide hQ) (Below.refl _ wr).drew)
        refine region_walk (S := Gd w [(w.heap.size, 27, sh kd rr x y z A n cp)]) (l := [0, 1, 2, 3, 4, 5, 6, 8, 9, 10, 11, 12, 13, 15, 16, 17, 18, 19, 20, 7, 14, 21, 22, 23, 24, 25]) (t := [7, 14, 21, 23, 24]) (by kernel_rfl) (by kernel_rfl) (by kernel_rfl) (by kernel_rfl) (by kernel_rfl) (by kernel_rfl) (by kernel_rfl) (by kernel_rfl) (unhide D0) ?_
        refine walk_read (v := u4) rfl rfl rfl (fun u hS => by go_simp) ?_
        try go_simp
        refine walk_read (v := .func (Fn.func 104) #[] #[]) rfl rfl rfl (fun u hS => by go_simp) ?_
        try go_simp
        refine walk_read (v := .pointer (some ⟨w.heap.size, 2, none⟩)) rfl rfl rfl (fun u hS => by go_simp) ?_
        try go_simp
        refine walk_read (v := .pointer (some ⟨w.heap.size, 2, none⟩)) rfl rfl rfl (fun u hS => by go_simp) ?_
        try go_simp
        refine walk_read (v := .int .i64 x) rfl rfl rfl (fun u hS => exec_loadN_Fix (g := w.heap.size) (t := 27) (cs := sh kd rr x y z A n cp) hS.g _ rfl rfl (by repeat (first | exact List.mem_cons_self | apply List.mem_cons_of_mem)) rfl) ?_
        try go_simp
        refine walk_read (v := .int .i64 1) rfl rfl rfl (fun u hS => by go_simp) ?_
        try go_simp
        refine walk_read (v := .int .i64 1) rfl rfl rfl (fun u hS => exec_andS (v := 1) _ _ (by kernel_rfl) rfl rfl rfl) ?_
        try go_simp
        refine walk_read (v := .func (Fn.func 104) #[] #[]) rfl rfl rfl (fun u hS => by go_simp) ?_
        try go_simp
        refine walk_read (v := .pointer (some ⟨w.heap.size, 2, none⟩)) rfl rfl rfl (fun u hS => by go_simp) ?_
        try go_simp
        refine walk_read (v := .pointer (some ⟨w.heap.size, 3, none⟩)) rfl rfl rfl (fun u hS => by go_simp) ?_
        try go_simp
        refine walk_read (v := .int .i64 y) rfl rfl rfl (fun u hS => exec_loadN_Fix (g := w.heap.size) (t := 27) (cs := sh kd rr x y z A n cp) hS.g _ rfl rfl (by repeat (first | exact List.mem_cons_self | apply List.mem_cons_of_mem)) rfl) ?_
        try go_simp
        refine walk_read (v := .int .i64 1) rfl rfl rfl (fun u hS => by go_simp) ?_
        try go_simp
        refine walk_read (v := .int .i64 0) rfl rfl rfl (fun u hS => exec_andS (v := 0) _ _ (by kernel_rfl) rfl rfl rfl) ?_
        try go_simp
        refine walk_read (v := .func (Fn.func 104) #[] #[]) rfl rfl rfl (fun u hS => by go_simp) ?_
        try go_simp
        refine walk_read (v := .pointer (some ⟨w.heap.size, 2, none⟩)) rfl rfl rfl (fun u hS => by go_simp) ?_
        try go_simp
        refine walk_read (v := .pointer (some ⟨w.heap.size, 4, none⟩)) rfl rfl rfl (fun u hS => by go_simp) ?_
        try go_simp
        refine walk_read (v := .int .i64 z) rfl rfl rfl (fun u hS => exec_loadN_Fix (g := w.heap.size) (t := 27) (cs := sh kd rr x y z A n cp) hS.g _ rfl rfl (by repeat (first | exact List.mem_cons_self | apply List.mem_cons_of_mem)) rfl) ?_
        try go_simp
        refine walk_read (v := .int .i64 1) rfl rfl rfl (fun u hS => by go_simp) ?_
        try go_simp
        refine walk_read (v := .int .i64 0) rfl rfl rfl (fun u hS => exec_andS (v := 0) _ _ (by kernel_rfl) rfl rfl rfl) ?_
        try go_simp
        refine walk_call (f := 104) (args := #[.int .i64 x, .int .i64 1]) rfl rfl rfl (by go_simp) ?_
        refine (unhide hx 1 _).mono fun e w1 ⟨he, hb⟩ => ?_
        have D1 := hide ((unhide D0).keep hb)
        have Q1 := hide (own_below (unhide Q0) hb)
        have z1 := hide (Nat.le_trans (unhide z0) hb.size)
        refine ⟨.int .i64 x, he, unhide D1, ?_⟩
        clear he hb D0 Q0 z0
        try go_simp
        refine walk_call (f := 104) (args := #[.int .i64 y, .int .i64 0]) rfl rfl rfl (by go_simp) ?_
        refine (unhide hy 0 _).mono fun e w2 ⟨he, hb⟩ => ?_
        have D2 := hide ((unhide D1).keep hb)
        have Q2 := hide (own_below (unhide Q1) hb)
        have z2 := hide (Nat.le_trans (unhide z1) hb.size)
        refine ⟨.int .i64 qy, he, unhide D2, ?_⟩
        clear he hb D1 Q1 z1
        try go_simp
        refine walk_call (f := 104) (args := #[.int .i64 z, .int .i64 0]) rfl rfl rfl (by go_simp) ?_
        refine (unhide hz 0 _).mono fun e w3 ⟨he, hb⟩ => ?_
        have D3 := hide ((unhide D2).keep hb)
        have Q3 := hide (own_below (unhide Q2) hb)
        have z3 := hide (Nat.le_trans (unhide z2) hb.size)
        refine ⟨.int .i64 qz, he, unhide D3, ?_⟩
        clear he hb D2 Q2 z2
        try go_simp
        refine walk_read (v := .agg (v3 x qy qz)) rfl rfl rfl (fun u hS => by go_simp) ?_
        try go_simp
        have D4 := hide ((unhide D3).push 24 (bsC1 x qy qz))
        have Q4 := hide ((unhide Q3).alloc (.cells (bsC1 x qy qz) 24))
        refine walk_turn (v := .slice (some ⟨w3.heap.size, 0, none⟩) 1 1) (w' := w3.alloc (.cells (bsC1 x qy qz) 24)) rfl rfl rfl (exec_bs1Vec w3 (.tmp 31) rfl rfl) (unhide D4).tail ?_
        try go_simp
        obtain ⟨v', W', r4, hQ4, hG4⟩ := app_vec (w3.alloc (.cells (bsC1 x qy qz) 24)) (w.heap.size + 1) 25 u4 1 _ w3.heap.size x qy qz (unhide Q4) ((unhide D4).g.blk (g := w3.heap.size) (t := 24) (cs := bsC1 x qy qz) (by repeat (first | exact List.mem_cons_self | apply List.mem_cons_of_mem))) (by decide) (by have := unhide z3; simp only [szA]; omega)
        have hD4 := hide ((unhide D4).tail.grownOver (unhide D4).tail.again hG4 (fun q e => ⟨by have := ((unhide Q4).lt q e).1; omega, fun p hp => by cases hp with | head => (have := ((unhide Q4).lt q e).1; show w.heap.size ≠ q; omega) | tail _ h => cases h⟩))
        have hQ4 := hide hQ4
        refine walk_turn (v := v') (w' := W') rfl rfl rfl (exec_append (v := u4) (y := .slice (some ⟨w3.heap.size, 0, none⟩) 1 1) 25 (.tmp 9) (.tmp 32) rfl rfl rfl r4) (unhide hD4) ?_
        try go_simp
        refine walk_read (v := v') rfl rfl rfl (fun u hS => by go_simp) ?_
        try go_simp
        refine walk_end ?_
        clear r4 hG4 D3 D4 Q3 Q4 z3 hQ hD
        go_wp2
        go_roundw
        case rel => exact ⟨2, by omega, by go_num, hide (cellsN_snoc 1 (boxQ qx qy qz x y z) ▸ unhide hQ4), hD4⟩
        case measure => simp [intOf]
      · have z0 := hide (show w.heap.size + 1 ≤ wr.drew.heap.size from ((unhide hD).g.at_ _ List.mem_cons_self).lt)
        go_upto_region 6 with fail
        have D0 := hide (unhide hD).drew
        have Q0 := hide (own_below (unhide hQ) (Below.refl _ wr).drew)
        refine region_walk (S := Gd w [(w.heap.size, 27, sh kd rr x y z A n cp)]) (l := [0, 1, 2, 3, 4, 5, 6, 8, 9, 10, 11, 12, 13, 15, 16, 17, 18, 19, 20, 7, 14, 21, 22, 23, 24, 25]) (t := [7, 14, 21, 23, 24]) (by kernel_rfl) (by kernel_rfl) (by kernel_rfl) (by kernel_rfl) (by kernel_rfl) (by kernel_rfl) (by kernel_rfl) (by kernel_rfl) (unhide D0) ?_
        refine walk_read (v := u4) rfl rfl rfl (fun u hS => by go_simp) ?_
        try go_simp
        refine walk_read (v := .func (Fn.func 104) #[] #[]) rfl rfl rfl (fun u hS => by go_simp) ?_
        try go_simp
        refine walk_read (v := .pointer (some ⟨w.heap.size, 2, none⟩)) rfl rfl rfl (fun u hS => by go_simp) ?_
        try go_simp
        refine walk_read (v := .pointer (some ⟨w.heap.size, 2, none⟩)) rfl rfl rfl (fun u hS => by go_simp) ?_
        try go_simp
        refine walk_read (v := .int .i64 x) rfl rfl rfl (fun u hS => exec_loadN_Fix (g := w.heap.size) (t := 27) (cs := sh kd rr x y z A n cp) hS.g _ rfl rfl (by repeat (first | exact List.mem_cons_self | apply List.mem_cons_of_mem)) rfl) ?_
        try go_simp
        refine walk_read (v := .int .i64 2) rfl rfl rfl (fun u hS => by go_simp) ?_
        try go_simp
        refine walk_read (v := .int .i64 0) rfl rfl rfl (fun u hS => exec_andS (v := 0) _ _ (by kernel_rfl) rfl rfl rfl) ?_
        try go_simp
        refine walk_read (v := .func (Fn.func 104) #[] #[]) rfl rfl rfl (fun u hS => by go_simp) ?_
        try go_simp
        refine walk_read (v := .pointer (some ⟨w.heap.size, 2, none⟩)) rfl rfl rfl (fun u hS => by go_simp) ?_
        try go_simp
        refine walk_read (v := .pointer (some ⟨w.heap.size, 3, none⟩)) rfl rfl rfl (fun u hS => by go_simp) ?_
        try go_simp
        refine walk_read (v := .int .i64 y) rfl rfl rfl (fun u hS => exec_loadN_Fix (g := w.heap.size) (t := 27) (cs := sh kd rr x y z A n cp) hS.g _ rfl rfl (by repeat (first | exact List.mem_cons_self | apply List.mem_cons_of_mem)) rfl) ?_
        try go_simp
        refine walk_read (v := .int .i64 2) rfl rfl rfl (fun u hS => by go_simp) ?_
        try go_simp
        refine walk_read (v := .int .i64 2) rfl rfl rfl (fun u hS => exec_andS (v := 2) _ _ (by kernel_rfl) rfl rfl rfl) ?_
        try go_simp
        refine walk_read (v := .func (Fn.func 104) #[] #[]) rfl rfl rfl (fun u hS => by go_simp) ?_
        try go_simp
        refine walk_read (v := .pointer (some ⟨w.heap.size, 2, none⟩)) rfl rfl rfl (fun u hS => by go_simp) ?_
        try go_simp
        refine walk_read (v := .pointer (some ⟨w.heap.size, 4, none⟩)) rfl rfl rfl (fun u hS => by go_simp) ?_
        try go_simp
        refine walk_read (v := .int .i64 z) rfl rfl rfl (fun u hS => exec_loadN_Fix (g := w.heap.size) (t := 27) (cs := sh kd rr x y z A n cp) hS.g _ rfl rfl (by repeat (first | exact List.mem_cons_self | apply List.mem_cons_of_mem)) rfl) ?_
        try go_simp
        refine walk_read (v := .int .i64 2) rfl rfl rfl (fun u hS => by go_simp) ?_
        try go_simp
        refine walk_read (v := .int .i64 0) rfl rfl rfl (fun u hS => exec_andS (v := 0) _ _ (by kernel_rfl) rfl rfl rfl) ?_
        try go_simp
        refine walk_call (f := 104) (args := #[.int .i64 x, .int .i64 0]) rfl rfl rfl (by go_simp) ?_
        refine (unhide hx 0 _).mono fun e w1 ⟨he, hb⟩ => ?_
        have D1 := hide ((unhide D0).keep hb)
        have Q1 := hide (own_below (unhide Q0) hb)
        have z1 := hide (Nat.le_trans (unhide z0) hb.size)
        refine ⟨.int .i64 qx, he, unhide D1, ?_⟩
        clear he hb D0 Q0 z0
        try go_simp
        refine walk_call (f := 104) (args := #[.int .i64 y, .int .i64 2]) rfl rfl rfl (by go_simp) ?_
        refine (unhide hy 2 _).mono fun e w2 ⟨he, hb⟩ => ?_
        have D2 := hide ((unhide D1).keep hb)
        have Q2 := hide (own_below (unhide Q1) hb)
        have z2 := hide (Nat.le_trans (unhide z1) hb.size)
        refine ⟨.int .i64 y, he, unhide D2, ?_⟩
        clear he hb D1 Q1 z1
        try go_simp
        refine walk_call (f := 104) (args := #[.int .i64 z, .int .i64 0]) rfl rfl rfl (by go_simp) ?_
        refine (unhide hz 0 _).mono fun e w3 ⟨he, hb⟩ => ?_
        have D3 := hide ((unhide D2).keep hb)
        have Q3 := hide (own_below (unhide Q2) hb)
        have z3 := hide (Nat.le_trans (unhide z2) hb.size)
        refine ⟨.int .i64 qz, he, unhide D3, ?_⟩
        clear he hb D2 Q2 z2
        try go_simp
        refine walk_read (v := .agg (v3 qx y qz)) rfl rfl rfl (fun u hS => by go_simp) ?_
        try go_simp
        have D4 := hide ((unhide D3).push 24 (bsC1 qx y qz))
        have Q4 := hide ((unhide Q3).alloc (.cells (bsC1 qx y qz) 24))
        refine walk_turn (v := .slice (some ⟨w3.heap.size, 0, none⟩) 1 1) (w' := w3.alloc (.cells (bsC1 qx y qz) 24)) rfl rfl rfl (exec_bs1Vec w3 (.tmp 31) rfl rfl) (unhide D4).tail ?_
        try go_simp
        obtain ⟨v', W', r4, hQ4, hG4⟩ := app_vec (w3.alloc (.cells (bsC1 qx y qz) 24)) (w.heap.size + 1) 25 u4 2 _ w3.heap.size qx y qz (unhide Q4) ((unhide D4).g.blk (g := w3.heap.size) (t := 24) (cs := bsC1 qx y qz) (by repeat (first | exact List.mem_cons_self | apply List.mem_cons_of_mem))) (by decide) (by have := unhide z3; simp only [szA]; omega)
        have hD4 := hide ((unhide D4).tail.grownOver (unhide D4).tail.again hG4 (fun q e => ⟨by have := ((unhide Q4).lt q e).1; omega, fun p hp => by cases hp with | head => (have := ((unhide Q4).lt q e).1; show w.heap.size ≠ q; omega) | tail _ h => cases h⟩))
        have hQ4 := hide hQ4
        refine walk_turn (v := v') (w' := W') rfl rfl rfl (exec_append (v := u4) (y := .slice (some ⟨w3.heap.size, 0, none⟩) 1 1) 25 (.tmp 9) (.tmp 32) rfl rfl rfl r4) (unhide hD4) ?_
        try go_simp
        refine walk_read (v := v') rfl rfl rfl (fun u hS => by go_simp) ?_
        try go_simp
        refine walk_end ?_
        clear r4 hG4 D3 D4 Q3 Q4 z3 hQ hD
        go_wp2
        go_roundw
        case rel => exact ⟨3, by omega, by go_num, hide (cellsN_snoc 2 (boxQ qx qy qz x y z) ▸ unhide hQ4), hD4⟩
        case measure => simp [intOf]
      · have z0 := hide (show w.heap.size + 1 ≤ wr.drew.heap.size from ((unhide hD).g.at_ _ List.mem_cons_self).lt)
        go_upto_region 6 with fail
        have D0 := hide (unhide hD).drew
        have Q0 := hide (own_below (unhide hQ) (Below.refl _ wr).drew)
        refine region_walk (S := Gd w [(w.heap.size, 27, sh kd rr x y z A n cp)]) (l := [0, 1, 2, 3, 4, 5, 6, 8, 9, 10, 11, 12, 13, 15, 16, 17, 18, 19, 20, 7, 14, 21, 22, 23, 24, 25]) (t := [7, 14, 21, 23, 24]) (by kernel_rfl) (by kernel_rfl) (by kernel_rfl) (by kernel_rfl) (by kernel_rfl) (by kernel_rfl) (by kernel_rfl) (by kernel_rfl) (unhide D0) ?_
        refine walk_read (v := u4) rfl rfl rfl (fun u hS => by go_simp) ?_
        try go_simp
        refine walk_read (v := .func (Fn.func 104) #[] #[]) rfl rfl rfl (fun u hS => by go_simp) ?_
        try go_simp
        refine walk_read (v := .pointer (some ⟨w.heap.size, 2, none⟩)) rfl rfl rfl (fun u hS => by go_simp) ?_
        try go_simp
        refine walk_read (v := .pointer (some ⟨w.heap.size, 2, none⟩)) rfl rfl rfl (fun u hS => by go_simp) ?_
        try go_simp
        refine walk_read (v := .int .i64 x) rfl rfl rfl (fun u hS => exec_loadN_Fix (g := w.heap.size) (t := 27) (cs := sh kd rr x y z A n cp) hS.g _ rfl rfl (by repeat (first | exact List.mem_cons_self | apply List.mem_cons_of_mem)) rfl) ?_
        try go_simp
        refine walk_read (v := .int .i64 3) rfl rfl rfl (fun u hS => by go_simp) ?_
        try go_simp
        refine walk_read (v := .int .i64 1) rfl rfl rfl (fun u hS => exec_andS (v := 1) _ _ (by kernel_rfl) rfl rfl rfl) ?_
        try go_simp
        refine walk_read (v := .func (Fn.func 104) #[] #[]) rfl rfl rfl (fun u hS => by go_simp) ?_
        try go_simp
        refine walk_read (v := .pointer (some ⟨w.heap.size, 2, none⟩)) rfl rfl rfl (fun u hS => by go_simp) ?_
        try go_simp
        refine walk_read (v := .pointer (some ⟨w.heap.size, 3, none⟩)) rfl rfl rfl (fun u hS => by go_simp) ?_
        try go_simp
        refine walk_read (v := .int .i64 y) rfl rfl rfl (fun u hS => exec_loadN_Fix (g := w.heap.size) (t := 27) (cs := sh kd rr x y z A n cp) hS.g _ rfl rfl (by repeat (first | exact List.mem_cons_self | apply List.mem_cons_of_mem)) rfl) ?_
        try go_simp
        refine walk_read (v := .int .i64 3) rfl rfl rfl (fun u hS => by go_simp) ?_
        try go_simp
        refine walk_read (v := .int .i64 2) rfl rfl rfl (fun u hS => exec_andS (v := 2) _ _ (by kernel_rfl) rfl rfl rfl) ?_
        try go_simp
        refine walk_read (v := .func (Fn.func 104) #[] #[]) rfl rfl rfl (fun u hS => by go_simp) ?_
        try go_simp
        refine walk_read (v := .pointer (some ⟨w.heap.size, 2, none⟩)) rfl rfl rfl (fun u hS => by go_simp) ?_
        try go_simp
        refine walk_read (v := .pointer (some ⟨w.heap.size, 4, none⟩)) rfl rfl rfl (fun u hS => by go_simp) ?_
        try go_simp
        refine walk_read (v := .int .i64 z) rfl rfl rfl (fun u hS => exec_loadN_Fix (g := w.heap.size) (t := 27) (cs := sh kd rr x y z A n cp) hS.g _ rfl rfl (by repeat (first | exact List.mem_cons_self | apply List.mem_cons_of_mem)) rfl) ?_
        try go_simp
        refine walk_read (v := .int .i64 3) rfl rfl rfl (fun u hS => by go_simp) ?_
        try go_simp
        refine walk_read (v := .int .i64 0) rfl rfl rfl (fun u hS => exec_andS (v := 0) _ _ (by kernel_rfl) rfl rfl rfl) ?_
        try go_simp
        refine walk_call (f := 104) (args := #[.int .i64 x, .int .i64 1]) rfl rfl rfl (by go_simp) ?_
        refine (unhide hx 1 _).mono fun e w1 ⟨he, hb⟩ => ?_
        have D1 := hide ((unhide D0).keep hb)
        have Q1 := hide (own_below (unhide Q0) hb)
        have z1 := hide (Nat.le_trans (unhide z0) hb.size)
        refine ⟨.int .i64 x, he, unhide D1, ?_⟩
        clear he hb D0 Q0 z0
        try go_simp
        refine walk_call (f := 104) (args := #[.int .i64 y, .int .i64 2]) rfl rfl rfl (by go_simp) ?_
        refine (unhide hy 2 _).mono fun e w2 ⟨he, hb⟩ => ?_
        have D2 := hide ((unhide D1).keep hb)
        have Q2 := hide (own_below (unhide Q1) hb)
        have z2 := hide (Nat.le_trans (unhide z1) hb.size)
        refine ⟨.int .i64 y, he, unhide D2, ?_⟩
        clear he hb D1 Q1 z1
        try go_simp
        refine walk_call (f := 104) (args := #[.int .i64 z, .int .i64 0]) rfl rfl rfl (by go_simp) ?_
        refine (unhide hz 0 _).mono fun e w3 ⟨he, hb⟩ => ?_
        have D3 := hide ((unhide D2).keep hb)
        have Q3 := hide (own_below (unhide Q2) hb)
        have z3 := hide (Nat.le_trans (unhide z2) hb.size)
        refine ⟨.int .i64 qz, he, unhide D3, ?_⟩
        clear he hb D2 Q2 z2
        try go_simp
        refine walk_read (v := .agg (v3 x y qz)) rfl rfl rfl (fun u hS => by go_simp) ?_
        try go_simp
        have D4 := hide ((unhide D3).push 24 (bsC1 x y qz))
        have Q4 := hide ((unhide Q3).alloc (.cells (bsC1 x y qz) 24))
        refine walk_turn (v := .slice (some ⟨w3.heap.size, 0, none⟩) 1 1) (w' := w3.alloc (.cells (bsC1 x y qz) 24)) rfl rfl rfl (exec_bs1Vec w3 (.tmp 31) rfl rfl) (unhide D4).tail ?_
        try go_simp
        obtain ⟨v', W', r4, hQ4, hG4⟩ := app_vec (w3.alloc (.cells (bsC1 x y qz) 24)) (w.heap.size + 1) 25 u4 3 _ w3.heap.size x y qz (unhide Q4) ((unhide D4).g.blk (g := w3.heap.size) (t := 24) (cs := bsC1 x y qz) (by repeat (first | exact List.mem_cons_self | apply List.mem_cons_of_mem))) (by decide) (by have := unhide z3; simp only [szA]; omega)
        have hD4 := hide ((unhide D4).tail.grownOver (unhide D4).tail.again hG4 (fun q e => ⟨by have := ((unhide Q4).lt q e).1; omega, fun p hp => by cases hp with | head => (have := ((unhide Q4).lt q e).1; show w.heap.size ≠ q; omega) | tail _ h => cases h⟩))
        have hQ4 := hide hQ4
        refine walk_turn (v := v') (w' := W') rfl rfl rfl (exec_append (v := u4) (y := .slice (some ⟨w3.heap.size, 0, none⟩) 1 1) 25 (.tmp 9) (.tmp 32) rfl rfl rfl r4) (unhide hD4) ?_
        try go_simp
        refine walk_read (v := v') rfl rfl rfl (fun u hS => by go_simp) ?_
        try go_simp
        refine walk_end ?_
        clear r4 hG4 D3 D4 Q3 Q4 z3 hQ hD
        go_wp2
        go_roundw
        case rel => exact ⟨4, by omega, by go_num, hide (cellsN_snoc 3 (boxQ qx qy qz x y z) ▸ unhide hQ4), hD4⟩
        case measure => simp [intOf]
      · have z0 := hide (show w.heap.size + 1 ≤ wr.drew.heap.size from ((unhide hD).g.at_ _ List.mem_cons_self).lt)
        go_upto_region 6 with fail
        have D0 := hide (unhide hD).drew
        have Q0 := hide (own_below (unhide hQ) (Below.refl _ wr).drew)
        refine region_walk (S := Gd w [(w.heap.size, 27, sh kd rr x y z A n cp)]) (l := [0, 1, 2, 3, 4, 5, 6, 8, 9, 10, 11, 12, 13, 15, 16, 17, 18, 19, 20, 7, 14, 21, 22, 23, 24, 25]) (t := [7, 14, 21, 23, 24]) (by kernel_rfl) (by kernel_rfl) (by kernel_rfl) (by kernel_rfl) (by kernel_rfl) (by kernel_rfl) (by kernel_rfl) (by kernel_rfl) (unhide D0) ?_
        refine walk_read (v := u4) rfl rfl rfl (fun u hS => by go_simp) ?_
        try go_simp
        refine walk_read (v := .func (Fn.func 104) #[] #[]) rfl rfl rfl (fun u hS => by go_simp) ?_
        try go_simp
        refine walk_read (v := .pointer (some ⟨w.heap.size, 2, none⟩)) rfl rfl rfl (fun u hS => by go_simp) ?_
        try go_simp
        refine walk_read (v := .pointer (some ⟨w.heap.size, 2, none⟩)) rfl rfl rfl (fun u hS => by go_simp) ?_
        try go_simp
        refine walk_read (v := .int .i64 x) rfl rfl rfl (fun u hS => exec_loadN_Fix (g := w.heap.size) (t := 27) (cs := sh kd rr x y z A n cp) hS.g _ rfl rfl (by repeat (first | exact List.mem_cons_self | apply List.mem_cons_of_mem)) rfl) ?_
        try go_simp
        refine walk_read (v := .int .i64 4) rfl rfl rfl (fun u hS => by go_simp) ?_
        try go_simp
        refine walk_read (v := .int .i64 0) rfl rfl rfl (fun u hS => exec_andS (v := 0) _ _ (by kernel_rfl) rfl rfl rfl) ?_
        try go_simp
        refine walk_read (v := .func (Fn.func 104) #[] #[]) rfl rfl rfl (fun u hS => by go_simp) ?_
        try go_simp
        refine walk_read (v := .pointer (some ⟨w.heap.size, 2, none⟩)) rfl rfl rfl (fun u hS => by go_simp) ?_
        try go_simp
        refine walk_read (v := .pointer (some ⟨w.heap.size, 3, none⟩)) rfl rfl rfl (fun u hS => by go_simp) ?_
        try go_simp
        refine walk_read (v := .int .i64 y) rfl rfl rfl (fun u hS => exec_loadN_Fix (g := w.heap.size) (t := 27) (cs := sh kd rr x y z A n cp) hS.g _ rfl rfl (by repeat (first | exact List.mem_cons_self | apply List.mem_cons_of_mem)) rfl) ?_
        try go_simp
        refine walk_read (v := .int .i64 4) rfl rfl rfl (fun u hS => by go_simp) ?_
        try go_simp
        refine walk_read (v := .int .i64 0) rfl rfl rfl (fun u hS => exec_andS (v := 0) _ _ (by kernel_rfl) rfl rfl rfl) ?_
        try go_simp
        refine walk_read (v := .func (Fn.func 104) #[] #[]) rfl rfl rfl (fun u hS => by go_simp) ?_
        try go_simp
        refine walk_read (v := .pointer (some ⟨w.heap.size, 2, none⟩)) rfl rfl rfl (fun u hS => by go_simp) ?_
        try go_simp
        refine walk_read (v := .pointer (some ⟨w.heap.size, 4, none⟩)) rfl rfl rfl (fun u hS => by go_simp) ?_
        try go_simp
        refine walk_read (v := .int .i64 z) rfl rfl rfl (fun u hS => exec_loadN_Fix (g := w.heap.size) (t := 27) (cs := sh kd rr x y z A n cp) hS.g _ rfl rfl (by repeat (first | exact List.mem_cons_self | apply List.mem_cons_of_mem)) rfl) ?_
        try go_simp
        refine walk_read (v := .int .i64 4) rfl rfl rfl (fun u hS => by go_simp) ?_
        try go_simp
        refine walk_read (v := .int .i64 4) rfl rfl rfl (fun u hS => exec_andS (v := 4) _ _ (by kernel_rfl) rfl rfl rfl) ?_
        try go_simp
        refine walk_call (f := 104) (args := #[.int .i64 x, .int .i64 0]) rfl rfl rfl (by go_simp) ?_
        refine (unhide hx 0 _).mono fun e w1 ⟨he, hb⟩ => ?_
        have D1 := hide ((unhide D0).keep hb)
        have Q1 := hide (own_below (unhide Q0) hb)
        have z1 := hide (Nat.le_trans (unhide z0) hb.size)
        refine ⟨.int .i64 qx, he, unhide D1, ?_⟩
        clear he hb D0 Q0 z0
        try go_simp
        refine walk_call (f := 104) (args := #[.int .i64 y, .int .i64 0]) rfl rfl rfl (by go_simp) ?_
        refine (unhide hy 0 _).mono fun e w2 ⟨he, hb⟩ => ?_
        have D2 := hide ((unhide D1).keep hb)
        have Q2 := hide (own_below (unhide Q1) hb)
        have z2 := hide (Nat.le_trans (unhide z1) hb.size)
        refine ⟨.int .i64 qy, he, unhide D2, ?_⟩
        clear he hb D1 Q1 z1
        try go_simp
        refine walk_call (f := 104) (args := #[.int .i64 z, .int .i64 4]) rfl rfl rfl (by go_simp) ?_
        refine (unhide hz 4 _).mono fun e w3 ⟨he, hb⟩ => ?_
        have D3 := hide ((unhide D2).keep hb)
        have Q3 := hide (own_below (unhide Q2) hb)
        have z3 := hide (Nat.le_trans (unhide z2) hb.size)
        refine ⟨.int .i64 z, he, unhide D3, ?_⟩
        clear he hb D2 Q2 z2
        try go_simp
        refine walk_read (v := .agg (v3 qx qy z)) rfl rfl rfl (fun u hS => by go_simp) ?_
        try go_simp
        have D4 := hide ((unhide D3).push 24 (bsC1 qx qy z))
        have Q4 := hide ((unhide Q3).alloc (.cells (bsC1 qx qy z) 24))
        refine walk_turn (v := .slice (some ⟨w3.heap.size, 0, none⟩) 1 1) (w' := w3.alloc (.cells (bsC1 qx qy z) 24)) rfl rfl rfl (exec_bs1Vec w3 (.tmp 31) rfl rfl) (unhide D4).tail ?_
        try go_simp
        obtain ⟨v', W', r4, hQ4, hG4⟩ := app_vec (w3.alloc (.cells (bsC1 qx qy z) 24)) (w.heap.size + 1) 25 u4 4 _ w3.heap.size qx qy z (unhide Q4) ((unhide D4).g.blk (g := w3.heap.size) (t := 24) (cs := bsC1 qx qy z) (by repeat (first | exact List.mem_cons_self | apply List.mem_cons_of_mem))) (by decide) (by have := unhide z3; simp only [szA]; omega)
        have hD4 := hide ((unhide D4).tail.grownOver (unhide D4).tail.again hG4 (fun q e => ⟨by have := ((unhide Q4).lt q e).1; omega, fun p hp => by cases hp with | head => (have := ((unhide Q4).lt q e).1; show w.heap.size ≠ q; omega) | tail _ h => cases h⟩))
        have hQ4 := hide hQ4
        refine walk_turn (v := v') (w' := W') rfl rfl rfl (exec_append (v := u4) (y := .slice (some ⟨w3.heap.size, 0, none⟩) 1 1) 25 (.tmp 9) (.tmp 32) rfl rfl rfl r4) (unhide hD4) ?_
        try go_simp
        refine walk_read (v := v') rfl rfl rfl (fun u hS => by go_simp) ?_
        try go_simp
        refine walk_end ?_
        clear r4 hG4 D3 D4 Q3 Q4 z3 hQ hD
        go_wp2
        go_roundw
        case rel => exact ⟨5, by omega, by go_num, hide (cellsN_snoc 4 (boxQ qx qy qz x y z) ▸ unhide hQ4), hD4⟩
        case measure => simp [intOf]
      · have z0 := hide (show w.heap.size + 1 ≤ wr.drew.heap.size from ((unhide hD).g.at_ _ List.mem_cons_self).lt)
        go_upto_region 6 with fail
        have D0 := hide (unhide hD).drew
        have Q0 := hide (own_below (unhide hQ) (Below.refl _ wr).drew)
        refine region_walk (S := Gd w [(w.heap.size, 27, sh kd rr x y z A n cp)]) (l := [0, 1, 2, 3, 4, 5, 6, 8, 9, 10, 11, 12, 13, 15, 16, 17, 18, 19, 20, 7, 14, 21, 22, 23, 24, 25]) (t := [7, 14, 21, 23, 24]) (by kernel_rfl) (by kernel_rfl) (by kernel_rfl) (by kernel_rfl) (by kernel_rfl) (by kernel_rfl) (by kernel_rfl) (by kernel_rfl) (unhide D0) ?_
        refine walk_read (v := u4) rfl rfl rfl (fun u hS => by go_simp) ?_
        try go_simp
        refine walk_read (v := .func (Fn.func 104) #[] #[]) rfl rfl rfl (fun u hS => by go_simp) ?_
        try go_simp
        refine walk_read (v := .pointer (some ⟨w.heap.size, 2, none⟩)) rfl rfl rfl (fun u hS => by go_simp) ?_
        try go_simp
        refine walk_read (v := .pointer (some ⟨w.heap.size, 2, none⟩)) rfl rfl rfl (fun u hS => by go_simp) ?_
        try go_simp
        refine walk_read (v := .int .i64 x) rfl rfl rfl (fun u hS => exec_loadN_Fix (g := w.heap.size) (t := 27) (cs := sh kd rr x y z A n cp) hS.g _ rfl rfl (by repeat (first | exact List.mem_cons_self | apply List.mem_cons_of_mem)) rfl) ?_
        try go_simp
        refine walk_read (v := .int .i64 5) rfl rfl rfl (fun u hS => by go_simp) ?_
        try go_simp
        refine walk_read (v := .int .i64 1) rfl rfl rfl (fun u hS => exec_andS (v := 1) _ _ (by kernel_rfl) rfl rfl rfl) ?_
        try go_simp
        refine walk_read (v := .func (Fn.func 104) #[] #[]) rfl rfl rfl (fun u hS => by go_simp) ?_
        try go_simp
        refine walk_read (v := .pointer (some ⟨w.heap.size, 2, none⟩)) rfl rfl rfl (fun u hS => by go_simp) ?_
        try go_simp
        refine walk_read (v := .pointer (some ⟨w.heap.size, 3, none⟩)) rfl rfl rfl (fun u hS => by go_simp) ?_
        try go_simp
        refine walk_read (v := .int .i64 y) rfl rfl rfl (fun u hS => exec_loadN_Fix (g := w.heap.size) (t := 27) (cs := sh kd rr x y z A n cp) hS.g _ rfl rfl (by repeat (first | exact List.mem_cons_self | apply List.mem_cons_of_mem)) rfl) ?_
        try go_simp
        refine walk_read (v := .int .i64 5) rfl rfl rfl (fun u hS => by go_simp) ?_
        try go_simp
        refine walk_read (v := .int .i64 0) rfl rfl rfl (fun u hS => exec_andS (v := 0) _ _ (by kernel_rfl) rfl rfl rfl) ?_
        try go_simp
        refine walk_read (v := .func (Fn.func 104) #[] #[]) rfl rfl rfl (fun u hS => by go_simp) ?_
        try go_simp
        refine walk_read (v := .pointer (some ⟨w.heap.size, 2, none⟩)) rfl rfl rfl (fun u hS => by go_simp) ?_
        try go_simp
        refine walk_read (v := .pointer (some ⟨w.heap.size, 4, none⟩)) rfl rfl rfl (fun u hS => by go_simp) ?_
        try go_simp
        refine walk_read (v := .int .i64 z) rfl rfl rfl (fun u hS => exec_loadN_Fix (g := w.heap.size) (t := 27) (cs := sh kd rr x y z A n cp) hS.g _ rfl rfl (by repeat (first | exact List.mem_cons_self | apply List.mem_cons_of_mem)) rfl) ?_
        try go_simp
        refine walk_read (v := .int .i64 5) rfl rfl rfl (fun u hS => by go_simp) ?_
        try go_simp
        refine walk_read (v := .int .i64 4) rfl rfl rfl (fun u hS => exec_andS (v := 4) _ _ (by kernel_rfl) rfl rfl rfl) ?_
        try go_simp
        refine walk_call (f := 104) (args := #[.int .i64 x, .int .i64 1]) rfl rfl rfl (by go_simp) ?_
        refine (unhide hx 1 _).mono fun e w1 ⟨he, hb⟩ => ?_
        have D1 := hide ((unhide D0).keep hb)
        have Q1 := hide (own_below (unhide Q0) hb)
        have z1 := hide (Nat.le_trans (unhide z0) hb.size)
        refine ⟨.int .i64 x, he, unhide D1, ?_⟩
        clear he hb D0 Q0 z0
        try go_simp
        refine walk_call (f := 104) (args := #[.int .i64 y, .int .i64 0]) rfl rfl rfl (by go_simp) ?_
        refine (unhide hy 0 _).mono fun e w2 ⟨he, hb⟩ => ?_
        have D2 := hide ((unhide D1).keep hb)
        have Q2 := hide (own_below (unhide Q1) hb)
        have z2 := hide (Nat.le_trans (unhide z1) hb.size)
        refine ⟨.int .i64 qy, he, unhide D2, ?_⟩
        clear he hb D1 Q1 z1
        try go_simp
        refine walk_call (f := 104) (args := #[.int .i64 z, .int .i64 4]) rfl rfl rfl (by go_simp) ?_
        refine (unhide hz 4 _).mono fun e w3 ⟨he, hb⟩ => ?_
        have D3 := hide ((unhide D2).keep hb)
        have Q3 := hide (own_below (unhide Q2) hb)
        have z3 := hide (Nat.le_trans (unhide z2) hb.size)
        refine ⟨.int .i64 z, he, unhide D3, ?_⟩
        clear he hb D2 Q2 z2
        try go_simp
        refine walk_read (v := .agg (v3 x qy z)) rfl rfl rfl (fun u hS => by go_simp) ?_
        try go_simp
        have D4 := hide ((unhide D3).push 24 (bsC1 x qy z))
        have Q4 := hide ((unhide Q3).alloc (.cells (bsC1 x qy z) 24))
        refine walk_turn (v := .slice (some ⟨w3.heap.size, 0, none⟩) 1 1) (w' := w3.alloc (.cells (bsC1 x qy z) 24)) rfl rfl rfl (exec_bs1Vec w3 (.tmp 31) rfl rfl) (unhide D4).tail ?_
        try go_simp
        obtain ⟨v', W', r4, hQ4, hG4⟩ := app_vec (w3.alloc (.cells (bsC1 x qy z) 24)) (w.heap.size + 1) 25 u4 5 _ w3.heap.size x qy z (unhide Q4) ((unhide D4).g.blk (g := w3.heap.size) (t := 24) (cs := bsC1 x qy z) (by repeat (first | exact List.mem_cons_self | apply List.mem_cons_of_mem))) (by decide) (by have := unhide z3; simp only [szA]; omega)
        have hD4 := hide ((unhide D4).tail.grownOver (unhide D4).tail.again hG4 (fun q e => ⟨by have := ((unhide Q4).lt q e).1; omega, fun p hp => by cases hp with | head => (have := ((unhide Q4).lt q e).1; show w.heap.size ≠ q; omega) | tail _ h => cases h⟩))
        have hQ4 := hide hQ4
        refine walk_turn (v := v') (w' := W') rfl rfl rfl (exec_append (v := u4) (y := .slice (some ⟨w3.heap.size, 0, none⟩) 1 1) 25 (.tmp 9) (.tmp 32) rfl rfl rfl r4) (unhide hD4) ?_
        try go_simp
        refine walk_read (v := v') rfl rfl rfl (fun u hS => by go_simp) ?_
        try go_simp
        refine walk_end ?_
        clear r4 hG4 D3 D4 Q3 Q4 z3 hQ hD
        go_wp2
        go_roundw
        case rel => exact ⟨6, by omega, by go_num, hide (cellsN_snoc 5 (boxQ qx qy qz x y z) ▸ unhide hQ4), hD4⟩
        case measure => simp [intOf]
      · have z0 := hide (show w.heap.size + 1 ≤ wr.drew.heap.size from ((unhide hD).g.at_ _ List.mem_cons_self).lt)
        go_upto_region 6 with fail
        have D0 := hide (unhide hD).drew
        have Q0 := hide (own_below (unhide hQ) (Below.refl _ wr).drew)
        refine region_walk (S := Gd w [(w.heap.size, 27, sh kd rr x y z A n cp)]) (l := [0, 1, 2, 3, 4, 5, 6, 8, 9, 10, 11, 12, 13, 15, 16, 17, 18, 19, 20, 7, 14, 21, 22, 23, 24, 25]) (t := [7, 14, 21, 23, 24]) (by kernel_rfl) (by kernel_rfl) (by kernel_rfl) (by kernel_rfl) (by kernel_rfl) (by kernel_rfl) (by kernel_rfl) (by kernel_rfl) (unhide D0) ?_
        refine walk_read (v := u4) rfl rfl rfl (fun u hS => by go_simp) ?_
        try go_simp
        refine walk_read (v := .func (Fn.func 104) #[] #[]) rfl rfl rfl (fun u hS => by go_simp) ?_
        try go_simp
        refine walk_read (v := .pointer (some ⟨w.heap.size, 2, none⟩)) rfl rfl rfl (fun u hS => by go_simp) ?_
        try go_simp
        refine walk_read (v := .pointer (some ⟨w.heap.size, 2, none⟩)) rfl rfl rfl (fun u hS => by go_simp) ?_
        try go_simp
        refine walk_read (v := .int .i64 x) rfl rfl rfl (fun u hS => exec_loadN_Fix (g := w.heap.size) (t := 27) (cs := sh kd rr x y z A n cp) hS.g _ rfl rfl (by repeat (first | exact List.mem_cons_self | apply List.mem_cons_of_mem)) rfl) ?_
        try go_simp
        refine walk_read (v := .int .i64 6) rfl rfl rfl (fun u hS => by go_simp) ?_
        try go_simp
        refine walk_read (v := .int .i64 0) rfl rfl rfl (fun u hS => exec_andS (v := 0) _ _ (by kernel_rfl) rfl rfl rfl) ?_
        try go_simp
        refine walk_read (v := .func (Fn.func 104) #[] #[]) rfl rfl rfl (fun u hS => by go_simp) ?_
        try go_simp
        refine walk_read (v := .pointer (some ⟨w.heap.size, 2, none⟩)) rfl rfl rfl (fun u hS => by go_simp) ?_
        try go_simp
        refine walk_read (v := .pointer (some ⟨w.heap.size, 3, none⟩)) rfl rfl rfl (fun u hS => by go_simp) ?_
        try go_simp
        refine walk_read (v := .int .i64 y) rfl rfl rfl (fun u hS => exec_loadN_Fix (g := w.heap.size) (t := 27) (cs := sh kd rr x y z A n cp) hS.g _ rfl rfl (by repeat (first | exact List.mem_cons_self | apply List.mem_cons_of_mem)) rfl) ?_
        try go_simp
        refine walk_read (v := .int .i64 6) rfl rfl rfl (fun u hS => by go_simp) ?_
        try go_simp
        refine walk_read (v := .int .i64 2) rfl rfl rfl (fun u hS => exec_andS (v := 2) _ _ (by kernel_rfl) rfl rfl rfl) ?_
        try go_simp
        refine walk_read (v := .func (Fn.func 104) #[] #[]) rfl rfl rfl (fun u hS => by go_simp) ?_
        try go_simp
        refine walk_read (v := .pointer (some ⟨w.heap.size, 2, none⟩)) rfl rfl rfl (fun u hS => by go_simp) ?_
        try go_simp
        refine walk_read (v := .pointer (some ⟨w.heap.size, 4, none⟩)) rfl rfl rfl (fun u hS => by go_simp) ?_
        try go_simp
        refine walk_read (v := .int .i64 z) rfl rfl rfl (fun u hS => exec_loadN_Fix (g := w.heap.size) (t := 27) (cs := sh kd rr x y z A n cp) hS.g _ rfl rfl (by repeat (first | exact List.mem_cons_self | apply List.mem_cons_of_mem)) rfl) ?_
        try go_simp
        refine walk_read (v := .int .i64 6) rfl rfl rfl (fun u hS => by go_simp) ?_
        try go_simp
        refine walk_read (v := .int .i64 4) rfl rfl rfl (fun u hS => exec_andS (v := 4) _ _ (by kernel_rfl) rfl rfl rfl) ?_
        try go_simp
        refine walk_call (f := 104) (args := #[.int .i64 x, .int .i64 0]) rfl rfl rfl (by go_simp) ?_
        refine (unhide hx 0 _).mono fun e w1 ⟨he, hb⟩ => ?_
        have D1 := hide ((unhide D0).keep hb)
        have Q1 := hide (own_below (unhide Q0) hb)
        have z1 := hide (Nat.le_trans (unhide z0) hb.size)
        refine ⟨.int .i64 qx, he, unhide D1, ?_⟩
        clear he hb D0 Q0 z0
        try go_simp
        refine walk_call (f := 104) (args := #[.int .i64 y, .int .i64 2]) rfl rfl rfl (by go_simp) ?_
        refine (unhide hy 2 _).mono fun e w2 ⟨he, hb⟩ => ?_
        have D2 := hide ((unhide D1).keep hb)
        have Q2 := hide (own_below (unhide Q1) hb)
        have z2 := hide (Nat.le_trans (unhide z1) hb.size)
        refine ⟨.int .i64 y, he, unhide D2, ?_⟩
        clear he hb D1 Q1 z1
        try go_simp
        refine walk_call (f := 104) (args := #[.int .i64 z, .int .i64 4]) rfl rfl rfl (by go_simp) ?_
        refine (unhide hz 4 _).mono fun e w3 ⟨he, hb⟩ => ?_
        have D3 := hide ((unhide D2).keep hb)
        have Q3 := hide (own_below (unhide Q2) hb)
        have z3 := hide (Nat.le_trans (unhide z2) hb.size)
        refine ⟨.int .i64 z, he, unhide D3, ?_⟩
        clear he hb D2 Q2 z2
        try go_simp
        refine walk_read (v := .agg (v3 qx y z)) rfl rfl rfl (fun u hS => by go_simp) ?_
        try go_simp
        have D4 := hide ((unhide D3).push 24 (bsC1 qx y z))
        have Q4 := hide ((unhide Q3).alloc (.cells (bsC1 qx y z) 24))
        refine walk_turn (v := .slice (some ⟨w3.heap.size, 0, none⟩) 1 1) (w' := w3.alloc (.cells (bsC1 qx y z) 24)) rfl rfl rfl (exec_bs1Vec w3 (.tmp 31) rfl rfl) (unhide D4).tail ?_
        try go_simp
        obtain ⟨v', W', r4, hQ4, hG4⟩ := app_vec (w3.alloc (.cells (bsC1 qx y z) 24)) (w.heap.size + 1) 25 u4 6 _ w3.heap.size qx y z (unhide Q4) ((unhide D4).g.blk (g := w3.heap.size) (t := 24) (cs := bsC1 qx y z) (by repeat (first | exact List.mem_cons_self | apply List.mem_cons_of_mem))) (by decide) (by have := unhide z3; simp only [szA]; omega)
        have hD4 := hide ((unhide D4).tail.grownOver (unhide D4).tail.again hG4 (fun q e => ⟨by have := ((unhide Q4).lt q e).1; omega, fun p hp => by cases hp with | head => (have := ((unhide Q4).lt q e).1; show w.heap.size ≠ q; omega) | tail _ h => cases h⟩))
        have hQ4 := hide hQ4
        refine walk_turn (v := v') (w' := W') rfl rfl rfl (exec_append (v := u4) (y := .slice (some ⟨w3.heap.size, 0, none⟩) 1 1) 25 (.tmp 9) (.tmp 32) rfl rfl rfl r4) (unhide hD4) ?_
        try go_simp
        refine walk_read (v := v') rfl rfl rfl (fun u hS => by go_simp) ?_
        try go_simp
        refine walk_end ?_
        clear r4 hG4 D3 D4 Q3 Q4 z3 hQ hD
        go_wp2
        go_roundw
        case rel => exact ⟨7, by omega, by go_num, hide (cellsN_snoc 6 (boxQ qx qy qz x y z) ▸ unhide hQ4), hD4⟩
        case measure => simp [intOf]
      · have z0 := hide (show w.heap.size + 1 ≤ wr.drew.heap.size from ((unhide hD).g.at_ _ List.mem_cons_self).lt)
        go_upto_region 6 with fail
        have D0 := hide (unhide hD).drew
        have Q0 := hide (own_below (unhide hQ) (Below.refl _ wr).drew)
        refine region_walk (S := Gd w [(w.heap.size, 27, sh kd rr x y z A n cp)]) (l := [0, 1, 2, 3, 4, 5, 6, 8, 9, 10, 11, 12, 13, 15, 16, 17, 18, 19, 20, 7, 14, 21, 22, 23, 24, 25]) (t := [7, 14, 21, 23, 24]) (by kernel_rfl) (by kernel_rfl) (by kernel_rfl) (by kernel_rfl) (by kernel_rfl) (by kernel_rfl) (by kernel_rfl) (by kernel_rfl) (unhide D0) ?_
        refine walk_read (v := u4) rfl rfl rfl (fun u hS => by go_simp) ?_
        try go_simp
        refine walk_read (v := .func (Fn.func 104) #[] #[]) rfl rfl rfl (fun u hS => by go_simp) ?_
        try go_simp
        refine walk_read (v := .pointer (some ⟨w.heap.size, 2, none⟩)) rfl rfl rfl (fun u hS => by go_simp) ?_
        try go_simp
        refine walk_read (v := .pointer (some ⟨w.heap.size, 2, none⟩)) rfl rfl rfl (fun u hS => by go_simp) ?_
        try go_simp
        refine walk_read (v := .int .i64 x) rfl rfl rfl (fun u hS => exec_loadN_Fix (g := w.heap.size) (t := 27) (cs := sh kd rr x y z A n cp) hS.g _ rfl rfl (by repeat (first | exact List.mem_cons_self | apply List.mem_cons_of_mem)) rfl) ?_
        try go_simp
        refine walk_read (v := .int .i64 7) rfl rfl rfl (fun u hS => by go_simp) ?_
        try go_simp
        refine walk_read (v := .int .i64 1) rfl rfl rfl (fun u hS => exec_andS (v := 1) _ _ (by kernel_rfl) rfl rfl rfl) ?_
        try go_simp
        refine walk_read (v := .func (Fn.func 104) #[] #[]) rfl rfl rfl (fun u hS => by go_simp) ?_
        try go_simp
        refine walk_read (v := .pointer (some ⟨w.heap.size, 2, none⟩)) rfl rfl rfl (fun u hS => by go_simp) ?_
        try go_simp
        refine walk_read (v := .pointer (some ⟨w.heap.size, 3, none⟩)) rfl rfl rfl (fun u hS => by go_simp) ?_
        try go_simp
        refine walk_read (v := .int .i64 y) rfl rfl rfl (fun u hS => exec_loadN_Fix (g := w.heap.size) (t := 27) (cs := sh kd rr x y z A n cp) hS.g _ rfl rfl (by repeat (first | exact List.mem_cons_self | apply List.mem_cons_of_mem)) rfl) ?_
        try go_simp
        refine walk_read (v := .int .i64 7) rfl rfl rfl (fun u hS => by go_simp) ?_
        try go_simp
        refine walk_read (v := .int .i64 2) rfl rfl rfl (fun u hS => exec_andS (v := 2) _ _ (by kernel_rfl) rfl rfl rfl) ?_
        try go_simp
        refine walk_read (v := .func (Fn.func 104) #[] #[]) rfl rfl rfl (fun u hS => by go_simp) ?_
        try go_simp
        refine walk_read (v := .pointer (some ⟨w.heap.size, 2, none⟩)) rfl rfl rfl (fun u hS => by go_simp) ?_
        try go_simp
        refine walk_read (v := .pointer (some ⟨w.heap.size, 4, none⟩)) rfl rfl rfl (fun u hS => by go_simp) ?_
        try go_simp
        refine walk_read (v := .int .i64 z) rfl rfl rfl (fun u hS => exec_loadN_Fix (g := w.heap.size) (t := 27) (cs := sh kd rr x y z A n cp) hS.g _ rfl rfl (by repeat (first | exact List.mem_cons_self | apply List.mem_cons_of_mem)) rfl) ?_
        try go_simp
        refine walk_read (v := .int .i64 7) rfl rfl rfl (fun u hS => by go_simp) ?_
        try go_simp
        refine walk_read (v := .int .i64 4) rfl rfl rfl (fun u hS => exec_andS (v := 4) _ _ (by kernel_rfl) rfl rfl rfl) ?_
        try go_simp
        refine walk_call (f := 104) (args := #[.int .i64 x, .int .i64 1]) rfl rfl rfl (by go_simp) ?_
        refine (unhide hx 1 _).mono fun e w1 ⟨he, hb⟩ => ?_
        have D1 := hide ((unhide D0).keep hb)
        have Q1 := hide (own_below (unhide Q0) hb)
        have z1 := hide (Nat.le_trans (unhide z0) hb.size)
        refine ⟨.int .i64 x, he, unhide D1, ?_⟩
        clear he hb D0 Q0 z0
        try go_simp
        refine walk_call (f := 104) (args := #[.int .i64 y, .int .i64 2]) rfl rfl rfl (by go_simp) ?_
        refine (unhide hy 2 _).mono fun e w2 ⟨he, hb⟩ => ?_
        have D2 := hide ((unhide D1).keep hb)
        have Q2 := hide (own_below (unhide Q1) hb)
        have z2 := hide (Nat.le_trans (unhide z1) hb.size)
        refine ⟨.int .i64 y, he, unhide D2, ?_⟩
        clear he hb D1 Q1 z1
        try go_simp
        refine walk_call (f := 104) (args := #[.int .i64 z, .int .i64 4]) rfl rfl rfl (by go_simp) ?_
        refine (unhide hz 4 _).mono fun e w3 ⟨he, hb⟩ => ?_
        have D3 := hide ((unhide D2).keep hb)
        have Q3 := hide (own_below (unhide Q2) hb)
        have z3 := hide (Nat.le_trans (unhide z2) hb.size)
        refine ⟨.int .i64 z, he, unhide D3, ?_⟩
        clear he hb D2 Q2 z2
        try go_simp
        refine walk_read (v := .agg (v3 x y z)) rfl rfl rfl (fun u hS => by go_simp) ?_
        try go_simp
        have D4 := hide ((unhide D3).push 24 (bsC1 x y z))
        have Q4 := hide ((unhide Q3).alloc (.cells (bsC1 x y z) 24))
        refine walk_turn (v := .slice (some ⟨w3.heap.size, 0, none⟩) 1 1) (w' := w3.alloc (.cells (bsC1 x y z) 24)) rfl rfl rfl (exec_bs1Vec w3 (.tmp 31) rfl rfl) (unhide D4).tail ?_
        try go_simp
        obtain ⟨v', W', r4, hQ4, hG4⟩ := app_vec (w3.alloc (.cells (bsC1 x y z) 24)) (w.heap.size + 1) 25 u4 7 _ w3.heap.size x y z (unhide Q4) ((unhide D4).g.blk (g := w3.heap.size) (t := 24) (cs := bsC1 x y z) (by repeat (first | exact List.mem_cons_self | apply List.mem_cons_of_mem))) (by decide) (by have := unhide z3; simp only [szA]; omega)
        have hD4 := hide ((unhide D4).tail.grownOver (unhide D4).tail.again hG4 (fun q e => ⟨by have := ((unhide Q4).lt q e).1; omega, fun p hp => by cases hp with | head => (have := ((unhide Q4).lt q e).1; show w.heap.size ≠ q; omega) | tail _ h => cases h⟩))
        have hQ4 := hide hQ4
        refine walk_turn (v := v') (w' := W') rfl rfl rfl (exec_append (v := u4) (y := .slice (some ⟨w3.heap.size, 0, none⟩) 1 1) 25 (.tmp 9) (.tmp 32) rfl rfl rfl r4) (unhide hD4) ?_
        try go_simp
        refine walk_read (v := v') rfl rfl rfl (fun u hS => by go_simp) ?_
        try go_simp
        refine walk_end ?_
        clear r4 hG4 D3 D4 Q3 Q4 z3 hQ hD
        go_wp2
        go_roundw
        case rel => exact ⟨8, by omega, by go_num, hide (cellsN_snoc 7 (boxQ qx qy qz x y z) ▸ unhide hQ4), hD4⟩
        case measure => simp [intOf]
    · obtain rfl : k = 8 := by omega
      have D := hide (Gen.start wr)
      go_wp2
      go_ret
      exact ⟨⟨_, rfl, own_base (unhide hQ) (by omega)⟩, (unhide hD).g.o⟩

end Go.Proofs.YtnemedgdhojhdaaGreat

namespace Go.Proofs.YtnemedgdhojhdaaGreat
open Go.RowKit
set_option maxRecDepth 4000
set_option linter.unusedVariables false

theorem bs1Pt (x y z : Int) (w : World) : (Instr.buildSlice 62 1 #[(0, .agg (v3 x y z))]).run Tryz.prog w = .ok (.slice (some ⟨w.heap.size, 0, none⟩) 1 1) (w.alloc (.cells (bsC1 x y z) 64)) := by kernel_rfl
theorem exec_bs1Point {o : Oper} {ac : Act} (w : World) (p : Operand) {x y z : Int} (ho : o.op = .buildSlice 62 1 #[(0, p)]) (hp : ac.eval p = .agg (v3 x y z)) :
    (execOp ac.eval o).run Tryz.prog w = .ok (.value (.slice (some ⟨w.heap.size, 0, none⟩) 1 1)) (w.alloc (.cells (bsC1 x y z) 64)) := by
  unfold execOp
  have e : (#[(0, p)].map fun (i, x) => (i, ac.eval x)) = #[(0, .agg (v3 x y z))] := by simp [hp]
  simp only [ho, Sem.run_bind, e, bs1Pt, Result.andThen_ok, Sem.run_pure]
theorem RoundY (x y z : Int) (hx : I64 x) (hy : I64 y) (hz : I64 z) (hc : chkP (near x) (near y) (near z) = true) : Ans 71 #[.agg (v3 x y z)] (.tuple #[.agg (v3 (near x) (near y) (near z)), .int .i64 0]) := by
  have h := RoundZ x y z hx hy hz
  rw [if_pos hc] at h
  exact h
/-- Points on the grid. -/
def nearP (ps : Nat → Pt) (i : Nat) : Pt := (near (ps i).1, near (ps i).2.1, near (ps i).2.2)
set_option maxHeartbeats 8000000 in
theorem isFlat_core (A : Option Addr) (n cp : Nat) (ps : Nat → Pt) (r e : Int) (w : World) (hn : n ≤ 400) (hP : Hid (PRow w A n ps)) (hR : Hid (∀ i, i < n → Ans 71 #[.agg (v3 (ps i).1 (ps i).2.1 (ps i).2.2)] (.tuple #[.agg (v3 (near (ps i).1) (near (ps i).2.1) (near (ps i).2.2)), .int .i64 0])))
    (hK : Hid (∀ u B cB, PRow u B n (nearP ps) → Calls Tryz.prog 72 #[.slice B n cB] u fun x w' => x = .returned (.tuple #[.int .i64 r, .int .i64 e]) ∧ Below u.heap.size u w')) (t : Bool) (ht : Hid (decide (r < 3) = t)) :
    Calls Tryz.prog 37 #[.slice A n cp] w fun x w' => x = .returned (.bool t) ∧ Below w.heap.size w w' := by
  go_enter Tryz.func37, Tryz.ntmps37
  go_wp2
  go_loopw [3, 12] (fun vs i wr => ∃ k : Nat, k ≤ n ∧ i = .int .i64 k ∧ Hid (wr.ownsRow w.heap.size 64 3 vs k (cellsN k (nearP ps))) ∧ Hid (Below w.heap.size w wr)) (fun _ i _ => n - (intOf i).toNat)
  case atStart => exact ⟨0, Nat.zero_le _, rfl, World.ownsRow_nil _ _ _ _, Below.refl _ _⟩
  case round =>
    obtain ⟨k, hk, rfl, hQ, hB⟩ := hrel
    by_cases hkn : k < n
    · obtain ⟨g0, off0, rfl, hg0, hr0⟩ := (unhide hP).resolve_left (by omega)
      have hpt := hide (at_below (hr0 k hkn) (unhide hB) hg0)
      have hlt := hide (Nat.lt_of_lt_of_le hg0 (unhide hB).size)
      clear hr0 hg0
      go_upto_region 4 with fail
      have D := hide (Gd.start wr)
      refine list_start (S := Gd wr []) (unhide D) ?_
      clear D
      refine list_read (v := .pointer (some ⟨g0, off0 + k * 3, none⟩)) rfl rfl (fun u hS => exec_ixV u (.tmp 10) (.tmp 12) hkn rfl rfl rfl) ?_
      try go_simp
      refine list_read (v := .agg (v3 ((ps k).1) ((ps k).2.1) ((ps k).2.2))) rfl rfl (fun u hS => exec_ldV (.tmp 14) rfl rfl (at_below (unhide hpt) hS.g.o (unhide hlt))) ?_
      try go_simp
      refine list_new (z := v3 0 0 0) (ty := 24) (v := fun g => .pointer (some ⟨g, 0, none⟩)) rfl rfl (fun u => by go_simp) (fun g1 hgg1 => ?_)
      try go_simp
      refine list_store (l1 := []) (l2 := []) (l' := [(g1, 24, v3 ((ps k).1) ((ps k).2.1) ((ps k).2.2))]) (g := g1) (old := v3 0 0 0) (cs := v3 ((ps k).1) ((ps k).2.1) ((ps k).2.2)) (.tmp 5) (.tmp 15) rfl rfl rfl rfl rfl rfl rVec rfl rfl (v3_one _ _ _) hgg1 ?_
      try go_simp
      refine list_end (fun u4 hS => ?_)
      have D := hide hS
      clear hS
      go_upto_region 5 with fail
      refine list_start (S := Gd wr [(g1, 24, v3 ((ps k).1) ((ps k).2.1) ((ps k).2.2))]) (unhide D) ?_
      clear D
      refine list_read (v := .agg (v3 ((ps k).1) ((ps k).2.1) ((ps k).2.2))) rfl rfl (fun u hS => exec_loadG (g := g1) (t := 24) (cs := v3 ((ps k).1) ((ps k).2.1) ((ps k).2.2)) hS.g rVec _ rfl rfl (by repeat (first | exact List.mem_cons_self | apply List.mem_cons_of_mem)) rfl) ?_
      try go_simp
      refine list_call (v := .tuple #[.agg (v3 (near (ps k).1) (near (ps k).2.1) (near (ps k).2.2)), .int .i64 0]) (f := 71) (args := #[.agg (v3 ((ps k).1) ((ps k).2.1) ((ps k).2.2))]) rfl rfl (fun u hS => by go_simp) (fun u hS => (unhide hR k hkn u).mono fun _ _ ⟨he, hb⟩ => ⟨he, hS.keep hb⟩) ?_
      try go_simp
      refine list_read (v := .tuple #[.agg (v3 (near (ps k).1) (near (ps k).2.1) (near (ps k).2.2)), .int .i64 0]) rfl rfl (fun u hS => by go_simp) ?_
      try go_simp
      refine list_read (v := .agg (v3 (near (ps k).1) (near (ps k).2.1) (near (ps k).2.2))) rfl rfl (fun u hS => by go_simp) ?_
      try go_simp
      refine list_read (v := .int .i64 0) rfl rfl (fun u hS => by go_simp) ?_
      try go_simp
      refine list_new (z := v3 0 0 0) (ty := 64) (v := fun g => .pointer (some ⟨g, 0, none⟩)) rfl rfl (fun u => by go_simp) (fun g2 hgg2 => ?_)
      try go_simp
      refine list_store (l1 := []) (l2 := [(g1, 24, v3 ((ps k).1) ((ps k).2.1) ((ps k).2.2))]) (l' := [(g2, 64, v3 (near (ps k).1) (near (ps k).2.1) (near (ps k).2.2)), (g1, 24, v3 ((ps k).1) ((ps k).2.1) ((ps k).2.2))]) (g := g2) (old := v3 0 0 0) (cs := v3 (near (ps k).1) (near (ps k).2.1) (near (ps k).2.2)) (.tmp 6) (.tmp 19) rfl rfl rfl rfl rfl rfl rPoint rfl rfl (v3_one' _ _ _) hgg2 ?_
      try go_simp
      refine list_read (v := .int .i64 0) rfl rfl (fun u hS => by go_simp) ?_
      try go_simp
      refine list_end (fun u5 hS => ?_)
      have D := hide hS
      clear hS
      go_upto_region 6 with fail
      refine list_start (S := Gd wr [(g2, 64, v3 (near (ps k).1) (near (ps k).2.1) (near (ps k).2.2)), (g1, 24, v3 ((ps k).1) ((ps k).2.1) ((ps k).2.2))]) (unhide D) ?_
      clear D
      refine list_read (v := u3) rfl rfl (fun u hS => by go_simp) ?_
      try go_simp
      refine list_read (v := .agg (v3 (near (ps k).1) (near (ps k).2.1) (near (ps k).2.2))) rfl rfl (fun u hS => exec_loadG (g := g2) (t := 64) (cs := v3 (near (ps k).1) (near (ps k).2.1) (near (ps k).2.2)) hS.g rPoint _ rfl rfl (by repeat (first | exact List.mem_cons_self | apply List.mem_cons_of_mem)) rfl) ?_
      try go_simp
      refine list_new (z := bsC1 (near (ps k).1) (near (ps k).2.1) (near (ps k).2.2)) (ty := 64) (v := fun g => .slice (some ⟨g, 0, none⟩) 1 1) rfl rfl (fun u => exec_bs1Point u (.tmp 22) rfl rfl) (fun g3 hgg3 => ?_)
      try go_simp
      intro u hS
      obtain ⟨v', W', r4, hQ4, hG4⟩ := app_ptS u w.heap.size 62 u3 k _ g3 (near (ps k).1) (near (ps k).2.1) (near (ps k).2.2) (own_below (unhide hQ) hS.g.o) (hS.g.blk (g := g3) (t := 64) (cs := bsC1 (near (ps k).1) (near (ps k).2.1) (near (ps k).2.2)) (by repeat (first | exact List.mem_cons_self | apply List.mem_cons_of_mem))) (by omega) (Nat.le_trans (unhide hB).size hS.g.o.size)
      have hB4 := hide ((((unhide hB).trans (hS.g.o.mono (unhide hB).size))).grown hG4 (Nat.le_trans (unhide hB).size hS.g.o.size) (fun q e => ((unhide hQ).lt q e).1))
      have hQ4 := hide hQ4
      clear hS hG4
      refine list_turn (v := v') rfl (exec_append (v := u3) (y := .slice (some ⟨g3, 0, none⟩) 1 1) 62 (.tmp 21) (.tmp 23) rfl rfl rfl r4) ?_
      try go_simp
      refine list_turn (w' := W') (v := v') rfl (by go_simp) ?_
      try go_simp
      refine wpL_fin ?_
      clear r4 hQ hB hpt hlt
      go_wp2
      go_roundw
      case rel => exact ⟨k + 1, by omega, by go_num, hide (cellsN_snoc k (nearP ps) ▸ unhide hQ4), hB4⟩
      case measure => simp [intOf]; omega
    · obtain rfl : k = n := by omega
      obtain ⟨B, cB, rfl, hPB⟩ := own_prow (unhide hQ)
      have hPB := hide hPB
      clear hQ
      have D := hide (Gen.start wr)
      go_upto_region 8 with fail
      go_wp2_with (first | (go_at_call 72; with_reducible refine (unhide hK _ _ _ ((unhide hPB).below (unhide D).o)).mono ?_; rintro e w' ⟨he, hb⟩; subst he; have D := hide ((unhide D).keep hb); clear hb) | (with_reducible refine at_list ?_;  refine lssZ _ _ (unhide ht) rfl rfl rfl rfl ?_))
      go_ret
      exact ⟨rfl, (unhide hB).trans ((unhide D).o.mono (unhide hB).size)⟩

end Go.Proofs.YtnemedgdhojhdaaGreat
