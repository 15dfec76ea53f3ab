/- Arrays of wide numbers in blocks. Package quat: numbers, raw, part.added. Package quat: part.added. Package quat: product. Package quat: product over integers; Mul. -/
import Derived.Test.YtikmjfepflaokaaDoorVn
namespace Go.Proofs.YtikmjfepflaokaaDoor
open Go.RowKit
set_option maxRecDepth 4000
set_option linter.unusedVariables false

/-- The cells of some numbers, one behind the other. -/
def wsL : List Nat → List Value
  | [] => []
  | n :: r => (cells8 n).toList ++ wsL r
def ws (l : List Nat) : Array Value := (wsL l).toArray
theorem cells8_len (n : Nat) : (cells8 n).toList.length = 8 := rfl
theorem wsL_len : ∀ l : List Nat, (wsL l).length = 8 * l.length
  | [] => rfl
  | n :: r => by
    show ((cells8 n).toList ++ wsL r).length = _
    rw [List.length_append, cells8_len, wsL_len r, List.length_cons]
    omega
theorem ws_size (l : List Nat) : (ws l).size = 8 * l.length := by
  show (wsL l).toArray.size = _
  rw [List.size_toArray, wsL_len]
theorem wsL_at : ∀ (l : List Nat) (k n j : Nat), l[k]? = some n → j < 8 → (wsL l)[k * 8 + j]? = (cells8 n).toList[j]?
  | [], _, _, _, h, _ => by simp at h
  | m :: r, 0, n, j, h, hj => by
    simp at h
    subst h
    show ((cells8 m).toList ++ wsL r)[0 * 8 + j]? = _
    rw [Nat.zero_mul, Nat.zero_add, List.getElem?_append_left (by rw [cells8_len]; exact hj)]
  | m :: r, k + 1, n, j, h, hj => by
    have ih := wsL_at r k n j (by simpa using h) hj
    show ((cells8 m).toList ++ wsL r)[(k + 1) * 8 + j]? = _
    rw [List.getElem?_append_right (by rw [cells8_len]; omega), cells8_len, show (k + 1) * 8 + j - 8 = k * 8 + j by omega]
    exact ih
theorem ws_range {w : World} {p : Nat} {t : TypeId} {l : List Nat} (hB : Blk w p t (ws l)) {k n : Nat} (h : l[k]? = some n) : w.rangeAt p (k * 8) (cells8 n).toList := by
  intro j v hv
  have hj : j < 8 := by have := (List.getElem?_eq_some_iff.1 hv).1; rwa [cells8_len] at this
  rw [hB.cell]
  show (wsL l).toArray[k * 8 + j]? = _
  rw [List.getElem?_toArray, wsL_at l k n j h hj]
  exact hv

/-- Cells from o on, others in their places. -/
def putC (cs : Array Value) : Nat → List Value → Array Value
  | _, [] => cs
  | o, v :: r => putC (cs.setIfInBounds o v) (o + 1) r
theorem putC_size : ∀ (vs : List Value) (o : Nat) (cs : Array Value), (putC cs o vs).size = cs.size
  | [], _, _ => rfl
  | v :: r, o, cs => by
    show (putC (cs.setIfInBounds o v) (o + 1) r).size = _
    rw [putC_size r]
    simp
theorem putC_low : ∀ (vs : List Value) (o j : Nat) (cs : Array Value), j < o → (putC cs o vs)[j]? = cs[j]?
  | [], _, _, _, _ => rfl
  | v :: r, o, j, cs, h => by
    show (putC (cs.setIfInBounds o v) (o + 1) r)[j]? = _
    rw [putC_low r (o + 1) j _ (by omega), Array.getElem?_setIfInBounds_ne (by omega)]
theorem putC_high : ∀ (vs : List Value) (o j : Nat) (cs : Array Value), o + vs.length ≤ j → (putC cs o vs)[j]? = cs[j]?
  | [], _, _, _, _ => rfl
  | v :: r, o, j, cs, h => by
    simp only [List.length_cons] at h
    show (putC (cs.setIfInBounds o v) (o + 1) r)[j]? = _
    rw [putC_high r (o + 1) j _ (by omega), Array.getElem?_setIfInBounds_ne (by omega)]
theorem putC_mid : ∀ (vs : List Value) (o i : Nat) (cs : Array Value), i < vs.length → o + vs.length ≤ cs.size → (putC cs o vs)[o + i]? = vs[i]?
  | [], _, _, _, h, _ => by simp at h
  | v :: r, o, 0, cs, _, hs => by
    simp only [List.length_cons] at hs
    show (putC (cs.setIfInBounds o v) (o + 1) r)[o + 0]? = _
    rw [putC_low r (o + 1) (o + 0) _ (by omega), Nat.add_zero, Array.getElem?_setIfInBounds_self_of_lt (by omega)]
    rfl
  | v :: r, o, i + 1, cs, h, hs => by
    simp only [List.length_cons] at h hs
    show (putC (cs.setIfInBounds o v) (o + 1) r)[o + (i + 1)]? = _
    rw [show o + (i + 1) = o + 1 + i by omega, putC_mid r (o + 1) i _ (by omega) (by simp; omega)]
    rfl
theorem putC_ws (l : List Nat) (k n : Nat) (hk : k < l.length) : putC (ws l) (k * 8) (cells8 n).toList = ws (l.set k n) := by
  apply Array.ext_getElem?
  intro j
  have hsz := ws_size l
  have hsz2 := ws_size (l.set k n)
  rw [List.length_set] at hsz2
  by_cases hj : j < 8 * l.length
  · have hq : j / 8 < l.length := by omega
    have e : j = j / 8 * 8 + j % 8 := by omega
    have hr : j % 8 < 8 := by omega
    have h2 : (ws (l.set k n))[j]? = (cells8 ((l.set k n)[j / 8]'(by rw [List.length_set]; exact hq))).toList[j % 8]? := by
      show (wsL (l.set k n)).toArray[j]? = _
      rw [List.getElem?_toArray]
      conv => lhs; rw [e]
      exact wsL_at _ _ _ _ (List.getElem?_eq_getElem _) hr
    rw [h2]
    by_cases hq2 : j / 8 = k
    · have e2 : j = k * 8 + j % 8 := by omega
      have h3 := putC_mid (cells8 n).toList (k * 8) (j % 8) (ws l) (by rw [cells8_len]; exact hr) (by rw [cells8_len, hsz]; omega)
      rw [← e2] at h3
      rw [h3, List.getElem_set, if_pos hq2.symm]
    · have h3 : (ws l)[j]? = (cells8 (l[j / 8])).toList[j % 8]? := by
        show (wsL l).toArray[j]? = _
        rw [List.getElem?_toArray]
        conv => lhs; rw [e]
        exact wsL_at _ _ _ _ (List.getElem?_eq_getElem _) hr
      rw [List.getElem_set, if_neg (fun h => hq2 h.symm), ← h3]
      rcases Nat.lt_or_ge j (k * 8) with g | g
      · exact putC_low _ _ _ _ g
      · exact putC_high _ _ _ _ (by rw [cells8_len]; omega)
  · rw [Array.getElem?_eq_none (by rw [putC_size, hsz]; omega), Array.getElem?_eq_none (by rw [hsz2]; omega)]
theorem Blk.putC {t : TypeId} {g : Nat} : ∀ (vs : List Value) (o : Nat) (cs : Array Value) (w : World), Blk w g t cs → Blk (w.setCells g o vs) g t (putC cs o vs)
  | [], _, _, _, h => h
  | v :: r, o, cs, w, h => Blk.putC r (o + 1) _ _ (h.set o v)
theorem Blk.putOther {t : TypeId} {g b : Nat} {cs : Array Value} (hne : g ≠ b) : ∀ (vs : List Value) (o : Nat) (w : World), Blk w g t cs → Blk (w.setCells b o vs) g t cs
  | [], _, _, h => h
  | v :: r, o, w, h => Blk.putOther hne r (o + 1) _ (h.other ⟨b, o, none⟩ v hne)
theorem below_cells {n b : Nat} {w0 : World} (hb : n ≤ b) : ∀ (vs : List Value) (o : Nat) (w : World), Below n w0 w → Below n w0 (w.setCells b o vs)
  | [], _, _, h => h
  | v :: r, o, w, h => below_cells hb r (o + 1) _ (h.setCell (p := ⟨b, o, none⟩) hb v)
/-- A number into an array that stands first in the list. -/
theorem Gen.setW {w0 w : World} {l : List (Nat × TypeId × Array Value)} {g k n : Nat} {t : TypeId} {ns : List Nat} (d : Gen w0 ((g, t, ws ns) :: l) w) (hk : k < ns.length) (hg : w0.heap.size ≤ g) (hl : ∀ p ∈ l, p.1 ≠ g) : Gen w0 ((g, t, ws (ns.set k n)) :: l) (w.setCells g (k * 8) (cells8 n).toList) := by
  refine ⟨fun p hp => ?_, below_cells hg _ _ _ d.o⟩
  rcases List.mem_cons.1 hp with e | hp
  · subst e
    have h := Blk.putC (cells8 n).toList (k * 8) _ _ (d.at_ _ List.mem_cons_self)
    rwa [putC_ws ns k n hk] at h
  · exact Blk.putOther (hl p hp) _ _ _ (d.at_ p (List.mem_cons_of_mem _ hp))
theorem ws_there {w : World} {g : Nat} {t : TypeId} {ns : List Nat} (h : Blk w g t (ws ns)) {k : Nat} (hk : k < ns.length) : w.there g (k * 8) 8 := by
  intro j hj
  refine ⟨?_, h.frozen _⟩
  rw [h.cell, Array.getElem?_eq_getElem (by rw [ws_size]; omega)]
  rfl

end Go.Proofs.YtikmjfepflaokaaDoor

namespace Go.Proofs.YtikmjfepflaokaaDoor
open Go.RowKit
set_option maxRecDepth 4000
set_option linter.unusedVariables false

theorem wsL_one : ∀ l : List Nat, (wsL l).all (·.oneCell') = true
  | [] => rfl
  | n :: r => by
    show ((cells8 n).toList ++ wsL r).all (·.oneCell') = true
    rw [List.all_append, wsL_one r, Bool.and_true]
    simpa using cells8_one n
theorem ws_one (l : List Nat) : (ws l).all (·.oneCell') = true := by
  show ((wsL l).toArray).all (·.oneCell') = true
  simpa using wsL_one l
/-- The cells of a quaternion, of a part. -/
abbrev q4 (a b c d : Int) : Array Value := #[.int .i64 a, .int .i64 b, .int .i64 c, .int .i64 d]
theorem q4_one (a b c d : Int) : (q4 a b c d).all (·.oneCell') = true := by simp [Value.oneCell']
theorem rQuat : Rw 24 4 := ⟨⟨_, Tryd.underlying24, rfl⟩, by kernel_rfl⟩
theorem rNum : Rw 56 32 := ⟨⟨_, Tryd.underlying56, rfl⟩, by kernel_rfl⟩
theorem rPart : Rw 86 4 := ⟨⟨_, Tryd.underlying86, rfl⟩, by kernel_rfl⟩
theorem bNum (a b c d : Nat) : Tryd.prog.built 56 [(0, .agg (cells8 a)), (1, .agg (cells8 b)), (2, .agg (cells8 c)), (3, .agg (cells8 d))] = some (ws [a, b, c, d]) := by kernel_rfl
theorem exec_build4 {P : Program} {o : Oper} {a : Act} (w : World) (ty : TypeId) (x y z t : Operand) {u v r s : Value} {cs : Array Value} (ho : o.op = .build ty #[(0, x), (1, y), (2, z), (3, t)]) (hx : a.eval x = u) (hy : a.eval y = v) (hz : a.eval z = r) (ht : a.eval t = s) (hb : P.built ty [(0, u), (1, v), (2, r), (3, s)] = some cs) :
    (execOp a.eval o).run P w = .ok (.value (.agg cs)) w := by
  subst hx hy hz ht
  unfold execOp
  simp only [ho, Sem.run_bind, run_build w ty (#[(0, x), (1, y), (2, z), (3, t)].map fun (i, x) => (i, a.eval x)) cs (by simpa using hb), Result.andThen_ok, Sem.run_pure]
abbrev z32 : Array Value := #[.int .u64 0, .int .u64 0, .int .u64 0, .int .u64 0, .int .u64 0, .int .u64 0, .int .u64 0, .int .u64 0, .int .u64 0, .int .u64 0, .int .u64 0, .int .u64 0, .int .u64 0, .int .u64 0, .int .u64 0, .int .u64 0, .int .u64 0, .int .u64 0, .int .u64 0, .int .u64 0, .int .u64 0, .int .u64 0, .int .u64 0, .int .u64 0, .int .u64 0, .int .u64 0, .int .u64 0, .int .u64 0, .int .u64 0, .int .u64 0, .int .u64 0, .int .u64 0]
set_option maxHeartbeats 1000000 in
theorem qraw_core (q0 q1 q2 q3 : Int) (A1 A2 A3 A4 : Nat) (w : World) (h0 : Hid (Ans 46 #[.int .i64 q0] (.agg (cells8 A1)))) (h1 : Hid (Ans 46 #[.int .i64 q1] (.agg (cells8 A2)))) (h2 : Hid (Ans 46 #[.int .i64 q2] (.agg (cells8 A3)))) (h3 : Hid (Ans 46 #[.int .i64 q3] (.agg (cells8 A4)))) :
    Calls Tryd.prog 26 #[.agg (q4 q0 q1 q2 q3)] w fun e w' => e = .returned (.agg (ws [A1, A2, A3, A4])) ∧ Below w.heap.size w w' := by
  go_enter Tryd.func26, Tryd.ntmps26
  go_upto_region 1 with fail
  have D := hide (((Gen.start w).push 24 (q4 q0 q1 q2 q3)).push 56 z32)
  simp only [szA] at D
  refine region_last (S := Gen w _) (f := 13) (l := [0, 1, 2, 3, 4, 5, 6, 7, 8, 9, 10, 11, 12]) (by kernel_rfl) (by kernel_rfl) (by kernel_rfl) (by kernel_rfl) (by kernel_rfl) (by kernel_rfl) (by kernel_rfl) (by kernel_rfl) (by kernel_rfl) (by kernel_rfl) rfl rfl (unhide D).drew ?_
  clear D
  refine plan_read (v := ?_) rfl rfl (fun u hS => by go_simp; rfl) ?_
  go_simp
  refine plan_read (v := .int .i64 q0) rfl rfl (fun u hS => exec_loadFG hS _ rfl rfl (by repeat (first | exact List.mem_cons_self | apply List.mem_cons_of_mem)) rfl) ?_
  go_simp
  refine plan_call (v := .agg (cells8 A1)) (f := 46) (args := #[.int .i64 q0]) rfl rfl (fun u hS => by go_simp) (fun u hS => (unhide h0 u).mono fun _ _ ⟨he, hb⟩ => ⟨he, hS.keep hb⟩) ?_
  go_simp
  refine plan_read (v := ?_) rfl rfl (fun u hS => by go_simp; rfl) ?_
  go_simp
  refine plan_read (v := .int .i64 q1) rfl rfl (fun u hS => exec_loadFG hS _ rfl rfl (by repeat (first | exact List.mem_cons_self | apply List.mem_cons_of_mem)) rfl) ?_
  go_simp
  refine plan_call (v := .agg (cells8 A2)) (f := 46) (args := #[.int .i64 q1]) rfl rfl (fun u hS => by go_simp) (fun u hS => (unhide h1 u).mono fun _ _ ⟨he, hb⟩ => ⟨he, hS.keep hb⟩) ?_
  go_simp
  refine plan_read (v := ?_) rfl rfl (fun u hS => by go_simp; rfl) ?_
  go_simp
  refine plan_read (v := .int .i64 q2) rfl rfl (fun u hS => exec_loadFG hS _ rfl rfl (by repeat (first | exact List.mem_cons_self | apply List.mem_cons_of_mem)) rfl) ?_
  go_simp
  refine plan_call (v := .agg (cells8 A3)) (f := 46) (args := #[.int .i64 q2]) rfl rfl (fun u hS => by go_simp) (fun u hS => (unhide h2 u).mono fun _ _ ⟨he, hb⟩ => ⟨he, hS.keep hb⟩) ?_
  go_simp
  refine plan_read (v := ?_) rfl rfl (fun u hS => by go_simp; rfl) ?_
  go_simp
  refine plan_read (v := .int .i64 q3) rfl rfl (fun u hS => exec_loadFG hS _ rfl rfl (by repeat (first | exact List.mem_cons_self | apply List.mem_cons_of_mem)) rfl) ?_
  go_simp
  refine plan_call (v := .agg (cells8 A4)) (f := 46) (args := #[.int .i64 q3]) rfl rfl (fun u hS => by go_simp) (fun u hS => (unhide h3 u).mono fun _ _ ⟨he, hb⟩ => ⟨he, hS.keep hb⟩) ?_
  go_simp
  refine plan_read (v := .agg (ws [A1, A2, A3, A4])) rfl rfl (fun u hS => exec_build4 _ 56 (.tmp 5) (.tmp 8) (.tmp 11) (.tmp 14) rfl rfl rfl rfl rfl (bNum A1 A2 A3 A4)) ?_
  refine plan_last (fun u hS => ?_)
  have B0 := hide (hS.blk (g := w.heap.size + 1) (t := 56) (cs := z32) (by repeat (first | exact List.mem_cons_self | apply List.mem_cons_of_mem)))
  refine wp_store_row 56 (.tmp 2) (.tmp 15) rfl _ (ws [A1, A2, A3, A4]) rfl rfl 56 z32 (unhide B0) rNum.i rfl (ws_one _) ?_
  have B := hide ((unhide B0).row (ws [A1, A2, A3, A4]))
  have O := hide (below_row hS.o (show w.heap.size ≤ w.heap.size + 1 by omega) (ws [A1, A2, A3, A4]))
  clear hS B0
  go_wp2
  exact resG rNum (unhide B) rfl rfl rfl rfl ⟨rfl, unhide O⟩
theorem QRawZ (a b c d : Int) (h0 : I64 a) (h1 : I64 b) (h2 : I64 c) (h3 : I64 d) : Ans 26 #[.agg (q4 a b c d)] (.agg (ws [enc a, enc b, enc c, enc d])) := fun w =>
  qraw_core a b c d _ _ _ _ w (fun u => OfZ a h0.1 h0.2 u) (fun u => OfZ b h1.1 h1.2 u) (fun u => OfZ c h2.1 h2.2 u) (fun u => OfZ d h3.1 h3.2 u)

end Go.Proofs.YtikmjfepflaokaaDoor

namespace Go.Proofs.YtikmjfepflaokaaDoor
open Go.RowKit
set_option maxRecDepth 4000
set_option linter.unusedVariables false

theorem arrNum : Tryd.prog.underlying 56 = some (.array (Tryd.prog.arrayLen 56) (Tryd.prog.elem 56)) := by kernel_rfl
theorem lenNum : Tryd.prog.arrayLen 56 = 4 := by kernel_rfl
theorem elNum : (Tryd.prog.info? (Tryd.prog.elem 56)).map (·.size) = some 8 := by kernel_rfl
theorem run_sizeOf {P : Program} {t : TypeId} {n : Nat} (h : (P.info? t).map (·.size) = some n) (w : World) : (sizeOf t).run P w = .ok n w := by
  cases hq : P.info? t with
  | none => simp [hq] at h
  | some i => simp [hq] at h; simp [sizeOf, typeInfo, hq, h]
theorem exec_ix {o : Oper} {a : Act} (w : World) {g k : Nat} (x y : Operand) (hk : k < 4) (ho : o.op = .indexAddr 56 x y) (hx : a.eval x = .pointer (some ⟨g, 0, none⟩)) (hy : a.eval y = .int .i64 k) : (execOp a.eval o).run Tryd.prog w = .ok (.value (.pointer (some ⟨g, k * 8, none⟩))) w := by
  unfold execOp
  simp only [ho, hx, hy, Sem.run_bind, run_indexAt_array w _ _ _ _ arrNum, lenNum]
  rw [if_pos ⟨by omega, by omega⟩, run_sizeOf elNum]
  simp only [Result.andThen_ok, Sem.run_pure, Addr.add_mid, Int.toNat_natCast, Nat.zero_add]
theorem exec_loadIG {o : Oper} {a : Act} {w w0 : World} {l : List (Nat × TypeId × Array Value)} (d : Gen w0 l w) {g i : Nat} {t : TypeId} {cs : Array Value} {z : Int} (x : Operand) (ho : o.op = .load 3 x) (hx : a.eval x = .pointer (some ⟨g, i, none⟩)) (hm : (g, t, cs) ∈ l) (hc : cs[i]? = some (.int .i64 z)) :
    (execOp a.eval o).run Tryd.prog w = .ok (.value (.int .i64 z)) w := by
  have hcc : w.cell? ⟨g, i, none⟩ = some (.int .i64 z) := (d.blk hm).cell i ▸ hc
  unfold execOp
  simp only [ho, hx]
  go_simp
theorem exec_loadJG {o : Oper} {a : Act} {w w0 : World} {l : List (Nat × TypeId × Array Value)} (d : Gen w0 l w) {g i : Nat} {t : TypeId} {cs : Array Value} {z : Int} (x : Operand) (ho : o.op = .load 2 x) (hx : a.eval x = .pointer (some ⟨g, i, none⟩)) (hm : (g, t, cs) ∈ l) (hc : cs[i]? = some (.int .i64 z)) :
    (execOp a.eval o).run Tryd.prog w = .ok (.value (.int .i64 z)) w := by
  have hcc : w.cell? ⟨g, i, none⟩ = some (.int .i64 z) := (d.blk hm).cell i ▸ hc
  unfold execOp
  simp only [ho, hx]
  go_simp
theorem Gen.pair {u w0 : World} {g0 g1 : Nat} {t0 t1 : TypeId} {c0 c1 : Array Value} (h0 : Blk u g0 t0 c0) (h1 : Blk u g1 t1 c1) (o : Below w0.heap.size w0 u) : Gen w0 [(g0, t0, c0), (g1, t1, c1)] u := by
  refine ⟨fun p hp => ?_, o⟩
  simp only [List.mem_cons, List.not_mem_nil, or_false] at hp
  rcases hp with rfl | rfl
  · exact h0
  · exact h1
set_option maxHeartbeats 4000000 in
theorem added_core (m s : Int) (ka kb : Nat) (hka : ka < 4) (hkb : kb < 4) (N X Y M1 S1 M2 R : Nat) (P Q : List Nat) (E : Bool) (w : World) (hX : P[ka]? = some X) (hY : Q[kb]? = some Y) (hP4 : (ws P).size = 32) (hQ4 : (ws Q).size = 32)
    (hM : Hid (Ans 45 #[.agg (cells8 X), .agg (cells8 Y)] (.tuple #[.agg (cells8 M1), .bool E]))) (hO : Hid (Ans 46 #[.int .i64 s] (.agg (cells8 S1)))) (hM2 : Hid (Ans 45 #[.agg (cells8 M1), .agg (cells8 S1)] (.tuple #[.agg (cells8 M2), .bool E]))) (hA : Hid (Ans 47 #[.agg (cells8 N), .agg (cells8 M2)] (.tuple #[.agg (cells8 R), .bool E]))) :
    Calls Tryd.prog 58 #[.agg (q4 m s ka kb), .agg (cells8 N), .agg (ws P), .agg (ws Q)] w fun e w' => e = .returned (.agg (cells8 R)) ∧ Below w.heap.size w w' := by
  go_enter Tryd.func58, Tryd.ntmps58
  go_upto_region 1 with fail
  have D := hide ((((((Gen.start w).push 86 (q4 m s ka kb)).push 42 (cells8 N)).push 56 (ws P)).push 56 (ws Q)).push 42 z8)
  simp only [szA] at D
  have D1 : Hid (GenZ w _ _ _) := ⟨(unhide D).drew, Nat.le_refl _⟩
  have hlt := hide (fun (p : Nat × TypeId × Array Value) hp => ((unhide D).at_ p hp).lt)
  have hw0 := hide (unhide D).o.size
  clear D
  generalize hZ : (((((w.alloc (.cells (q4 m s ka kb) 86)).alloc (.cells (cells8 N) 42)).alloc (.cells (ws P) 56)).alloc (.cells (ws Q) 56)).alloc (.cells z8 42)) = wz at *
  have hds : wz.drew.heap.size = wz.heap.size := rfl
  rw [hds] at D1
  generalize wz.heap.size = C at D1 hlt hw0
  refine region_lazy (S := GenZ w _ C) (v := .bool E) (ty := 42) (zs := z8) (base := C) (l := [0, 1, 2, 3, 4, 5, 6, 7, 8, 9, 10]) (A := [12]) (z := 11) (t := 13) (r := [14]) (by kernel_rfl) (by kernel_rfl) (by kernel_rfl) (by kernel_rfl) (by kernel_rfl) (by kernel_rfl) (by kernel_rfl) (by kernel_rfl) (by kernel_rfl) (by kernel_rfl) rfl rfl ?_ (fun _ _ h hb => h.keep hb) (fun _ h => h.s) (unhide D1) ?_
  · intro i hi
    simp at hi
    subst hi
    exact ⟨_, rfl, rfl, fun a w => by go_simp⟩
  clear D1 hZ hds
  refine planB_read (v := ?_) rfl rfl (fun u hS => by go_simp; rfl) ?_
  go_simp
  refine planB_read (v := .int .i64 ka) rfl rfl (fun u hS => exec_loadIG hS.e _ rfl rfl (by repeat (first | exact List.mem_cons_self | apply List.mem_cons_of_mem)) rfl) ?_
  go_simp
  refine planB_read (v := .pointer (some ⟨w.heap.size + 1 + 1, ka * 8, none⟩)) rfl rfl (fun u hS => exec_ix u (.tmp 6) (.tmp 13) hka rfl rfl rfl) ?_
  go_simp
  refine planB_read (v := .agg (cells8 X)) rfl rfl (fun u hS => exec_ldMid (.tmp 14) rfl rfl (ws_range (hS.e.blk (g := w.heap.size + 1 + 1) (t := 56) (cs := ws P) (by repeat (first | exact List.mem_cons_self | apply List.mem_cons_of_mem))) hX)) ?_
  go_simp
  refine planB_read (v := ?_) rfl rfl (fun u hS => by go_simp; rfl) ?_
  go_simp
  refine planB_read (v := .int .i64 kb) rfl rfl (fun u hS => exec_loadIG hS.e _ rfl rfl (by repeat (first | exact List.mem_cons_self | apply List.mem_cons_of_mem)) rfl) ?_
  go_simp
  refine planB_read (v := .pointer (some ⟨w.heap.size + 1 + 1 + 1, kb * 8, none⟩)) rfl rfl (fun u hS => exec_ix u (.tmp 7) (.tmp 17) hkb rfl rfl rfl) ?_
  go_simp
  refine planB_read (v := .agg (cells8 Y)) rfl rfl (fun u hS => exec_ldMid (.tmp 18) rfl rfl (ws_range (hS.e.blk (g := w.heap.size + 1 + 1 + 1) (t := 56) (cs := ws Q) (by repeat (first | exact List.mem_cons_self | apply List.mem_cons_of_mem))) hY)) ?_
  go_simp
  refine planB_call (v := .tuple #[.agg (cells8 M1), .bool E]) (f := 45) (args := #[.agg (cells8 X), .agg (cells8 Y)]) rfl rfl (fun u hS => by go_simp) (fun u hS => (unhide hM u).mono fun _ _ ⟨he, hb⟩ => ⟨he, hS.keep hb, hb⟩) ?_
  go_simp
  refine planB_read (v := ?_) rfl rfl (fun u hS => by go_simp; rfl) ?_
  go_simp
  refine planB_read (v := ?_) rfl rfl (fun u hS => by go_simp; rfl) ?_
  go_simp
  refine planB_lazy rfl (fun u => by go_simp) rfl rfl (fun c u hS hB hI2 => ?_)
  have hB7 := hB 12 (by simp)
  clear hB hI2
  simp only [pa, dstOf]
  generalize c 12 = c7 at hB7 ⊢
  have D := hide (hS.e.fillZ (cs := cells8 M1) (unhide hlt) (unhide hw0) hB7.1 hB7.2)
  have hc7 := hide (show ∀ p ∈ [(w.heap.size + 1 + 1 + 1 + 1, 42, z8), (w.heap.size + 1 + 1 + 1, 56, ws Q), (w.heap.size + 1 + 1, 56, ws P), (w.heap.size + 1, 42, cells8 N), (w.heap.size, 86, q4 m s ka kb)], p.1 ≠ c7 from fun p hp => by have := unhide hlt p hp; have := hB7.2; omega)
  have hw7 := hide (show w.heap.size ≤ c7 from Nat.le_trans (unhide hw0) hB7.2)
  refine ⟨_, exec_store8 (n := M1) 42 (.tmp 9) (.tmp 21) hB7.1 rfl rfl rfl rfl iWide, ?_⟩
  clear hS hB7 hlt hw0
  generalize u.setRow c7 (cells8 M1) = u1 at D ⊢
  simp only [opsOf]
  go_simp
  go_upto_region 2 with fail
  have D1 : Hid (GenZ w _ u1.heap.size u1.drew) := ⟨(unhide D).drew, Nat.le_refl _⟩
  clear D
  refine region_lazy (S := GenZ w _ u1.heap.size) (v := .bool E) (ty := 42) (zs := z8) (base := u1.heap.size) (l := [0, 1, 2, 3, 4, 5, 6]) (A := []) (z := 7) (t := 8) (r := []) (by kernel_rfl) (by kernel_rfl) (by kernel_rfl) (by kernel_rfl) (by kernel_rfl) (by kernel_rfl) (by kernel_rfl) (by kernel_rfl) (by kernel_rfl) (by kernel_rfl) rfl rfl (fun i hi => by cases hi) (fun _ _ h hb => h.keep hb) (fun _ h => h.s) (unhide D1) ?_
  clear D1
  refine planB_read (v := .agg (cells8 M1)) rfl rfl (fun u hS => exec_loadG hS.e rWide _ rfl rfl (by repeat (first | exact List.mem_cons_self | apply List.mem_cons_of_mem)) rfl) ?_
  go_simp
  refine planB_read (v := ?_) rfl rfl (fun u hS => by go_simp; rfl) ?_
  go_simp
  refine planB_read (v := .int .i64 s) rfl rfl (fun u hS => exec_loadJG hS.e _ rfl rfl (by repeat (first | exact List.mem_cons_self | apply List.mem_cons_of_mem)) rfl) ?_
  go_simp
  refine planB_call (v := .agg (cells8 S1)) (f := 46) (args := #[.int .i64 s]) rfl rfl (fun u hS => by go_simp) (fun u hS => (unhide hO u).mono fun _ _ ⟨he, hb⟩ => ⟨he, hS.keep hb, hb⟩) ?_
  go_simp
  refine planB_call (v := .tuple #[.agg (cells8 M2), .bool E]) (f := 45) (args := #[.agg (cells8 M1), .agg (cells8 S1)]) rfl rfl (fun u hS => by go_simp) (fun u hS => (unhide hM2 u).mono fun _ _ ⟨he, hb⟩ => ⟨he, hS.keep hb, hb⟩) ?_
  go_simp
  refine planB_read (v := ?_) rfl rfl (fun u hS => by go_simp; rfl) ?_
  go_simp
  refine planB_read (v := ?_) rfl rfl (fun u hS => by go_simp; rfl) ?_
  go_simp
  refine planB_lazy rfl (fun u => by go_simp) rfl rfl (fun c u hS hB hI2 => ?_)
  clear hB hI2
  simp only [pa]
  have B9 := hide (hS.e.blk (g := c7) (t := 42) (cs := cells8 M1) (by repeat (first | exact List.mem_cons_self | apply List.mem_cons_of_mem)))
  have D := hide (hS.e.set (unhide hw7) (unhide hc7) (cells8 M2))
  refine ⟨_, exec_store8 (n := M2) 42 (.tmp 9) (.tmp 29) (unhide B9) rfl rfl rfl rfl iWide, ?_⟩
  clear hS B9 hc7 hw7
  generalize u.setRow c7 (cells8 M2) = u2 at D ⊢
  simp only [opsOf]
  go_simp
  go_upto_region 4 with (first | (with_reducible refine at_list ?_; apply ldG (unhide D) rWide _ rfl rfl rfl (by repeat (first | exact List.mem_cons_self | apply List.mem_cons_of_mem)) rfl) | (go_at_call 47; with_reducible refine (unhide hA _).mono ?_; rintro e w' ⟨he, hb⟩; subst he; have D := hide ((unhide D).keep hb); clear hb) | (with_reducible refine at_list ?_;  have B5 := hide ((unhide D).blk (g := w.heap.size + 1) (t := 42) (cs := cells8 N) (by repeat (first | exact List.mem_cons_self | apply List.mem_cons_of_mem))); have B8 := hide ((unhide D).blk (g := w.heap.size + 1 + 1 + 1 + 1) (t := 42) (cs := z8) (by repeat (first | exact List.mem_cons_self | apply List.mem_cons_of_mem))); have O5 := hide (unhide D).o; refine st8 (n := R) 42 (.tmp 5) (.tmp 35) (unhide B5) rfl rfl rfl rfl rfl iWide ?_))
  have D := hide (Gen.pair ((unhide B5).row (cells8 R)) ((unhide B8).rowOther (cells8 R) (by omega)) (below_row (unhide O5) (show w.heap.size ≤ w.heap.size + 1 by omega) (cells8 R)))
  clear B5 B8 O5
  go_wp2_with (first | (with_reducible refine at_list ?_; apply ldG (unhide D) rWide _ rfl rfl rfl (by repeat (first | exact List.mem_cons_self | apply List.mem_cons_of_mem)) rfl) | (with_reducible refine at_list ?_; apply stGend (unhide D) rWide _ _ rfl rfl rfl rfl (by repeat (first | exact List.mem_cons_self | apply List.mem_cons_of_mem)) (by omega) rfl rfl (cells8_one _); intro B O))
  exact resG rWide (unhide B) rfl rfl rfl rfl ⟨rfl, unhide O⟩

end Go.Proofs.YtikmjfepflaokaaDoor

namespace Go.Proofs.YtikmjfepflaokaaDoor
open Go.RowKit
set_option maxRecDepth 4000
set_option linter.unusedVariables false

/-- A table of parts in the variable's block. -/
def Tab (g : Nat) (T : Array Value) (w : World) : Prop := ∃ t fr, w.heap[g]? = some (.cells T t fr)
theorem Tab.below {g : Nat} {T : Array Value} {w w' : World} {B : Nat} (h : Tab g T w) (hb : Below B w w') (hg : g < B) : Tab g T w' := by
  obtain ⟨t, fr, h⟩ := h
  exact ⟨t, fr, (hb.block g hg).trans h⟩
theorem Tab.lt {g : Nat} {T : Array Value} {w : World} (h : Tab g T w) : g < w.heap.size := by
  obtain ⟨t, fr, h⟩ := h
  exact (Array.getElem?_eq_some_iff.1 h).1
theorem exec_loadT {o : Oper} {a : Act} {w : World} {g k : Nat} {T : Array Value} {ty : TypeId} (hr : Rw ty k) (x : Operand) (ho : o.op = .load ty x) (hx : a.eval x = .pointer (some ⟨g, 0, none⟩)) (h : Tab g T w) (hk : T.size = k) : (execOp a.eval o).run Tryd.prog w = .ok (.value (.agg T)) w := by
  obtain ⟨⟨dd, hu, hd⟩, hi⟩ := hr
  obtain ⟨t, fr, h⟩ := h
  unfold execOp
  simp only [ho, hx, Instr.loadAt, Instr.sureAddr, Sem.run_bind, Sem.run_pure, Result.andThen_ok, run_loadVar_row w g t ty T fr dd h hu (by cases dd <;> first | rfl | cases hd) (hk ▸ hi)]
theorem exec_idxT {o : Oper} {a : Act} (w : World) {T : Array Value} {ty : TypeId} {i : Int} {v : Value} (x y : Operand) (hI : (Instr.index ty (.agg T) (.int .i64 i)).run Tryd.prog w = .ok v w) (ho : o.op = .index ty x y) (hx : a.eval x = .agg T) (hy : a.eval y = .int .i64 i) : (execOp a.eval o).run Tryd.prog w = .ok (.value v) w := by
  unfold execOp
  simp only [ho, hx, hy, Sem.run_bind, hI, Result.andThen_ok, Sem.run_pure]
theorem rParts : Rw 94 64 := ⟨⟨_, Tryd.underlying94, rfl⟩, by kernel_rfl⟩
theorem z32_ws : z32 = ws [0, 0, 0, 0] := by kernel_rfl
set_option maxHeartbeats 4000000 in
theorem product_core (T : Array Value) (P Q : List Nat) (at' fa fb : Nat → Nat) (sg : Nat → Int) (N R : Nat → Nat) (st : Nat → List Nat) (w : World) (hT : Tab 1 T w) (hTs : T.size = 64) (hPs : (ws P).size = 32) (hQs : (ws Q).size = 32) (h0 : st 0 = [0, 0, 0, 0])
    (hI : Hid (∀ k : Nat, k < 16 → ∀ u, (Instr.index 94 (.agg T) (.int .i64 k)).run Tryd.prog u = .ok (.agg (q4 (at' k) (sg k) (fa k) (fb k))) u))
    (hat : Hid (∀ k, k < 16 → at' k < 4)) (hlen : Hid (∀ k, (st k).length = 4)) (hN : Hid (∀ k, k < 16 → (st k)[at' k]? = some (N k))) (hst : Hid (∀ k, k < 16 → st (k + 1) = (st k).set (at' k) (R k)))
    (hA : Hid (∀ k, k < 16 → Ans 58 #[.agg (q4 (at' k) (sg k) (fa k) (fb k)), .agg (cells8 (N k)), .agg (ws P), .agg (ws Q)] (.agg (cells8 (R k))))) :
    Calls Tryd.prog 39 #[.agg (ws P), .agg (ws Q)] w fun e w' => e = .returned (.agg (ws (st 16))) ∧ Below w.heap.size w w' := by
  have hTlt := hT.lt
  have HT := hide hT
  clear hT
  go_enter Tryd.func39, Tryd.ntmps39
  go_upto_region 2 with fail
  have D := hide (((((Gen.start w).push 56 (ws P)).push 56 (ws Q)).push 56 z32).push 56 z32)
  simp only [szA] at D
  generalize hgz : ((((w.alloc (.cells (ws P) 56)).alloc (.cells (ws Q) 56)).alloc (.cells z32 56)).alloc (.cells z32 56)) = w1 at D ⊢
  clear hgz
  rw [z32_ws] at D
  have T1 := hide ((unhide HT).below (unhide D).o hTlt)
  go_wp2_with (first | (with_reducible refine at_list ?_;  refine wpList_value rfl (exec_loadT rParts _ rfl rfl (unhide T1) hTs) ?_))
  clear T1 HT
  go_loopw [9] (fun i wr => ∃ k : Nat, k ≤ 16 ∧ i = .int .i64 k ∧ Hid (Gen w [(w.heap.size + 1 + 1 + 1, 56, ws (st k)), (w.heap.size + 1 + 1, 56, ws [0, 0, 0, 0]), (w.heap.size + 1, 56, ws Q), (w.heap.size, 56, ws P)] wr)) (fun i _ => 16 - (intOf i).toNat)
  case atStart => exact ⟨0, by omega, rfl, by rw [h0]; exact D⟩
  case round =>
    obtain ⟨k, hk, rfl, hD⟩ := hrel
    by_cases hkn : k < 16
    · have hg : (k : Int) < 16 := by omega
      have Ik := hide (fun u => unhide hI k hkn u)
      have ak := unhide hat k hkn
      have Nk := hide (unhide hN k hkn)
      have Rk := hide (unhide hst k hkn)
      have Ak := hide (unhide hA k hkn)
      have Lk := hide (unhide hlen k)
      clear hI hat hN hst hA hlen D
      have D := hD
      clear hD
      go_upto_region 5 with (first | (with_reducible refine at_list ?_;  refine wpList_value rfl (exec_idxT _ (.tmp 8) (.tmp 9) (unhide Ik _) rfl rfl rfl) ?_) | (with_reducible refine at_list ?_; refine stG (unhide D) rPart _ _ rfl rfl rfl rfl rfl rfl (q4_one _ _ _ _) ?_; intro D'; have D := hide D'; clear D'))
      clear Ik
      refine region_last (S := Gen w _) (f := 11) (l := [0, 1, 2, 3, 4, 5, 6, 7, 8, 9, 10]) (by kernel_rfl) (by kernel_rfl) (by kernel_rfl) (by kernel_rfl) (by kernel_rfl) (by kernel_rfl) (by kernel_rfl) (by kernel_rfl) (by kernel_rfl) (by kernel_rfl) rfl rfl (unhide D).drew ?_
      clear D
      generalize hak : at' k = m at *
      refine plan_read (v := ?_) rfl rfl (fun u hS => by go_simp; rfl) ?_
      go_simp
      refine plan_read (v := .int .i64 m) rfl rfl (fun u hS => exec_loadIG hS _ rfl rfl (by repeat (first | exact List.mem_cons_self | apply List.mem_cons_of_mem)) rfl) ?_
      go_simp
      refine plan_read (v := .agg (q4 m (sg k) (fa k) (fb k))) rfl rfl (fun u hS => exec_loadG hS rPart _ rfl rfl (by repeat (first | exact List.mem_cons_self | apply List.mem_cons_of_mem)) rfl) ?_
      go_simp
      refine plan_read (v := ?_) rfl rfl (fun u hS => by go_simp; rfl) ?_
      go_simp
      refine plan_read (v := .int .i64 m) rfl rfl (fun u hS => exec_loadIG hS _ rfl rfl (by repeat (first | exact List.mem_cons_self | apply List.mem_cons_of_mem)) rfl) ?_
      go_simp
      refine plan_read (v := .pointer (some ⟨w.heap.size + 1 + 1 + 1, m * 8, none⟩)) rfl rfl (fun u hS => exec_ix u (.tmp 5) (.tmp 16) ak rfl rfl rfl) ?_
      go_simp
      refine plan_read (v := .agg (cells8 (N k))) rfl rfl (fun u hS => exec_ldMid (.tmp 17) rfl rfl (ws_range (hS.blk (g := w.heap.size + 1 + 1 + 1) (t := 56) (cs := ws (st k)) (by repeat (first | exact List.mem_cons_self | apply List.mem_cons_of_mem))) (unhide Nk))) ?_
      go_simp
      refine plan_read (v := .agg (ws P)) rfl rfl (fun u hS => exec_loadG hS rNum (.tmp 2) rfl rfl (by repeat (first | exact List.mem_cons_self | apply List.mem_cons_of_mem)) hPs) ?_
      go_simp
      refine plan_read (v := .agg (ws Q)) rfl rfl (fun u hS => exec_loadG hS rNum (.tmp 3) rfl rfl (by repeat (first | exact List.mem_cons_self | apply List.mem_cons_of_mem)) hQs) ?_
      go_simp
      refine plan_call (v := .agg (cells8 (R k))) (f := 58) (args := #[.agg (q4 m (sg k) (fa k) (fb k)), .agg (cells8 (N k)), .agg (ws P), .agg (ws Q)]) rfl rfl (fun u hS => by go_simp) (fun u hS => (unhide Ak u).mono fun _ _ ⟨he, hb⟩ => ⟨he, hS.keep hb⟩) ?_
      go_simp
      refine plan_read (v := .pointer (some ⟨w.heap.size + 1 + 1 + 1, m * 8, none⟩)) rfl rfl (fun u hS => exec_ix u (.tmp 5) (.tmp 13) ak rfl rfl rfl) ?_
      go_simp
      refine plan_last (fun u hS => ?_)
      have B5 := hide (hS.blk (g := w.heap.size + 1 + 1 + 1) (t := 56) (cs := ws (st k)) (by repeat (first | exact List.mem_cons_self | apply List.mem_cons_of_mem)))
      refine wp_store_mid 42 (.tmp 22) (.tmp 21) rfl (w.heap.size + 1 + 1 + 1) (m * 8) (cells8 (R k)) rfl rfl (ws_there (unhide B5) (by rw [unhide Lk]; exact ak)) iWide (cells8_one _) ?_
      have D := hide (hS.tail.setW (n := R k) (k := m) (by rw [unhide Lk]; exact ak) (show w.heap.size ≤ w.heap.size + 1 + 1 + 1 by omega) (fun p hp => by
        simp only [List.mem_cons, List.not_mem_nil, or_false] at hp
        rcases hp with rfl | rfl | rfl <;> dsimp only <;> omega))
      clear hS B5 Nk Ak
      rw [← unhide Rk] at D
      generalize u.setCells _ _ _ = u1 at D ⊢
      go_wp2
      go_roundw
      case rel => exact ⟨k + 1, by omega, by go_num, D⟩
      case measure => simp [intOf]; omega
    · obtain rfl : k = 16 := by omega
      have D := hD
      have hz : (ws (st 16)).size = 32 := by rw [ws_size, unhide hlen 16]
      clear hD hI hat hN hst hA hlen
      go_wp2_with (first | (with_reducible refine at_list ?_;  apply ldG (unhide D) rNum _ rfl rfl rfl (by repeat (first | exact List.mem_cons_self | apply List.mem_cons_of_mem)) hz) | (with_reducible refine at_list ?_;  apply stGend (unhide D) rNum _ _ rfl rfl rfl rfl (by repeat (first | exact List.mem_cons_self | apply List.mem_cons_of_mem)) (by omega) rfl hz (ws_one _); intro B O))
      exact resG rNum (unhide B) hz rfl rfl rfl ⟨rfl, unhide O⟩

end Go.Proofs.YtikmjfepflaokaaDoor

namespace Go.Proofs.YtikmjfepflaokaaDoor
open Go.RowKit
set_option maxRecDepth 4000
set_option linter.unusedVariables false

/-- The parts of a product: which number, the sign, which two. -/
def ptL : List (Nat × Int × Nat × Nat) := [(0, 1, 0, 0), (0, -1, 1, 1), (0, -1, 2, 2), (0, -1, 3, 3), (1, 1, 0, 1), (1, 1, 1, 0), (1, 1, 2, 3), (1, -1, 3, 2), (2, 1, 0, 2), (2, 1, 2, 0), (2, 1, 3, 1), (2, -1, 1, 3), (3, 1, 0, 3), (3, 1, 3, 0), (3, 1, 1, 2), (3, -1, 2, 1)]
def ptA (k : Nat) : Nat := (ptL.getD k (0, 0, 0, 0)).1
def ptS (k : Nat) : Int := (ptL.getD k (0, 0, 0, 0)).2.1
def ptF (k : Nat) : Nat := (ptL.getD k (0, 0, 0, 0)).2.2.1
def ptG (k : Nat) : Nat := (ptL.getD k (0, 0, 0, 0)).2.2.2
def tabP : Array Value := (ptL.flatMap fun p => [.int .i64 p.1, .int .i64 p.2.1, .int .i64 p.2.2.1, .int .i64 p.2.2.2]).toArray
theorem lt16 {k : Nat} (h : k < 16) : k = 0 ∨ k = 1 ∨ k = 2 ∨ k = 3 ∨ k = 4 ∨ k = 5 ∨ k = 6 ∨ k = 7 ∨ k = 8 ∨ k = 9 ∨ k = 10 ∨ k = 11 ∨ k = 12 ∨ k = 13 ∨ k = 14 ∨ k = 15 := by omega
theorem ptA_lt (k : Nat) (h : k < 16) : ptA k < 4 := by
  rcases lt16 h with rfl | rfl | rfl | rfl | rfl | rfl | rfl | rfl | rfl | rfl | rfl | rfl | rfl | rfl | rfl | rfl <;> decide
theorem ptF_lt (k : Nat) (h : k < 16) : ptF k < 4 := by
  rcases lt16 h with rfl | rfl | rfl | rfl | rfl | rfl | rfl | rfl | rfl | rfl | rfl | rfl | rfl | rfl | rfl | rfl <;> decide
theorem ptG_lt (k : Nat) (h : k < 16) : ptG k < 4 := by
  rcases lt16 h with rfl | rfl | rfl | rfl | rfl | rfl | rfl | rfl | rfl | rfl | rfl | rfl | rfl | rfl | rfl | rfl <;> decide
theorem ptS_sz (k : Nat) (h : k < 16) : -2 ≤ ptS k ∧ ptS k ≤ 2 := by
  rcases lt16 h with rfl | rfl | rfl | rfl | rfl | rfl | rfl | rfl | rfl | rfl | rfl | rfl | rfl | rfl | rfl | rfl <;> decide
theorem tabP_at (k : Nat) (h : k < 16) (u : World) : (Instr.index 94 (.agg tabP) (.int .i64 k)).run Tryd.prog u = .ok (.agg (q4 (ptA k) (ptS k) (ptF k) (ptG k))) u := by
  rcases lt16 h with rfl | rfl | rfl | rfl | rfl | rfl | rfl | rfl | rfl | rfl | rfl | rfl | rfl | rfl | rfl | rfl <;> kernel_rfl
/-- Four numbers, by their places. -/
def n4 (a b c d : Int) (k : Nat) : Int := if k = 0 then a else if k = 1 then b else if k = 2 then c else d
theorem n4_all {P : Int → Prop} {a b c d : Int} (ha : P a) (hb : P b) (hc : P c) (hd : P d) (k : Nat) : P (n4 a b c d k) := by
  unfold n4
  split
  · exact ha
  · split
    · exact hb
    · split
      · exact hc
      · exact hd
theorem n4_get {a b c d : Int} {k : Nat} (h : k < 4) : [enc a, enc b, enc c, enc d][k]? = some (enc (n4 a b c d k)) := by
  rcases (show k = 0 ∨ k = 1 ∨ k = 2 ∨ k = 3 by omega) with rfl | rfl | rfl | rfl <;> rfl
/-- A sum's numbers behind so many parts. -/
def acc (A F G : Nat → Nat) (S : Nat → Int) (p q : Nat → Int) : Nat → Nat → Int
  | 0, _ => 0
  | k + 1, j => if j = A k then acc A F G S p q k j + p (F k) * q (G k) * S k else acc A F G S p q k j
theorem acc_sz {A F G : Nat → Nat} {S : Nat → Int} {p q : Nat → Int} (hp : ∀ k, Sz 63 (p k)) (hq : ∀ k, Sz 63 (q k)) {n : Nat} (hS : ∀ k, k < n → Sz 1 (S k)) : ∀ k j, k ≤ n → Sz (128 + k) (acc A F G S p q k j)
  | 0, _, _ => by unfold acc Sz; exact Nat.zero_le _
  | k + 1, j, h => by
    have ih := acc_sz (A := A) (F := F) (G := G) hp hq hS k j (by omega)
    unfold acc
    split
    · have t : Sz 127 (p (F k) * q (G k) * S k) := ((hp _).mul (hq _)).mul (hS k (by omega))
      exact ih.add (t.mono (by omega))
    · exact ih.mono (by omega)
theorem acc_at {A F G : Nat → Nat} {S : Nat → Int} {p q : Nat → Int} (k : Nat) : acc A F G S p q (k + 1) (A k) = acc A F G S p q k (A k) + p (F k) * q (G k) * S k := by
  show (if _ then _ else _) = _
  rw [if_pos rfl]
theorem acc_else {A F G : Nat → Nat} {S : Nat → Int} {p q : Nat → Int} (k : Nat) {j : Nat} (h : j ≠ A k) : acc A F G S p q (k + 1) j = acc A F G S p q k j := by
  show (if _ then _ else _) = _
  rw [if_neg h]
def ac4 (f : Nat → Int) : List Nat := [enc (f 0), enc (f 1), enc (f 2), enc (f 3)]
theorem ac4_get {f : Nat → Int} {k : Nat} (h : k < 4) : (ac4 f)[k]? = some (enc (f k)) := by
  rcases (show k = 0 ∨ k = 1 ∨ k = 2 ∨ k = 3 by omega) with rfl | rfl | rfl | rfl <;> rfl
theorem ac4_set {f g : Nat → Int} {m : Nat} (hm : m < 4) (he : ∀ j, j ≠ m → g j = f j) : ac4 g = (ac4 f).set m (enc (g m)) := by
  unfold ac4
  rcases (show m = 0 ∨ m = 1 ∨ m = 2 ∨ m = 3 by omega) with rfl | rfl | rfl | rfl
  · rw [he 1 (by omega), he 2 (by omega), he 3 (by omega)]; rfl
  · rw [he 0 (by omega), he 2 (by omega), he 3 (by omega)]; rfl
  · rw [he 0 (by omega), he 1 (by omega), he 3 (by omega)]; rfl
  · rw [he 0 (by omega), he 1 (by omega), he 2 (by omega)]; rfl
theorem sz_two {s : Int} (h : -2 ≤ s ∧ s ≤ 2) : Sz 1 s := by
  unfold Sz
  have : (2 : Nat) ^ 1 = 2 := rfl
  omega
theorem AddedZ (m : Int) (s : Int) (hs : -2 ≤ s ∧ s ≤ 2) (ka kb : Nat) (hka : ka < 4) (hkb : kb < 4) (n : Int) (k : Nat) (hk : k ≤ 300) (hn : Sz (127 + k) n) (p0 p1 p2 p3 q0 q1 q2 q3 : Int) (hp : ∀ j, Sz 63 (n4 p0 p1 p2 p3 j)) (hq : ∀ j, Sz 63 (n4 q0 q1 q2 q3 j)) :
    Ans 58 #[.agg (q4 m s ka kb), V n, .agg (ws [enc p0, enc p1, enc p2, enc p3]), .agg (ws [enc q0, enc q1, enc q2, enc q3])] (V (n + n4 p0 p1 p2 p3 ka * n4 q0 q1 q2 q3 kb * s)) := fun w =>
  have t1 := (hp ka).mul (hq kb)
  have t2 : Sz 127 (n4 p0 p1 p2 p3 ka * n4 q0 q1 q2 q3 kb * s) := t1.mul (sz_two hs)
  added_core m s ka kb hka hkb (enc n) _ _ _ _ _ _ _ _ true w (n4_get hka) (n4_get hkb) (ws_size _) (ws_size _) (mul_told _ _ (hp ka) (hq kb) (by decide)) (fun u => OfZ s (by omega) (by omega) u) (mul_told _ _ t1 (sz_two hs) (by decide)) (fun u => by
    have t := AddZ n _ (hn.fit (by omega)) (t2.fit (by decide)) u
    rw [toldZ_fit ((hn.add (t2.mono (by omega))).fit (by omega))] at t
    exact t)
/-- The numbers of a product. -/
def prd (p0 p1 p2 p3 q0 q1 q2 q3 : Int) (k j : Nat) : Int := acc ptA ptF ptG ptS (n4 p0 p1 p2 p3) (n4 q0 q1 q2 q3) k j
theorem prd_sz {p0 p1 p2 p3 q0 q1 q2 q3 : Int} (hp : ∀ j, Sz 63 (n4 p0 p1 p2 p3 j)) (hq : ∀ j, Sz 63 (n4 q0 q1 q2 q3 j)) (k j : Nat) (h : k ≤ 16) : Sz (128 + k) (prd p0 p1 p2 p3 q0 q1 q2 q3 k j) :=
  acc_sz hp hq (n := 16) (fun k hk => sz_two (ptS_sz k hk)) k j h
theorem ProductZ (p0 p1 p2 p3 q0 q1 q2 q3 : Int) (hp : ∀ j, Sz 63 (n4 p0 p1 p2 p3 j)) (hq : ∀ j, Sz 63 (n4 q0 q1 q2 q3 j)) (w : World) (hT : Tab 1 tabP w) :
    Calls Tryd.prog 39 #[.agg (ws [enc p0, enc p1, enc p2, enc p3]), .agg (ws [enc q0, enc q1, enc q2, enc q3])] w fun e w' => e = .returned (.agg (ws (ac4 (prd p0 p1 p2 p3 q0 q1 q2 q3 16)))) ∧ Below w.heap.size w w' :=
  product_core tabP _ _ ptA ptF ptG ptS (fun k => enc (prd p0 p1 p2 p3 q0 q1 q2 q3 k (ptA k))) (fun k => enc (prd p0 p1 p2 p3 q0 q1 q2 q3 (k + 1) (ptA k))) (fun k => ac4 (prd p0 p1 p2 p3 q0 q1 q2 q3 k)) w hT rfl (ws_size _) (ws_size _) rfl
    (fun k hk u => tabP_at k hk u) ptA_lt (fun _ => rfl) (fun k hk => ac4_get (ptA_lt k hk)) (fun k hk => ac4_set (ptA_lt k hk) (fun j hj => acc_else k hj))
    (fun k hk => by
      have e : prd p0 p1 p2 p3 q0 q1 q2 q3 (k + 1) (ptA k) = prd p0 p1 p2 p3 q0 q1 q2 q3 k (ptA k) + n4 p0 p1 p2 p3 (ptF k) * n4 q0 q1 q2 q3 (ptG k) * ptS k := acc_at k
      show Ans _ _ (V (prd p0 p1 p2 p3 q0 q1 q2 q3 (k + 1) (ptA k)))
      rw [e]
      exact AddedZ (ptA k) (ptS k) (ptS_sz k hk) (ptF k) (ptG k) (ptF_lt k hk) (ptG_lt k hk) _ (k + 1) (by omega) ((prd_sz hp hq k _ (by omega)).mono (by omega)) p0 p1 p2 p3 q0 q1 q2 q3 hp hq)

end Go.Proofs.YtikmjfepflaokaaDoor
