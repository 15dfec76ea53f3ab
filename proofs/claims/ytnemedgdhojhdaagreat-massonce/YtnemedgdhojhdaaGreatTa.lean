/- Arrays of wide numbers in blocks. Package quat: numbers, raw, part.added. Package quat: part.added. Package quat: product. Package quat: product over integers; Mul. -/
import Derived.Test.YtnemedgdhojhdaaGreatVn
namespace Go.Proofs.YtnemedgdhojhdaaGreat
open Go.RowKit
set_option maxRecDepth 4000
set_option linter.unusedVariables false

/-- The cells of some numbers, one behind the other. -/
def wsL : List Nat → List Value
  | [] => []
  | n :: r => (cells8 n).toList ++ wsL r
def ws (l : List Nat) : Array Value := (wsL l).toArray
theorem cells8_len (n : Nat) : (cells8 n).toList.length = 8 := rfl
theorem wsL_len : ∀ l : List Nat, (wsL l).length = 8 * l.length
  | [] => rfl
  | n :: r => by
    show ((cells8 n).toList ++ wsL r).length = _
    rw [List.length_append, cells8_len, wsL_len r, List.length_cons]
    omega
theorem ws_size (l : List Nat) : (ws l).size = 8 * l.length := by
  show (wsL l).toArray.size = _
  rw [List.size_toArray, wsL_len]
theorem wsL_at : ∀ (l : List Nat) (k n j : Nat), l[k]? = some n → j < 8 → (wsL l)[k * 8 + j]? = (cells8 n).toList[j]?
  | [], _, _, _, h, _ => by simp at h
  | m :: r, 0, n, j, h, hj => by
    simp at h
    subst h
    show ((cells8 m).toList ++ wsL r)[0 * 8 + j]? = _
    rw [Nat.zero_mul, Nat.zero_add, List.getElem?_append_left (by rw [cells8_len]; exact hj)]
  | m :: r, k + 1, n, j, h, hj => by
    have ih := wsL_at r k n j (by simpa using h) hj
    show ((cells8 m).toList ++ wsL r)[(k + 1) * 8 + j]? = _
    rw [List.getElem?_append_right (by rw [cells8_len]; omega), cells8_len, show (k + 1) * 8 + j - 8 = k * 8 + j by omega]
    exact ih
theorem ws_range {w : World} {p : Nat} {t : TypeId} {l : List Nat} (hB : Blk w p t (ws l)) {k n : Nat} (h : l[k]? = some n) : w.rangeAt p (k * 8) (cells8 n).toList := by
  intro j v hv
  have hj : j < 8 := by have := (List.getElem?_eq_some_iff.1 hv).1; rwa [cells8_len] at this
  rw [hB.cell]
  show (wsL l).toArray[k * 8 + j]? = _
  rw [List.getElem?_toArray, wsL_at l k n j h hj]
  exact hv

/-- Cells from o on, others in their places. -/
def putC (cs : Array Value) : Nat → List Value → Array Value
  | _, [] => cs
  | o, v :: r => putC (cs.setIfInBounds o v) (o + 1) r
theorem putC_size : ∀ (vs : List Value) (o : Nat) (cs : Array Value), (putC cs o vs).size = cs.size
  | [], _, _ => rfl
  | v :: r, o, cs => by
    show (putC (cs.setIfInBounds o v) (o + 1) r).size = _
    rw [putC_size r]
    simp
theorem putC_low : ∀ (vs : List Value) (o j : Nat) (cs : Array Value), j < o → (putC cs o vs)[j]? = cs[j]?
  | [], _, _, _, _ => rfl
  | v :: r, o, j, cs, h => by
    show (putC (cs.setIfInBounds o v) (o + 1) r)[j]? = _
    rw [putC_low r (o + 1) j _ (by omega), Array.getElem?_setIfInBounds_ne (by omega)]
theorem putC_high : ∀ (vs : List Value) (o j : Nat) (cs : Array Value), o + vs.length ≤ j → (putC cs o vs)[j]? = cs[j]?
  | [], _, _, _, _ => rfl
  | v :: r, o, j, cs, h => by
    simp only [List.length_cons] at h
    show (putC (cs.setIfInBounds o v) (o + 1) r)[j]? = _
    rw [putC_high r (o + 1) j _ (by omega), Array.getElem?_setIfInBounds_ne (by omega)]
theorem putC_mid : ∀ (vs : List Value) (o i : Nat) (cs : Array Value), i < vs.length → o + vs.length ≤ cs.size → (putC cs o vs)[o + i]? = vs[i]?
  | [], _, _, _, h, _ => by simp at h
  | v :: r, o, 0, cs, _, hs => by
    simp only [List.length_cons] at hs
    show (putC (cs.setIfInBounds o v) (o + 1) r)[o + 0]? = _
    rw [putC_low r (o + 1) (o + 0) _ (by omega), Nat.add_zero, Array.getElem?_setIfInBounds_self_of_lt (by omega)]
    rfl
  | v :: r, o, i + 1, cs, h, hs => by
    simp only [List.length_cons] at h hs
    show (putC (cs.setIfInBounds o v) (o + 1) r)[o + (i + 1)]? = _
    rw [show o + (i + 1) = o + 1 + i by omega, putC_mid r (o + 1) i _ (by omega) (by simp; omega)]
    rfl
theorem putC_ws (l : List Nat) (k n : Nat) (hk : k < l.length) : putC (ws l) (k * 8) (cells8 n).toList = ws (l.set k n) := by
  apply Array.ext_getElem?
  intro j
  have hsz := ws_size l
  have hsz2 := ws_size (l.set k n)
  rw [List.length_set] at hsz2
  by_cases hj : j < 8 * l.length
  · have hq : j / 8 < l.length := by omega
    have e : j = j / 8 * 8 + j % 8 := by omega
    have hr : j % 8 < 8 := by omega
    have h2 : (ws (l.set k n))[j]? = (cells8 ((l.set k n)[j / 8]'(by rw [List.length_set]; exact hq))).toList[j % 8]? := by
      show (wsL (l.set k n)).toArray[j]? = _
      rw [List.getElem?_toArray]
      conv => lhs; rw [e]
      exact wsL_at _ _ _ _ (List.getElem?_eq_getElem _) hr
    rw [h2]
    by_cases hq2 : j / 8 = k
    · have e2 : j = k * 8 + j % 8 := by omega
      have h3 := putC_mid (cells8 n).toList (k * 8) (j % 8) (ws l) (by rw [cells8_len]; exact hr) (by rw [cells8_len, hsz]; omega)
      rw [← e2] at h3
      rw [h3, List.getElem_set, if_pos hq2.symm]
    · have h3 : (ws l)[j]? = (cells8 (l[j / 8])).toList[j % 8]? := by
        show (wsL l).toArray[j]? = _
        rw [List.getElem?_toArray]
        conv => lhs; rw [e]
        exact wsL_at _ _ _ _ (List.getElem?_eq_getElem _) hr
      rw [List.getElem_set, if_neg (fun h => hq2 h.symm), ← h3]
      rcases Nat.lt_or_ge j (k * 8) with g | g
      · exact putC_low _ _ _ _ g
      · exact putC_high _ _ _ _ (by rw [cells8_len]; omega)
  · rw [Array.getElem?_eq_none (by rw [putC_size, hsz]; omega), Array.getElem?_eq_none (by rw [hsz2]; omega)]
theorem Blk.putC {t : TypeId} {g : Nat} : ∀ (vs : List Value) (o : Nat) (cs : Array Value) (w : World), Blk w g t cs → Blk (w.setCells g o vs) g t (putC cs o vs)
  | [], _, _, _, h => h
  | v :: r, o, cs, w, h => Blk.putC r (o + 1) _ _ (h.set o v)
theorem Blk.putOther {t : TypeId} {g b : Nat} {cs : Array Value} (hne : g ≠ b) : ∀ (vs : List Value) (o : Nat) (w : World), Blk w g t cs → Blk (w.setCells b o vs) g t cs
  | [], _, _, h => h
  | v :: r, o, w, h => Blk.putOther hne r (o + 1) _ (h.other ⟨b, o, none⟩ v hne)
theorem below_cells {n b : Nat} {w0 : World} (hb : n ≤ b) : ∀ (vs : List Value) (o : Nat) (w : World), Below n w0 w → Below n w0 (w.setCells b o vs)
  | [], _, _, h => h
  | v :: r, o, w, h => below_cells hb r (o + 1) _ (h.setCell (p := ⟨b, o, none⟩) hb v)
/-- A number into an array that stands first in the list. -/
theorem Gen.setW {w0 w : World} {l : List (Nat × TypeId × Array Value)} {g k n : Nat} {t : TypeId} {ns : List Nat} (d : Gen w0 ((g, t, ws ns) :: l) w) (hk : k < ns.length) (hg : w0.heap.size ≤ g) (hl : ∀ p ∈ l, p.1 ≠ g) : Gen w0 ((g, t, ws (ns.set k n)) :: l) (w.setCells g (k * 8) (cells8 n).toList) := by
  refine ⟨fun p hp => ?_, below_cells hg _ _ _ d.o⟩
  rcases List.mem_cons.1 hp with e | hp
  · subst e
    have h := Blk.putC (cells8 n).toList (k * 8) _ _ (d.at_ _ List.mem_cons_self)
    rwa [putC_ws ns k n hk] at h
  · exact Blk.putOther (hl p hp) _ _ _ (d.at_ p (List.mem_cons_of_mem _ hp))
theorem ws_there {w : World} {g : Nat} {t : TypeId} {ns : List Nat} (h : Blk w g t (ws ns)) {k : Nat} (hk : k < ns.length) : w.there g (k * 8) 8 := by
  intro j hj
  refine ⟨?_, h.frozen _⟩
  rw [h.cell, Array.getElem?_eq_getElem (by rw [ws_size]; omega)]
  rfl

end Go.Proofs.YtnemedgdhojhdaaGreat

namespace Go.Proofs.YtnemedgdhojhdaaGreat
open Go.RowKit
set_option maxRecDepth 4000
set_option linter.unusedVariables false

theorem wsL_one : ∀ l : List Nat, (wsL l).all (·.oneCell') = true
  | [] => rfl
  | n :: r => by
    show ((cells8 n).toList ++ wsL r).all (·.oneCell') = true
    rw [List.all_append, wsL_one r, Bool.and_true]
    simpa using cells8_one n
theorem ws_one (l : List Nat) : (ws l).all (·.oneCell') = true := by
  show ((wsL l).toArray).all (·.oneCell') = true
  simpa using wsL_one l
/-- The cells of a quaternion, of a part. -/
abbrev q4 (a b c d : Int) : Array Value := #[.int .i64 a, .int .i64 b, .int .i64 c, .int .i64 d]
theorem q4_one (a b c d : Int) : (q4 a b c d).all (·.oneCell') = true := by simp [Value.oneCell']
theorem exec_build4 {P : Program} {o : Oper} {a : Act} (w : World) (ty : TypeId) (x y z t : Operand) {u v r s : Value} {cs : Array Value} (ho : o.op = .build ty #[(0, x), (1, y), (2, z), (3, t)]) (hx : a.eval x = u) (hy : a.eval y = v) (hz : a.eval z = r) (ht : a.eval t = s) (hb : P.built ty [(0, u), (1, v), (2, r), (3, s)] = some cs) :
    (execOp a.eval o).run P w = .ok (.value (.agg cs)) w := by
  subst hx hy hz ht
  unfold execOp
  simp only [ho, Sem.run_bind, run_build w ty (#[(0, x), (1, y), (2, z), (3, t)].map fun (i, x) => (i, a.eval x)) cs (by simpa using hb), Result.andThen_ok, Sem.run_pure]
abbrev z32 : Array Value := #[.int .u64 0, .int .u64 0, .int .u64 0, .int .u64 0, .int .u64 0, .int .u64 0, .int .u64 0, .int .u64 0, .int .u64 0, .int .u64 0, .int .u64 0, .int .u64 0, .int .u64 0, .int .u64 0, .int .u64 0, .int .u64 0, .int .u64 0, .int .u64 0, .int .u64 0, .int .u64 0, .int .u64 0, .int .u64 0, .int .u64 0, .int .u64 0, .int .u64 0, .int .u64 0, .int .u64 0, .int .u64 0, .int .u64 0, .int .u64 0, .int .u64 0, .int .u64 0]
end Go.Proofs.YtnemedgdhojhdaaGreat

namespace Go.Proofs.YtnemedgdhojhdaaGreat
open Go.RowKit
set_option maxRecDepth 4000
set_option linter.unusedVariables false

theorem run_sizeOf {P : Program} {t : TypeId} {n : Nat} (h : (P.info? t).map (·.size) = some n) (w : World) : (sizeOf t).run P w = .ok n w := by
  cases hq : P.info? t with
  | none => simp [hq] at h
  | some i => simp [hq] at h; simp [sizeOf, typeInfo, hq, h]
theorem exec_loadIG {o : Oper} {a : Act} {w w0 : World} {l : List (Nat × TypeId × Array Value)} (d : Gen w0 l w) {g i : Nat} {t : TypeId} {cs : Array Value} {z : Int} (x : Operand) (ho : o.op = .load 3 x) (hx : a.eval x = .pointer (some ⟨g, i, none⟩)) (hm : (g, t, cs) ∈ l) (hc : cs[i]? = some (.int .i64 z)) :
    (execOp a.eval o).run Tryz.prog w = .ok (.value (.int .i64 z)) w := by
  have hcc : w.cell? ⟨g, i, none⟩ = some (.int .i64 z) := (d.blk hm).cell i ▸ hc
  unfold execOp
  simp only [ho, hx]
  go_simp
theorem exec_loadJG {o : Oper} {a : Act} {w w0 : World} {l : List (Nat × TypeId × Array Value)} (d : Gen w0 l w) {g i : Nat} {t : TypeId} {cs : Array Value} {z : Int} (x : Operand) (ho : o.op = .load 2 x) (hx : a.eval x = .pointer (some ⟨g, i, none⟩)) (hm : (g, t, cs) ∈ l) (hc : cs[i]? = some (.int .i64 z)) :
    (execOp a.eval o).run Tryz.prog w = .ok (.value (.int .i64 z)) w := by
  have hcc : w.cell? ⟨g, i, none⟩ = some (.int .i64 z) := (d.blk hm).cell i ▸ hc
  unfold execOp
  simp only [ho, hx]
  go_simp
theorem Gen.pair {u w0 : World} {g0 g1 : Nat} {t0 t1 : TypeId} {c0 c1 : Array Value} (h0 : Blk u g0 t0 c0) (h1 : Blk u g1 t1 c1) (o : Below w0.heap.size w0 u) : Gen w0 [(g0, t0, c0), (g1, t1, c1)] u := by
  refine ⟨fun p hp => ?_, o⟩
  simp only [List.mem_cons, List.not_mem_nil, or_false] at hp
  rcases hp with rfl | rfl
  · exact h0
  · exact h1
end Go.Proofs.YtnemedgdhojhdaaGreat

namespace Go.Proofs.YtnemedgdhojhdaaGreat
open Go.RowKit
set_option maxRecDepth 4000
set_option linter.unusedVariables false

/-- A table of parts in the variable's block. -/
def Tab (g : Nat) (T : Array Value) (w : World) : Prop := ∃ t fr, w.heap[g]? = some (.cells T t fr)
theorem Tab.below {g : Nat} {T : Array Value} {w w' : World} {B : Nat} (h : Tab g T w) (hb : Below B w w') (hg : g < B) : Tab g T w' := by
  obtain ⟨t, fr, h⟩ := h
  exact ⟨t, fr, (hb.block g hg).trans h⟩
theorem Tab.lt {g : Nat} {T : Array Value} {w : World} (h : Tab g T w) : g < w.heap.size := by
  obtain ⟨t, fr, h⟩ := h
  exact (Array.getElem?_eq_some_iff.1 h).1
theorem exec_loadT {o : Oper} {a : Act} {w : World} {g k : Nat} {T : Array Value} {ty : TypeId} (hr : Rw ty k) (x : Operand) (ho : o.op = .load ty x) (hx : a.eval x = .pointer (some ⟨g, 0, none⟩)) (h : Tab g T w) (hk : T.size = k) : (execOp a.eval o).run Tryz.prog w = .ok (.value (.agg T)) w := by
  obtain ⟨⟨dd, hu, hd⟩, hi⟩ := hr
  obtain ⟨t, fr, h⟩ := h
  unfold execOp
  simp only [ho, hx, Instr.loadAt, Instr.sureAddr, Sem.run_bind, Sem.run_pure, Result.andThen_ok, run_loadVar_row w g t ty T fr dd h hu (by cases dd <;> first | rfl | cases hd) (hk ▸ hi)]
theorem exec_idxT {o : Oper} {a : Act} (w : World) {T : Array Value} {ty : TypeId} {i : Int} {v : Value} (x y : Operand) (hI : (Instr.index ty (.agg T) (.int .i64 i)).run Tryz.prog w = .ok v w) (ho : o.op = .index ty x y) (hx : a.eval x = .agg T) (hy : a.eval y = .int .i64 i) : (execOp a.eval o).run Tryz.prog w = .ok (.value v) w := by
  unfold execOp
  simp only [ho, hx, hy, Sem.run_bind, hI, Result.andThen_ok, Sem.run_pure]
theorem z32_ws : z32 = ws [0, 0, 0, 0] := by kernel_rfl
end Go.Proofs.YtnemedgdhojhdaaGreat

namespace Go.Proofs.YtnemedgdhojhdaaGreat
open Go.RowKit
set_option maxRecDepth 4000
set_option linter.unusedVariables false

/-- The parts of a product: which number, the sign, which two. -/
def ptL : List (Nat × Int × Nat × Nat) := [(0, 1, 0, 0), (0, -1, 1, 1), (0, -1, 2, 2), (0, -1, 3, 3), (1, 1, 0, 1), (1, 1, 1, 0), (1, 1, 2, 3), (1, -1, 3, 2), (2, 1, 0, 2), (2, 1, 2, 0), (2, 1, 3, 1), (2, -1, 1, 3), (3, 1, 0, 3), (3, 1, 3, 0), (3, 1, 1, 2), (3, -1, 2, 1)]
def ptA (k : Nat) : Nat := (ptL.getD k (0, 0, 0, 0)).1
def ptS (k : Nat) : Int := (ptL.getD k (0, 0, 0, 0)).2.1
def ptF (k : Nat) : Nat := (ptL.getD k (0, 0, 0, 0)).2.2.1
def ptG (k : Nat) : Nat := (ptL.getD k (0, 0, 0, 0)).2.2.2
def tabP : Array Value := (ptL.flatMap fun p => [.int .i64 p.1, .int .i64 p.2.1, .int .i64 p.2.2.1, .int .i64 p.2.2.2]).toArray
theorem lt16 {k : Nat} (h : k < 16) : k = 0 ∨ k = 1 ∨ k = 2 ∨ k = 3 ∨ k = 4 ∨ k = 5 ∨ k = 6 ∨ k = 7 ∨ k = 8 ∨ k = 9 ∨ k = 10 ∨ k = 11 ∨ k = 12 ∨ k = 13 ∨ k = 14 ∨ k = 15 := by omega
theorem ptA_lt (k : Nat) (h : k < 16) : ptA k < 4 := by
  rcases lt16 h with rfl | rfl | rfl | rfl | rfl | rfl | rfl | rfl | rfl | rfl | rfl | rfl | rfl | rfl | rfl | rfl <;> decide
theorem ptF_lt (k : Nat) (h : k < 16) : ptF k < 4 := by
  rcases lt16 h with rfl | rfl | rfl | rfl | rfl | rfl | rfl | rfl | rfl | rfl | rfl | rfl | rfl | rfl | rfl | rfl <;> decide
theorem ptG_lt (k : Nat) (h : k < 16) : ptG k < 4 := by
  rcases lt16 h with rfl | rfl | rfl | rfl | rfl | rfl | rfl | rfl | rfl | rfl | rfl | rfl | rfl | rfl | rfl | rfl <;> decide
theorem ptS_sz (k : Nat) (h : k < 16) : -2 ≤ ptS k ∧ ptS k ≤ 2 := by
  rcases lt16 h with rfl | rfl | rfl | rfl | rfl | rfl | rfl | rfl | rfl | rfl | rfl | rfl | rfl | rfl | rfl | rfl <;> decide
/-- Four numbers, by their places. -/
def n4 (a b c d : Int) (k : Nat) : Int := if k = 0 then a else if k = 1 then b else if k = 2 then c else d
theorem n4_all {P : Int → Prop} {a b c d : Int} (ha : P a) (hb : P b) (hc : P c) (hd : P d) (k : Nat) : P (n4 a b c d k) := by
  unfold n4
  split
  · exact ha
  · split
    · exact hb
    · split
      · exact hc
      · exact hd
theorem n4_get {a b c d : Int} {k : Nat} (h : k < 4) : [enc a, enc b, enc c, enc d][k]? = some (enc (n4 a b c d k)) := by
  rcases (show k = 0 ∨ k = 1 ∨ k = 2 ∨ k = 3 by omega) with rfl | rfl | rfl | rfl <;> rfl
/-- A sum's numbers behind so many parts. -/
def acc (A F G : Nat → Nat) (S : Nat → Int) (p q : Nat → Int) : Nat → Nat → Int
  | 0, _ => 0
  | k + 1, j => if j = A k then acc A F G S p q k j + p (F k) * q (G k) * S k else acc A F G S p q k j
theorem acc_sz {A F G : Nat → Nat} {S : Nat → Int} {p q : Nat → Int} (hp : ∀ k, Sz 63 (p k)) (hq : ∀ k, Sz 63 (q k)) {n : Nat} (hS : ∀ k, k < n → Sz 1 (S k)) : ∀ k j, k ≤ n → Sz (128 + k) (acc A F G S p q k j)
  | 0, _, _ => by unfold acc Sz; exact Nat.zero_le _
  | k + 1, j, h => by
    have ih := acc_sz (A := A) (F := F) (G := G) hp hq hS k j (by omega)
    unfold acc
    split
    · have t : Sz 127 (p (F k) * q (G k) * S k) := ((hp _).mul (hq _)).mul (hS k (by omega))
      exact ih.add (t.mono (by omega))
    · exact ih.mono (by omega)
theorem acc_at {A F G : Nat → Nat} {S : Nat → Int} {p q : Nat → Int} (k : Nat) : acc A F G S p q (k + 1) (A k) = acc A F G S p q k (A k) + p (F k) * q (G k) * S k := by
  show (if _ then _ else _) = _
  rw [if_pos rfl]
theorem acc_else {A F G : Nat → Nat} {S : Nat → Int} {p q : Nat → Int} (k : Nat) {j : Nat} (h : j ≠ A k) : acc A F G S p q (k + 1) j = acc A F G S p q k j := by
  show (if _ then _ else _) = _
  rw [if_neg h]
def ac4 (f : Nat → Int) : List Nat := [enc (f 0), enc (f 1), enc (f 2), enc (f 3)]
theorem ac4_get {f : Nat → Int} {k : Nat} (h : k < 4) : (ac4 f)[k]? = some (enc (f k)) := by
  rcases (show k = 0 ∨ k = 1 ∨ k = 2 ∨ k = 3 by omega) with rfl | rfl | rfl | rfl <;> rfl
theorem ac4_set {f g : Nat → Int} {m : Nat} (hm : m < 4) (he : ∀ j, j ≠ m → g j = f j) : ac4 g = (ac4 f).set m (enc (g m)) := by
  unfold ac4
  rcases (show m = 0 ∨ m = 1 ∨ m = 2 ∨ m = 3 by omega) with rfl | rfl | rfl | rfl
  · rw [he 1 (by omega), he 2 (by omega), he 3 (by omega)]; rfl
  · rw [he 0 (by omega), he 2 (by omega), he 3 (by omega)]; rfl
  · rw [he 0 (by omega), he 1 (by omega), he 3 (by omega)]; rfl
  · rw [he 0 (by omega), he 1 (by omega), he 2 (by omega)]; rfl
theorem sz_two {s : Int} (h : -2 ≤ s ∧ s ≤ 2) : Sz 1 s := by
  unfold Sz
  have : (2 : Nat) ^ 1 = 2 := rfl
  omega
/-- The numbers of a product. -/
def prd (p0 p1 p2 p3 q0 q1 q2 q3 : Int) (k j : Nat) : Int := acc ptA ptF ptG ptS (n4 p0 p1 p2 p3) (n4 q0 q1 q2 q3) k j
theorem prd_sz {p0 p1 p2 p3 q0 q1 q2 q3 : Int} (hp : ∀ j, Sz 63 (n4 p0 p1 p2 p3 j)) (hq : ∀ j, Sz 63 (n4 q0 q1 q2 q3 j)) (k j : Nat) (h : k ≤ 16) : Sz (128 + k) (prd p0 p1 p2 p3 q0 q1 q2 q3 k j) :=
  acc_sz hp hq (n := 16) (fun k hk => sz_two (ptS_sz k hk)) k j h
end Go.Proofs.YtnemedgdhojhdaaGreat
