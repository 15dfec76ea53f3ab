/- Rows of points that a slice holds; package orient: raise, refusal and what it asks. -/
import Derived.Test.YtnemedgdhojhdaaGreatHa
import Derived.ScopeJumps
import Derived.WalkMore
namespace Go.Proofs.YtnemedgdhojhdaaGreat
open Go.RowKit
set_option maxRecDepth 4000
set_option linter.unusedVariables false

theorem raise_0 (A : Option Addr) (c : Nat) (w : World) : Calls Tryz.prog 172 #[.slice A 0 c] w fun e w' => e = .returned (.func (Fn.func 182) #[.slice A 0 c] #[]) ∧ Below w.heap.size w w' := by
  go_enter Tryz.func172, Tryz.ntmps172
  go_wp2
  go_ret
  exact ⟨rfl, Below.refl _ _⟩
theorem raise_1 (A : Option Addr) (c : Nat) (w : World) : Calls Tryz.prog 172 #[.slice A 1 c] w fun e w' => e = .returned (.func (Fn.func 183) #[.slice A 1 c] #[]) ∧ Below w.heap.size w w' := by
  go_enter Tryz.func172, Tryz.ntmps172
  go_wp2
  go_ret
  exact ⟨rfl, Below.refl _ _⟩
theorem raise_2 (A : Option Addr) (c : Nat) (w : World) : Calls Tryz.prog 172 #[.slice A 2 c] w fun e w' => e = .returned (.func (Fn.func 184) #[.slice A 2 c] #[]) ∧ Below w.heap.size w w' := by
  go_enter Tryz.func172, Tryz.ntmps172
  go_wp2
  go_ret
  exact ⟨rfl, Below.refl _ _⟩
theorem raise_3 (A : Option Addr) (c : Nat) (w : World) : Calls Tryz.prog 172 #[.slice A 3 c] w fun e w' => e = .returned (.func (Fn.func 185) #[.slice A 3 c] #[]) ∧ Below w.heap.size w w' := by
  go_enter Tryz.func172, Tryz.ntmps172
  go_wp2
  go_ret
  exact ⟨rfl, Below.refl _ _⟩
theorem raise_more (A : Option Addr) (n c : Nat) (h : 4 ≤ n) (w : World) : Calls Tryz.prog 172 #[.slice A n c] w fun e w' => e = .returned (.func (Fn.func 186) #[.slice A n c] #[]) ∧ Below w.heap.size w w' := by
  have e0 : ((n : Int) == 0) = false := by simpa using (show (n : Int) ≠ 0 by omega)
  have e1 : ((n : Int) == 1) = false := by simpa using (show (n : Int) ≠ 1 by omega)
  have e2 : ((n : Int) == 2) = false := by simpa using (show (n : Int) ≠ 2 by omega)
  have e3 : ((n : Int) == 3) = false := by simpa using (show (n : Int) ≠ 3 by omega)
  go_enter Tryz.func172, Tryz.ntmps172
  go_wp2
  go_ret
  exact ⟨rfl, Below.refl _ _⟩
/-- What tells the signs, by how many were taken. -/
def sgF : Nat → FuncId
  | 0 => 182
  | 1 => 183
  | 2 => 184
  | 3 => 185
  | _ => 186
theorem RaiseO (A : Option Addr) (n c : Nat) : Ans 172 #[.slice A n c] (.func (Fn.func (sgF n)) #[.slice A n c] #[]) := fun w => by
  rcases (show n = 0 ∨ n = 1 ∨ n = 2 ∨ n = 3 ∨ 4 ≤ n by omega) with rfl | rfl | rfl | rfl | h
  · exact raise_0 A c w
  · exact raise_1 A c w
  · exact raise_2 A c w
  · exact raise_3 A c w
  · have e : sgF n = 186 := by
      match n, h with
      | n + 4, _ => rfl
    rw [e]
    exact raise_more A n c h w
abbrev Pt := Int × Int × Int
/-- What a slice of points holds. -/
def PRow (w : World) (A : Option Addr) (n : Nat) (ps : Nat → Pt) : Prop := n = 0 ∨ ∃ g off, A = some ⟨g, off, none⟩ ∧ g < w.heap.size ∧ ∀ i, i < n → w.rangeAt g (off + i * 3) (v3 (ps i).1 (ps i).2.1 (ps i).2.2).toList
theorem PRow.below {w u : World} {A : Option Addr} {n : Nat} {ps : Nat → Pt} (h : PRow w A n ps) (hb : Below w.heap.size w u) : PRow u A n ps := by
  rcases h with h | ⟨g, off, h1, h2, h3⟩
  · exact .inl h
  · exact .inr ⟨g, off, h1, Nat.lt_of_lt_of_le h2 hb.size, fun i hi => at_below (h3 i hi) hb h2⟩
theorem PRow.take {w : World} {A : Option Addr} {n m : Nat} {ps : Nat → Pt} (h : PRow w A n ps) (hm : m ≤ n) : PRow w A m ps := by
  rcases h with h | ⟨g, off, h1, h2, h3⟩
  · exact .inl (by omega)
  · exact .inr ⟨g, off, h1, h2, fun i hi => h3 i (by omega)⟩
/-- May the point be? -/
def chkQ (p : Pt) : Bool := chkP p.1 p.2.1 p.2.2
set_option maxHeartbeats 4000000 in
theorem refusal_areFew (e r : Int) (A : Option Addr) (n c : Nat) (ps : Nat → Pt) (w : World) (hn : n ≤ 9223372036854775807) (hP : Hid (PRow w A n ps)) (hbad : Hid (∀ i, i < n → chkQ (ps i) = false → r = 7))
    (hok : Hid ((∀ i, i < n → chkQ (ps i) = true) → ∃ b : Bool, (∀ u, Below w.heap.size w u → Calls Tryz.prog 148 #[.slice A n c] u fun x w' => x = .returned (.bool b) ∧ Below u.heap.size u w') ∧ r = (bif b then 0 else e))) :
    Calls Tryz.prog 147 #[.int .i64 e, .func (Fn.func 148) #[] #[], .slice A n c] w fun x w' => x = .returned (.int .i64 r) ∧ Below w.heap.size w w' := by
  go_enter Tryz.func147, Tryz.ntmps147
  go_wp2
  refine wp_scope_jumps 0 (fun a' w' => r = 7 ∧ Below w.heap.size w w' ∧ ∃ v1 v2 v3 v4 v5 v6 v7 v8 v9 v10 v11 v12 v13 v14 v15 v16 v17 v18 v19 v20 v21 v22 : Value, a' = { tmps := #[.int .i64 7, v1, v2, v3, v4, v5, v6, v7, v8, v9, v10, v11, v12, v13, v14, v15, v16, v17, v18, v19, v20, v21, v22], defers := [] }) (fun _ _ => 0) rfl ?first ?pass
  case pass =>
    rintro a' w' ⟨rfl, hb, v1, v2, v3, v4, v5, v6, v7, v8, v9, v10, v11, v12, v13, v14, v15, v16, v17, v18, v19, v20, v21, v22, rfl⟩
    have HB := hide hb
    clear hb hbad hok hP
    go_wp2
    simp only [Exit.jump]
    go_ret
    exact ⟨rfl, unhide HB⟩
  case first =>
    go_wp2
    go_loopw [0, 11] (fun e' i wr => ∃ k : Nat, k ≤ n ∧ e' = .int .i64 e ∧ i = .int .i64 k ∧ Hid (∀ j, j < k → chkQ (ps j) = true) ∧ Hid (Below w.heap.size w wr)) (fun _ i _ => n - (intOf i).toNat)
    case atStart => exact ⟨0, Nat.zero_le _, rfl, rfl, fun j hj => absurd hj (by omega), Below.refl _ _⟩
    case round =>
      obtain ⟨k, hk, rfl, rfl, hall, hB⟩ := hrel
      by_cases hkn : k < n
      · obtain ⟨g, off, rfl, hg, hr⟩ := (unhide hP).resolve_left (by omega)
        have D := hide (Gen.start wr)
        have hrk := hide (at_below (hr k hkn) (unhide hB) hg)
        have hst := (unhide hB).size
        clear hok
        cases hc : chkQ (ps k)
        · have hC0 := CheckZ (ps k).1 (ps k).2.1 (ps k).2.2
          have hc2 := hc
          unfold chkQ at hc2
          rw [hc2, if_neg (by decide)] at hC0
          have hC := hide hC0
          have h7 := hide (unhide hbad k hkn hc)
          clear hbad hall hr hc hc2 hC0
          go_wp2_with (first | (with_reducible refine at_list ?_;  refine wpList_value rfl (exec_ixP _ elPoints _ _ hkn rfl rfl rfl) ?_) | (with_reducible refine at_list ?_;  refine wpList_value rfl (exec_ldP _ rfl rfl (unhide hrk)) ?_) | (with_reducible refine at_list ?_; refine stG (unhide D) rPoint _ _ rfl rfl rfl rfl rfl rfl (v3_one' _ _ _) ?_; intro D'; have D := hide D'; clear D') | (with_reducible refine at_list ?_; apply ldG (unhide D) rPoint _ rfl rfl rfl (by repeat (first | exact List.mem_cons_self | apply List.mem_cons_of_mem)) rfl) | (go_at_call 108; with_reducible refine (unhide hC _).mono ?_; rintro e w' ⟨he, hb⟩; subst he; have D := hide ((unhide D).keep hb); clear hb))
          go_step3
          exact ⟨rfl, unhide h7, (unhide hB).trans ((unhide D).o.mono hst), _, _, _, _, _, _, _, _, _, _, _, _, _, _, _, _, _, _, _, _, _, _, rfl⟩
        · have hC0 := CheckZ (ps k).1 (ps k).2.1 (ps k).2.2
          have hc2 := hc
          unfold chkQ at hc2
          rw [hc2, if_pos rfl] at hC0
          have hC := hide hC0
          have hall2 : Hid (∀ j, j < k + 1 → chkQ (ps j) = true) := fun j hj => by
            rcases (show j < k ∨ j = k by omega) with h | h
            · exact unhide hall j h
            · rw [h]; exact hc
          clear hbad hall hr hc hc2 hC0
          go_wp2_with (first | (with_reducible refine at_list ?_;  refine wpList_value rfl (exec_ixP _ elPoints _ _ hkn rfl rfl rfl) ?_) | (with_reducible refine at_list ?_;  refine wpList_value rfl (exec_ldP _ rfl rfl (unhide hrk)) ?_) | (with_reducible refine at_list ?_; refine stG (unhide D) rPoint _ _ rfl rfl rfl rfl rfl rfl (v3_one' _ _ _) ?_; intro D'; have D := hide D'; clear D') | (with_reducible refine at_list ?_; apply ldG (unhide D) rPoint _ rfl rfl rfl (by repeat (first | exact List.mem_cons_self | apply List.mem_cons_of_mem)) rfl) | (go_at_call 108; with_reducible refine (unhide hC _).mono ?_; rintro e w' ⟨he, hb⟩; subst he; have D := hide ((unhide D).keep hb); clear hb))
          go_roundw
          case rel => exact ⟨k + 1, by omega, rfl, by go_num, hall2, (unhide hB).trans ((unhide D).o.mono hst)⟩
          case measure => simp [intOf]; omega
      · obtain rfl : k = n := by omega
        obtain ⟨b, hF0, hr0⟩ := unhide hok (fun i hi => unhide hall i hi)
        have hF := hide (hF0 wr (unhide hB))
        have hst := (unhide hB).size
        have D := hide (Gen.start wr)
        clear hok hall hbad hF0 hP
        cases b
        · have hr1 := hide hr0
          clear hr0
          go_wp2_with (first | (go_at_call 148; with_reducible refine (unhide hF).mono ?_; rintro e w' ⟨he, hb⟩; subst he; have D := hide ((unhide D).keep hb); clear hb))
          go_step3
          go_wp2
          simp only [Exit.jump]
          go_ret
          exact ⟨by rw [unhide hr1]; rfl, (unhide hB).trans ((unhide D).o.mono hst)⟩
        · have hr1 := hide hr0
          clear hr0
          go_wp2_with (first | (go_at_call 148; with_reducible refine (unhide hF).mono ?_; rintro e w' ⟨he, hb⟩; subst he; have D := hide ((unhide D).keep hb); clear hb))
          simp only [Exit.jump]
          go_ret
          exact ⟨by rw [unhide hr1]; rfl, (unhide hB).trans ((unhide D).o.mono hst)⟩
theorem few_core (A : Option Addr) (n c : Nat) (b : Bool) (hb : decide ((n : Int) ≤ 256) = b) : Ans 148 #[.slice A n c] (.bool b) := fun w => by
  have hb' := hide hb
  clear hb
  go_enter Tryz.func148, Tryz.ntmps148
  go_wp2_with (first | (with_reducible refine at_list ?_;  refine leqZ _ _ (unhide hb') rfl rfl rfl rfl ?_))
  go_ret
  exact ⟨rfl, Below.refl _ _⟩
/-- May all of them be? -/
def allQ (n : Nat) (ps : Nat → Pt) : Bool := (List.range n).all fun i => chkQ (ps i)
theorem allQ_iff {n : Nat} {ps : Nat → Pt} : allQ n ps = true ↔ ∀ i, i < n → chkQ (ps i) = true := by
  unfold allQ
  rw [List.all_eq_true]
  exact ⟨fun h i hi => h i (List.mem_range.2 hi), fun h i hi => h i (List.mem_range.1 hi)⟩
theorem bad_not {n : Nat} {ps : Nat → Pt} {i : Nat} (hi : i < n) (h : chkQ (ps i) = false) : allQ n ps = false := by
  cases e : allQ n ps with
  | false => rfl
  | true => rw [allQ_iff.1 e i hi] at h; cases h
theorem RefFew (e : Int) (A : Option Addr) (n c : Nat) (ps : Nat → Pt) (w : World) (hn : n ≤ 9223372036854775807) (hP : PRow w A n ps) :
    Calls Tryz.prog 147 #[.int .i64 e, .func (Fn.func 148) #[] #[], .slice A n c] w fun x w' => x = .returned (.int .i64 (bif allQ n ps then (bif decide ((n : Int) ≤ 256) then 0 else e) else 7)) ∧ Below w.heap.size w w' :=
  refusal_areFew e _ A n c ps w hn hP (fun i hi h => by rw [bad_not hi h]; rfl) (fun h => ⟨_, fun u _ => few_core A n c _ rfl u, by rw [allQ_iff.2 h]; rfl⟩)
/-- The cells of three and of four points. -/
def w9 (a1 a2 a3 b1 b2 b3 c1 c2 c3 : Int) : Array Value := #[.int .i64 a1, .int .i64 a2, .int .i64 a3, .int .i64 b1, .int .i64 b2, .int .i64 b3, .int .i64 c1, .int .i64 c2, .int .i64 c3]
def w12 (a1 a2 a3 b1 b2 b3 c1 c2 c3 d1 d2 d3 : Int) : Array Value := #[.int .i64 a1, .int .i64 a2, .int .i64 a3, .int .i64 b1, .int .i64 b2, .int .i64 b3, .int .i64 c1, .int .i64 c2, .int .i64 c3, .int .i64 d1, .int .i64 d2, .int .i64 d3]
/-- The points of a list, by their places. -/
def nthP (l : List Pt) (i : Nat) : Pt := l.getD i (0, 0, 0)
theorem rangeAt3 {u : World} {g k : Nat} {x y z : Int} (h0 : u.cell? ⟨g, k, none⟩ = some (.int .i64 x)) (h1 : u.cell? ⟨g, k + 1, none⟩ = some (.int .i64 y)) (h2 : u.cell? ⟨g, k + 2, none⟩ = some (.int .i64 z)) : u.rangeAt g k (v3 x y z).toList := by
  intro j v hv
  match j, hv with
  | 0, hv => cases hv; exact h0
  | 1, hv => cases hv; exact h1
  | 2, hv => cases hv; exact h2
theorem PRow.three {u : World} {g : Nat} {a1 a2 a3 b1 b2 b3 c1 c2 c3 : Int} (h : Blk u g 64 (w9 a1 a2 a3 b1 b2 b3 c1 c2 c3)) : PRow u (some ⟨g, 0, none⟩) 3 (nthP [(a1, a2, a3), (b1, b2, b3), (c1, c2, c3)]) := by
  refine .inr ⟨g, 0, rfl, h.lt, fun i hi => ?_⟩
  match i, hi with
  | 0, _ => exact rangeAt3 (h.cell 0) (h.cell 1) (h.cell 2)
  | 1, _ => exact rangeAt3 (h.cell 3) (h.cell 4) (h.cell 5)
  | 2, _ => exact rangeAt3 (h.cell 6) (h.cell 7) (h.cell 8)
theorem PRow.four {u : World} {g : Nat} {a1 a2 a3 b1 b2 b3 c1 c2 c3 d1 d2 d3 : Int} (h : Blk u g 64 (w12 a1 a2 a3 b1 b2 b3 c1 c2 c3 d1 d2 d3)) : PRow u (some ⟨g, 0, none⟩) 4 (nthP [(a1, a2, a3), (b1, b2, b3), (c1, c2, c3), (d1, d2, d3)]) := by
  refine .inr ⟨g, 0, rfl, h.lt, fun i hi => ?_⟩
  match i, hi with
  | 0, _ => exact rangeAt3 (h.cell 0) (h.cell 1) (h.cell 2)
  | 1, _ => exact rangeAt3 (h.cell 3) (h.cell 4) (h.cell 5)
  | 2, _ => exact rangeAt3 (h.cell 6) (h.cell 7) (h.cell 8)
  | 3, _ => exact rangeAt3 (h.cell 9) (h.cell 10) (h.cell 11)
end Go.Proofs.YtnemedgdhojhdaaGreat
