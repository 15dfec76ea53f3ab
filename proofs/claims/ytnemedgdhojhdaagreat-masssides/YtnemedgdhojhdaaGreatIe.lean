/- Package shape: what Check, Core, Half and Reach tell of each shape. -/
import Derived.Test.YtnemedgdhojhdaaGreatId
import Derived.Test.YtnemedgdhojhdaaGreatIj
import Derived.Test.YtnemedgdhojhdaaGreatVu
namespace Go.Proofs.YtnemedgdhojhdaaGreat
open Go.RowKit
set_option maxRecDepth 4000
set_option linter.unusedVariables false

theorem SphereHoldsS (kd rr x y z : Int) (A : Option Addr) (n cp : Nat) : Ans 60 #[.agg (sh kd rr x y z A n cp)] (.bool (decide ((0 : Int) < rr) && (sameV x y z 0 0 0 && decide ((n : Int) = 0)))) := fun w => by
  cases h0 : decide ((0 : Int) < rr)
  · exact sphereHolds_0 kd rr x y z A n cp w h0
  · cases h1 : sameV x y z 0 0 0
    · exact sphereHolds_1 kd rr x y z A n cp w h0 h1
    · exact sphereHolds_2 kd rr x y z A n cp _ w h0 h1 rfl
theorem CapsuleHoldsS (kd rr x y z : Int) (A : Option Addr) (n cp : Nat) : Ans 62 #[.agg (sh kd rr x y z A n cp)] (.bool (decide ((0 : Int) < rr) && (decide (x = 0) && (decide (y = 0) && (decide ((0 : Int) < z) && decide ((n : Int) = 0)))))) := fun w => by
  cases h0 : decide ((0 : Int) < rr)
  · exact capsuleHolds_0 kd rr x y z A n cp w h0
  · cases h1 : decide (x = 0)
    · exact capsuleHolds_1 kd rr x y z A n cp w h0 h1
    · cases h2 : decide (y = 0)
      · exact capsuleHolds_2 kd rr x y z A n cp w h0 h1 h2
      · cases h3 : decide ((0 : Int) < z)
        · exact capsuleHolds_3 kd rr x y z A n cp w h0 h1 h2 h3
        · exact capsuleHolds_4 kd rr x y z A n cp _ w h0 h1 h2 h3 rfl
theorem BoxHoldsS (kd rr x y z : Int) (A : Option Addr) (n cp : Nat) : Ans 64 #[.agg (sh kd rr x y z A n cp)] (.bool (decide ((0 : Int) ≤ rr) && (decide ((65536 : Int) ≤ mn3 x y z) && decide ((n : Int) = 0)))) := fun w => by
  cases h0 : decide ((0 : Int) ≤ rr)
  · exact boxHolds_0 kd rr x y z A n cp w h0
  · cases h1 : decide ((65536 : Int) ≤ mn3 x y z)
    · exact boxHolds_1 kd rr x y z A n cp w h0 h1
    · exact boxHolds_2 kd rr x y z A n cp _ w h0 h1 rfl
theorem SolidHoldsS (kd rr x y z : Int) (A : Option Addr) (n cp : Nat) : Ans 66 #[.agg (sh kd rr x y z A n cp)] (.bool (decide ((0 : Int) ≤ rr) && (sameV x y z 0 0 0 && (decide ((4 : Int) ≤ n) && decide ((n : Int) ≤ 16))))) := fun w => by
  cases h0 : decide ((0 : Int) ≤ rr)
  · exact solidHolds_0 kd rr x y z A n cp w h0
  · cases h1 : sameV x y z 0 0 0
    · exact solidHolds_1 kd rr x y z A n cp w h0 h1
    · cases h2 : decide ((4 : Int) ≤ n)
      · exact solidHolds_2 kd rr x y z A n cp w h0 h1 h2
      · exact solidHolds_3 kd rr x y z A n cp _ w h0 h1 h2 rfl
set_option maxHeartbeats 2000000 in
theorem solidCore_run (kd rr x y z : Int) (A : Option Addr) (n cp : Nat) (xs : List Value) (w : World) (hC : Hid (∀ u, Below w.heap.size w u → Calls Tryz.prog 47 #[.slice A n cp] u fun e w' => (∃ v, e = .returned v ∧ w'.ownsRow u.heap.size 24 3 v n xs) ∧ Below u.heap.size u w')) :
    Calls Tryz.prog 67 #[.agg (sh kd rr x y z A n cp)] w fun e w' => (∃ v, e = .returned v ∧ w'.ownsRow w.heap.size 24 3 v n xs) ∧ Below w.heap.size w w' := by
  go_enter Tryz.func67, Tryz.ntmps67
  go_upto_region 1 with fail
  have D := hide ((Gd.start w).push 27 (sh kd rr x y z A n cp))
  refine list_start (S := Gd w [(w.heap.size, 27, sh kd rr x y z A n cp)]) (unhide D) ?_
  clear D
  refine list_read (v := .pointer (some ⟨w.heap.size, 5, none⟩)) rfl rfl (fun u hS => by go_simp) ?_
  try go_simp
  refine list_read (v := .slice A n cp) rfl rfl (fun u hS => exec_loadV_Vecs (g := w.heap.size) (t := 27) (cs := sh kd rr x y z A n cp) hS.g _ rfl rfl (by repeat (first | exact List.mem_cons_self | apply List.mem_cons_of_mem)) rfl) ?_
  try go_simp
  intro u hS
  refine list_callE (f := 47) (args := #[.slice A n cp]) rfl (by go_simp) (unhide hC u hS.g.o) ?_
  rintro e5 w5 ⟨⟨v5, he5, hown⟩, hb5⟩
  refine ⟨v5, he5, ?_⟩
  clear he5
  have hS5 := hide (hS.keep hb5)
  have hown5 := hide (own_base hown hS.g.o.size)
  clear hS hown hb5
  try go_simp
  refine list_turn (w' := w5) (v := v5) rfl (by go_simp) ?_
  try go_simp
  refine wpL_fin ?_
  go_wp2
  go_ret
  exact ⟨⟨v5, rfl, unhide hown5⟩, (unhide hS5).g.o⟩
/-- What must hold of each kind, but for what holds of all. -/
def hdB (kd rr x y z : Int) (n : Nat) : Bool :=
  if kd = 1 then decide ((0 : Int) < rr) && (sameV x y z 0 0 0 && decide ((n : Int) = 0))
  else if kd = 2 then decide ((0 : Int) < rr) && (decide (x = 0) && (decide (y = 0) && (decide ((0 : Int) < z) && decide ((n : Int) = 0))))
  else if kd = 3 then decide ((0 : Int) ≤ rr) && (decide ((65536 : Int) ≤ mn3 x y z) && decide ((n : Int) = 0))
  else if kd = 4 then decide ((0 : Int) ≤ rr) && (sameV x y z 0 0 0 && (decide ((4 : Int) ≤ n) && decide ((n : Int) ≤ 16)))
  else false
/-- Are points flat, where they stand on the grid? -/
def flB (n : Nat) (ps : Nat → Pt) : Bool := decide (rkI n (nearP ps) < 3)
/-- The error of a shape. -/
def chE (kd rr x y z : Int) (n : Nat) (ps : Nat → Pt) : Int := bif hdB kd rr x y z n && nhB rr x y z n ps then (bif decide (kd = 4) && flB n ps then 8 else 0) else 2

/-! Sizes. -/
theorem asI_le {x : Int} (hx : I64 x) : asI x ≤ 274877906944 ↔ -274877906944 ≤ x ∧ x ≤ 274877906944 := by
  unfold I64 at hx
  unfold asI mx2 cl
  repeat' split
  all_goals omega
theorem asI_I64 {x : Int} (hx : I64 x) : I64 (asI x) := by
  unfold I64 at hx ⊢
  unfold asI mx2 cl
  repeat' split
  all_goals omega
theorem mx3_le {x y z m : Int} : mx3 x y z ≤ m ↔ x ≤ m ∧ y ≤ m ∧ z ≤ m := by
  unfold mx3 mx2
  repeat' split
  all_goals omega
/-- Within MaxSize. -/
def inM (x : Int) : Prop := -274877906944 ≤ x ∧ x ≤ 274877906944
theorem wiB_iff {x y z : Int} (hx : I64 x) (hy : I64 y) (hz : I64 z) : wiB x y z = true ↔ inM x ∧ inM y ∧ inM z := by
  unfold wiB inM
  rw [decide_eq_true_iff, mx3_le, asI_le hx, asI_le hy, asI_le hz]
def pM (n : Nat) (ps : Nat → Pt) : Prop := ∀ i, i < n → inM (ps i).1 ∧ inM (ps i).2.1 ∧ inM (ps i).2.2
theorem nhB_iff {rr x y z : Int} {n : Nat} {ps : Nat → Pt} (hr : I64 rr) (hx : I64 x) (hy : I64 y) (hz : I64 z) (hI : pI64 n ps) : nhB rr x y z n ps = true ↔ inM rr ∧ (inM x ∧ inM y ∧ inM z) ∧ pM n ps := by
  unfold nhB pM
  rw [Bool.and_eq_true, Bool.and_eq_true, decide_eq_true_iff, asI_le hr, wiB_iff hx hy hz, allW_iff]
  constructor
  · rintro ⟨h1, h2, h3⟩
    exact ⟨h1, h2, fun i hi => (wiB_iff (hI i hi).1 (hI i hi).2.1 (hI i hi).2.2).1 (h3 i hi)⟩
  · rintro ⟨h1, h2, h3⟩
    exact ⟨h1, h2, fun i hi => (wiB_iff (hI i hi).1 (hI i hi).2.1 (hI i hi).2.2).2 (h3 i hi)⟩
theorem near_M {x : Int} (h : inM x) : mayI (near x) = true := by
  unfold inM at h
  unfold mayI near
  simp only [decide_eq_true_eq, Bool.and_eq_true]
  omega
theorem FlatS (A : Option Addr) (n cp : Nat) (ps : Nat → Pt) (w : World) (hn : n ≤ 400) (hP : PRow w A n ps) (hI : pI64 n ps) (hM : pM n ps) :
    Calls Tryz.prog 37 #[.slice A n cp] w fun x w' => x = .returned (.bool (flB n ps)) ∧ Below w.heap.size w w' :=
  isFlat_core A n cp ps (rkI n (nearP ps)) (spE n (nearP ps)) w hn hP
    (fun i hi => RoundY _ _ _ (hI i hi).1 (hI i hi).2.1 (hI i hi).2.2 (by unfold chkP; rw [near_M (hM i hi).1, near_M (hM i hi).2.1, near_M (hM i hi).2.2]; rfl))
    (fun u B cB hB => RankO B n cB (nearP ps) u (by omega) hB) _ rfl
theorem CheckS (kd rr x y z : Int) (A : Option Addr) (n cp : Nat) (ps : Nat → Pt) (w : World) (hn : n ≤ 400) (hr : I64 rr) (hx : I64 x) (hy : I64 y) (hz : I64 z) (hP : PRow w A n ps) (hI : pI64 n ps) :
    Calls Tryz.prog 17 #[.agg (sh kd rr x y z A n cp)] w fun e w' => e = .returned (.int .i64 (chE kd rr x y z n ps)) ∧ Below w.heap.size w w' := by
  have hN := fun u (hu : Below w.heap.size w u) => NumbersS kd rr x y z A n cp ps u (by omega) hr hx hy hz (hP.below hu) hI
  have hnh := @nhB_iff rr x y z n ps hr hx hy hz hI
  unfold chE
  by_cases k1 : kd = 1
  · subst k1
    have hH := SphereHoldsS 1 rr x y z A n cp
    rw [show hdB 1 rr x y z n = _ from if_pos rfl, show decide ((1 : Int) = 4) = false from by decide]
    generalize (decide ((0 : Int) < rr) && (sameV x y z 0 0 0 && decide ((n : Int) = 0))) = b at hH ⊢
    generalize nhB rr x y z n ps = nb at hN ⊢
    cases b
    · exact check1_a rr x y z A n cp w (fun u => kindOf_1 u) (fun u _ => hH u)
    · cases nb
      · exact check1_b rr x y z A n cp w (fun u => kindOf_1 u) (fun u _ => hH u) hN
      · exact check1_c rr x y z A n cp w (fun u => kindOf_1 u) (fun u _ => hH u) hN
  by_cases k2 : kd = 2
  · subst k2
    have hH := CapsuleHoldsS 2 rr x y z A n cp
    rw [show hdB 2 rr x y z n = _ from (if_neg (by decide)).trans (if_pos rfl), show decide ((2 : Int) = 4) = false from by decide]
    generalize (decide ((0 : Int) < rr) && (decide (x = 0) && (decide (y = 0) && (decide ((0 : Int) < z) && decide ((n : Int) = 0))))) = b at hH ⊢
    generalize nhB rr x y z n ps = nb at hN ⊢
    cases b
    · exact check2_a rr x y z A n cp w (fun u => kindOf_2 u) (fun u _ => hH u)
    · cases nb
      · exact check2_b rr x y z A n cp w (fun u => kindOf_2 u) (fun u _ => hH u) hN
      · exact check2_c rr x y z A n cp w (fun u => kindOf_2 u) (fun u _ => hH u) hN
  by_cases k3 : kd = 3
  · subst k3
    have hH := BoxHoldsS 3 rr x y z A n cp
    rw [show hdB 3 rr x y z n = _ from (if_neg (by decide)).trans ((if_neg (by decide)).trans (if_pos rfl)), show decide ((3 : Int) = 4) = false from by decide]
    generalize (decide ((0 : Int) ≤ rr) && (decide ((65536 : Int) ≤ mn3 x y z) && decide ((n : Int) = 0))) = b at hH ⊢
    generalize nhB rr x y z n ps = nb at hN ⊢
    cases b
    · exact check3_a rr x y z A n cp w (fun u => kindOf_3 u) (fun u _ => hH u)
    · cases nb
      · exact check3_b rr x y z A n cp w (fun u => kindOf_3 u) (fun u _ => hH u) hN
      · exact check3_c rr x y z A n cp w (fun u => kindOf_3 u) (fun u _ => hH u) hN
  by_cases k4 : kd = 4
  · subst k4
    have hH := SolidHoldsS 4 rr x y z A n cp
    have hF := fun (h : nhB rr x y z n ps = true) u (hu : Below w.heap.size w u) => FlatS A n cp ps u hn (hP.below hu) hI (hnh.1 h).2.2
    rw [show hdB 4 rr x y z n = _ from (if_neg (by decide)).trans ((if_neg (by decide)).trans ((if_neg (by decide)).trans (if_pos rfl))), show decide ((4 : Int) = 4) = true from by decide]
    generalize (decide ((0 : Int) ≤ rr) && (sameV x y z 0 0 0 && (decide ((4 : Int) ≤ n) && decide ((n : Int) ≤ 16)))) = b at hH ⊢
    generalize nhB rr x y z n ps = nb at hN hF ⊢
    cases b
    · exact check4_a rr x y z A n cp w (fun u => kindOf_4 u) (fun u _ => hH u)
    · cases nb
      · exact check4_b rr x y z A n cp w (fun u => kindOf_4 u) (fun u _ => hH u) hN
      · have hF := hF rfl
        generalize flB n ps = f at hF ⊢
        cases f
        · exact check4_c rr x y z A n cp w (fun u => kindOf_4 u) (fun u _ => hH u) hN hF
        · exact check4_d rr x y z A n cp w (fun u => kindOf_4 u) (fun u _ => hH u) hN hF
  rw [show hdB kd rr x y z n = false from by unfold hdB; rw [if_neg k1, if_neg k2, if_neg k3, if_neg k4]]
  by_cases hlo : kd < 1
  · exact check_no kd rr x y z A n cp w (fun u => kindOf_lo kd u (decide_eq_true hlo))
  · exact check_no kd rr x y z A n cp w (fun u => kindOf_hi kd u (decide_eq_false hlo) (decide_eq_true (by omega)))

/-! The core. -/
/-- How many points a core has, and which. -/
def coN (kd : Int) (n : Nat) : Nat := if kd = 1 then 1 else if kd = 2 then 2 else if kd = 3 then 8 else n
def coP (kd x y z : Int) (ps : Nat → Pt) : Nat → Pt := if kd = 1 then fun _ => (0, 0, 0) else if kd = 2 then fun k => if k = 0 then (0, 0, cl (0 - z)) else (x, y, z) else if kd = 3 then boxP x y z else ps
theorem chE_fine {kd rr x y z : Int} {n : Nat} {ps : Nat → Pt} (h : chE kd rr x y z n ps = 0) : hdB kd rr x y z n = true ∧ nhB rr x y z n ps = true ∧ (kd = 4 → flB n ps = false) := by
  unfold chE at h
  cases h1 : hdB kd rr x y z n
  · rw [h1] at h; simp at h
  · cases h2 : nhB rr x y z n ps
    · rw [h1, h2] at h; simp at h
    · rw [h1, h2] at h
      refine ⟨rfl, rfl, fun k => ?_⟩
      subst k
      cases h3 : flB n ps
      · rfl
      · rw [h3] at h; simp at h
theorem hdB_kind {kd rr x y z : Int} {n : Nat} (h : hdB kd rr x y z n = true) : kd = 1 ∨ kd = 2 ∨ kd = 3 ∨ kd = 4 := by
  unfold hdB at h
  by_cases k1 : kd = 1
  · exact .inl k1
  by_cases k2 : kd = 2
  · exact .inr (.inl k2)
  by_cases k3 : kd = 3
  · exact .inr (.inr (.inl k3))
  by_cases k4 : kd = 4
  · exact .inr (.inr (.inr k4))
  rw [if_neg k1, if_neg k2, if_neg k3, if_neg k4] at h
  cases h
theorem CoreNo (kd rr x y z : Int) (A : Option Addr) (n cp : Nat) (ps : Nat → Pt) (w : World) (hn : n ≤ 400) (hr : I64 rr) (hx : I64 x) (hy : I64 y) (hz : I64 z) (hP : PRow w A n ps) (hI : pI64 n ps) (h0 : chE kd rr x y z n ps ≠ 0) :
    Calls Tryz.prog 14 #[.agg (sh kd rr x y z A n cp)] w fun e w' => e = .returned (.tuple #[.slice none 0 0, .int .i64 (chE kd rr x y z n ps)]) ∧ Below w.heap.size w w' :=
  core_no kd rr x y z A n cp _ w (fun u hu => CheckS kd rr x y z A n cp ps u hn hr hx hy hz (hP.below hu) hI) (decide_eq_false h0)
theorem own_same {w : World} {B n m size : Nat} {t : TypeId} {v : Value} {xs ys : List Value} (h : w.ownsRow B t size v n xs) (e1 : n = m) (e2 : xs = ys) : w.ownsRow B t size v m ys := by subst e1 e2; exact h
theorem CoreYes (kd rr x y z : Int) (A : Option Addr) (n cp : Nat) (ps : Nat → Pt) (w : World) (hn : n ≤ 400) (hr : I64 rr) (hx : I64 x) (hy : I64 y) (hz : I64 z) (hP : PRow w A n ps) (hI : pI64 n ps) (h0 : chE kd rr x y z n ps = 0) :
    Calls Tryz.prog 14 #[.agg (sh kd rr x y z A n cp)] w fun e w' => (∃ v, e = .returned (.tuple #[v, .int .i64 0]) ∧ w'.ownsRow w.heap.size 24 3 v (coN kd n) (cellsN (coN kd n) (coP kd x y z ps))) ∧ Below w.heap.size w w' := by
  obtain ⟨hh, hnh, _⟩ := chE_fine h0
  have hC := fun u (hu : Below w.heap.size w u) => CheckS kd rr x y z A n cp ps u hn hr hx hy hz (hP.below hu) hI
  rw [h0] at hC
  rcases hdB_kind hh with rfl | rfl | rfl | rfl
  · refine (core1_yes rr x y z A n cp _ w (fun u hu => sphereCore_run 1 rr x y z A n cp u) hC (fun u => kindOf_1 u)).mono fun e w' ⟨⟨v, he, ho⟩, hb⟩ => ⟨⟨v, he, own_same ho rfl rfl⟩, hb⟩
  · refine (core2_yes rr x y z A n cp _ w (fun u hu => capsuleCore_run 2 rr x y z A n cp _ u (FixSubZ 0 z ⟨by decide, by decide⟩ hz)) hC (fun u => kindOf_2 u)).mono fun e w' ⟨⟨v, he, ho⟩, hb⟩ => ⟨⟨v, he, own_same ho rfl rfl⟩, hb⟩
  · refine (core3_yes rr x y z A n cp _ w (fun u hu => boxCore_run 3 rr x y z _ _ _ A n cp u (fun bt => SignedS x bt hx) (fun bt => SignedS y bt hy) (fun bt => SignedS z bt hz)) hC (fun u => kindOf_3 u)).mono fun e w' ⟨⟨v, he, ho⟩, hb⟩ => ⟨⟨v, he, own_same ho rfl rfl⟩, hb⟩
  · have hn16 : 4 ≤ n ∧ n ≤ 16 := by
      unfold hdB at hh
      simp at hh
      omega
    refine (core4_yes rr x y z A n cp _ w (fun u hu => ?_) hC (fun u => kindOf_4 u)).mono fun e w' ⟨⟨v, he, ho⟩, hb⟩ => ⟨⟨v, he, own_same ho rfl rfl⟩, hb⟩
    obtain ⟨g, off, rfl, hg, hrr⟩ := (hP.below hu).resolve_left (by omega)
    exact solidCore_run 4 rr x y z _ n cp _ u (fun v hv => cloneV_core g off n cp ps v (by omega) (fun i hi => at_below (hrr i hi) hv hg))
theorem coN_pos {kd rr x y z : Int} {n : Nat} {ps : Nat → Pt} (h0 : chE kd rr x y z n ps = 0) : 0 < coN kd n ∧ coN kd n ≤ 16 := by
  obtain ⟨hh, hnh, _⟩ := chE_fine h0
  rcases hdB_kind hh with rfl | rfl | rfl | rfl
  · exact (show 0 < 1 ∧ 1 ≤ 16 from by decide)
  · exact (show 0 < 2 ∧ 2 ≤ 16 from by decide)
  · exact (show 0 < 8 ∧ 8 ≤ 16 from by decide)
  · unfold hdB at hh
    simp at hh
    show 0 < n ∧ n ≤ 16
    omega
theorem inM_cl {x : Int} (h : inM x) : cl (0 - x) = -x := by
  unfold inM at h
  unfold cl
  repeat' split
  all_goals omega
theorem inM_neg {x : Int} (h : inM x) : inM (-x) := by unfold inM at *; omega
theorem inM_I64 {x : Int} (h : inM x) : I64 x := by unfold inM at h; unfold I64; omega
theorem inM_0 : inM 0 := ⟨by decide, by decide⟩
theorem boxP_M {x y z : Int} (hx : inM x) (hy : inM y) (hz : inM z) (k : Nat) : boxP x y z k = (if k % 2 = 0 then -x else x, if k / 2 % 2 = 0 then -y else y, if k / 4 % 2 = 0 then -z else z) := by
  unfold boxP boxQ
  rw [inM_cl hx, inM_cl hy, inM_cl hz]
theorem coP_M {kd rr x y z : Int} {n : Nat} {ps : Nat → Pt} (hr : I64 rr) (hx : I64 x) (hy : I64 y) (hz : I64 z) (hI : pI64 n ps) (h0 : chE kd rr x y z n ps = 0) : pM (coN kd n) (coP kd x y z ps) := by
  obtain ⟨hh, hnh, _⟩ := chE_fine h0
  obtain ⟨m1, ⟨m2, m3, m4⟩, m5⟩ := (nhB_iff hr hx hy hz hI).1 hnh
  rcases hdB_kind hh with rfl | rfl | rfl | rfl
  · exact fun i _ => ⟨inM_0, inM_0, inM_0⟩
  · intro i _
    show inM (if i = 0 then ((0 : Int), (0 : Int), cl (0 - z)) else (x, y, z)).1 ∧ inM (if i = 0 then ((0 : Int), (0 : Int), cl (0 - z)) else (x, y, z)).2.1 ∧ inM (if i = 0 then ((0 : Int), (0 : Int), cl (0 - z)) else (x, y, z)).2.2
    split
    · exact ⟨inM_0, inM_0, by rw [inM_cl m4]; exact inM_neg m4⟩
    · exact ⟨m2, m3, m4⟩
  · intro i _
    show inM (boxP x y z i).1 ∧ inM (boxP x y z i).2.1 ∧ inM (boxP x y z i).2.2
    rw [boxP_M m2 m3 m4]
    refine ⟨?_, ?_, ?_⟩
    · show inM (if _ then _ else _); split
      · exact inM_neg m2
      · exact m2
    · show inM (if _ then _ else _); split
      · exact inM_neg m3
      · exact m3
    · show inM (if _ then _ else _); split
      · exact inM_neg m4
      · exact m4
  · exact m5
theorem pM_I64 {n : Nat} {ps : Nat → Pt} (h : pM n ps) : pI64 n ps := fun i hi => ⟨inM_I64 (h i hi).1, inM_I64 (h i hi).2.1, inM_I64 (h i hi).2.2⟩

/-! Halves and reach. -/
theorem mostR_nn (f : Nat → Int) : ∀ k, 0 ≤ mostR f k
  | 0 => Int.le_refl _
  | k + 1 => by
    have ih := mostR_nn f k
    show 0 ≤ mx2 (mostR f k) (f k)
    unfold mx2
    split <;> omega
theorem mostR_le (f : Nat → Int) {M : Int} (hM : 0 ≤ M) : ∀ k, (∀ i, i < k → f i ≤ M) → mostR f k ≤ M
  | 0, _ => hM
  | k + 1, h => by
    have ih := mostR_le f hM k (fun i hi => h i (by omega))
    have hk := h k (by omega)
    show mx2 (mostR f k) (f k) ≤ M
    unfold mx2
    split <;> omega
theorem most_I64 {f : Nat → Int} {k : Nat} (h : ∀ i, i < k → I64 (f i)) : I64 (mostR f k) :=
  ⟨by have := mostR_nn f k; omega, by
    have := mostR_le f (M := 9223372036854775807) (by decide) k (fun i hi => by have := (h i hi).2; omega)
    omega⟩
/-- A shape's halves, with their radius. -/
def haX (kd rr x y z : Int) (n : Nat) (ps : Nat → Pt) : Int := if chE kd rr x y z n ps = 0 then cl (mostR (szX (coP kd x y z ps)) (coN kd n) + rr) else 0
def haY (kd rr x y z : Int) (n : Nat) (ps : Nat → Pt) : Int := if chE kd rr x y z n ps = 0 then cl (mostR (szY (coP kd x y z ps)) (coN kd n) + rr) else 0
def haZ (kd rr x y z : Int) (n : Nat) (ps : Nat → Pt) : Int := if chE kd rr x y z n ps = 0 then cl (mostR (szZ (coP kd x y z ps)) (coN kd n) + rr) else 0
def reI (kd rr x y z : Int) (n : Nat) (ps : Nat → Pt) : Int := if chE kd rr x y z n ps = 0 then cl (rr + mostR (luP (coP kd x y z ps)) (coN kd n)) else 0
theorem HalfS (kd rr x y z : Int) (A : Option Addr) (n cp : Nat) (ps : Nat → Pt) (w : World) (hn : n ≤ 400) (hr : I64 rr) (hx : I64 x) (hy : I64 y) (hz : I64 z) (hP : PRow w A n ps) (hI : pI64 n ps) :
    Calls Tryz.prog 20 #[.agg (sh kd rr x y z A n cp)] w fun e w' => e = .returned (.tuple #[.agg (v3 (haX kd rr x y z n ps) (haY kd rr x y z n ps) (haZ kd rr x y z n ps)), .int .i64 (chE kd rr x y z n ps)]) ∧ Below w.heap.size w w' := by
  unfold haX haY haZ
  by_cases h0 : chE kd rr x y z n ps = 0
  · rw [if_pos h0, if_pos h0, if_pos h0]
    have hM := pM_I64 (coP_M hr hx hy hz hI h0)
    have hC := fun u (hu : Below w.heap.size w u) => CoreYes kd rr x y z A n cp ps u hn hr hx hy hz (hP.below hu) hI h0
    rw [h0]
    exact half_yes kd rr x y z A n cp (coN kd n) (coP kd x y z ps) _ _ _ w (coN_pos h0).1 (by have := (coN_pos h0).2; omega) hM
      (VAddZ _ _ _ _ _ _ (most_I64 fun i hi => asI_I64 (hM i hi).1) (most_I64 fun i hi => asI_I64 (hM i hi).2.1) (most_I64 fun i hi => asI_I64 (hM i hi).2.2) hr hr hr) hC
  · rw [if_neg h0, if_neg h0, if_neg h0]
    exact half_no kd rr x y z A n cp _ w (fun u hu => CoreNo kd rr x y z A n cp ps u hn hr hx hy hz (hP.below hu) hI h0) (decide_eq_false h0)
end Go.Proofs.YtnemedgdhojhdaaGreat
