/- Package shape: numbersHold, Check, Core, Half, Reach. -/
import Derived.Test.YtnemedgdhojhdaaGreatIj
import Derived.Test.YtnemedgdhojhdaaGreatVj
namespace Go.Proofs.YtnemedgdhojhdaaGreat
open Go.RowKit
set_option maxRecDepth 4000
set_option linter.unusedVariables false

set_option maxHeartbeats 4000000 in
theorem numbers_0 (kd rr x y z : Int) (A : Option Addr) (n cp : Nat) (q : Int) (w : World) (h0 : Hid (Ans 42 #[.int .i64 rr] (.int .i64 q))) (e0 : Hid (decide ((q : Int) ≤ 274877906944) = false)) : Calls Tryz.prog 36 #[.agg (sh kd rr x y z A n cp)] w fun e w' => e = .returned (.bool false) ∧ Below w.heap.size w w' := by
  go_enter Tryz.func36, Tryz.ntmps36
  go_upto_region 1 with fail
  have D := hide (((Gd.start w).push 27 (sh kd rr x y z A n cp)))
  refine list_start (S := Gd w [(w.heap.size, 27, sh kd rr x y z A n cp)]) (unhide D) ?_
  clear D
  refine list_read (v := .func (Fn.func 68) #[] #[]) rfl rfl (fun u hS => by go_simp) ?_
  try go_simp
  refine list_end (fun u1 hS => ?_)
  have D := hide hS
  clear hS
  go_upto_region 2 with fail
  refine list_start (S := Gd w [(w.heap.size, 27, sh kd rr x y z A n cp)]) (unhide D) ?_
  clear D
  refine list_read (v := .pointer (some ⟨w.heap.size, 1, none⟩)) rfl rfl (fun u hS => by go_simp) ?_
  try go_simp
  refine list_read (v := .int .i64 rr) rfl rfl (fun u hS => exec_loadN_Fix (g := w.heap.size) (t := 27) (cs := sh kd rr x y z A n cp) hS.g _ rfl rfl (by repeat (first | exact List.mem_cons_self | apply List.mem_cons_of_mem)) rfl) ?_
  try go_simp
  refine list_call (v := .int .i64 q) (f := 42) (args := #[.int .i64 rr]) rfl rfl (fun u hS => by go_simp) (fun u hS => (unhide h0 u).mono fun _ _ ⟨he, hb⟩ => ⟨he, hS.keep hb⟩) ?_
  try go_simp
  refine list_read (v := .bool false) rfl rfl (fun u hS => exec_leqS _ _ (unhide e0) rfl rfl rfl) ?_
  try go_simp
  refine list_read (v := .bool false) rfl rfl (fun u hS => by go_simp) ?_
  try go_simp
  refine list_skip ?_ ?_ ?_
  · rfl
  · rfl
  try go_simp
  refine list_skip ?_ ?_ ?_
  · rfl
  · rfl
  try go_simp
  refine list_skip ?_ ?_ ?_
  · rfl
  · rfl
  try go_simp
  refine list_read (v := .bool false) rfl rfl (fun u hS => by go_simp) ?_
  try go_simp
  refine list_read (v := .bool false) rfl rfl (fun u hS => by go_simp) ?_
  try go_simp
  refine list_skip ?_ ?_ ?_
  · rfl
  · rfl
  try go_simp
  refine list_skip ?_ ?_ ?_
  · rfl
  · rfl
  try go_simp
  refine list_skip ?_ ?_ ?_
  · rfl
  · rfl
  try go_simp
  refine list_skip ?_ ?_ ?_
  · rfl
  · rfl
  try go_simp
  refine list_skip ?_ ?_ ?_
  · rfl
  · rfl
  try go_simp
  refine list_read (v := .bool false) rfl rfl (fun u hS => by go_simp) ?_
  try go_simp
  refine list_read (v := .bool false) rfl rfl (fun u hS => by go_simp) ?_
  try go_simp
  refine list_end (fun u2 hS => ?_)
  have D := hide hS
  clear hS
  go_wp2
  go_ret
  exact ⟨rfl, (unhide D).g.o⟩
set_option maxHeartbeats 4000000 in
theorem numbers_1 (kd rr x y z : Int) (A : Option Addr) (n cp : Nat) (q : Int) (w : World) (h0 : Hid (Ans 42 #[.int .i64 rr] (.int .i64 q))) (e0 : Hid (decide ((q : Int) ≤ 274877906944) = true)) (h1 : Hid (Ans 69 #[.agg (v3 x y z)] (.bool false))) : Calls Tryz.prog 36 #[.agg (sh kd rr x y z A n cp)] w fun e w' => e = .returned (.bool false) ∧ Below w.heap.size w w' := by
  go_enter Tryz.func36, Tryz.ntmps36
  go_upto_region 1 with fail
  have D := hide (((Gd.start w).push 27 (sh kd rr x y z A n cp)))
  refine list_start (S := Gd w [(w.heap.size, 27, sh kd rr x y z A n cp)]) (unhide D) ?_
  clear D
  refine list_read (v := .func (Fn.func 68) #[] #[]) rfl rfl (fun u hS => by go_simp) ?_
  try go_simp
  refine list_end (fun u1 hS => ?_)
  have D := hide hS
  clear hS
  go_upto_region 2 with fail
  refine list_start (S := Gd w [(w.heap.size, 27, sh kd rr x y z A n cp)]) (unhide D) ?_
  clear D
  refine list_read (v := .pointer (some ⟨w.heap.size, 1, none⟩)) rfl rfl (fun u hS => by go_simp) ?_
  try go_simp
  refine list_read (v := .int .i64 rr) rfl rfl (fun u hS => exec_loadN_Fix (g := w.heap.size) (t := 27) (cs := sh kd rr x y z A n cp) hS.g _ rfl rfl (by repeat (first | exact List.mem_cons_self | apply List.mem_cons_of_mem)) rfl) ?_
  try go_simp
  refine list_call (v := .int .i64 q) (f := 42) (args := #[.int .i64 rr]) rfl rfl (fun u hS => by go_simp) (fun u hS => (unhide h0 u).mono fun _ _ ⟨he, hb⟩ => ⟨he, hS.keep hb⟩) ?_
  try go_simp
  refine list_read (v := .bool true) rfl rfl (fun u hS => exec_leqS _ _ (unhide e0) rfl rfl rfl) ?_
  try go_simp
  refine list_read (v := .bool true) rfl rfl (fun u hS => by go_simp) ?_
  try go_simp
  refine list_read (v := .pointer (some ⟨w.heap.size, 2, none⟩)) rfl rfl (fun u hS => by go_simp) ?_
  try go_simp
  refine list_read (v := .agg (v3 x y z)) rfl rfl (fun u hS => exec_loadSub (i := 2) (g := w.heap.size) (t := 27) (cs := sh kd rr x y z A n cp) hS.g rVec (vs := v3 x y z) _ rfl rfl (by repeat (first | exact List.mem_cons_self | apply List.mem_cons_of_mem)) rfl rfl) ?_
  try go_simp
  refine list_call (v := .bool false) (f := 69) (args := #[.agg (v3 x y z)]) rfl rfl (fun u hS => by go_simp) (fun u hS => (unhide h1 u).mono fun _ _ ⟨he, hb⟩ => ⟨he, hS.keep hb⟩) ?_
  try go_simp
  refine list_read (v := .bool false) rfl rfl (fun u hS => by go_simp) ?_
  try go_simp
  refine list_read (v := .bool false) rfl rfl (fun u hS => by go_simp) ?_
  try go_simp
  refine list_skip ?_ ?_ ?_
  · rfl
  · rfl
  try go_simp
  refine list_skip ?_ ?_ ?_
  · rfl
  · rfl
  try go_simp
  refine list_skip ?_ ?_ ?_
  · rfl
  · rfl
  try go_simp
  refine list_skip ?_ ?_ ?_
  · rfl
  · rfl
  try go_simp
  refine list_skip ?_ ?_ ?_
  · rfl
  · rfl
  try go_simp
  refine list_read (v := .bool false) rfl rfl (fun u hS => by go_simp) ?_
  try go_simp
  refine list_read (v := .bool false) rfl rfl (fun u hS => by go_simp) ?_
  try go_simp
  refine list_end (fun u2 hS => ?_)
  have D := hide hS
  clear hS
  go_wp2
  go_ret
  exact ⟨rfl, (unhide D).g.o⟩
set_option maxHeartbeats 4000000 in
theorem numbers_2 (kd rr x y z : Int) (A : Option Addr) (n cp : Nat) (q : Int) (t : Bool) (w : World) (h0 : Hid (Ans 42 #[.int .i64 rr] (.int .i64 q))) (e0 : Hid (decide ((q : Int) ≤ 274877906944) = true)) (h1 : Hid (Ans 69 #[.agg (v3 x y z)] (.bool true))) (h2 : Hid (∀ u, Below w.heap.size w u → Calls Tryz.prog 70 #[.slice A n cp, .func (Fn.func 68) #[] #[]] u fun e w' => e = .returned (.bool t) ∧ Below u.heap.size u w')) : Calls Tryz.prog 36 #[.agg (sh kd rr x y z A n cp)] w fun e w' => e = .returned (.bool (!t)) ∧ Below w.heap.size w w' := by
  go_enter Tryz.func36, Tryz.ntmps36
  go_upto_region 1 with fail
  have D := hide (((Gd.start w).push 27 (sh kd rr x y z A n cp)))
  refine list_start (S := Gd w [(w.heap.size, 27, sh kd rr x y z A n cp)]) (unhide D) ?_
  clear D
  refine list_read (v := .func (Fn.func 68) #[] #[]) rfl rfl (fun u hS => by go_simp) ?_
  try go_simp
  refine list_end (fun u1 hS => ?_)
  have D := hide hS
  clear hS
  go_upto_region 2 with fail
  refine list_start (S := Gd w [(w.heap.size, 27, sh kd rr x y z A n cp)]) (unhide D) ?_
  clear D
  refine list_read (v := .pointer (some ⟨w.heap.size, 1, none⟩)) rfl rfl (fun u hS => by go_simp) ?_
  try go_simp
  refine list_read (v := .int .i64 rr) rfl rfl (fun u hS => exec_loadN_Fix (g := w.heap.size) (t := 27) (cs := sh kd rr x y z A n cp) hS.g _ rfl rfl (by repeat (first | exact List.mem_cons_self | apply List.mem_cons_of_mem)) rfl) ?_
  try go_simp
  refine list_call (v := .int .i64 q) (f := 42) (args := #[.int .i64 rr]) rfl rfl (fun u hS => by go_simp) (fun u hS => (unhide h0 u).mono fun _ _ ⟨he, hb⟩ => ⟨he, hS.keep hb⟩) ?_
  try go_simp
  refine list_read (v := .bool true) rfl rfl (fun u hS => exec_leqS _ _ (unhide e0) rfl rfl rfl) ?_
  try go_simp
  refine list_read (v := .bool true) rfl rfl (fun u hS => by go_simp) ?_
  try go_simp
  refine list_read (v := .pointer (some ⟨w.heap.size, 2, none⟩)) rfl rfl (fun u hS => by go_simp) ?_
  try go_simp
  refine list_read (v := .agg (v3 x y z)) rfl rfl (fun u hS => exec_loadSub (i := 2) (g := w.heap.size) (t := 27) (cs := sh kd rr x y z A n cp) hS.g rVec (vs := v3 x y z) _ rfl rfl (by repeat (first | exact List.mem_cons_self | apply List.mem_cons_of_mem)) rfl rfl) ?_
  try go_simp
  refine list_call (v := .bool true) (f := 69) (args := #[.agg (v3 x y z)]) rfl rfl (fun u hS => by go_simp) (fun u hS => (unhide h1 u).mono fun _ _ ⟨he, hb⟩ => ⟨he, hS.keep hb⟩) ?_
  try go_simp
  refine list_read (v := .bool true) rfl rfl (fun u hS => by go_simp) ?_
  try go_simp
  refine list_read (v := .bool true) rfl rfl (fun u hS => by go_simp) ?_
  try go_simp
  refine list_read (v := .pointer (some ⟨w.heap.size, 5, none⟩)) rfl rfl (fun u hS => by go_simp) ?_
  try go_simp
  refine list_read (v := .slice A n cp) rfl rfl (fun u hS => exec_loadV_Vecs (g := w.heap.size) (t := 27) (cs := sh kd rr x y z A n cp) hS.g _ rfl rfl (by repeat (first | exact List.mem_cons_self | apply List.mem_cons_of_mem)) rfl) ?_
  try go_simp
  refine list_read (v := .func (Fn.func 68) #[] #[]) rfl rfl (fun u hS => by go_simp) ?_
  try go_simp
  refine list_call (v := .bool t) (f := 70) (args := #[.slice A n cp, .func (Fn.func 68) #[] #[]]) rfl rfl (fun u hS => by go_simp) (fun u hS => (unhide h2 u hS.g.o).mono fun _ _ ⟨he, hb⟩ => ⟨he, hS.keep hb⟩) ?_
  try go_simp
  refine list_read (v := .bool (!t)) rfl rfl (fun u hS => by go_simp) ?_
  try go_simp
  refine list_read (v := .bool (!t)) rfl rfl (fun u hS => by go_simp) ?_
  try go_simp
  refine list_read (v := .bool (!t)) rfl rfl (fun u hS => by go_simp) ?_
  try go_simp
  refine list_end (fun u2 hS => ?_)
  have D := hide hS
  clear hS
  go_wp2
  go_ret
  exact ⟨rfl, (unhide D).g.o⟩
/-- Are all a shape's numbers within MaxSize? -/
def nhB (rr x y z : Int) (n : Nat) (ps : Nat → Pt) : Bool := decide (asI rr ≤ 274877906944) && (wiB x y z && allW n ps)
theorem NumbersS (kd rr x y z : Int) (A : Option Addr) (n cp : Nat) (ps : Nat → Pt) (w : World) (hn : n ≤ 9223372036854775807) (hr : I64 rr) (hx : I64 x) (hy : I64 y) (hz : I64 z) (hP : PRow w A n ps) (hI : pI64 n ps) :
    Calls Tryz.prog 36 #[.agg (sh kd rr x y z A n cp)] w fun e w' => e = .returned (.bool (nhB rr x y z n ps)) ∧ Below w.heap.size w w' := by
  unfold nhB
  cases h0 : decide (asI rr ≤ 274877906944)
  · exact numbers_0 kd rr x y z A n cp _ w (SizeS rr hr) h0
  · have hW := IsWithinS x y z hx hy hz
    cases h1 : wiB x y z
    · rw [h1] at hW
      exact numbers_1 kd rr x y z A n cp _ w (SizeS rr hr) h0 hW
    · rw [h1] at hW
      have h2 := numbers_2 kd rr x y z A n cp _ (!allW n ps) w (SizeS rr hr) h0 hW (fun u hu => ContainsS A n cp ps u hn (hP.below hu) hI)
      rw [Bool.not_not] at h2
      exact h2
set_option maxHeartbeats 4000000 in
theorem check1_a (rr x y z : Int) (A : Option Addr) (n cp : Nat) (w : World) (h0 : Hid (Ans 35 #[.int .i64 1] (.tuple #[.agg (#[.func (Fn.func 60) #[] #[], .func (Fn.func 61) #[] #[]]), .bool true]))) (h1 : Hid (∀ u, Below w.heap.size w u → Calls Tryz.prog 60 #[.agg (sh 1 rr x y z A n cp)] u fun e w' => e = .returned (.bool false) ∧ Below u.heap.size u w')) : Calls Tryz.prog 17 #[.agg (sh 1 rr x y z A n cp)] w fun e w' => e = .returned (.int .i64 2) ∧ Below w.heap.size w w' := by
  go_enter Tryz.func17, Tryz.ntmps17
  go_upto_region 1 with fail
  have D := hide (((Gd.start w).push 27 (sh 1 rr x y z A n cp)))
  refine list_start (S := Gd w [(w.heap.size, 27, sh 1 rr x y z A n cp)]) (unhide D) ?_
  clear D
  refine list_read (v := .pointer (some ⟨w.heap.size, 0, none⟩)) rfl rfl (fun u hS => by go_simp) ?_
  try go_simp
  refine list_read (v := .int .i64 1) rfl rfl (fun u hS => exec_loadN_int (g := w.heap.size) (t := 27) (cs := sh 1 rr x y z A n cp) hS.g _ rfl rfl (by repeat (first | exact List.mem_cons_self | apply List.mem_cons_of_mem)) rfl) ?_
  try go_simp
  refine list_call (v := .tuple #[.agg (#[.func (Fn.func 60) #[] #[], .func (Fn.func 61) #[] #[]]), .bool true]) (f := 35) (args := #[.int .i64 1]) rfl rfl (fun u hS => by go_simp) (fun u hS => (unhide h0 u).mono fun _ _ ⟨he, hb⟩ => ⟨he, hS.keep hb⟩) ?_
  try go_simp
  refine list_read (v := .tuple #[.agg (#[.func (Fn.func 60) #[] #[], .func (Fn.func 61) #[] #[]]), .bool true]) rfl rfl (fun u hS => by go_simp) ?_
  try go_simp
  refine list_read (v := .agg (#[.func (Fn.func 60) #[] #[], .func (Fn.func 61) #[] #[]])) rfl rfl (fun u hS => by go_simp) ?_
  try go_simp
  refine list_read (v := .bool true) rfl rfl (fun u hS => by go_simp) ?_
  try go_simp
  refine list_new (z := #[.nilFunc, .nilFunc]) (ty := 56) (v := fun g => .pointer (some ⟨g, 0, none⟩)) rfl rfl (fun u => by go_simp) (fun g1 hgg1 => ?_)
  try go_simp
  refine list_store (l1 := []) (l2 := [(w.heap.size, 27, sh 1 rr x y z A n cp)]) (l' := [(g1, 56, #[.func (Fn.func 60) #[] #[], .func (Fn.func 61) #[] #[]]), (w.heap.size, 27, sh 1 rr x y z A n cp)]) (g := g1) (old := #[.nilFunc, .nilFunc]) (cs := #[.func (Fn.func 60) #[] #[], .func (Fn.func 61) #[] #[]]) (.tmp 3) (.tmp 9) rfl rfl rfl rfl rfl rfl rKind rfl rfl (by simp [Value.oneCell']) hgg1 ?_
  try go_simp
  refine list_read (v := .bool true) rfl rfl (fun u hS => by go_simp) ?_
  try go_simp
  refine list_end (fun u1 hS => ?_)
  have D := hide hS
  clear hS
  go_upto_region 2 with fail
  refine list_start (S := Gd w [(g1, 56, #[.func (Fn.func 60) #[] #[], .func (Fn.func 61) #[] #[]]), (w.heap.size, 27, sh 1 rr x y z A n cp)]) (unhide D) ?_
  clear D
  refine list_read (v := .bool true) rfl rfl (fun u hS => by go_simp) ?_
  try go_simp
  refine list_read (v := .bool false) rfl rfl (fun u hS => by go_simp) ?_
  try go_simp
  refine list_read (v := .bool false) rfl rfl (fun u hS => by go_simp) ?_
  try go_simp
  refine list_read (v := .pointer (some ⟨g1, 0, none⟩)) rfl rfl (fun u hS => by go_simp) ?_
  try go_simp
  refine list_read (v := .func (Fn.func 60) #[] #[]) rfl rfl (fun u hS => exec_loadV_fholds (g := g1) (t := 56) (cs := #[.func (Fn.func 60) #[] #[], .func (Fn.func 61) #[] #[]]) hS.g _ rfl rfl (by repeat (first | exact List.mem_cons_self | apply List.mem_cons_of_mem)) rfl) ?_
  try go_simp
  refine list_read (v := .agg (sh 1 rr x y z A n cp)) rfl rfl (fun u hS => exec_loadG (g := w.heap.size) (t := 27) (cs := sh 1 rr x y z A n cp) hS.g rShape _ rfl rfl (by repeat (first | exact List.mem_cons_self | apply List.mem_cons_of_mem)) rfl) ?_
  try go_simp
  refine list_call (v := .bool false) (f := 60) (args := #[.agg (sh 1 rr x y z A n cp)]) rfl rfl (fun u hS => by go_simp) (fun u hS => (unhide h1 u hS.g.o).mono fun _ _ ⟨he, hb⟩ => ⟨he, hS.keep hb⟩) ?_
  try go_simp
  refine list_read (v := .bool true) rfl rfl (fun u hS => by go_simp) ?_
  try go_simp
  refine list_read (v := .bool true) rfl rfl (fun u hS => by go_simp) ?_
  try go_simp
  refine list_read (v := .bool true) rfl rfl (fun u hS => by go_simp) ?_
  try go_simp
  refine list_skip ?_ ?_ ?_
  · rfl
  · rfl
  try go_simp
  refine list_skip ?_ ?_ ?_
  · rfl
  · rfl
  try go_simp
  refine list_skip ?_ ?_ ?_
  · rfl
  · rfl
  try go_simp
  refine list_read (v := .bool true) rfl rfl (fun u hS => by go_simp) ?_
  try go_simp
  refine list_end (fun u2 hS => ?_)
  have D := hide hS
  clear hS
  go_upto_region 3 with fail
  refine list_start (S := Gd w [(g1, 56, #[.func (Fn.func 60) #[] #[], .func (Fn.func 61) #[] #[]]), (w.heap.size, 27, sh 1 rr x y z A n cp)]) (unhide D) ?_
  clear D
  refine list_read (v := .int .i64 2) rfl rfl (fun u hS => by go_simp) ?_
  try go_simp
  refine list_end (fun u3 hS => ?_)
  have D := hide hS
  clear hS
  go_wp2
  go_ret
  exact ⟨rfl, (unhide D).g.o⟩
set_option maxHeartbeats 4000000 in
theorem check1_b (rr x y z : Int) (A : Option Addr) (n cp : Nat) (w : World) (h0 : Hid (Ans 35 #[.int .i64 1] (.tuple #[.agg (#[.func (Fn.func 60) #[] #[], .func (Fn.func 61) #[] #[]]), .bool true]))) (h1 : Hid (∀ u, Below w.heap.size w u → Calls Tryz.prog 60 #[.agg (sh 1 rr x y z A n cp)] u fun e w' => e = .returned (.bool true) ∧ Below u.heap.size u w')) (h2 : Hid (∀ u, Below w.heap.size w u → Calls Tryz.prog 36 #[.agg (sh 1 rr x y z A n cp)] u fun e w' => e = .returned (.bool false) ∧ Below u.heap.size u w')) : Calls Tryz.prog 17 #[.agg (sh 1 rr x y z A n cp)] w fun e w' => e = .returned (.int .i64 2) ∧ Below w.heap.size w w' := by
  go_enter Tryz.func17, Tryz.ntmps17
  go_upto_region 1 with fail
  have D := hide (((Gd.start w).push 27 (sh 1 rr x y z A n cp)))
  refine list_start (S := Gd w [(w.heap.size, 27, sh 1 rr x y z A n cp)]) (unhide D) ?_
  clear D
  refine list_read (v := .pointer (some ⟨w.heap.size, 0, none⟩)) rfl rfl (fun u hS => by go_simp) ?_
  try go_simp
  refine list_read (v := .int .i64 1) rfl rfl (fun u hS => exec_loadN_int (g := w.heap.size) (t := 27) (cs := sh 1 rr x y z A n cp) hS.g _ rfl rfl (by repeat (first | exact List.mem_cons_self | apply List.mem_cons_of_mem)) rfl) ?_
  try go_simp
  refine list_call (v := .tuple #[.agg (#[.func (Fn.func 60) #[] #[], .func (Fn.func 61) #[] #[]]), .bool true]) (f := 35) (args := #[.int .i64 1]) rfl rfl (fun u hS => by go_simp) (fun u hS => (unhide h0 u).mono fun _ _ ⟨he, hb⟩ => ⟨he, hS.keep hb⟩) ?_
  try go_simp
  refine list_read (v := .tuple #[.agg (#[.func (Fn.func 60) #[] #[], .func (Fn.func 61) #[] #[]]), .bool true]) rfl rfl (fun u hS => by go_simp) ?_
  try go_simp
  refine list_read (v := .agg (#[.func (Fn.func 60) #[] #[], .func (Fn.func 61) #[] #[]])) rfl rfl (fun u hS => by go_simp) ?_
  try go_simp
  refine list_read (v := .bool true) rfl rfl (fun u hS => by go_simp) ?_
  try go_simp
  refine list_new (z := #[.nilFunc, .nilFunc]) (ty := 56) (v := fun g => .pointer (some ⟨g, 0, none⟩)) rfl rfl (fun u => by go_simp) (fun g1 hgg1 => ?_)
  try go_simp
  refine list_store (l1 := []) (l2 := [(w.heap.size, 27, sh 1 rr x y z A n cp)]) (l' := [(g1, 56, #[.func (Fn.func 60) #[] #[], .func (Fn.func 61) #[] #[]]), (w.heap.size, 27, sh 1 rr x y z A n cp)]) (g := g1) (old := #[.nilFunc, .nilFunc]) (cs := #[.func (Fn.func 60) #[] #[], .func (Fn.func 61) #[] #[]]) (.tmp 3) (.tmp 9) rfl rfl rfl rfl rfl rfl rKind rfl rfl (by simp [Value.oneCell']) hgg1 ?_
  try go_simp
  refine list_read (v := .bool true) rfl rfl (fun u hS => by go_simp) ?_
  try go_simp
  refine list_end (fun u1 hS => ?_)
  have D := hide hS
  clear hS
  go_upto_region 2 with fail
  refine list_start (S := Gd w [(g1, 56, #[.func (Fn.func 60) #[] #[], .func (Fn.func 61) #[] #[]]), (w.heap.size, 27, sh 1 rr x y z A n cp)]) (unhide D) ?_
  clear D
  refine list_read (v := .bool true) rfl rfl (fun u hS => by go_simp) ?_
  try go_simp
  refine list_read (v := .bool false) rfl rfl (fun u hS => by go_simp) ?_
  try go_simp
  refine list_read (v := .bool false) rfl rfl (fun u hS => by go_simp) ?_
  try go_simp
  refine list_read (v := .pointer (some ⟨g1, 0, none⟩)) rfl rfl (fun u hS => by go_simp) ?_
  try go_simp
  refine list_read (v := .func (Fn.func 60) #[] #[]) rfl rfl (fun u hS => exec_loadV_fholds (g := g1) (t := 56) (cs := #[.func (Fn.func 60) #[] #[], .func (Fn.func 61) #[] #[]]) hS.g _ rfl rfl (by repeat (first | exact List.mem_cons_self | apply List.mem_cons_of_mem)) rfl) ?_
  try go_simp
  refine list_read (v := .agg (sh 1 rr x y z A n cp)) rfl rfl (fun u hS => exec_loadG (g := w.heap.size) (t := 27) (cs := sh 1 rr x y z A n cp) hS.g rShape _ rfl rfl (by repeat (first | exact List.mem_cons_self | apply List.mem_cons_of_mem)) rfl) ?_
  try go_simp
  refine list_call (v := .bool true) (f := 60) (args := #[.agg (sh 1 rr x y z A n cp)]) rfl rfl (fun u hS => by go_simp) (fun u hS => (unhide h1 u hS.g.o).mono fun _ _ ⟨he, hb⟩ => ⟨he, hS.keep hb⟩) ?_
  try go_simp
  refine list_read (v := .bool false) rfl rfl (fun u hS => by go_simp) ?_
  try go_simp
  refine list_read (v := .bool false) rfl rfl (fun u hS => by go_simp) ?_
  try go_simp
  refine list_read (v := .bool false) rfl rfl (fun u hS => by go_simp) ?_
  try go_simp
  refine list_read (v := .agg (sh 1 rr x y z A n cp)) rfl rfl (fun u hS => exec_loadG (g := w.heap.size) (t := 27) (cs := sh 1 rr x y z A n cp) hS.g rShape _ rfl rfl (by repeat (first | exact List.mem_cons_self | apply List.mem_cons_of_mem)) rfl) ?_
  try go_simp
  refine list_call (v := .bool false) (f := 36) (args := #[.agg (sh 1 rr x y z A n cp)]) rfl rfl (fun u hS => by go_simp) (fun u hS => (unhide h2 u hS.g.o).mono fun _ _ ⟨he, hb⟩ => ⟨he, hS.keep hb⟩) ?_
  try go_simp
  refine list_read (v := .bool true) rfl rfl (fun u hS => by go_simp) ?_
  try go_simp
  refine list_read (v := .bool true) rfl rfl (fun u hS => by go_simp) ?_
  try go_simp
  refine list_end (fun u2 hS => ?_)
  have D := hide hS
  clear hS
  go_upto_region 3 with fail
  refine list_start (S := Gd w [(g1, 56, #[.func (Fn.func 60) #[] #[], .func (Fn.func 61) #[] #[]]), (w.heap.size, 27, sh 1 rr x y z A n cp)]) (unhide D) ?_
  clear D
  refine list_read (v := .int .i64 2) rfl rfl (fun u hS => by go_simp) ?_
  try go_simp
  refine list_end (fun u3 hS => ?_)
  have D := hide hS
  clear hS
  go_wp2
  go_ret
  exact ⟨rfl, (unhide D).g.o⟩
set_option maxHeartbeats 4000000 in
theorem check1_c (rr x y z : Int) (A : Option Addr) (n cp : Nat) (w : World) (h0 : Hid (Ans 35 #[.int .i64 1] (.tuple #[.agg (#[.func (Fn.func 60) #[] #[], .func (Fn.func 61) #[] #[]]), .bool true]))) (h1 : Hid (∀ u, Below w.heap.size w u → Calls Tryz.prog 60 #[.agg (sh 1 rr x y z A n cp)] u fun e w' => e = .returned (.bool true) ∧ Below u.heap.size u w')) (h2 : Hid (∀ u, Below w.heap.size w u → Calls Tryz.prog 36 #[.agg (sh 1 rr x y z A n cp)] u fun e w' => e = .returned (.bool true) ∧ Below u.heap.size u w')) : Calls Tryz.prog 17 #[.agg (sh 1 rr x y z A n cp)] w fun e w' => e = .returned (.int .i64 0) ∧ Below w.heap.size w w' := by
  go_enter Tryz.func17, Tryz.ntmps17
  go_upto_region 1 with fail
  have D := hide (((Gd.start w).push 27 (sh 1 rr x y z A n cp)))
  refine list_start (S := Gd w [(w.heap.size, 27, sh 1 rr x y z A n cp)]) (unhide D) ?_
  clear D
  refine list_read (v := .pointer (some ⟨w.heap.size, 0, none⟩)) rfl rfl (fun u hS => by go_simp) ?_
  try go_simp
  refine list_read (v := .int .i64 1) rfl rfl (fun u hS => exec_loadN_int (g := w.heap.size) (t := 27) (cs := sh 1 rr x y z A n cp) hS.g _ rfl rfl (by repeat (first | exact List.mem_cons_self | apply List.mem_cons_of_mem)) rfl) ?_
  try go_simp
  refine list_call (v := .tuple #[.agg (#[.func (Fn.func 60) #[] #[], .func (Fn.func 61) #[] #[]]), .bool true]) (f := 35) (args := #[.int .i64 1]) rfl rfl (fun u hS => by go_simp) (fun u hS => (unhide h0 u).mono fun _ _ ⟨he, hb⟩ => ⟨he, hS.keep hb⟩) ?_
  try go_simp
  refine list_read (v := .tuple #[.agg (#[.func (Fn.func 60) #[] #[], .func (Fn.func 61) #[] #[]]), .bool true]) rfl rfl (fun u hS => by go_simp) ?_
  try go_simp
  refine list_read (v := .agg (#[.func (Fn.func 60) #[] #[], .func (Fn.func 61) #[] #[]])) rfl rfl (fun u hS => by go_simp) ?_
  try go_simp
  refine list_read (v := .bool true) rfl rfl (fun u hS => by go_simp) ?_
  try go_simp
  refine list_new (z := #[.nilFunc, .nilFunc]) (ty := 56) (v := fun g => .pointer (some ⟨g, 0, none⟩)) rfl rfl (fun u => by go_simp) (fun g1 hgg1 => ?_)
  try go_simp
  refine list_store (l1 := []) (l2 := [(w.heap.size, 27, sh 1 rr x y z A n cp)]) (l' := [(g1, 56, #[.func (Fn.func 60) #[] #[], .func (Fn.func 61) #[] #[]]), (w.heap.size, 27, sh 1 rr x y z A n cp)]) (g := g1) (old := #[.nilFunc, .nilFunc]) (cs := #[.func (Fn.func 60) #[] #[], .func (Fn.func 61) #[] #[]]) (.tmp 3) (.tmp 9) rfl rfl rfl rfl rfl rfl rKind rfl rfl (by simp [Value.oneCell']) hgg1 ?_
  try go_simp
  refine list_read (v := .bool true) rfl rfl (fun u hS => by go_simp) ?_
  try go_simp
  refine list_end (fun u1 hS => ?_)
  have D := hide hS
  clear hS
  go_upto_region 2 with fail
  refine list_start (S := Gd w [(g1, 56, #[.func (Fn.func 60) #[] #[], .func (Fn.func 61) #[] #[]]), (w.heap.size, 27, sh 1 rr x y z A n cp)]) (unhide D) ?_
  clear D
  refine list_read (v := .bool true) rfl rfl (fun u hS => by go_simp) ?_
  try go_simp
  refine list_read (v := .bool false) rfl rfl (fun u hS => by go_simp) ?_
  try go_simp
  refine list_read (v := .bool false) rfl rfl (fun u hS => by go_simp) ?_
  try go_simp
  refine list_read (v := .pointer (some ⟨g1, 0, none⟩)) rfl rfl (fun u hS => by go_simp) ?_
  try go_simp
  refine list_read (v := .func (Fn.func 60) #[] #[]) rfl rfl (fun u hS => exec_loadV_fholds (g := g1) (t := 56) (cs := #[.func (Fn.func 60) #[] #[], .func (Fn.func 61) #[] #[]]) hS.g _ rfl rfl (by repeat (first | exact List.mem_cons_self | apply List.mem_cons_of_mem)) rfl) ?_
  try go_simp
  refine list_read (v := .agg (sh 1 rr x y z A n cp)) rfl rfl (fun u hS => exec_loadG (g := w.heap.size) (t := 27) (cs := sh 1 rr x y z A n cp) hS.g rShape _ rfl rfl (by repeat (first | exact List.mem_cons_self | apply List.mem_cons_of_mem)) rfl) ?_
  try go_simp
  refine list_call (v := .bool true) (f := 60) (args := #[.agg (sh 1 rr x y z A n cp)]) rfl rfl (fun u hS => by go_simp) (fun u hS => (unhide h1 u hS.g.o).mono fun _ _ ⟨he, hb⟩ => ⟨he, hS.keep hb⟩) ?_
  try go_simp
  refine list_read (v := .bool false) rfl rfl (fun u hS => by go_simp) ?_
  try go_simp
  refine list_read (v := .bool false) rfl rfl (fun u hS => by go_simp) ?_
  try go_simp
  refine list_read (v := .bool false) rfl rfl (fun u hS => by go_simp) ?_
  try go_simp
  refine list_read (v := .agg (sh 1 rr x y z A n cp)) rfl rfl (fun u hS => exec_loadG (g := w.heap.size) (t := 27) (cs := sh 1 rr x y z A n cp) hS.g rShape _ rfl rfl (by repeat (first | exact List.mem_cons_self | apply List.mem_cons_of_mem)) rfl) ?_
  try go_simp
  refine list_call (v := .bool true) (f := 36) (args := #[.agg (sh 1 rr x y z A n cp)]) rfl rfl (fun u hS => by go_simp) (fun u hS => (unhide h2 u hS.g.o).mono fun _ _ ⟨he, hb⟩ => ⟨he, hS.keep hb⟩) ?_
  try go_simp
  refine list_read (v := .bool false) rfl rfl (fun u hS => by go_simp) ?_
  try go_simp
  refine list_read (v := .bool false) rfl rfl (fun u hS => by go_simp) ?_
  try go_simp
  refine list_end (fun u2 hS => ?_)
  have D := hide hS
  clear hS
  go_upto_region 4 with fail
  refine list_start (S := Gd w [(g1, 56, #[.func (Fn.func 60) #[] #[], .func (Fn.func 61) #[] #[]]), (w.heap.size, 27, sh 1 rr x y z A n cp)]) (unhide D) ?_
  clear D
  refine list_read (v := .pointer (some ⟨w.heap.size, 0, none⟩)) rfl rfl (fun u hS => by go_simp) ?_
  try go_simp
  refine list_read (v := .int .i64 1) rfl rfl (fun u hS => exec_loadN_int (g := w.heap.size) (t := 27) (cs := sh 1 rr x y z A n cp) hS.g _ rfl rfl (by repeat (first | exact List.mem_cons_self | apply List.mem_cons_of_mem)) rfl) ?_
  try go_simp
  refine list_read (v := .bool false) rfl rfl (fun u hS => by go_simp) ?_
  try go_simp
  refine list_read (v := .bool false) rfl rfl (fun u hS => by go_simp) ?_
  try go_simp
  refine list_skip ?_ ?_ ?_
  · rfl
  · rfl
  try go_simp
  refine list_skip ?_ ?_ ?_
  · rfl
  · rfl
  try go_simp
  refine list_skip ?_ ?_ ?_
  · rfl
  · rfl
  try go_simp
  refine list_read (v := .bool false) rfl rfl (fun u hS => by go_simp) ?_
  try go_simp
  refine list_end (fun u4 hS => ?_)
  have D := hide hS
  clear hS
  go_upto_region 6 with fail
  refine list_start (S := Gd w [(g1, 56, #[.func (Fn.func 60) #[] #[], .func (Fn.func 61) #[] #[]]), (w.heap.size, 27, sh 1 rr x y z A n cp)]) (unhide D) ?_
  clear D
  refine list_read (v := .int .i64 0) rfl rfl (fun u hS => by go_simp) ?_
  try go_simp
  refine list_end (fun u6 hS => ?_)
  have D := hide hS
  clear hS
  go_wp2
  go_ret
  exact ⟨rfl, (unhide D).g.o⟩
set_option maxHeartbeats 4000000 in
theorem check2_a (rr x y z : Int) (A : Option Addr) (n cp : Nat) (w : World) (h0 : Hid (Ans 35 #[.int .i64 2] (.tuple #[.agg (#[.func (Fn.func 62) #[] #[], .func (Fn.func 63) #[] #[]]), .bool true]))) (h1 : Hid (∀ u, Below w.heap.size w u → Calls Tryz.prog 62 #[.agg (sh 2 rr x y z A n cp)] u fun e w' => e = .returned (.bool false) ∧ Below u.heap.size u w')) : Calls Tryz.prog 17 #[.agg (sh 2 rr x y z A n cp)] w fun e w' => e = .returned (.int .i64 2) ∧ Below w.heap.size w w' := by
  go_enter Tryz.func17, Tryz.ntmps17
  go_upto_region 1 with fail
  have D := hide (((Gd.start w).push 27 (sh 2 rr x y z A n cp)))
  refine list_start (S := Gd w [(w.heap.size, 27, sh 2 rr x y z A n cp)]) (unhide D) ?_
  clear D
  refine list_read (v := .pointer (some ⟨w.heap.size, 0, none⟩)) rfl rfl (fun u hS => by go_simp) ?_
  try go_simp
  refine list_read (v := .int .i64 2) rfl rfl (fun u hS => exec_loadN_int (g := w.heap.size) (t := 27) (cs := sh 2 rr x y z A n cp) hS.g _ rfl rfl (by repeat (first | exact List.mem_cons_self | apply List.mem_cons_of_mem)) rfl) ?_
  try go_simp
  refine list_call (v := .tuple #[.agg (#[.func (Fn.func 62) #[] #[], .func (Fn.func 63) #[] #[]]), .bool true]) (f := 35) (args := #[.int .i64 2]) rfl rfl (fun u hS => by go_simp) (fun u hS => (unhide h0 u).mono fun _ _ ⟨he, hb⟩ => ⟨he, hS.keep hb⟩) ?_
  try go_simp
  refine list_read (v := .tuple #[.agg (#[.func (Fn.func 62) #[] #[], .func (Fn.func 63) #[] #[]]), .bool true]) rfl rfl (fun u hS => by go_simp) ?_
  try go_simp
  refine list_read (v := .agg (#[.func (Fn.func 62) #[] #[], .func (Fn.func 63) #[] #[]])) rfl rfl (fun u hS => by go_simp) ?_
  try go_simp
  refine list_read (v := .bool true) rfl rfl (fun u hS => by go_simp) ?_
  try go_simp
  refine list_new (z := #[.nilFunc, .nilFunc]) (ty := 56) (v := fun g => .pointer (some ⟨g, 0, none⟩)) rfl rfl (fun u => by go_simp) (fun g1 hgg1 => ?_)
  try go_simp
  refine list_store (l1 := []) (l2 := [(w.heap.size, 27, sh 2 rr x y z A n cp)]) (l' := [(g1, 56, #[.func (Fn.func 62) #[] #[], .func (Fn.func 63) #[] #[]]), (w.heap.size, 27, sh 2 rr x y z A n cp)]) (g := g1) (old := #[.nilFunc, .nilFunc]) (cs := #[.func (Fn.func 62) #[] #[], .func (Fn.func 63) #[] #[]]) (.tmp 3) (.tmp 9) rfl rfl rfl rfl rfl rfl rKind rfl rfl (by simp [Value.oneCell']) hgg1 ?_
  try go_simp
  refine list_read (v := .bool true) rfl rfl (fun u hS => by go_simp) ?_
  try go_simp
  refine list_end (fun u1 hS => ?_)
  have D := hide hS
  clear hS
  go_upto_region 2 with fail
  refine list_start (S := Gd w [(g1, 56, #[.func (Fn.func 62) #[] #[], .func (Fn.func 63) #[] #[]]), (w.heap.size, 27, sh 2 rr x y z A n cp)]) (unhide D) ?_
  clear D
  refine list_read (v := .bool true) rfl rfl (fun u hS => by go_simp) ?_
  try go_simp
  refine list_read (v := .bool false) rfl rfl (fun u hS => by go_simp) ?_
  try go_simp
  refine list_read (v := .bool false) rfl rfl (fun u hS => by go_simp) ?_
  try go_simp
  refine list_read (v := .pointer (some ⟨g1, 0, none⟩)) rfl rfl (fun u hS => by go_simp) ?_
  try go_simp
  refine list_read (v := .func (Fn.func 62) #[] #[]) rfl rfl (fun u hS => exec_loadV_fholds (g := g1) (t := 56) (cs := #[.func (Fn.func 62) #[] #[], .func (Fn.func 63) #[] #[]]) hS.g _ rfl rfl (by repeat (first | exact List.mem_cons_self | apply List.mem_cons_of_mem)) rfl) ?_
  try go_simp
  refine list_read (v := .agg (sh 2 rr x y z A n cp)) rfl rfl (fun u hS => exec_loadG (g := w.heap.size) (t := 27) (cs := sh 2 rr x y z A n cp) hS.g rShape _ rfl rfl (by repeat (first | exact List.mem_cons_self | apply List.mem_cons_of_mem)) rfl) ?_
  try go_simp
  refine list_call (v := .bool false) (f := 62) (args := #[.agg (sh 2 rr x y z A n cp)]) rfl rfl (fun u hS => by go_simp) (fun u hS => (unhide h1 u hS.g.o).mono fun _ _ ⟨he, hb⟩ => ⟨he, hS.keep hb⟩) ?_
  try go_simp
  refine list_read (v := .bool true) rfl rfl (fun u hS => by go_simp) ?_
  try go_simp
  refine list_read (v := .bool true) rfl rfl (fun u hS => by go_simp) ?_
  try go_simp
  refine list_read (v := .bool true) rfl rfl (fun u hS => by go_simp) ?_
  try go_simp
  refine list_skip ?_ ?_ ?_
  · rfl
  · rfl
  try go_simp
  refine list_skip ?_ ?_ ?_
  · rfl
  · rfl
  try go_simp
  refine list_skip ?_ ?_ ?_
  · rfl
  · rfl
  try go_simp
  refine list_read (v := .bool true) rfl rfl (fun u hS => by go_simp) ?_
  try go_simp
  refine list_end (fun u2 hS => ?_)
  have D := hide hS
  clear hS
  go_upto_region 3 with fail
  refine list_start (S := Gd w [(g1, 56, #[.func (Fn.func 62) #[] #[], .func (Fn.func 63) #[] #[]]), (w.heap.size, 27, sh 2 rr x y z A n cp)]) (unhide D) ?_
  clear D
  refine list_read (v := .int .i64 2) rfl rfl (fun u hS => by go_simp) ?_
  try go_simp
  refine list_end (fun u3 hS => ?_)
  have D := hide hS
  clear hS
  go_wp2
  go_ret
  exact ⟨rfl, (unhide D).g.o⟩
set_option maxHeartbeats 4000000 in
theorem check2_b (rr x y z : Int) (A : Option Addr) (n cp : Nat) (w : World) (h0 : Hid (Ans 35 #[.int .i64 2] (.tuple #[.agg (#[.func (Fn.func 62) #[] #[], .func (Fn.func 63) #[] #[]]), .bool true]))) (h1 : Hid (∀ u, Below w.heap.size w u → Calls Tryz.prog 62 #[.agg (sh 2 rr x y z A n cp)] u fun e w' => e = .returned (.bool true) ∧ Below u.heap.size u w')) (h2 : Hid (∀ u, Below w.heap.size w u → Calls Tryz.prog 36 #[.agg (sh 2 rr x y z A n cp)] u fun e w' => e = .returned (.bool false) ∧ Below u.heap.size u w')) : Calls Tryz.prog 17 #[.agg (sh 2 rr x y z A n cp)] w fun e w' => e = .returned (.int .i64 2) ∧ Below w.heap.size w w' := by
  go_enter Tryz.func17, Tryz.ntmps17
  go_upto_region 1 with fail
  have D := hide (((Gd.start w).push 27 (sh 2 rr x y z A n cp)))
  refine list_start (S := Gd w [(w.heap.size, 27, sh 2 rr x y z A n cp)]) (unhide D) ?_
  clear D
  refine list_read (v := .pointer (some ⟨w.heap.size, 0, none⟩)) rfl rfl (fun u hS => by go_simp) ?_
  try go_simp
  refine list_read (v := .int .i64 2) rfl rfl (fun u hS => exec_loadN_int (g := w.heap.size) (t := 27) (cs := sh 2 rr x y z A n cp) hS.g _ rfl rfl (by repeat (first | exact List.mem_cons_self | apply List.mem_cons_of_mem)) rfl) ?_
  try go_simp
  refine list_call (v := .tuple #[.agg (#[.func (Fn.func 62) #[] #[], .func (Fn.func 63) #[] #[]]), .bool true]) (f := 35) (args := #[.int .i64 2]) rfl rfl (fun u hS => by go_simp) (fun u hS => (unhide h0 u).mono fun _ _ ⟨he, hb⟩ => ⟨he, hS.keep hb⟩) ?_
  try go_simp
  refine list_read (v := .tuple #[.agg (#[.func (Fn.func 62) #[] #[], .func (Fn.func 63) #[] #[]]), .bool true]) rfl rfl (fun u hS => by go_simp) ?_
  try go_simp
  refine list_read (v := .agg (#[.func (Fn.func 62) #[] #[], .func (Fn.func 63) #[] #[]])) rfl rfl (fun u hS => by go_simp) ?_
  try go_simp
  refine list_read (v := .bool true) rfl rfl (fun u hS => by go_simp) ?_
  try go_simp
  refine list_new (z := #[.nilFunc, .nilFunc]) (ty := 56) (v := fun g => .pointer (some ⟨g, 0, none⟩)) rfl rfl (fun u => by go_simp) (fun g1 hgg1 => ?_)
  try go_simp
  refine list_store (l1 := []) (l2 := [(w.heap.size, 27, sh 2 rr x y z A n cp)]) (l' := [(g1, 56, #[.func (Fn.func 62) #[] #[], .func (Fn.func 63) #[] #[]]), (w.heap.size, 27, sh 2 rr x y z A n cp)]) (g := g1) (old := #[.nilFunc, .nilFunc]) (cs := #[.func (Fn.func 62) #[] #[], .func (Fn.func 63) #[] #[]]) (.tmp 3) (.tmp 9) rfl rfl rfl rfl rfl rfl rKind rfl rfl (by simp [Value.oneCell']) hgg1 ?_
  try go_simp
  refine list_read (v := .bool true) rfl rfl (fun u hS => by go_simp) ?_
  try go_simp
  refine list_end (fun u1 hS => ?_)
  have D := hide hS
  clear hS
  go_upto_region 2 with fail
  refine list_start (S := Gd w [(g1, 56, #[.func (Fn.func 62) #[] #[], .func (Fn.func 63) #[] #[]]), (w.heap.size, 27, sh 2 rr x y z A n cp)]) (unhide D) ?_
  clear D
  refine list_read (v := .bool true) rfl rfl (fun u hS => by go_simp) ?_
  try go_simp
  refine list_read (v := .bool false) rfl rfl (fun u hS => by go_simp) ?_
  try go_simp
  refine list_read (v := .bool false) rfl rfl (fun u hS => by go_simp) ?_
  try go_simp
  refine list_read (v := .pointer (some ⟨g1, 0, none⟩)) rfl rfl (fun u hS => by go_simp) ?_
  try go_simp
  refine list_read (v := .func (Fn.func 62) #[] #[]) rfl rfl (fun u hS => exec_loadV_fholds (g := g1) (t := 56) (cs := #[.func (Fn.func 62) #[] #[], .func (Fn.func 63) #[] #[]]) hS.g _ rfl rfl (by repeat (first | exact List.mem_cons_self | apply List.mem_cons_of_mem)) rfl) ?_
  try go_simp
  refine list_read (v := .agg (sh 2 rr x y z A n cp)) rfl rfl (fun u hS => exec_loadG (g := w.heap.size) (t := 27) (cs := sh 2 rr x y z A n cp) hS.g rShape _ rfl rfl (by repeat (first | exact List.mem_cons_self | apply List.mem_cons_of_mem)) rfl) ?_
  try go_simp
  refine list_call (v := .bool true) (f := 62) (args := #[.agg (sh 2 rr x y z A n cp)]) rfl rfl (fun u hS => by go_simp) (fun u hS => (unhide h1 u hS.g.o).mono fun _ _ ⟨he, hb⟩ => ⟨he, hS.keep hb⟩) ?_
  try go_simp
  refine list_read (v := .bool false) rfl rfl (fun u hS => by go_simp) ?_
  try go_simp
  refine list_read (v := .bool false) rfl rfl (fun u hS => by go_simp) ?_
  try go_simp
  refine list_read (v := .bool false) rfl rfl (fun u hS => by go_simp) ?_
  try go_simp
  refine list_read (v := .agg (sh 2 rr x y z A n cp)) rfl rfl (fun u hS => exec_loadG (g := w.heap.size) (t := 27) (cs := sh 2 rr x y z A n cp) hS.g rShape _ rfl rfl (by repeat (first | exact List.mem_cons_self | apply List.mem_cons_of_mem)) rfl) ?_
  try go_simp
  refine list_call (v := .bool false) (f := 36) (args := #[.agg (sh 2 rr x y z A n cp)]) rfl rfl (fun u hS => by go_simp) (fun u hS => (unhide h2 u hS.g.o).mono fun _ _ ⟨he, hb⟩ => ⟨he, hS.keep hb⟩) ?_
  try go_simp
  refine list_read (v := .bool true) rfl rfl (fun u hS => by go_simp) ?_
  try go_simp
  refine list_read (v := .bool true) rfl rfl (fun u hS => by go_simp) ?_
  try go_simp
  refine list_end (fun u2 hS => ?_)
  have D := hide hS
  clear hS
  go_upto_region 3 with fail
  refine list_start (S := Gd w [(g1, 56, #[.func (Fn.func 62) #[] #[], .func (Fn.func 63) #[] #[]]), (w.heap.size, 27, sh 2 rr x y z A n cp)]) (unhide D) ?_
  clear D
  refine list_read (v := .int .i64 2) rfl rfl (fun u hS => by go_simp) ?_
  try go_simp
  refine list_end (fun u3 hS => ?_)
  have D := hide hS
  clear hS
  go_wp2
  go_ret
  exact ⟨rfl, (unhide D).g.o⟩
set_option maxHeartbeats 4000000 in
theorem check2_c (rr x y z : Int) (A : Option Addr) (n cp : Nat) (w : World) (h0 : Hid (Ans 35 #[.int .i64 2] (.tuple #[.agg (#[.func (Fn.func 62) #[] #[], .func (Fn.func 63) #[] #[]]), .bool true]))) (h1 : Hid (∀ u, Below w.heap.size w u → Calls Tryz.prog 62 #[.agg (sh 2 rr x y z A n cp)] u fun e w' => e = .returned (.bool true) ∧ Below u.heap.size u w')) (h2 : Hid (∀ u, Below w.heap.size w u → Calls Tryz.prog 36 #[.agg (sh 2 rr x y z A n cp)] u fun e w' => e = .returned (.bool true) ∧ Below u.heap.size u w')) : Calls Tryz.prog 17 #[.agg (sh 2 rr x y z A n cp)] w fun e w' => e = .returned (.int .i64 0) ∧ Below w.heap.size w w' := by
  go_enter Tryz.func17, Tryz.ntmps17
  go_upto_region 1 with fail
  have D := hide (((Gd.start w).push 27 (sh 2 rr x y z A n cp)))
  refine list_start (S := Gd w [(w.heap.size, 27, sh 2 rr x y z A n cp)]) (unhide D) ?_
  clear D
  refine list_read (v := .pointer (some ⟨w.heap.size, 0, none⟩)) rfl rfl (fun u hS => by go_simp) ?_
  try go_simp
  refine list_read (v := .int .i64 2) rfl rfl (fun u hS => exec_loadN_int (g := w.heap.size) (t := 27) (cs := sh 2 rr x y z A n cp) hS.g _ rfl rfl (by repeat (first | exact List.mem_cons_self | apply List.mem_cons_of_mem)) rfl) ?_
  try go_simp
  refine list_call (v := .tuple #[.agg (#[.func (Fn.func 62) #[] #[], .func (Fn.func 63) #[] #[]]), .bool true]) (f := 35) (args := #[.int .i64 2]) rfl rfl (fun u hS => by go_simp) (fun u hS => (unhide h0 u).mono fun _ _ ⟨he, hb⟩ => ⟨he, hS.keep hb⟩) ?_
  try go_simp
  refine list_read (v := .tuple #[.agg (#[.func (Fn.func 62) #[] #[], .func (Fn.func 63) #[] #[]]), .bool true]) rfl rfl (fun u hS => by go_simp) ?_
  try go_simp
  refine list_read (v := .agg (#[.func (Fn.func 62) #[] #[], .func (Fn.func 63) #[] #[]])) rfl rfl (fun u hS => by go_simp) ?_
  try go_simp
  refine list_read (v := .bool true) rfl rfl (fun u hS => by go_simp) ?_
  try go_simp
  refine list_new (z := #[.nilFunc, .nilFunc]) (ty := 56) (v := fun g => .pointer (some ⟨g, 0, none⟩)) rfl rfl (fun u => by go_simp) (fun g1 hgg1 => ?_)
  try go_simp
  refine list_store (l1 := []) (l2 := [(w.heap.size, 27, sh 2 rr x y z A n cp)]) (l' := [(g1, 56, #[.func (Fn.func 62) #[] #[], .func (Fn.func 63) #[] #[]]), (w.heap.size, 27, sh 2 rr x y z A n cp)]) (g := g1) (old := #[.nilFunc, .nilFunc]) (cs := #[.func (Fn.func 62) #[] #[], .func (Fn.func 63) #[] #[]]) (.tmp 3) (.tmp 9) rfl rfl rfl rfl rfl rfl rKind rfl rfl (by simp [Value.oneCell']) hgg1 ?_
  try go_simp
  refine list_read (v := .bool true) rfl rfl (fun u hS => by go_simp) ?_
  try go_simp
  refine list_end (fun u1 hS => ?_)
  have D := hide hS
  clear hS
  go_upto_region 2 with fail
  refine list_start (S := Gd w [(g1, 56, #[.func (Fn.func 62) #[] #[], .func (Fn.func 63) #[] #[]]), (w.heap.size, 27, sh 2 rr x y z A n cp)]) (unhide D) ?_
  clear D
  refine list_read (v := .bool true) rfl rfl (fun u hS => by go_simp) ?_
  try go_simp
  refine list_read (v := .bool false) rfl rfl (fun u hS => by go_simp) ?_
  try go_simp
  refine list_read (v := .bool false) rfl rfl (fun u hS => by go_simp) ?_
  try go_simp
  refine list_read (v := .pointer (some ⟨g1, 0, none⟩)) rfl rfl (fun u hS => by go_simp) ?_
  try go_simp
  refine list_read (v := .func (Fn.func 62) #[] #[]) rfl rfl (fun u hS => exec_loadV_fholds (g := g1) (t := 56) (cs := #[.func (Fn.func 62) #[] #[], .func (Fn.func 63) #[] #[]]) hS.g _ rfl rfl (by repeat (first | exact List.mem_cons_self | apply List.mem_cons_of_mem)) rfl) ?_
  try go_simp
  refine list_read (v := .agg (sh 2 rr x y z A n cp)) rfl rfl (fun u hS => exec_loadG (g := w.heap.size) (t := 27) (cs := sh 2 rr x y z A n cp) hS.g rShape _ rfl rfl (by repeat (first | exact List.mem_cons_self | apply List.mem_cons_of_mem)) rfl) ?_
  try go_simp
  refine list_call (v := .bool true) (f := 62) (args := #[.agg (sh 2 rr x y z A n cp)]) rfl rfl (fun u hS => by go_simp) (fun u hS => (unhide h1 u hS.g.o).mono fun _ _ ⟨he, hb⟩ => ⟨he, hS.keep hb⟩) ?_
  try go_simp
  refine list_read (v := .bool false) rfl rfl (fun u hS => by go_simp) ?_
  try go_simp
  refine list_read (v := .bool false) rfl rfl (fun u hS => by go_simp) ?_
  try go_simp
  refine list_read (v := .bool false) rfl rfl (fun u hS => by go_simp) ?_
  try go_simp
  refine list_read (v := .agg (sh 2 rr x y z A n cp)) rfl rfl (fun u hS => exec_loadG (g := w.heap.size) (t := 27) (cs := sh 2 rr x y z A n cp) hS.g rShape _ rfl rfl (by repeat (first | exact List.mem_cons_self | apply List.mem_cons_of_mem)) rfl) ?_
  try go_simp
  refine list_call (v := .bool true) (f := 36) (args := #[.agg (sh 2 rr x y z A n cp)]) rfl rfl (fun u hS => by go_simp) (fun u hS => (unhide h2 u hS.g.o).mono fun _ _ ⟨he, hb⟩ => ⟨he, hS.keep hb⟩) ?_
  try go_simp
  refine list_read (v := .bool false) rfl rfl (fun u hS => by go_simp) ?_
  try go_simp
  refine list_read (v := .bool false) rfl rfl (fun u hS => by go_simp) ?_
  try go_simp
  refine list_end (fun u2 hS => ?_)
  have D := hide hS
  clear hS
  go_upto_region 4 with fail
  refine list_start (S := Gd w [(g1, 56, #[.func (Fn.func 62) #[] #[], .func (Fn.func 63) #[] #[]]), (w.heap.size, 27, sh 2 rr x y z A n cp)]) (unhide D) ?_
  clear D
  refine list_read (v := .pointer (some ⟨w.heap.size, 0, none⟩)) rfl rfl (fun u hS => by go_simp) ?_
  try go_simp
  refine list_read (v := .int .i64 2) rfl rfl (fun u hS => exec_loadN_int (g := w.heap.size) (t := 27) (cs := sh 2 rr x y z A n cp) hS.g _ rfl rfl (by repeat (first | exact List.mem_cons_self | apply List.mem_cons_of_mem)) rfl) ?_
  try go_simp
  refine list_read (v := .bool false) rfl rfl (fun u hS => by go_simp) ?_
  try go_simp
  refine list_read (v := .bool false) rfl rfl (fun u hS => by go_simp) ?_
  try go_simp
  refine list_skip ?_ ?_ ?_
  · rfl
  · rfl
  try go_simp
  refine list_skip ?_ ?_ ?_
  · rfl
  · rfl
  try go_simp
  refine list_skip ?_ ?_ ?_
  · rfl
  · rfl
  try go_simp
  refine list_read (v := .bool false) rfl rfl (fun u hS => by go_simp) ?_
  try go_simp
  refine list_end (fun u4 hS => ?_)
  have D := hide hS
  clear hS
  go_upto_region 6 with fail
  refine list_start (S := Gd w [(g1, 56, #[.func (Fn.func 62) #[] #[], .func (Fn.func 63) #[] #[]]), (w.heap.size, 27, sh 2 rr x y z A n cp)]) (unhide D) ?_
  clear D
  refine list_read (v := .int .i64 0) rfl rfl (fun u hS => by go_simp) ?_
  try go_simp
  refine list_end (fun u6 hS => ?_)
  have D := hide hS
  clear hS
  go_wp2
  go_ret
  exact ⟨rfl, (unhide D).g.o⟩
set_option maxHeartbeats 4000000 in
theorem check3_a (rr x y z : Int) (A : Option Addr) (n cp : Nat) (w : World) (h0 : Hid (Ans 35 #[.int .i64 3] (.tuple #[.agg (#[.func (Fn.func 64) #[] #[], .func (Fn.func 65) #[] #[]]), .bool true]))) (h1 : Hid (∀ u, Below w.heap.size w u → Calls Tryz.prog 64 #[.agg (sh 3 rr x y z A n cp)] u fun e w' => e = .returned (.bool false) ∧ Below u.heap.size u w')) : Calls Tryz.prog 17 #[.agg (sh 3 rr x y z A n cp)] w fun e w' => e = .returned (.int .i64 2) ∧ Below w.heap.size w w' := by
  go_enter Tryz.func17, Tryz.ntmps17
  go_upto_region 1 with fail
  have D := hide (((Gd.start w).push 27 (sh 3 rr x y z A n cp)))
  refine list_start (S := Gd w [(w.heap.size, 27, sh 3 rr x y z A n cp)]) (unhide D) ?_
  clear D
  refine list_read (v := .pointer (some ⟨w.heap.size, 0, none⟩)) rfl rfl (fun u hS => by go_simp) ?_
  try go_simp
  refine list_read (v := .int .i64 3) rfl rfl (fun u hS => exec_loadN_int (g := w.heap.size) (t := 27) (cs := sh 3 rr x y z A n cp) hS.g _ rfl rfl (by repeat (first | exact List.mem_cons_self | apply List.mem_cons_of_mem)) rfl) ?_
  try go_simp
  refine list_call (v := .tuple #[.agg (#[.func (Fn.func 64) #[] #[], .func (Fn.func 65) #[] #[]]), .bool true]) (f := 35) (args := #[.int .i64 3]) rfl rfl (fun u hS => by go_simp) (fun u hS => (unhide h0 u).mono fun _ _ ⟨he, hb⟩ => ⟨he, hS.keep hb⟩) ?_
  try go_simp
  refine list_read (v := .tuple #[.agg (#[.func (Fn.func 64) #[] #[], .func (Fn.func 65) #[] #[]]), .bool true]) rfl rfl (fun u hS => by go_simp) ?_
  try go_simp
  refine list_read (v := .agg (#[.func (Fn.func 64) #[] #[], .func (Fn.func 65) #[] #[]])) rfl rfl (fun u hS => by go_simp) ?_
  try go_simp
  refine list_read (v := .bool true) rfl rfl (fun u hS => by go_simp) ?_
  try go_simp
  refine list_new (z := #[.nilFunc, .nilFunc]) (ty := 56) (v := fun g => .pointer (some ⟨g, 0, none⟩)) rfl rfl (fun u => by go_simp) (fun g1 hgg1 => ?_)
  try go_simp
  refine list_store (l1 := []) (l2 := [(w.heap.size, 27, sh 3 rr x y z A n cp)]) (l' := [(g1, 56, #[.func (Fn.func 64) #[] #[], .func (Fn.func 65) #[] #[]]), (w.heap.size, 27, sh 3 rr x y z A n cp)]) (g := g1) (old := #[.nilFunc, .nilFunc]) (cs := #[.func (Fn.func 64) #[] #[], .func (Fn.func 65) #[] #[]]) (.tmp 3) (.tmp 9) rfl rfl rfl rfl rfl rfl rKind rfl rfl (by simp [Value.oneCell']) hgg1 ?_
  try go_simp
  refine list_read (v := .bool true) rfl rfl (fun u hS => by go_simp) ?_
  try go_simp
  refine list_end (fun u1 hS => ?_)
  have D := hide hS
  clear hS
  go_upto_region 2 with fail
  refine list_start (S := Gd w [(g1, 56, #[.func (Fn.func 64) #[] #[], .func (Fn.func 65) #[] #[]]), (w.heap.size, 27, sh 3 rr x y z A n cp)]) (unhide D) ?_
  clear D
  refine list_read (v := .bool true) rfl rfl (fun u hS => by go_simp) ?_
  try go_simp
  refine list_read (v := .bool false) rfl rfl (fun u hS => by go_simp) ?_
  try go_simp
  refine list_read (v := .bool false) rfl rfl (fun u hS => by go_simp) ?_
  try go_simp
  refine list_read (v := .pointer (some ⟨g1, 0, none⟩)) rfl rfl (fun u hS => by go_simp) ?_
  try go_simp
  refine list_read (v := .func (Fn.func 64) #[] #[]) rfl rfl (fun u hS => exec_loadV_fholds (g := g1) (t := 56) (cs := #[.func (Fn.func 64) #[] #[], .func (Fn.func 65) #[] #[]]) hS.g _ rfl rfl (by repeat (first | exact List.mem_cons_self | apply List.mem_cons_of_mem)) rfl) ?_
  try go_simp
  refine list_read (v := .agg (sh 3 rr x y z A n cp)) rfl rfl (fun u hS => exec_loadG (g := w.heap.size) (t := 27) (cs := sh 3 rr x y z A n cp) hS.g rShape _ rfl rfl (by repeat (first | exact List.mem_cons_self | apply List.mem_cons_of_mem)) rfl) ?_
  try go_simp
  refine list_call (v := .bool false) (f := 64) (args := #[.agg (sh 3 rr x y z A n cp)]) rfl rfl (fun u hS => by go_simp) (fun u hS => (unhide h1 u hS.g.o).mono fun _ _ ⟨he, hb⟩ => ⟨he, hS.keep hb⟩) ?_
  try go_simp
  refine list_read (v := .bool true) rfl rfl (fun u hS => by go_simp) ?_
  try go_simp
  refine list_read (v := .bool true) rfl rfl (fun u hS => by go_simp) ?_
  try go_simp
  refine list_read (v := .bool true) rfl rfl (fun u hS => by go_simp) ?_
  try go_simp
  refine list_skip ?_ ?_ ?_
  · rfl
  · rfl
  try go_simp
  refine list_skip ?_ ?_ ?_
  · rfl
  · rfl
  try go_simp
  refine list_skip ?_ ?_ ?_
  · rfl
  · rfl
  try go_simp
  refine list_read (v := .bool true) rfl rfl (fun u hS => by go_simp) ?_
  try go_simp
  refine list_end (fun u2 hS => ?_)
  have D := hide hS
  clear hS
  go_upto_region 3 with fail
  refine list_start (S := Gd w [(g1, 56, #[.func (Fn.func 64) #[] #[], .func (Fn.func 65) #[] #[]]), (w.heap.size, 27, sh 3 rr x y z A n cp)]) (unhide D) ?_
  clear D
  refine list_read (v := .int .i64 2) rfl rfl (fun u hS => by go_simp) ?_
  try go_simp
  refine list_end (fun u3 hS => ?_)
  have D := hide hS
  clear hS
  go_wp2
  go_ret
  exact ⟨rfl, (unhide D).g.o⟩
set_option maxHeartbeats 4000000 in
theorem check3_b (rr x y z : Int) (A : Option Addr) (n cp : Nat) (w : World) (h0 : Hid (Ans 35 #[.int .i64 3] (.tuple #[.agg (#[.func (Fn.func 64) #[] #[], .func (Fn.func 65) #[] #[]]), .bool true]))) (h1 : Hid (∀ u, Below w.heap.size w u → Calls Tryz.prog 64 #[.agg (sh 3 rr x y z A n cp)] u fun e w' => e = .returned (.bool true) ∧ Below u.heap.size u w')) (h2 : Hid (∀ u, Below w.heap.size w u → Calls Tryz.prog 36 #[.agg (sh 3 rr x y z A n cp)] u fun e w' => e = .returned (.bool false) ∧ Below u.heap.size u w')) : Calls Tryz.prog 17 #[.agg (sh 3 rr x y z A n cp)] w fun e w' => e = .returned (.int .i64 2) ∧ Below w.heap.size w w' := by
  go_enter Tryz.func17, Tryz.ntmps17
  go_upto_region 1 with fail
  have D := hide (((Gd.start w).push 27 (sh 3 rr x y z A n cp)))
  refine list_start (S := Gd w [(w.heap.size, 27, sh 3 rr x y z A n cp)]) (unhide D) ?_
  clear D
  refine list_read (v := .pointer (some ⟨w.heap.size, 0, none⟩)) rfl rfl (fun u hS => by go_simp) ?_
  try go_simp
  refine list_read (v := .int .i64 3) rfl rfl (fun u hS => exec_loadN_int (g := w.heap.size) (t := 27) (cs := sh 3 rr x y z A n cp) hS.g _ rfl rfl (by repeat (first | exact List.mem_cons_self | apply List.mem_cons_of_mem)) rfl) ?_
  try go_simp
  refine list_call (v := .tuple #[.agg (#[.func (Fn.func 64) #[] #[], .func (Fn.func 65) #[] #[]]), .bool true]) (f := 35) (args := #[.int .i64 3]) rfl rfl (fun u hS => by go_simp) (fun u hS => (unhide h0 u).mono fun _ _ ⟨he, hb⟩ => ⟨he, hS.keep hb⟩) ?_
  try go_simp
  refine list_read (v := .tuple #[.agg (#[.func (Fn.func 64) #[] #[], .func (Fn.func 65) #[] #[]]), .bool true]) rfl rfl (fun u hS => by go_simp) ?_
  try go_simp
  refine list_read (v := .agg (#[.func (Fn.func 64) #[] #[], .func (Fn.func 65) #[] #[]])) rfl rfl (fun u hS => by go_simp) ?_
  try go_simp
  refine list_read (v := .bool true) rfl rfl (fun u hS => by go_simp) ?_
  try go_simp
  refine list_new (z := #[.nilFunc, .nilFunc]) (ty := 56) (v := fun g => .pointer (some ⟨g, 0, none⟩)) rfl rfl (fun u => by go_simp) (fun g1 hgg1 => ?_)
  try go_simp
  refine list_store (l1 := []) (l2 := [(w.heap.size, 27, sh 3 rr x y z A n cp)]) (l' := [(g1, 56, #[.func (Fn.func 64) #[] #[], .func (Fn.func 65) #[] #[]]), (w.heap.size, 27, sh 3 rr x y z A n cp)]) (g := g1) (old := #[.nilFunc, .nilFunc]) (cs := #[.func (Fn.func 64) #[] #[], .func (Fn.func 65) #[] #[]]) (.tmp 3) (.tmp 9) rfl rfl rfl rfl rfl rfl rKind rfl rfl (by simp [Value.oneCell']) hgg1 ?_
  try go_simp
  refine list_read (v := .bool true) rfl rfl (fun u hS => by go_simp) ?_
  try go_simp
  refine list_end (fun u1 hS => ?_)
  have D := hide hS
  clear hS
  go_upto_region 2 with fail
  refine list_start (S := Gd w [(g1, 56, #[.func (Fn.func 64) #[] #[], .func (Fn.func 65) #[] #[]]), (w.heap.size, 27, sh 3 rr x y z A n cp)]) (unhide D) ?_
  clear D
  refine list_read (v := .bool true) rfl rfl (fun u hS => by go_simp) ?_
  try go_simp
  refine list_read (v := .bool false) rfl rfl (fun u hS => by go_simp) ?_
  try go_simp
  refine list_read (v := .bool false) rfl rfl (fun u hS => by go_simp) ?_
  try go_simp
  refine list_read (v := .pointer (some ⟨g1, 0, none⟩)) rfl rfl (fun u hS => by go_simp) ?_
  try go_simp
  refine list_read (v := .func (Fn.func 64) #[] #[]) rfl rfl (fun u hS => exec_loadV_fholds (g := g1) (t := 56) (cs := #[.func (Fn.func 64) #[] #[], .func (Fn.func 65) #[] #[]]) hS.g _ rfl rfl (by repeat (first | exact List.mem_cons_self | apply List.mem_cons_of_mem)) rfl) ?_
  try go_simp
  refine list_read (v := .agg (sh 3 rr x y z A n cp)) rfl rfl (fun u hS => exec_loadG (g := w.heap.size) (t := 27) (cs := sh 3 rr x y z A n cp) hS.g rShape _ rfl rfl (by repeat (first | exact List.mem_cons_self | apply List.mem_cons_of_mem)) rfl) ?_
  try go_simp
  refine list_call (v := .bool true) (f := 64) (args := #[.agg (sh 3 rr x y z A n cp)]) rfl rfl (fun u hS => by go_simp) (fun u hS => (unhide h1 u hS.g.o).mono fun _ _ ⟨he, hb⟩ => ⟨he, hS.keep hb⟩) ?_
  try go_simp
  refine list_read (v := .bool false) rfl rfl (fun u hS => by go_simp) ?_
  try go_simp
  refine list_read (v := .bool false) rfl rfl (fun u hS => by go_simp) ?_
  try go_simp
  refine list_read (v := .bool false) rfl rfl (fun u hS => by go_simp) ?_
  try go_simp
  refine list_read (v := .agg (sh 3 rr x y z A n cp)) rfl rfl (fun u hS => exec_loadG (g := w.heap.size) (t := 27) (cs := sh 3 rr x y z A n cp) hS.g rShape _ rfl rfl (by repeat (first | exact List.mem_cons_self | apply List.mem_cons_of_mem)) rfl) ?_
  try go_simp
  refine list_call (v := .bool false) (f := 36) (args := #[.agg (sh 3 rr x y z A n cp)]) rfl rfl (fun u hS => by go_simp) (fun u hS => (unhide h2 u hS.g.o).mono fun _ _ ⟨he, hb⟩ => ⟨he, hS.keep hb⟩) ?_
  try go_simp
  refine list_read (v := .bool true) rfl rfl (fun u hS => by go_simp) ?_
  try go_simp
  refine list_read (v := .bool true) rfl rfl (fun u hS => by go_simp) ?_
  try go_simp
  refine list_end (fun u2 hS => ?_)
  have D := hide hS
  clear hS
  go_upto_region 3 with fail
  refine list_start (S := Gd w [(g1, 56, #[.func (Fn.func 64) #[] #[], .func (Fn.func 65) #[] #[]]), (w.heap.size, 27, sh 3 rr x y z A n cp)]) (unhide D) ?_
  clear D
  refine list_read (v := .int .i64 2) rfl rfl (fun u hS => by go_simp) ?_
  try go_simp
  refine list_end (fun u3 hS => ?_)
  have D := hide hS
  clear hS
  go_wp2
  go_ret
  exact ⟨rfl, (unhide D).g.o⟩
set_option maxHeartbeats 4000000 in
theorem check3_c (rr x y z : Int) (A : Option Addr) (n cp : Nat) (w : World) (h0 : Hid (Ans 35 #[.int .i64 3] (.tuple #[.agg (#[.func (Fn.func 64) #[] #[], .func (Fn.func 65) #[] #[]]), .bool true]))) (h1 : Hid (∀ u, Below w.heap.size w u → Calls Tryz.prog 64 #[.agg (sh 3 rr x y z A n cp)] u fun e w' => e = .returned (.bool true) ∧ Below u.heap.size u w')) (h2 : Hid (∀ u, Below w.heap.size w u → Calls Tryz.prog 36 #[.agg (sh 3 rr x y z A n cp)] u fun e w' => e = .returned (.bool true) ∧ Below u.heap.size u w')) : Calls Tryz.prog 17 #[.agg (sh 3 rr x y z A n cp)] w fun e w' => e = .returned (.int .i64 0) ∧ Below w.heap.size w w' := by
  go_enter Tryz.func17, Tryz.ntmps17
  go_upto_region 1 with fail
  have D := hide (((Gd.start w).push 27 (sh 3 rr x y z A n cp)))
  refine list_start (S := Gd w [(w.heap.size, 27, sh 3 rr x y z A n cp)]) (unhide D) ?_
  clear D
  refine list_read (v := .pointer (some ⟨w.heap.size, 0, none⟩)) rfl rfl (fun u hS => by go_simp) ?_
  try go_simp
  refine list_read (v := .int .i64 3) rfl rfl (fun u hS => exec_loadN_int (g := w.heap.size) (t := 27) (cs := sh 3 rr x y z A n cp) hS.g _ rfl rfl (by repeat (first | exact List.mem_cons_self | apply List.mem_cons_of_mem)) rfl) ?_
  try go_simp
  refine list_call (v := .tuple #[.agg (#[.func (Fn.func 64) #[] #[], .func (Fn.func 65) #[] #[]]), .bool true]) (f := 35) (args := #[.int .i64 3]) rfl rfl (fun u hS => by go_simp) (fun u hS => (unhide h0 u).mono fun _ _ ⟨he, hb⟩ => ⟨he, hS.keep hb⟩) ?_
  try go_simp
  refine list_read (v := .tuple #[.agg (#[.func (Fn.func 64) #[] #[], .func (Fn.func 65) #[] #[]]), .bool true]) rfl rfl (fun u hS => by go_simp) ?_
  try go_simp
  refine list_read (v := .agg (#[.func (Fn.func 64) #[] #[], .func (Fn.func 65) #[] #[]])) rfl rfl (fun u hS => by go_simp) ?_
  try go_simp
  refine list_read (v := .bool true) rfl rfl (fun u hS => by go_simp) ?_
  try go_simp
  refine list_new (z := #[.nilFunc, .nilFunc]) (ty := 56) (v := fun g => .pointer (some ⟨g, 0, none⟩)) rfl rfl (fun u => by go_simp) (fun g1 hgg1 => ?_)
  try go_simp
  refine list_store (l1 := []) (l2 := [(w.heap.size, 27, sh 3 rr x y z A n cp)]) (l' := [(g1, 56, #[.func (Fn.func 64) #[] #[], .func (Fn.func 65) #[] #[]]), (w.heap.size, 27, sh 3 rr x y z A n cp)]) (g := g1) (old := #[.nilFunc, .nilFunc]) (cs := #[.func (Fn.func 64) #[] #[], .func (Fn.func 65) #[] #[]]) (.tmp 3) (.tmp 9) rfl rfl rfl rfl rfl rfl rKind rfl rfl (by simp [Value.oneCell']) hgg1 ?_
  try go_simp
  refine list_read (v := .bool true) rfl rfl (fun u hS => by go_simp) ?_
  try go_simp
  refine list_end (fun u1 hS => ?_)
  have D := hide hS
  clear hS
  go_upto_region 2 with fail
  refine list_start (S := Gd w [(g1, 56, #[.func (Fn.func 64) #[] #[], .func (Fn.func 65) #[] #[]]), (w.heap.size, 27, sh 3 rr x y z A n cp)]) (unhide D) ?_
  clear D
  refine list_read (v := .bool true) rfl rfl (fun u hS => by go_simp) ?_
  try go_simp
  refine list_read (v := .bool false) rfl rfl (fun u hS => by go_simp) ?_
  try go_simp
  refine list_read (v := .bool false) rfl rfl (fun u hS => by go_simp) ?_
  try go_simp
  refine list_read (v := .pointer (some ⟨g1, 0, none⟩)) rfl rfl (fun u hS => by go_simp) ?_
  try go_simp
  refine list_read (v := .func (Fn.func 64) #[] #[]) rfl rfl (fun u hS => exec_loadV_fholds (g := g1) (t := 56) (cs := #[.func (Fn.func 64) #[] #[], .func (Fn.func 65) #[] #[]]) hS.g _ rfl rfl (by repeat (first | exact List.mem_cons_self | apply List.mem_cons_of_mem)) rfl) ?_
  try go_simp
  refine list_read (v := .agg (sh 3 rr x y z A n cp)) rfl rfl (fun u hS => exec_loadG (g := w.heap.size) (t := 27) (cs := sh 3 rr x y z A n cp) hS.g rShape _ rfl rfl (by repeat (first | exact List.mem_cons_self | apply List.mem_cons_of_mem)) rfl) ?_
  try go_simp
  refine list_call (v := .bool true) (f := 64) (args := #[.agg (sh 3 rr x y z A n cp)]) rfl rfl (fun u hS => by go_simp) (fun u hS => (unhide h1 u hS.g.o).mono fun _ _ ⟨he, hb⟩ => ⟨he, hS.keep hb⟩) ?_
  try go_simp
  refine list_read (v := .bool false) rfl rfl (fun u hS => by go_simp) ?_
  try go_simp
  refine list_read (v := .bool false) rfl rfl (fun u hS => by go_simp) ?_
  try go_simp
  refine list_read (v := .bool false) rfl rfl (fun u hS => by go_simp) ?_
  try go_simp
  refine list_read (v := .agg (sh 3 rr x y z A n cp)) rfl rfl (fun u hS => exec_loadG (g := w.heap.size) (t := 27) (cs := sh 3 rr x y z A n cp) hS.g rShape _ rfl rfl (by repeat (first | exact List.mem_cons_self | apply List.mem_cons_of_mem)) rfl) ?_
  try go_simp
  refine list_call (v := .bool true) (f := 36) (args := #[.agg (sh 3 rr x y z A n cp)]) rfl rfl (fun u hS => by go_simp) (fun u hS => (unhide h2 u hS.g.o).mono fun _ _ ⟨he, hb⟩ => ⟨he, hS.keep hb⟩) ?_
  try go_simp
  refine list_read (v := .bool false) rfl rfl (fun u hS => by go_simp) ?_
  try go_simp
  refine list_read (v := .bool false) rfl rfl (fun u hS => by go_simp) ?_
  try go_simp
  refine list_end (fun u2 hS => ?_)
  have D := hide hS
  clear hS
  go_upto_region 4 with fail
  refine list_start (S := Gd w [(g1, 56, #[.func (Fn.func 64) #[] #[], .func (Fn.func 65) #[] #[]]), (w.heap.size, 27, sh 3 rr x y z A n cp)]) (unhide D) ?_
  clear D
  refine list_read (v := .pointer (some ⟨w.heap.size, 0, none⟩)) rfl rfl (fun u hS => by go_simp) ?_
  try go_simp
  refine list_read (v := .int .i64 3) rfl rfl (fun u hS => exec_loadN_int (g := w.heap.size) (t := 27) (cs := sh 3 rr x y z A n cp) hS.g _ rfl rfl (by repeat (first | exact List.mem_cons_self | apply List.mem_cons_of_mem)) rfl) ?_
  try go_simp
  refine list_read (v := .bool false) rfl rfl (fun u hS => by go_simp) ?_
  try go_simp
  refine list_read (v := .bool false) rfl rfl (fun u hS => by go_simp) ?_
  try go_simp
  refine list_skip ?_ ?_ ?_
  · rfl
  · rfl
  try go_simp
  refine list_skip ?_ ?_ ?_
  · rfl
  · rfl
  try go_simp
  refine list_skip ?_ ?_ ?_
  · rfl
  · rfl
  try go_simp
  refine list_read (v := .bool false) rfl rfl (fun u hS => by go_simp) ?_
  try go_simp
  refine list_end (fun u4 hS => ?_)
  have D := hide hS
  clear hS
  go_upto_region 6 with fail
  refine list_start (S := Gd w [(g1, 56, #[.func (Fn.func 64) #[] #[], .func (Fn.func 65) #[] #[]]), (w.heap.size, 27, sh 3 rr x y z A n cp)]) (unhide D) ?_
  clear D
  refine list_read (v := .int .i64 0) rfl rfl (fun u hS => by go_simp) ?_
  try go_simp
  refine list_end (fun u6 hS => ?_)
  have D := hide hS
  clear hS
  go_wp2
  go_ret
  exact ⟨rfl, (unhide D).g.o⟩
set_option maxHeartbeats 4000000 in
theorem check4_a (rr x y z : Int) (A : Option Addr) (n cp : Nat) (w : World) (h0 : Hid (Ans 35 #[.int .i64 4] (.tuple #[.agg (#[.func (Fn.func 66) #[] #[], .func (Fn.func 67) #[] #[]]), .bool true]))) (h1 : Hid (∀ u, Below w.heap.size w u → Calls Tryz.prog 66 #[.agg (sh 4 rr x y z A n cp)] u fun e w' => e = .returned (.bool false) ∧ Below u.heap.size u w')) : Calls Tryz.prog 17 #[.agg (sh 4 rr x y z A n cp)] w fun e w' => e = .returned (.int .i64 2) ∧ Below w.heap.size w w' := by
  go_enter Tryz.func17, Tryz.ntmps17
  go_upto_region 1 with fail
  have D := hide (((Gd.start w).push 27 (sh 4 rr x y z A n cp)))
  refine list_start (S := Gd w [(w.heap.size, 27, sh 4 rr x y z A n cp)]) (unhide D) ?_
  clear D
  refine list_read (v := .pointer (some ⟨w.heap.size, 0, none⟩)) rfl rfl (fun u hS => by go_simp) ?_
  try go_simp
  refine list_read (v := .int .i64 4) rfl rfl (fun u hS => exec_loadN_int (g := w.heap.size) (t := 27) (cs := sh 4 rr x y z A n cp) hS.g _ rfl rfl (by repeat (first | exact List.mem_cons_self | apply List.mem_cons_of_mem)) rfl) ?_
  try go_simp
  refine list_call (v := .tuple #[.agg (#[.func (Fn.func 66) #[] #[], .func (Fn.func 67) #[] #[]]), .bool true]) (f := 35) (args := #[.int .i64 4]) rfl rfl (fun u hS => by go_simp) (fun u hS => (unhide h0 u).mono fun _ _ ⟨he, hb⟩ => ⟨he, hS.keep hb⟩) ?_
  try go_simp
  refine list_read (v := .tuple #[.agg (#[.func (Fn.func 66) #[] #[], .func (Fn.func 67) #[] #[]]), .bool true]) rfl rfl (fun u hS => by go_simp) ?_
  try go_simp
  refine list_read (v := .agg (#[.func (Fn.func 66) #[] #[], .func (Fn.func 67) #[] #[]])) rfl rfl (fun u hS => by go_simp) ?_
  try go_simp
  refine list_read (v := .bool true) rfl rfl (fun u hS => by go_simp) ?_
  try go_simp
  refine list_new (z := #[.nilFunc, .nilFunc]) (ty := 56) (v := fun g => .pointer (some ⟨g, 0, none⟩)) rfl rfl (fun u => by go_simp) (fun g1 hgg1 => ?_)
  try go_simp
  refine list_store (l1 := []) (l2 := [(w.heap.size, 27, sh 4 rr x y z A n cp)]) (l' := [(g1, 56, #[.func (Fn.func 66) #[] #[], .func (Fn.func 67) #[] #[]]), (w.heap.size, 27, sh 4 rr x y z A n cp)]) (g := g1) (old := #[.nilFunc, .nilFunc]) (cs := #[.func (Fn.func 66) #[] #[], .func (Fn.func 67) #[] #[]]) (.tmp 3) (.tmp 9) rfl rfl rfl rfl rfl rfl rKind rfl rfl (by simp [Value.oneCell']) hgg1 ?_
  try go_simp
  refine list_read (v := .bool true) rfl rfl (fun u hS => by go_simp) ?_
  try go_simp
  refine list_end (fun u1 hS => ?_)
  have D := hide hS
  clear hS
  go_upto_region 2 with fail
  refine list_start (S := Gd w [(g1, 56, #[.func (Fn.func 66) #[] #[], .func (Fn.func 67) #[] #[]]), (w.heap.size, 27, sh 4 rr x y z A n cp)]) (unhide D) ?_
  clear D
  refine list_read (v := .bool true) rfl rfl (fun u hS => by go_simp) ?_
  try go_simp
  refine list_read (v := .bool false) rfl rfl (fun u hS => by go_simp) ?_
  try go_simp
  refine list_read (v := .bool false) rfl rfl (fun u hS => by go_simp) ?_
  try go_simp
  refine list_read (v := .pointer (some ⟨g1, 0, none⟩)) rfl rfl (fun u hS => by go_simp) ?_
  try go_simp
  refine list_read (v := .func (Fn.func 66) #[] #[]) rfl rfl (fun u hS => exec_loadV_fholds (g := g1) (t := 56) (cs := #[.func (Fn.func 66) #[] #[], .func (Fn.func 67) #[] #[]]) hS.g _ rfl rfl (by repeat (first | exact List.mem_cons_self | apply List.mem_cons_of_mem)) rfl) ?_
  try go_simp
  refine list_read (v := .agg (sh 4 rr x y z A n cp)) rfl rfl (fun u hS => exec_loadG (g := w.heap.size) (t := 27) (cs := sh 4 rr x y z A n cp) hS.g rShape _ rfl rfl (by repeat (first | exact List.mem_cons_self | apply List.mem_cons_of_mem)) rfl) ?_
  try go_simp
  refine list_call (v := .bool false) (f := 66) (args := #[.agg (sh 4 rr x y z A n cp)]) rfl rfl (fun u hS => by go_simp) (fun u hS => (unhide h1 u hS.g.o).mono fun _ _ ⟨he, hb⟩ => ⟨he, hS.keep hb⟩) ?_
  try go_simp
  refine list_read (v := .bool true) rfl rfl (fun u hS => by go_simp) ?_
  try go_simp
  refine list_read (v := .bool true) rfl rfl (fun u hS => by go_simp) ?_
  try go_simp
  refine list_read (v := .bool true) rfl rfl (fun u hS => by go_simp) ?_
  try go_simp
  refine list_skip ?_ ?_ ?_
  · rfl
  · rfl
  try go_simp
  refine list_skip ?_ ?_ ?_
  · rfl
  · rfl
  try go_simp
  refine list_skip ?_ ?_ ?_
  · rfl
  · rfl
  try go_simp
  refine list_read (v := .bool true) rfl rfl (fun u hS => by go_simp) ?_
  try go_simp
  refine list_end (fun u2 hS => ?_)
  have D := hide hS
  clear hS
  go_upto_region 3 with fail
  refine list_start (S := Gd w [(g1, 56, #[.func (Fn.func 66) #[] #[], .func (Fn.func 67) #[] #[]]), (w.heap.size, 27, sh 4 rr x y z A n cp)]) (unhide D) ?_
  clear D
  refine list_read (v := .int .i64 2) rfl rfl (fun u hS => by go_simp) ?_
  try go_simp
  refine list_end (fun u3 hS => ?_)
  have D := hide hS
  clear hS
  go_wp2
  go_ret
  exact ⟨rfl, (unhide D).g.o⟩
set_option maxHeartbeats 4000000 in
theorem check4_b (rr x y z : Int) (A : Option Addr) (n cp : Nat) (w : World) (h0 : Hid (Ans 35 #[.int .i64 4] (.tuple #[.agg (#[.func (Fn.func 66) #[] #[], .func (Fn.func 67) #[] #[]]), .bool true]))) (h1 : Hid (∀ u, Below w.heap.size w u → Calls Tryz.prog 66 #[.agg (sh 4 rr x y z A n cp)] u fun e w' => e = .returned (.bool true) ∧ Below u.heap.size u w')) (h2 : Hid (∀ u, Below w.heap.size w u → Calls Tryz.prog 36 #[.agg (sh 4 rr x y z A n cp)] u fun e w' => e = .returned (.bool false) ∧ Below u.heap.size u w')) : Calls Tryz.prog 17 #[.agg (sh 4 rr x y z A n cp)] w fun e w' => e = .returned (.int .i64 2) ∧ Below w.heap.size w w' := by
  go_enter Tryz.func17, Tryz.ntmps17
  go_upto_region 1 with fail
  have D := hide (((Gd.start w).push 27 (sh 4 rr x y z A n cp)))
  refine list_start (S := Gd w [(w.heap.size, 27, sh 4 rr x y z A n cp)]) (unhide D) ?_
  clear D
  refine list_read (v := .pointer (some ⟨w.heap.size, 0, none⟩)) rfl rfl (fun u hS => by go_simp) ?_
  try go_simp
  refine list_read (v := .int .i64 4) rfl rfl (fun u hS => exec_loadN_int (g := w.heap.size) (t := 27) (cs := sh 4 rr x y z A n cp) hS.g _ rfl rfl (by repeat (first | exact List.mem_cons_self | apply List.mem_cons_of_mem)) rfl) ?_
  try go_simp
  refine list_call (v := .tuple #[.agg (#[.func (Fn.func 66) #[] #[], .func (Fn.func 67) #[] #[]]), .bool true]) (f := 35) (args := #[.int .i64 4]) rfl rfl (fun u hS => by go_simp) (fun u hS => (unhide h0 u).mono fun _ _ ⟨he, hb⟩ => ⟨he, hS.keep hb⟩) ?_
  try go_simp
  refine list_read (v := .tuple #[.agg (#[.func (Fn.func 66) #[] #[], .func (Fn.func 67) #[] #[]]), .bool true]) rfl rfl (fun u hS => by go_simp) ?_
  try go_simp
  refine list_read (v := .agg (#[.func (Fn.func 66) #[] #[], .func (Fn.func 67) #[] #[]])) rfl rfl (fun u hS => by go_simp) ?_
  try go_simp
  refine list_read (v := .bool true) rfl rfl (fun u hS => by go_simp) ?_
  try go_simp
  refine list_new (z := #[.nilFunc, .nilFunc]) (ty := 56) (v := fun g => .pointer (some ⟨g, 0, none⟩)) rfl rfl (fun u => by go_simp) (fun g1 hgg1 => ?_)
  try go_simp
  refine list_store (l1 := []) (l2 := [(w.heap.size, 27, sh 4 rr x y z A n cp)]) (l' := [(g1, 56, #[.func (Fn.func 66) #[] #[], .func (Fn.func 67) #[] #[]]), (w.heap.size, 27, sh 4 rr x y z A n cp)]) (g := g1) (old := #[.nilFunc, .nilFunc]) (cs := #[.func (Fn.func 66) #[] #[], .func (Fn.func 67) #[] #[]]) (.tmp 3) (.tmp 9) rfl rfl rfl rfl rfl rfl rKind rfl rfl (by simp [Value.oneCell']) hgg1 ?_
  try go_simp
  refine list_read (v := .bool true) rfl rfl (fun u hS => by go_simp) ?_
  try go_simp
  refine list_end (fun u1 hS => ?_)
  have D := hide hS
  clear hS
  go_upto_region 2 with fail
  refine list_start (S := Gd w [(g1, 56, #[.func (Fn.func 66) #[] #[], .func (Fn.func 67) #[] #[]]), (w.heap.size, 27, sh 4 rr x y z A n cp)]) (unhide D) ?_
  clear D
  refine list_read (v := .bool true) rfl rfl (fun u hS => by go_simp) ?_
  try go_simp
  refine list_read (v := .bool false) rfl rfl (fun u hS => by go_simp) ?_
  try go_simp
  refine list_read (v := .bool false) rfl rfl (fun u hS => by go_simp) ?_
  try go_simp
  refine list_read (v := .pointer (some ⟨g1, 0, none⟩)) rfl rfl (fun u hS => by go_simp) ?_
  try go_simp
  refine list_read (v := .func (Fn.func 66) #[] #[]) rfl rfl (fun u hS => exec_loadV_fholds (g := g1) (t := 56) (cs := #[.func (Fn.func 66) #[] #[], .func (Fn.func 67) #[] #[]]) hS.g _ rfl rfl (by repeat (first | exact List.mem_cons_self | apply List.mem_cons_of_mem)) rfl) ?_
  try go_simp
  refine list_read (v := .agg (sh 4 rr x y z A n cp)) rfl rfl (fun u hS => exec_loadG (g := w.heap.size) (t := 27) (cs := sh 4 rr x y z A n cp) hS.g rShape _ rfl rfl (by repeat (first | exact List.mem_cons_self | apply List.mem_cons_of_mem)) rfl) ?_
  try go_simp
  refine list_call (v := .bool true) (f := 66) (args := #[.agg (sh 4 rr x y z A n cp)]) rfl rfl (fun u hS => by go_simp) (fun u hS => (unhide h1 u hS.g.o).mono fun _ _ ⟨he, hb⟩ => ⟨he, hS.keep hb⟩) ?_
  try go_simp
  refine list_read (v := .bool false) rfl rfl (fun u hS => by go_simp) ?_
  try go_simp
  refine list_read (v := .bool false) rfl rfl (fun u hS => by go_simp) ?_
  try go_simp
  refine list_read (v := .bool false) rfl rfl (fun u hS => by go_simp) ?_
  try go_simp
  refine list_read (v := .agg (sh 4 rr x y z A n cp)) rfl rfl (fun u hS => exec_loadG (g := w.heap.size) (t := 27) (cs := sh 4 rr x y z A n cp) hS.g rShape _ rfl rfl (by repeat (first | exact List.mem_cons_self | apply List.mem_cons_of_mem)) rfl) ?_
  try go_simp
  refine list_call (v := .bool false) (f := 36) (args := #[.agg (sh 4 rr x y z A n cp)]) rfl rfl (fun u hS => by go_simp) (fun u hS => (unhide h2 u hS.g.o).mono fun _ _ ⟨he, hb⟩ => ⟨he, hS.keep hb⟩) ?_
  try go_simp
  refine list_read (v := .bool true) rfl rfl (fun u hS => by go_simp) ?_
  try go_simp
  refine list_read (v := .bool true) rfl rfl (fun u hS => by go_simp) ?_
  try go_simp
  refine list_end (fun u2 hS => ?_)
  have D := hide hS
  clear hS
  go_upto_region 3 with fail
  refine list_start (S := Gd w [(g1, 56, #[.func (Fn.func 66) #[] #[], .func (Fn.func 67) #[] #[]]), (w.heap.size, 27, sh 4 rr x y z A n cp)]) (unhide D) ?_
  clear D
  refine list_read (v := .int .i64 2) rfl rfl (fun u hS => by go_simp) ?_
  try go_simp
  refine list_end (fun u3 hS => ?_)
  have D := hide hS
  clear hS
  go_wp2
  go_ret
  exact ⟨rfl, (unhide D).g.o⟩
set_option maxHeartbeats 4000000 in
theorem check4_c (rr x y z : Int) (A : Option Addr) (n cp : Nat) (w : World) (h0 : Hid (Ans 35 #[.int .i64 4] (.tuple #[.agg (#[.func (Fn.func 66) #[] #[], .func (Fn.func 67) #[] #[]]), .bool true]))) (h1 : Hid (∀ u, Below w.heap.size w u → Calls Tryz.prog 66 #[.agg (sh 4 rr x y z A n cp)] u fun e w' => e = .returned (.bool true) ∧ Below u.heap.size u w')) (h2 : Hid (∀ u, Below w.heap.size w u → Calls Tryz.prog 36 #[.agg (sh 4 rr x y z A n cp)] u fun e w' => e = .returned (.bool true) ∧ Below u.heap.size u w')) (h3 : Hid (∀ u, Below w.heap.size w u → Calls Tryz.prog 37 #[.slice A n cp] u fun e w' => e = .returned (.bool false) ∧ Below u.heap.size u w')) : Calls Tryz.prog 17 #[.agg (sh 4 rr x y z A n cp)] w fun e w' => e = .returned (.int .i64 0) ∧ Below w.heap.size w w' := by
  go_enter Tryz.func17, Tryz.ntmps17
  go_upto_region 1 with fail
  have D := hide (((Gd.start w).push 27 (sh 4 rr x y z A n cp)))
  refine list_start (S := Gd w [(w.heap.size, 27, sh 4 rr x y z A n cp)]) (unhide D) ?_
  clear D
  refine list_read (v := .pointer (some ⟨w.heap.size, 0, none⟩)) rfl rfl (fun u hS => by go_simp) ?_
  try go_simp
  refine list_read (v := .int .i64 4) rfl rfl (fun u hS => exec_loadN_int (g := w.heap.size) (t := 27) (cs := sh 4 rr x y z A n cp) hS.g _ rfl rfl (by repeat (first | exact List.mem_cons_self | apply List.mem_cons_of_mem)) rfl) ?_
  try go_simp
  refine list_call (v := .tuple #[.agg (#[.func (Fn.func 66) #[] #[], .func (Fn.func 67) #[] #[]]), .bool true]) (f := 35) (args := #[.int .i64 4]) rfl rfl (fun u hS => by go_simp) (fun u hS => (unhide h0 u).mono fun _ _ ⟨he, hb⟩ => ⟨he, hS.keep hb⟩) ?_
  try go_simp
  refine list_read (v := .tuple #[.agg (#[.func (Fn.func 66) #[] #[], .func (Fn.func 67) #[] #[]]), .bool true]) rfl rfl (fun u hS => by go_simp) ?_
  try go_simp
  refine list_read (v := .agg (#[.func (Fn.func 66) #[] #[], .func (Fn.func 67) #[] #[]])) rfl rfl (fun u hS => by go_simp) ?_
  try go_simp
  refine list_read (v := .bool true) rfl rfl (fun u hS => by go_simp) ?_
  try go_simp
  refine list_new (z := #[.nilFunc, .nilFunc]) (ty := 56) (v := fun g => .pointer (some ⟨g, 0, none⟩)) rfl rfl (fun u => by go_simp) (fun g1 hgg1 => ?_)
  try go_simp
  refine list_store (l1 := []) (l2 := [(w.heap.size, 27, sh 4 rr x y z A n cp)]) (l' := [(g1, 56, #[.func (Fn.func 66) #[] #[], .func (Fn.func 67) #[] #[]]), (w.heap.size, 27, sh 4 rr x y z A n cp)]) (g := g1) (old := #[.nilFunc, .nilFunc]) (cs := #[.func (Fn.func 66) #[] #[], .func (Fn.func 67) #[] #[]]) (.tmp 3) (.tmp 9) rfl rfl rfl rfl rfl rfl rKind rfl rfl (by simp [Value.oneCell']) hgg1 ?_
  try go_simp
  refine list_read (v := .bool true) rfl rfl (fun u hS => by go_simp) ?_
  try go_simp
  refine list_end (fun u1 hS => ?_)
  have D := hide hS
  clear hS
  go_upto_region 2 with fail
  refine list_start (S := Gd w [(g1, 56, #[.func (Fn.func 66) #[] #[], .func (Fn.func 67) #[] #[]]), (w.heap.size, 27, sh 4 rr x y z A n cp)]) (unhide D) ?_
  clear D
  refine list_read (v := .bool true) rfl rfl (fun u hS => by go_simp) ?_
  try go_simp
  refine list_read (v := .bool false) rfl rfl (fun u hS => by go_simp) ?_
  try go_simp
  refine list_read (v := .bool false) rfl rfl (fun u hS => by go_simp) ?_
  try go_simp
  refine list_read (v := .pointer (some ⟨g1, 0, none⟩)) rfl rfl (fun u hS => by go_simp) ?_
  try go_simp
  refine list_read (v := .func (Fn.func 66) #[] #[]) rfl rfl (fun u hS => exec_loadV_fholds (g := g1) (t := 56) (cs := #[.func (Fn.func 66) #[] #[], .func (Fn.func 67) #[] #[]]) hS.g _ rfl rfl (by repeat (first | exact List.mem_cons_self | apply List.mem_cons_of_mem)) rfl) ?_
  try go_simp
  refine list_read (v := .agg (sh 4 rr x y z A n cp)) rfl rfl (fun u hS => exec_loadG (g := w.heap.size) (t := 27) (cs := sh 4 rr x y z A n cp) hS.g rShape _ rfl rfl (by repeat (first | exact List.mem_cons_self | apply List.mem_cons_of_mem)) rfl) ?_
  try go_simp
  refine list_call (v := .bool true) (f := 66) (args := #[.agg (sh 4 rr x y z A n cp)]) rfl rfl (fun u hS => by go_simp) (fun u hS => (unhide h1 u hS.g.o).mono fun _ _ ⟨he, hb⟩ => ⟨he, hS.keep hb⟩) ?_
  try go_simp
  refine list_read (v := .bool false) rfl rfl (fun u hS => by go_simp) ?_
  try go_simp
  refine list_read (v := .bool false) rfl rfl (fun u hS => by go_simp) ?_
  try go_simp
  refine list_read (v := .bool false) rfl rfl (fun u hS => by go_simp) ?_
  try go_simp
  refine list_read (v := .agg (sh 4 rr x y z A n cp)) rfl rfl (fun u hS => exec_loadG (g := w.heap.size) (t := 27) (cs := sh 4 rr x y z A n cp) hS.g rShape _ rfl rfl (by repeat (first | exact List.mem_cons_self | apply List.mem_cons_of_mem)) rfl) ?_
  try go_simp
  refine list_call (v := .bool true) (f := 36) (args := #[.agg (sh 4 rr x y z A n cp)]) rfl rfl (fun u hS => by go_simp) (fun u hS => (unhide h2 u hS.g.o).mono fun _ _ ⟨he, hb⟩ => ⟨he, hS.keep hb⟩) ?_
  try go_simp
  refine list_read (v := .bool false) rfl rfl (fun u hS => by go_simp) ?_
  try go_simp
  refine list_read (v := .bool false) rfl rfl (fun u hS => by go_simp) ?_
  try go_simp
  refine list_end (fun u2 hS => ?_)
  have D := hide hS
  clear hS
  go_upto_region 4 with fail
  refine list_start (S := Gd w [(g1, 56, #[.func (Fn.func 66) #[] #[], .func (Fn.func 67) #[] #[]]), (w.heap.size, 27, sh 4 rr x y z A n cp)]) (unhide D) ?_
  clear D
  refine list_read (v := .pointer (some ⟨w.heap.size, 0, none⟩)) rfl rfl (fun u hS => by go_simp) ?_
  try go_simp
  refine list_read (v := .int .i64 4) rfl rfl (fun u hS => exec_loadN_int (g := w.heap.size) (t := 27) (cs := sh 4 rr x y z A n cp) hS.g _ rfl rfl (by repeat (first | exact List.mem_cons_self | apply List.mem_cons_of_mem)) rfl) ?_
  try go_simp
  refine list_read (v := .bool true) rfl rfl (fun u hS => by go_simp) ?_
  try go_simp
  refine list_read (v := .bool true) rfl rfl (fun u hS => by go_simp) ?_
  try go_simp
  refine list_read (v := .pointer (some ⟨w.heap.size, 5, none⟩)) rfl rfl (fun u hS => by go_simp) ?_
  try go_simp
  refine list_read (v := .slice A n cp) rfl rfl (fun u hS => exec_loadV_Vecs (g := w.heap.size) (t := 27) (cs := sh 4 rr x y z A n cp) hS.g _ rfl rfl (by repeat (first | exact List.mem_cons_self | apply List.mem_cons_of_mem)) rfl) ?_
  try go_simp
  refine list_call (v := .bool false) (f := 37) (args := #[.slice A n cp]) rfl rfl (fun u hS => by go_simp) (fun u hS => (unhide h3 u hS.g.o).mono fun _ _ ⟨he, hb⟩ => ⟨he, hS.keep hb⟩) ?_
  try go_simp
  refine list_read (v := .bool false) rfl rfl (fun u hS => by go_simp) ?_
  try go_simp
  refine list_end (fun u4 hS => ?_)
  have D := hide hS
  clear hS
  go_upto_region 6 with fail
  refine list_start (S := Gd w [(g1, 56, #[.func (Fn.func 66) #[] #[], .func (Fn.func 67) #[] #[]]), (w.heap.size, 27, sh 4 rr x y z A n cp)]) (unhide D) ?_
  clear D
  refine list_read (v := .int .i64 0) rfl rfl (fun u hS => by go_simp) ?_
  try go_simp
  refine list_end (fun u6 hS => ?_)
  have D := hide hS
  clear hS
  go_wp2
  go_ret
  exact ⟨rfl, (unhide D).g.o⟩
set_option maxHeartbeats 4000000 in
theorem check4_d (rr x y z : Int) (A : Option Addr) (n cp : Nat) (w : World) (h0 : Hid (Ans 35 #[.int .i64 4] (.tuple #[.agg (#[.func (Fn.func 66) #[] #[], .func (Fn.func 67) #[] #[]]), .bool true]))) (h1 : Hid (∀ u, Below w.heap.size w u → Calls Tryz.prog 66 #[.agg (sh 4 rr x y z A n cp)] u fun e w' => e = .returned (.bool true) ∧ Below u.heap.size u w')) (h2 : Hid (∀ u, Below w.heap.size w u → Calls Tryz.prog 36 #[.agg (sh 4 rr x y z A n cp)] u fun e w' => e = .returned (.bool true) ∧ Below u.heap.size u w')) (h3 : Hid (∀ u, Below w.heap.size w u → Calls Tryz.prog 37 #[.slice A n cp] u fun e w' => e = .returned (.bool true) ∧ Below u.heap.size u w')) : Calls Tryz.prog 17 #[.agg (sh 4 rr x y z A n cp)] w fun e w' => e = .returned (.int .i64 8) ∧ Below w.heap.size w w' := by
  go_enter Tryz.func17, Tryz.ntmps17
  go_upto_region 1 with fail
  have D := hide (((Gd.start w).push 27 (sh 4 rr x y z A n cp)))
  refine list_start (S := Gd w [(w.heap.size, 27, sh 4 rr x y z A n cp)]) (unhide D) ?_
  clear D
  refine list_read (v := .pointer (some ⟨w.heap.size, 0, none⟩)) rfl rfl (fun u hS => by go_simp) ?_
  try go_simp
  refine list_read (v := .int .i64 4) rfl rfl (fun u hS => exec_loadN_int (g := w.heap.size) (t := 27) (cs := sh 4 rr x y z A n cp) hS.g _ rfl rfl (by repeat (first | exact List.mem_cons_self | apply List.mem_cons_of_mem)) rfl) ?_
  try go_simp
  refine list_call (v := .tuple #[.agg (#[.func (Fn.func 66) #[] #[], .func (Fn.func 67) #[] #[]]), .bool true]) (f := 35) (args := #[.int .i64 4]) rfl rfl (fun u hS => by go_simp) (fun u hS => (unhide h0 u).mono fun _ _ ⟨he, hb⟩ => ⟨he, hS.keep hb⟩) ?_
  try go_simp
  refine list_read (v := .tuple #[.agg (#[.func (Fn.func 66) #[] #[], .func (Fn.func 67) #[] #[]]), .bool true]) rfl rfl (fun u hS => by go_simp) ?_
  try go_simp
  refine list_read (v := .agg (#[.func (Fn.func 66) #[] #[], .func (Fn.func 67) #[] #[]])) rfl rfl (fun u hS => by go_simp) ?_
  try go_simp
  refine list_read (v := .bool true) rfl rfl (fun u hS => by go_simp) ?_
  try go_simp
  refine list_new (z := #[.nilFunc, .nilFunc]) (ty := 56) (v := fun g => .pointer (some ⟨g, 0, none⟩)) rfl rfl (fun u => by go_simp) (fun g1 hgg1 => ?_)
  try go_simp
  refine list_store (l1 := []) (l2 := [(w.heap.size, 27, sh 4 rr x y z A n cp)]) (l' := [(g1, 56, #[.func (Fn.func 66) #[] #[], .func (Fn.func 67) #[] #[]]), (w.heap.size, 27, sh 4 rr x y z A n cp)]) (g := g1) (old := #[.nilFunc, .nilFunc]) (cs := #[.func (Fn.func 66) #[] #[], .func (Fn.func 67) #[] #[]]) (.tmp 3) (.tmp 9) rfl rfl rfl rfl rfl rfl rKind rfl rfl (by simp [Value.oneCell']) hgg1 ?_
  try go_simp
  refine list_read (v := .bool true) rfl rfl (fun u hS => by go_simp) ?_
  try go_simp
  refine list_end (fun u1 hS => ?_)
  have D := hide hS
  clear hS
  go_upto_region 2 with fail
  refine list_start (S := Gd w [(g1, 56, #[.func (Fn.func 66) #[] #[], .func (Fn.func 67) #[] #[]]), (w.heap.size, 27, sh 4 rr x y z A n cp)]) (unhide D) ?_
  clear D
  refine list_read (v := .bool true) rfl rfl (fun u hS => by go_simp) ?_
  try go_simp
  refine list_read (v := .bool false) rfl rfl (fun u hS => by go_simp) ?_
  try go_simp
  refine list_read (v := .bool false) rfl rfl (fun u hS => by go_simp) ?_
  try go_simp
  refine list_read (v := .pointer (some ⟨g1, 0, none⟩)) rfl rfl (fun u hS => by go_simp) ?_
  try go_simp
  refine list_read (v := .func (Fn.func 66) #[] #[]) rfl rfl (fun u hS => exec_loadV_fholds (g := g1) (t := 56) (cs := #[.func (Fn.func 66) #[] #[], .func (Fn.func 67) #[] #[]]) hS.g _ rfl rfl (by repeat (first | exact List.mem_cons_self | apply List.mem_cons_of_mem)) rfl) ?_
  try go_simp
  refine list_read (v := .agg (sh 4 rr x y z A n cp)) rfl rfl (fun u hS => exec_loadG (g := w.heap.size) (t := 27) (cs := sh 4 rr x y z A n cp) hS.g rShape _ rfl rfl (by repeat (first | exact List.mem_cons_self | apply List.mem_cons_of_mem)) rfl) ?_
  try go_simp
  refine list_call (v := .bool true) (f := 66) (args := #[.agg (sh 4 rr x y z A n cp)]) rfl rfl (fun u hS => by go_simp) (fun u hS => (unhide h1 u hS.g.o).mono fun _ _ ⟨he, hb⟩ => ⟨he, hS.keep hb⟩) ?_
  try go_simp
  refine list_read (v := .bool false) rfl rfl (fun u hS => by go_simp) ?_
  try go_simp
  refine list_read (v := .bool false) rfl rfl (fun u hS => by go_simp) ?_
  try go_simp
  refine list_read (v := .bool false) rfl rfl (fun u hS => by go_simp) ?_
  try go_simp
  refine list_read (v := .agg (sh 4 rr x y z A n cp)) rfl rfl (fun u hS => exec_loadG (g := w.heap.size) (t := 27) (cs := sh 4 rr x y z A n cp) hS.g rShape _ rfl rfl (by repeat (first | exact List.mem_cons_self | apply List.mem_cons_of_mem)) rfl) ?_
  try go_simp
  refine list_call (v := .bool true) (f := 36) (args := #[.agg (sh 4 rr x y z A n cp)]) rfl rfl (fun u hS => by go_simp) (fun u hS => (unhide h2 u hS.g.o).mono fun _ _ ⟨he, hb⟩ => ⟨he, hS.keep hb⟩) ?_
  try go_simp
  refine list_read (v := .bool false) rfl rfl (fun u hS => by go_simp) ?_
  try go_simp
  refine list_read (v := .bool false) rfl rfl (fun u hS => by go_simp) ?_
  try go_simp
  refine list_end (fun u2 hS => ?_)
  have D := hide hS
  clear hS
  go_upto_region 4 with fail
  refine list_start (S := Gd w [(g1, 56, #[.func (Fn.func 66) #[] #[], .func (Fn.func 67) #[] #[]]), (w.heap.size, 27, sh 4 rr x y z A n cp)]) (unhide D) ?_
  clear D
  refine list_read (v := .pointer (some ⟨w.heap.size, 0, none⟩)) rfl rfl (fun u hS => by go_simp) ?_
  try go_simp
  refine list_read (v := .int .i64 4) rfl rfl (fun u hS => exec_loadN_int (g := w.heap.size) (t := 27) (cs := sh 4 rr x y z A n cp) hS.g _ rfl rfl (by repeat (first | exact List.mem_cons_self | apply List.mem_cons_of_mem)) rfl) ?_
  try go_simp
  refine list_read (v := .bool true) rfl rfl (fun u hS => by go_simp) ?_
  try go_simp
  refine list_read (v := .bool true) rfl rfl (fun u hS => by go_simp) ?_
  try go_simp
  refine list_read (v := .pointer (some ⟨w.heap.size, 5, none⟩)) rfl rfl (fun u hS => by go_simp) ?_
  try go_simp
  refine list_read (v := .slice A n cp) rfl rfl (fun u hS => exec_loadV_Vecs (g := w.heap.size) (t := 27) (cs := sh 4 rr x y z A n cp) hS.g _ rfl rfl (by repeat (first | exact List.mem_cons_self | apply List.mem_cons_of_mem)) rfl) ?_
  try go_simp
  refine list_call (v := .bool true) (f := 37) (args := #[.slice A n cp]) rfl rfl (fun u hS => by go_simp) (fun u hS => (unhide h3 u hS.g.o).mono fun _ _ ⟨he, hb⟩ => ⟨he, hS.keep hb⟩) ?_
  try go_simp
  refine list_read (v := .bool true) rfl rfl (fun u hS => by go_simp) ?_
  try go_simp
  refine list_end (fun u4 hS => ?_)
  have D := hide hS
  clear hS
  go_upto_region 5 with fail
  refine list_start (S := Gd w [(g1, 56, #[.func (Fn.func 66) #[] #[], .func (Fn.func 67) #[] #[]]), (w.heap.size, 27, sh 4 rr x y z A n cp)]) (unhide D) ?_
  clear D
  refine list_read (v := .int .i64 8) rfl rfl (fun u hS => by go_simp) ?_
  try go_simp
  refine list_end (fun u5 hS => ?_)
  have D := hide hS
  clear hS
  go_wp2
  go_ret
  exact ⟨rfl, (unhide D).g.o⟩
set_option maxHeartbeats 4000000 in
theorem check_no (kd rr x y z : Int) (A : Option Addr) (n cp : Nat) (w : World) (h0 : Hid (Ans 35 #[.int .i64 kd] (.tuple #[.agg (#[.nilFunc, .nilFunc]), .bool false]))) : Calls Tryz.prog 17 #[.agg (sh kd rr x y z A n cp)] w fun e w' => e = .returned (.int .i64 2) ∧ Below w.heap.size w w' := by
  go_enter Tryz.func17, Tryz.ntmps17
  go_upto_region 1 with fail
  have D := hide (((Gd.start w).push 27 (sh kd rr x y z A n cp)))
  refine list_start (S := Gd w [(w.heap.size, 27, sh kd rr x y z A n cp)]) (unhide D) ?_
  clear D
  refine list_read (v := .pointer (some ⟨w.heap.size, 0, none⟩)) rfl rfl (fun u hS => by go_simp) ?_
  try go_simp
  refine list_read (v := .int .i64 kd) rfl rfl (fun u hS => exec_loadN_int (g := w.heap.size) (t := 27) (cs := sh kd rr x y z A n cp) hS.g _ rfl rfl (by repeat (first | exact List.mem_cons_self | apply List.mem_cons_of_mem)) rfl) ?_
  try go_simp
  refine list_call (v := .tuple #[.agg (#[.nilFunc, .nilFunc]), .bool false]) (f := 35) (args := #[.int .i64 kd]) rfl rfl (fun u hS => by go_simp) (fun u hS => (unhide h0 u).mono fun _ _ ⟨he, hb⟩ => ⟨he, hS.keep hb⟩) ?_
  try go_simp
  refine list_read (v := .tuple #[.agg (#[.nilFunc, .nilFunc]), .bool false]) rfl rfl (fun u hS => by go_simp) ?_
  try go_simp
  refine list_read (v := .agg (#[.nilFunc, .nilFunc])) rfl rfl (fun u hS => by go_simp) ?_
  try go_simp
  refine list_read (v := .bool false) rfl rfl (fun u hS => by go_simp) ?_
  try go_simp
  refine list_new (z := #[.nilFunc, .nilFunc]) (ty := 56) (v := fun g => .pointer (some ⟨g, 0, none⟩)) rfl rfl (fun u => by go_simp) (fun g1 hgg1 => ?_)
  try go_simp
  refine list_store (l1 := []) (l2 := [(w.heap.size, 27, sh kd rr x y z A n cp)]) (l' := [(g1, 56, #[.nilFunc, .nilFunc]), (w.heap.size, 27, sh kd rr x y z A n cp)]) (g := g1) (old := #[.nilFunc, .nilFunc]) (cs := #[.nilFunc, .nilFunc]) (.tmp 3) (.tmp 9) rfl rfl rfl rfl rfl rfl rKind rfl rfl (by simp [Value.oneCell']) hgg1 ?_
  try go_simp
  refine list_read (v := .bool false) rfl rfl (fun u hS => by go_simp) ?_
  try go_simp
  refine list_end (fun u1 hS => ?_)
  have D := hide hS
  clear hS
  go_upto_region 2 with fail
  refine list_start (S := Gd w [(g1, 56, #[.nilFunc, .nilFunc]), (w.heap.size, 27, sh kd rr x y z A n cp)]) (unhide D) ?_
  clear D
  refine list_read (v := .bool false) rfl rfl (fun u hS => by go_simp) ?_
  try go_simp
  refine list_read (v := .bool true) rfl rfl (fun u hS => by go_simp) ?_
  try go_simp
  refine list_read (v := .bool true) rfl rfl (fun u hS => by go_simp) ?_
  try go_simp
  refine list_skip ?_ ?_ ?_
  · rfl
  · rfl
  try go_simp
  refine list_skip ?_ ?_ ?_
  · rfl
  · rfl
  try go_simp
  refine list_skip ?_ ?_ ?_
  · rfl
  · rfl
  try go_simp
  refine list_skip ?_ ?_ ?_
  · rfl
  · rfl
  try go_simp
  refine list_skip ?_ ?_ ?_
  · rfl
  · rfl
  try go_simp
  refine list_read (v := .bool true) rfl rfl (fun u hS => by go_simp) ?_
  try go_simp
  refine list_read (v := .bool true) rfl rfl (fun u hS => by go_simp) ?_
  try go_simp
  refine list_skip ?_ ?_ ?_
  · rfl
  · rfl
  try go_simp
  refine list_skip ?_ ?_ ?_
  · rfl
  · rfl
  try go_simp
  refine list_skip ?_ ?_ ?_
  · rfl
  · rfl
  try go_simp
  refine list_read (v := .bool true) rfl rfl (fun u hS => by go_simp) ?_
  try go_simp
  refine list_end (fun u2 hS => ?_)
  have D := hide hS
  clear hS
  go_upto_region 3 with fail
  refine list_start (S := Gd w [(g1, 56, #[.nilFunc, .nilFunc]), (w.heap.size, 27, sh kd rr x y z A n cp)]) (unhide D) ?_
  clear D
  refine list_read (v := .int .i64 2) rfl rfl (fun u hS => by go_simp) ?_
  try go_simp
  refine list_end (fun u3 hS => ?_)
  have D := hide hS
  clear hS
  go_wp2
  go_ret
  exact ⟨rfl, (unhide D).g.o⟩
set_option maxHeartbeats 4000000 in
theorem core_no (kd rr x y z : Int) (A : Option Addr) (n cp : Nat) (q : Int) (w : World) (h0 : Hid (∀ u, Below w.heap.size w u → Calls Tryz.prog 17 #[.agg (sh kd rr x y z A n cp)] u fun e w' => e = .returned (.int .i64 q) ∧ Below u.heap.size u w')) (e0 : Hid (decide ((q : Int) = 0) = false)) : Calls Tryz.prog 14 #[.agg (sh kd rr x y z A n cp)] w fun e w' => e = .returned (.tuple #[.slice none 0 0, .int .i64 q]) ∧ Below w.heap.size w w' := by
  go_enter Tryz.func14, Tryz.ntmps14
  go_upto_region 1 with fail
  have D := hide (((Gd.start w).push 27 (sh kd rr x y z A n cp)))
  refine list_start (S := Gd w [(w.heap.size, 27, sh kd rr x y z A n cp)]) (unhide D) ?_
  clear D
  refine list_read (v := .agg (sh kd rr x y z A n cp)) rfl rfl (fun u hS => exec_loadG (g := w.heap.size) (t := 27) (cs := sh kd rr x y z A n cp) hS.g rShape _ rfl rfl (by repeat (first | exact List.mem_cons_self | apply List.mem_cons_of_mem)) rfl) ?_
  try go_simp
  refine list_call (v := .int .i64 q) (f := 17) (args := #[.agg (sh kd rr x y z A n cp)]) rfl rfl (fun u hS => by go_simp) (fun u hS => (unhide h0 u hS.g.o).mono fun _ _ ⟨he, hb⟩ => ⟨he, hS.keep hb⟩) ?_
  try go_simp
  refine list_read (v := .int .i64 q) rfl rfl (fun u hS => by go_simp) ?_
  try go_simp
  refine list_end (fun u1 hS => ?_)
  have D := hide hS
  clear hS
  go_upto_region 2 with fail
  refine list_start (S := Gd w [(w.heap.size, 27, sh kd rr x y z A n cp)]) (unhide D) ?_
  clear D
  refine list_read (v := .int .i64 q) rfl rfl (fun u hS => by go_simp) ?_
  try go_simp
  refine list_read (v := .bool true) rfl rfl (fun u hS => exec_neqS _ _ (unhide e0) rfl rfl rfl) ?_
  try go_simp
  refine list_end (fun u2 hS => ?_)
  have D := hide hS
  clear hS
  go_upto_region 3 with fail
  refine list_start (S := Gd w [(w.heap.size, 27, sh kd rr x y z A n cp)]) (unhide D) ?_
  clear D
  refine list_read (v := .int .i64 q) rfl rfl (fun u hS => by go_simp) ?_
  try go_simp
  refine list_read (v := .slice none 0 0) rfl rfl (fun u hS => by go_simp) ?_
  try go_simp
  refine list_read (v := .int .i64 q) rfl rfl (fun u hS => by go_simp) ?_
  try go_simp
  refine list_end (fun u3 hS => ?_)
  have D := hide hS
  clear hS
  go_wp2
  go_ret2
  exact ⟨rfl, (unhide D).g.o⟩
set_option maxHeartbeats 4000000 in
theorem core1_yes (rr x y z : Int) (A : Option Addr) (n cp : Nat) (xs : List Value) (w : World) (hC : Hid (∀ u, Below w.heap.size w u → Calls Tryz.prog 61 #[.agg (sh 1 rr x y z A n cp)] u fun e w' => (∃ v, e = .returned v ∧ w'.ownsRow u.heap.size 24 3 v 1 xs) ∧ Below u.heap.size u w')) (h1 : Hid (∀ u, Below w.heap.size w u → Calls Tryz.prog 17 #[.agg (sh 1 rr x y z A n cp)] u fun e w' => e = .returned (.int .i64 0) ∧ Below u.heap.size u w')) (h2 : Hid (Ans 35 #[.int .i64 1] (.tuple #[.agg (#[.func (Fn.func 60) #[] #[], .func (Fn.func 61) #[] #[]]), .bool true]))) : Calls Tryz.prog 14 #[.agg (sh 1 rr x y z A n cp)] w fun e w' => (∃ v, e = .returned (.tuple #[v, .int .i64 0]) ∧ w'.ownsRow w.heap.size 24 3 v 1 xs) ∧ Below w.heap.size w w' := by
  go_enter Tryz.func14, Tryz.ntmps14
  go_upto_region 1 with fail
  have D := hide ((Gd.start w).push 27 (sh 1 rr x y z A n cp))
  refine list_start (S := Gd w [(w.heap.size, 27, sh 1 rr x y z A n cp)]) (unhide D) ?_
  clear D
  refine list_read (v := .agg (sh 1 rr x y z A n cp)) rfl rfl (fun u hS => exec_loadG (g := w.heap.size) (t := 27) (cs := sh 1 rr x y z A n cp) hS.g rShape _ rfl rfl (by repeat (first | exact List.mem_cons_self | apply List.mem_cons_of_mem)) rfl) ?_
  try go_simp
  refine list_call (v := .int .i64 0) (f := 17) (args := #[.agg (sh 1 rr x y z A n cp)]) rfl rfl (fun u hS => by go_simp) (fun u hS => (unhide h1 u hS.g.o).mono fun _ _ ⟨he, hb⟩ => ⟨he, hS.keep hb⟩) ?_
  try go_simp
  refine list_read (v := .int .i64 0) rfl rfl (fun u hS => by go_simp) ?_
  try go_simp
  refine list_end (fun u1 hS => ?_)
  have D := hide hS
  clear hS
  go_upto_region 2 with fail
  refine list_start (S := Gd w [(w.heap.size, 27, sh 1 rr x y z A n cp)]) (unhide D) ?_
  clear D
  refine list_read (v := .int .i64 0) rfl rfl (fun u hS => by go_simp) ?_
  try go_simp
  refine list_read (v := .bool false) rfl rfl (fun u hS => by go_simp) ?_
  try go_simp
  refine list_end (fun u2 hS => ?_)
  have D := hide hS
  clear hS
  go_upto_region 4 with fail
  refine list_start (S := Gd w [(w.heap.size, 27, sh 1 rr x y z A n cp)]) (unhide D) ?_
  clear D
  refine list_read (v := .pointer (some ⟨w.heap.size, 0, none⟩)) rfl rfl (fun u hS => by go_simp) ?_
  try go_simp
  refine list_read (v := .int .i64 1) rfl rfl (fun u hS => exec_loadN_int (g := w.heap.size) (t := 27) (cs := sh 1 rr x y z A n cp) hS.g _ rfl rfl (by repeat (first | exact List.mem_cons_self | apply List.mem_cons_of_mem)) rfl) ?_
  try go_simp
  refine list_call (v := .tuple #[.agg (#[.func (Fn.func 60) #[] #[], .func (Fn.func 61) #[] #[]]), .bool true]) (f := 35) (args := #[.int .i64 1]) rfl rfl (fun u hS => by go_simp) (fun u hS => (unhide h2 u).mono fun _ _ ⟨he, hb⟩ => ⟨he, hS.keep hb⟩) ?_
  try go_simp
  refine list_read (v := .tuple #[.agg (#[.func (Fn.func 60) #[] #[], .func (Fn.func 61) #[] #[]]), .bool true]) rfl rfl (fun u hS => by go_simp) ?_
  try go_simp
  refine list_read (v := .agg (#[.func (Fn.func 60) #[] #[], .func (Fn.func 61) #[] #[]])) rfl rfl (fun u hS => by go_simp) ?_
  try go_simp
  refine list_read (v := .bool true) rfl rfl (fun u hS => by go_simp) ?_
  try go_simp
  refine list_new (z := #[.nilFunc, .nilFunc]) (ty := 56) (v := fun g => .pointer (some ⟨g, 0, none⟩)) rfl rfl (fun u => by go_simp) (fun g1 hgg1 => ?_)
  try go_simp
  refine list_store (l1 := []) (l2 := [(w.heap.size, 27, sh 1 rr x y z A n cp)]) (l' := [(g1, 56, #[.func (Fn.func 60) #[] #[], .func (Fn.func 61) #[] #[]]), (w.heap.size, 27, sh 1 rr x y z A n cp)]) (g := g1) (old := #[.nilFunc, .nilFunc]) (cs := #[.func (Fn.func 60) #[] #[], .func (Fn.func 61) #[] #[]]) (.tmp 5) (.tmp 16) rfl rfl rfl rfl rfl rfl rKind rfl rfl (by simp [Value.oneCell']) hgg1 ?_
  try go_simp
  refine list_read (v := .bool true) rfl rfl (fun u hS => by go_simp) ?_
  try go_simp
  refine list_end (fun u4 hS => ?_)
  have D := hide hS
  clear hS
  go_upto_region 5 with fail
  refine list_start (S := Gd w [(g1, 56, #[.func (Fn.func 60) #[] #[], .func (Fn.func 61) #[] #[]]), (w.heap.size, 27, sh 1 rr x y z A n cp)]) (unhide D) ?_
  clear D
  refine list_read (v := .pointer (some ⟨g1, 1, none⟩)) rfl rfl (fun u hS => by go_simp) ?_
  try go_simp
  refine list_read (v := .func (Fn.func 61) #[] #[]) rfl rfl (fun u hS => exec_loadV_fcore (g := g1) (t := 56) (cs := #[.func (Fn.func 60) #[] #[], .func (Fn.func 61) #[] #[]]) hS.g _ rfl rfl (by repeat (first | exact List.mem_cons_self | apply List.mem_cons_of_mem)) rfl) ?_
  try go_simp
  refine list_read (v := .agg (sh 1 rr x y z A n cp)) rfl rfl (fun u hS => exec_loadG (g := w.heap.size) (t := 27) (cs := sh 1 rr x y z A n cp) hS.g rShape _ rfl rfl (by repeat (first | exact List.mem_cons_self | apply List.mem_cons_of_mem)) rfl) ?_
  try go_simp
  intro u hS
  refine list_callE (f := 61) (args := #[.agg (sh 1 rr x y z A n cp)]) rfl (by go_simp) (unhide hC u hS.g.o) ?_
  rintro e5 w5 ⟨⟨v5, he5, hown⟩, hb5⟩
  refine ⟨v5, he5, ?_⟩
  clear he5
  have hS5 := hide (hS.keep hb5)
  have hown5 := hide (own_base hown hS.g.o.size)
  clear hS hown hb5
  try go_simp
  refine list_turn (w' := w5) (v := v5) rfl (by go_simp) ?_
  try go_simp
  refine list_turn (w' := w5) (v := .int .i64 0) rfl (by go_simp) ?_
  try go_simp
  refine wpL_fin ?_
  go_wp2
  go_ret2
  exact ⟨⟨v5, rfl, unhide hown5⟩, (unhide hS5).g.o⟩
set_option maxHeartbeats 4000000 in
theorem core2_yes (rr x y z : Int) (A : Option Addr) (n cp : Nat) (xs : List Value) (w : World) (hC : Hid (∀ u, Below w.heap.size w u → Calls Tryz.prog 63 #[.agg (sh 2 rr x y z A n cp)] u fun e w' => (∃ v, e = .returned v ∧ w'.ownsRow u.heap.size 24 3 v 2 xs) ∧ Below u.heap.size u w')) (h1 : Hid (∀ u, Below w.heap.size w u → Calls Tryz.prog 17 #[.agg (sh 2 rr x y z A n cp)] u fun e w' => e = .returned (.int .i64 0) ∧ Below u.heap.size u w')) (h2 : Hid (Ans 35 #[.int .i64 2] (.tuple #[.agg (#[.func (Fn.func 62) #[] #[], .func (Fn.func 63) #[] #[]]), .bool true]))) : Calls Tryz.prog 14 #[.agg (sh 2 rr x y z A n cp)] w fun e w' => (∃ v, e = .returned (.tuple #[v, .int .i64 0]) ∧ w'.ownsRow w.heap.size 24 3 v 2 xs) ∧ Below w.heap.size w w' := by
  go_enter Tryz.func14, Tryz.ntmps14
  go_upto_region 1 with fail
  have D := hide ((Gd.start w).push 27 (sh 2 rr x y z A n cp))
  refine list_start (S := Gd w [(w.heap.size, 27, sh 2 rr x y z A n cp)]) (unhide D) ?_
  clear D
  refine list_read (v := .agg (sh 2 rr x y z A n cp)) rfl rfl (fun u hS => exec_loadG (g := w.heap.size) (t := 27) (cs := sh 2 rr x y z A n cp) hS.g rShape _ rfl rfl (by repeat (first | exact List.mem_cons_self | apply List.mem_cons_of_mem)) rfl) ?_
  try go_simp
  refine list_call (v := .int .i64 0) (f := 17) (args := #[.agg (sh 2 rr x y z A n cp)]) rfl rfl (fun u hS => by go_simp) (fun u hS => (unhide h1 u hS.g.o).mono fun _ _ ⟨he, hb⟩ => ⟨he, hS.keep hb⟩) ?_
  try go_simp
  refine list_read (v := .int .i64 0) rfl rfl (fun u hS => by go_simp) ?_
  try go_simp
  refine list_end (fun u1 hS => ?_)
  have D := hide hS
  clear hS
  go_upto_region 2 with fail
  refine list_start (S := Gd w [(w.heap.size, 27, sh 2 rr x y z A n cp)]) (unhide D) ?_
  clear D
  refine list_read (v := .int .i64 0) rfl rfl (fun u hS => by go_simp) ?_
  try go_simp
  refine list_read (v := .bool false) rfl rfl (fun u hS => by go_simp) ?_
  try go_simp
  refine list_end (fun u2 hS => ?_)
  have D := hide hS
  clear hS
  go_upto_region 4 with fail
  refine list_start (S := Gd w [(w.heap.size, 27, sh 2 rr x y z A n cp)]) (unhide D) ?_
  clear D
  refine list_read (v := .pointer (some ⟨w.heap.size, 0, none⟩)) rfl rfl (fun u hS => by go_simp) ?_
  try go_simp
  refine list_read (v := .int .i64 2) rfl rfl (fun u hS => exec_loadN_int (g := w.heap.size) (t := 27) (cs := sh 2 rr x y z A n cp) hS.g _ rfl rfl (by repeat (first | exact List.mem_cons_self | apply List.mem_cons_of_mem)) rfl) ?_
  try go_simp
  refine list_call (v := .tuple #[.agg (#[.func (Fn.func 62) #[] #[], .func (Fn.func 63) #[] #[]]), .bool true]) (f := 35) (args := #[.int .i64 2]) rfl rfl (fun u hS => by go_simp) (fun u hS => (unhide h2 u).mono fun _ _ ⟨he, hb⟩ => ⟨he, hS.keep hb⟩) ?_
  try go_simp
  refine list_read (v := .tuple #[.agg (#[.func (Fn.func 62) #[] #[], .func (Fn.func 63) #[] #[]]), .bool true]) rfl rfl (fun u hS => by go_simp) ?_
  try go_simp
  refine list_read (v := .agg (#[.func (Fn.func 62) #[] #[], .func (Fn.func 63) #[] #[]])) rfl rfl (fun u hS => by go_simp) ?_
  try go_simp
  refine list_read (v := .bool true) rfl rfl (fun u hS => by go_simp) ?_
  try go_simp
  refine list_new (z := #[.nilFunc, .nilFunc]) (ty := 56) (v := fun g => .pointer (some ⟨g, 0, none⟩)) rfl rfl (fun u => by go_simp) (fun g1 hgg1 => ?_)
  try go_simp
  refine list_store (l1 := []) (l2 := [(w.heap.size, 27, sh 2 rr x y z A n cp)]) (l' := [(g1, 56, #[.func (Fn.func 62) #[] #[], .func (Fn.func 63) #[] #[]]), (w.heap.size, 27, sh 2 rr x y z A n cp)]) (g := g1) (old := #[.nilFunc, .nilFunc]) (cs := #[.func (Fn.func 62) #[] #[], .func (Fn.func 63) #[] #[]]) (.tmp 5) (.tmp 16) rfl rfl rfl rfl rfl rfl rKind rfl rfl (by simp [Value.oneCell']) hgg1 ?_
  try go_simp
  refine list_read (v := .bool true) rfl rfl (fun u hS => by go_simp) ?_
  try go_simp
  refine list_end (fun u4 hS => ?_)
  have D := hide hS
  clear hS
  go_upto_region 5 with fail
  refine list_start (S := Gd w [(g1, 56, #[.func (Fn.func 62) #[] #[], .func (Fn.func 63) #[] #[]]), (w.heap.size, 27, sh 2 rr x y z A n cp)]) (unhide D) ?_
  clear D
  refine list_read (v := .pointer (some ⟨g1, 1, none⟩)) rfl rfl (fun u hS => by go_simp) ?_
  try go_simp
  refine list_read (v := .func (Fn.func 63) #[] #[]) rfl rfl (fun u hS => exec_loadV_fcore (g := g1) (t := 56) (cs := #[.func (Fn.func 62) #[] #[], .func (Fn.func 63) #[] #[]]) hS.g _ rfl rfl (by repeat (first | exact List.mem_cons_self | apply List.mem_cons_of_mem)) rfl) ?_
  try go_simp
  refine list_read (v := .agg (sh 2 rr x y z A n cp)) rfl rfl (fun u hS => exec_loadG (g := w.heap.size) (t := 27) (cs := sh 2 rr x y z A n cp) hS.g rShape _ rfl rfl (by repeat (first | exact List.mem_cons_self | apply List.mem_cons_of_mem)) rfl) ?_
  try go_simp
  intro u hS
  refine list_callE (f := 63) (args := #[.agg (sh 2 rr x y z A n cp)]) rfl (by go_simp) (unhide hC u hS.g.o) ?_
  rintro e5 w5 ⟨⟨v5, he5, hown⟩, hb5⟩
  refine ⟨v5, he5, ?_⟩
  clear he5
  have hS5 := hide (hS.keep hb5)
  have hown5 := hide (own_base hown hS.g.o.size)
  clear hS hown hb5
  try go_simp
  refine list_turn (w' := w5) (v := v5) rfl (by go_simp) ?_
  try go_simp
  refine list_turn (w' := w5) (v := .int .i64 0) rfl (by go_simp) ?_
  try go_simp
  refine wpL_fin ?_
  go_wp2
  go_ret2
  exact ⟨⟨v5, rfl, unhide hown5⟩, (unhide hS5).g.o⟩
set_option maxHeartbeats 4000000 in
theorem core3_yes (rr x y z : Int) (A : Option Addr) (n cp : Nat) (xs : List Value) (w : World) (hC : Hid (∀ u, Below w.heap.size w u → Calls Tryz.prog 65 #[.agg (sh 3 rr x y z A n cp)] u fun e w' => (∃ v, e = .returned v ∧ w'.ownsRow u.heap.size 24 3 v 8 xs) ∧ Below u.heap.size u w')) (h1 : Hid (∀ u, Below w.heap.size w u → Calls Tryz.prog 17 #[.agg (sh 3 rr x y z A n cp)] u fun e w' => e = .returned (.int .i64 0) ∧ Below u.heap.size u w')) (h2 : Hid (Ans 35 #[.int .i64 3] (.tuple #[.agg (#[.func (Fn.func 64) #[] #[], .func (Fn.func 65) #[] #[]]), .bool true]))) : Calls Tryz.prog 14 #[.agg (sh 3 rr x y z A n cp)] w fun e w' => (∃ v, e = .returned (.tuple #[v, .int .i64 0]) ∧ w'.ownsRow w.heap.size 24 3 v 8 xs) ∧ Below w.heap.size w w' := by
  go_enter Tryz.func14, Tryz.ntmps14
  go_upto_region 1 with fail
  have D := hide ((Gd.start w).push 27 (sh 3 rr x y z A n cp))
  refine list_start (S := Gd w [(w.heap.size, 27, sh 3 rr x y z A n cp)]) (unhide D) ?_
  clear D
  refine list_read (v := .agg (sh 3 rr x y z A n cp)) rfl rfl (fun u hS => exec_loadG (g := w.heap.size) (t := 27) (cs := sh 3 rr x y z A n cp) hS.g rShape _ rfl rfl (by repeat (first | exact List.mem_cons_self | apply List.mem_cons_of_mem)) rfl) ?_
  try go_simp
  refine list_call (v := .int .i64 0) (f := 17) (args := #[.agg (sh 3 rr x y z A n cp)]) rfl rfl (fun u hS => by go_simp) (fun u hS => (unhide h1 u hS.g.o).mono fun _ _ ⟨he, hb⟩ => ⟨he, hS.keep hb⟩) ?_
  try go_simp
  refine list_read (v := .int .i64 0) rfl rfl (fun u hS => by go_simp) ?_
  try go_simp
  refine list_end (fun u1 hS => ?_)
  have D := hide hS
  clear hS
  go_upto_region 2 with fail
  refine list_start (S := Gd w [(w.heap.size, 27, sh 3 rr x y z A n cp)]) (unhide D) ?_
  clear D
  refine list_read (v := .int .i64 0) rfl rfl (fun u hS => by go_simp) ?_
  try go_simp
  refine list_read (v := .bool false) rfl rfl (fun u hS => by go_simp) ?_
  try go_simp
  refine list_end (fun u2 hS => ?_)
  have D := hide hS
  clear hS
  go_upto_region 4 with fail
  refine list_start (S := Gd w [(w.heap.size, 27, sh 3 rr x y z A n cp)]) (unhide D) ?_
  clear D
  refine list_read (v := .pointer (some ⟨w.heap.size, 0, none⟩)) rfl rfl (fun u hS => by go_simp) ?_
  try go_simp
  refine list_read (v := .int .i64 3) rfl rfl (fun u hS => exec_loadN_int (g := w.heap.size) (t := 27) (cs := sh 3 rr x y z A n cp) hS.g _ rfl rfl (by repeat (first | exact List.mem_cons_self | apply List.mem_cons_of_mem)) rfl) ?_
  try go_simp
  refine list_call (v := .tuple #[.agg (#[.func (Fn.func 64) #[] #[], .func (Fn.func 65) #[] #[]]), .bool true]) (f := 35) (args := #[.int .i64 3]) rfl rfl (fun u hS => by go_simp) (fun u hS => (unhide h2 u).mono fun _ _ ⟨he, hb⟩ => ⟨he, hS.keep hb⟩) ?_
  try go_simp
  refine list_read (v := .tuple #[.agg (#[.func (Fn.func 64) #[] #[], .func (Fn.func 65) #[] #[]]), .bool true]) rfl rfl (fun u hS => by go_simp) ?_
  try go_simp
  refine list_read (v := .agg (#[.func (Fn.func 64) #[] #[], .func (Fn.func 65) #[] #[]])) rfl rfl (fun u hS => by go_simp) ?_
  try go_simp
  refine list_read (v := .bool true) rfl rfl (fun u hS => by go_simp) ?_
  try go_simp
  refine list_new (z := #[.nilFunc, .nilFunc]) (ty := 56) (v := fun g => .pointer (some ⟨g, 0, none⟩)) rfl rfl (fun u => by go_simp) (fun g1 hgg1 => ?_)
  try go_simp
  refine list_store (l1 := []) (l2 := [(w.heap.size, 27, sh 3 rr x y z A n cp)]) (l' := [(g1, 56, #[.func (Fn.func 64) #[] #[], .func (Fn.func 65) #[] #[]]), (w.heap.size, 27, sh 3 rr x y z A n cp)]) (g := g1) (old := #[.nilFunc, .nilFunc]) (cs := #[.func (Fn.func 64) #[] #[], .func (Fn.func 65) #[] #[]]) (.tmp 5) (.tmp 16) rfl rfl rfl rfl rfl rfl rKind rfl rfl (by simp [Value.oneCell']) hgg1 ?_
  try go_simp
  refine list_read (v := .bool true) rfl rfl (fun u hS => by go_simp) ?_
  try go_simp
  refine list_end (fun u4 hS => ?_)
  have D := hide hS
  clear hS
  go_upto_region 5 with fail
  refine list_start (S := Gd w [(g1, 56, #[.func (Fn.func 64) #[] #[], .func (Fn.func 65) #[] #[]]), (w.heap.size, 27, sh 3 rr x y z A n cp)]) (unhide D) ?_
  clear D
  refine list_read (v := .pointer (some ⟨g1, 1, none⟩)) rfl rfl (fun u hS => by go_simp) ?_
  try go_simp
  refine list_read (v := .func (Fn.func 65) #[] #[]) rfl rfl (fun u hS => exec_loadV_fcore (g := g1) (t := 56) (cs := #[.func (Fn.func 64) #[] #[], .func (Fn.func 65) #[] #[]]) hS.g _ rfl rfl (by repeat (first | exact List.mem_cons_self | apply List.mem_cons_of_mem)) rfl) ?_
  try go_simp
  refine list_read (v := .agg (sh 3 rr x y z A n cp)) rfl rfl (fun u hS => exec_loadG (g := w.heap.size) (t := 27) (cs := sh 3 rr x y z A n cp) hS.g rShape _ rfl rfl (by repeat (first | exact List.mem_cons_self | apply List.mem_cons_of_mem)) rfl) ?_
  try go_simp
  intro u hS
  refine list_callE (f := 65) (args := #[.agg (sh 3 rr x y z A n cp)]) rfl (by go_simp) (unhide hC u hS.g.o) ?_
  rintro e5 w5 ⟨⟨v5, he5, hown⟩, hb5⟩
  refine ⟨v5, he5, ?_⟩
  clear he5
  have hS5 := hide (hS.keep hb5)
  have hown5 := hide (own_base hown hS.g.o.size)
  clear hS hown hb5
  try go_simp
  refine list_turn (w' := w5) (v := v5) rfl (by go_simp) ?_
  try go_simp
  refine list_turn (w' := w5) (v := .int .i64 0) rfl (by go_simp) ?_
  try go_simp
  refine wpL_fin ?_
  go_wp2
  go_ret2
  exact ⟨⟨v5, rfl, unhide hown5⟩, (unhide hS5).g.o⟩
set_option maxHeartbeats 4000000 in
theorem core4_yes (rr x y z : Int) (A : Option Addr) (n cp : Nat) (xs : List Value) (w : World) (hC : Hid (∀ u, Below w.heap.size w u → Calls Tryz.prog 67 #[.agg (sh 4 rr x y z A n cp)] u fun e w' => (∃ v, e = .returned v ∧ w'.ownsRow u.heap.size 24 3 v n xs) ∧ Below u.heap.size u w')) (h1 : Hid (∀ u, Below w.heap.size w u → Calls Tryz.prog 17 #[.agg (sh 4 rr x y z A n cp)] u fun e w' => e = .returned (.int .i64 0) ∧ Below u.heap.size u w')) (h2 : Hid (Ans 35 #[.int .i64 4] (.tuple #[.agg (#[.func (Fn.func 66) #[] #[], .func (Fn.func 67) #[] #[]]), .bool true]))) : Calls Tryz.prog 14 #[.agg (sh 4 rr x y z A n cp)] w fun e w' => (∃ v, e = .returned (.tuple #[v, .int .i64 0]) ∧ w'.ownsRow w.heap.size 24 3 v n xs) ∧ Below w.heap.size w w' := by
  go_enter Tryz.func14, Tryz.ntmps14
  go_upto_region 1 with fail
  have D := hide ((Gd.start w).push 27 (sh 4 rr x y z A n cp))
  refine list_start (S := Gd w [(w.heap.size, 27, sh 4 rr x y z A n cp)]) (unhide D) ?_
  clear D
  refine list_read (v := .agg (sh 4 rr x y z A n cp)) rfl rfl (fun u hS => exec_loadG (g := w.heap.size) (t := 27) (cs := sh 4 rr x y z A n cp) hS.g rShape _ rfl rfl (by repeat (first | exact List.mem_cons_self | apply List.mem_cons_of_mem)) rfl) ?_
  try go_simp
  refine list_call (v := .int .i64 0) (f := 17) (args := #[.agg (sh 4 rr x y z A n cp)]) rfl rfl (fun u hS => by go_simp) (fun u hS => (unhide h1 u hS.g.o).mono fun _ _ ⟨he, hb⟩ => ⟨he, hS.keep hb⟩) ?_
  try go_simp
  refine list_read (v := .int .i64 0) rfl rfl (fun u hS => by go_simp) ?_
  try go_simp
  refine list_end (fun u1 hS => ?_)
  have D := hide hS
  clear hS
  go_upto_region 2 with fail
  refine list_start (S := Gd w [(w.heap.size, 27, sh 4 rr x y z A n cp)]) (unhide D) ?_
  clear D
  refine list_read (v := .int .i64 0) rfl rfl (fun u hS => by go_simp) ?_
  try go_simp
  refine list_read (v := .bool false) rfl rfl (fun u hS => by go_simp) ?_
  try go_simp
  refine list_end (fun u2 hS => ?_)
  have D := hide hS
  clear hS
  go_upto_region 4 with fail
  refine list_start (S := Gd w [(w.heap.size, 27, sh 4 rr x y z A n cp)]) (unhide D) ?_
  clear D
  refine list_read (v := .pointer (some ⟨w.heap.size, 0, none⟩)) rfl rfl (fun u hS => by go_simp) ?_
  try go_simp
  refine list_read (v := .int .i64 4) rfl rfl (fun u hS => exec_loadN_int (g := w.heap.size) (t := 27) (cs := sh 4 rr x y z A n cp) hS.g _ rfl rfl (by repeat (first | exact List.mem_cons_self | apply List.mem_cons_of_mem)) rfl) ?_
  try go_simp
  refine list_call (v := .tuple #[.agg (#[.func (Fn.func 66) #[] #[], .func (Fn.func 67) #[] #[]]), .bool true]) (f := 35) (args := #[.int .i64 4]) rfl rfl (fun u hS => by go_simp) (fun u hS => (unhide h2 u).mono fun _ _ ⟨he, hb⟩ => ⟨he, hS.keep hb⟩) ?_
  try go_simp
  refine list_read (v := .tuple #[.agg (#[.func (Fn.func 66) #[] #[], .func (Fn.func 67) #[] #[]]), .bool true]) rfl rfl (fun u hS => by go_simp) ?_
  try go_simp
  refine list_read (v := .agg (#[.func (Fn.func 66) #[] #[], .func (Fn.func 67) #[] #[]])) rfl rfl (fun u hS => by go_simp) ?_
  try go_simp
  refine list_read (v := .bool true) rfl rfl (fun u hS => by go_simp) ?_
  try go_simp
  refine list_new (z := #[.nilFunc, .nilFunc]) (ty := 56) (v := fun g => .pointer (some ⟨g, 0, none⟩)) rfl rfl (fun u => by go_simp) (fun g1 hgg1 => ?_)
  try go_simp
  refine list_store (l1 := []) (l2 := [(w.heap.size, 27, sh 4 rr x y z A n cp)]) (l' := [(g1, 56, #[.func (Fn.func 66) #[] #[], .func (Fn.func 67) #[] #[]]), (w.heap.size, 27, sh 4 rr x y z A n cp)]) (g := g1) (old := #[.nilFunc, .nilFunc]) (cs := #[.func (Fn.func 66) #[] #[], .func (Fn.func 67) #[] #[]]) (.tmp 5) (.tmp 16) rfl rfl rfl rfl rfl rfl rKind rfl rfl (by simp [Value.oneCell']) hgg1 ?_
  try go_simp
  refine list_read (v := .bool true) rfl rfl (fun u hS => by go_simp) ?_
  try go_simp
  refine list_end (fun u4 hS => ?_)
  have D := hide hS
  clear hS
  go_upto_region 5 with fail
  refine list_start (S := Gd w [(g1, 56, #[.func (Fn.func 66) #[] #[], .func (Fn.func 67) #[] #[]]), (w.heap.size, 27, sh 4 rr x y z A n cp)]) (unhide D) ?_
  clear D
  refine list_read (v := .pointer (some ⟨g1, 1, none⟩)) rfl rfl (fun u hS => by go_simp) ?_
  try go_simp
  refine list_read (v := .func (Fn.func 67) #[] #[]) rfl rfl (fun u hS => exec_loadV_fcore (g := g1) (t := 56) (cs := #[.func (Fn.func 66) #[] #[], .func (Fn.func 67) #[] #[]]) hS.g _ rfl rfl (by repeat (first | exact List.mem_cons_self | apply List.mem_cons_of_mem)) rfl) ?_
  try go_simp
  refine list_read (v := .agg (sh 4 rr x y z A n cp)) rfl rfl (fun u hS => exec_loadG (g := w.heap.size) (t := 27) (cs := sh 4 rr x y z A n cp) hS.g rShape _ rfl rfl (by repeat (first | exact List.mem_cons_self | apply List.mem_cons_of_mem)) rfl) ?_
  try go_simp
  intro u hS
  refine list_callE (f := 67) (args := #[.agg (sh 4 rr x y z A n cp)]) rfl (by go_simp) (unhide hC u hS.g.o) ?_
  rintro e5 w5 ⟨⟨v5, he5, hown⟩, hb5⟩
  refine ⟨v5, he5, ?_⟩
  clear he5
  have hS5 := hide (hS.keep hb5)
  have hown5 := hide (own_base hown hS.g.o.size)
  clear hS hown hb5
  try go_simp
  refine list_turn (w' := w5) (v := v5) rfl (by go_simp) ?_
  try go_simp
  refine list_turn (w' := w5) (v := .int .i64 0) rfl (by go_simp) ?_
  try go_simp
  refine wpL_fin ?_
  go_wp2
  go_ret2
  exact ⟨⟨v5, rfl, unhide hown5⟩, (unhide hS5).g.o⟩
set_option maxHeartbeats 4000000 in
theorem half_no (kd rr x y z : Int) (A : Option Addr) (n cp : Nat) (q : Int) (w : World) (h0 : Hid (∀ u, Below w.heap.size w u → Calls Tryz.prog 14 #[.agg (sh kd rr x y z A n cp)] u fun e w' => e = .returned (.tuple #[.slice none 0 0, .int .i64 q]) ∧ Below u.heap.size u w')) (e0 : Hid (decide ((q : Int) = 0) = false)) : Calls Tryz.prog 20 #[.agg (sh kd rr x y z A n cp)] w fun e w' => e = .returned (.tuple #[.agg (v3 0 0 0), .int .i64 q]) ∧ Below w.heap.size w w' := by
  go_enter Tryz.func20, Tryz.ntmps20
  go_upto_region 1 with fail
  have D := hide ((((Gd.start w).push 27 (sh kd rr x y z A n cp)).push 24 (v3 0 0 0)))
  simp only [szA] at D
  refine list_start (S := Gd w [(w.heap.size + 1, 24, v3 0 0 0), (w.heap.size, 27, sh kd rr x y z A n cp)]) (unhide D) ?_
  clear D
  refine list_read (v := .agg (sh kd rr x y z A n cp)) rfl rfl (fun u hS => exec_loadG (g := w.heap.size) (t := 27) (cs := sh kd rr x y z A n cp) hS.g rShape _ rfl rfl (by repeat (first | exact List.mem_cons_self | apply List.mem_cons_of_mem)) rfl) ?_
  try go_simp
  refine list_call (v := .tuple #[.slice none 0 0, .int .i64 q]) (f := 14) (args := #[.agg (sh kd rr x y z A n cp)]) rfl rfl (fun u hS => by go_simp) (fun u hS => (unhide h0 u hS.g.o).mono fun _ _ ⟨he, hb⟩ => ⟨he, hS.keep hb⟩) ?_
  try go_simp
  refine list_read (v := .tuple #[.slice none 0 0, .int .i64 q]) rfl rfl (fun u hS => by go_simp) ?_
  try go_simp
  refine list_read (v := .slice none 0 0) rfl rfl (fun u hS => by go_simp) ?_
  try go_simp
  refine list_read (v := .int .i64 q) rfl rfl (fun u hS => by go_simp) ?_
  try go_simp
  refine list_read (v := .slice none 0 0) rfl rfl (fun u hS => by go_simp) ?_
  try go_simp
  refine list_read (v := .int .i64 q) rfl rfl (fun u hS => by go_simp) ?_
  try go_simp
  refine list_end (fun u1 hS => ?_)
  have D := hide hS
  clear hS
  go_upto_region 2 with fail
  refine list_start (S := Gd w [(w.heap.size + 1, 24, v3 0 0 0), (w.heap.size, 27, sh kd rr x y z A n cp)]) (unhide D) ?_
  clear D
  refine list_read (v := .int .i64 q) rfl rfl (fun u hS => by go_simp) ?_
  try go_simp
  refine list_read (v := .bool true) rfl rfl (fun u hS => exec_neqS _ _ (unhide e0) rfl rfl rfl) ?_
  try go_simp
  refine list_end (fun u2 hS => ?_)
  have D := hide hS
  clear hS
  go_upto_region 3 with fail
  refine list_start (S := Gd w [(w.heap.size + 1, 24, v3 0 0 0), (w.heap.size, 27, sh kd rr x y z A n cp)]) (unhide D) ?_
  clear D
  refine list_read (v := .agg (v3 0 0 0)) rfl rfl (fun u hS => by go_simp) ?_
  try go_simp
  refine list_read (v := .int .i64 q) rfl rfl (fun u hS => by go_simp) ?_
  try go_simp
  refine list_store (l1 := []) (l2 := [(w.heap.size, 27, sh kd rr x y z A n cp)]) (l' := [(w.heap.size + 1, 24, v3 0 0 0), (w.heap.size, 27, sh kd rr x y z A n cp)]) (g := w.heap.size + 1) (old := v3 0 0 0) (cs := v3 0 0 0) (.tmp 2) (.tmp 16) rfl rfl rfl rfl rfl rfl rVec rfl rfl (v3_one _ _ _) (by omega) ?_
  try go_simp
  refine list_read (v := .int .i64 q) rfl rfl (fun u hS => by go_simp) ?_
  try go_simp
  refine list_end (fun u3 hS => ?_)
  have D := hide hS
  clear hS
  go_wp2
  exact resGT rVec ((unhide D).g.blk (g := w.heap.size + 1) (t := 24) (cs := v3 0 0 0) (by repeat (first | exact List.mem_cons_self | apply List.mem_cons_of_mem))) rfl rfl rfl rfl rfl ⟨rfl, (unhide D).g.o⟩
/-- The greatest of the first k numbers, and 0. -/
def mostR (f : Nat → Int) : Nat → Int
  | 0 => 0
  | k + 1 => mx2 (mostR f k) (f k)
def szX (ps : Nat → Pt) (i : Nat) : Int := asI (ps i).1
def szY (ps : Nat → Pt) (i : Nat) : Int := asI (ps i).2.1
def szZ (ps : Nat → Pt) (i : Nat) : Int := asI (ps i).2.2
def luP (ps : Nat → Pt) (i : Nat) : Int := upR (sqr (ps i).1 (ps i).2.1 (ps i).2.2) 1
set_option maxHeartbeats 8000000 in
theorem half_yes (kd rr x y z : Int) (A : Option Addr) (n cp : Nat) (m : Nat) (ps : Nat → Pt) (h1 h2 h3 : Int) (w : World) (hm0 : 0 < m) (hm : m ≤ 9223372036854775807) (hI : Hid (pI64 m ps)) (hA : Hid (Ans 43 #[.agg (v3 (mostR (szX ps) m) (mostR (szY ps) m) (mostR (szZ ps) m)), .agg (v3 rr rr rr)] (.agg (v3 h1 h2 h3)))) (hC : Hid (∀ u, Below w.heap.size w u → Calls Tryz.prog 14 #[.agg (sh kd rr x y z A n cp)] u fun e w' => (∃ v, e = .returned (.tuple #[v, .int .i64 0]) ∧ w'.ownsRow u.heap.size 24 3 v m (cellsN m ps)) ∧ Below u.heap.size u w')) : Calls Tryz.prog 20 #[.agg (sh kd rr x y z A n cp)] w fun e w' => e = .returned (.tuple #[.agg (v3 h1 h2 h3), .int .i64 0]) ∧ Below w.heap.size w w' := by
  go_enter Tryz.func20, Tryz.ntmps20
  go_upto_region 1 with fail
  have D := hide (((Gd.start w).push 27 (sh kd rr x y z A n cp)).push 24 (v3 0 0 0))
  simp only [szA] at D
  refine list_start (S := Gd w [(w.heap.size + 1, 24, v3 0 0 0), (w.heap.size, 27, sh kd rr x y z A n cp)]) (unhide D) ?_
  clear D
  refine list_read (v := .agg (sh kd rr x y z A n cp)) rfl rfl (fun u hS => exec_loadG (g := w.heap.size) (t := 27) (cs := sh kd rr x y z A n cp) hS.g rShape _ rfl rfl (by repeat (first | exact List.mem_cons_self | apply List.mem_cons_of_mem)) rfl) ?_
  try go_simp
  intro u hS
  refine list_callE (f := 14) (args := #[.agg (sh kd rr x y z A n cp)]) rfl (by go_simp) (unhide hC u hS.g.o) ?_
  rintro e5 w5 ⟨⟨v5, he5, hown⟩, hb5⟩
  refine ⟨_, he5, ?_⟩
  clear he5
  obtain ⟨gC, cC, cur, rfl, hbC, hBC, hcC, hcur⟩ := own_block hown hm0
  have hcur := hide hcur
  have hggC : w.heap.size ≤ gC := Nat.le_trans hS.g.o.size hbC
  refine list_go (S := Gd w [(gC, 24, cur), (w.heap.size + 1, 24, v3 0 0 0), (w.heap.size, 27, sh kd rr x y z A n cp)]) (hS.more hb5 hBC hbC) ?_
  clear hS hb5 hBC hown hbC hcC
  try go_simp
  refine list_read (v := .tuple #[.slice (some ⟨gC, 0, none⟩) m cC, .int .i64 0]) rfl rfl (fun u hS => by go_simp) ?_
  try go_simp
  refine list_read (v := .slice (some ⟨gC, 0, none⟩) m cC) rfl rfl (fun u hS => by go_simp) ?_
  try go_simp
  refine list_read (v := .int .i64 0) rfl rfl (fun u hS => by go_simp) ?_
  try go_simp
  refine list_read (v := .slice (some ⟨gC, 0, none⟩) m cC) rfl rfl (fun u hS => by go_simp) ?_
  try go_simp
  refine list_read (v := .int .i64 0) rfl rfl (fun u hS => by go_simp) ?_
  try go_simp
  refine list_end (fun u1 hS => ?_)
  have D := hide hS
  clear hS
  go_upto_region 2 with fail
  refine list_start (S := Gd w [(gC, 24, cur), (w.heap.size + 1, 24, v3 0 0 0), (w.heap.size, 27, sh kd rr x y z A n cp)]) (unhide D) ?_
  clear D
  refine list_read (v := .int .i64 0) rfl rfl (fun u hS => by go_simp) ?_
  try go_simp
  refine list_read (v := .bool false) rfl rfl (fun u hS => by go_simp) ?_
  try go_simp
  refine list_end (fun u2 hS => ?_)
  have D := hide hS
  clear hS
  go_upto_region 4 with fail
  refine list_start (S := Gd w [(gC, 24, cur), (w.heap.size + 1, 24, v3 0 0 0), (w.heap.size, 27, sh kd rr x y z A n cp)]) (unhide D) ?_
  clear D
  refine list_new (z := v3 0 0 0) (ty := 24) (v := fun g => .pointer (some ⟨g, 0, none⟩)) rfl rfl (fun u => by go_simp) (fun g1 hgg1 => ?_)
  try go_simp
  refine list_end (fun u4 hS => ?_)
  have D := hide hS
  clear hS
  go_upto_region 5 with fail
  go_wp2
  go_loopw [20] (fun i wr => ∃ k : Nat, k ≤ m ∧ i = .int .i64 k ∧ Hid (Gd w [(g1, 24, v3 (mostR (szX ps) k) (mostR (szY ps) k) (mostR (szZ ps) k)), (gC, 24, cur), (w.heap.size + 1, 24, v3 0 0 0), (w.heap.size, 27, sh kd rr x y z A n cp)] wr)) (fun i _ => m - (intOf i).toNat)
  case atStart => exact ⟨0, Nat.zero_le _, rfl, unhide D⟩
  case round =>
    obtain ⟨k, hk, rfl, hD⟩ := hrel
    clear D
    by_cases hkm : k < m
    · go_upto_region 7 with fail
      have D := hD
      clear hD
      refine list_start (S := Gd w [(g1, 24, v3 (mostR (szX ps) k) (mostR (szY ps) k) (mostR (szZ ps) k)), (gC, 24, cur), (w.heap.size + 1, 24, v3 0 0 0), (w.heap.size, 27, sh kd rr x y z A n cp)]) (unhide D) ?_
      clear D
      refine list_read (v := .pointer (some ⟨gC, k * 3, none⟩)) rfl rfl (fun u hS => exec_ixV0 u (.tmp 18) (.tmp 20) hkm rfl rfl rfl) ?_
      try go_simp
      refine list_read (v := .agg (v3 ((ps k).1) ((ps k).2.1) ((ps k).2.2))) rfl rfl (fun u hS => exec_ldV (.tmp 22) rfl rfl (cur_range (hS.g.blk (g := gC) (t := 24) (cs := cur) (by repeat (first | exact List.mem_cons_self | apply List.mem_cons_of_mem))) (unhide hcur) hkm)) ?_
      try go_simp
      refine list_new (z := v3 0 0 0) (ty := 24) (v := fun g => .pointer (some ⟨g, 0, none⟩)) rfl rfl (fun u => by go_simp) (fun g2 hgg2 => ?_)
      try go_simp
      refine list_store (l1 := []) (l2 := [(g1, 24, v3 (mostR (szX ps) k) (mostR (szY ps) k) (mostR (szZ ps) k)), (gC, 24, cur), (w.heap.size + 1, 24, v3 0 0 0), (w.heap.size, 27, sh kd rr x y z A n cp)]) (l' := [(g2, 24, v3 ((ps k).1) ((ps k).2.1) ((ps k).2.2)), (g1, 24, v3 (mostR (szX ps) k) (mostR (szY ps) k) (mostR (szZ ps) k)), (gC, 24, cur), (w.heap.size + 1, 24, v3 0 0 0), (w.heap.size, 27, sh kd rr x y z A n cp)]) (g := g2) (old := v3 0 0 0) (cs := v3 ((ps k).1) ((ps k).2.1) ((ps k).2.2)) (.tmp 8) (.tmp 23) rfl rfl rfl rfl rfl rfl rVec rfl rfl (v3_one _ _ _) hgg2 ?_
      try go_simp
      refine list_end (fun u7 hS => ?_)
      have D := hide hS
      clear hS
      go_upto_region 8 with fail
      refine region_allocs (S := Gd w [(g2, 24, v3 ((ps k).1) ((ps k).2.1) ((ps k).2.2)), (g1, 24, v3 (mostR (szX ps) k) (mostR (szY ps) k) (mostR (szZ ps) k)), (gC, 24, cur), (w.heap.size + 1, 24, v3 0 0 0), (w.heap.size, 27, sh kd rr x y z A n cp)]) (t := 0) (z := #[]) (base := w.heap.size) (l := [0, 1, 2, 3, 4, 5, 6]) (A := []) (T := [7]) (by kernel_rfl) (by kernel_rfl) (by kernel_rfl) (by kernel_rfl) (by kernel_rfl) (by kernel_rfl) (by kernel_rfl) (by kernel_rfl) (by kernel_rfl) (by kernel_rfl) (fun i hi => by cases hi) (fun _ _ h hb => h.keep hb) (fun _ h => h.g.o.size) (unhide D).drew ?_
      clear D
      refine planB_read (v := .pointer (some ⟨g1, 0, none⟩)) rfl rfl (fun u hS => by go_simp) ?_
      try go_simp
      refine planB_read (v := .int .i64 (mostR (szX ps) k)) rfl rfl (fun u hS => exec_loadN_Fix (g := g1) (t := 24) (cs := v3 (mostR (szX ps) k) (mostR (szY ps) k) (mostR (szZ ps) k)) hS.g _ rfl rfl (by repeat (first | exact List.mem_cons_self | apply List.mem_cons_of_mem)) rfl) ?_
      try go_simp
      refine planB_read (v := .pointer (some ⟨g2, 0, none⟩)) rfl rfl (fun u hS => by go_simp) ?_
      try go_simp
      refine planB_read (v := .int .i64 ((ps k).1)) rfl rfl (fun u hS => exec_loadN_Fix (g := g2) (t := 24) (cs := v3 ((ps k).1) ((ps k).2.1) ((ps k).2.2)) hS.g _ rfl rfl (by repeat (first | exact List.mem_cons_self | apply List.mem_cons_of_mem)) rfl) ?_
      try go_simp
      refine planB_call (v := .int .i64 (asI (ps k).1)) (f := 42) (args := #[.int .i64 ((ps k).1)]) rfl rfl (fun u hS => by go_simp) (fun u hS => (SizeS _ (unhide hI k hkm).1 u).mono fun _ _ ⟨he, hb⟩ => ⟨he, hS.keep hb, hb⟩) ?_
      try go_simp
      refine planB_read (v := .int .i64 (mx2 (mostR (szX ps) k) (asI (ps k).1))) rfl rfl (fun u hS => exec_mx2 (.tmp 25) (.tmp 28) rfl rfl rfl) ?_
      try go_simp
      refine planB_read (v := .pointer (some ⟨g1, 0, none⟩)) rfl rfl (fun u hS => by go_simp) ?_
      try go_simp
      refine planB_tail (fun cc u hS hB hI => ?_)
      clear hB hI
      simp only [pa, opsOf]
      refine list_go hS ?_
      clear hS
      refine list_storeC (i := 0) (l1 := [(g2, 24, v3 ((ps k).1) ((ps k).2.1) ((ps k).2.2))]) (l2 := [(gC, 24, cur), (w.heap.size + 1, 24, v3 0 0 0), (w.heap.size, 27, sh kd rr x y z A n cp)]) (l' := [(g2, 24, v3 ((ps k).1) ((ps k).2.1) ((ps k).2.2)), (g1, 24, v3 (mx2 (mostR (szX ps) k) (asI (ps k).1)) (mostR (szY ps) k) (mostR (szZ ps) k)), (gC, 24, cur), (w.heap.size + 1, 24, v3 0 0 0), (w.heap.size, 27, sh kd rr x y z A n cp)]) (g := g1) (old := v3 (mostR (szX ps) k) (mostR (szY ps) k) (mostR (szZ ps) k)) (.tmp 30) (.tmp 29) rfl rfl rfl rfl rfl rfl (show 0 < 3 from by decide) (by kernel_rfl) hgg1 ?_
      try go_simp
      refine list_end (fun u8 hS => ?_)
      have D := hide hS
      clear hS
      go_upto_region 9 with fail
      refine region_allocs (S := Gd w [(g2, 24, v3 ((ps k).1) ((ps k).2.1) ((ps k).2.2)), (g1, 24, v3 (mx2 (mostR (szX ps) k) (asI (ps k).1)) (mostR (szY ps) k) (mostR (szZ ps) k)), (gC, 24, cur), (w.heap.size + 1, 24, v3 0 0 0), (w.heap.size, 27, sh kd rr x y z A n cp)]) (t := 0) (z := #[]) (base := w.heap.size) (l := [0, 1, 2, 3, 4, 5, 6]) (A := []) (T := [7]) (by kernel_rfl) (by kernel_rfl) (by kernel_rfl) (by kernel_rfl) (by kernel_rfl) (by kernel_rfl) (by kernel_rfl) (by kernel_rfl) (by kernel_rfl) (by kernel_rfl) (fun i hi => by cases hi) (fun _ _ h hb => h.keep hb) (fun _ h => h.g.o.size) (unhide D).drew ?_
      clear D
      refine planB_read (v := .pointer (some ⟨g1, 1, none⟩)) rfl rfl (fun u hS => by go_simp) ?_
      try go_simp
      refine planB_read (v := .int .i64 (mostR (szY ps) k)) rfl rfl (fun u hS => exec_loadN_Fix (g := g1) (t := 24) (cs := v3 (mx2 (mostR (szX ps) k) (asI (ps k).1)) (mostR (szY ps) k) (mostR (szZ ps) k)) hS.g _ rfl rfl (by repeat (first | exact List.mem_cons_self | apply List.mem_cons_of_mem)) rfl) ?_
      try go_simp
      refine planB_read (v := .pointer (some ⟨g2, 1, none⟩)) rfl rfl (fun u hS => by go_simp) ?_
      try go_simp
      refine planB_read (v := .int .i64 ((ps k).2.1)) rfl rfl (fun u hS => exec_loadN_Fix (g := g2) (t := 24) (cs := v3 ((ps k).1) ((ps k).2.1) ((ps k).2.2)) hS.g _ rfl rfl (by repeat (first | exact List.mem_cons_self | apply List.mem_cons_of_mem)) rfl) ?_
      try go_simp
      refine planB_call (v := .int .i64 (asI (ps k).2.1)) (f := 42) (args := #[.int .i64 ((ps k).2.1)]) rfl rfl (fun u hS => by go_simp) (fun u hS => (SizeS _ (unhide hI k hkm).2.1 u).mono fun _ _ ⟨he, hb⟩ => ⟨he, hS.keep hb, hb⟩) ?_
      try go_simp
      refine planB_read (v := .int .i64 (mx2 (mostR (szY ps) k) (asI (ps k).2.1))) rfl rfl (fun u hS => exec_mx2 (.tmp 32) (.tmp 35) rfl rfl rfl) ?_
      try go_simp
      refine planB_read (v := .pointer (some ⟨g1, 1, none⟩)) rfl rfl (fun u hS => by go_simp) ?_
      try go_simp
      refine planB_tail (fun cc u hS hB hI => ?_)
      clear hB hI
      simp only [pa, opsOf]
      refine list_go hS ?_
      clear hS
      refine list_storeC (i := 1) (l1 := [(g2, 24, v3 ((ps k).1) ((ps k).2.1) ((ps k).2.2))]) (l2 := [(gC, 24, cur), (w.heap.size + 1, 24, v3 0 0 0), (w.heap.size, 27, sh kd rr x y z A n cp)]) (l' := [(g2, 24, v3 ((ps k).1) ((ps k).2.1) ((ps k).2.2)), (g1, 24, v3 (mx2 (mostR (szX ps) k) (asI (ps k).1)) (mx2 (mostR (szY ps) k) (asI (ps k).2.1)) (mostR (szZ ps) k)), (gC, 24, cur), (w.heap.size + 1, 24, v3 0 0 0), (w.heap.size, 27, sh kd rr x y z A n cp)]) (g := g1) (old := v3 (mx2 (mostR (szX ps) k) (asI (ps k).1)) (mostR (szY ps) k) (mostR (szZ ps) k)) (.tmp 37) (.tmp 36) rfl rfl rfl rfl rfl rfl (show 1 < 3 from by decide) (by kernel_rfl) hgg1 ?_
      try go_simp
      refine list_end (fun u9 hS => ?_)
      have D := hide hS
      clear hS
      go_upto_region 10 with fail
      refine region_allocs (S := Gd w [(g2, 24, v3 ((ps k).1) ((ps k).2.1) ((ps k).2.2)), (g1, 24, v3 (mx2 (mostR (szX ps) k) (asI (ps k).1)) (mx2 (mostR (szY ps) k) (asI (ps k).2.1)) (mostR (szZ ps) k)), (gC, 24, cur), (w.heap.size + 1, 24, v3 0 0 0), (w.heap.size, 27, sh kd rr x y z A n cp)]) (t := 0) (z := #[]) (base := w.heap.size) (l := [0, 1, 2, 3, 4, 5, 6]) (A := []) (T := [7]) (by kernel_rfl) (by kernel_rfl) (by kernel_rfl) (by kernel_rfl) (by kernel_rfl) (by kernel_rfl) (by kernel_rfl) (by kernel_rfl) (by kernel_rfl) (by kernel_rfl) (fun i hi => by cases hi) (fun _ _ h hb => h.keep hb) (fun _ h => h.g.o.size) (unhide D).drew ?_
      clear D
      refine planB_read (v := .pointer (some ⟨g1, 2, none⟩)) rfl rfl (fun u hS => by go_simp) ?_
      try go_simp
      refine planB_read (v := .int .i64 (mostR (szZ ps) k)) rfl rfl (fun u hS => exec_loadN_Fix (g := g1) (t := 24) (cs := v3 (mx2 (mostR (szX ps) k) (asI (ps k).1)) (mx2 (mostR (szY ps) k) (asI (ps k).2.1)) (mostR (szZ ps) k)) hS.g _ rfl rfl (by repeat (first | exact List.mem_cons_self | apply List.mem_cons_of_mem)) rfl) ?_
      try go_simp
      refine planB_read (v := .pointer (some ⟨g2, 2, none⟩)) rfl rfl (fun u hS => by go_simp) ?_
      try go_simp
      refine planB_read (v := .int .i64 ((ps k).2.2)) rfl rfl (fun u hS => exec_loadN_Fix (g := g2) (t := 24) (cs := v3 ((ps k).1) ((ps k).2.1) ((ps k).2.2)) hS.g _ rfl rfl (by repeat (first | exact List.mem_cons_self | apply List.mem_cons_of_mem)) rfl) ?_
      try go_simp
      refine planB_call (v := .int .i64 (asI (ps k).2.2)) (f := 42) (args := #[.int .i64 ((ps k).2.2)]) rfl rfl (fun u hS => by go_simp) (fun u hS => (SizeS _ (unhide hI k hkm).2.2 u).mono fun _ _ ⟨he, hb⟩ => ⟨he, hS.keep hb, hb⟩) ?_
      try go_simp
      refine planB_read (v := .int .i64 (mx2 (mostR (szZ ps) k) (asI (ps k).2.2))) rfl rfl (fun u hS => exec_mx2 (.tmp 39) (.tmp 42) rfl rfl rfl) ?_
      try go_simp
      refine planB_read (v := .pointer (some ⟨g1, 2, none⟩)) rfl rfl (fun u hS => by go_simp) ?_
      try go_simp
      refine planB_tail (fun cc u hS hB hI => ?_)
      clear hB hI
      simp only [pa, opsOf]
      refine list_go hS ?_
      clear hS
      refine list_storeC (i := 2) (l1 := [(g2, 24, v3 ((ps k).1) ((ps k).2.1) ((ps k).2.2))]) (l2 := [(gC, 24, cur), (w.heap.size + 1, 24, v3 0 0 0), (w.heap.size, 27, sh kd rr x y z A n cp)]) (l' := [(g2, 24, v3 ((ps k).1) ((ps k).2.1) ((ps k).2.2)), (g1, 24, v3 (mx2 (mostR (szX ps) k) (asI (ps k).1)) (mx2 (mostR (szY ps) k) (asI (ps k).2.1)) (mx2 (mostR (szZ ps) k) (asI (ps k).2.2))), (gC, 24, cur), (w.heap.size + 1, 24, v3 0 0 0), (w.heap.size, 27, sh kd rr x y z A n cp)]) (g := g1) (old := v3 (mx2 (mostR (szX ps) k) (asI (ps k).1)) (mx2 (mostR (szY ps) k) (asI (ps k).2.1)) (mostR (szZ ps) k)) (.tmp 44) (.tmp 43) rfl rfl rfl rfl rfl rfl (show 2 < 3 from by decide) (by kernel_rfl) hgg1 ?_
      try go_simp
      refine list_end (fun u10 hS => ?_)
      have D := hide hS
      clear hS
      go_wp2
      go_roundw
      case rel => exact ⟨k + 1, by omega, by go_num, hide (unhide D).tail⟩
      case measure => simp [intOf]; omega
    · obtain rfl : m = k := by omega
      go_upto_region 12 with fail
      have D := hD
      clear hD
      refine list_start (S := Gd w [(g1, 24, v3 (mostR (szX ps) m) (mostR (szY ps) m) (mostR (szZ ps) m)), (gC, 24, cur), (w.heap.size + 1, 24, v3 0 0 0), (w.heap.size, 27, sh kd rr x y z A n cp)]) (unhide D) ?_
      clear D
      refine list_read (v := .agg (v3 (mostR (szX ps) m) (mostR (szY ps) m) (mostR (szZ ps) m))) rfl rfl (fun u hS => exec_loadG (g := g1) (t := 24) (cs := v3 (mostR (szX ps) m) (mostR (szY ps) m) (mostR (szZ ps) m)) hS.g rVec _ rfl rfl (by repeat (first | exact List.mem_cons_self | apply List.mem_cons_of_mem)) rfl) ?_
      try go_simp
      refine list_read (v := .pointer (some ⟨w.heap.size, 1, none⟩)) rfl rfl (fun u hS => by go_simp) ?_
      try go_simp
      refine list_read (v := .int .i64 rr) rfl rfl (fun u hS => exec_loadN_Fix (g := w.heap.size) (t := 27) (cs := sh kd rr x y z A n cp) hS.g _ rfl rfl (by repeat (first | exact List.mem_cons_self | apply List.mem_cons_of_mem)) rfl) ?_
      try go_simp
      refine list_read (v := .pointer (some ⟨w.heap.size, 1, none⟩)) rfl rfl (fun u hS => by go_simp) ?_
      try go_simp
      refine list_read (v := .int .i64 rr) rfl rfl (fun u hS => exec_loadN_Fix (g := w.heap.size) (t := 27) (cs := sh kd rr x y z A n cp) hS.g _ rfl rfl (by repeat (first | exact List.mem_cons_self | apply List.mem_cons_of_mem)) rfl) ?_
      try go_simp
      refine list_read (v := .pointer (some ⟨w.heap.size, 1, none⟩)) rfl rfl (fun u hS => by go_simp) ?_
      try go_simp
      refine list_read (v := .int .i64 rr) rfl rfl (fun u hS => exec_loadN_Fix (g := w.heap.size) (t := 27) (cs := sh kd rr x y z A n cp) hS.g _ rfl rfl (by repeat (first | exact List.mem_cons_self | apply List.mem_cons_of_mem)) rfl) ?_
      try go_simp
      refine list_read (v := .agg (v3 rr rr rr)) rfl rfl (fun u hS => by go_simp) ?_
      try go_simp
      refine list_call (v := .agg (v3 h1 h2 h3)) (f := 43) (args := #[.agg (v3 (mostR (szX ps) m) (mostR (szY ps) m) (mostR (szZ ps) m)), .agg (v3 rr rr rr)]) rfl rfl (fun u hS => by go_simp) (fun u hS => (unhide hA u).mono fun _ _ ⟨he, hb⟩ => ⟨he, hS.keep hb⟩) ?_
      try go_simp
      refine list_store (l1 := [(g1, 24, v3 (mostR (szX ps) m) (mostR (szY ps) m) (mostR (szZ ps) m)), (gC, 24, cur)]) (l2 := [(w.heap.size, 27, sh kd rr x y z A n cp)]) (l' := [(g1, 24, v3 (mostR (szX ps) m) (mostR (szY ps) m) (mostR (szZ ps) m)), (gC, 24, cur), (w.heap.size + 1, 24, v3 h1 h2 h3), (w.heap.size, 27, sh kd rr x y z A n cp)]) (g := w.heap.size + 1) (old := v3 0 0 0) (cs := v3 h1 h2 h3) (.tmp 2) (.tmp 54) rfl rfl rfl rfl rfl rfl rVec rfl rfl (v3_one _ _ _) (by omega) ?_
      try go_simp
      refine list_read (v := .int .i64 0) rfl rfl (fun u hS => by go_simp) ?_
      try go_simp
      refine list_end (fun u12 hS => ?_)
      have D := hide hS
      clear hS
      go_wp2
      exact resGT rVec ((unhide D).g.blk (g := w.heap.size + 1) (t := 24) (cs := v3 h1 h2 h3) (by repeat (first | exact List.mem_cons_self | apply List.mem_cons_of_mem))) rfl rfl rfl rfl rfl ⟨rfl, (unhide D).g.o⟩
end Go.Proofs.YtnemedgdhojhdaaGreat
