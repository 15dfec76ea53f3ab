/- The document's Check, Less, Round and Value of layer 6; the law GridRound. -/
import Derived.Test.YtbgafjdgahikcaaGp
namespace Go.Proofs.Ytbgafjdgahikcaa
open Go.RowKit
set_option maxRecDepth 4000
set_option linter.unusedVariables false

section
variable {ops : Array Oper} {rest : List Oper} {o : Oper} {a : Act} {w w0 : World} {Q : Exit → Act → World → Prop} {l : List (Nat × TypeId × Array Value)} {g : Nat} {t : TypeId} {cs : Array Value}
theorem ldI4w (d : Gen w0 l w) {i : Nat} {z : Int} (x : Operand) (ho : o.op = .load 2 x) (hgd : Region.wanted o (yielded ops a.tmps) = true) (hx : a.eval x = .pointer (some ⟨g, i, none⟩)) (hm : (g, t, cs) ∈ l) (hc : cs[i]? = some (.int .i64 z))
    (h : wpList Try.prog ops Q rest (a.put o.dst (.int .i64 z)) w) : wpList Try.prog ops Q (o :: rest) a w := wpList_valuew hgd (exec_loadIG d x ho hx hm hc) h
end
theorem rmay_core (x : Int) (w : World) :
    Calls Try.prog 78 #[.int .i64 x] w fun e w' => e = .returned (.bool (mayI x)) ∧ Below w.heap.size w w' := by
  unfold mayI
  go_enter Try.func78, Try.ntmps78
  by_cases h : -268435456 ≤ x
  · go_wp2
    go_ret
    exact ⟨by simp [h], Below.refl _ _⟩
  · have hd := hide (decide_eq_false h)
    go_wp2
    go_ret
    exact ⟨by rw [unhide hd]; rfl, Below.refl _ _⟩
theorem rcheck_f (x y z : Int) (w : World) (h0 : Hid (Ans 78 #[.int .i64 x] (.bool false))) :
    Calls Try.prog 27 #[.agg (v3 x y z)] w fun e w' => e = .returned (.int .i64 7) ∧ Below w.heap.size w w' := by
  go_enter Try.func27, Try.ntmps27
  go_upto_region 1 with fail
  have D := hide ((Gen.start w).push 26 (v3 x y z))
  go_wp2_with (first | (with_reducible refine at_list ?_;  apply ldI (unhide D) _ rfl rfl rfl (by repeat (first | exact List.mem_cons_self | apply List.mem_cons_of_mem)) rfl) | (with_reducible refine at_list ?_;  apply ldI4w (unhide D) _ rfl rfl rfl (by repeat (first | exact List.mem_cons_self | apply List.mem_cons_of_mem)) rfl) | (go_at_call 78; with_reducible refine (unhide h0 _).mono ?_; rintro e w' ⟨he, hb⟩; subst he; have D := hide ((unhide D).keep hb); clear hb))
  go_ret
  exact ⟨rfl, (unhide D).o⟩
theorem rcheck_tf (x y z : Int) (w : World) (h0 : Hid (Ans 78 #[.int .i64 x] (.bool true))) (h1 : Hid (Ans 78 #[.int .i64 y] (.bool false))) :
    Calls Try.prog 27 #[.agg (v3 x y z)] w fun e w' => e = .returned (.int .i64 7) ∧ Below w.heap.size w w' := by
  go_enter Try.func27, Try.ntmps27
  go_upto_region 1 with fail
  have D := hide ((Gen.start w).push 26 (v3 x y z))
  go_wp2_with (first | (with_reducible refine at_list ?_;  apply ldI (unhide D) _ rfl rfl rfl (by repeat (first | exact List.mem_cons_self | apply List.mem_cons_of_mem)) rfl) | (with_reducible refine at_list ?_;  apply ldI4w (unhide D) _ rfl rfl rfl (by repeat (first | exact List.mem_cons_self | apply List.mem_cons_of_mem)) rfl) | (go_at_call 78; with_reducible refine (unhide h0 _).mono ?_; rintro e w' ⟨he, hb⟩; subst he; have D := hide ((unhide D).keep hb); clear hb) | (go_at_call 78; with_reducible refine (unhide h1 _).mono ?_; rintro e w' ⟨he, hb⟩; subst he; have D := hide ((unhide D).keep hb); clear hb))
  go_ret
  exact ⟨rfl, (unhide D).o⟩
theorem rcheck_ttf (x y z : Int) (w : World) (h0 : Hid (Ans 78 #[.int .i64 x] (.bool true))) (h1 : Hid (Ans 78 #[.int .i64 y] (.bool true))) (h2 : Hid (Ans 78 #[.int .i64 z] (.bool false))) :
    Calls Try.prog 27 #[.agg (v3 x y z)] w fun e w' => e = .returned (.int .i64 7) ∧ Below w.heap.size w w' := by
  go_enter Try.func27, Try.ntmps27
  go_upto_region 1 with fail
  have D := hide ((Gen.start w).push 26 (v3 x y z))
  go_wp2_with (first | (with_reducible refine at_list ?_;  apply ldI (unhide D) _ rfl rfl rfl (by repeat (first | exact List.mem_cons_self | apply List.mem_cons_of_mem)) rfl) | (with_reducible refine at_list ?_;  apply ldI4w (unhide D) _ rfl rfl rfl (by repeat (first | exact List.mem_cons_self | apply List.mem_cons_of_mem)) rfl) | (go_at_call 78; with_reducible refine (unhide h0 _).mono ?_; rintro e w' ⟨he, hb⟩; subst he; have D := hide ((unhide D).keep hb); clear hb) | (go_at_call 78; with_reducible refine (unhide h1 _).mono ?_; rintro e w' ⟨he, hb⟩; subst he; have D := hide ((unhide D).keep hb); clear hb) | (go_at_call 78; with_reducible refine (unhide h2 _).mono ?_; rintro e w' ⟨he, hb⟩; subst he; have D := hide ((unhide D).keep hb); clear hb))
  go_ret
  exact ⟨rfl, (unhide D).o⟩
theorem rcheck_ttt (x y z : Int) (w : World) (h0 : Hid (Ans 78 #[.int .i64 x] (.bool true))) (h1 : Hid (Ans 78 #[.int .i64 y] (.bool true))) (h2 : Hid (Ans 78 #[.int .i64 z] (.bool true))) :
    Calls Try.prog 27 #[.agg (v3 x y z)] w fun e w' => e = .returned (.int .i64 0) ∧ Below w.heap.size w w' := by
  go_enter Try.func27, Try.ntmps27
  go_upto_region 1 with fail
  have D := hide ((Gen.start w).push 26 (v3 x y z))
  go_wp2_with (first | (with_reducible refine at_list ?_;  apply ldI (unhide D) _ rfl rfl rfl (by repeat (first | exact List.mem_cons_self | apply List.mem_cons_of_mem)) rfl) | (with_reducible refine at_list ?_;  apply ldI4w (unhide D) _ rfl rfl rfl (by repeat (first | exact List.mem_cons_self | apply List.mem_cons_of_mem)) rfl) | (go_at_call 78; with_reducible refine (unhide h0 _).mono ?_; rintro e w' ⟨he, hb⟩; subst he; have D := hide ((unhide D).keep hb); clear hb) | (go_at_call 78; with_reducible refine (unhide h1 _).mono ?_; rintro e w' ⟨he, hb⟩; subst he; have D := hide ((unhide D).keep hb); clear hb) | (go_at_call 78; with_reducible refine (unhide h2 _).mono ?_; rintro e w' ⟨he, hb⟩; subst he; have D := hide ((unhide D).keep hb); clear hb))
  go_ret
  exact ⟨rfl, (unhide D).o⟩
theorem RCheckZ (x y z : Int) : Ans 27 #[.agg (v3 x y z)] (.int .i64 (if chkP x y z then 0 else 7)) := by
  intro w
  have h1 := fun u => rmay_core x u
  have h2 := fun u => rmay_core y u
  have h3 := fun u => rmay_core z u
  unfold chkP
  generalize mayI x = a at *
  generalize mayI y = b at *
  generalize mayI z = c at *
  cases a
  · exact rcheck_f x y z w h1
  cases b
  · exact rcheck_tf x y z w h1 h2
  cases c
  · exact rcheck_ttf x y z w h1 h2 h3
  · exact rcheck_ttt x y z w h1 h2 h3
set_option maxHeartbeats 1000000 in
theorem rless_a (ax ay az bx b_y bz_ : Int) (w : World) (h1 : Hid (Ans 27 #[.agg (v3 ax ay az)] (.int .i64 7))) :
    Calls Try.prog 30 #[.agg (v3 ax ay az), .agg (v3 bx b_y bz_)] w fun e w' => e = .returned (.tuple #[.agg (v3 0 0 0), .int .i64 7]) ∧ Below w.heap.size w w' := by
  go_enter Try.func30, Try.ntmps30
  go_upto_region 1 with fail
  have D := hide ((((Gen.start w).push 26 (v3 ax ay az)).push 26 (v3 bx b_y bz_)).push 26 (v3 0 0 0))
  simp only [szA] at D
  go_wp2_with (first | (with_reducible refine at_list ?_; apply ldG (unhide D) rPoint _ rfl rfl rfl (by repeat (first | exact List.mem_cons_self | apply List.mem_cons_of_mem)) rfl) | (with_reducible refine at_list ?_; apply ldGw (unhide D) rPoint _ rfl rfl rfl (by repeat (first | exact List.mem_cons_self | apply List.mem_cons_of_mem)) rfl) | (go_at_call 27; with_reducible refine (unhide h1 _).mono ?_; rintro e w' ⟨he, hb⟩; subst he; have D := hide ((unhide D).keep hb); clear hb) | (with_reducible refine at_list ?_;  apply ldI (unhide D) _ rfl rfl rfl (by repeat (first | exact List.mem_cons_self | apply List.mem_cons_of_mem)) rfl) | (with_reducible refine at_list ?_;  refine bdPt _ _ _ rfl rfl rfl rfl rfl ?_) | (with_reducible refine at_list ?_; apply stGend (unhide D) rPoint _ _ rfl rfl rfl rfl (by repeat (first | exact List.mem_cons_self | apply List.mem_cons_of_mem)) (by omega) rfl rfl (v3_one' _ _ _); intro B O))
  exact resGT rPoint (unhide B) rfl rfl rfl rfl rfl ⟨rfl, unhide O⟩
set_option maxHeartbeats 1000000 in
theorem rless_b (ax ay az bx b_y bz_ : Int) (w : World) (h1 : Hid (Ans 27 #[.agg (v3 ax ay az)] (.int .i64 0))) (h2 : Hid (Ans 27 #[.agg (v3 bx b_y bz_)] (.int .i64 7))) :
    Calls Try.prog 30 #[.agg (v3 ax ay az), .agg (v3 bx b_y bz_)] w fun e w' => e = .returned (.tuple #[.agg (v3 0 0 0), .int .i64 7]) ∧ Below w.heap.size w w' := by
  go_enter Try.func30, Try.ntmps30
  go_upto_region 1 with fail
  have D := hide ((((Gen.start w).push 26 (v3 ax ay az)).push 26 (v3 bx b_y bz_)).push 26 (v3 0 0 0))
  simp only [szA] at D
  go_wp2_with (first | (with_reducible refine at_list ?_; apply ldG (unhide D) rPoint _ rfl rfl rfl (by repeat (first | exact List.mem_cons_self | apply List.mem_cons_of_mem)) rfl) | (with_reducible refine at_list ?_; apply ldGw (unhide D) rPoint _ rfl rfl rfl (by repeat (first | exact List.mem_cons_self | apply List.mem_cons_of_mem)) rfl) | (go_at_call 27; with_reducible refine (unhide h1 _).mono ?_; rintro e w' ⟨he, hb⟩; subst he; have D := hide ((unhide D).keep hb); clear hb) | (go_at_call 27; with_reducible refine (unhide h2 _).mono ?_; rintro e w' ⟨he, hb⟩; subst he; have D := hide ((unhide D).keep hb); clear hb) | (with_reducible refine at_list ?_;  apply ldI (unhide D) _ rfl rfl rfl (by repeat (first | exact List.mem_cons_self | apply List.mem_cons_of_mem)) rfl) | (with_reducible refine at_list ?_;  refine bdPt _ _ _ rfl rfl rfl rfl rfl ?_) | (with_reducible refine at_list ?_; apply stGend (unhide D) rPoint _ _ rfl rfl rfl rfl (by repeat (first | exact List.mem_cons_self | apply List.mem_cons_of_mem)) (by omega) rfl rfl (v3_one' _ _ _); intro B O))
  exact resGT rPoint (unhide B) rfl rfl rfl rfl rfl ⟨rfl, unhide O⟩
set_option maxHeartbeats 1000000 in
theorem rless_ok (ax ay az bx b_y bz_ : Int) (w : World) (h1 : Hid (Ans 27 #[.agg (v3 ax ay az)] (.int .i64 0))) (h2 : Hid (Ans 27 #[.agg (v3 bx b_y bz_)] (.int .i64 0))) :
    Calls Try.prog 30 #[.agg (v3 ax ay az), .agg (v3 bx b_y bz_)] w fun e w' => e = .returned (.tuple #[.agg (v3 (wrap64 (ax - bx)) (wrap64 (ay - b_y)) (wrap64 (az - bz_))), .int .i64 0]) ∧ Below w.heap.size w w' := by
  go_enter Try.func30, Try.ntmps30
  go_upto_region 1 with fail
  have D := hide ((((Gen.start w).push 26 (v3 ax ay az)).push 26 (v3 bx b_y bz_)).push 26 (v3 0 0 0))
  simp only [szA] at D
  go_wp2_with (first | (with_reducible refine at_list ?_; apply ldG (unhide D) rPoint _ rfl rfl rfl (by repeat (first | exact List.mem_cons_self | apply List.mem_cons_of_mem)) rfl) | (with_reducible refine at_list ?_; apply ldGw (unhide D) rPoint _ rfl rfl rfl (by repeat (first | exact List.mem_cons_self | apply List.mem_cons_of_mem)) rfl) | (go_at_call 27; with_reducible refine (unhide h1 _).mono ?_; rintro e w' ⟨he, hb⟩; subst he; have D := hide ((unhide D).keep hb); clear hb) | (go_at_call 27; with_reducible refine (unhide h2 _).mono ?_; rintro e w' ⟨he, hb⟩; subst he; have D := hide ((unhide D).keep hb); clear hb) | (with_reducible refine at_list ?_;  apply ldI (unhide D) _ rfl rfl rfl (by repeat (first | exact List.mem_cons_self | apply List.mem_cons_of_mem)) rfl) | (with_reducible refine at_list ?_;  refine bdPt _ _ _ rfl rfl rfl rfl rfl ?_) | (with_reducible refine at_list ?_; apply stGend (unhide D) rPoint _ _ rfl rfl rfl rfl (by repeat (first | exact List.mem_cons_self | apply List.mem_cons_of_mem)) (by omega) rfl rfl (v3_one' _ _ _); intro B O))
  exact resGT rPoint (unhide B) rfl rfl rfl rfl rfl ⟨rfl, unhide O⟩
theorem RLessZ (ax ay az bx b_y bz_ : Int) : Ans 30 #[.agg (v3 ax ay az), .agg (v3 bx b_y bz_)]
    (if chkP ax ay az && chkP bx b_y bz_ then .tuple #[.agg (v3 (ax - bx) (ay - b_y) (az - bz_)), .int .i64 0] else .tuple #[.agg (v3 0 0 0), .int .i64 7]) := by
  intro w
  have h1 := RCheckZ ax ay az
  have h2 := RCheckZ bx b_y bz_
  cases e1 : chkP ax ay az
  · rw [e1] at h1
    exact rless_a ax ay az bx b_y bz_ w h1
  · rw [e1] at h1
    cases e2 : chkP bx b_y bz_
    · rw [e2] at h2
      exact rless_b ax ay az bx b_y bz_ w h1 h2
    · rw [e2] at h2
      have a1 := chkP_iff.1 e1
      have a2 := chkP_iff.1 e2
      have k := rless_ok ax ay az bx b_y bz_ w h1 h2
      rw [wrap_self (z := ax - bx) ⟨by omega, by omega⟩, wrap_self (z := ay - b_y) ⟨by omega, by omega⟩, wrap_self (z := az - bz_) ⟨by omega, by omega⟩] at k
      exact k
theorem near_parts (x : Int) : near x = (if x.tmod 65536 < 0 then x.tdiv 65536 - 1 else x.tdiv 65536) + (if (if x.tmod 65536 < 0 then x.tmod 65536 + 65536 else x.tmod 65536) ≥ 32768 then 1 else 0) := by
  unfold near
  have h1 := Int.tmod_add_mul_tdiv x 65536
  have h2 : x.tmod 65536 < 65536 := by
    rcases (show 0 ≤ x ∨ x < 0 by omega) with h | h
    · exact Int.tmod_lt_of_pos x (by decide)
    · exact Int.tmod_lt_of_pos x (by decide)
  have h3 : -65536 < x.tmod 65536 := by
    have := Int.lt_tmod_of_pos x (show (0 : Int) < 65536 by decide)
    omega
  generalize x.tmod 65536 = r at *
  generalize x.tdiv 65536 = n at *
  split
  · split <;> omega
  · split <;> omega
theorem tmod_lim (x : Int) : -65536 < x.tmod 65536 ∧ x.tmod 65536 < 65536 := ⟨by have := Int.lt_tmod_of_pos x (show (0 : Int) < 65536 by decide); omega, Int.tmod_lt_of_pos x (by decide)⟩
theorem tdiv_lim {x : Int} (hx : I64 x) : -140737488355328 ≤ x.tdiv 65536 ∧ x.tdiv 65536 ≤ 140737488355328 := by
  have h1 := Int.tmod_add_mul_tdiv x 65536
  have h2 := tmod_lim x
  obtain ⟨h3, h4⟩ := hx
  omega
theorem rnear_0 (x : Int) (hx : I64 x) (c1 : x.tmod 65536 < 0) (c2 : (32768 : Int) ≤ x.tmod 65536 + 65536) (w : World) :
    Calls Try.prog 70 #[.int .i64 x] w fun e w' => e = .returned (.int .i64 (x.tdiv 65536 - 1 + 1)) ∧ Below w.heap.size w w' := by
  have hd : -140737488355328 ≤ x.tdiv 65536 ∧ x.tdiv 65536 ≤ 140737488355328 := tdiv_lim hx
  have hm : -65536 < x.tmod 65536 ∧ x.tmod 65536 < 65536 := tmod_lim x
  go_enter Try.func70, Try.ntmps70
  go_wp2
  go_ret
  exact ⟨by rw [Int.sub_add_cancel]; rfl, Below.refl _ _⟩
theorem rnear_1 (x : Int) (hx : I64 x) (c1 : x.tmod 65536 < 0) (c2 : ¬ (32768 : Int) ≤ x.tmod 65536 + 65536) (w : World) :
    Calls Try.prog 70 #[.int .i64 x] w fun e w' => e = .returned (.int .i64 (x.tdiv 65536 - 1)) ∧ Below w.heap.size w w' := by
  have hd : -140737488355328 ≤ x.tdiv 65536 ∧ x.tdiv 65536 ≤ 140737488355328 := tdiv_lim hx
  have hm : -65536 < x.tmod 65536 ∧ x.tmod 65536 < 65536 := tmod_lim x
  go_enter Try.func70, Try.ntmps70
  go_wp2
  go_ret
  exact ⟨rfl, Below.refl _ _⟩
theorem rnear_2 (x : Int) (hx : I64 x) (c1 : ¬ x.tmod 65536 < 0) (c2 : (32768 : Int) ≤ x.tmod 65536) (w : World) :
    Calls Try.prog 70 #[.int .i64 x] w fun e w' => e = .returned (.int .i64 (x.tdiv 65536 + 1)) ∧ Below w.heap.size w w' := by
  have hd : -140737488355328 ≤ x.tdiv 65536 ∧ x.tdiv 65536 ≤ 140737488355328 := tdiv_lim hx
  have hm : -65536 < x.tmod 65536 ∧ x.tmod 65536 < 65536 := tmod_lim x
  go_enter Try.func70, Try.ntmps70
  go_wp2
  go_ret
  exact ⟨rfl, Below.refl _ _⟩
theorem rnear_3 (x : Int) (hx : I64 x) (c1 : ¬ x.tmod 65536 < 0) (c2 : ¬ (32768 : Int) ≤ x.tmod 65536) (w : World) :
    Calls Try.prog 70 #[.int .i64 x] w fun e w' => e = .returned (.int .i64 (x.tdiv 65536)) ∧ Below w.heap.size w w' := by
  have hd : -140737488355328 ≤ x.tdiv 65536 ∧ x.tdiv 65536 ≤ 140737488355328 := tdiv_lim hx
  have hm : -65536 < x.tmod 65536 ∧ x.tmod 65536 < 65536 := tmod_lim x
  go_enter Try.func70, Try.ntmps70
  go_wp2
  go_ret
  exact ⟨rfl, Below.refl _ _⟩
theorem RNear6 (x : Int) (hx : I64 x) : Ans 70 #[.int .i64 x] (.int .i64 (near x)) := fun w => by
  rw [near_parts]
  by_cases c1 : x.tmod 65536 < 0
  · rw [if_pos c1, if_pos c1]
    by_cases c2 : (32768 : Int) ≤ x.tmod 65536 + 65536
    · rw [if_pos c2]; exact rnear_0 x hx c1 c2 w
    · rw [if_neg c2, Int.add_zero]; exact rnear_1 x hx c1 c2 w
  · rw [if_neg c1, if_neg c1]
    by_cases c2 : (32768 : Int) ≤ x.tmod 65536
    · rw [if_pos c2]; exact rnear_2 x hx c1 c2 w
    · rw [if_neg c2, Int.add_zero]; exact rnear_3 x hx c1 c2 w
theorem rraw6_core (x v : Int) (a b : Nat) (w : World) (h1 : Hid (Ans 90 #[.int .i64 x] (.agg (cells8 a)))) (h2 : Hid (Ans 125 #[.agg (cells8 a), .int .i64 16] (.agg (cells8 b)))) (h3 : Hid (Ans 124 #[.agg (cells8 b)] (.int .i64 v))) :
    Calls Try.prog 75 #[.int .i64 x] w fun e w' => e = .returned (.int .i64 v) ∧ Below w.heap.size w w' := by
  have D := hide (Gen.start w)
  go_enter Try.func75, Try.ntmps75
  go_wp2_with (first | (go_at_call 90; with_reducible refine (unhide h1 _).mono ?_; rintro e w' ⟨he, hb⟩; subst he; have D := hide ((unhide D).keep hb); clear hb) | (go_at_call 125; with_reducible refine (unhide h2 _).mono ?_; rintro e w' ⟨he, hb⟩; subst he; have D := hide ((unhide D).keep hb); clear hb) | (go_at_call 124; with_reducible refine (unhide h3 _).mono ?_; rintro e w' ⟨he, hb⟩; subst he; have D := hide ((unhide D).keep hb); clear hb))
  go_ret
  exact ⟨rfl, (unhide D).o⟩
theorem RRaw6 (x : Int) (hx : I64 x) : Ans 75 #[.int .i64 x] (.int .i64 (valI x)) := fun w => by
  have e : ((2 ^ (16 : Int).toNat : Nat) : Int) = 65536 := rfl
  have sz : Sz 80 (x * 65536) := (hx.sz.mul (show Sz 17 65536 by unfold Sz; decide)).mono (by decide)
  have k := Twice3 16 hx.fit (by decide) (by rw [e]; exact sz.fit (by decide))
  rw [e] at k
  exact rraw6_core x _ _ _ w (Small6 x hx) k (WithinR (x * 65536) (sz.fit (by decide)))
set_option maxHeartbeats 1000000 in
theorem rvalue6_core (x y z a b c : Int) (w : World) (h1 : Hid (Ans 75 #[.int .i64 x] (.int .i64 a))) (h2 : Hid (Ans 75 #[.int .i64 y] (.int .i64 b))) (h3 : Hid (Ans 75 #[.int .i64 z] (.int .i64 c))) :
    Calls Try.prog 25 #[.agg (v3 x y z)] w fun e w' => e = .returned (.agg (v3 a b c)) ∧ Below w.heap.size w w' := by
  go_enter Try.func25, Try.ntmps25
  go_upto_region 1 with fail
  have D := hide (((Gen.start w).push 26 (v3 x y z)).push 24 (v3 0 0 0))
  simp only [szA] at D
  refine region_last (S := Gen w _) (f := 10) (l := [0, 1, 2, 3, 4, 5, 6, 7, 8, 9]) (by kernel_rfl) (by kernel_rfl) (by kernel_rfl) (by kernel_rfl) (by kernel_rfl) (by kernel_rfl) (by kernel_rfl) (by kernel_rfl) (by kernel_rfl) (by kernel_rfl) rfl rfl (unhide D).drew ?_
  clear D
  refine plan_read (v := ?_) rfl rfl (fun u hS => by go_simp; rfl) ?_
  go_simp
  refine plan_read (v := .int .i64 x) rfl rfl (fun u hS => exec_loadIG hS _ rfl rfl (by repeat (first | exact List.mem_cons_self | apply List.mem_cons_of_mem)) rfl) ?_
  go_simp
  refine plan_call (v := (.int .i64 a)) (f := 75) (args := #[.int .i64 x]) rfl rfl (fun u hS => by go_simp) (fun u hS => (unhide h1 u).mono fun _ _ ⟨he, hb⟩ => ⟨he, hS.keep hb⟩) ?_
  go_simp
  refine plan_read (v := ?_) rfl rfl (fun u hS => by go_simp; rfl) ?_
  go_simp
  refine plan_read (v := .int .i64 y) rfl rfl (fun u hS => exec_loadIG hS _ rfl rfl (by repeat (first | exact List.mem_cons_self | apply List.mem_cons_of_mem)) rfl) ?_
  go_simp
  refine plan_call (v := (.int .i64 b)) (f := 75) (args := #[.int .i64 y]) rfl rfl (fun u hS => by go_simp) (fun u hS => (unhide h2 u).mono fun _ _ ⟨he, hb⟩ => ⟨he, hS.keep hb⟩) ?_
  go_simp
  refine plan_read (v := ?_) rfl rfl (fun u hS => by go_simp; rfl) ?_
  go_simp
  refine plan_read (v := .int .i64 z) rfl rfl (fun u hS => exec_loadIG hS _ rfl rfl (by repeat (first | exact List.mem_cons_self | apply List.mem_cons_of_mem)) rfl) ?_
  go_simp
  refine plan_call (v := (.int .i64 c)) (f := 75) (args := #[.int .i64 z]) rfl rfl (fun u hS => by go_simp) (fun u hS => (unhide h3 u).mono fun _ _ ⟨he, hb⟩ => ⟨he, hS.keep hb⟩) ?_
  go_simp
  refine plan_read (v := .agg (v3 a b c)) rfl rfl (fun u hS => exec_bdVec u _ _ _ rfl rfl rfl rfl) ?_
  go_simp
  refine plan_last (fun u hS => ?_)
  refine wp_store_row 24 (.tmp 2) (.tmp 12) rfl _ (v3 a b c) rfl rfl 24 (v3 0 0 0) (hS.blk (by repeat (first | exact List.mem_cons_self | apply List.mem_cons_of_mem))) rVec.2 rfl (v3_one' _ _ _) ?_
  have B := hide ((hS.blk (g := w.heap.size + 1) (t := 24) (cs := v3 0 0 0) (by repeat (first | exact List.mem_cons_self | apply List.mem_cons_of_mem))).row (v3 a b c))
  have O := hide (below_row hS.o (show w.heap.size ≤ w.heap.size + 1 by omega) (v3 a b c))
  clear hS
  go_wp2
  exact resG rVec (unhide B) rfl rfl rfl rfl ⟨rfl, unhide O⟩
theorem RValue6 (x y z : Int) (hx : I64 x) (hy : I64 y) (hz : I64 z) : Ans 25 #[.agg (v3 x y z)] (.agg (v3 (valI x) (valI y) (valI z))) := fun w => rvalue6_core x y z _ _ _ w (RRaw6 x hx) (RRaw6 y hy) (RRaw6 z hz)
set_option maxHeartbeats 1000000 in
theorem rround6_ok (x y z a b c : Int) (w : World) (h1 : Hid (Ans 70 #[.int .i64 x] (.int .i64 a))) (h2 : Hid (Ans 70 #[.int .i64 y] (.int .i64 b))) (h3 : Hid (Ans 70 #[.int .i64 z] (.int .i64 c))) (hC : Hid (Ans 27 #[.agg (v3 a b c)] (.int .i64 0))) :
    Calls Try.prog 23 #[.agg (v3 x y z)] w fun e w' => e = .returned (.tuple #[.agg (v3 a b c), .int .i64 0]) ∧ Below w.heap.size w w' := by
  go_enter Try.func23, Try.ntmps23
  go_upto_region 1 with fail
  have D := hide (((Gen.start w).push 24 (v3 x y z)).push 26 (v3 0 0 0))
  simp only [szA] at D
  generalize hw1 : (w.alloc (.cells (v3 x y z) 24)).alloc (.cells (v3 0 0 0) 26) = w1 at D ⊢
  have D1 : Hid (GenZ w _ w1.heap.size w1.drew) := ⟨(unhide D).drew, Nat.le_refl _⟩
  have hlt := hide (fun (p : Nat × TypeId × Array Value) hp => ((unhide D).at_ p hp).lt)
  have hw0 := hide (unhide D).o.size
  clear D hw1
  generalize w1.heap.size = C1 at D1 hlt hw0
  refine region_allocs (S := GenZ w _ C1) (t := 26) (z := v3 0 0 0) (base := C1) (l := [0, 1, 2, 3, 4, 5, 6, 7, 8, 9]) (A := [10]) (T := [11]) (by kernel_rfl) (by kernel_rfl) (by kernel_rfl) (by kernel_rfl) (by kernel_rfl) (by kernel_rfl) (by kernel_rfl) (by kernel_rfl) (by kernel_rfl) (by kernel_rfl) ?_ (fun _ _ h hb => h.keep hb) (fun _ h => h.s) (unhide D1) ?_
  · intro i hi
    simp at hi
    subst hi
    exact ⟨_, rfl, rfl, fun a w => by go_simp⟩
  clear D1
  refine planB_read (v := ?_) rfl rfl (fun u hS => by go_simp; rfl) ?_
  go_simp
  refine planB_read (v := .int .i64 x) rfl rfl (fun u hS => exec_loadFG hS.e _ rfl rfl (by repeat (first | exact List.mem_cons_self | apply List.mem_cons_of_mem)) rfl) ?_
  go_simp
  refine planB_call (v := (.int .i64 a)) (f := 70) (args := #[.int .i64 x]) rfl rfl (fun u hS => by go_simp) (fun u hS => (unhide h1 u).mono fun _ _ ⟨he, hb⟩ => ⟨he, hS.keep hb, hb⟩) ?_
  go_simp
  refine planB_read (v := ?_) rfl rfl (fun u hS => by go_simp; rfl) ?_
  go_simp
  refine planB_read (v := .int .i64 y) rfl rfl (fun u hS => exec_loadFG hS.e _ rfl rfl (by repeat (first | exact List.mem_cons_self | apply List.mem_cons_of_mem)) rfl) ?_
  go_simp
  refine planB_call (v := (.int .i64 b)) (f := 70) (args := #[.int .i64 y]) rfl rfl (fun u hS => by go_simp) (fun u hS => (unhide h2 u).mono fun _ _ ⟨he, hb⟩ => ⟨he, hS.keep hb, hb⟩) ?_
  go_simp
  refine planB_read (v := ?_) rfl rfl (fun u hS => by go_simp; rfl) ?_
  go_simp
  refine planB_read (v := .int .i64 z) rfl rfl (fun u hS => exec_loadFG hS.e _ rfl rfl (by repeat (first | exact List.mem_cons_self | apply List.mem_cons_of_mem)) rfl) ?_
  go_simp
  refine planB_call (v := (.int .i64 c)) (f := 70) (args := #[.int .i64 z]) rfl rfl (fun u hS => by go_simp) (fun u hS => (unhide h3 u).mono fun _ _ ⟨he, hb⟩ => ⟨he, hS.keep hb, hb⟩) ?_
  go_simp
  refine planB_read (v := .agg (v3 a b c)) rfl rfl (fun u hS => exec_bdPt u _ _ _ rfl rfl rfl rfl) ?_
  go_simp
  refine planB_tail (fun cc u hS hB hI => ?_)
  have h7 := hB 10 (by simp)
  simp only [pa, dstOf, opsOf]
  generalize cc 10 = c1 at h7 ⊢
  have D := hide (hS.e.fillZ (cs := v3 a b c) (unhide hlt) (unhide hw0) h7.1 h7.2)
  have H7 := hide h7.1
  clear hS hB hI h7 hlt hw0
  refine wpList_store_row rfl 26 (.tmp 4) (.tmp 14) rfl _ (v3 a b c) rfl rfl 26 _ (unhide H7) rPoint.2 rfl (v3_one' _ _ _) ?_
  generalize u.setRow c1 (v3 a b c) = u1 at D ⊢
  clear H7
  go_simp
  go_wp2_with (first | (with_reducible refine at_list ?_; apply ldG (unhide D) rPoint _ rfl rfl rfl (by repeat (first | exact List.mem_cons_self | apply List.mem_cons_of_mem)) rfl) | (go_at_call 27; with_reducible refine (unhide hC _).mono ?_; rintro e w' ⟨he, hb⟩; subst he; have D := hide ((unhide D).keep hb); clear hb) | (with_reducible refine at_list ?_;  refine bdPt _ _ _ rfl rfl rfl rfl rfl ?_) | (with_reducible refine at_list ?_; apply stGend (unhide D) rPoint _ _ rfl rfl rfl rfl (by repeat (first | exact List.mem_cons_self | apply List.mem_cons_of_mem)) (by omega) rfl rfl (v3_one' _ _ _); intro B O))
  exact resGT rPoint (unhide B) rfl rfl rfl rfl rfl ⟨rfl, unhide O⟩
set_option maxHeartbeats 1000000 in
theorem rround6_no (x y z a b c : Int) (w : World) (h1 : Hid (Ans 70 #[.int .i64 x] (.int .i64 a))) (h2 : Hid (Ans 70 #[.int .i64 y] (.int .i64 b))) (h3 : Hid (Ans 70 #[.int .i64 z] (.int .i64 c))) (hC : Hid (Ans 27 #[.agg (v3 a b c)] (.int .i64 7))) :
    Calls Try.prog 23 #[.agg (v3 x y z)] w fun e w' => e = .returned (.tuple #[.agg (v3 0 0 0), .int .i64 7]) ∧ Below w.heap.size w w' := by
  go_enter Try.func23, Try.ntmps23
  go_upto_region 1 with fail
  have D := hide (((Gen.start w).push 24 (v3 x y z)).push 26 (v3 0 0 0))
  simp only [szA] at D
  generalize hw1 : (w.alloc (.cells (v3 x y z) 24)).alloc (.cells (v3 0 0 0) 26) = w1 at D ⊢
  have D1 : Hid (GenZ w _ w1.heap.size w1.drew) := ⟨(unhide D).drew, Nat.le_refl _⟩
  have hlt := hide (fun (p : Nat × TypeId × Array Value) hp => ((unhide D).at_ p hp).lt)
  have hw0 := hide (unhide D).o.size
  clear D hw1
  generalize w1.heap.size = C1 at D1 hlt hw0
  refine region_allocs (S := GenZ w _ C1) (t := 26) (z := v3 0 0 0) (base := C1) (l := [0, 1, 2, 3, 4, 5, 6, 7, 8, 9]) (A := [10]) (T := [11]) (by kernel_rfl) (by kernel_rfl) (by kernel_rfl) (by kernel_rfl) (by kernel_rfl) (by kernel_rfl) (by kernel_rfl) (by kernel_rfl) (by kernel_rfl) (by kernel_rfl) ?_ (fun _ _ h hb => h.keep hb) (fun _ h => h.s) (unhide D1) ?_
  · intro i hi
    simp at hi
    subst hi
    exact ⟨_, rfl, rfl, fun a w => by go_simp⟩
  clear D1
  refine planB_read (v := ?_) rfl rfl (fun u hS => by go_simp; rfl) ?_
  go_simp
  refine planB_read (v := .int .i64 x) rfl rfl (fun u hS => exec_loadFG hS.e _ rfl rfl (by repeat (first | exact List.mem_cons_self | apply List.mem_cons_of_mem)) rfl) ?_
  go_simp
  refine planB_call (v := (.int .i64 a)) (f := 70) (args := #[.int .i64 x]) rfl rfl (fun u hS => by go_simp) (fun u hS => (unhide h1 u).mono fun _ _ ⟨he, hb⟩ => ⟨he, hS.keep hb, hb⟩) ?_
  go_simp
  refine planB_read (v := ?_) rfl rfl (fun u hS => by go_simp; rfl) ?_
  go_simp
  refine planB_read (v := .int .i64 y) rfl rfl (fun u hS => exec_loadFG hS.e _ rfl rfl (by repeat (first | exact List.mem_cons_self | apply List.mem_cons_of_mem)) rfl) ?_
  go_simp
  refine planB_call (v := (.int .i64 b)) (f := 70) (args := #[.int .i64 y]) rfl rfl (fun u hS => by go_simp) (fun u hS => (unhide h2 u).mono fun _ _ ⟨he, hb⟩ => ⟨he, hS.keep hb, hb⟩) ?_
  go_simp
  refine planB_read (v := ?_) rfl rfl (fun u hS => by go_simp; rfl) ?_
  go_simp
  refine planB_read (v := .int .i64 z) rfl rfl (fun u hS => exec_loadFG hS.e _ rfl rfl (by repeat (first | exact List.mem_cons_self | apply List.mem_cons_of_mem)) rfl) ?_
  go_simp
  refine planB_call (v := (.int .i64 c)) (f := 70) (args := #[.int .i64 z]) rfl rfl (fun u hS => by go_simp) (fun u hS => (unhide h3 u).mono fun _ _ ⟨he, hb⟩ => ⟨he, hS.keep hb, hb⟩) ?_
  go_simp
  refine planB_read (v := .agg (v3 a b c)) rfl rfl (fun u hS => exec_bdPt u _ _ _ rfl rfl rfl rfl) ?_
  go_simp
  refine planB_tail (fun cc u hS hB hI => ?_)
  have h7 := hB 10 (by simp)
  simp only [pa, dstOf, opsOf]
  generalize cc 10 = c1 at h7 ⊢
  have D := hide (hS.e.fillZ (cs := v3 a b c) (unhide hlt) (unhide hw0) h7.1 h7.2)
  have H7 := hide h7.1
  clear hS hB hI h7 hlt hw0
  refine wpList_store_row rfl 26 (.tmp 4) (.tmp 14) rfl _ (v3 a b c) rfl rfl 26 _ (unhide H7) rPoint.2 rfl (v3_one' _ _ _) ?_
  generalize u.setRow c1 (v3 a b c) = u1 at D ⊢
  clear H7
  go_simp
  go_wp2_with (first | (with_reducible refine at_list ?_; apply ldG (unhide D) rPoint _ rfl rfl rfl (by repeat (first | exact List.mem_cons_self | apply List.mem_cons_of_mem)) rfl) | (go_at_call 27; with_reducible refine (unhide hC _).mono ?_; rintro e w' ⟨he, hb⟩; subst he; have D := hide ((unhide D).keep hb); clear hb) | (with_reducible refine at_list ?_;  refine bdPt _ _ _ rfl rfl rfl rfl rfl ?_) | (with_reducible refine at_list ?_; apply stGend (unhide D) rPoint _ _ rfl rfl rfl rfl (by repeat (first | exact List.mem_cons_self | apply List.mem_cons_of_mem)) (by omega) rfl rfl (v3_one' _ _ _); intro B O))
  exact resGT rPoint (unhide B) rfl rfl rfl rfl rfl ⟨rfl, unhide O⟩
theorem RRound6 (x y z : Int) (hx : I64 x) (hy : I64 y) (hz : I64 z) : Ans 23 #[.agg (v3 x y z)] (if chkP (near x) (near y) (near z) then .tuple #[.agg (v3 (near x) (near y) (near z)), .int .i64 0] else .tuple #[.agg (v3 0 0 0), .int .i64 7]) := fun w => by
  have hC := RCheckZ (near x) (near y) (near z)
  cases e : chkP (near x) (near y) (near z)
  · rw [e] at hC
    exact rround6_no x y z _ _ _ w (RNear6 x hx) (RNear6 y hy) (RNear6 z hz) hC
  · rw [e] at hC
    exact rround6_ok x y z _ _ _ w (RNear6 x hx) (RNear6 y hy) (RNear6 z hz) hC
set_option maxHeartbeats 4000000 in
theorem round_law (x y z p q r a b c i e k l m : Int) (w : World) (h1 : Hid (Ans 22 #[.agg (v3 x y z)] (.tuple #[.agg (v3 a b c), .int .i64 e]))) (h2 : Hid (Ans 23 #[.agg (v3 x y z)] (.tuple #[.agg (v3 a b c), .int .i64 e]))) (h3 : Hid (Ans 24 #[.agg (v3 p q r)] (.agg (v3 k l m)))) (h4 : Hid (Ans 25 #[.agg (v3 p q r)] (.agg (v3 k l m))))
    (h5 : Hid (Ans 26 #[.agg (v3 p q r)] (.int .i64 i))) (h6 : Hid (Ans 27 #[.agg (v3 p q r)] (.int .i64 i))) (s1 : sameV a b c a b c = true) (s2 : sameV k l m k l m = true) (haw : Hid (Ans 28 #[] (.bool true))) :
    Calls Try.prog 3 #[.agg (v3 x y z), .agg (v3 p q r)] w fun e w' => e = .returned (.bool true) ∧ Below w.heap.size w w' := by
  go_enter Try.func3, Try.ntmps3
  go_upto_region 1 with fail
  have D := hide (((Gen.start w).push 24 (v3 x y z)).push 26 (v3 p q r))
  simp only [szA] at D
  go_upto_region 3 with (first | (with_reducible refine at_list ?_; apply ldG (unhide D) rVec _ rfl rfl rfl (by repeat (first | exact List.mem_cons_self | apply List.mem_cons_of_mem)) rfl) | (go_at_call 22; with_reducible refine (unhide h1 _).mono ?_; rintro e w' ⟨he, hb⟩; subst he; have D := hide ((unhide D).keep hb); clear hb) | (go_at_call 23; with_reducible refine (unhide h2 _).mono ?_; rintro e w' ⟨he, hb⟩; subst he; have D := hide ((unhide D).keep hb); clear hb) | (with_reducible refine at_list ?_; refine stG (unhide D) rPoint _ _ rfl rfl rfl rfl rfl rfl (v3_one' _ _ _) ?_; intro D'; have D := hide D'; clear D'))
  refine region_plan (S := Gen w _) (l := [0, 1, 2, 3, 4, 5, 6, 7, 8, 9, 10, 11, 12, 13, 14, 15, 16, 17, 18, 19, 20, 21, 22, 23, 24, 25]) (by kernel_rfl) (by kernel_rfl) (by kernel_rfl) (by kernel_rfl) (by kernel_rfl) (by kernel_rfl) (by kernel_rfl) (unhide D).drew ?_
  clear D
  refine plan_read (v := .agg (v3 a b c)) rfl rfl (fun u hS => exec_ldG hS rPoint _ rfl rfl (by repeat (first | exact List.mem_cons_self | apply List.mem_cons_of_mem)) rfl) ?_
  go_simp
  refine plan_read (v := .agg (v3 a b c)) rfl rfl (fun u hS => exec_ldG hS rPoint _ rfl rfl (by repeat (first | exact List.mem_cons_self | apply List.mem_cons_of_mem)) rfl) ?_
  go_simp
  refine plan_read (v := .bool true) rfl rfl (fun u hS => exec_eql_pt u _ _ s1 rfl rfl rfl) ?_
  go_simp
  refine plan_read (v := ?_) rfl rfl (fun u hS => by go_simp; rfl) ?_
  go_simp
  refine plan_read (v := ?_) rfl rfl (fun u hS => by go_simp; rfl) ?_
  go_simp
  refine plan_read (v := ?_) rfl rfl (fun u hS => by go_simp; rfl) ?_
  go_simp
  refine plan_read (v := .bool true) rfl rfl (fun u hS => exec_eqlZ _ _ _ (beq_self_eq_true _) rfl rfl rfl) ?_
  go_simp
  refine plan_read (v := ?_) rfl rfl (fun u hS => by go_simp; rfl) ?_
  go_simp
  refine plan_read (v := ?_) rfl rfl (fun u hS => by go_simp; rfl) ?_
  go_simp
  refine plan_read (v := .agg (v3 p q r)) rfl rfl (fun u hS => exec_ldG hS rPoint _ rfl rfl (by repeat (first | exact List.mem_cons_self | apply List.mem_cons_of_mem)) rfl) ?_
  go_simp
  refine plan_call (v := (.agg (v3 k l m))) (f := 24) (args := #[.agg (v3 p q r)]) rfl rfl (fun u hS => by go_simp) (fun u hS => (unhide h3 u).mono fun _ _ ⟨he, hb⟩ => ⟨he, hS.keep hb⟩) ?_
  go_simp
  refine plan_read (v := .agg (v3 p q r)) rfl rfl (fun u hS => exec_ldG hS rPoint _ rfl rfl (by repeat (first | exact List.mem_cons_self | apply List.mem_cons_of_mem)) rfl) ?_
  go_simp
  refine plan_call (v := (.agg (v3 k l m))) (f := 25) (args := #[.agg (v3 p q r)]) rfl rfl (fun u hS => by go_simp) (fun u hS => (unhide h4 u).mono fun _ _ ⟨he, hb⟩ => ⟨he, hS.keep hb⟩) ?_
  go_simp
  refine plan_read (v := .bool true) rfl rfl (fun u hS => exec_eql_vec _ _ _ s2 rfl rfl rfl) ?_
  go_simp
  refine plan_read (v := ?_) rfl rfl (fun u hS => by go_simp; rfl) ?_
  go_simp
  refine plan_read (v := ?_) rfl rfl (fun u hS => by go_simp; rfl) ?_
  go_simp
  refine plan_read (v := .agg (v3 p q r)) rfl rfl (fun u hS => exec_ldG hS rPoint _ rfl rfl (by repeat (first | exact List.mem_cons_self | apply List.mem_cons_of_mem)) rfl) ?_
  go_simp
  refine plan_call (v := (.int .i64 i)) (f := 26) (args := #[.agg (v3 p q r)]) rfl rfl (fun u hS => by go_simp) (fun u hS => (unhide h5 u).mono fun _ _ ⟨he, hb⟩ => ⟨he, hS.keep hb⟩) ?_
  go_simp
  refine plan_read (v := .agg (v3 p q r)) rfl rfl (fun u hS => exec_ldG hS rPoint _ rfl rfl (by repeat (first | exact List.mem_cons_self | apply List.mem_cons_of_mem)) rfl) ?_
  go_simp
  refine plan_call (v := (.int .i64 i)) (f := 27) (args := #[.agg (v3 p q r)]) rfl rfl (fun u hS => by go_simp) (fun u hS => (unhide h6 u).mono fun _ _ ⟨he, hb⟩ => ⟨he, hS.keep hb⟩) ?_
  go_simp
  refine plan_read (v := .bool true) rfl rfl (fun u hS => exec_eqlZ _ _ _ (beq_self_eq_true _) rfl rfl rfl) ?_
  go_simp
  refine plan_read (v := ?_) rfl rfl (fun u hS => by go_simp; rfl) ?_
  go_simp
  refine plan_read (v := ?_) rfl rfl (fun u hS => by go_simp; rfl) ?_
  go_simp
  refine plan_call (v := (.bool true)) (f := 28) (args := #[]) rfl rfl (fun u hS => by go_simp) (fun u hS => (unhide haw u).mono fun _ _ ⟨he, hb⟩ => ⟨he, hS.keep hb⟩) ?_
  go_simp
  refine plan_read (v := ?_) rfl rfl (fun u hS => by go_simp; rfl) ?_
  go_simp
  refine plan_read (v := ?_) rfl rfl (fun u hS => by go_simp; rfl) ?_
  go_simp
  refine plan_end (fun u hS => ?_)
  have O := hide hS.o
  clear hS
  go_wp2
  go_ret
  exact ⟨rfl, unhide O⟩
theorem gridRound_walk (x y z p q r : Int) (h1' : (Lit.int .i64 x).wf = true) (h2' : (Lit.int .i64 y).wf = true) (h3' : (Lit.int .i64 z).wf = true) (h4' : (Lit.int .i64 p).wf = true) (h5' : (Lit.int .i64 q).wf = true) (h6' : (Lit.int .i64 r).wf = true) (w : World) :
    Calls Try.prog 3 #[.agg (v3 x y z), .agg (v3 p q r)] w fun e w' => e = .returned (.bool true) ∧ Below w.heap.size w w' := by
  have h1 := I64.wf h1'
  have h2 := I64.wf h2'
  have h3 := I64.wf h3'
  have h4 := I64.wf h4'
  have h5 := I64.wf h5'
  have h6 := I64.wf h6'
  have s : ∀ x y z : Int, sameV x y z x y z = true := fun x y z => by unfold sameV; simp
  have a1 := RoundZ x y z h1 h2 h3
  have a2 := RRound6 x y z h1 h2 h3
  cases e : chkP (near x) (near y) (near z)
  · rw [e, if_neg (by decide)] at a1 a2
    exact round_law x y z p q r _ _ _ _ _ _ _ _ w a1 a2 (ValueZ p q r h4 h5 h6) (RValue6 p q r h4 h5 h6) (CheckZ p q r) (RCheckZ p q r) (s _ _ _) (s _ _ _) awake6Z
  · rw [e, if_pos rfl] at a1 a2
    exact round_law x y z p q r _ _ _ _ _ _ _ _ w a1 a2 (ValueZ p q r h4 h5 h6) (RValue6 p q r h4 h5 h6) (CheckZ p q r) (RCheckZ p q r) (s _ _ _) (s _ _ _) awake6Z

end Go.Proofs.Ytbgafjdgahikcaa
