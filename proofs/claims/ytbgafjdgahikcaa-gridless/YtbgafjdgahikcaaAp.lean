/- The law's close; the law GridNearest. -/
import Derived.Test.YtbgafjdgahikcaaAg
namespace Go.Proofs.Ytbgafjdgahikcaa
open Go.RowKit
set_option maxRecDepth 4000
set_option linter.unusedVariables false

section
variable {ops : Array Oper} {rest : List Oper} {o : Oper} {a : Act} {w w0 : World} {Q : Exit → Act → World → Prop} {l : List (Nat × TypeId × Array Value)} {g : Nat} {t : TypeId} {cs : Array Value}
theorem ldIw (d : Gen w0 l w) {i : Nat} {z : Int} (x : Operand) (ho : o.op = .load 2 x) (hgd : Region.wanted o (yielded ops a.tmps) = true) (hx : a.eval x = .pointer (some ⟨g, i, none⟩)) (hm : (g, t, cs) ∈ l) (hc : cs[i]? = some (.int .i64 z))
    (h : wpList Try.prog ops Q rest (a.put o.dst (.int .i64 z)) w) : wpList Try.prog ops Q (o :: rest) a w := wpList_valuew hgd (exec_loadIG d x ho hx hm hc) h
theorem ldFxw (d : Gen w0 l w) {i : Nat} {z : Int} (x : Operand) (ho : o.op = .load 22 x) (hgd : Region.wanted o (yielded ops a.tmps) = true) (hx : a.eval x = .pointer (some ⟨g, i, none⟩)) (hm : (g, t, cs) ∈ l) (hc : cs[i]? = some (.int .i64 z))
    (h : wpList Try.prog ops Q rest (a.put o.dst (.int .i64 z)) w) : wpList Try.prog ops Q (o :: rest) a w := wpList_valuew hgd (exec_loadFG d x ho hx hm hc) h
end
/-- A list of operations, from whatever world that S tells. -/
def LW (P : Program) (ops : Array Oper) (S : World → Prop) (Q : Exit → Act → World → Prop) (l : List Oper) (a : Act) : Prop := ∀ w, S w → wpList P ops Q l a w
section
variable {P : Program} {ops : Array Oper} {S : World → Prop} {Q : Exit → Act → World → Prop} {rest : List Oper} {o : Oper} {a : Act}
theorem list_start {id : Nat} {l : List Oper} {w : World} (hS : S w) (h : LW P l.toArray S Q l a) : (Code.region id l.toArray false).wp P Q a w := wp_region_lit (h w hS)
theorem list_end (h : ∀ w, S w → Q .normal a w) : LW P ops S Q [] a := h
theorem list_read {v : Value} (_ : o = o) (hw : Region.wanted o (yielded ops a.tmps) = true) (h : ∀ w, S w → (execOp a.eval o).run P w = .ok (.value v) w) (hr : LW P ops S Q rest (a.put o.dst v)) : LW P ops S Q (o :: rest) a := fun w hS => wpList_valuew hw (h w hS) (hr w hS)
theorem list_skip (_ : o = o) (hw : Region.wanted o (yielded ops a.tmps) = false) (hr : LW P ops S Q rest (a.put o.dst undef)) : LW P ops S Q (o :: rest) a := fun w hS => by
  unfold wpList
  rw [if_neg (by rw [hw]; decide)]
  exact hr w hS
theorem list_call {v : Value} {f : FuncId} {args : Array Value} (_ : o = o) (hw : Region.wanted o (yielded ops a.tmps) = true) (h : ∀ w, S w → (execOp a.eval o).run P w = .ok (.enter f args) w) (hc : ∀ w, S w → Calls P f args w fun e w' => e = .returned v ∧ S w') (hr : LW P ops S Q rest (a.put o.dst v)) : LW P ops S Q (o :: rest) a := fun w hS => by
  unfold wpList
  rw [if_pos hw]
  refine .inl ?_
  unfold Oper.wp
  rw [h w hS]
  refine (hc w hS).mono ?_
  rintro e w' ⟨rfl, hS'⟩
  exact hr w' hS'
end
theorem close6_core (a n m d : Int) (w : World) (h1 : wrap64 (n * 65536) = m) (h2 : wrap64 (a - m) = d) (h3 : -32768 ≤ d) (h4 : d < 32768) :
    Calls Try.prog 49 #[.int .i64 a, .int .i64 n] w fun e w' => e = .returned (.bool true) ∧ Below w.heap.size w w' := by
  go_enter Try.func49, Try.ntmps49
  go_wp2
  go_ret
  exact ⟨rfl, Below.refl _ _⟩
theorem CloseZ (a : Int) (h : mayI (near a) = true) : Ans 49 #[.int .i64 a, .int .i64 (near a)] (.bool true) := fun w => by
  have hm := mayI_iff.1 h
  have e : near a = (a + 32768) / 65536 := rfl
  exact close6_core a (near a) (near a * 65536) (a - near a * 65536) w (wrap_self ⟨by omega, by omega⟩) (wrap_self ⟨by omega, by omega⟩) (by omega) (by omega)
set_option maxHeartbeats 8000000 in
theorem near_ok_e (px py pz vx vy vz wx wy wz ax ay az bx b_y bz_ qx qy qz f : Int) (w : World) (hc : Hid (Ans 26 #[.agg (v3 px py pz)] (.int .i64 0))) (hV : Hid (Ans 24 #[.agg (v3 px py pz)] (.agg (v3 qx qy qz)))) (hR : Hid (Ans 22 #[.agg (v3 qx qy qz)] (.tuple #[.agg (v3 px py pz), .int .i64 0]))) (hv : sameV px py pz px py pz = true)
    (r1 : Hid (Ans 22 #[.agg (v3 vx vy vz)] (.tuple #[.agg (v3 ax ay az), .int .i64 7]))) (r2 : Hid (Ans 22 #[.agg (v3 wx wy wz)] (.tuple #[.agg (v3 bx b_y bz_), .int .i64 f]))) (haw : Hid (Ans 28 #[] (.bool true))) :
    Calls Try.prog 10 #[.agg (v3 px py pz), .agg (v3 vx vy vz), .agg (v3 wx wy wz)] w fun e w' => e = .returned (.bool true) ∧ Below w.heap.size w w' := by
  go_enter Try.func10, Try.ntmps10
  go_upto_region 1 with fail
  have D := hide ((((Gen.start w).push 26 (v3 px py pz)).push 24 (v3 vx vy vz)).push 24 (v3 wx wy wz))
  simp only [szA] at D
  go_wp2_with (first | (with_reducible refine at_list ?_; apply ldG (unhide D) rPoint _ rfl rfl rfl (by repeat (first | exact List.mem_cons_self | apply List.mem_cons_of_mem)) rfl) | (with_reducible refine at_list ?_; apply ldG (unhide D) rVec _ rfl rfl rfl (by repeat (first | exact List.mem_cons_self | apply List.mem_cons_of_mem)) rfl) | (go_at_call 26; with_reducible refine (unhide hc _).mono ?_; rintro e w' ⟨he, hb⟩; subst he; have D := hide ((unhide D).keep hb); clear hb) | (go_at_call 24; with_reducible refine (unhide hV _).mono ?_; rintro e w' ⟨he, hb⟩; subst he; have D := hide ((unhide D).keep hb); clear hb) | (go_at_call 22; with_reducible refine (unhide hR _).mono ?_; rintro e w' ⟨he, hb⟩; subst he; have D := hide ((unhide D).keep hb); clear hb) | (with_reducible refine at_list ?_;  refine neqP _ _ _ hv rfl rfl rfl rfl ?_) | (go_at_call 22; with_reducible refine (unhide r1 _).mono ?_; rintro e w' ⟨he, hb⟩; subst he; have D := hide ((unhide D).keep hb); clear hb) | (go_at_call 22; with_reducible refine (unhide r2 _).mono ?_; rintro e w' ⟨he, hb⟩; subst he; have D := hide ((unhide D).keep hb); clear hb) | (with_reducible refine at_list ?_; refine stG (unhide D) rPoint _ _ rfl rfl rfl rfl rfl rfl (v3_one' _ _ _) ?_; intro D'; have D := hide D'; clear D') | (go_at_call 28; with_reducible refine (unhide haw _).mono ?_; rintro e w' ⟨he, hb⟩; subst he; have D := hide ((unhide D).keep hb); clear hb))
  go_ret
  exact ⟨rfl, (unhide D).o⟩
set_option maxHeartbeats 8000000 in
theorem near_ok_f (px py pz vx vy vz wx wy wz ax ay az bx b_y bz_ qx qy qz f : Int) (w : World) (hc : Hid (Ans 26 #[.agg (v3 px py pz)] (.int .i64 0))) (hV : Hid (Ans 24 #[.agg (v3 px py pz)] (.agg (v3 qx qy qz)))) (hR : Hid (Ans 22 #[.agg (v3 qx qy qz)] (.tuple #[.agg (v3 px py pz), .int .i64 0]))) (hv : sameV px py pz px py pz = true)
    (r1 : Hid (Ans 22 #[.agg (v3 vx vy vz)] (.tuple #[.agg (v3 ax ay az), .int .i64 0]))) (r2 : Hid (Ans 22 #[.agg (v3 wx wy wz)] (.tuple #[.agg (v3 bx b_y bz_), .int .i64 7]))) (haw : Hid (Ans 28 #[] (.bool true))) :
    Calls Try.prog 10 #[.agg (v3 px py pz), .agg (v3 vx vy vz), .agg (v3 wx wy wz)] w fun e w' => e = .returned (.bool true) ∧ Below w.heap.size w w' := by
  go_enter Try.func10, Try.ntmps10
  go_upto_region 1 with fail
  have D := hide ((((Gen.start w).push 26 (v3 px py pz)).push 24 (v3 vx vy vz)).push 24 (v3 wx wy wz))
  simp only [szA] at D
  go_wp2_with (first | (with_reducible refine at_list ?_; apply ldG (unhide D) rPoint _ rfl rfl rfl (by repeat (first | exact List.mem_cons_self | apply List.mem_cons_of_mem)) rfl) | (with_reducible refine at_list ?_; apply ldG (unhide D) rVec _ rfl rfl rfl (by repeat (first | exact List.mem_cons_self | apply List.mem_cons_of_mem)) rfl) | (go_at_call 26; with_reducible refine (unhide hc _).mono ?_; rintro e w' ⟨he, hb⟩; subst he; have D := hide ((unhide D).keep hb); clear hb) | (go_at_call 24; with_reducible refine (unhide hV _).mono ?_; rintro e w' ⟨he, hb⟩; subst he; have D := hide ((unhide D).keep hb); clear hb) | (go_at_call 22; with_reducible refine (unhide hR _).mono ?_; rintro e w' ⟨he, hb⟩; subst he; have D := hide ((unhide D).keep hb); clear hb) | (with_reducible refine at_list ?_;  refine neqP _ _ _ hv rfl rfl rfl rfl ?_) | (go_at_call 22; with_reducible refine (unhide r1 _).mono ?_; rintro e w' ⟨he, hb⟩; subst he; have D := hide ((unhide D).keep hb); clear hb) | (go_at_call 22; with_reducible refine (unhide r2 _).mono ?_; rintro e w' ⟨he, hb⟩; subst he; have D := hide ((unhide D).keep hb); clear hb) | (with_reducible refine at_list ?_; refine stG (unhide D) rPoint _ _ rfl rfl rfl rfl rfl rfl (v3_one' _ _ _) ?_; intro D'; have D := hide D'; clear D') | (go_at_call 28; with_reducible refine (unhide haw _).mono ?_; rintro e w' ⟨he, hb⟩; subst he; have D := hide ((unhide D).keep hb); clear hb))
  go_ret
  exact ⟨rfl, (unhide D).o⟩
set_option maxHeartbeats 8000000 in
theorem near_ok_b (px py pz vx vy vz wx wy wz ax ay az bx b_y bz_ qx qy qz f : Int) (g1 g2 g3 : Bool) (w : World) (hc : Hid (Ans 26 #[.agg (v3 px py pz)] (.int .i64 0))) (hV : Hid (Ans 24 #[.agg (v3 px py pz)] (.agg (v3 qx qy qz)))) (hR : Hid (Ans 22 #[.agg (v3 qx qy qz)] (.tuple #[.agg (v3 px py pz), .int .i64 0]))) (hv : sameV px py pz px py pz = true)
    (r1 : Hid (Ans 22 #[.agg (v3 vx vy vz)] (.tuple #[.agg (v3 ax ay az), .int .i64 0]))) (r2 : Hid (Ans 22 #[.agg (v3 wx wy wz)] (.tuple #[.agg (v3 bx b_y bz_), .int .i64 0]))) (haw : Hid (Ans 28 #[] (.bool true)))
    (c1 : Hid (Ans 49 #[.int .i64 vx, .int .i64 ax] (.bool true))) (c2 : Hid (Ans 49 #[.int .i64 vy, .int .i64 ay] (.bool true))) (c3 : Hid (Ans 49 #[.int .i64 vz, .int .i64 az] (.bool true)))
    (d1 : Hid (decide (wx < vx) = g1)) (d2 : Hid (decide (wy < vy) = g2)) (d3 : Hid (decide (wz < vz) = g3)) (l1 : Hid (g1 = false → decide (ax ≤ bx) = true)) (l2 : Hid (g2 = false → decide (ay ≤ b_y) = true)) (l3 : Hid (g3 = false → decide (az ≤ bz_) = true)) :
    Calls Try.prog 10 #[.agg (v3 px py pz), .agg (v3 vx vy vz), .agg (v3 wx wy wz)] w fun e w' => e = .returned (.bool true) ∧ Below w.heap.size w w' := by
  go_enter Try.func10, Try.ntmps10
  go_upto_region 1 with fail
  have D := hide ((((Gen.start w).push 26 (v3 px py pz)).push 24 (v3 vx vy vz)).push 24 (v3 wx wy wz))
  simp only [szA] at D
  go_upto_region 9 with (first | (with_reducible refine at_list ?_; apply ldG (unhide D) rPoint _ rfl rfl rfl (by repeat (first | exact List.mem_cons_self | apply List.mem_cons_of_mem)) rfl) | (with_reducible refine at_list ?_; apply ldG (unhide D) rVec _ rfl rfl rfl (by repeat (first | exact List.mem_cons_self | apply List.mem_cons_of_mem)) rfl) | (go_at_call 26; with_reducible refine (unhide hc _).mono ?_; rintro e w' ⟨he, hb⟩; subst he; have D := hide ((unhide D).keep hb); clear hb) | (go_at_call 24; with_reducible refine (unhide hV _).mono ?_; rintro e w' ⟨he, hb⟩; subst he; have D := hide ((unhide D).keep hb); clear hb) | (go_at_call 22; with_reducible refine (unhide hR _).mono ?_; rintro e w' ⟨he, hb⟩; subst he; have D := hide ((unhide D).keep hb); clear hb) | (with_reducible refine at_list ?_;  refine neqP _ _ _ hv rfl rfl rfl rfl ?_) | (go_at_call 22; with_reducible refine (unhide r1 _).mono ?_; rintro e w' ⟨he, hb⟩; subst he; have D := hide ((unhide D).keep hb); clear hb) | (go_at_call 22; with_reducible refine (unhide r2 _).mono ?_; rintro e w' ⟨he, hb⟩; subst he; have D := hide ((unhide D).keep hb); clear hb) | (with_reducible refine at_list ?_; refine stG (unhide D) rPoint _ _ rfl rfl rfl rfl rfl rfl (v3_one' _ _ _) ?_; intro D'; have D := hide D'; clear D'))
  clear hc r1 r2 hV hR hv
  refine list_start (S := Gen w _) (unhide D) ?_
  clear D
  refine list_read (v := ?_) rfl rfl (fun u hS => by go_simp; rfl) ?_
  go_simp
  refine list_read (v := .int .i64 vx) rfl rfl (fun u hS => exec_loadFG hS _ rfl rfl (by repeat (first | exact List.mem_cons_self | apply List.mem_cons_of_mem)) rfl) ?_
  go_simp
  refine list_read (v := ?_) rfl rfl (fun u hS => by go_simp; rfl) ?_
  go_simp
  refine list_read (v := .int .i64 ax) rfl rfl (fun u hS => exec_loadIG hS _ rfl rfl (by repeat (first | exact List.mem_cons_self | apply List.mem_cons_of_mem)) rfl) ?_
  go_simp
  refine list_call (v := (.bool true)) (f := 49) (args := #[.int .i64 vx, .int .i64 ax]) rfl rfl (fun u hS => by go_simp) (fun u hS => (unhide c1 u).mono fun _ _ ⟨he, hb⟩ => ⟨he, hS.keep hb⟩) ?_
  go_simp
  refine list_read (v := ?_) rfl rfl (fun u hS => by go_simp; rfl) ?_
  go_simp
  refine list_read (v := ?_) rfl rfl (fun u hS => by go_simp; rfl) ?_
  go_simp
  refine list_read (v := .int .i64 vy) rfl rfl (fun u hS => exec_loadFG hS _ rfl rfl (by repeat (first | exact List.mem_cons_self | apply List.mem_cons_of_mem)) rfl) ?_
  go_simp
  refine list_read (v := ?_) rfl rfl (fun u hS => by go_simp; rfl) ?_
  go_simp
  refine list_read (v := .int .i64 ay) rfl rfl (fun u hS => exec_loadIG hS _ rfl rfl (by repeat (first | exact List.mem_cons_self | apply List.mem_cons_of_mem)) rfl) ?_
  go_simp
  refine list_call (v := (.bool true)) (f := 49) (args := #[.int .i64 vy, .int .i64 ay]) rfl rfl (fun u hS => by go_simp) (fun u hS => (unhide c2 u).mono fun _ _ ⟨he, hb⟩ => ⟨he, hS.keep hb⟩) ?_
  go_simp
  refine list_read (v := ?_) rfl rfl (fun u hS => by go_simp; rfl) ?_
  go_simp
  refine list_read (v := ?_) rfl rfl (fun u hS => by go_simp; rfl) ?_
  go_simp
  refine list_read (v := ?_) rfl rfl (fun u hS => by go_simp; rfl) ?_
  go_simp
  refine list_read (v := .int .i64 vz) rfl rfl (fun u hS => exec_loadFG hS _ rfl rfl (by repeat (first | exact List.mem_cons_self | apply List.mem_cons_of_mem)) rfl) ?_
  go_simp
  refine list_read (v := ?_) rfl rfl (fun u hS => by go_simp; rfl) ?_
  go_simp
  refine list_read (v := .int .i64 az) rfl rfl (fun u hS => exec_loadIG hS _ rfl rfl (by repeat (first | exact List.mem_cons_self | apply List.mem_cons_of_mem)) rfl) ?_
  go_simp
  refine list_call (v := (.bool true)) (f := 49) (args := #[.int .i64 vz, .int .i64 az]) rfl rfl (fun u hS => by go_simp) (fun u hS => (unhide c3 u).mono fun _ _ ⟨he, hb⟩ => ⟨he, hS.keep hb⟩) ?_
  go_simp
  refine list_read (v := ?_) rfl rfl (fun u hS => by go_simp; rfl) ?_
  go_simp
  refine list_read (v := ?_) rfl rfl (fun u hS => by go_simp; rfl) ?_
  go_simp
  cases g1
  · refine list_read (v := ?_) rfl rfl (fun u hS => by go_simp; rfl) ?_
    go_simp
    refine list_read (v := .int .i64 vx) rfl rfl (fun u hS => exec_loadFG hS _ rfl rfl (by repeat (first | exact List.mem_cons_self | apply List.mem_cons_of_mem)) rfl) ?_
    go_simp
    refine list_read (v := ?_) rfl rfl (fun u hS => by go_simp; rfl) ?_
    go_simp
    refine list_read (v := .int .i64 wx) rfl rfl (fun u hS => exec_loadFG hS _ rfl rfl (by repeat (first | exact List.mem_cons_self | apply List.mem_cons_of_mem)) rfl) ?_
    go_simp
    refine list_read (v := .bool false) rfl rfl (fun u hS => exec_gtrZ _ _ (unhide d1) rfl rfl rfl) ?_
    go_simp
    refine list_read (v := ?_) rfl rfl (fun u hS => by go_simp; rfl) ?_
    go_simp
    refine list_read (v := ?_) rfl rfl (fun u hS => by go_simp; rfl) ?_
    go_simp
    refine list_read (v := .int .i64 ax) rfl rfl (fun u hS => exec_loadIG hS _ rfl rfl (by repeat (first | exact List.mem_cons_self | apply List.mem_cons_of_mem)) rfl) ?_
    go_simp
    refine list_read (v := ?_) rfl rfl (fun u hS => by go_simp; rfl) ?_
    go_simp
    refine list_read (v := .int .i64 bx) rfl rfl (fun u hS => exec_loadIG hS _ rfl rfl (by repeat (first | exact List.mem_cons_self | apply List.mem_cons_of_mem)) rfl) ?_
    go_simp
    refine list_read (v := .bool true) rfl rfl (fun u hS => exec_leqZ _ _ _ (unhide l1 rfl) rfl rfl rfl) ?_
    go_simp
    refine list_read (v := ?_) rfl rfl (fun u hS => by go_simp; rfl) ?_
    go_simp
    refine list_read (v := ?_) rfl rfl (fun u hS => by go_simp; rfl) ?_
    go_simp
    refine list_read (v := ?_) rfl rfl (fun u hS => by go_simp; rfl) ?_
    go_simp
    cases g2
    · refine list_read (v := ?_) rfl rfl (fun u hS => by go_simp; rfl) ?_
      go_simp
      refine list_read (v := .int .i64 vy) rfl rfl (fun u hS => exec_loadFG hS _ rfl rfl (by repeat (first | exact List.mem_cons_self | apply List.mem_cons_of_mem)) rfl) ?_
      go_simp
      refine list_read (v := ?_) rfl rfl (fun u hS => by go_simp; rfl) ?_
      go_simp
      refine list_read (v := .int .i64 wy) rfl rfl (fun u hS => exec_loadFG hS _ rfl rfl (by repeat (first | exact List.mem_cons_self | apply List.mem_cons_of_mem)) rfl) ?_
      go_simp
      refine list_read (v := .bool false) rfl rfl (fun u hS => exec_gtrZ _ _ (unhide d2) rfl rfl rfl) ?_
      go_simp
      refine list_read (v := ?_) rfl rfl (fun u hS => by go_simp; rfl) ?_
      go_simp
      refine list_read (v := ?_) rfl rfl (fun u hS => by go_simp; rfl) ?_
      go_simp
      refine list_read (v := .int .i64 ay) rfl rfl (fun u hS => exec_loadIG hS _ rfl rfl (by repeat (first | exact List.mem_cons_self | apply List.mem_cons_of_mem)) rfl) ?_
      go_simp
      refine list_read (v := ?_) rfl rfl (fun u hS => by go_simp; rfl) ?_
      go_simp
      refine list_read (v := .int .i64 b_y) rfl rfl (fun u hS => exec_loadIG hS _ rfl rfl (by repeat (first | exact List.mem_cons_self | apply List.mem_cons_of_mem)) rfl) ?_
      go_simp
      refine list_read (v := .bool true) rfl rfl (fun u hS => exec_leqZ _ _ _ (unhide l2 rfl) rfl rfl rfl) ?_
      go_simp
      refine list_read (v := ?_) rfl rfl (fun u hS => by go_simp; rfl) ?_
      go_simp
      refine list_read (v := ?_) rfl rfl (fun u hS => by go_simp; rfl) ?_
      go_simp
      refine list_read (v := ?_) rfl rfl (fun u hS => by go_simp; rfl) ?_
      go_simp
      cases g3
      · refine list_read (v := ?_) rfl rfl (fun u hS => by go_simp; rfl) ?_
        go_simp
        refine list_read (v := .int .i64 vz) rfl rfl (fun u hS => exec_loadFG hS _ rfl rfl (by repeat (first | exact List.mem_cons_self | apply List.mem_cons_of_mem)) rfl) ?_
        go_simp
        refine list_read (v := ?_) rfl rfl (fun u hS => by go_simp; rfl) ?_
        go_simp
        refine list_read (v := .int .i64 wz) rfl rfl (fun u hS => exec_loadFG hS _ rfl rfl (by repeat (first | exact List.mem_cons_self | apply List.mem_cons_of_mem)) rfl) ?_
        go_simp
        refine list_read (v := .bool false) rfl rfl (fun u hS => exec_gtrZ _ _ (unhide d3) rfl rfl rfl) ?_
        go_simp
        refine list_read (v := ?_) rfl rfl (fun u hS => by go_simp; rfl) ?_
        go_simp
        refine list_read (v := ?_) rfl rfl (fun u hS => by go_simp; rfl) ?_
        go_simp
        refine list_read (v := .int .i64 az) rfl rfl (fun u hS => exec_loadIG hS _ rfl rfl (by repeat (first | exact List.mem_cons_self | apply List.mem_cons_of_mem)) rfl) ?_
        go_simp
        refine list_read (v := ?_) rfl rfl (fun u hS => by go_simp; rfl) ?_
        go_simp
        refine list_read (v := .int .i64 bz_) rfl rfl (fun u hS => exec_loadIG hS _ rfl rfl (by repeat (first | exact List.mem_cons_self | apply List.mem_cons_of_mem)) rfl) ?_
        go_simp
        refine list_read (v := .bool true) rfl rfl (fun u hS => exec_leqZ _ _ _ (unhide l3 rfl) rfl rfl rfl) ?_
        go_simp
        refine list_read (v := ?_) rfl rfl (fun u hS => by go_simp; rfl) ?_
        go_simp
        refine list_read (v := ?_) rfl rfl (fun u hS => by go_simp; rfl) ?_
        go_simp
        refine list_read (v := ?_) rfl rfl (fun u hS => by go_simp; rfl) ?_
        go_simp
        refine list_call (v := (.bool true)) (f := 28) (args := #[]) rfl rfl (fun u hS => by go_simp) (fun u hS => (unhide haw u).mono fun _ _ ⟨he, hb⟩ => ⟨he, hS.keep hb⟩) ?_
        go_simp
        refine list_read (v := ?_) rfl rfl (fun u hS => by go_simp; rfl) ?_
        go_simp
        refine list_read (v := ?_) rfl rfl (fun u hS => by go_simp; rfl) ?_
        go_simp
        refine list_end (fun u hS => ?_)
        have O := hide hS.o
        clear hS
        go_wp2
        go_ret
        exact ⟨rfl, unhide O⟩
      · refine list_read (v := ?_) rfl rfl (fun u hS => by go_simp; rfl) ?_
        go_simp
        refine list_read (v := .int .i64 vz) rfl rfl (fun u hS => exec_loadFG hS _ rfl rfl (by repeat (first | exact List.mem_cons_self | apply List.mem_cons_of_mem)) rfl) ?_
        go_simp
        refine list_read (v := ?_) rfl rfl (fun u hS => by go_simp; rfl) ?_
        go_simp
        refine list_read (v := .int .i64 wz) rfl rfl (fun u hS => exec_loadFG hS _ rfl rfl (by repeat (first | exact List.mem_cons_self | apply List.mem_cons_of_mem)) rfl) ?_
        go_simp
        refine list_read (v := .bool true) rfl rfl (fun u hS => exec_gtrZ _ _ (unhide d3) rfl rfl rfl) ?_
        go_simp
        refine list_read (v := ?_) rfl rfl (fun u hS => by go_simp; rfl) ?_
        go_simp
        refine list_skip rfl rfl ?_
        go_simp
        refine list_skip rfl rfl ?_
        go_simp
        refine list_skip rfl rfl ?_
        go_simp
        refine list_skip rfl rfl ?_
        go_simp
        refine list_skip rfl rfl ?_
        go_simp
        refine list_read (v := ?_) rfl rfl (fun u hS => by go_simp; rfl) ?_
        go_simp
        refine list_read (v := ?_) rfl rfl (fun u hS => by go_simp; rfl) ?_
        go_simp
        refine list_read (v := ?_) rfl rfl (fun u hS => by go_simp; rfl) ?_
        go_simp
        refine list_call (v := (.bool true)) (f := 28) (args := #[]) rfl rfl (fun u hS => by go_simp) (fun u hS => (unhide haw u).mono fun _ _ ⟨he, hb⟩ => ⟨he, hS.keep hb⟩) ?_
        go_simp
        refine list_read (v := ?_) rfl rfl (fun u hS => by go_simp; rfl) ?_
        go_simp
        refine list_read (v := ?_) rfl rfl (fun u hS => by go_simp; rfl) ?_
        go_simp
        refine list_end (fun u hS => ?_)
        have O := hide hS.o
        clear hS
        go_wp2
        go_ret
        exact ⟨rfl, unhide O⟩
    · refine list_read (v := ?_) rfl rfl (fun u hS => by go_simp; rfl) ?_
      go_simp
      refine list_read (v := .int .i64 vy) rfl rfl (fun u hS => exec_loadFG hS _ rfl rfl (by repeat (first | exact List.mem_cons_self | apply List.mem_cons_of_mem)) rfl) ?_
      go_simp
      refine list_read (v := ?_) rfl rfl (fun u hS => by go_simp; rfl) ?_
      go_simp
      refine list_read (v := .int .i64 wy) rfl rfl (fun u hS => exec_loadFG hS _ rfl rfl (by repeat (first | exact List.mem_cons_self | apply List.mem_cons_of_mem)) rfl) ?_
      go_simp
      refine list_read (v := .bool true) rfl rfl (fun u hS => exec_gtrZ _ _ (unhide d2) rfl rfl rfl) ?_
      go_simp
      refine list_read (v := ?_) rfl rfl (fun u hS => by go_simp; rfl) ?_
      go_simp
      refine list_skip rfl rfl ?_
      go_simp
      refine list_skip rfl rfl ?_
      go_simp
      refine list_skip rfl rfl ?_
      go_simp
      refine list_skip rfl rfl ?_
      go_simp
      refine list_skip rfl rfl ?_
      go_simp
      refine list_read (v := ?_) rfl rfl (fun u hS => by go_simp; rfl) ?_
      go_simp
      refine list_read (v := ?_) rfl rfl (fun u hS => by go_simp; rfl) ?_
      go_simp
      refine list_read (v := ?_) rfl rfl (fun u hS => by go_simp; rfl) ?_
      go_simp
      cases g3
      · refine list_read (v := ?_) rfl rfl (fun u hS => by go_simp; rfl) ?_
        go_simp
        refine list_read (v := .int .i64 vz) rfl rfl (fun u hS => exec_loadFG hS _ rfl rfl (by repeat (first | exact List.mem_cons_self | apply List.mem_cons_of_mem)) rfl) ?_
        go_simp
        refine list_read (v := ?_) rfl rfl (fun u hS => by go_simp; rfl) ?_
        go_simp
        refine list_read (v := .int .i64 wz) rfl rfl (fun u hS => exec_loadFG hS _ rfl rfl (by repeat (first | exact List.mem_cons_self | apply List.mem_cons_of_mem)) rfl) ?_
        go_simp
        refine list_read (v := .bool false) rfl rfl (fun u hS => exec_gtrZ _ _ (unhide d3) rfl rfl rfl) ?_
        go_simp
        refine list_read (v := ?_) rfl rfl (fun u hS => by go_simp; rfl) ?_
        go_simp
        refine list_read (v := ?_) rfl rfl (fun u hS => by go_simp; rfl) ?_
        go_simp
        refine list_read (v := .int .i64 az) rfl rfl (fun u hS => exec_loadIG hS _ rfl rfl (by repeat (first | exact List.mem_cons_self | apply List.mem_cons_of_mem)) rfl) ?_
        go_simp
        refine list_read (v := ?_) rfl rfl (fun u hS => by go_simp; rfl) ?_
        go_simp
        refine list_read (v := .int .i64 bz_) rfl rfl (fun u hS => exec_loadIG hS _ rfl rfl (by repeat (first | exact List.mem_cons_self | apply List.mem_cons_of_mem)) rfl) ?_
        go_simp
        refine list_read (v := .bool true) rfl rfl (fun u hS => exec_leqZ _ _ _ (unhide l3 rfl) rfl rfl rfl) ?_
        go_simp
        refine list_read (v := ?_) rfl rfl (fun u hS => by go_simp; rfl) ?_
        go_simp
        refine list_read (v := ?_) rfl rfl (fun u hS => by go_simp; rfl) ?_
        go_simp
        refine list_read (v := ?_) rfl rfl (fun u hS => by go_simp; rfl) ?_
        go_simp
        refine list_call (v := (.bool true)) (f := 28) (args := #[]) rfl rfl (fun u hS => by go_simp) (fun u hS => (unhide haw u).mono fun _ _ ⟨he, hb⟩ => ⟨he, hS.keep hb⟩) ?_
        go_simp
        refine list_read (v := ?_) rfl rfl (fun u hS => by go_simp; rfl) ?_
        go_simp
        refine list_read (v := ?_) rfl rfl (fun u hS => by go_simp; rfl) ?_
        go_simp
        refine list_end (fun u hS => ?_)
        have O := hide hS.o
        clear hS
        go_wp2
        go_ret
        exact ⟨rfl, unhide O⟩
      · refine list_read (v := ?_) rfl rfl (fun u hS => by go_simp; rfl) ?_
        go_simp
        refine list_read (v := .int .i64 vz) rfl rfl (fun u hS => exec_loadFG hS _ rfl rfl (by repeat (first | exact List.mem_cons_self | apply List.mem_cons_of_mem)) rfl) ?_
        go_simp
        refine list_read (v := ?_) rfl rfl (fun u hS => by go_simp; rfl) ?_
        go_simp
        refine list_read (v := .int .i64 wz) rfl rfl (fun u hS => exec_loadFG hS _ rfl rfl (by repeat (first | exact List.mem_cons_self | apply List.mem_cons_of_mem)) rfl) ?_
        go_simp
        refine list_read (v := .bool true) rfl rfl (fun u hS => exec_gtrZ _ _ (unhide d3) rfl rfl rfl) ?_
        go_simp
        refine list_read (v := ?_) rfl rfl (fun u hS => by go_simp; rfl) ?_
        go_simp
        refine list_skip rfl rfl ?_
        go_simp
        refine list_skip rfl rfl ?_
        go_simp
        refine list_skip rfl rfl ?_
        go_simp
        refine list_skip rfl rfl ?_
        go_simp
        refine list_skip rfl rfl ?_
        go_simp
        refine list_read (v := ?_) rfl rfl (fun u hS => by go_simp; rfl) ?_
        go_simp
        refine list_read (v := ?_) rfl rfl (fun u hS => by go_simp; rfl) ?_
        go_simp
        refine list_read (v := ?_) rfl rfl (fun u hS => by go_simp; rfl) ?_
        go_simp
        refine list_call (v := (.bool true)) (f := 28) (args := #[]) rfl rfl (fun u hS => by go_simp) (fun u hS => (unhide haw u).mono fun _ _ ⟨he, hb⟩ => ⟨he, hS.keep hb⟩) ?_
        go_simp
        refine list_read (v := ?_) rfl rfl (fun u hS => by go_simp; rfl) ?_
        go_simp
        refine list_read (v := ?_) rfl rfl (fun u hS => by go_simp; rfl) ?_
        go_simp
        refine list_end (fun u hS => ?_)
        have O := hide hS.o
        clear hS
        go_wp2
        go_ret
        exact ⟨rfl, unhide O⟩
  · refine list_read (v := ?_) rfl rfl (fun u hS => by go_simp; rfl) ?_
    go_simp
    refine list_read (v := .int .i64 vx) rfl rfl (fun u hS => exec_loadFG hS _ rfl rfl (by repeat (first | exact List.mem_cons_self | apply List.mem_cons_of_mem)) rfl) ?_
    go_simp
    refine list_read (v := ?_) rfl rfl (fun u hS => by go_simp; rfl) ?_
    go_simp
    refine list_read (v := .int .i64 wx) rfl rfl (fun u hS => exec_loadFG hS _ rfl rfl (by repeat (first | exact List.mem_cons_self | apply List.mem_cons_of_mem)) rfl) ?_
    go_simp
    refine list_read (v := .bool true) rfl rfl (fun u hS => exec_gtrZ _ _ (unhide d1) rfl rfl rfl) ?_
    go_simp
    refine list_read (v := ?_) rfl rfl (fun u hS => by go_simp; rfl) ?_
    go_simp
    refine list_skip rfl rfl ?_
    go_simp
    refine list_skip rfl rfl ?_
    go_simp
    refine list_skip rfl rfl ?_
    go_simp
    refine list_skip rfl rfl ?_
    go_simp
    refine list_skip rfl rfl ?_
    go_simp
    refine list_read (v := ?_) rfl rfl (fun u hS => by go_simp; rfl) ?_
    go_simp
    refine list_read (v := ?_) rfl rfl (fun u hS => by go_simp; rfl) ?_
    go_simp
    refine list_read (v := ?_) rfl rfl (fun u hS => by go_simp; rfl) ?_
    go_simp
    cases g2
    · refine list_read (v := ?_) rfl rfl (fun u hS => by go_simp; rfl) ?_
      go_simp
      refine list_read (v := .int .i64 vy) rfl rfl (fun u hS => exec_loadFG hS _ rfl rfl (by repeat (first | exact List.mem_cons_self | apply List.mem_cons_of_mem)) rfl) ?_
      go_simp
      refine list_read (v := ?_) rfl rfl (fun u hS => by go_simp; rfl) ?_
      go_simp
      refine list_read (v := .int .i64 wy) rfl rfl (fun u hS => exec_loadFG hS _ rfl rfl (by repeat (first | exact List.mem_cons_self | apply List.mem_cons_of_mem)) rfl) ?_
      go_simp
      refine list_read (v := .bool false) rfl rfl (fun u hS => exec_gtrZ _ _ (unhide d2) rfl rfl rfl) ?_
      go_simp
      refine list_read (v := ?_) rfl rfl (fun u hS => by go_simp; rfl) ?_
      go_simp
      refine list_read (v := ?_) rfl rfl (fun u hS => by go_simp; rfl) ?_
      go_simp
      refine list_read (v := .int .i64 ay) rfl rfl (fun u hS => exec_loadIG hS _ rfl rfl (by repeat (first | exact List.mem_cons_self | apply List.mem_cons_of_mem)) rfl) ?_
      go_simp
      refine list_read (v := ?_) rfl rfl (fun u hS => by go_simp; rfl) ?_
      go_simp
      refine list_read (v := .int .i64 b_y) rfl rfl (fun u hS => exec_loadIG hS _ rfl rfl (by repeat (first | exact List.mem_cons_self | apply List.mem_cons_of_mem)) rfl) ?_
      go_simp
      refine list_read (v := .bool true) rfl rfl (fun u hS => exec_leqZ _ _ _ (unhide l2 rfl) rfl rfl rfl) ?_
      go_simp
      refine list_read (v := ?_) rfl rfl (fun u hS => by go_simp; rfl) ?_
      go_simp
      refine list_read (v := ?_) rfl rfl (fun u hS => by go_simp; rfl) ?_
      go_simp
      refine list_read (v := ?_) rfl rfl (fun u hS => by go_simp; rfl) ?_
      go_simp
      cases g3
      · refine list_read (v := ?_) rfl rfl (fun u hS => by go_simp; rfl) ?_
        go_simp
        refine list_read (v := .int .i64 vz) rfl rfl (fun u hS => exec_loadFG hS _ rfl rfl (by repeat (first | exact List.mem_cons_self | apply List.mem_cons_of_mem)) rfl) ?_
        go_simp
        refine list_read (v := ?_) rfl rfl (fun u hS => by go_simp; rfl) ?_
        go_simp
        refine list_read (v := .int .i64 wz) rfl rfl (fun u hS => exec_loadFG hS _ rfl rfl (by repeat (first | exact List.mem_cons_self | apply List.mem_cons_of_mem)) rfl) ?_
        go_simp
        refine list_read (v := .bool false) rfl rfl (fun u hS => exec_gtrZ _ _ (unhide d3) rfl rfl rfl) ?_
        go_simp
        refine list_read (v := ?_) rfl rfl (fun u hS => by go_simp; rfl) ?_
        go_simp
        refine list_read (v := ?_) rfl rfl (fun u hS => by go_simp; rfl) ?_
        go_simp
        refine list_read (v := .int .i64 az) rfl rfl (fun u hS => exec_loadIG hS _ rfl rfl (by repeat (first | exact List.mem_cons_self | apply List.mem_cons_of_mem)) rfl) ?_
        go_simp
        refine list_read (v := ?_) rfl rfl (fun u hS => by go_simp; rfl) ?_
        go_simp
        refine list_read (v := .int .i64 bz_) rfl rfl (fun u hS => exec_loadIG hS _ rfl rfl (by repeat (first | exact List.mem_cons_self | apply List.mem_cons_of_mem)) rfl) ?_
        go_simp
        refine list_read (v := .bool true) rfl rfl (fun u hS => exec_leqZ _ _ _ (unhide l3 rfl) rfl rfl rfl) ?_
        go_simp
        refine list_read (v := ?_) rfl rfl (fun u hS => by go_simp; rfl) ?_
        go_simp
        refine list_read (v := ?_) rfl rfl (fun u hS => by go_simp; rfl) ?_
        go_simp
        refine list_read (v := ?_) rfl rfl (fun u hS => by go_simp; rfl) ?_
        go_simp
        refine list_call (v := (.bool true)) (f := 28) (args := #[]) rfl rfl (fun u hS => by go_simp) (fun u hS => (unhide haw u).mono fun _ _ ⟨he, hb⟩ => ⟨he, hS.keep hb⟩) ?_
        go_simp
        refine list_read (v := ?_) rfl rfl (fun u hS => by go_simp; rfl) ?_
        go_simp
        refine list_read (v := ?_) rfl rfl (fun u hS => by go_simp; rfl) ?_
        go_simp
        refine list_end (fun u hS => ?_)
        have O := hide hS.o
        clear hS
        go_wp2
        go_ret
        exact ⟨rfl, unhide O⟩
      · refine list_read (v := ?_) rfl rfl (fun u hS => by go_simp; rfl) ?_
        go_simp
        refine list_read (v := .int .i64 vz) rfl rfl (fun u hS => exec_loadFG hS _ rfl rfl (by repeat (first | exact List.mem_cons_self | apply List.mem_cons_of_mem)) rfl) ?_
        go_simp
        refine list_read (v := ?_) rfl rfl (fun u hS => by go_simp; rfl) ?_
        go_simp
        refine list_read (v := .int .i64 wz) rfl rfl (fun u hS => exec_loadFG hS _ rfl rfl (by repeat (first | exact List.mem_cons_self | apply List.mem_cons_of_mem)) rfl) ?_
        go_simp
        refine list_read (v := .bool true) rfl rfl (fun u hS => exec_gtrZ _ _ (unhide d3) rfl rfl rfl) ?_
        go_simp
        refine list_read (v := ?_) rfl rfl (fun u hS => by go_simp; rfl) ?_
        go_simp
        refine list_skip rfl rfl ?_
        go_simp
        refine list_skip rfl rfl ?_
        go_simp
        refine list_skip rfl rfl ?_
        go_simp
        refine list_skip rfl rfl ?_
        go_simp
        refine list_skip rfl rfl ?_
        go_simp
        refine list_read (v := ?_) rfl rfl (fun u hS => by go_simp; rfl) ?_
        go_simp
        refine list_read (v := ?_) rfl rfl (fun u hS => by go_simp; rfl) ?_
        go_simp
        refine list_read (v := ?_) rfl rfl (fun u hS => by go_simp; rfl) ?_
        go_simp
        refine list_call (v := (.bool true)) (f := 28) (args := #[]) rfl rfl (fun u hS => by go_simp) (fun u hS => (unhide haw u).mono fun _ _ ⟨he, hb⟩ => ⟨he, hS.keep hb⟩) ?_
        go_simp
        refine list_read (v := ?_) rfl rfl (fun u hS => by go_simp; rfl) ?_
        go_simp
        refine list_read (v := ?_) rfl rfl (fun u hS => by go_simp; rfl) ?_
        go_simp
        refine list_end (fun u hS => ?_)
        have O := hide hS.o
        clear hS
        go_wp2
        go_ret
        exact ⟨rfl, unhide O⟩
    · refine list_read (v := ?_) rfl rfl (fun u hS => by go_simp; rfl) ?_
      go_simp
      refine list_read (v := .int .i64 vy) rfl rfl (fun u hS => exec_loadFG hS _ rfl rfl (by repeat (first | exact List.mem_cons_self | apply List.mem_cons_of_mem)) rfl) ?_
      go_simp
      refine list_read (v := ?_) rfl rfl (fun u hS => by go_simp; rfl) ?_
      go_simp
      refine list_read (v := .int .i64 wy) rfl rfl (fun u hS => exec_loadFG hS _ rfl rfl (by repeat (first | exact List.mem_cons_self | apply List.mem_cons_of_mem)) rfl) ?_
      go_simp
      refine list_read (v := .bool true) rfl rfl (fun u hS => exec_gtrZ _ _ (unhide d2) rfl rfl rfl) ?_
      go_simp
      refine list_read (v := ?_) rfl rfl (fun u hS => by go_simp; rfl) ?_
      go_simp
      refine list_skip rfl rfl ?_
      go_simp
      refine list_skip rfl rfl ?_
      go_simp
      refine list_skip rfl rfl ?_
      go_simp
      refine list_skip rfl rfl ?_
      go_simp
      refine list_skip rfl rfl ?_
      go_simp
      refine list_read (v := ?_) rfl rfl (fun u hS => by go_simp; rfl) ?_
      go_simp
      refine list_read (v := ?_) rfl rfl (fun u hS => by go_simp; rfl) ?_
      go_simp
      refine list_read (v := ?_) rfl rfl (fun u hS => by go_simp; rfl) ?_
      go_simp
      cases g3
      · refine list_read (v := ?_) rfl rfl (fun u hS => by go_simp; rfl) ?_
        go_simp
        refine list_read (v := .int .i64 vz) rfl rfl (fun u hS => exec_loadFG hS _ rfl rfl (by repeat (first | exact List.mem_cons_self | apply List.mem_cons_of_mem)) rfl) ?_
        go_simp
        refine list_read (v := ?_) rfl rfl (fun u hS => by go_simp; rfl) ?_
        go_simp
        refine list_read (v := .int .i64 wz) rfl rfl (fun u hS => exec_loadFG hS _ rfl rfl (by repeat (first | exact List.mem_cons_self | apply List.mem_cons_of_mem)) rfl) ?_
        go_simp
        refine list_read (v := .bool false) rfl rfl (fun u hS => exec_gtrZ _ _ (unhide d3) rfl rfl rfl) ?_
        go_simp
        refine list_read (v := ?_) rfl rfl (fun u hS => by go_simp; rfl) ?_
        go_simp
        refine list_read (v := ?_) rfl rfl (fun u hS => by go_simp; rfl) ?_
        go_simp
        refine list_read (v := .int .i64 az) rfl rfl (fun u hS => exec_loadIG hS _ rfl rfl (by repeat (first | exact List.mem_cons_self | apply List.mem_cons_of_mem)) rfl) ?_
        go_simp
        refine list_read (v := ?_) rfl rfl (fun u hS => by go_simp; rfl) ?_
        go_simp
        refine list_read (v := .int .i64 bz_) rfl rfl (fun u hS => exec_loadIG hS _ rfl rfl (by repeat (first | exact List.mem_cons_self | apply List.mem_cons_of_mem)) rfl) ?_
        go_simp
        refine list_read (v := .bool true) rfl rfl (fun u hS => exec_leqZ _ _ _ (unhide l3 rfl) rfl rfl rfl) ?_
        go_simp
        refine list_read (v := ?_) rfl rfl (fun u hS => by go_simp; rfl) ?_
        go_simp
        refine list_read (v := ?_) rfl rfl (fun u hS => by go_simp; rfl) ?_
        go_simp
        refine list_read (v := ?_) rfl rfl (fun u hS => by go_simp; rfl) ?_
        go_simp
        refine list_call (v := (.bool true)) (f := 28) (args := #[]) rfl rfl (fun u hS => by go_simp) (fun u hS => (unhide haw u).mono fun _ _ ⟨he, hb⟩ => ⟨he, hS.keep hb⟩) ?_
        go_simp
        refine list_read (v := ?_) rfl rfl (fun u hS => by go_simp; rfl) ?_
        go_simp
        refine list_read (v := ?_) rfl rfl (fun u hS => by go_simp; rfl) ?_
        go_simp
        refine list_end (fun u hS => ?_)
        have O := hide hS.o
        clear hS
        go_wp2
        go_ret
        exact ⟨rfl, unhide O⟩
      · refine list_read (v := ?_) rfl rfl (fun u hS => by go_simp; rfl) ?_
        go_simp
        refine list_read (v := .int .i64 vz) rfl rfl (fun u hS => exec_loadFG hS _ rfl rfl (by repeat (first | exact List.mem_cons_self | apply List.mem_cons_of_mem)) rfl) ?_
        go_simp
        refine list_read (v := ?_) rfl rfl (fun u hS => by go_simp; rfl) ?_
        go_simp
        refine list_read (v := .int .i64 wz) rfl rfl (fun u hS => exec_loadFG hS _ rfl rfl (by repeat (first | exact List.mem_cons_self | apply List.mem_cons_of_mem)) rfl) ?_
        go_simp
        refine list_read (v := .bool true) rfl rfl (fun u hS => exec_gtrZ _ _ (unhide d3) rfl rfl rfl) ?_
        go_simp
        refine list_read (v := ?_) rfl rfl (fun u hS => by go_simp; rfl) ?_
        go_simp
        refine list_skip rfl rfl ?_
        go_simp
        refine list_skip rfl rfl ?_
        go_simp
        refine list_skip rfl rfl ?_
        go_simp
        refine list_skip rfl rfl ?_
        go_simp
        refine list_skip rfl rfl ?_
        go_simp
        refine list_read (v := ?_) rfl rfl (fun u hS => by go_simp; rfl) ?_
        go_simp
        refine list_read (v := ?_) rfl rfl (fun u hS => by go_simp; rfl) ?_
        go_simp
        refine list_read (v := ?_) rfl rfl (fun u hS => by go_simp; rfl) ?_
        go_simp
        refine list_call (v := (.bool true)) (f := 28) (args := #[]) rfl rfl (fun u hS => by go_simp) (fun u hS => (unhide haw u).mono fun _ _ ⟨he, hb⟩ => ⟨he, hS.keep hb⟩) ?_
        go_simp
        refine list_read (v := ?_) rfl rfl (fun u hS => by go_simp; rfl) ?_
        go_simp
        refine list_read (v := ?_) rfl rfl (fun u hS => by go_simp; rfl) ?_
        go_simp
        refine list_end (fun u hS => ?_)
        have O := hide hS.o
        clear hS
        go_wp2
        go_ret
        exact ⟨rfl, unhide O⟩

end Go.Proofs.Ytbgafjdgahikcaa
