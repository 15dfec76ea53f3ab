/- Package vec: Add, Sub, Scale. -/
import Derived.Test.YtcbepibdeokboaaVe
namespace Go.Proofs.Ytcbepibdeokboaa
open Go.RowKit
set_option maxRecDepth 4000
set_option linter.unusedVariables false

theorem exec_loadG {o : Oper} {a : Act} {w w0 : World} {l : List (Nat × TypeId × Array Value)} (d : Gen w0 l w) {ty : TypeId} {k g : Nat} {t : TypeId} {cs : Array Value} (hr : Rw ty k) (x : Operand) (ho : o.op = .load ty x) (hx : a.eval x = ptr g) (hm : (g, t, cs) ∈ l) (hk : cs.size = k) :
    (execOp a.eval o).run Try.prog w = .ok (.value (.agg cs)) w := by
  obtain ⟨⟨dd, hu, hd⟩, hi⟩ := hr
  unfold execOp
  simp only [ho, hx, Instr.loadAt, Instr.sureAddr, Sem.run_bind, Sem.run_pure, Result.andThen_ok, run_loadVar_row w g t ty cs (0, 0) dd (d.blk hm) hu (by cases dd <;> first | rfl | cases hd) (hk ▸ hi)]
theorem Gen.two {u : World} {g0 g1 : Nat} {t0 t1 : TypeId} {c0 c1 : Array Value} (h0 : Blk u g0 t0 c0) (h1 : Blk u g1 t1 c1) : Gen u [(g0, t0, c0), (g1, t1, c1)] u := by
  refine ⟨fun p hp => ?_, Below.refl _ _⟩
  simp only [List.mem_cons, List.not_mem_nil, or_false] at hp
  rcases hp with rfl | rfl
  · exact h0
  · exact h1

theorem clos_Add_X (ax ay az bx by' bz' r : Int) (g0 g1 : Nat) (u : World) (h0 : Blk u g0 24 (v3 ax ay az)) (h1 : Blk u g1 24 (v3 bx by' bz')) (hF : Hid (Ans 51 #[.int .i64 ax, .int .i64 bx] (.int .i64 r))) :
    Calls Try.prog 50 #[.func (Fn.func 78) #[] #[], .pointer (some ⟨g0, 0, none⟩), .pointer (some ⟨g1, 0, none⟩)] u fun e w' => e = .returned (.int .i64 r) ∧ Below u.heap.size u w' := by
  have D := hide (Gen.two h0 h1)
  clear h0 h1
  go_enter Try.func50, Try.ntmps50
  go_upto_region 1 with fail
  refine region_plan (S := Gen u _) (l := [0, 1, 2, 3, 4, 5, 6, 7]) (by kernel_rfl) (by kernel_rfl) (by kernel_rfl) (by kernel_rfl) (by kernel_rfl) (by kernel_rfl) (by kernel_rfl) (unhide D).drew ?_
  clear D
  refine plan_read (v := ?_) rfl rfl (fun u hS => by go_simp; rfl) ?_
  go_simp
  refine plan_read (v := .agg (v3 ax ay az)) rfl rfl (fun u hS => exec_loadG hS rVec _ rfl rfl (by repeat (first | exact List.mem_cons_self | apply List.mem_cons_of_mem)) rfl) ?_
  go_simp
  refine plan_call (v := .int .i64 ax) (f := 78) (args := #[.agg (v3 ax ay az)]) rfl rfl (fun u hS => by go_simp) (fun u hS => (alongX ax ay az u).mono fun _ _ ⟨he, hb⟩ => ⟨he, hS.keep hb⟩) ?_
  go_simp
  refine plan_read (v := ?_) rfl rfl (fun u hS => by go_simp; rfl) ?_
  go_simp
  refine plan_read (v := .agg (v3 bx by' bz')) rfl rfl (fun u hS => exec_loadG hS rVec _ rfl rfl (by repeat (first | exact List.mem_cons_self | apply List.mem_cons_of_mem)) rfl) ?_
  go_simp
  refine plan_call (v := .int .i64 bx) (f := 78) (args := #[.agg (v3 bx by' bz')]) rfl rfl (fun u hS => by go_simp) (fun u hS => (alongX bx by' bz' u).mono fun _ _ ⟨he, hb⟩ => ⟨he, hS.keep hb⟩) ?_
  go_simp
  refine plan_call (v := .int .i64 r) (f := 51) (args := #[.int .i64 ax, .int .i64 bx]) rfl rfl (fun u hS => by go_simp) (fun u hS => (unhide hF u).mono fun _ _ ⟨he, hb⟩ => ⟨he, hS.keep hb⟩) ?_
  go_simp
  refine plan_read (v := ?_) rfl rfl (fun u hS => by go_simp; rfl) ?_
  go_simp
  refine plan_end (fun u hS => ?_)
  have O := hide hS.o
  clear hS
  go_wp2
  go_ret
  exact ⟨rfl, unhide O⟩

theorem clos_Add_Y (ax ay az bx by' bz' r : Int) (g0 g1 : Nat) (u : World) (h0 : Blk u g0 24 (v3 ax ay az)) (h1 : Blk u g1 24 (v3 bx by' bz')) (hF : Hid (Ans 51 #[.int .i64 ay, .int .i64 by'] (.int .i64 r))) :
    Calls Try.prog 50 #[.func (Fn.func 79) #[] #[], .pointer (some ⟨g0, 0, none⟩), .pointer (some ⟨g1, 0, none⟩)] u fun e w' => e = .returned (.int .i64 r) ∧ Below u.heap.size u w' := by
  have D := hide (Gen.two h0 h1)
  clear h0 h1
  go_enter Try.func50, Try.ntmps50
  go_upto_region 1 with fail
  refine region_plan (S := Gen u _) (l := [0, 1, 2, 3, 4, 5, 6, 7]) (by kernel_rfl) (by kernel_rfl) (by kernel_rfl) (by kernel_rfl) (by kernel_rfl) (by kernel_rfl) (by kernel_rfl) (unhide D).drew ?_
  clear D
  refine plan_read (v := ?_) rfl rfl (fun u hS => by go_simp; rfl) ?_
  go_simp
  refine plan_read (v := .agg (v3 ax ay az)) rfl rfl (fun u hS => exec_loadG hS rVec _ rfl rfl (by repeat (first | exact List.mem_cons_self | apply List.mem_cons_of_mem)) rfl) ?_
  go_simp
  refine plan_call (v := .int .i64 ay) (f := 79) (args := #[.agg (v3 ax ay az)]) rfl rfl (fun u hS => by go_simp) (fun u hS => (alongY ax ay az u).mono fun _ _ ⟨he, hb⟩ => ⟨he, hS.keep hb⟩) ?_
  go_simp
  refine plan_read (v := ?_) rfl rfl (fun u hS => by go_simp; rfl) ?_
  go_simp
  refine plan_read (v := .agg (v3 bx by' bz')) rfl rfl (fun u hS => exec_loadG hS rVec _ rfl rfl (by repeat (first | exact List.mem_cons_self | apply List.mem_cons_of_mem)) rfl) ?_
  go_simp
  refine plan_call (v := .int .i64 by') (f := 79) (args := #[.agg (v3 bx by' bz')]) rfl rfl (fun u hS => by go_simp) (fun u hS => (alongY bx by' bz' u).mono fun _ _ ⟨he, hb⟩ => ⟨he, hS.keep hb⟩) ?_
  go_simp
  refine plan_call (v := .int .i64 r) (f := 51) (args := #[.int .i64 ay, .int .i64 by']) rfl rfl (fun u hS => by go_simp) (fun u hS => (unhide hF u).mono fun _ _ ⟨he, hb⟩ => ⟨he, hS.keep hb⟩) ?_
  go_simp
  refine plan_read (v := ?_) rfl rfl (fun u hS => by go_simp; rfl) ?_
  go_simp
  refine plan_end (fun u hS => ?_)
  have O := hide hS.o
  clear hS
  go_wp2
  go_ret
  exact ⟨rfl, unhide O⟩

theorem clos_Add_Z (ax ay az bx by' bz' r : Int) (g0 g1 : Nat) (u : World) (h0 : Blk u g0 24 (v3 ax ay az)) (h1 : Blk u g1 24 (v3 bx by' bz')) (hF : Hid (Ans 51 #[.int .i64 az, .int .i64 bz'] (.int .i64 r))) :
    Calls Try.prog 50 #[.func (Fn.func 80) #[] #[], .pointer (some ⟨g0, 0, none⟩), .pointer (some ⟨g1, 0, none⟩)] u fun e w' => e = .returned (.int .i64 r) ∧ Below u.heap.size u w' := by
  have D := hide (Gen.two h0 h1)
  clear h0 h1
  go_enter Try.func50, Try.ntmps50
  go_upto_region 1 with fail
  refine region_plan (S := Gen u _) (l := [0, 1, 2, 3, 4, 5, 6, 7]) (by kernel_rfl) (by kernel_rfl) (by kernel_rfl) (by kernel_rfl) (by kernel_rfl) (by kernel_rfl) (by kernel_rfl) (unhide D).drew ?_
  clear D
  refine plan_read (v := ?_) rfl rfl (fun u hS => by go_simp; rfl) ?_
  go_simp
  refine plan_read (v := .agg (v3 ax ay az)) rfl rfl (fun u hS => exec_loadG hS rVec _ rfl rfl (by repeat (first | exact List.mem_cons_self | apply List.mem_cons_of_mem)) rfl) ?_
  go_simp
  refine plan_call (v := .int .i64 az) (f := 80) (args := #[.agg (v3 ax ay az)]) rfl rfl (fun u hS => by go_simp) (fun u hS => (alongZ ax ay az u).mono fun _ _ ⟨he, hb⟩ => ⟨he, hS.keep hb⟩) ?_
  go_simp
  refine plan_read (v := ?_) rfl rfl (fun u hS => by go_simp; rfl) ?_
  go_simp
  refine plan_read (v := .agg (v3 bx by' bz')) rfl rfl (fun u hS => exec_loadG hS rVec _ rfl rfl (by repeat (first | exact List.mem_cons_self | apply List.mem_cons_of_mem)) rfl) ?_
  go_simp
  refine plan_call (v := .int .i64 bz') (f := 80) (args := #[.agg (v3 bx by' bz')]) rfl rfl (fun u hS => by go_simp) (fun u hS => (alongZ bx by' bz' u).mono fun _ _ ⟨he, hb⟩ => ⟨he, hS.keep hb⟩) ?_
  go_simp
  refine plan_call (v := .int .i64 r) (f := 51) (args := #[.int .i64 az, .int .i64 bz']) rfl rfl (fun u hS => by go_simp) (fun u hS => (unhide hF u).mono fun _ _ ⟨he, hb⟩ => ⟨he, hS.keep hb⟩) ?_
  go_simp
  refine plan_read (v := ?_) rfl rfl (fun u hS => by go_simp; rfl) ?_
  go_simp
  refine plan_end (fun u hS => ?_)
  have O := hide hS.o
  clear hS
  go_wp2
  go_ret
  exact ⟨rfl, unhide O⟩

theorem vec_Add_core (ax ay az bx by' bz' x y z : Int) (w : World) (hX : Hid (Ans 51 #[.int .i64 ax, .int .i64 bx] (.int .i64 x))) (hY : Hid (Ans 51 #[.int .i64 ay, .int .i64 by'] (.int .i64 y))) (hZ : Hid (Ans 51 #[.int .i64 az, .int .i64 bz'] (.int .i64 z))) :
    Calls Try.prog 30 #[.agg (v3 ax ay az), .agg (v3 bx by' bz')] w fun e w' => e = .returned (.agg (v3 x y z)) ∧ Below w.heap.size w w' := by
  go_enter Try.func30, Try.ntmps30
  go_upto_region 1 with fail
  have D := hide ((((Gen.start w).push 24 (v3 ax ay az)).push 24 (v3 bx by' bz')).push 24 (v3 0 0 0))
  simp only [szA] at D
  have hE := hide (each_Add (Gen w [(w.heap.size + 1 + 1, 24, v3 0 0 0), (w.heap.size + 1, 24, v3 bx by' bz'), (w.heap.size, 24, v3 ax ay az)]) w.heap.size (w.heap.size + 1) x y z _ (unhide D) (fun _ _ h hb => h.keep hb)
    (fun u hS => clos_Add_X ax ay az bx by' bz' x _ _ u (hS.blk (by repeat (first | exact List.mem_cons_self | apply List.mem_cons_of_mem))) (hS.blk (by repeat (first | exact List.mem_cons_self | apply List.mem_cons_of_mem))) hX) (fun u hS => clos_Add_Y ax ay az bx by' bz' y _ _ u (hS.blk (by repeat (first | exact List.mem_cons_self | apply List.mem_cons_of_mem))) (hS.blk (by repeat (first | exact List.mem_cons_self | apply List.mem_cons_of_mem))) hY) (fun u hS => clos_Add_Z ax ay az bx by' bz' z _ _ u (hS.blk (by repeat (first | exact List.mem_cons_self | apply List.mem_cons_of_mem))) (hS.blk (by repeat (first | exact List.mem_cons_self | apply List.mem_cons_of_mem))) hZ))
  go_wp2_with (first | (go_at_call 49; with_reducible refine (unhide hE).mono ?_; rintro e w' ⟨he, hb⟩; subst he; have D := hide ((unhide D).keep hb); clear hb) | (with_reducible refine at_list ?_; apply stGend (unhide D) rVec _ _ rfl rfl rfl rfl (by repeat (first | exact List.mem_cons_self | apply List.mem_cons_of_mem)) (by omega) rfl rfl (v3_one _ _ _); intro B O))
  exact resG rVec (unhide B) rfl rfl rfl rfl ⟨rfl, unhide O⟩
theorem VAddZ (ax ay az bx by' bz' : Int) (h1 : I64 ax) (h2 : I64 ay) (h3 : I64 az) (h4 : I64 bx) (h5 : I64 by') (h6 : I64 bz') :
    Ans 30 #[.agg (v3 ax ay az), .agg (v3 bx by' bz')] (.agg (v3 (cl (ax + bx)) (cl (ay + by')) (cl (az + bz')))) := fun w =>
  vec_Add_core ax ay az bx by' bz' _ _ _ w (FixAddZ ax bx h1 h4) (FixAddZ ay by' h2 h5) (FixAddZ az bz' h3 h6)

end Go.Proofs.Ytcbepibdeokboaa
