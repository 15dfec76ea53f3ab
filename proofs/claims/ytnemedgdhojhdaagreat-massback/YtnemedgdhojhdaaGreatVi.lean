/- Package vec: Dot over integers; the axes; each with the closures of Add, Sub, Scale. Package vec: Add, Sub, Scale. Package vec: Scale, Move. Package vec: Cross. Package vec: the closure of Cross; Cross over integers. -/
import Derived.Test.YtnemedgdhojhdaaGreatVa
namespace Go.Proofs.YtnemedgdhojhdaaGreat
open Go.RowKit
set_option maxRecDepth 4000
set_option linter.unusedVariables false

theorem v3_one (x y z : Int) : (v3 x y z).all (·.oneCell') = true := by simp [Value.oneCell']
theorem alongX (x y z : Int) : Ans 115 #[.agg (v3 x y z)] (.int .i64 x) := by
  intro w
  go_enter Tryz.func115, Tryz.ntmps115
  go_wp2
  go_ret
  exact ⟨rfl, (Below.refl _ _).alloc (Nat.le_refl _) _⟩
theorem alongY (x y z : Int) : Ans 116 #[.agg (v3 x y z)] (.int .i64 y) := by
  intro w
  go_enter Tryz.func116, Tryz.ntmps116
  go_wp2
  go_ret
  exact ⟨rfl, (Below.refl _ _).alloc (Nat.le_refl _) _⟩
theorem alongZ (x y z : Int) : Ans 117 #[.agg (v3 x y z)] (.int .i64 z) := by
  intro w
  go_enter Tryz.func117, Tryz.ntmps117
  go_wp2
  go_ret
  exact ⟨rfl, (Below.refl _ _).alloc (Nat.le_refl _) _⟩

/-- each, with the closure of Add. -/
theorem each_Add (S : World → Prop) (g0 g1 : Nat) (x y z : Int) (w : World) (hS : S w) (hk : Hid (∀ u u', S u → Below u.heap.size u u' → S u'))
    (hX : Hid (∀ u, S u → Calls Tryz.prog 80 #[.func (Fn.func 115) #[] #[], .pointer (some ⟨g0, 0, none⟩), .pointer (some ⟨g1, 0, none⟩)] u fun e w' => e = .returned (.int .i64 x) ∧ Below u.heap.size u w'))
    (hY : Hid (∀ u, S u → Calls Tryz.prog 80 #[.func (Fn.func 116) #[] #[], .pointer (some ⟨g0, 0, none⟩), .pointer (some ⟨g1, 0, none⟩)] u fun e w' => e = .returned (.int .i64 y) ∧ Below u.heap.size u w'))
    (hZ : Hid (∀ u, S u → Calls Tryz.prog 80 #[.func (Fn.func 117) #[] #[], .pointer (some ⟨g0, 0, none⟩), .pointer (some ⟨g1, 0, none⟩)] u fun e w' => e = .returned (.int .i64 z) ∧ Below u.heap.size u w')) :
    Calls Tryz.prog 79 #[.func (Fn.func 80) #[] #[.pointer (some ⟨g0, 0, none⟩), .pointer (some ⟨g1, 0, none⟩)]] w fun e w' => e = .returned (.agg (v3 x y z)) ∧ Below w.heap.size w w' := by
  go_enter Tryz.func79, Tryz.ntmps79
  go_upto_region 1 with fail
  have D := hide ((Gen.start w).push 24 (v3 0 0 0))
  have HS := hide (unhide hk _ _ hS ((Below.refl _ w).alloc (Nat.le_refl _) (.cells (v3 0 0 0) 24)))
  clear hS
  go_wp2_with (first | (go_at_call 80; (first | with_reducible refine (unhide hX _ (unhide HS)).mono ?_ | with_reducible refine (unhide hY _ (unhide HS)).mono ?_ | with_reducible refine (unhide hZ _ (unhide HS)).mono ?_); rintro e w' ⟨he, hb⟩; subst he; have D := hide ((unhide D).keep hb); have HS := hide (unhide hk _ _ (unhide HS) hb); clear hb) | (with_reducible refine at_list ?_; apply stGend (unhide D) rVec _ _ rfl rfl rfl rfl (by repeat (first | exact List.mem_cons_self | apply List.mem_cons_of_mem)) (by omega) rfl rfl (v3_one _ _ _); intro B O))
  exact resG rVec (unhide B) rfl rfl rfl rfl ⟨rfl, unhide O⟩

end Go.Proofs.YtnemedgdhojhdaaGreat

namespace Go.Proofs.YtnemedgdhojhdaaGreat
open Go.RowKit
set_option maxRecDepth 4000
set_option linter.unusedVariables false

theorem exec_loadG {o : Oper} {a : Act} {w w0 : World} {l : List (Nat × TypeId × Array Value)} (d : Gen w0 l w) {ty : TypeId} {k g : Nat} {t : TypeId} {cs : Array Value} (hr : Rw ty k) (x : Operand) (ho : o.op = .load ty x) (hx : a.eval x = ptr g) (hm : (g, t, cs) ∈ l) (hk : cs.size = k) :
    (execOp a.eval o).run Tryz.prog w = .ok (.value (.agg cs)) w := by
  obtain ⟨⟨dd, hu, hd⟩, hi⟩ := hr
  unfold execOp
  simp only [ho, hx, Instr.loadAt, Instr.sureAddr, Sem.run_bind, Sem.run_pure, Result.andThen_ok, run_loadVar_row w g t ty cs (0, 0) dd (d.blk hm) hu (by cases dd <;> first | rfl | cases hd) (hk ▸ hi)]
theorem Gen.two {u : World} {g0 g1 : Nat} {t0 t1 : TypeId} {c0 c1 : Array Value} (h0 : Blk u g0 t0 c0) (h1 : Blk u g1 t1 c1) : Gen u [(g0, t0, c0), (g1, t1, c1)] u := by
  refine ⟨fun p hp => ?_, Below.refl _ _⟩
  simp only [List.mem_cons, List.not_mem_nil, or_false] at hp
  rcases hp with rfl | rfl
  · exact h0
  · exact h1

theorem clos_Add_X (ax ay az bx by' bz' r : Int) (g0 g1 : Nat) (u : World) (h0 : Blk u g0 24 (v3 ax ay az)) (h1 : Blk u g1 24 (v3 bx by' bz')) (hF : Hid (Ans 33 #[.int .i64 ax, .int .i64 bx] (.int .i64 r))) :
    Calls Tryz.prog 80 #[.func (Fn.func 115) #[] #[], .pointer (some ⟨g0, 0, none⟩), .pointer (some ⟨g1, 0, none⟩)] u fun e w' => e = .returned (.int .i64 r) ∧ Below u.heap.size u w' := by
  have D := hide (Gen.two h0 h1)
  clear h0 h1
  go_enter Tryz.func80, Tryz.ntmps80
  go_upto_region 1 with fail
  refine region_plan (S := Gen u _) (l := [0, 1, 2, 3, 4, 5, 6, 7]) (by kernel_rfl) (by kernel_rfl) (by kernel_rfl) (by kernel_rfl) (by kernel_rfl) (by kernel_rfl) (by kernel_rfl) (unhide D).drew ?_
  clear D
  refine plan_read (v := ?_) rfl rfl (fun u hS => by go_simp; rfl) ?_
  go_simp
  refine plan_read (v := .agg (v3 ax ay az)) rfl rfl (fun u hS => exec_loadG hS rVec _ rfl rfl (by repeat (first | exact List.mem_cons_self | apply List.mem_cons_of_mem)) rfl) ?_
  go_simp
  refine plan_call (v := .int .i64 ax) (f := 115) (args := #[.agg (v3 ax ay az)]) rfl rfl (fun u hS => by go_simp) (fun u hS => (alongX ax ay az u).mono fun _ _ ⟨he, hb⟩ => ⟨he, hS.keep hb⟩) ?_
  go_simp
  refine plan_read (v := ?_) rfl rfl (fun u hS => by go_simp; rfl) ?_
  go_simp
  refine plan_read (v := .agg (v3 bx by' bz')) rfl rfl (fun u hS => exec_loadG hS rVec _ rfl rfl (by repeat (first | exact List.mem_cons_self | apply List.mem_cons_of_mem)) rfl) ?_
  go_simp
  refine plan_call (v := .int .i64 bx) (f := 115) (args := #[.agg (v3 bx by' bz')]) rfl rfl (fun u hS => by go_simp) (fun u hS => (alongX bx by' bz' u).mono fun _ _ ⟨he, hb⟩ => ⟨he, hS.keep hb⟩) ?_
  go_simp
  refine plan_call (v := .int .i64 r) (f := 33) (args := #[.int .i64 ax, .int .i64 bx]) rfl rfl (fun u hS => by go_simp) (fun u hS => (unhide hF u).mono fun _ _ ⟨he, hb⟩ => ⟨he, hS.keep hb⟩) ?_
  go_simp
  refine plan_read (v := ?_) rfl rfl (fun u hS => by go_simp; rfl) ?_
  go_simp
  refine plan_end (fun u hS => ?_)
  have O := hide hS.o
  clear hS
  go_wp2
  go_ret
  exact ⟨rfl, unhide O⟩

theorem clos_Add_Y (ax ay az bx by' bz' r : Int) (g0 g1 : Nat) (u : World) (h0 : Blk u g0 24 (v3 ax ay az)) (h1 : Blk u g1 24 (v3 bx by' bz')) (hF : Hid (Ans 33 #[.int .i64 ay, .int .i64 by'] (.int .i64 r))) :
    Calls Tryz.prog 80 #[.func (Fn.func 116) #[] #[], .pointer (some ⟨g0, 0, none⟩), .pointer (some ⟨g1, 0, none⟩)] u fun e w' => e = .returned (.int .i64 r) ∧ Below u.heap.size u w' := by
  have D := hide (Gen.two h0 h1)
  clear h0 h1
  go_enter Tryz.func80, Tryz.ntmps80
  go_upto_region 1 with fail
  refine region_plan (S := Gen u _) (l := [0, 1, 2, 3, 4, 5, 6, 7]) (by kernel_rfl) (by kernel_rfl) (by kernel_rfl) (by kernel_rfl) (by kernel_rfl) (by kernel_rfl) (by kernel_rfl) (unhide D).drew ?_
  clear D
  refine plan_read (v := ?_) rfl rfl (fun u hS => by go_simp; rfl) ?_
  go_simp
  refine plan_read (v := .agg (v3 ax ay az)) rfl rfl (fun u hS => exec_loadG hS rVec _ rfl rfl (by repeat (first | exact List.mem_cons_self | apply List.mem_cons_of_mem)) rfl) ?_
  go_simp
  refine plan_call (v := .int .i64 ay) (f := 116) (args := #[.agg (v3 ax ay az)]) rfl rfl (fun u hS => by go_simp) (fun u hS => (alongY ax ay az u).mono fun _ _ ⟨he, hb⟩ => ⟨he, hS.keep hb⟩) ?_
  go_simp
  refine plan_read (v := ?_) rfl rfl (fun u hS => by go_simp; rfl) ?_
  go_simp
  refine plan_read (v := .agg (v3 bx by' bz')) rfl rfl (fun u hS => exec_loadG hS rVec _ rfl rfl (by repeat (first | exact List.mem_cons_self | apply List.mem_cons_of_mem)) rfl) ?_
  go_simp
  refine plan_call (v := .int .i64 by') (f := 116) (args := #[.agg (v3 bx by' bz')]) rfl rfl (fun u hS => by go_simp) (fun u hS => (alongY bx by' bz' u).mono fun _ _ ⟨he, hb⟩ => ⟨he, hS.keep hb⟩) ?_
  go_simp
  refine plan_call (v := .int .i64 r) (f := 33) (args := #[.int .i64 ay, .int .i64 by']) rfl rfl (fun u hS => by go_simp) (fun u hS => (unhide hF u).mono fun _ _ ⟨he, hb⟩ => ⟨he, hS.keep hb⟩) ?_
  go_simp
  refine plan_read (v := ?_) rfl rfl (fun u hS => by go_simp; rfl) ?_
  go_simp
  refine plan_end (fun u hS => ?_)
  have O := hide hS.o
  clear hS
  go_wp2
  go_ret
  exact ⟨rfl, unhide O⟩

theorem clos_Add_Z (ax ay az bx by' bz' r : Int) (g0 g1 : Nat) (u : World) (h0 : Blk u g0 24 (v3 ax ay az)) (h1 : Blk u g1 24 (v3 bx by' bz')) (hF : Hid (Ans 33 #[.int .i64 az, .int .i64 bz'] (.int .i64 r))) :
    Calls Tryz.prog 80 #[.func (Fn.func 117) #[] #[], .pointer (some ⟨g0, 0, none⟩), .pointer (some ⟨g1, 0, none⟩)] u fun e w' => e = .returned (.int .i64 r) ∧ Below u.heap.size u w' := by
  have D := hide (Gen.two h0 h1)
  clear h0 h1
  go_enter Tryz.func80, Tryz.ntmps80
  go_upto_region 1 with fail
  refine region_plan (S := Gen u _) (l := [0, 1, 2, 3, 4, 5, 6, 7]) (by kernel_rfl) (by kernel_rfl) (by kernel_rfl) (by kernel_rfl) (by kernel_rfl) (by kernel_rfl) (by kernel_rfl) (unhide D).drew ?_
  clear D
  refine plan_read (v := ?_) rfl rfl (fun u hS => by go_simp; rfl) ?_
  go_simp
  refine plan_read (v := .agg (v3 ax ay az)) rfl rfl (fun u hS => exec_loadG hS rVec _ rfl rfl (by repeat (first | exact List.mem_cons_self | apply List.mem_cons_of_mem)) rfl) ?_
  go_simp
  refine plan_call (v := .int .i64 az) (f := 117) (args := #[.agg (v3 ax ay az)]) rfl rfl (fun u hS => by go_simp) (fun u hS => (alongZ ax ay az u).mono fun _ _ ⟨he, hb⟩ => ⟨he, hS.keep hb⟩) ?_
  go_simp
  refine plan_read (v := ?_) rfl rfl (fun u hS => by go_simp; rfl) ?_
  go_simp
  refine plan_read (v := .agg (v3 bx by' bz')) rfl rfl (fun u hS => exec_loadG hS rVec _ rfl rfl (by repeat (first | exact List.mem_cons_self | apply List.mem_cons_of_mem)) rfl) ?_
  go_simp
  refine plan_call (v := .int .i64 bz') (f := 117) (args := #[.agg (v3 bx by' bz')]) rfl rfl (fun u hS => by go_simp) (fun u hS => (alongZ bx by' bz' u).mono fun _ _ ⟨he, hb⟩ => ⟨he, hS.keep hb⟩) ?_
  go_simp
  refine plan_call (v := .int .i64 r) (f := 33) (args := #[.int .i64 az, .int .i64 bz']) rfl rfl (fun u hS => by go_simp) (fun u hS => (unhide hF u).mono fun _ _ ⟨he, hb⟩ => ⟨he, hS.keep hb⟩) ?_
  go_simp
  refine plan_read (v := ?_) rfl rfl (fun u hS => by go_simp; rfl) ?_
  go_simp
  refine plan_end (fun u hS => ?_)
  have O := hide hS.o
  clear hS
  go_wp2
  go_ret
  exact ⟨rfl, unhide O⟩

theorem vec_Add_core (ax ay az bx by' bz' x y z : Int) (w : World) (hX : Hid (Ans 33 #[.int .i64 ax, .int .i64 bx] (.int .i64 x))) (hY : Hid (Ans 33 #[.int .i64 ay, .int .i64 by'] (.int .i64 y))) (hZ : Hid (Ans 33 #[.int .i64 az, .int .i64 bz'] (.int .i64 z))) :
    Calls Tryz.prog 43 #[.agg (v3 ax ay az), .agg (v3 bx by' bz')] w fun e w' => e = .returned (.agg (v3 x y z)) ∧ Below w.heap.size w w' := by
  go_enter Tryz.func43, Tryz.ntmps43
  go_upto_region 1 with fail
  have D := hide ((((Gen.start w).push 24 (v3 ax ay az)).push 24 (v3 bx by' bz')).push 24 (v3 0 0 0))
  simp only [szA] at D
  have hE := hide (each_Add (Gen w [(w.heap.size + 1 + 1, 24, v3 0 0 0), (w.heap.size + 1, 24, v3 bx by' bz'), (w.heap.size, 24, v3 ax ay az)]) w.heap.size (w.heap.size + 1) x y z _ (unhide D) (fun _ _ h hb => h.keep hb)
    (fun u hS => clos_Add_X ax ay az bx by' bz' x _ _ u (hS.blk (by repeat (first | exact List.mem_cons_self | apply List.mem_cons_of_mem))) (hS.blk (by repeat (first | exact List.mem_cons_self | apply List.mem_cons_of_mem))) hX) (fun u hS => clos_Add_Y ax ay az bx by' bz' y _ _ u (hS.blk (by repeat (first | exact List.mem_cons_self | apply List.mem_cons_of_mem))) (hS.blk (by repeat (first | exact List.mem_cons_self | apply List.mem_cons_of_mem))) hY) (fun u hS => clos_Add_Z ax ay az bx by' bz' z _ _ u (hS.blk (by repeat (first | exact List.mem_cons_self | apply List.mem_cons_of_mem))) (hS.blk (by repeat (first | exact List.mem_cons_self | apply List.mem_cons_of_mem))) hZ))
  go_wp2_with (first | (go_at_call 79; with_reducible refine (unhide hE).mono ?_; rintro e w' ⟨he, hb⟩; subst he; have D := hide ((unhide D).keep hb); clear hb) | (with_reducible refine at_list ?_; apply stGend (unhide D) rVec _ _ rfl rfl rfl rfl (by repeat (first | exact List.mem_cons_self | apply List.mem_cons_of_mem)) (by omega) rfl rfl (v3_one _ _ _); intro B O))
  exact resG rVec (unhide B) rfl rfl rfl rfl ⟨rfl, unhide O⟩
theorem VAddZ (ax ay az bx by' bz' : Int) (h1 : I64 ax) (h2 : I64 ay) (h3 : I64 az) (h4 : I64 bx) (h5 : I64 by') (h6 : I64 bz') :
    Ans 43 #[.agg (v3 ax ay az), .agg (v3 bx by' bz')] (.agg (v3 (cl (ax + bx)) (cl (ay + by')) (cl (az + bz')))) := fun w =>
  vec_Add_core ax ay az bx by' bz' _ _ _ w (FixAddZ ax bx h1 h4) (FixAddZ ay by' h2 h5) (FixAddZ az bz' h3 h6)

end Go.Proofs.YtnemedgdhojhdaaGreat

namespace Go.Proofs.YtnemedgdhojhdaaGreat
open Go.RowKit
set_option maxRecDepth 4000
set_option linter.unusedVariables false

theorem Gen.three {u : World} {g0 g1 g2 : Nat} {t0 t1 t2 : TypeId} {c0 c1 c2 : Array Value} (h0 : Blk u g0 t0 c0) (h1 : Blk u g1 t1 c1) (h2 : Blk u g2 t2 c2) : Gen u [(g0, t0, c0), (g1, t1, c1), (g2, t2, c2)] u := by
  refine ⟨fun p hp => ?_, Below.refl _ _⟩
  simp only [List.mem_cons, List.not_mem_nil, or_false] at hp
  rcases hp with rfl | rfl | rfl
  · exact h0
  · exact h1
  · exact h2
/-- a, and s times v, brought in. -/
def movI (a v s : Int) : Int := cl ((a * 4294967296 + v * s) / 4294967296)
end Go.Proofs.YtnemedgdhojhdaaGreat

namespace Go.Proofs.YtnemedgdhojhdaaGreat
open Go.RowKit
set_option maxRecDepth 4000
set_option linter.unusedVariables false

structure GenZ (w0 : World) (l : List (Nat × TypeId × Array Value)) (B : Nat) (w : World) : Prop where
  e : Gen w0 l w
  s : B ≤ w.heap.size
theorem GenZ.keep {w0 w w' : World} {l : List (Nat × TypeId × Array Value)} {B : Nat} (d : GenZ w0 l B w) (hb : Below w.heap.size w w') : GenZ w0 l B w' := ⟨d.e.keep hb, Nat.le_trans d.s hb.size⟩
theorem Gen.third {u w0 : World} {g0 g1 g2 : Nat} {t0 t1 t2 : TypeId} {c0 c1 c2 : Array Value} (h0 : Blk u g0 t0 c0) (h1 : Blk u g1 t1 c1) (h2 : Blk u g2 t2 c2) (o : Below w0.heap.size w0 u) : Gen w0 [(g0, t0, c0), (g1, t1, c1), (g2, t2, c2)] u := by
  refine ⟨fun p hp => ?_, o⟩
  simp only [List.mem_cons, List.not_mem_nil, or_false] at hp
  rcases hp with rfl | rfl | rfl
  · exact h0
  · exact h1
  · exact h2
end Go.Proofs.YtnemedgdhojhdaaGreat

namespace Go.Proofs.YtnemedgdhojhdaaGreat
open Go.RowKit
set_option maxRecDepth 4000
set_option linter.unusedVariables false

theorem Gen.four {u : World} {g0 g1 g2 g3 : Nat} {t0 t1 t2 t3 : TypeId} {c0 c1 c2 c3 : Array Value} (h0 : Blk u g0 t0 c0) (h1 : Blk u g1 t1 c1) (h2 : Blk u g2 t2 c2) (h3 : Blk u g3 t3 c3) : Gen u [(g0, t0, c0), (g1, t1, c1), (g2, t2, c2), (g3, t3, c3)] u := by
  refine ⟨fun p hp => ?_, Below.refl _ _⟩
  simp only [List.mem_cons, List.not_mem_nil, or_false] at hp
  rcases hp with rfl | rfl | rfl | rfl
  · exact h0
  · exact h1
  · exact h2
  · exact h3

/-- p q less r s, brought in. -/
def crI (p q r s : Int) : Int := cl ((p * q + -r * s) / 4294967296)
end Go.Proofs.YtnemedgdhojhdaaGreat
