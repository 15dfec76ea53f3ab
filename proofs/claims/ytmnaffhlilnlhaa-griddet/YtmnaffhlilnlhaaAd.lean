/- Package grid: Along. -/
import Derived.Test.YtmnaffhlilnlhaaAc
namespace Go.Proofs.Ytmnaffhlilnlhaa
open Go.RowKit
set_option maxRecDepth 4000
set_option linter.unusedVariables false
attribute [local go_sem] Oper.semAt_some

theorem iBool : (Try.prog.info? 4).map (·.size) = some 1 := by kernel_rfl
/-- A truth into its block. -/
theorem stB {ops : Array Oper} {rest : List Oper} {o : Oper} {a : Act} {w : World} {Q : Exit → Act → World → Prop} {g : Nat} {t : TypeId} {b0 b : Bool} (h0 : Blk w g t #[.bool b0]) (x y : Operand) (ho : o.op = .store 4 x y) (hgd : o.guard = none) (hd : o.dst = none) (hx : a.eval x = ptr g) (hy : a.eval y = .bool b)
    (h : wpList Try.prog ops Q rest a (w.setRow g #[.bool b])) : wpList Try.prog ops Q (o :: rest) a w :=
  wpList_store_oneTo hgd 4 x y ho hd g (.bool b) hx hy rfl t (.bool b0) h0 iBool h
/-- A number and a truth out of their blocks, behind the rounds' block is shut. -/
theorem resWB {fn : Func} {p q : Tmp} {tmps : Array Value} {w : World} {n g h : Nat} {b : Bool} {t1 t2 : TypeId} (b1 : Blk w g t1 (cells8 n)) (b2 : Blk w h t2 #[.bool b]) (hf : fn.results = #[.cell p 40, .cell q 4]) (hp : tmps.getD p undef = ptr g) (hq : tmps.getD q undef = ptr h) :
    (results fn tmps).run Try.prog w = .ok (.tuple #[.agg (cells8 n), .bool b]) w := by
  have hp' : tmps[p]?.getD undef = .pointer (some ⟨g, 0, none⟩) := by simpa using hp
  have hq' : tmps[q]?.getD undef = .pointer (some ⟨h, 0, none⟩) := by simpa using hq
  have hc : w.cell? ⟨h, 0, none⟩ = some (.bool b) := by rw [b2.cell 0]; rfl
  simp [results, hf, hp', hq', asAddr, run_loadVar_row w g t1 40 (cells8 n) (0, 0) _ b1 Try.underlying40 rfl iWide, Result.andThen]
  go_simp

theorem enc0 : cells8 (enc 0) = z8 := by
  have h : enc 0 = 0 := enc_nat (n := 0) M_pos
  rw [h]
  exact cells8_0
theorem z8_size (n : Nat) : z8.size = (cells8 n).size := rfl
theorem at_two {P : Program} {ops : Array Oper} {Q : Exit → Act → World → Prop} {a : Act} {w : World} {o1 o2 : Oper} (h : Stop (wpList P ops Q [o1, o2] a w)) : wpList P ops Q [o1, o2] a w := h
set_option maxRecDepth 100000 in
set_option maxHeartbeats 4000000 in
theorem along_core (x y z : Pr2) (px py pz : Int) (w : World) (hS : Hid (Ans 58 #[.agg (v3 px py pz)] (.agg (c24 (enc x.1.2) (enc y.1.2) (enc z.1.2))))) :
    Calls Try.prog 31 #[.agg (c24 (enc x.1.1) (enc y.1.1) (enc z.1.1)), .agg (v3 px py pz)] w fun e w' =>
      e = .returned (.tuple #[.agg (cells8 (enc ((runA [x, y, z]).getD 0))), .bool (runA [x, y, z]).isSome]) ∧ Below w.heap.size w w' := by
  refine (callsIn_wide (n := 5)).1 (callsIn_of_wp_marks Try.func31 rfl trivial (wpIn_wide.2 ?_) rfl)
  simp only [Try.ntmps31, List.size_toArray, List.length_cons, List.length_nil, Nat.reduceAdd, Nat.reduceSub, Array.replicate_succ, Array.replicate_zero, List.push_toArray, List.append_toArray, List.nil_append, List.cons_append]
  go_upto_region 2 with fail
  rename_i Q' K1 k1 K0 k0
  have D := hide ((((((Gen.start w).push 43 (c24 (enc x.1.1) (enc y.1.1) (enc z.1.1))).push 26 (v3 px py pz)).push 40 z8).push 4 #[.bool false]).push 40 z8)
  simp only [szA] at D
  refine region_walk (S := Gen w _) (l := [0, 1, 2, 3]) (t := [2, 3]) (by kernel_rfl) (by kernel_rfl) (by kernel_rfl) (by kernel_rfl) (by kernel_rfl) (by kernel_rfl) (by kernel_rfl) (by kernel_rfl) (unhide D).drew ?_
  have D0 := (unhide D).drew
  clear D
  refine walk_read (v := .agg (c24 (enc x.1.1) (enc y.1.1) (enc z.1.1))) rfl rfl rfl (fun u hS => exec_ldG hS rSpan _ rfl rfl (by repeat (first | exact List.mem_cons_self | apply List.mem_cons_of_mem)) rfl) ?_
  go_simp
  refine walk_read (v := .agg (v3 px py pz)) rfl rfl rfl (fun u hS => exec_ldG hS rPoint _ rfl rfl (by repeat (first | exact List.mem_cons_self | apply List.mem_cons_of_mem)) rfl) ?_
  go_simp
  refine walk_call (f := 58) (args := #[.agg (v3 px py pz)]) rfl rfl rfl (by go_simp) ?_
  refine (unhide hS _).mono fun e w1 ⟨he, hb⟩ => ?_
  have D1 := D0.keep hb
  refine ⟨_, he, D1, ?_⟩
  clear hb he D0
  go_simp
  refine walk_call (f := 64) (args := #[.agg (c24 (enc x.1.1) (enc y.1.1) (enc z.1.1)), .agg (c24 (enc x.1.2) (enc y.1.2) (enc z.1.2))]) rfl rfl rfl (by go_simp) ?_
  refine (beside_core _ _ _ _ _ _ w1).mono fun e w2 ⟨he, b1, b2, hb⟩ => ?_
  have D2 := D1.keep hb
  refine ⟨_, he, D2, ?_⟩
  have hs1 : w.heap.size + 1 + 1 + 1 + 1 < w1.heap.size := (D1.blk (g := w.heap.size + 1 + 1 + 1 + 1) (by repeat (first | exact List.mem_cons_self | apply List.mem_cons_of_mem))).lt
  have hs2 : w1.heap.size + 1 < w2.heap.size := b2.lt
  clear hb he D1
  have D := hide D2
  have B1 := hide b1
  have B2 := hide b2
  clear D2 b1 b2
  go_simp
  refine walk_end ?_
  refine k0 _ _ ((wpIn_wide (n := 5)).1 (wpIn_block ?_))
  refine wpIn_rangeFunc_ownH rfl (by decide) (gf := 94) (lb := #[ptr w1.heap.size, ptr (w1.heap.size + 1)]) rfl trivial (enters_of Try.func94 (by kernel_rfl) rfl)
    (beside_stops x y z w1.heap.size (w1.heap.size + 1) w2 B1 B2 4 (by decide)) keeps2_t (keeps2_b (by omega) (by omega)) (Below.refl _ _) (fun _ => rfl)
    (fun pre W => ∃ t, runA pre = some t ∧ Fit t ∧ Gen w [(w.heap.size + 1 + 1 + 1 + 1, 40, cells8 (enc t)), (w.heap.size + 1 + 1 + 1, 4, #[.bool false]), (w.heap.size + 1 + 1, 40, z8)] W)
    (fun c pre W => c = .ret ∧ runA pre = none ∧ Gen w [(w.heap.size + 1 + 1 + 1, 4, #[.bool false]), (w.heap.size + 1 + 1, 40, cells8 0)] W)
    (fun s A B row ⟨t, h1, h2, h3⟩ hg hr => ⟨t, h1, h2, gen_own (f := fun (_ : Unit) => _) (by omega) () A B row h3 hg hr⟩)
    (fun c s A B row ⟨h1, h2, h3⟩ hg hr => ⟨h1, h2, gen_own (f := fun (_ : Unit) => _) (by omega) () A B row h3 hg hr⟩)
    ⟨0, rfl, fit_zero, ⟨fun p hp => by
      simp only [List.mem_cons, List.not_mem_nil, or_false] at hp
      rcases hp with rfl | rfl | rfl
      · rw [enc0]
        exact (unhide D).blk (by repeat (first | exact List.mem_cons_self | apply List.mem_cons_of_mem))
      · exact (unhide D).blk (by repeat (first | exact List.mem_cons_self | apply List.mem_cons_of_mem))
      · exact (unhide D).blk (by repeat (first | exact List.mem_cons_self | apply List.mem_cons_of_mem)), (unhide D).o⟩⟩
    (fun p a' W => ∃ bx b_y, Blk W bx 40 (cells8 (enc p.1.1)) ∧ Blk W b_y 40 (cells8 (enc p.1.2)) ∧ a' = { tmps := #[.agg (c24 (enc x.1.1) (enc y.1.1) (enc z.1.1)), .agg (v3 px py pz), ptr w.heap.size, ptr (w.heap.size + 1), ptr (w.heap.size + 1 + 1), ptr (w.heap.size + 1 + 1 + 1), ptr (w.heap.size + 1 + 1 + 1 + 1), ptr bx, ptr b_y, undef, undef, .agg (c24 (enc x.1.1) (enc y.1.1) (enc z.1.1)), .agg (v3 px py pz), .agg (c24 (enc x.1.2) (enc y.1.2) (enc z.1.2)), .func (Fn.func 94) #[] #[ptr w1.heap.size, ptr (w1.heap.size + 1)], .agg (cells8 (enc p.1.1)), .agg (cells8 (enc p.1.2)), undef, undef, undef, undef, undef, undef, undef, undef, undef, undef, undef, undef, undef, undef, undef, undef, undef, undef, undef], defers := [] })
    (fun p a' _ A B row ⟨bx, b_y, h1, h2, h3⟩ hg hr => ⟨bx, b_y, h1.turned hg (fun r e => (hr r e).2), h2.turned hg (fun r e => (hr r e).2), h3⟩)
    ?assign ?body ?done ?stop
  case assign =>
    rintro l pre p W K ⟨t, h1, h2, h3⟩ hK
    clear D B1 B2
    have D := hide (Gen.start W)
    refine wpIn_seq (round_region rfl (fun ⟨_, _, h⟩ => h) ?_)
    go_wp2_with (first | (with_reducible refine at_list ?_; refine stG (unhide D) rWide _ _ rfl rfl rfl rfl rfl rfl (cells8_one _) ?_; intro D'; have D := hide D'; clear D'))
    generalize W.alloc (.cells (cells8 (enc p.1.1)) 40) = W2 at D ⊢
    refine round_region rfl (fun ⟨_, _, h⟩ => h) ?_
    go_wp2_with (first | (with_reducible refine at_list ?_; refine stG (unhide D) rWide _ _ rfl rfl rfl rfl rfl rfl (cells8_one _) ?_; intro D'; have D := hide D'; clear D'))
    have hb := (unhide D).o
    exact hK _ _ (Below.keepsFrom hb) (keeps2_below hb) ⟨t, h1, h2, h3.keep hb⟩ ⟨_, _, (unhide D).blk (by repeat (first | exact List.mem_cons_self | apply List.mem_cons_of_mem)), (unhide D).blk (by repeat (first | exact List.mem_cons_self | apply List.mem_cons_of_mem)), rfl⟩
  case body =>
    rintro l pre p a' W _ _ ⟨t, h1, h2, h3⟩ ⟨bx, b_y, hbx, hby, rfl⟩ _
    clear D B1 B2
    have D : Hid (Gen W [(w.heap.size + 1 + 1 + 1 + 1, 40, cells8 (enc t)), (w.heap.size + 1 + 1 + 1, 4, #[.bool false]), (w.heap.size + 1 + 1, 40, z8), (bx, 40, cells8 (enc p.1.1)), (b_y, 40, cells8 (enc p.1.2))] W) := ⟨fun q hq => by
      simp only [List.mem_cons, List.not_mem_nil, or_false] at hq
      rcases hq with rfl | rfl | rfl | rfl | rfl
      · exact h3.blk (by repeat (first | exact List.mem_cons_self | apply List.mem_cons_of_mem))
      · exact h3.blk (by repeat (first | exact List.mem_cons_self | apply List.mem_cons_of_mem))
      · exact h3.blk (by repeat (first | exact List.mem_cons_self | apply List.mem_cons_of_mem))
      · exact hbx
      · exact hby, Below.refl _ _⟩
    clear hbx hby
    have hM := hide (fun u => MulZ p.1.1 p.1.2 p.2.1 p.2.2 u)
    refine wpIn_block (wpIn_seq (round_region rfl (fun ⟨_, _, h⟩ => h) ?_))
    cases hf : fit (p.1.1 * p.1.2)
    · rw [toldZ_not hf] at hM
      go_wp2_with (first | (with_reducible refine at_list ?_; apply ldG (unhide D) rWide _ rfl rfl rfl (by repeat (first | exact List.mem_cons_self | apply List.mem_cons_of_mem)) rfl) | (go_at_call 65; with_reducible refine (unhide hM _).mono ?_; rintro e w' ⟨he, hb⟩; subst he; have D := hide ((unhide D).keep hb); clear hb) | (with_reducible refine at_list ?_; refine stG (unhide D) rWide _ _ rfl rfl rfl rfl rfl rfl (cells8_one _) ?_; intro D'; have D := hide D'; clear D'))
      refine wpIn_seq (wpIn_seq (round_region rfl (fun ⟨_, _, h⟩ => h) ?_))
      go_wp2
      refine wpIn_cond_true rfl ?_
      refine wpIn_seq (round_region rfl (fun ⟨_, _, h⟩ => h) ?_)
      refine bd0 40 rfl rfl bWide0 ?_
      have H4 := hide ((unhide D).blk (g := w.heap.size + 1 + 1) (by repeat (first | exact List.mem_cons_self | apply List.mem_cons_of_mem)))
      have H5 := hide ((unhide D).blk (g := w.heap.size + 1 + 1 + 1) (by repeat (first | exact List.mem_cons_self | apply List.mem_cons_of_mem)))
      have HB := hide (unhide D).o
      clear D
      refine wpList_store_row rfl 40 _ _ rfl (w.heap.size + 1 + 1) (cells8 0) rfl rfl 40 z8 (unhide H4) iWide (z8_size 0) (cells8_one _) ?_
      refine stB ((unhide H5).rowOther _ (by omega)) _ _ rfl rfl rfl rfl rfl ?_
      refine wpIn_ret ?_
      refine ⟨((Below.keepsFrom (unhide HB)).trans (KeepsFrom.row (unhide H4))).trans (KeepsFrom.row ((unhide H5).rowOther _ (by omega))), rfl, ?_, ⟨fun q hq => ?_, below_row (below_row (h3.o.trans ((unhide HB).mono h3.o.size)) (by omega) _) (by omega) _⟩⟩
      · rw [runA_snoc, h1]
        simp [hf]
      · simp only [List.mem_cons, List.not_mem_nil, or_false] at hq
        rcases hq with rfl | rfl
        · exact ((unhide H5).rowOther _ (by omega)).row _
        · exact ((unhide H4).row _).rowOther _ (by omega)
    · rw [toldZ_fit (Fit.of hf)] at hM
      go_wp2_with (first | (with_reducible refine at_list ?_; apply ldG (unhide D) rWide _ rfl rfl rfl (by repeat (first | exact List.mem_cons_self | apply List.mem_cons_of_mem)) rfl) | (go_at_call 65; with_reducible refine (unhide hM _).mono ?_; rintro e w' ⟨he, hb⟩; subst he; have D := hide ((unhide D).keep hb); clear hb) | (with_reducible refine at_list ?_; refine stG (unhide D) rWide _ _ rfl rfl rfl rfl rfl rfl (cells8_one _) ?_; intro D'; have D := hide D'; clear D'))
      clear hM
      refine wpIn_seq (wpIn_seq (round_region rfl (fun ⟨_, _, h⟩ => h) ?_))
      go_wp2
      refine wpIn_cond_false rfl (wpIn_skip ?_)
      have hA := hide (fun u => AddZ t (p.1.1 * p.1.2) h2 (Fit.of hf) u)
      refine wpIn_seq (round_region rfl (fun ⟨_, _, h⟩ => h) ?_)
      cases ha : fit (t + p.1.1 * p.1.2)
      · rw [toldZ_not ha] at hA
        dsimp only [V] at hA
        generalize enc 0 = n0 at hA
        go_wp2_with (first | (with_reducible refine at_list ?_; apply ldG (unhide D) rWide _ rfl rfl rfl (by repeat (first | exact List.mem_cons_self | apply List.mem_cons_of_mem)) rfl) | (go_at_call 66; with_reducible refine (unhide hA _).mono ?_; rintro e w' ⟨he, hb⟩; subst he; have D := hide ((unhide D).keep hb); clear hb) | (with_reducible refine at_two ?_))
        unfold Stop
        have H4 := hide ((unhide D).blk (g := w.heap.size + 1 + 1) (by repeat (first | exact List.mem_cons_self | apply List.mem_cons_of_mem)))
        have H5 := hide ((unhide D).blk (g := w.heap.size + 1 + 1 + 1) (by repeat (first | exact List.mem_cons_self | apply List.mem_cons_of_mem)))
        have H6 := hide ((unhide D).blk (g := w.heap.size + 1 + 1 + 1 + 1) (by repeat (first | exact List.mem_cons_self | apply List.mem_cons_of_mem)))
        have HB := hide (unhide D).o
        clear D
        refine wpList_store_row rfl 40 _ _ rfl (w.heap.size + 1 + 1 + 1 + 1) (cells8 n0) rfl rfl 40 _ (unhide H6) iWide rfl (cells8_one _) ?_
        go_wp2
        refine wpIn_seq (round_region rfl (fun ⟨_, _, h⟩ => h) ?_)
        go_wp2
        refine wpIn_cond_true rfl ?_
        refine wpIn_seq (round_region rfl (fun ⟨_, _, h⟩ => h) ?_)
        refine bd0 40 rfl rfl bWide0 ?_
        have H4' := hide ((unhide H4).rowOther (g := w.heap.size + 1 + 1) (k := w.heap.size + 1 + 1 + 1 + 1) (cells8 n0) (by omega))
        have H5' := hide ((unhide H5).rowOther (k := w.heap.size + 1 + 1 + 1 + 1) (cells8 n0) (by omega))
        refine wpList_store_row rfl 40 _ _ rfl (w.heap.size + 1 + 1) (cells8 0) rfl rfl 40 z8 (unhide H4') iWide (z8_size 0) (cells8_one _) ?_
        refine stB ((unhide H5').rowOther _ (by omega)) _ _ rfl rfl rfl rfl rfl ?_
        refine wpIn_ret ?_
        refine ⟨(((Below.keepsFrom (unhide HB)).trans (KeepsFrom.row (unhide H6))).trans (KeepsFrom.row (unhide H4'))).trans (KeepsFrom.row ((unhide H5').rowOther _ (by omega))), rfl, ?_, ⟨fun q hq => ?_, below_row (below_row (below_row (h3.o.trans ((unhide HB).mono h3.o.size)) (by omega) _) (by omega) _) (by omega) _⟩⟩
        · rw [runA_snoc, h1]
          simp [hf, ha]
        · simp only [List.mem_cons, List.not_mem_nil, or_false] at hq
          rcases hq with rfl | rfl
          · exact ((unhide H5').rowOther _ (by omega)).row _
          · exact ((unhide H4').row _).rowOther _ (by omega)
      · rw [toldZ_fit (Fit.of ha)] at hA
        go_wp2_with (first | (with_reducible refine at_list ?_; apply ldG (unhide D) rWide _ rfl rfl rfl (by repeat (first | exact List.mem_cons_self | apply List.mem_cons_of_mem)) rfl) | (go_at_call 66; with_reducible refine (unhide hA _).mono ?_; rintro e w' ⟨he, hb⟩; subst he; have D := hide ((unhide D).keep hb); clear hb) | (with_reducible refine at_two ?_))
        unfold Stop
        have H4 := hide ((unhide D).blk (g := w.heap.size + 1 + 1) (by repeat (first | exact List.mem_cons_self | apply List.mem_cons_of_mem)))
        have H5 := hide ((unhide D).blk (g := w.heap.size + 1 + 1 + 1) (by repeat (first | exact List.mem_cons_self | apply List.mem_cons_of_mem)))
        have H6 := hide ((unhide D).blk (g := w.heap.size + 1 + 1 + 1 + 1) (by repeat (first | exact List.mem_cons_self | apply List.mem_cons_of_mem)))
        have HB := hide (unhide D).o
        clear D
        refine wpList_store_row rfl 40 _ _ rfl (w.heap.size + 1 + 1 + 1 + 1) (cells8 (enc (t + p.1.1 * p.1.2))) rfl rfl 40 _ (unhide H6) iWide rfl (cells8_one _) ?_
        go_wp2
        refine wpIn_seq (round_region rfl (fun ⟨_, _, h⟩ => h) ?_)
        go_wp2
        refine wpIn_cond_false rfl (wpIn_skip ?_)
        refine ⟨(Below.keepsFrom (unhide HB)).trans (KeepsFrom.row (unhide H6)), keeps2_t (keeps2_below (unhide HB)) (keeps2_row (by omega) (by omega) _), _, ?_, Fit.of ha, ⟨fun q hq => ?_, below_row (h3.o.trans ((unhide HB).mono h3.o.size)) (by omega) _⟩⟩
        · rw [runA_snoc, h1]
          simp [hf, ha]
        · simp only [List.mem_cons, List.not_mem_nil, or_false] at hq
          rcases hq with rfl | rfl | rfl
          · exact (unhide H6).row _
          · exact (unhide H5).rowOther _ (by omega)
          · exact (unhide H4).rowOther _ (by omega)
  case done =>
    rintro Df xs W hD rfl ⟨t, h1, h2, h3⟩ hK
    clear D B1 B2
    refine k1 _ _ ?_
    have hd := hide hD
    have hk := hide hK
    have H := hide h3
    clear hD hK h3
    refine (wp_seq (wp_region_lit ?_))
    go_wp2_with (first | (with_reducible refine at_list ?_;  apply ldG (unhide H) rWide _ rfl rfl rfl (by repeat (first | exact List.mem_cons_self | apply List.mem_cons_of_mem)) rfl) | (with_reducible refine at_two ?_))
    unfold Stop
    have H4 := hide ((unhide H).blk (g := w.heap.size + 1 + 1) (by repeat (first | exact List.mem_cons_self | apply List.mem_cons_of_mem)))
    have H5 := hide ((unhide H).blk (g := w.heap.size + 1 + 1 + 1) (by repeat (first | exact List.mem_cons_self | apply List.mem_cons_of_mem)))
    refine wpList_store_row rfl 40 _ _ rfl (w.heap.size + 1 + 1) (cells8 (enc t)) rfl rfl 40 z8 (unhide H4) iWide rfl (cells8_one _) ?_
    refine stB ((unhide H5).rowOther _ (by omega)) _ _ rfl rfl rfl rfl rfl ?_
    have h3 : Gen w [(w.heap.size + 1 + 1 + 1, 4, #[.bool true]), (w.heap.size + 1 + 1, 40, cells8 (enc t))] ((W.setRow (w.heap.size + 1 + 1) (cells8 (enc t))).setRow (w.heap.size + 1 + 1 + 1) #[.bool true]) := ⟨fun q hq => by
      simp only [List.mem_cons, List.not_mem_nil, or_false] at hq
      rcases hq with rfl | rfl
      · exact ((unhide H5).rowOther _ (by omega)).row _
      · exact ((unhide H4).row _).rowOther _ (by omega), below_row (below_row (unhide H).o (by omega) _) (by omega) _⟩
    have hK : ((W.setRow (w.heap.size + 1 + 1) (cells8 (enc t))).setRow (w.heap.size + 1 + 1 + 1) #[.bool true]).heap[Df]? = some (.deferred (some [])) := by
      have := unhide hd
      rw [setRow_other _ _ _ _ (by omega), setRow_other _ _ _ _ (by omega)]
      exact unhide hk
    clear H H4 H5 hk
    generalize (W.setRow (w.heap.size + 1 + 1) (cells8 (enc t))).setRow (w.heap.size + 1 + 1 + 1) #[.bool true] = W3 at h3 hK ⊢
    refine wp_ret ?_
    refine ⟨by simp, .inl ⟨_, _, rfl, run_takeDeferred hK, ?_⟩⟩
    have h4 : Gen w _ (W3.putObj Df (.deferred none)) := gen_own (f := fun (_ : Unit) => _) (B := w2.heap.size) (by omega) () W3 _ _ h3 (grownBy_putObj' _ _ _) (fun r e => by cases e; exact ⟨unhide hd, _, hK, rfl⟩)
    refine ⟨_, resWB (h4.blk (by repeat (first | exact List.mem_cons_self | apply List.mem_cons_of_mem))) (h4.blk (by repeat (first | exact List.mem_cons_self | apply List.mem_cons_of_mem))) rfl rfl rfl, ?_, h4.o⟩
    rw [h1]
    rfl
  case stop =>
    rintro Df c pre W hD hp ⟨rfl, h1, h3⟩ hK
    refine wpIn_ret ?_
    refine ⟨by simp, .inl ⟨_, _, rfl, run_takeDeferred hK, ?_⟩⟩
    have h4 : Gen w _ (W.putObj Df (.deferred none)) := gen_own (f := fun (_ : Unit) => _) (B := w2.heap.size) (by omega) () W _ _ h3 (grownBy_putObj' _ _ _) (fun r e => by cases e; exact ⟨hD, _, hK, rfl⟩)
    refine ⟨_, resWB (h4.blk (by repeat (first | exact List.mem_cons_self | apply List.mem_cons_of_mem))) (h4.blk (by repeat (first | exact List.mem_cons_self | apply List.mem_cons_of_mem))) rfl rfl rfl, ?_, h4.o⟩
    rw [runA_none h1 hp]
    rfl

def stp (s : Option Int) (a b : Int) : Option Int := s.bind fun t => if fit (a * b) && fit (t + a * b) then some (t + a * b) else none
/-- How far along: the sum of the products, where all fits. -/
def aloI (x y z p q r : Int) : Option Int := stp (stp (stp (some 0) x p) y q) z r
theorem stp_some {t a b : Int} (h1 : Fit (a * b)) (h2 : Fit (t + a * b)) : stp (some t) a b = some (t + a * b) := by
  unfold stp
  simp [fit_true h1, fit_true h2]
theorem AlongZ (x y z p q r : Int) (hx : Fit x) (hy : Fit y) (hz : Fit z) (hp : I64 p) (hq : I64 q) (hr : I64 r) :
    Ans 31 #[.agg (c24 (enc x) (enc y) (enc z)), .agg (v3 p q r)] (.tuple #[V ((aloI x y z p q r).getD 0), .bool (aloI x y z p q r).isSome]) := fun w =>
  along_core ⟨(x, p), hx, hp.fit⟩ ⟨(y, q), hy, hq.fit⟩ ⟨(z, r), hz, hr.fit⟩ p q r w (SpanZ p q r hp hq hr)
theorem aloI_small {x y z p q r : Int} (hx : Sz 200 x) (hy : Sz 200 y) (hz : Sz 200 z) (hp : I64 p) (hq : I64 q) (hr : I64 r) : aloI x y z p q r = some (x * p + y * q + z * r) := by
  have a1 := hx.mul hp.sz
  have a2 := hy.mul hq.sz
  have a3 := hz.mul hr.sz
  have s1 := a1.add a2
  have s2 := s1.add (a3.mono (show 263 ≤ 264 by decide))
  unfold aloI
  rw [stp_some (a1.fit (by decide)) (by rw [Int.zero_add]; exact a1.fit (by decide)), Int.zero_add, stp_some (a2.fit (by decide)) (s1.fit (by decide)), stp_some (a3.fit (by decide)) (s2.fit (by decide))]
theorem AlongS (x y z p q r : Int) (hx : Sz 200 x) (hy : Sz 200 y) (hz : Sz 200 z) (hp : I64 p) (hq : I64 q) (hr : I64 r) :
    Ans 31 #[.agg (c24 (enc x) (enc y) (enc z)), .agg (v3 p q r)] (.tuple #[V (x * p + y * q + z * r), .bool true]) := by
  have h := AlongZ x y z p q r (hx.fit (by decide)) (hy.fit (by decide)) (hz.fit (by decide)) hp hq hr
  rw [aloI_small hx hy hz hp hq hr] at h
  exact h

end Go.Proofs.Ytmnaffhlilnlhaa
