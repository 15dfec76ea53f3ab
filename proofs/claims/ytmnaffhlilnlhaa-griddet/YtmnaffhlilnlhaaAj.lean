/- Package grid: Prime over integers; the law's awake. -/
import Derived.Test.YtmnaffhlilnlhaaAi
namespace Go.Proofs.Ytmnaffhlilnlhaa
open Go.RowKit
set_option maxRecDepth 4000
set_option linter.unusedVariables false

/-- A span has a primitive one. -/
def prOk (x y z : Int) : Bool := fit (x.natAbs : Int) && fit (y.natAbs : Int) && fit (z.natAbs : Int) && !decide (wd x y z 3 = 0)
theorem DivP (x : Int) (g : Nat) (hx : Fit x) (hg : (g : Int) < (H : Int)) (h0 : g ≠ 0) : Ans 42 #[V x, V (g : Int)] (.tuple #[V (x / (g : Int)), V (x % (g : Int)), .bool true]) := by
  intro w
  have hH := H_pos
  have k := DivZ x (g : Int) hx ⟨by omega, hg⟩ w
  have e1 : x.fdiv (g : Int) = x / (g : Int) := Int.fdiv_eq_ediv_of_nonneg _ (by omega)
  have e2 : x.fmod (g : Int) = x % (g : Int) := Int.fmod_eq_emod_of_nonneg _ (by omega)
  have e3 : dq x (g : Int) = true := by
    unfold dq
    rw [e1, fit_true (fit_div hx _ (by omega))]
    simp
    omega
  rw [e3, e1, e2] at k
  exact k
theorem PrimeZ (x y z : Int) (hx : Fit x) (hy : Fit y) (hz : Fit z) : Ans 33 #[.agg (c24 (enc x) (enc y) (enc z))]
    (if prOk x y z then .tuple #[.agg (c24 (enc (x / (wd x y z 3 : Nat))) (enc (y / (wd x y z 3 : Nat))) (enc (z / (wd x y z 3 : Nat)))), .bool true] else .tuple #[.agg (c24 0 0 0), .bool false]) := by
  intro w
  have no : ∀ m, m < 3 → (∀ k, k < m → fit ((nth3 x y z k).natAbs : Int) = true) → fit ((nth3 x y z m).natAbs : Int) = false → prOk x y z = false → Calls Try.prog 33 #[.agg (c24 (enc x) (enc y) (enc z))] w fun e w' => e = .returned (.tuple #[.agg (c24 0 0 0), .bool false]) ∧ Below w.heap.size w w' := fun m hm h1 h2 _ => by
    have d := DivisorG x y z hx hy hz m (by omega) h1 (fun _ => h2)
    rw [if_neg (by omega)] at d
    exact prime_no _ _ _ _ w d
  cases f0 : fit (x.natAbs : Int)
  · have hp : prOk x y z = false := by unfold prOk; rw [f0]; rfl
    have k := no 0 (by omega) (fun k hk => absurd hk (by omega)) f0 hp
    rw [hp]
    exact k
  cases f1 : fit (y.natAbs : Int)
  · have hp : prOk x y z = false := by unfold prOk; rw [f0, f1]; rfl
    have k := no 1 (by omega) (fun k hk => (show k = 0 by omega) ▸ f0) f1 hp
    rw [hp]
    exact k
  cases f2 : fit (z.natAbs : Int)
  · have hp : prOk x y z = false := by unfold prOk; rw [f0, f1, f2]; rfl
    have k := no 2 (by omega) (fun k hk => by rcases (show k = 0 ∨ k = 1 by omega) with rfl | rfl; exact f0; exact f1) f2 hp
    rw [hp]
    exact k
  have hall : ∀ k, k < 3 → fit ((nth3 x y z k).natAbs : Int) = true := fun k hk => by
    rcases (show k = 0 ∨ k = 1 ∨ k = 2 by omega) with rfl | rfl | rfl
    · exact f0
    · exact f1
    · exact f2
  have d := DivisorG x y z hx hy hz 3 (by omega) hall (fun h => absurd h (by omega))
  rw [if_pos rfl] at d
  have hl := wd_lt hall 3 (by omega)
  by_cases h0 : wd x y z 3 = 0
  · have hp : prOk x y z = false := by unfold prOk; rw [decide_eq_true h0, Bool.not_true, Bool.and_false]
    rw [decide_eq_true h0] at d
    rw [hp]
    exact prime_no _ _ _ _ w d
  · have hp : prOk x y z = true := by unfold prOk; rw [f0, f1, f2, decide_eq_false h0]; rfl
    rw [decide_eq_false h0] at d
    rw [hp]
    refine prime_ok _ _ _ _ _ _ _ w d (fun u g hb => ?_)
    exact each_prime _ _ _ _ _ _ _ g u hb (fun v b => prime1_core _ _ _ _ g true v b (DivP x _ hx hl h0)) (fun v b => prime1_core _ _ _ _ g true v b (DivP y _ hy hl h0)) (fun v b => prime1_core _ _ _ _ g true v b (DivP z _ hz hl h0))

theorem bSpan2 (x y : Nat) : Try.prog.built 43 [(0, .agg (cells8 x)), (1, .agg (cells8 y))] = some (c24 x y 0) := by kernel_rfl
theorem bdSpan2 {ops : Array Oper} {rest : List Oper} {o : Oper} {a : Act} {w : World} {Q : Exit → Act → World → Prop} (p q : Operand) {x y : Nat} (ho : o.op = .build 43 #[(0, p), (1, q)]) (hgd : o.guard = none) (hx : a.eval p = .agg (cells8 x)) (hy : a.eval q = .agg (cells8 y))
    (h : wpList Try.prog ops Q rest (a.put o.dst (.agg (c24 x y 0))) w) : wpList Try.prog ops Q (o :: rest) a w := wpList_value hgd (exec_build2 w 43 p q ho hx hy (bSpan2 x y)) h
set_option maxHeartbeats 4000000 in
theorem awake6_core (n24 f s two m3 z : Nat) (w : World) (hR : Hid (Ans 14 #[.agg (v3 32768 32767 (-32768))] (.tuple #[.agg (v3 1 0 0), .int .i64 0]))) (hD : Hid (Ans 29 #[.agg (v3 2 0 0), .agg (v3 0 3 0), .agg (v3 0 0 4)] (.agg (cells8 n24))))
    (o4 : Hid (Ans 51 #[.int .i64 4] (.agg (cells8 f)))) (o6 : Hid (Ans 51 #[.int .i64 (-6)] (.agg (cells8 s)))) (hP : Hid (Ans 33 #[.agg (c24 f s 0)] (.tuple #[.agg (c24 two m3 z), .bool true])))
    (o24 : Hid (Ans 51 #[.int .i64 24] (.agg (cells8 n24)))) (o2 : Hid (Ans 51 #[.int .i64 2] (.agg (cells8 two)))) (o3 : Hid (Ans 51 #[.int .i64 (-3)] (.agg (cells8 m3)))) (hC : Hid (Ans 23 #[.agg (v3 0 1 0), .agg (v3 0 0 9)] (.int .i64 1)))
    (h24 : Hid (same n24 n24 = true)) (hz : Hid (same3 two m3 z two m3 0 = true)) (hv : sameV 1 0 0 1 0 0 = true) :
    Calls Try.prog 20 #[] w fun e w' => e = .returned (.bool true) ∧ Below w.heap.size w w' := by
  have D := hide (Gen.start w)
  go_enter Try.func20, Try.ntmps20
  go_upto_region 4 with (first | (go_at_call 14; with_reducible refine (unhide hR _).mono ?_; rintro e w' ⟨he, hb⟩; subst he; have D := hide ((unhide D).keep hb); clear hb) | (go_at_call 29; with_reducible refine (unhide hD _).mono ?_; rintro e w' ⟨he, hb⟩; subst he; have D := hide ((unhide D).keep hb); clear hb) | (go_at_call 51; with_reducible refine (unhide o4 _).mono ?_; rintro e w' ⟨he, hb⟩; subst he; have D := hide ((unhide D).keep hb); clear hb) | (go_at_call 51; with_reducible refine (unhide o6 _).mono ?_; rintro e w' ⟨he, hb⟩; subst he; have D := hide ((unhide D).keep hb); clear hb) | (with_reducible refine at_list ?_;  refine bdSpan2 _ _ rfl rfl rfl rfl ?_) | (go_at_call 33; with_reducible refine (unhide hP _).mono ?_; rintro e w' ⟨he, hb⟩; subst he; have D := hide ((unhide D).keep hb); clear hb) | (with_reducible refine at_list ?_; refine stG (unhide D) rPoint _ _ rfl rfl rfl rfl rfl rfl (v3_one' _ _ _) ?_; intro D'; have D := hide D'; clear D') | (with_reducible refine at_list ?_; refine stG (unhide D) rWide _ _ rfl rfl rfl rfl rfl rfl (cells8_one _) ?_; intro D'; have D := hide D'; clear D') | (with_reducible refine at_list ?_; refine stG (unhide D) rSpan _ _ rfl rfl rfl rfl rfl rfl (c24_one _ _ _) ?_; intro D'; have D := hide D'; clear D'))
  refine region_plan (S := Gen w _) (l := [0, 1, 2, 3, 4, 5, 6, 7, 8, 9, 10, 11, 12, 13, 14, 15, 16, 17, 18, 19, 20, 21, 22, 23, 24, 25, 26, 27, 28]) (by kernel_rfl) (by kernel_rfl) (by kernel_rfl) (by kernel_rfl) (by kernel_rfl) (by kernel_rfl) (by kernel_rfl) (unhide D).drew ?_
  clear D
  refine plan_read (v := ?_) rfl rfl (fun u hS => by go_simp; rfl) ?_
  go_simp
  refine plan_read (v := ?_) rfl rfl (fun u hS => by go_simp; rfl) ?_
  go_simp
  refine plan_read (v := ?_) rfl rfl (fun u hS => by go_simp; rfl) ?_
  go_simp
  refine plan_read (v := .agg (v3 1 0 0)) rfl rfl (fun u hS => exec_ldG hS rPoint _ rfl rfl (by repeat (first | exact List.mem_cons_self | apply List.mem_cons_of_mem)) rfl) ?_
  go_simp
  refine plan_read (v := .agg (v3 1 0 0)) rfl rfl (fun u hS => by go_simp) ?_
  go_simp
  refine plan_read (v := .bool true) rfl rfl (fun u hS => exec_eql_pt u _ _ hv rfl rfl rfl) ?_
  go_simp
  refine plan_read (v := ?_) rfl rfl (fun u hS => by go_simp; rfl) ?_
  go_simp
  refine plan_read (v := ?_) rfl rfl (fun u hS => by go_simp; rfl) ?_
  go_simp
  refine plan_read (v := .agg (cells8 n24)) rfl rfl (fun u hS => exec_ldG hS rWide _ rfl rfl (by repeat (first | exact List.mem_cons_self | apply List.mem_cons_of_mem)) rfl) ?_
  go_simp
  refine plan_call (v := (.agg (cells8 n24))) (f := 51) (args := #[.int .i64 24]) rfl rfl (fun u hS => by go_simp) (fun u hS => (unhide o24 u).mono fun _ _ ⟨he, hb⟩ => ⟨he, hS.keep hb⟩) ?_
  go_simp
  refine plan_read (v := .bool true) rfl rfl (fun u hS => exec_eql_wide_is u _ _ (unhide h24) rfl rfl rfl) ?_
  go_simp
  refine plan_read (v := ?_) rfl rfl (fun u hS => by go_simp; rfl) ?_
  go_simp
  refine plan_read (v := ?_) rfl rfl (fun u hS => by go_simp; rfl) ?_
  go_simp
  refine plan_read (v := ?_) rfl rfl (fun u hS => by go_simp; rfl) ?_
  go_simp
  refine plan_read (v := ?_) rfl rfl (fun u hS => by go_simp; rfl) ?_
  go_simp
  refine plan_read (v := ?_) rfl rfl (fun u hS => by go_simp; rfl) ?_
  go_simp
  refine plan_read (v := .agg (c24 two m3 z)) rfl rfl (fun u hS => exec_ldG hS rSpan _ rfl rfl (by repeat (first | exact List.mem_cons_self | apply List.mem_cons_of_mem)) rfl) ?_
  go_simp
  refine plan_call (v := (.agg (cells8 two))) (f := 51) (args := #[.int .i64 2]) rfl rfl (fun u hS => by go_simp) (fun u hS => (unhide o2 u).mono fun _ _ ⟨he, hb⟩ => ⟨he, hS.keep hb⟩) ?_
  go_simp
  refine plan_call (v := (.agg (cells8 m3))) (f := 51) (args := #[.int .i64 (-3)]) rfl rfl (fun u hS => by go_simp) (fun u hS => (unhide o3 u).mono fun _ _ ⟨he, hb⟩ => ⟨he, hS.keep hb⟩) ?_
  go_simp
  refine plan_read (v := .agg (c24 two m3 0)) rfl rfl (fun u hS => exec_build2 u 43 _ _ rfl rfl rfl (bSpan2 _ _)) ?_
  go_simp
  refine plan_read (v := .bool true) rfl rfl (fun u hS => exec_eql_span u _ _ (unhide hz) rfl rfl rfl) ?_
  go_simp
  refine plan_read (v := ?_) rfl rfl (fun u hS => by go_simp; rfl) ?_
  go_simp
  refine plan_read (v := ?_) rfl rfl (fun u hS => by go_simp; rfl) ?_
  go_simp
  refine plan_read (v := .agg (v3 0 1 0)) rfl rfl (fun u hS => by go_simp) ?_
  go_simp
  refine plan_read (v := .agg (v3 0 0 9)) rfl rfl (fun u hS => by go_simp) ?_
  go_simp
  refine plan_call (v := (.int .i64 1)) (f := 23) (args := #[.agg (v3 0 1 0), .agg (v3 0 0 9)]) rfl rfl (fun u hS => by go_simp) (fun u hS => (unhide hC u).mono fun _ _ ⟨he, hb⟩ => ⟨he, hS.keep hb⟩) ?_
  go_simp
  refine plan_read (v := ?_) rfl rfl (fun u hS => by go_simp; rfl) ?_
  go_simp
  refine plan_read (v := ?_) rfl rfl (fun u hS => by go_simp; rfl) ?_
  go_simp
  refine plan_read (v := ?_) rfl rfl (fun u hS => by go_simp; rfl) ?_
  go_simp
  refine plan_end (fun u hS => ?_)
  have O := hide hS.o
  clear hS
  go_wp2
  go_ret
  exact ⟨rfl, unhide O⟩
theorem enc_0 : enc 0 = 0 := rfl
theorem awake6Z : Ans 20 #[] (.bool true) := fun w => by
  have i64 : ∀ {z : Int}, -9223372036854775808 ≤ z ∧ z < 9223372036854775808 → I64 z := fun h => h
  have hR := RoundZ 32768 32767 (-32768) ⟨by decide, by decide⟩ ⟨by decide, by decide⟩ ⟨by decide, by decide⟩
  rw [show near 32768 = 1 from rfl, show near 32767 = 0 from rfl, show near (-32768) = 0 from rfl, if_pos (by decide)] at hR
  have hD := Det6Z 2 0 0 0 3 0 0 0 4 ⟨by decide, by decide⟩ ⟨by decide, by decide⟩ ⟨by decide, by decide⟩ ⟨by decide, by decide⟩ ⟨by decide, by decide⟩ ⟨by decide, by decide⟩ ⟨by decide, by decide⟩ ⟨by decide, by decide⟩ ⟨by decide, by decide⟩
  rw [show detI 2 0 0 0 3 0 0 0 4 = 24 from rfl] at hD
  have of : ∀ z : Int, I64 z → Ans 51 #[.int .i64 z] (V z) := fun z h u => OfZ z h.1 h.2 u
  have hw : wd 4 (-6) 0 3 = 2 := by decide
  have hP := PrimeZ 4 (-6) 0 (I64.fit ⟨by decide, by decide⟩) (I64.fit ⟨by decide, by decide⟩) fit_zero
  have hok : prOk 4 (-6) 0 = true := by
    unfold prOk
    rw [hw, fit_true (I64.fit ⟨by decide, by decide⟩), fit_true (I64.fit ⟨by decide, by decide⟩), fit_true (I64.fit ⟨by decide, by decide⟩)]
    rfl
  rw [hok, hw] at hP
  have hC := CmpZ6 0 1 0 0 0 9
  rw [show cmpP 0 1 0 0 0 9 = 1 from rfl] at hC
  refine awake6_core (enc 24) (enc 4) (enc (-6)) (enc 2) (enc (-3)) (enc 0) w hR hD (of 4 ⟨by decide, by decide⟩) (of (-6) ⟨by decide, by decide⟩) hP (of 24 ⟨by decide, by decide⟩) (of 2 ⟨by decide, by decide⟩) (of (-3) ⟨by decide, by decide⟩) hC (same_self _) ?_ (by decide)
  unfold same3
  rw [same_self, same_self, enc_0, same_self]
  rfl

end Go.Proofs.Ytmnaffhlilnlhaa
