/- Integers of 512 bits: what an integer is as eight limbs, and which integers fit. No Go in this text. The contract of face of package wide: what a function finds, or 0 and false where it leaves by panic. The contracts of the faces of package wide: what each hands to face, and each by its inner function's contract. -/
import Derived.Test.YtnemedgdhojhdaaGreatWe
import Derived.Test.YtnemedgdhojhdaaGreatWv
import Derived.Test.YtnemedgdhojhdaaGreatWj
import Derived.Defers
import Derived.Recover
namespace Go.Proofs.YtnemedgdhojhdaaGreat
open Go.RowKit
set_option maxRecDepth 4000

/-- 2^511. -/
def H : Nat := 6703903964971298549787012499102923063739682910296196688861780721860882015036773488400937149083451713845015929093243025426876941405973284973216824503042048
theorem M_H : M = 2 * H := by decide
theorem H_pos : 0 < H := by decide
theorem M_pos : 0 < M := by decide
theorem MI : (M : Int) = 2 * (H : Int) := by have := M_H; omega

/-- It is a number of 512 bits. -/
def Fit (z : Int) : Prop := -(H : Int) ≤ z ∧ z < (H : Int)
def fit (z : Int) : Bool := decide (-(H : Int) ≤ z ∧ z < (H : Int))
theorem fit_true {z : Int} (h : Fit z) : fit z = true := by simp only [fit, decide_eq_true_eq]; exact h
theorem Fit.of {z : Int} (h : fit z = true) : Fit z := by
  have h2 : -(H : Int) ≤ z ∧ z < (H : Int) := by simpa only [fit, decide_eq_true_eq] using h
  exact h2

/-- The integer as a natural number below 2^512. -/
def enc (z : Int) : Nat := (z % (M : Int)).toNat
theorem enc_int (z : Int) : (enc z : Int) = z % (M : Int) := by
  unfold enc
  have := Int.emod_nonneg z (show (M : Int) ≠ 0 by have := M_pos; omega)
  omega
theorem enc_lt (z : Int) : enc z < M := by
  have h1 := enc_int z
  have h2 := Int.emod_lt_of_pos z (show 0 < (M : Int) by have := M_pos; omega)
  omega
theorem enc_nn {z : Int} (h0 : 0 ≤ z) (h : z < (M : Int)) : (enc z : Int) = z := by rw [enc_int, Int.emod_eq_of_lt h0 h]
theorem enc_neg {z : Int} (h0 : z < 0) (h : -(M : Int) ≤ z) : (enc z : Int) = z + (M : Int) := by
  rw [enc_int, ← Int.add_emod_right, Int.emod_eq_of_lt (by omega) (by omega)]
theorem enc_nat {n : Nat} (h : n < M) : enc (n : Int) = n := by have := enc_nn (z := (n : Int)) (by omega) (by omega); omega

theorem cells8_congr {n m : Nat} (h : n % M = m % M) : cells8 n = cells8 m := by
  have h1 := W_mod n
  have h2 := W_mod m
  rw [h] at h1
  rw [h1] at h2
  simpa [W] using h2
/-- What is the same as z but for multiples of 2^512 has the cells of z. -/
theorem cells8_enc {n : Nat} {z : Int} (h : (n : Int) % (M : Int) = z % (M : Int)) : cells8 n = cells8 (enc z) := by
  apply cells8_congr
  have h1 := enc_int z
  have h2 : ((n % M : Nat) : Int) = (n : Int) % (M : Int) := Int.natCast_emod n M
  rw [Nat.mod_eq_of_lt (enc_lt z)]
  omega

/-- The integer as a value. -/
abbrev V (z : Int) : Value := .agg (cells8 (enc z))

theorem neg_of {n : Nat} {z : Int} (h : (n : Int) % (M : Int) = z % (M : Int)) (h0 : -(M : Int) ≤ z) (h1 : z < (M : Int)) :
    neg n = decide ((H : Int) ≤ z ∨ (z < 0 ∧ -(H : Int) ≤ z)) := by
  unfold neg
  have hm := M_H
  have h2 : ((n % M : Nat) : Int) = (n : Int) % (M : Int) := Int.natCast_emod n M
  rw [h] at h2
  have hd : M / 2 = H := by omega
  rw [hd]
  congr 1
  apply propext
  rcases (show z < 0 ∨ 0 ≤ z by omega) with hz | hz
  · have := enc_neg hz h0
    rw [enc_int] at this
    omega
  · have := enc_nn hz h1
    rw [enc_int] at this
    omega
theorem neg_enc {z : Int} (h : Fit z) : neg (enc z) = decide (z < 0) := by
  have h2 := MI
  obtain ⟨ha, hb⟩ := h
  rw [neg_of (z := z) (by rw [enc_int, Int.emod_emod]) (by omega) (by omega)]
  congr 1
  apply propext
  omega
theorem same_of {n m : Nat} {x y : Int} (hn : (n : Int) % (M : Int) = x % (M : Int)) (hm : (m : Int) % (M : Int) = y % (M : Int)) (hx : Fit x) (hy : Fit y) : same n m = decide (x = y) := by
  unfold same
  have h1 : ((n % M : Nat) : Int) = (n : Int) % (M : Int) := Int.natCast_emod n M
  have h2 : ((m % M : Nat) : Int) = (m : Int) % (M : Int) := Int.natCast_emod m M
  rw [hn, ← enc_int] at h1
  rw [hm, ← enc_int] at h2
  congr 1
  apply propext
  constructor
  · intro h
    have h3 : (enc x : Int) = enc y := by omega
    have hM := MI
    obtain ⟨a1, a2⟩ := hx
    obtain ⟨b1, b2⟩ := hy
    rcases (show x < 0 ∨ 0 ≤ x by omega) with hx0 | hx0 <;> rcases (show y < 0 ∨ 0 ≤ y by omega) with hy0 | hy0
    · have e1 := enc_neg hx0 (by omega); have e2 := enc_neg hy0 (by omega); omega
    · have e1 := enc_neg hx0 (by omega); have e2 := enc_nn hy0 (by omega); omega
    · have e1 := enc_nn hx0 (by omega); have e2 := enc_neg hy0 (by omega); omega
    · have e1 := enc_nn hx0 (by omega); have e2 := enc_nn hy0 (by omega); omega
  · intro h
    rw [h] at h1
    omega
theorem same_enc {x y : Int} (hx : Fit x) (hy : Fit y) : same (enc x) (enc y) = decide (x = y) :=
  same_of (by rw [enc_int, Int.emod_emod]) (by rw [enc_int, Int.emod_emod]) hx hy
theorem same_nat {n m : Nat} (hn : n < M) (hm : m < M) : same n m = decide (n = m) := by
  unfold same
  rw [Nat.mod_eq_of_lt hn, Nat.mod_eq_of_lt hm]

theorem enc_add (x y : Int) : ((enc x + enc y : Nat) : Int) % (M : Int) = (x + y) % (M : Int) := by
  rw [Int.natCast_add, enc_int, enc_int, ← Int.add_emod]
theorem enc_sub (x y : Int) : ((enc x + (M - 1 - enc y) + 1 : Nat) : Int) % (M : Int) = (x - y) % (M : Int) := by
  have h1 := enc_lt y
  have h2 : ((enc x + (M - 1 - enc y) + 1 : Nat) : Int) = (enc x : Int) - (enc y : Int) + (M : Int) := by omega
  rw [h2, Int.add_emod_right, enc_int, enc_int, ← Int.sub_emod]

theorem bad_sum {x y : Int} (hx : Fit x) (hy : Fit y) : (neg (enc x) == neg (enc y) && !(neg (enc x + enc y) == neg (enc x))) = !fit (x + y) := by
  have hM := MI
  rw [neg_enc hx, neg_enc hy]
  obtain ⟨a1, a2⟩ := hx
  obtain ⟨b1, b2⟩ := hy
  rw [neg_of (enc_add x y) (by omega) (by omega)]
  unfold fit
  have e1 : ∀ p q : Prop, [Decidable p] → [Decidable q] → (decide p == decide q) = decide (p ↔ q) := fun p q _ _ => by by_cases p <;> by_cases q <;> simp_all
  rw [e1, e1, ← decide_not, ← Bool.decide_and, ← decide_not]
  congr 1
  apply propext
  omega
theorem bad_diff {x y : Int} (hx : Fit x) (hy : Fit y) : (!(neg (enc x) == neg (enc y)) && !(neg (enc x + (M - 1 - enc y) + 1) == neg (enc x))) = !fit (x - y) := by
  have hM := MI
  rw [neg_enc hx, neg_enc hy]
  obtain ⟨a1, a2⟩ := hx
  obtain ⟨b1, b2⟩ := hy
  rw [neg_of (enc_sub x y) (by omega) (by omega)]
  unfold fit
  have e1 : ∀ p q : Prop, [Decidable p] → [Decidable q] → (decide p == decide q) = decide (p ↔ q) := fun p q _ _ => by by_cases p <;> by_cases q <;> simp_all
  rw [e1, e1, ← decide_not, ← decide_not, ← Bool.decide_and, ← decide_not]
  congr 1
  apply propext
  omega

/-- A number, or the panic, of an integer that may not fit. -/
def EndsZ (z : Int) (e : Ending) : Prop := e = if fit z then .returned (V z) else .panicked noAnswer
theorem EndsZ.of {b : Bool} {n : Nat} {z : Int} {e : Ending} (h : Ends b n e) (hb : b = !fit z) (hn : (n : Int) % (M : Int) = z % (M : Int)) : EndsZ z e := by
  unfold EndsZ
  unfold Ends at h
  rw [h, hb, cells8_enc hn]
  cases fit z <;> rfl

theorem sumZ (x y : Int) (hx : Fit x) (hy : Fit y) (w : World) :
    Calls Tryz.prog 131 #[V x, V y] w fun e w' => EndsZ (x + y) e ∧ Below w.heap.size w w' :=
  (sum_any (enc x) (enc y) w).mono fun _ _ ⟨he, hb⟩ => ⟨EndsZ.of he (bad_sum hx hy) (enc_add x y), hb⟩
theorem differenceZ (x y : Int) (hx : Fit x) (hy : Fit y) (w : World) :
    Calls Tryz.prog 209 #[V x, V y] w fun e w' => EndsZ (x - y) e ∧ Below w.heap.size w w' :=
  (difference_core (enc x) (enc y) (M - 1 - enc y) (fun k hk => xor_lm (enc y) k (enc_lt y) hk) w).mono fun _ _ ⟨he, hb⟩ => ⟨EndsZ.of he (bad_diff hx hy) (enc_sub x y), hb⟩
theorem belowZ (x : Int) (hx : Fit x) (w : World) :
    Calls Tryz.prog 154 #[V x] w fun e w' => e = .returned (.bool (decide (x < 0))) ∧ Below w.heap.size w w' :=
  (below_below (enc x) w).mono fun _ _ ⟨he, hb⟩ => ⟨by rw [he, neg_enc hx], hb⟩
theorem fl_enc {x : Int} (hx : Fit x) : fl (enc x) = if x < 0 then 18446744073709551615 else 0 := by
  unfold fl
  rw [neg_enc hx]
  by_cases h : x < 0 <;> simp [h]
theorem fillZ (x : Int) (hx : Fit x) (w : World) :
    Calls Tryz.prog 165 #[V x] w fun e w' => e = .returned (.int .u64 (if x < 0 then 18446744073709551615 else 0)) ∧ Below w.heap.size w w' :=
  (fill_any (enc x) w).mono fun _ _ ⟨he, hb⟩ => ⟨by rw [he, fl_enc hx], hb⟩

theorem abs_lt {x : Int} (hx : Fit x) : x.natAbs < M := by
  have := M_H
  have := H_pos
  obtain ⟨h1, h2⟩ := hx
  omega
theorem sizeZ (x : Int) (hx : Fit x) (w : World) :
    Calls Tryz.prog 159 #[V x] w fun e w' => e = .returned (W x.natAbs) ∧ Below w.heap.size w w' := by
  refine (size_core (enc x) (M - 1 - enc x) (fun k hk => xor_lm (enc x) k (enc_lt x) hk) w).mono fun e w' ⟨he, hb⟩ => ⟨?_, hb⟩
  rw [he, neg_enc hx]
  have hM := M_H
  obtain ⟨h1, h2⟩ := hx
  rcases (show x < 0 ∨ 0 ≤ x by omega) with h | h
  · have e1 := enc_neg h (by omega)
    have : M - 1 - enc x + 1 = x.natAbs := by omega
    simp only [h, decide_true, if_true, this]
  · have e1 := enc_nn h (by omega)
    have : enc x = x.natAbs := by omega
    have hn : ¬ x < 0 := by omega
    simp only [hn, decide_false, Bool.false_eq_true, if_false, this]

theorem signedZ (m : Nat) (b : Bool) (hm : m < M) (w : World) :
    Calls Tryz.prog 155 #[W m, .bool b] w fun e w' => EndsZ (bif b then -(m : Int) else (m : Int)) e ∧ Below w.heap.size w w' := by
  have hM := MI
  cases b with
  | false =>
    refine (signed_no m w).mono fun e w' ⟨he, hb⟩ => ⟨EndsZ.of he ?_ rfl, hb⟩
    rw [same_nat hm M_pos, neg_of (z := (m : Int)) rfl (by omega) (by omega)]
    simp only [cond_false]
    unfold fit
    rw [← decide_not, ← Bool.decide_and, ← decide_not]
    congr 1
    apply propext
    have := H_pos
    omega
  | true =>
    have e : ((M - 1 - m + 1 : Nat) : Int) % (M : Int) = (-(m : Int)) % (M : Int) := by
      rw [show ((M - 1 - m + 1 : Nat) : Int) = -(m : Int) + (M : Int) by omega, Int.add_emod_right]
    refine (signed_yes m (M - 1 - m) (fun k hk => xor_lm m k hm hk) w).mono fun _ _ ⟨he, hb⟩ => ⟨EndsZ.of he ?_ e, hb⟩
    rw [same_nat hm M_pos, neg_of e (by omega) (by omega)]
    simp only [cond_true]
    unfold fit
    rw [← decide_not, ← decide_not, ← Bool.decide_and, ← decide_not]
    congr 1
    apply propext
    have := H_pos
    omega

end Go.Proofs.YtnemedgdhojhdaaGreat

namespace Go.Proofs.YtnemedgdhojhdaaGreat
open Go.RowKit
set_option maxRecDepth 4000

theorem catch_panicking (p : Addr) (x : Bool) (u : TypeId) (pv : Value) (older : List PanicEntry) (w : World) (hc : w.cell? p = some (.bool x)) (hz : w.frozen? p = false) :
    CallsD Tryz.prog 161 #[.pointer (some p)] (.panicking ({ v := .iface u pv, recovered := false } :: older)) w fun e u' w' =>
      e = .returned (.tuple #[]) ∧ u' = .panicking ({ v := .iface u pv, recovered := true } :: older) ∧ w' = w.setCell p (.bool false) := by
  refine callsD_of_wpS Tryz.func161 rfl fun c₀ cs hu => ?_
  apply wpS_region
  simp [wpOpsS, go_sem, recoverD, hu, Tryz.ntmps161, hc, hz, bodyPostS, results, Tryz.results161]

theorem catch_idle (p : Addr) (x : Bool) (w : World) (hc : w.cell? p = some (.bool x)) (hz : w.frozen? p = false) :
    CallsD Tryz.prog 161 #[.pointer (some p)] .returning w fun e u' w' => e = .returned (.tuple #[]) ∧ u' = .returning ∧ w' = w.setCell p (.bool true) := by
  refine callsD_of_wpS Tryz.func161 rfl fun c₀ cs hu => ?_
  apply wpS_region
  simp [wpOpsS, go_sem, recoverD, hu, Tryz.ntmps161, hc, hz, bodyPostS, results, Tryz.results161]
  cases c₀
  simp_all

/-- A whole number and a bool, read out of their blocks. -/
theorem results_told {P : Program} {fn : Func} {p q : Tmp} {ty tb : TypeId} {tmps : Array Value} {w : World} {n g k : Nat} {t t' : TypeId} {d : TypeDesc} {b : Bool}
    (hg : Blk w g t (cells8 n)) (hk : Blk w k t' #[.bool b]) (h : fn.results = #[.cell p ty, .cell q tb]) (hp : tmps.getD p undef = .pointer (some ⟨g, 0, none⟩)) (hq : tmps.getD q undef = .pointer (some ⟨k, 0, none⟩))
    (hu : P.underlying ty = some d) (hd : (match d with | .struct _ | .array _ _ => true | _ => false) = true) (hi : (P.info? ty).map (·.size) = some 8) (hb : P.underlying tb = some .bool) :
    (results fn tmps).run P w = .ok (.tuple #[.agg (cells8 n), .bool b]) w := by
  have hp' : tmps[p]?.getD undef = .pointer (some ⟨g, 0, none⟩) := by simpa using hp
  have hq' : tmps[q]?.getD undef = .pointer (some ⟨k, 0, none⟩) := by simpa using hq
  have hc : w.cell? ⟨k, 0, none⟩ = some (.bool b) := hk.cell 0
  have hA : (isAgg tb).run P w = .ok false w := by
    unfold isAgg
    rw [Sem.run_bind, run_underlying hb w]
    rfl
  have hL : (loadVar tb ⟨k, 0, none⟩).run P w = .ok (.bool b) w := by
    unfold loadVar
    rw [Sem.run_bind, hA]
    simp [go_sem, hc]
  simp [results, h, hp', hq', asAddr, run_loadVar_row w g t ty (cells8 n) (0, 0) d hg hu hd hi, hL, Result.andThen]

/-- What face answers. -/
def told (bad : Bool) (n : Nat) : Value := if bad then .tuple #[.agg (cells8 0), .bool false] else .tuple #[.agg (cells8 n), .bool true]

theorem face_any (f : FuncId) (cap : Array Value) (w : World) (n : Nat) (bad : Bool) (T : World → Prop)
    (hi : ∀ u, (callFunc f cap).run Tryz.prog u = .ok (.enter f cap) u)
    (hc : Calls Tryz.prog f cap ((w.alloc (.cells #[.int .u64 0, .int .u64 0, .int .u64 0, .int .u64 0, .int .u64 0, .int .u64 0, .int .u64 0, .int .u64 0] 75)).alloc (.cells #[.bool false] 4)) fun e u' =>
      Ends bad n e ∧ T u' ∧ Blk u' w.heap.size 75 (cells8 0) ∧ Blk u' (w.heap.size + 1) 4 #[.bool false])
    (hT1 : ∀ u cs, T u → T (u.setRow w.heap.size cs)) (hT2 : ∀ u v, T u → T (u.setCell ⟨w.heap.size + 1, 0, none⟩ v)) :
    Calls Tryz.prog 129 #[.func (.func f) #[] cap] w fun e w' => e = .returned (told bad n) ∧ T w' := by
  have hmf : ∀ (fn : Fn) (first cap : Array Value) (w : World), (Instr.makeFunc fn first cap).run Tryz.prog w = .ok (.func fn first cap) w := fun _ _ _ _ => rfl
  go_enter_defers Tryz.func129, Tryz.ntmps129
  go_wp2
  refine hc.mono ?_
  rintro e u ⟨he, ht, hb0, hb1⟩
  unfold Ends at he
  subst he
  cases bad with
  | true =>
    go_simp
    show bodyPostD Tryz.prog Tryz.f129 _ _ _ _
    refine leaves_cons (f := 161) (args := #[.pointer (some ⟨w.heap.size + 1, 0, none⟩)]) (by simp) (by simp [go_sem]) ?_
    refine (catch_panicking ⟨w.heap.size + 1, 0, none⟩ false _ _ [] _ (hb1.cell 0) (hb1.frozen 0)).mono ?_
    rintro e u' w'' ⟨rfl, rfl, rfl⟩
    exact ⟨_, results_told (hb0.other _ _ (by simp)) (hb1.set 0 _) rfl rfl rfl Tryz.underlying75 rfl iWide Tryz.underlying4, rfl, hT2 _ _ ht⟩
  | false =>
    go_simp
    have H0 := hide hb0
    have H1 : Hid (Blk (u.setRow w.heap.size (cells8 n)) (w.heap.size + 1) 4 #[.bool false]) := hb1.rowOther _ (by omega)
    have hc1 : (u.setRow w.heap.size (cells8 n)).cell? ⟨w.heap.size + 1, 0, none⟩ = some (.bool false) := (unhide H1).cell 0
    have hf1 : (u.setRow w.heap.size (cells8 n)).frozen? ⟨w.heap.size + 1, 0, none⟩ = false := (unhide H1).frozen 0
    go_wp2_with (refine st8 (n := n) 75 (.tmp 2) (.tmp 6) (unhide H0) rfl rfl rfl rfl rfl iWide ?_)
    have B1 := (unhide H1).set 0 (.bool true)
    refine leaves_cons (f := 161) (args := #[.pointer (some ⟨w.heap.size + 1, 0, none⟩)]) (by simp) (by simp [go_sem]) ?_
    refine (catch_idle ⟨w.heap.size + 1, 0, none⟩ true _ (B1.cell 0) (B1.frozen 0)).mono ?_
    rintro e u' w'' ⟨rfl, rfl, rfl⟩
    exact ⟨_, results_told ((((unhide H0).row _).other _ _ (by simp)).other _ _ (by simp)) (B1.set 0 _) rfl rfl rfl Tryz.underlying75 rfl iWide Tryz.underlying4, rfl, hT2 _ _ (hT2 _ _ (hT1 _ _ ht))⟩

end Go.Proofs.YtnemedgdhojhdaaGreat

namespace Go.Proofs.YtnemedgdhojhdaaGreat
open Go.RowKit
set_option maxRecDepth 4000

/-- face of a function that writes nothing of before. -/
theorem face_below (f : FuncId) (cap : Array Value) (w : World) (n : Nat) (bad : Bool)
    (hi : ∀ u, (callFunc f cap).run Tryz.prog u = .ok (.enter f cap) u)
    (hc : ∀ u, Below w.heap.size w u → Calls Tryz.prog f cap u fun e u' => Ends bad n e ∧ Below u.heap.size u u') :
    Calls Tryz.prog 129 #[.func (.func f) #[] cap] w fun e w' => e = .returned (told bad n) ∧ Below w.heap.size w w' := by
  refine face_any f cap w n bad (Below w.heap.size w) hi ?_ (fun u cs h => below_row h (Nat.le_refl _) cs) (fun u v h => h.setCell (by simp) v)
  refine (hc _ (below2 _ _ _)).mono fun e u' ⟨he, hb⟩ => ⟨he, (below2 _ _ _).trans (hb.mono (by simp; omega)), ?_, ?_⟩
  · exact cells8_0 ▸ (Blk.first2 w 75 _ _).below hb (Blk.first2 w 75 _ _).lt
  · exact (Blk.second2 w 4 _ _).below hb (Blk.second2 w 4 _ _).lt

/-- A whole number out of its block, and a value out of its slot. -/
theorem res8s {P : Program} {fn : Func} {R : Ending → World → Prop} {p q : Tmp} {ty : TypeId} {a : Act} {w : World} {n g : Nat} {t : TypeId} {d : TypeDesc} {v : Value}
    (hg : Blk w g t (cells8 n)) (h : fn.results = #[.cell p ty, .tmp q]) (hp : a.tmps.getD p undef = .pointer (some ⟨g, 0, none⟩)) (hq : a.tmps.getD q undef = v) (hdf : a.defers = [])
    (hu : P.underlying ty = some d) (hd : (match d with | .struct _ | .array _ _ => true | _ => false) = true) (hi : (P.info? ty).map (·.size) = some 8)
    (hR : R (.returned (.tuple #[.agg (cells8 n), v])) w) : bodyPost P fn R .ret a w := by
  refine bodyPost_ret ?_ hdf hR
  have hp' : a.tmps[p]?.getD undef = .pointer (some ⟨g, 0, none⟩) := by simpa using hp
  have hq' : a.tmps[q]?.getD undef = v := by simpa using hq
  simp [results, h, hp', hq', asAddr, run_loadVar_row w g t ty (cells8 n) (0, 0) d hg hu hd hi, Result.andThen]

theorem Ends.no {n : Nat} {e : Ending} (h : Ends false n e) : e = .returned (.agg (cells8 n)) := h
theorem Ends.yes {n : Nat} {e : Ending} (h : Ends true n e) : e = .panicked noAnswer := h
theorem told_no {n : Nat} {e : Ending} (h : e = .returned (told false n)) : e = .returned (.tuple #[.agg (cells8 n), .bool true]) := h
theorem told_yes {n : Nat} {e : Ending} (h : e = .returned (told true n)) : e = .returned (.tuple #[.agg (cells8 0), .bool false]) := h

theorem Add1_core (a b n : Nat) (bad : Bool) (g h : Nat) (w : World) (HX : Hid (Blk w g 75 (cells8 a))) (HY : Hid (Blk w h 75 (cells8 b)))
    (hS : Hid (∀ u, Calls Tryz.prog 131 #[W a, W b] u fun e w' => Ends bad n e ∧ Below u.heap.size u w')) :
    Calls Tryz.prog 130 #[.pointer (some ⟨g, 0, none⟩), .pointer (some ⟨h, 0, none⟩)] w fun e w' => Ends bad n e ∧ Below w.heap.size w w' := by
  cases bad
  · go_enter Tryz.func130, Tryz.ntmps130
    go_wp2_with (first
      | refine ld8 75 (.tmp 0) ((unhide HX).alloc _) rfl rfl rfl Tryz.underlying75 rfl iWide ?_
      | refine ld8 75 (.tmp 1) ((unhide HY).alloc _) rfl rfl rfl Tryz.underlying75 rfl iWide ?_
      | (go_at_call 131; refine (unhide hS _).mono ?_; rintro e w' ⟨he, hb⟩; replace he := Ends.no he; subst he)
      | refine st8 (n := n) 75 (.tmp 2) (.tmp 5) ((Blk.new _ _ _).below hb (Blk.new _ _ _).lt) rfl rfl rfl rfl rfl iWide ?_)
    exact res8 (((Blk.new _ _ _).below hb (Blk.new _ _ _).lt).row _) rfl rfl rfl Tryz.underlying75 rfl iWide ⟨rfl, below_row (((Below.refl _ _).alloc (Nat.le_refl _) _).trans (hb.mono (by simp))) (Nat.le_refl _) _⟩
  · go_enter Tryz.func130, Tryz.ntmps130
    go_wp2_with (first
      | refine ld8 75 (.tmp 0) ((unhide HX).alloc _) rfl rfl rfl Tryz.underlying75 rfl iWide ?_
      | refine ld8 75 (.tmp 1) ((unhide HY).alloc _) rfl rfl rfl Tryz.underlying75 rfl iWide ?_
      | (go_at_call 131; refine (unhide hS _).mono ?_; rintro e w' ⟨he, hb⟩; replace he := Ends.yes he; subst he))
    exact ⟨rfl, rfl, ((Below.refl _ _).alloc (Nat.le_refl _) _).trans (hb.mono (by simp))⟩

theorem Add_core (a b n : Nat) (bad : Bool) (w : World)
    (hS : Hid (∀ g h u, Blk u g 75 (cells8 a) → Blk u h 75 (cells8 b) → Calls Tryz.prog 130 #[.pointer (some ⟨g, 0, none⟩), .pointer (some ⟨h, 0, none⟩)] u fun e w' => Ends bad n e ∧ Below u.heap.size u w')) :
    Calls Tryz.prog 93 #[W a, W b] w fun e w' => e = .returned (told bad n) ∧ Below w.heap.size w w' := by
  have hmf : ∀ (fn : Fn) (first cap : Array Value) (w : World), (Instr.makeFunc fn first cap).run Tryz.prog w = .ok (.func fn first cap) w := fun _ _ _ _ => rfl
  have hF : Hid (∀ (u : World) (g h : Nat), Blk u g 75 (cells8 a) → Blk u h 75 (cells8 b) → Calls Tryz.prog 129 #[.func (.func 130) #[] #[.pointer (some ⟨g, 0, none⟩), .pointer (some ⟨h, 0, none⟩)]] u fun e w' => e = .returned (told bad n) ∧ Below u.heap.size u w') :=
    fun u g h bg bh => face_below 130 _ u n bad (fun _ => by simp [go_sem]) (fun v hb => unhide hS g h v (bg.below hb bg.lt) (bh.below hb bh.lt))
  clear hS
  go_enter Tryz.func93, Tryz.ntmps93
  go_upto_region 1 with fail
  have D1 := hide (Blk.first3 w 75 (cells8 a) (.cells (cells8 b) 75) (.cells #[.int .u64 0, .int .u64 0, .int .u64 0, .int .u64 0, .int .u64 0, .int .u64 0, .int .u64 0, .int .u64 0] 75))
  have D2 := hide (Blk.second3 w 75 (cells8 b) (.cells (cells8 a) 75) (.cells #[.int .u64 0, .int .u64 0, .int .u64 0, .int .u64 0, .int .u64 0, .int .u64 0, .int .u64 0, .int .u64 0] 75))
  have D3 := hide (Blk.third3 w 75 #[.int .u64 0, .int .u64 0, .int .u64 0, .int .u64 0, .int .u64 0, .int .u64 0, .int .u64 0, .int .u64 0] (.cells (cells8 a) 75) (.cells (cells8 b) 75))
  have B0 := hide (below3 w (.cells (cells8 a) 75) (.cells (cells8 b) 75) (.cells #[.int .u64 0, .int .u64 0, .int .u64 0, .int .u64 0, .int .u64 0, .int .u64 0, .int .u64 0, .int .u64 0] 75))
  have hF1 := hide (unhide hF _ _ _ (unhide D1) (unhide D2))
  have hsz : Hid (w.heap.size ≤ (((w.alloc (.cells (cells8 a) 75)).alloc (.cells (cells8 b) 75)).alloc (.cells #[.int .u64 0, .int .u64 0, .int .u64 0, .int .u64 0, .int .u64 0, .int .u64 0, .int .u64 0, .int .u64 0] 75)).heap.size) := (unhide B0).size
  clear hF D1 D2
  cases bad
  · go_wp2_with (first
      | (go_at_call 129; refine (unhide hF1).mono ?_; rintro e w' ⟨he, hb⟩; replace he := told_no he; subst he)
      | refine st8 (n := n) 75 (.tmp 4) (.tmp 8) ((unhide D3).below hb (unhide D3).lt) rfl rfl rfl rfl rfl iWide ?_)
    exact res8s (((unhide D3).below hb (unhide D3).lt).row _) rfl rfl rfl rfl Tryz.underlying75 rfl iWide ⟨rfl, below_row ((unhide B0).trans (hb.mono (unhide hsz))) (by omega) _⟩
  · go_wp2_with (first
      | (go_at_call 129; refine (unhide hF1).mono ?_; rintro e w' ⟨he, hb⟩; replace he := told_yes he; subst he)
      | refine st8 (n := 0) 75 (.tmp 4) (.tmp 8) ((unhide D3).below hb (unhide D3).lt) rfl rfl rfl rfl rfl iWide ?_)
    exact res8s (((unhide D3).below hb (unhide D3).lt).row _) rfl rfl rfl rfl Tryz.underlying75 rfl iWide ⟨rfl, below_row ((unhide B0).trans (hb.mono (unhide hsz))) (by omega) _⟩

theorem Sub1_core (a b n : Nat) (bad : Bool) (g h : Nat) (w : World) (HX : Hid (Blk w g 75 (cells8 a))) (HY : Hid (Blk w h 75 (cells8 b)))
    (hS : Hid (∀ u, Calls Tryz.prog 209 #[W a, W b] u fun e w' => Ends bad n e ∧ Below u.heap.size u w')) :
    Calls Tryz.prog 208 #[.pointer (some ⟨g, 0, none⟩), .pointer (some ⟨h, 0, none⟩)] w fun e w' => Ends bad n e ∧ Below w.heap.size w w' := by
  cases bad
  · go_enter Tryz.func208, Tryz.ntmps208
    go_wp2_with (first
      | refine ld8 75 (.tmp 0) ((unhide HX).alloc _) rfl rfl rfl Tryz.underlying75 rfl iWide ?_
      | refine ld8 75 (.tmp 1) ((unhide HY).alloc _) rfl rfl rfl Tryz.underlying75 rfl iWide ?_
      | (go_at_call 209; refine (unhide hS _).mono ?_; rintro e w' ⟨he, hb⟩; replace he := Ends.no he; subst he)
      | refine st8 (n := n) 75 (.tmp 2) (.tmp 5) ((Blk.new _ _ _).below hb (Blk.new _ _ _).lt) rfl rfl rfl rfl rfl iWide ?_)
    exact res8 (((Blk.new _ _ _).below hb (Blk.new _ _ _).lt).row _) rfl rfl rfl Tryz.underlying75 rfl iWide ⟨rfl, below_row (((Below.refl _ _).alloc (Nat.le_refl _) _).trans (hb.mono (by simp))) (Nat.le_refl _) _⟩
  · go_enter Tryz.func208, Tryz.ntmps208
    go_wp2_with (first
      | refine ld8 75 (.tmp 0) ((unhide HX).alloc _) rfl rfl rfl Tryz.underlying75 rfl iWide ?_
      | refine ld8 75 (.tmp 1) ((unhide HY).alloc _) rfl rfl rfl Tryz.underlying75 rfl iWide ?_
      | (go_at_call 209; refine (unhide hS _).mono ?_; rintro e w' ⟨he, hb⟩; replace he := Ends.yes he; subst he))
    exact ⟨rfl, rfl, ((Below.refl _ _).alloc (Nat.le_refl _) _).trans (hb.mono (by simp))⟩

theorem Sub_core (a b n : Nat) (bad : Bool) (w : World)
    (hS : Hid (∀ g h u, Blk u g 75 (cells8 a) → Blk u h 75 (cells8 b) → Calls Tryz.prog 208 #[.pointer (some ⟨g, 0, none⟩), .pointer (some ⟨h, 0, none⟩)] u fun e w' => Ends bad n e ∧ Below u.heap.size u w')) :
    Calls Tryz.prog 206 #[W a, W b] w fun e w' => e = .returned (told bad n) ∧ Below w.heap.size w w' := by
  have hmf : ∀ (fn : Fn) (first cap : Array Value) (w : World), (Instr.makeFunc fn first cap).run Tryz.prog w = .ok (.func fn first cap) w := fun _ _ _ _ => rfl
  have hF : Hid (∀ (u : World) (g h : Nat), Blk u g 75 (cells8 a) → Blk u h 75 (cells8 b) → Calls Tryz.prog 129 #[.func (.func 208) #[] #[.pointer (some ⟨g, 0, none⟩), .pointer (some ⟨h, 0, none⟩)]] u fun e w' => e = .returned (told bad n) ∧ Below u.heap.size u w') :=
    fun u g h bg bh => face_below 208 _ u n bad (fun _ => by simp [go_sem]) (fun v hb => unhide hS g h v (bg.below hb bg.lt) (bh.below hb bh.lt))
  clear hS
  go_enter Tryz.func206, Tryz.ntmps206
  go_upto_region 1 with fail
  have D1 := hide (Blk.first3 w 75 (cells8 a) (.cells (cells8 b) 75) (.cells #[.int .u64 0, .int .u64 0, .int .u64 0, .int .u64 0, .int .u64 0, .int .u64 0, .int .u64 0, .int .u64 0] 75))
  have D2 := hide (Blk.second3 w 75 (cells8 b) (.cells (cells8 a) 75) (.cells #[.int .u64 0, .int .u64 0, .int .u64 0, .int .u64 0, .int .u64 0, .int .u64 0, .int .u64 0, .int .u64 0] 75))
  have D3 := hide (Blk.third3 w 75 #[.int .u64 0, .int .u64 0, .int .u64 0, .int .u64 0, .int .u64 0, .int .u64 0, .int .u64 0, .int .u64 0] (.cells (cells8 a) 75) (.cells (cells8 b) 75))
  have B0 := hide (below3 w (.cells (cells8 a) 75) (.cells (cells8 b) 75) (.cells #[.int .u64 0, .int .u64 0, .int .u64 0, .int .u64 0, .int .u64 0, .int .u64 0, .int .u64 0, .int .u64 0] 75))
  have hF1 := hide (unhide hF _ _ _ (unhide D1) (unhide D2))
  have hsz : Hid (w.heap.size ≤ (((w.alloc (.cells (cells8 a) 75)).alloc (.cells (cells8 b) 75)).alloc (.cells #[.int .u64 0, .int .u64 0, .int .u64 0, .int .u64 0, .int .u64 0, .int .u64 0, .int .u64 0, .int .u64 0] 75)).heap.size) := (unhide B0).size
  clear hF D1 D2
  cases bad
  · go_wp2_with (first
      | (go_at_call 129; refine (unhide hF1).mono ?_; rintro e w' ⟨he, hb⟩; replace he := told_no he; subst he)
      | refine st8 (n := n) 75 (.tmp 4) (.tmp 8) ((unhide D3).below hb (unhide D3).lt) rfl rfl rfl rfl rfl iWide ?_)
    exact res8s (((unhide D3).below hb (unhide D3).lt).row _) rfl rfl rfl rfl Tryz.underlying75 rfl iWide ⟨rfl, below_row ((unhide B0).trans (hb.mono (unhide hsz))) (by omega) _⟩
  · go_wp2_with (first
      | (go_at_call 129; refine (unhide hF1).mono ?_; rintro e w' ⟨he, hb⟩; replace he := told_yes he; subst he)
      | refine st8 (n := 0) 75 (.tmp 4) (.tmp 8) ((unhide D3).below hb (unhide D3).lt) rfl rfl rfl rfl rfl iWide ?_)
    exact res8s (((unhide D3).below hb (unhide D3).lt).row _) rfl rfl rfl rfl Tryz.underlying75 rfl iWide ⟨rfl, below_row ((unhide B0).trans (hb.mono (unhide hsz))) (by omega) _⟩

theorem Shl1_core (a n : Nat) (k : Int) (bad : Bool) (g h : Nat) (w : World) (HX : Hid (Blk w g 75 (cells8 a))) (HY : Hid (Blk w h 3 #[.int .i64 k]))
    (hS : Hid (∀ u, Calls Tryz.prog 167 #[W a, .int .i64 k] u fun e w' => Ends bad n e ∧ Below u.heap.size u w')) :
    Calls Tryz.prog 166 #[.pointer (some ⟨g, 0, none⟩), .pointer (some ⟨h, 0, none⟩)] w fun e w' => Ends bad n e ∧ Below w.heap.size w w' := by
  have hk : (w.alloc (.cells #[.int .u64 0, .int .u64 0, .int .u64 0, .int .u64 0, .int .u64 0, .int .u64 0, .int .u64 0, .int .u64 0] 75)).cell? ⟨h, 0, none⟩ = some (.int .i64 k) := ((unhide HY).alloc _).cell 0
  cases bad
  · go_enter Tryz.func166, Tryz.ntmps166
    go_wp2_with (first
      | refine ld8 75 (.tmp 0) ((unhide HX).alloc _) rfl rfl rfl Tryz.underlying75 rfl iWide ?_
      | (go_at_call 167; refine (unhide hS _).mono ?_; rintro e w' ⟨he, hb⟩; replace he := Ends.no he; subst he)
      | refine st8 (n := n) 75 (.tmp 2) (.tmp 5) ((Blk.new _ _ _).below hb (Blk.new _ _ _).lt) rfl rfl rfl rfl rfl iWide ?_)
    exact res8 (((Blk.new _ _ _).below hb (Blk.new _ _ _).lt).row _) rfl rfl rfl Tryz.underlying75 rfl iWide ⟨rfl, below_row (((Below.refl _ _).alloc (Nat.le_refl _) _).trans (hb.mono (by simp))) (Nat.le_refl _) _⟩
  · go_enter Tryz.func166, Tryz.ntmps166
    go_wp2_with (first
      | refine ld8 75 (.tmp 0) ((unhide HX).alloc _) rfl rfl rfl Tryz.underlying75 rfl iWide ?_
      | (go_at_call 167; refine (unhide hS _).mono ?_; rintro e w' ⟨he, hb⟩; replace he := Ends.yes he; subst he))
    exact ⟨rfl, rfl, ((Below.refl _ _).alloc (Nat.le_refl _) _).trans (hb.mono (by simp))⟩

theorem Shl_core (a n : Nat) (k : Int) (bad : Bool) (w : World)
    (hS : Hid (∀ g h u, Blk u g 75 (cells8 a) → Blk u h 3 #[.int .i64 k] → Calls Tryz.prog 166 #[.pointer (some ⟨g, 0, none⟩), .pointer (some ⟨h, 0, none⟩)] u fun e w' => Ends bad n e ∧ Below u.heap.size u w')) :
    Calls Tryz.prog 134 #[W a, .int .i64 k] w fun e w' => e = .returned (told bad n) ∧ Below w.heap.size w w' := by
  have hmf : ∀ (fn : Fn) (first cap : Array Value) (w : World), (Instr.makeFunc fn first cap).run Tryz.prog w = .ok (.func fn first cap) w := fun _ _ _ _ => rfl
  have hF : Hid (∀ (u : World) (g h : Nat), Blk u g 75 (cells8 a) → Blk u h 3 #[.int .i64 k] → Calls Tryz.prog 129 #[.func (.func 166) #[] #[.pointer (some ⟨g, 0, none⟩), .pointer (some ⟨h, 0, none⟩)]] u fun e w' => e = .returned (told bad n) ∧ Below u.heap.size u w') :=
    fun u g h bg bh => face_below 166 _ u n bad (fun _ => by simp [go_sem]) (fun v hb => unhide hS g h v (bg.below hb bg.lt) (bh.below hb bh.lt))
  clear hS
  go_enter Tryz.func134, Tryz.ntmps134
  go_upto_region 1 with fail
  have D1 := hide (Blk.first3 w 75 (cells8 a) (.cells #[.int .i64 k] 3) (.cells #[.int .u64 0, .int .u64 0, .int .u64 0, .int .u64 0, .int .u64 0, .int .u64 0, .int .u64 0, .int .u64 0] 75))
  have D2 := hide (Blk.second3 w 3 #[.int .i64 k] (.cells (cells8 a) 75) (.cells #[.int .u64 0, .int .u64 0, .int .u64 0, .int .u64 0, .int .u64 0, .int .u64 0, .int .u64 0, .int .u64 0] 75))
  have D3 := hide (Blk.third3 w 75 #[.int .u64 0, .int .u64 0, .int .u64 0, .int .u64 0, .int .u64 0, .int .u64 0, .int .u64 0, .int .u64 0] (.cells (cells8 a) 75) (.cells #[.int .i64 k] 3))
  have B0 := hide (below3 w (.cells (cells8 a) 75) (.cells #[.int .i64 k] 3) (.cells #[.int .u64 0, .int .u64 0, .int .u64 0, .int .u64 0, .int .u64 0, .int .u64 0, .int .u64 0, .int .u64 0] 75))
  have hF1 := hide (unhide hF _ _ _ (unhide D1) (unhide D2))
  have hsz : Hid (w.heap.size ≤ (((w.alloc (.cells (cells8 a) 75)).alloc (.cells #[.int .i64 k] 3)).alloc (.cells #[.int .u64 0, .int .u64 0, .int .u64 0, .int .u64 0, .int .u64 0, .int .u64 0, .int .u64 0, .int .u64 0] 75)).heap.size) := (unhide B0).size
  clear hF D1 D2
  cases bad
  · go_wp2_with (first
      | (go_at_call 129; refine (unhide hF1).mono ?_; rintro e w' ⟨he, hb⟩; replace he := told_no he; subst he)
      | refine st8 (n := n) 75 (.tmp 4) (.tmp 8) ((unhide D3).below hb (unhide D3).lt) rfl rfl rfl rfl rfl iWide ?_)
    exact res8s (((unhide D3).below hb (unhide D3).lt).row _) rfl rfl rfl rfl Tryz.underlying75 rfl iWide ⟨rfl, below_row ((unhide B0).trans (hb.mono (unhide hsz))) (by omega) _⟩
  · go_wp2_with (first
      | (go_at_call 129; refine (unhide hF1).mono ?_; rintro e w' ⟨he, hb⟩; replace he := told_yes he; subst he)
      | refine st8 (n := 0) 75 (.tmp 4) (.tmp 8) ((unhide D3).below hb (unhide D3).lt) rfl rfl rfl rfl rfl iWide ?_)
    exact res8s (((unhide D3).below hb (unhide D3).lt).row _) rfl rfl rfl rfl Tryz.underlying75 rfl iWide ⟨rfl, below_row ((unhide B0).trans (hb.mono (unhide hsz))) (by omega) _⟩

theorem Mul_core (a b n : Nat) (bad : Bool) (w : World)
    (hS : Hid (∀ g h u, Blk u g 75 (cells8 a) → Blk u h 75 (cells8 b) → Calls Tryz.prog 157 #[.pointer (some ⟨g, 0, none⟩), .pointer (some ⟨h, 0, none⟩)] u fun e w' => Ends bad n e ∧ Below u.heap.size u w')) :
    Calls Tryz.prog 126 #[W a, W b] w fun e w' => e = .returned (told bad n) ∧ Below w.heap.size w w' := by
  have hmf : ∀ (fn : Fn) (first cap : Array Value) (w : World), (Instr.makeFunc fn first cap).run Tryz.prog w = .ok (.func fn first cap) w := fun _ _ _ _ => rfl
  have hF : Hid (∀ (u : World) (g h : Nat), Blk u g 75 (cells8 a) → Blk u h 75 (cells8 b) → Calls Tryz.prog 129 #[.func (.func 157) #[] #[.pointer (some ⟨g, 0, none⟩), .pointer (some ⟨h, 0, none⟩)]] u fun e w' => e = .returned (told bad n) ∧ Below u.heap.size u w') :=
    fun u g h bg bh => face_below 157 _ u n bad (fun _ => by simp [go_sem]) (fun v hb => unhide hS g h v (bg.below hb bg.lt) (bh.below hb bh.lt))
  clear hS
  go_enter Tryz.func126, Tryz.ntmps126
  go_upto_region 1 with fail
  have D1 := hide (Blk.first3 w 75 (cells8 a) (.cells (cells8 b) 75) (.cells #[.int .u64 0, .int .u64 0, .int .u64 0, .int .u64 0, .int .u64 0, .int .u64 0, .int .u64 0, .int .u64 0] 75))
  have D2 := hide (Blk.second3 w 75 (cells8 b) (.cells (cells8 a) 75) (.cells #[.int .u64 0, .int .u64 0, .int .u64 0, .int .u64 0, .int .u64 0, .int .u64 0, .int .u64 0, .int .u64 0] 75))
  have D3 := hide (Blk.third3 w 75 #[.int .u64 0, .int .u64 0, .int .u64 0, .int .u64 0, .int .u64 0, .int .u64 0, .int .u64 0, .int .u64 0] (.cells (cells8 a) 75) (.cells (cells8 b) 75))
  have B0 := hide (below3 w (.cells (cells8 a) 75) (.cells (cells8 b) 75) (.cells #[.int .u64 0, .int .u64 0, .int .u64 0, .int .u64 0, .int .u64 0, .int .u64 0, .int .u64 0, .int .u64 0] 75))
  have hF1 := hide (unhide hF _ _ _ (unhide D1) (unhide D2))
  have hsz : Hid (w.heap.size ≤ (((w.alloc (.cells (cells8 a) 75)).alloc (.cells (cells8 b) 75)).alloc (.cells #[.int .u64 0, .int .u64 0, .int .u64 0, .int .u64 0, .int .u64 0, .int .u64 0, .int .u64 0, .int .u64 0] 75)).heap.size) := (unhide B0).size
  clear hF D1 D2
  cases bad
  · go_wp2_with (first
      | (go_at_call 129; refine (unhide hF1).mono ?_; rintro e w' ⟨he, hb⟩; replace he := told_no he; subst he)
      | refine st8 (n := n) 75 (.tmp 4) (.tmp 8) ((unhide D3).below hb (unhide D3).lt) rfl rfl rfl rfl rfl iWide ?_)
    exact res8s (((unhide D3).below hb (unhide D3).lt).row _) rfl rfl rfl rfl Tryz.underlying75 rfl iWide ⟨rfl, below_row ((unhide B0).trans (hb.mono (unhide hsz))) (by omega) _⟩
  · go_wp2_with (first
      | (go_at_call 129; refine (unhide hF1).mono ?_; rintro e w' ⟨he, hb⟩; replace he := told_yes he; subst he)
      | refine st8 (n := 0) 75 (.tmp 4) (.tmp 8) ((unhide D3).below hb (unhide D3).lt) rfl rfl rfl rfl rfl iWide ?_)
    exact res8s (((unhide D3).below hb (unhide D3).lt).row _) rfl rfl rfl rfl Tryz.underlying75 rfl iWide ⟨rfl, below_row ((unhide B0).trans (hb.mono (unhide hsz))) (by omega) _⟩

end Go.Proofs.YtnemedgdhojhdaaGreat
