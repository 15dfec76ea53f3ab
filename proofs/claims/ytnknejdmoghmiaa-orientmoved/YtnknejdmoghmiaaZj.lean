/- The contract of quotient over integers. The contract of Div of package wide, with what it hands to face. The contracts of Div and Sqrt of package wide, over integers. -/
import Derived.Test.YtnknejdmoghmiaaZg
import Derived.Test.YtnknejdmoghmiaaZf
namespace Go.Proofs.Ytnknejdmoghmiaa
open Go.RowKit
set_option maxRecDepth 4000

/-- Is one more taken, as what is left lies on the other side? -/
def more (x y : Int) : Bool := !(decide (x < 0) == decide (y < 0)) && !decide (x.natAbs % y.natAbs = 0)
def byN (x y : Int) : Nat := if more x y then x.natAbs / y.natAbs + 1 else x.natAbs / y.natAbs
def leftN (x y : Int) : Nat := if more x y then y.natAbs - x.natAbs % y.natAbs else x.natAbs % y.natAbs

theorem div_math (x y : Int) (hy : y ≠ 0) :
    (bif !(decide (x < 0) == decide (y < 0)) then -(byN x y : Int) else (byN x y : Int)) = x.fdiv y ∧ (bif decide (y < 0) then -(leftN x y : Int) else (leftN x y : Int)) = x.fmod y := by
  have hq : 0 < y.natAbs := by omega
  have h1 := Nat.div_add_mod x.natAbs y.natAbs
  have h2 := Nat.mod_lt x.natAbs hq
  have h3 : ((x.natAbs : Nat) : Int) = (y.natAbs : Int) * ((x.natAbs / y.natAbs : Nat) : Int) + ((x.natAbs % y.natAbs : Nat) : Int) := by
    rw [← Int.natCast_mul, ← Int.natCast_add, h1]
  unfold byN leftN more
  generalize x.natAbs / y.natAbs = D at *
  generalize x.natAbs % y.natAbs = R at *
  have e1 : (y.natAbs : Int) * ((D + 1 : Nat) : Int) = (y.natAbs : Int) * (D : Int) + (y.natAbs : Int) := by
    rw [Int.natCast_add, Int.mul_add]
    simp
  by_cases hx : x < 0 <;> by_cases hy0 : y < 0
  · have hu := (Int.fdiv_fmod_unique' (a := x) (b := y) (r := -(R : Int)) (q := (D : Int)) hy0).2 (by
      refine ⟨?_, by omega, by omega⟩
      rw [show y * (D : Int) = -((y.natAbs : Int) * (D : Int)) by rw [← Int.neg_mul, show -(y.natAbs : Int) = y by omega]]
      omega)
    simp [hx, hy0, hu.1, hu.2]
  · have hy1 : 0 < y := by omega
    by_cases hR : R = 0
    · have hu := (Int.fdiv_fmod_unique (a := x) (b := y) (r := (R : Int)) (q := -(D : Int)) hy1).2 (by
        refine ⟨?_, by omega, by omega⟩
        rw [Int.mul_neg, show y * (D : Int) = (y.natAbs : Int) * (D : Int) by rw [show (y.natAbs : Int) = y by omega]]
        omega)
      simp [hx, hy0, hu.1, hu.2, hR]
    · have hu := (Int.fdiv_fmod_unique (a := x) (b := y) (r := ((y.natAbs - R : Nat) : Int)) (q := -((D + 1 : Nat) : Int)) hy1).2 (by
        refine ⟨?_, by omega, by omega⟩
        have : y * -((D + 1 : Nat) : Int) = -((y.natAbs : Int) * ((D + 1 : Nat) : Int)) := by
          rw [Int.mul_neg, show y = (y.natAbs : Int) by omega, Int.natAbs_natCast]
        rw [this, e1]
        omega)
      simp only [hx, hy0, hR, decide_true, decide_false, show (true == false) = false from rfl, Bool.not_false, Bool.and_self, if_true, cond_true, cond_false]
      exact ⟨hu.1.symm, hu.2.symm⟩
  · by_cases hR : R = 0
    · have hu := (Int.fdiv_fmod_unique' (a := x) (b := y) (r := (R : Int)) (q := -(D : Int)) hy0).2 (by
        refine ⟨?_, by omega, by omega⟩
        rw [Int.mul_neg, show y * (D : Int) = -((y.natAbs : Int) * (D : Int)) by rw [← Int.neg_mul, show -(y.natAbs : Int) = y by omega]]
        omega)
      simp [hx, hy0, hu.1, hu.2, hR]
    · have hu := (Int.fdiv_fmod_unique' (a := x) (b := y) (r := -((y.natAbs - R : Nat) : Int)) (q := -((D + 1 : Nat) : Int)) hy0).2 (by
        refine ⟨?_, by omega, by omega⟩
        have : y * -((D + 1 : Nat) : Int) = (y.natAbs : Int) * ((D + 1 : Nat) : Int) := by
          rw [Int.mul_neg, ← Int.neg_mul, show -y = (y.natAbs : Int) by omega]
        rw [this, e1]
        omega)
      simp only [hx, hy0, hR, decide_true, decide_false, show (false == true) = false from rfl, Bool.not_false, Bool.and_self, if_true, cond_true]
      exact ⟨hu.1.symm, hu.2.symm⟩
  · have hy1 : 0 < y := by omega
    have hu := (Int.fdiv_fmod_unique (a := x) (b := y) (r := (R : Int)) (q := (D : Int)) hy1).2 (by
      refine ⟨?_, by omega, by omega⟩
      rw [show y * (D : Int) = (y.natAbs : Int) * (D : Int) by rw [show (y.natAbs : Int) = y by omega]]
      omega)
    simp [hx, hy0, hu.1, hu.2]

theorem leftN_lt (x y : Int) (hy : y ≠ 0) : leftN x y < y.natAbs := by
  have h2 := Nat.mod_lt x.natAbs (show 0 < y.natAbs by omega)
  unfold leftN more
  split
  · rename_i h
    simp at h
    omega
  · omega
theorem byN_lt (x y : Int) (hx : Fit x) : byN x y < M := by
  have h1 := Nat.div_le_self x.natAbs y.natAbs
  have h2 := M_H
  have h3 := H_pos
  obtain ⟨h4, h5⟩ := hx
  have hH : 1 < H := by decide
  unfold byN
  split <;> omega

/-- What quotient ends in. -/
def EndsQ (x y : Int) (e : Ending) : Prop := e = if !fit (x.fdiv y) then .panicked noAnswer else .returned (.tuple #[V (x.fdiv y), V (x.fmod y)])

theorem quotientZ (x y : Int) (hx : Fit x) (hy : Fit y) (h0 : y ≠ 0) (w : World) :
    Calls Try.prog 104 #[V x, V y] w fun e w' => EndsQ x y e ∧ Below w.heap.size w w' := by
  obtain ⟨hq, hr⟩ := div_math x y h0
  have hq0 : 0 < y.natAbs := by omega
  have hpM := abs_lt hx
  have hqM := abs_lt hy
  have hRM : x.natAbs % y.natAbs < M := Nat.lt_trans (Nat.mod_lt _ hq0) hqM
  have hl := leftN_lt x y h0
  have hG2 := fun v => signedZ (leftN x y) (decide (y < 0)) (Nat.lt_trans hl hqM) v
  rw [hr] at hG2
  have hfm : Fit (x.fmod y) := by
    obtain ⟨h1, h2⟩ := hy
    rw [← hr]
    by_cases h : y < 0
    · simp only [h, decide_true, cond_true]; constructor <;> omega
    · simp only [h, decide_false, cond_false]; constructor <;> omega
  have hG := fun v => signedZ (byN x y) (!(decide (x < 0) == decide (y < 0))) (byN_lt x y hx) v
  rw [hq] at hG
  have hadj : ((!(decide (x < 0) == decide (y < 0))) && !same (x.natAbs % y.natAbs) 0) = more x y := by
    rw [same_nat hRM M_pos]
    rfl
  refine (quotient_core (enc x) (enc y) x.natAbs y.natAbs (x.natAbs / y.natAbs) (x.natAbs % y.natAbs) (byN x y) (leftN x y) (enc (x.fdiv y)) (enc (x.fmod y)) (decide (x < 0)) (decide (y < 0)) _ (more x y) (!fit (x.fdiv y)) w ?_ rfl hadj (sizeZ x hx) (sizeZ y hy) (fun u => divide_any _ _ u hpM hqM hq0) (belowZ x hx) (belowZ y hy) ?_ ?_ ?_ (fun v => (hG v).mono fun _ _ ⟨he, hb⟩ => ⟨he.ends, hb⟩) ?_).mono fun e w' ⟨he, hb⟩ => ⟨he, hb⟩
  · show same (enc y) 0 = false
    have := same_enc hy fit_zero
    rw [show enc 0 = 0 from rfl] at this
    rw [this]
    simpa using h0
  · intro h
    unfold byN leftN
    rw [h]
    exact ⟨rfl, rfl⟩
  · intro h u
    have := plus_any (x.natAbs / y.natAbs) 1 u
    unfold byN
    rw [h]
    exact this
  · intro h u
    have h7 := minus_core y.natAbs (x.natAbs % y.natAbs) (M - 1 - x.natAbs % y.natAbs) (fun k hk => xor_lm _ k hRM hk) u
    refine h7.mono fun e w' ⟨he, hb⟩ => ⟨?_, hb⟩
    rw [he]
    unfold leftN
    rw [h]
    congr 2
    apply cells8_congr
    have hle := Nat.le_of_lt (Nat.mod_lt x.natAbs hq0)
    rw [show y.natAbs + (M - 1 - x.natAbs % y.natAbs) + 1 = (y.natAbs - x.natAbs % y.natAbs) + M by omega, Nat.add_mod_right]
    rfl
  · intro v
    refine (hG2 v).mono fun e w' ⟨he, hb⟩ => ⟨?_, hb⟩
    unfold EndsZ at he
    rw [fit_true hfm] at he
    exact he

end Go.Proofs.Ytnknejdmoghmiaa

namespace Go.Proofs.Ytnknejdmoghmiaa
open Go.RowKit
set_option maxRecDepth 4000

section
variable {P : Program} {ops : Array Oper} {S : Bool → World → Prop} {t : Nat} {E : Act → Prop}
/-- The store that turns the world. -/
theorem planT_store {r : List Nat} {a : Act} {o : Oper} (ho : ops[t]? = some o) (hw : Region.wanted o (yielded ops a.tmps) = true)
    (h : ∀ w, S false w → ∃ w', (execOp a.eval o).run P w = .ok .skip w' ∧ S true w') (hr : PlanT P ops S t E r (a.put o.dst undef)) : PlanT P ops S t E (t :: r) a :=
  ⟨o, undef, ho, fun b c h1 _ => .inl ⟨hw, fun w hS => by obtain ⟨rfl, rfl⟩ := h1 rfl; obtain ⟨w', h3, h4⟩ := h w hS; rw [h3]; exact ⟨rfl, h4⟩⟩, hr⟩
/-- A store that leaves both. -/
theorem planT_put {i : Nat} {r : List Nat} {a : Act} {o : Oper} (ho : ops[i]? = some o) (hi : i ≠ t) (hw : Region.wanted o (yielded ops a.tmps) = true)
    (h : ∀ b w, S b w → ∃ w', (execOp a.eval o).run P w = .ok .skip w' ∧ S b w') (hr : PlanT P ops S t E r (a.put o.dst undef)) : PlanT P ops S t E (i :: r) a :=
  ⟨o, undef, ho, fun b c _ h2 => .inl ⟨hw, fun w hS => by obtain ⟨w', h3, h4⟩ := h b w hS; rw [h3, h2 hi]; exact ⟨rfl, h4⟩⟩, hr⟩
end

theorem But.row {B g k : Nat} {a w : World} (h : But B g a w) (hk : k = g ∨ B ≤ k) (cs : Array Value) : But B g a (w.setRow k cs) :=
  ⟨h.os, h.tape, h.output, by have := h.size; simpa using this, fun i hi hne => (setRow_other w k i cs (by omega)).trans (h.block i hi hne)⟩
theorem But.alloc {B g : Nat} {a w : World} (h : But B g a w) (hB : B ≤ w.heap.size) (o : Obj) : But B g a (w.alloc o) :=
  h.trans (But.of_below ((Below.refl _ _).alloc hB _))

/-- What Div's own function knows of its blocks. -/
structure Di (w0 : World) (c l : Nat) (w : World) : Prop where
  r : Blk w w0.heap.size 40 (cells8 0)
  k : Blk w c 40 (cells8 l)
  b : But w0.heap.size c w0 w
  lt : c < w0.heap.size
theorem Di.keep {w0 w w' : World} {k l : Nat} (h : Di w0 k l w) (hb : Below w.heap.size w w') : Di w0 k l w' :=
  ⟨h.r.below hb h.r.lt, h.k.below hb h.k.lt, h.b.trans (But.of_below (hb.mono h.b.size)), h.lt⟩
theorem Di.put {w0 w : World} {k l : Nat} (h : Di w0 k l w) (n : Nat) : Di w0 k n (w.setRow k (cells8 n)) :=
  ⟨h.r.rowOther _ (by have := h.lt; omega), h.k.row _, h.b.row (.inl rfl) _, h.lt⟩

theorem Div1_core (a b n m : Nat) (bs : Bool) (g h k : Nat) (w : World) (HX : Hid (Blk w g 40 (cells8 a))) (HY : Hid (Blk w h 40 (cells8 b))) (HL : Hid (Blk w k 40 (cells8 0)))
    (hS : Hid (∀ u, Calls Try.prog 104 #[W a, W b] u fun e w' => (e = if bs then .panicked noAnswer else .returned (.tuple #[.agg (cells8 n), .agg (cells8 m)])) ∧ Below u.heap.size u w')) :
    Calls Try.prog 103 #[.pointer (some ⟨g, 0, none⟩), .pointer (some ⟨h, 0, none⟩), .pointer (some ⟨k, 0, none⟩)] w fun e w' => Ends bs n e ∧ Blk w' k 40 (cells8 (bif bs then 0 else m)) ∧ But w.heap.size k w w' := by
  have D0 : Hid (Di w k 0 (w.alloc (.cells #[.int .u64 0, .int .u64 0, .int .u64 0, .int .u64 0, .int .u64 0, .int .u64 0, .int .u64 0, .int .u64 0] 40))) :=
    ⟨cells8_0 ▸ Blk.new _ _ _, (unhide HL).alloc _, But.of_below ((Below.refl _ _).alloc (Nat.le_refl _) _), (unhide HL).lt⟩
  cases bs
  · have hS' : Hid (∀ u, Calls Try.prog 104 #[W a, W b] u fun e w' => e = .returned (.tuple #[.agg (cells8 n), .agg (cells8 m)]) ∧ Below u.heap.size u w') := hS
    clear hS
    go_enter Try.func103, Try.ntmps103
    go_upto_region 2 with (first
      | refine ld8 40 (.tmp 0) ((unhide HX).alloc _) rfl rfl rfl Try.underlying40 rfl iWide ?_
      | refine ld8 40 (.tmp 1) ((unhide HY).alloc _) rfl rfl rfl Try.underlying40 rfl iWide ?_
      | (go_at_call 104; refine (unhide hS' _).mono ?_; rintro e w' ⟨he, hb⟩; subst he)
      | refine st8 (n := n) 40 (.tmp 4) (.tmp 10) (Blk.first2 w' 40 _ _) rfl rfl rfl rfl rfl iWide ?_
      | refine st8 (n := m) 40 (.tmp 5) (.tmp 11) ((Blk.second2 w' 40 _ _).rowOther _ (by omega)) rfl rfl rfl rfl rfl iWide ?_)
    have D1 := hide ((unhide D0).keep hb)
    have hsz : w.heap.size < w'.heap.size := (unhide D1).r.lt
    have D2 : Hid (Di w k 0 ((((w'.alloc (.cells #[.int .u64 0, .int .u64 0, .int .u64 0, .int .u64 0, .int .u64 0, .int .u64 0, .int .u64 0, .int .u64 0] 40)).alloc (.cells #[.int .u64 0, .int .u64 0, .int .u64 0, .int .u64 0, .int .u64 0, .int .u64 0, .int .u64 0, .int .u64 0] 40)).setRow w'.heap.size (cells8 n)).setRow (w'.heap.size + 1) (cells8 m))) :=
      ⟨(((((unhide D1).r.alloc _).alloc _).rowOther _ (by omega)).rowOther _ (by omega)), (((((unhide D1).k.alloc _).alloc _).rowOther _ (by have := (unhide D1).lt; omega)).rowOther _ (by have := (unhide D1).lt; omega)),
        (((((unhide D1).b.alloc (by omega) _).alloc (by simp; omega) _).row (.inr (by omega)) _).row (.inr (by omega)) _), (unhide D1).lt⟩
    have N2 : Hid (Blk ((((w'.alloc (.cells #[.int .u64 0, .int .u64 0, .int .u64 0, .int .u64 0, .int .u64 0, .int .u64 0, .int .u64 0, .int .u64 0] 40)).alloc (.cells #[.int .u64 0, .int .u64 0, .int .u64 0, .int .u64 0, .int .u64 0, .int .u64 0, .int .u64 0, .int .u64 0] 40)).setRow w'.heap.size (cells8 n)).setRow (w'.heap.size + 1) (cells8 m)) w'.heap.size 40 (cells8 n)) := ((Blk.first2 w' 40 _ _).row _).rowOther _ (by omega)
    have M2 : Hid (Blk ((((w'.alloc (.cells #[.int .u64 0, .int .u64 0, .int .u64 0, .int .u64 0, .int .u64 0, .int .u64 0, .int .u64 0, .int .u64 0] 40)).alloc (.cells #[.int .u64 0, .int .u64 0, .int .u64 0, .int .u64 0, .int .u64 0, .int .u64 0, .int .u64 0, .int .u64 0] 40)).setRow w'.heap.size (cells8 n)).setRow (w'.heap.size + 1) (cells8 m)) (w'.heap.size + 1) 40 (cells8 m)) := ((Blk.second2 w' 40 _ _).rowOther _ (by omega)).row _
    have hk : Hid (w'.heap.size ≠ k) := by show w'.heap.size ≠ k; have := (unhide D1).lt; omega
    clear D0 D1 hb HX HY HL hsz
    generalize (((w'.alloc (.cells #[.int .u64 0, .int .u64 0, .int .u64 0, .int .u64 0, .int .u64 0, .int .u64 0, .int .u64 0, .int .u64 0] 40)).alloc (.cells #[.int .u64 0, .int .u64 0, .int .u64 0, .int .u64 0, .int .u64 0, .int .u64 0, .int .u64 0, .int .u64 0] 40)).setRow w'.heap.size (cells8 n)).setRow (w'.heap.size + 1) (cells8 m) = u at D2 N2 M2 ⊢
    generalize w'.heap.size = d at N2 M2 hk ⊢
    go_wp2_with (first
      | refine ld8 40 (.tmp 5) (unhide M2) rfl rfl rfl Try.underlying40 rfl iWide ?_
      | refine st8 (n := m) 40 (.tmp 2) (.tmp 12) (unhide D2).k rfl rfl rfl rfl rfl iWide ?_
      | refine ld8 40 (.tmp 4) ((unhide N2).rowOther _ (unhide hk)) rfl rfl rfl Try.underlying40 rfl iWide ?_
      | refine st8 (n := n) 40 (.tmp 3) (.tmp 13) ((unhide D2).put m).r rfl rfl rfl rfl rfl iWide ?_)
    have hlt := (unhide D2).lt
    exact res8 (((unhide D2).put m).r.row _) rfl rfl rfl Try.underlying40 rfl iWide ⟨rfl, ((unhide D2).put m).k.rowOther _ (by omega), ((unhide D2).put m).b.row (.inr (Nat.le_refl _)) _⟩
  · have hS' : Hid (∀ u, Calls Try.prog 104 #[W a, W b] u fun e w' => e = .panicked noAnswer ∧ Below u.heap.size u w') := hS
    clear hS
    go_enter Try.func103, Try.ntmps103
    go_wp2_with (first
      | refine ld8 40 (.tmp 0) ((unhide HX).alloc _) rfl rfl rfl Try.underlying40 rfl iWide ?_
      | refine ld8 40 (.tmp 1) ((unhide HY).alloc _) rfl rfl rfl Try.underlying40 rfl iWide ?_
      | (go_at_call 104; refine (unhide hS' _).mono ?_; rintro e w' ⟨he, hb⟩; subst he))
    exact ⟨rfl, rfl, ((unhide D0).keep hb).k, ((unhide D0).keep hb).b⟩

/-- Two whole numbers out of their blocks, and a value out of its slot. -/
theorem res88s {P : Program} {fn : Func} {R : Ending → World → Prop} {p q s : Tmp} {ty : TypeId} {a : Act} {w : World} {n m g k : Nat} {t : TypeId} {d : TypeDesc} {v : Value}
    (hg : Blk w g t (cells8 n)) (hk : Blk w k t (cells8 m)) (h : fn.results = #[.cell p ty, .cell q ty, .tmp s]) (hp : a.tmps.getD p undef = .pointer (some ⟨g, 0, none⟩)) (hq : a.tmps.getD q undef = .pointer (some ⟨k, 0, none⟩)) (hs : a.tmps.getD s undef = v) (hdf : a.defers = [])
    (hu : P.underlying ty = some d) (hd : (match d with | .struct _ | .array _ _ => true | _ => false) = true) (hi : (P.info? ty).map (·.size) = some 8)
    (hR : R (.returned (.tuple #[.agg (cells8 n), .agg (cells8 m), v])) w) : bodyPost P fn R .ret a w := by
  refine bodyPost_ret ?_ hdf hR
  have hp' : a.tmps[p]?.getD undef = .pointer (some ⟨g, 0, none⟩) := by simpa using hp
  have hq' : a.tmps[q]?.getD undef = .pointer (some ⟨k, 0, none⟩) := by simpa using hq
  have hs' : a.tmps[s]?.getD undef = v := by simpa using hs
  simp [results, h, hp', hq', hs', asAddr, run_loadVar_row w g t ty (cells8 n) (0, 0) d hg hu hd hi, run_loadVar_row w k t ty (cells8 m) (0, 0) d hk hu hd hi, Result.andThen]

/-- face of Div's own function. -/
theorem face_div (w : World) (g h k n L : Nat) (bs : Bool) (hk : k < w.heap.size)
    (hc : ∀ u, Below w.heap.size w u → Calls Try.prog 103 #[ptr g, ptr h, ptr k] u fun e u' => Ends bs n e ∧ Blk u' k 40 (cells8 L) ∧ But u.heap.size k u u') :
    Calls Try.prog 100 #[.func (.func 103) #[] #[ptr g, ptr h, ptr k]] w fun e w' => e = .returned (told bs n) ∧ Blk w' k 40 (cells8 L) ∧ But w.heap.size k w w' := by
  refine face_any 103 _ w n bs (fun u => Blk u k 40 (cells8 L) ∧ But w.heap.size k w u) (fun _ => by simp [go_sem]) ?_ (fun u cs ⟨h1, h2⟩ => ⟨h1.rowOther _ (by omega), h2.row (.inr (Nat.le_refl _)) _⟩) (fun u v ⟨h1, h2⟩ => ⟨h1.other _ _ (by simp; omega), h2.setCell (.inr (by simp)) v⟩)
  refine (hc _ (below2 _ _ _)).mono fun e u' ⟨he, hl, hb⟩ => ⟨he, ⟨hl, (But.of_below (below2 _ _ _)).trans (hb.mono (by simp; omega))⟩, ?_, ?_⟩
  · exact cells8_0 ▸ (Blk.first2 w 40 _ _).but hb (Blk.first2 w 40 _ _).lt (by omega)
  · exact (Blk.second2 w 4 _ _).but hb (Blk.second2 w 4 _ _).lt (by omega)

/-- What Div knows of its blocks at its end. -/
structure De (w0 : World) (g n L : Nat) (b : Bool) (w : World) : Prop where
  q : Blk w (g + 1 + 1) 40 (cells8 n)
  r : Blk w (g + 1 + 1 + 1) 40 (cells8 (bif b then L else 0))
  l : Blk w (g + 1 + 1 + 1 + 1) 40 (cells8 L)
  o : Below g w0 w

set_option maxHeartbeats 1000000 in
theorem Div_core (a b n m : Nat) (bs : Bool) (w : World)
    (hS : Hid (∀ u, Calls Try.prog 104 #[W a, W b] u fun e w' => (e = if bs then .panicked noAnswer else .returned (.tuple #[.agg (cells8 n), .agg (cells8 m)])) ∧ Below u.heap.size u w')) :
    Calls Try.prog 50 #[W a, W b] w fun e w' => e = .returned (.tuple #[.agg (cells8 (bif bs then 0 else n)), .agg (cells8 (bif bs then 0 else m)), .bool (!bs)]) ∧ Below w.heap.size w w' := by
  have hmf : ∀ (fn : Fn) (first cap : Array Value) (w : World), (Instr.makeFunc fn first cap).run Try.prog w = .ok (.func fn first cap) w := fun _ _ _ _ => rfl
  obtain ⟨N, hN⟩ : ∃ N, N = bif bs then 0 else n := ⟨_, rfl⟩
  obtain ⟨L, hL⟩ : ∃ L, L = bif bs then 0 else m := ⟨_, rfl⟩
  obtain ⟨ok, hok⟩ : ∃ ok, ok = !bs := ⟨_, rfl⟩
  rw [← hN, ← hL, ← hok]
  have hF : Hid (∀ (u : World) (g h k : Nat), Blk u g 40 (cells8 a) → Blk u h 40 (cells8 b) → Blk u k 40 (cells8 0) → Calls Try.prog 100 #[.func (.func 103) #[] #[ptr g, ptr h, ptr k]] u fun e w' => e = .returned (.tuple #[.agg (cells8 N), .bool ok]) ∧ Blk w' k 40 (cells8 L) ∧ But u.heap.size k u w') := by
    intro u g h k bg bh bk
    refine (face_div u g h k n L bs bk.lt fun v hb => ?_).mono fun e w' ⟨he, h⟩ => ⟨?_, h⟩
    · rw [hL]
      exact Div1_core a b n m bs g h k v (bg.below hb bg.lt) (bh.below hb bh.lt) (bk.below hb bk.lt) hS
    · rw [he, hN, hok]
      cases bs <;> rfl
  clear hS hN hL hok
  go_enter Try.func50, Try.ntmps50
  go_upto_region 2 with fail
  have D0 := hide (Qt.start w a b)
  have L0 : Hid (Blk (((((w.alloc (.cells (cells8 a) 40)).alloc (.cells (cells8 b) 40)).alloc (.cells #[.int .u64 0, .int .u64 0, .int .u64 0, .int .u64 0, .int .u64 0, .int .u64 0, .int .u64 0, .int .u64 0] 40)).alloc (.cells #[.int .u64 0, .int .u64 0, .int .u64 0, .int .u64 0, .int .u64 0, .int .u64 0, .int .u64 0, .int .u64 0] 40)).alloc (.cells #[.int .u64 0, .int .u64 0, .int .u64 0, .int .u64 0, .int .u64 0, .int .u64 0, .int .u64 0, .int .u64 0] 40)) (w.heap.size + 1 + 1 + 1 + 1) 40 (cells8 0)) := cells8_0 ▸ Blk.at (by simp) rfl
  have D1 := hide ((unhide D0).keep ((Below.refl _ _).alloc (Nat.le_refl _) (.cells #[.int .u64 0, .int .u64 0, .int .u64 0, .int .u64 0, .int .u64 0, .int .u64 0, .int .u64 0, .int .u64 0] 40)))
  clear D0
  have hF1 := hide (unhide hF _ _ _ _ (unhide D1).a (unhide D1).b (unhide L0))
  clear hF
  generalize ((((w.alloc (.cells (cells8 a) 40)).alloc (.cells (cells8 b) 40)).alloc (.cells #[.int .u64 0, .int .u64 0, .int .u64 0, .int .u64 0, .int .u64 0, .int .u64 0, .int .u64 0, .int .u64 0] 40)).alloc (.cells #[.int .u64 0, .int .u64 0, .int .u64 0, .int .u64 0, .int .u64 0, .int .u64 0, .int .u64 0, .int .u64 0] 40)).alloc (.cells #[.int .u64 0, .int .u64 0, .int .u64 0, .int .u64 0, .int .u64 0, .int .u64 0, .int .u64 0, .int .u64 0] 40) = w1 at D1 L0 hF1 ⊢
  go_upto_region 3 with (first
    | (go_at_call 100; refine (unhide hF1).mono ?_; rintro e w2 ⟨he, hl2, hb2⟩; subst he)
    | refine st8 (n := N) 40 (.tmp 4) (.tmp 11) ((unhide D1).q.but hb2 (unhide D1).q.lt (by omega)) rfl rfl rfl rfl rfl iWide ?_)
  have D2 : Hid (De w w.heap.size N L false (w2.setRow (w.heap.size + 1 + 1) (cells8 N)).drew) :=
    ⟨(((unhide D1).q.but hb2 (unhide D1).q.lt (by omega)).row _).drew, (((unhide D1).r.but hb2 (unhide D1).r.lt (by omega)).rowOther _ (by omega)).drew, (hl2.rowOther _ (by omega)).drew,
      (below_row ((unhide D1).o.trans (hb2.below (by have := (unhide D1).a.lt; omega) (by omega))) (by omega) _).drew⟩
  clear D1 L0 hl2 hb2 hF1
  refine region_planT (t := 4) (S := De w w.heap.size N L) (l := [0, 1, 2, 3, 4, 5]) (by kernel_rfl) (by kernel_rfl) (by kernel_rfl) (by kernel_rfl) (by kernel_rfl) (by kernel_rfl) (by kernel_rfl) (by decide) (unhide D2) ?_
  clear D2
  refine planT_read rfl (by decide) rfl (fun b u hS => exec_load8 40 (.tmp 4) hS.q rfl rfl Try.underlying40 rfl iWide) ?_
  refine planT_read rfl (by decide) rfl (fun b u hS => exec_load8 40 (.tmp 7) hS.l rfl rfl Try.underlying40 rfl iWide) ?_
  refine planT_read (v := ?_) rfl (by decide) rfl (fun b u hS => by go_simp; rfl) ?_
  go_simp
  refine planT_put rfl (by decide) rfl (fun b u hS => ⟨_, exec_store8 (n := N) 40 (.tmp 4) (.tmp 13) hS.q rfl rfl rfl rfl iWide, ⟨hS.q.row _, hS.r.rowOther _ (by omega), hS.l.rowOther _ (by omega), below_row hS.o (by omega) _⟩⟩) ?_
  refine planT_store rfl rfl (fun u hS => ⟨_, exec_store8 (n := L) 40 (.tmp 5) (.tmp 14) hS.r rfl rfl rfl rfl iWide, ⟨hS.q.rowOther _ (by omega), hS.r.row _, hS.l.rowOther _ (by omega), below_row hS.o (by omega) _⟩⟩) ?_
  go_simp
  refine planT_read (v := ?_) rfl (by decide) rfl (fun b u hS => by go_simp; rfl) ?_
  go_simp
  refine planT_end (fun u hS => ?_)
  have HS := hide hS
  clear hS
  go_wp2
  exact res88s (unhide HS).q (unhide HS).r rfl rfl rfl rfl rfl Try.underlying40 rfl iWide ⟨rfl, (unhide HS).o⟩

end Go.Proofs.Ytnknejdmoghmiaa

namespace Go.Proofs.Ytnknejdmoghmiaa
open Go.RowKit
set_option maxRecDepth 4000

/-- Div has an answer. -/
def dq (x y : Int) : Bool := !decide (y = 0) && fit (x.fdiv y)
theorem DivZ (x y : Int) (hx : Fit x) (hy : Fit y) (w : World) :
    Calls Try.prog 50 #[V x, V y] w fun e w' => e = .returned (.tuple #[.agg (cells8 (bif dq x y then enc (x.fdiv y) else 0)), .agg (cells8 (bif dq x y then enc (x.fmod y) else 0)), .bool (dq x y)]) ∧ Below w.heap.size w w' := by
  by_cases h0 : y = 0
  · subst h0
    refine (Div_core (enc x) (enc 0) 0 0 true w fun u => ?_).mono fun e w' ⟨he, hb⟩ => ⟨?_, hb⟩
    · exact quotient_zero (enc x) u
    · rw [he]
      simp [dq]
  · refine (Div_core (enc x) (enc y) (enc (x.fdiv y)) (enc (x.fmod y)) (!fit (x.fdiv y)) w (quotientZ x y hx hy h0)).mono fun e w' ⟨he, hb⟩ => ⟨?_, hb⟩
    rw [he]
    unfold dq
    cases hf : fit (x.fdiv y) <;> simp [h0]

/-- The root, rounded down. -/
def isq : Nat → Nat
  | 0 => 0
  | x + 1 => if (isq x + 1) * (isq x + 1) ≤ x + 1 then isq x + 1 else isq x
theorem isq_spec : ∀ x, isq x * isq x ≤ x ∧ x < (isq x + 1) * (isq x + 1)
  | 0 => by decide
  | x + 1 => by
    obtain ⟨h1, h2⟩ := isq_spec x
    unfold isq
    split
    · rename_i h
      refine ⟨h, ?_⟩
      have : (isq x + 1) * (isq x + 1) ≤ (isq x + 1 + 1) * (isq x + 1 + 1) - 1 := by
        have e : (isq x + 1 + 1) * (isq x + 1 + 1) = (isq x + 1) * (isq x + 1) + 2 * (isq x + 1) + 1 := by
          rw [Nat.add_mul (isq x + 1) 1, Nat.mul_add (isq x + 1) (isq x + 1) 1]
          omega
        omega
      have e : (isq x + 1 + 1) * (isq x + 1 + 1) = (isq x + 1) * (isq x + 1) + 2 * (isq x + 1) + 1 := by
        rw [Nat.add_mul (isq x + 1) 1, Nat.mul_add (isq x + 1) (isq x + 1) 1]
        omega
      omega
    · exact ⟨by omega, by omega⟩
theorem isq_le (x : Nat) : isq x ≤ x := by
  have h := (isq_spec x).1
  rcases Nat.eq_zero_or_pos (isq x) with h0 | h0
  · omega
  · have := Nat.le_mul_of_pos_right (isq x) h0
    omega
/-- A number of before, and the answer's block. -/
structure Sh1 (w0 : World) (g a : Nat) (w : World) : Prop where
  x : Blk w g 40 (cells8 a)
  r : Blk w w0.heap.size 40 (cells8 0)
  o : Below w0.heap.size w0 w
theorem Sh1.keep {w0 w w' : World} {g a : Nat} (h : Sh1 w0 g a w) (hb : Below w.heap.size w w') : Sh1 w0 g a w' :=
  ⟨h.x.below hb h.x.lt, h.r.below hb h.r.lt, h.o.trans (hb.mono h.o.size)⟩

end Go.Proofs.Ytnknejdmoghmiaa
