/- A region that draws its order and leaves by panic at one of its calls; the contract of what Mul hands to face. The contracts of raised and Shr of package wide. The contracts of Add, Sub, Neg, Mul, Shl, Shr and Bits of package wide, over integers. -/
import Derived.Test.YtnemedgdhojhdaaGreatZc
import Derived.Test.YtnemedgdhojhdaaGreatYd
namespace Go.Proofs.YtnemedgdhojhdaaGreat
open Go.RowKit
set_option maxRecDepth 4000

section
variable {P : Program} {ops : Array Oper} {Q : Exit → Act → World → Prop} {S : World → Prop}

/-- The operation is a call that leaves by panic. -/
def Dies (P : Program) (ops : Array Oper) (S : World → Prop) (Q : Exit → Act → World → Prop) (o : Oper) (a : Act) : Prop :=
  Region.wanted o (yielded ops a.tmps) = true ∧ ∀ w, S w → ∃ f args, (execOp a.eval o).run P w = .ok (.enter f args) w ∧
    Calls P f args w fun e w' => ∃ ch, e = .panicked ch ∧ ∀ a' : Act, a'.defers = a.defers → Q (.panic ch) a' w'

theorem Act.put_defers (a : Act) (d : Option Tmp) (v : Value) : (a.put d v).defers = a.defers := by cases d <;> rfl

/-- An operation that waits for none of l may be met ahead of them. -/
theorem Plan.meet (hs : Region.noSelect ops = true) {f : Nat} {o : Oper} (ho : ops[f]? = some o) : ∀ (l : List Nat) (a : Act), (∀ i ∈ l, apartAt ops i f = true) → Plan P ops S (Dies P ops S Q o) l a → Dies P ops S Q o a
  | [], _, _, h => h
  | i :: l, a, hap, h => by
    obtain ⟨oi, vi, hoi, _, hrest⟩ := h
    obtain ⟨hw, hd⟩ := Plan.meet hs ho l _ (fun k hk => hap k (List.mem_cons_of_mem _ hk)) hrest
    have hx : oi.apart ops o = true := by have := hap i (List.mem_cons_self ..); simpa [apartAt, hoi, ho] using this
    obtain ⟨h1, _, _⟩ := Oper.apart_spec hx
    have e1 := execOp_put o (fun cs b => Region.noSelect_spec hs f o cs b ho) a oi.dst vi h1
    have e2 := wanted_put (ops := ops) o a oi.dst vi h1
    refine ⟨by rw [← e2]; exact hw, fun w hS => ?_⟩
    obtain ⟨fn, args, hr, hc⟩ := hd w hS
    refine ⟨fn, args, by rw [← e1]; exact hr, hc.mono fun e w' ⟨ch, he, hq⟩ => ⟨ch, he, fun a' ha => hq a' (by rw [ha, Act.put_defers])⟩⟩

theorem region_dies {id : Nat} {l F : List Nat} {f : Nat} {o : Oper} {a : Act} {w : World} (hm : P.follows .mixedOrders = true) (hs : Region.noSelect ops = true) (he2 : edgesOk ops = true)
    (hok : okPlan ops l = true) (hall : (List.range ops.size).all (fun k => l.contains k || F.contains k) = true) (hlt : (l ++ F).all (fun k => decide (k < ops.size)) = true)
    (hap : l.all (fun k => !F.contains k && F.all fun j => !waits ops k j) = true) (hlen : l.length + F.length = ops.size) (hf : F.contains f = true)
    (hF : F.all (fun j => j == f || F.any fun k => waits ops j k) = true) (hff : F.all (fun k => !waits ops f k) = true) (hl : l.all (fun i => waits ops f i || apartAt ops i f) = true)
    (ho : ops[f]? = some o)
    (hS : S w.drew) (hp : Plan P ops S (Dies P ops S Q o) l a) : (Code.region id ops true).wp P Q a w := by
  simp only [List.all_eq_true, Bool.or_eq_true, beq_iff_eq, List.any_eq_true, Bool.not_eq_true'] at hF hff hl
  have hfm : f ∈ F := by simpa using hf
  refine wp_region_any hm ?_
  refine plan_any hs F (fun l => ∀ i ∈ l, waits ops f i = true ∨ apartAt ops i f = true) (fun l j r h _ i hi => h i (by rcases List.mem_append.1 hi with hi | hi <;> simp [hi])) ?_ ?_ (fun _ _ h => by subst h; cases hfm) he2 ops.size l _ a _ (by omega)
    (left_of_replicate hok hall hlt hap) hl hp hS
  · intro fuel l listed a w j hlf hg hpl hSw hj hr
    rcases hF j hj with e | ⟨k, hk, hw⟩
    · subst e
      have hapart : ∀ i ∈ l, apartAt ops i j = true := fun i hi => by
        rcases hg i hi with h | h
        · rw [not_waits hr (hlf.un i hi)] at h; cases h
        · exact h
      obtain ⟨hwt, hd⟩ := hpl.meet hs ho l a hapart
      obtain ⟨fn, args, hrun, hc⟩ := hd w hSw
      unfold wpOp
      simp only [ho, hwt, if_true]
      refine .inl ?_
      unfold Oper.wp
      rw [hrun]
      simp only [Oper.upon]
      exact hc.mono fun e w' ⟨ch, he, hq⟩ => by subst he; exact hq a rfl
    · rw [not_waits hr (hlf.uf k hk)] at hw; cases hw
  · intro listed hlf _ hr
    have hu := hlf.uf f hfm
    have : f ∈ Region.ready .any ops listed := by
      refine mem_ready.2 ⟨hu, o, ho, fun e he hbd => ?_⟩
      by_cases hun : listed.getD e.on true = false
      · exfalso
        rcases hlf.all _ hun with h | h
        · cases h
        · have h3 : waits ops f e.on = true := by
            unfold waits
            rw [ho]
            simp only [Option.map_some, Option.getD_some, Array.any_eq_true']
            exact ⟨e, he, by simp [hbd]⟩
          rw [hff _ h] at h3; cases h3
      · have h1 : listed.getD e.on true = true := by simpa using hun
        rcases Nat.lt_or_ge e.on listed.size with h' | h'
        · simpa [h'] using h1
        · have := edgesOk_spec he2 ho he
          have := hlf.sz
          omega
    rw [hr] at this
    cases this

theorem plan_dies {o : Oper} {a : Act} {f : FuncId} {args : Array Value} {ch : List PanicEntry} (hw : Region.wanted o (yielded ops a.tmps) = true)
    (h : ∀ w, S w → (execOp a.eval o).run P w = .ok (.enter f args) w) (hc : ∀ w, S w → Calls P f args w fun e w' => e = .panicked ch ∧ ∀ a' : Act, a'.defers = a.defers → Q (.panic ch) a' w') :
    Plan P ops S (Dies P ops S Q o) [] a :=
  ⟨hw, fun w hS => ⟨f, args, h w hS, (hc w hS).mono fun _ _ ⟨he, hq⟩ => ⟨ch, he, hq⟩⟩⟩

end

/-- What Mul's own function knows of its blocks. -/
structure Mb (w0 : World) (g h a b : Nat) (w : World) : Prop where
  a : Blk w g 75 (cells8 a)
  b : Blk w h 75 (cells8 b)
  r : Blk w w0.heap.size 75 (cells8 0)
  o : Below w0.heap.size w0 w
theorem Mb.keep {w0 w w' : World} {g h a b : Nat} (d : Mb w0 g h a b w) (hb : Below w.heap.size w w') : Mb w0 g h a b w' :=
  ⟨d.a.below hb d.a.lt, d.b.below hb d.b.lt, d.r.below hb d.r.lt, d.o.trans (hb.mono d.o.size)⟩

set_option maxHeartbeats 2000000 in
theorem Mul1_core (a b p q m n : Nat) (sa sb bt bs : Bool) (g h : Nat) (w : World) (HX : Hid (Blk w g 75 (cells8 a))) (HY : Hid (Blk w h 75 (cells8 b)))
    (hA : Hid (∀ u, Calls Tryz.prog 159 #[W a] u fun e w' => e = .returned (.agg (cells8 p)) ∧ Below u.heap.size u w'))
    (hB : Hid (∀ u, Calls Tryz.prog 159 #[W b] u fun e w' => e = .returned (.agg (cells8 q)) ∧ Below u.heap.size u w'))
    (hT : Hid (∀ u, Calls Tryz.prog 158 #[W p, W q] u fun e w' => Ends bt m e ∧ Below u.heap.size u w'))
    (hNa : Hid (∀ u, Calls Tryz.prog 154 #[W a] u fun e w' => e = .returned (.bool sa) ∧ Below u.heap.size u w'))
    (hNb : Hid (∀ u, Calls Tryz.prog 154 #[W b] u fun e w' => e = .returned (.bool sb) ∧ Below u.heap.size u w'))
    (hG : Hid (∀ u, Calls Tryz.prog 155 #[W m, .bool (!(sa == sb))] u fun e w' => Ends bs n e ∧ Below u.heap.size u w')) :
    Calls Tryz.prog 157 #[.pointer (some ⟨g, 0, none⟩), .pointer (some ⟨h, 0, none⟩)] w fun e w' => Ends (bt || bs) n e ∧ Below w.heap.size w w' := by
  go_enter Tryz.func157, Tryz.ntmps157
  go_upto_region 1 with fail
  have D0 : Hid (Mb w g h a b (w.alloc (.cells #[.int .u64 0, .int .u64 0, .int .u64 0, .int .u64 0, .int .u64 0, .int .u64 0, .int .u64 0, .int .u64 0] 75)).drew) :=
    ⟨((unhide HX).alloc _).drew, ((unhide HY).alloc _).drew, cells8_0 ▸ (Blk.new _ _ _).drew, ((Below.refl _ _).alloc (Nat.le_refl _) _).drew⟩
  cases bt
  · cases bs
    · refine region_last (S := Mb w g h a b) (f := 11) (l := [0, 1, 2, 3, 4, 5, 6, 7, 8, 9, 10]) (by kernel_rfl) (by kernel_rfl) (by kernel_rfl) (by kernel_rfl) (by kernel_rfl) (by kernel_rfl) (by kernel_rfl) (by kernel_rfl) (by kernel_rfl) (by kernel_rfl) rfl rfl (unhide D0) ?_
      clear D0
      refine plan_read rfl rfl (fun u hS => exec_load8 75 (.tmp 0) hS.a rfl rfl Tryz.underlying75 rfl iWide) ?_
      refine plan_call (v := .agg (cells8 p)) (f := 159) (args := #[W a]) rfl rfl (fun u hS => by go_simp) (fun u hS => (unhide hA u).mono fun _ _ ⟨he, hb⟩ => ⟨he, hS.keep hb⟩) ?_
      go_simp
      refine plan_read rfl rfl (fun u hS => exec_load8 75 (.tmp 1) hS.b rfl rfl Tryz.underlying75 rfl iWide) ?_
      refine plan_call (v := .agg (cells8 q)) (f := 159) (args := #[W b]) rfl rfl (fun u hS => by go_simp) (fun u hS => (unhide hB u).mono fun _ _ ⟨he, hb⟩ => ⟨he, hS.keep hb⟩) ?_
      go_simp
      refine plan_call (v := .agg (cells8 m)) (f := 158) (args := #[W p, W q]) rfl rfl (fun u hS => by go_simp) (fun u hS => (unhide hT u).mono fun _ _ ⟨he, hb⟩ => ⟨Ends.no he, hS.keep hb⟩) ?_
      go_simp
      refine plan_read rfl rfl (fun u hS => exec_load8 75 (.tmp 0) hS.a rfl rfl Tryz.underlying75 rfl iWide) ?_
      refine plan_call (v := .bool sa) (f := 154) (args := #[W a]) rfl rfl (fun u hS => by go_simp) (fun u hS => (unhide hNa u).mono fun _ _ ⟨he, hb⟩ => ⟨he, hS.keep hb⟩) ?_
      go_simp
      refine plan_read rfl rfl (fun u hS => exec_load8 75 (.tmp 1) hS.b rfl rfl Tryz.underlying75 rfl iWide) ?_
      refine plan_call (v := .bool sb) (f := 154) (args := #[W b]) rfl rfl (fun u hS => by go_simp) (fun u hS => (unhide hNb u).mono fun _ _ ⟨he, hb⟩ => ⟨he, hS.keep hb⟩) ?_
      go_simp
      refine plan_read (v := .bool (!(sa == sb))) rfl rfl (fun u hS => by go_simp) ?_
      refine plan_call (v := .agg (cells8 n)) (f := 155) (args := #[W m, .bool (!(sa == sb))]) rfl rfl (fun u hS => by go_simp) (fun u hS => (unhide hG u).mono fun _ _ ⟨he, hb⟩ => ⟨Ends.no he, hS.keep hb⟩) ?_
      go_simp
      refine plan_last (fun u hS => ?_)
      refine wp_store_row 75 (.tmp 2) (.tmp 13) rfl _ (cells8 n) rfl rfl 75 _ hS.r iWide rfl (cells8_one _) ?_
      have R2 := hide (hS.r.row (cells8 n))
      have O2 := hide (below_row hS.o (Nat.le_refl _) (cells8 n))
      clear hS
      go_wp2
      exact res8 (unhide R2) rfl rfl rfl Tryz.underlying75 rfl iWide ⟨rfl, unhide O2⟩
    · refine region_dies (S := Mb w g h a b) (f := 10) (F := [10, 11]) (l := [0, 1, 2, 3, 4, 5, 6, 7, 8, 9]) (by kernel_rfl) (by kernel_rfl) (by kernel_rfl) (by kernel_rfl) (by kernel_rfl) (by kernel_rfl) (by kernel_rfl) (by kernel_rfl) (by kernel_rfl) (by kernel_rfl) (by kernel_rfl) (by kernel_rfl) rfl (unhide D0) ?_
      clear D0
      refine plan_read rfl rfl (fun u hS => exec_load8 75 (.tmp 0) hS.a rfl rfl Tryz.underlying75 rfl iWide) ?_
      refine plan_call (v := .agg (cells8 p)) (f := 159) (args := #[W a]) rfl rfl (fun u hS => by go_simp) (fun u hS => (unhide hA u).mono fun _ _ ⟨he, hb⟩ => ⟨he, hS.keep hb⟩) ?_
      go_simp
      refine plan_read rfl rfl (fun u hS => exec_load8 75 (.tmp 1) hS.b rfl rfl Tryz.underlying75 rfl iWide) ?_
      refine plan_call (v := .agg (cells8 q)) (f := 159) (args := #[W b]) rfl rfl (fun u hS => by go_simp) (fun u hS => (unhide hB u).mono fun _ _ ⟨he, hb⟩ => ⟨he, hS.keep hb⟩) ?_
      go_simp
      refine plan_call (v := .agg (cells8 m)) (f := 158) (args := #[W p, W q]) rfl rfl (fun u hS => by go_simp) (fun u hS => (unhide hT u).mono fun _ _ ⟨he, hb⟩ => ⟨Ends.no he, hS.keep hb⟩) ?_
      go_simp
      refine plan_read rfl rfl (fun u hS => exec_load8 75 (.tmp 0) hS.a rfl rfl Tryz.underlying75 rfl iWide) ?_
      refine plan_call (v := .bool sa) (f := 154) (args := #[W a]) rfl rfl (fun u hS => by go_simp) (fun u hS => (unhide hNa u).mono fun _ _ ⟨he, hb⟩ => ⟨he, hS.keep hb⟩) ?_
      go_simp
      refine plan_read rfl rfl (fun u hS => exec_load8 75 (.tmp 1) hS.b rfl rfl Tryz.underlying75 rfl iWide) ?_
      refine plan_call (v := .bool sb) (f := 154) (args := #[W b]) rfl rfl (fun u hS => by go_simp) (fun u hS => (unhide hNb u).mono fun _ _ ⟨he, hb⟩ => ⟨he, hS.keep hb⟩) ?_
      go_simp
      refine plan_read (v := .bool (!(sa == sb))) rfl rfl (fun u hS => by go_simp) ?_
      go_simp
      refine plan_dies (f := 155) (args := #[W m, .bool (!(sa == sb))]) (ch := noAnswer) rfl (fun u hS => by go_simp) (fun u hS => (unhide hG u).mono fun _ _ ⟨he, hb⟩ => ⟨Ends.yes he, fun _ hd => ⟨hd, rfl, (hS.keep hb).o⟩⟩)
  · refine region_dies (S := Mb w g h a b) (f := 4) (F := [4, 6, 8, 9, 10, 11]) (l := [0, 1, 2, 3, 5, 7]) (by kernel_rfl) (by kernel_rfl) (by kernel_rfl) (by kernel_rfl) (by kernel_rfl) (by kernel_rfl) (by kernel_rfl) (by kernel_rfl) (by kernel_rfl) (by kernel_rfl) (by kernel_rfl) (by kernel_rfl) rfl (unhide D0) ?_
    clear D0
    refine plan_read rfl rfl (fun u hS => exec_load8 75 (.tmp 0) hS.a rfl rfl Tryz.underlying75 rfl iWide) ?_
    refine plan_call (v := .agg (cells8 p)) (f := 159) (args := #[W a]) rfl rfl (fun u hS => by go_simp) (fun u hS => (unhide hA u).mono fun _ _ ⟨he, hb⟩ => ⟨he, hS.keep hb⟩) ?_
    go_simp
    refine plan_read rfl rfl (fun u hS => exec_load8 75 (.tmp 1) hS.b rfl rfl Tryz.underlying75 rfl iWide) ?_
    refine plan_call (v := .agg (cells8 q)) (f := 159) (args := #[W b]) rfl rfl (fun u hS => by go_simp) (fun u hS => (unhide hB u).mono fun _ _ ⟨he, hb⟩ => ⟨he, hS.keep hb⟩) ?_
    go_simp
    refine plan_read rfl rfl (fun u hS => exec_load8 75 (.tmp 0) hS.a rfl rfl Tryz.underlying75 rfl iWide) ?_
    refine plan_read rfl rfl (fun u hS => exec_load8 75 (.tmp 1) hS.b rfl rfl Tryz.underlying75 rfl iWide) ?_
    go_simp
    refine plan_dies (f := 158) (args := #[W p, W q]) (ch := noAnswer) rfl (fun u hS => by go_simp) (fun u hS => (unhide hT u).mono fun _ _ ⟨he, hb⟩ => ⟨Ends.yes he, fun _ hd => ⟨hd, rfl, (hS.keep hb).o⟩⟩)

end Go.Proofs.YtnemedgdhojhdaaGreat

namespace Go.Proofs.YtnemedgdhojhdaaGreat
open Go.RowKit
set_option maxRecDepth 4000

/-- What raised knows of its blocks. -/
structure Ra (w0 : World) (g d a b : Nat) (w : World) : Prop where
  x : Blk w g 75 (cells8 a)
  r : Blk w (g + 1) 75 (cells8 0)
  v : Blk w d 75 (cells8 b)
  o : Below g w0 w
theorem Ra.keep {w0 w w' : World} {g d a b : Nat} (h : Ra w0 g d a b w) (hb : Below w.heap.size w w') : Ra w0 g d a b w' :=
  ⟨h.x.below hb h.x.lt, h.r.below hb h.r.lt, h.v.below hb h.v.lt, h.o.trans (hb.mono (Nat.le_of_lt h.x.lt))⟩

theorem raised_no (a : Nat) (n : Int) (hn : n < 0) (w : World) :
    Calls Tryz.prog 167 #[W a, .int .i64 n] w fun e w' => Ends true 0 e ∧ Below w.heap.size w w' := by
  have hd : decide (n < 0) = true := by simpa using hn
  go_enter Tryz.func167, Tryz.ntmps167
  go_wp2
  exact ⟨rfl, rfl, below2 _ _ _⟩

set_option maxHeartbeats 1000000 in
theorem raised_core (a b c : Nat) (n f : Int) (w : World) (h0 : ¬ n < 0) (hw : IntKind.i64.wrap (-n) = -n)
    (hL : Hid (∀ u, Calls Tryz.prog 164 #[W a, .int .i64 (-n), .int .u64 0] u fun e w' => e = .returned (.agg (cells8 b)) ∧ Below u.heap.size u w'))
    (hF : Hid (∀ u, Calls Tryz.prog 165 #[W b] u fun e w' => e = .returned (.int .u64 f) ∧ Below u.heap.size u w'))
    (hR : Hid (∀ u, Calls Tryz.prog 164 #[W b, .int .i64 n, .int .u64 f] u fun e w' => e = .returned (.agg (cells8 c)) ∧ Below u.heap.size u w')) :
    Calls Tryz.prog 167 #[W a, .int .i64 n] w fun e w' => Ends (!same c a) b e ∧ Below w.heap.size w w' := by
  have hd : decide (n < 0) = false := by simpa using h0
  go_enter Tryz.func167, Tryz.ntmps167
  go_upto_region 1 with fail
  have D0 := hide (Blk.first2 w 75 (cells8 a) (.cells #[.int .u64 0, .int .u64 0, .int .u64 0, .int .u64 0, .int .u64 0, .int .u64 0, .int .u64 0, .int .u64 0] 75))
  go_wp2_with (first
    | refine ld8 73 (.tmp 9) (unhide D0) rfl rfl rfl Tryz.underlying73 rfl iArr ?_
    | refine bd1 75 (.tmp 13) rfl rfl rfl (bWide b) ?_
    | refine st8new (n := b) 75 (.tmp 5) (.tmp 14) rfl rfl rfl rfl rfl iWide ?_
    | (go_at_call 164; refine (unhide hL _).mono ?_; rintro e w1 ⟨he, hb1⟩; subst he))
  have D1 : Hid (Ra w w.heap.size w1.heap.size a b (w1.alloc (.cells (cells8 b) 75)).drew) := by
    have hs := hb1.size
    simp at hs
    exact ⟨(((unhide D0).below hb1 (unhide D0).lt).alloc _).drew, (((cells8_0 ▸ Blk.second2 w 75 _ _ : Blk _ _ _ (cells8 0)).below hb1 (by simp)).alloc _).drew, (Blk.new _ _ _).drew, (((below2 _ _ _).trans (hb1.mono (by simp; omega))).alloc (by omega) _).drew⟩
  clear D0 hb1 hL
  generalize w1.heap.size = d at D1 ⊢
  simp only [Act.put]
  refine region_plan (S := Ra w w.heap.size d a b) (l := [0, 1, 2, 3, 4, 5, 6, 7, 8]) (by kernel_rfl) (by kernel_rfl) (by kernel_rfl) (by kernel_rfl) (by kernel_rfl) (by kernel_rfl) (by kernel_rfl) (unhide D1) ?_
  clear D1
  refine plan_read (v := ?_) rfl rfl (fun u hS => by go_simp; rfl) ?_
  go_simp
  refine plan_read rfl rfl (fun u hS => exec_load8 73 (.tmp 15) hS.v rfl rfl Tryz.underlying73 rfl iArr) ?_
  refine plan_read (v := ?_) rfl rfl (fun u hS => by go_simp; rfl) ?_
  refine plan_read rfl rfl (fun u hS => exec_load8 75 (.tmp 5) hS.v rfl rfl Tryz.underlying75 rfl iWide) ?_
  go_simp
  refine plan_call (v := .int .u64 f) (f := 165) (args := #[W b]) rfl rfl (fun u hS => by go_simp) (fun u hS => (unhide hF u).mono fun _ _ ⟨he, hb⟩ => ⟨he, hS.keep hb⟩) ?_
  go_simp
  refine plan_call (v := .agg (cells8 c)) (f := 164) (args := #[W b, .int .i64 n, .int .u64 f]) rfl rfl (fun u hS => by go_simp) (fun u hS => (unhide hR u).mono fun _ _ ⟨he, hb⟩ => ⟨he, hS.keep hb⟩) ?_
  go_simp
  refine plan_read (v := ?_) rfl rfl (fun u hS => by go_simp; rfl) ?_
  go_simp
  refine plan_read rfl rfl (fun u hS => exec_load8 73 (.tmp 21) hS.x rfl rfl Tryz.underlying73 rfl iArr) ?_
  go_simp
  cases t : same c a
  · refine plan_read (v := .bool true) rfl rfl (fun u hS => exec_neq_limbs_is (n := c) (m := a) (b := false) _ (.tmp 20) (.tmp 22) t rfl rfl rfl) ?_
    refine plan_end (fun u hS => ?_)
    go_simp
    have HO := hide hS.o
    clear hS
    go_wp2
    exact ⟨rfl, by simp [Ends, t, noAnswer], unhide HO⟩
  · refine plan_read (v := .bool false) rfl rfl (fun u hS => exec_neq_limbs_is (n := c) (m := a) (b := true) _ (.tmp 20) (.tmp 22) t rfl rfl rfl) ?_
    refine plan_end (fun u hS => ?_)
    go_simp
    have HS := hide hS
    clear hS
    go_wp2_with (first
      | refine ld8 75 (.tmp 5) (unhide HS).v rfl rfl rfl Tryz.underlying75 rfl iWide ?_
      | refine st8 (n := b) 75 (.tmp 4) (.tmp 25) (unhide HS).r rfl rfl rfl rfl rfl iWide ?_)
    exact res8 ((unhide HS).r.row _) rfl rfl rfl Tryz.underlying75 rfl iWide ⟨by simp [Ends, t], below_row (unhide HS).o (by omega) _⟩

/-- What Shr knows of its blocks. -/
structure Sh (w0 : World) (g a : Nat) (w : World) : Prop where
  x : Blk w g 75 (cells8 a)
  r : Blk w (g + 1) 75 (cells8 0)
  o : Below g w0 w
theorem Sh.keep {w0 w w' : World} {g a : Nat} (h : Sh w0 g a w) (hb : Below w.heap.size w w') : Sh w0 g a w' :=
  ⟨h.x.below hb h.x.lt, h.r.below hb h.r.lt, h.o.trans (hb.mono (Nat.le_of_lt h.x.lt))⟩

set_option maxHeartbeats 1000000 in
theorem Shr_core (a c : Nat) (n m f : Int) (w : World) (hm : (if n < 0 then 0 else n) = m)
    (hF : Hid (∀ u, Calls Tryz.prog 165 #[W a] u fun e w' => e = .returned (.int .u64 f) ∧ Below u.heap.size u w'))
    (hR : Hid (∀ u, Calls Tryz.prog 164 #[W a, .int .i64 m, .int .u64 f] u fun e w' => e = .returned (.agg (cells8 c)) ∧ Below u.heap.size u w')) :
    Calls Tryz.prog 133 #[W a, .int .i64 n] w fun e w' => e = .returned (.agg (cells8 c)) ∧ Below w.heap.size w w' := by
  go_enter Tryz.func133, Tryz.ntmps133
  go_upto_region 1 with fail
  have D1 : Hid (Sh w w.heap.size a ((w.alloc (.cells (cells8 a) 75)).alloc (.cells #[.int .u64 0, .int .u64 0, .int .u64 0, .int .u64 0, .int .u64 0, .int .u64 0, .int .u64 0, .int .u64 0] 75)).drew) :=
    ⟨(Blk.first2 _ _ _ _).drew, cells8_0 ▸ (Blk.second2 _ _ _ _).drew, (below2 _ _ _).drew⟩
  refine region_last (S := Sh w w.heap.size a) (f := 8) (l := [0, 1, 2, 3, 4, 5, 6, 7]) (by kernel_rfl) (by kernel_rfl) (by kernel_rfl) (by kernel_rfl) (by kernel_rfl) (by kernel_rfl) (by kernel_rfl) (by kernel_rfl) (by kernel_rfl) (by kernel_rfl) rfl rfl (unhide D1) ?_
  clear D1
  refine plan_read (v := ?_) rfl rfl (fun u hS => by go_simp; rfl) ?_
  go_simp
  refine plan_read rfl rfl (fun u hS => exec_load8 73 (.tmp 5) hS.x rfl rfl Tryz.underlying73 rfl iArr) ?_
  refine plan_read (v := ?_) rfl rfl (fun u hS => by go_simp; rfl) ?_
  go_simp
  refine plan_read (v := .int .i64 m) rfl rfl (fun u hS => ?_) ?_
  · go_simp
  go_simp
  refine plan_read rfl rfl (fun u hS => exec_load8 75 (.tmp 2) hS.x rfl rfl Tryz.underlying75 rfl iWide) ?_
  go_simp
  refine plan_call (v := .int .u64 f) (f := 165) (args := #[W a]) rfl rfl (fun u hS => by go_simp) (fun u hS => (unhide hF u).mono fun _ _ ⟨he, hb⟩ => ⟨he, hS.keep hb⟩) ?_
  go_simp
  refine plan_call (v := .agg (cells8 c)) (f := 164) (args := #[W a, .int .i64 m, .int .u64 f]) rfl rfl (fun u hS => by go_simp) (fun u hS => (unhide hR u).mono fun _ _ ⟨he, hb⟩ => ⟨he, hS.keep hb⟩) ?_
  go_simp
  refine plan_read rfl rfl (fun u hS => exec_build1 _ 75 (.tmp 11) rfl rfl (bWide c)) ?_
  go_simp
  refine plan_last (fun u hS => ?_)
  refine wp_store_row 75 (.tmp 4) (.tmp 12) rfl _ (cells8 c) rfl rfl 75 _ hS.r iWide rfl (cells8_one _) ?_
  have R2 := hide (hS.r.row (cells8 c))
  have O2 := hide (below_row hS.o (show w.heap.size ≤ w.heap.size + 1 by omega) (cells8 c))
  clear hS
  go_wp2
  exact res8 (unhide R2) rfl rfl rfl Tryz.underlying75 rfl iWide ⟨rfl, unhide O2⟩

end Go.Proofs.YtnemedgdhojhdaaGreat

namespace Go.Proofs.YtnemedgdhojhdaaGreat
open Go.RowKit
set_option maxRecDepth 4000

theorem EndsZ.ends {z : Int} {e : Ending} (h : EndsZ z e) : Ends (!fit z) (enc z) e := by
  unfold EndsZ at h
  unfold Ends
  rw [h]
  cases fit z <;> rfl
theorem Ends.any {n m : Nat} {e : Ending} (h : Ends true n e) : Ends true m e := h
/-- What a face answers of an integer that may not fit. -/
def toldZ (z : Int) : Value := told (!fit z) (enc z)
theorem toldZ_fit {z : Int} (h : Fit z) : toldZ z = .tuple #[V z, .bool true] := by unfold toldZ told; rw [fit_true h]; rfl
theorem toldZ_not {z : Int} (h : fit z = false) : toldZ z = .tuple #[V 0, .bool false] := by
  show _ = Value.tuple #[.agg (cells8 (enc 0)), .bool false]
  unfold toldZ told
  rw [h, show enc 0 = 0 from rfl]
  rfl

theorem AddZ (x y : Int) (hx : Fit x) (hy : Fit y) (w : World) :
    Calls Tryz.prog 93 #[V x, V y] w fun e w' => e = .returned (toldZ (x + y)) ∧ Below w.heap.size w w' :=
  Add_core (enc x) (enc y) (enc (x + y)) (!fit (x + y)) w fun g h u bg bh => Add1_core _ _ _ _ g h u bg bh fun v => (sumZ x y hx hy v).mono fun _ _ ⟨he, hb⟩ => ⟨he.ends, hb⟩
theorem SubZ (x y : Int) (hx : Fit x) (hy : Fit y) (w : World) :
    Calls Tryz.prog 206 #[V x, V y] w fun e w' => e = .returned (toldZ (x - y)) ∧ Below w.heap.size w w' :=
  Sub_core (enc x) (enc y) (enc (x - y)) (!fit (x - y)) w fun g h u bg bh => Sub1_core _ _ _ _ g h u bg bh fun v => (differenceZ x y hx hy v).mono fun _ _ ⟨he, hb⟩ => ⟨he.ends, hb⟩
theorem fit_zero : Fit 0 := by have := H_pos; exact ⟨by omega, by omega⟩
theorem timesZ (x y : Nat) (hx : x < M) (hy : y < M) (w : World) :
    Calls Tryz.prog 158 #[W x, W y] w fun e w' => Ends (decide (M ≤ x * y)) (x * y) e ∧ Below w.heap.size w w' := by
  obtain ⟨hxu, _⟩ := used_spec x 8 (by rw [← M_pow8]; exact hx)
  obtain ⟨hyu, _⟩ := used_spec y 8 (by rw [← M_pow8]; exact hy)
  refine (times_core x y _ _ w rfl rfl hyu).mono fun e w' ⟨he, hb⟩ => ⟨?_, hb⟩
  have hp : part x y (usedTo x 8) = x * y := by unfold part; rw [Nat.mod_eq_of_lt hxu]
  rw [hp] at he
  have hq : x * y / M < M := Nat.div_lt_of_lt_mul (Nat.mul_lt_mul'' hx hy)
  rw [same_nat hq M_pos] at he
  have e1 : (!decide (x * y / M = 0)) = decide (M ≤ x * y) := by
    rw [← decide_not]
    congr 1
    apply propext
    rw [Nat.div_eq_zero_iff]
    have := M_pos
    omega
  rw [e1] at he
  exact he

theorem mul_signs (x y : Int) : (bif !(decide (x < 0) == decide (y < 0)) then -((x.natAbs * y.natAbs : Nat) : Int) else ((x.natAbs * y.natAbs : Nat) : Int)) = x * y := by
  rw [Int.natCast_mul]
  by_cases h1 : x < 0 <;> by_cases h2 : y < 0
  · simp only [h1, h2, decide_true, beq_self_eq_true, Bool.not_true, cond_false]
    rw [show (x.natAbs : Int) = -x by omega, show (y.natAbs : Int) = -y by omega, Int.neg_mul_neg]
  · simp only [h1, h2, decide_true, decide_false, show (true == false) = false from rfl, Bool.not_false, cond_true]
    rw [show (x.natAbs : Int) = -x by omega, show (y.natAbs : Int) = y by omega, Int.neg_mul, Int.neg_neg]
  · simp only [h1, h2, decide_true, decide_false, show (false == true) = false from rfl, Bool.not_false, cond_true]
    rw [show (x.natAbs : Int) = x by omega, show (y.natAbs : Int) = -y by omega, Int.mul_neg, Int.neg_neg]
  · simp only [h1, h2, decide_false, beq_self_eq_true, Bool.not_true, cond_false]
    rw [show (x.natAbs : Int) = x by omega, show (y.natAbs : Int) = y by omega]

theorem MulZ (x y : Int) (hx : Fit x) (hy : Fit y) (w : World) :
    Calls Tryz.prog 126 #[V x, V y] w fun e w' => e = .returned (toldZ (x * y)) ∧ Below w.heap.size w w' := by
  have hG := signedZ (x.natAbs * y.natAbs % M) (!(decide (x < 0) == decide (y < 0))) (Nat.mod_lt _ M_pos)
  rw [W_mod] at hG
  refine Mul_core (enc x) (enc y) (enc (x * y)) (!fit (x * y)) w fun g h u bg bh => ?_
  refine (Mul1_core _ _ x.natAbs y.natAbs (x.natAbs * y.natAbs) _ (decide (x < 0)) (decide (y < 0)) (decide (M ≤ x.natAbs * y.natAbs)) _ g h u bg bh (sizeZ x hx) (sizeZ y hy) (timesZ _ _ (abs_lt hx) (abs_lt hy)) (belowZ x hx) (belowZ y hy) fun v => (hG v).mono fun _ _ ⟨he, hb⟩ => ⟨he.ends, hb⟩).mono fun e w' ⟨he, hb⟩ => ⟨?_, hb⟩
  by_cases hm : M ≤ x.natAbs * y.natAbs
  · have hf : fit (x * y) = false := by
      have h1 := Int.natAbs_mul x y
      have := M_H
      unfold fit
      rw [decide_eq_false_iff_not]
      omega
    rw [hf]
    simp only [hm, decide_true, Bool.true_or] at he
    exact he.any
  · rw [Nat.mod_eq_of_lt (by omega), mul_signs] at he
    simpa only [hm, decide_false, Bool.false_or] using he

theorem fit_unique {x y : Int} (hx : Fit x) (hy : Fit y) (h : x % (M : Int) = y % (M : Int)) : x = y := by
  have h1 := same_of (n := enc x) (m := enc x) (x := x) (y := y) (by rw [enc_int, Int.emod_emod]) (by rw [enc_int, Int.emod_emod, h]) hx hy
  unfold same at h1
  rw [decide_eq_true rfl] at h1
  exact of_decide_eq_true h1.symm

/-- The integer that eight limbs are. -/
def sv (n : Nat) : Int := if n % M < H then ((n % M : Nat) : Int) else ((n % M : Nat) : Int) - (M : Int)
theorem sv_fit (n : Nat) : Fit (sv n) := by
  have h1 := Nat.mod_lt n M_pos
  have h2 := M_H
  unfold sv
  split <;> constructor <;> omega
theorem sv_mod (n : Nat) : (n : Int) % (M : Int) = sv n % (M : Int) := by
  unfold sv
  split
  · rw [Int.natCast_emod, Int.emod_emod]
  · rw [Int.natCast_emod, Int.sub_emod_right, Int.emod_emod]
theorem cells8_sv (n : Nat) : cells8 n = cells8 (enc (sv n)) := cells8_enc (sv_mod n)

theorem two_pow_pos (n : Nat) : 0 < ((2 ^ n : Nat) : Int) := by have := Nat.pow_pos (n := n) (show 0 < 2 by decide); omega
theorem fit_div {z : Int} (hz : Fit z) (p : Int) (hp : 0 < p) : Fit (z / p) := by
  obtain ⟨h1, h2⟩ := hz
  have hH := H_pos
  constructor
  · rw [Int.le_ediv_iff_mul_le hp, Int.neg_mul]
    have : (H : Int) * 1 ≤ (H : Int) * p := Int.mul_le_mul_of_nonneg_left (by omega) (by omega)
    omega
  · apply Int.ediv_lt_of_lt_mul hp
    have : (H : Int) * 1 ≤ (H : Int) * p := Int.mul_le_mul_of_nonneg_left (by omega) (by omega)
    omega

/-- To the right, with the sign's limbs above: by a power of two, rounded down. -/
theorem winr (z : Int) (hz : Fit z) (n : Nat) (hn : (n : Int) < 9223372036854775808) (w : World) :
    Calls Tryz.prog 164 #[V z, .int .i64 (n : Int), .int .u64 (if z < 0 then 18446744073709551615 else 0)] w fun e w' => e = .returned (V (z / ((2 ^ n : Nat) : Int))) ∧ Below w.heap.size w w' := by
  have hM := MI
  obtain ⟨h1, h2⟩ := hz
  by_cases h : z < 0
  · rw [if_pos h]
    refine (win_rightF (enc z) n (enc_lt z) hn w).mono fun e w' ⟨he, hb⟩ => ⟨?_, hb⟩
    rw [he, cells8_enc (z := z / ((2 ^ n : Nat) : Int))]
    have hE := enc_neg h (by omega)
    have hpos := two_pow_pos n
    rw [Int.natCast_ediv]
    obtain ⟨d, hd⟩ : ∃ d, 64 * (n / 64 + 2) = n + d := ⟨64 * (n / 64 + 2) - n, by omega⟩
    have hup : (up (enc z) n : Int) = z + ((2 ^ n : Nat) : Int) * (((2 ^ d : Nat) : Int) * (M : Int)) := by
      unfold up
      rw [hd, Nat.pow_add]
      have hp : 1 ≤ 2 ^ n * 2 ^ d := Nat.mul_pos (Nat.pow_pos (by decide)) (Nat.pow_pos (by decide))
      generalize 2 ^ n = A at *
      generalize 2 ^ d = B at *
      rw [Int.natCast_add, hE, Int.natCast_mul, Int.natCast_sub hp, Int.sub_mul, Int.natCast_mul, Int.mul_assoc]
      omega
    rw [hup, Int.add_mul_ediv_left _ _ (by omega), Int.add_mul_emod_self_right]
  · rw [if_neg h]
    refine (win_right0 (enc z) n (enc_lt z) hn w).mono fun e w' ⟨he, hb⟩ => ⟨?_, hb⟩
    rw [he, cells8_enc (z := z / ((2 ^ n : Nat) : Int))]
    rw [Int.natCast_ediv, enc_nn (by omega) (by omega)]

theorem pow_M (n : Nat) : (2 ^ n ∣ M) ∨ (M ∣ 2 ^ n) := by
  obtain ⟨e, he⟩ : ∃ e, M = 2 ^ e := ⟨64 * 8, M_pow8⟩
  rw [he]
  rcases Nat.le_total n e with h | h
  · exact .inl (Nat.pow_dvd_pow 2 h)
  · exact .inr (Nat.pow_dvd_pow 2 h)

/-- It fits, if and only if the way back leads to it. -/
theorem back_iff (x z : Int) (n : Nat) (hz : Fit z) (h : z % (M : Int) = (x * ((2 ^ n : Nat) : Int)) % (M : Int)) :
    decide (z / ((2 ^ n : Nat) : Int) = x) = fit (x * ((2 ^ n : Nat) : Int)) ∧ (Fit (x * ((2 ^ n : Nat) : Int)) → z = x * ((2 ^ n : Nat) : Int)) := by
  have hp := two_pow_pos n
  have hM := pow_M n
  generalize 2 ^ n = P at *
  have key : Fit (x * (P : Int)) → z = x * (P : Int) := fun hf => fit_unique hz hf h
  refine ⟨?_, key⟩
  by_cases hf : Fit (x * (P : Int))
  · rw [fit_true hf, key hf, Int.mul_ediv_cancel _ (by omega)]
    simp
  · have : fit (x * (P : Int)) = false := by
      cases he : fit (x * (P : Int)) with
      | false => rfl
      | true => exact absurd (Fit.of he) hf
    rw [this, decide_eq_false_iff_not]
    intro hq
    apply hf
    rcases hM with ⟨c, hc⟩ | ⟨c, hc⟩
    · have hdv : (P : Int) ∣ z := by
        have h1 : (P : Int) ∣ (M : Int) := ⟨c, by rw [hc, Int.natCast_mul]⟩
        have h2 : (M : Int) ∣ z - x * (P : Int) := Int.dvd_of_emod_eq_zero (by rw [Int.sub_emod, h, Int.sub_self, Int.zero_emod])
        have h3 : (P : Int) ∣ z - x * (P : Int) := Int.dvd_trans h1 h2
        have h4 := Int.dvd_add h3 (Int.dvd_mul_left x (P : Int))
        rwa [Int.sub_add_cancel] at h4
      have := Int.ediv_mul_cancel hdv
      rw [hq] at this
      rw [this]
      exact hz
    · have h0 : z = 0 := by
        apply fit_unique hz fit_zero
        rw [h, hc, Int.natCast_mul, ← Int.mul_assoc, Int.mul_comm x (M : Int), Int.mul_assoc, Int.mul_emod_right, Int.zero_emod]
      rw [h0, Int.zero_ediv] at hq
      rw [← hq, Int.zero_mul]
      exact fit_zero

theorem raisedZ (x n : Int) (hx : Fit x) (h0 : -9223372036854775808 ≤ n) (h1 : n < 9223372036854775808) (w : World) :
    Calls Tryz.prog 167 #[V x, .int .i64 n] w fun e w' => Ends (decide (n < 0) || !fit (x * ((2 ^ n.toNat : Nat) : Int))) (enc (x * ((2 ^ n.toNat : Nat) : Int))) e ∧ Below w.heap.size w w' := by
  by_cases hn : n < 0
  · refine (raised_no (enc x) n hn w).mono fun e w' ⟨he, hb⟩ => ⟨?_, hb⟩
    simp only [hn, decide_true, Bool.true_or]
    exact he.any
  · obtain ⟨k, rfl⟩ := Int.eq_ofNat_of_zero_le (show 0 ≤ n by omega)
    have hmod : sv (enc x * 2 ^ k) % (M : Int) = (x * ((2 ^ k : Nat) : Int)) % (M : Int) := by
      rw [← sv_mod, Int.natCast_mul, enc_int, Int.mul_emod, Int.emod_emod, ← Int.mul_emod]
    have hz := sv_fit (enc x * 2 ^ k)
    have hL := fun u => win_left (enc x) k (enc_lt x) h1 u
    rw [cells8_sv] at hL
    generalize sv (enc x * 2 ^ k) = z at *
    obtain ⟨hq, hf⟩ := back_iff x z k hz hmod
    refine (raised_core (enc x) (enc z) (enc (z / ((2 ^ k : Nat) : Int))) (k : Int) _ w hn (by rw [IntKind.wrap_i64]; omega) hL (fillZ z hz) (winr z hz k h1)).mono fun e w' ⟨he, hb⟩ => ⟨?_, hb⟩
    rw [same_enc (fit_div hz _ (two_pow_pos k)) hx, hq] at he
    simp only [hn, decide_false, Bool.false_or, Int.toNat_natCast]
    cases hft : fit (x * ((2 ^ k : Nat) : Int)) with
    | false => rw [hft] at he; exact he.any
    | true => rw [hft, hf (Fit.of hft)] at he; exact he

theorem ShlZ (x n : Int) (hx : Fit x) (h0 : -9223372036854775808 ≤ n) (h1 : n < 9223372036854775808) (w : World) :
    Calls Tryz.prog 134 #[V x, .int .i64 n] w fun e w' => e = .returned (told (decide (n < 0) || !fit (x * ((2 ^ n.toNat : Nat) : Int))) (enc (x * ((2 ^ n.toNat : Nat) : Int)))) ∧ Below w.heap.size w w' :=
  Shl_core (enc x) _ n _ w fun g h u bg bh => Shl1_core _ _ n _ g h u bg bh fun v => raisedZ x n hx h0 h1 v

theorem ShrZ (x n : Int) (hx : Fit x) (h1 : n < 9223372036854775808) (w : World) :
    Calls Tryz.prog 133 #[V x, .int .i64 n] w fun e w' => e = .returned (V (x / ((2 ^ n.toNat : Nat) : Int))) ∧ Below w.heap.size w w' := by
  have hR := winr x hx n.toNat (by omega)
  refine Shr_core (enc x) _ n _ _ w ?_ (fillZ x hx) hR
  split <;> omega

end Go.Proofs.YtnemedgdhojhdaaGreat
