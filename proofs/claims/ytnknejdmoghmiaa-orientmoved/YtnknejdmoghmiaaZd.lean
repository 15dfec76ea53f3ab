/- A region that draws its order and leaves by panic at one of its calls; the contract of what Mul hands to face. -/
import Derived.Test.YtnknejdmoghmiaaZc
import Derived.Test.YtnknejdmoghmiaaYd
namespace Go.Proofs.Ytnknejdmoghmiaa
open Go.RowKit
set_option maxRecDepth 4000

section
variable {P : Program} {ops : Array Oper} {Q : Exit → Act → World → Prop} {S : World → Prop}

/-- The operation is a call that leaves by panic. -/
def Dies (P : Program) (ops : Array Oper) (S : World → Prop) (Q : Exit → Act → World → Prop) (o : Oper) (a : Act) : Prop :=
  Region.wanted o (yielded ops a.tmps) = true ∧ ∀ w, S w → ∃ f args, (execOp a.eval o).run P w = .ok (.enter f args) w ∧
    Calls P f args w fun e w' => ∃ ch, e = .panicked ch ∧ ∀ a' : Act, a'.defers = a.defers → Q (.panic ch) a' w'

theorem Act.put_defers (a : Act) (d : Option Tmp) (v : Value) : (a.put d v).defers = a.defers := by cases d <;> rfl

/-- An operation that waits for none of l may be met ahead of them. -/
theorem Plan.meet (hs : Region.noSelect ops = true) {f : Nat} {o : Oper} (ho : ops[f]? = some o) : ∀ (l : List Nat) (a : Act), (∀ i ∈ l, apartAt ops i f = true) → Plan P ops S (Dies P ops S Q o) l a → Dies P ops S Q o a
  | [], _, _, h => h
  | i :: l, a, hap, h => by
    obtain ⟨oi, vi, hoi, _, hrest⟩ := h
    obtain ⟨hw, hd⟩ := Plan.meet hs ho l _ (fun k hk => hap k (List.mem_cons_of_mem _ hk)) hrest
    have hx : oi.apart ops o = true := by have := hap i (List.mem_cons_self ..); simpa [apartAt, hoi, ho] using this
    obtain ⟨h1, _, _⟩ := Oper.apart_spec hx
    have e1 := execOp_put o (fun cs b => Region.noSelect_spec hs f o cs b ho) a oi.dst vi h1
    have e2 := wanted_put (ops := ops) o a oi.dst vi h1
    refine ⟨by rw [← e2]; exact hw, fun w hS => ?_⟩
    obtain ⟨fn, args, hr, hc⟩ := hd w hS
    refine ⟨fn, args, by rw [← e1]; exact hr, hc.mono fun e w' ⟨ch, he, hq⟩ => ⟨ch, he, fun a' ha => hq a' (by rw [ha, Act.put_defers])⟩⟩

theorem region_dies {id : Nat} {l F : List Nat} {f : Nat} {o : Oper} {a : Act} {w : World} (hm : P.follows .mixedOrders = true) (hs : Region.noSelect ops = true) (he2 : edgesOk ops = true)
    (hok : okPlan ops l = true) (hall : (List.range ops.size).all (fun k => l.contains k || F.contains k) = true) (hlt : (l ++ F).all (fun k => decide (k < ops.size)) = true)
    (hap : l.all (fun k => !F.contains k && F.all fun j => !waits ops k j) = true) (hlen : l.length + F.length = ops.size) (hf : F.contains f = true)
    (hF : F.all (fun j => j == f || F.any fun k => waits ops j k) = true) (hff : F.all (fun k => !waits ops f k) = true) (hl : l.all (fun i => waits ops f i || apartAt ops i f) = true)
    (ho : ops[f]? = some o)
    (hS : S w.drew) (hp : Plan P ops S (Dies P ops S Q o) l a) : (Code.region id ops true).wp P Q a w := by
  simp only [List.all_eq_true, Bool.or_eq_true, beq_iff_eq, List.any_eq_true, Bool.not_eq_true'] at hF hff hl
  have hfm : f ∈ F := by simpa using hf
  refine wp_region_any hm ?_
  refine plan_any hs F (fun l => ∀ i ∈ l, waits ops f i = true ∨ apartAt ops i f = true) (fun l j r h _ i hi => h i (by rcases List.mem_append.1 hi with hi | hi <;> simp [hi])) ?_ ?_ (fun _ _ h => by subst h; cases hfm) he2 ops.size l _ a _ (by omega)
    (left_of_replicate hok hall hlt hap) hl hp hS
  · intro fuel l listed a w j hlf hg hpl hSw hj hr
    rcases hF j hj with e | ⟨k, hk, hw⟩
    · subst e
      have hapart : ∀ i ∈ l, apartAt ops i j = true := fun i hi => by
        rcases hg i hi with h | h
        · rw [not_waits hr (hlf.un i hi)] at h; cases h
        · exact h
      obtain ⟨hwt, hd⟩ := hpl.meet hs ho l a hapart
      obtain ⟨fn, args, hrun, hc⟩ := hd w hSw
      unfold wpOp
      simp only [ho, hwt, if_true]
      refine .inl ?_
      unfold Oper.wp
      rw [hrun]
      simp only [Oper.upon]
      exact hc.mono fun e w' ⟨ch, he, hq⟩ => by subst he; exact hq a rfl
    · rw [not_waits hr (hlf.uf k hk)] at hw; cases hw
  · intro listed hlf _ hr
    have hu := hlf.uf f hfm
    have : f ∈ Region.ready .any ops listed := by
      refine mem_ready.2 ⟨hu, o, ho, fun e he hbd => ?_⟩
      by_cases hun : listed.getD e.on true = false
      · exfalso
        rcases hlf.all _ hun with h | h
        · cases h
        · have h3 : waits ops f e.on = true := by
            unfold waits
            rw [ho]
            simp only [Option.map_some, Option.getD_some, Array.any_eq_true']
            exact ⟨e, he, by simp [hbd]⟩
          rw [hff _ h] at h3; cases h3
      · have h1 : listed.getD e.on true = true := by simpa using hun
        rcases Nat.lt_or_ge e.on listed.size with h' | h'
        · simpa [h'] using h1
        · have := edgesOk_spec he2 ho he
          have := hlf.sz
          omega
    rw [hr] at this
    cases this

theorem plan_dies {o : Oper} {a : Act} {f : FuncId} {args : Array Value} {ch : List PanicEntry} (hw : Region.wanted o (yielded ops a.tmps) = true)
    (h : ∀ w, S w → (execOp a.eval o).run P w = .ok (.enter f args) w) (hc : ∀ w, S w → Calls P f args w fun e w' => e = .panicked ch ∧ ∀ a' : Act, a'.defers = a.defers → Q (.panic ch) a' w') :
    Plan P ops S (Dies P ops S Q o) [] a :=
  ⟨hw, fun w hS => ⟨f, args, h w hS, (hc w hS).mono fun _ _ ⟨he, hq⟩ => ⟨ch, he, hq⟩⟩⟩

end

/-- What Mul's own function knows of its blocks. -/
structure Mb (w0 : World) (g h a b : Nat) (w : World) : Prop where
  a : Blk w g 40 (cells8 a)
  b : Blk w h 40 (cells8 b)
  r : Blk w w0.heap.size 40 (cells8 0)
  o : Below w0.heap.size w0 w
theorem Mb.keep {w0 w w' : World} {g h a b : Nat} (d : Mb w0 g h a b w) (hb : Below w.heap.size w w') : Mb w0 g h a b w' :=
  ⟨d.a.below hb d.a.lt, d.b.below hb d.b.lt, d.r.below hb d.r.lt, d.o.trans (hb.mono d.o.size)⟩

set_option maxHeartbeats 2000000 in
theorem Mul1_core (a b p q m n : Nat) (sa sb bt bs : Bool) (g h : Nat) (w : World) (HX : Hid (Blk w g 40 (cells8 a))) (HY : Hid (Blk w h 40 (cells8 b)))
    (hA : Hid (∀ u, Calls Try.prog 135 #[W a] u fun e w' => e = .returned (.agg (cells8 p)) ∧ Below u.heap.size u w'))
    (hB : Hid (∀ u, Calls Try.prog 135 #[W b] u fun e w' => e = .returned (.agg (cells8 q)) ∧ Below u.heap.size u w'))
    (hT : Hid (∀ u, Calls Try.prog 134 #[W p, W q] u fun e w' => Ends bt m e ∧ Below u.heap.size u w'))
    (hNa : Hid (∀ u, Calls Try.prog 99 #[W a] u fun e w' => e = .returned (.bool sa) ∧ Below u.heap.size u w'))
    (hNb : Hid (∀ u, Calls Try.prog 99 #[W b] u fun e w' => e = .returned (.bool sb) ∧ Below u.heap.size u w'))
    (hG : Hid (∀ u, Calls Try.prog 133 #[W m, .bool (!(sa == sb))] u fun e w' => Ends bs n e ∧ Below u.heap.size u w')) :
    Calls Try.prog 132 #[.pointer (some ⟨g, 0, none⟩), .pointer (some ⟨h, 0, none⟩)] w fun e w' => Ends (bt || bs) n e ∧ Below w.heap.size w w' := by
  go_enter Try.func132, Try.ntmps132
  go_upto_region 1 with fail
  have D0 : Hid (Mb w g h a b (w.alloc (.cells #[.int .u64 0, .int .u64 0, .int .u64 0, .int .u64 0, .int .u64 0, .int .u64 0, .int .u64 0, .int .u64 0] 40)).drew) :=
    ⟨((unhide HX).alloc _).drew, ((unhide HY).alloc _).drew, cells8_0 ▸ (Blk.new _ _ _).drew, ((Below.refl _ _).alloc (Nat.le_refl _) _).drew⟩
  cases bt
  · cases bs
    · refine region_last (S := Mb w g h a b) (f := 11) (l := [0, 1, 2, 3, 4, 5, 6, 7, 8, 9, 10]) (by kernel_rfl) (by kernel_rfl) (by kernel_rfl) (by kernel_rfl) (by kernel_rfl) (by kernel_rfl) (by kernel_rfl) (by kernel_rfl) (by kernel_rfl) (by kernel_rfl) rfl rfl (unhide D0) ?_
      clear D0
      refine plan_read rfl rfl (fun u hS => exec_load8 40 (.tmp 0) hS.a rfl rfl Try.underlying40 rfl iWide) ?_
      refine plan_call (v := .agg (cells8 p)) (f := 135) (args := #[W a]) rfl rfl (fun u hS => by go_simp) (fun u hS => (unhide hA u).mono fun _ _ ⟨he, hb⟩ => ⟨he, hS.keep hb⟩) ?_
      go_simp
      refine plan_read rfl rfl (fun u hS => exec_load8 40 (.tmp 1) hS.b rfl rfl Try.underlying40 rfl iWide) ?_
      refine plan_call (v := .agg (cells8 q)) (f := 135) (args := #[W b]) rfl rfl (fun u hS => by go_simp) (fun u hS => (unhide hB u).mono fun _ _ ⟨he, hb⟩ => ⟨he, hS.keep hb⟩) ?_
      go_simp
      refine plan_call (v := .agg (cells8 m)) (f := 134) (args := #[W p, W q]) rfl rfl (fun u hS => by go_simp) (fun u hS => (unhide hT u).mono fun _ _ ⟨he, hb⟩ => ⟨Ends.no he, hS.keep hb⟩) ?_
      go_simp
      refine plan_read rfl rfl (fun u hS => exec_load8 40 (.tmp 0) hS.a rfl rfl Try.underlying40 rfl iWide) ?_
      refine plan_call (v := .bool sa) (f := 99) (args := #[W a]) rfl rfl (fun u hS => by go_simp) (fun u hS => (unhide hNa u).mono fun _ _ ⟨he, hb⟩ => ⟨he, hS.keep hb⟩) ?_
      go_simp
      refine plan_read rfl rfl (fun u hS => exec_load8 40 (.tmp 1) hS.b rfl rfl Try.underlying40 rfl iWide) ?_
      refine plan_call (v := .bool sb) (f := 99) (args := #[W b]) rfl rfl (fun u hS => by go_simp) (fun u hS => (unhide hNb u).mono fun _ _ ⟨he, hb⟩ => ⟨he, hS.keep hb⟩) ?_
      go_simp
      refine plan_read (v := .bool (!(sa == sb))) rfl rfl (fun u hS => by go_simp) ?_
      refine plan_call (v := .agg (cells8 n)) (f := 133) (args := #[W m, .bool (!(sa == sb))]) rfl rfl (fun u hS => by go_simp) (fun u hS => (unhide hG u).mono fun _ _ ⟨he, hb⟩ => ⟨Ends.no he, hS.keep hb⟩) ?_
      go_simp
      refine plan_last (fun u hS => ?_)
      refine wp_store_row 40 (.tmp 2) (.tmp 13) rfl _ (cells8 n) rfl rfl 40 _ hS.r iWide rfl (cells8_one _) ?_
      have R2 := hide (hS.r.row (cells8 n))
      have O2 := hide (below_row hS.o (Nat.le_refl _) (cells8 n))
      clear hS
      go_wp2
      exact res8 (unhide R2) rfl rfl rfl Try.underlying40 rfl iWide ⟨rfl, unhide O2⟩
    · refine region_dies (S := Mb w g h a b) (f := 10) (F := [10, 11]) (l := [0, 1, 2, 3, 4, 5, 6, 7, 8, 9]) (by kernel_rfl) (by kernel_rfl) (by kernel_rfl) (by kernel_rfl) (by kernel_rfl) (by kernel_rfl) (by kernel_rfl) (by kernel_rfl) (by kernel_rfl) (by kernel_rfl) (by kernel_rfl) (by kernel_rfl) rfl (unhide D0) ?_
      clear D0
      refine plan_read rfl rfl (fun u hS => exec_load8 40 (.tmp 0) hS.a rfl rfl Try.underlying40 rfl iWide) ?_
      refine plan_call (v := .agg (cells8 p)) (f := 135) (args := #[W a]) rfl rfl (fun u hS => by go_simp) (fun u hS => (unhide hA u).mono fun _ _ ⟨he, hb⟩ => ⟨he, hS.keep hb⟩) ?_
      go_simp
      refine plan_read rfl rfl (fun u hS => exec_load8 40 (.tmp 1) hS.b rfl rfl Try.underlying40 rfl iWide) ?_
      refine plan_call (v := .agg (cells8 q)) (f := 135) (args := #[W b]) rfl rfl (fun u hS => by go_simp) (fun u hS => (unhide hB u).mono fun _ _ ⟨he, hb⟩ => ⟨he, hS.keep hb⟩) ?_
      go_simp
      refine plan_call (v := .agg (cells8 m)) (f := 134) (args := #[W p, W q]) rfl rfl (fun u hS => by go_simp) (fun u hS => (unhide hT u).mono fun _ _ ⟨he, hb⟩ => ⟨Ends.no he, hS.keep hb⟩) ?_
      go_simp
      refine plan_read rfl rfl (fun u hS => exec_load8 40 (.tmp 0) hS.a rfl rfl Try.underlying40 rfl iWide) ?_
      refine plan_call (v := .bool sa) (f := 99) (args := #[W a]) rfl rfl (fun u hS => by go_simp) (fun u hS => (unhide hNa u).mono fun _ _ ⟨he, hb⟩ => ⟨he, hS.keep hb⟩) ?_
      go_simp
      refine plan_read rfl rfl (fun u hS => exec_load8 40 (.tmp 1) hS.b rfl rfl Try.underlying40 rfl iWide) ?_
      refine plan_call (v := .bool sb) (f := 99) (args := #[W b]) rfl rfl (fun u hS => by go_simp) (fun u hS => (unhide hNb u).mono fun _ _ ⟨he, hb⟩ => ⟨he, hS.keep hb⟩) ?_
      go_simp
      refine plan_read (v := .bool (!(sa == sb))) rfl rfl (fun u hS => by go_simp) ?_
      go_simp
      refine plan_dies (f := 133) (args := #[W m, .bool (!(sa == sb))]) (ch := noAnswer) rfl (fun u hS => by go_simp) (fun u hS => (unhide hG u).mono fun _ _ ⟨he, hb⟩ => ⟨Ends.yes he, fun _ hd => ⟨hd, rfl, (hS.keep hb).o⟩⟩)
  · refine region_dies (S := Mb w g h a b) (f := 4) (F := [4, 6, 8, 9, 10, 11]) (l := [0, 1, 2, 3, 5, 7]) (by kernel_rfl) (by kernel_rfl) (by kernel_rfl) (by kernel_rfl) (by kernel_rfl) (by kernel_rfl) (by kernel_rfl) (by kernel_rfl) (by kernel_rfl) (by kernel_rfl) (by kernel_rfl) (by kernel_rfl) rfl (unhide D0) ?_
    clear D0
    refine plan_read rfl rfl (fun u hS => exec_load8 40 (.tmp 0) hS.a rfl rfl Try.underlying40 rfl iWide) ?_
    refine plan_call (v := .agg (cells8 p)) (f := 135) (args := #[W a]) rfl rfl (fun u hS => by go_simp) (fun u hS => (unhide hA u).mono fun _ _ ⟨he, hb⟩ => ⟨he, hS.keep hb⟩) ?_
    go_simp
    refine plan_read rfl rfl (fun u hS => exec_load8 40 (.tmp 1) hS.b rfl rfl Try.underlying40 rfl iWide) ?_
    refine plan_call (v := .agg (cells8 q)) (f := 135) (args := #[W b]) rfl rfl (fun u hS => by go_simp) (fun u hS => (unhide hB u).mono fun _ _ ⟨he, hb⟩ => ⟨he, hS.keep hb⟩) ?_
    go_simp
    refine plan_read rfl rfl (fun u hS => exec_load8 40 (.tmp 0) hS.a rfl rfl Try.underlying40 rfl iWide) ?_
    refine plan_read rfl rfl (fun u hS => exec_load8 40 (.tmp 1) hS.b rfl rfl Try.underlying40 rfl iWide) ?_
    go_simp
    refine plan_dies (f := 134) (args := #[W p, W q]) (ch := noAnswer) rfl (fun u hS => by go_simp) (fun u hS => (unhide hT u).mono fun _ _ ⟨he, hb⟩ => ⟨Ends.yes he, fun _ hd => ⟨hd, rfl, (hS.keep hb).o⟩⟩)

end Go.Proofs.Ytnknejdmoghmiaa
