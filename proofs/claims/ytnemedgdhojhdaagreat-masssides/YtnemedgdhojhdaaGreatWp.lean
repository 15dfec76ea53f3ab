/- A block of memory as a whole: what it is to hold these cells, and what stores, new blocks and draws do to that. No Go in this text. The contracts of the carries of package wide: what adder, multiplier and the closures that they make do. A region that draws its order, by one plan: each operation yields one value in every world that meets S, and leaves a world that meets S; so every order that the edges allow comes to one frame. No Go in this text. -/
import Derived.Test.YtnemedgdhojhdaaGreatProg
import Derived.WalkKit
import Derived.WalkSpells
import Derived.WalkLawsBesides
import Derived.Deep.RegionWith
import Derived.Deep.RegionHeld3
namespace Go.Proofs.YtnemedgdhojhdaaGreat
open Go.RowKit
set_option maxRecDepth 4000

theorem hide {p : Prop} (h : p) : Hid p := h
theorem unhide {p : Prop} (h : Hid p) : p := h

/-- Block g holds the cells cs, of type t, and may be written. -/
def Blk (w : World) (g : Nat) (t : TypeId) (cs : Array Value) : Prop := w.heap[g]? = some (.cells cs t (0, 0))

theorem Blk.cell {w : World} {g : Nat} {t : TypeId} {cs : Array Value} (h : Blk w g t cs) (j : Nat) : w.cell? ⟨g, j, none⟩ = cs[j]? := cell_of_row w g j cs t (0, 0) h
theorem Blk.frozen {w : World} {g : Nat} {t : TypeId} {cs : Array Value} (h : Blk w g t cs) (j : Nat) : w.frozen? ⟨g, j, none⟩ = false := frozen_of_row w g j cs t h
theorem Blk.lt {w : World} {g : Nat} {t : TypeId} {cs : Array Value} (h : Blk w g t cs) : g < w.heap.size := by
  unfold Blk at h
  exact (Array.getElem?_eq_some_iff.1 h).1
theorem Blk.set {w : World} {g : Nat} {t : TypeId} {cs : Array Value} (h : Blk w g t cs) (i : Nat) (v : Value) : Blk (w.setCell ⟨g, i, none⟩ v) g t (cs.setIfInBounds i v) := by
  unfold Blk
  simp [World.setCell, Array.getElem?_modify, show w.heap[g]? = _ from h]
theorem Blk.other {w : World} {g : Nat} {t : TypeId} {cs : Array Value} (h : Blk w g t cs) (a : Addr) (v : Value) (hne : g ≠ a.block) : Blk (w.setCell a v) g t cs :=
  (heap_setCell_other w a g v hne).trans h
theorem Blk.new (w : World) (t : TypeId) (cs : Array Value) : Blk (w.alloc (.cells cs t)) w.heap.size t cs := heap_alloc_new w _
theorem Blk.at {w : World} {t : TypeId} {cs cs' : Array Value} {g : Nat} (hg : g = w.heap.size) (hc : cs = cs') : Blk (w.alloc (.cells cs t)) g t cs' := by subst hg; subst hc; exact Blk.new _ _ _
theorem Blk.alloc {w : World} {g : Nat} {t : TypeId} {cs : Array Value} (h : Blk w g t cs) (o : Obj) : Blk (w.alloc o) g t cs := (Below.heap_alloc w o g h.lt).trans h
theorem Blk.drew {w : World} {g : Nat} {t : TypeId} {cs : Array Value} (h : Blk w g t cs) : Blk w.drew g t cs := h
theorem Blk.below {w w' : World} {B g : Nat} {t : TypeId} {cs : Array Value} (h : Blk w g t cs) (hb : Below B w w') (hg : g < B) : Blk w' g t cs := (hb.block g hg).trans h
theorem Blk.row {w : World} {g : Nat} {t : TypeId} {cs : Array Value} (h : Blk w g t cs) (cs' : Array Value) : Blk (w.setRow g cs') g t cs' := setRow_heap w g cs cs' t (0, 0) h
theorem Blk.rowOther {w : World} {g k : Nat} {t : TypeId} {cs : Array Value} (h : Blk w g t cs) (cs' : Array Value) (hne : g ≠ k) : Blk (w.setRow k cs') g t cs := (setRow_other w k g cs' hne).trans h
theorem below_row {B g : Nat} {a w : World} (h : Below B a w) (hg : B ≤ g) (cs : Array Value) : Below B a (w.setRow g cs) :=
  h.trans ⟨rfl, rfl, rfl, by simp, fun k hk => setRow_other w g k cs (by omega)⟩

/-- Three new blocks: the first, the second, the third. -/
theorem Blk.first3 (w : World) (t : TypeId) (cs : Array Value) (o1 o2 : Obj) : Blk (((w.alloc (.cells cs t)).alloc o1).alloc o2) w.heap.size t cs := ((Blk.new _ _ _).alloc _).alloc _
theorem Blk.second3 (w : World) (t : TypeId) (cs : Array Value) (o1 o2 : Obj) : Blk (((w.alloc o1).alloc (.cells cs t)).alloc o2) (w.heap.size + 1) t cs := (Blk.at (by simp) rfl).alloc _
theorem Blk.third3 (w : World) (t : TypeId) (cs : Array Value) (o1 o2 : Obj) : Blk (((w.alloc o1).alloc o2).alloc (.cells cs t)) (w.heap.size + 1 + 1) t cs := Blk.at (by simp) rfl
theorem Blk.first2 (w : World) (t : TypeId) (cs : Array Value) (o1 : Obj) : Blk ((w.alloc (.cells cs t)).alloc o1) w.heap.size t cs := (Blk.new _ _ _).alloc _
theorem Blk.second2 (w : World) (t : TypeId) (cs : Array Value) (o1 : Obj) : Blk ((w.alloc o1).alloc (.cells cs t)) (w.heap.size + 1) t cs := Blk.at (by simp) rfl
theorem below3 (w : World) (o1 o2 o3 : Obj) : Below w.heap.size w (((w.alloc o1).alloc o2).alloc o3) :=
  (((Below.refl _ _).alloc (Nat.le_refl _) _).alloc (by simp) _).alloc (by simp; omega) _
theorem below2 (w : World) (o1 o2 : Obj) : Below w.heap.size w ((w.alloc o1).alloc o2) :=
  ((Below.refl _ _).alloc (Nat.le_refl _) _).alloc (by simp) _

end Go.Proofs.YtnemedgdhojhdaaGreat

namespace Go.Proofs.YtnemedgdhojhdaaGreat
open Go.RowKit
set_option maxRecDepth 4000

/-- 2^64, under a name. -/
def B64 : Int := 18446744073709551616

theorem add64 (x y c : Int) (hx : 0 ≤ x) (hy : 0 ≤ y) (hc0 : 0 ≤ c) (hc : c ≤ 1) (w : World) :
    (callFunc 190 #[.int .u64 x, .int .u64 y, .int .u64 c]).run Tryz.prog w =
      .ok (.value (.tuple #[.int .u64 ((x + y + c) % B64), .int .u64 ((x + y + c) / B64)])) w := by
  rw [run_callFunc_extern Tryz.func190 (by kernel_rfl) (by kernel_rfl) (by kernel_rfl) (e := add64Entry) (by kernel_rfl), run_add64 x y c hx hy hc0 hc]
  rfl

theorem adder_any (c : Int) (w : World) :
    Calls Tryz.prog 178 #[.int .u64 c] w fun e w' => e = .returned (.func (.func 191) #[] #[.pointer (some ⟨w.heap.size, 0, none⟩)]) ∧ w' = w.alloc (.cells #[.int .u64 c] 72) := by
  have hmf : ∀ (fn : Fn) (first cap : Array Value) (w : World), (Instr.makeFunc fn first cap).run Tryz.prog w = .ok (.func fn first cap) w := fun _ _ _ _ => rfl
  go_enter Tryz.func178, Tryz.ntmps178
  go_wp2
  go_ret
  exact ⟨rfl, rfl⟩

theorem adder1_any (x y c : Int) (p : Addr) (w : World) (hx : 0 ≤ x) (hy : 0 ≤ y) (hc0 : 0 ≤ c) (hc : c ≤ 1) (hp : w.cell? p = some (.int .u64 c)) (hz : w.frozen? p = false) :
    Calls Tryz.prog 191 #[.int .u64 x, .int .u64 y, .pointer (some p)] w fun e w' => e = .returned (.int .u64 ((x + y + c) % B64)) ∧ w' = w.setCell p (.int .u64 ((x + y + c) / B64)) := by
  go_enter Tryz.func191, Tryz.ntmps191
  go_wp2_with (simp only [add64 x y c hx hy hc0 hc])
  go_ret
  exact ⟨rfl, rfl⟩

end Go.Proofs.YtnemedgdhojhdaaGreat

namespace Go.Proofs.YtnemedgdhojhdaaGreat
open Go.RowKit
set_option maxRecDepth 4000

section
variable {P : Program} {ops : Array Oper} {Q : Exit → Act → World → Prop} {S : World → Prop} {E : Act → Prop}

/-- What an operation ends in: the value v, in a world that meets S. -/
def Gives (P : Program) (S : World → Prop) (v : Value) : Result Next → Prop
  | .ok (.value u) w => u = v ∧ S w
  | .ok .skip w => v = undef ∧ S w
  | .ok (.enter f args) w => Calls P f args w fun e w' => e = .returned v ∧ S w'
  | _ => False

def Does (P : Program) (ops : Array Oper) (S : World → Prop) (o : Oper) (v : Value) (a : Act) : Prop :=
  (Region.wanted o (yielded ops a.tmps) = true ∧ ∀ w, S w → Gives P S v ((execOp a.eval o).run P w)) ∨
  (Region.wanted o (yielded ops a.tmps) = false ∧ v = undef)

def waits (ops : Array Oper) (j i : Nat) : Bool := ((ops[j]?).map fun o => o.after.any fun e => Region.binds .any e && e.on == i).getD false
def apartAt (ops : Array Oper) (i j : Nat) : Bool := match ops[i]?, ops[j]? with | some x, some y => x.apart ops y | _, _ => false
/-- i comes ahead of j. -/
def ahead (ops : Array Oper) (i j : Nat) : Bool := !waits ops i j && i != j && (waits ops j i || apartAt ops i j)
def okPlan (ops : Array Oper) : List Nat → Bool
  | [] => true
  | i :: r => !waits ops i i && r.all (ahead ops i) && okPlan ops r

/-- The operations of the list, one behind the other, and E at the end. -/
def Plan (P : Program) (ops : Array Oper) (S : World → Prop) (E : Act → Prop) : List Nat → Act → Prop
  | [], a => E a
  | i :: r, a => ∃ o v, ops[i]? = some o ∧ Does P ops S o v a ∧ Plan P ops S E r (a.put o.dst v)

theorem Gives.wp {o : Oper} {v : Value} {a : Act} {w : World} {K : Act → World → Prop} (h : Gives P S v ((execOp a.eval o).run P w)) (hK : ∀ w', S w' → K (a.put o.dst v) w') : o.wp P a w K Q := by
  unfold Oper.wp
  generalize (execOp a.eval o).run P w = r at *
  cases r with
  | ok n w' =>
    cases n <;> simp only [Gives, Oper.upon] at h ⊢
    case value u => obtain ⟨rfl, h⟩ := h; exact hK _ h
    case skip => obtain ⟨rfl, h⟩ := h; exact hK _ h
    case enter f args => exact Calls.mono h fun e w'' ⟨he, hs⟩ => by subst he; exact hK _ hs
  | halt x w' => exact h.elim

theorem Does.wpOp {i : Nat} {o : Oper} {v : Value} {a : Act} {w : World} {K : Act → World → Prop} (ho : ops[i]? = some o) (h : Does P ops S o v a) (hS : S w) (hK : ∀ w', S w' → K (a.put o.dst v) w') : wpOp P ops Q i K a w := by
  unfold Go.wpOp
  simp only [ho]
  rcases h with ⟨hw, hv⟩ | ⟨hw, rfl⟩
  · simp only [hw, if_true]; exact .inl ((hv w hS).wp hK)
  · simp only [hw, Bool.false_eq_true, if_false]; exact hK w hS

theorem Does.of_same {o : Oper} {v : Value} {a a' : Act} (h : Does P ops S o v a) (he : execOp a'.eval o = execOp a.eval o)
    (hw : Region.wanted o (yielded ops a'.tmps) = Region.wanted o (yielded ops a.tmps)) : Does P ops S o v a' := by
  unfold Does at *; rw [he, hw]; exact h

/-- j, which waits for none of l, may be taken first. -/
theorem Plan.front (hs : Region.noSelect ops = true) : ∀ (l : List Nat) (j : Nat) (r : List Nat) (a : Act), (∀ i ∈ l, apartAt ops i j = true) → Plan P ops S E (l ++ j :: r) a → Plan P ops S E (j :: (l ++ r)) a
  | [], _, _, _, _, h => h
  | i :: l, j, r, a, hap, h => by
    obtain ⟨oi, vi, hoi, hdi, hrest⟩ := h
    obtain ⟨oj, vj, hoj, hdj, hr⟩ := Plan.front hs l j r _ (fun k hk => hap k (List.mem_cons_of_mem _ hk)) hrest
    have hx : oi.apart ops oj = true := by have := hap i (List.mem_cons_self ..); simpa [apartAt, hoi, hoj] using this
    obtain ⟨h1, h2, h3⟩ := Oper.apart_spec hx
    refine ⟨oj, vj, hoj, ?_, oi, vi, hoi, ?_, ?_⟩
    · exact hdj.of_same (execOp_put oj (fun cs b => Region.noSelect_spec hs j oj cs b hoj) a oi.dst vi h1).symm (wanted_put oj a oi.dst vi h1).symm
    · exact hdi.of_same (execOp_put oi (fun cs b => Region.noSelect_spec hs i oi cs b hoi) a oj.dst vj h3) (wanted_put oi a oj.dst vj h3)
    · rw [← Act.put_comm a vi vj h2]; exact hr

theorem okPlan.tail : ∀ {l : List Nat} {j : Nat} {r : List Nat}, okPlan ops (l ++ j :: r) = true → okPlan ops (l ++ r) = true ∧ (∀ i ∈ l, ahead ops i j = true) ∧ j ∉ l ++ r
  | [], j, r, h => by
    simp only [List.nil_append, okPlan, Bool.and_eq_true, List.all_eq_true] at h
    refine ⟨h.2, (fun i hi => by cases hi), fun hj => ?_⟩
    have := h.1.2 j (by simpa using hj)
    simp [ahead] at this
  | i :: l, j, r, h => by
    simp only [List.cons_append, okPlan, Bool.and_eq_true, List.all_eq_true] at h
    obtain ⟨h1, h2, h3⟩ := okPlan.tail h.2
    have hij : ahead ops i j = true := h.1.2 j (by simp)
    refine ⟨?_, ?_, ?_⟩
    · simp only [List.cons_append, okPlan, Bool.and_eq_true, List.all_eq_true]
      exact ⟨⟨h.1.1, fun k hk => h.1.2 k (by rcases List.mem_append.1 hk with hk | hk <;> simp [hk])⟩, h1⟩
    · intro k hk
      rcases List.mem_cons.1 hk with rfl | hk
      · exact hij
      · exact h2 k hk
    · intro hj
      rcases List.mem_cons.1 hj with e | hj
      · subst e; simp [ahead] at hij
      · exact h3 hj

def edgesOk (ops : Array Oper) : Bool := ops.all fun o => o.after.all fun e => e.on < ops.size
theorem edgesOk_spec {k : Nat} {o : Oper} {e : Edge} (h : edgesOk ops = true) (ho : ops[k]? = some o) (he : e ∈ o.after) : e.on < ops.size := by
  have h1 := Array.all_eq_true_iff_forall_mem.1 h o (Array.mem_of_getElem? ho)
  have h2 := Array.all_eq_true_iff_forall_mem.1 h1 e he
  simpa using h2

/-- What has not come up is in the list, or among F. -/
structure Left (ops : Array Oper) (l F : List Nat) (listed : Array Bool) : Prop where
  ok : okPlan ops l = true
  un : ∀ k ∈ l, listed.getD k true = false
  uf : ∀ k ∈ F, listed.getD k true = false
  all : ∀ k, listed.getD k true = false → k ∈ l ∨ k ∈ F
  ap : ∀ k ∈ l, k ∉ F
  wf : ∀ i ∈ l, ∀ k ∈ F, waits ops i k = false
  sz : listed.size = ops.size

theorem getD_other {listed : Array Bool} {k : Nat} (h : listed.getD k true = false) : listed.getD k false = false := by
  rcases Nat.lt_or_ge k listed.size with h' | h'
  · simpa [h'] using h
  · simp [Array.getElem?_eq_none h'] at h

theorem not_waits {listed : Array Bool} {j i : Nat} (hj : j ∈ Region.ready .any ops listed) (hi : listed.getD i true = false) : waits ops j i = false := by
  obtain ⟨_, o, ho, hall⟩ := mem_ready.1 hj
  unfold waits
  rw [ho]
  simp only [Option.map_some, Option.getD_some, Array.any_eq_false']
  intro e he hw
  simp only [Bool.and_eq_true, beq_iff_eq] at hw
  have := hall e he hw.1
  rw [hw.2, getD_other hi] at this
  cases this

theorem Left.next {l : List Nat} {j : Nat} {r F : List Nat} {listed : Array Bool} (h : Left ops (l ++ j :: r) F listed) : Left ops (l ++ r) F (listed.setIfInBounds j true) := by
  obtain ⟨h1, _, h3⟩ := okPlan.tail h.ok
  have hne : ∀ k ∈ l ++ r, j ≠ k := fun k hk e => h3 (e ▸ hk)
  have hmem : ∀ k ∈ l ++ r, k ∈ l ++ j :: r := fun k hk => by rcases List.mem_append.1 hk with hk | hk <;> simp [hk]
  refine ⟨h1, fun k hk => ?_, fun k hk => ?_, fun k hk => ?_, fun k hk => h.ap k (hmem k hk), fun i hi => h.wf i (hmem i hi), by simpa using h.sz⟩
  · rw [getD_set_ne true (hne k hk)]; exact h.un k (hmem k hk)
  · have hjk : j ≠ k := fun e => by subst e; exact h.ap j (by simp) hk
    rw [getD_set_ne true hjk]; exact h.uf k hk
  · by_cases e : j = k
    · subst e
      have hu := h.un j (by simp)
      exfalso
      rcases Nat.lt_or_ge j listed.size with h' | h'
      · simp [h'] at hk
      · simp [Array.getElem?_eq_none h'] at hu
    · rw [getD_set_ne true e] at hk
      rcases h.all k hk with hk | hk
      · left
        rcases List.mem_append.1 hk with hk | hk
        · simp [hk]
        · rcases List.mem_cons.1 hk with hk | hk
          · exact absurd hk.symm e
          · simp [hk]
      · exact .inr hk

/-- The whole: every order. -/
theorem plan_any (hs : Region.noSelect ops = true) (F : List Nat) (G : List Nat → Prop)
    (hG : ∀ l j r, G (l ++ j :: r) → (∀ i ∈ l, waits ops j i = false) → G (l ++ r))
    (hF : ∀ fuel l listed a w j, Left ops l F listed → G l → Plan P ops S E l a → S w → j ∈ F → j ∈ Region.ready .any ops listed → wpOp P ops Q j (wpAny P .any ops Q fuel (listed.setIfInBounds j true)) a w)
    (hR : ∀ listed, Left ops [] F listed → F ≠ [] → Region.ready .any ops listed ≠ [])
    (hend : ∀ a w, F = [] → E a → S w → Q .normal a w)
    (he2 : edgesOk ops = true) :
    ∀ (fuel : Nat) (l : List Nat) (listed : Array Bool) (a : Act) (w : World), fuel = l.length + F.length → Left ops l F listed → G l → Plan P ops S E l a → S w → wpAny P .any ops Q fuel listed a w := by
  intro fuel
  induction fuel with
  | zero =>
    intro l listed a w hf hl hg hp hS
    have h1 : l = [] := List.eq_nil_of_length_eq_zero (by omega)
    have h2 : F = [] := List.eq_nil_of_length_eq_zero (by omega)
    subst h1
    refine ⟨?_, hend a w h2 hp hS⟩
    apply List.eq_nil_iff_forall_not_mem.2
    intro k hk
    rcases hl.all k (mem_ready.1 hk).1 with h | h
    · cases h
    · rw [h2] at h; cases h
  | succ fuel ih =>
    intro l listed a w hf hl hg hp hS
    refine ⟨fun hr => ?_, fun j hj => ?_⟩
    · cases l with
      | nil =>
        by_cases hFe : F = []
        · exact hend a w hFe hp hS
        · exact absurd hr (hR listed hl hFe)
      | cons i r =>
        exfalso
        have hi := hl.un i (by simp)
        have hlt : i < ops.size := by
          rcases Nat.lt_or_ge i listed.size with h' | h'
          · have := hl.sz; omega
          · simp [Array.getElem?_eq_none h'] at hi
        obtain ⟨o, ho⟩ := Option.isSome_iff_exists.1 (show (ops[i]?).isSome = true by simp [hlt])
        have : i ∈ Region.ready .any ops listed := by
          refine mem_ready.2 ⟨hi, o, ho, fun e he hbd => ?_⟩
          by_cases hu : listed.getD e.on true = false
          · exfalso
            have hw : waits ops i e.on = true := by
              unfold waits
              rw [ho]
              simp only [Option.map_some, Option.getD_some, Array.any_eq_true']
              exact ⟨e, he, by simp [hbd]⟩
            have hok := hl.ok
            simp only [okPlan, Bool.and_eq_true, List.all_eq_true] at hok
            rcases hl.all _ hu with hm | hm
            · rcases List.mem_cons.1 hm with hm | hm
              · rw [hm] at hw; rw [hw] at hok; simp at hok
              · have := hok.1.2 _ hm
                simp [ahead, hw] at this
            · rw [hl.wf i (by simp) _ hm] at hw; cases hw
          · have : listed.getD e.on true = true := by simpa using hu
            rcases Nat.lt_or_ge e.on listed.size with h' | h'
            · simpa [h'] using this
            · have := edgesOk_spec he2 ho he
              have := hl.sz
              omega
        rw [hr] at this
        cases this
    · obtain ⟨hju, _⟩ := mem_ready.1 hj
      rcases hl.all j hju with hm | hm
      · obtain ⟨l1, r, rfl⟩ := List.append_of_mem hm
        have hw : ∀ i ∈ l1, waits ops j i = false := fun i hi => not_waits hj (hl.un i (by simp [hi]))
        have hap : ∀ i ∈ l1, apartAt ops i j = true := fun i hi => by
          have := (okPlan.tail hl.ok).2.1 i hi
          simp only [ahead, Bool.and_eq_true, Bool.or_eq_true, hw i hi] at this
          simpa using this.2
        obtain ⟨o, v, ho, hd, hrest⟩ := hp.front hs l1 j r a hap
        refine hd.wpOp ho hS fun w' hS' => ?_
        exact ih (l1 ++ r) _ _ w' (by simp at hf ⊢; omega) hl.next (hG l1 j r hg hw) hrest hS'
      · exact hF fuel l listed a w j hl hg hp hS hm hj

theorem left_of_replicate {l F : List Nat} (hok : okPlan ops l = true) (hall : (List.range ops.size).all (fun k => l.contains k || F.contains k) = true)
    (hlt : (l ++ F).all (fun k => decide (k < ops.size)) = true) (hap : l.all (fun k => !F.contains k && F.all fun j => !waits ops k j) = true) : Left ops l F (Array.replicate ops.size false) := by
  have hrep : ∀ k, (Array.replicate ops.size false).getD k true = false ↔ k < ops.size := fun k => by
    by_cases h : k < ops.size
    · simp [h]
    · simp [h]
  simp only [List.all_eq_true, decide_eq_true_eq] at hlt hall hap
  refine ⟨hok, fun k hk => (hrep k).2 (hlt k (by simp [hk])), fun k hk => (hrep k).2 (hlt k (by simp [hk])), fun k hk => ?_, fun k hk hF => ?_, fun i hi k hk => ?_, by simp⟩
  · have := hall k (List.mem_range.2 ((hrep k).1 hk))
    simpa using this
  · have := hap k hk
    simp [hF] at this
  · have := hap i hi
    simp at this
    exact this.2 k hk

/-- What is asked behind the plan: nothing is left; one operation is left. -/
def AtEnd (S : World → Prop) (Q : Exit → Act → World → Prop) (a : Act) : Prop := ∀ w, S w → Q .normal a w
def AtLast (P : Program) (S : World → Prop) (o : Oper) (Q : Exit → Act → World → Prop) (a : Act) : Prop := ∀ w, S w → o.wp P a w (fun a' w' => Q .normal a' w') Q

/-- A region none of whose operations but by the plan turns the world: one frame at the end. -/
theorem region_plan {id : Nat} {l : List Nat} {a : Act} {w : World} (hm : P.follows .mixedOrders = true) (hs : Region.noSelect ops = true) (he2 : edgesOk ops = true)
    (hok : okPlan ops l = true) (hall : (List.range ops.size).all (fun k => l.contains k || [].contains k) = true) (hlt : l.all (fun k => decide (k < ops.size)) = true) (hlen : l.length = ops.size)
    (hS : S w.drew) (hp : Plan P ops S (AtEnd S Q) l a) : (Code.region id ops true).wp P Q a w := by
  refine wp_region_any hm ?_
  refine plan_any hs [] (fun _ => True) (fun _ _ _ _ _ => trivial) (fun _ _ _ _ _ _ _ _ _ _ h => by cases h) (fun _ _ h => absurd rfl h) (fun a w _ h hS => h w hS) he2 ops.size l _ a _ (by simp [hlen])
    (left_of_replicate hok hall (by simpa using hlt) (by simp)) trivial hp hS

/-- Each of the list has one that waits for it, further on, or f waits for it. -/
def chain (ops : Array Oper) (f : Nat) : List Nat → Bool
  | [] => true
  | i :: r => ((r.any fun k => waits ops k i) || waits ops f i) && chain ops f r

theorem chain.next {f : Nat} : ∀ (l : List Nat) (j : Nat) (r : List Nat), chain ops f (l ++ j :: r) = true → (∀ i ∈ l, waits ops j i = false) → chain ops f (l ++ r) = true
  | [], j, r, h, _ => by simp only [List.nil_append, chain, Bool.and_eq_true] at h; exact h.2
  | i :: l, j, r, h, hw => by
    simp only [List.cons_append, chain, Bool.and_eq_true, Bool.or_eq_true, List.any_append, List.any_cons] at h ⊢
    refine ⟨?_, chain.next l j r h.2 fun k hk => hw k (List.mem_cons_of_mem _ hk)⟩
    have := hw i (List.mem_cons_self ..)
    simpa [this] using h.1

theorem chain.some {f : Nat} : ∀ (l : List Nat), chain ops f l = true → l ≠ [] → ∃ i ∈ l, waits ops f i = true
  | [], _, h => absurd rfl h
  | [i], h, _ => ⟨i, by simp, by simpa [chain] using h⟩
  | i :: k :: r, h, _ => by
    simp only [chain, Bool.and_eq_true] at h
    obtain ⟨x, hx, hw⟩ := chain.some (k :: r) (by simp only [chain, Bool.and_eq_true]; exact h.2) (by simp)
    exact ⟨x, List.mem_cons_of_mem _ hx, hw⟩

/-- A region with one operation, f, behind all others: there the world may turn. -/
theorem region_last {id : Nat} {l : List Nat} {f : Nat} {o : Oper} {a : Act} {w : World} (hm : P.follows .mixedOrders = true) (hs : Region.noSelect ops = true) (he2 : edgesOk ops = true)
    (hok : okPlan ops l = true) (hall : (List.range ops.size).all (fun k => l.contains k || [f].contains k) = true) (hlt : (l ++ [f]).all (fun k => decide (k < ops.size)) = true)
    (hap : l.all (fun k => ![f].contains k && [f].all fun j => !waits ops k j) = true) (hlen : l.length + 1 = ops.size) (hff : waits ops f f = false)
    (hch : chain ops f l = true) (ho : ops[f]? = some o) (hg : o.guard = none)
    (hS : S w.drew) (hp : Plan P ops S (AtLast P S o Q) l a) : (Code.region id ops true).wp P Q a w := by
  refine wp_region_any hm ?_
  refine plan_any hs [f] (fun l => chain ops f l = true) (fun l j r h hw => chain.next l j r h hw) ?_ ?_ (fun _ _ h => by cases h) he2 ops.size l _ a _ (by simp; omega)
    (left_of_replicate hok hall hlt hap) hch hp hS
  · intro fuel l listed a w j hl hc hpl hSw hj hr
    have : j = f := by simpa using hj
    subst this
    by_cases hle : l = []
    · subst hle
      have h1 := hpl w hSw
      unfold wpOp
      simp only [ho]
      rw [if_pos (by simp [Region.wanted, hg])]
      refine .inl (Oper.wp_mono (fun a' w' hq => wpAny_done ?_ hq _) h1)
      apply List.eq_nil_iff_forall_not_mem.2
      intro k hk
      obtain ⟨hu, _⟩ := mem_ready.1 hk
      by_cases e : j = k
      · subst e
        have hu0 := hl.uf j (by simp)
        rcases Nat.lt_or_ge j listed.size with h' | h'
        · simp [h'] at hu
        · simp [Array.getElem?_eq_none h'] at hu0
      · rw [getD_set_ne true e] at hu
        rcases hl.all k hu with h | h
        · cases h
        · simp at h; exact e h.symm
    · obtain ⟨i, hi, hw⟩ := chain.some l hc hle
      rw [not_waits hr (hl.un i hi)] at hw
      cases hw
  · intro listed hl _ hr
    have hu := hl.uf f (by simp)
    have : f ∈ Region.ready .any ops listed := by
      refine mem_ready.2 ⟨hu, o, ho, fun e he hbd => ?_⟩
      by_cases hun : listed.getD e.on true = false
      · exfalso
        rcases hl.all _ hun with h | h
        · cases h
        · simp at h
          have : waits ops f f = true := by
            unfold waits
            rw [ho]
            simp only [Option.map_some, Option.getD_some, Array.any_eq_true']
            exact ⟨e, he, by simp [hbd, h]⟩
          rw [hff] at this; cases this
      · have h1 : listed.getD e.on true = true := by simpa using hun
        rcases Nat.lt_or_ge e.on listed.size with h' | h'
        · simpa [h'] using h1
        · have := edgesOk_spec he2 ho he
          have := hl.sz
          omega
    rw [hr] at this
    cases this

theorem plan_end {a : Act} (h : ∀ w, S w → Q .normal a w) : Plan P ops S (AtEnd S Q) [] a := h
theorem plan_last {o : Oper} {a : Act} (h : ∀ w, S w → o.wp P a w (fun a' w' => Q .normal a' w') Q) : Plan P ops S (AtLast P S o Q) [] a := h
/-- The last one stores a number of one cell. -/
theorem wp_store1 {o : Oper} {a : Act} {w : World} {K : Act → World → Prop} {k : IntKind} {v : Int} {g i : Nat} {t : TypeId} {cs : Array Value} (ty : TypeId) (x y : Operand) (ho : o.op = .store ty x y)
    (hx : a.eval x = .pointer (some ⟨g, i, none⟩)) (hy : a.eval y = .int k v) (hb : Blk w g t cs) (hi : i < cs.size) (hs : (P.info? ty).map (·.size) = some 1)
    (h : K (a.put o.dst undef) (w.setCell ⟨g, i, none⟩ (.int k v))) : o.wp P a w K Q := by
  have hc : w.cell? ⟨g, i, none⟩ = some cs[i] := by rw [hb.cell i]; simp [hi]
  have hf := hb.frozen i
  have hadd : (⟨g, i, none⟩ : Addr).add 0 = ⟨g, i, none⟩ := by unfold Addr.add; split <;> simp_all
  have hst : (store ((⟨g, i, none⟩ : Addr).add 0) (.int k v)).run P w = .ok () (w.setCell ⟨g, i, none⟩ (.int k v)) := by
    rw [hadd, run_store P w _ _ _ (by simp [Value.oneCell']), hc]
    simp [hf]
  cases hq : P.info? ty with
  | none => simp [hq] at hs
  | some inf =>
    have h1 : inf.size = 1 := by simpa [hq] using hs
    unfold Oper.wp execOp
    simp only [ho, hx, hy, Instr.storeAt, Instr.sureAddr, Sem.run_bind, Sem.run_pure, Result.andThen_ok]
    simp [storeVar, sizeOf, typeInfo, hq, h1, Value.cells, storeCells, hst]
    exact h

/-- An operation that only reads. -/
theorem plan_read {i : Nat} {r : List Nat} {a : Act} {o : Oper} {v : Value} (ho : ops[i]? = some o) (hw : Region.wanted o (yielded ops a.tmps) = true)
    (h : ∀ w, S w → (execOp a.eval o).run P w = .ok (.value v) w) (hr : Plan P ops S E r (a.put o.dst v)) : Plan P ops S E (i :: r) a :=
  ⟨o, v, ho, .inl ⟨hw, fun w hS => by rw [h w hS]; exact ⟨rfl, hS⟩⟩, hr⟩

/-- An operation whose guard says no. -/
theorem plan_skip {i : Nat} {r : List Nat} {a : Act} {o : Oper} (ho : ops[i]? = some o) (hw : Region.wanted o (yielded ops a.tmps) = false)
    (hr : Plan P ops S E r (a.put o.dst undef)) : Plan P ops S E (i :: r) a := ⟨o, undef, ho, .inr ⟨hw, rfl⟩, hr⟩

/-- A call. -/
theorem plan_call {i : Nat} {r : List Nat} {a : Act} {o : Oper} {v : Value} {f : FuncId} {args : Array Value} (ho : ops[i]? = some o) (hw : Region.wanted o (yielded ops a.tmps) = true)
    (h : ∀ w, S w → (execOp a.eval o).run P w = .ok (.enter f args) w) (hc : ∀ w, S w → Calls P f args w fun e w' => e = .returned v ∧ S w')
    (hr : Plan P ops S E r (a.put o.dst v)) : Plan P ops S E (i :: r) a :=
  ⟨o, v, ho, .inl ⟨hw, fun w hS => by rw [h w hS]; exact hc w hS⟩, hr⟩

end
end Go.Proofs.YtnemedgdhojhdaaGreat
