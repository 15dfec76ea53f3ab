/- A region that draws its order, where one operation t turns the world: a plan whose other operations hold ahead of it and behind. No Go in this text. A region that draws its order, in which memory is made: the new blocks come up anywhere, whatever their numbers; behind all the rest comes a tail in one order. No Go in this text. The same, where one operation that only reads slots may come up behind the tail's first store. No Go in this text. -/
import Derived.Test.YtnemedgdhojhdaaGreatWp
namespace Go.Proofs.YtnemedgdhojhdaaGreat
open Go.RowKit
set_option maxRecDepth 4000

section
variable {P : Program} {ops : Array Oper} {Q : Exit → Act → World → Prop} {S : Bool → World → Prop} {t : Nat} {E : Act → Prop}

def DoesT (P : Program) (ops : Array Oper) (A B : World → Prop) (o : Oper) (v : Value) (a : Act) : Prop :=
  (Region.wanted o (yielded ops a.tmps) = true ∧ ∀ w, A w → Gives P B v ((execOp a.eval o).run P w)) ∨
  (Region.wanted o (yielded ops a.tmps) = false ∧ v = undef ∧ ∀ w, A w → B w)

theorem DoesT.wpOp {A B : World → Prop} {i : Nat} {o : Oper} {v : Value} {a : Act} {w : World} {K : Act → World → Prop} (ho : ops[i]? = some o) (h : DoesT P ops A B o v a) (hS : A w) (hK : ∀ w', B w' → K (a.put o.dst v) w') : wpOp P ops Q i K a w := by
  unfold Go.wpOp
  simp only [ho]
  rcases h with ⟨hw, hv⟩ | ⟨hw, rfl, hv⟩
  · simp only [hw, if_true]; exact .inl ((hv w hS).wp hK)
  · simp only [hw, Bool.false_eq_true, if_false]; exact hK w (hv w hS)

theorem DoesT.of_same {A B : World → Prop} {o : Oper} {v : Value} {a a' : Act} (h : DoesT P ops A B o v a) (he : execOp a'.eval o = execOp a.eval o)
    (hw : Region.wanted o (yielded ops a'.tmps) = Region.wanted o (yielded ops a.tmps)) : DoesT P ops A B o v a' := by
  unfold DoesT at *; rw [he, hw]; exact h

/-- What the operation i does: t turns S false into S true, each other one keeps both. -/
def StepT (P : Program) (ops : Array Oper) (S : Bool → World → Prop) (t i : Nat) (o : Oper) (v : Value) (a : Act) : Prop :=
  ∀ b c, (i = t → b = false ∧ c = true) → (i ≠ t → c = b) → DoesT P ops (S b) (S c) o v a

def PlanT (P : Program) (ops : Array Oper) (S : Bool → World → Prop) (t : Nat) (E : Act → Prop) : List Nat → Act → Prop
  | [], a => E a
  | i :: r, a => ∃ o v, ops[i]? = some o ∧ StepT P ops S t i o v a ∧ PlanT P ops S t E r (a.put o.dst v)

/-- j, which waits for none of l, may be taken first. -/
theorem PlanT.front (hs : Region.noSelect ops = true) : ∀ (l : List Nat) (j : Nat) (r : List Nat) (a : Act), (∀ i ∈ l, apartAt ops i j = true) → PlanT P ops S t E (l ++ j :: r) a → PlanT P ops S t E (j :: (l ++ r)) a
  | [], _, _, _, _, h => h
  | i :: l, j, r, a, hap, h => by
    obtain ⟨oi, vi, hoi, hdi, hrest⟩ := h
    obtain ⟨oj, vj, hoj, hdj, hr⟩ := PlanT.front hs l j r _ (fun k hk => hap k (List.mem_cons_of_mem _ hk)) hrest
    have hx : oi.apart ops oj = true := by have := hap i (List.mem_cons_self ..); simpa [apartAt, hoi, hoj] using this
    obtain ⟨h1, h2, h3⟩ := Oper.apart_spec hx
    refine ⟨oj, vj, hoj, ?_, oi, vi, hoi, ?_, ?_⟩
    · exact fun b c h4 h5 => (hdj b c h4 h5).of_same (execOp_put oj (fun cs b => Region.noSelect_spec hs j oj cs b hoj) a oi.dst vi h1).symm (wanted_put oj a oi.dst vi h1).symm
    · exact fun b c h4 h5 => (hdi b c h4 h5).of_same (execOp_put oi (fun cs b => Region.noSelect_spec hs i oi cs b hoi) a oj.dst vj h3) (wanted_put oi a oj.dst vj h3)
    · rw [← Act.put_comm a vi vj h2]; exact hr

/-- The whole: every order. -/
theorem plan_anyT (hs : Region.noSelect ops = true) (F : List Nat) (G : List Nat → Prop)
    (hG : ∀ l j r, G (l ++ j :: r) → (∀ i ∈ l, waits ops j i = false) → G (l ++ r))
    (hF : ∀ fuel l listed a w j, Left ops l F listed → G l → PlanT P ops S t E l a → S (decide (t ∉ l)) w → j ∈ F → j ∈ Region.ready .any ops listed → wpOp P ops Q j (wpAny P .any ops Q fuel (listed.setIfInBounds j true)) a w)
    (hR : ∀ listed, Left ops [] F listed → F ≠ [] → Region.ready .any ops listed ≠ [])
    (hend : ∀ a w, F = [] → E a → S true w → Q .normal a w)
    (he2 : edgesOk ops = true) :
    ∀ (fuel : Nat) (l : List Nat) (listed : Array Bool) (a : Act) (w : World), fuel = l.length + F.length → Left ops l F listed → G l → PlanT P ops S t E l a → S (decide (t ∉ l)) w → wpAny P .any ops Q fuel listed a w := by
  intro fuel
  induction fuel with
  | zero =>
    intro l listed a w hf hl hg hp hS
    have h1 : l = [] := List.eq_nil_of_length_eq_zero (by omega)
    have h2 : F = [] := List.eq_nil_of_length_eq_zero (by omega)
    subst h1
    refine ⟨?_, hend a w h2 hp (by simpa using hS)⟩
    apply List.eq_nil_iff_forall_not_mem.2
    intro k hk
    rcases hl.all k (mem_ready.1 hk).1 with h | h
    · cases h
    · rw [h2] at h; cases h
  | succ fuel ih =>
    intro l listed a w hf hl hg hp hS
    refine ⟨fun hr => ?_, fun j hj => ?_⟩
    · cases l with
      | nil =>
        by_cases hFe : F = []
        · exact hend a w hFe hp (by simpa using hS)
        · exact absurd hr (hR listed hl hFe)
      | cons i r =>
        exfalso
        have hi := hl.un i (by simp)
        have hlt : i < ops.size := by
          rcases Nat.lt_or_ge i listed.size with h' | h'
          · have := hl.sz; omega
          · simp [Array.getElem?_eq_none h'] at hi
        obtain ⟨o, ho⟩ := Option.isSome_iff_exists.1 (show (ops[i]?).isSome = true by simp [hlt])
        have : i ∈ Region.ready .any ops listed := by
          refine mem_ready.2 ⟨hi, o, ho, fun e he hbd => ?_⟩
          by_cases hu : listed.getD e.on true = false
          · exfalso
            have hw : waits ops i e.on = true := by
              unfold waits
              rw [ho]
              simp only [Option.map_some, Option.getD_some, Array.any_eq_true']
              exact ⟨e, he, by simp [hbd]⟩
            have hok := hl.ok
            simp only [okPlan, Bool.and_eq_true, List.all_eq_true] at hok
            rcases hl.all _ hu with hm | hm
            · rcases List.mem_cons.1 hm with hm | hm
              · rw [hm] at hw; rw [hw] at hok; simp at hok
              · have := hok.1.2 _ hm
                simp [ahead, hw] at this
            · rw [hl.wf i (by simp) _ hm] at hw; cases hw
          · have : listed.getD e.on true = true := by simpa using hu
            rcases Nat.lt_or_ge e.on listed.size with h' | h'
            · simpa [h'] using this
            · have := edgesOk_spec he2 ho he
              have := hl.sz
              omega
        rw [hr] at this
        cases this
    · obtain ⟨hju, _⟩ := mem_ready.1 hj
      rcases hl.all j hju with hm | hm
      · obtain ⟨l1, r, rfl⟩ := List.append_of_mem hm
        have hw : ∀ i ∈ l1, waits ops j i = false := fun i hi => not_waits hj (hl.un i (by simp [hi]))
        have hap : ∀ i ∈ l1, apartAt ops i j = true := fun i hi => by
          have := (okPlan.tail hl.ok).2.1 i hi
          simp only [ahead, Bool.and_eq_true, Bool.or_eq_true, hw i hi] at this
          simpa using this.2
        obtain ⟨o, v, ho, hd, hrest⟩ := hp.front hs l1 j r a hap
        have hnot := (okPlan.tail hl.ok).2.2
        have hb : DoesT P ops (S (decide (t ∉ l1 ++ j :: r))) (S (decide (t ∉ l1 ++ r))) o v a := by
          refine hd _ _ (fun e => ?_) (fun e => ?_)
          · subst e; exact ⟨by simp, by simpa using hnot⟩
          · have : (t ∈ l1 ++ j :: r) ↔ (t ∈ l1 ++ r) := by
              simp only [List.mem_append, List.mem_cons]
              constructor
              · rintro (h | h | h)
                · exact .inl h
                · exact absurd h.symm e
                · exact .inr h
              · rintro (h | h)
                · exact .inl h
                · exact .inr (.inr h)
            simp only [this]
        refine hb.wpOp ho hS fun w' hS' => ?_
        exact ih (l1 ++ r) _ _ w' (by simp at hf ⊢; omega) hl.next (hG l1 j r hg hw) hrest hS'
      · exact hF fuel l listed a w j hl hg hp hS hm hj

/-- A region with one operation, f, behind all others: there the world may turn. -/
theorem region_lastT {id : Nat} {l : List Nat} {f : Nat} {o : Oper} {a : Act} {w : World} (hm : P.follows .mixedOrders = true) (hs : Region.noSelect ops = true) (he2 : edgesOk ops = true)
    (hok : okPlan ops l = true) (hall : (List.range ops.size).all (fun k => l.contains k || [f].contains k) = true) (hlt : (l ++ [f]).all (fun k => decide (k < ops.size)) = true)
    (hap : l.all (fun k => ![f].contains k && [f].all fun j => !waits ops k j) = true) (hlen : l.length + 1 = ops.size) (hff : waits ops f f = false)
    (hch : chain ops f l = true) (ho : ops[f]? = some o) (hg : o.guard = none)
    (ht : t ∈ l) (hS : S false w.drew) (hp : PlanT P ops S t (AtLast P (S true) o Q) l a) : (Code.region id ops true).wp P Q a w := by
  refine wp_region_any hm ?_
  refine plan_anyT hs [f] (fun l => chain ops f l = true) (fun l j r h hw => chain.next l j r h hw) ?_ ?_ (fun _ _ h => by cases h) he2 ops.size l _ a _ (by simp; omega)
    (left_of_replicate hok hall hlt hap) hch hp (by simpa [ht] using hS)
  · intro fuel l listed a w j hl hc hpl hSw hj hr
    have : j = f := by simpa using hj
    subst this
    by_cases hle : l = []
    · subst hle
      have h1 := hpl w (by simpa using hSw)
      unfold wpOp
      simp only [ho]
      rw [if_pos (by simp [Region.wanted, hg])]
      refine .inl (Oper.wp_mono (fun a' w' hq => wpAny_done ?_ hq _) h1)
      apply List.eq_nil_iff_forall_not_mem.2
      intro k hk
      obtain ⟨hu, _⟩ := mem_ready.1 hk
      by_cases e : j = k
      · subst e
        have hu0 := hl.uf j (by simp)
        rcases Nat.lt_or_ge j listed.size with h' | h'
        · simp [h'] at hu
        · simp [Array.getElem?_eq_none h'] at hu0
      · rw [getD_set_ne true e] at hu
        rcases hl.all k hu with h | h
        · cases h
        · simp at h; exact e h.symm
    · obtain ⟨i, hi, hw⟩ := chain.some l hc hle
      rw [not_waits hr (hl.un i hi)] at hw
      cases hw
  · intro listed hl _ hr
    have hu := hl.uf f (by simp)
    have : f ∈ Region.ready .any ops listed := by
      refine mem_ready.2 ⟨hu, o, ho, fun e he hbd => ?_⟩
      by_cases hun : listed.getD e.on true = false
      · exfalso
        rcases hl.all _ hun with h | h
        · cases h
        · simp at h
          have : waits ops f f = true := by
            unfold waits
            rw [ho]
            simp only [Option.map_some, Option.getD_some, Array.any_eq_true']
            exact ⟨e, he, by simp [hbd, h]⟩
          rw [hff] at this; cases this
      · have h1 : listed.getD e.on true = true := by simpa using hun
        rcases Nat.lt_or_ge e.on listed.size with h' | h'
        · simpa [h'] using h1
        · have := edgesOk_spec he2 ho he
          have := hl.sz
          omega
    rw [hr] at this
    cases this

/-- A region without a last one. -/
theorem region_planT {id : Nat} {l : List Nat} {a : Act} {w : World} (hm : P.follows .mixedOrders = true) (hs : Region.noSelect ops = true) (he2 : edgesOk ops = true)
    (hok : okPlan ops l = true) (hall : (List.range ops.size).all (fun k => l.contains k || [].contains k) = true) (hlt : l.all (fun k => decide (k < ops.size)) = true) (hlen : l.length = ops.size)
    (ht : t ∈ l) (hS : S false w.drew) (hp : PlanT P ops S t (AtEnd (S true) Q) l a) : (Code.region id ops true).wp P Q a w := by
  refine wp_region_any hm ?_
  refine plan_anyT hs [] (fun _ => True) (fun _ _ _ _ _ => trivial) (fun _ _ _ _ _ _ _ _ _ _ h => by cases h) (fun _ _ h => absurd rfl h) (fun a w _ h hS => h w hS) he2 ops.size l _ a _ (by simp [hlen])
    (left_of_replicate hok hall (by simpa using hlt) (by simp)) trivial hp (by simpa [ht] using hS)

theorem planT_end {a : Act} (h : ∀ w, S true w → Q .normal a w) : PlanT P ops S t (AtEnd (S true) Q) [] a := h
theorem planT_last {o : Oper} {a : Act} (h : ∀ w, S true w → o.wp P a w (fun a' w' => Q .normal a' w') Q) : PlanT P ops S t (AtLast P (S true) o Q) [] a := h
/-- An operation that only reads, and reads the same ahead of the turn and behind it. -/
theorem planT_read {i : Nat} {r : List Nat} {a : Act} {o : Oper} {v : Value} (ho : ops[i]? = some o) (hi : i ≠ t) (hw : Region.wanted o (yielded ops a.tmps) = true)
    (h : ∀ b w, S b w → (execOp a.eval o).run P w = .ok (.value v) w) (hr : PlanT P ops S t E r (a.put o.dst v)) : PlanT P ops S t E (i :: r) a :=
  ⟨o, v, ho, fun b c _ h2 => .inl ⟨hw, fun w hS => by rw [h b w hS, h2 hi]; exact ⟨rfl, hS⟩⟩, hr⟩
/-- The call that turns the world. -/
theorem planT_call {r : List Nat} {a : Act} {o : Oper} {v : Value} {f : FuncId} {args : Array Value} (ho : ops[t]? = some o) (hw : Region.wanted o (yielded ops a.tmps) = true)
    (h : ∀ w, S false w → (execOp a.eval o).run P w = .ok (.enter f args) w) (hc : ∀ w, S false w → Calls P f args w fun e w' => e = .returned v ∧ S true w')
    (hr : PlanT P ops S t E r (a.put o.dst v)) : PlanT P ops S t E (t :: r) a :=
  ⟨o, v, ho, fun b c h1 _ => .inl ⟨hw, fun w hS => by obtain ⟨rfl, rfl⟩ := h1 rfl; rw [h w hS]; exact hc w hS⟩, hr⟩
end
end Go.Proofs.YtnemedgdhojhdaaGreat

namespace Go.Proofs.YtnemedgdhojhdaaGreat
open Go.RowKit
set_option maxRecDepth 4000

section
variable {P : Program} {ops : Array Oper} {Q : Exit → Act → World → Prop} {S : World → Prop} {E : Act → Prop}

/-- What an operation ends in: the value v, in a world that meets S and holds what was. -/
def GivesB (P : Program) (S : World → Prop) (v : Value) (w0 : World) : Result Next → Prop
  | .ok (.value u) w => u = v ∧ S w ∧ Below w0.heap.size w0 w
  | .ok .skip w => v = undef ∧ S w ∧ Below w0.heap.size w0 w
  | .ok (.enter f args) w => Calls P f args w fun e w' => e = .returned v ∧ S w' ∧ Below w0.heap.size w0 w'
  | _ => False

def DoesB (P : Program) (ops : Array Oper) (S : World → Prop) (o : Oper) (v : Value) (a : Act) : Prop :=
  (Region.wanted o (yielded ops a.tmps) = true ∧ ∀ w, S w → GivesB P S v w ((execOp a.eval o).run P w)) ∨
  (Region.wanted o (yielded ops a.tmps) = false ∧ v = undef)

def PlanB (P : Program) (ops : Array Oper) (S : World → Prop) (E : Act → Prop) : List Nat → Act → Prop
  | [], a => E a
  | i :: r, a => ∃ o v, ops[i]? = some o ∧ DoesB P ops S o v a ∧ PlanB P ops S E r (a.put o.dst v)

theorem GivesB.wp {o : Oper} {v : Value} {a : Act} {w : World} {K : Act → World → Prop} (h : GivesB P S v w ((execOp a.eval o).run P w)) (hK : ∀ w', S w' → Below w.heap.size w w' → K (a.put o.dst v) w') : o.wp P a w K Q := by
  unfold Oper.wp
  generalize (execOp a.eval o).run P w = r at *
  cases r with
  | ok n w' =>
    cases n <;> simp only [GivesB, Oper.upon] at h ⊢
    case value u => obtain ⟨rfl, h, hb⟩ := h; exact hK _ h hb
    case skip => obtain ⟨rfl, h, hb⟩ := h; exact hK _ h hb
    case enter f args => exact Calls.mono h fun e w'' ⟨he, hs, hb⟩ => by subst he; exact hK _ hs hb
  | halt x w' => exact h.elim

theorem DoesB.wpOp {i : Nat} {o : Oper} {v : Value} {a : Act} {w : World} {K : Act → World → Prop} (ho : ops[i]? = some o) (h : DoesB P ops S o v a) (hS : S w) (hK : ∀ w', S w' → Below w.heap.size w w' → K (a.put o.dst v) w') : wpOp P ops Q i K a w := by
  unfold Go.wpOp
  simp only [ho]
  rcases h with ⟨hw, hv⟩ | ⟨hw, rfl⟩
  · simp only [hw, if_true]; exact .inl ((hv w hS).wp hK)
  · simp only [hw, Bool.false_eq_true, if_false]; exact hK w hS (Below.refl _ _)

theorem DoesB.of_same {o : Oper} {v : Value} {a a' : Act} (h : DoesB P ops S o v a) (he : execOp a'.eval o = execOp a.eval o)
    (hw : Region.wanted o (yielded ops a'.tmps) = Region.wanted o (yielded ops a.tmps)) : DoesB P ops S o v a' := by
  unfold DoesB at *; rw [he, hw]; exact h

theorem PlanB.front (hs : Region.noSelect ops = true) : ∀ (l : List Nat) (j : Nat) (r : List Nat) (a : Act), (∀ i ∈ l, apartAt ops i j = true) → PlanB P ops S E (l ++ j :: r) a → PlanB P ops S E (j :: (l ++ r)) a
  | [], _, _, _, _, h => h
  | i :: l, j, r, a, hap, h => by
    obtain ⟨oi, vi, hoi, hdi, hrest⟩ := h
    obtain ⟨oj, vj, hoj, hdj, hr⟩ := PlanB.front hs l j r _ (fun k hk => hap k (List.mem_cons_of_mem _ hk)) hrest
    have hx : oi.apart ops oj = true := by have := hap i (List.mem_cons_self ..); simpa [apartAt, hoi, hoj] using this
    obtain ⟨h1, h2, h3⟩ := Oper.apart_spec hx
    refine ⟨oj, vj, hoj, ?_, oi, vi, hoi, ?_, ?_⟩
    · exact hdj.of_same (execOp_put oj (fun cs b => Region.noSelect_spec hs j oj cs b hoj) a oi.dst vi h1).symm (wanted_put oj a oi.dst vi h1).symm
    · exact hdi.of_same (execOp_put oi (fun cs b => Region.noSelect_spec hs i oi cs b hoi) a oj.dst vj h3) (wanted_put oi a oj.dst vj h3)
    · rw [← Act.put_comm a vi vj h2]; exact hr

/-- A slot that the plan's operations neither read nor write may be filled. -/
theorem PlanB.put (hs : Region.noSelect ops = true) {k : Nat} {ok : Oper} (hk : ops[k]? = some ok) {v : Value} {E2 : Act → Prop} (hE : ∀ a, E a → E2 (a.put ok.dst v)) :
    ∀ (l : List Nat) (a : Act), (∀ i ∈ l, apartAt ops k i = true) → PlanB P ops S E l a → PlanB P ops S E2 l (a.put ok.dst v)
  | [], a, _, h => hE a h
  | i :: l, a, hap, h => by
    obtain ⟨oi, vi, hoi, hdi, hrest⟩ := h
    have hx : ok.apart ops oi = true := by have := hap i (List.mem_cons_self ..); simpa [apartAt, hoi, hk] using this
    obtain ⟨h1, h2, _⟩ := Oper.apart_spec hx
    refine ⟨oi, vi, hoi, ?_, ?_⟩
    · exact hdi.of_same (execOp_put oi (fun cs b => Region.noSelect_spec hs i oi cs b hoi) a ok.dst v h1) (wanted_put oi a ok.dst v h1)
    · rw [Act.put_comm a v vi h2]
      exact PlanB.put hs hk hE l _ (fun k hk => hap k (List.mem_cons_of_mem _ hk)) hrest

/-- A new block's address. -/
abbrev ptr (g : Nat) : Value := .pointer (some ⟨g, 0, none⟩)
def dstOf (ops : Array Oper) (i : Nat) : Option Tmp := (ops[i]?).bind (·.dst)
/-- The slots of the new blocks filled. -/
def pa (ops : Array Oper) (c : Nat → Nat) : List Nat → Act → Act
  | [], a => a
  | i :: r, a => pa ops c r (a.put (dstOf ops i) (ptr (c i)))

theorem pa_append (c : Nat → Nat) : ∀ (l r : List Nat) (a : Act), pa ops c (l ++ r) a = pa ops c r (pa ops c l a)
  | [], _, _ => rfl
  | _ :: l, r, _ => pa_append c l r _
theorem pa_put (c : Nat → Nat) (d : Option Tmp) (v : Value) : ∀ (l : List Nat) (a : Act), (∀ i ∈ l, ∀ s, dstOf ops i = some s → d ≠ some s) → pa ops c l (a.put d v) = (pa ops c l a).put d v
  | [], _, _ => rfl
  | i :: l, a, h => by
    show pa ops c l ((a.put d v).put (dstOf ops i) (ptr (c i))) = _
    rw [← Act.put_comm a (ptr (c i)) v (h i (List.mem_cons_self ..))]
    exact pa_put c d v l _ fun k hk => h k (List.mem_cons_of_mem _ hk)

/-- What stands behind all: the tail, from whatever blocks. -/
def AtTail (S : World → Prop) (t : TypeId) (z : Array Value) (base : Nat) (ops : Array Oper) (K : Act → World → Prop) (D : List Nat) (c0 : Nat → Nat) (A : List Nat) (a : Act) : Prop :=
  ∀ c : Nat → Nat, (∀ i ∈ D, c i = c0 i) → ∀ w, S w → (∀ i ∈ D ++ A, Blk w (c i) t z ∧ base ≤ c i) → (∀ i ∈ D ++ A, ∀ k ∈ D ++ A, c i = c k → i = k) → K (pa ops c A a) w

/-- Each of the tail waits for the ones ahead of it. -/
def tailOk (ops : Array Oper) : List Nat → Bool
  | [] => true
  | t :: r => (t :: r).all (fun k => !waits ops t k) && r.all (fun k => waits ops k t && k != t) && tailOk ops r

def opsOf (ops : Array Oper) : List Nat → List Oper
  | [] => []
  | i :: r => match ops[i]? with | some o => o :: opsOf ops r | none => opsOf ops r

theorem ready_of {l F : List Nat} {listed : Array Bool} {j : Nat} {o : Oper} (he2 : edgesOk ops = true) (hl : Left ops l F listed) (ho : ops[j]? = some o) (hu : listed.getD j true = false)
    (hw : ∀ k, k ∈ l ∨ k ∈ F → waits ops j k = false) : j ∈ Region.ready .any ops listed := by
  refine mem_ready.2 ⟨hu, o, ho, fun e he hbd => ?_⟩
  by_cases hun : listed.getD e.on true = false
  · exfalso
    have h3 : waits ops j e.on = true := by
      unfold waits
      rw [ho]
      simp only [Option.map_some, Option.getD_some, Array.any_eq_true']
      exact ⟨e, he, by simp [hbd]⟩
    rw [hw _ (hl.all _ hun)] at h3; cases h3
  · have h1 : listed.getD e.on true = true := by simpa using hun
    rcases Nat.lt_or_ge e.on listed.size with h' | h'
    · simpa [h'] using h1
    · have := edgesOk_spec he2 ho he
      have := hl.sz
      omega

theorem Left.some {l F : List Nat} {listed : Array Bool} (hl : Left ops l F listed) {j : Nat} (hu : listed.getD j true = false) : ∃ o, ops[j]? = some o := by
  have : j < ops.size := by
    rcases Nat.lt_or_ge j listed.size with h' | h'
    · have := hl.sz; omega
    · simp [Array.getElem?_eq_none h'] at hu
  exact ⟨ops[j], by simp [this]⟩

/-- One of F has come up. -/
theorem Left.drop {l F1 F2 : List Nat} {j : Nat} {listed : Array Bool} (h : Left ops l (F1 ++ j :: F2) listed) (hj : j ∉ F1 ++ F2) : Left ops l (F1 ++ F2) (listed.setIfInBounds j true) := by
  have hmem : ∀ k, k ∈ F1 ++ F2 → k ∈ F1 ++ j :: F2 := fun k hk => by rcases List.mem_append.1 hk with hk | hk <;> simp [hk]
  refine ⟨h.ok, fun k hk => ?_, fun k hk => ?_, fun k hk => ?_, fun k hk hf => h.ap k hk (hmem k hf), fun i hi k hk => h.wf i hi k (hmem k hk), by simpa using h.sz⟩
  · have hjk : j ≠ k := fun e => by subst e; exact h.ap j hk (by simp)
    rw [getD_set_ne true hjk]; exact h.un k hk
  · have hjk : j ≠ k := fun e => by subst e; exact hj hk
    rw [getD_set_ne true hjk]; exact h.uf k (hmem k hk)
  · by_cases e : j = k
    · subst e
      have hu := h.uf j (by simp)
      exfalso
      rcases Nat.lt_or_ge j listed.size with h' | h'
      · simp [h'] at hk
      · simp [Array.getElem?_eq_none h'] at hu
    · rw [getD_set_ne true e] at hk
      rcases h.all k hk with hk | hk
      · exact .inl hk
      · right
        rcases List.mem_append.1 hk with hk | hk
        · simp [hk]
        · rcases List.mem_cons.1 hk with hk | hk
          · exact absurd hk.symm e
          · simp [hk]

/-- The tail alone. -/
theorem tail_any (he2 : edgesOk ops = true) : ∀ (T : List Nat) (listed : Array Bool) (a : Act) (w : World), tailOk ops T = true → Left ops [] T listed → wpList P ops Q (opsOf ops T) a w → wpAny P .any ops Q T.length listed a w
  | [], listed, a, w, _, hl, h => by
    refine ⟨?_, h⟩
    apply List.eq_nil_iff_forall_not_mem.2
    intro k hk
    rcases hl.all k (mem_ready.1 hk).1 with h | h <;> cases h
  | t :: r, listed, a, w, ht, hl, h => by
    simp only [tailOk, Bool.and_eq_true, List.all_eq_true, Bool.not_eq_true', bne_iff_ne, ne_eq] at ht
    obtain ⟨⟨h1, h2⟩, h3⟩ := ht
    have hut := hl.uf t (by simp)
    obtain ⟨o, ho⟩ := hl.some hut
    refine ⟨fun hr => ?_, fun j hj => ?_⟩
    · have := ready_of he2 hl ho hut fun k hk => by
        rcases hk with hk | hk
        · cases hk
        · exact h1 k hk
      rw [hr] at this
      cases this
    · have hjt : j = t := by
        rcases hl.all j (mem_ready.1 hj).1 with hm | hm
        · cases hm
        · rcases List.mem_cons.1 hm with e | hm
          · exact e
          · exfalso
            have := (h2 j hm).1
            rw [not_waits hj hut] at this
            cases this
      subst hjt
      have hl' := hl.drop (F1 := []) (by simpa using fun hm => (h2 j hm).2 rfl)
      have ih := fun a' w' => tail_any he2 r (listed.setIfInBounds j true) a' w' h3 hl'
      simp only [opsOf, ho] at h
      unfold wpList at h
      unfold wpOp
      simp only [ho]
      split at h
      · rename_i hw
        rw [if_pos hw]
        rcases h with h | h
        · exact .inl (Oper.wp_mono (fun a' w' hq => ih a' w' hq) h)
        · exact .inr h
      · rename_i hw
        rw [if_neg hw]
        exact ih _ _ h

theorem chain_of_all {f : Nat} : ∀ (l : List Nat), (∀ k ∈ l, waits ops f k = true) → chain ops f l = true
  | [], _ => rfl
  | i :: r, h => by
    simp only [chain, Bool.and_eq_true, Bool.or_eq_true]
    exact ⟨.inr (h i (by simp)), chain_of_all r fun k hk => h k (by simp [hk])⟩

/-- The whole. -/
theorem allocs_any (hs : Region.noSelect ops = true) (he2 : edgesOk ops = true) {T : List Nat} {t : TypeId} {z : Array Value} {base : Nat} (hT : tailOk ops T = true)
    (hSB : ∀ w w', S w → Below w.heap.size w w' → S w') (hbase : ∀ w, S w → base ≤ w.heap.size) :
    ∀ (fuel : Nat) (l A D : List Nat) (c0 : Nat → Nat) (listed : Array Bool) (a : Act) (w : World), fuel = l.length + A.length + T.length → Left ops l (A ++ T) listed →
    (∀ i ∈ A, ∃ o, ops[i]? = some o ∧ o.guard = none ∧ ∀ (a : Act) (w : World), (execOp a.eval o).run P w = .ok (.value (ptr w.heap.size)) (w.alloc (.cells z t))) →
    (∀ i ∈ A, ∀ k, k ∈ l ∨ k ∈ A ++ T → waits ops i k = false) → (∀ i ∈ A, ∀ k ∈ l, apartAt ops i k = true) → (∀ i ∈ A, ∀ k ∈ A, i ≠ k → apartAt ops i k = true) → (∀ i ∈ A, i ∉ T ∧ i ∉ D) → A.Nodup →
    (∀ i ∈ T, chain ops i l = true ∧ ∀ k ∈ A, waits ops i k = true) →
    PlanB P ops S (AtTail S t z base ops (wpList P ops Q (opsOf ops T)) D c0 A) l a → S w → (∀ i ∈ D, Blk w (c0 i) t z ∧ base ≤ c0 i) → (∀ i ∈ D, ∀ k ∈ D, c0 i = c0 k → i = k) → wpAny P .any ops Q fuel listed a w := by
  intro fuel
  induction fuel with
  | zero =>
    intro l A D c0 listed a w hf hl _ _ _ _ _ _ _ hp hS hD hDi
    have h1 : l = [] := List.eq_nil_of_length_eq_zero (by omega)
    have h2 : A = [] := List.eq_nil_of_length_eq_zero (by omega)
    have h3 : T = [] := List.eq_nil_of_length_eq_zero (by omega)
    subst h1 h2 h3
    exact tail_any he2 [] listed a w hT hl (hp c0 (fun _ _ => rfl) w hS (by simpa using hD) (by simpa using hDi))
  | succ fuel ih =>
    intro l A D c0 listed a w hf hl hal hAw hAl hAA hAT hAn hTw hp hS hD hDi
    by_cases hle : l = [] ∧ A = []
    · obtain ⟨h1, h2⟩ := hle
      subst h1 h2
      have := tail_any (P := P) (Q := Q) he2 T listed a w hT hl (hp c0 (fun _ _ => rfl) w hS (by simpa using hD) (by simpa using hDi))
      rwa [show T.length = fuel + 1 by simp at hf; omega] at this
    · have hTno : ∀ j ∈ T, j ∉ Region.ready .any ops listed := fun j hj hr => by
        cases l with
        | cons i r =>
          obtain ⟨k, hk, hw⟩ := chain.some (i :: r) (hTw j hj).1 (by simp)
          rw [not_waits hr (hl.un k hk)] at hw
          cases hw
        | nil =>
          cases A with
          | nil => exact hle ⟨rfl, rfl⟩
          | cons i r =>
            have := (hTw j hj).2 i (by simp)
            rw [not_waits hr (hl.uf i (by simp))] at this
            cases this
      refine ⟨fun hr => ?_, fun j hj => ?_⟩
      · exfalso
        cases A with
        | cons i r =>
          have hu := hl.uf i (by simp)
          obtain ⟨o, ho⟩ := hl.some hu
          have := ready_of he2 hl ho hu (hAw i (by simp))
          rw [hr] at this
          cases this
        | nil =>
          cases l with
          | nil => exact hle ⟨rfl, rfl⟩
          | cons i r =>
            have hu := hl.un i (by simp)
            obtain ⟨o, ho⟩ := hl.some hu
            have hok := hl.ok
            simp only [okPlan, Bool.and_eq_true, List.all_eq_true, Bool.not_eq_true'] at hok
            have := ready_of he2 hl ho hu fun k hk => by
              rcases hk with hk | hk
              · rcases List.mem_cons.1 hk with e | hk
                · subst e; exact hok.1.1
                · have := hok.1.2 k hk
                  simp only [ahead, Bool.and_eq_true, Bool.not_eq_true'] at this
                  exact this.1.1
              · exact hl.wf i (by simp) k hk
            rw [hr] at this
            cases this
      · rcases hl.all j (mem_ready.1 hj).1 with hm | hm
        · obtain ⟨l1, r, rfl⟩ := List.append_of_mem hm
          have hw : ∀ i ∈ l1, waits ops j i = false := fun i hi => not_waits hj (hl.un i (by simp [hi]))
          have hap : ∀ i ∈ l1, apartAt ops i j = true := fun i hi => by
            have := (okPlan.tail hl.ok).2.1 i hi
            simp only [ahead, Bool.and_eq_true, Bool.or_eq_true, hw i hi] at this
            simpa using this.2
          have hsub : ∀ k, k ∈ l1 ++ r → k ∈ l1 ++ j :: r := fun k hk => by rcases List.mem_append.1 hk with hk | hk <;> simp [hk]
          obtain ⟨o, v, ho, hd, hrest⟩ := hp.front hs l1 j r a hap
          refine hd.wpOp ho hS fun w' hS' hb => ?_
          refine ih (l1 ++ r) A D c0 _ _ w' (by simp at hf ⊢; omega) hl.next hal (fun i hi k hk => hAw i hi k (by rcases hk with hk | hk; exact .inl (hsub k hk); exact .inr hk)) (fun i hi k hk => hAl i hi k (hsub k hk)) hAA hAT hAn
            (fun i hi => ⟨chain.next l1 j r (hTw i hi).1 hw, (hTw i hi).2⟩) hrest hS' (fun i hi => ⟨(hD i hi).1.below hb (hD i hi).1.lt, (hD i hi).2⟩) hDi
        · rcases List.mem_append.1 hm with hm | hm
          · obtain ⟨o, ho, hg, hrun⟩ := hal j hm
            obtain ⟨hjT, hjD⟩ := hAT j hm
            have hjm := hm
            obtain ⟨A1, A2, rfl⟩ := List.append_of_mem hm
            have hnd := hAn
            rw [List.nodup_append] at hnd
            have hj12 : j ∉ A1 ++ A2 := by
              intro h
              rcases List.mem_append.1 h with h | h
              · exact hnd.2.2 j h j (by simp) rfl
              · exact (List.nodup_cons.1 hnd.2.1).1 h
            have hsub : ∀ k, k ∈ A1 ++ A2 → k ∈ A1 ++ j :: A2 := fun k hk => by rcases List.mem_append.1 hk with hk | hk <;> simp [hk]
            have hl' : Left ops l (A1 ++ A2 ++ T) (listed.setIfInBounds j true) := by
              have h5 : Left ops l (A1 ++ j :: (A2 ++ T)) listed := by simpa using hl
              have := h5.drop (by
                intro h
                rcases List.mem_append.1 h with h | h
                · exact hj12 (by simp [h])
                · rcases List.mem_append.1 h with h | h
                  · exact hj12 (by simp [h])
                  · exact hjT h)
              simpa using this
            have hbl : Below w.heap.size w (w.alloc (.cells z t)) := (Below.refl _ _).alloc (Nat.le_refl _) _
            unfold wpOp
            simp only [ho]
            rw [if_pos (by simp [Region.wanted, hg])]
            refine .inl ?_
            unfold Oper.wp
            rw [hrun]
            simp only [Oper.upon]
            refine ih l (A1 ++ A2) (j :: D) (fun k => if k = j then w.heap.size else c0 k) _ _ _ (by simp at hf ⊢; omega) hl' (fun i hi => hal i (hsub i hi))
              (fun i hi k hk => hAw i (hsub i hi) k (by
                rcases hk with hk | hk
                · exact .inl hk
                · right
                  rcases List.mem_append.1 hk with hk | hk
                  · exact List.mem_append_left _ (hsub k hk)
                  · exact List.mem_append_right _ hk))
              (fun i hi k hk => hAl i (hsub i hi) k hk) (fun i hi k hk => hAA i (hsub i hi) k (hsub k hk)) ?_ ?_ (fun i hi => ⟨(hTw i hi).1, fun k hk => (hTw i hi).2 k (hsub k hk)⟩) ?_ (hSB _ _ hS hbl) ?_ ?_
            · intro i hi
              refine ⟨(hAT i (hsub i hi)).1, ?_⟩
              intro h
              rcases List.mem_cons.1 h with e | h
              · subst e; exact hj12 hi
              · exact (hAT i (hsub i hi)).2 h
            · rw [List.nodup_append]
              refine ⟨hnd.1, (List.nodup_cons.1 hnd.2.1).2, fun x hx y hy => hnd.2.2 x hx y (by simp [hy])⟩
            · refine PlanB.put hs ho ?_ l a (fun i hi => hAl j hjm i hi) hp
              intro a' hE c hc w' hS' hB hI
              have hcj : c j = w.heap.size := by have := hc j (by simp); simpa using this
              have hmem : ∀ k, k ∈ D ++ (A1 ++ j :: A2) → k ∈ (j :: D) ++ (A1 ++ A2) := fun k hk => by
                simp only [List.mem_append, List.mem_cons] at hk ⊢
                rcases hk with h | h | h | h <;> simp [h]
              have h := hE c (fun i hi => by have := hc i (by simp [hi]); rw [this]; exact if_neg (fun e : i = j => hjD (e ▸ hi))) w' hS' (fun i hi => hB i (hmem i hi)) (fun i hi k hk => hI i (hmem i hi) k (hmem k hk))
              have hd : dstOf ops j = o.dst := by simp [dstOf, ho]
              rw [pa_append] at h ⊢
              rw [pa_put]
              · rw [← hcj, ← hd]; exact h
              · intro i hi s hs'
                have hij : i ≠ j := fun e => by subst e; exact hj12 (by simp [hi])
                have hax := hAA i (by simp [hi]) j hjm hij
                obtain ⟨oi, hoi⟩ := hl.some (hl.uf i (by simp [hi]))
                have hx : oi.apart ops o = true := by simpa [apartAt, hoi, ho] using hax
                obtain ⟨_, h2, _⟩ := Oper.apart_spec hx
                have hdi : oi.dst = some s := by simpa [dstOf, hoi] using hs'
                exact h2 s hdi
            · intro i hi
              rcases List.mem_cons.1 hi with e | hi
              · subst e
                simp only [if_true]
                exact ⟨Blk.new _ _ _, hbase _ hS⟩
              · have hne : i ≠ j := fun e => hjD (e ▸ hi)
                simp only [hne, if_false]
                exact ⟨(hD i hi).1.alloc _, (hD i hi).2⟩
            · intro i hi k hk h
              rcases List.mem_cons.1 hi with e1 | hi <;> rcases List.mem_cons.1 hk with e2 | hk
              · rw [e1, e2]
              · have hne : k ≠ j := fun e => hjD (e ▸ hk)
                have := (hD k hk).1.lt
                simp only [e1, hne, if_true, if_false] at h
                omega
              · have hne : i ≠ j := fun e => hjD (e ▸ hi)
                have := (hD i hi).1.lt
                simp only [e2, hne, if_true, if_false] at h
                omega
              · have hne : i ≠ j := fun e => hjD (e ▸ hi)
                have hne2 : k ≠ j := fun e => hjD (e ▸ hk)
                simp only [hne, hne2, if_false] at h
                exact hDi i hi k hk h
          · exact absurd hj (hTno j hm)

/-- What is asked of the lists. -/
def allocOk (ops : Array Oper) (l A T : List Nat) : Bool :=
  A.all (fun i => (l ++ (A ++ T)).all (fun k => !waits ops i k) && l.all (fun k => apartAt ops i k) && A.all (fun k => i == k || apartAt ops i k) && !T.contains i) &&
  T.all (fun i => chain ops i l && A.all fun k => waits ops i k) && decide A.Nodup

theorem region_allocs {id : Nat} {l A T : List Nat} {t : TypeId} {z : Array Value} {base : Nat} {a : Act} {w : World} (hm : P.follows .mixedOrders = true) (hs : Region.noSelect ops = true) (he2 : edgesOk ops = true)
    (hT : tailOk ops T = true) (hok : okPlan ops l = true) (hall : (List.range ops.size).all (fun k => l.contains k || (A ++ T).contains k) = true) (hlt : (l ++ (A ++ T)).all (fun k => decide (k < ops.size)) = true)
    (hap : l.all (fun k => !(A ++ T).contains k && (A ++ T).all fun j => !waits ops k j) = true) (hlen : (l.length + A.length + T.length == ops.size) = true) (hc : allocOk ops l A T = true)
    (hal : ∀ i ∈ A, ∃ o, ops[i]? = some o ∧ o.guard = none ∧ ∀ (a : Act) (w : World), (execOp a.eval o).run P w = .ok (.value (ptr w.heap.size)) (w.alloc (.cells z t)))
    (hSB : ∀ w w', S w → Below w.heap.size w w' → S w') (hbase : ∀ w, S w → base ≤ w.heap.size) (hS : S w.drew)
    (hp : PlanB P ops S (AtTail S t z base ops (wpList P ops Q (opsOf ops T)) [] (fun _ => 0) A) l a) : (Code.region id ops true).wp P Q a w := by
  refine wp_region_any hm ?_
  simp only [allocOk, Bool.and_eq_true, List.all_eq_true, Bool.not_eq_true', Bool.or_eq_true, beq_iff_eq, decide_eq_true_eq] at hc
  obtain ⟨⟨h1, h2⟩, h3⟩ := hc
  have hl := left_of_replicate hok hall hlt hap
  refine allocs_any hs he2 hT hSB hbase ops.size l A [] (fun _ => 0) _ a _ (by simpa using (beq_iff_eq.1 hlen).symm) hl hal ?_ ?_ ?_ ?_ h3 (fun i hi => ⟨(h2 i hi).1, fun k hk => (h2 i hi).2 k hk⟩) hp hS (fun i hi => by cases hi) (fun i hi => by cases hi)
  · intro i hi k hk
    exact (h1 i hi).1.1.1 k (by rcases hk with hk | hk; exact List.mem_append_left _ hk; exact List.mem_append_right _ hk)
  · exact fun i hi k hk => (h1 i hi).1.1.2 k hk
  · intro i hi k hk hne
    rcases (h1 i hi).1.2 k hk with e | e
    · exact absurd e hne
    · exact e
  · intro i hi
    have := (h1 i hi).2
    exact ⟨by simpa using this, by simp⟩

theorem planB_read {i : Nat} {r : List Nat} {a : Act} {o : Oper} {v : Value} (ho : ops[i]? = some o) (hw : Region.wanted o (yielded ops a.tmps) = true)
    (h : ∀ w, S w → (execOp a.eval o).run P w = .ok (.value v) w) (hr : PlanB P ops S E r (a.put o.dst v)) : PlanB P ops S E (i :: r) a :=
  ⟨o, v, ho, .inl ⟨hw, fun w hS => by rw [h w hS]; exact ⟨rfl, hS, Below.refl _ _⟩⟩, hr⟩
theorem planB_call {i : Nat} {r : List Nat} {a : Act} {o : Oper} {v : Value} {f : FuncId} {args : Array Value} (ho : ops[i]? = some o) (hw : Region.wanted o (yielded ops a.tmps) = true)
    (h : ∀ w, S w → (execOp a.eval o).run P w = .ok (.enter f args) w) (hc : ∀ w, S w → Calls P f args w fun e w' => e = .returned v ∧ S w' ∧ Below w.heap.size w w')
    (hr : PlanB P ops S E r (a.put o.dst v)) : PlanB P ops S E (i :: r) a :=
  ⟨o, v, ho, .inl ⟨hw, fun w hS => by rw [h w hS]; exact hc w hS⟩, hr⟩
theorem planB_tail {t : TypeId} {z : Array Value} {base : Nat} {K : Act → World → Prop} {A : List Nat} {a : Act}
    (h : ∀ (c : Nat → Nat) (w : World), S w → (∀ i ∈ A, Blk w (c i) t z ∧ base ≤ c i) → (∀ i ∈ A, ∀ k ∈ A, c i = c k → i = k) → K (pa ops c A a) w) :
    PlanB P ops S (AtTail S t z base ops K [] (fun _ => 0) A) [] a :=
  fun c _ w hS hB hI => h c w hS (by simpa using hB) (by simpa using hI)

end
end Go.Proofs.YtnemedgdhojhdaaGreat

namespace Go.Proofs.YtnemedgdhojhdaaGreat
open Go.RowKit
set_option maxRecDepth 4000

section
variable {P : Program} {ops : Array Oper} {Q : Exit → Act → World → Prop} {S : World → Prop} {E : Act → Prop}

/-- The operation yields v, in whatever world. -/
def Pure (P : Program) (o : Oper) (v : Value) (a : Act) : Prop := o.guard = none ∧ ∀ w, (execOp a.eval o).run P w = .ok (.value v) w

/-- The tail's first store, and the rest. -/
def StoreThen (P : Program) (ops : Array Oper) (Q : Exit → Act → World → Prop) (o : Oper) (r : List Nat) (a : Act) (w : World) : Prop :=
  o.guard = none ∧ o.dst = none ∧ ∃ w', (execOp a.eval o).run P w = .ok .skip w' ∧ wpList P ops Q (opsOf ops r) a w'

theorem StoreThen.list {t : Nat} {o : Oper} {r : List Nat} {a : Act} {w : World} (ho : ops[t]? = some o) (h : StoreThen P ops Q o r a w) : wpList P ops Q (opsOf ops (t :: r)) a w := by
  obtain ⟨hg, hd, w', hr, hw⟩ := h
  simp only [opsOf, ho]
  unfold wpList
  rw [if_pos (by simp [Region.wanted, hg])]
  refine .inl ?_
  unfold Oper.wp
  rw [hr]
  simp only [Oper.upon, hd]
  exact hw

theorem Pure.put (hs : Region.noSelect ops = true) {z k : Nat} {oz ok : Oper} {v u : Value} {a : Act} (hz : ops[z]? = some oz) (hk : ops[k]? = some ok) (hap : apartAt ops k z = true) :
    Pure P oz v a ↔ Pure P oz v (a.put ok.dst u) := by
  have hx : ok.apart ops oz = true := by simpa [apartAt, hz, hk] using hap
  obtain ⟨h1, _, _⟩ := Oper.apart_spec hx
  have e := execOp_put oz (fun cs b => Region.noSelect_spec hs z oz cs b hz) a ok.dst u h1
  unfold Pure
  rw [e]

theorem Pure.wpOp {z : Nat} {oz : Oper} {v : Value} {a : Act} {w : World} {K : Act → World → Prop} (hz : ops[z]? = some oz) (h : Pure P oz v a) (hK : K (a.put oz.dst v) w) : wpOp P ops Q z K a w := by
  unfold Go.wpOp
  simp only [hz]
  rw [if_pos (by simp [Region.wanted, h.1])]
  refine .inl ?_
  unfold Oper.wp
  rw [h.2]
  exact hK

/-- The lazy one, the store and the rest. -/
theorem tail_lazy (hs : Region.noSelect ops = true) (he2 : edgesOk ops = true) {z t : Nat} {r : List Nat} {oz ot : Oper} {v : Value} (hz : ops[z]? = some oz) (ht : ops[t]? = some ot)
    (hzw : ∀ k ∈ z :: t :: r, waits ops z k = false) (htw : ∀ k ∈ z :: t :: r, waits ops t k = false) (hr : ∀ k ∈ r, waits ops k z = true ∧ waits ops k t = true) (hzt : apartAt ops z t = true) (hne : z ≠ t)
    (hT : tailOk ops (t :: r) = true) (listed : Array Bool) (a : Act) (w : World) (hl : Left ops [] (z :: t :: r) listed) (hp : Pure P oz v a) (h : StoreThen P ops Q ot r (a.put oz.dst v) w) :
    wpAny P .any ops Q (r.length + 2) listed a w := by
  have huz := hl.uf z (by simp)
  have hut := hl.uf t (by simp)
  have hzr : z ∉ t :: r := by
    intro hm
    rcases List.mem_cons.1 hm with e | hm
    · exact hne e
    · have := (hr z hm).1
      rw [hzw z (by simp)] at this
      cases this
  have htr : t ∉ r := by
    intro hm
    have := (hr t hm).2
    rw [htw t (by simp)] at this
    cases this
  refine ⟨fun hrd => ?_, fun j hj => ?_⟩
  · have := ready_of he2 hl hz huz fun k hk => by
      rcases hk with hk | hk
      · cases hk
      · exact hzw k hk
    rw [hrd] at this
    cases this
  · rcases hl.all j (mem_ready.1 hj).1 with hm | hm
    · cases hm
    · rcases List.mem_cons.1 hm with e | hm
      · subst e
        refine hp.wpOp hz ?_
        exact tail_any he2 (t :: r) _ _ _ hT (hl.drop (F1 := []) hzr) (h.list ht)
      · rcases List.mem_cons.1 hm with e | hm
        · subst e
          obtain ⟨hg, hd, w', hrun, hrest⟩ := h
          have hx : oz.apart ops ot = true := by simpa [apartAt, hz, ht] using hzt
          obtain ⟨h1, _, _⟩ := Oper.apart_spec hx
          rw [execOp_put ot (fun cs b => Region.noSelect_spec hs j ot cs b ht) a oz.dst v h1] at hrun
          have hl2 : Left ops [] (z :: r) (listed.setIfInBounds j true) := by
            have := Left.drop (F1 := [z]) (F2 := r) (j := j) hl (by
              intro hm
              rcases List.mem_cons.1 hm with e | hm
              · exact hne e.symm
              · exact htr hm)
            exact this
          unfold wpOp
          simp only [ht]
          rw [if_pos (by simp [Region.wanted, hg])]
          refine .inl ?_
          unfold Oper.wp
          rw [hrun]
          simp only [Oper.upon, hd, Act.put]
          have huz2 := hl2.uf z (by simp)
          refine ⟨fun hrd => ?_, fun k hk => ?_⟩
          · have := ready_of he2 hl2 hz huz2 fun k hk => by
              rcases hk with hk | hk
              · cases hk
              · rcases List.mem_cons.1 hk with e | hk
                · exact hzw k (by simp [e])
                · exact hzw k (by simp [hk])
            rw [hrd] at this
            cases this
          · have hkz : k = z := by
              rcases hl2.all k (mem_ready.1 hk).1 with hm | hm
              · cases hm
              · rcases List.mem_cons.1 hm with e | hm
                · exact e
                · have := (hr k hm).1
                  rw [not_waits hk huz2] at this
                  cases this
            subst hkz
            refine hp.wpOp hz ?_
            have hT2 : tailOk ops r = true := by
              simp only [tailOk, Bool.and_eq_true] at hT
              exact hT.2
            exact tail_any he2 r _ _ _ hT2 (hl2.drop (F1 := []) (fun hm => hzr (by simp at hm ⊢; exact .inr hm))) hrest
        · have := (hr j hm).2
          rw [not_waits hj hut] at this
          cases this

/-- What is known at the end of the plan: the lazy one's value, and the tail. -/
def AtLazy (P : Program) (oz : Oper) (v : Value) (E : Act → Prop) (a : Act) : Prop := Pure P oz v a ∧ E (a.put oz.dst v)

theorem PlanB.meet (hs : Region.noSelect ops = true) {z : Nat} {oz : Oper} {v : Value} (hz : ops[z]? = some oz) : ∀ (l : List Nat) (a : Act), (∀ i ∈ l, apartAt ops i z = true) → PlanB P ops S (AtLazy P oz v E) l a → Pure P oz v a
  | [], _, _, h => h.1
  | i :: l, a, hap, h => by
    obtain ⟨oi, vi, hoi, _, hrest⟩ := h
    have := PlanB.meet hs hz l _ (fun k hk => hap k (List.mem_cons_of_mem _ hk)) hrest
    exact (Pure.put hs hz hoi (hap i (List.mem_cons_self ..))).2 this

/-- What is asked of the lists. -/
def lazyOk (ops : Array Oper) (l A : List Nat) (z t : Nat) (r : List Nat) : Bool :=
  A.all (fun i => (l ++ (A ++ z :: t :: r)).all (fun k => !waits ops i k) && l.all (fun k => apartAt ops i k) && A.all (fun k => i == k || apartAt ops i k) && apartAt ops i z && !(z :: t :: r).contains i) &&
  (z :: t :: r).all (fun k => !waits ops z k) && l.all (fun i => waits ops z i || apartAt ops i z) && l.all (fun i => apartAt ops z i || waits ops z i) &&
  (z :: t :: r).all (fun k => !waits ops t k) && r.all (fun k => waits ops k z && waits ops k t) && apartAt ops z t && z != t &&
  (t :: r).all (fun i => (l ++ A).all fun k => waits ops i k) && decide A.Nodup

theorem lazy_any (hs : Region.noSelect ops = true) (he2 : edgesOk ops = true) {z t : Nat} {r : List Nat} {oz ot : Oper} {v : Value} {ty : TypeId} {zs : Array Value} {base : Nat} (hz : ops[z]? = some oz) (ht : ops[t]? = some ot) (hT : tailOk ops (t :: r) = true)
    (hSB : ∀ w w', S w → Below w.heap.size w w' → S w') (hbase : ∀ w, S w → base ≤ w.heap.size) :
    ∀ (fuel : Nat) (l A D : List Nat) (c0 : Nat → Nat) (listed : Array Bool) (a : Act) (w : World), fuel = l.length + A.length + r.length + 2 → Left ops l (A ++ z :: t :: r) listed →
    (∀ i ∈ A, ∃ o, ops[i]? = some o ∧ o.guard = none ∧ ∀ (a : Act) (w : World), (execOp a.eval o).run P w = .ok (.value (ptr w.heap.size)) (w.alloc (.cells zs ty))) →
    lazyOk ops l A z t r = true → (∀ i ∈ A, i ∉ D) →
    PlanB P ops S (AtLazy P oz v (AtTail S ty zs base ops (StoreThen P ops Q ot r) D c0 A)) l a → S w → (∀ i ∈ D, Blk w (c0 i) ty zs ∧ base ≤ c0 i) → (∀ i ∈ D, ∀ k ∈ D, c0 i = c0 k → i = k) → wpAny P .any ops Q fuel listed a w := by
  intro fuel
  induction fuel with
  | zero =>
    intro l A D c0 listed a w hf
    omega
  | succ fuel ih =>
    intro l A D c0 listed a w hf hl hal hOk hAD hp hS hD hDi
    have hOk' := hOk
    simp only [lazyOk, Bool.and_eq_true, List.all_eq_true, Bool.not_eq_true', Bool.or_eq_true, beq_iff_eq, bne_iff_ne, ne_eq, decide_eq_true_eq] at hOk
    obtain ⟨⟨⟨⟨⟨⟨⟨⟨⟨hA, hzw⟩, hzl⟩, hzl2⟩, htw⟩, hr⟩, hzt⟩, hne⟩, hTw⟩, hAn⟩ := hOk
    have hmz : ∀ k, k ∈ z :: t :: r → k ∈ A ++ z :: t :: r := fun k hk => List.mem_append_right _ hk
    have hzT : z ∉ t :: r := by
      intro hm
      rcases List.mem_cons.1 hm with e | hm
      · exact hne e
      · have := (hr z hm).1
        rw [hzw z (by simp)] at this
        cases this
    by_cases hle : l = [] ∧ A = []
    · obtain ⟨h1, h2⟩ := hle
      subst h1 h2
      have h := tail_lazy (P := P) (Q := Q) hs he2 hz ht hzw htw hr hzt hne hT listed a w hl hp.1 (hp.2 c0 (fun _ _ => rfl) w hS (by simpa using hD) (by simpa using hDi))
      rwa [show r.length + 2 = fuel + 1 by simp at hf; omega] at h
    · have hTno : ∀ j ∈ t :: r, j ∉ Region.ready .any ops listed := fun j hj hrd => by
        cases l with
        | cons i l' =>
          have := hTw j hj i (by simp)
          rw [not_waits hrd (hl.un i (by simp))] at this
          cases this
        | nil =>
          cases A with
          | nil => exact hle ⟨rfl, rfl⟩
          | cons i A' =>
            have := hTw j hj i (by simp)
            rw [not_waits hrd (hl.uf i (by simp))] at this
            cases this
      refine ⟨fun hrd => ?_, fun j hj => ?_⟩
      · exfalso
        cases A with
        | cons i A' =>
          have hu := hl.uf i (by simp)
          obtain ⟨o, ho⟩ := hl.some hu
          have := ready_of he2 hl ho hu fun k hk => (hA i (by simp)).1.1.1.1 k (by rcases hk with hk | hk; exact List.mem_append_left _ hk; exact List.mem_append_right _ hk)
          rw [hrd] at this
          cases this
        | nil =>
          cases l with
          | nil => exact hle ⟨rfl, rfl⟩
          | cons i l' =>
            have hu := hl.un i (by simp)
            obtain ⟨o, ho⟩ := hl.some hu
            have hok := hl.ok
            simp only [okPlan, Bool.and_eq_true, List.all_eq_true, Bool.not_eq_true'] at hok
            have := ready_of he2 hl ho hu fun k hk => by
              rcases hk with hk | hk
              · rcases List.mem_cons.1 hk with e | hk
                · subst e; exact hok.1.1
                · have := hok.1.2 k hk
                  simp only [ahead, Bool.and_eq_true, Bool.not_eq_true'] at this
                  exact this.1.1
              · exact hl.wf i (by simp) k hk
            rw [hrd] at this
            cases this
      · rcases hl.all j (mem_ready.1 hj).1 with hm | hm
        · obtain ⟨l1, l2, rfl⟩ := List.append_of_mem hm
          have hw : ∀ i ∈ l1, waits ops j i = false := fun i hi => not_waits hj (hl.un i (by simp [hi]))
          have hap : ∀ i ∈ l1, apartAt ops i j = true := fun i hi => by
            have := (okPlan.tail hl.ok).2.1 i hi
            simp only [ahead, Bool.and_eq_true, Bool.or_eq_true, hw i hi] at this
            simpa using this.2
          have hsub : ∀ k, k ∈ l1 ++ l2 → k ∈ l1 ++ j :: l2 := fun k hk => by rcases List.mem_append.1 hk with hk | hk <;> simp [hk]
          obtain ⟨o, v', ho, hd, hrest⟩ := hp.front hs l1 j l2 a hap
          refine hd.wpOp ho hS fun w' hS' hb => ?_
          refine ih (l1 ++ l2) A D c0 _ _ w' (by simp at hf ⊢; omega) hl.next hal ?_ hAD hrest hS' (fun i hi => ⟨(hD i hi).1.below hb (hD i hi).1.lt, (hD i hi).2⟩) hDi
          simp only [lazyOk, Bool.and_eq_true, List.all_eq_true, Bool.not_eq_true', Bool.or_eq_true, beq_iff_eq, bne_iff_ne, ne_eq, decide_eq_true_eq]
          refine ⟨⟨⟨⟨⟨⟨⟨⟨⟨?_, hzw⟩, fun i hi => hzl i (hsub i hi)⟩, fun i hi => hzl2 i (hsub i hi)⟩, htw⟩, hr⟩, hzt⟩, hne⟩, fun i hi k hk => hTw i hi k (by rcases List.mem_append.1 hk with hk | hk; exact List.mem_append_left _ (hsub k hk); exact List.mem_append_right _ hk)⟩, hAn⟩
          intro i hi
          obtain ⟨⟨⟨⟨a1, a2⟩, a3⟩, a4⟩, a5⟩ := hA i hi
          exact ⟨⟨⟨⟨fun k hk => a1 k (by rcases List.mem_append.1 hk with hk | hk; exact List.mem_append_left _ (hsub k hk); exact List.mem_append_right _ hk), fun k hk => a2 k (hsub k hk)⟩, a3⟩, a4⟩, a5⟩
        · rcases List.mem_append.1 hm with hm | hm
          · obtain ⟨o, ho, hg, hrun⟩ := hal j hm
            have hjD := hAD j hm
            have hjm := hm
            obtain ⟨⟨⟨⟨b1, b2⟩, b3⟩, b4⟩, b5⟩ := hA j hm
            obtain ⟨A1, A2, rfl⟩ := List.append_of_mem hm
            have hnd := hAn
            rw [List.nodup_append] at hnd
            have hj12 : j ∉ A1 ++ A2 := by
              intro h
              rcases List.mem_append.1 h with h | h
              · exact hnd.2.2 j h j (by simp) rfl
              · exact (List.nodup_cons.1 hnd.2.1).1 h
            have hsub : ∀ k, k ∈ A1 ++ A2 → k ∈ A1 ++ j :: A2 := fun k hk => by rcases List.mem_append.1 hk with hk | hk <;> simp [hk]
            have hl' : Left ops l (A1 ++ A2 ++ z :: t :: r) (listed.setIfInBounds j true) := by
              have h5 : Left ops l (A1 ++ j :: (A2 ++ z :: t :: r)) listed := by simpa using hl
              have := h5.drop (by
                intro h
                rcases List.mem_append.1 h with h | h
                · exact hj12 (by simp [h])
                · rcases List.mem_append.1 h with h | h
                  · exact hj12 (by simp [h])
                  · have h7 : (z :: t :: r).contains j = true := by simpa using h
                    rw [b5] at h7
                    cases h7)
              simpa using this
            have hbl : Below w.heap.size w (w.alloc (.cells zs ty)) := (Below.refl _ _).alloc (Nat.le_refl _) _
            unfold wpOp
            simp only [ho]
            rw [if_pos (by simp [Region.wanted, hg])]
            refine .inl ?_
            unfold Oper.wp
            rw [hrun]
            simp only [Oper.upon]
            refine ih l (A1 ++ A2) (j :: D) (fun k => if k = j then w.heap.size else c0 k) _ _ _ (by simp at hf ⊢; omega) hl' (fun i hi => hal i (hsub i hi)) ?_ ?_ ?_ (hSB _ _ hS hbl) ?_ ?_
            · simp only [lazyOk, Bool.and_eq_true, List.all_eq_true, Bool.not_eq_true', Bool.or_eq_true, beq_iff_eq, bne_iff_ne, ne_eq, decide_eq_true_eq]
              refine ⟨⟨⟨⟨⟨⟨⟨⟨⟨?_, hzw⟩, hzl⟩, hzl2⟩, htw⟩, hr⟩, hzt⟩, hne⟩, fun i hi k hk => hTw i hi k (by
                rcases List.mem_append.1 hk with hk | hk
                · exact List.mem_append_left _ hk
                · exact List.mem_append_right _ (hsub k hk))⟩, ?_⟩
              · intro i hi
                obtain ⟨⟨⟨⟨a1, a2⟩, a3⟩, a4⟩, a5⟩ := hA i (hsub i hi)
                refine ⟨⟨⟨⟨fun k hk => a1 k ?_, a2⟩, fun k hk => a3 k (hsub k hk)⟩, a4⟩, a5⟩
                rcases List.mem_append.1 hk with hk | hk
                · exact List.mem_append_left _ hk
                · rcases List.mem_append.1 hk with hk | hk
                  · exact List.mem_append_right _ (List.mem_append_left _ (hsub k hk))
                  · exact List.mem_append_right _ (List.mem_append_right _ hk)
              · rw [List.nodup_append]
                exact ⟨hnd.1, (List.nodup_cons.1 hnd.2.1).2, fun x hx y hy => hnd.2.2 x hx y (by simp [hy])⟩
            · intro i hi h
              rcases List.mem_cons.1 h with e | h
              · subst e; exact hj12 hi
              · exact hAD i (hsub i hi) h
            · refine PlanB.put hs ho ?_ l a (fun i hi => b2 i hi) hp
              rintro a' ⟨hpu, hE⟩
              refine ⟨(Pure.put hs hz ho b4).1 hpu, ?_⟩
              intro c hc w' hS' hB hI
              have hcj : c j = w.heap.size := by have := hc j (by simp); simpa using this
              have hmem : ∀ k, k ∈ D ++ (A1 ++ j :: A2) → k ∈ (j :: D) ++ (A1 ++ A2) := fun k hk => by
                simp only [List.mem_append, List.mem_cons] at hk ⊢
                rcases hk with h | h | h | h <;> simp [h]
              have h := hE c (fun i hi => by have := hc i (by simp [hi]); rw [this]; exact if_neg (fun e : i = j => hjD (e ▸ hi))) w' hS' (fun i hi => hB i (hmem i hi)) (fun i hi k hk => hI i (hmem i hi) k (hmem k hk))
              have hd : dstOf ops j = o.dst := by simp [dstOf, ho]
              have hxz : o.apart ops oz = true := by simpa [apartAt, hz, ho] using b4
              obtain ⟨_, hoz, _⟩ := Oper.apart_spec hxz
              rw [Act.put_comm a' _ _ hoz]
              rw [pa_append] at h ⊢
              rw [pa_put]
              · rw [← hcj, ← hd]; exact h
              · intro i hi s hs'
                have hij : ¬ i = j := fun e => by subst e; exact hj12 (by simp [hi])
                have hax := (hA i (by simp [hi])).1.1.2 j hjm
                rcases hax with e | hax
                · exact absurd e hij
                obtain ⟨oi, hoi⟩ := hl.some (hl.uf i (by simp [hi]))
                have hx : oi.apart ops o = true := by simpa [apartAt, hoi, ho] using hax
                obtain ⟨_, h2, _⟩ := Oper.apart_spec hx
                have hdi : oi.dst = some s := by simpa [dstOf, hoi] using hs'
                exact h2 s hdi
            · intro i hi
              rcases List.mem_cons.1 hi with e | hi
              · subst e
                simp only [if_true]
                exact ⟨Blk.new _ _ _, hbase _ hS⟩
              · have hne2 : i ≠ j := fun e => hjD (e ▸ hi)
                simp only [hne2, if_false]
                exact ⟨(hD i hi).1.alloc _, (hD i hi).2⟩
            · intro i hi k hk h
              rcases List.mem_cons.1 hi with e1 | hi <;> rcases List.mem_cons.1 hk with e2 | hk
              · rw [e1, e2]
              · have hne2 : k ≠ j := fun e => hjD (e ▸ hk)
                have := (hD k hk).1.lt
                simp only [e1, hne2, if_true, if_false] at h
                omega
              · have hne2 : i ≠ j := fun e => hjD (e ▸ hi)
                have := (hD i hi).1.lt
                simp only [e2, hne2, if_true, if_false] at h
                omega
              · have hne2 : i ≠ j := fun e => hjD (e ▸ hi)
                have hne3 : k ≠ j := fun e => hjD (e ▸ hk)
                simp only [hne2, hne3, if_false] at h
                exact hDi i hi k hk h
          · rcases List.mem_cons.1 hm with e | hm
            · subst e
              have hap : ∀ i ∈ l, apartAt ops i j = true := fun i hi => by
                rcases hzl i hi with h | h
                · rw [not_waits hj (hl.un i hi)] at h; cases h
                · exact h
              have hap2 : ∀ i ∈ l, apartAt ops j i = true := fun i hi => by
                rcases hzl2 i hi with h | h
                · exact h
                · rw [not_waits hj (hl.un i hi)] at h; cases h
              have hpu := hp.meet hs hz l a hap
              refine hpu.wpOp hz ?_
              have hl2 : Left ops l (A ++ t :: r) (listed.setIfInBounds j true) := hl.drop (F1 := A) (F2 := t :: r) (by
                intro hm
                rcases List.mem_append.1 hm with hm | hm
                · have b5 := (hA j hm).2
                  simp at b5
                · exact hzT hm)
              refine allocs_any (P := P) (Q := Q) (S := S) (T := t :: r) hs he2 hT hSB hbase fuel l A D c0 _ _ w (by simp at hf ⊢; omega) hl2 hal ?_ (fun i hi k hk => (hA i hi).1.1.1.2 k hk) (fun i hi k hk hik => ((hA i hi).1.1.2 k hk).resolve_left hik) ?_ hAn (fun i hi => ⟨chain_of_all l fun k hk => hTw i hi k (List.mem_append_left _ hk), fun k hk => hTw i hi k (List.mem_append_right _ hk)⟩) ?_ hS hD hDi
              · intro i hi k hk
                refine (hA i hi).1.1.1.1 k ?_
                rcases hk with hk | hk
                · exact List.mem_append_left _ hk
                · rcases List.mem_append.1 hk with hk | hk
                  · exact List.mem_append_right _ (List.mem_append_left _ hk)
                  · exact List.mem_append_right _ (List.mem_append_right _ (List.mem_cons_of_mem _ hk))
              · intro i hi
                refine ⟨fun hm => ?_, hAD i hi⟩
                have b5 := (hA i hi).2
                simp at b5 hm
                rcases hm with hm | hm
                · exact b5.2.1 hm
                · exact b5.2.2 hm
              · refine PlanB.put hs hz ?_ l a hap2 hp
                rintro a' ⟨_, hE⟩ c hc w' hS' hB hI
                exact (hE c hc w' hS' hB hI).list ht
            · exact absurd hj (hTno j hm)

theorem region_lazy {id : Nat} {l A : List Nat} {z t : Nat} {r : List Nat} {oz ot : Oper} {v : Value} {ty : TypeId} {zs : Array Value} {base : Nat} {a : Act} {w : World} (hm : P.follows .mixedOrders = true) (hs : Region.noSelect ops = true) (he2 : edgesOk ops = true)
    (hT : tailOk ops (t :: r) = true) (hok : okPlan ops l = true) (hall : (List.range ops.size).all (fun k => l.contains k || (A ++ z :: t :: r).contains k) = true) (hlt : (l ++ (A ++ z :: t :: r)).all (fun k => decide (k < ops.size)) = true)
    (hap : l.all (fun k => !(A ++ z :: t :: r).contains k && (A ++ z :: t :: r).all fun j => !waits ops k j) = true) (hlen : (l.length + A.length + r.length + 2 == ops.size) = true) (hc : lazyOk ops l A z t r = true) (hz : ops[z]? = some oz) (ht : ops[t]? = some ot)
    (hal : ∀ i ∈ A, ∃ o, ops[i]? = some o ∧ o.guard = none ∧ ∀ (a : Act) (w : World), (execOp a.eval o).run P w = .ok (.value (ptr w.heap.size)) (w.alloc (.cells zs ty)))
    (hSB : ∀ w w', S w → Below w.heap.size w w' → S w') (hbase : ∀ w, S w → base ≤ w.heap.size) (hS : S w.drew)
    (hp : PlanB P ops S (AtLazy P oz v (AtTail S ty zs base ops (StoreThen P ops Q ot r) [] (fun _ => 0) A)) l a) : (Code.region id ops true).wp P Q a w := by
  refine wp_region_any hm ?_
  exact lazy_any hs he2 hz ht hT hSB hbase ops.size l A [] (fun _ => 0) _ a _ (by simpa using (beq_iff_eq.1 hlen).symm) (left_of_replicate hok hall hlt hap) hal hc (fun i _ h => by cases h) hp hS (fun i hi => by cases hi) (fun i hi => by cases hi)

theorem planB_lazy {oz ot : Oper} {v : Value} {ty : TypeId} {zs : Array Value} {base : Nat} {r A : List Nat} {a : Act} (hg : oz.guard = none) (hz : ∀ w, (execOp a.eval oz).run P w = .ok (.value v) w) (hg2 : ot.guard = none) (hd : ot.dst = none)
    (h : ∀ (c : Nat → Nat) (w : World), S w → (∀ i ∈ A, Blk w (c i) ty zs ∧ base ≤ c i) → (∀ i ∈ A, ∀ k ∈ A, c i = c k → i = k) →
      ∃ w', (execOp (pa ops c A (a.put oz.dst v)).eval ot).run P w = .ok .skip w' ∧ wpList P ops Q (opsOf ops r) (pa ops c A (a.put oz.dst v)) w') :
    PlanB P ops S (AtLazy P oz v (AtTail S ty zs base ops (StoreThen P ops Q ot r) [] (fun _ => 0) A)) [] a :=
  ⟨⟨hg, hz⟩, fun c _ w hS hB hI => ⟨hg2, hd, h c w hS (by simpa using hB) (by simpa using hI)⟩⟩

end
end Go.Proofs.YtnemedgdhojhdaaGreat
