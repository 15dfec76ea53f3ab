/- A region that draws its order, where one operation t turns the world: a plan whose other operations hold ahead of it and behind. No Go in this text. -/
import Derived.Test.YtfoojpfgeicolaaWp
namespace Go.Proofs.Ytfoojpfgeicolaa
open Go.RowKit

section
variable {P : Program} {ops : Array Oper} {Q : Exit → Act → World → Prop} {S : Bool → World → Prop} {t : Nat} {E : Act → Prop}

def DoesT (P : Program) (ops : Array Oper) (A B : World → Prop) (o : Oper) (v : Value) (a : Act) : Prop :=
  (Region.wanted o (yielded ops a.tmps) = true ∧ ∀ w, A w → Gives P B v ((execOp a.eval o).run P w)) ∨
  (Region.wanted o (yielded ops a.tmps) = false ∧ v = undef ∧ ∀ w, A w → B w)

theorem DoesT.wpOp {A B : World → Prop} {i : Nat} {o : Oper} {v : Value} {a : Act} {w : World} {K : Act → World → Prop} (ho : ops[i]? = some o) (h : DoesT P ops A B o v a) (hS : A w) (hK : ∀ w', B w' → K (a.put o.dst v) w') : wpOp P ops Q i K a w := by
  unfold Go.wpOp
  simp only [ho]
  rcases h with ⟨hw, hv⟩ | ⟨hw, rfl, hv⟩
  · simp only [hw, if_true]; exact .inl ((hv w hS).wp hK)
  · simp only [hw, Bool.false_eq_true, if_false]; exact hK w (hv w hS)

theorem DoesT.of_same {A B : World → Prop} {o : Oper} {v : Value} {a a' : Act} (h : DoesT P ops A B o v a) (he : execOp a'.eval o = execOp a.eval o)
    (hw : Region.wanted o (yielded ops a'.tmps) = Region.wanted o (yielded ops a.tmps)) : DoesT P ops A B o v a' := by
  unfold DoesT at *; rw [he, hw]; exact h

/-- What the operation i does: t turns S false into S true, each other one keeps both. -/
def StepT (P : Program) (ops : Array Oper) (S : Bool → World → Prop) (t i : Nat) (o : Oper) (v : Value) (a : Act) : Prop :=
  ∀ b c, (i = t → b = false ∧ c = true) → (i ≠ t → c = b) → DoesT P ops (S b) (S c) o v a

def PlanT (P : Program) (ops : Array Oper) (S : Bool → World → Prop) (t : Nat) (E : Act → Prop) : List Nat → Act → Prop
  | [], a => E a
  | i :: r, a => ∃ o v, ops[i]? = some o ∧ StepT P ops S t i o v a ∧ PlanT P ops S t E r (a.put o.dst v)

/-- j, which waits for none of l, may be taken first. -/
theorem PlanT.front (hs : Region.noSelect ops = true) : ∀ (l : List Nat) (j : Nat) (r : List Nat) (a : Act), (∀ i ∈ l, apartAt ops i j = true) → PlanT P ops S t E (l ++ j :: r) a → PlanT P ops S t E (j :: (l ++ r)) a
  | [], _, _, _, _, h => h
  | i :: l, j, r, a, hap, h => by
    obtain ⟨oi, vi, hoi, hdi, hrest⟩ := h
    obtain ⟨oj, vj, hoj, hdj, hr⟩ := PlanT.front hs l j r _ (fun k hk => hap k (List.mem_cons_of_mem _ hk)) hrest
    have hx : oi.apart ops oj = true := by have := hap i (List.mem_cons_self ..); simpa [apartAt, hoi, hoj] using this
    obtain ⟨h1, h2, h3⟩ := Oper.apart_spec hx
    refine ⟨oj, vj, hoj, ?_, oi, vi, hoi, ?_, ?_⟩
    · exact fun b c h4 h5 => (hdj b c h4 h5).of_same (execOp_put oj (fun cs b => Region.noSelect_spec hs j oj cs b hoj) a oi.dst vi h1).symm (wanted_put oj a oi.dst vi h1).symm
    · exact fun b c h4 h5 => (hdi b c h4 h5).of_same (execOp_put oi (fun cs b => Region.noSelect_spec hs i oi cs b hoi) a oj.dst vj h3) (wanted_put oi a oj.dst vj h3)
    · rw [← Act.put_comm a vi vj h2]; exact hr

/-- The whole: every order. -/
theorem plan_anyT (hs : Region.noSelect ops = true) (F : List Nat) (G : List Nat → Prop)
    (hG : ∀ l j r, G (l ++ j :: r) → (∀ i ∈ l, waits ops j i = false) → G (l ++ r))
    (hF : ∀ fuel l listed a w j, Left ops l F listed → G l → PlanT P ops S t E l a → S (decide (t ∉ l)) w → j ∈ F → j ∈ Region.ready .any ops listed → wpOp P ops Q j (wpAny P .any ops Q fuel (listed.setIfInBounds j true)) a w)
    (hR : ∀ listed, Left ops [] F listed → F ≠ [] → Region.ready .any ops listed ≠ [])
    (hend : ∀ a w, F = [] → E a → S true w → Q .normal a w)
    (he2 : edgesOk ops = true) :
    ∀ (fuel : Nat) (l : List Nat) (listed : Array Bool) (a : Act) (w : World), fuel = l.length + F.length → Left ops l F listed → G l → PlanT P ops S t E l a → S (decide (t ∉ l)) w → wpAny P .any ops Q fuel listed a w := by
  intro fuel
  induction fuel with
  | zero =>
    intro l listed a w hf hl hg hp hS
    have h1 : l = [] := List.eq_nil_of_length_eq_zero (by omega)
    have h2 : F = [] := List.eq_nil_of_length_eq_zero (by omega)
    subst h1
    refine ⟨?_, hend a w h2 hp (by simpa using hS)⟩
    apply List.eq_nil_iff_forall_not_mem.2
    intro k hk
    rcases hl.all k (mem_ready.1 hk).1 with h | h
    · cases h
    · rw [h2] at h; cases h
  | succ fuel ih =>
    intro l listed a w hf hl hg hp hS
    refine ⟨fun hr => ?_, fun j hj => ?_⟩
    · cases l with
      | nil =>
        by_cases hFe : F = []
        · exact hend a w hFe hp (by simpa using hS)
        · exact absurd hr (hR listed hl hFe)
      | cons i r =>
        exfalso
        have hi := hl.un i (by simp)
        have hlt : i < ops.size := by
          rcases Nat.lt_or_ge i listed.size with h' | h'
          · have := hl.sz; omega
          · simp [Array.getElem?_eq_none h'] at hi
        obtain ⟨o, ho⟩ := Option.isSome_iff_exists.1 (show (ops[i]?).isSome = true by simp [hlt])
        have : i ∈ Region.ready .any ops listed := by
          refine mem_ready.2 ⟨hi, o, ho, fun e he hbd => ?_⟩
          by_cases hu : listed.getD e.on true = false
          · exfalso
            have hw : waits ops i e.on = true := by
              unfold waits
              rw [ho]
              simp only [Option.map_some, Option.getD_some, Array.any_eq_true']
              exact ⟨e, he, by simp [hbd]⟩
            have hok := hl.ok
            simp only [okPlan, Bool.and_eq_true, List.all_eq_true] at hok
            rcases hl.all _ hu with hm | hm
            · rcases List.mem_cons.1 hm with hm | hm
              · rw [hm] at hw; rw [hw] at hok; simp at hok
              · have := hok.1.2 _ hm
                simp [ahead, hw] at this
            · rw [hl.wf i (by simp) _ hm] at hw; cases hw
          · have : listed.getD e.on true = true := by simpa using hu
            rcases Nat.lt_or_ge e.on listed.size with h' | h'
            · simpa [h'] using this
            · have := edgesOk_spec he2 ho he
              have := hl.sz
              omega
        rw [hr] at this
        cases this
    · obtain ⟨hju, _⟩ := mem_ready.1 hj
      rcases hl.all j hju with hm | hm
      · obtain ⟨l1, r, rfl⟩ := List.append_of_mem hm
        have hw : ∀ i ∈ l1, waits ops j i = false := fun i hi => not_waits hj (hl.un i (by simp [hi]))
        have hap : ∀ i ∈ l1, apartAt ops i j = true := fun i hi => by
          have := (okPlan.tail hl.ok).2.1 i hi
          simp only [ahead, Bool.and_eq_true, Bool.or_eq_true, hw i hi] at this
          simpa using this.2
        obtain ⟨o, v, ho, hd, hrest⟩ := hp.front hs l1 j r a hap
        have hnot := (okPlan.tail hl.ok).2.2
        have hb : DoesT P ops (S (decide (t ∉ l1 ++ j :: r))) (S (decide (t ∉ l1 ++ r))) o v a := by
          refine hd _ _ (fun e => ?_) (fun e => ?_)
          · subst e; exact ⟨by simp, by simpa using hnot⟩
          · have : (t ∈ l1 ++ j :: r) ↔ (t ∈ l1 ++ r) := by
              simp only [List.mem_append, List.mem_cons]
              constructor
              · rintro (h | h | h)
                · exact .inl h
                · exact absurd h.symm e
                · exact .inr h
              · rintro (h | h)
                · exact .inl h
                · exact .inr (.inr h)
            simp only [this]
        refine hb.wpOp ho hS fun w' hS' => ?_
        exact ih (l1 ++ r) _ _ w' (by simp at hf ⊢; omega) hl.next (hG l1 j r hg hw) hrest hS'
      · exact hF fuel l listed a w j hl hg hp hS hm hj

/-- A region with one operation, f, behind all others: there the world may turn. -/
theorem region_lastT {id : Nat} {l : List Nat} {f : Nat} {o : Oper} {a : Act} {w : World} (hm : P.follows .mixedOrders = true) (hs : Region.noSelect ops = true) (he2 : edgesOk ops = true)
    (hok : okPlan ops l = true) (hall : (List.range ops.size).all (fun k => l.contains k || [f].contains k) = true) (hlt : (l ++ [f]).all (fun k => decide (k < ops.size)) = true)
    (hap : l.all (fun k => ![f].contains k && [f].all fun j => !waits ops k j) = true) (hlen : l.length + 1 = ops.size) (hff : waits ops f f = false)
    (hch : chain ops f l = true) (ho : ops[f]? = some o) (hg : o.guard = none)
    (ht : t ∈ l) (hS : S false w.drew) (hp : PlanT P ops S t (AtLast P (S true) o Q) l a) : (Code.region id ops true).wp P Q a w := by
  refine wp_region_any hm ?_
  refine plan_anyT hs [f] (fun l => chain ops f l = true) (fun l j r h hw => chain.next l j r h hw) ?_ ?_ (fun _ _ h => by cases h) he2 ops.size l _ a _ (by simp; omega)
    (left_of_replicate hok hall hlt hap) hch hp (by simpa [ht] using hS)
  · intro fuel l listed a w j hl hc hpl hSw hj hr
    have : j = f := by simpa using hj
    subst this
    by_cases hle : l = []
    · subst hle
      have h1 := hpl w (by simpa using hSw)
      unfold wpOp
      simp only [ho]
      rw [if_pos (by simp [Region.wanted, hg])]
      refine .inl (Oper.wp_mono (fun a' w' hq => wpAny_done ?_ hq _) h1)
      apply List.eq_nil_iff_forall_not_mem.2
      intro k hk
      obtain ⟨hu, _⟩ := mem_ready.1 hk
      by_cases e : j = k
      · subst e
        have hu0 := hl.uf j (by simp)
        rcases Nat.lt_or_ge j listed.size with h' | h'
        · simp [h'] at hu
        · simp [Array.getElem?_eq_none h'] at hu0
      · rw [getD_set_ne true e] at hu
        rcases hl.all k hu with h | h
        · cases h
        · simp at h; exact e h.symm
    · obtain ⟨i, hi, hw⟩ := chain.some l hc hle
      rw [not_waits hr (hl.un i hi)] at hw
      cases hw
  · intro listed hl _ hr
    have hu := hl.uf f (by simp)
    have : f ∈ Region.ready .any ops listed := by
      refine mem_ready.2 ⟨hu, o, ho, fun e he hbd => ?_⟩
      by_cases hun : listed.getD e.on true = false
      · exfalso
        rcases hl.all _ hun with h | h
        · cases h
        · simp at h
          have : waits ops f f = true := by
            unfold waits
            rw [ho]
            simp only [Option.map_some, Option.getD_some, Array.any_eq_true']
            exact ⟨e, he, by simp [hbd, h]⟩
          rw [hff] at this; cases this
      · have h1 : listed.getD e.on true = true := by simpa using hun
        rcases Nat.lt_or_ge e.on listed.size with h' | h'
        · simpa [h'] using h1
        · have := edgesOk_spec he2 ho he
          have := hl.sz
          omega
    rw [hr] at this
    cases this

/-- A region without a last one. -/
theorem region_planT {id : Nat} {l : List Nat} {a : Act} {w : World} (hm : P.follows .mixedOrders = true) (hs : Region.noSelect ops = true) (he2 : edgesOk ops = true)
    (hok : okPlan ops l = true) (hall : (List.range ops.size).all (fun k => l.contains k || [].contains k) = true) (hlt : l.all (fun k => decide (k < ops.size)) = true) (hlen : l.length = ops.size)
    (ht : t ∈ l) (hS : S false w.drew) (hp : PlanT P ops S t (AtEnd (S true) Q) l a) : (Code.region id ops true).wp P Q a w := by
  refine wp_region_any hm ?_
  refine plan_anyT hs [] (fun _ => True) (fun _ _ _ _ _ => trivial) (fun _ _ _ _ _ _ _ _ _ _ h => by cases h) (fun _ _ h => absurd rfl h) (fun a w _ h hS => h w hS) he2 ops.size l _ a _ (by simp [hlen])
    (left_of_replicate hok hall (by simpa using hlt) (by simp)) trivial hp (by simpa [ht] using hS)

theorem planT_end {a : Act} (h : ∀ w, S true w → Q .normal a w) : PlanT P ops S t (AtEnd (S true) Q) [] a := h
theorem planT_last {o : Oper} {a : Act} (h : ∀ w, S true w → o.wp P a w (fun a' w' => Q .normal a' w') Q) : PlanT P ops S t (AtLast P (S true) o Q) [] a := h
/-- An operation that only reads, and reads the same ahead of the turn and behind it. -/
theorem planT_read {i : Nat} {r : List Nat} {a : Act} {o : Oper} {v : Value} (ho : ops[i]? = some o) (hi : i ≠ t) (hw : Region.wanted o (yielded ops a.tmps) = true)
    (h : ∀ b w, S b w → (execOp a.eval o).run P w = .ok (.value v) w) (hr : PlanT P ops S t E r (a.put o.dst v)) : PlanT P ops S t E (i :: r) a :=
  ⟨o, v, ho, fun b c _ h2 => .inl ⟨hw, fun w hS => by rw [h b w hS, h2 hi]; exact ⟨rfl, hS⟩⟩, hr⟩
/-- A call that leaves both. -/
theorem planT_keep {i : Nat} {r : List Nat} {a : Act} {o : Oper} {v : Value} {f : FuncId} {args : Array Value} (ho : ops[i]? = some o) (hi : i ≠ t) (hw : Region.wanted o (yielded ops a.tmps) = true)
    (h : ∀ b w, S b w → (execOp a.eval o).run P w = .ok (.enter f args) w) (hc : ∀ b w, S b w → Calls P f args w fun e w' => e = .returned v ∧ S b w')
    (hr : PlanT P ops S t E r (a.put o.dst v)) : PlanT P ops S t E (i :: r) a :=
  ⟨o, v, ho, fun b c _ h2 => .inl ⟨hw, fun w hS => by rw [h b w hS, h2 hi]; exact hc b w hS⟩, hr⟩
/-- The call that turns the world. -/
theorem planT_call {r : List Nat} {a : Act} {o : Oper} {v : Value} {f : FuncId} {args : Array Value} (ho : ops[t]? = some o) (hw : Region.wanted o (yielded ops a.tmps) = true)
    (h : ∀ w, S false w → (execOp a.eval o).run P w = .ok (.enter f args) w) (hc : ∀ w, S false w → Calls P f args w fun e w' => e = .returned v ∧ S true w')
    (hr : PlanT P ops S t E r (a.put o.dst v)) : PlanT P ops S t E (t :: r) a :=
  ⟨o, v, ho, fun b c h1 _ => .inl ⟨hw, fun w hS => by obtain ⟨rfl, rfl⟩ := h1 rfl; rw [h w hS]; exact hc w hS⟩, hr⟩
/-- The operation that turns the world. -/
theorem planT_turn {r : List Nat} {a : Act} {o : Oper} {v : Value} (ho : ops[t]? = some o) (hw : Region.wanted o (yielded ops a.tmps) = true)
    (h : ∀ w, S false w → ∃ w', (execOp a.eval o).run P w = .ok (.value v) w' ∧ S true w') (hr : PlanT P ops S t E r (a.put o.dst v)) : PlanT P ops S t E (t :: r) a :=
  ⟨o, v, ho, fun b c h1 _ => .inl ⟨hw, fun w hS => by obtain ⟨rfl, rfl⟩ := h1 rfl; obtain ⟨w', h3, h4⟩ := h w hS; rw [h3]; exact ⟨rfl, h4⟩⟩, hr⟩

end
end Go.Proofs.Ytfoojpfgeicolaa
