/- The same, where one operation that only reads slots may come up behind the tail's first store. No Go in this text. -/
import Derived.Test.YtfoojpfgeicolaaYz
namespace Go.Proofs.Ytfoojpfgeicolaa
open Go.RowKit

section
variable {P : Program} {ops : Array Oper} {Q : Exit → Act → World → Prop} {S : World → Prop} {E : Act → Prop}

/-- The operation yields v, in whatever world. -/
def Pure (P : Program) (o : Oper) (v : Value) (a : Act) : Prop := o.guard = none ∧ ∀ w, (execOp a.eval o).run P w = .ok (.value v) w

/-- The tail's first store, and the rest. -/
def StoreThen (P : Program) (ops : Array Oper) (Q : Exit → Act → World → Prop) (o : Oper) (r : List Nat) (a : Act) (w : World) : Prop :=
  o.guard = none ∧ o.dst = none ∧ ∃ w', (execOp a.eval o).run P w = .ok .skip w' ∧ wpList P ops Q (opsOf ops r) a w'

theorem StoreThen.list {t : Nat} {o : Oper} {r : List Nat} {a : Act} {w : World} (ho : ops[t]? = some o) (h : StoreThen P ops Q o r a w) : wpList P ops Q (opsOf ops (t :: r)) a w := by
  obtain ⟨hg, hd, w', hr, hw⟩ := h
  simp only [opsOf, ho]
  unfold wpList
  rw [if_pos (by simp [Region.wanted, hg])]
  refine .inl ?_
  unfold Oper.wp
  rw [hr]
  simp only [Oper.upon, hd]
  exact hw

theorem Pure.put (hs : Region.noSelect ops = true) {z k : Nat} {oz ok : Oper} {v u : Value} {a : Act} (hz : ops[z]? = some oz) (hk : ops[k]? = some ok) (hap : apartAt ops k z = true) :
    Pure P oz v a ↔ Pure P oz v (a.put ok.dst u) := by
  have hx : ok.apart ops oz = true := by simpa [apartAt, hz, hk] using hap
  obtain ⟨h1, _, _⟩ := Oper.apart_spec hx
  have e := execOp_put oz (fun cs b => Region.noSelect_spec hs z oz cs b hz) a ok.dst u h1
  unfold Pure
  rw [e]

theorem Pure.wpOp {z : Nat} {oz : Oper} {v : Value} {a : Act} {w : World} {K : Act → World → Prop} (hz : ops[z]? = some oz) (h : Pure P oz v a) (hK : K (a.put oz.dst v) w) : wpOp P ops Q z K a w := by
  unfold Go.wpOp
  simp only [hz]
  rw [if_pos (by simp [Region.wanted, h.1])]
  refine .inl ?_
  unfold Oper.wp
  rw [h.2]
  exact hK

/-- The lazy one, the store and the rest. -/
theorem tail_lazy (hs : Region.noSelect ops = true) (he2 : edgesOk ops = true) {z t : Nat} {r : List Nat} {oz ot : Oper} {v : Value} (hz : ops[z]? = some oz) (ht : ops[t]? = some ot)
    (hzw : ∀ k ∈ z :: t :: r, waits ops z k = false) (htw : ∀ k ∈ z :: t :: r, waits ops t k = false) (hr : ∀ k ∈ r, waits ops k z = true ∧ waits ops k t = true) (hzt : apartAt ops z t = true) (hne : z ≠ t)
    (hT : tailOk ops (t :: r) = true) (listed : Array Bool) (a : Act) (w : World) (hl : Left ops [] (z :: t :: r) listed) (hp : Pure P oz v a) (h : StoreThen P ops Q ot r (a.put oz.dst v) w) :
    wpAny P .any ops Q (r.length + 2) listed a w := by
  have huz := hl.uf z (by simp)
  have hut := hl.uf t (by simp)
  have hzr : z ∉ t :: r := by
    intro hm
    rcases List.mem_cons.1 hm with e | hm
    · exact hne e
    · have := (hr z hm).1
      rw [hzw z (by simp)] at this
      cases this
  have htr : t ∉ r := by
    intro hm
    have := (hr t hm).2
    rw [htw t (by simp)] at this
    cases this
  refine ⟨fun hrd => ?_, fun j hj => ?_⟩
  · have := ready_of he2 hl hz huz fun k hk => by
      rcases hk with hk | hk
      · cases hk
      · exact hzw k hk
    rw [hrd] at this
    cases this
  · rcases hl.all j (mem_ready.1 hj).1 with hm | hm
    · cases hm
    · rcases List.mem_cons.1 hm with e | hm
      · subst e
        refine hp.wpOp hz ?_
        exact tail_any he2 (t :: r) _ _ _ hT (hl.drop (F1 := []) hzr) (h.list ht)
      · rcases List.mem_cons.1 hm with e | hm
        · subst e
          obtain ⟨hg, hd, w', hrun, hrest⟩ := h
          have hx : oz.apart ops ot = true := by simpa [apartAt, hz, ht] using hzt
          obtain ⟨h1, _, _⟩ := Oper.apart_spec hx
          rw [execOp_put ot (fun cs b => Region.noSelect_spec hs j ot cs b ht) a oz.dst v h1] at hrun
          have hl2 : Left ops [] (z :: r) (listed.setIfInBounds j true) := by
            have := Left.drop (F1 := [z]) (F2 := r) (j := j) hl (by
              intro hm
              rcases List.mem_cons.1 hm with e | hm
              · exact hne e.symm
              · exact htr hm)
            exact this
          unfold wpOp
          simp only [ht]
          rw [if_pos (by simp [Region.wanted, hg])]
          refine .inl ?_
          unfold Oper.wp
          rw [hrun]
          simp only [Oper.upon, hd, Act.put]
          have huz2 := hl2.uf z (by simp)
          refine ⟨fun hrd => ?_, fun k hk => ?_⟩
          · have := ready_of he2 hl2 hz huz2 fun k hk => by
              rcases hk with hk | hk
              · cases hk
              · rcases List.mem_cons.1 hk with e | hk
                · exact hzw k (by simp [e])
                · exact hzw k (by simp [hk])
            rw [hrd] at this
            cases this
          · have hkz : k = z := by
              rcases hl2.all k (mem_ready.1 hk).1 with hm | hm
              · cases hm
              · rcases List.mem_cons.1 hm with e | hm
                · exact e
                · have := (hr k hm).1
                  rw [not_waits hk huz2] at this
                  cases this
            subst hkz
            refine hp.wpOp hz ?_
            have hT2 : tailOk ops r = true := by
              simp only [tailOk, Bool.and_eq_true] at hT
              exact hT.2
            exact tail_any he2 r _ _ _ hT2 (hl2.drop (F1 := []) (fun hm => hzr (by simp at hm ⊢; exact .inr hm))) hrest
        · have := (hr j hm).2
          rw [not_waits hj hut] at this
          cases this

/-- What is known at the end of the plan: the lazy one's value, and the tail. -/
def AtLazy (P : Program) (oz : Oper) (v : Value) (E : Act → Prop) (a : Act) : Prop := Pure P oz v a ∧ E (a.put oz.dst v)

theorem PlanB.meet (hs : Region.noSelect ops = true) {z : Nat} {oz : Oper} {v : Value} (hz : ops[z]? = some oz) : ∀ (l : List Nat) (a : Act), (∀ i ∈ l, apartAt ops i z = true) → PlanB P ops S (AtLazy P oz v E) l a → Pure P oz v a
  | [], _, _, h => h.1
  | i :: l, a, hap, h => by
    obtain ⟨oi, vi, hoi, _, hrest⟩ := h
    have := PlanB.meet hs hz l _ (fun k hk => hap k (List.mem_cons_of_mem _ hk)) hrest
    exact (Pure.put hs hz hoi (hap i (List.mem_cons_self ..))).2 this

/-- What is asked of the lists. -/
def lazyOk (ops : Array Oper) (l A : List Nat) (z t : Nat) (r : List Nat) : Bool :=
  A.all (fun i => (l ++ (A ++ z :: t :: r)).all (fun k => !waits ops i k) && l.all (fun k => apartAt ops i k) && A.all (fun k => i == k || apartAt ops i k) && apartAt ops i z && !(z :: t :: r).contains i) &&
  (z :: t :: r).all (fun k => !waits ops z k) && l.all (fun i => waits ops z i || apartAt ops i z) && l.all (fun i => apartAt ops z i || waits ops z i) &&
  (z :: t :: r).all (fun k => !waits ops t k) && r.all (fun k => waits ops k z && waits ops k t) && apartAt ops z t && z != t &&
  (t :: r).all (fun i => (l ++ A).all fun k => waits ops i k) && decide A.Nodup

theorem lazy_any (hs : Region.noSelect ops = true) (he2 : edgesOk ops = true) {z t : Nat} {r : List Nat} {oz ot : Oper} {v : Value} {ty : TypeId} {zs : Array Value} {base : Nat} (hz : ops[z]? = some oz) (ht : ops[t]? = some ot) (hT : tailOk ops (t :: r) = true)
    (hSB : ∀ w w', S w → Below w.heap.size w w' → S w') (hbase : ∀ w, S w → base ≤ w.heap.size) :
    ∀ (fuel : Nat) (l A D : List Nat) (c0 : Nat → Nat) (listed : Array Bool) (a : Act) (w : World), fuel = l.length + A.length + r.length + 2 → Left ops l (A ++ z :: t :: r) listed →
    (∀ i ∈ A, ∃ o, ops[i]? = some o ∧ o.guard = none ∧ ∀ (a : Act) (w : World), (execOp a.eval o).run P w = .ok (.value (ptr w.heap.size)) (w.alloc (.cells zs ty))) →
    lazyOk ops l A z t r = true → (∀ i ∈ A, i ∉ D) →
    PlanB P ops S (AtLazy P oz v (AtTail S ty zs base ops (StoreThen P ops Q ot r) D c0 A)) l a → S w → (∀ i ∈ D, Blk w (c0 i) ty zs ∧ base ≤ c0 i) → (∀ i ∈ D, ∀ k ∈ D, c0 i = c0 k → i = k) → wpAny P .any ops Q fuel listed a w := by
  intro fuel
  induction fuel with
  | zero =>
    intro l A D c0 listed a w hf
    omega
  | succ fuel ih =>
    intro l A D c0 listed a w hf hl hal hOk hAD hp hS hD hDi
    have hOk' := hOk
    simp only [lazyOk, Bool.and_eq_true, List.all_eq_true, Bool.not_eq_true', Bool.or_eq_true, beq_iff_eq, bne_iff_ne, ne_eq, decide_eq_true_eq] at hOk
    obtain ⟨⟨⟨⟨⟨⟨⟨⟨⟨hA, hzw⟩, hzl⟩, hzl2⟩, htw⟩, hr⟩, hzt⟩, hne⟩, hTw⟩, hAn⟩ := hOk
    have hmz : ∀ k, k ∈ z :: t :: r → k ∈ A ++ z :: t :: r := fun k hk => List.mem_append_right _ hk
    have hzT : z ∉ t :: r := by
      intro hm
      rcases List.mem_cons.1 hm with e | hm
      · exact hne e
      · have := (hr z hm).1
        rw [hzw z (by simp)] at this
        cases this
    by_cases hle : l = [] ∧ A = []
    · obtain ⟨h1, h2⟩ := hle
      subst h1 h2
      have h := tail_lazy (P := P) (Q := Q) hs he2 hz ht hzw htw hr hzt hne hT listed a w hl hp.1 (hp.2 c0 (fun _ _ => rfl) w hS (by simpa using hD) (by simpa using hDi))
      rwa [show r.length + 2 = fuel + 1 by simp at hf; omega] at h
    · have hTno : ∀ j ∈ t :: r, j ∉ Region.ready .any ops listed := fun j hj hrd => by
        cases l with
        | cons i l' =>
          have := hTw j hj i (by simp)
          rw [not_waits hrd (hl.un i (by simp))] at this
          cases this
        | nil =>
          cases A with
          | nil => exact hle ⟨rfl, rfl⟩
          | cons i A' =>
            have := hTw j hj i (by simp)
            rw [not_waits hrd (hl.uf i (by simp))] at this
            cases this
      refine ⟨fun hrd => ?_, fun j hj => ?_⟩
      · exfalso
        cases A with
        | cons i A' =>
          have hu := hl.uf i (by simp)
          obtain ⟨o, ho⟩ := hl.some hu
          have := ready_of he2 hl ho hu fun k hk => (hA i (by simp)).1.1.1.1 k (by rcases hk with hk | hk; exact List.mem_append_left _ hk; exact List.mem_append_right _ hk)
          rw [hrd] at this
          cases this
        | nil =>
          cases l with
          | nil => exact hle ⟨rfl, rfl⟩
          | cons i l' =>
            have hu := hl.un i (by simp)
            obtain ⟨o, ho⟩ := hl.some hu
            have hok := hl.ok
            simp only [okPlan, Bool.and_eq_true, List.all_eq_true, Bool.not_eq_true'] at hok
            have := ready_of he2 hl ho hu fun k hk => by
              rcases hk with hk | hk
              · rcases List.mem_cons.1 hk with e | hk
                · subst e; exact hok.1.1
                · have := hok.1.2 k hk
                  simp only [ahead, Bool.and_eq_true, Bool.not_eq_true'] at this
                  exact this.1.1
              · exact hl.wf i (by simp) k hk
            rw [hrd] at this
            cases this
      · rcases hl.all j (mem_ready.1 hj).1 with hm | hm
        · obtain ⟨l1, l2, rfl⟩ := List.append_of_mem hm
          have hw : ∀ i ∈ l1, waits ops j i = false := fun i hi => not_waits hj (hl.un i (by simp [hi]))
          have hap : ∀ i ∈ l1, apartAt ops i j = true := fun i hi => by
            have := (okPlan.tail hl.ok).2.1 i hi
            simp only [ahead, Bool.and_eq_true, Bool.or_eq_true, hw i hi] at this
            simpa using this.2
          have hsub : ∀ k, k ∈ l1 ++ l2 → k ∈ l1 ++ j :: l2 := fun k hk => by rcases List.mem_append.1 hk with hk | hk <;> simp [hk]
          obtain ⟨o, v', ho, hd, hrest⟩ := hp.front hs l1 j l2 a hap
          refine hd.wpOp ho hS fun w' hS' hb => ?_
          refine ih (l1 ++ l2) A D c0 _ _ w' (by simp at hf ⊢; omega) hl.next hal ?_ hAD hrest hS' (fun i hi => ⟨(hD i hi).1.below hb (hD i hi).1.lt, (hD i hi).2⟩) hDi
          simp only [lazyOk, Bool.and_eq_true, List.all_eq_true, Bool.not_eq_true', Bool.or_eq_true, beq_iff_eq, bne_iff_ne, ne_eq, decide_eq_true_eq]
          refine ⟨⟨⟨⟨⟨⟨⟨⟨⟨?_, hzw⟩, fun i hi => hzl i (hsub i hi)⟩, fun i hi => hzl2 i (hsub i hi)⟩, htw⟩, hr⟩, hzt⟩, hne⟩, fun i hi k hk => hTw i hi k (by rcases List.mem_append.1 hk with hk | hk; exact List.mem_append_left _ (hsub k hk); exact List.mem_append_right _ hk)⟩, hAn⟩
          intro i hi
          obtain ⟨⟨⟨⟨a1, a2⟩, a3⟩, a4⟩, a5⟩ := hA i hi
          exact ⟨⟨⟨⟨fun k hk => a1 k (by rcases List.mem_append.1 hk with hk | hk; exact List.mem_append_left _ (hsub k hk); exact List.mem_append_right _ hk), fun k hk => a2 k (hsub k hk)⟩, a3⟩, a4⟩, a5⟩
        · rcases List.mem_append.1 hm with hm | hm
          · obtain ⟨o, ho, hg, hrun⟩ := hal j hm
            have hjD := hAD j hm
            have hjm := hm
            obtain ⟨⟨⟨⟨b1, b2⟩, b3⟩, b4⟩, b5⟩ := hA j hm
            obtain ⟨A1, A2, rfl⟩ := List.append_of_mem hm
            have hnd := hAn
            rw [List.nodup_append] at hnd
            have hj12 : j ∉ A1 ++ A2 := by
              intro h
              rcases List.mem_append.1 h with h | h
              · exact hnd.2.2 j h j (by simp) rfl
              · exact (List.nodup_cons.1 hnd.2.1).1 h
            have hsub : ∀ k, k ∈ A1 ++ A2 → k ∈ A1 ++ j :: A2 := fun k hk => by rcases List.mem_append.1 hk with hk | hk <;> simp [hk]
            have hl' : Left ops l (A1 ++ A2 ++ z :: t :: r) (listed.setIfInBounds j true) := by
              have h5 : Left ops l (A1 ++ j :: (A2 ++ z :: t :: r)) listed := by simpa using hl
              have := h5.drop (by
                intro h
                rcases List.mem_append.1 h with h | h
                · exact hj12 (by simp [h])
                · rcases List.mem_append.1 h with h | h
                  · exact hj12 (by simp [h])
                  · have h7 : (z :: t :: r).contains j = true := by simpa using h
                    rw [b5] at h7
                    cases h7)
              simpa using this
            have hbl : Below w.heap.size w (w.alloc (.cells zs ty)) := (Below.refl _ _).alloc (Nat.le_refl _) _
            unfold wpOp
            simp only [ho]
            rw [if_pos (by simp [Region.wanted, hg])]
            refine .inl ?_
            unfold Oper.wp
            rw [hrun]
            simp only [Oper.upon]
            refine ih l (A1 ++ A2) (j :: D) (fun k => if k = j then w.heap.size else c0 k) _ _ _ (by simp at hf ⊢; omega) hl' (fun i hi => hal i (hsub i hi)) ?_ ?_ ?_ (hSB _ _ hS hbl) ?_ ?_
            · simp only [lazyOk, Bool.and_eq_true, List.all_eq_true, Bool.not_eq_true', Bool.or_eq_true, beq_iff_eq, bne_iff_ne, ne_eq, decide_eq_true_eq]
              refine ⟨⟨⟨⟨⟨⟨⟨⟨⟨?_, hzw⟩, hzl⟩, hzl2⟩, htw⟩, hr⟩, hzt⟩, hne⟩, fun i hi k hk => hTw i hi k (by
                rcases List.mem_append.1 hk with hk | hk
                · exact List.mem_append_left _ hk
                · exact List.mem_append_right _ (hsub k hk))⟩, ?_⟩
              · intro i hi
                obtain ⟨⟨⟨⟨a1, a2⟩, a3⟩, a4⟩, a5⟩ := hA i (hsub i hi)
                refine ⟨⟨⟨⟨fun k hk => a1 k ?_, a2⟩, fun k hk => a3 k (hsub k hk)⟩, a4⟩, a5⟩
                rcases List.mem_append.1 hk with hk | hk
                · exact List.mem_append_left _ hk
                · rcases List.mem_append.1 hk with hk | hk
                  · exact List.mem_append_right _ (List.mem_append_left _ (hsub k hk))
                  · exact List.mem_append_right _ (List.mem_append_right _ hk)
              · rw [List.nodup_append]
                exact ⟨hnd.1, (List.nodup_cons.1 hnd.2.1).2, fun x hx y hy => hnd.2.2 x hx y (by simp [hy])⟩
            · intro i hi h
              rcases List.mem_cons.1 h with e | h
              · subst e; exact hj12 hi
              · exact hAD i (hsub i hi) h
            · refine PlanB.put hs ho ?_ l a (fun i hi => b2 i hi) hp
              rintro a' ⟨hpu, hE⟩
              refine ⟨(Pure.put hs hz ho b4).1 hpu, ?_⟩
              intro c hc w' hS' hB hI
              have hcj : c j = w.heap.size := by have := hc j (by simp); simpa using this
              have hmem : ∀ k, k ∈ D ++ (A1 ++ j :: A2) → k ∈ (j :: D) ++ (A1 ++ A2) := fun k hk => by
                simp only [List.mem_append, List.mem_cons] at hk ⊢
                rcases hk with h | h | h | h <;> simp [h]
              have h := hE c (fun i hi => by have := hc i (by simp [hi]); rw [this]; exact if_neg (fun e : i = j => hjD (e ▸ hi))) w' hS' (fun i hi => hB i (hmem i hi)) (fun i hi k hk => hI i (hmem i hi) k (hmem k hk))
              have hd : dstOf ops j = o.dst := by simp [dstOf, ho]
              have hxz : o.apart ops oz = true := by simpa [apartAt, hz, ho] using b4
              obtain ⟨_, hoz, _⟩ := Oper.apart_spec hxz
              rw [Act.put_comm a' _ _ hoz]
              rw [pa_append] at h ⊢
              rw [pa_put]
              · rw [← hcj, ← hd]; exact h
              · intro i hi s hs'
                have hij : ¬ i = j := fun e => by subst e; exact hj12 (by simp [hi])
                have hax := (hA i (by simp [hi])).1.1.2 j hjm
                rcases hax with e | hax
                · exact absurd e hij
                obtain ⟨oi, hoi⟩ := hl.some (hl.uf i (by simp [hi]))
                have hx : oi.apart ops o = true := by simpa [apartAt, hoi, ho] using hax
                obtain ⟨_, h2, _⟩ := Oper.apart_spec hx
                have hdi : oi.dst = some s := by simpa [dstOf, hoi] using hs'
                exact h2 s hdi
            · intro i hi
              rcases List.mem_cons.1 hi with e | hi
              · subst e
                simp only [if_true]
                exact ⟨Blk.new _ _ _, hbase _ hS⟩
              · have hne2 : i ≠ j := fun e => hjD (e ▸ hi)
                simp only [hne2, if_false]
                exact ⟨(hD i hi).1.alloc _, (hD i hi).2⟩
            · intro i hi k hk h
              rcases List.mem_cons.1 hi with e1 | hi <;> rcases List.mem_cons.1 hk with e2 | hk
              · rw [e1, e2]
              · have hne2 : k ≠ j := fun e => hjD (e ▸ hk)
                have := (hD k hk).1.lt
                simp only [e1, hne2, if_true, if_false] at h
                omega
              · have hne2 : i ≠ j := fun e => hjD (e ▸ hi)
                have := (hD i hi).1.lt
                simp only [e2, hne2, if_true, if_false] at h
                omega
              · have hne2 : i ≠ j := fun e => hjD (e ▸ hi)
                have hne3 : k ≠ j := fun e => hjD (e ▸ hk)
                simp only [hne2, hne3, if_false] at h
                exact hDi i hi k hk h
          · rcases List.mem_cons.1 hm with e | hm
            · subst e
              have hap : ∀ i ∈ l, apartAt ops i j = true := fun i hi => by
                rcases hzl i hi with h | h
                · rw [not_waits hj (hl.un i hi)] at h; cases h
                · exact h
              have hap2 : ∀ i ∈ l, apartAt ops j i = true := fun i hi => by
                rcases hzl2 i hi with h | h
                · exact h
                · rw [not_waits hj (hl.un i hi)] at h; cases h
              have hpu := hp.meet hs hz l a hap
              refine hpu.wpOp hz ?_
              have hl2 : Left ops l (A ++ t :: r) (listed.setIfInBounds j true) := hl.drop (F1 := A) (F2 := t :: r) (by
                intro hm
                rcases List.mem_append.1 hm with hm | hm
                · have b5 := (hA j hm).2
                  simp at b5
                · exact hzT hm)
              refine allocs_any (P := P) (Q := Q) (S := S) (T := t :: r) hs he2 hT hSB hbase fuel l A D c0 _ _ w (by simp at hf ⊢; omega) hl2 hal ?_ (fun i hi k hk => (hA i hi).1.1.1.2 k hk) (fun i hi k hk hik => ((hA i hi).1.1.2 k hk).resolve_left hik) ?_ hAn (fun i hi => ⟨chain_of_all l fun k hk => hTw i hi k (List.mem_append_left _ hk), fun k hk => hTw i hi k (List.mem_append_right _ hk)⟩) ?_ hS hD hDi
              · intro i hi k hk
                refine (hA i hi).1.1.1.1 k ?_
                rcases hk with hk | hk
                · exact List.mem_append_left _ hk
                · rcases List.mem_append.1 hk with hk | hk
                  · exact List.mem_append_right _ (List.mem_append_left _ hk)
                  · exact List.mem_append_right _ (List.mem_append_right _ (List.mem_cons_of_mem _ hk))
              · intro i hi
                refine ⟨fun hm => ?_, hAD i hi⟩
                have b5 := (hA i hi).2
                simp at b5 hm
                rcases hm with hm | hm
                · exact b5.2.1 hm
                · exact b5.2.2 hm
              · refine PlanB.put hs hz ?_ l a hap2 hp
                rintro a' ⟨_, hE⟩ c hc w' hS' hB hI
                exact (hE c hc w' hS' hB hI).list ht
            · exact absurd hj (hTno j hm)

theorem region_lazy {id : Nat} {l A : List Nat} {z t : Nat} {r : List Nat} {oz ot : Oper} {v : Value} {ty : TypeId} {zs : Array Value} {base : Nat} {a : Act} {w : World} (hm : P.follows .mixedOrders = true) (hs : Region.noSelect ops = true) (he2 : edgesOk ops = true)
    (hT : tailOk ops (t :: r) = true) (hok : okPlan ops l = true) (hall : (List.range ops.size).all (fun k => l.contains k || (A ++ z :: t :: r).contains k) = true) (hlt : (l ++ (A ++ z :: t :: r)).all (fun k => decide (k < ops.size)) = true)
    (hap : l.all (fun k => !(A ++ z :: t :: r).contains k && (A ++ z :: t :: r).all fun j => !waits ops k j) = true) (hlen : (l.length + A.length + r.length + 2 == ops.size) = true) (hc : lazyOk ops l A z t r = true) (hz : ops[z]? = some oz) (ht : ops[t]? = some ot)
    (hal : ∀ i ∈ A, ∃ o, ops[i]? = some o ∧ o.guard = none ∧ ∀ (a : Act) (w : World), (execOp a.eval o).run P w = .ok (.value (ptr w.heap.size)) (w.alloc (.cells zs ty)))
    (hSB : ∀ w w', S w → Below w.heap.size w w' → S w') (hbase : ∀ w, S w → base ≤ w.heap.size) (hS : S w.drew)
    (hp : PlanB P ops S (AtLazy P oz v (AtTail S ty zs base ops (StoreThen P ops Q ot r) [] (fun _ => 0) A)) l a) : (Code.region id ops true).wp P Q a w := by
  refine wp_region_any hm ?_
  exact lazy_any hs he2 hz ht hT hSB hbase ops.size l A [] (fun _ => 0) _ a _ (by simpa using (beq_iff_eq.1 hlen).symm) (left_of_replicate hok hall hlt hap) hal hc (fun i _ h => by cases h) hp hS (fun i hi => by cases hi) (fun i hi => by cases hi)

theorem planB_lazy {oz ot : Oper} {v : Value} {ty : TypeId} {zs : Array Value} {base : Nat} {r A : List Nat} {a : Act} (hg : oz.guard = none) (hz : ∀ w, (execOp a.eval oz).run P w = .ok (.value v) w) (hg2 : ot.guard = none) (hd : ot.dst = none)
    (h : ∀ (c : Nat → Nat) (w : World), S w → (∀ i ∈ A, Blk w (c i) ty zs ∧ base ≤ c i) → (∀ i ∈ A, ∀ k ∈ A, c i = c k → i = k) →
      ∃ w', (execOp (pa ops c A (a.put oz.dst v)).eval ot).run P w = .ok .skip w' ∧ wpList P ops Q (opsOf ops r) (pa ops c A (a.put oz.dst v)) w') :
    PlanB P ops S (AtLazy P oz v (AtTail S ty zs base ops (StoreThen P ops Q ot r) [] (fun _ => 0) A)) [] a :=
  ⟨⟨hg, hz⟩, fun c _ w hS hB hI => ⟨hg2, hd, h c w hS (by simpa using hB) (by simpa using hI)⟩⟩

end
end Go.Proofs.Ytfoojpfgeicolaa
