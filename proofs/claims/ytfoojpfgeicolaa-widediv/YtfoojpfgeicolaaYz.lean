/- A region that draws its order, in which memory is made: the new blocks come up anywhere, whatever their numbers; behind all the rest comes a tail in one order. No Go in this text. -/
import Derived.Test.YtfoojpfgeicolaaWp
namespace Go.Proofs.Ytfoojpfgeicolaa
open Go.RowKit

section
variable {P : Program} {ops : Array Oper} {Q : Exit → Act → World → Prop} {S : World → Prop} {E : Act → Prop}

/-- What an operation ends in: the value v, in a world that meets S and holds what was. -/
def GivesB (P : Program) (S : World → Prop) (v : Value) (w0 : World) : Result Next → Prop
  | .ok (.value u) w => u = v ∧ S w ∧ Below w0.heap.size w0 w
  | .ok .skip w => v = undef ∧ S w ∧ Below w0.heap.size w0 w
  | .ok (.enter f args) w => Calls P f args w fun e w' => e = .returned v ∧ S w' ∧ Below w0.heap.size w0 w'
  | _ => False

def DoesB (P : Program) (ops : Array Oper) (S : World → Prop) (o : Oper) (v : Value) (a : Act) : Prop :=
  (Region.wanted o (yielded ops a.tmps) = true ∧ ∀ w, S w → GivesB P S v w ((execOp a.eval o).run P w)) ∨
  (Region.wanted o (yielded ops a.tmps) = false ∧ v = undef)

def PlanB (P : Program) (ops : Array Oper) (S : World → Prop) (E : Act → Prop) : List Nat → Act → Prop
  | [], a => E a
  | i :: r, a => ∃ o v, ops[i]? = some o ∧ DoesB P ops S o v a ∧ PlanB P ops S E r (a.put o.dst v)

theorem GivesB.wp {o : Oper} {v : Value} {a : Act} {w : World} {K : Act → World → Prop} (h : GivesB P S v w ((execOp a.eval o).run P w)) (hK : ∀ w', S w' → Below w.heap.size w w' → K (a.put o.dst v) w') : o.wp P a w K Q := by
  unfold Oper.wp
  generalize (execOp a.eval o).run P w = r at *
  cases r with
  | ok n w' =>
    cases n <;> simp only [GivesB, Oper.upon] at h ⊢
    case value u => obtain ⟨rfl, h, hb⟩ := h; exact hK _ h hb
    case skip => obtain ⟨rfl, h, hb⟩ := h; exact hK _ h hb
    case enter f args => exact Calls.mono h fun e w'' ⟨he, hs, hb⟩ => by subst he; exact hK _ hs hb
  | halt x w' => exact h.elim

theorem DoesB.wpOp {i : Nat} {o : Oper} {v : Value} {a : Act} {w : World} {K : Act → World → Prop} (ho : ops[i]? = some o) (h : DoesB P ops S o v a) (hS : S w) (hK : ∀ w', S w' → Below w.heap.size w w' → K (a.put o.dst v) w') : wpOp P ops Q i K a w := by
  unfold Go.wpOp
  simp only [ho]
  rcases h with ⟨hw, hv⟩ | ⟨hw, rfl⟩
  · simp only [hw, if_true]; exact .inl ((hv w hS).wp hK)
  · simp only [hw, Bool.false_eq_true, if_false]; exact hK w hS (Below.refl _ _)

theorem DoesB.of_same {o : Oper} {v : Value} {a a' : Act} (h : DoesB P ops S o v a) (he : execOp a'.eval o = execOp a.eval o)
    (hw : Region.wanted o (yielded ops a'.tmps) = Region.wanted o (yielded ops a.tmps)) : DoesB P ops S o v a' := by
  unfold DoesB at *; rw [he, hw]; exact h

theorem PlanB.front (hs : Region.noSelect ops = true) : ∀ (l : List Nat) (j : Nat) (r : List Nat) (a : Act), (∀ i ∈ l, apartAt ops i j = true) → PlanB P ops S E (l ++ j :: r) a → PlanB P ops S E (j :: (l ++ r)) a
  | [], _, _, _, _, h => h
  | i :: l, j, r, a, hap, h => by
    obtain ⟨oi, vi, hoi, hdi, hrest⟩ := h
    obtain ⟨oj, vj, hoj, hdj, hr⟩ := PlanB.front hs l j r _ (fun k hk => hap k (List.mem_cons_of_mem _ hk)) hrest
    have hx : oi.apart ops oj = true := by have := hap i (List.mem_cons_self ..); simpa [apartAt, hoi, hoj] using this
    obtain ⟨h1, h2, h3⟩ := Oper.apart_spec hx
    refine ⟨oj, vj, hoj, ?_, oi, vi, hoi, ?_, ?_⟩
    · exact hdj.of_same (execOp_put oj (fun cs b => Region.noSelect_spec hs j oj cs b hoj) a oi.dst vi h1).symm (wanted_put oj a oi.dst vi h1).symm
    · exact hdi.of_same (execOp_put oi (fun cs b => Region.noSelect_spec hs i oi cs b hoi) a oj.dst vj h3) (wanted_put oi a oj.dst vj h3)
    · rw [← Act.put_comm a vi vj h2]; exact hr

/-- A slot that the plan's operations neither read nor write may be filled. -/
theorem PlanB.put (hs : Region.noSelect ops = true) {k : Nat} {ok : Oper} (hk : ops[k]? = some ok) {v : Value} {E2 : Act → Prop} (hE : ∀ a, E a → E2 (a.put ok.dst v)) :
    ∀ (l : List Nat) (a : Act), (∀ i ∈ l, apartAt ops k i = true) → PlanB P ops S E l a → PlanB P ops S E2 l (a.put ok.dst v)
  | [], a, _, h => hE a h
  | i :: l, a, hap, h => by
    obtain ⟨oi, vi, hoi, hdi, hrest⟩ := h
    have hx : ok.apart ops oi = true := by have := hap i (List.mem_cons_self ..); simpa [apartAt, hoi, hk] using this
    obtain ⟨h1, h2, _⟩ := Oper.apart_spec hx
    refine ⟨oi, vi, hoi, ?_, ?_⟩
    · exact hdi.of_same (execOp_put oi (fun cs b => Region.noSelect_spec hs i oi cs b hoi) a ok.dst v h1) (wanted_put oi a ok.dst v h1)
    · rw [Act.put_comm a v vi h2]
      exact PlanB.put hs hk hE l _ (fun k hk => hap k (List.mem_cons_of_mem _ hk)) hrest

/-- A new block's address. -/
abbrev ptr (g : Nat) : Value := .pointer (some ⟨g, 0, none⟩)
def dstOf (ops : Array Oper) (i : Nat) : Option Tmp := (ops[i]?).bind (·.dst)
/-- The slots of the new blocks filled. -/
def pa (ops : Array Oper) (c : Nat → Nat) : List Nat → Act → Act
  | [], a => a
  | i :: r, a => pa ops c r (a.put (dstOf ops i) (ptr (c i)))

theorem pa_append (c : Nat → Nat) : ∀ (l r : List Nat) (a : Act), pa ops c (l ++ r) a = pa ops c r (pa ops c l a)
  | [], _, _ => rfl
  | _ :: l, r, _ => pa_append c l r _
theorem pa_put (c : Nat → Nat) (d : Option Tmp) (v : Value) : ∀ (l : List Nat) (a : Act), (∀ i ∈ l, ∀ s, dstOf ops i = some s → d ≠ some s) → pa ops c l (a.put d v) = (pa ops c l a).put d v
  | [], _, _ => rfl
  | i :: l, a, h => by
    show pa ops c l ((a.put d v).put (dstOf ops i) (ptr (c i))) = _
    rw [← Act.put_comm a (ptr (c i)) v (h i (List.mem_cons_self ..))]
    exact pa_put c d v l _ fun k hk => h k (List.mem_cons_of_mem _ hk)

/-- What stands behind all: the tail, from whatever blocks. -/
def AtTail (S : World → Prop) (t : TypeId) (z : Array Value) (base : Nat) (ops : Array Oper) (K : Act → World → Prop) (D : List Nat) (c0 : Nat → Nat) (A : List Nat) (a : Act) : Prop :=
  ∀ c : Nat → Nat, (∀ i ∈ D, c i = c0 i) → ∀ w, S w → (∀ i ∈ D ++ A, Blk w (c i) t z ∧ base ≤ c i) → (∀ i ∈ D ++ A, ∀ k ∈ D ++ A, c i = c k → i = k) → K (pa ops c A a) w

/-- Each of the tail waits for the ones ahead of it. -/
def tailOk (ops : Array Oper) : List Nat → Bool
  | [] => true
  | t :: r => (t :: r).all (fun k => !waits ops t k) && r.all (fun k => waits ops k t && k != t) && tailOk ops r

def opsOf (ops : Array Oper) : List Nat → List Oper
  | [] => []
  | i :: r => match ops[i]? with | some o => o :: opsOf ops r | none => opsOf ops r

theorem ready_of {l F : List Nat} {listed : Array Bool} {j : Nat} {o : Oper} (he2 : edgesOk ops = true) (hl : Left ops l F listed) (ho : ops[j]? = some o) (hu : listed.getD j true = false)
    (hw : ∀ k, k ∈ l ∨ k ∈ F → waits ops j k = false) : j ∈ Region.ready .any ops listed := by
  refine mem_ready.2 ⟨hu, o, ho, fun e he hbd => ?_⟩
  by_cases hun : listed.getD e.on true = false
  · exfalso
    have h3 : waits ops j e.on = true := by
      unfold waits
      rw [ho]
      simp only [Option.map_some, Option.getD_some, Array.any_eq_true']
      exact ⟨e, he, by simp [hbd]⟩
    rw [hw _ (hl.all _ hun)] at h3; cases h3
  · have h1 : listed.getD e.on true = true := by simpa using hun
    rcases Nat.lt_or_ge e.on listed.size with h' | h'
    · simpa [h'] using h1
    · have := edgesOk_spec he2 ho he
      have := hl.sz
      omega

theorem Left.some {l F : List Nat} {listed : Array Bool} (hl : Left ops l F listed) {j : Nat} (hu : listed.getD j true = false) : ∃ o, ops[j]? = some o := by
  have : j < ops.size := by
    rcases Nat.lt_or_ge j listed.size with h' | h'
    · have := hl.sz; omega
    · simp [Array.getElem?_eq_none h'] at hu
  exact ⟨ops[j], by simp [this]⟩

/-- One of F has come up. -/
theorem Left.drop {l F1 F2 : List Nat} {j : Nat} {listed : Array Bool} (h : Left ops l (F1 ++ j :: F2) listed) (hj : j ∉ F1 ++ F2) : Left ops l (F1 ++ F2) (listed.setIfInBounds j true) := by
  have hmem : ∀ k, k ∈ F1 ++ F2 → k ∈ F1 ++ j :: F2 := fun k hk => by rcases List.mem_append.1 hk with hk | hk <;> simp [hk]
  refine ⟨h.ok, fun k hk => ?_, fun k hk => ?_, fun k hk => ?_, fun k hk hf => h.ap k hk (hmem k hf), fun i hi k hk => h.wf i hi k (hmem k hk), by simpa using h.sz⟩
  · have hjk : j ≠ k := fun e => by subst e; exact h.ap j hk (by simp)
    rw [getD_set_ne true hjk]; exact h.un k hk
  · have hjk : j ≠ k := fun e => by subst e; exact hj hk
    rw [getD_set_ne true hjk]; exact h.uf k (hmem k hk)
  · by_cases e : j = k
    · subst e
      have hu := h.uf j (by simp)
      exfalso
      rcases Nat.lt_or_ge j listed.size with h' | h'
      · simp [h'] at hk
      · simp [Array.getElem?_eq_none h'] at hu
    · rw [getD_set_ne true e] at hk
      rcases h.all k hk with hk | hk
      · exact .inl hk
      · right
        rcases List.mem_append.1 hk with hk | hk
        · simp [hk]
        · rcases List.mem_cons.1 hk with hk | hk
          · exact absurd hk.symm e
          · simp [hk]

/-- The tail alone. -/
theorem tail_any (he2 : edgesOk ops = true) : ∀ (T : List Nat) (listed : Array Bool) (a : Act) (w : World), tailOk ops T = true → Left ops [] T listed → wpList P ops Q (opsOf ops T) a w → wpAny P .any ops Q T.length listed a w
  | [], listed, a, w, _, hl, h => by
    refine ⟨?_, h⟩
    apply List.eq_nil_iff_forall_not_mem.2
    intro k hk
    rcases hl.all k (mem_ready.1 hk).1 with h | h <;> cases h
  | t :: r, listed, a, w, ht, hl, h => by
    simp only [tailOk, Bool.and_eq_true, List.all_eq_true, Bool.not_eq_true', bne_iff_ne, ne_eq] at ht
    obtain ⟨⟨h1, h2⟩, h3⟩ := ht
    have hut := hl.uf t (by simp)
    obtain ⟨o, ho⟩ := hl.some hut
    refine ⟨fun hr => ?_, fun j hj => ?_⟩
    · have := ready_of he2 hl ho hut fun k hk => by
        rcases hk with hk | hk
        · cases hk
        · exact h1 k hk
      rw [hr] at this
      cases this
    · have hjt : j = t := by
        rcases hl.all j (mem_ready.1 hj).1 with hm | hm
        · cases hm
        · rcases List.mem_cons.1 hm with e | hm
          · exact e
          · exfalso
            have := (h2 j hm).1
            rw [not_waits hj hut] at this
            cases this
      subst hjt
      have hl' := hl.drop (F1 := []) (by simpa using fun hm => (h2 j hm).2 rfl)
      have ih := fun a' w' => tail_any he2 r (listed.setIfInBounds j true) a' w' h3 hl'
      simp only [opsOf, ho] at h
      unfold wpList at h
      unfold wpOp
      simp only [ho]
      split at h
      · rename_i hw
        rw [if_pos hw]
        rcases h with h | h
        · exact .inl (Oper.wp_mono (fun a' w' hq => ih a' w' hq) h)
        · exact .inr h
      · rename_i hw
        rw [if_neg hw]
        exact ih _ _ h

theorem chain_of_all {f : Nat} : ∀ (l : List Nat), (∀ k ∈ l, waits ops f k = true) → chain ops f l = true
  | [], _ => rfl
  | i :: r, h => by
    simp only [chain, Bool.and_eq_true, Bool.or_eq_true]
    exact ⟨.inr (h i (by simp)), chain_of_all r fun k hk => h k (by simp [hk])⟩

/-- The whole. -/
theorem allocs_any (hs : Region.noSelect ops = true) (he2 : edgesOk ops = true) {T : List Nat} {t : TypeId} {z : Array Value} {base : Nat} (hT : tailOk ops T = true)
    (hSB : ∀ w w', S w → Below w.heap.size w w' → S w') (hbase : ∀ w, S w → base ≤ w.heap.size) :
    ∀ (fuel : Nat) (l A D : List Nat) (c0 : Nat → Nat) (listed : Array Bool) (a : Act) (w : World), fuel = l.length + A.length + T.length → Left ops l (A ++ T) listed →
    (∀ i ∈ A, ∃ o, ops[i]? = some o ∧ o.guard = none ∧ ∀ (a : Act) (w : World), (execOp a.eval o).run P w = .ok (.value (ptr w.heap.size)) (w.alloc (.cells z t))) →
    (∀ i ∈ A, ∀ k, k ∈ l ∨ k ∈ A ++ T → waits ops i k = false) → (∀ i ∈ A, ∀ k ∈ l, apartAt ops i k = true) → (∀ i ∈ A, ∀ k ∈ A, i ≠ k → apartAt ops i k = true) → (∀ i ∈ A, i ∉ T ∧ i ∉ D) → A.Nodup →
    (∀ i ∈ T, chain ops i l = true ∧ ∀ k ∈ A, waits ops i k = true) →
    PlanB P ops S (AtTail S t z base ops (wpList P ops Q (opsOf ops T)) D c0 A) l a → S w → (∀ i ∈ D, Blk w (c0 i) t z ∧ base ≤ c0 i) → (∀ i ∈ D, ∀ k ∈ D, c0 i = c0 k → i = k) → wpAny P .any ops Q fuel listed a w := by
  intro fuel
  induction fuel with
  | zero =>
    intro l A D c0 listed a w hf hl _ _ _ _ _ _ _ hp hS hD hDi
    have h1 : l = [] := List.eq_nil_of_length_eq_zero (by omega)
    have h2 : A = [] := List.eq_nil_of_length_eq_zero (by omega)
    have h3 : T = [] := List.eq_nil_of_length_eq_zero (by omega)
    subst h1 h2 h3
    exact tail_any he2 [] listed a w hT hl (hp c0 (fun _ _ => rfl) w hS (by simpa using hD) (by simpa using hDi))
  | succ fuel ih =>
    intro l A D c0 listed a w hf hl hal hAw hAl hAA hAT hAn hTw hp hS hD hDi
    by_cases hle : l = [] ∧ A = []
    · obtain ⟨h1, h2⟩ := hle
      subst h1 h2
      have := tail_any (P := P) (Q := Q) he2 T listed a w hT hl (hp c0 (fun _ _ => rfl) w hS (by simpa using hD) (by simpa using hDi))
      rwa [show T.length = fuel + 1 by simp at hf; omega] at this
    · have hTno : ∀ j ∈ T, j ∉ Region.ready .any ops listed := fun j hj hr => by
        cases l with
        | cons i r =>
          obtain ⟨k, hk, hw⟩ := chain.some (i :: r) (hTw j hj).1 (by simp)
          rw [not_waits hr (hl.un k hk)] at hw
          cases hw
        | nil =>
          cases A with
          | nil => exact hle ⟨rfl, rfl⟩
          | cons i r =>
            have := (hTw j hj).2 i (by simp)
            rw [not_waits hr (hl.uf i (by simp))] at this
            cases this
      refine ⟨fun hr => ?_, fun j hj => ?_⟩
      · exfalso
        cases A with
        | cons i r =>
          have hu := hl.uf i (by simp)
          obtain ⟨o, ho⟩ := hl.some hu
          have := ready_of he2 hl ho hu (hAw i (by simp))
          rw [hr] at this
          cases this
        | nil =>
          cases l with
          | nil => exact hle ⟨rfl, rfl⟩
          | cons i r =>
            have hu := hl.un i (by simp)
            obtain ⟨o, ho⟩ := hl.some hu
            have hok := hl.ok
            simp only [okPlan, Bool.and_eq_true, List.all_eq_true, Bool.not_eq_true'] at hok
            have := ready_of he2 hl ho hu fun k hk => by
              rcases hk with hk | hk
              · rcases List.mem_cons.1 hk with e | hk
                · subst e; exact hok.1.1
                · have := hok.1.2 k hk
                  simp only [ahead, Bool.and_eq_true, Bool.not_eq_true'] at this
                  exact this.1.1
              · exact hl.wf i (by simp) k hk
            rw [hr] at this
            cases this
      · rcases hl.all j (mem_ready.1 hj).1 with hm | hm
        · obtain ⟨l1, r, rfl⟩ := List.append_of_mem hm
          have hw : ∀ i ∈ l1, waits ops j i = false := fun i hi => not_waits hj (hl.un i (by simp [hi]))
          have hap : ∀ i ∈ l1, apartAt ops i j = true := fun i hi => by
            have := (okPlan.tail hl.ok).2.1 i hi
            simp only [ahead, Bool.and_eq_true, Bool.or_eq_true, hw i hi] at this
            simpa using this.2
          have hsub : ∀ k, k ∈ l1 ++ r → k ∈ l1 ++ j :: r := fun k hk => by rcases List.mem_append.1 hk with hk | hk <;> simp [hk]
          obtain ⟨o, v, ho, hd, hrest⟩ := hp.front hs l1 j r a hap
          refine hd.wpOp ho hS fun w' hS' hb => ?_
          refine ih (l1 ++ r) A D c0 _ _ w' (by simp at hf ⊢; omega) hl.next hal (fun i hi k hk => hAw i hi k (by rcases hk with hk | hk; exact .inl (hsub k hk); exact .inr hk)) (fun i hi k hk => hAl i hi k (hsub k hk)) hAA hAT hAn
            (fun i hi => ⟨chain.next l1 j r (hTw i hi).1 hw, (hTw i hi).2⟩) hrest hS' (fun i hi => ⟨(hD i hi).1.below hb (hD i hi).1.lt, (hD i hi).2⟩) hDi
        · rcases List.mem_append.1 hm with hm | hm
          · obtain ⟨o, ho, hg, hrun⟩ := hal j hm
            obtain ⟨hjT, hjD⟩ := hAT j hm
            have hjm := hm
            obtain ⟨A1, A2, rfl⟩ := List.append_of_mem hm
            have hnd := hAn
            rw [List.nodup_append] at hnd
            have hj12 : j ∉ A1 ++ A2 := by
              intro h
              rcases List.mem_append.1 h with h | h
              · exact hnd.2.2 j h j (by simp) rfl
              · exact (List.nodup_cons.1 hnd.2.1).1 h
            have hsub : ∀ k, k ∈ A1 ++ A2 → k ∈ A1 ++ j :: A2 := fun k hk => by rcases List.mem_append.1 hk with hk | hk <;> simp [hk]
            have hl' : Left ops l (A1 ++ A2 ++ T) (listed.setIfInBounds j true) := by
              have h5 : Left ops l (A1 ++ j :: (A2 ++ T)) listed := by simpa using hl
              have := h5.drop (by
                intro h
                rcases List.mem_append.1 h with h | h
                · exact hj12 (by simp [h])
                · rcases List.mem_append.1 h with h | h
                  · exact hj12 (by simp [h])
                  · exact hjT h)
              simpa using this
            have hbl : Below w.heap.size w (w.alloc (.cells z t)) := (Below.refl _ _).alloc (Nat.le_refl _) _
            unfold wpOp
            simp only [ho]
            rw [if_pos (by simp [Region.wanted, hg])]
            refine .inl ?_
            unfold Oper.wp
            rw [hrun]
            simp only [Oper.upon]
            refine ih l (A1 ++ A2) (j :: D) (fun k => if k = j then w.heap.size else c0 k) _ _ _ (by simp at hf ⊢; omega) hl' (fun i hi => hal i (hsub i hi))
              (fun i hi k hk => hAw i (hsub i hi) k (by
                rcases hk with hk | hk
                · exact .inl hk
                · right
                  rcases List.mem_append.1 hk with hk | hk
                  · exact List.mem_append_left _ (hsub k hk)
                  · exact List.mem_append_right _ hk))
              (fun i hi k hk => hAl i (hsub i hi) k hk) (fun i hi k hk => hAA i (hsub i hi) k (hsub k hk)) ?_ ?_ (fun i hi => ⟨(hTw i hi).1, fun k hk => (hTw i hi).2 k (hsub k hk)⟩) ?_ (hSB _ _ hS hbl) ?_ ?_
            · intro i hi
              refine ⟨(hAT i (hsub i hi)).1, ?_⟩
              intro h
              rcases List.mem_cons.1 h with e | h
              · subst e; exact hj12 hi
              · exact (hAT i (hsub i hi)).2 h
            · rw [List.nodup_append]
              refine ⟨hnd.1, (List.nodup_cons.1 hnd.2.1).2, fun x hx y hy => hnd.2.2 x hx y (by simp [hy])⟩
            · refine PlanB.put hs ho ?_ l a (fun i hi => hAl j hjm i hi) hp
              intro a' hE c hc w' hS' hB hI
              have hcj : c j = w.heap.size := by have := hc j (by simp); simpa using this
              have hmem : ∀ k, k ∈ D ++ (A1 ++ j :: A2) → k ∈ (j :: D) ++ (A1 ++ A2) := fun k hk => by
                simp only [List.mem_append, List.mem_cons] at hk ⊢
                rcases hk with h | h | h | h <;> simp [h]
              have h := hE c (fun i hi => by have := hc i (by simp [hi]); rw [this]; exact if_neg (fun e : i = j => hjD (e ▸ hi))) w' hS' (fun i hi => hB i (hmem i hi)) (fun i hi k hk => hI i (hmem i hi) k (hmem k hk))
              have hd : dstOf ops j = o.dst := by simp [dstOf, ho]
              rw [pa_append] at h ⊢
              rw [pa_put]
              · rw [← hcj, ← hd]; exact h
              · intro i hi s hs'
                have hij : i ≠ j := fun e => by subst e; exact hj12 (by simp [hi])
                have hax := hAA i (by simp [hi]) j hjm hij
                obtain ⟨oi, hoi⟩ := hl.some (hl.uf i (by simp [hi]))
                have hx : oi.apart ops o = true := by simpa [apartAt, hoi, ho] using hax
                obtain ⟨_, h2, _⟩ := Oper.apart_spec hx
                have hdi : oi.dst = some s := by simpa [dstOf, hoi] using hs'
                exact h2 s hdi
            · intro i hi
              rcases List.mem_cons.1 hi with e | hi
              · subst e
                simp only [if_true]
                exact ⟨Blk.new _ _ _, hbase _ hS⟩
              · have hne : i ≠ j := fun e => hjD (e ▸ hi)
                simp only [hne, if_false]
                exact ⟨(hD i hi).1.alloc _, (hD i hi).2⟩
            · intro i hi k hk h
              rcases List.mem_cons.1 hi with e1 | hi <;> rcases List.mem_cons.1 hk with e2 | hk
              · rw [e1, e2]
              · have hne : k ≠ j := fun e => hjD (e ▸ hk)
                have := (hD k hk).1.lt
                simp only [e1, hne, if_true, if_false] at h
                omega
              · have hne : i ≠ j := fun e => hjD (e ▸ hi)
                have := (hD i hi).1.lt
                simp only [e2, hne, if_true, if_false] at h
                omega
              · have hne : i ≠ j := fun e => hjD (e ▸ hi)
                have hne2 : k ≠ j := fun e => hjD (e ▸ hk)
                simp only [hne, hne2, if_false] at h
                exact hDi i hi k hk h
          · exact absurd hj (hTno j hm)

/-- What is asked of the lists. -/
def allocOk (ops : Array Oper) (l A T : List Nat) : Bool :=
  A.all (fun i => (l ++ (A ++ T)).all (fun k => !waits ops i k) && l.all (fun k => apartAt ops i k) && A.all (fun k => i == k || apartAt ops i k) && !T.contains i) &&
  T.all (fun i => chain ops i l && A.all fun k => waits ops i k) && decide A.Nodup

theorem region_allocs {id : Nat} {l A T : List Nat} {t : TypeId} {z : Array Value} {base : Nat} {a : Act} {w : World} (hm : P.follows .mixedOrders = true) (hs : Region.noSelect ops = true) (he2 : edgesOk ops = true)
    (hT : tailOk ops T = true) (hok : okPlan ops l = true) (hall : (List.range ops.size).all (fun k => l.contains k || (A ++ T).contains k) = true) (hlt : (l ++ (A ++ T)).all (fun k => decide (k < ops.size)) = true)
    (hap : l.all (fun k => !(A ++ T).contains k && (A ++ T).all fun j => !waits ops k j) = true) (hlen : (l.length + A.length + T.length == ops.size) = true) (hc : allocOk ops l A T = true)
    (hal : ∀ i ∈ A, ∃ o, ops[i]? = some o ∧ o.guard = none ∧ ∀ (a : Act) (w : World), (execOp a.eval o).run P w = .ok (.value (ptr w.heap.size)) (w.alloc (.cells z t)))
    (hSB : ∀ w w', S w → Below w.heap.size w w' → S w') (hbase : ∀ w, S w → base ≤ w.heap.size) (hS : S w.drew)
    (hp : PlanB P ops S (AtTail S t z base ops (wpList P ops Q (opsOf ops T)) [] (fun _ => 0) A) l a) : (Code.region id ops true).wp P Q a w := by
  refine wp_region_any hm ?_
  simp only [allocOk, Bool.and_eq_true, List.all_eq_true, Bool.not_eq_true', Bool.or_eq_true, beq_iff_eq, decide_eq_true_eq] at hc
  obtain ⟨⟨h1, h2⟩, h3⟩ := hc
  have hl := left_of_replicate hok hall hlt hap
  refine allocs_any hs he2 hT hSB hbase ops.size l A [] (fun _ => 0) _ a _ (by simpa using (beq_iff_eq.1 hlen).symm) hl hal ?_ ?_ ?_ ?_ h3 (fun i hi => ⟨(h2 i hi).1, fun k hk => (h2 i hi).2 k hk⟩) hp hS (fun i hi => by cases hi) (fun i hi => by cases hi)
  · intro i hi k hk
    exact (h1 i hi).1.1.1 k (by rcases hk with hk | hk; exact List.mem_append_left _ hk; exact List.mem_append_right _ hk)
  · exact fun i hi k hk => (h1 i hi).1.1.2 k hk
  · intro i hi k hk hne
    rcases (h1 i hi).1.2 k hk with e | e
    · exact absurd e hne
    · exact e
  · intro i hi
    have := (h1 i hi).2
    exact ⟨by simpa using this, by simp⟩

theorem planB_read {i : Nat} {r : List Nat} {a : Act} {o : Oper} {v : Value} (ho : ops[i]? = some o) (hw : Region.wanted o (yielded ops a.tmps) = true)
    (h : ∀ w, S w → (execOp a.eval o).run P w = .ok (.value v) w) (hr : PlanB P ops S E r (a.put o.dst v)) : PlanB P ops S E (i :: r) a :=
  ⟨o, v, ho, .inl ⟨hw, fun w hS => by rw [h w hS]; exact ⟨rfl, hS, Below.refl _ _⟩⟩, hr⟩
theorem planB_call {i : Nat} {r : List Nat} {a : Act} {o : Oper} {v : Value} {f : FuncId} {args : Array Value} (ho : ops[i]? = some o) (hw : Region.wanted o (yielded ops a.tmps) = true)
    (h : ∀ w, S w → (execOp a.eval o).run P w = .ok (.enter f args) w) (hc : ∀ w, S w → Calls P f args w fun e w' => e = .returned v ∧ S w' ∧ Below w.heap.size w w')
    (hr : PlanB P ops S E r (a.put o.dst v)) : PlanB P ops S E (i :: r) a :=
  ⟨o, v, ho, .inl ⟨hw, fun w hS => by rw [h w hS]; exact hc w hS⟩, hr⟩
theorem planB_tail {t : TypeId} {z : Array Value} {base : Nat} {K : Act → World → Prop} {A : List Nat} {a : Act}
    (h : ∀ (c : Nat → Nat) (w : World), S w → (∀ i ∈ A, Blk w (c i) t z ∧ base ≤ c i) → (∀ i ∈ A, ∀ k ∈ A, c i = c k → i = k) → K (pa ops c A a) w) :
    PlanB P ops S (AtTail S t z base ops K [] (fun _ => 0) A) [] a :=
  fun c _ w hS hB hI => h c w hS (by simpa using hB) (by simpa using hI)

end
end Go.Proofs.Ytfoojpfgeicolaa
